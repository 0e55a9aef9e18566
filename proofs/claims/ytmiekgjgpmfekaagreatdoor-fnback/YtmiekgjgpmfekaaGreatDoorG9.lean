import Derived.Test.YtmiekgjgpmfekaaGreatDoorG6
import Derived.Test.YtmiekgjgpmfekaaGreatDoorR3
set_option linter.all false
set_option maxRecDepth 1000000
set_option maxHeartbeats 40000000
open Go.Proofs.YtmiekgjgpmfekaaGreatDoor renaming vI → J
open Go.Value renaming bool → Y
open Go.Proofs.Tryz
namespace Go.Proofs.YtmiekgjgpmfekaaGreatDoor
open Go.RowKit
attribute [local go_sem] aj
variable{f p mx one inf sg nan mn fb sp x0 x2:Int}{w:World}{K N r F L o:Nat}{v u0 u1 u2 u3:Value}{args:Array Value}{x3:Bool}
theorem fO(c s x g:Int)(b:Bool)(hb:b=decide (3<=c))(w:World):
  QR 95 #[eH c s x g] w (Y b):=by
 have hB:Hid (b=decide (3<=c)):=hb;clear hb;go_enter func95,ntmps95;go_wp2;go_returns;exact⟨bJ (congrArg Value.bool (by rw[hB.out])),kr⟩
theorem VN(h:aP f p mx one inf sg nan)(w:World):
  QR 96 #[J f,Y true] w (aK nan 1):=by
 have HB:nH f nan 1:=fun w=>dI h w;clear h;go_enter func96,ntmps96;go_wp2_with (go_at_call 83;refine(HB _).mono ?_;rintro x w1 ⟨rfl,hg1⟩;obtain⟨fP,Ku,xJ,Kt⟩:iE w1 w.heap.size 0 1 (.int .u64 0) (J 0):=⟨kq,kq,kq,kq⟩);exact bI (by simp[results,Tryz.results96,go_sem,fP,xJ])
theorem Zc(h:aP f p mx one inf sg nan)(w:World):
  QR 96 #[J f,Y false] w (aK nan 0):=by
 have HB:KW 119 #[J f] (.int .u64 nan):=fun w=>qY h w;clear h;go_enter func96,ntmps96;go_wp2_with (go_at_call 119;refine kw (HB _) ?_);go_returns;exact⟨rfl,kr⟩
theorem lJ(h:aP f p mx one inf sg nan)(b:Bool)(fl:Int)(hb:fl=if b then 1 else 0)(w:World):
  QR 96 #[J f,Y b] w (aK nan fl):=by
 cases b
 ·subst hb;exact Zc h w
 ·subst hb;exact VN h w
theorem iy(h:aP f p mx one inf sg nan)(sign:Int)(hs:sign=0\/sign=1)(w:World):
  QR 84 #[J f,J sign] w (aK (sw sign sg 0) 0):=by
 have hb:=h.bounds;have nN:tX f sign 0 (sw sign sg 0):=fun w'=>nP h sign 0 _ (by
  unfold sw;rcases hs with rfl|rfl
  ·exact .inl ⟨rfl,by simp⟩
  ·exact .inr ⟨rfl,by simp⟩) om om w'
 clear h hb;generalize sw sign sg 0=Z at*
 go_enter func84,ntmps84;go_wp2_with (go_at_call 106;refine kw (nN _) ?_);go_returns;exact⟨rfl,kr⟩
theorem eX(h:aP f p mx one inf sg nan)(sign:Int)(hs:sign=0\/sign=1)(w:World):
  QR 97 #[J f,J sign] w (aK (sw sign sg inf) 0):=by
 have hb:=h.bounds;have nN:tX f sign inf (sw sign sg inf):=fun w'=>nP h sign inf _ (by
  unfold sw;rcases hs with rfl|rfl
  ·exact .inl ⟨rfl,by simp⟩
  ·exact .inr ⟨rfl,by simp⟩) om om w'
 have HI:KW 107 #[J f] (.int .u64 inf):=fun w=>jh h w;clear h hb;generalize sw sign sg inf=Z at*
 go_enter func97,ntmps97;go_wp2_with (first
  |(go_at_call 107;refine kw (HI _) ?_)
  |(go_at_call 106;refine kw (nN _) ?_))
 go_returns;exact⟨rfl,kr⟩
theorem KI{P:Prop}(h:P:=by
 go_enter func94,ntmps94;go_wp2_with (first
   |(go_at_call 82;refine kw (HW _) ?_)
   |(go_at_call 117;first|(with_reducible refine kw (HF.out _ _ om om) ?_)|(with_reducible refine kw (HA.out _) ?_)|(with_reducible refine kw (HB.out _) ?_)|(with_reducible refine kw (HA'.out _) ?_)|(with_reducible refine kw (HA.out _) ?_)))
 go_returns;exact⟨rfl,rfl⟩):P:=h
theorem iU(h:aP f p mx one inf sg nan)(mode a b:Int)(m0:0<=mode)(m1:mode<=4)(a0:0<=a)(a1:a<2*sg)(b0:0<=b)(b1:b<2*sg)(w:World):
  QW 94 #[J f,J mode,.int .u64 a,.int .u64 b] w (Y true):=by
 have HW:KW 82 #[J mode] (Y true):=fun w=>jK mode true (decide_eq_true ⟨m0,m1⟩).symm w;have HF:Hid (∀v w,0<=v->v<2*sg->QW 117 #[J f,.int .u64 v] w (Y true)):=fun v w v0 v1=>iW h v v0 v1 w;clear h;exact KI
def aAD(f mode a b:Int):Prop:=(mode<0\/4<mode)\/¬(f=0\/f=1)\/f=0/\4294967296<=a\/f=0/\4294967296<=b
theorem eu(f mode a b:Int)(a0:0<=a)(a1:a<18446744073709551616)(b0:0<=b)(b1:b<18446744073709551616)(h:aAD f mode a b)(w:World):
  QW 94 #[J f,J mode,.int .u64 a,.int .u64 b] w (Y false):=by
 have WI:∀v,0<=v->v<18446744073709551616->KW 117 #[J f,.int .u64 v] (Y true)\/KW 117 #[J f,.int .u64 v] (Y false)/\(¬(f=0\/f=1)\/(f=0/\4294967296<=v)):=by
  intro v v0 v1;rcases aFq f v v0 v1 with⟨p,mx,one,inf,sg,nan,hF,hv⟩|hn
  ·exact .inl (fun w=>iW hF v v0 hv w)
  ·exact .inr ⟨fun w=>rD f v v0 hn w,hn⟩
 have hFf:∀v,0<=v->(¬(f=0\/f=1)\/(f=0/\4294967296<=v))->KW 117 #[J f,.int .u64 v] (Y false):=fun v v0 hn w=>rD f v v0 hn w;by_cases hm:0<=mode/\mode<=4
 ·have HW:KW 82 #[J mode] (Y true):=fun w=>jK mode true (decide_eq_true hm).symm w;rcases WI a a0 a1 with HA|⟨HA,_⟩
  ·have hnb:¬(f=0\/f=1)\/(f=0/\4294967296<=b)\/(f=0/\4294967296<=a):=by
    rcases h with h|h|h|h
    ·omega
    ·exact .inl h
    ·exact .inr (.inr h)
    ·exact .inr (.inl h)
   by_cases hb:¬(f=0\/f=1)\/(f=0/\4294967296<=b)
   ·have HB:=hFf b b0 hb;clear WI hFf h hnb hb;exact KI
   ·have HA':=hFf a a0 om;clear WI hFf h hnb hb HA;exact KI
  ·clear WI hFf h;exact KI
 ·have HW:KW 82 #[J mode] (Y false):=fun w=>jK mode false (decide_eq_false hm).symm w;clear WI hFf h;exact KI
theorem dV(h:Calls Tryz.prog F args w fun e w'=>∃v' k,e=.returned v'/\Big w' v' k N/\k<=K/\Gb w w'):
  Calls Tryz.prog F args w (qh K N w):=h.mono (fun x w' ⟨v',k,a1,a2,a3,a4⟩=>by
 obtain⟨b,c,rfl,_⟩:=Big.shape a2;exact⟨b,k,c,⟨k,a3,a2⟩,a1,a4⟩)
theorem aC.le(h:aC K w v N)(k:K<=L):aC L w v N:=by
 obtain⟨n,a,b⟩:=h;exact⟨n,om,b⟩
theorem aC.st(h:aC K w v N)(u:Value)(h0:aj w r o u0)(hu:∀d,u0≠ .int .u32 d):aC K (w.setCell ⟨r,o,none⟩ u) v N:=by
 obtain⟨n,hn,hnm,hN,b,cap,rfl,hcap,hmx,hcell⟩:=h;refine⟨n,hn,hnm,hN,b,cap,rfl,hcap,hmx,fun j hj=>?_⟩;have:=hcell j hj;by_cases e:r=b/\o=j
 ·obtain⟨rfl,rfl⟩:=e;rw[h0]at this;exact absurd (Option.some.inj this) (hu _)
 ·rw[World.cell?_setCell_other]
  ·exact this
  ·intro e';injection e' with e1 e2 e3;exact e ⟨om,om⟩
theorem aC.Uw(h:aC K w v N)(h0:aj w r 0 (J x0))(h1:aj w r 1 (.slice none 0 0))(h2:aj w r 2 (J x2))(h3:aj w r 3 (Y x3)):
  aC K ((((w.setCell ⟨r,0,none⟩ u0).setCell ⟨r,1,none⟩ u1).setCell ⟨r,2,none⟩ u2).setCell ⟨r,3,none⟩ u3) v N:=
 (((h.st u0 h0 (fun d e=>by cases e)).st u1 (aQ om h1) (fun d e=>by cases e)).st u2 (aQ om (aQ om h2)) (fun d e=>by cases e)).st u3 (aQ om (aQ om (aQ om h3))) (fun d e=>by cases e)
theorem kM(c s x:Int)(G:Nat)(hG:G<18446744073709551616)(w:World):
  CT 123 #[eH c s x ((G:Nat))] w fun e w'=>∃b k cc,aC 2 w' (aB b k cc) G/\e=.returned (.agg #[J s,aB b k cc,J x,Y false])/\Gb w w':=by
 have HB:Hid (∀w,CT 100 #[.int .u64 (G:Nat)] w (qh 2 G w)):=fun w=>dV (fC G hG w);generalize((G:Nat):Int)=g at*
 go_enter func123,ntmps123;go_wp2;go_region_held3 (fun w'=>aj w' w.heap.size 0 (J c)/\aj w' w.heap.size 1 (J s)/\aj w' w.heap.size 2 (J x)/\aj w' w.heap.size 3 (.int .u64 g))
  (exact kZ)
  (first|(go_at_call 100;refine(HB _).mono ?_;rintro e w1 ⟨b,k,cc,hbig,rfl,ak⟩;have fP:=ak.Y41 w))
 all_goals go_wp2
 all_goals
  refine bodyPost_ret (v:=.agg #[J s,aB b k cc,J x,Y false]) (by simp[results,Tryz.results123,go_sem,fP]) rfl ⟨b,k,cc,?_,rfl,?_⟩
  ·exact hbig.Uw fP.1 fP.2.2.1 fP.2.2.2.2.1 fP.2.2.2.2.2.2.1
  ·exact Gb.g
theorem aDx{P:Prop}(h:P:=by
 have HF:Hid (∀w',Gr w w'->QR 153 #[J f] w' (.tuple #[iQ p mn mx,Y true])):=fun w' hg=>JD h hm (hw.gr hg);clear h hm hw;go_enter func86,ntmps86;go_wp2_with (first
  |(go_at_call 153;refine ku (HF _ Gr.g) fun w1 ak=>?_;have:=ak.Y50 w)
  |(go_at_call 154;refine ku (HR _) fun w2 aA=>?_;have jk:=aA.Y50 w;have:=aA.C30 w1))
 exact bI (by simp[results,Tryz.results86,go_sem,jk])):P:=h
theorem m64:rZ 53 (-1022) 1023 52 63 4503599627370496 9218868437227405312 9223372036854775808 9221120237041090560:=.inr ⟨rfl,rfl,rfl,rfl,rfl,rfl,rfl,rfl,rfl⟩
theorem fU(f mode:Int)(hf:¬(f=0\/f=1))(hw:Fm w):
  QR 86 #[J f,J mode] w (.tuple #[.agg #[J 53,J (-1022),J 1023,J 0,Value.nilFunc],Y false]):=by
 have HF:KR 153 #[J f] (.tuple #[iQ 0 0 0,Y false]):=fun w'=>NM f hf w';have HW:Hid (∀w',Gr w w'->Fm w'):=fun w' hg=>hw.gr hg;clear hf hw;go_enter func86,ntmps86;go_wp2_with (go_at_call 153;refine ku (HF _) fun w1 ak=>?_;obtain⟨a0,a1,a2,a3,a4,a5⟩:=HW w1 Gr.g;have A3:=nS a3;have A4:=nS a4;have A5:=nS a5;obtain⟨fP,Ws,xJ,Wq,WV,aAp,ar3,aAo,ar4,aAn⟩:=ak.y5 w.heap.size 0 1 2 3 4 (J 0) (J 0) (J 0) (J 0) (Value.nilFunc);have aAv:=nS fP;have aHn:=Hq Ws;have aAu:=nS xJ;have aHm:=Hq Wq;have aAt:=nS WV;have aHl:=Hq aAp;have aAs:=nS ar3;have aHk:=Hq aAo;have aAr:=nS ar4;have aHj:=Hq aAn);exact bI (by simp[results,Tryz.results86,go_sem,aAv,aAu,aAt,aAs,aAr])
theorem eP(h:aP f p mx one inf sg nan)(hm:rZ p mn mx fb sp one inf sg nan)(mode:Int)(k:Nat)(HR:KR 154 #[J mode] (.tuple #[.func (.func k) #[] #[],Y true]))(hw:Fm w):
  mZ f mode w p mn mx k true:=by
 exact aDx
theorem gK(h:aP f p mx one inf sg nan)(hm:rZ p mn mx fb sp one inf sg nan)(mode:Int)(HR:KR 154 #[J mode] (.tuple #[Value.nilFunc,Y false]))(hw:Fm w):
  QR 86 #[J f,J mode] w (.tuple #[.agg #[J p,J mn,J mx,J mode,Value.nilFunc],Y false]):=by
 exact aDx
theorem Ym(p mn mx one inf mode sign:Int)(M:Nat)(e:Int)(rest:Bool):∃z fl,aO p mn mx one inf mode sign M e rest z fl:=by
 obtain⟨top,htop⟩:∃top:Int,top=nb M+e-1:=⟨_,rfl⟩;obtain⟨E,hE⟩:∃E:Int,top<mn/\E=mn\/mn<=top/\E=top:=by
  by_cases c:top<mn
  ·exact⟨mn,.inl ⟨c,rfl⟩⟩
  ·exact⟨top,.inr ⟨om,rfl⟩⟩
 obtain⟨hf,WR⟩:∃hf,hf=aJ M e (E-p+1) rest:=⟨_,rfl⟩;obtain⟨r,hr⟩:∃r,r=chosen mode sign (aW M e (E-p+1)) hf:=⟨_,rfl⟩;obtain⟨r2,hr2⟩:∃r2,r2=chosen mode sign (aW M e (top-p+1)) (aJ M e (top-p+1) rest):=⟨_,rfl⟩;by_cases c1:mx<top
 ·exact⟨_,_,top,E,r,r2,hf,htop,hE,WR,hr,hr2,.inl ⟨c1,rfl,rfl⟩⟩
 ·by_cases c2:inf<=r+one*(E-mn)
  ·exact⟨_,_,top,E,r,r2,hf,htop,hE,WR,hr,hr2,.inr (.inl ⟨om,c2,rfl,rfl⟩)⟩
  ·rcases Nat.eq_zero_or_pos hf with c3|c3
   ·exact⟨_,_,top,E,r,r2,hf,htop,hE,WR,hr,hr2,.inr (.inr ⟨om,om,rfl,.inl ⟨c3,rfl⟩⟩)⟩
   ·by_cases c4:top<mn-1\/top=mn-1/\(r2:Int)<2*one
    ·exact⟨_,_,top,E,r,r2,hf,htop,hE,WR,hr,hr2,.inr (.inr ⟨om,om,rfl,.inr (.inl ⟨c3,c4,rfl⟩)⟩)⟩
    ·exact⟨_,_,top,E,r,r2,hf,htop,hE,WR,hr,hr2,.inr (.inr ⟨om,om,rfl,.inr (.inr ⟨c3,om,rfl⟩)⟩)⟩
theorem kH(mode:Int)(m0:0<=mode)(m1:mode<=4):∃k,qC mode k:=by
 unfold qC;rcases(show mode=0\/mode=1\/mode=2\/mode=3\/mode=4 by omega)with rfl|rfl|rfl|rfl|rfl
 ·exact⟨_,.inl ⟨rfl,rfl⟩⟩
 ·exact⟨_,.inr (.inl ⟨rfl,rfl⟩)⟩
 ·exact⟨_,.inr (.inr (.inl ⟨rfl,rfl⟩))⟩
 ·exact⟨_,.inr (.inr (.inr (.inl ⟨rfl,rfl⟩)))⟩
 ·exact⟨_,.inr (.inr (.inr (.inr ⟨rfl,rfl⟩)))⟩
theorem Ls(sign sg z:Int):sv sign sg z=sw sign sg z:=by unfold sv sw;split<;>omega
theorem Xz{P:Prop}(h:P:=by
 go_enter func164,ntmps164;go_wp2;all_goals go_returns
 all_goals exact⟨bJ (congrArg Value.bool (by rw[hB.out,Bool.eq_iff_iff];simp<;>omega)),kr⟩):P:=h
theorem tJ(c s x g c' s' x' g':Int)(b:Bool)(hb:b=decide (c=2/\c'=0\/c=0/\c'=2))(w:World):
  QR 164 #[eH c s x g,eH c' s' x' g'] w (Y b):=by
 have hB:Hid (b=decide (c=2/\c'=0\/c=0/\c'=2)):=hb;clear hb;rcases(show c=2\/c=0\/(c≠2/\c≠0) by omega)with rfl|rfl|⟨h1,h2⟩
 ·exact Xz
 ·exact Xz
 ·have e1:(c==2)=false:=by simp;omega
  have e2:(c==0)=false:=by simp;omega
  exact Xz
