import Derived.Test.YtmiekgjgpmfekaaGreatDoorG3
set_option linter.all false
set_option maxRecDepth 1000000
set_option maxHeartbeats 40000000
open Go.Proofs.YtmiekgjgpmfekaaGreatDoor renaming vI → J, vU → Z
open Go.Proofs.Tryz
namespace Go.Proofs.YtmiekgjgpmfekaaGreatDoor
open Go.RowKit
attribute [local go_sem] aj bK
variable{p mn mx fb sp one inf sg nan:Int}
theorem y8(h:rZ p mn mx fb sp one inf sg nan)(md:Int)(k:Nat)(sign e:Int)(sticky:Bool)(e0:-200000<=e)(e1:e<=200000)(z0:Int)(WB:RN p mn mx sign z0)(w:World):
  QR 185 #[dP p mn mx md k,J sign,J e,aG 0 0,.bool sticky] w (aK z0 0):=by
 have HF:J3 p mn mx fb:=fun w=>qw h w;have aFK:CZ p mn mx 0 inf:=fun w=>jM h 0 inf (.inl ⟨rfl,rfl⟩) w;have hq:=nK 0 0 0 0;simp only[BEq.rfl,Bool.and_true,Bool.true_and]at hq;clear h;go_enter func185,ntmps185;go_wp2_with (first
   |(go_at_call 177;refine(WB _).mono ?_;rintro x w6 ⟨rfl,b_⟩;obtain⟨gc0,gc1,gc2,gm3,gm4⟩:DC w6 w.heap.size 0 1 2 3 4 (J p) (J mn) (J mx) (J md) (.func (.func k) #[] #[]):=⟨kq,kq,kq,kq,kq⟩;obtain⟨gc3,gc4⟩:yB w6 (w.heap.size+1) 0 1 (Z 0) (Z 0):=⟨kq,kq⟩;obtain⟨gr0,gz0,gr1,gz1⟩:iE w6 (w.heap.size+1+1) 0 1 (Z 0) (J 0):=⟨kq,kq,kq,kq⟩))
 all_goals
  exact bI (by simp[results,Tryz.results185,go_sem,gr0,gr1])
theorem aBn(h:rZ p mn mx fb sp one inf sg nan)(md:Int)(k:Nat)(sign e mh ml:Int)(sticky:Bool)(e0:-200000<=e)(e1:e<=200000)(hnz:(mh==0&&ml==0)=false)(L:Nat)(u top E:Int)(hL:L<=128)(hu:128-(L:Int)=u)(htop:(L:Int)+e-1=top)(hE:max top mn=E)(HZ:KR 215 #[aG mh ml] (J u))(z:Int)(HO:KR 216 #[dP p mn mx md k,J sign] (aK z 20))(c:mx<E)(w:World):
  QR 185 #[dP p mn mx md k,J sign,J e,aG mh ml,.bool sticky] w (aK z 20):=by
 have HF:J3 p mn mx fb:=fun w=>qw h w;have aFK:CZ p mn mx 0 inf:=fun w=>jM h 0 inf (.inl ⟨rfl,rfl⟩) w;have hq:=nK mh ml 0 0;have hq2:(mh==0&&ml==0)=false:=hnz;simp only[hq2]at hq;have bb:-1022<=mn/\mn<=0/\0<mx/\mx<=1023/\0<=fb/\fb<=52:=by rcases h with h|h<;>omega
 have t1:e+128-1-u=top:=om;have t2:e+127-u=top:=om;have tb:-300000<=top/\top<=300000:=om;have Eb:-300000<=E/\E<=300000:=om;have ub:0<=u/\u<=128:=om;clear hnz hq2 hu htop;clear h;go_enter func185,ntmps185;go_wp2_with (first
   |(go_at_call 215;refine(HZ _).mono ?_;rintro x w1 ⟨rfl,ak⟩;obtain⟨ac0,ac1,ac2,am3,am4⟩:DC w1 w.heap.size 0 1 2 3 4 (J p) (J mn) (J mx) (J md) (.func (.func k) #[] #[]):=⟨kq,kq,kq,kq,kq⟩;obtain⟨ac3,ac4⟩:yB w1 (w.heap.size+1) 0 1 (Z mh) (Z ml):=⟨kq,kq⟩;obtain⟨fP,Ku,xJ,Kt⟩:iE w1 (w.heap.size+1+1) 0 1 (Z 0) (J 0):=⟨kq,kq,kq,kq⟩)
   |(go_at_call 216;refine(HO _).mono ?_;rintro x wo ⟨rfl,aJG⟩;obtain⟨oc0,oc1,oc2,om3,om4⟩:DC wo w.heap.size 0 1 2 3 4 (J p) (J mn) (J mx) (J md) (.func (.func k) #[] #[]):=⟨kq,kq,kq,kq,kq⟩;obtain⟨oc3,oc4⟩:yB wo (w.heap.size+1) 0 1 (Z mh) (Z ml):=⟨kq,kq⟩;obtain⟨BK,oz0,or1,oz1⟩:iE wo (w.heap.size+1+1) 0 1 (Z 0) (J 0):=⟨kq,kq,kq,kq⟩))
 all_goals
  exact bI (by simp[results,Tryz.results185,go_sem,BK,or1])
theorem Dh(h:rZ p mn mx fb sp one inf sg nan)(md:Int)(k:Nat)(sign e mh ml:Int)(sticky:Bool)(e0:-200000<=e)(e1:e<=200000)(hnz:(mh==0&&ml==0)=false)(L:Nat)(u top E:Int)(hL:L<=128)(hu:128-(L:Int)=u)(htop:(L:Int)+e-1=top)(hE:max top mn=E)(HZ:KR 215 #[aG mh ml] (J u))(c:E<=mx)(a1 dr r:Int)(ix:Bool)(ha:E-fb=a1)(hdr:a1-e=dr)(HAt:J4 k dr sign mh ml sticky r ix)(r0:0<=r)(a2 Y G:Int)(ha2:E-mn=a2)(hY:a2*one=Y)(hG:Y+r=G)(G1:G<18446744073709551616)(a20:0<=a2)(Y0:0<=Y)(z fl:Int)(hw:(inf<=G/\20=fl/\KR 216 #[dP p mn mx md k,J sign] (aK z 20))\/∃z0,G<inf/\bits .or .u64 z0 G=z/\RN p mn mx sign z0/\(false=ix/\0=fl\/true=ix/\∃t,KR 217 #[dP p mn mx md k,J top,J sign,J e,aG mh ml,.bool sticky] (.bool t)/\(true=t/\24=fl\/false=t/\16=fl)))(w:World):
  QR 185 #[dP p mn mx md k,J sign,J e,aG mh ml,.bool sticky] w (aK z fl):=by
 have HF:J3 p mn mx fb:=fun w=>qw h w;have aFK:CZ p mn mx 0 inf:=fun w=>jM h 0 inf (.inl ⟨rfl,rfl⟩) w;have hq:=nK mh ml 0 0;have hq2:(mh==0&&ml==0)=false:=hnz;simp only[hq2]at hq;have bb:-1022<=mn/\mn<=0/\0<mx/\mx<=1023/\0<=fb/\fb<=52:=by rcases h with h|h<;>omega
 have t1:e+128-1-u=top:=om;have t2:e+127-u=top:=om;have tb:-300000<=top/\top<=300000:=om;have Eb:-300000<=E/\E<=300000:=om;have ub:0<=u/\u<=128:=om;clear hnz hq2 hu htop;have u1:IntKind.i64.wrap (E-fb)=a1:=by rw[ha];exact wL _ om om
 have u2:IntKind.i64.wrap (a1-e)=dr:=by rw[hdr];exact wL _ om om
 have u3:IntKind.i64.wrap (E-mn)=a2:=by rw[ha2];exact wL _ om om
 have u4:IntKind.u64.wrap a2=a2:=wu64 _ om om;have u5:IntKind.u64.wrap (a2*2^fb.toNat)=Y:=by
  have:(2:Int)^fb.toNat=one:=by rcases h with⟨rfl,rfl,rfl,rfl,rfl,rfl,rfl,rfl,rfl⟩|⟨rfl,rfl,rfl,rfl,rfl,rfl,rfl,rfl,rfl⟩<;>decide
  rw[this,hY];exact wu64 _ Y0 om
 have u6:IntKind.u64.wrap (Y+r)=G:=by rw[hG];exact wu64 _ om om
 have u7:¬fb<0:=om;have G0:0<=G:=om;clear ha hdr ha2 hY hG;clear h;rcases hw with⟨hv,rfl,HO⟩|⟨z0,hv,hor,WB,⟨rfl,rfl⟩|⟨rfl,t,HTi,⟨rfl,rfl⟩|⟨rfl,rfl⟩⟩⟩
 all_goals
  go_enter func185,ntmps185;go_wp2_with (first
    |(go_at_call 215;refine(HZ _).mono ?_;rintro x w1 ⟨rfl,ak⟩;obtain⟨ac0,ac1,ac2,am3,am4⟩:DC w1 w.heap.size 0 1 2 3 4 (J p) (J mn) (J mx) (J md) (.func (.func k) #[] #[]):=⟨kq,kq,kq,kq,kq⟩;obtain⟨ac3,ac4⟩:yB w1 (w.heap.size+1) 0 1 (Z mh) (Z ml):=⟨kq,kq⟩;obtain⟨fP,Ku,xJ,Kt⟩:iE w1 (w.heap.size+1+1) 0 1 (Z 0) (J 0):=⟨kq,kq,kq,kq⟩))
  go_region_held3 (fun w'=>aj w' w.heap.size 0 (J p)/\aj w' w.heap.size 1 (J mn)/\aj w' w.heap.size 2 (J mx)/\aj w' w.heap.size 3 (J md)/\aj w' w.heap.size 4 (.func (.func k) #[] #[])/\aj w' (w.heap.size+1) 0 (Z mh)/\aj w' (w.heap.size+1) 1 (Z ml)/\aj w' (w.heap.size+1+1) 0 (Z 0)/\aj w' (w.heap.size+1+1) 1 (J 0)/\bK w' (w.heap.size+1+1) 0/\bK w' (w.heap.size+1+1) 1)
   ((go_split_ands;(repeat' apply And.intro)<;>exact kl))
   (first
    |(go_at_call 194;refine(HF _).mono ?_;rintro x w2 ⟨rfl,aA⟩;have ZB:=aA.cells;have Zz:=aA.dK;have EU:=aA.size;(try simp only[World.size_alloc,World.size_drew,World.size_setCell]at EU))
    |(go_at_call 157;refine(HAt _).mono ?_;rintro x w3 ⟨rfl,aF⟩;have zC:=aF.cells;have zB:=aF.dK;have kQ:=aF.size;(try simp only[World.size_alloc,World.size_drew,World.size_setCell]at kQ)))
  all_goals (try go_split_ands)
  all_goals go_wp2
  all_goals
   go_region_held3 (fun w'=>aj w' w.heap.size 0 (J p)/\aj w' w.heap.size 1 (J mn)/\aj w' w.heap.size 2 (J mx)/\aj w' w.heap.size 3 (J md)/\aj w' w.heap.size 4 (.func (.func k) #[] #[])/\aj w' (w.heap.size+1) 0 (Z mh)/\aj w' (w.heap.size+1) 1 (Z ml)/\aj w' (w.heap.size+1+1) 0 (Z 0)/\aj w' (w.heap.size+1+1) 1 (J 0)/\bK w' (w.heap.size+1+1) 0/\bK w' (w.heap.size+1+1) 1)
    ((go_split_ands;(repeat' apply And.intro)<;>exact kl))
    (first|(go_at_call 194;refine(HF _).mono ?_;rintro x w4 ⟨rfl,aI⟩;have E5:=aI.cells;have EZ:=aI.dK;have oD:=aI.size;(try simp only[World.size_alloc,World.size_drew,World.size_setCell]at oD)))
  all_goals (try go_split_ands)
  all_goals
   go_wp2_with (first
    |(go_at_call 197;refine(aFK _).mono ?_;rintro x w5 ⟨rfl,aT⟩;obtain⟨fc0,fc1,fc2,fm3,fm4⟩:DC w5 w.heap.size 0 1 2 3 4 (J p) (J mn) (J mx) (J md) (.func (.func k) #[] #[]):=⟨kq,kq,kq,kq,kq⟩;obtain⟨fc3,fc4⟩:yB w5 (w.heap.size+1) 0 1 (Z mh) (Z ml):=⟨kq,kq⟩;obtain⟨fr0,fz0,fr1,fz1⟩:iE w5 (w.heap.size+1+1) 0 1 (Z 0) (J 0):=⟨kq,kq,kq,kq⟩)
    |(go_at_call 217;refine(HTi _).mono ?_;rintro x w7 ⟨rfl,fQ⟩;obtain⟨hc0,hc1,hc2,hm3,hm4⟩:DC w7 w.heap.size 0 1 2 3 4 (J p) (J mn) (J mx) (J md) (.func (.func k) #[] #[]):=⟨kq,kq,kq,kq,kq⟩;obtain⟨hc3,hc4⟩:yB w7 (w.heap.size+1) 0 1 (Z mh) (Z ml):=⟨kq,kq⟩;obtain⟨hr0,hz0,hr1,hz1⟩:iE w7 (w.heap.size+1+1) 0 1 (Z 0) (J 0):=⟨kq,kq,kq,kq⟩)
    |(go_at_call 216;refine(HO _).mono ?_;rintro x w6 ⟨rfl,b_⟩;obtain⟨gc0,gc1,gc2,gm3,gm4⟩:DC w6 w.heap.size 0 1 2 3 4 (J p) (J mn) (J mx) (J md) (.func (.func k) #[] #[]):=⟨kq,kq,kq,kq,kq⟩;obtain⟨gc3,gc4⟩:yB w6 (w.heap.size+1) 0 1 (Z mh) (Z ml):=⟨kq,kq⟩;obtain⟨gr0,gz0,gr1,gz1⟩:iE w6 (w.heap.size+1+1) 0 1 (Z 0) (J 0):=⟨kq,kq,kq,kq⟩)
    |(go_at_call 177;refine(WB _).mono ?_;rintro x w6 ⟨rfl,b_⟩;obtain⟨gc0,gc1,gc2,gm3,gm4⟩:DC w6 w.heap.size 0 1 2 3 4 (J p) (J mn) (J mx) (J md) (.func (.func k) #[] #[]):=⟨kq,kq,kq,kq,kq⟩;obtain⟨gc3,gc4⟩:yB w6 (w.heap.size+1) 0 1 (Z mh) (Z ml):=⟨kq,kq⟩;obtain⟨gr0,gz0,gr1,gz1⟩:iE w6 (w.heap.size+1+1) 0 1 (Z 0) (J 0):=⟨kq,kq,kq,kq⟩))
  all_goals
   exact bI (by simp[results,Tryz.results185,go_sem,gr0,gr1])
theorem or_zero(G:Nat)(hG:G<18446744073709551616):bits .or .u64 0 (G:Int)=(G:Int):=by
 have:=u64_or_nat 0 G om hG;rw[show((0:Nat):Int)=0 from rfl]at this;rw[this,Nat.zero_or]
theorem aGp(G:Nat)(hG:G<2147483648):bits .or .u64 2147483648 (G:Int)=2147483648+(G:Int):=by
 have:=u64_or_nat 2147483648 G om om;rw[show((2147483648:Nat):Int)=2147483648 from rfl]at this;have e:=Sh.Ak 31 1 G (by simpa using hG);simp only[Nat.reducePow,Nat.mul_one]at e;rw[this,e];omega
theorem aGo(G:Nat)(hG:G<9223372036854775808):bits .or .u64 9223372036854775808 (G:Int)=9223372036854775808+(G:Int):=by
 have:=u64_or_nat 9223372036854775808 G om om;rw[show((9223372036854775808:Nat):Int)=9223372036854775808 from rfl]at this;have e:=Sh.Ak 63 1 G (by simpa using hG);simp only[Nat.reducePow,Nat.mul_one]at e;rw[this,e];omega
theorem qM(h:rZ p mn mx fb sp one inf sg nan)(md mode:Int)(k:Nat)(hk:qC mode k)(sign:Int)(hs:sign=0\/sign=1)(e:Int)(e0:-100000<=e)(e1:e<=100000)(M:Nat)(hM0:0<M)(hM:M<340282366920938463463374607431768211456)(sticky:Bool)(hst:sticky=true->p+2<=(nb M:Int))(w:World):
  CT 185 #[dP p mn mx md k,J sign,J e,aG ((M/18446744073709551616:Nat):Int) ((M%18446744073709551616:Nat):Int),.bool sticky] w fun x w'=>∃z fl,aO p mn mx one inf mode sign M e sticky z fl/\x=.returned (aK (sv sign sg z) fl)/\Gr w w':=by
 have hb:24<=p/\p<=53/\-1022<=mn/\mn<=-126/\127<=mx/\mx<=1023/\fb=p-1/\0<one/\one<=4503599627370496/\inf<sg/\sg<=9223372036854775808/\mn=1-mx/\4*one<inf:=by rcases h with h|h<;>omega
 obtain⟨b1,b2,b3,b4,b5,b6,b7,b8,b9,b10,b11,b12,b13⟩:=hb;obtain⟨P,hP,hone⟩:∃P:Nat,(P:Int)=p-1/\one=((2^P:Nat):Int):=by
  rcases h with⟨rfl,rfl,rfl,rfl,rfl,rfl,rfl,rfl,rfl⟩|⟨rfl,rfl,rfl,rfl,rfl,rfl,rfl,rfl,rfl⟩
  ·exact⟨23,de,de⟩
  ·exact⟨52,de,de⟩
 have oP:inf=one*(2*mx+1):=by rcases h with⟨rfl,rfl,rfl,rfl,rfl,rfl,rfl,rfl,rfl⟩|⟨rfl,rfl,rfl,rfl,rfl,rfl,rfl,rfl,rfl⟩<;>decide
 have hsucc:2^(P+1)=2*2^P:=by rw[Nat.pow_succ];omega
 have hL:nb M<=128:=og (by simpa using hM);have hpos:=sO M hM0;have hnz:(((M/18446744073709551616:Nat):Int)==0&&((M%18446744073709551616:Nat):Int)==0)=false:=by
  rw[Bool.and_eq_false_iff];by_cases c:M/18446744073709551616=0
  ·right;simp;omega
  ·left;simp;omega
 obtain⟨top,htop⟩:∃top:Int,top=nb M+e-1:=⟨_,rfl⟩;obtain⟨E,hE⟩:∃E:Int,max top mn=E:=⟨_,rfl⟩;have hE2:top<mn/\E=mn\/mn<=top/\E=top:=om;have HZ:KR 215 #[aG ((M/18446744073709551616:Nat):Int) ((M%18446744073709551616:Nat):Int)] (J (128-(nb M:Int))):=fun w=>W9 M hM w;have HO:KR 216 #[dP p mn mx md k,J sign] (aK (sv sign sg (gu inf mode sign)) 20):=fun w=>Jb h md mode k hk sign hs w;obtain⟨z0,hz0⟩:∃z0,sign=0/\z0=0\/sign=1/\z0=sg:=by
  rcases hs with rfl|rfl
  ·exact⟨0,.inl ⟨rfl,rfl⟩⟩
  ·exact⟨sg,.inr ⟨rfl,rfl⟩⟩
 have WB:RN p mn mx sign z0:=fun w=>jc h sign z0 hz0 w;have hor:∀G:Int,0<=G->G<inf->bits .or .u64 z0 G=sv sign sg G:=by
  intro G G0 G1;obtain⟨g,rfl⟩:=Int.eq_ofNat_of_zero_le G0;unfold sv;rcases hz0 with⟨rfl,rfl⟩|⟨rfl,rfl⟩
  ·rw[or_zero g (by omega)];simp
  ·rcases h with⟨_,_,_,_,_,_,_,hsg,_⟩|⟨_,_,_,_,_,_,_,hsg,_⟩
   ·subst hsg;rw[aGp g (by omega)];simp
   ·subst hsg;rw[aGo g (by omega)];simp
 have hge:(nb M:Int)-p<=E-fb-e:=om;by_cases ho:mx<E
 ·have ht:mx<top:=om;refine(aBn h md k sign e _ _ sticky om om hnz (nb M) _ top E hL rfl om hE HZ _ HO ho w).mono ?_;rintro x w' ⟨rfl,hg⟩;exact⟨_,_,⟨top,E,_,_,_,htop,hE2,rfl,rfl,rfl,.inl ⟨ht,rfl,rfl⟩⟩,rfl,hg⟩
 ·have hq:E-fb=E-p+1:=om;have hlo:aW M e (E-p+1)<2^(P+1):=iH M e (E-p+1) (P+1) om;have hch:=fZ mode sign (aW M e (E-p+1)) (aJ M e (E-p+1) sticky);have HAt:J4 k (E-fb-e) sign ((M/18446744073709551616:Nat):Int) ((M%18446744073709551616:Nat):Int) sticky ((chosen mode sign (aW M e (E-p+1)) (aJ M e (E-p+1) sticky):Nat):Int) (decide (0<aJ M e (E-p+1) sticky)):=fun w=>mG mode k hk sign hs M hM e (E-p+1) (E-fb-e) sticky om om om (by
   intro hd;cases sticky
   ·rfl
   ·have:=hst rfl;omega) om w
  obtain⟨r,hr⟩:∃r,chosen mode sign (aW M e (E-p+1)) (aJ M e (E-p+1) sticky)=r:=⟨_,rfl⟩;obtain⟨hf,WR⟩:∃hf,aJ M e (E-p+1) sticky=hf:=⟨_,rfl⟩;obtain⟨r2,hr2⟩:∃r2,chosen mode sign (aW M e (top-p+1)) (aJ M e (top-p+1) sticky)=r2:=⟨_,rfl⟩;rw[hr]at hch HAt;rw[WR]at HAt;have hrr:chosen mode sign (aW M e (E-p+1)) hf=r:=by rw[<-WR];exact hr
  obtain⟨Y,hY⟩:∃Y,(E-mn)*one=Y:=⟨_,rfl⟩;have hY':one*(E-mn)=Y:=by rw[Int.mul_comm];exact hY
  have hYb:0<=Y/\Y<=inf:=by
   rw[<-hY',oP];exact⟨Int.mul_nonneg om om,Int.mul_le_mul_of_nonneg_left om om⟩
  have hG:(r:Int)+one*(E-mn)=Y+r:=by rw[hY'];omega
  by_cases hv:inf<=Y+r
  ·refine(Dh h md k sign e _ _ sticky om om hnz (nb M) _ top E hL rfl om hE HZ om (E-fb) (E-fb-e) r _ rfl rfl HAt om (E-mn) Y (Y+r) rfl hY rfl om om om _ _ (.inl ⟨hv,rfl,HO⟩) w).mono ?_;rintro x w' ⟨rfl,hg⟩;exact⟨_,_,⟨top,E,r,r2,hf,htop,hE2,WR.symm,hrr.symm,hr2.symm,.inr (.inl ⟨om,by rw[hG];exact hv,rfl,rfl⟩)⟩,rfl,hg⟩
  ·have HOr:=hor (Y+r) om om;rcases Nat.eq_zero_or_pos hf with c|c
   ·have hdec:decide (0<hf)=false:=by rw[c];rfl
    rw[hdec]at HAt;refine(Dh h md k sign e _ _ sticky om om hnz (nb M) _ top E hL rfl om hE HZ om (E-fb) (E-fb-e) r _ rfl rfl HAt om (E-mn) Y (Y+r) rfl hY rfl om om om _ _ (.inr ⟨z0,om,HOr,WB,.inl ⟨rfl,rfl⟩⟩) w).mono ?_;rintro x w' ⟨rfl,hg⟩;exact⟨_,_,⟨top,E,r,r2,hf,htop,hE2,WR.symm,hrr.symm,hr2.symm,.inr (.inr ⟨om,by rw[hG];omega,hG.symm,.inl ⟨c,rfl⟩⟩)⟩,rfl,hg⟩
   ·have hdec:decide (0<hf)=true:=decide_eq_true c;rw[hdec]at HAt;have hlo2:aW M e (top-p+1)<2^(P+1):=iH M e (top-p+1) (P+1) om;have aI0:=fZ mode sign (aW M e (top-p+1)) (aJ M e (top-p+1) sticky);rw[hr2]at aI0;have HTi:∀tb:Bool,((top<mn-1\/top=mn-1/\(r2:Int)<2*one)/\tb=true\/(mn<=top\/top=mn-1/\2*one<=(r2:Int))/\tb=false)->KR 217 #[dP p mn mx md k,J top,J sign,J e,aG ((M/18446744073709551616:Nat):Int) ((M%18446744073709551616:Nat):Int),.bool sticky] (.bool tb):=by
     intro tb htb w;by_cases ht:top=mn-1
     ·have aJz:J4 k (top-fb-e) sign ((M/18446744073709551616:Nat):Int) ((M%18446744073709551616:Nat):Int) sticky (r2:Int) (decide (0<aJ M e (top-p+1) sticky)):=fun w=>by
       rw[<-hr2];exact mG mode k hk sign hs M hM e (top-p+1) (top-fb-e) sticky om om om (by
        intro hd;cases sticky
        ·rfl
        ·have:=hst rfl;omega) om w
      refine aAW h md k top sign e _ _ (top-fb) (top-fb-e) r2 sticky _ tb ht om om rfl rfl om om ?_ aJz w;rcases htb with⟨a,rfl⟩|⟨a,rfl⟩
      ·rw[decide_eq_true (by omega)]
      ·rw[decide_eq_false (by omega)]
     ·have:=aAV (p:=p) (mn:=mn) (mx:=mx) om om md k top sign e ((M/18446744073709551616:Nat):Int) ((M%18446744073709551616:Nat):Int) sticky (by simp;omega) w;rcases htb with⟨a,rfl⟩|⟨a,rfl⟩
      ·rw[decide_eq_true (by omega)]at this;exact this
      ·rw[decide_eq_false (by omega)]at this;exact this
    by_cases hty:top<mn-1\/top=mn-1/\(r2:Int)<2*one
    ·refine(Dh h md k sign e _ _ sticky om om hnz (nb M) _ top E hL rfl om hE HZ om (E-fb) (E-fb-e) r _ rfl rfl HAt om (E-mn) Y (Y+r) rfl hY rfl om om om _ _ (.inr ⟨z0,om,HOr,WB,.inr ⟨rfl,true,HTi true (.inl ⟨hty,rfl⟩),.inl ⟨rfl,rfl⟩⟩⟩) w).mono ?_;rintro x w' ⟨rfl,hg⟩;exact⟨_,_,⟨top,E,r,r2,hf,htop,hE2,WR.symm,hrr.symm,hr2.symm,.inr (.inr ⟨om,by rw[hG];omega,hG.symm,.inr (.inl ⟨c,hty,rfl⟩)⟩)⟩,rfl,hg⟩
    ·have aGA:mn<=top\/top=mn-1/\2*one<=(r2:Int):=om;refine(Dh h md k sign e _ _ sticky om om hnz (nb M) _ top E hL rfl om hE HZ om (E-fb) (E-fb-e) r _ rfl rfl HAt om (E-mn) Y (Y+r) rfl hY rfl om om om _ _ (.inr ⟨z0,om,HOr,WB,.inr ⟨rfl,false,HTi false (.inr ⟨aGA,rfl⟩),.inr ⟨rfl,rfl⟩⟩⟩) w).mono ?_;rintro x w' ⟨rfl,hg⟩;exact⟨_,_,⟨top,E,r,r2,hf,htop,hE2,WR.symm,hrr.symm,hr2.symm,.inr (.inr ⟨om,by rw[hG];omega,hG.symm,.inr (.inr ⟨c,aGA,rfl⟩)⟩)⟩,rfl,hg⟩
theorem aEA(h:rZ p mn mx fb sp one inf sg nan)(md:Int)(k:Nat)(sign:Int)(hs:sign=0\/sign=1)(e:Int)(e0:-100000<=e)(e1:e<=100000)(sticky:Bool)(w:World):
  QR 185 #[dP p mn mx md k,J sign,J e,aG 0 0,.bool sticky] w (aK (sv sign sg 0) 0):=by
 refine y8 h md k sign e sticky om om (sv sign sg 0) (fun w=>jc h sign _ ?_ w) w;unfold sv;rcases hs with rfl|rfl
 ·exact .inl ⟨rfl,by simp⟩
 ·exact .inr ⟨rfl,by simp⟩
