import Derived.Test.YtmiekgjgpmfekaaGreatDoorK9
set_option linter.all false
namespace Go.Proofs.YtmiekgjgpmfekaaGreatDoor
open Go.RowKit
theorem Jw(f mode a:Int)(a0:0<=a)(a1:a<18446744073709551616)(w:World)(hw:Fm w):
  CT 205 #[.int .i64 f,.int .i64 mode,.int .u64 a] w fun e w'=>∃Z fl,lS kC f mode a a Z fl/\e=.returned (aK Z fl)/\Gr w w':=by
 refine Nl f mode a (lS kC f mode a a) (fun w' hg=>?_);have hw':=hw.gr hg;by_cases hf:f=0\/f=1
 ·obtain⟨p,mx,one,inf,sg,nan,hF⟩:=iC f hf;obtain⟨mn,fb,sp,hM,hmn,hfb⟩:=hF.m;by_cases hm:0<=mode/\mode<=4
  ·obtain⟨k,hk⟩:=kH mode hm.1 hm.2;obtain⟨x,hx,HA⟩:=lI hF hM a a0 a1;obtain⟨v1,v2,v3,v4,v5,v6⟩:=bQ hF hx;refine(FH p mn mx mode f k 221 a a _ _ _ _ _ _ _ _ _ _ _ _ (fun w'' hg'=>eP hF hM mode k (fun w=>gW mode k hk w) (hw'.gr hg')) HA HA (jT p (kC p mode x x)) (fun w=>?_) (oJ p mn mx one inf sg nan mode (kC p mode x x)) (fun os oe oc oh ol ot of w hq=>GU hM mode k hk _ os oe oc oh ol ot of hq w)).mono ?_
   ·by_cases h3:3<=x.c
    ·refine(iK p mn mx mode k _ _ _ _ _ _ _ _ _ _ _ _ 221 x.c om h3 w).mono ?_;rintro e w' ⟨rfl,hg⟩;rw[show kC p mode x x=⟨x.c,0,0,0⟩ from by unfold kC;rw[if_pos h3]];exact⟨_,_,_,_,_,_,_,jT.nan p _ h3 (by have:=v1.c4;omega),rfl,hg⟩
    ·exact yt p mn mx mode k _ _ _ _ _ _ _ _ _ _ _ _ x.c om om _ (fun w=>D5 hF hM mode k hx om w) w
   ·rintro e w'' ⟨Z,fl,hp,rfl,hg'⟩;rw[hmn]at hp;exact⟨_,_,.inl ⟨p,mx,one,inf,sg,nan,x,x,hF,hm,hx,hx,hp⟩,rfl,hg'⟩
  ·refine(jV p mn mx mode nan f mode a a (fun w'' hg'=>gK hF hM mode (fun w=>kD mode om w) (hw'.gr hg')) (fun w=>dH hM w) 221).mono ?_;rintro e w'' ⟨rfl,hg'⟩;exact⟨_,_,.inr (.inl ⟨p,mx,one,inf,sg,nan,hF,om,rfl,rfl⟩),rfl,hg'⟩
 ·refine(jV _ _ _ _ _ f mode a a (fun w'' hg'=>fU f mode hf (hw'.gr hg')) (fun w=>dH m64 w) 221).mono ?_;rintro e w'' ⟨rfl,hg'⟩;exact⟨_,_,.inr (.inr ⟨hf,rfl,rfl⟩),rfl,hg'⟩
theorem Lu{f p mx one inf sg nan:Int}(h:aP f p mx one inf sg nan)(mode a:Int)(hm:0<=mode/\mode<=4)(a0:0<=a)(a1:a<18446744073709551616){x:bZ}(hx:bP p mx one inf sg nan a x)(w:World):
  CT 41 #[.int .i64 f,.int .i64 mode,.int .u64 a] w fun e w'=>∃Z fl,oJ p (1-mx) mx one inf sg nan mode (kC p mode x x) Z fl/\e=.returned (aK Z fl)/\Gb w w':=by
 obtain⟨v1,v2,v3,v4,v5,v6⟩:=bQ h hx;have xc0:=v1.c0;have Ui:=v1.c4;have jF:=v1.jF;have hb:=h.bounds;by_cases hfit:a<2*sg
 ·have HF:kW f mode a true:=fun w=>iU h mode a a hm.1 hm.2 a0 hfit a0 hfit w;have gJ:=ig h a a0 hfit hx;have HQ:∀(t:Bool),t=decide (3<=x.c)->bF x.c x.s x.e (((x.M:Nat):Int)) t:=fun t ht w=>fO _ _ _ _ t ht w;have Bc:∀t:Bool,oI f t nan (if t then 1 else 0):=fun t w=>lJ h t _ rfl w;unfold kC;by_cases c1:3<=x.c
  ·rw[if_pos c1];refine(UH f mode a _ _ _ _ HF gJ (HQ true (by simp[c1])) (decide (x.c=4)) (bq _ _) nan _ (Bc _) w).mono ?_;rintro e w' ⟨rfl,hg⟩;exact⟨_,_,.inl (uT _ _ rfl om om),rfl,hg⟩
  ·rw[if_neg c1];have hQa:=HQ false (by simp;omega);by_cases cz:x.c=0
   ·rw[if_pos cz];refine(Pm f mode a _ _ _ _ HF gJ hQa cz (sw x.s sg 0) 0 (fun w=>iy h _ jF w) w).mono ?_;rintro e w' ⟨rfl,hg⟩;exact⟨_,_,.inl (.inl ⟨rfl,rfl,rfl⟩),rfl,hg⟩
   ·rw[if_neg cz];by_cases cs:x.s=1
    ·rw[if_pos cs];refine(UG f mode a _ _ _ _ HF gJ hQa (by simp[cz]) cs nan 1 (fun w=>dI h w) w).mono ?_;rintro e w' ⟨rfl,hg⟩;exact⟨_,_,.inl (l9 rfl),rfl,hg⟩
    ·rw[if_neg cs];have s0:x.s=0:=by rcases jF with s|s;exact s;exact absurd s cs
     by_cases ci:x.c=2
     ·rw[if_pos ci];refine(UJ f mode a _ _ _ _ HF gJ hQa ci s0 (sw 0 sg inf) 0 (fun w=>eX h _ (.inl rfl) w) w).mono ?_;rintro e w' ⟨rfl,hg⟩;exact⟨_,_,.inl (.inr (.inr (.inl ⟨rfl,rfl,rfl⟩))),rfl,hg⟩
     ·rw[if_neg ci];have cx:x.c=1:=om;obtain⟨Pn,hP,hP1,Nw,hA,hA2⟩:=o_ h hx cx;obtain⟨od,hod⟩:∃od:Nat,(x.e+(p-1))%2=(od:Int):=⟨((x.e+(p-1))%2).toNat,om⟩;obtain⟨C,st,hC,hst,r1,r2,r3,r4,r5,r6,r7⟩:=Eo hP hP1 Nw hA hA2 x.e _ _ od rfl hod rfl;obtain⟨Pl,hPl⟩:∃Pl,Pl=jd p x.e:=⟨_,rfl⟩;have aJa:Pl=jd p x.e:=hPl;rw[<-hPl]at r4 r5 r7⊢
      have hpar:Pl=Pn+8/\(x.e-(p+8))%2=0\/Pl=Pn+9/\(x.e-(p+8))%2=1:=by
       rw[hPl];unfold jd;by_cases c:(x.e-(p+8))%2=0
       ·rw[if_pos c];exact .inl ⟨om,c⟩
       ·rw[if_neg c];exact .inr ⟨om,om⟩
      clear hPl aJa r6;have HRt:Hid (∀v w,aC 8 w v (x.M*2^Pl)->CT 101 #[v] w (qh 8 (eY (x.M*2^Pl)) w)):=fun v w ⟨n,n1,n2⟩=>by
       refine(QD n2 om).mono ?_;rintro e w' ⟨r,k,R,rfl,hb,hk,hr,hg⟩;obtain⟨b,c,rfl,_⟩:=Big.shape hb;rw[<-hr.one (Es _)];exact⟨b,k,c,⟨k,om,hb⟩,rfl,hg⟩
      obtain⟨z0,hz0⟩:∃z0,z0=fH (eY (x.M*2^Pl)*eY (x.M*2^Pl)) (x.M*2^Pl):=⟨_,rfl⟩;have HCm:Hid (∀v v' w,aC 16 w v (eY (x.M*2^Pl)*eY (x.M*2^Pl))->aC 8 w v' (x.M*2^Pl)->QB 102 #[v,v'] w (.int .i64 z0)):=fun v v' w ⟨n,n1,n2⟩ ⟨n',n1',n2'⟩=>by
       rw[hz0];exact gV n2 om n2' om
      have hzr:(z0 != 0)=decide (eY (x.M*2^Pl)*eY (x.M*2^Pl)≠x.M*2^Pl):=by
       rw[hz0];unfold fH;by_cases c:eY (x.M*2^Pl)*eY (x.M*2^Pl)=x.M*2^Pl
       ·rw[if_neg om,if_neg (by omega)];simp[c]
       ·by_cases c2:eY (x.M*2^Pl)*eY (x.M*2^Pl)<x.M*2^Pl
        ·rw[if_pos c2];simp[c]
        ·rw[if_neg c2,if_pos (by omega)];simp[c]
      have HR:∀q:Int,q=(x.e-Pl)/2->Hid (∀v w,aC 8 w v (eY (x.M*2^Pl))->CT 85 #[.int .i64 f,.int .i64 mode,.agg #[.int .i64 0,v,.int .i64 q,.bool (decide (eY (x.M*2^Pl)*eY (x.M*2^Pl)≠x.M*2^Pl))]] w fun e w'=>∃z fl,oJ p (1-mx) mx one inf sg nan mode ⟨1,0,(x.e-Pl)/2-1,sqM Pl x.M⟩ z fl/\e=.returned (aK z fl)/\Gb w w'):=fun q hq v w hB=>by
       rw[hq];exact Af h mode hm.1 hm.2 ⟨1,0,(x.e-Pl)/2-1,sqM Pl x.M⟩ rfl (.inl rfl) _ r4 ((x.e-Pl)/2) om om _ r5 (fun mn mx one inf mode z fl=>r7 _ _ _ _ _ _ _ _) 8 om v w hB
      obtain⟨q,hq⟩:∃q:Int,q=(x.e-Pl)/2:=⟨_,rfl⟩;have hd2:x.e-(Pl:Int)=2*q:=om;have hqd:(x.e-(Pl:Int)).tdiv 2=q:=by rw[hd2];exact Int.mul_tdiv_cancel_left q de
      have hqw:wrap64 q=q:=by unfold wrap64;omega
      rcases hpar with⟨e1,e2⟩|⟨e1,e2⟩
      ·have ht:(x.e-(Pl:Int)).tmod 2=0:=by rw[hd2];exact Int.mul_tmod_right 2 q
       exact Po f mode a _ _ _ _ HF gJ hQa cx s0 x.M rfl om om om p om om (fun w=>jL h w) Pl _ q 0 om om rfl ht de hqd hqw _ z0 hzr _ HRt HCm _ (HR q hq) w
      ·obtain⟨r0,hr0⟩:∃r0,r0=(x.e-(p+8)).tmod 2:=⟨_,rfl⟩;have hne:(r0 != 0)=true:=by
        have:r0≠0:=by
         intro c;rw[hr0]at c;have:=Int.emod_emod_of_dvd (x.e-(p+8)) (Int.dvd_refl 2);have:=Int.emod_eq_zero_of_dvd (Int.dvd_of_tmod_eq_zero c);omega
        simp[this]
       exact UF f mode a _ _ _ _ HF gJ hQa cx s0 x.M rfl om om om p om om (fun w=>jL h w) Pl (p+8) (x.e-(p+8)) _ q r0 rfl rfl hr0.symm hne om om rfl hqd hqw _ z0 hzr _ HRt HCm _ (HR q hq) w
 ·refine(Ad f mode a (fun w=>eu f mode a a a0 a1 a0 a1 (qQ h a1 a1 om) w) nan 1 (fun w=>dI h w) w).mono ?_;rintro e w' ⟨rfl,hg⟩;have:=qO h hx om;subst this;exact⟨_,_,.inl (l9 rfl),rfl,hg⟩
theorem IX(f mode a:Int)(a0:0<=a)(a1:a<18446744073709551616)(w:World):
  CT 41 #[.int .i64 f,.int .i64 mode,.int .u64 a] w fun e w'=>∃Z fl,lS kC f mode a a Z fl/\e=.returned (aK Z fl)/\Gb w w':=by
 by_cases hf:f=0\/f=1
 ·obtain⟨p,mx,one,inf,sg,nan,hF⟩:=iC f hf;by_cases hm:0<=mode/\mode<=4
  ·obtain⟨x,hx⟩:=fE hF a a0 a1;refine(Lu hF mode a hm a0 a1 hx w).mono ?_;rintro e w' ⟨Z,fl,hp,rfl,hg⟩;exact⟨_,_,.inl ⟨p,mx,one,inf,sg,nan,x,x,hF,hm,hx,hx,hp⟩,rfl,hg⟩
  ·refine(Ad f mode a (fun w=>eu f mode a a a0 a1 a0 a1 (.inl om) w) nan 1 (fun w=>dI hF w) w).mono ?_;rintro e w' ⟨rfl,hg⟩;exact⟨_,_,.inr (.inl ⟨p,mx,one,inf,sg,nan,hF,om,rfl,rfl⟩),rfl,hg⟩
 ·refine(Ad f mode a (fun w=>eu f mode a a a0 a1 a0 a1 (.inr (.inl hf)) w) _ 1 (fun w=>oC f hf w) w).mono ?_;rintro e w' ⟨rfl,hg⟩;exact⟨_,_,.inr (.inr ⟨hf,rfl,rfl⟩),rfl,hg⟩
theorem Aa(f mode a:Int)(a0:0<=a)(a1:a<18446744073709551616):
  ∃Z fl:Int,lS kC f mode a a Z fl/\(∀w,QB 41 #[.int .i64 f,.int .i64 mode,.int .u64 a] w (aK Z fl))/\
   (∀w,Fm w->QR 205 #[.int .i64 f,.int .i64 mode,.int .u64 a] w (aK Z fl)):=
 N8 kC 41 205 _ aA4 f mode a a a0 a1 a0 a1 (IX f mode a a0 a1) (Jw f mode a a0 a1)
