import Derived.Test.YtnbbfeknbfohhaaGreatDoorF0
import Derived.Test.YtnbbfeknbfohhaaGreatDoorA1
import Derived.Laws.EntriesVeiled
import Derived.Test.YtnbbfeknbfohhaaGreatDoorA2
import Derived.Laws.BitsAllLaws
import Derived.Deep.RegionHeld3
set_option linter.unusedVariables false
set_option linter.unusedSimpArgs false
set_option maxRecDepth 1000000
set_option maxHeartbeats 40000000
open Go.Value renaming int → J, agg → O, bool → X, tuple → V
open Go.IntKind renaming i64 → Y, u64 → Z
open Go.Proofs.Tryz
namespace Go.Proofs.YtnbbfeknbfohhaaGreatDoor
open Go.RowKit
def ru(mode:Int)(neg odd half rest:Bool):Bool:=if mode=0 then half&&(odd||rest)else if mode=1 then half else if mode=2 then false else if mode=3 then !neg&&(half||rest)else neg&&(half||rest)
def pU(mode:Int)(k:Nat):Prop:=mode=0∧k=204∨mode=1∧k=205∨mode=2∧k=206∨mode=3∧k=207∨mode=4∧k=208
theorem pW(a b c d:Bool)(w:World):QW 204 #[X a,X b,X c,X d] w (X (ru 0 a b c d)):=by
 cases a<;>cases b<;>cases c<;>cases d
 all_goals
  go_enter func204,ntmps204
  go_wp2
  go_returns
  exact⟨rfl,rfl⟩
theorem pX(a b c d:Bool)(w:World):QW 205 #[X a,X b,X c,X d] w (X (ru 1 a b c d)):=by
 cases a<;>cases b<;>cases c<;>cases d
 all_goals
  go_enter func205,ntmps205
  go_wp2
  go_returns
  exact⟨rfl,rfl⟩
theorem qE(a b c d:Bool)(w:World):QW 206 #[X a,X b,X c,X d] w (X (ru 2 a b c d)):=by
 cases a<;>cases b<;>cases c<;>cases d
 all_goals
  go_enter func206,ntmps206
  go_wp2
  go_returns
  exact⟨rfl,rfl⟩
theorem yP(a b c d:Bool)(w:World):QW 207 #[X a,X b,X c,X d] w (X (ru 3 a b c d)):=by
 cases a<;>cases b<;>cases c<;>cases d
 all_goals
  go_enter func207,ntmps207
  go_wp2
  go_returns
  exact⟨rfl,rfl⟩
theorem vI(a b c d:Bool)(w:World):QW 208 #[X a,X b,X c,X d] w (X (ru 4 a b c d)):=by
 cases a<;>cases b<;>cases c<;>cases d
 all_goals
  go_enter func208,ntmps208
  go_wp2
  go_returns
  exact⟨rfl,rfl⟩
theorem jQ(mode:Int)(k:Nat)(h:pU mode k)(w:World):
  QR 158 #[J Y mode] w (V #[.func (.func k) #[] #[],X true]):=by
 rcases h with⟨rfl,rfl⟩|⟨rfl,rfl⟩|⟨rfl,rfl⟩|⟨rfl,rfl⟩|⟨rfl,rfl⟩
 all_goals
  go_enter func158,ntmps158
  go_wp2
  go_returns
  exact⟨rfl,kr⟩
theorem oC(mode:Int)(h:mode<0∨4<mode)(w:World):
  QR 158 #[J Y mode] w (V #[Value.nilFunc,X false]):=by
 rcases h with c|c
 all_goals
  go_enter func158,ntmps158
  go_wp2
  go_returns
  exact⟨rfl,kr⟩
theorem Hl(M k:Nat):(M:Int)/2^k=((M/2^k:Nat):Int):=by rw[Int.natCast_ediv,Int.natCast_pow];rfl
theorem VK(M k:Nat):(M:Int)%2^k=((M%2^k:Nat):Int):=by rw[Int.natCast_emod,Int.natCast_pow];rfl
theorem cast_mul(M k:Nat):(M:Int)*2^k=((M*2^k:Nat):Int):=by rw[Int.natCast_mul,Int.natCast_pow];rfl
theorem aAr(M:Nat)(hM:M<340282366920938463463374607431768211456)(n:Nat)(w:World):
  QR 192 #[O #[J Z ((M/18446744073709551616:Nat):Int),J Z ((M%18446744073709551616:Nat):Int)],J Y n] w (V #[O #[J Z ((M/2^n/18446744073709551616:Nat):Int),J Z ((M/2^n%18446744073709551616:Nat):Int)],X (decide (M%2^n≠0))]):=by
 have e0:((M/18446744073709551616:Nat):Int)*18446744073709551616+((M%18446744073709551616:Nat):Int)=(M:Int):=om
 obtain⟨k,hk,hdiv,hmod⟩:∃k:Nat,(bnd (n:Int)).toNat =k∧M/2^k=M/2^n∧M%2^k=M%2^n:=by
  unfold bnd
  rw[if_neg (by omega)]
  by_cases h:128<(n:Int)
  ·rw[if_pos h]
   have h1:M<2^128:=by simpa using hM
   have h2:=aW (show 128≤n by omega)
   exact⟨128,rfl,by rw[Nat.div_eq_of_lt h1,Nat.div_eq_of_lt (by omega)],by rw[Nat.mod_eq_of_lt h1,Nat.mod_eq_of_lt (by omega)]⟩
  ·rw[if_neg h]
   exact⟨n,by simp,rfl,rfl⟩
 refine(yZ _ _ (n:Int) om om om om w).mono ?_
 rintro e w' ⟨rfl,hg⟩
 refine⟨zA ?_ ?_ ?_,hg⟩
 ·unfold jd;rw[hk,e0,Hl,hdiv];omega
 ·unfold jc;rw[hk,e0,Hl,hdiv];omega
 ·unfold uM;rw[hk,e0,VK,hmod]
  generalize M%2^n=R
  by_cases h:R=0
  ·simp[h]
  ·simp[h]
theorem aDe(M:Nat)(hM:M<340282366920938463463374607431768211456)(n:Nat)(hn:n≤128)(h:M*2^n<18446744073709551616)(w:World):
  QR 162 #[O #[J Z ((M/18446744073709551616:Nat):Int),J Z ((M%18446744073709551616:Nat):Int)],J Y n] w (O #[J Z 0,J Z ((M*2^n:Nat):Int)]):=by
 have e0:((M/18446744073709551616:Nat):Int)*18446744073709551616+((M%18446744073709551616:Nat):Int)=(M:Int):=om
 have hk:(bnd (n:Int)).toNat =n:=by unfold bnd;rw[if_neg om,if_neg (by omega)];simp
 refine(nZ _ _ (n:Int) om om om om w).mono ?_
 rintro e w' ⟨rfl,hg⟩
 refine⟨uP ?_ ?_,hg⟩
 ·unfold kN;rw[hk,e0,cast_mul];omega
 ·unfold kM;rw[hk,e0,cast_mul];omega
theorem Fj(M:Nat)(hM:M<340282366920938463463374607431768211456)(drop sign:Int)(sticky:Bool)(k:Nat)(fv:Value)(hd:drop≤0)(d0:-128≤drop)(hk:0-drop=(k:Int))(h:M*2^k<18446744073709551616)(w:World):
  QR 161 #[fv,J Y drop,J Y sign,O #[J Z ((M/18446744073709551616:Nat):Int),J Z ((M%18446744073709551616:Nat):Int)],X sticky] w (V #[J Z ((M*2^k:Nat):Int),X false]):=by
 have HS:KR 162 #[O #[J Z ((M/18446744073709551616:Nat):Int),J Z ((M%18446744073709551616:Nat):Int)],J Y (-drop)] (O #[J Z 0,J Z ((M*2^k:Nat):Int)]):=fun w=>by
  rw[show-drop=(k:Int) by omega]
  exact aDe M hM k om h w
 generalize((M/18446744073709551616:Nat):Int)=mh at*
 generalize((M%18446744073709551616:Nat):Int)=ml at*
 generalize((M*2^k:Nat):Int)=c at*
 clear h hk
 have hfd:∀(w:World) (a b:Int),(Instr.field 120 (O #[J Z a,J Z b]) 1).run Tryz.prog w=.ok (J Z b) w:=fun _ _ _=>by kernel_rfl
 go_enter func161,ntmps161
 go_wp2_with (go_at_call 162;refine(HS.out _).mono ?_;rintro e w1 ⟨rfl,aj⟩)
 go_returns
 exact⟨rfl,kr⟩
theorem rX(mh ml hh hl kh kl drop sign o:Int)(lost hb sticky sB oB rB U:Bool)(hd:0<drop)(d1:drop≤1000000)(hsB:(sign==1)=sB)(ho:bits .and Z kl 1=o)(hoB:(o==1)=oB)(NV:(lost||sticky)=rB)(k0:0≤kl)(k1:kl<18446744073709551615)(hU:ru 0 sB oB hb rB=U)
  (Iu:KR 192 #[O #[J Z mh,J Z ml],J Y (drop-1)] (V #[O #[J Z hh,J Z hl],X lost]))
  (HS2:KR 192 #[O #[J Z hh,J Z hl],J Y 1] (V #[O #[J Z kh,J Z kl],X hb])) (w:World):
  QR 161 #[.func (.func 204) #[] #[],J Y drop,J Y sign,O #[J Z mh,J Z ml],X sticky] w (V #[J Z (kl+(if U then 1 else 0)),X (hb||rB)]):=by
 have HR:KW 204 #[X sB,X oB,X hb,X rB] (X U):=fun w=>hU▸pW sB oB hb rB w
 clear hU
 cases lost<;>cases hb<;>cases U
 all_goals
  simp only[Bool.false_or,Bool.true_or]at NV
  subst NV
  go_enter func161,ntmps161
  go_upto_region 4 with(go_at_call 192;refine(Iu.out _).mono ?_;rintro e w1 ⟨rfl,aj⟩)
  go_upto_region 5 with(go_at_call 192;refine(HS2.out _).mono ?_;rintro e w2 ⟨rfl,ak⟩)
  go_wp2_with (first|(go_at_call 204;refine kw (HR.out _) ?_))
  go_returns
  exact⟨by simp,kr⟩
theorem rY(mh ml hh hl kh kl drop sign o:Int)(lost hb sticky sB oB rB U:Bool)(hd:0<drop)(d1:drop≤1000000)(hsB:(sign==1)=sB)(ho:bits .and Z kl 1=o)(hoB:(o==1)=oB)(NV:(lost||sticky)=rB)(k0:0≤kl)(k1:kl<18446744073709551615)(hU:ru 1 sB oB hb rB=U)
  (Iu:KR 192 #[O #[J Z mh,J Z ml],J Y (drop-1)] (V #[O #[J Z hh,J Z hl],X lost]))
  (HS2:KR 192 #[O #[J Z hh,J Z hl],J Y 1] (V #[O #[J Z kh,J Z kl],X hb])) (w:World):
  QR 161 #[.func (.func 205) #[] #[],J Y drop,J Y sign,O #[J Z mh,J Z ml],X sticky] w (V #[J Z (kl+(if U then 1 else 0)),X (hb||rB)]):=by
 have HR:KW 205 #[X sB,X oB,X hb,X rB] (X U):=fun w=>hU▸pX sB oB hb rB w
 clear hU
 cases lost<;>cases hb<;>cases U
 all_goals
  simp only[Bool.false_or,Bool.true_or]at NV
  subst NV
  go_enter func161,ntmps161
  go_upto_region 4 with(go_at_call 192;refine(Iu.out _).mono ?_;rintro e w1 ⟨rfl,aj⟩)
  go_upto_region 5 with(go_at_call 192;refine(HS2.out _).mono ?_;rintro e w2 ⟨rfl,ak⟩)
  go_wp2_with (first|(go_at_call 205;refine kw (HR.out _) ?_))
  go_returns
  exact⟨by simp,kr⟩
theorem sU(mh ml hh hl kh kl drop sign o:Int)(lost hb sticky sB oB rB U:Bool)(hd:0<drop)(d1:drop≤1000000)(hsB:(sign==1)=sB)(ho:bits .and Z kl 1=o)(hoB:(o==1)=oB)(NV:(lost||sticky)=rB)(k0:0≤kl)(k1:kl<18446744073709551615)(hU:ru 2 sB oB hb rB=U)
  (Iu:KR 192 #[O #[J Z mh,J Z ml],J Y (drop-1)] (V #[O #[J Z hh,J Z hl],X lost]))
  (HS2:KR 192 #[O #[J Z hh,J Z hl],J Y 1] (V #[O #[J Z kh,J Z kl],X hb])) (w:World):
  QR 161 #[.func (.func 206) #[] #[],J Y drop,J Y sign,O #[J Z mh,J Z ml],X sticky] w (V #[J Z (kl+(if U then 1 else 0)),X (hb||rB)]):=by
 have HR:KW 206 #[X sB,X oB,X hb,X rB] (X U):=fun w=>hU▸qE sB oB hb rB w
 clear hU
 cases lost<;>cases hb<;>cases U
 all_goals
  simp only[Bool.false_or,Bool.true_or]at NV
  subst NV
  go_enter func161,ntmps161
  go_upto_region 4 with(go_at_call 192;refine(Iu.out _).mono ?_;rintro e w1 ⟨rfl,aj⟩)
  go_upto_region 5 with(go_at_call 192;refine(HS2.out _).mono ?_;rintro e w2 ⟨rfl,ak⟩)
  go_wp2_with (first|(go_at_call 206;refine kw (HR.out _) ?_))
  go_returns
  exact⟨by simp,kr⟩
theorem zl(mh ml hh hl kh kl drop sign o:Int)(lost hb sticky sB oB rB U:Bool)(hd:0<drop)(d1:drop≤1000000)(hsB:(sign==1)=sB)(ho:bits .and Z kl 1=o)(hoB:(o==1)=oB)(NV:(lost||sticky)=rB)(k0:0≤kl)(k1:kl<18446744073709551615)(hU:ru 3 sB oB hb rB=U)
  (Iu:KR 192 #[O #[J Z mh,J Z ml],J Y (drop-1)] (V #[O #[J Z hh,J Z hl],X lost]))
  (HS2:KR 192 #[O #[J Z hh,J Z hl],J Y 1] (V #[O #[J Z kh,J Z kl],X hb])) (w:World):
  QR 161 #[.func (.func 207) #[] #[],J Y drop,J Y sign,O #[J Z mh,J Z ml],X sticky] w (V #[J Z (kl+(if U then 1 else 0)),X (hb||rB)]):=by
 have HR:KW 207 #[X sB,X oB,X hb,X rB] (X U):=fun w=>hU▸yP sB oB hb rB w
 clear hU
 cases lost<;>cases hb<;>cases U
 all_goals
  simp only[Bool.false_or,Bool.true_or]at NV
  subst NV
  go_enter func161,ntmps161
  go_upto_region 4 with(go_at_call 192;refine(Iu.out _).mono ?_;rintro e w1 ⟨rfl,aj⟩)
  go_upto_region 5 with(go_at_call 192;refine(HS2.out _).mono ?_;rintro e w2 ⟨rfl,ak⟩)
  go_wp2_with (first|(go_at_call 207;refine kw (HR.out _) ?_))
  go_returns
  exact⟨by simp,kr⟩
theorem vZ(mh ml hh hl kh kl drop sign o:Int)(lost hb sticky sB oB rB U:Bool)(hd:0<drop)(d1:drop≤1000000)(hsB:(sign==1)=sB)(ho:bits .and Z kl 1=o)(hoB:(o==1)=oB)(NV:(lost||sticky)=rB)(k0:0≤kl)(k1:kl<18446744073709551615)(hU:ru 4 sB oB hb rB=U)
  (Iu:KR 192 #[O #[J Z mh,J Z ml],J Y (drop-1)] (V #[O #[J Z hh,J Z hl],X lost]))
  (HS2:KR 192 #[O #[J Z hh,J Z hl],J Y 1] (V #[O #[J Z kh,J Z kl],X hb])) (w:World):
  QR 161 #[.func (.func 208) #[] #[],J Y drop,J Y sign,O #[J Z mh,J Z ml],X sticky] w (V #[J Z (kl+(if U then 1 else 0)),X (hb||rB)]):=by
 have HR:KW 208 #[X sB,X oB,X hb,X rB] (X U):=fun w=>hU▸vI sB oB hb rB w
 clear hU
 cases lost<;>cases hb<;>cases U
 all_goals
  simp only[Bool.false_or,Bool.true_or]at NV
  subst NV
  go_enter func161,ntmps161
  go_upto_region 4 with(go_at_call 192;refine(Iu.out _).mono ?_;rintro e w1 ⟨rfl,aj⟩)
  go_upto_region 5 with(go_at_call 192;refine(HS2.out _).mono ?_;rintro e w2 ⟨rfl,ak⟩)
  go_wp2_with (first|(go_at_call 208;refine kw (HR.out _) ?_))
  go_returns
  exact⟨by simp,kr⟩
def sv(sign sg z:Int):Int:=if sign=1 then sg+z else z
theorem qI{p mn mx fb sp one inf sg nan:Int}(h:og p mn mx fb sp one inf sg nan)(md:Int)(sign z:Int)(sB U:Bool)(hs:sign=0∧z=inf∨sign=1∧z=sg+inf)(hsB:(sign==1)=sB)(hU:ru 0 sB true true true=U)(hz:1≤z)(hz1:z<18446744073709551616)(w:World):
  QR 225 #[O #[J Y p,J Y mn,J Y mx,J Y md,.func (.func 204) #[] #[]],J Y sign] w (O #[J Z (if U then z else z-1),J Y 20]):=by
 have HI:KR 105 #[O #[J Y p,J Y mn,J Y mx],J Y sign] (J Z z):=fun w=>gW h sign z hs w
 have HR:KW 204 #[X sB,X true,X true,X true] (X U):=fun w=>hU▸pW sB true true true w
 clear hU hs h
 cases U
 ·go_enter func225,ntmps225
  go_wp2_with (first
   |(go_at_call 105;refine(HI.out _).mono ?_;rintro e w1 ⟨rfl,aj⟩;have Oi:w1.cell? ⟨w.heap.size,4,none⟩=some (.func (.func 204) #[] #[]):=kq;obtain⟨bG,BN,cO,BM⟩:kJ w1 (w.heap.size+1) 0 1 (J Z 0) (J Y 0):=⟨kq,kq,kq,kq⟩)
   |(go_at_call 204;refine kw (HR.out _) ?_))
  refine bodyPost_ret (v:=O #[J Z (z-1),J Y 20]) (by simp[results,Tryz.results225,go_sem,bG,cO]) rfl ⟨by simp,?_⟩
  exact kr
 ·go_enter func225,ntmps225
  go_wp2_with (first
   |(go_at_call 105;refine(HI.out _).mono ?_;rintro e w1 ⟨rfl,aj⟩;have Oi:w1.cell? ⟨w.heap.size,4,none⟩=some (.func (.func 204) #[] #[]):=kq;obtain⟨bG,BN,cO,BM⟩:kJ w1 (w.heap.size+1) 0 1 (J Z 0) (J Y 0):=⟨kq,kq,kq,kq⟩)
   |(go_at_call 204;refine kw (HR.out _) ?_))
  refine bodyPost_ret (v:=O #[J Z z,J Y 20]) (by simp[results,Tryz.results225,go_sem,bG,cO]) rfl ⟨by simp,?_⟩
  exact kr
theorem qJ{p mn mx fb sp one inf sg nan:Int}(h:og p mn mx fb sp one inf sg nan)(md:Int)(sign z:Int)(sB U:Bool)(hs:sign=0∧z=inf∨sign=1∧z=sg+inf)(hsB:(sign==1)=sB)(hU:ru 1 sB true true true=U)(hz:1≤z)(hz1:z<18446744073709551616)(w:World):
  QR 225 #[O #[J Y p,J Y mn,J Y mx,J Y md,.func (.func 205) #[] #[]],J Y sign] w (O #[J Z (if U then z else z-1),J Y 20]):=by
 have HI:KR 105 #[O #[J Y p,J Y mn,J Y mx],J Y sign] (J Z z):=fun w=>gW h sign z hs w
 have HR:KW 205 #[X sB,X true,X true,X true] (X U):=fun w=>hU▸pX sB true true true w
 clear hU hs h
 cases U
 ·go_enter func225,ntmps225
  go_wp2_with (first
   |(go_at_call 105;refine(HI.out _).mono ?_;rintro e w1 ⟨rfl,aj⟩;have Oi:w1.cell? ⟨w.heap.size,4,none⟩=some (.func (.func 205) #[] #[]):=kq;obtain⟨bG,BN,cO,BM⟩:kJ w1 (w.heap.size+1) 0 1 (J Z 0) (J Y 0):=⟨kq,kq,kq,kq⟩)
   |(go_at_call 205;refine kw (HR.out _) ?_))
  refine bodyPost_ret (v:=O #[J Z (z-1),J Y 20]) (by simp[results,Tryz.results225,go_sem,bG,cO]) rfl ⟨by simp,?_⟩
  exact kr
 ·go_enter func225,ntmps225
  go_wp2_with (first
   |(go_at_call 105;refine(HI.out _).mono ?_;rintro e w1 ⟨rfl,aj⟩;have Oi:w1.cell? ⟨w.heap.size,4,none⟩=some (.func (.func 205) #[] #[]):=kq;obtain⟨bG,BN,cO,BM⟩:kJ w1 (w.heap.size+1) 0 1 (J Z 0) (J Y 0):=⟨kq,kq,kq,kq⟩)
   |(go_at_call 205;refine kw (HR.out _) ?_))
  refine bodyPost_ret (v:=O #[J Z z,J Y 20]) (by simp[results,Tryz.results225,go_sem,bG,cO]) rfl ⟨by simp,?_⟩
  exact kr
theorem rZ{p mn mx fb sp one inf sg nan:Int}(h:og p mn mx fb sp one inf sg nan)(md:Int)(sign z:Int)(sB U:Bool)(hs:sign=0∧z=inf∨sign=1∧z=sg+inf)(hsB:(sign==1)=sB)(hU:ru 2 sB true true true=U)(hz:1≤z)(hz1:z<18446744073709551616)(w:World):
  QR 225 #[O #[J Y p,J Y mn,J Y mx,J Y md,.func (.func 206) #[] #[]],J Y sign] w (O #[J Z (if U then z else z-1),J Y 20]):=by
 have HI:KR 105 #[O #[J Y p,J Y mn,J Y mx],J Y sign] (J Z z):=fun w=>gW h sign z hs w
 have HR:KW 206 #[X sB,X true,X true,X true] (X U):=fun w=>hU▸qE sB true true true w
 clear hU hs h
 cases U
 ·go_enter func225,ntmps225
  go_wp2_with (first
   |(go_at_call 105;refine(HI.out _).mono ?_;rintro e w1 ⟨rfl,aj⟩;have Oi:w1.cell? ⟨w.heap.size,4,none⟩=some (.func (.func 206) #[] #[]):=kq;obtain⟨bG,BN,cO,BM⟩:kJ w1 (w.heap.size+1) 0 1 (J Z 0) (J Y 0):=⟨kq,kq,kq,kq⟩)
   |(go_at_call 206;refine kw (HR.out _) ?_))
  refine bodyPost_ret (v:=O #[J Z (z-1),J Y 20]) (by simp[results,Tryz.results225,go_sem,bG,cO]) rfl ⟨by simp,?_⟩
  exact kr
 ·go_enter func225,ntmps225
  go_wp2_with (first
   |(go_at_call 105;refine(HI.out _).mono ?_;rintro e w1 ⟨rfl,aj⟩;have Oi:w1.cell? ⟨w.heap.size,4,none⟩=some (.func (.func 206) #[] #[]):=kq;obtain⟨bG,BN,cO,BM⟩:kJ w1 (w.heap.size+1) 0 1 (J Z 0) (J Y 0):=⟨kq,kq,kq,kq⟩)
   |(go_at_call 206;refine kw (HR.out _) ?_))
  refine bodyPost_ret (v:=O #[J Z z,J Y 20]) (by simp[results,Tryz.results225,go_sem,bG,cO]) rfl ⟨by simp,?_⟩
  exact kr
theorem xW{p mn mx fb sp one inf sg nan:Int}(h:og p mn mx fb sp one inf sg nan)(md:Int)(sign z:Int)(sB U:Bool)(hs:sign=0∧z=inf∨sign=1∧z=sg+inf)(hsB:(sign==1)=sB)(hU:ru 3 sB true true true=U)(hz:1≤z)(hz1:z<18446744073709551616)(w:World):
  QR 225 #[O #[J Y p,J Y mn,J Y mx,J Y md,.func (.func 207) #[] #[]],J Y sign] w (O #[J Z (if U then z else z-1),J Y 20]):=by
 have HI:KR 105 #[O #[J Y p,J Y mn,J Y mx],J Y sign] (J Z z):=fun w=>gW h sign z hs w
 have HR:KW 207 #[X sB,X true,X true,X true] (X U):=fun w=>hU▸yP sB true true true w
 clear hU hs h
 cases U
 ·go_enter func225,ntmps225
  go_wp2_with (first
   |(go_at_call 105;refine(HI.out _).mono ?_;rintro e w1 ⟨rfl,aj⟩;have Oi:w1.cell? ⟨w.heap.size,4,none⟩=some (.func (.func 207) #[] #[]):=kq;obtain⟨bG,BN,cO,BM⟩:kJ w1 (w.heap.size+1) 0 1 (J Z 0) (J Y 0):=⟨kq,kq,kq,kq⟩)
   |(go_at_call 207;refine kw (HR.out _) ?_))
  refine bodyPost_ret (v:=O #[J Z (z-1),J Y 20]) (by simp[results,Tryz.results225,go_sem,bG,cO]) rfl ⟨by simp,?_⟩
  exact kr
 ·go_enter func225,ntmps225
  go_wp2_with (first
   |(go_at_call 105;refine(HI.out _).mono ?_;rintro e w1 ⟨rfl,aj⟩;have Oi:w1.cell? ⟨w.heap.size,4,none⟩=some (.func (.func 207) #[] #[]):=kq;obtain⟨bG,BN,cO,BM⟩:kJ w1 (w.heap.size+1) 0 1 (J Z 0) (J Y 0):=⟨kq,kq,kq,kq⟩)
   |(go_at_call 207;refine kw (HR.out _) ?_))
  refine bodyPost_ret (v:=O #[J Z z,J Y 20]) (by simp[results,Tryz.results225,go_sem,bG,cO]) rfl ⟨by simp,?_⟩
  exact kr
theorem uQ{p mn mx fb sp one inf sg nan:Int}(h:og p mn mx fb sp one inf sg nan)(md:Int)(sign z:Int)(sB U:Bool)(hs:sign=0∧z=inf∨sign=1∧z=sg+inf)(hsB:(sign==1)=sB)(hU:ru 4 sB true true true=U)(hz:1≤z)(hz1:z<18446744073709551616)(w:World):
  QR 225 #[O #[J Y p,J Y mn,J Y mx,J Y md,.func (.func 208) #[] #[]],J Y sign] w (O #[J Z (if U then z else z-1),J Y 20]):=by
 have HI:KR 105 #[O #[J Y p,J Y mn,J Y mx],J Y sign] (J Z z):=fun w=>gW h sign z hs w
 have HR:KW 208 #[X sB,X true,X true,X true] (X U):=fun w=>hU▸vI sB true true true w
 clear hU hs h
 cases U
 ·go_enter func225,ntmps225
  go_wp2_with (first
   |(go_at_call 105;refine(HI.out _).mono ?_;rintro e w1 ⟨rfl,aj⟩;have Oi:w1.cell? ⟨w.heap.size,4,none⟩=some (.func (.func 208) #[] #[]):=kq;obtain⟨bG,BN,cO,BM⟩:kJ w1 (w.heap.size+1) 0 1 (J Z 0) (J Y 0):=⟨kq,kq,kq,kq⟩)
   |(go_at_call 208;refine kw (HR.out _) ?_))
  refine bodyPost_ret (v:=O #[J Z (z-1),J Y 20]) (by simp[results,Tryz.results225,go_sem,bG,cO]) rfl ⟨by simp,?_⟩
  exact kr
 ·go_enter func225,ntmps225
  go_wp2_with (first
   |(go_at_call 105;refine(HI.out _).mono ?_;rintro e w1 ⟨rfl,aj⟩;have Oi:w1.cell? ⟨w.heap.size,4,none⟩=some (.func (.func 208) #[] #[]):=kq;obtain⟨bG,BN,cO,BM⟩:kJ w1 (w.heap.size+1) 0 1 (J Z 0) (J Y 0):=⟨kq,kq,kq,kq⟩)
   |(go_at_call 208;refine kw (HR.out _) ?_))
  refine bodyPost_ret (v:=O #[J Z z,J Y 20]) (by simp[results,Tryz.results225,go_sem,bG,cO]) rfl ⟨by simp,?_⟩
  exact kr
theorem Dx{p mn mx fb sp one inf sg nan:Int}(h:og p mn mx fb sp one inf sg nan)(md:Int)(mode:Int)(k:Nat)(hk:pU mode k)(sign:Int)(hs:sign=0∨sign=1)(w:World):
  QR 225 #[O #[J Y p,J Y mn,J Y mx,J Y md,.func (.func k) #[] #[]],J Y sign] w (O #[J Z (sv sign sg (iw inf mode sign)),J Y 20]):=by
 have b:0<inf∧inf<sg∧sg≤9223372036854775808:=by rcases h with h|h<;>omega
 obtain⟨z,hz⟩:∃z,sign=0∧z=inf∨sign=1∧z=sg+inf:=by
  rcases hs with rfl|rfl
  ·exact⟨inf,.inl ⟨rfl,rfl⟩⟩
  ·exact⟨sg+inf,.inr ⟨rfl,rfl⟩⟩
 have fin:∀x w',(x=Ending.returned (O #[J Z (if ru mode (sign==1) true true true then z else z-1),J Y 20])∧Gr w w')→(x=Ending.returned (O #[J Z (sv sign sg (iw inf mode sign)),J Y 20])∧Gr w w'):=by
  rintro x w' ⟨rfl,hg⟩
  refine⟨?_,hg⟩
  have e:(if ru mode (sign==1) true true true then z else z-1)=sv sign sg (iw inf mode sign):=by
   rcases hz with⟨rfl,rfl⟩|⟨rfl,rfl⟩<;>rcases hk with⟨rfl,_⟩|⟨rfl,_⟩|⟨rfl,_⟩|⟨rfl,_⟩|⟨rfl,_⟩<;>simp[ru,sv,iw]<;>omega
  rw[e]
 rcases hk with⟨rfl,rfl⟩|⟨rfl,rfl⟩|⟨rfl,rfl⟩|⟨rfl,rfl⟩|⟨rfl,rfl⟩
 ·exact(qI h md sign z _ _ hz rfl rfl om om w).mono (fun x w' h=>fin x w' h)
 ·exact(qJ h md sign z _ _ hz rfl rfl om om w).mono (fun x w' h=>fin x w' h)
 ·exact(rZ h md sign z _ _ hz rfl rfl om om w).mono (fun x w' h=>fin x w' h)
 ·exact(xW h md sign z _ _ hz rfl rfl om om w).mono (fun x w' h=>fin x w' h)
 ·exact(uQ h md sign z _ _ hz rfl rfl om om w).mono (fun x w' h=>fin x w' h)
theorem dI{p mn mx fb sp one inf sg nan:Int}(h:og p mn mx fb sp one inf sg nan)(w:World):
  QR 176 #[O #[J Y p,J Y mn,J Y mx]] w (O #[J Z nan,J Y 1]):=by
 have HN:KR 103 #[O #[J Y p,J Y mn,J Y mx]] (J Z nan):=fun w=>yA h w
 clear h
 go_enter func176,ntmps176
 go_wp2_with (go_at_call 103;refine(HN.out _).mono ?_;rintro e w1 ⟨rfl,aj⟩;obtain⟨bG,BN,cO,BM⟩:kJ w1 (w.heap.size+1) 0 1 (J Z 0) (J Y 0):=⟨kq,kq,kq,kq⟩)
 refine bodyPost_ret (v:=O #[J Z nan,J Y 1]) (by simp[results,Tryz.results176,go_sem,bG,cO]) rfl ⟨rfl,?_⟩
 exact kr
theorem aCU(M:Nat)(hM:M<340282366920938463463374607431768211456):bl (M:Int)=(nb M:Int):=by
 unfold bl
 by_cases h:(M:Int)/18446744073709551616=0
 ·rw[if_pos h]
  have e:((M:Int)%18446744073709551616).toNat =M:=om
  rw[e,rV M (by omega)]
 ·rw[if_neg h]
  have e:((M:Int)/18446744073709551616).toNat =M/18446744073709551616:=om
  have h2:=uU M 64 (by simp only[Nat.reducePow];omega)
  simp only[Nat.reducePow]at h2
  rw[e,rV _ om,h2];omega
theorem RY(M:Nat)(hM:M<340282366920938463463374607431768211456)(w:World):
  QR 224 #[O #[J Z ((M/18446744073709551616:Nat):Int),J Z ((M%18446744073709551616:Nat):Int)]] w (J Y (128-(nb M:Int))):=by
 have e0:((M/18446744073709551616:Nat):Int)*18446744073709551616+((M%18446744073709551616:Nat):Int)=(M:Int):=om
 have:=BH ((M/18446744073709551616:Nat):Int) ((M%18446744073709551616:Nat):Int) om om om om w
 rw[aBs _ _ om om om om,e0,aCU M hM]at this
 exact this
theorem and_one(kl:Nat)(h:kl<18446744073709551616):bits .and Z (kl:Int) 1=((kl%2:Nat):Int):=by
 have:=u64_and_nat kl 1 h om
 rw[show((1:Nat):Int)=1 from rfl]at this
 rw[this,Nat.and_one_is_mod]
theorem aBV(mode sign:Int)(M lo d:Nat)(rest:Bool)(m0:0≤mode)(m1:mode≤4)(hs:sign=0∨sign=1):
  ru mode (sign==1) ((((lo%2:Nat):Int))==1) (decide (M/2^(d-1)%2≠0)) (decide (M%2^(d-1)≠0)||rest)=up mode sign lo (hr M d rest)∧
  ((decide (M/2^(d-1)%2≠0))||(decide (M%2^(d-1)≠0)||rest))=decide (0<hr M d rest):=by
 obtain⟨H,hH⟩:∃H,M/2^(d-1)%2=H:=⟨_,rfl⟩
 obtain⟨R,hR⟩:∃R,M%2^(d-1)=R:=⟨_,rfl⟩
 have hH2:H=0∨H=1:=by have:=Nat.mod_lt (M/2^(d-1)) (show 0<2 by decide);omega
 have hL:lo%2=0∨lo%2=1:=om
 unfold hr
 rw[hH,hR]
 unfold up ru
 rcases(show mode=0∨mode=1∨mode=2∨mode=3∨mode=4 by omega)with rfl|rfl|rfl|rfl|rfl<;>rcases hs with rfl|rfl<;>rcases hH2 with rfl|rfl<;>rcases hL with hL|hL<;>rw[hL]<;>cases rest<;>by_cases hz:R=0<;>simp[hz]
theorem qH(mode:Int)(k:Nat)(hk:pU mode k)(sign:Int)(hs:sign=0∨sign=1)(M:Nat)(hM:M<340282366920938463463374607431768211456)(e q drop:Int)(sticky:Bool)(hd:drop=q-e)(d0:-128≤drop)(d1:drop≤1000000)(hst:drop≤0→sticky=false)(hlo:aT M e q<18446744073709551615)(w:World):
  QR 161 #[.func (.func k) #[] #[],J Y drop,J Y sign,O #[J Z ((M/18446744073709551616:Nat):Int),J Z ((M%18446744073709551616:Nat):Int)],X sticky] w (V #[J Z ((chosen mode sign (aT M e q) (aG M e q sticky):Nat):Int),X (decide (0<aG M e q sticky))]):=by
 have m01:0≤mode∧mode≤4:=by rcases hk with h|h|h|h|h<;>omega
 by_cases hq:q≤e
 ·have hst':=hst om
  subst hst'
  have WH:aT M e q=M*2^(e-q).toNat :=by unfold aT;rw[if_pos hq]
  have ZV:aG M e q false=0:=by unfold aG;rw[if_pos hq];rfl
  have eCh:chosen mode sign (aT M e q) 0=M*2^(e-q).toNat :=by
   rw[WH];unfold chosen up
   rw[if_neg (by simp)];rfl
  rw[ZV,eCh]
  rw[WH]at hlo
  refine(Fj M hM drop sign false (e-q).toNat _ om d0 om om w).mono ?_
  rintro x w' ⟨rfl,hg⟩
  exact⟨by simp,hg⟩
 ·obtain⟨d,hdd⟩:∃d:Nat,q-e=(d:Int):=⟨(q-e).toNat,om⟩
  have d1':1≤d:=om
  have WH:aT M e q=M/2^d:=by unfold aT;rw[if_neg hq,hdd];rfl
  have ZV:aG M e q sticky=hr M d sticky:=by unfold aG;rw[if_neg hq,hdd];rfl
  rw[WH]at hlo
  rw[WH,ZV]
  obtain⟨hU,hI⟩:=aBV mode sign M (M/2^d) d sticky m01.1 m01.2 hs
  have hHd:M/2^(d-1)/2^1=M/2^d:=by
   rw[Nat.div_div_eq_div_mul,←Nat.pow_add,show d-1+1=d by omega]
  have hb:M/2^(d-1)<340282366920938463463374607431768211456:=Nat.lt_of_le_of_lt (Nat.div_le_self _ _) hM
  have Iu:KR 192 #[O #[J Z ((M/18446744073709551616:Nat):Int),J Z ((M%18446744073709551616:Nat):Int)],J Y (drop-1)] (V #[O #[J Z ((M/2^(d-1)/18446744073709551616:Nat):Int),J Z ((M/2^(d-1)%18446744073709551616:Nat):Int)],X (decide (M%2^(d-1)≠0))]):=fun w=>by
   rw[show drop-1=((d-1:Nat):Int) by omega]
   exact aAr M hM (d-1) w
  have HS2:KR 192 #[O #[J Z ((M/2^(d-1)/18446744073709551616:Nat):Int),J Z ((M/2^(d-1)%18446744073709551616:Nat):Int)],J Y 1] (V #[O #[J Z ((M/2^d/18446744073709551616:Nat):Int),J Z ((M/2^d%18446744073709551616:Nat):Int)],X (decide (M/2^(d-1)%2≠0))]):=fun w=>by
   have:=aAr (M/2^(d-1)) hb 1 w
   rw[hHd,Nat.pow_one]at this
   exact this
  have hK:M/2^d%18446744073709551616=M/2^d:=Nat.mod_eq_of_lt om
  rw[hK]at HS2
  have hfin:∀x w',(x=Ending.returned (V #[J Z (((M/2^d:Nat):Int)+(if up mode sign (M/2^d) (hr M d sticky)then 1 else 0)),X (decide (M/2^(d-1)%2≠0)||(decide (M%2^(d-1)≠0)||sticky))])∧Gr w w')→
    (x=Ending.returned (V #[J Z ((chosen mode sign (M/2^d) (hr M d sticky):Nat):Int),X (decide (0<hr M d sticky))])∧Gr w w'):=by
   rintro x w' ⟨rfl,hg⟩
   refine⟨?_,hg⟩
   rw[hI]
   unfold chosen
   split<;>simp
  rcases hk with⟨rfl,rfl⟩|⟨rfl,rfl⟩|⟨rfl,rfl⟩|⟨rfl,rfl⟩|⟨rfl,rfl⟩
  ·exact(rX _ _ _ _ _ _ drop sign _ _ _ sticky _ _ _ _ om d1 rfl (and_one _ om) rfl rfl om om hU Iu HS2 w).mono (fun x w' h=>hfin x w' h)
  ·exact(rY _ _ _ _ _ _ drop sign _ _ _ sticky _ _ _ _ om d1 rfl (and_one _ om) rfl rfl om om hU Iu HS2 w).mono (fun x w' h=>hfin x w' h)
  ·exact(sU _ _ _ _ _ _ drop sign _ _ _ sticky _ _ _ _ om d1 rfl (and_one _ om) rfl rfl om om hU Iu HS2 w).mono (fun x w' h=>hfin x w' h)
  ·exact(zl _ _ _ _ _ _ drop sign _ _ _ sticky _ _ _ _ om d1 rfl (and_one _ om) rfl rfl om om hU Iu HS2 w).mono (fun x w' h=>hfin x w' h)
  ·exact(vZ _ _ _ _ _ _ drop sign _ _ _ sticky _ _ _ _ om d1 rfl (and_one _ om) rfl rfl om om hU Iu HS2 w).mono (fun x w' h=>hfin x w' h)
theorem WW{p mn mx:Int}(m0:-1022≤mn)(m1:mn≤0)(md:Int)(k:Nat)(top sign e mh ml:Int)(sticky:Bool)(hne:(top==mn-1)=false)(w:World):
  QR 226 #[O #[J Y p,J Y mn,J Y mx,J Y md,.func (.func k) #[] #[]],J Y top,J Y sign,J Y e,O #[J Z mh,J Z ml],X sticky] w (X (decide (top<mn))):=by
 go_enter func226,ntmps226
 go_wp2
 go_returns
 exact⟨rfl,kr⟩
theorem WX{p mn mx fb sp one inf sg nan:Int}(h:og p mn mx fb sp one inf sg nan)(md:Int)(k:Nat)(top sign e mh ml a1 dr r2:Int)(sticky b2 tb:Bool)(htop:top=mn-1)(e0:-200000≤e)(e1:e≤200000)(ha:top-fb=a1)(hdr:a1-e=dr)(r0:0≤r2)(r1:r2<18446744073709551616)(htb:tb=decide (r2<2*one))
  (HAt:KR 161 #[.func (.func k) #[] #[],J Y dr,J Y sign,O #[J Z mh,J Z ml],X sticky] (V #[J Z r2,X b2])) (w:World):
  QR 226 #[O #[J Y p,J Y mn,J Y mx,J Y md,.func (.func k) #[] #[]],J Y top,J Y sign,J Y e,O #[J Z mh,J Z ml],X sticky] w (X tb):=by
 have HF:KR 187 #[O #[J Y p,J Y mn,J Y mx]] (J Y fb):=fun w=>kX h w
 have tb2:-2000≤top∧top≤0:=by rcases h with h|h<;>omega
 have u1:IntKind.i64.wrap (top-fb)=a1:=by rw[ha];exact kQ _ (by rcases h with h|h<;>omega) (by rcases h with h|h<;>omega)
 have u2:IntKind.i64.wrap (a1-e)=dr:=by rw[hdr];exact kQ _ (by rcases h with h|h<;>omega) (by rcases h with h|h<;>omega)
 have HT:Hid (tb=decide (r2<2*one)):=htb
 clear ha hdr htb
 rcases h with⟨rfl,rfl,rfl,rfl,rfl,rfl,rfl,rfl,rfl⟩|⟨rfl,rfl,rfl,rfl,rfl,rfl,rfl,rfl,rfl⟩
 ·have heq:(top== -127)=true:=by simp;omega
  clear htop
  go_enter func226,ntmps226
  go_wp2
  go_region_held3 (fun w'=>w'.cell? ⟨w.heap.size,0,none⟩=some (J Y 24)∧w'.cell? ⟨w.heap.size,1,none⟩=some (J Y (-126))∧w'.cell? ⟨w.heap.size,2,none⟩=some (J Y 127)∧w'.cell? ⟨w.heap.size,3,none⟩=some (J Y md)∧w'.cell? ⟨w.heap.size,4,none⟩=some (.func (.func k) #[] #[])∧w'.cell? ⟨w.heap.size+1,0,none⟩=some (J Z mh)∧w'.cell? ⟨w.heap.size+1,1,none⟩=some (J Z ml))
   ((go_split_ands;(repeat' apply And.intro)<;>exact kl))
   (first
    |(go_at_call 187;refine(HF.out _).mono ?_;rintro e w1 ⟨rfl,aj⟩;have aCD:=aj.cells;have aCC:=aj.aQ;have UL:=aj.size;(try simp only[World.size_alloc,World.size_drew,World.size_setCell]at UL))
    |(go_at_call 161;refine(HAt.out _).mono ?_;rintro e w2 ⟨rfl,ak⟩;have CP:=ak.cells;have CO:=ak.aQ;have oK:=ak.size;(try simp only[World.size_alloc,World.size_drew,World.size_setCell]at oK)))
  all_goals (try go_split_ands)
  all_goals go_wp2
  all_goals go_returns
  all_goals
   refine⟨aU (congrArg Value.bool ?_),kr⟩
   rw[HT.out]
   first
    |(rw[Bool.eq_iff_iff];simp;omega)
    |(by_cases c:r2<16777216<;>first|(rw[decide_eq_true (by omega)];simp;omega)|(rw[decide_eq_false (by omega)];simp;omega))
 ·have heq:(top== -1023)=true:=by simp;omega
  clear htop
  go_enter func226,ntmps226
  go_wp2
  go_region_held3 (fun w'=>w'.cell? ⟨w.heap.size,0,none⟩=some (J Y 53)∧w'.cell? ⟨w.heap.size,1,none⟩=some (J Y (-1022))∧w'.cell? ⟨w.heap.size,2,none⟩=some (J Y 1023)∧w'.cell? ⟨w.heap.size,3,none⟩=some (J Y md)∧w'.cell? ⟨w.heap.size,4,none⟩=some (.func (.func k) #[] #[])∧w'.cell? ⟨w.heap.size+1,0,none⟩=some (J Z mh)∧w'.cell? ⟨w.heap.size+1,1,none⟩=some (J Z ml))
   ((go_split_ands;(repeat' apply And.intro)<;>exact kl))
   (first
    |(go_at_call 187;refine(HF.out _).mono ?_;rintro e w1 ⟨rfl,aj⟩;have aCD:=aj.cells;have aCC:=aj.aQ;have UL:=aj.size;(try simp only[World.size_alloc,World.size_drew,World.size_setCell]at UL))
    |(go_at_call 161;refine(HAt.out _).mono ?_;rintro e w2 ⟨rfl,ak⟩;have CP:=ak.cells;have CO:=ak.aQ;have oK:=ak.size;(try simp only[World.size_alloc,World.size_drew,World.size_setCell]at oK)))
  all_goals (try go_split_ands)
  all_goals go_wp2
  all_goals go_returns
  all_goals
   refine⟨aU (congrArg Value.bool ?_),kr⟩
   rw[HT.out]
   first
    |(rw[Bool.eq_iff_iff];simp;omega)
    |(by_cases c:r2<9007199254740992<;>first|(rw[decide_eq_true (by omega)];simp;omega)|(rw[decide_eq_false (by omega)];simp;omega))
