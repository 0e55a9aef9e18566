import Derived.Test.YtnbbfeknbfohhaaGreatDoorA1
import Derived.Test.YtnbbfeknbfohhaaGreatDoorRows
import Derived.WalkSpells
import Derived.WalkLawsBesides
import Derived.Test.YtnbbfeknbfohhaaGreatDoorA7
import Derived.Deep.DeepCutAuto
import Derived.Deep.Cut
import Derived.Test.YtnbbfeknbfohhaaGreatDoorB0
import Derived.Deep.RegionHeld3
set_option linter.unusedVariables false
set_option linter.unusedSimpArgs false
set_option maxHeartbeats 40000000
open Go.Value renaming int → J
open Go.IntKind renaming i64 → Y
open Go.Proofs.Tryz
namespace Go.Proofs.YtnbbfeknbfohhaaGreatDoor
open Go.RowKit
structure pV (w:World) (a:Option Addr) (len:Nat):Prop where
 few:len≤1048576
 cells:len=0∨∃b off,a=some ⟨b,off,none⟩∧∀i,i<len→∃z:Int,0≤z∧z≤255∧w.cell? ⟨b,off+i,none⟩=some (J .u8 z)
theorem pV.gr{w w':World}{a:Option Addr}{len:Nat}(h:pV w a len)(g:Gr w w'):pV w' a len:=by
 refine⟨h.few,?_⟩
 rcases h.cells with e|⟨b,off,e,c⟩
 ·exact .inl e
 ·refine .inr ⟨b,off,e,fun i hi=>?_⟩
  obtain⟨z,z0,z1,hz⟩:=c i hi
  exact⟨z,z0,z1,g.old hz⟩
theorem Ja(x n:Int)(hx:0≤x)(hn:0<n):0≤Int.tmod x n∧Int.tmod x n<n:=by
 rw[Int.tmod_eq_emod_of_nonneg hx]
 exact⟨Int.emod_nonneg _ om,Int.emod_lt_of_pos _ hn⟩
theorem take_zero(a:Option Addr)(cap:Nat)(p n:Int)(hp0:0≤p)(hp1:p≤1000)(hn0:0<n)(hn1:n≤256)(w:World):
  QW 48 #[.slice a 0 cap,J Y p,J Y n] w (.tuple #[J Y 0,J Y (p+1)]):=by
 go_enter func48,ntmps48
 go_wp2
 go_returns
 exact⟨rfl,rfl⟩
theorem WY(b off len cap:Nat)(k:Nat)(n z:Int)(hlen:len≤1048576)(hk:k<len)(hk1:k≤1000)(hn0:0<n)(hn1:n≤256)(w:World)(z0:0≤z)(z1:z≤255)(hz:w.cell? ⟨b,off+k,none⟩=some (J .u8 z)):
  QW 48 #[.slice (some ⟨b,off,none⟩) len cap,J Y k,J Y n] w (.tuple #[J Y (z%n),J Y (k+1)]):=by
 have e0:((len:Int)==0)=false:=by simp;omega
 have e1:(k:Int)<(len:Int):=om
 go_enter func48,ntmps48
 go_wp2
 go_returns
 exact⟨rfl,rfl⟩
theorem WL(a b:Nat)(ha:a<4294967296)(hb:b<4294967296):0≤bits .xor Y (a:Int) (b:Int):=by
 have hx:a^^^b<2^32:=Nat.xor_lt_two_pow om om
 show 0≤IntKind.i64.wrap ((BitVec.ofInt 64 (a:Int)^^^BitVec.ofInt 64 (b:Int)).toNat :Int)
 rw[BitVec.toNat_xor,ofInt_u64 a om,ofInt_u64 b om,IntKind.wrap_i64]
 omega
structure rD (w:World) (a:Option Addr) (len:Nat) (c:Nat→Int):Prop where
 few:len≤1048576
 cells:len=0∨∃b off,a=some ⟨b,off,none⟩∧∀i,i<len→0≤c i∧c i≤255∧w.cell? ⟨b,off+i,none⟩=some (J .u8 (c i))
theorem pV.is{w:World}{a:Option Addr}{len:Nat}(h:pV w a len):∃c,rD w a len c:=by
 rcases h.cells with e|⟨b,off,e,k⟩
 ·exact⟨fun _=>0,h.few,.inl e⟩
 ·refine⟨fun i=>if hi:i<len then Classical.choose (k i hi)else 0,h.few,.inr ⟨b,off,e,fun i hi=>?_⟩⟩
  rw[dif_pos hi]
  exact Classical.choose_spec (k i hi)
theorem rD.gb{w w':World}{a:Option Addr}{len:Nat}{c:Nat→Int}(h:rD w a len c)(g:Gb w w'):rD w' a len c:=by
 refine⟨h.few,?_⟩
 rcases h.cells with e|⟨b,off,e,k⟩
 ·exact .inl e
 ·exact .inr ⟨b,off,e,fun i hi=>⟨(k i hi).1,(k i hi).2.1,g.old (k i hi).2.2⟩⟩
def tkX(c:Nat→Int)(len k:Nat):Int:=c (k%len)*131+c ((k*7+3)%len)*1117+(k:Int)*29+(k:Int)/(len:Int)*53
def tk(c:Nat→Int)(len k:Nat)(n:Int):Int:=if len=0 then 0 else if k<len then c k%n else Int.tmod (bits .xor Y (tkX c len k) (tkX c len k/64)) n
theorem Tc(b off len cap:Nat)(k:Nat)(n z y T:Int)(hlen:len≤1048576)(hl:0<len)(hk:len≤k)(hk1:k≤1000)(hn0:0<n)(hn1:n≤256)(w:World)(z0:0≤z)(z1:z≤255)(y0:0≤y)(y1:y≤255)
  (hz:w.cell? ⟨b,off+k%len,none⟩=some (J .u8 z)) (hy:w.cell? ⟨b,off+(k*7+3)%len,none⟩=some (J .u8 y))
  (hT:Int.tmod (bits .xor Y (z*131+y*1117+(k:Int)*29+(k:Int)/(len:Int)*53) ((z*131+y*1117+(k:Int)*29+(k:Int)/(len:Int)*53)/64)) n=T):
  (0≤T∧T<n)∧QW 48 #[.slice (some ⟨b,off,none⟩) len cap,J Y k,J Y n] w (.tuple #[J Y T,J Y (k+1)]):=by
 have e0:((len:Int)==0)=false:=by simp;omega
 have e1:¬(k:Int)<(len:Int):=om
 have m1:(k:Int).tmod (len:Int)=((k%len:Nat):Int):=by rw[Int.tmod_eq_emod_of_nonneg (by omega)];rfl
 have m2:((k:Int)*7+3).tmod (len:Int)=(((k*7+3)%len:Nat):Int):=by rw[Int.tmod_eq_emod_of_nonneg (by omega)];rfl
 have b1:=Nat.mod_lt k hl
 have b2:=Nat.mod_lt (k*7+3) hl
 have m3:=Int.emod_nonneg ((k:Int)*7+3) (show(len:Int)≠0 by omega)
 have m4:=Int.emod_lt_of_pos ((k:Int)*7+3) (show(0:Int)<len by omega)
 have d0:0≤(k:Int)/(len:Int):=Int.ediv_nonneg om om
 have d1:(k:Int)/(len:Int)≤1000:=by have:=Int.ediv_le_self (len:Int) (show(0:Int)≤k by omega);omega
 obtain⟨X,hX⟩:∃X,z*131+y*1117+(k:Int)*29+(k:Int)/(len:Int)*53=X:=⟨_,rfl⟩
 have X0:0≤X:=om
 have X1:X<4294967296:=om
 have HB:Hid (0≤bits .xor Y X (X/64)):=by
  obtain⟨N,rfl⟩:=Int.eq_ofNat_of_zero_le X0
  have:((N:Int)/64)=((N/64:Nat):Int):=om
  rw[this];exact WL N (N/64) om om
 have HT:Hid _:=hT
 clear hT
 constructor
 ·have:=Ja _ n HB.out hn0
  rw[←hX,HT.out]at this
  exact this
 ·go_enter func48,ntmps48
  go_wp2
  go_returns
  have hT:=HT.out
  rw[hX]at hT
  subst hT
  exact⟨rfl,rfl⟩
theorem o8{a:Option Addr}{len:Nat}{c:Nat→Int}(cap k:Nat)(n:Int){w:World}(hC:rD w a len c)(hk1:k≤1000)(hn0:0<n)(hn1:n≤256):
  (0≤tk c len k n∧tk c len k n<n)∧QW 48 #[.slice a len cap,J Y k,J Y n] w (.tuple #[J Y (tk c len k n),J Y ((k+1:Nat):Int)]):=by
 have ek:((k+1:Nat):Int)=(k:Int)+1:=om
 rw[ek]
 unfold tk
 by_cases hl:len=0
 ·subst hl
  rw[if_pos rfl]
  exact⟨⟨om,hn0⟩,take_zero a cap k n om om hn0 hn1 w⟩
 ·rw[if_neg hl]
  rcases hC.cells with e|⟨b,off,rfl,hc⟩
  ·omega
  ·by_cases h:k<len
   ·rw[if_pos h]
    obtain⟨z0,z1,hz⟩:=hc k h
    exact⟨⟨Int.emod_nonneg _ om,Int.emod_lt_of_pos _ hn0⟩,WY b off len cap k n _ hC.few h hk1 hn0 hn1 w z0 z1 hz⟩
   ·rw[if_neg h]
    obtain⟨z0,z1,hz⟩:=hc (k%len) (Nat.mod_lt _ om)
    obtain⟨y0,y1,hy⟩:=hc ((k*7+3)%len) (Nat.mod_lt _ om)
    exact Tc b off len cap k n _ _ _ hC.few om om hk1 hn0 hn1 w z0 z1 y0 y1 hz hy rfl
set_option maxRecDepth 1000000
theorem aH7{P:Prop}(h:P:=by
 go_wp2_with (go_at_call 48;refine(TX.out _ HC.out).mono ?_;rintro e w' ⟨rfl,hw⟩;subst hw)
 go_round
 case rel=>exact⟨i+1,_,om,by go_num,rfl,HS.out _ (by rw[HX.out]),by go_num⟩
 case measure=>simp[intOf]<;>omega):P:=h
theorem aH8{P:Prop}(h:P:=by
 rcases(show i=0∨i=7 by omega)with rfl|rfl
 all_goals
  go_wp2_with (go_at_call 48;refine(TX.out _ HC.out).mono ?_;rintro e w' ⟨rfl,hw⟩;subst hw)
  go_round
  case rel=>exact⟨_+1,_,om,by go_num,rfl,HS.out _ (by rw[HX.out]),by go_num⟩
  case measure=>simp[intOf]<;>omega):P:=h
theorem aH9{P:Prop}(h:P:=by
 go_wp2
 go_loop [10,13] (fun s10 s13=>∃(j:Nat) (x:Int),n≤j∧j≤64∧s10=J .u64 x∧Hid (dbN u (j-n)=x)∧s13=J Y j) (fun _ s=>64-(intOf s).toNat)
 case atStart=>exact⟨n,u,Nat.le_refl _,hn,rfl,(by show _=_;rw[Nat.sub_self];rfl),rfl⟩
 case round=>
  obtain⟨j,x,j0,j1,rfl,HX,rfl⟩:=hrel
  by_cases hj:(j:Int)<64
  ·go_wp2
   go_round
   case rel=>exact⟨j+1,_,om,om,rfl,(by show _=_;rw[show j+1-n=j-n+1 by omega];simp only[dbN];rw[HX.out]),by go_num⟩
   case measure=>simp[intOf]<;>omega
  ·have HX':Hid (dbN u (64-n)=x):=by have:=HX.out;rw[show j=64 by omega]at this;exact this
   have ux:bn x:=HX'.out▸aHK UB.out _
   have UX:Hid (bn x):=ux
   clear ux HX
   go_wp2
   go_loop [10,14] (fun s10 s14=>∃(j:Nat) (y:Int),n≤j∧j≤64∧s10=J .u64 y∧Hid (hvN x (j-n)=y)∧s14=J Y j) (fun _ s=>64-(intOf s).toNat)
   case atStart=>exact⟨n,x,Nat.le_refl _,hn,rfl,(by show _=_;rw[Nat.sub_self];rfl),rfl⟩
   case round=>
    obtain⟨j',y,j2,j3,rfl,HY,rfl⟩:=hrel
    have yb:bn y:=HY.out▸aGk UX.out _
    obtain⟨y0,y1⟩:=yb
    by_cases hj':(j':Int)<64
    ·go_wp2
     go_round
     case rel=>exact⟨j'+1,y/2,om,om,rfl,(by show _=_;rw[show j'+1-n=j'-n+1 by omega];simp only[hvN];rw[HY.out]),by go_num⟩
     case measure=>simp[intOf]<;>omega
    ·have HZ:Hid (R=y):=by have h1:=HU'.out;have h2:=HY.out;rw[HX'.out]at h1;rw[show j'=64 by omega]at h2;exact h1.symm.trans h2
     go_wp2
     go_returns
     rw[HZ.out,HE.out]
     exact⟨rfl,rfl⟩):P:=h
abbrev TK(a:Option Addr)(len cap:Nat)(c:Nat→Int)(k:Nat)(n x:Int):Prop:=Hid (∀w,rD w a len c→QW 48 #[.slice a len cap,J Y k,J Y n] w (.tuple #[J Y x,J Y ((k+1:Nat):Int)]))
theorem iZ{w0:World}{a:Option Addr}{len:Nat}{c:Nat→Int}(cap:Nat)(h0:rD w0 a len c)(k:Nat)(n:Int)(hk:k≤1000)(n0:0<n)(n1:n≤256):∃x,0≤x∧x<n∧TK a len cap c k n x:=
 ⟨tk c len k n,(o8 cap k n h0 hk n0 n1).1.1,(o8 cap k n h0 hk n0 n1).1.2,fun w hw=>(o8 cap k n hw hk n0 n1).2⟩
def bn(v:Int):Prop:=0≤v∧v<18446744073709551616
def btF(how x:Int)(i:Nat):Int:=if how=0∧0<i∧i<7 then 0 else if how=1∧0<i∧i<7 then 255 else x
def btW(how:Int)(xs:Nat→Int):Nat→Int
 |0=>0
 |i+1=>IntKind.u64.wrap (IntKind.u64.wrap (btW how xs i*256)+btF how (xs i) i)
def hvN(v:Int):Nat→Int
 |0=>v
 |j+1=>hvN v j/2
def dbN(v:Int):Nat→Int
 |0=>v
 |j+1=>IntKind.u64.wrap (dbN v j*2)
theorem aGJ(how:Int)(xs:Nat→Int):∀i,bn (btW how xs i)
 |0=>by unfold bn btW;omega
 |i+1=>by unfold bn btW;rw[IntKind.wrap_u64];omega
theorem aGk{v:Int}(h:bn v):∀i,bn (hvN v i)
 |0=>h
 |i+1=>by have:=aGk h i;unfold bn at*;simp only[hvN];omega
theorem aHK{v:Int}(h:bn v):∀i,bn (dbN v i)
 |0=>h
 |i+1=>by unfold bn;simp only[dbN];rw[IntKind.wrap_u64];omega
def btE(how x:Int)(xs:Nat→Int)(n:Nat):Int:=hvN (dbN (if how=2 then hvN (btW how xs 8) x.toNat else btW how xs 8) (64-n)) (64-n)
theorem aIm(how x:Int)(xs:Nat→Int)(n:Nat):bn (btE how x xs n):=by
 unfold btE
 refine aGk (aHK ?_ _) _
 split
 ·exact aGk (aGJ _ _ _) _
 ·exact aGJ _ _ _
theorem aGI(n:Nat)(hn:n≤64){w0:World}{a:Option Addr}{len:Nat}{c:Nat→Int}(cap:Nat)(h0:rD w0 a len c)(p:Nat)(hp:p≤900):
  ∃(v:Int) (k:Nat),bn v∧k≤p+10∧Hid (∀w,rD w a len c→QW 163 #[.slice a len cap,J Y p,J Y n] w (.tuple #[J .u64 v,J Y k])):=by
 obtain⟨how,hw0,hw1,T0⟩:=iZ cap h0 p 5 om om om
 have hxs:∀i:Nat,∃x,i<8→0≤x∧x<256∧TK a len cap c (p+1+i) 256 x:=fun i=>by
  by_cases h:i<8
  ·obtain⟨x,x0,x1,T⟩:=iZ cap h0 (p+1+i) 256 om om om
   exact⟨x,fun _=>⟨x0,x1,T⟩⟩
  ·exact⟨0,fun k=>absurd k h⟩
 obtain⟨xs,HXS⟩:∃xs:Nat→Int,Hid (∀i,i<8→0≤xs i∧xs i<256∧TK a len cap c (p+1+i) 256 (xs i)):=⟨fun i=>Classical.choose (hxs i),fun i hi=>Classical.choose_spec (hxs i) hi⟩
 clear hxs
 obtain⟨x9,y0,y1,T9⟩:=iZ cap h0 (p+1+8) 64 om om om
 have HB:=aIm how x9 xs n
 refine⟨btE how x9 xs n,if how=2 then p+1+8+1 else p+1+8,HB,by split<;>omega,fun w hC=>?_⟩
 have HC:Hid (rD w a len c):=hC
 clear hC h0 HB
 have HR:Hid (∀u,u=(if how=2 then hvN (btW how xs 8) x9.toNat else btW how xs 8)→hvN (dbN u (64-n)) (64-n)=btE how x9 xs n):=fun u hu=>by subst hu;rfl
 have HK:Hid ((how=2→(if how=2 then p+1+8+1 else p+1+8)=p+1+8+1)∧(¬how=2→(if how=2 then p+1+8+1 else p+1+8)=p+1+8)):=⟨fun h=>if_pos h,fun h=>if_neg h⟩
 generalize btE how x9 xs n=R at*
 generalize(if how=2 then p+1+8+1 else p+1+8)=E at*
 go_enter func163,ntmps163
 go_wp2_with (go_at_call 48;refine(T0.out _ HC.out).mono ?_;rintro e w' ⟨rfl,hw⟩;subst hw)
 go_loop [1,10,11] (fun s1 s10 s11=>∃(i:Nat) (v:Int),i≤8∧s1=J Y ((p+1+i:Nat):Int)∧s10=J .u64 v∧Hid (btW how xs i=v)∧s11=J Y i) (fun _ _ s=>8-(intOf s).toNat)
 case atStart=>exact⟨0,0,om,by go_num,rfl,rfl,rfl⟩
 case round=>
  obtain⟨i,v,hi,rfl,rfl,HV,rfl⟩:=hrel
  by_cases hlt:(i:Int)<8
  ·obtain⟨x0,x1,TX⟩:=HXS.out i om
   have HS:Hid (∀z,IntKind.u64.wrap (IntKind.u64.wrap (v*256)+btF how (xs i) i)=z→btW how xs (i+1)=z):=fun z hz=>by rw[←hz,←HV.out];rfl
   have HF:Hid (∀z,(how=0∧0<i∧i<7→z=0)→(how=1∧0<i∧i<7→z=255)→(¬(how=0∧0<i∧i<7)→¬(how=1∧0<i∧i<7)→z=xs i)→btF how (xs i) i=z):=fun z a b c=>by
    unfold btF
    split
    ·rename_i h;exact(a h).symm
    ·rename_i h
     split
     ·rename_i h';exact(b h').symm
     ·rename_i h';exact(c h h').symm
   generalize btF how (xs i) i=B at*
   generalize xs i=x at*
   rcases(show(how=0∧0<i∧i<7)∨(how=1∧0<i∧i<7)∨(¬(how=0∧0<i∧i<7)∧¬(how=1∧0<i∧i<7)) by omega)with⟨rfl,i0,i7⟩|⟨rfl,i0,i7⟩|⟨m1,m2⟩
   ·have HX:Hid (B=0):=HF.out 0 (fun _=>rfl) (fun h=>absurd h.1 de) (fun h _=>absurd ⟨rfl,i0,i7⟩ h)
    have i0':(0:Int)<(i:Int):=om
    have i7':(i:Int)<7:=om
    go_wp2_with (go_at_call 48;refine(TX.out _ HC.out).mono ?_;rintro e w' ⟨rfl,hw⟩;subst hw)
    go_round
    case rel=>exact⟨i+1,_,om,by go_num,rfl,HS.out _ (by rw[HX.out];simp),by go_num⟩
    case measure=>simp[intOf]<;>omega
   ·have HX:Hid (B=255):=HF.out 255 (fun h=>absurd h.1 de) (fun _=>rfl) (fun _ h=>absurd ⟨rfl,i0,i7⟩ h)
    have i0':(0:Int)<(i:Int):=om
    have i7':(i:Int)<7:=om
    exact aH7
   ·have HX:Hid (B=x):=HF.out x om om (fun _ _=>rfl)
    rcases(show how=0∨how=1∨((how==0)=false∧(how==1)=false) by simp;omega)with rfl|rfl|⟨e0,e1⟩
    ·exact aH8
    ·exact aH8
    ·exact aH7
  ·obtain rfl:i=8:=om
   by_cases h2:how=2
   ·subst h2
    go_wp2_with (go_at_call 48;refine(T9.out _ HC.out).mono ?_;rintro e w' ⟨rfl,hw⟩;subst hw)
    go_loop [10,12] (fun s10 s12=>∃(j:Nat) (u:Int),(j:Int)≤x9∧s10=J .u64 u∧Hid (hvN v j=u)∧s12=J Y j) (fun _ s=>(64-intOf s).toNat)
    case atStart=>exact⟨0,v,om,rfl,rfl,rfl⟩
    case round=>
     obtain⟨j,u,j1,rfl,HU,rfl⟩:=hrel
     have ub:=aGk (HV.out▸aGJ _ _ _:bn v) j
     rw[HU.out]at ub
     obtain⟨u0,u1⟩:=ub
     by_cases hj:(j:Int)<x9
     ·go_wp2
      go_round
      case rel=>exact⟨j+1,u/2,om,rfl,(show hvN v (j+1)=u/2 by simp only[hvN];rw[HU.out]),by go_num⟩
      case measure=>simp[intOf];omega
     ·have HU':Hid (hvN (dbN u (64-n)) (64-n)=R):=HR.out u (by first|rw[if_pos rfl,HV.out,show x9.toNat=j by omega,HU.out]|rw[if_pos trivial,HV.out,show x9.toNat=j by omega,HU.out])
      have HE:Hid (E=p+1+8+1):=(by first|exact HK.out.1 rfl|exact HK.out.1 trivial)
      have UB:Hid (bn u):=⟨u0,u1⟩
      clear HR HK HU HV
      exact aH9
   ·have e2:(how==2)=false:=by simp[h2]
    obtain⟨u,hu⟩:∃u,u=v:=⟨_,rfl⟩
    have HU':Hid (hvN (dbN u (64-n)) (64-n)=R):=HR.out u (by rw[if_neg h2,HV.out,hu])
    have HE:Hid (E=p+1+8):=HK.out.2 h2
    have UB:Hid (bn u):=(by rw[hu,←HV.out];exact aGJ _ _ _:bn u)
    clear h2 HR HK HV
    subst hu
    exact aH9
theorem aFD{w0:World}{a:Option Addr}{len:Nat}{c:Nat→Int}(cap:Nat)(h0:rD w0 a len c)(p:Nat)(hp:p≤900):
  ∃f m:Int,(-10≤f∧f≤10)∧(-10≤m∧m≤10)∧Hid (∀w,rD w a len c→QW 184 #[.slice a len cap,J Y p] w (.tuple #[J Y f,J Y m,J Y ((p+2:Nat):Int)])):=by
 obtain⟨x,c0,c1,T1⟩:=iZ cap h0 p 40 om om om
 obtain⟨d,d0,d1,T2⟩:=iZ cap h0 (p+1) 100 om om om
 clear h0
 rcases(show x=39∨(x==39)=false by simp;omega)with rfl|k1<;>rcases(show d=99∨(d==99)=false by simp;omega)with rfl|k2
 all_goals
  apply Exists.intro
  apply Exists.intro
  refine⟨?_,?_,fun w hC=>?_⟩
  rotate_left 2
  ·have HC:Hid (rD w a len c):=hC
   clear hC
   go_enter func184,ntmps184
   go_upto_region 3 with(go_at_call 48;refine(T1.out _ HC.out).mono ?_;rintro x w' ⟨rfl,hw⟩;subst hw)
   go_upto_region 4 with(go_at_call 48;refine(T2.out _ HC.out).mono ?_;rintro x w' ⟨rfl,hw⟩;subst hw)
   go_wp2
   go_returns
   refine⟨?_,rfl⟩
   simp[go_sem]
   exact⟨rfl,rfl,om⟩
  all_goals omega
