import Derived.Test.YtnbbfeknbfohhaaGreatDoorB0
import Derived.Test.YtnbbfeknbfohhaaGreatDoorA2
import Derived.Deep.RegionHeld3
import Derived.Laws.BitsAllLaws
import Derived.Test.YtnbbfeknbfohhaaGreatDoorA7
import Derived.Test.YtnbbfeknbfohhaaGreatDoorA1
set_option linter.unusedVariables false
set_option linter.unusedSimpArgs false
set_option maxRecDepth 1000000
set_option maxHeartbeats 40000000
open Go.Value renaming int → J, agg → O
open Go.IntKind renaming i64 → Y, u64 → Z
open Go.Proofs.Tryz
namespace Go.Proofs.YtnbbfeknbfohhaaGreatDoor
open Go.RowKit
def og(p mn mx fb sp one inf sg nan:Int):Prop:=
 (p=24∧mn=-126∧mx=127∧fb=23∧sp=31∧one=8388608∧inf=2139095040∧sg=2147483648∧nan=2143289344)∨
 (p=53∧mn=-1022∧mx=1023∧fb=52∧sp=63∧one=4503599627370496∧inf=9218868437227405312∧sg=9223372036854775808∧nan=9221120237041090560)
theorem kQ(n:Int)(h0:-9223372036854775808≤n)(h1:n<9223372036854775808):IntKind.i64.wrap n=n:=wi
theorem wu64(n:Int)(h0:0≤n)(h1:n<18446744073709551616):IntKind.u64.wrap n=n:=wu
theorem VL(x:Int)(h0:0≤x)(h1:x<18446744073709551616)(w:World):
  CT 209 #[J Z x] w fun e w'=>e=.returned (J Y (Go.Lib.bitLen x.toNat:Int))∧w'=w:=by
 go_enter func209,ntmps209
 go_wp2_with (go_at_call 234;refine(rM x h0 h1 _).mono ?_;rintro e w' ⟨rfl,rfl⟩)
 go_ret
 exact⟨rfl,rfl⟩
theorem xE(x z:Int)(h0:0≤x)(h1:x<18446744073709551616)(hz:(Go.Lib.bitLen x.toNat:Int)=z)(w:World):
  CT 209 #[J Z x] w fun e w'=>e=.returned (J Y z)∧w'=w:=hz▸VL x h0 h1 w
theorem kX{p mn mx fb sp one inf sg nan:Int}(h:og p mn mx fb sp one inf sg nan)(w:World):
  QR 187 #[O #[J Y p,J Y mn,J Y mx]] w (J Y fb):=by
 rcases h with⟨rfl,rfl,rfl,rfl,rfl,rfl,rfl,rfl,rfl⟩|⟨rfl,rfl,rfl,rfl,rfl,rfl,rfl,rfl,rfl⟩
 all_goals
  go_enter func187,ntmps187
  go_wp2
  go_returns
  exact⟨rfl,kr⟩
theorem Jg{p mn mx fb sp one inf sg nan:Int}(h:og p mn mx fb sp one inf sg nan)(w:World):
  QR 159 #[O #[J Y p,J Y mn,J Y mx]] w (J Y sp):=by
 have HF:=fun w=>kX h w
 have HL:∃l:Int,(∀w,CT 209 #[J Z mx] w fun e w'=>e=.returned (J Y l)∧w'=w)∧fb+l+1=sp:=by
  rcases h with⟨rfl,rfl,rfl,rfl,rfl,rfl,rfl,rfl,rfl⟩|⟨rfl,rfl,rfl,rfl,rfl,rfl,rfl,rfl,rfl⟩
  ·exact⟨7,fun w=>xE 127 7 om om (by decide+kernel) w,rfl⟩
  ·exact⟨10,fun w=>xE 1023 10 om om (by decide+kernel) w,rfl⟩
 have hb:0≤mx∧mx≤1023∧0≤fb∧fb≤52∧0≤sp∧sp≤63:=by rcases h with h|h<;>omega
 obtain⟨l,HL,hl⟩:=HL
 have HFF:Hid _:=HF
 have HLL:Hid _:=HL
 clear HF HL h
 obtain rfl:sp=fb+l+1:=hl.symm
 clear hl
 have u1:IntKind.u64.wrap mx=mx:=wu
 have u2:IntKind.i64.wrap (fb+l)=fb+l:=kQ _ om om
 have u3:IntKind.i64.wrap (fb+l+1)=fb+l+1:=kQ _ om om
 go_enter func159,ntmps159
 go_wp2
 go_region_held3 (fun w'=>w'.cell? ⟨w.heap.size,0,none⟩=some (J Y p)∧w'.cell? ⟨w.heap.size,1,none⟩=some (J Y mn)∧w'.cell? ⟨w.heap.size,2,none⟩=some (J Y mx))
  ((go_split_ands;(repeat' apply And.intro)<;>exact kl))
  (first
   |(go_at_call 187;refine(HFF.out _).mono ?_;rintro e w3 ⟨rfl,aA⟩;have qj:=aA.cells;have qh:=aA.aQ;have iI:=aA.size;(try simp only[World.size_alloc,World.size_drew,World.size_setCell]at iI))
   |(go_at_call 209;refine(HLL.out _).mono ?_;rintro e w4 ⟨rfl,hw⟩;rw[hw];clear hw))
 all_goals go_wp2
 all_goals go_returns
 all_goals exact⟨rfl,kr⟩
theorem og.cases{p mn mx fb sp one inf sg nan:Int}(h:og p mn mx fb sp one inf sg nan):sp=31∨sp=63:=by rcases h with h|h<;>omega
theorem jX{p mn mx fb sp one inf sg nan:Int}(h:og p mn mx fb sp one inf sg nan)(s z:Int)(hs:s=0∧z=0∨s=1∧z=sg)(w:World):
  QR 106 #[O #[J Y p,J Y mn,J Y mx],J Y s] w (J Z z):=by
 have HF:KR 159 #[O #[J Y p,J Y mn,J Y mx]] (J Y sp):=fun w=>Jg h w
 rcases h with⟨rfl,rfl,rfl,rfl,rfl,rfl,rfl,rfl,rfl⟩|⟨rfl,rfl,rfl,rfl,rfl,rfl,rfl,rfl,rfl⟩<;>rcases hs with⟨rfl,rfl⟩|⟨rfl,rfl⟩
 all_goals
  go_enter func106,ntmps106
  go_wp2_with (go_at_call 159;refine(HF.out _).mono ?_;rintro e w3 ⟨rfl,aA⟩)
  go_returns
  exact⟨rfl,kr⟩
theorem fits_any{p mn mx fb sp one inf sg nan:Int}(h:og p mn mx fb sp one inf sg nan)(W:Int)(h0:0≤W)(h1:W<18446744073709551616)(w:World):
  QR 72 #[O #[J Y p,J Y mn,J Y mx],J Z W] w (.bool (decide (W<2*sg))):=by
 have HF:KR 159 #[O #[J Y p,J Y mn,J Y mx]] (J Y sp):=fun w=>Jg h w
 rcases h with⟨rfl,rfl,rfl,rfl,rfl,rfl,rfl,rfl,rfl⟩|⟨rfl,rfl,rfl,rfl,rfl,rfl,rfl,rfl,rfl⟩
 all_goals
  go_enter func72,ntmps72
  go_wp2_with (go_at_call 159;refine(HF.out _).mono ?_;rintro e w3 ⟨rfl,aA⟩)
  go_returns
  refine⟨aU (congrArg Value.bool ?_),kr⟩
  first
   |rfl
   |(refine decide_eq_decide.mpr ?_;omega)
   |(rw[decide_eq_true om,decide_eq_true (by omega)])
   |(symm;refine decide_eq_true ?_;omega)
theorem Jh{p mn mx fb sp one inf sg nan:Int}(h:og p mn mx fb sp one inf sg nan)(W:Int)(h0:0≤W)(h1:W<2*sg)(w:World):
  QR 107 #[O #[J Y p,J Y mn,J Y mx],J Z W] w (J Y (W/sg)):=by
 have HF:KR 159 #[O #[J Y p,J Y mn,J Y mx]] (J Y sp):=fun w=>Jg h w
 rcases h with⟨rfl,rfl,rfl,rfl,rfl,rfl,rfl,rfl,rfl⟩|⟨rfl,rfl,rfl,rfl,rfl,rfl,rfl,rfl,rfl⟩
 all_goals
  go_enter func107,ntmps107
  go_wp2_with (go_at_call 159;refine(HF.out _).mono ?_;rintro e w3 ⟨rfl,aA⟩)
  go_returns
  exact⟨aU (congrArg (Value.int IntKind.i64) (by first|rfl|omega)),kr⟩
theorem VW(W:Int)(h0:0≤W)(h1:W<18446744073709551616):bits .andNot Z W 9223372036854775808=W%9223372036854775808:=by
 obtain⟨A,rfl⟩:=Int.eq_ofNat_of_zero_le h0
 have e:=u64_andNot_nat A 9223372036854775808 om om
 rw[show((9223372036854775808:Nat):Int)=9223372036854775808 from rfl]at e
 rw[e,show 18446744073709551615-9223372036854775808=2^63-1 from rfl,Nat.and_two_pow_sub_one_eq_mod]
 omega
theorem VX(W:Int)(h0:0≤W)(h1:W<4294967296):bits .andNot Z W 2147483648=W%2147483648:=by
 obtain⟨A,rfl⟩:=Int.eq_ofNat_of_zero_le h0
 have e:=u64_andNot_nat A 2147483648 om om
 rw[show((2147483648:Nat):Int)=2147483648 from rfl]at e
 have e1:A&&&(2^32-1)=A:=by rw[Nat.and_two_pow_sub_one_eq_mod];omega
 have e2:A&&&(18446744073709551615-2147483648)=A%2^31:=by
  rw[←e1,Nat.and_assoc,show(2^32-1)&&&(18446744073709551615-2147483648)=2^31-1 from by decide,Nat.and_two_pow_sub_one_eq_mod,e1]
 rw[e,e2]
 omega
theorem BA{p mn mx fb sp one inf sg nan:Int}(h:og p mn mx fb sp one inf sg nan)(W:Int)(h0:0≤W)(h1:W<2*sg)(w:World):
  QR 104 #[O #[J Y p,J Y mn,J Y mx],J Z W] w (J Z (W%sg)):=by
 have HF:KR 106 #[O #[J Y p,J Y mn,J Y mx],J Y 1] (J Z sg):=fun w=>jX h 1 sg (.inr ⟨rfl,rfl⟩) w
 rcases h with⟨rfl,rfl,rfl,rfl,rfl,rfl,rfl,rfl,rfl⟩|⟨rfl,rfl,rfl,rfl,rfl,rfl,rfl,rfl,rfl⟩
 all_goals
  go_enter func104,ntmps104
  go_wp2_with (go_at_call 106;refine(HF.out _).mono ?_;rintro e w3 ⟨rfl,aA⟩)
  go_returns
  refine⟨aU (congrArg (Value.int IntKind.u64) ?_),kr⟩
  first|exact VX W h0 om|exact VW W h0 om
theorem gW{p mn mx fb sp one inf sg nan:Int}(h:og p mn mx fb sp one inf sg nan)(s z:Int)(hs:s=0∧z=inf∨s=1∧z=sg+inf)(w:World):
  QR 105 #[O #[J Y p,J Y mn,J Y mx],J Y s] w (J Z z):=by
 have HF:KR 187 #[O #[J Y p,J Y mn,J Y mx]] (J Y fb):=fun w=>kX h w
 have HZ:∃y:Int,KR 106 #[O #[J Y p,J Y mn,J Y mx],J Y s] (J Z y)∧((s=0∧y=0)∨(s=1∧y=sg)):=by
  rcases hs with⟨rfl,rfl⟩|⟨rfl,rfl⟩
  ·exact⟨0,fun w=>jX h 0 0 (.inl ⟨rfl,rfl⟩) w,.inl ⟨rfl,rfl⟩⟩
  ·exact⟨sg,fun w=>jX h 1 sg (.inr ⟨rfl,rfl⟩) w,.inr ⟨rfl,rfl⟩⟩
 obtain⟨y,HZ,hy⟩:=HZ
 obtain⟨m2,m3,m4,hm2,hm3,hm4,hor,hb⟩:∃m2 m3 m4:Int,IntKind.i64.wrap (2*mx)=m2∧IntKind.i64.wrap (m2+1)=m3∧IntKind.u64.wrap (m3*2^fb.toNat)=m4∧bits .or Z y m4=z∧0≤m3∧m3≤3000∧0≤fb∧fb≤52:=by
  rcases h with⟨rfl,rfl,rfl,rfl,rfl,rfl,rfl,rfl,rfl⟩|⟨rfl,rfl,rfl,rfl,rfl,rfl,rfl,rfl,rfl⟩<;>rcases hs with⟨rfl,rfl⟩|⟨h1,rfl⟩<;>rcases hy with⟨hy1,rfl⟩|⟨hy1,rfl⟩<;>first
   |(exfalso;omega)
   |exact⟨_,_,_,rfl,rfl,rfl,by decide+kernel,de,de,de,de⟩
 have hm5:IntKind.u64.wrap m3=m3:=wu64 _ om om
 have hfb:¬fb<0:=om
 have HM4:Hid _:=hm4
 clear h hs hy
 go_enter func105,ntmps105
 go_wp2
 go_region_held3 (fun w'=>w'.cell? ⟨w.heap.size,0,none⟩=some (J Y p)∧w'.cell? ⟨w.heap.size,1,none⟩=some (J Y mn)∧w'.cell? ⟨w.heap.size,2,none⟩=some (J Y mx))
  ((go_split_ands;(repeat' apply And.intro)<;>exact kl))
  (first
   |(go_at_call 187;refine(HF.out _).mono ?_;rintro e w3 ⟨rfl,aA⟩;have qj:=aA.cells;have qh:=aA.aQ;have iI:=aA.size;(try simp only[World.size_alloc,World.size_drew,World.size_setCell]at iI))
   |(go_at_call 106;refine(HZ.out _).mono ?_;rintro e w4 ⟨rfl,aF⟩;have sJ:=aF.cells;have sH:=aF.aQ;have jH:=aF.size;(try simp only[World.size_alloc,World.size_drew,World.size_setCell]at jH)))
 all_goals go_wp2
 all_goals go_returns
 all_goals exact⟨rfl,kr⟩
theorem yA{p mn mx fb sp one inf sg nan:Int}(h:og p mn mx fb sp one inf sg nan)(w:World):
  QR 103 #[O #[J Y p,J Y mn,J Y mx]] w (J Z nan):=by
 have HF:KR 187 #[O #[J Y p,J Y mn,J Y mx]] (J Y fb):=fun w=>kX h w
 have HZ:KR 105 #[O #[J Y p,J Y mn,J Y mx],J Y 0] (J Z inf):=fun w=>gW h 0 inf (.inl ⟨rfl,rfl⟩) w
 obtain⟨m2,m4,hm2,hm4,hor,hb⟩:∃m2 m4:Int,IntKind.i64.wrap (fb-1)=m2∧IntKind.u64.wrap (1*2^m2.toNat)=m4∧bits .or Z inf m4=nan∧0≤m2∧m2≤52:=by
  rcases h with⟨rfl,rfl,rfl,rfl,rfl,rfl,rfl,rfl,rfl⟩|⟨rfl,rfl,rfl,rfl,rfl,rfl,rfl,rfl,rfl⟩
  ·exact⟨22,4194304,by decide+kernel,by decide+kernel,by decide+kernel,de,de⟩
  ·exact⟨51,2251799813685248,by decide+kernel,by decide+kernel,by decide+kernel,de,de⟩
 have aFi:IntKind.u64.wrap (2^m2.toNat)=m4:=by rw[←hm4,Int.one_mul]
 have hfb:¬m2<0:=om
 clear h
 go_enter func103,ntmps103
 go_wp2
 go_region_held3 (fun w'=>w'.cell? ⟨w.heap.size,0,none⟩=some (J Y p)∧w'.cell? ⟨w.heap.size,1,none⟩=some (J Y mn)∧w'.cell? ⟨w.heap.size,2,none⟩=some (J Y mx))
  ((go_split_ands;(repeat' apply And.intro)<;>exact kl))
  (first
   |(go_at_call 187;refine(HF.out _).mono ?_;rintro e w3 ⟨rfl,aA⟩;have qj:=aA.cells;have qh:=aA.aQ;have iI:=aA.size;(try simp only[World.size_alloc,World.size_drew,World.size_setCell]at iI))
   |(go_at_call 105;refine(HZ.out _).mono ?_;rintro e w4 ⟨rfl,aF⟩;have sJ:=aF.cells;have sH:=aF.aQ;have jH:=aF.size;(try simp only[World.size_alloc,World.size_drew,World.size_setCell]at jH)))
 all_goals go_wp2
 all_goals go_returns
 all_goals exact⟨rfl,kr⟩
def Fm(w:World):Prop:=
 w.cell? ⟨0,0,none⟩=some (J Y 24)∧w.cell? ⟨0,1,none⟩=some (J Y (-126))∧w.cell? ⟨0,2,none⟩=some (J Y 127)∧
 w.cell? ⟨0,3,none⟩=some (J Y 53)∧w.cell? ⟨0,4,none⟩=some (J Y (-1022))∧w.cell? ⟨0,5,none⟩=some (J Y 1023)
theorem Fm.gb{w w':World}(h:Fm w)(k:Gb w w'):Fm w':=⟨k.old h.1,k.old h.2.1,k.old h.2.2.1,k.old h.2.2.2.1,k.old h.2.2.2.2.1,k.old h.2.2.2.2.2⟩
theorem Fm.gr{w w':World}(h:Fm w)(k:Gr w w'):Fm w':=h.gb k.gb
theorem aI.m{f p mx one inf sg nan:Int}(h:aI f p mx one inf sg nan):∃mn fb sp,og p mn mx fb sp one inf sg nan∧mn=1-mx∧fb=p-1:=by
 rcases h with⟨rfl,rfl,rfl,rfl,rfl,rfl,rfl⟩|⟨rfl,rfl,rfl,rfl,rfl,rfl,rfl⟩
 ·exact⟨_,_,_,.inl ⟨rfl,rfl,rfl,rfl,rfl,rfl,rfl,rfl,rfl⟩,rfl,rfl⟩
 ·exact⟨_,_,_,.inr ⟨rfl,rfl,rfl,rfl,rfl,rfl,rfl,rfl,rfl⟩,rfl,rfl⟩
theorem vF{f p mx one inf sg nan mn fb sp:Int}(h:aI f p mx one inf sg nan)(hm:og p mn mx fb sp one inf sg nan){w:World}(hw:Fm w):
  QR 102 #[J Y f] w (.tuple #[O #[J Y p,J Y mn,J Y mx],.bool true]):=by
 obtain⟨c0,c1,c2,c3,c4,c5⟩:=hw
 have hsz:=au c0
 rcases h with⟨rfl,rfl,rfl,rfl,rfl,rfl,rfl⟩|⟨rfl,rfl,rfl,rfl,rfl,rfl,rfl⟩<;>rcases hm with⟨h1,rfl,h2,rfl,rfl,h3,h4,h5,h6⟩|⟨h1,rfl,h2,rfl,rfl,h3,h4,h5,h6⟩
 ·clear h1 h2 h3 h4 h5 h6
  go_enter func102,ntmps102
  go_wp2
  go_returns
  exact⟨rfl,kr⟩
 ·exfalso;omega
 ·exfalso;omega
 ·clear h1 h2 h3 h4 h5 h6
  go_enter func102,ntmps102
  go_wp2
  go_returns
  exact⟨rfl,kr⟩
theorem GX(f:Int)(h:¬(f=0∨f=1))(w:World):
  QR 102 #[J Y f] w (.tuple #[O #[J Y 0,J Y 0,J Y 0],.bool false]):=by
 rcases(show f<0∨2≤f by omega)with c|c
 all_goals
  clear h
  go_enter func102,ntmps102
  go_wp2
  go_returns
  exact⟨rfl,kr⟩
theorem Ea{p mn mx fb sp one inf sg nan:Int}(h:og p mn mx fb sp one inf sg nan)(s c:Int)(c0:0≤c)(c1:c<one)(L:Int)(k:Nat)(hL:(Go.Lib.bitLen c.toNat:Int)=L)(hk:p-L=(k:Int))(k1:k≤53)(g:Int)(hg:c*2^k=g)(g0:0≤g)(g1:g<9007199254740992)(w:World):
  QR 210 #[O #[J Y p,J Y mn,J Y mx],J Y s,J Z c] w (O #[J Y 1,J Y s,J Y (mn-fb-k),J Z g]):=by
 have c2:c<9007199254740992:=by rcases h with h|h<;>omega
 have HF:KR 187 #[O #[J Y p,J Y mn,J Y mx]] (J Y fb):=fun w=>kX h w
 have HL:Hid (∀w,CT 234 #[J Z c] w fun e w'=>e=.returned (J Y L)∧w'=w):=fun w=>hL▸rM c c0 om w
 have u1:IntKind.i64.wrap (p-L)=(k:Int):=by rw[hk];exact kQ _ om om
 have u2:IntKind.u64.wrap (c*2^k)=g:=by rw[hg];exact wu64 _ g0 om
 have u6:¬(k:Int)<0:=om
 have hd:c/one=0:=Int.ediv_eq_zero_of_lt c0 c1
 have hmax:max (-1:Int) 0=0:=de
 have u4:IntKind.i64.wrap (mn-fb)=mn-fb:=kQ _ (by rcases h with h|h<;>omega) (by rcases h with h|h<;>omega)
 have u5:IntKind.i64.wrap (mn-fb-k)=mn-fb-k:=kQ _ (by rcases h with h|h<;>omega) (by rcases h with h|h<;>omega)
 clear hL hk hg
 rcases h with⟨rfl,rfl,rfl,rfl,rfl,rfl,rfl,rfl,rfl⟩|⟨rfl,rfl,rfl,rfl,rfl,rfl,rfl,rfl,rfl⟩
 ·have v1:IntKind.i64.wrap (-126)=-126:=de
  have v2:IntKind.i64.wrap (-149)=-149:=de
  have v3:IntKind.i64.wrap (-149-k)=-149-k:=kQ _ om om
  go_enter func210,ntmps210
  go_wp2_with (go_at_call 187;refine(HF.out _).mono ?_;rintro e w3 ⟨rfl,aA⟩;obtain⟨r0,r1,r2⟩:qo w3 w.heap.size 0 1 2 (J Y 24) (J Y (-126)) (J Y 127):=⟨kq,kq,kq⟩;obtain⟨r3,r4,r5,r6⟩:rW w3 (w.heap.size+1) 0 1 2 3 (J Y 0) (J Y 0) (J Y 0) (J Z 0):=⟨kq,kq,kq,kq⟩;have z3:w3.frozen? ⟨w.heap.size+1,0,none⟩=false:=kq;have z4:w3.frozen? ⟨w.heap.size+1,1,none⟩=false:=kq;have z5:w3.frozen? ⟨w.heap.size+1,2,none⟩=false:=kq;have z6:w3.frozen? ⟨w.heap.size+1,3,none⟩=false:=kq)
  go_region_held3 (fun w'=>w'.cell? ⟨w.heap.size,0,none⟩=some (J Y 24)∧w'.cell? ⟨w.heap.size,1,none⟩=some (J Y (-126))∧w'.cell? ⟨w.heap.size,2,none⟩=some (J Y 127)∧w'.cell? ⟨w.heap.size+1,0,none⟩=some (J Y 0)∧w'.cell? ⟨w.heap.size+1,1,none⟩=some (J Y 0)∧w'.cell? ⟨w.heap.size+1,2,none⟩=some (J Y 0)∧w'.cell? ⟨w.heap.size+1,3,none⟩=some (J Z 0)∧w'.frozen? ⟨w.heap.size+1,0,none⟩=false∧w'.frozen? ⟨w.heap.size+1,1,none⟩=false∧w'.frozen? ⟨w.heap.size+1,2,none⟩=false∧w'.frozen? ⟨w.heap.size+1,3,none⟩=false)
   ((go_split_ands;(repeat' apply And.intro)<;>exact kl))
   (first
    |(go_at_call 187;refine(HF.out _).mono ?_;rintro e w5 ⟨rfl,aJ⟩;have U3:=aJ.cells;have U0:=aJ.aQ;have zW:=aJ.size;(try simp only[World.size_alloc,World.size_drew,World.size_setCell]at zW))
    |(go_at_call 234;refine(HL.out _).mono ?_;rintro e w6 ⟨rfl,hw⟩;rw[hw];clear hw))
  all_goals go_wp2
  go_region_held3 (fun w'=>w'.cell? ⟨w.heap.size,0,none⟩=some (J Y 24)∧w'.cell? ⟨w.heap.size,1,none⟩=some (J Y (-126))∧w'.cell? ⟨w.heap.size,2,none⟩=some (J Y 127))
   ((go_split_ands;(repeat' apply And.intro)<;>exact kl))
   (first
    |(go_at_call 187;refine(HF.out _).mono ?_;rintro e w7 ⟨rfl,gU⟩;have U2:=gU.cells;have UZ:=gU.aQ;have zV:=gU.size;(try simp only[World.size_alloc,World.size_drew,World.size_setCell]at zV);have s0:w7.cell? ⟨w.heap.size+1,0,none⟩=some (J Y 0):=(by go_split_ands;exact kq);have y0:w7.frozen? ⟨w.heap.size+1,0,none⟩=false:=(by go_split_ands;exact kq);have s1:w7.cell? ⟨w.heap.size+1,1,none⟩=some (J Y 0):=(by go_split_ands;exact kq);have y1:w7.frozen? ⟨w.heap.size+1,1,none⟩=false:=(by go_split_ands;exact kq);have s2:w7.cell? ⟨w.heap.size+1,2,none⟩=some (J Y 0):=(by go_split_ands;exact kq);have y2:w7.frozen? ⟨w.heap.size+1,2,none⟩=false:=(by go_split_ands;exact kq);have s3:w7.cell? ⟨w.heap.size+1,3,none⟩=some (J Z 0):=(by go_split_ands;exact kq);have y3:w7.frozen? ⟨w.heap.size+1,3,none⟩=false:=(by go_split_ands;exact kq))
    |(go_at_call 234;refine(HL.out _).mono ?_;rintro e w8 ⟨rfl,hw⟩;rw[hw];clear hw))
  all_goals go_wp2
  all_goals
   refine bodyPost_ret (v:=O #[J Y 1,J Y s,J Y (-126-23-k),J Z g]) (by simp[results,Tryz.results210,go_sem,s0,s1,s2,s3]) rfl ⟨rfl,?_⟩
   exact kr
 ·have v1:IntKind.i64.wrap (-1022)=-1022:=de
  have v2:IntKind.i64.wrap (-1074)=-1074:=de
  have v3:IntKind.i64.wrap (-1074-k)=-1074-k:=kQ _ om om
  go_enter func210,ntmps210
  go_wp2_with (go_at_call 187;refine(HF.out _).mono ?_;rintro e w3 ⟨rfl,aA⟩;obtain⟨r0,r1,r2⟩:qo w3 w.heap.size 0 1 2 (J Y 53) (J Y (-1022)) (J Y 1023):=⟨kq,kq,kq⟩;obtain⟨r3,r4,r5,r6⟩:rW w3 (w.heap.size+1) 0 1 2 3 (J Y 0) (J Y 0) (J Y 0) (J Z 0):=⟨kq,kq,kq,kq⟩;have z3:w3.frozen? ⟨w.heap.size+1,0,none⟩=false:=kq;have z4:w3.frozen? ⟨w.heap.size+1,1,none⟩=false:=kq;have z5:w3.frozen? ⟨w.heap.size+1,2,none⟩=false:=kq;have z6:w3.frozen? ⟨w.heap.size+1,3,none⟩=false:=kq)
  go_region_held3 (fun w'=>w'.cell? ⟨w.heap.size,0,none⟩=some (J Y 53)∧w'.cell? ⟨w.heap.size,1,none⟩=some (J Y (-1022))∧w'.cell? ⟨w.heap.size,2,none⟩=some (J Y 1023)∧w'.cell? ⟨w.heap.size+1,0,none⟩=some (J Y 0)∧w'.cell? ⟨w.heap.size+1,1,none⟩=some (J Y 0)∧w'.cell? ⟨w.heap.size+1,2,none⟩=some (J Y 0)∧w'.cell? ⟨w.heap.size+1,3,none⟩=some (J Z 0)∧w'.frozen? ⟨w.heap.size+1,0,none⟩=false∧w'.frozen? ⟨w.heap.size+1,1,none⟩=false∧w'.frozen? ⟨w.heap.size+1,2,none⟩=false∧w'.frozen? ⟨w.heap.size+1,3,none⟩=false)
   ((go_split_ands;(repeat' apply And.intro)<;>exact kl))
   (first
    |(go_at_call 187;refine(HF.out _).mono ?_;rintro e w5 ⟨rfl,aJ⟩;have U3:=aJ.cells;have U0:=aJ.aQ;have zW:=aJ.size;(try simp only[World.size_alloc,World.size_drew,World.size_setCell]at zW))
    |(go_at_call 234;refine(HL.out _).mono ?_;rintro e w6 ⟨rfl,hw⟩;rw[hw];clear hw))
  all_goals go_wp2
  go_region_held3 (fun w'=>w'.cell? ⟨w.heap.size,0,none⟩=some (J Y 53)∧w'.cell? ⟨w.heap.size,1,none⟩=some (J Y (-1022))∧w'.cell? ⟨w.heap.size,2,none⟩=some (J Y 1023))
   ((go_split_ands;(repeat' apply And.intro)<;>exact kl))
   (first
    |(go_at_call 187;refine(HF.out _).mono ?_;rintro e w7 ⟨rfl,gU⟩;have U2:=gU.cells;have UZ:=gU.aQ;have zV:=gU.size;(try simp only[World.size_alloc,World.size_drew,World.size_setCell]at zV);have s0:w7.cell? ⟨w.heap.size+1,0,none⟩=some (J Y 0):=(by go_split_ands;exact kq);have y0:w7.frozen? ⟨w.heap.size+1,0,none⟩=false:=(by go_split_ands;exact kq);have s1:w7.cell? ⟨w.heap.size+1,1,none⟩=some (J Y 0):=(by go_split_ands;exact kq);have y1:w7.frozen? ⟨w.heap.size+1,1,none⟩=false:=(by go_split_ands;exact kq);have s2:w7.cell? ⟨w.heap.size+1,2,none⟩=some (J Y 0):=(by go_split_ands;exact kq);have y2:w7.frozen? ⟨w.heap.size+1,2,none⟩=false:=(by go_split_ands;exact kq);have s3:w7.cell? ⟨w.heap.size+1,3,none⟩=some (J Z 0):=(by go_split_ands;exact kq);have y3:w7.frozen? ⟨w.heap.size+1,3,none⟩=false:=(by go_split_ands;exact kq))
    |(go_at_call 234;refine(HL.out _).mono ?_;rintro e w8 ⟨rfl,hw⟩;rw[hw];clear hw))
  all_goals go_wp2
  all_goals
   refine bodyPost_ret (v:=O #[J Y 1,J Y s,J Y (-1022-52-k),J Z g]) (by simp[results,Tryz.results210,go_sem,s0,s1,s2,s3]) rfl ⟨rfl,?_⟩
   exact kr
theorem KH{p mn mx fb sp one inf sg nan:Int}(h:og p mn mx fb sp one inf sg nan)(s mag q c:Int)(q0:0≤q)(hd:mag/one=q+1)(m0:0≤mag)(m1:mag<inf)(hc:mag-q*one=c)(c0:0≤c)(c2:c<9007199254740992)(L:Int)(k:Nat)(hL:(Go.Lib.bitLen c.toNat:Int)=L)(hk:p-L=(k:Int))(k1:k≤53)(g:Int)(hg:c*2^k=g)(g0:0≤g)(g1:g<9007199254740992)(w:World):
  QR 210 #[O #[J Y p,J Y mn,J Y mx],J Y s,J Z mag] w (O #[J Y 1,J Y s,J Y (mn+q-fb-k),J Z g]):=by
 have HF:KR 187 #[O #[J Y p,J Y mn,J Y mx]] (J Y fb):=fun w=>kX h w
 have HL:Hid (∀w,CT 234 #[J Z c] w fun e w'=>e=.returned (J Y L)∧w'=w):=fun w=>hL▸rM c c0 om w
 have u1:IntKind.i64.wrap (p-L)=(k:Int):=by rw[hk];exact kQ _ om om
 have u2:IntKind.u64.wrap (c*2^k)=g:=by rw[hg];exact wu64 _ g0 om
 have u6:¬(k:Int)<0:=om
 have q1:q<10000:=by rcases h with⟨rfl,rfl,rfl,rfl,rfl,rfl,rfl,rfl,rfl⟩|⟨rfl,rfl,rfl,rfl,rfl,rfl,rfl,rfl,rfl⟩<;>omega
 have hmax:max q 0=q:=om
 have u3:IntKind.i64.wrap (mn+q)=mn+q:=kQ _ (by rcases h with h|h<;>omega) (by rcases h with h|h<;>omega)
 have u4:IntKind.i64.wrap (mn+q-fb)=mn+q-fb:=kQ _ (by rcases h with h|h<;>omega) (by rcases h with h|h<;>omega)
 have u5:IntKind.i64.wrap (mn+q-fb-k)=mn+q-fb-k:=kQ _ (by rcases h with h|h<;>omega) (by rcases h with h|h<;>omega)
 clear hL hk hg
 rcases h with⟨rfl,rfl,rfl,rfl,rfl,rfl,rfl,rfl,rfl⟩|⟨rfl,rfl,rfl,rfl,rfl,rfl,rfl,rfl,rfl⟩
 ·have v1:IntKind.i64.wrap (-126)=-126:=de
  have v2:IntKind.i64.wrap (-149)=-149:=de
  have v3:IntKind.i64.wrap (-149-k)=-149-k:=kQ _ om om
  go_enter func210,ntmps210
  go_wp2_with (go_at_call 187;refine(HF.out _).mono ?_;rintro e w3 ⟨rfl,aA⟩;obtain⟨r0,r1,r2⟩:qo w3 w.heap.size 0 1 2 (J Y 24) (J Y (-126)) (J Y 127):=⟨kq,kq,kq⟩;obtain⟨r3,r4,r5,r6⟩:rW w3 (w.heap.size+1) 0 1 2 3 (J Y 0) (J Y 0) (J Y 0) (J Z 0):=⟨kq,kq,kq,kq⟩;have z3:w3.frozen? ⟨w.heap.size+1,0,none⟩=false:=kq;have z4:w3.frozen? ⟨w.heap.size+1,1,none⟩=false:=kq;have z5:w3.frozen? ⟨w.heap.size+1,2,none⟩=false:=kq;have z6:w3.frozen? ⟨w.heap.size+1,3,none⟩=false:=kq)
  go_region_held3 (fun w'=>w'.cell? ⟨w.heap.size,0,none⟩=some (J Y 24)∧w'.cell? ⟨w.heap.size,1,none⟩=some (J Y (-126))∧w'.cell? ⟨w.heap.size,2,none⟩=some (J Y 127)∧w'.cell? ⟨w.heap.size+1,0,none⟩=some (J Y 0)∧w'.cell? ⟨w.heap.size+1,1,none⟩=some (J Y 0)∧w'.cell? ⟨w.heap.size+1,2,none⟩=some (J Y 0)∧w'.cell? ⟨w.heap.size+1,3,none⟩=some (J Z 0)∧w'.frozen? ⟨w.heap.size+1,0,none⟩=false∧w'.frozen? ⟨w.heap.size+1,1,none⟩=false∧w'.frozen? ⟨w.heap.size+1,2,none⟩=false∧w'.frozen? ⟨w.heap.size+1,3,none⟩=false)
   ((go_split_ands;(repeat' apply And.intro)<;>exact kl))
   (first
    |(go_at_call 187;refine(HF.out _).mono ?_;rintro e w5 ⟨rfl,aJ⟩;have U3:=aJ.cells;have U0:=aJ.aQ;have zW:=aJ.size;(try simp only[World.size_alloc,World.size_drew,World.size_setCell]at zW))
    |(go_at_call 234;refine(HL.out _).mono ?_;rintro e w6 ⟨rfl,hw⟩;rw[hw];clear hw))
  all_goals go_wp2
  go_region_held3 (fun w'=>w'.cell? ⟨w.heap.size,0,none⟩=some (J Y 24)∧w'.cell? ⟨w.heap.size,1,none⟩=some (J Y (-126))∧w'.cell? ⟨w.heap.size,2,none⟩=some (J Y 127))
   ((go_split_ands;(repeat' apply And.intro)<;>exact kl))
   (first
    |(go_at_call 187;refine(HF.out _).mono ?_;rintro e w7 ⟨rfl,gU⟩;have U2:=gU.cells;have UZ:=gU.aQ;have zV:=gU.size;(try simp only[World.size_alloc,World.size_drew,World.size_setCell]at zV);have s0:w7.cell? ⟨w.heap.size+1,0,none⟩=some (J Y 0):=(by go_split_ands;exact kq);have y0:w7.frozen? ⟨w.heap.size+1,0,none⟩=false:=(by go_split_ands;exact kq);have s1:w7.cell? ⟨w.heap.size+1,1,none⟩=some (J Y 0):=(by go_split_ands;exact kq);have y1:w7.frozen? ⟨w.heap.size+1,1,none⟩=false:=(by go_split_ands;exact kq);have s2:w7.cell? ⟨w.heap.size+1,2,none⟩=some (J Y 0):=(by go_split_ands;exact kq);have y2:w7.frozen? ⟨w.heap.size+1,2,none⟩=false:=(by go_split_ands;exact kq);have s3:w7.cell? ⟨w.heap.size+1,3,none⟩=some (J Z 0):=(by go_split_ands;exact kq);have y3:w7.frozen? ⟨w.heap.size+1,3,none⟩=false:=(by go_split_ands;exact kq))
    |(go_at_call 234;refine(HL.out _).mono ?_;rintro e w8 ⟨rfl,hw⟩;rw[hw];clear hw))
  all_goals go_wp2
  all_goals
   refine bodyPost_ret (v:=O #[J Y 1,J Y s,J Y (-126+q-23-k),J Z g]) (by simp[results,Tryz.results210,go_sem,s0,s1,s2,s3]) rfl ⟨rfl,?_⟩
   exact kr
 ·have v1:IntKind.i64.wrap (-1022)=-1022:=de
  have v2:IntKind.i64.wrap (-1074)=-1074:=de
  have v3:IntKind.i64.wrap (-1074-k)=-1074-k:=kQ _ om om
  go_enter func210,ntmps210
  go_wp2_with (go_at_call 187;refine(HF.out _).mono ?_;rintro e w3 ⟨rfl,aA⟩;obtain⟨r0,r1,r2⟩:qo w3 w.heap.size 0 1 2 (J Y 53) (J Y (-1022)) (J Y 1023):=⟨kq,kq,kq⟩;obtain⟨r3,r4,r5,r6⟩:rW w3 (w.heap.size+1) 0 1 2 3 (J Y 0) (J Y 0) (J Y 0) (J Z 0):=⟨kq,kq,kq,kq⟩;have z3:w3.frozen? ⟨w.heap.size+1,0,none⟩=false:=kq;have z4:w3.frozen? ⟨w.heap.size+1,1,none⟩=false:=kq;have z5:w3.frozen? ⟨w.heap.size+1,2,none⟩=false:=kq;have z6:w3.frozen? ⟨w.heap.size+1,3,none⟩=false:=kq)
  go_region_held3 (fun w'=>w'.cell? ⟨w.heap.size,0,none⟩=some (J Y 53)∧w'.cell? ⟨w.heap.size,1,none⟩=some (J Y (-1022))∧w'.cell? ⟨w.heap.size,2,none⟩=some (J Y 1023)∧w'.cell? ⟨w.heap.size+1,0,none⟩=some (J Y 0)∧w'.cell? ⟨w.heap.size+1,1,none⟩=some (J Y 0)∧w'.cell? ⟨w.heap.size+1,2,none⟩=some (J Y 0)∧w'.cell? ⟨w.heap.size+1,3,none⟩=some (J Z 0)∧w'.frozen? ⟨w.heap.size+1,0,none⟩=false∧w'.frozen? ⟨w.heap.size+1,1,none⟩=false∧w'.frozen? ⟨w.heap.size+1,2,none⟩=false∧w'.frozen? ⟨w.heap.size+1,3,none⟩=false)
   ((go_split_ands;(repeat' apply And.intro)<;>exact kl))
   (first
    |(go_at_call 187;refine(HF.out _).mono ?_;rintro e w5 ⟨rfl,aJ⟩;have U3:=aJ.cells;have U0:=aJ.aQ;have zW:=aJ.size;(try simp only[World.size_alloc,World.size_drew,World.size_setCell]at zW))
    |(go_at_call 234;refine(HL.out _).mono ?_;rintro e w6 ⟨rfl,hw⟩;rw[hw];clear hw))
  all_goals go_wp2
  go_region_held3 (fun w'=>w'.cell? ⟨w.heap.size,0,none⟩=some (J Y 53)∧w'.cell? ⟨w.heap.size,1,none⟩=some (J Y (-1022))∧w'.cell? ⟨w.heap.size,2,none⟩=some (J Y 1023))
   ((go_split_ands;(repeat' apply And.intro)<;>exact kl))
   (first
    |(go_at_call 187;refine(HF.out _).mono ?_;rintro e w7 ⟨rfl,gU⟩;have U2:=gU.cells;have UZ:=gU.aQ;have zV:=gU.size;(try simp only[World.size_alloc,World.size_drew,World.size_setCell]at zV);have s0:w7.cell? ⟨w.heap.size+1,0,none⟩=some (J Y 0):=(by go_split_ands;exact kq);have y0:w7.frozen? ⟨w.heap.size+1,0,none⟩=false:=(by go_split_ands;exact kq);have s1:w7.cell? ⟨w.heap.size+1,1,none⟩=some (J Y 0):=(by go_split_ands;exact kq);have y1:w7.frozen? ⟨w.heap.size+1,1,none⟩=false:=(by go_split_ands;exact kq);have s2:w7.cell? ⟨w.heap.size+1,2,none⟩=some (J Y 0):=(by go_split_ands;exact kq);have y2:w7.frozen? ⟨w.heap.size+1,2,none⟩=false:=(by go_split_ands;exact kq);have s3:w7.cell? ⟨w.heap.size+1,3,none⟩=some (J Z 0):=(by go_split_ands;exact kq);have y3:w7.frozen? ⟨w.heap.size+1,3,none⟩=false:=(by go_split_ands;exact kq))
    |(go_at_call 234;refine(HL.out _).mono ?_;rintro e w8 ⟨rfl,hw⟩;rw[hw];clear hw))
  all_goals go_wp2
  all_goals
   refine bodyPost_ret (v:=O #[J Y 1,J Y s,J Y (-1022+q-52-k),J Z g]) (by simp[results,Tryz.results210,go_sem,s0,s1,s2,s3]) rfl ⟨rfl,?_⟩
   exact kr
