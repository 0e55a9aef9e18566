import Derived.Test.YtmiekgjgpmfekaaGreatDoorZs
import Derived.Test.YtmiekgjgpmfekaaGreatDoorQg
import Derived.Test.YtmiekgjgpmfekaaGreatDoorT9
import Derived.Test.YtmiekgjgpmfekaaGreatDoorCards
import Derived.Test.YtmiekgjgpmfekaaGreatDoorTie
import Derived.Lib.SmallJoins
import Derived.SevenTiedAt
set_option linter.all false
set_option maxRecDepth 1000000
set_option maxHeartbeats 40000000
open Go.Proofs.YtmiekgjgpmfekaaGreatDoor renaming vI → J, vU → Y
open Go.Ending renaming returned → Z
open Go.Value renaming slice → O
open Go.Proofs.Tryz
namespace Go.Proofs.YtmiekgjgpmfekaaGreatDoor
open Go.RowKit
theorem jH{P:Prop}(h:P:=by
 go_returns;exact⟨_,_,_,t,by assumption,by assumption,by assumption,om,rfl,kg⟩):P:=h
attribute [local go_sem] aj
section
variable [Inhabited Ch]
theorem Gx(a:Option Addr)(len cap:Nat)(w:World)(hC:dM w a len):
  CT 93 #[O a len cap] w fun e w'=>∃(mu inv sc:Int) (t:ByteArray),Wo mu/\Wo inv/\Wo sc/\t.size<=30000/\e=Z (.tuple #[Y mu,Y inv,Y sc,.string t])/\Gb w w':=by
 have hf:=nC;have HC:Hid (∀w',Gb w w'->dM w' a len):=fun w' g=>hC.g7 g;have HT0:Hid (CT 75 #[O a len cap,J 0,J 24] w fun e w'=>∃x:Int,0<=x/\x<24/\e=Z (.tuple #[J x,J 1])/\w=w'):=(take_any a len cap 0 24 w hC om om om).mono fun e w' ⟨x,h1,h2,h3,h4⟩=>⟨x,h1,h2,h3,h4⟩;have HW:Hid (∀n,-9223372036854775808<=n->n<=9223372036854775807->∀w,CT 40 #[J n] w fun e w'=>∃z,Wo z/\e=Z (Y z)/\Gb w w'):=fun n n0 n1 w=>(Iy n n0 n1 w).mono fun e w' ⟨h1,h2⟩=>⟨_,GX.int n,h1,h2⟩;have HM:Hid (∀x y,Wo x->Wo y->∀w,CT 42 #[Y x,Y y] w fun e w'=>∃z,Wo z/\e=Z (Y z)/\Gb w w'):=fun x y hx hy w=>(SE hx hy w).mono fun e w' ⟨h1,h2⟩=>⟨_,GX.mul hx hy,h1,h2⟩;have HD:Hid (∀x y,Wo x->Wo y->∀w,CT 45 #[J 1,J 0,Y x,Y y] w fun e w'=>∃z fl,Wo z/\e=Z (aK z fl)/\Gb w w'):=fun x y hx hy w=>(aB7 u_ x y hx.1 (by have:=hx.2;omega) hy.1 (by have:=hy.2;omega) w).mono fun e w' ⟨z,fl,h1,h2,h3⟩=>⟨z,fl,⟨h1.1,by have:=h1.2;omega⟩,h2,h3⟩;have HF:Hid (∀x,Wo x->∀w,CT 36 #[J 1,J 0,J 1,Y x] w fun e w'=>∃z fl,Wo z/\e=Z (aK z fl)/\Gb w w'):=fun x hx w=>(g_ 1 0 1 x hx.1 hx.2 w).mono fun e w' ⟨z,fl,h1,h2,h3⟩=>⟨z,fl,ZN h1,h2,h3⟩;have HH:Hid _:=ZG;have HN:KW 119 #[J 1] (Y 9221120237041090560):=fun w=>qY u_ w;have hh:Wo qo:=Wo.c _;clear hC;go_enter func93,ntmps93;go_upto_region 2 with(go_at_call 75;refine HT0.out.mono ?_;rintro e w' ⟨how,aKr,aKq,rfl,hw⟩;subst hw);go_upto_region 3 with(go_at_call 159;refine(wJ a len cap 1 44 om _ (HC _ (Gb.refl _)) om).mono ?_;rintro e w' ⟨mm,k1,m0,m1,hk1,rfl,hw⟩;subst hw);go_upto_region 4 with(go_at_call 75;refine(take_any a len cap k1 250 _ (HC _ (Gb.refl _)) om om om).mono ?_;rintro e w' ⟨xa,a0,a1,rfl,hw⟩;subst hw);go_upto_region 5 with(go_at_call 75;refine(take_any a len cap (k1+1) 250 _ (HC _ (Gb.refl _)) om om om).mono ?_;rintro e w' ⟨xb,b0,b1,rfl,hw⟩;subst hw);go_upto_region 6 with(go_at_call 160;refine(Gv a len cap (k1+1+1) _ (HC _ (Gb.refl _)) om).mono ?_;rintro e w1 ⟨t,k2,ht,hk2,rfl,ak⟩);go_upto_region 7 with(go_at_call 75;refine(take_any a len cap k2 4 _ (HC _ ak) om om om).mono ?_;rintro e w' ⟨c,c0,c1,rfl,hw⟩;subst hw);have hmm:Wo mm:=⟨m0,m1⟩;go_upto_region 8 with(first
  |(go_at_call 36;refine(HF _ hmm _).mono ?_;rintro e w2 ⟨zf,ff,hzf,rfl,aA⟩)
  |(go_at_call 40;refine(HW _ om om _).mono ?_;rintro e w3 ⟨zw,hzw,rfl,aF⟩)
  |(go_at_call 45;refine(HD _ _ (by assumption) (by assumption) _).mono ?_;rintro e w4 ⟨mu,fd,hmu,rfl,aI⟩))
 go_upto_region 9 with(first
  |(go_at_call 36;refine(HF _ hmm _).mono ?_;rintro e w2 ⟨zf,ff,hzf,rfl,aA⟩)
  |(go_at_call 40;refine(HW _ om om _).mono ?_;rintro e w3 ⟨zw,hzw,rfl,aF⟩)
  |(go_at_call 45;refine(HD _ _ (by assumption) (by assumption) _).mono ?_;rintro e w4 ⟨inv,fd,hinv,rfl,aI⟩))
 go_upto_region 10 with(first
  |(go_at_call 36;refine(HF _ hmm _).mono ?_;rintro e w2 ⟨zf,ff,hzf,rfl,aA⟩)
  |(go_at_call 40;refine(HW _ om om _).mono ?_;rintro e w3 ⟨zw,hzw,rfl,aF⟩)
  |(go_at_call 45;refine(HD _ _ (by assumption) (by assumption) _).mono ?_;rintro e w4 ⟨sc,fd,hsc,rfl,aI⟩))
 rcases(show how=18\/how=19\/how=20\/how=21\/how=22\/how=23\/((how==18)=false/\(how==19)=false/\(how==20)=false/\(how==21)=false/\(how==22)=false/\(how==23)=false) by simp;omega)with rfl|rfl|rfl|rfl|rfl|rfl|⟨e1,e2,e3,e4,e5,e6⟩
 ·go_wp2_with (first
   |(go_at_call 40;refine(HW _ om om _).mono ?_;rintro e w3 ⟨zw,hzw,rfl,aF⟩)
   |(go_at_call 42;refine(HM _ _ (by assumption) (by assumption) _).mono ?_;rintro e w4 ⟨zt,hzt,rfl,aI⟩))
  exact jH
 ·go_wp2_with (first
   |(go_at_call 44;refine ku (HH _) fun w2 aA=>?_)
   |(go_at_call 40;refine(HW _ om om _).mono ?_;rintro e w3 ⟨zw,hzw,rfl,aF⟩)
   |(go_at_call 42;refine(HM _ _ (by assumption) (by assumption) _).mono ?_;rintro e w4 ⟨zt,hzt,rfl,aI⟩))
  exact jH
 ·go_wp2_with (go_at_call 40;refine(HW _ om om _).mono ?_;rintro e w3 ⟨zw,hzw,rfl,aF⟩);exact jH
 ·go_wp2_with (go_at_call 119;refine(HN _).mono ?_;rintro e w' ⟨rfl,hw⟩;subst hw);go_returns;exact⟨_,_,_,t,Wo.c _,by assumption,by assumption,om,rfl,kg⟩
 ·have HCr:Hid (dM w4 a len):=HC _ (show Gb w w4 from kg);go_wp2_with (go_at_call 161;refine(JG u_ a len cap k2 _ HCr.out om).mono ?_;rintro e w' ⟨v,j,v0,v1,hj,rfl,hw⟩;subst hw);go_returns;exact⟨_,v,_,t,by assumption,⟨v0,v1⟩,by assumption,om,rfl,kg⟩
 ·have G4:Hid (Gb w w4):=(show Gb w w4 from kg);clear aI;go_wp2;go_loopw [23,24] (fun s23 s24 wr=>∃(i:Nat) (out:Value),out=s23/\(i:Int)<=20000+c/2/\s24=J i/\Bs wr w4.heap.size out i/\Gb w4 wr) (fun _ i _=>(20002-intOf i).toNat)
  case atStart=>exact⟨0,_,rfl,om,rfl,⟨fun _=>0,fun _=>⟨Int.le_refl 0,show(0:Int)<=255 by decide⟩,Ow.lit _ _ _ _ _⟩,kg⟩
  case round=>
   obtain⟨i,out,rfl,hi,rfl,hB,hG⟩:=hrel;by_cases hlt:(i:Int)<20000+c/2
   ·obtain⟨g,hgb,FV,hgx⟩:=hB.put 255 de;have HO:Hid (∀w2,Gb wr w2->Ow w2 w4.heap.size 5 1 .u8 out i g):=fun w2 hg=>FV.gb hg;have HX:Hid (g (i*1+0)=255):=hgx;have HGg:Hid (∀j,0<=g j/\g j<=255):=hgb;have hsz:=hG.size;clear hB FV hgx hgb;go_wp2_with (at_builtin;refine h_ rfl _ _ 44 rfl 5 (.int .u8 0) 1 1 .u8 Tryz.underlying44 TF rfl de de w4.heap.size i 1 g _ wr.heap.size rfl (HO _ kg) rfl (Dx (by simp[go_sem]) HX.out) om om (by rw[World.size_alloc];omega) ?_;intro v' w3 hown3 hb3 _ _);go_roundw
    case rel=>exact⟨i+1,_,rfl,om,by go_num,⟨g,HGg.out,hown3⟩,Gb.below kg hb3 (Nat.le_refl _)⟩
    case measure=>simp[intOf];omega
   ·obtain⟨t2,ht2,hq⟩:=hB.text;have HQ:Hid _:=hq;have HG:Hid (Gb w wr):=G4.out.trans hG;have hG':=hG;have ht3:t2.size<=30000:=om;clear hq hB ht2;go_upto_region 27 with fail;go_region_held3 (fun w'=>Gb wr w'/\(convert 44 9 out).run Tryz.prog w'=.ok (.string t2) w')
     (exact⟨kg,HQ.out _ kg⟩)
     (fail)
    all_goals go_wp2
    all_goals refine bodyPost_ret (v:=.tuple #[Y mu,Y inv,Y sc,.string t2]) (by simp[results,Tryz.results93,go_sem]) rfl ⟨mu,hmu,inv,hinv,sc,hsc,t2,ht3,rfl,(show Gb w _ from by have:=HG.out;exact kg)⟩
 ·go_wp2;exact jH
theorem Fb(a:Option Addr)(len cap:Nat)(w:World)(hC:dM w a len):
  CT 38 #[O a len cap] w fun e w'=>∃(mu inv sc:Int) (t:ByteArray),Wo mu/\Wo inv/\Wo sc/\t.size<=30000/\e=Z (.tuple #[Y mu,Y inv,Y sc,.string t])/\Gb w w':=by
 have HC:Hid (dM w a len):=hC;clear hC;go_enter func38,ntmps38;go_wp2_with (go_at_call 93;refine(Gx a len cap _ HC.out).mono ?_;rintro e w1 ⟨mu,inv,sc,t,h1,h2,h3,h4,rfl,hg⟩);go_returns;exact⟨mu,inv,sc,t,h1,h2,h3,h4,rfl,hg⟩
end
set_option maxRecDepth 1000000
theorem aB6(p q u k:Int)(w:World):(Op.equalIn 10000 35 (.agg #[J p,J q,J u,J k]) (.agg #[J p,J q,J u,J k])).run Tryz.prog w=.ok true w:=by
 have u4:=Tryz.underlying3;have a4:=Tryz.isAgg3;have z4:=Tryz.sizeOf3;have hS:Tryz.prog.underlying 35=some (.struct (Tryz.prog.fieldsOf 35)):=by kernel_rfl
 rw[show(10000:Nat)=9999+1 from rfl,run_equalIn_agg w 9999 35 _ _ hS (by kernel_rfl)];simp only[Program.fieldsOf,Tryz.underlying35];go_simp
theorem pick_any(a:Option Addr)(len cap i:Nat)(hi:i<=2)(w:World)(hC:dM w a len):
  CT 39 #[O a len cap,J i] w fun e w'=>∃z:Int,0<=z/\z<=255/\e=Z (J z)/\w=w':=by
 have hf:=hC.few;rcases(show len=0\/0<len by omega)with rfl|hl
 ·clear hC;go_enter func39,ntmps39;go_wp2;go_returns;exact⟨_,om,om,rfl,rfl⟩
 ·rcases hC.cells with h|⟨b,off,rfl,hc⟩
  ·omega
  have hm:=Nat.mod_lt i hl;obtain⟨z,z0,z1,hz⟩:=hc (i%len) hm;have e0:((len:Int)==0)=false:=by simp;omega
  have e1:Int.tmod (i:Int) (len:Int)=((i%len:Nat):Int):=by rw[Int.tmod_eq_emod_of_nonneg (by omega)];rfl
  have e2:((i%len:Nat):Int)<(len:Int):=om;generalize i%len=j at*
  clear hC hc;go_enter func39,ntmps39;go_wp2;go_returns;exact⟨z,z0,z1,rfl,rfl⟩
def tail3(x y v:Int):ByteArray:=⟨#[UInt8.ofNat x.toNat,UInt8.ofNat y.toNat,UInt8.ofNat v.toNat]⟩
theorem Uu(w:World)(x y v:Int)(x0:0<=x)(x1:x<=255)(y0:0<=y)(y1:y<=255)(v0:0<=v)(v1:v<=255):
  (convert 44 9 (aB w.heap.size 3 3)).run Tryz.prog (w.alloc (.cells #[.int .u8 x,.int .u8 y,.int .u8 v] 5))=.ok (.string (tail3 x y v)) (w.alloc (.cells #[.int .u8 x,.int .u8 y,.int .u8 v] 5)):=by
 refine run_convert_bytes_back _ 44 9 5 ⟨w.heap.size,0,none⟩ 3 [UInt8.ofNat x.toNat,UInt8.ofNat y.toNat,UInt8.ofNat v.toNat] Tryz.underlying44 Tryz.underlying5 Tryz.underlying9 (fun j hj=>?_);have e:(⟨w.heap.size,0,none⟩:Addr).add j=⟨w.heap.size,j,none⟩:=by unfold Addr.add;split<;>simp_all
 rw[e,World.cell?_alloc_new];have hj':j<3:=hj;obtain rfl|rfl|rfl:j=0\/j=1\/j=2:=om
 all_goals (simp;omega)
structure Rw (w:World) (b:Nat) (p q u k:Int):Prop where
 c0:aj w b 0 (J p)
 c1:aj w b 1 (J q)
 c2:aj w b 2 (J u)
 c3:aj w b 3 (J k)
theorem Rw.gb{w w':World}{b:Nat}{p q u k:Int}(h:Rw w b p q u k)(g:Gb w w'):Rw w' b p q u k:=⟨g.old h.c0,g.old h.c1,g.old h.c2,g.old h.c3⟩
theorem Pz(w:World)(p q u k:Int):Rw (w.alloc (.cells #[J p,J q,J u,J k] 35)) w.heap.size p q u k:=⟨kb,kb,kb,kb⟩
theorem MZ(a b:Option Addr)(la ca lb cb:Nat)(w:World)(hA:dM w a la)(hB:dM w b lb)(hw:Fm w)(hT:Tl w)(hD:Dc w):
  CT 10 #[O a la ca,O b lb cb] w fun e w'=>e=Z (.bool true)/\Below w.heap.size w w':=by
 obtain⟨ch0⟩:=TU;have hch:Inhabited Ch:=⟨ch0⟩;have fa:=hA.few;have fb:=hB.few;have g1:¬(1048576:Int)<la:=om;have g2:¬(1048576:Int)<lb:=om;have HA:Hid (dM w a la):=hA;have HB:Hid (∀w',Gb w w'->dM w' b lb):=fun w' hg=>hB.g7 hg;have HP:Hid (∀mu inv sc,Wo mu->Wo inv->Wo sc->∀(t:ByteArray) (r:Smp),t.size<=1048576->o7.iD mu inv sc t r->∀w',Gb w w'->QR 22 #[Y mu,Y inv,Y sc,.string t] w' (tY r)):=fun mu inv sc hm hi hs t r ht hr w' hg=>(X9 aIu GX hm hi hs t ht (hw.gb hg) (hT.below hg) (hD.below hg)).mono fun e w'' ⟨r',h1,h2,h3⟩=>⟨by rw[h2,O7.iD.one hr h1],h3⟩;clear hA hB hw hT hD;go_enter func10,ntmps10;go_upto_region 4 with(go_at_call 38;refine(Fb a la ca _ HA.out).mono ?_;rintro e w1 ⟨mu,inv,sc,t,hmu,hinv,hsc,hts,rfl,ak⟩);go_upto_region 5 with(go_at_call 21;refine(X8 aIt GX hmu hinv hsc t om _).mono ?_;rintro e w2 ⟨r,hr,rfl,aA⟩);have OJ:Hid (∀(t:ByteArray) (r:Smp),t.size<=1048576->o7.iD mu inv sc t r->∀w',Gb w w'->QR 22 #[Y mu,Y inv,Y sc,.string t] w' (tY r)):=HP mu inv sc hmu hinv hsc;have G2:Hid (Gb w w2):=(show Gb w w2 from ak.trans aA);have H0:Hid (∀w',Gb w w'->QR 22 #[Y mu,Y inv,Y sc,.string t] w' (tY r)):=OJ t r om hr;have hcs:=Pj hr;clear hr HP ak aA hmu hinv hsc;rcases hcs with rfl|⟨k,z,rfl,hk,hz,s1,s2,s3⟩|⟨k,rfl,hk,hz,s1⟩
 ·have hE:=aB6 1 0 0 0;go_upto_region 6 with(go_at_call 22;refine(H0 _ (by have:=G2.out;exact kg)).mono ?_;rintro e w3 ⟨rfl,aF⟩;obtain⟨pa0,pa1,pa2,pa3⟩:=aF.e4 w2.heap.size 0 1 2 3 (J 1) (J 0) (J 0) (J 0);have aBw:=nS pa0;have aBv:=nS pa1;have aBu:=nS pa2;have aBt:=nS pa3);go_wp2;go_returns;exact⟨rfl,(show Gb w _ from by have:=G2.out;exact kg)⟩
 ·have hE:=aB6 0 z (17*(k:Int)+17) ((k:Int)+1);have hE2:=aB6 2 0 (17*(k:Int)) k;obtain⟨u,hu⟩:∃u:Int,17*(k:Int)+17=u:=⟨_,rfl⟩;have hu2:17*(k:Int)=u-17:=om;have u0:17<=u:=om;have u1:u<=20000:=om;have hk1:(k:Int)<=20000:=om;have hn:(t.extract 0 (17*k+17)).size <=20000:=by rw[ByteArray.size_extract];omega
  have hn2:(t.extract 0 (17*k+16)).size <=1048576:=by rw[ByteArray.size_extract];omega
  have H1:Hid (∀w',Gb w w'->QR 22 #[Y mu,Y inv,Y sc,.string (t.extract 0 (17*k+17))] w' (tY ⟨0,z,17*(k:Int)+17,(k:Int)+1⟩)):=OJ _ _ om s1;have H2:Hid (∀w',Gb w w'->QR 22 #[Y mu,Y inv,Y sc,.string (t.extract 0 (17*k+16))] w' (tY ⟨2,0,17*(k:Int),k⟩)):=OJ _ _ hn2 s2;have H3:Hid (∀v:ByteArray,v.size=3->∀w',Gb w w'->QR 22 #[Y mu,Y inv,Y sc,.string (t.extract 0 (17*k+17)++v)] w' (tY ⟨0,z,17*(k:Int)+17,(k:Int)+1⟩)):=fun v hv=>OJ _ _ (by rw[ByteArray.size_append,hv];omega) (s3 v hv);have q1:∀w,(Instr.slice 9 (.string t) none (some (J u)) none).run Tryz.prog w=.ok (.string (t.extract 0 (17*k+17))) w:=fun w=>by
   have:=run_slice_string_h w 9 t Tryz.underlying9 .i64 u om om;rw[show u.toNat=17*k+17 by omega]at this;exact this
  have q2:∀w,(Instr.slice 9 (.string t) none (some (J (u-1))) none).run Tryz.prog w=.ok (.string (t.extract 0 (17*k+16))) w:=fun w=>by
   have:=run_slice_string_h w 9 t Tryz.underlying9 .i64 (u-1) om om;rw[show(u-1).toNat =17*k+16 by omega]at this;exact this
  rw[hu]at hE H1 H0 H3⊢
  rw[hu2]at hE2 H2;generalize t.extract 0 (17*k+17)=t1 at*
  generalize t.extract 0 (17*k+16)=t2 at*
  clear s1 s2 s3 OJ hu hu2 hn2;go_upto_region 6 with(go_at_call 22;refine(H0 _ (by have:=G2.out;exact kg)).mono ?_;rintro e w3 ⟨rfl,aF⟩;obtain⟨pa0,pa1,pa2,pa3⟩:=aF.e4 w2.heap.size 0 1 2 3 (J 0) (J z) (J u) (J ((k:Int)+1));have aBw:=nS pa0;have aBv:=nS pa1;have aBu:=nS pa2;have aBt:=nS pa3);go_upto_region 10 with fail;have G3:Hid (Gb w (w3.alloc (.cells #[J 0,J z,J u,J ((k:Int)+1)] 35))):=(show Gb w _ from by have:=G2.out;exact kg);have hRd:=Pz w3 0 z u ((k:Int)+1);have hRw:Rw (w3.alloc (.cells #[J 0,J z,J u,J ((k:Int)+1)] 35)) w2.heap.size 0 z u ((k:Int)+1):=⟨kb,kb,kb,kb⟩;obtain⟨W,hW⟩:∃W,w3.alloc (.cells #[J 0,J z,J u,J ((k:Int)+1)] 35)=W:=⟨_,rfl⟩;rw[hW]at G3 hRd hRw⊢
  have HRd:Hid _:=hRd;have HRw:Hid _:=hRw;obtain⟨d0,d1,d2,d3⟩:=hRd;obtain⟨c0,c1,c2,c3⟩:=hRw;clear hW pa0 pa1 pa2 pa3 aBw aBv aBu aBt aF H0;generalize w2.heap.size=bw at*
  generalize w3.heap.size=bd at*
  go_region_held3 (fun w'=>aj w' bw 0 (J 0)/\aj w' bw 1 (J z)/\aj w' bw 2 (J u)/\aj w' bw 3 (J ((k:Int)+1))/\aj w' bd 0 (J 0)/\aj w' bd 1 (J z)/\aj w' bd 2 (J u)/\aj w' bd 3 (J ((k:Int)+1)))
   (exact nR)
   (first
    |(go_at_call 22;with_reducible refine(H1.out _ (by have:=G3.out;exact kg)).mono ?_;rintro e w4 ⟨rfl,aI⟩))
  all_goals go_upto_region 14 with fail
  all_goals
   have G4:Hid (Gb w w4):=(show Gb w w4 from by have:=G3.out;exact kg);have g44:Gb W w4:=kg;have aHD:Hid _:=HRd.out.gb g44;have aHB:Hid _:=HRw.out.gb g44;clear aI HRd HRw G3 H1 d0 d1 d2 d3 c0 c1 c2 c3 g44;have HK:Hid (∀i:Int,0<=i->i<=2->∀w',Gb w w'->CT 39 #[O b lb cb,J i] w' fun e w''=>∃z:Int,0<=z/\z<=255/\e=Z (J z)/\w'=w''):=fun i i0 i1 w' hg=>by
    obtain⟨n,rfl⟩:=Int.eq_ofNat_of_zero_le i0;exact pick_any b lb cb n om w' (HB w' hg)
   have hcv:=Uu;go_upto_region 15 with(go_at_call 39;refine(HK _ de de _ G4.out).mono ?_;rintro e w' ⟨y,y0,y1,rfl,hw⟩;subst hw);generalize htl:tail3 _ _ _=v;have hv:v.size=3:=by rw[<-htl];rfl
   have g5:Hid (∀c t,Gb w4 (w4.alloc (.cells c t))):=fun c t=>kg;generalize hW5:w4.alloc _=W5;have g45:Gb w4 W5:=by rw[<-hW5];exact g5.out _ _
   have G5:Hid (Gb w W5):=G4.out.trans g45;have aG1:=aHD.out.gb g45;have aHC:Hid _:=aG1;have aHA:Hid _:=aHB.out.gb g45;obtain⟨d0,d1,d2,d3⟩:=aG1;clear hW5 htl hcv HK g5 g45 aHD aHB G4;go_upto_region 16 with(go_at_call 22;refine ku (H2 _ G5.out) fun w6 b_=>?_);have g57:Gb W5 (w6.alloc (.cells #[J 2,J 0,J (u-17),J k] 35)):=kg;have hRe:=Pz w6 2 0 (u-17) k;obtain⟨W7,hW7⟩:∃W,w6.alloc (.cells #[J 2,J 0,J (u-17),J k] 35)=W:=⟨_,rfl⟩;rw[hW7]at g57 hRe⊢
   have G7:Hid (Gb w W7):=G5.out.trans g57;have aI9:=aHC.out.gb g57;have aI8:=aHA.out.gb g57;clear d0 d1 d2 d3 hW7 g57 b_ aHC aHA G5 H2 q2;generalize w6.heap.size=be at*
   obtain⟨d0,d1,d2,d3⟩:=aI9;obtain⟨c0,c1,c2,c3⟩:=aI8;obtain⟨e0,e1,e2,e3⟩:=hRe;have HS3:Hid (∀w',Gb w w'->QR 22 #[Y mu,Y inv,Y sc,.string (t1++v)] w' (tY ⟨0,z,u,(k:Int)+1⟩)):=H3 v hv;have hcd:¬9223372036854775807<t1.size+v.size:=om;have aI1:t1.size+v.size<=9223372036854775807:=om;have hw1:IntKind.i64.wrap (u-17)=u-17:=wi;have hw2:IntKind.i64.wrap ((k:Int)+1-1)=k:=wi;have hw3:IntKind.i64.wrap (k:Int)=k:=wi;clear H3 hv hn;go_region_held3 (fun w'=>aj w' bw 0 (J 0)/\aj w' bw 1 (J z)/\aj w' bw 2 (J u)/\aj w' bw 3 (J ((k:Int)+1))/\aj w' bd 0 (J 0)/\aj w' bd 1 (J z)/\aj w' bd 2 (J u)/\aj w' bd 3 (J ((k:Int)+1))/\aj w' be 0 (J 2)/\aj w' be 1 (J 0)/\aj w' be 2 (J (u-17))/\aj w' be 3 (J k))
    (exact nR)
    (first
     |(go_at_call 22;with_reducible refine(HS3.out _ (by have:=G7.out;exact kg)).mono ?_;rintro e w8 ⟨rfl,pI⟩))
   all_goals go_wp2
   all_goals go_returns
   all_goals exact⟨rfl,(show Gb w _ from by have:=G7.out;exact kg)⟩
 ·have hE:=aB6 2 0 (17*(k:Int)) k;obtain⟨u,hu⟩:∃u:Int,17*(k:Int)=u:=⟨_,rfl⟩;have hn:(t.extract 0 (17*k)).size <=1048576:=by rw[ByteArray.size_extract];omega
  have H1:Hid (∀w',Gb w w'->QR 22 #[Y mu,Y inv,Y sc,.string (t.extract 0 (17*k))] w' (tY ⟨2,0,17*(k:Int),k⟩)):=OJ _ _ hn s1;have q1:∀w,(Instr.slice 9 (.string t) none (some (J u)) none).run Tryz.prog w=.ok (.string (t.extract 0 (17*k))) w:=fun w=>by
   have:=run_slice_string_h w 9 t Tryz.underlying9 .i64 u om om;rw[show u.toNat=17*k by omega]at this;exact this
  rw[hu]at hE H1 H0;generalize t.extract 0 (17*k)=t1 at*
  go_upto_region 6 with(go_at_call 22;refine(H0 _ (by have:=G2.out;exact kg)).mono ?_;rintro e w3 ⟨rfl,aF⟩;obtain⟨pa0,pa1,pa2,pa3⟩:=aF.e4 w2.heap.size 0 1 2 3 (J 2) (J 0) (J u) (J k);have aBw:=nS pa0;have aBv:=nS pa1;have aBu:=nS pa2;have aBt:=nS pa3);go_upto_region 10 with fail;have G3:Hid (Gb w (w3.alloc (.cells #[J 2,J 0,J u,J k] 35))):=(show Gb w _ from by have:=G2.out;exact kg);have hRd:=Pz w3 2 0 u k;have hRw:Rw (w3.alloc (.cells #[J 2,J 0,J u,J k] 35)) w2.heap.size 2 0 u k:=⟨kb,kb,kb,kb⟩;obtain⟨W,hW⟩:∃W,w3.alloc (.cells #[J 2,J 0,J u,J k] 35)=W:=⟨_,rfl⟩;rw[hW]at G3 hRd hRw⊢
  obtain⟨d0,d1,d2,d3⟩:=hRd;obtain⟨c0,c1,c2,c3⟩:=hRw;clear hW pa0 pa1 pa2 pa3 aBw aBv aBu aBt aF;generalize w2.heap.size=bw at*
  generalize w3.heap.size=bd at*
  go_region_held3 (fun w'=>aj w' bw 0 (J 2)/\aj w' bw 1 (J 0)/\aj w' bw 2 (J u)/\aj w' bw 3 (J k)/\aj w' bd 0 (J 2)/\aj w' bd 1 (J 0)/\aj w' bd 2 (J u)/\aj w' bd 3 (J k))
   (exact nR)
   (first
    |(go_at_call 22;with_reducible refine(H1.out _ (by have:=G3.out;exact kg)).mono ?_;rintro e w4 ⟨rfl,aI⟩))
  all_goals go_wp2
  all_goals go_returns
  all_goals exact⟨rfl,(show Gb w _ from by have:=G3.out;exact kg)⟩
end Go.Proofs.YtmiekgjgpmfekaaGreatDoor
set_option maxRecDepth 1000000
namespace Go.Proofs.YtmiekgjgpmfekaaGreatDoor.fnSample
open Go.ChangeShapes Go.WideShapes Go.ChangeAt Go.RowKit Go.Joins
theorem laidOut:laidOutB Tryz.prog=true:=by kernel_rfl
theorem MS(a0 a1:Option Addr)(l0 c0 l1 c1:Nat)(w:World)(h0:(1048576:Int)<(l0:Int)):
  CT 10 #[O a0 l0 c0,O a1 l1 c1] w fun e w'=>e=Z (.bool true)/\Below w.heap.size w w':=by
 go_enter func10,ntmps10;go_wp2;go_ret;exact⟨rfl,Below.refl _ _⟩
theorem Y7(a0 a1:Option Addr)(l0 c0 l1 c1:Nat)(w:World)(h0:¬(1048576:Int)<(l0:Int))(h1:(1048576:Int)<(l1:Int)):
  CT 10 #[O a0 l0 c0,O a1 l1 c1] w fun e w'=>e=Z (.bool true)/\Below w.heap.size w w':=by
 go_enter func10,ntmps10;go_wp2;go_ret;exact⟨rfl,Below.refl _ _⟩
theorem codeRow{w:World}{a:Option Addr}{len cap:Nat}(hl:len<=1048576)
  (h:len=0\/∃(x:Addr) (zs:List Int),a=some x/\len<=zs.length/\(∀i,i<zs.length->w.cell? (x.add i)=some (.int .u8 (zs.getD i 0)))/\∀n ∈ zs,(Lit.int .u8 n).wf =true):dM w a len:=by
 refine⟨hl,?_⟩;rcases h with e|⟨x,zs,rfl,hz,hc,hw⟩
 ·exact .inl e
 ·rcases(show len=0\/0<len by omega)with e|hp
  ·exact .inl e
  ·obtain⟨b,off,rfl,hcell⟩:=ints_at hc om;refine .inr ⟨b,off,rfl,fun i hi=>⟨zs.getD i 0,?_,?_,hcell i om⟩⟩
   ·rw[List.getD_eq_getElem?_getD];exact(range_u8 hw i).1
   ·rw[List.getD_eq_getElem?_getD];exact(range_u8 hw i).2
theorem walk(a0 a1:Option Addr)(l0 c0 l1 c1:Nat)(w:World)(v0:Fm w)(v1:Tl w)(v2:Dc w)
  (h0:l0=0\/∃(x:Addr) (zs:List Int),a0=some x/\l0<=zs.length/\(∀i,i<zs.length->w.cell? (x.add i)=some (.int .u8 (zs.getD i 0)))/\∀n ∈ zs,(Lit.int .u8 n).wf =true)
  (h1:l1=0\/∃(x:Addr) (zs:List Int),a1=some x/\l1<=zs.length/\(∀i,i<zs.length->w.cell? (x.add i)=some (.int .u8 (zs.getD i 0)))/\∀n ∈ zs,(Lit.int .u8 n).wf =true)
  :CT 10 #[O a0 l0 c0,O a1 l1 c1] w fun e w'=>e=Z (.bool true)/\Below w.heap.size w w':=by
 rcases(show 1048576<l0\/l0<=1048576 by omega)with k0|k0
 ·exact MS a0 a1 l0 c0 l1 c1 w om
 rcases(show 1048576<l1\/l1<=1048576 by omega)with k1|k1
 ·exact Y7 a0 a1 l0 c0 l1 c1 w om om
 exact MZ a0 a1 l0 c0 l1 c1 w (codeRow (cap:=c0) k0 h0) (codeRow (cap:=c1) k1 h1) v0 v1 v2
abbrev mP:List (String × DataW Unit):=[(jm,Rows.laid_loop_example_s01330_impl_formats),(xB,Rows.laid_loop_example_s01330_impl_tails),(xC,Rows.laid_loop_example_s01330_impl_decays)]
theorem door_met(os:Os)(args:Array Value):laidMetH Tryz.prog mP ((World.doorLaid Tryz.prog 16 os).forCall (fun _ _=>0) ⟨#[],args,[]⟩).memory :=
 laidMetH_of_parts3 (fuel:=8) (laidMet_of_run' 8 (by kernel_rfl) (by kernel_rfl)) (by kernel_rfl) (by kernel_rfl)
def vH(W:World):Prop:=W.var? Tryz.prog jm=some fJ/\W.var? Tryz.prog xB=some qI/\W.var? Tryz.prog xC=some lN
theorem kF{W:World}(h:laidMetH Tryz.prog mP W):vH W:=by
 rw[MakeChecks.laidMetH_plain _ _ _ (by kernel_rfl)]at h;obtain⟨ps,hl,_⟩:=h;obtain⟨x0,l0⟩:=qV ⟨ps,hl⟩;obtain⟨x1,l1⟩:=qV l0;obtain⟨x2,l2⟩:=qV l1;exact⟨aEi x0,aHO x1,aHP x2⟩
theorem jX{H:Type}(enc:TypeId × Value->H){W W':World}(hb:Below W.heap.size W W')(hv:vH W)(sp:Nat->Bool):
  ∃q,DataW.TrodVars enc Tryz.prog W' sp [jm,xB,xC] [vC,PD DW,PD vw] q:=by
 obtain⟨h0,h1,h2⟩:=hv;exact⟨_,⟨_,165,fJ,4,[],_,gF,tF,uq gF hb h0,reads_table enc W' sp,⟨_,217,qI,4,[],_,gT,tT,uq gT hb h1,Yv enc W' sp,⟨_,218,lN,4,[],_,gD,tD,uq gD hb h2,Yw enc W' sp,rfl,rfl⟩,rfl⟩,rfl⟩⟩
theorem jy{H:Type}{enc:TypeId × Value->H}{W:World}{gs:List (DataW H)}{q:List MemPlace}(hv:vH W)(hV:DataW.TrodVars enc Tryz.prog W (fun _=>true) [jm,xB,xC] gs q):gs=[vC,PD DW,PD vw]:=by
 obtain⟨h0,h1,h2⟩:=hv;obtain⟨d0,gs0,rfl⟩:∃d l,gs=d::l:=by cases gs<;>simp[DataW.TrodVars]at hV⊢
 obtain⟨a0,b0,c0,f0,p0,q0,e0,k0,m0,n0,hV,_⟩:=hV;obtain rfl:=Option.some.inj (gF.symm.trans e0);obtain rfl:=Option.some.inj (tF.symm.trans k0);obtain rfl:c0=fJ:=Option.some.inj (m0.symm.trans h0);obtain⟨rfl,rfl⟩:=DataW.Trod.unique (v:=.agg fJ) ⟨f0,n0⟩ ⟨4,reads_table enc W _⟩;obtain⟨d1,gs1,rfl⟩:∃d l,gs0=d::l:=by cases gs0<;>simp[DataW.TrodVars]at hV⊢
 obtain⟨a1,b1,c1,f1,p1,q1,e1,k1,m1,n1,hV,_⟩:=hV;obtain rfl:=Option.some.inj (gT.symm.trans e1);obtain rfl:=Option.some.inj (tT.symm.trans k1);obtain rfl:c1=qI:=Option.some.inj (m1.symm.trans h1);obtain⟨rfl,rfl⟩:=DataW.Trod.unique (v:=.agg qI) ⟨f1,n1⟩ ⟨4,Yv enc W _⟩;obtain⟨d2,gs2,rfl⟩:∃d l,gs1=d::l:=by cases gs1<;>simp[DataW.TrodVars]at hV⊢
 obtain⟨a2,b2,c2,f2,p2,q2,e2,k2,m2,n2,hV,_⟩:=hV;obtain rfl:=Option.some.inj (gD.symm.trans e2);obtain rfl:=Option.some.inj (tD.symm.trans k2);obtain rfl:c2=lN:=Option.some.inj (m2.symm.trans h2);obtain⟨rfl,rfl⟩:=DataW.Trod.unique (v:=.agg lN) ⟨f2,n2⟩ ⟨4,Yw enc W _⟩;cases gs2<;>simp[DataW.TrodVars]at hV⊢
theorem lifted(os:Os)(started:os.Started)(H:Type)(enc:TypeId × Value->H):
  ReturnsInHanded {} Tryz.checked os 10 .any (fun w args=>(Rows.fnSampleSpec.pre enc Tryz.prog Tryz.f10 [] false w args/\laidMetH Tryz.prog mP w)/\sizedMet enc Tryz.prog Tryz.f10 (OpenSpec.ofChange Rows.fnSampleSpec) false w args)
   (Rows.fnSampleSpec.post enc Tryz.prog Tryz.f10 false true false false):=by
 refine returnsInHanded_of_change_and (C:=Tryz.checked) (X:=fun w _=>laidMetH Tryz.prog mP w) (fun _ _ _ hh h=>h.of_heap hh) YR started (by kernel_rfl) func10
  (ChangeSpec.witness_shaped (enc:=enc) (C:=Tryz.checked) (os:=os) (X:=fun w _=>laidMetH Tryz.prog mP w) false (World.doorLaid Tryz.prog 16 os) #[O none 0 0,O none 0 0] 8 rfl (World.shaped_of_RefB (by kernel_rfl) (by kernel_rfl)) (by kernel_rfl) (by kernel_rfl) (by kernel_rfl) (door_met os _)) ?_
 intro W base args ds gs before hval0 hW _ _ hL _;have hval:∀(j:Nat) t v,Tryz.f10.params[j]?=some t->args[j]?=some v->Value.okWide Tryz.prog W .any base t v:=hval0;have hW':=hW;obtain⟨p,q,hA0,hV0,rfl,hfz,hnd⟩:=hW;have hA:DataW.TrodAll enc Tryz.prog W 0 (fun _=>true) true Tryz.f10.params.toList args.toList ds p:=hA0;have hV:DataW.TrodVars enc Tryz.prog W (fun _=>true) [jm,xB,xC] gs q:=hV0;rw[Tryz.params10]at hA hval;obtain⟨v0,vs0,d0,ds0,p0,q0,hargs,rfl,rfl,h0,r0⟩:=trodAll_cons hA;obtain⟨v1,vs1,d1,ds1,p1,q1,rfl,rfl,rfl,h1,r1⟩:=trodAll_cons r0;obtain⟨rfl,rfl,rfl⟩:=trodAll_nil r1;obtain rfl:args=#[v0,v1]:=by cases args;simp_all
 have hX:=kF hL;obtain rfl:=jy hX hV;obtain⟨a0,len0,cap0,rfl⟩:=okWide_slice Tryz.underlying44 (hval 0 44 v0 rfl rfl);have k0:=h0;have lt0:∀x ∈ p0,x.block<W.heap.size:=by obtain⟨m,hm⟩:=k0;exact DataW.trod_lt m _ _ _ hm
 have w0:len0=0\/∃(x:Addr) (zs:List Int),a0=some x/\len0<=zs.length/\(∀i,i<zs.length->W.cell? (x.add i)=some (.int .u8 (zs.getD i 0)))/\∀n ∈ zs,(Lit.int .u8 n).wf =true:=by
  obtain⟨fuel,hf⟩:=h0;rcases open_ints Tryz.underlying44 Tryz.underlying5 (by kernel_rfl) hf with⟨hcs,_⟩|⟨x,l,c,zs,hcs,_,hl,hm,hz,_,hcell,hwz⟩
  ·simp[Value.cells]at hcs;obtain⟨rfl,rfl,rfl⟩:=hcs;exact .inl rfl
  ·simp[Value.cells]at hcs;obtain⟨rfl,rfl,rfl⟩:=hcs;have hz':zs.length=cap0:=by simpa using hz
   exact .inr ⟨x,zs,rfl,om,hcell,hwz⟩
 obtain⟨a1,len1,cap1,rfl⟩:=okWide_slice Tryz.underlying44 (hval 1 44 v1 rfl rfl);have k1:=h1;have lt1:∀x ∈ p1,x.block<W.heap.size:=by obtain⟨m,hm⟩:=k1;exact DataW.trod_lt m _ _ _ hm
 have w1:len1=0\/∃(x:Addr) (zs:List Int),a1=some x/\len1<=zs.length/\(∀i,i<zs.length->W.cell? (x.add i)=some (.int .u8 (zs.getD i 0)))/\∀n ∈ zs,(Lit.int .u8 n).wf =true:=by
  obtain⟨fuel,hf⟩:=h1;rcases open_ints Tryz.underlying44 Tryz.underlying5 (by kernel_rfl) hf with⟨hcs,_⟩|⟨x,l,c,zs,hcs,_,hl,hm,hz,_,hcell,hwz⟩
  ·simp[Value.cells]at hcs;obtain⟨rfl,rfl,rfl⟩:=hcs;exact .inl rfl
  ·simp[Value.cells]at hcs;obtain⟨rfl,rfl,rfl⟩:=hcs;have hz':zs.length=cap1:=by simpa using hz
   exact .inr ⟨x,zs,rfl,om,hcell,hwz⟩
 clear hA0 hV0 hval0;refine(walk a0 a1 len0 cap0 len1 cap1 W (AU hX.1) (Us hX.2.1) (Wi hX.2.2) w0 w1).mono fun e W' ⟨he,hgb⟩=>?_;subst he;obtain⟨_,hq⟩:=jX enc hgb hX (fun b=>decide (b<W.heap.size));exact⟨_,rfl,_,_,_,[],_,_,hW',(trodAll_cons_mk (shut_bool Tryz.underlying4 _) trodAll_mk0),(trodAll_cons_mk (Below.trod laidOut (by kernel_rfl) (of_decide_eq_true (by kernel_rfl)) k0 hgb lt0) (trodAll_cons_mk (Below.trod laidOut (by kernel_rfl) (of_decide_eq_true (by kernel_rfl)) k1 hgb lt1) trodAll_mk0)),hq,Below.frame hgb _,fun h=>by cases h⟩
theorem over:Rows.fnSampleRow.holds Tryz.pinned (OpenSpec.ofChange Rows.fnSampleSpec):=
 OpenClaim.holds_of_wide 10 Tryz.f10 rfl rfl rfl rfl rfl rfl rfl ⟨rfl,rfl,rfl,rfl,rfl⟩ rfl rfl rfl rfl rfl (by kernel_rfl) func10 (by kernel_rfl)
  (of_decide_eq_true (by kernel_rfl)) (by unfold Func.isWrapper;first|(rw[if_pos (by decide+kernel)];kernel_rfl)|(rw[if_neg (by decide+kernel)];exact⟨rfl,rfl⟩))
  (fun os started H enc _=>lifted os started H enc)
end Go.Proofs.YtmiekgjgpmfekaaGreatDoor.fnSample
namespace Go.Proofs.YtmiekgjgpmfekaaGreatDoor
open Go
theorem FnSample_holds:Rows.FnSampleCardSaid:=
 Claim7.holds_tied_plain_at .later [] [.wider,.data,.data] true (true,"4a6e21431519bc8fa0358fc74cf5071266168f51db2d33ec99ab440d42f880d6") false
  fnSample.over (fun _ h=>by cases h) (by kernel_rfl) (fun _ h=>by cases h) fnSample_row_tie rfl ⟨rfl,rfl⟩ (by kernel_rfl) rfl
  (fun f fn hf hfn=>by
   obtain rfl:f=10:=Option.some.inj ((show Tryz.prog.funcNamed "loop.example/s01330/laws.FnSample" =some 10 by kernel_rfl).symm.trans hf)|>.symm
   obtain rfl:fn=Tryz.f10:=(Option.some.inj (func10.symm.trans hfn)).symm;exact⟨by kernel_rfl,fun j t ht=>by
    rw[Tryz.params10]at ht;have hm:t ∈ [44,44]:=by simpa using Array.mem_of_getElem? ht
    have hall:([44,44].all fun u=> !Tryz.prog.wantsStandIn u)=true:=by kernel_rfl
    exact(show Tryz.prog.wantsStandIn t=false by simpa using List.all_eq_true.1 hall t hm)⟩)
  (by kernel_rfl)
#print axioms FnSample_holds
