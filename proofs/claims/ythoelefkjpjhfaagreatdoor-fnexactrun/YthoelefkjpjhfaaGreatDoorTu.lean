import Derived.Test.YthoelefkjpjhfaaGreatDoorTt
set_option linter.all false
set_option maxRecDepth 1000000
set_option maxHeartbeats 40000000
open Go.Proofs.YthoelefkjpjhfaaGreatDoor renaming vI → J, vU → Y
open Go.IntKind renaming u64 → Z
open Go.Ending renaming returned → O
open Go.Proofs.Tryz
namespace Go.Proofs.YthoelefkjpjhfaaGreatDoor
open Go.RowKit
variable {o:Ops}{w:ak}{z x:Int}{len m b n:Nat}{l:List aJ}{v cv:Value}
def aLX{P:Prop}(h:P:=by
 go_wp2;go_roundw
 case rel=>exact⟨i+1,k,om,jS,rfl,om,by have:=HG3.out;exact kg,_,rfl,by simp only[ByteArray.size_append];show t.size+1+3<=_;omega⟩
 case measure=>simp[intOf]<;>omega):P:=h
attribute [local go_sem] aB dL
def kU.drop{a:Option Addr}(h:kU w a len)(q cap:Nat):kU w (if cap=q then a else a.map (·.add q)) (len-q):=by
 refine⟨by have:=h.few;omega,?_⟩;rcases h.cells with e|⟨b,off,rfl,c⟩
 .exact .inl om
 by_cases e:cap=q
 .rw[aQ e];exact .inr ⟨b,off,rfl,λi hi=>c i om⟩
 .rw[aH e];refine .inr ⟨b,off+q,by simp[Addr.add],λi hi=>?_⟩;have:=c (q+i) om
  rwa [<-Nat.add_assoc]at this
abbrev aFh(F:Nat)(xs:Array Value)(n:Nat):Prop:=∀w,Calls prog F xs w λe w'=>∃t:aJ,t.size<=n/\e=O (.string t)/\Gb w w'
def aNi(n:Int)(h0:-9223372036854775808<=n)(h1:n<=9223372036854775807):aFh 45 #[J n] 20:=λw=>(vJ n h0 h1 w).mono λe w' h=>⟨_,by rw[dZ];exact iU n h0 h1,h.1,h.2.below⟩
def aKT(h:Wz z):aFh 48 #[Y z] 16:=by
 obtain⟨N,rfl⟩:=lq h.1;have:=h.2;exact λw=>(aNs N om w).mono λe w' h=>⟨_,yV 15 N om,h.1,h.2.below⟩
def Ti(h:(l.all λb=>decide (b.size<=m))=true)(j:Nat):(l.getD j default).size <=m:=by
 rw[qF];cases e:l[j]? with
 |none=>exact fV _
 |some b=>exact of_decide_eq_true (List.all_eq_true.1 h b (List.mem_of_getElem? e))
def aN1(s:aJ):aFh 21 #[.string s] 5:=λw=>by
 obtain⟨r,h,r0,r1⟩:=aON jw s;refine(aCm h r0 r1 w).mono λe w' h=>⟨_,?_,h.1,h.2.below⟩;unfold shapeOf;split
 .exact fV _
 .exact Ti de _
def VF(H:aJo)(a:Option Addr)(len cap p:Nat)(w:ak)(hC:kU w a len)(hp:p<=2000):
  CT 18 #[.slice a len cap,J (p:Int)] w λe w'=>∃t:aJ,t.size<=61000/\∃k:Nat,k<=p+100/\e=O (.tuple #[.string t,J (k:Int)])/\Gb w w':=by
 have o_:=hC.few;have HC:Hid (∀w',Gb w w'->kU w' a len):=λw' hg=>hC.gb hg;have HT:Hid (∀w',Gb w w'->TkP w' (.slice a len cap)):=λw' hg=>tkP (hC.gb hg);have HW:Hid (∀F:Int,F=0\/F=1->∀w',Gb w w'->∀k:Nat,k<=7000->Drw 51 #[.slice a len cap,J k,J F] w' Z 18446744073709551616 (k+14)):=λF hF w' hg k hk=>by
  rcases hF with rfl|rfl
  .exact zL (.inl ⟨rfl,rfl,rfl,rfl,rfl,rfl,rfl⟩) a len cap k w' (hC.gb hg) hk
  .exact zL aCP a len cap k w' (hC.gb hg) hk
 have HF:Hid (∀w',Gb w w'->∀k:Nat,k<=8000->CT 49 #[.slice a len cap,J k] w' λx bf=>∃(f m:Int) (j:Nat),-1<=f/\f<=2/\-1<=m/\m<=5/\j<=k+2/\x=O (.tuple #[J f,J m,J (j:Int)])/\w'=bf):=λw' hg k hk=>PK a len cap k w' (hC.gb hg) hk;clear hC;go_enter func18,ntmps18;go_upto_region 3 with(go_at_call 16;refine pW (HT _ (Gb.refl _) p 22 om om om) λx x0 x1 k hk=>?_);go_cut [8] (λs8 wx=>pq wx s8 15 (λj=>jw.getD j default)/\Gb w wx)
 case first=>
  go_wp2;go_meet;exact⟨pq.lit w jw de,kg⟩
 case rest=>
 obtain⟨hr,EJ⟩:=hcut;have HG:Hid (Gb w wc):=EJ;rcases(show x=20\/x=21\/((x==20)=false/\(x==21)=false/\x<20) by simp;omega)with rfl|rfl|⟨e0,e1,x2⟩
 .clear hr EJ HW HF HC;go_upto_region 7 with(go_at_call 16;refine pW (HT _ HG.out k 3 om om om) λc c0 c1 k hk=>?_);obtain⟨N,hN,HS⟩:∃N:Int,(0<=N/\N<=8)/\KW 46 #[J (c+1)] (J N):=by
   obtain⟨C,rfl⟩:=lq c0;refine⟨((2^(C+1):Nat):Int),?_,λw=>xI _ (C+1) om om _ rfl w⟩;have:=pU (show 0<2 by decide) (om:C+1<=3);generalize 2^(C+1)=M at*
   omega
  go_wp2_with (go_at_call 45;refine(aNi _ om om _).mono ?_;rintro e w2 ⟨u,hu,rfl,uH⟩;have q1:¬9223372036854775807<5+u.size:=(by omega);have q2:5+u.size<=9223372036854775807:=om);have HG2:Hid (Gb w w2):=HG.out.trans uH;clear uH HG;go_loopw [1,10,11] (λs1 s10 s11 wr=>∃i k:Nat,(i:Int)<=2*N/\s1=J (k:Int)/\k<=p+2+i/\s11=J (i:Int)/\Gb w wr/\∃t:aJ,s10=.string t/\t.size<=25+21*i) (λ_ _ i _=>(17-intOf i).toNat)
  case atStart=>exact⟨0,k,om,rfl,om,rfl,HG2.out,_,rfl,by rw[ByteArray.size_append];show 5+u.size<=_;omega⟩
  case round=>
   obtain⟨i,k,hi,rfl,hk,rfl,hG,t,rfl,ht⟩:=hrel;have HG:Hid (Gb w wr):=hG;have q3:zK (t.size+1):=om;clear hG;by_cases fJ:(i:Int)<2*N
   .go_wp2_with (first|(go_at_call 46;refine(HS _).mono ?_;rintro e w' ⟨rfl,hw⟩;subst hw)|(go_at_call 16;refine pW (HT _ HG.out k 240 om om om) λy y0 y1 k hk=>?_)|(go_at_call 45;refine(aNi _ om om _).mono ?_;rintro e w3 ⟨u,hu,rfl,uG⟩;have q5:¬9223372036854775807<t.size+1+u.size:=(by omega);have q6:t.size+1+u.size<=9223372036854775807:=om))
    go_roundw
    case rel=>exact⟨i+1,k,om,rfl,om,jS,HG.out.trans uG,_,rfl,by rw[ByteArray.size_append,ByteArray.size_append];show t.size+1+u.size<=_;omega⟩
    case measure=>exact qL
   .go_wp2_with (go_at_call 46;refine(HS _).mono ?_;rintro e w' ⟨rfl,hw⟩;subst hw);go_returns;exact⟨t,om,k,om,rfl,HG.out⟩
 .clear hr EJ HW HT HF;obtain⟨Q,hQ⟩:=dP (k%(len+1));have hQl:=oN k (om:0<len+1);rw[hQ]at hQl;have m0:(k:Int)%((len:Int)+1)=(Q:Int):=by rw[<-hQ];rfl
  have m1:Int.tmod (k:Int) ((len:Int)+1)=(Q:Int):=by rw[Int.tmod_eq_emod_of_nonneg (by omega)];exact m0
  have m2:(((len:Int)+1)==0)=false:=jA;obtain⟨a2,c2,hs,HA⟩:∃a2 c2,(∀w',(Instr.slice 24 (.slice a len cap) (some (J (Q:Int))) none none).run prog w'=.ok (.slice a2 (len-Q) c2) w')/\Hid (CT 47 #[.slice a2 (len-Q) c2] wc λe w'=>∃(mu inv sc:Int) (t:aJ),Wz mu/\Wz inv/\Wz sc/\t.size<=30000/\e=O (.tuple #[Y mu,Y inv,Y sc,.string t])/\Gb wc w'):=by
   refine⟨_,cap-Q,λw'=>?_,RF H (if cap=Q then a else a.map (·.add Q)) (len-Q) (cap-Q) wc ((HC _ HG.out).drop Q cap)⟩;have z:=sizeOf5;have el:prog.elem 24=5:=by kernel_rfl
   rw[run_slice_l (P:=prog) w' 24 a len cap (by rw[el];exact underlying24) .i64 (Q:Int) om (by omega)];simp[sliced,el,z]
  generalize len-Q=l2 at*
  clear hQ hQl;go_upto_region 16 with(go_at_call 47;refine HA.out.mono ?_;rintro e w2 ⟨mu,inv,sc,t,hmu,aRo,hsc,ht,rfl,uH⟩);have X1:Hid (aFh 48 #[Y mu] 16):=aKT hmu;have X2:Hid (aFh 48 #[Y inv] 16):=aKT aRo;have X3:Hid (aFh 48 #[Y sc] 16):=aKT hsc;have HG2:Hid (Gb w w2):=HG.out.trans uH;clear hmu aRo hsc uH HG hs m0 m1 m2 HA;go_wp2_with (first
   |(go_at_call 48;first|((with_reducible refine(X1.out _).mono ?_);rintro e w3 ⟨u1,hu1,rfl,uG⟩;have q1:zK (7+u1.size)/\zK (7+u1.size+1):=om)|((with_reducible refine(X2.out _).mono ?_);rintro e w4 ⟨u2,hu2,rfl,Ro⟩;have q2:zK (7+u1.size+1+u2.size)/\zK (7+u1.size+1+u2.size+1):=om)|((with_reducible refine(X3.out _).mono ?_);rintro e w5 ⟨u3,hu3,rfl,hg5⟩;have q3:zK (7+u1.size+1+u2.size+1+u3.size)/\zK (7+u1.size+1+u2.size+1+u3.size+1):=om)))
  have HG5:Hid (Gb w w5):=HG2.out.trans (uG.trans (Ro.trans hg5));clear uG Ro hg5;go_loopw [16,17] (λs16 s17 wr=>∃i:Nat,i<=t.size/\s17=J (i:Int)/\Gb w wr/\∃z:aJ,s16=.string z/\z.size<=100+2*i) (λ_ i _=>t.size-(intOf i).toNat)
  case atStart=>exact⟨0,fV _,rfl,HG5.out,_,rfl,by simp only[ByteArray.size_append];show 7+u1.size+1+u2.size+1+u3.size+1<=_;omega⟩
  case round=>
   obtain⟨i,hi,rfl,hG,z,rfl,hz⟩:=hrel;by_cases fJ:(i:Int)<(t.size:Int)
   .have q:=jR t i om;obtain⟨b0,b1⟩:=wG t i;generalize iJ t i=b at*
    obtain⟨D,hD⟩:∃D:Nat,b/16=(D:Int):=lq om;obtain⟨E,hE⟩:∃E:Nat,b%16=(E:Int):=lq om;have r1:=yX D om .i64;have r2:=yX E om .i64;have s1:=sF D;have s2:=sF E;unfold hexD at r1 r2;generalize Ew D=t1 at*
    generalize Ew E=t2 at*
    have v1:b.tdiv 16=(D:Int):=by rw[Int.tdiv_eq_ediv_of_nonneg b0];exact hD
    have v2:b.tmod 16=(E:Int):=by rw[Int.tmod_eq_emod_of_nonneg b0];exact hE
    have v3:IntKind.u8.wrap (D:Int)=D:=by rw[IntKind.wrap_u8];omega
    have v4:IntKind.u8.wrap (E:Int)=E:=by rw[IntKind.wrap_u8];omega
    have v5:IntKind.i64.wrap (D:Int)=D:=by rw[dI];omega
    have v6:IntKind.i64.wrap (E:Int)=E:=by rw[dI];omega
    have v7:IntKind.i64.wrap ((D:Int)+1)=(D:Int)+1:=by rw[dI];omega
    have v8:IntKind.i64.wrap ((E:Int)+1)=(E:Int)+1:=by rw[dI];omega
    have y1:zK (z.size+t1.size):=om;have y3:zK (z.size+t1.size+t2.size):=om;go_wp2;go_region;all_goals go_wp2<;>go_roundw
    case rel=>exact⟨i+1,om,jS,kg,_,rfl,by simp only[ByteArray.size_append];omega⟩
    case measure=>exact qL
   .obtain rfl:i=t.size:=om;go_wp2;go_returns;exact⟨z,om,k+9,om,rfl,hG⟩
 .obtain⟨R,hR⟩:∃R:Nat,x%15=(R:Int):=lq om;have hR':x.tmod 15=(R:Int):=by rw[Int.tmod_eq_emod_of_nonneg x0];exact hR
  have hR1:(R:Int)<15:=om;obtain⟨a8,c8,rfl,g1,g2,aW⟩:=hr;obtain⟨b8,o8,rfl,hc8⟩:=aW om;have q8:aB wc b8 (o8+R) (.string (jw.getD R default)):=hc8 R om;have hwd:=Ti (l:=jw) (m:=7) de R;generalize jw.getD R default=wd at*
  clear aW hc8 g1 g2 EJ HC;go_upto_region 24 with(go_at_call 21;refine(aN1 _ _).mono ?_;rintro e w2 ⟨sh,hsh,rfl,uH⟩);have HG2:Hid (Gb w w2):=HG.out.trans uH;clear uH HG q8 hR hR' hR1;go_upto_region 26 with(go_at_call 49;refine(HF _ HG2.out k om).mono ?_;rintro e w' ⟨f,m,k,f0,f1,m0,m1,hk,rfl,hw⟩;subst hw);obtain⟨b,hb⟩:∃b,b=decide (f=0\/f=1):=⟨_,rfl⟩;have HL:KW 50 #[J f] (.bool b):=jo f b hb;have HX:Hid (b=decide (f=0\/f=1)):=hb;clear hb;go_upto_if 149 with(go_at_call 50;refine(HL _).mono ?_;rintro e w' ⟨rfl,hw⟩;subst hw);go_cut [20] (λs20 wx=>∃F:Int,0<=F/\F<=1/\s20=J F/\wx=w2)
  case first=>
   cases b
   .go_wp2;go_meet;exact⟨1,de,de,rfl,rfl⟩
   .have:=of_decide_eq_true HX.out.symm;go_wp2;go_meet;exact⟨f,om,om,rfl,rfl⟩
  case rest=>
  obtain⟨F,F0,F1,rfl,hwc⟩:=hcut;subst hwc;clear HL HX f0 f1;go_wp2;go_loopw [1,23,24] (λs1 s23 s24 wr=>∃i k:Nat,i<=sh.size/\s24=J (i:Int)/\s1=J (k:Int)/\k<=p+3+15*i/\Gb w wr/\∃t:aJ,s23=.string t/\t.size<=7+20*i) (λ_ _ i _=>sh.size-(intOf i).toNat)
  case atStart=>exact⟨0,k,fV _,rfl,rfl,om,HG2.out,wd,rfl,om⟩
  case round=>
   obtain⟨i,k,hi,rfl,rfl,hk,hG,t,rfl,ht⟩:=hrel;have HG3:Hid (Gb w wr):=hG;have q1:zK (t.size+1)/\zK (t.size+1+2)/\zK (t.size+1+3)/\zK (t.size+1+4):=om;clear hG;by_cases fJ:(i:Int)<(sh.size:Int)
   .have q:=jR sh i om;obtain⟨b0,b1⟩:=wG sh i;generalize iJ sh i=b at*
    rcases(show b=102\/b=109\/b=107\/((b==102)=false/\(b==109)=false/\(b==107)=false) by simp;omega)with rfl|rfl|rfl|⟨n0,n1,n2⟩
    .rcases(om:(F+(i:Int))%2=0\/(F+(i:Int))%2=1)with z|z
     all_goals
      have z':=Int.tmod_eq_emod_of_nonneg (a:=F+(i:Int)) (b:=2) om;rw[z]at z';exact aLX
    .rcases(om:m=-1\/m=0\/m=1\/m=2\/m=3\/m=4\/m=5)with rfl|rfl|rfl|rfl|rfl|rfl|rfl
     all_goals
      go_wp2;go_roundw
      case rel=>exact⟨i+1,k,om,jS,rfl,om,by have:=HG3.out;exact kg,_,rfl,by simp only[ByteArray.size_append];first|(show t.size+1+4<=_;omega)|(show t.size+1+2<=_;omega)⟩
      case measure=>exact qL
    .go_upto_region 38 with(go_at_call 16;refine pW (HT _ HG3.out k 4 om om om) λy y0 y1 k hk=>?_);rcases(om:y=0\/y=1\/y=2\/y=3)with rfl|rfl|rfl|rfl
     all_goals
      exact aLX
    .go_wp2_with (first|(go_at_call 51;refine pW (HW _ om _ HG3.out k om) λy y0 y1 k hk=>?_)|(go_at_call 48;refine(aKT ⟨y0,y1⟩ _).mono ?_;rintro e w3 ⟨u,hu,rfl,uG⟩;have q5:¬9223372036854775807<t.size+1+u.size:=(by omega);have q6:t.size+1+u.size<=9223372036854775807:=om))
     go_roundw
     case rel=>exact⟨i+1,k,om,jS,rfl,om,HG3.out.trans uG,_,rfl,by simp only[ByteArray.size_append];show t.size+1+u.size<=_;omega⟩
     case measure=>exact qL
   .go_wp2;go_returns;exact⟨t,om,k,om,rfl,HG3.out⟩
def aLR{P:Prop}(h:P:=by
 obtain⟨u,hu,hq⟩:=hB.text;have q:=hq _ (Gb.refl _);clear hB hq HO;go_wp2;go_returns;exact⟨u,om,rfl,hG.trans hG2⟩):P:=h
def aLS{P:Prop}(h:P:=by
 go_roundw
 case rel=>exact⟨j+1,om,jS,hB3,Gb.below kg nO (dJ _)⟩
 case measure=>simp[intOf]<;>omega):P:=h
def pq.any(w:ak)(cs:Array Value)(n m:Nat)(hn:cs.size=n)(h9:n<=100)(h:(cs.all λv=>match v with| .string s=>decide (s.size<=m)|_=>false)=true):∃g:Nat->aJ,(∀j,(g j).size <=m)/\pq (w.alloc (.cells cs 9)) (aF w.heap.size n n) n g/\Gb w (w.alloc (.cells cs 9)):=by
 have hx:∀j,∃s:aJ,s.size<=m/\(j<n->cs[j]?=some (.string s)):=λj=>by
  by_cases hj:j<cs.size
  .have:=Array.all_eq_true.1 h j hj;cases e:cs[j]with
   |string s=>rw[e]at this;exact⟨s,of_decide_eq_true this,λ_=>by rw[Array.getElem?_eq_getElem hj,e]⟩
   |_=>rw[e]at this;cases this
  .exact⟨⟨#[]⟩,fV _,λc=>bG c om⟩
 refine⟨λj=>Classical.choose (hx j),λj=>(Classical.choose_spec (hx j)).1,⟨_,_,rfl,dJ _,by unfold maxLen;omega,λ_=>⟨w.heap.size,0,rfl,λj hj=>?_⟩⟩,Gb.alloc (Gb.refl _) _⟩;have e:=(Classical.choose_spec (hx j)).2 hj;rw[Nat.zero_add];show(w.alloc (.cells cs 9)).cell? ⟨w.heap.size,j,none⟩=_
 simpa[go_sem]using e
def count_any(a:Option Addr)(len cap:Nat)(hl:len<=1048576)(w:ak):CT 17 #[.slice a len cap,J 14,J 1,J 12] w λe w'=>∃n:Int,1<=n/\n<=12/\e=O (J n)/\w=w':=by
 obtain⟨q,hq⟩:=dP ((len:Int)/14:Int);have hq':(len:Int).tdiv 14=q:=by rw[Int.tdiv_eq_ediv_of_nonneg (by omega)];exact hq
 have q0:0<=q/\q<=1048576:=om;by_cases h:12<1+q;all_goals
  go_enter func17,ntmps17;go_wp2;go_returns;exact⟨_,om,om,rfl,rfl⟩
def aP5(h:aB w b 0 (.int .u8 x))(k:aB w b 1 (.int .u8 z))(h':0<=x/\x<=255)(k':0<=z/\z<=255):∀j y,[x,z][j]?=some y->aB w b j (.int .u8 y)/\0<=y/\y<=255:=λj y e=>by
 rcases j with _|_|j
 .cases e;exact⟨h,h'⟩
 .cases e;exact⟨k,k'⟩
 .cases e
def YZ(H:aJo)(a:Option Addr)(len cap:Nat)(w:ak)(hC:kU w a len):
  CT 7 #[.slice a len cap] w λe w'=>∃t:aJ,t.size<=1048576/\e=O (.string t)/\Gb w w':=by
 have HT0:Hid (Drw 16 #[.slice a len cap,J 0,J 60] w .i64 60 (0+1)):=tkP hC 0 60 om om om;have HT:Hid (∀w',Gb w w'->TkP w' (.slice a len cap)):=λw' hg=>tkP (hC.gb hg);have HL:Hid (∀w',Gb w w'->∀p:Nat,p<=2000->CT 18 #[.slice a len cap,J (p:Int)] w' λe bf=>∃t:aJ,t.size<=61000/\∃k:Nat,k<=p+100/\e=O (.tuple #[.string t,J (k:Int)])/\Gb w' bf):=λw' hg p hp=>VF H a len cap p w' (hC.gb hg) hp;have HN:Hid (∀w,CT 17 #[.slice a len cap,J 14,J 1,J 12] w λe w'=>∃n:Int,1<=n/\n<=12/\e=O (J n)/\w=w'):=count_any a len cap hC.few;clear hC H;go_enter func7,ntmps7;go_wp2_with (first|(go_at_call 16;refine pW HT0.out λyt h0 h1 k hk=>?_)|(go_at_call 17;refine(HN _).mono ?_;rintro e w' ⟨n,n0,n1,rfl,hw⟩;subst hw))
 go_loopw [4,5,7] (λs4 s5 s7 wr=>∃i k:Nat,(i:Int)<=n/\s4=J (k:Int)/\k<=1+100*i/\s7=J (i:Int)/\Gb w wr/\∃t:aJ,s5=.string t/\t.size<=61001*i/\i<=t.size) (λ_ _ i _=>(12-intOf i).toNat)
 case atStart=>exact⟨0,k,om,rfl,om,rfl,Gb.refl _,_,rfl,dJ _,dJ _⟩
 case round=>
  obtain⟨i,k,hi,rfl,hk,rfl,hG,t,rfl,ht,hti⟩:=hrel;have HG:Hid (Gb w wr):=hG;by_cases fJ:(i:Int)<n
  .clear hG;go_wp2_with (go_at_call 18;refine(HL _ HG.out k om).mono ?_;rintro e w2 ⟨u,hu,k,hk,rfl,uH⟩;have q1:zK (t.size+u.size)/\zK (t.size+u.size+1):=om);go_roundw
   case rel=>exact⟨i+1,k,om,rfl,om,jS,HG.out.trans uH,_,rfl,by simp only[ByteArray.size_append];show t.size+u.size+1<=_;omega,by simp only[ByteArray.size_append];show _<=t.size+u.size+1;omega⟩
   case measure=>exact qL
  .have t9:t.size<=800000/\0<t.size:=om;clear HL HN HT0 hti ht;go_upto_region 11 with(go_at_call 16;refine pW (HT _ hG k 20 om om om) λx x0 x1 k hk=>?_);by_cases c1:yt<10
   .go_upto_region 12 with fail;go_cut [12] (λs12 wx=>∃g:Nat->aJ,(∀j,(g j).size <=40)/\pq wx s12 20 g/\Gb wr wx)
    case first=>
     go_wp2;go_meet;exact pq.any _ _ _ _ (by rfl) de (by kernel_rfl)
    case rest=>
    obtain⟨g,hg,⟨a8,c8,rfl,g1,g2,aW⟩,EJ⟩:=hcut;obtain⟨b8,o8,rfl,hc8⟩:=aW om;obtain⟨X,rfl⟩:=lq x0;have q8:=hc8 X om;have hs:=hg X;generalize g X=u at*
    have q1:zK (t.size+u.size)/\zK (t.size+u.size+1):=om;clear aW hc8 hg;go_wp2;go_returns;exact⟨_,by simp only[ByteArray.size_append];show t.size+u.size+1<=_;omega,rfl,hG.trans EJ⟩
   by_cases c2:yt<14
   .go_upto_region 16 with(go_at_call 16;refine pW (HT _ hG k t.size om om om) λy y0 y1 k hk=>?_);obtain⟨X,rfl⟩:=lq y0;obtain⟨D,hD⟩:∃D:Nat,(k:Int)%16=(D:Int):=lq om;have hD':(k:Int).tmod 16=(D:Int):=by rw[Int.tmod_eq_emod_of_nonneg (by omega)];exact hD
    have r1:=yX D om .i64;have s1:=sF D;unfold hexD at r1;generalize Ew D=t2 at*
    obtain⟨t1,O_⟩:=dP (t.extract 0 X);obtain⟨t3,ht3⟩:=dP (t.extract X t.size);have r2:∀w,(Instr.slice 9 (.string t) none (some (J (X:Int))) none).run prog w=.ok (.string t1) w:=λw=>O_▸run_slice_string_h w 9 t underlying9 .i64 X om om;have r3:∀w,(Instr.slice 9 (.string t) (some (J (X:Int))) none none).run prog w=.ok (.string t3) w:=λw=>ht3▸run_slice_string_l w 9 t underlying9 .i64 (X:Int) om om;have hs:t1.size+t3.size<=t.size:=by rw[<-O_,<-ht3,ByteArray.size_extract,ByteArray.size_extract];omega
    have v7:IntKind.i64.wrap ((D:Int)+1)=(D:Int)+1:=by rw[dI];omega
    have y1:zK (t1.size+t2.size):=om;have y3:zK (t1.size+t2.size+t3.size):=om;have qY:(t1++t2++t3).size <=1048576:=by simp only[ByteArray.size_append];omega
    clear O_ ht3 y0 y1;go_wp2;go_region;all_goals go_wp2<;>go_returns
    all_goals exact⟨_,qY,rfl,kg⟩
   rcases(show yt=59\/yt=58\/yt=57\/((yt==59)=false/\(yt==58)=false/\(yt==57)=false) by simp;omega)with rfl|rfl|rfl|⟨e1,e2,e3⟩
   .go_wp2;go_loopw [15,16] (λs15 s16 wx=>∃i:Nat,i<=1002/\s16=J (i:Int)/\IW wx wr.heap.size s15 (2*i)/\Gb wr wx) (λ_ i _=>(1003-intOf i).toNat)
    case atStart=>exact⟨0,fV _,rfl,IW.lit _ _,kg⟩
    case round=>
     rename World=>wv
     obtain⟨j,hj,rfl,hB,hG2⟩:=hrel;have qY:=hG2.size;have HO:Hid (∀w2,Gb wv w2->IW w2 wr.heap.size _ (2*j)):=λw2 hg=>hB.gb hg;by_cases fJ:(j:Int)<1000+x%2
     .clear hB;go_wp2_with (at_builtin;refine rM rfl _ _ rfl wr.heap.size (2*j) [120,10] _ wv.heap.size rfl (HO _ kg) rfl (by simp) (aP5 j_ j_ de de) jA (by rw[dV];omega) ?_;intro v' w3 hB3 nO);exact aLS
     .exact aLR
   .obtain⟨X,hX⟩:∃X,t.size=X+1:=⟨t.size-1,om⟩;obtain⟨t1,O_⟩:=dP (t.extract 0 X);have hs:t1.size<=t.size:=by rw[<-O_,ByteArray.size_extract];omega
    have r2:∀w,(Instr.slice 9 (.string t) none (some (J ((t.size:Int)-1))) none).run prog w=.ok (.string t1) w:=λw=>by
     have:=run_slice_string_h w 9 t underlying9 .i64 X om om;rw[(om:(t.size:Int)-1=(X:Int)),<-O_];exact this
    clear O_ hX;go_wp2;go_returns;exact⟨t1,om,rfl,hG⟩
   .go_wp2;go_loopw [17,18] (λs15 s16 wx=>∃i:Nat,i<=100002/\s16=J (i:Int)/\IW wx wr.heap.size s15 i/\Gb wr wx) (λ_ i _=>(100003-intOf i).toNat)
    case atStart=>exact⟨0,fV _,rfl,IW.lit _ _,kg⟩
    case round=>
     rename World=>wv
     obtain⟨j,hj,rfl,hB,hG2⟩:=hrel;have qY:=hG2.size;have HO:Hid (∀w2,Gb wv w2->IW w2 wr.heap.size _ j):=λw2 hg=>hB.gb hg;by_cases fJ:(j:Int)<100000+x%2
     .clear hB;go_wp2_with (at_builtin;refine rM rfl _ _ rfl wr.heap.size j [120] _ wv.heap.size rfl (HO _ kg) rfl (by simp) (Sr j_ de) jA (by rw[dV];omega) ?_;intro v' w3 hB3 nO);exact aLS
     .exact aLR
   .go_wp2;go_returns;exact⟨t,om,rfl,hG⟩
def aLQ{P:Prop}(h:P:=by
 by_cases e2:q<j
 .rw[aH e1,aQ e2,aQ (by omega)]
 .rw[aH e1,aH e2,aH (by omega)]):P:=h
def aLV{P:Prop}(h:P:=by
 rw[(om:k+1-1=k),<-hm]at e2;obtain⟨b,cap,rfl,c1,c2,_,_,c3⟩:=e2.at Dp;exact⟨b,cap,e1,c2,λj hj=>(c3 j hj).1,e3⟩):P:=h
def aLW{P:Prop}(h:P:=by
 go_region;all_goals (go_wp2;go_meet)
 .exact⟨_,_,rfl,rfl,om,Ow.drew (Ow.alloc (HMd w) _),Ow.drew (IU w _),kg⟩
 .exact⟨_,_,rfl,rfl,om,Ow.drew (IU w _),Ow.drew (Ow.alloc (HMd w) _),kg⟩):P:=h
def Zp(o:Ops)(k:Nat):Prop:=∀(K:Int) (w:ak) (v cv:Value) (n:Nat) (cs:Nat->Int),K=(k:Int)->Fm w->Rd w Z v (2^k) (2^k) cs->(∀j,Wd (cs j))->CR o w cv n->k<n->n<=7->
 CT 264 #[J K,v,.func (.func 265) #[] #[],.func (.func 266) #[] #[],.func (.func 267) #[cv] #[]] w λe w'=>∃v',e=O v'/\Ow w' w.heap.size 123 2 Z v' (2^(k-1)) (flat (o.tr k cs))/\Gb w w'
def aDc(o:Ops):Zp o 1:=by
 intro K w v cv n cs hK hw hr wM hc hk hn;have HV:Hid (CT 266 #[v] w λe w'=>∃v',e=O v'/\Ow w' w.heap.size 123 2 Z v' 1 (flat (o.tr 1 cs))/\Gb w w'):=aDf hr;obtain rfl:K=1:=hK;clear hw hr wM hc hk hn;go_enter func264,ntmps264;go_wp2_with (go_at_call 266;refine HV.out.mono ?_;rintro e w1 ⟨v',rfl,GN,au⟩);go_returns;exact⟨_,rfl,GN,au⟩
def ZW(H:o.I)(HI:o.In)(k:Nat)(IH:Zp o (k+1)):Zp o (k+2):=by
 intro K w v cv n cs hK hw hr wM hc hk hn;unfold Zp at IH;obtain⟨K1,hK1⟩:=x_n ((k+1:Nat):Int);have uK:IntKind.i64.wrap (K-1)=K1:=by rw[dI];omega
 obtain⟨h,hh⟩:=x_n (2^(k+1));obtain⟨L,hL⟩:=x_n (2^(k+2));have h2:L=h+h:=by rw[hL,hh,jE];omega
 have aOX:h<=64:=by
  rw[hh];have:=pU (show 0<2 by decide) (om:k+1<=6);omega
 have jZ:0<h:=by rw[hh];exact iQ de
 rw[<-hL]at hr;obtain⟨bx,cx,rfl,hx1,hx2,V3⟩:=hr.at om;have HX:Hid _:=V3;have HC:Hid _:=hc;have HF:Hid _:=hw;have HH:Hid _:=hh;have hmk:∀w,(Instr.makeSlice 47 (J (h:Int)) (J (h:Int))).run prog w=.ok (aF w.heap.size h h) (w.alloc (.cells (madeCells #[Y 0] (h*1)) 71)):=λw=>tX 47 71 (Y 0) 1 8 underlying47 aCI de h om w;have aIc:(L:Int)/2=(h:Int):=om;have HMd:Hid (∀w:ak,Ow (w.alloc (.cells (madeCells #[Y 0] h) 71)) w.heap.size 71 1 Z (aF w.heap.size h h) h (λ_=>0)):=λw=>by have:=Ow.made w 71 1 #[Y 0] Z (Go.Proofs.YthoelefkjpjhfaaGreatDoor.z1 _) h (by omega);rw[kW]at this;exact this
 have IU:Hid (∀(w:ak) (ob:Obj),Ow ((w.alloc ob).alloc (.cells (madeCells #[Y 0] h) 71)) w.heap.size 71 1 Z (aF (w.heap.size+1) h h) h (λ_=>0)):=λw ob=>by have:=HMd (w.alloc ob);rw[dV]at this;exact this.mono om
 have k3:(K==1)=false:=jA;have HK1:Hid _:=hK1;have HK:Hid _:=hK;clear hK1 hK;have HL2:Hid _:=h2;have aRQ:L<=128:=om;clear hr V3 hc hw hh hL h2;go_enter func264,ntmps264;go_wp2;go_cut [11,12] (λf s wx=>∃b1 b2:Nat,f=aF b1 h h/\s=aF b2 h h/\b1≠b2/\Ow wx w.heap.size 71 1 Z (aF b1 h h) h (λ_=>0)/\Ow wx w.heap.size 71 1 Z (aF b2 h h) h (λ_=>0)/\Gb w wx)
 case first=>
  exact aLW
 case rest=>
  obtain⟨b1,b2,rfl,rfl,lM,GN,Qw,EJ⟩:=hcut;have HO1:Hid _:=GN;have HO2:Hid _:=Qw;clear GN Qw;go_wp2;go_loopw [33] (λi wr=>∃j:Nat,j<=h/\i=J j/\Ow wr w.heap.size 71 1 Z (aF b1 h h) h (λq=>if q<j then cs (2*q)else 0)/\Ow wr w.heap.size 71 1 Z (aF b2 h h) h (λq=>if q<j then cs (2*q+1)else 0)/\Gb w wr) (λi _=>h-(intOf i).toNat)
  case atStart=>exact⟨0,fV _,rfl,Ow.congr HO1.out (λq hq=>by rw[aH (by omega)]),Ow.congr HO2.out (λq hq=>by rw[aH (by omega)]),EJ⟩
  case round=>
   obtain⟨j,hj,rfl,GN,Qw,dQ⟩:=hrel;have HP1:Hid _:=GN;have HP2:Hid _:=Qw;by_cases fJ:j<h
   .have iV:(j:Int)<(h:Int):=om;obtain⟨b1',cap1,e1,iF,_,_,_,AA⟩:=GN.at jZ;obtain⟨b2',cap2,e2,mY,_,_,_,zA⟩:=Qw.at jZ;simp only[Value.slice.injEq,Option.some.injEq,Addr.mk.injEq,and_true,true_and]at e1 e2;obtain⟨rfl,rfl⟩:=e1;obtain⟨rfl,rfl⟩:=e2;obtain⟨c1,z1⟩:=AA j om;obtain⟨c2,z2⟩:=zA j om;rw[aH (by omega)]at c1 c2;obtain⟨J0,FQ⟩:=x_n (2*j);obtain⟨J1,Vx⟩:=x_n (2*j+1);obtain⟨x,hx⟩:=dP (cs (2*j));obtain⟨y,hy⟩:=dP (cs (2*j+1));have x0:wr.cell? ⟨bx,J0,none⟩=some (Y x):=by rw[FQ,<-hx];exact dQ.old (HX _ (by have:=HL2.out;omega))
    have x1:wr.cell? ⟨bx,J1,none⟩=some (Y y):=by rw[Vx,<-hy];exact dQ.old (HX _ (by have:=HL2.out;omega))
    have Tf:=aA (HX 0 (by have:=HL2.out;omega));have u0:IntKind.i64.wrap (2*(j:Int))=(J0:Int):=by rw[dI];omega
    have u1:IntKind.i64.wrap ((J0:Int)+1)=(J1:Int):=by rw[dI];omega
    have i0:(J0:Int)<(L:Int):=by have:=HL2.out;omega
    have i1:(J1:Int)<(L:Int):=by have:=HL2.out;omega
    have HJ0:Hid _:=FQ;have HJ1:Hid _:=Vx;have Hx:Hid _:=hx;have Hy:Hid _:=hy;clear FQ Vx hx hy;clear GN Qw AA zA;go_wp2;go_region_held3 (λw'=>aB w' bx J0 (Y x)/\aB w' bx J1 (Y y))(exact qj)(first|(go_at_call 265;refine kw (aHP _ _ _) ?_)|(go_at_call 315;refine kw (aCH _ _ _) ?_))
    all_goals
     go_wp2;go_roundw
     case rel=>
      refine⟨j+1,om,jS,?_,?_,kg⟩
      .refine Ow.drew (Ow.other (Ow.congr (Ow.store HP1.out j x) (λq hq=>?_)) (λe=>lM e.symm) _);by_cases e1:q=j
       .rw[aQ e1,aQ om,e1,Hx.out]
       .exact aLQ
      .refine Ow.drew (Ow.congr (Ow.store (Ow.other HP2.out (λe=>lM e) _) j y) (λq hq=>?_));by_cases e1:q=j
       .rw[aQ e1,aQ om,e1,Hy.out]
       .exact aLQ
     case measure=>exact qL
   .obtain rfl:j=h:=om;have FN:¬(j:Int)<(j:Int):=om
    rename World=>W
    have hS:∀w',Gb W w'->Fm w':=λw' hg=>Fm.gb HF.out (dQ.trans hg);have r1:Rd W Z (aF b1 j j) (2^(k+1)) (2^(k+1)) (λm=>cs (2*m)):=by
     rw[<-HH.out];have:=Ow.rd HP1.out;rw[kW]at this;exact this.congr (λq hq=>by rw[aQ hq])
    have r2:Rd W Z (aF b2 j j) (2^(k+1)) (2^(k+1)) (λm=>cs (2*m+1)):=by
     rw[<-HH.out];have:=Ow.rd HP2.out;rw[kW]at this;exact this.congr (λq hq=>by rw[aQ hq])
    obtain⟨m,hm⟩:=x_n (2^k);have Dp:0<m:=by rw[hm];exact iQ de
    have hmj:j=2*m:=by rw[HH.out,hm,jE];omega
    have HA:Hid (CT 264 #[J K1,aF b1 j j,.func (.func 265) #[] #[],.func (.func 266) #[] #[],.func (.func 267) #[cv] #[]] W λe w'=>∃b cap,e=O (aF b m cap)/\b<w'.heap.size/\(∀q,q<m*2->aB w' b q (Y (flat (o.tr (k+1) (λm=>cs (2*m))) q)))/\Gb W w'):=by
     show Calls _ _ _ _ _;refine(IH K1 W _ cv n _ HK1.out (hS _ (Gb.refl _)) r1 (λ_=>wM _) (CR.gb HC.out dQ) om hn).mono λe bf ⟨v,e1,e2,e3⟩=>?_;exact aLV
    have HB:Hid (∀W2,Gb W W2->CT 264 #[J K1,aF b2 j j,.func (.func 265) #[] #[],.func (.func 266) #[] #[],.func (.func 267) #[cv] #[]] W2 λe w'=>∃b cap,e=O (aF b m cap)/\b<w'.heap.size/\(∀q,q<m*2->aB w' b q (Y (flat (o.tr (k+1) (λm=>cs (2*m+1))) q)))/\Gb W2 w'):=by
     intro W2 uH;refine(IH K1 W2 _ cv n _ HK1.out (hS _ uH) (r2.gb uH) (λ_=>wM _) ((CR.gb HC.out dQ).gb uH) om hn).mono λe bf ⟨v,e1,e2,e3⟩=>?_;exact aLV
    obtain⟨M2,hM2⟩:=x_n (2*m);have u2:IntKind.i64.wrap (2*(m:Int))=(M2:Int):=by rw[dI];omega
    have aTQ:∀w,(Instr.makeSlice 119 (J (M2:Int)) (J (M2:Int))).run prog w=.ok (aF w.heap.size M2 M2) (w.alloc (.cells (madeCells #[Y 0,Y 0] (M2*2)) 123)):=λw=>tX 119 123 (aS 0 0) 2 16 underlying119 aHZ de M2 om w;have HM3:Hid (∀w:ak,Ow (w.alloc (.cells (madeCells #[Y 0,Y 0] (M2*2)) 123)) w.heap.size 123 2 Z (aF w.heap.size M2 M2) M2 (λ_=>0)):=λw=>Ow.made w 123 2 #[Y 0,Y 0] Z (z2 _) M2 om;have HMj:Hid _:=hmj;have HM:Hid _:=hm;have VX:Hid _:=hM2;have HGB:Hid _:=dQ;have HCS:Hid _:=wM;have HSS:Hid _:=hS;have aV7:m<=64:=om;have aRP:M2<=128:=om;clear hmj hm hM2 GN Qw r1 r2 IU HMd hmk aIc dQ IH wM hS;go_wp2_with (first|(go_at_call 264;first|(with_reducible refine HA.out.mono ?_;rintro e w2 ⟨ba,ca,rfl,hba,hca,aC⟩)|(go_loud (with_reducible refine(HB.out _ aC).mono ?_);rintro e w3 ⟨bb,cb,rfl,Vr,Ci,aO⟩;have HCA:Hid _:=hca;have HCB:Hid _:=Ci;clear hca Ci)))
    have aE1:Gb W w3:=aC.trans aO;have aTt:=aE1.size;have aEV:=(HGB.out:Gb w W).size;have hAB:Gb w2 w3:=aO;go_loopw [82] (λi wr=>∃j':Nat,j'<=m/\i=J j'/\Ow wr w3.heap.size 123 2 Z (aF w3.heap.size M2 M2) M2 (λq=>if q<4*j' then flat (o.tr (k+2) cs) q else 0)/\Gb w3 wr) (λi _=>m-(intOf i).toNat)
    case atStart=>exact⟨0,fV _,rfl,Ow.congr (HM3 w3) (λq hq=>by rw[aH (by omega)]),kg⟩
    case round=>
     obtain⟨i,hi,rfl,jv,uG⟩:=hrel;have HFo:Hid _:=jv;by_cases fJ:i<m
     .have iV:(i:Int)<(m:Int):=om;obtain⟨b',cap',e,_,_,_,_,Pv⟩:=jv.at (by have:=VX.out;omega);simp only[Value.slice.injEq,Option.some.injEq,Addr.mk.injEq,and_true,true_and]at e;obtain⟨rfl,rfl⟩:=e;obtain⟨J0,FQ⟩:=x_n (2*i);obtain⟨J1,Vx⟩:=x_n (2*i+1);have aO9:=VX.out;obtain⟨c0,z0⟩:=Pv (J0*2) om;obtain⟨c1,z1⟩:=Pv (J0*2+1) om;obtain⟨c2,z2⟩:=Pv (J1*2) om;obtain⟨c3,z3⟩:=Pv (J1*2+1) om;rw[aH (by omega)]at c0 c1 c2 c3;obtain⟨a1,kG⟩:=dP ((o.tr (k+1) (λm=>cs (2*m)) i).1);obtain⟨a2,sD⟩:=dP ((o.tr (k+1) (λm=>cs (2*m)) i).2);obtain⟨d1,uT⟩:=dP ((o.tr (k+1) (λm=>cs (2*m+1)) i).1);obtain⟨d2,DI⟩:=dP ((o.tr (k+1) (λm=>cs (2*m+1)) i).2);have p0:wr.cell? ⟨ba,i*2,none⟩=some (Y a1):=by rw[<-kG,<-fO,dM];exact uG.old (hAB.old (HCA (2*i) om))
      have p1:wr.cell? ⟨ba,i*2+1,none⟩=some (Y a2):=by rw[<-sD,<-fP,dM];exact uG.old (hAB.old (HCA (2*i+1) om))
      have p2:wr.cell? ⟨bb,i*2,none⟩=some (Y d1):=by rw[<-uT,<-fO,dM];exact uG.old (HCB (2*i) om)
      have p3:wr.cell? ⟨bb,i*2+1,none⟩=some (Y d2):=by rw[<-DI,<-fP,dM];exact uG.old (HCB (2*i+1) om)
      have wE:=HI.tr (k+1) (λm=>cs (2*m)) i (λ_=>HCS _);have wO:=HI.tr (k+1) (λm=>cs (2*m+1)) i (λ_=>HCS _);unfold uN at wE wO;rw[kG,sD]at wE;rw[uT,DI]at wO;obtain⟨x,y,hxy⟩:∃x y,o.rt (k+2) (2*i)=(x,y):=⟨_,_,rfl⟩;have wX:=HI.rt (k+2) (2*i);rw[hxy]at wX;have aKS:Gb w wr:=Gb.trans (Gb.trans HGB.out aE1) uG;have HSp:Hid (∀w',Gb w w'->QW 267 #[cv,J K,J i] w' (.func (.func 316) #[aS x y] #[])):=λw' hg=>by
       rw[show K=((k+2:Nat):Int) from HK.out];exact aAk (CR.gb HC.out hg) (k+2) i om hk hn (by rw[(om:k+2-1=k+1),jE,<-HM.out];omega) x y hxy
      obtain⟨t,ht⟩:=dP (o.cMul (x,y) (d1,d2));have HSq:Hid (∀w',Gb w w'->QR 316 #[aS x y,aS a1 a2,aS d1 d2] w' (.tuple #[aS (o.add a1 t.1) (o.add a2 t.2),aS (o.sub a1 t.1) (o.sub a2 t.2)])):=λw' hg=>aE9 H HI wX.1 wX.2 wE.1 wE.2 wO.1 wO.2 (Fm.gb HF.out hg) t ht;have s0:o.tr (k+2) cs (2*i)=(o.add a1 t.1,o.add a2 t.2):=by
       simp only[Ops.tr];rw[aQ om,(om:2*i/2=i),hxy,show o.tr (k+1) (λm=>cs (2*m+1)) i=(d1,d2) by rw[<-uT,<-DI],ht];unfold Ops.cAdd;rw[kG,sD]
      have s1:o.tr (k+2) cs (2*i+1)=(o.sub a1 t.1,o.sub a2 t.2):=by
       simp only[Ops.tr];rw[aH om,(om:(2*i+1)/2=i),hxy,show o.tr (k+1) (λm=>cs (2*m+1)) i=(d1,d2) by rw[<-uT,<-DI],ht];unfold Ops.cSub;rw[kG,sD]
      obtain⟨v0,hv0⟩:=dP (o.add a1 t.1);obtain⟨v1,hv1⟩:=dP (o.add a2 t.2);obtain⟨v2,hv2⟩:=dP (o.sub a1 t.1);obtain⟨v3,hv3⟩:=dP (o.sub a2 t.2);rw[hv0,hv1]at s0;rw[hv2,hv3]at s1;rw[hv0,hv1,hv2,hv3]at HSq;have f0:Hid (flat (o.tr (k+2) cs) (J0*2)=v0):=by show _=_;rw[dM,fO,FQ,s0]
      have f1:Hid (flat (o.tr (k+2) cs) (J0*2+1)=v1):=by show _=_;rw[dM,fP,FQ,s0]
      have f2:Hid (flat (o.tr (k+2) cs) (J1*2)=v2):=by show _=_;rw[dM,fO,Vx,s1]
      have f3:Hid (flat (o.tr (k+2) cs) (J1*2+1)=v3):=by show _=_;rw[dM,fP,Vx,s1]
      have u0:IntKind.i64.wrap (2*(i:Int))=(J0:Int):=by rw[dI];omega
      have u1:IntKind.i64.wrap ((J0:Int)+1)=(J1:Int):=by rw[dI];omega
      have i0:(J0:Int)<(M2:Int):=om;have i1:(J1:Int)<(M2:Int):=om;have HJ0:Hid _:=FQ;have HJ1:Hid _:=Vx;have n0:¬J0=J1:=om;have n1:¬J0*2=J1*2:=om;have n2:¬J0*2+1=J1*2:=om;have n3:¬J0*2=J1*2+1:=om;have n4:¬J0*2+1=J1*2+1:=om;have hsb:ba<w3.heap.size:=by have:=hAB.size;omega
      have aRb:=uG.size;clear jv Pv FQ Vx aO9 kG sD uT DI wE wO hxy wX ht s0 s1 hv0 hv1 hv2 hv3;go_wp2;go_region_held3 (λw'=>aB w' ba (i*2) (Y a1)/\aB w' ba (i*2+1) (Y a2)/\aB w' bb (i*2) (Y d1)/\aB w' bb (i*2+1) (Y d2))(exact qj)(first|(go_at_call 267;refine kw (HSp _ kg) ?_)|(go_at_call 316;refine ku (HSq _ kg) λw5 bT=>?_;have cc0:aB w5 w3.heap.size (J0*2) (Y 0):=bT.c;have cz0:dL w5 w3.heap.size (J0*2):=bT.z;have cc1:aB w5 w3.heap.size (J0*2+1) (Y 0):=bT.c;have cz1:dL w5 w3.heap.size (J0*2+1):=bT.z;have cc2:aB w5 w3.heap.size (J1*2) (Y 0):=bT.c;have cz2:dL w5 w3.heap.size (J1*2):=bT.z;have cc3:aB w5 w3.heap.size (J1*2+1) (Y 0):=bT.c;have cz3:dL w5 w3.heap.size (J1*2+1):=bT.z))
      all_goals
       go_wp2;go_roundw
       case rel=>
        refine⟨i+1,om,jS,?_,kg⟩;refine Ow.congr (Ow.store (Ow.store (Ow.store (Ow.store (Ow.gb (Ow.drew HFo.out) bT.gb) (J0*2) v0) (J0*2+1) v1) (J1*2) v2) (J1*2+1) v3) (λq hq=>?_);have j0:=HJ0.out;have j1:=HJ1.out;by_cases e3:q=J1*2+1
        .rw[aQ e3,aQ om,e3];exact f3.out.symm
        .by_cases e2:q=J1*2
         .rw[aH e3,aQ e2,aQ om,e2];exact f2.out.symm
         .by_cases e1:q=J0*2+1
          .rw[aH e3,aH e2,aQ e1,aQ om,e1];exact f1.out.symm
          .by_cases e0:q=J0*2
           .rw[aH e3,aH e2,aH e1,aQ e0,aQ om,e0];exact f0.out.symm
           .by_cases e4:q<4*i
            .rw[aH e3,aH e2,aH e1,aH e0,aQ e4,aQ (by omega)]
            .rw[aH e3,aH e2,aH e1,aH e0,aH e4,aH (by omega)]
       case measure=>exact qL
     .obtain rfl:i=m:=om;have aTS:¬(i:Int)<(i:Int):=om;have eM:2^(k+1)=M2:=by rw[jE,<-HM.out,VX.out];omega
      have aKS:Gb w wr:=Gb.trans (Gb.trans HGB.out aE1) uG;clear jv;go_wp2;go_returns;refine⟨_,rfl,?_,aKS⟩;exact Ow.mono (Ow.congr HFo.out (λq hq=>by rw[aQ (by have:=VX.out;omega)])) om
def aB1(H:o.I)(HI:o.In):∀k:Nat,1<=k->Zp o k
 |0,h=>bG h om
 |1,_=>aDc o
 |k+2,_=>ZW H HI k (aB1 H HI (k+1) om)
def aLT{P:Prop}(h:P:=by
 by_cases e2:q<2*j
 .rw[aH e1,aH e0,aQ e2,aQ (by omega)]
 .rw[aH e1,aH e0,aH e2,aH (by omega)]):P:=h
def aLU{P:Prop}(h:P:=by
 rw[<-HLe.out]at e2;obtain⟨b,cap,rfl,c1,c2,_,_,c3⟩:=e2.at hL1;exact⟨b,cap,e1,c2,λj hj=>(c3 j om).1,e3⟩):P:=h
def aEj{zs:Nat->Int × Int}(hr:Rd w Z v 1 2 (flat zs)):
  CT 271 #[v] w λe w'=>∃v',e=O v'/\Ow w' w.heap.size 71 1 Z v' 2 (o.bk 1 zs)/\Gb w w':=by
 obtain⟨b,cap,rfl,h1,h2,hc⟩:=hr.at om;have c0:aB w b 0 (Y (zs 0).1):=hc 0 om;have c1:aB w b 1 (Y (zs 0).2):=hc 1 om;have e0:o.bk 1 zs 0=(zs 0).1 :=rfl;have e1:o.bk 1 zs 1=(zs 0).2 :=rfl;generalize o.bk 1 zs=f at*
 generalize(zs 0).1 =x at*
 generalize(zs 0).2 =y at*
 clear hr hc;go_enter func271,ntmps271;go_wp2;go_region;all_goals go_wp2<;>go_returns
 all_goals
  refine⟨_,rfl,?_,kg⟩;have:=MZ (base:=w.heap.size) (e:=71) (size:=1) w.drew #[Y x,Y y] 2 (dJ _) de rfl;refine Ow.congr (g:=λj=>if j=0 then x else y) this (λj hj=>?_)
  match j,hj with
  |0,_=>exact e0.symm
  |1,_=>exact e1.symm
def aBC(hc:CR o w cv n)(k j:Nat)(kF:1<=k)(hk:k<n)(hn:n<=7)(hj:2*j<2^(k-1))(x y:Int)(hx:o.rt k (2*j)=(x,y)):
  QW 270 #[cv,J k,J j] w (.func (.func 317) #[aS x y] #[]):=by
 obtain⟨g,cap,rfl,h2⟩:=hc;obtain⟨b,cp,h3,h4⟩:=h2 k kF hk;obtain⟨m,hm⟩:=dP (2^(k-1));rw[hm]at h3 h4 hj;have hmm:m<=64:=by
  rw[<-hm];have:=pU (show 0<2 by decide) (om:k-1<=6);omega
 have c0:w.cell? ⟨b,2*j*2,none⟩=some (Y x):=by rw[h4 _ om,dM,fO,hx]
 have c1:w.cell? ⟨b,2*j*2+1,none⟩=some (Y y):=by rw[h4 _ om,(om:2*j*2+1=2*(2*j)+1),fP,hx]
 have EI:(k:Int)<(n:Int):=om;have hj':2*(j:Int)<(m:Int):=om;clear h2 h4 hm hx;go_enter func270,ntmps270;go_wp2;go_returns;exact⟨rfl,rfl⟩
def Zq(o:Ops)(k:Nat):Prop:=∀(K:Int) (w:ak) (v cv:Value) (n:Nat) (zs:Nat->Int × Int),K=(k:Int)->Fm w->Rd w Z v (2^(k-1)) (2^(k-1)*2) (flat zs)->(∀j,uN (zs j))->CR o w cv n->k<n->n<=7->
 CT 269 #[J K,v,.func (.func 270) #[cv] #[],.func (.func 271) #[] #[],.func (.func 265) #[] #[]] w λe w'=>∃v',e=O v'/\Ow w' w.heap.size 71 1 Z v' (2^k) (o.bk k zs)/\Gb w w'
def aDd(o:Ops):Zq o 1:=by
 intro K w v cv n zs hK hw hr wM hc hk hn;have HV:Hid (CT 271 #[v] w λe w'=>∃v',e=O v'/\Ow w' w.heap.size 71 1 Z v' 2 (o.bk 1 zs)/\Gb w w'):=aEj hr;obtain rfl:K=1:=hK;clear hw hr wM hc hk hn;go_enter func269,ntmps269;go_wp2_with (go_at_call 271;refine HV.out.mono ?_;rintro e w1 ⟨v',rfl,GN,au⟩);go_returns;exact⟨_,rfl,GN,au⟩
def ZX(H:o.I)(HI:o.In)(k:Nat)(IH:Zq o (k+1)):Zq o (k+2):=by
 intro K w v cv n zs hK hw hr wM hc hk hn;unfold Zq at IH;obtain⟨K1,hK1⟩:=x_n ((k+1:Nat):Int);have uK:IntKind.i64.wrap (K-1)=K1:=by rw[dI];omega
 obtain⟨h,hh⟩:=x_n (2^k);obtain⟨L,hL⟩:=x_n (2^(k+1));have h2:L=h+h:=by rw[hL,hh,jE];omega
 have aOX:h<=32:=by
  rw[hh];have:=pU (show 0<2 by decide) (om:k<=5);omega
 have jZ:0<h:=by rw[hh];exact iQ de
 rw[(om:k+2-1=k+1),<-hL]at hr;obtain⟨bx,cx,rfl,hx1,hx2,V3⟩:=hr.at om;have HX:Hid _:=V3;have HC:Hid _:=hc;have HF:Hid _:=hw;have HH:Hid _:=hh;have HLe:Hid _:=hL;have hmk:∀w,(Instr.makeSlice 119 (J (h:Int)) (J (h:Int))).run prog w=.ok (aF w.heap.size h h) (w.alloc (.cells (madeCells #[Y 0,Y 0] (h*2)) 123)):=λw=>tX 119 123 (aS 0 0) 2 16 underlying119 aHZ de h om w;have aIc:(L:Int)/2=(h:Int):=om;have HMd:Hid (∀w:ak,Ow (w.alloc (.cells (madeCells #[Y 0,Y 0] (h*2)) 123)) w.heap.size 123 2 Z (aF w.heap.size h h) h (λ_=>0)):=λw=>Ow.made w 123 2 #[Y 0,Y 0] Z (Go.Proofs.YthoelefkjpjhfaaGreatDoor.z2 _) h om;have IU:Hid (∀(w:ak) (ob:Obj),Ow ((w.alloc ob).alloc (.cells (madeCells #[Y 0,Y 0] (h*2)) 123)) w.heap.size 123 2 Z (aF (w.heap.size+1) h h) h (λ_=>0)):=λw ob=>by have:=HMd (w.alloc ob);rw[dV]at this;exact this.mono om
 have k3:(K==1)=false:=jA;have HK1:Hid _:=hK1;have HK:Hid _:=hK;have HL2:Hid _:=h2;have aRQ:L<=64:=om;have HCS:Hid _:=wM;clear hK1 hK hr V3 hc hw hh hL h2;go_enter func269,ntmps269;go_wp2;go_cut [11,12] (λf s wx=>∃b1 b2:Nat,f=aF b1 h h/\s=aF b2 h h/\b1≠b2/\Ow wx w.heap.size 123 2 Z (aF b1 h h) h (λ_=>0)/\Ow wx w.heap.size 123 2 Z (aF b2 h h) h (λ_=>0)/\Gb w wx)
 case first=>
  exact aLW
 case rest=>
  obtain⟨b1,b2,rfl,rfl,lM,GN,Qw,EJ⟩:=hcut;have HO1:Hid _:=GN;have HO2:Hid _:=Qw;clear GN Qw;go_wp2;go_loopw [33] (λi wr=>∃j:Nat,j<=h/\i=J j/\Ow wr w.heap.size 123 2 Z (aF b1 h h) h (λq=>if q<2*j then flat (o.MR zs) q else 0)/\Ow wr w.heap.size 123 2 Z (aF b2 h h) h (λq=>if q<2*j then flat (o.Qy (k+2) zs) q else 0)/\Gb w wr) (λi _=>h-(intOf i).toNat)
  case atStart=>exact⟨0,fV _,rfl,Ow.congr HO1.out (λq hq=>by rw[aH (by omega)]),Ow.congr HO2.out (λq hq=>by rw[aH (by omega)]),EJ⟩
  case round=>
   obtain⟨j,hj,rfl,GN,Qw,dQ⟩:=hrel;have HP1:Hid _:=GN;have HP2:Hid _:=Qw;by_cases fJ:j<h
   .have iV:(j:Int)<(h:Int):=om;obtain⟨b1',cap1,e1,iF,hB1,_,_,AA⟩:=GN.at jZ;obtain⟨b2',cap2,e2,mY,hB2,_,_,zA⟩:=Qw.at jZ;simp only[Value.slice.injEq,Option.some.injEq,Addr.mk.injEq,and_true,true_and]at e1 e2;obtain⟨rfl,rfl⟩:=e1;obtain⟨rfl,rfl⟩:=e2;obtain⟨c1,z1⟩:=AA (j*2) om;obtain⟨c1',z1'⟩:=AA (j*2+1) om;obtain⟨c2,z2⟩:=zA (j*2) om;obtain⟨c2',z2'⟩:=zA (j*2+1) om;rw[aH (by omega)]at c1 c2 c1' c2';obtain⟨J0,FQ⟩:=x_n (2*j);obtain⟨J1,Vx⟩:=x_n (2*j+1);obtain⟨x1,x2,hx⟩:∃x1 x2,zs (2*j)=(x1,x2):=⟨_,_,rfl⟩;obtain⟨y1,y2,hy⟩:∃y1 y2,zs (2*j+1)=(y1,y2):=⟨_,_,rfl⟩;have hLL:=HL2.out;have p0:aB wr bx (J0*2) (Y x1):=by have:=dQ.old (HX (2*(2*j)) om);rw[fO,hx]at this;rw[FQ,dM];exact this
    have p1:aB wr bx (J0*2+1) (Y x2):=by have:=dQ.old (HX (2*(2*j)+1) om);rw[fP,hx]at this;rw[FQ,dM];exact this
    have p2:aB wr bx (J1*2) (Y y1):=by have:=dQ.old (HX (2*(2*j+1)) om);rw[fO,hy]at this;rw[Vx,dM];exact this
    have p3:aB wr bx (J1*2+1) (Y y2):=by have:=dQ.old (HX (2*(2*j+1)+1) om);rw[fP,hy]at this;rw[Vx,dM];exact this
    have Tf:=aA (HX 0 om);have wZ:=HCS (2*j);have wY:=HCS (2*j+1);rw[hx]at wZ;rw[hy]at wY;obtain⟨r,s,Io⟩:∃r s,o.rt (k+2) (2*j)=(r,s):=⟨_,_,rfl⟩;have wR:=HI.rt (k+2) (2*j);rw[Io]at wR;have HSp:Hid (∀w',Gb w w'->QW 270 #[cv,J K,J j] w' (.func (.func 317) #[aS r s] #[])):=λw' hg=>by
     rw[show K=((k+2:Nat):Int) from HK.out];exact aBC (CR.gb HC.out hg) (k+2) j om hk hn (by rw[(om:k+2-1=k+1),<-HLe.out];omega) r s Io
    obtain⟨t,ht⟩:=dP (o.MR zs j);obtain⟨u,hu⟩:=dP (o.Qy (k+2) zs j);have HSq:Hid (∀w',Gb w w'->QR 317 #[aS r s,aS x1 x2,aS y1 y2] w' (.tuple #[aS t.1 t.2,aS u.1 u.2])):=λw' hg=>aFd H HI wR.1 wR.2 wZ.1 wZ.2 wY.1 wY.2 (Fm.gb HF.out hg) t u (by rw[<-ht,<-hx,<-hy];rfl) (by rw[<-hu,<-hx,<-hy,<-Io];rfl);obtain⟨t1,t2⟩:=t;obtain⟨u1,u2⟩:=u;dsimp only at HSq;have f0:Hid (flat (o.MR zs) (j*2)=t1):=by show _=_;rw[dM,fO,ht]
    have f1:Hid (flat (o.MR zs) (j*2+1)=t2):=by show _=_;rw[dM,fP,ht]
    have f2:Hid (flat (o.Qy (k+2) zs) (j*2)=u1):=by show _=_;rw[dM,fO,hu]
    have f3:Hid (flat (o.Qy (k+2) zs) (j*2+1)=u2):=by show _=_;rw[dM,fP,hu]
    have v0:IntKind.i64.wrap (2*(j:Int))=(J0:Int):=by rw[dI];omega
    have v1:IntKind.i64.wrap ((J0:Int)+1)=(J1:Int):=by rw[dI];omega
    have i0:(J0:Int)<(L:Int):=om;have i1:(J1:Int)<(L:Int):=om;clear GN Qw AA zA FQ Vx hx hy hLL wZ wY wR Io ht hu;go_wp2;go_region_held3 (λw'=>aB w' bx (J0*2) (Y x1)/\aB w' bx (J0*2+1) (Y x2)/\aB w' bx (J1*2) (Y y1)/\aB w' bx (J1*2+1) (Y y2))(exact qj)(first|(go_at_call 270;refine kw (HSp _ kg) ?_)|(go_at_call 317;refine ku (HSq _ kg) λw5 bT=>?_;have hz5:=bT.size;(try simp only[jg]at hz5);have cc0:aB w5 b1 (j*2) (Y 0):=bT.c;have cz0:dL w5 b1 (j*2):=bT.z;have cc1:aB w5 b1 (j*2+1) (Y 0):=bT.c;have cz1:dL w5 b1 (j*2+1):=bT.z;have cc2:aB w5 b2 (j*2) (Y 0):=bT.c;have cz2:dL w5 b2 (j*2):=bT.z;have cc3:aB w5 b2 (j*2+1) (Y 0):=bT.c;have cz3:dL w5 b2 (j*2+1):=bT.z))
    all_goals
     go_wp2;go_roundw
     case rel=>
      refine⟨j+1,om,jS,?_,?_,kg⟩
      .refine Ow.other (Ow.other (Ow.congr (Ow.store (Ow.store (Ow.gb (Ow.drew HP1.out) bT.gb) (j*2) t1) (j*2+1) t2) (λq hq=>?_)) (λe=>lM e.symm) _) (λe=>lM e.symm) _;by_cases e1:q=j*2+1
       .rw[aQ e1,aQ om,e1];exact f1.out.symm
       .by_cases e0:q=j*2
        .rw[aH e1,aQ e0,aQ om,e0];exact f0.out.symm
        .exact aLT
      .refine Ow.congr (Ow.store (Ow.store (Ow.other (Ow.other (Ow.gb (Ow.drew HP2.out) bT.gb) (λe=>lM e) _) (λe=>lM e) _) (j*2) u1) (j*2+1) u2) (λq hq=>?_);by_cases e1:q=j*2+1
       .rw[aQ e1,aQ om,e1];exact f3.out.symm
       .by_cases e0:q=j*2
        .rw[aH e1,aQ e0,aQ om,e0];exact f2.out.symm
        .exact aLT
     case measure=>exact qL
   .obtain rfl:j=h:=om;have FN:¬(j:Int)<(j:Int):=om
    rename World=>W
    have hS:∀w',Gb W w'->Fm w':=λw' hg=>Fm.gb HF.out (dQ.trans hg);have r1:Rd W Z (aF b1 j j) (2^(k+1-1)) (2^(k+1-1)*2) (flat (o.MR zs)):=by
     rw[(om:k+1-1=k),<-HH.out];exact(Ow.rd HP1.out).congr (λq hq=>by rw[aQ (by omega)])
    have r2:Rd W Z (aF b2 j j) (2^(k+1-1)) (2^(k+1-1)*2) (flat (o.Qy (k+2) zs)):=by
     rw[(om:k+1-1=k),<-HH.out];exact(Ow.rd HP2.out).congr (λq hq=>by rw[aQ (by omega)])
    have hL1:0<L:=by have:=HL2.out;omega
    have HA:Hid (CT 269 #[J K1,aF b1 j j,.func (.func 270) #[cv] #[],.func (.func 271) #[] #[],.func (.func 265) #[] #[]] W λe w'=>∃b cap,e=O (aF b L cap)/\b<w'.heap.size/\(∀q,q<L->aB w' b q (Y (o.bk (k+1) (o.MR zs) q)))/\Gb W w'):=by
     show Calls _ _ _ _ _;refine(IH K1 W _ cv n _ HK1.out (hS _ (Gb.refl _)) r1 (HI.MR wM) (CR.gb HC.out dQ) om hn).mono λe bf ⟨v,e1,e2,e3⟩=>?_;exact aLU
    have HB:Hid (∀W2,Gb W W2->CT 269 #[J K1,aF b2 j j,.func (.func 270) #[cv] #[],.func (.func 271) #[] #[],.func (.func 265) #[] #[]] W2 λe w'=>∃b cap,e=O (aF b L cap)/\b<w'.heap.size/\(∀q,q<L->aB w' b q (Y (o.bk (k+1) (o.Qy (k+2) zs) q)))/\Gb W2 w'):=by
     intro W2 uH;refine(IH K1 W2 _ cv n _ HK1.out (hS _ uH) (r2.gb uH) (HI.Qy _ wM) ((CR.gb HC.out dQ).gb uH) om hn).mono λe bf ⟨v,e1,e2,e3⟩=>?_;exact aLU
    obtain⟨M2,hM2⟩:=x_n (2*L);have u2:IntKind.i64.wrap (2*(L:Int))=(M2:Int):=by rw[dI];omega
    have aTQ:∀w,(Instr.makeSlice 47 (J (M2:Int)) (J (M2:Int))).run prog w=.ok (aF w.heap.size M2 M2) (w.alloc (.cells (madeCells #[Y 0] (M2*1)) 71)):=λw=>tX 47 71 (Y 0) 1 8 underlying47 aCI de M2 om w;have HM3:Hid (∀w:ak,Ow (w.alloc (.cells (madeCells #[Y 0] M2) 71)) w.heap.size 71 1 Z (aF w.heap.size M2 M2) M2 (λ_=>0)):=λw=>by have:=Ow.made w 71 1 #[Y 0] Z (Go.Proofs.YthoelefkjpjhfaaGreatDoor.z1 _) M2 (by omega);rw[kW]at this;exact this
    have VX:Hid _:=hM2;have HGB:Hid _:=dQ;have aRP:M2<=128:=om;clear hM2 GN Qw r1 r2 IU HMd hmk aIc dQ IH wM hS;go_wp2_with (first|(go_at_call 269;first|(with_reducible refine HA.out.mono ?_;rintro e w2 ⟨ba,ca,rfl,hba,hca,aC⟩)|(go_loud (with_reducible refine(HB.out _ aC).mono ?_);rintro e w3 ⟨bb,cb,rfl,Vr,Ci,aO⟩;have HCA:Hid _:=hca;have HCB:Hid _:=Ci;clear hca Ci)))
    have aE1:Gb W w3:=aC.trans aO;have aTt:=aE1.size;have aEV:=(HGB.out:Gb w W).size;have hAB:Gb w2 w3:=aO;go_loopw [82] (λi wr=>∃j':Nat,j'<=L/\i=J j'/\Ow wr w3.heap.size 71 1 Z (aF w3.heap.size M2 M2) M2 (λq=>if q<2*j' then o.bk (k+2) zs q else 0)/\Gb w3 wr) (λi _=>L-(intOf i).toNat)
    case atStart=>exact⟨0,fV _,rfl,Ow.congr (HM3 w3) (λq hq=>by rw[aH (by omega)]),kg⟩
    case round=>
     obtain⟨i,hi,rfl,jv,uG⟩:=hrel;have HFo:Hid _:=jv;by_cases fJ:i<L
     .have iV:(i:Int)<(L:Int):=om;obtain⟨b',cap',e,_,_,_,_,Pv⟩:=jv.at (by have:=VX.out;omega);simp only[Value.slice.injEq,Option.some.injEq,Addr.mk.injEq,and_true,true_and]at e;obtain⟨rfl,rfl⟩:=e;obtain⟨J0,FQ⟩:=x_n (2*i);obtain⟨J1,Vx⟩:=x_n (2*i+1);have aO9:=VX.out;obtain⟨c0,z0⟩:=Pv J0 om;obtain⟨c1,z1⟩:=Pv J1 om;rw[aH (by omega)]at c0 c1;obtain⟨x,hx⟩:=dP (o.bk (k+1) (o.MR zs) i);obtain⟨y,hy⟩:=dP (o.bk (k+1) (o.Qy (k+2) zs) i);have p0:wr.cell? ⟨ba,i,none⟩=some (Y x):=by rw[<-hx];exact uG.old (hAB.old (HCA i om))
      have p1:wr.cell? ⟨bb,i,none⟩=some (Y y):=by rw[<-hy];exact uG.old (HCB i om)
      have f0:Hid (o.bk (k+2) zs J0=x):=by show _=_;simp only[Ops.bk];rw[aQ om,(om:J0/2=i),hx]
      have f1:Hid (o.bk (k+2) zs J1=y):=by show _=_;simp only[Ops.bk];rw[aH om,(om:J1/2=i),hy]
      have u0:IntKind.i64.wrap (2*(i:Int))=(J0:Int):=by rw[dI];omega
      have u1:IntKind.i64.wrap ((J0:Int)+1)=(J1:Int):=by rw[dI];omega
      have i0:(J0:Int)<(M2:Int):=om;have i1:(J1:Int)<(M2:Int):=om;have n0:¬J0=J1:=om;have HJ0:Hid _:=FQ;have HJ1:Hid _:=Vx;have hsb:ba<w3.heap.size:=by have:=hAB.size;omega
      have aRb:=uG.size;clear jv Pv FQ Vx aO9 hx hy;go_wp2;go_region_held3 (λw'=>aB w' ba i (Y x)/\aB w' bb i (Y y))(exact qj)(first|(go_at_call 265;refine kw (aHP _ _ _) ?_)|(go_at_call 315;refine kw (aCH _ _ _) ?_))
      all_goals
       go_wp2;go_roundw
       case rel=>
        refine⟨i+1,om,jS,?_,kg⟩;refine Ow.drew (Ow.congr (Ow.store (Ow.store HFo.out J0 x) J1 y) (λq hq=>?_));have j0:=HJ0.out;have j1:=HJ1.out;by_cases e1:q=J1
        .rw[aQ e1,aQ om,e1];exact f1.out.symm
        .by_cases e0:q=J0
         .rw[aH e1,aQ e0,aQ om,e0];exact f0.out.symm
         .by_cases e4:q<2*i
          .rw[aH e1,aH e0,aQ e4,aQ (by omega)]
          .rw[aH e1,aH e0,aH e4,aH (by omega)]
       case measure=>exact qL
     .obtain rfl:i=L:=om;have aTS:¬(i:Int)<(i:Int):=om;have aKS:Gb w wr:=Gb.trans (Gb.trans HGB.out aE1) uG;have eM:2^(k+2)=M2:=by rw[jE,<-HLe.out,VX.out];omega
      have Rq:=Ow.mono (Ow.congr jv (g':=o.bk (k+2) zs) (λq hq=>by rw[aQ (by have:=VX.out;omega)])) (om:w.heap.size<=w3.heap.size);have HFin:Hid _:=Rq;clear jv Rq;go_wp2;go_returns;exact⟨_,rfl,HFin.out,aKS⟩
def aB2(H:o.I)(HI:o.In):∀k:Nat,1<=k->Zq o k
 |0,h=>bG h om
 |1,_=>aDd o
 |k+2,_=>ZX H HI k (aB2 H HI (k+1) om)
