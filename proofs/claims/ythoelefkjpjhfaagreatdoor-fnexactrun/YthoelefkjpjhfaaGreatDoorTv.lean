import Derived.Test.YthoelefkjpjhfaaGreatDoorT7
import Derived.Test.YthoelefkjpjhfaaGreatDoorK5
set_option linter.all false
set_option maxRecDepth 1000000
open Option renaming none → U
open Bool renaming false → D, true → W
open Go.Proofs.YthoelefkjpjhfaaGreatDoor renaming vI → J
open Go.Value renaming agg → Y, bool → X, tuple → V
open Go.Ending renaming returned → O
open Go.Proofs.Tryz
namespace Go.Proofs.YthoelefkjpjhfaaGreatDoor
open Go.RowKit
attribute [local go_sem] aB dL
variable {f p mx aN sg nan a e fl v aj z g r r' qQ mn aP:Int}{qs ls:List aJ}{N F k M K b c m j S I:Nat}{s x y:aJ}{w:ak}{args:Array Value}
def Wl(m:Nat)(ls qs:List aJ):Prop:=ls.length=qs.length/\∀j,j<ls.length->qE (ls.getD j default)=[qs.getD j default]/\(ls.getD j default).size <=m
def Wl.snoc(h:Wl m ls qs)(e:qE x=[y])(hx:x.size<=m):Wl m (ls++[x]) (qs++[y]):=by
 refine⟨by simp[h.1],λj hj=>?_⟩;rw[List.length_append,List.length_singleton]at hj;by_cases c:j<ls.length
 .simp only[qF];rw[List.getElem?_append_left c,List.getElem?_append_left (h.1▸c),<-qF,<-qF];exact h.2 j c
 .obtain rfl:j=ls.length:=om;simp only[qF];rw[List.getElem?_append_right (dJ _),h.1,List.getElem?_append_right (dJ _)];simp[e,hx]
def aFE(l:List UInt8):(tx l).data.toList =l:=rfl
def aOD(h:wI 10 s F k qs)(hk:k<s.data.toList.length)(e:s.data.toList[k]=10):qE (s.extract F (k+1))=[s.extract F k]:=by
 rw[Rw,Rw,nextL h.1 hk,e];unfold qE gW;rw[aFE,MO 10 _ [] h.2.2.2];simp[sG]
def aKz(h:wI 10 s F s.size qs)(hF:F<s.size):qE (s.extract F s.size)=[s.extract F s.size]/\qE s=qs++[s.extract F s.size]:=by
 have hl:=dN s;have e:(s.data.toList.drop F).take (s.size-F)=s.data.toList.drop F:=List.take_of_length_le (by simp[hl]);have hn:¬tx (s.data.toList.drop F)=tx []:=λc=>by
  have:=lu ByteArray.size c;rw[dZ,dZ,List.length_drop,hl]at this;simp at this;omega
 have h3:=h.2.2.2;have hL:=h.last;rw[Rw,e]at hL⊢
 rw[e]at h3;refine⟨?_,?_⟩
 .unfold qE gW;rw[aFE,VI 10 _ h3];simp only[List.map_cons,List.map_nil,List.getLast?_singleton];rw[aH (λc=>hn (Option.some.inj c))]
 .unfold qE;rw[<-hL,List.getLast?_concat,aH (λc=>hn (Option.some.inj c))]
def aKA(h:wI 10 s F s.size qs)(hF:¬F<s.size):qE s=qs:=by
 have hL:=h.last;have e:s.extract F s.size=tx []:=by
  rw[Rw,(om:s.size-F=0)];rfl
 rw[e]at hL;unfold qE;rw[<-hL,List.getLast?_concat,aQ rfl,List.dropLast_concat]
def ZY(s:aJ)(hs:s.size<=1048576)(w:ak):CT 8 #[.string s] w λe w'=>∃v,e=O v/\∃ls,Os w' w.heap.size v ls/\Wl s.size ls (qE s)/\Gb w w':=by
 have hs9:s.size<=9223372036854775807:=om;go_enter func8,ntmps8;go_wp2;go_loopw [3,4,5] (λo f i wr=>∃(F k:Nat) (ps qs:List aJ),k<=s.size/\i=J (k:Int)/\f=J (F:Int)/\Os wr w.heap.size o ps/\Gb w wr/\Hid (wI 10 s F k qs/\Wl s.size ps qs)) (λ_ _ i _=>s.size-(intOf i).toNat)
 case atStart=>exact⟨0,0,[],[],fV _,rfl,rfl,Lr.lit w _,kg,⟨⟨dJ _,fV _,rfl,by simp⟩,rfl,λj hj=>bG hj (Nat.not_lt_zero _)⟩⟩
 case round=>
  obtain⟨F,k,ps,qs,hk,rfl,rfl,jv,dQ,HA⟩:=hrel;have hF:F<=k:=HA.out.1.1;have hps:ps.length<=k:=by rw[HA.out.2.1];exact HA.out.1.2.1
  have qY:=dQ.size;have Au:Hid (∀w2,Gb wr w2->Os w2 w.heap.size _ ps):=λw2 hg=>Lr.gb jv hg;clear jv;by_cases fJ:(k:Int)<(s.size:Int)
  .have iV:k<s.data.toList.length:=by rw[dN];omega
   have q:=jR s k om;by_cases e:s.data.toList[k]=10
   .have cb:(iJ s k==10)=W:=by rw[xC s k iV,e];rfl
    obtain⟨x,hx⟩:=dP (s.extract F (k+1));have q2:∀w,(Instr.slice 9 (.string s) (some (J (F:Int))) (some (J ((k:Int)+1))) U).run prog w=.ok (.string x) w:=λw=>by
     rw[run_slice_string (P:=prog) w 9 s .i64 .i64 (F:Int) ((k:Int)+1) underlying9 om om om,<-hx];rfl
    have H2:Hid (wI 10 s (k+1) (k+1) (qs++[s.extract F k])/\Wl s.size (ps++[x]) (qs++[s.extract F k])):=⟨HA.out.1.hit iV e,HA.out.2.snoc (hx▸aOD HA.out.1 iV e) (by rw[<-hx,ByteArray.size_extract];omega)⟩;have u:IntKind.i64.wrap ((k:Int)+1)=(k:Int)+1:=by rw[dI];omega
    clear e iV hx;go_wp2_with (at_builtin;refine rJ rfl _ _ 26 rfl 9 _ 16 underlying26 infoSt rfl de w.heap.size _ (.string x) _ wr.heap.size rfl (Au _ kg) rfl j_ rfl (by rw[List.length_map];omega) (by rw[dV];omega) ?_;intro v3 w3 nM nO);go_roundw
    case rel=>exact⟨k+1,k+1,_,_,om,jS,jS,by rw[Os,List.map_append];exact nM,Gb.below kg nO (dJ _),H2.out⟩
    case measure=>exact qL
   .have cb:(iJ s k==10)=D:=by
     rw[xC s k iV];refine Am λe'=>e ?_;exact UInt8.toNat_inj.1 (by have:(10:UInt8).toNat =10:=rfl;omega)
    have H2:Hid (wI 10 s F (k+1) qs/\Wl s.size ps qs):=⟨HA.out.1.next iV e,HA.out.2⟩;clear e iV;go_wp2;go_roundw
    case rel=>exact⟨F,k+1,ps,qs,om,jS,rfl,Au.out _ (Below.refl _ _),dQ,H2.out⟩
    case measure=>exact qL
  .obtain rfl:k=s.size:=om;by_cases hFs:(F:Int)<(s.size:Int)
   .obtain⟨x,hx⟩:=dP (s.extract F s.size);have q2:∀w,(Instr.slice 9 (.string s) (some (J (F:Int))) U U).run prog w=.ok (.string x) w:=λw=>hx▸run_slice_string_l w 9 s underlying9 .i64 (F:Int) om om;have hE:=aKz HA.out.1 om;have H2:Hid (Wl s.size (ps++[x]) (qE s)):=by
     show Wl _ _ _;rw[hE.2,hx];exact HA.out.2.snoc (hx▸hE.1) (by rw[<-hx,ByteArray.size_extract];omega)
    clear hx hE;go_wp2_with (at_builtin;refine rJ rfl _ _ 26 rfl 9 _ 16 underlying26 infoSt rfl de w.heap.size _ (.string x) _ wr.heap.size rfl (Au _ kg) rfl j_ rfl (by rw[List.length_map];omega) (by rw[dV];omega) ?_;intro v3 w3 nM nO);go_returns;exact⟨_,rfl,_,by rw[Os,List.map_append];exact nM,H2.out,Gb.below kg nO (dJ _)⟩
   .have H2:Hid (Wl s.size ps (qE s)):=by
     show Wl _ _ _;rw[aKA HA.out.1 (by omega)];exact HA.out.2
    go_wp2;go_returns;exact⟨_,rfl,ps,Au.out _ (Below.refl _ _),H2.out,dQ⟩
set_option maxHeartbeats 40000000
def aGT{an:aJ->aJ}(h:qE x=[y])(hx:x.size<=100000):LD an x=an y++tx [10]:=by
 unfold LD yF;rw[h,aH (by simp;omega)];show tx ([]++(an y).data.toList ++[10])=_;cases an y with
 |mk d=>exact lu ByteArray.mk (by simp)
def aHo{an:Nat->aJ}:tx (tH an j)++(an j++tx [10])=tx (tH an (j+1)):=by
 rw[tH];cases an j with
 |mk d=>exact lu ByteArray.mk (by simp)
def aOE{TD:ak->Prop}{q:Int->Int->Bool}(H:aJm TD q)(HA:aJo)(a:Option Addr)(len cap:Nat)(w:ak)(hC:kU w a len)(hT:Tb w)(hm:Ml w)(hD:TD w):CT 4 #[.slice a len cap] w λe w'=>e=O (X W)/\Below w.heap.size w w':=by
 have hl:=hC.few;have S_:¬(1048576:Int)<(len:Int):=om;have HD:Hid (CT 7 #[.slice a len cap] w λe w'=>∃t:aJ,t.size<=1048576/\e=O (.string t)/\Gb w w'):=YZ HA a len cap w hC;obtain⟨an,ha,hR⟩:=aCo H;have HI:Hid (∀s:aJ,s.size<=1048576->∀w',Gb w w'->QB 6 #[.string s] w' (.string (LD an s))):=λs hs w' hg=>(hR s hs).2 w' (hT.gb hg) (hm.gb hg) (H.td _ _ hg hD);have HS:Hid (∀s:aJ,s.size<=1048576->∀w',QB 5 #[.string s] w' (.string (LD an s))):=λs hs=>(hR s hs).1;have HZ:Hid (∀p,(an p).size <=5000):=ha;clear hR hC hT hm hD H HA ha;go_enter func4,ntmps4;go_upto_region 4 with(go_at_call 7;refine HD.out.mono ?_;rintro e w1 ⟨s,hs,rfl,su⟩);have HSs:KB 5 #[.string s] (.string (LD an s)):=HS s hs;have HIs:Hid (∀w',Gb w w'->QB 6 #[.string s] w' (.string (LD an s))):=HI s hs;obtain⟨R,hRe⟩:=dP (LD an s);rw[hRe]at HSs HIs;have HR:Hid (LD an s=R):=hRe;clear hRe HS HD;go_upto_region 8 with(first|(go_at_call 5;refine(HSs _).mono ?_;rintro e w2 ⟨rfl,uH⟩)|(go_at_call 6;refine(HIs _ (su.trans uH)).mono ?_;rintro e w3 ⟨rfl,uG⟩))
 go_upto_region 9 with(go_at_call 8;refine(ZY s hs _).mono ?_;rintro e w4 ⟨v,rfl,ls,hO,hW,Ro⟩);have HG:Hid (Gb w w4):=su.trans (uH.trans (uG.trans Ro));have HW:Hid (Wl s.size ls (qE s)):=hW;obtain⟨b0,c0,rfl,h1,h2,aW⟩:=Os.rs hO;have HC:Hid (0<ls.length->∃b o,b0=some ⟨b,o,U⟩/\∀j,j<ls.length->aB w4 b (o+j) (.string (ls.getD j default))):=aW;clear su uH uG Ro hW hO aW h1 h2 HSs HIs;by_cases k1:(100000:Int)<(s.size:Int)
 .go_wp2;go_returns;exact⟨rfl,HG.out⟩
 by_cases k2:(60:Int)<(ls.length:Int)
 .go_wp2;go_returns;exact⟨rfl,HG.out⟩
 have HE:Hid (R=tx (tH (λj=>an ((qE s).getD j default)) ls.length)):=by
  show _=_;rw[<-HR.out,HW.out.1];unfold LD yF;have:=HW.out.1;rw[aH (by omega)]
 have hn:ls.length<=60:=om;have HL:Hid (∀j,j<ls.length->∀w',Gb w w'->QB 6 #[.string (ls.getD j default)] w' (.string (an ((qE s).getD j default)++tx [10]))):=λj hj w' hg=>by
  obtain⟨e1,e2⟩:=HW.out.2 j hj;rw[<-aGT e1 (by omega)];exact HI _ om w' hg
 have HLen:Hid (∀j,(tH (λj=>an ((qE s).getD j default)) j).length <=5001*j):=XP λj=>HZ _;have HZ:Hid (∀j,((λj=>an ((qE s).getD j default)) j).size <=5000):=λj=>HZ _;obtain⟨f,hf⟩:∃f:Nat->aJ,(λj=>an ((qE s).getD j default))=f:=⟨_,rfl⟩;have HL:Hid (∀j,j<ls.length->∀w',Gb w w'->QB 6 #[.string (ls.getD j default)] w' (.string (f j++tx [10]))):=hf▸HL;rw[hf]at HE HLen HZ;generalize ls.length=n at*
 clear hf HI HR HW;go_wp2;go_loopw [7,8] (λs7 s8 wr=>∃i:Nat,i<=n/\s8=J (i:Int)/\Gb w4 wr/\∃t:aJ,s7=.string t/\Hid (t=tx (tH f i))/\t.size<=5001*i) (λ_ i _=>n-(intOf i).toNat)
 case atStart=>exact⟨0,fV _,rfl,Gb.refl _,_,rfl,rfl,fV _⟩
 case round=>
  obtain⟨i,hi,rfl,hG,t,rfl,HT,ht⟩:=hrel;by_cases fJ:(i:Int)<(n:Int)
  .obtain⟨b,o,rfl,hc⟩:=HC om;have q1:=hG.old (hc i om);have HLi:Hid (∀w',Gb w w'->QB 6 #[.string (ls.getD i default)] w' (.string (f i++tx [10]))):=HL i om;have hz:=HZ i;have HT2:Hid (t++(f i++tx [10])=tx (tH f (i+1))):=by show _=_;rw[HT.out];exact aHo
   have qY:(f i++tx [10]).size <=5001:=by rw[ByteArray.size_append];show(f i).size +1<=_;omega
   generalize f i++tx [10]=u at*
   generalize ls.getD i default=x at*
   have y1:zK (t.size+u.size):=om;clear hc HT hz;go_wp2_with (go_at_call 6;refine(HLi _ (HG.out.trans hG)).mono ?_;rintro e w5 ⟨rfl,hg5⟩);go_roundw
   case rel=>exact⟨i+1,om,jS,hG.trans hg5,_,rfl,HT2.out,by rw[ByteArray.size_append];omega⟩
   case measure=>exact qL
  .obtain rfl:i=n:=om;obtain rfl:t=R:=HT.out.trans HE.out.symm;go_wp2;go_returns;exact⟨rfl,HG.out.trans hG⟩
def aLM{P:Prop}(h:P:=by
 go_enter func134,ntmps134;go_wp2_with (first|(go_at_call 131;refine kw (HK _) ?_)|(go_at_call 132;refine(HO _).mono ?_;rintro e n1 ⟨b1,k1,q1,iF,rfl,oP⟩)|(go_at_call 150;with_reducible refine(HS.out _ _ iF).mono ?_;rintro e n2 ⟨b2,k2,q2,mY,rfl,Bz⟩)|(go_at_call 155;with_reducible refine(HB.out _ _ _ (aK.gb mY oP) iF).mono ?_;rintro e n4 ⟨b4,k4,q4,rE,rfl,iW⟩))
 go_returns;exact⟨_,_,_,rE,rfl,Gb.g⟩):P:=h
def uM(aG:Int):Int:=if aG=0\/aG=2 then 32 else if aG=1\/aG=3 then 64 else 0
def DZ(aG:Int):Bool:=decide (aG=0\/aG=1)
def rZ(aG:Int)(w:ak):QW 131 #[J aG] w (V #[J (uM aG),X (DZ aG)]):=by
 rcases(om:aG=0\/aG=1\/aG=2\/aG=3\/(aG≠0/\aG≠1/\aG≠2/\aG≠3))with rfl|rfl|rfl|rfl|⟨c0,c1,c2,c3⟩
 case inr.inr.inr.inr=>
  have e0:(aG==0)=D:=by simp[c0]
  have e1:(aG==1)=D:=by simp[c1]
  have e2:(aG==2)=D:=by simp[c2]
  have e3:(aG==3)=D:=by simp[c3]
  have h1:uM aG=0:=by simp[uM,c0,c1,c2,c3]
  have h2:DZ aG=D:=by simp[DZ,c0,c1]
  rw[h1,h2];go_enter func131,ntmps131;go_wp2;go_returns;exact⟨rfl,rfl⟩
 all_goals
  go_enter func131,ntmps131;go_wp2;go_returns;exact⟨rfl,rfl⟩
def yN(aG s B t:Int)(S:Bool)(T:Nat)(hs:s=0\/s=1/\S=W)(hB:(if S then B-1 else B)=t)(B0:0<=B)(B1:B<=64)(t0:0<=t)(hT:T=2^t.toNat)
  (HK:rG aG B S) (w:ak):
  CT 134 #[J aG,J s] w (vO 20 (if s=1 then T else T-1) w):=by
 have T0:1<=T:=by rw[hT];exact iQ de
 have t64:t<=64:=by split at hB<;>omega
 have HO:Hid (∀w,CT 132 #[.int .u64 1] w (vO 2 1 w)):=λw=>fE (iO 1 om w);have HS:Hid (∀v w,aK 2 w v 1->CT 150 #[v,J t] w (vO 20 T w)):=λv w ⟨n,a1,a2⟩=>by
  obtain⟨m,rfl⟩:=lq t0;rw[Int.toNat_natCast]at hT;rw[hT,<-Nat.one_mul (2^m)];exact fE ((iM a2 om m om).mono (λe w' ⟨v,k,c1,c2,c3,c4⟩=>⟨v,k,c1,c2,om,c4⟩))
 have HB:Hid (∀v v' w,aK 20 w v T->aK 2 w v' 1->CT 155 #[v,v'] w (vO 20 (T-1) w)):=λv v' w ⟨n,a1,a2⟩ ⟨n',b1,b2⟩=>fE ((pJ a2 om b2 om om).mono (λe w' ⟨v,k,c1,c2,c3,c4⟩=>⟨v,k,c1,c2,om,c4⟩));clear hT;cases S
 .rw[aH (by decide)]at hB;rcases hs with rfl|⟨_,h⟩
  .rw[aH (by decide)];subst hB;exact aLM
  .cases h
 .rw[aQ rfl]at hB;have u1:IntKind.i64.wrap (B-1)=t:=by rw[dI];omega
  rcases hs with rfl|⟨rfl,_⟩
  .rw[aH (by decide)];exact aLM
  .rw[aQ rfl];go_enter func134,ntmps134;go_wp2_with (first|(go_at_call 131;refine kw (HK _) ?_)|(go_at_call 132;refine(HO _).mono ?_;rintro e n1 ⟨b1,k1,q1,iF,rfl,oP⟩)|(go_at_call 150;with_reducible refine(HS.out _ _ iF).mono ?_;rintro e n2 ⟨b2,k2,q2,mY,rfl,Bz⟩))
   go_returns;exact⟨_,_,_,mY,rfl,Gb.g⟩
def Yh(aG B:Int)(HK:rG aG B D)(w:ak):
  CT 134 #[J aG,J 1] w (vO 20 0 w):=by
 go_enter func134,ntmps134;go_wp2_with (go_at_call 131;refine kw (HK _) ?_);go_returns;refine⟨_,_,_,⟨0,om,⟨de,.inl rfl⟩,(sQ w 0).raw de⟩,rfl,Gb.g⟩
def OX(aG s:Int)(hs:s=0\/s=1)(w:ak):
  CT 134 #[J aG,J s] w (vO 20 (gu aG s) w):=by
 by_cases c:DZ aG=W
 .have hk:aG=0\/aG=1:=by unfold DZ at c;exact of_decide_eq_true c
  rcases hk with rfl|rfl
  .have:=yN 0 s 32 31 W 2147483648 (hs.imp id (λh=>⟨h,rfl⟩)) de om om om de (λw=>rZ 0 w) w;rcases hs with rfl|rfl<;>exact this
  .have:=yN 1 s 64 63 W 9223372036854775808 (hs.imp id (λh=>⟨h,rfl⟩)) de om om om de (λw=>rZ 1 w) w;rcases hs with rfl|rfl<;>exact this
 .have c':DZ aG=D:=by simpa using c
  have HK:rG aG (uM aG) D:=λw=>c'▸rZ aG w;have hk:¬(aG=0\/aG=1):=by unfold DZ at c';exact of_decide_eq_false c'
  rcases hs with rfl|rfl
  .rcases(om:aG=2\/aG=3\/(aG≠2/\aG≠3))with rfl|rfl|⟨d,d'⟩
   .exact yN 2 0 32 32 D 4294967296 om de om om om de HK w
   .exact yN 3 0 64 64 D 18446744073709551616 om de om om om de HK w
   .have e1:uM aG=0:=by unfold uM;rw[aH om,aH (by omega)]
    have e2:gu aG 0=0:=by unfold gu;rw[aH om,aH om,aH om,aH (by omega)]
    rw[e2];rw[e1]at HK;exact yN aG 0 0 0 D 1 om de om om om de HK w
  .have e2:gu aG 1=0:=by unfold gu;rw[aH om,aH (by omega)];(repeat' split)<;>first|rfl|omega
   rw[e2];exact Yh aG _ HK w
def aKH(aG a B d:Int)(M L:Nat)(t:Bool)(B0:0<B)(hd:decide (d<=0)=t)(ha:decide (9223372036854775808<=a)=D)(HK:rG aG B W)(HB:Hid (∀w,CT 132 #[.int .u64 a] w (vO 2 M w)))(HT:KW 117 #[J 63] (.int .u64 9223372036854775808))(HM:Hid (∀w,CT 134 #[J aG,J 0] w (vO 20 L w)))(HC:Hid (∀v v' w,aK 2 w v M->aK 20 w v' L->QB 133 #[v,v'] w (J d)))(w:ak):
  CT 58 #[J aG,.int .u64 a] w λe w'=>∃b k c,aK 2 w' (aF b k c) M/\e=O (V #[Y #[J 0,aF b k c,J 0,X D],X t])/\Gb w w':=by
 go_enter func58,ntmps58;go_upto_region 3 with(first|(go_at_call 131;refine kw (HK _) ?_)|(go_at_call 132;refine(HB _).mono ?_;rintro e n1 ⟨b1,k1,q1,iF,rfl,oP⟩;have yS:=oP.Qz w;have jB:=aA yS.1))
 obtain⟨w2,kK⟩:=dP (n1.alloc (.cells #[J 0,aF b1 k1 q1,J 0,X D] 95));have aC:Gb n1 w2:=by rw[<-kK];exact(Gb.refl _).alloc _
 have mY:aK 2 w2 (aF b1 k1 q1) M:=aK.gb iF aC;have x0:w2.cell? ⟨n1.heap.size,0,U⟩=some (J 0):=by rw[<-kK];simp[go_sem]
 have x1:w2.cell? ⟨n1.heap.size,1,U⟩=some (aF b1 k1 q1):=by rw[<-kK];simp[go_sem]
 have x2:w2.cell? ⟨n1.heap.size,2,U⟩=some (J 0):=by rw[<-kK];simp[go_sem]
 have x3:w2.cell? ⟨n1.heap.size,3,U⟩=some (X D):=by rw[<-kK];simp[go_sem]
 have mG:n1.heap.size<w2.heap.size:=by rw[<-kK];simp
 rw[kK];clear kK;have:=aC.Qz w;have ZK:Gb w w2:=Gb.g;go_wp2_with (go_at_call 117;refine kw (HT _) ?_);go_region_held3 (λw'=>pG w' n1.heap.size 0 1 2 3 (J 0) (aF b1 k1 q1) (J 0) (X D))(exact qj)(first|(go_at_call 134;refine(HM _).mono ?_;rintro e n3 ⟨b3,k3,q3,nO,rfl,Bq⟩;have:=Bq.Qz w)|(go_at_call 133;with_reducible refine ku (HC.out _ _ _ (aK.gb mY Gb.g) (aK.gb nO Gb.g)) λn4 iW=>?_;have JU:=iW.Qz w))
 all_goals go_wp2
 all_goals
  refine gY (v:=V #[Y #[J 0,aF b1 k1 q1,J 0,X D],X t]) (by simp[results,results58,go_sem,JU,hd]) rfl ⟨b1,k1,q1,?_,rfl,?_⟩
  .exact(aK.gb mY Gb.g).st4 JU.1 JU.2.2.1 JU.2.2.2.2.1 JU.2.2.2.2.2.2.1
  .exact Gb.g
def qA{one:Int}(h:bI f p mx one aN sg nan)(a0:0<=a){x:d_}(hx:dO p mx one aN sg nan a x)(hc:x.c<=2)(aj:Int):cZ p (1-mx) mx one aN sg nan aj x a 0:=by
 have hb:=h.bounds;have c0:=(bU h hx).1.c0;obtain⟨ha,v,⟨hs,v0,v1,d0,d2⟩,hn,hz⟩:=zD h a0 hx hc;have e:a=sw x.s sg v:=by
  unfold sw;rcases hs with⟨s0,rfl⟩|⟨s1,rfl⟩
  .rw[aH (by omega)]
  .rw[aQ s1]
 rcases(om:x.c=0\/x.c=1\/x.c=2)with c|c|c
 .exact .inl ⟨c,by rw[e,d0.1 c],rfl⟩
 .refine .inr (.inl ⟨c,v,?_,e⟩);obtain⟨_,_,_,_,hr⟩:=aC3 h aj x.s v x.e (x.M:Int) om om (hn c);rw[Int.toNat_natCast]at hr;exact hr
 .exact .inr (.inr (.inl ⟨c,by rw[e,d2.1 c],rfl⟩))
def Gj{P:Int->Int->Prop}(one:∀Z fl Z' qQ,P Z fl->P Z' qQ->Z=Z'/\fl=qQ)(ex:∃Z fl,P Z fl)
  (hs:∀w,Calls prog S args w (E8 P w))
  (hi:∀w,Fm w->Calls prog I args w (yG P w)):
  ∃Z fl:Int,P Z fl/\(∀w,Calls prog S args w λe w'=>e=O (aU Z fl)/\Gb w w')/\
   (∀w,Fm w->Calls prog I args w λe w'=>e=O (aU Z fl)/\Gr w w'):=by
 obtain⟨Z,fl,h⟩:=ex;refine⟨Z,fl,h,λw=>(hs w).mono ?_,λw hw=>(hi w hw).mono ?_⟩
 .rintro e w' ⟨Z',qQ,h',rfl,hg⟩;obtain⟨rfl,rfl⟩:=one _ _ _ _ h h';exact⟨rfl,hg⟩
 .rintro e w' ⟨Z',qQ,h',rfl,hg⟩;obtain⟨rfl,rfl⟩:=one _ _ _ _ h h';exact⟨rfl,hg⟩
def dO.bare{one s:Int}(h:bI f p mx one aN sg nan)(hs:s=0\/s=1)(v0:0<=v)(v1:v<=aN){y:d_}(hy:dO p mx one aN sg nan (sw s sg v) y):y.s=s/\dO p mx one aN sg nan v ⟨y.c,0,y.e,y.M⟩:=by
 have hb:=h.bounds;have hw:s=0/\sw s sg v=v\/s=1/\sw s sg v=v+sg:=by
  unfold sw;rcases hs with rfl|rfl
  .exact .inl ⟨rfl,by rw[aH (by decide)]⟩
  .exact .inr ⟨rfl,by rw[aQ rfl]⟩
 rcases hy with⟨_,v',YA,hv'⟩|⟨c,_⟩
 .have e:v'=v/\y.s=s:=om;obtain⟨rfl,e2⟩:=e;exact⟨e2,.inl ⟨om,v',.inl ⟨rfl,rfl,om⟩,hv'⟩⟩
 .exfalso;omega
def aHs(M:Nat)(e q:Int)(he:0<=e+6000)(hq:0<=q+6000)(h:bH M e q D=0):nv (dH M e q) q=nv M e:=by
 unfold nv dH;by_cases c:q<=e
 .rw[aQ c,kX,<-jY,(om:(e-q).toNat +(q+6000).toNat =(e+6000).toNat)]
 .rw[aH c];rw[BI _ _ _ _ c]at h;obtain⟨d,hd⟩:∃d,(q-e).toNat =d+1:=⟨(q-e).toNat -1,om⟩;rw[hd]at h⊢
  unfold hr at h;rw[Nat.add_sub_cancel]at h;have h1:¬M/2^d%2=1:=λk=>by rw[aQ k]at h;omega
  have h2:M%2^d=0:=by
   rcases jL (M%2^d)with k|k
   .exact k
   .rw[aQ (show M%2^d≠0\/D=W from .inl om)]at h;omega
  have h3:=Aj M (2^d);rw[h2,Nat.add_zero]at h3;have h4:M/2^d=2*(M/2^d/2):=by
   generalize M/2^d=t at*;omega
  have h5:M/2^(d+1)=M/2^d/2:=by rw[jE,LK]
  rw[h5,(om:(q+6000).toNat =(d+1)+(e+6000).toNat),jY,<-kX,jE]
  congr 1
  rw[<-kX,dM (M/2^d/2),kX,dM (M/2^d/2) 2,<-h4];exact h3
def aBF{one:Int}(h:bI f p mx one aN sg nan){s:Int}(hs:s=0\/s=1)(hM:0<M)(e0:-5000<=e)(hr:bM p (1-mx) mx one aN aj s M e D z 0):
  0<z/\z<aN/\∀y,dO p mx one aN sg nan (sw s sg z) y->y.c=1/\y.s=s/\nv y.M y.e=nv M e:=by
 have hb:=h.bounds;obtain⟨P,hp,ho,hP⟩:=aCO h;obtain⟨dh,E,r,r2,hf,h1,h2,h3,h4,h5,hc⟩:=hr;have EK:dh<=mx/\(r:Int)+one*(E-(1-mx))<aN/\z=r+one*(E-(1-mx))/\hf=0:=om;obtain⟨c1,c2,c3,c4⟩:=EK;have hh:bH M e (E-p+1) D=0:=om;have hr':r=dH M e (E-p+1):=by rw[h4,c4,nR]
 have hq:0<=E-p+1+6000:=om;have hnv:=aHs M e (E-p+1) om hq hh;have fJ:=uf M e (E-p+1) (P+1) om;rw[jE]at fJ;have hge:E=1-mx\/one<=(r:Int):=by
  rcases h2 with⟨a,b⟩|⟨a,b⟩
  .exact .inl b
  .right;have:=PV M e (E-p+1) P hM om;omega
 have r0:0<r:=by
  rcases jL r with k|k
  .have:=aE8 M e (E-p+1) hM (by omega);omega
  .exact k
 have hk0:0<=one*(E-(1-mx)):=Bj om om;refine⟨om,om,λy hy=>?_⟩;obtain⟨y1,y2⟩:=dO.bare h hs om om hy;obtain⟨_,q2,q3⟩:=aOp h y2 r E om om hge c3 om;dsimp only at q2 q3;rw[hr',hnv]at q3;refine⟨?_,y1,q3⟩;rcases q2 with k|k
 .exfalso;have:=(bU h hy).1.nil om;rw[this]at q3;unfold nv at q3;rw[Nat.zero_mul]at q3;have:=Nat.mul_pos hM (iQ (n:=(e+6000).toNat) (show 0<2 by decide));omega
 .exact k
def MG(he:0<=e+6000)(uz:e<=g)(h:nv M e=nv N g):M=N*2^(g-e).toNat :=by
 unfold nv at h;rw[(om:(g+6000).toNat =(g-e).toNat +(e+6000).toNat),jY,<-kX]at h;exact Nat.eq_of_mul_eq_mul_right (iQ de) h
def bM.nv{one:Int}(hM:0<M)(hN:0<N)(he:0<=e+6000)(hg:0<=g+6000)(h:nv M e=nv N g):bM p mn mx one aN aj aP M e D z fl↔bM p mn mx one aN aj aP N g D z fl:=by
 rcases Int.le_total e g with c|c
 .have hM':=MG he c h;have:=bM.scale (p:=p) (mn:=mn) (mx:=mx) (one:=one) (aN:=aN) (aj:=aj) (aP:=aP) (e:=g) (z:=z) (fl:=fl) (g-e).toNat hN;rw[<-hM',(om:g-((g-e).toNat :Int)=e)]at this;exact this
 .have BD:=MG hg c h.symm;have:=bM.scale (p:=p) (mn:=mn) (mx:=mx) (one:=one) (aN:=aN) (aj:=aj) (aP:=aP) (e:=e) (z:=z) (fl:=fl) (e-g).toNat hM;rw[<-BD,(om:e-((e-g).toNat :Int)=g)]at this;exact this.symm
def aFp{x:d_}(hx:-5000<=x.e)(h:nv x.M x.e=nv N 0)(way:Int):cu way x=N/\jJ x=D:=by
 rcases Int.lt_or_le x.e 0 with c|c
 .have hM:=MG om om h;have hk:(0-x.e).toNat ≠0:=om;have hh:bH x.M x.e 0 D=0:=by
   rw[BI _ _ _ _ (by omega)];exact FK _ _ om (by rw[hM];exact Nat.mul_mod_left _ _)
  constructor
  .unfold cu;rw[hh,nR];unfold dH;rw[aH (by omega)];have:=Nat.mul_div_cancel N (iQ (n:=(0-x.e).toNat) (show 0<2 by decide));rw[<-hM]at this;exact this
  .unfold jJ;rw[hh];rfl
 .have hN:=MG om c h.symm;rw[Int.sub_zero]at hN;exact⟨by rw[uY c,hN],GY c⟩
def aLK{P:Prop}(h:P:=by
 go_enter func71,ntmps71;go_wp2_with (first|(go_at_call 139;refine kw (HF _) ?_)|(go_at_call 126;refine ku (HU _) λw1 au=>?_;have KZ:=au.bK w;have mD:=aA KZ.1)|(go_at_call 140;refine ku (HQ _) λva aT=>?_;have XF:=aT.bK w;have:=aT.f_ w1))
 exact dX (by simp[results,results71,go_sem,XF])):P:=h
def aLP{P:Prop}(h:P:=by
 go_enter func71,ntmps71;go_upto_region 10 with(first|(go_at_call 139;refine kw (HF _) ?_)|(go_at_call 126;refine ku (HU _) λw1 au=>?_;have KZ:=au.bK w;have mD:=aA KZ.1)|(go_at_call 140;refine ku (HQ _) λva aT=>?_;have:=aT.bK w;have:=aT.f_ w1)|(go_at_call 144;refine(HN _).mono ?_;rintro e w3 ⟨b3,k3,c3,nO,rfl,aO⟩;have:=aO.bK w;have:=aO.f_ w1)|(go_at_call 157;with_reducible refine(HW.out _ _ _ _ nO).mono ?_;rintro e w4 ⟨b4,k4,c4,rE,rfl,bg⟩;have Di:=bg.bK w;have:=bg.f_ w1;have hz4:=aA Di.1;have wL:=Zj rE hC)|(go_at_call 137;refine ku (HZ _) λw5 bT=>?_;have jD:=bT.bK w;have:=bT.f_ w1;have hz5:=aA jD.1))
 obtain⟨w6,xX⟩:=dP (w5.alloc (.cells #[.int .u64 z,J 0] 100));have gG:Gr w5 w6:=by rw[<-xX];exact(Gr.refl _).alloc _ _
 have x0:w6.cell? ⟨w5.heap.size,0,U⟩=some (.int .u64 z):=by rw[<-xX];simp[go_sem]
 have x1:w6.cell? ⟨w5.heap.size,1,U⟩=some (J 0):=by rw[<-xX];simp[go_sem]
 have xz0:dL w6 w5.heap.size 0:=by rw[<-xX];simp[go_sem]
 have xz1:dL w6 w5.heap.size 1:=by rw[<-xX];simp[go_sem]
 have hz6:w5.heap.size<w6.heap.size:=by rw[<-xX];simp
 rw[xX];clear xX;have:=gG.bK w;have:=gG.f_ w1;have hb6:aK 70005 w6 (aF b4 k4 c4) C:=aK.gb rE (bT.gb.trans gG.gb);have ZK:Gb w w6:=Gb.g;go_wp2_with (go_at_call 138;with_reducible refine ku (HR.out _ _ hb6) λw7 jT=>?_;have rr0:=jT.bK w;have:=jT.bK w5;have hz7:=aA rr0.1);exact dX (by simp[results,results71,go_sem,rr0])):P:=h
def aFF{P:Prop}(h:P:=by
 go_enter func71,ntmps71;go_upto_region 10 with(first|(go_at_call 139;refine kw (HF _) ?_)|(go_at_call 126;refine ku (HU _) λw1 au=>?_;have KZ:=au.bK w;have mD:=aA KZ.1)|(go_at_call 140;refine ku (HQ _) λva aT=>?_;have:=aT.bK w;have:=aT.f_ w1)|(go_at_call 144;refine(HN _).mono ?_;rintro e w3 ⟨b3,k3,c3,nO,rfl,aO⟩;have:=aO.bK w;have:=aO.f_ w1)|(go_at_call 157;with_reducible refine(HW.out _ _ _ _ nO).mono ?_;rintro e w4 ⟨b4,k4,c4,rE,rfl,bg⟩;have Di:=bg.bK w;have:=bg.f_ w1;have hz4:=aA Di.1;have wL:=aIZ rE)|(go_at_call 137;refine ku (HZ _) λw5 bT=>?_;have jD:=bT.bK w;have:=bT.f_ w1;have hz5:=aA jD.1))
 obtain⟨w6,xX⟩:=dP (w5.alloc (.cells #[.int .u64 z,J 0] 100));have gG:Gr w5 w6:=by rw[<-xX];exact(Gr.refl _).alloc _ _
 have x0:w6.cell? ⟨w5.heap.size,0,U⟩=some (.int .u64 z):=by rw[<-xX];simp[go_sem]
 have x1:w6.cell? ⟨w5.heap.size,1,U⟩=some (J 0):=by rw[<-xX];simp[go_sem]
 have xz0:dL w6 w5.heap.size 0:=by rw[<-xX];simp[go_sem]
 have xz1:dL w6 w5.heap.size 1:=by rw[<-xX];simp[go_sem]
 have hz6:w5.heap.size<w6.heap.size:=by rw[<-xX];simp
 rw[xX];clear xX;have yr0:=gG.bK w;have:=gG.f_ w1;have hb6:aK 70005 w6 (aF b4 k4 c4) 0:=aK.gb rE (bT.gb.trans gG.gb);have ZK:Gb w w6:=Gb.g;go_wp2;exact dX (by simp[results,results71,go_sem,yr0])):P:=h
def U_(aj s e:Int)(M L C:Nat)(hf:Int)(t:Bool)(ht:(hf==0)=t)(v:Value)(w:ak)
  (pY:Hid (∀w',Gb w w'->CT 223 #[Y #[J s,v,J e,X D],J 0] w' λx bf=>∃b k c,aK 70002 bf (aF b k c) L/\x=O (V #[aF b k c,J hf])/\Gb w' bf))
  (HCh:Hid (∀v' w',aK 70002 w' v' L->CT 224 #[J aj,J s,v',J hf] w' (vO 70005 C w'))) (b0 k0 c0:Nat) (hv:v=aF b0 k0 c0):
  CT 157 #[J aj,Y #[J s,v,J e,X D]] w λx w'=>∃b k c,aK 70005 w' (aF b k c) C/\x=O (V #[aF b k c,X t])/\Gb w w':=by
 subst hv;go_enter func157,ntmps157;go_wp2_with (first|(go_at_call 223;refine(pY _ Gb.g).mono ?_;rintro x n1 ⟨b1,k1,q1,iF,rfl,oP⟩;have:=oP.C10 w)|(go_at_call 224;with_reducible refine(HCh.out _ _ iF).mono ?_;rintro x n2 ⟨b2,k2,q2,mY,rfl,Bz⟩))
 go_returns;exact⟨_,_,_,mY,rfl,Gb.g⟩
def Hf(f aj a z fl:Int)(ex:Bool)(HF:qI f aj a D)(HL:qJ f z fl)(w:ak):
  DN f aj a ex w z fl:=by
 go_enter func71,ntmps71;go_wp2_with (first|(go_at_call 139;refine kw (HF _) ?_)|(go_at_call 136;refine ku (HL _) λw9 bV=>?_;have jD:=bV.bK w))
 exact dX (by simp[results,results71,go_sem,jD])
def aDy(f aj a c s x g z fl:Int)(b ex:Bool)(HF:qI f aj a W)(HU:bW f a c s x g)(HQ:bY c s x g W)(e4:(c==4)=b)(HL:qR f b z fl)(w:ak):
  DN f aj a ex w z fl:=by
 go_enter func71,ntmps71;go_wp2_with (first|(go_at_call 139;refine kw (HF _) ?_)|(go_at_call 126;refine ku (HU _) λw1 au=>?_;have KZ:=au.bK w;have mD:=aA KZ.1)|(go_at_call 140;refine ku (HQ _) λva aT=>?_;have:=aT.bK w;have:=aT.f_ w1)|(go_at_call 141;refine ku (HL _) λw9 bV=>?_;have jD:=bV.bK w))
 exact dX (by simp[results,results71,go_sem,jD])
def aJU(f aj a c s x g:Int)(ex:Bool)(HF:qI f aj a W)(HU:bW f a c s x g)(HQ:bY c s x g D)(e1:¬c=1)(w:ak):
  QB 71 #[J f,J aj,.int .u64 a,X ex] w (aU a 0):=by
 exact aLK
def aJT(f aj a c s x g:Int)(ex:Bool)(HF:qI f aj a W)(HU:bW f a c s x g)(HQ:bY c s x g D)(e1:c=1)(e2:decide (0<=x)=W)(w:ak):
  QB 71 #[J f,J aj,.int .u64 a,X ex] w (aU a 0):=by
 subst e1;exact aLK
def aIZ(h:aK K w (aF b k c) 0):((k:Nat):Int)=0:=by
 obtain⟨n,hn,hb⟩:=h;obtain⟨b',cap,e,_⟩:=hb.shape;have:=hb.none rfl;injection e with _ e2 _;omega
def Zj(h:aK K w (aF b k c) N)(hN:0<N):0<k:=by
 obtain⟨n,hn,hb⟩:=h;obtain⟨b',cap,e,_⟩:=hb.shape;have h2:=hb.1.iff;injection e with _ e2 _;have:n≠0:=λh=>by have:=h2.1 h;omega
 omega
def aGL(f aj a c s x g z:Int)(M C:Nat)(ex wh:Bool)(hx:ex=D)(hC:C=0)(HF:qI f aj a W)(HU:bW f a c s x g)(HQ:bY c s x g D)(e1:c=1)(e2:decide (0<=x)=D)(HN:Hid (∀w,CT 144 #[fG c s x g] w λe w'=>∃b k cc,aK 2 w' (aF b k cc) M/\e=O (Y #[J s,aF b k cc,J x,X D])/\Gb w w'))(HW:Hid (∀b k c w,aK 2 w (aF b k c) M->CT 157 #[J aj,Y #[J s,aF b k c,J x,X D]] w λe w'=>∃b k c,aK 70005 w' (aF b k c) C/\e=O (V #[aF b k c,X wh])/\Gb w w'))(HZ:Ar f s z 0)(w:ak):
  DN f aj a ex w z 0:=by
 subst e1 hC;obtain rfl:=hx;exact aFF
def aGI(f aj a c s x g z y:Int)(M C:Nat)(ex wh:Bool)(hx:ex=D)(hC:0<C)(HF:qI f aj a W)(HU:bW f a c s x g)(HQ:bY c s x g D)(e1:c=1)(e2:decide (0<=x)=D)(HN:Hid (∀w,CT 144 #[fG c s x g] w λe w'=>∃b k cc,aK 2 w' (aF b k cc) M/\e=O (Y #[J s,aF b k cc,J x,X D])/\Gb w w'))(HW:Hid (∀b k c w,aK 2 w (aF b k c) M->CT 157 #[J aj,Y #[J s,aF b k c,J x,X D]] w λe w'=>∃b k c,aK 70005 w' (aF b k c) C/\e=O (V #[aF b k c,X wh])/\Gb w w'))(HZ:Ar f s z 0)(HR:Hid (∀v w,aK 70005 w v C->QB 138 #[J f,J 0,Y #[J s,v,J 0,X D]] w (aU y 0)))(w:ak):
  DN f aj a ex w y 0:=by
 subst e1;obtain rfl:=hx;exact aLP
def aGK(f aj a c s x g z:Int)(M C:Nat)(ex wh:Bool)(hx:ex=W/\wh=W)(hC:C=0)(HF:qI f aj a W)(HU:bW f a c s x g)(HQ:bY c s x g D)(e1:c=1)(e2:decide (0<=x)=D)(HN:Hid (∀w,CT 144 #[fG c s x g] w λe w'=>∃b k cc,aK 2 w' (aF b k cc) M/\e=O (Y #[J s,aF b k cc,J x,X D])/\Gb w w'))(HW:Hid (∀b k c w,aK 2 w (aF b k c) M->CT 157 #[J aj,Y #[J s,aF b k c,J x,X D]] w λe w'=>∃b k c,aK 70005 w' (aF b k c) C/\e=O (V #[aF b k c,X wh])/\Gb w w'))(HZ:Ar f s z 0)(w:ak):
  DN f aj a ex w z 0:=by
 subst e1 hC;obtain⟨rfl,rfl⟩:=hx;exact aFF
def aGH(f aj a c s x g z y:Int)(M C:Nat)(ex wh:Bool)(hx:ex=W/\wh=W)(hC:0<C)(HF:qI f aj a W)(HU:bW f a c s x g)(HQ:bY c s x g D)(e1:c=1)(e2:decide (0<=x)=D)(HN:Hid (∀w,CT 144 #[fG c s x g] w λe w'=>∃b k cc,aK 2 w' (aF b k cc) M/\e=O (Y #[J s,aF b k cc,J x,X D])/\Gb w w'))(HW:Hid (∀b k c w,aK 2 w (aF b k c) M->CT 157 #[J aj,Y #[J s,aF b k c,J x,X D]] w λe w'=>∃b k c,aK 70005 w' (aF b k c) C/\e=O (V #[aF b k c,X wh])/\Gb w w'))(HZ:Ar f s z 0)(HR:Hid (∀v w,aK 70005 w v C->QB 138 #[J f,J 0,Y #[J s,v,J 0,X D]] w (aU y 0)))(w:ak):
  DN f aj a ex w y 0:=by
 subst e1;obtain⟨rfl,rfl⟩:=hx;exact aLP
def aGJ(f aj a c s x g z:Int)(M C:Nat)(ex wh:Bool)(hx:ex=W/\wh=D)(hC:C=0)(HF:qI f aj a W)(HU:bW f a c s x g)(HQ:bY c s x g D)(e1:c=1)(e2:decide (0<=x)=D)(HN:Hid (∀w,CT 144 #[fG c s x g] w λe w'=>∃b k cc,aK 2 w' (aF b k cc) M/\e=O (Y #[J s,aF b k cc,J x,X D])/\Gb w w'))(HW:Hid (∀b k c w,aK 2 w (aF b k c) M->CT 157 #[J aj,Y #[J s,aF b k c,J x,X D]] w λe w'=>∃b k c,aK 70005 w' (aF b k c) C/\e=O (V #[aF b k c,X wh])/\Gb w w'))(HZ:Ar f s z 0)(w:ak):
  DN f aj a ex w z 16:=by
 subst e1 hC;obtain⟨rfl,rfl⟩:=hx;exact aFF
def aGG(f aj a c s x g z y:Int)(M C:Nat)(ex wh:Bool)(hx:ex=W/\wh=D)(hC:0<C)(HF:qI f aj a W)(HU:bW f a c s x g)(HQ:bY c s x g D)(e1:c=1)(e2:decide (0<=x)=D)(HN:Hid (∀w,CT 144 #[fG c s x g] w λe w'=>∃b k cc,aK 2 w' (aF b k cc) M/\e=O (Y #[J s,aF b k cc,J x,X D])/\Gb w w'))(HW:Hid (∀b k c w,aK 2 w (aF b k c) M->CT 157 #[J aj,Y #[J s,aF b k c,J x,X D]] w λe w'=>∃b k c,aK 70005 w' (aF b k c) C/\e=O (V #[aF b k c,X wh])/\Gb w w'))(HZ:Ar f s z 0)(HR:Hid (∀v w,aK 70005 w v C->QB 138 #[J f,J 0,Y #[J s,v,J 0,X D]] w (aU y 0)))(w:ak):
  DN f aj a ex w y 16:=by
 subst e1;obtain⟨rfl,rfl⟩:=hx;go_enter func71,ntmps71;go_upto_region 10 with(first|(go_at_call 139;refine kw (HF _) ?_)|(go_at_call 126;refine ku (HU _) λw1 au=>?_;have KZ:=au.bK w;have mD:=aA KZ.1)|(go_at_call 140;refine ku (HQ _) λva aT=>?_;have:=aT.bK w;have:=aT.f_ w1)|(go_at_call 144;refine(HN _).mono ?_;rintro e w3 ⟨b3,k3,c3,nO,rfl,aO⟩;have:=aO.bK w;have:=aO.f_ w1)|(go_at_call 157;with_reducible refine(HW.out _ _ _ _ nO).mono ?_;rintro e w4 ⟨b4,k4,c4,rE,rfl,bg⟩;have Di:=bg.bK w;have:=bg.f_ w1;have hz4:=aA Di.1;have wL:=Zj rE hC)|(go_at_call 137;refine ku (HZ _) λw5 bT=>?_;have jD:=bT.bK w;have:=bT.f_ w1;have hz5:=aA jD.1))
 obtain⟨w6,xX⟩:=dP (w5.alloc (.cells #[.int .u64 z,J 0] 100));have gG:Gr w5 w6:=by rw[<-xX];exact(Gr.refl _).alloc _ _
 have x0:w6.cell? ⟨w5.heap.size,0,U⟩=some (.int .u64 z):=by rw[<-xX];simp[go_sem]
 have x1:w6.cell? ⟨w5.heap.size,1,U⟩=some (J 0):=by rw[<-xX];simp[go_sem]
 have xz0:dL w6 w5.heap.size 0:=by rw[<-xX];simp[go_sem]
 have xz1:dL w6 w5.heap.size 1:=by rw[<-xX];simp[go_sem]
 have hz6:w5.heap.size<w6.heap.size:=by rw[<-xX];simp
 rw[xX];clear xX;have:=gG.bK w;have:=gG.f_ w1;have hb6:aK 70005 w6 (aF b4 k4 c4) C:=aK.gb rE (bT.gb.trans gG.gb);have ZK:Gb w w6:=Gb.g;go_upto_region 12 with(go_at_call 138;with_reducible refine ku (HR.out _ _ hb6) λw7 jT=>?_;have rr0:=jT.bK w;have:=jT.bK w5;have hz7:=aA rr0.1);obtain⟨w8,hw8⟩:=dP ((w7.setCell ⟨w5.heap.size,0,U⟩ (.int .u64 y)).setCell ⟨w5.heap.size,1,U⟩ (J 0));have aRq:Gb w w7:=Gb.g;have fJ:w.heap.size<=w5.heap.size:=om;have aWc:Gb w w8:=by
  rw[<-hw8];exact(aRq.setCell (a:=⟨w5.heap.size,0,U⟩) fJ _).setCell (a:=⟨w5.heap.size,1,U⟩) fJ _
 have s0:w8.cell? ⟨w5.heap.size,0,U⟩=some (.int .u64 y):=by rw[<-hw8];exact kh
 have s1:w8.cell? ⟨w5.heap.size,1,U⟩=some (J 0):=by rw[<-hw8];exact kh
 have sz1:dL w8 w5.heap.size 1:=by rw[<-hw8];exact kh
 have sr0:w8.cell? ⟨w.heap.size,0,U⟩=some (.int .u64 0):=by rw[<-hw8];exact kh
 have sr1:w8.cell? ⟨w.heap.size,1,U⟩=some (J 0):=by rw[<-hw8];exact kh
 have aVg:dL w8 w.heap.size 0:=by rw[<-hw8];exact kh
 have aVf:dL w8 w.heap.size 1:=by rw[<-hw8];exact kh
 rw[hw8];clear hw8;go_wp2;exact dX (by simp[results,results71,go_sem,sr0,sr1])
def aLJ{P:Prop}(h:P:=by
 go_enter func156,ntmps156;go_wp2_with (go_at_call 225;refine ku (HW _ Gb.g) λw1 au=>?_);go_returns;exact⟨rfl,Gb.g⟩):P:=h
def aLL{P:Prop}(h:P:=by
 go_enter func69,ntmps69;go_wp2_with (first|(go_at_call 131;refine kw (HK _) ?_)|(go_at_call 135;refine kw (HY _) ?_)|(go_at_call 61;refine kw (HF _) ?_)|(go_at_call 126;refine ku (HU _) λw1 au=>?_;have KZ:=au.bK w;have mD:=aA KZ.1)|(go_at_call 140;refine ku (HQ _) λva aT=>?_;have:=aT.bK w;have:=aT.f_ w1))
 exact aLN):P:=h
def aLN{P:Prop}(h:P:=by
 go_region_held3 (λw'=>aB w' w1.heap.size 1 (J s))(exact qj)(first|(go_at_call 134;refine(HM _).mono ?_;rintro e n8 ⟨b8,k8,c8,hb8,rfl,aRA⟩;have:=aRA.bK w)|(go_at_call 156;refine ku (HWe _ _ _ _ (aK.gb hb8 Gb.g)) λn9 aRz=>?_;have jD:=aRz.bK w))
 all_goals go_wp2
 all_goals
  exact dX (by simp[results,results69,go_sem,jD])):P:=h
def aLO{P:Prop}(h:P:=by
 subst hwh;have e2':(c==2)=D:=by simp[e2]
 go_enter func69,ntmps69;go_wp2_with (first|(go_at_call 131;refine kw (HK _) ?_)|(go_at_call 135;refine kw (HY _) ?_)|(go_at_call 61;refine kw (HF _) ?_)|(go_at_call 126;refine ku (HU _) λw1 au=>?_;have KZ:=au.bK w;have mD:=aA KZ.1)|(go_at_call 140;refine ku (HQ _) λva aT=>?_;have:=aT.bK w;have:=aT.f_ w1)|(go_at_call 144;refine(HN _).mono ?_;rintro e w3 ⟨b3,k3,c3,nO,rfl,aO⟩;have:=aO.bK w;have:=aO.f_ w1)|(go_at_call 157;with_reducible refine(HWh.out _ _ _ _ nO).mono ?_;rintro e w4 ⟨b4,k4,c4,rE,rfl,bg⟩;have:=bg.bK w;have:=bg.f_ w1)|(go_at_call 134;refine(HM _).mono ?_;rintro e w5 ⟨b5,k5,c5,hb5,rfl,bT⟩;have:=bT.bK w;have:=bT.f_ w1)|(go_at_call 133;with_reducible refine ku (HC.out _ _ _ (aK.gb rE bT) hb5) λw6 gG=>?_;have:=gG.bK w;have:=gG.f_ w1)|(go_at_call 156;refine ku (HWw _ _ _ _ (aK.gb rE (bT.trans gG))) λw7 jT=>?_;have jD:=jT.bK w))
 exact dX (by simp[results,results69,go_sem,jD])):P:=h
def Yg(s v r:Int)(hr:s=1/\IntKind.u64.wrap (0-v)=r/\IntKind.u64.wrap (-v)=r\/s=0/\v=r)(b k c:Nat)(HW:Hid (∀w',Gb w w'->QB 225 #[aF b k c] w' (.int .u64 v))):
  DR s b k c w r:=by
 rcases hr with⟨rfl,h1,h2⟩|⟨rfl,rfl⟩
 .exact aLJ
 .exact aLJ
def Xo(f aj aG a:Int)(S:Bool)(HK:rG aG 0 S)(w:ak):
  Ae f aj aG a w 0 1:=by
 go_enter func69,ntmps69;go_wp2_with (first|(go_at_call 131;refine kw (HK _) ?_))
 go_returns;exact⟨rfl,Gb.g⟩
def Xn(f aj aG a B:Int)(S:Bool)(B0:(B==0)=D)(HK:rG aG B S)(HY:nV aj D)(w:ak):
  Ae f aj aG a w 0 1:=by
 go_enter func69,ntmps69;go_wp2_with (first|(go_at_call 131;refine kw (HK _) ?_)|(go_at_call 135;refine kw (HY _) ?_))
 go_returns;exact⟨rfl,Gb.g⟩
def Jd(f aj aG a B:Int)(S:Bool)(B0:(B==0)=D)(HK:rG aG B S)(HY:nV aj W)(HF:fF f a D)(w:ak):
  Ae f aj aG a w 0 1:=by
 go_enter func69,ntmps69;go_wp2_with (first|(go_at_call 131;refine kw (HK _) ?_)|(go_at_call 135;refine kw (HY _) ?_)|(go_at_call 61;refine kw (HF _) ?_))
 go_returns;exact⟨rfl,Gb.g⟩
def aAy(f aj aG a B c s x g z:Int)(S:Bool)(L0:Nat)(B0:(B==0)=D)(HK:rG aG B S)(HY:nV aj W)(HF:fF f a W)(HU:bW f a c s x g)(HQ:bY c s x g W)(HM0:Hid (∀w,CT 134 #[J aG,J 0] w (vO 20 L0 w)))(HW0:Hid (∀b k c w,aK 20 w (aF b k c) L0->DR 0 b k c w z))(w:ak):
  Ae f aj aG a w z 1:=by
 go_enter func69,ntmps69;go_wp2_with (first|(go_at_call 131;refine kw (HK _) ?_)|(go_at_call 135;refine kw (HY _) ?_)|(go_at_call 61;refine kw (HF _) ?_)|(go_at_call 126;refine ku (HU _) λw1 au=>?_;have KZ:=au.bK w;have mD:=aA KZ.1)|(go_at_call 140;refine ku (HQ _) λva aT=>?_;have:=aT.bK w;have:=aT.f_ w1)|(go_at_call 134;refine(HM0 _).mono ?_;rintro e n1 ⟨b1,k1,c1,iF,rfl,oP⟩;have:=oP.bK w)|(go_at_call 156;refine ku (HW0 _ _ _ _ iF) λn2 Bz=>?_;have jD:=Bz.bK w))
 exact dX (by simp[results,results69,go_sem,jD])
def aAz(f aj aG a B c s x g z:Int)(S:Bool)(L:Nat)(B0:(B==0)=D)(HK:rG aG B S)(HY:nV aj W)(HF:fF f a W)(HU:bW f a c s x g)(HQ:bY c s x g D)(e2:c=2)(HM:Hid (∀w,CT 134 #[J aG,J s] w (vO 20 L w)))(HWe:Hid (∀b k c w,aK 20 w (aF b k c) L->DR s b k c w z))(w:ak):
  Ae f aj aG a w z 1:=by
 subst e2;exact aLL
def aAA(f aj aG a B c s x g z:Int)(S:Bool)(L:Nat)(B0:(B==0)=D)(HK:rG aG B S)(HY:nV aj W)(HF:fF f a W)(HU:bW f a c s x g)(HQ:bY c s x g D)(e2:¬c=2)(e3:decide (200<x)=W)(HM:Hid (∀w,CT 134 #[J aG,J s] w (vO 20 L w)))(HWe:Hid (∀b k c w,aK 20 w (aF b k c) L->DR s b k c w z))(w:ak):
  Ae f aj aG a w z 1:=by
 exact aLL
def aAx(f aj aG a B c s x g z d:Int)(S wh:Bool)(M C L:Nat)(hwh:wh=W)(B0:(B==0)=D)(HK:rG aG B S)(HY:nV aj W)(HF:fF f a W)(HU:bW f a c s x g)(HQ:bY c s x g D)(e2:¬c=2)(e3:decide (200<x)=D)(HN:Hid (∀w,CT 144 #[fG c s x g] w λe w'=>∃b k cc,aK 2 w' (aF b k cc) M/\e=O (Y #[J s,aF b k cc,J x,X D])/\Gb w w'))(HWh:Hid (∀b k c w,aK 2 w (aF b k c) M->CT 157 #[J aj,Y #[J s,aF b k c,J x,X D]] w λe w'=>∃b k c,aK 70005 w' (aF b k c) C/\e=O (V #[aF b k c,X wh])/\Gb w w'))(HM:Hid (∀w,CT 134 #[J aG,J s] w (vO 20 L w)))(HC:Hid (∀v v' w,aK 70005 w v C->aK 20 w v' L->QB 133 #[v,v'] w (J d)))(hd:decide (d<=0)=W)(HWw:Hid (∀b k c w,aK 70005 w (aF b k c) C->DR s b k c w z))(w:ak):
  Ae f aj aG a w z 0:=by
 exact aLO
def aAw(f aj aG a B c s x g z d:Int)(S wh:Bool)(M C L:Nat)(hwh:wh=D)(B0:(B==0)=D)(HK:rG aG B S)(HY:nV aj W)(HF:fF f a W)(HU:bW f a c s x g)(HQ:bY c s x g D)(e2:¬c=2)(e3:decide (200<x)=D)(HN:Hid (∀w,CT 144 #[fG c s x g] w λe w'=>∃b k cc,aK 2 w' (aF b k cc) M/\e=O (Y #[J s,aF b k cc,J x,X D])/\Gb w w'))(HWh:Hid (∀b k c w,aK 2 w (aF b k c) M->CT 157 #[J aj,Y #[J s,aF b k c,J x,X D]] w λe w'=>∃b k c,aK 70005 w' (aF b k c) C/\e=O (V #[aF b k c,X wh])/\Gb w w'))(HM:Hid (∀w,CT 134 #[J aG,J s] w (vO 20 L w)))(HC:Hid (∀v v' w,aK 70005 w v C->aK 20 w v' L->QB 133 #[v,v'] w (J d)))(hd:decide (d<=0)=W)(HWw:Hid (∀b k c w,aK 70005 w (aF b k c) C->DR s b k c w z))(w:ak):
  Ae f aj aG a w z 16:=by
 exact aLO
def aAv(f aj aG a B c s x g z d:Int)(S wh:Bool)(M C L:Nat)(B0:(B==0)=D)(HK:rG aG B S)(HY:nV aj W)(HF:fF f a W)(HU:bW f a c s x g)(HQ:bY c s x g D)(e2:¬c=2)(e3:decide (200<x)=D)(HN:Hid (∀w,CT 144 #[fG c s x g] w λe w'=>∃b k cc,aK 2 w' (aF b k cc) M/\e=O (Y #[J s,aF b k cc,J x,X D])/\Gb w w'))(HWh:Hid (∀b k c w,aK 2 w (aF b k c) M->CT 157 #[J aj,Y #[J s,aF b k c,J x,X D]] w λe w'=>∃b k c,aK 70005 w' (aF b k c) C/\e=O (V #[aF b k c,X wh])/\Gb w w'))(HM:Hid (∀w,CT 134 #[J aG,J s] w (vO 20 L w)))(HC:Hid (∀v v' w,aK 70005 w v C->aK 20 w v' L->QB 133 #[v,v'] w (J d)))(hd:decide (d<=0)=D)(HWe:Hid (∀b k c w,aK 20 w (aF b k c) L->DR s b k c w z))(w:ak):
  Ae f aj aG a w z 1:=by
 have e2':(c==2)=D:=by simp[e2]
 go_enter func69,ntmps69;go_wp2_with (first|(go_at_call 131;refine kw (HK _) ?_)|(go_at_call 135;refine kw (HY _) ?_)|(go_at_call 61;refine kw (HF _) ?_)|(go_at_call 126;refine ku (HU _) λw1 au=>?_;have KZ:=au.bK w;have mD:=aA KZ.1)|(go_at_call 140;refine ku (HQ _) λva aT=>?_;have:=aT.bK w;have:=aT.f_ w1)|(go_at_call 144;refine(HN _).mono ?_;rintro e w3 ⟨b3,k3,c3,nO,rfl,aO⟩;have:=aO.bK w;have:=aO.f_ w1)|(go_at_call 157;with_reducible refine(HWh.out _ _ _ _ nO).mono ?_;rintro e w4 ⟨b4,k4,c4,rE,rfl,bg⟩;have:=bg.bK w;have:=bg.f_ w1)|(go_at_call 134;refine(HM _).mono ?_;rintro e w5 ⟨b5,k5,c5,hb5,rfl,bT⟩;have:=bT.bK w;have:=bT.f_ w1)|(go_at_call 133;with_reducible refine ku (HC.out _ _ _ (aK.gb rE bT) hb5) λw6 gG=>?_;have:=gG.bK w;have:=gG.f_ w1))
 exact aLN
def Hw(x y:d_)(hx:VO x)(hy:VO y)(mx:aI x.M)(my:aI y.M)(w:ak):
  QR 190 #[iP x.s x.e x.c x.M D 0,iP y.s y.e y.c y.M D 0] w (J (qO x y)):=by
 obtain⟨xc,xs,xe,xM⟩:=x;obtain⟨yc,ys,ye,yM⟩:=y;have x01:=hx.lD;have y01:=hy.lD;dsimp only at x01 y01 mx my⊢
 unfold qO;dsimp only
 by_cases c:xs=ys
 .subst c;rw[aH (by simp)];have e3:mM ((xM%18446744073709551616:Nat):Int) ((yM%18446744073709551616:Nat):Int)=mM (xM:Int) (yM:Int):=by rw[lQ mx,lQ my]
  have hb:or3 (mM xc yc) (mM xe ye) (mM (xM:Int) (yM:Int))=-1\/or3 (mM xc yc) (mM xe ye) (mM (xM:Int) (yM:Int))=0\/or3 (mM xc yc) (mM xe ye) (mM (xM:Int) (yM:Int))=1:=by
   unfold or3;have:=MP xc yc;have:=MP xe ye;have:=MP (xM:Int) (yM:Int);split<;>(try split)<;>omega
  refine XQ xs xe xc _ _ ye yc _ _ _ _ _ _ _ D D rfl rfl e3 rfl ?_ w;unfold Q_;dsimp only
  rcases x01 with rfl|rfl
  .exact .inr ⟨de,by rw[aH (by decide)]⟩
  .refine .inl ⟨rfl,?_⟩;rw[aQ rfl];rcases hb with h|h|h<;>rw[h]<;>decide+kernel
 .rw[aQ c];refine XR xs xe xc _ _ ys ye yc _ _ _ D D c ?_ w;rcases x01 with rfl|rfl<;>rcases y01 with rfl|rfl<;>first|(exact bG rfl c)|decide+kernel
def aCh{s:Int}(h:s=0/\a=v\/s=1/\a=v+sg)(v0:0<=v)(v1:v<sg):a.tmod sg=v:=by
 rw[Int.tmod_eq_emod_of_nonneg (by omega)];rcases h with⟨_,rfl⟩|⟨_,rfl⟩
 .exact Int.emod_eq_of_lt v0 v1
 .rw[Int.add_emod_right];exact Int.emod_eq_of_lt v0 v1
def aA2(x y:d_):Int:=if max x.c y.c=0 then 0 else qO x y
def Kw{one b:Int}(h:bI f p mx one aN sg nan)(a0:0<=a)(b0:0<=b){x y:d_}(hx:dO p mx one aN sg nan a x)(hy:dO p mx one aN sg nan b y)(xc:x.c<=2)(yc:y.c<=2)(w:ak):
  QW 159 #[J f,.int .u64 a,.int .u64 b] w (J (aA2 x y)):=by
 obtain⟨v,u,⟨ha,v0,v1,va,vb⟩,⟨hb,u0,u1,ua,ub⟩,hl⟩:=XT h a0 b0 hx hy xc yc;have hbd:=h.bounds;have x0:=(bU h hx).1.c0;have y0:=(bU h hy).1.c0;refine Fz f a b v u sg _ (λw=>lg h w) om (aCh ha v0 om) (aCh hb u0 om) ?_ w;show aA2 x y=_;unfold aA2 qO;rw[hl];by_cases c0:v=0/\u=0
 .rw[aQ c0,aQ (by omega)]
 .rw[aH c0,aH (by omega)];rcases ha with⟨hs,rfl⟩|⟨hs,rfl⟩<;>rcases hb with⟨ht,rfl⟩|⟨ht,rfl⟩<;>rw[hs,ht]
  .rw[aH de,aH de,aH (by rw[gV om,gV (by omega)];simp),h_ (om:a<sg)];unfold mM;by_cases c1:a=b
   .rw[aQ c1,aH om,aH (by omega)]
   .rw[aH c1];by_cases c2:a<b
    .rw[aQ c2,aQ (by simp[c2])]
    .rw[aH c2,aQ om,aH (by simp[c2])]
  .rw[aQ de,aQ (by rw[gV om,h_ (by omega)];decide),aH (by omega)];rfl
  .rw[aQ de,aQ (by rw[h_ om,gV (by omega)];decide),aQ (by omega)];rfl
  .rw[aH de,aQ rfl,aH (by rw[h_ om,h_ (by omega)];simp),gV (om:¬v+sg<sg)];unfold mM;by_cases c1:v=u
   .rw[aQ c1,aH om,aH (by omega)];rfl
   .rw[aH c1];by_cases c2:v<u
    .rw[aQ c2,aH (by simp[c2])];rfl
    .rw[aH c2,aQ om,aQ (by simp[c2])]
def U4{one:Int}(h:bI f p mx one aN sg nan)(a1:aI a)(hn:2*sg<=a):f=0/\4294967296<=a:=by
 rcases h with⟨rfl,rfl,rfl,rfl,rfl,rfl,rfl⟩|⟨rfl,rfl,rfl,rfl,rfl,rfl,rfl⟩<;>omega
def GH(x y:d_)(s:Bool)(r fl:Int):Prop:=
 max x.c y.c=4/\r=2/\fl=1\/max x.c y.c=3/\s=W/\r=2/\fl=1\/max x.c y.c=3/\s=D/\r=2/\fl=0\/max x.c y.c=0/\r=0/\fl=0\/(max x.c y.c=1\/max x.c y.c=2)/\r=qO x y/\fl=0
def DW(f a b:Int)(s:Bool)(r fl:Int):Prop:=
 (∃p mx one aN sg nan x y,bI f p mx one aN sg nan/\dO p mx one aN sg nan a x/\dO p mx one aN sg nan b y/\GH x y s r fl)\/(¬(f=0\/f=1)/\r=2/\fl=1)
def GH.ex(x y:d_)(hx:VO x)(hy:VO y)(s:Bool):∃r fl,GH x y s r fl:=by
 have:=hx.c0;have:=hx.c4;have:=hy.c0;have:=hy.c4;unfold GH;rcases(om:max x.c y.c=4\/max x.c y.c=3\/max x.c y.c=0\/(max x.c y.c=1\/max x.c y.c=2))with h|h|h|h
 .exact⟨_,_,.inl ⟨h,rfl,rfl⟩⟩
 .cases s
  .exact⟨_,_,.inr (.inr (.inl ⟨h,rfl,rfl,rfl⟩))⟩
  .exact⟨_,_,.inr (.inl ⟨h,rfl,rfl,rfl⟩)⟩
 .exact⟨_,_,.inr (.inr (.inr (.inl ⟨h,rfl,rfl⟩)))⟩
 .exact⟨_,_,.inr (.inr (.inr (.inr ⟨h,rfl,rfl⟩)))⟩
def GH.one{x y:d_}{s:Bool}(h:GH x y s r fl)(h':GH x y s r' qQ):r=r'/\fl=qQ:=by
 unfold GH at h h';generalize max x.c y.c=m at*
 generalize qO x y=d at*
 cases s<;>simp at h h'<;>omega
def LV(f a b:Int)(s:Bool)(a0:0<=a)(a1:aI a)(b0:0<=b)(b1:aI b)(w:ak)(hw:Fm w):
  CT 101 #[J f,.int .u64 a,.int .u64 b,X s] w λe w'=>∃r fl,DW f a b s r fl/\e=O (V #[J r,J fl])/\Gr w w':=by
 by_cases hf:f=0\/f=1
 .obtain⟨p,mx,one,aN,sg,nan,hF⟩:=fQ f hf;obtain⟨mn,fb,sp,hM,Ce,Ru⟩:=hF.m;obtain⟨x,hx,HA⟩:=jP hF hM a a0 a1;obtain⟨y,hy,HB⟩:=jP hF hM b b0 b1;obtain⟨v1,v2,v3,v4,v5,v6⟩:=bU hF hx;obtain⟨u1,u2,u3,u4,u5,u6⟩:=bU hF hy;obtain⟨r,fl,hc⟩:=GH.ex x y v1 u1 s;refine(aPs p mn mx f a b _ _ _ _ _ _ _ _ _ _ _ r fl (qO x y) D D s (λw' hg=>oD hF hM (hw.gr hg)) HA HB rfl hc (λw=>Hw x y v1 u1 om om w)).mono ?_;rintro e w' ⟨rfl,hg⟩;exact⟨r,fl,.inl ⟨p,mx,one,aN,sg,nan,x,y,hF,hx,hy,hc⟩,rfl,hg⟩
 .refine(aPt f a b s (λw=>pK f hf w) w).mono ?_;rintro e w' ⟨rfl,hg⟩;exact⟨2,1,.inr ⟨hf,rfl,rfl⟩,rfl,hg⟩
def DW.one{b:Int}{s:Bool}(h:DW f a b s r fl)(h':DW f a b s r' qQ):r=r'/\fl=qQ:=by
 rcases h with⟨p,mx,one,aN,sg,nan,x,y,hF,hx,hy,hp⟩|⟨hF,rfl,rfl⟩<;>
 rcases h' with⟨p',zq,rX,r_,GK,rY,x',y',oC,O8,ZI,SY⟩|⟨oC,rfl,rfl⟩
 .obtain⟨rfl,rfl,rfl,rfl,rfl,rfl⟩:=hF.one oC;obtain rfl:=hx.one hF O8;obtain rfl:=hy.one hF ZI;exact GH.one hp SY
 .exact bG hF.yes.symm (by simp[oC])
 .exact bG oC.yes.symm (by simp[hF])
 .exact⟨rfl,rfl⟩
