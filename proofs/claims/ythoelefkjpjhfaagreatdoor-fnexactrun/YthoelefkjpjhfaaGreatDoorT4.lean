import Derived.Test.YthoelefkjpjhfaaGreatDoorShf
import Derived.Test.YthoelefkjpjhfaaGreatDoorT3
import Derived.Test.YthoelefkjpjhfaaGreatDoorN3
import Derived.Test.YthoelefkjpjhfaaGreatDoorK3
set_option linter.all false
set_option maxRecDepth 1000000
set_option maxHeartbeats 40000000
open Go.Proofs.YthoelefkjpjhfaaGreatDoor renaming vI → J
open Go.Value renaming int → Y
open Go.Ending renaming returned → O
open Go.Proofs.Tryz
namespace Go.Proofs.YthoelefkjpjhfaaGreatDoor
open Go.RowKit
attribute [local go_sem] aA dB
variable{w W w' w1 w2 aT:World}{lb b B n cb F i:Nat}{ps:List ByteArray}{a fl f z m k d t r mu inv sc s0 s1 s2 s3:Int}{bs:List Value}{v p v' x u:Value}{g:Nat->Int}{sg:Bool}
abbrev uo(B b:Nat)(bs:List Value)(w:World):Prop:=Lib.IsBuilder 34 5 B b bs w
abbrev aHZ(B b:Nat)(bs:List Value)(w:World):Prop:=Lib.BuilderAt 34 5 B b (.pointer (some ⟨b,0,none⟩)) bs w
def aBB:(Tryz.prog.info? 34).map (·.size)=some 2:=by kernel_rfl
def aAn(b:Nat)(w:World)(h0:aA w b 0 (.pointer (some ⟨b,0,none⟩))):CT 44 #[.pointer (some ⟨b,0,none⟩)] w λe w'=>e=O (.tuple #[])/\w'=w:=by
 obtain⟨j,hj,_⟩:=Option.map_eq_some_iff.1 aBB;have hr:=Lib.run_neq_ptr_same w ⟨b,0,none⟩ Tryz.underlying32 hj;go_enter func44,ntmps44;go_wp2;go_returns;exact⟨rfl,rfl⟩
def aJ4:liesAt Tryz.prog Tryz.prog.depth 34 (2/Tryz.prog.cellsOf 34) 0 34 1=true:=by kernel_rfl
def Xx(b:Nat)(w:World)(h0:aA w b 0 (.pointer none))(hsh:w.shape? b=some (34,2))(hfz:dB w b 0):CT 44 #[.pointer (some ⟨b,0,none⟩)] w λe w'=>e=O (.tuple #[])/\w'=w.setCell ⟨b,0,none⟩ (.pointer (some ⟨b,0,none⟩)):=by
 obtain⟨j,hj,hjs⟩:=Option.map_eq_some_iff.1 aBB;have r1:=Lib.run_to_unsafe w ⟨b,0,none⟩ Tryz.underlying32 Tryz.underlying113 hj (by rw[hjs];decide) hsh (Nat.zero_lt_succ 1);have r2:=Lib.run_from_unsafe w ⟨b,0,none⟩ Tryz.underlying113 Tryz.underlying32 hj hsh aJ4;have r3:(callFunc 107 #[.pointer (some ⟨b,0,none⟩)]).run Tryz.prog w=.ok (.value (.pointer (some ⟨b,0,none⟩))) w:=by
  rw[run_callFunc_extern func107 (by kernel_rfl) (by kernel_rfl) (by kernel_rfl) (e:=Extern.AbiNoEscape.same) (by kernel_rfl),Lib.run_noEscape];rfl
 go_enter func44,ntmps44;go_wp2;go_returns;exact⟨rfl,rfl⟩
def check_any(h:uo B b bs w):CT 44 #[.pointer (some ⟨b,0,none⟩)] w λe w'=>e=O (.tuple #[])/\aHZ B b bs w'/\Below B w w':=by
 rcases h with h|h
 .exact(Xx b w h.cell0 h.shape h.frozen0).mono λe w' ⟨e1,e2⟩=>by subst e2;exact⟨e1,h.used _,(Below.refl B w).setCell (p:=⟨b,0,none⟩) h.1 _⟩
 .exact(aAn b w h.cell0).mono λe w' ⟨e1,e2⟩=>by subst e2;exact⟨e1,h,Below.refl B _⟩
def QF:(Tryz.prog.info? 5).map (λi=>(i.zero,i.size,i.bytes))=some (some (Y .u8 0),1,1):=by kernel_rfl
def aLZ:(34:TypeId)≠5:=de
def aAv{x:Option Nat}(hbk:w1.heap[b]?=some (.cells #[p,v] 34 (0,0)))(kY:w1.grownBy w2 x)(jV:x≠some b):w2.heap[b]?=some (.cells #[p,v] 34 (0,0)):=(kY.block b (Array.getElem?_eq_some_iff.1 hbk).1 (λe=>jV e.symm)).trans hbk
def aBC(hbk:w1.heap[b]?=some (.cells #[p,v] 34 (0,0)))(kY:w1.grownBy w2 v.ownBlock)(jV:v.ownBlock≠some b)(gZ:w2.ownsRow B 5 1 v' n bs):aA w2 b 1 v/\dB w2 b 1/\∃ao n' cap,v'=.slice ao n' cap:=by
 have lC:=aAv hbk kY jV;refine⟨(Lib.cell_of_heap lC 1).trans rfl,Lib.frozen_of_heap lC 1,?_⟩;rcases gZ.2 with⟨hv,_⟩|⟨g,cap,cur,hv,_⟩
 .exact⟨_,_,_,hv⟩
 .exact⟨_,_,_,hv⟩
def aL8(s:ByteArray)(h:uo B b bs w)(oG:bs.length+s.size<=140737488355328)(hBw:B<=w.heap.size):CT 13 #[.pointer (some ⟨b,0,none⟩),.string s] w λe w'=>e=O (.tuple #[J s.size,.nilIface])/\aHZ B b (bs++Lib.strCells s) w'/\Below B w w':=by
 obtain⟨i0,hi,lF,iR,lu⟩:=info_parts QF;have HK:Hid (uo B b bs w):=h;clear h;go_enter func13,ntmps13;go_upto_region 2 with(go_at_call 44;refine(check_any HK.out).mono ?_;rintro e w1 ⟨rfl,h1,gU⟩);obtain⟨hB,v,hbk,gZ,jV⟩:=h1;have c1:w1.cell? ⟨b,1,none⟩=some v:=by rw[Lib.cell_of_heap hbk];rfl
 have EN:=gU.size;go_wp2_with (at_builtin;refine Lib.wpList_append_own_string _ rfl _ _ 24 9 rfl B 5 i0 Tryz.underlying24 Tryz.underlying9 hi lF iR lu _ _ _ rfl gZ s rfl (by unfold maxLen;omega) om om ?_;intro v' w2 tX kY _;obtain⟨d1,f1,ao,n',cap,rfl⟩:=aBC hbk kY jV tX);go_returns;exact⟨rfl,Lib.BuilderAt.put hB (aAv hbk kY jV) (by simpa[Lib.strCells_length]using tX) aLZ,(gU.grown kY om (λk hk=>(gZ.lt k hk).1)).setCell (p:=⟨b,1,none⟩) hB _⟩
def aI0(h:aA w b 0 x):∀(j:Nat) (u:Value),[x][j]?=some u->w.cell? ((⟨b,0,none⟩:Addr).add j)=some u:=by
 intro j u hj;cases j with
 |zero=>simp at hj;subst hj;simpa[Addr.add]using h
 |succ j=>simp at hj
def aH4(c:Int)(h:uo B b bs w)(oG:bs.length+1<=140737488355328)(hBw:B<=w.heap.size):CT 205 #[.pointer (some ⟨b,0,none⟩),Y .u8 c] w λe w'=>e=O .nilIface /\aHZ B b (bs++[Y .u8 c]) w'/\Below B w w':=by
 obtain⟨i0,hi,lF,iR,lu⟩:=info_parts QF;have HK:Hid (uo B b bs w):=h;clear h;go_enter func205,ntmps205;go_upto_region 2 with(go_at_call 44;refine(check_any HK.out).mono ?_;rintro e w1 ⟨rfl,h1,gU⟩);obtain⟨hB,v,hbk,gZ,jV⟩:=h1;have c1:w1.cell? ⟨b,1,none⟩=some v:=by rw[Lib.cell_of_heap hbk];rfl
 have EN:=gU.size;have fF:b<w1.heap.size:=(Array.getElem?_eq_some_iff.1 hbk).1;have aP4:(w1.alloc (.cells #[Y .u8 c] 5)).heap[b]?=some (.cells #[.pointer (some ⟨b,0,none⟩),v] 34 (0,0)):=(Lib.alloc_old w1 _ b fF).trans hbk;go_wp2_with (at_builtin;refine wpList_append_own _ rfl _ _ 24 rfl B 5 i0 (Y .u8 0) 1 1 Tryz.underlying24 hi lF iR lu rfl de _ _ _ rfl (gZ.alloc _) ⟨w1.heap.size,0,none⟩ 1 1 [Y .u8 c] rfl rfl (aI0 (by simp[go_sem])) (by simp[Value.oneCell']) (by unfold maxLen;omega) om (by rw[World.size_alloc];omega) ?_;intro v' w2 tX kY _;obtain⟨d1,f1,ao,n',cap,rfl⟩:=aBC aP4 kY jV tX);go_returns;exact⟨rfl,Lib.BuilderAt.put hB (aAv aP4 kY jV) (by simpa using tX) aLZ,((gU.alloc om _).grown kY (by rw[World.size_alloc];omega) (λk hk=>(gZ.lt k hk).1)).setCell (p:=⟨b,1,none⟩) hB _⟩
def aKh{P:Prop}(h:P:=by
 have lu:¬(2:Int)<=(t.size:Int):=by rw[<-ht,eF];simp
 have HA2:Hid (Ug s.data.toList=acc):=by
  have:=HA.out;rw[Ug,List.append_nil]at this
  .exact this.symm
  all_goals simp
 have HB2:Hid (b'=bF):=by
  have:=HB.out;rw[FU,Bool.not_true,Bool.or_false]at this
  .exact this
  all_goals simp
 rw[ht];clear HA HB oG;go_wp2_with (go_at_call 15;refine(Tryz.Builder_String_any w2.heap.size w2.heap.size acc _ HBd.out rG).mono ?_;rintro e w6 ⟨rfl,hB6⟩);go_returns;exact⟨bU (congrArg (λl=>Value.string (tx l)) HA2.out.symm),(by rw[<-HB2.out];exact hls.below hB6 hlB),hlk.below hB6 AO⟩):P:=h
def Ug:List UInt8->List UInt8
 |a::b::l=>UInt8.ofNat (mQ (tx [a,b])).toNat ::Ug l
 |_=>[]
def FU:List UInt8->Bool
 |a::b::l=>(aQ 16 (tx [a,b])).isSome &&FU l
 |_=>true
def uo.keep(h:uo B b bs w)(hk:∀p,B<=p->p<w.heap.size->w'.heap[p]?=w.heap[p]?):uo B b bs w':=by
 have go:∀{p:Value},Lib.BuilderAt 34 5 B b p bs w->Lib.BuilderAt 34 5 B b p bs w':=λ{p} ⟨hB,v,hb,ho,hn⟩=>by
  refine⟨hB,v,(hk b hB (Array.getElem?_eq_some_iff.1 hb).1).trans hb,⟨ho.1,?_⟩,hn⟩;rcases ho.2 with h|⟨g,cap,cur,rfl,hg,hh,rest⟩
  .exact .inl h
  .exact .inr ⟨g,cap,cur,rfl,hg,(hk g hg (Array.getElem?_eq_some_iff.1 hh).1).trans hh,rest⟩
 rcases h with h|h
 .exact .inl (go h)
 .exact .inr (go h)
def uo.gb(h:uo B b bs w)(hg:Gb w w'):uo B b bs w':=h.keep λp _ hp=>Below.block hg p hp
def uo.lk(h:uo B b bs w)(hk:Lk lb w w')(hl:lb<B):uo B b bs w':=h.keep λp h1 hp=>hk.block p hp om
def uo.new(w:World):uo w.heap.size w.heap.size [] (w.alloc (.cells #[.pointer none,.slice none 0 0] 34)):=.inl ⟨Nat.le_refl _,.slice none 0 0,heap_alloc_new w _,⟨rfl,.inl ⟨rfl,rfl⟩⟩,by simp[Value.ownBlock]⟩
def aAr(l:List UInt8)(x:Nat)(hx:x<256):Lib.byteCells l++[Y .u8 (x:Int)]=Lib.byteCells (l++[UInt8.ofNat x]):=by
 simp[Lib.byteCells,Nat.mod_eq_of_lt hx]
def Lk.below(h:Lk lb w w1)(hB:Below B w1 w2)(hw:w.heap.size<=B):Lk lb w w2:=⟨hB.os.trans h.os,hB.tape.trans h.tape,hB.output.trans h.output,Nat.le_trans h.size hB.size,λp hp hn=>(hB.block p om).trans (h.block p hp hn)⟩
def aMb(a c:UInt8):0<=mQ (tx [a,c])/\mQ (tx [a,c])<256:=by
 unfold mQ;cases h:aQ 16 (tx [a,c])with
 |none=>exact⟨de,de⟩
 |some x=>
  unfold aQ at h;split at h
  .cases h
  .have:=JZ de _ 0 x (Int.le_refl _) h;exact⟨this.1,by simpa using this.2⟩
def strLen:Value->Nat
 | .string s=>s.size
 |_=>0
def aJI{b:Bool}(h:LS W w lb ps b)(hs:(ps.headD (tx [])).size <=1048576):LM W 106 #[lp lb] lb w (.string (tx (Ug (ps.headD (tx [])).data.toList))) ps.tail ((b|| !(decide (0<(ps.headD (tx [])).size)&&decide ((ps.headD (tx [])).size %2=0)))|| !FU (ps.headD (tx [])).data.toList):=by
 have HL:Hid (LM W 167 #[lp lb] lb w (.string (ps.headD (tx []))) ps.tail b):=MF h;have fF:=h.lt;clear h;generalize ps.headD (tx [])=s at*
 generalize ps.tail=ps' at*
 obtain⟨ok,Bc⟩:=dK (decide (0<s.size)&&decide (s.size%2=0));rw[Bc];have hq:0<s.size->((s.size:Int)%2==0)=ok:=λh=>by
  rw[<-Bc,decide_eq_true h,Bool.true_and];by_cases e:s.size%2=0
  .rw[decide_eq_true e];exact beq_iff_eq.2 om
  .rw[decide_eq_false e];exact beq_false_of_ne om
 have hw:(s.size:Int)=0/\ok=false\/(0:Int)<(s.size:Int)/\((s.size:Int)%2==0)=ok:=by
  by_cases e:s.size=0
  .exact .inl ⟨om,by rw[<-Bc,decide_eq_false om,Bool.false_and]⟩
  .exact .inr ⟨om,hq om⟩
 obtain⟨bF,hbF⟩:=dK (b|| !ok|| !FU s.data.toList);rw[hbF];have HF:Hid _:=hbF;clear hq Bc hbF;rcases hw with⟨hp,rfl⟩|⟨hp,Px⟩
 all_goals
  go_enter func106,ntmps106;go_upto_region 3 with(first|(go_at_call 167;refine HL.out.mono ?_;rintro e w1 ⟨rfl,o9,jB⟩)|(go_at_call 104;refine(nK o9 _).mono ?_;rintro e w2 ⟨rfl,yH,lX⟩))
  have HK2:Hid (Lk lb w w2):=jB.trans lX;have AO:w.heap.size<=w2.heap.size:=HK2.out.size;clear jB lX o9 hp HL;go_wp2;go_loopw [3] (λd wr=>∃(D acc:List UInt8) (b':Bool),d=.string (tx D)/\uo w2.heap.size w2.heap.size (Lib.byteCells acc) wr/\LS W wr lb ps' b'/\Lk lb w wr/\w2.heap.size<=wr.heap.size/\Hid (acc++Ug D=Ug s.data.toList)/\Hid ((b'|| !FU D)=bF)/\acc.length+D.length<=s.size) (λd _=>strLen d)
  case atStart=>
   refine⟨s.data.toList,[],_,?_,Lib.fresh_isBuilder _ _ w2,yH.more (Gb.alloc (Gb.refl _) _),HK2.out.trans (Lk.of (Gb.alloc (Gb.refl _) _)),by rw[World.size_alloc];omega,rfl,by first|exact HF.out|simpa using HF.out,?_⟩
   .rw[Q7]
   .rw[dJ];simp
  case round=>
   obtain⟨D,acc,b',rfl,hbd,hls,hlk,rG,HA,HB,oG⟩:=hrel;have hl9:=hls.lt;have HBd:Hid (uo w2.heap.size w2.heap.size (Lib.byteCells acc) wr):=hbd;have hlB:lb<w2.heap.size:=om;clear hbd
   match D,HA,HB,oG with
   |a::c::D',HA,HB,oG=>
    obtain⟨t,ht⟩:=dK (tx (a::c::D'));have hx:t.extract 0 2=tx [a,c]:=by rw[<-ht,aDI];simp
    have hz:t.size=D'.length+2:=by rw[<-ht,eF];rfl
    have hy:t.extract 2 (D'.length+2)=tx D':=by rw[<-ht,aDI];simp
    have lu:(2:Int)<=(t.size:Int):=om;obtain⟨x,r,h1,h2,HN⟩:=aBd 16 de de (tx [a,c]);have ZW:=aMb a c;unfold mQ at ZW;rw[h1]at ZW;have hu:IntKind.u8.wrap x=x:=by rw[IntKind.wrap_u8];omega
    have hA:=HA.out;have hB:=HB.out;rw[Ug,mQ,h1]at hA;rw[FU,h2]at hB;have HA2:Hid ((acc++[UInt8.ofNat x.toNat])++Ug D'=Ug s.data.toList):=by show _=_;rw[<-hA];simp
    have HB2:Hid (((b'|| !r)|| !FU D')=bF):=by show _=_;rw[<-hB];cases b'<;>cases r<;>simp
    have hs2:=oG;simp only[List.length_cons]at hs2;rw[ht];have HC:Hid (∀w',Below w2.heap.size w' w'->uo w2.heap.size w2.heap.size (Lib.byteCells acc) w'->w2.heap.size<=w'.heap.size->CT 205 #[.pointer (some ⟨w2.heap.size,0,none⟩),Y .u8 x] w' λe aT=>e=O .nilIface /\aHZ w2.heap.size w2.heap.size (Lib.byteCells (acc++[UInt8.ofNat x.toNat])) aT/\Below w2.heap.size w' aT):=λw' _ hb uF=>by
     rw[<-aAr acc x.toNat om,(om:((x.toNat:Nat):Int)=x)];exact aH4 x hb (by rw[Lib.byteCells_length];omega) uF
    clear hA hB HA HB h1 h2 ZW oG;go_wp2_with (first|(go_at_call 166;refine ku (HN _) λw3 aK=>?_;have sG:=hls.more aK)|(go_at_call 104;refine(nK sG _).mono ?_;rintro e w4 ⟨rfl,ER,ug⟩;have hs4:=ug.size;have hs3:=aK.size)|(go_at_call 205;refine(HC _ (Below.refl _ _) ((HBd.out.gb aK).lk ug hlB) om).mono ?_;rintro e w5 ⟨rfl,hb5,hB5⟩))
    go_roundw
    case rel=>
     have hs5:=hB5.size;exact⟨D',acc++[UInt8.ofNat x.toNat],b'|| !r,by first|rfl|exact congrArg _ hy,.inr hb5,ER.below hB5 hlB,((hlk.trans (Lk.of aK)).trans ug).below hB5 AO,om,HA2.out,HB2.out,jl⟩
    case measure=>simp[strLen,eF,hz]
   |[],HA,HB,oG=>
    obtain⟨t,ht⟩:=dK (tx []);exact aKh
   |[a],HA,HB,oG=>
    obtain⟨t,ht⟩:=dK (tx [a]);exact aKh
def Pw(w:World):Prop:=Lib.TabIs Tryz.prog w "internal/strconv.uint64pow10" .u64 Lib.pow10Tab
def aPc:∃g,Tryz.prog.globalNamed "internal/strconv.uint64pow10" =some g:=⟨6,by kernel_rfl⟩
def Pw.gb(h:Pw w)(hg:Gb w w'):Pw w':=by
 unfold Pw Lib.TabIs World.var? at h⊢
 obtain⟨g,e⟩:=aPc;rw[e,Option.bind_some]at h⊢
 have fF:g<w.heap.size:=by
  rcases Nat.lt_or_ge g w.heap.size with c|c
  .exact c
  .rw[Array.getElem?_eq_none c]at h;cases h
 rw[Below.block hg g fF];exact h
def aJv(w:World)(k:Nat)(os:Array Obj):Gb w (Go.Sort.grow (w.drewN k) os):=⟨rfl,rfl,rfl,by simp[Go.Sort.grow,World.drewN],λp hp=>by
 show(w.heap++os)[p]?=_;rw[Array.getElem?_append_left hp]⟩
def aGw(n:Int)(h0:-9223372036854775808<=n)(h1:n<=9223372036854775807)(hp:Pw w):QB 165 #[J n] w (.string (tx (Lib.itoa n))):=(Tryz.strconv_Itoa n h0 h1 w hp).mono λe w' ⟨e1,k,os,e2⟩=>⟨e1,by rw[e2];exact aJv w k os⟩
def aFF(z:Nat)(fl:Int)(hz:aG z)(h0:-9223372036854775808<=fl)(h1:fl<=9223372036854775807)(hd:Db w)(hp:Pw w):QB 79 #[aP (z:Int) fl] w (.string (uT z fl)):=by
 have H1:Hid (∀w',Gb w w'->QB 164 #[Y .u64 (z:Int),J 16] w' (.string (nS z))):=λw' hg=>aPW z hz (hd.gb hg);have H2:Hid (∀w',Gb w w'->QB 165 #[J fl] w' (.string (tx (Lib.itoa fl)))):=λw' hg=>aGw fl h0 h1 (hp.gb hg);have z1:=zV 15 z om;have z2:=iI fl h0 h1;rw[<-eF]at z2;obtain⟨Z,hZ⟩:=dK (z:Int);rw[hZ]at H1⊢
 unfold uT;generalize nS z=t at*
 generalize tx (Lib.itoa fl)=t2 at*
 have c1:¬9223372036854775807<t.size+1:=om;have c2:t.size+1<=9223372036854775807:=om;have c3:¬9223372036854775807<t.size+1+t2.size:=om;have c4:t.size+1+t2.size<=9223372036854775807:=om;clear hZ hz h0 h1 hd hp;go_enter func79,ntmps79;go_wp2;go_region_held3 (λw'=>kM w' w.heap.size 0 1 (Y .u64 Z) (J fl))(exact o8)(first|(go_at_call 164;refine ku (H1 _ kg) λw1 ak=>?_;have:=ak.Ap w)|(go_at_call 165;refine ku (H2 _ kg) λw2 aB=>?_;have:=aB.Ap w))
 all_goals go_wp2<;>go_returns
 all_goals exact⟨rfl,kg⟩
def lJ(n:Nat)(g:Nat->Int):ByteArray:=tx (Lib.join ((List.range n).map λj=>Lib.itoa (g j)) [32])
def Nc(k:Nat):∀(xs:List (List UInt8)),(∀x,x ∈ xs->x.length<=k)->(Lib.join xs [32]).length <=xs.length*(k+1)
 |[],_=>by simp[Lib.join_nil]
 |[x],h=>by rw[Lib.join_one];have:=h x (by simp);simp;omega
 |x::y::l,h=>by
  have ih:=Nc k (y::l) λz hz=>h z (List.mem_cons_of_mem _ hz);have hx:=h x (by simp);have e:Lib.join (x::y::l) [32]=x++([32]++Lib.join (y::l) [32]):=by simp[Lib.join,List.intercalate]
  rw[e];simp only[List.length_append,List.length_cons,List.length_nil]at ih⊢
  rw[Nat.succ_mul];omega
def Sc(w:World)(b n i:Nat)(g:Nat->ByteArray):Prop:=(∀j,j<n->∃u,aA w b j u/\dB w b j)/\∀j,j<i->aA w b j (.string (g j))
def Sc.gb{g:Nat->ByteArray}(h:Sc w b n i g)(hg:Gb w w'):Sc w' b n i g:=⟨λj hj=>by
 obtain⟨u,c,z⟩:=h.1 j hj;exact⟨u,hg.old c,(World.frozen?_of_block (a:=⟨b,j,none⟩) (Below.block hg b (au c))).trans z⟩,λj hj=>hg.old (h.2 j hj)⟩
def Sc.put{g:Nat->ByteArray}(h:Sc w b n i g)(hi:i<n):Sc (w.setCell ⟨b,i,none⟩ (.string (g i))) b n (i+1) g:=by
 obtain⟨u,c,z⟩:=h.1 i hi;refine⟨λj hj=>?_,λj hj=>?_⟩
 .obtain⟨u',c',z'⟩:=h.1 j hj;by_cases e:i=j
  .subst e;exact⟨.string (g i),by simp[go_sem,c],by simp[go_sem,z]⟩
  .exact⟨u',by simp[go_sem,c',e],by simp[go_sem,z']⟩
 .by_cases e:i=j
  .subst e;simp[go_sem,c]
  .have q:=h.2 j (by omega);simp[go_sem,q,e]
def aF5(hp:Pw w)(hr:iD w v n g)(hn:n<=1000)(hg:∀j,j<n->-9223372036854775808<=g j/\g j<=9223372036854775807):QB 100 #[v] w (.string (lJ n g)):=by
 have HI:Hid (∀j,j<n->∀w',Gb w w'->QB 165 #[J (g j)] w' (.string (tx (Lib.itoa (g j))))):=λj hj w' dL=>aGw (g j) (hg j hj).1 (hg j hj).2 (hp.gb dL);have HJ:Hid (∀w',Sc w' w.heap.size n n (λj=>tx (Lib.itoa (g j)))->w.heap.size<w'.heap.size->QB 191 #[aC w.heap.size n n,.string (tx [32])] w' (.string (lJ n g))):=λw' hs fF=>by
  have hl:((List.range n).map λj=>tx (Lib.itoa (g j))).length =n:=by simp
  have hd:((List.range n).map λj=>tx (Lib.itoa (g j))).map (·.data.toList)=(List.range n).map λj=>Lib.itoa (g j):=by simp
  have hx:(Lib.join ((List.range n).map λj=>Lib.itoa (g j)) [32]).length <=n*21:=by
   have:=Nc 20 ((List.range n).map λj=>Lib.itoa (g j)) (λx hx=>by
    obtain⟨j,hj,rfl⟩:=List.mem_map.1 hx;have hj:=List.mem_range.1 hj;exact iI (g j) (hg j hj).1 (hg j hj).2)
   rwa [List.length_map,List.length_range]at this
  have:=Tryz.strings_Join w.heap.size 0 n ((List.range n).map λj=>tx (Lib.itoa (g j))) (tx [32]) w' (λj x hj=>by
   rw[List.getElem?_map,Option.map_eq_some_iff]at hj;obtain⟨k,hk,rfl⟩:=hj;obtain⟨hj,rfl⟩:=List.getElem?_eq_some_iff.1 hk;rw[List.length_range]at hj;rw[List.getElem_range,Nat.zero_add];exact hs.2 j hj) fF (by rw[hl];omega) (by rw[hl];omega) (by rw[hd];exact Nat.le_trans hx om)
  rw[hl,hd]at this;exact this
 have hmk:∀w,(Instr.makeSlice 26 (J (n:Int)) (J (n:Int))).run Tryz.prog w=.ok (aC w.heap.size n n) (w.alloc (.cells (madeCells #[.string ByteArray.empty] (n*1)) 9)):=λw=>qR 26 9 (.string ByteArray.empty) 1 16 Tryz.underlying26 infoSt de n om w;have FK:∃a cap,v=.slice a n cap:=by obtain⟨a,cap,e,_⟩:=hr;exact⟨a,cap,e⟩
 obtain⟨a,cap,rfl⟩:=FK;have HR:Hid (∀j,j<n->∃b o,a=some ⟨b,o,none⟩/\aA w b (o+j) (J (g j))):=λj hj=>by
  obtain⟨b,o,cap',e,_,_,hc⟩:=hr.at om;simp only[Value.slice.injEq,true_and]at e;exact⟨b,o,e.1,hc j hj⟩
 generalize lJ n g=T at*
 clear hr hg hp;go_enter func100,ntmps100;go_wp2;go_loopw [11] (λi wr=>∃k:Nat,k<=n/\i=J (k:Int)/\Sc wr w.heap.size n k (λj=>tx (Lib.itoa (g j)))/\Gb w wr/\w.heap.size<wr.heap.size) (λi _=>n-(intOf i).toNat)
 case atStart=>
  refine⟨0,Nat.zero_le _,rfl,⟨λj hj=>?_,λj hj=>absurd hj om⟩,kg,by simp⟩;have hz:(madeCells #[Value.string ByteArray.empty] (n*1)).size =n:=by rw[size_madeCells,Nat.mul_one]
  first|exact⟨(madeCells #[Value.string ByteArray.empty] (n*1))[j]'(by rw[hz];exact hj),by simp[go_sem,hz,hj],by simp[go_sem]⟩|(rw[Nat.mul_one]at hz;exact⟨(madeCells #[Value.string ByteArray.empty] n)[j]'(by rw[hz];exact hj),by simp[go_sem,hz,hj],by simp[go_sem]⟩)
 case round=>
  obtain⟨k,hk,rfl,hs,dH,fF⟩:=hrel;have HS:Hid (Sc wr w.heap.size n k (λj=>tx (Lib.itoa (g j)))):=hs;by_cases h0:(k:Int)<(n:Int)
  .obtain⟨b,o,rfl,hc⟩:=HR k om;have c0:=dH.old hc;obtain⟨u,c1,z1⟩:=hs.1 k om;have HIk:Hid _:=HI k om;obtain⟨x,hx⟩:=dK (g k);rw[hx]at HIk c0;have HX:Hid (g k=x):=hx;clear hs hc hx;go_wp2_with (go_at_call 165;refine ku (HIk _ dH) λw1 ak=>?_;have c2:=ak.old c1;have z2:=(World.frozen?_of_block (a:=⟨w.heap.size,k,none⟩) (Below.block ak w.heap.size (au c1))).trans z1);go_roundw
   case rel=>
    have hq:=(HS.out.gb ak).put (om:k<n);simp only[HX.out]at hq;have hz:=ak.size;exact⟨k+1,om,by go_num,hq,kg,jl⟩
   case measure=>exact uz
  .obtain rfl:k=n:=om;clear hs;go_wp2_with (go_at_call 191;refine ku (HJ _ HS.out fF) λw1 ak=>?_);go_returns;exact⟨rfl,dH.trans ak⟩
structure Tb (w:World):Prop where
 fm:Fm w
 db:Db w
 pw:Pw w
abbrev OpI(W:World)(F:Nat)(args:Array Value)(z fl:Int):Prop:=Hid (∀w',Gb W w'->Calls Tryz.prog F args w' λe aT=>e=O (aP z fl)/\Gr w' aT)
def TY(z fl:Int):Prop:=0<=z/\aG z/\-9223372036854775808<=fl/\fl<=9223372036854775807
def Lj(hW:Tb W)(h:TY z fl):Hid (∀w',Gb W w'->QB 79 #[aP z fl] w' (.string (uT z.toNat fl))):=λw' hg=>by
 have:=aFF z.toNat fl (by have:=h.2.1;have:=h.1;omega) h.2.2.1 h.2.2.2 (hW.db.gb hg) (hW.pw.gb hg)
 rwa [show((z.toNat:Nat):Int)=z by have:=h.1;omega]at this
def Lk.c(h:Lk lb w w'){p:Nat}(hn:p≠lb)(hu:aA w p 0 u):aA w' p 0 u:=h.old hu hn
def Tm(hf:gI dA (ps.headD (tx []))=f):Hid (∀w' b,LS W w' lb ps b->LM W 77 #[lp lb] lb w' (J f) ps.tail (b|| !decide (0<=f))):=λw' b h=>by have:=aG7 h;rwa [hf]at this
def aDz(hm:gI fJ (ps.headD (tx []))=m):Hid (∀w' b,LS W w' lb ps b->LM W 78 #[lp lb] lb w' (J m) ps.tail (b|| !decide (0<=m))):=λw' b h=>by have:=aMY h;rwa [hm]at this
def aPD(hk:gI iG (ps.headD (tx []))=k):Hid (∀w' b,LS W w' lb ps b->LM W 91 #[lp lb] lb w' (J k) ps.tail (b|| !decide (0<=k))):=λw' b h=>by have:=aM4 h;rwa [hk]at this
def CJ(hW:Tb W)(f:Int)(ha:mQ (ps.headD (tx []))=a):Hid (∀w' b,LS W w' lb ps b->LM W 80 #[lp lb,J f] lb w' (Y .u64 a) ps.tail (b|| !okW f (ps.headD (tx [])))):=λw' b h=>by have:=aL9 hW.fm h f;rwa [ha]at this
def aOk(hW:Tb W)(hF:F=26\/F=27\/F=28\/F=30){b:Bool}(h:LS W w lb ps b)(hc:aA w cb 0 (.func (.func F) #[] #[]))(hn:cb≠lb){c:Int}(hf:gI dA (ps.headD (tx []))=f)(hm:gI fJ (ps.tail.headD (tx []))=m)(ha:mQ (ps.tail.tail.headD (tx []))=a)(Df:mQ (ps.tail.tail.tail.headD (tx []))=c)(HA:OpI W F #[J f,J m,Y .u64 a,Y .u64 c] z fl)(hs:TY z fl):
  LM W 76 #[lp lb,.pointer (some ⟨cb,0,none⟩)] lb w (.string (uT z.toNat fl)) ps.tail.tail.tail.tail ((((b|| !decide (0<=f))|| !decide (0<=m))|| !okW f (ps.tail.tail.headD (tx [])))|| !okW f (ps.tail.tail.tail.headD (tx []))):=by
 have HF:Hid _:=Tm (W:=W) (lb:=lb) hf;have HM:Hid _:=aDz (W:=W) (lb:=lb) hm;have H1:Hid _:=CJ hW (lb:=lb) f ha;have H2:Hid _:=CJ hW (lb:=lb) f Df;have HS:Hid _:=Lj hW hs;generalize okW f (ps.tail.tail.headD (tx []))=k1 at*
 generalize okW f (ps.tail.tail.tail.headD (tx []))=k2 at*
 generalize ps.tail.tail.tail.tail=p4 at*
 generalize ps.tail.tail.tail=p3 at*
 generalize ps.tail.tail=p2 at*
 generalize ps.tail=p1 at*
 have HL:Hid (LS W w lb ps b):=h;clear hf hm ha Df hs hW h;rcases hF with rfl|rfl|rfl|rfl
 all_goals
  go_enter func76,ntmps76;go_upto_region 2 with(first|(go_at_call 77;refine(HF _ _ HL.out).mono ?_;rintro e w1 ⟨rfl,o9,jB⟩;have q1:=jB.c hn hc)|(go_at_call 78;refine(HM _ _ o9).mono ?_;rintro e w2 ⟨rfl,yH,lX⟩;have q2:=lX.c hn q1))
  go_region_held3 (λw'=>w'.cell? ⟨cb,0,none⟩=w.cell? ⟨cb,0,none⟩)((rw[hc];first|(with_reducible assumption)|exact kb))(first
    |(go_at_call 80;first|(refine(H2 _ _ (sG.more kg)).mono ?_;rintro e w4 ⟨rfl,ER,ug⟩;have q4:=ug.c hn (Eq.trans (by assumption) hc))|(refine(H1 _ _ (yH.more kg)).mono ?_;rintro e w3 ⟨rfl,sG,wU⟩;have q3:=wU.c hn (Eq.trans (by assumption) hc)))
    |(go_at_call 26;refine ku (HA _ (ER.gb.trans kg)) λw5 bJ=>?_)
    |(go_at_call 27;refine ku (HA _ (ER.gb.trans kg)) λw5 bJ=>?_)
    |(go_at_call 28;refine ku (HA _ (ER.gb.trans kg)) λw5 bJ=>?_)
    |(go_at_call 30;refine ku (HA _ (ER.gb.trans kg)) λw5 bJ=>?_)
    |(go_at_call 79;refine ku (HS _ (ER.gb.trans kg)) λw6 fK=>?_))
  go_wp2;go_returns;exact⟨rfl,ER.more kg,(jB.trans lX).trans ((Lk.of kg).trans (wU.trans (ug.trans (Lk.of kg))))⟩
def aAH{P:Prop}(h:P:=by
 go_returns;exact⟨rfl,ER.more kg,(((jB.trans lX).trans wU).trans ug).trans (Lk.of kg)⟩):P:=h
def aR9(k:Int)(ha:mQ (ps.headD (tx []))=a){q:Int->Bool}(hq:FwI a q):Hid (∀w' b,LS W w' lb ps b->LM W 93 #[lp lb,J k] lb w' (Y .u64 a) ps.tail ((b|| !(aQ 16 (ps.headD (tx []))).isSome)|| !okI k q)):=λw' b h=>by have:=aDu h k (q:=q) (by rw[ha];exact hq);rwa [ha]at this
def aPg(hW:Tb W)(hF:F=32\/F=38){b:Bool}(h:LS W w lb ps b)(hc:aA w cb 0 (.func (.func F) #[] #[]))(hn:cb≠lb)(h0:gI dA (ps.headD (tx []))=f)(h1:gI fJ (ps.tail.headD (tx []))=m)(h2:mQ (ps.tail.tail.headD (tx []))=a)(HA:OpI W F #[J f,J m,Y .u64 a] z fl)(hs:TY z fl):
  LM W 87 #[lp lb,.pointer (some ⟨cb,0,none⟩)] lb w (.string (uT z.toNat fl)) ps.tail.tail.tail (((b|| !decide (0<=f))|| !decide (0<=m))|| !okW f (ps.tail.tail.headD (tx []))):=by
 have H0:Hid _:=Tm (W:=W) (lb:=lb) h0;have H1:Hid _:=aDz (W:=W) (lb:=lb) h1;have H2:Hid _:=CJ hW (lb:=lb) f h2;have HS:Hid _:=Lj hW hs;generalize okW f (ps.tail.tail.headD (tx []))=k2 at*
 generalize ps.tail.tail.tail=p3 at*
 generalize ps.tail.tail=p2 at*
 generalize ps.tail=p1 at*
 have HL:Hid (LS W w lb ps b):=h;clear h0 h1 h2 hs hW h;rcases hF with rfl|rfl
 all_goals
  go_enter func87,ntmps87;go_upto_region 2 with(first|(go_at_call 77;refine(H0 _ _ HL.out).mono ?_;rintro e w1 ⟨rfl,o9,jB⟩;have q1:=jB.c hn hc)|(go_at_call 78;refine(H1 _ _ o9).mono ?_;rintro e w2 ⟨rfl,yH,lX⟩;have q2:=lX.c hn q1))
  go_region_held3 (λw'=>w'.cell? ⟨cb,0,none⟩=w.cell? ⟨cb,0,none⟩)((rw[hc];first|(with_reducible assumption)|exact kb))(first|(go_at_call 80;refine(H2 _ _ (yH.more kg)).mono ?_;rintro e w3 ⟨rfl,sG,wU⟩;have q3:=wU.c hn (Eq.trans (by assumption) hc))|(go_at_call 32;refine ku (HA _ (sG.gb.trans kg)) λwa tY=>?_)|(go_at_call 38;refine ku (HA _ (sG.gb.trans kg)) λwa tY=>?_)|(go_at_call 79;refine ku (HS _ (sG.gb.trans kg)) λwb o_=>?_))
  go_wp2;go_returns;exact⟨rfl,sG.more kg,((((jB.trans lX)).trans (Lk.of kg)).trans wU).trans (Lk.of kg)⟩
def aQW(hW:Tb W)(hF:F=34\/F=39\/F=40){b:Bool}(h:LS W w lb ps b)(hc:aA w cb 0 (.func (.func F) #[] #[]))(hn:cb≠lb){c:Int}(h0:gI dA (ps.headD (tx []))=f)(h1:mQ (ps.tail.headD (tx []))=a)(h2:mQ (ps.tail.tail.headD (tx []))=c)(HA:OpI W F #[J f,Y .u64 a,Y .u64 c] z fl)(hs:TY z fl):
  LM W 89 #[lp lb,.pointer (some ⟨cb,0,none⟩)] lb w (.string (uT z.toNat fl)) ps.tail.tail.tail (((b|| !decide (0<=f))|| !okW f (ps.tail.headD (tx [])))|| !okW f (ps.tail.tail.headD (tx []))):=by
 have H0:Hid _:=Tm (W:=W) (lb:=lb) h0;have H1:Hid _:=CJ hW (lb:=lb) f h1;have H2:Hid _:=CJ hW (lb:=lb) f h2;have HS:Hid _:=Lj hW hs;generalize okW f (ps.tail.headD (tx []))=k1 at*
 generalize okW f (ps.tail.tail.headD (tx []))=k2 at*
 generalize ps.tail.tail.tail=p3 at*
 generalize ps.tail.tail=p2 at*
 generalize ps.tail=p1 at*
 have HL:Hid (LS W w lb ps b):=h;clear h0 h1 h2 hs hW h;rcases hF with rfl|rfl|rfl
 all_goals
  go_enter func89,ntmps89;go_upto_region 2 with(first|(go_at_call 77;refine(H0 _ _ HL.out).mono ?_;rintro e w1 ⟨rfl,o9,jB⟩;have q1:=jB.c hn hc))
  go_region_held3 (λw'=>w'.cell? ⟨cb,0,none⟩=w.cell? ⟨cb,0,none⟩)((rw[hc];first|(with_reducible assumption)|exact kb))(first|(go_at_call 80;first|(refine(H2 _ _ (yH.more kg)).mono ?_;rintro e w3 ⟨rfl,sG,wU⟩;have q3:=wU.c hn (Eq.trans (by assumption) hc))|(refine(H1 _ _ (o9.more kg)).mono ?_;rintro e w2 ⟨rfl,yH,lX⟩;have q2:=lX.c hn (Eq.trans (by assumption) hc)))|(go_at_call 34;refine ku (HA _ (sG.gb.trans kg)) λwa tY=>?_)|(go_at_call 39;refine ku (HA _ (sG.gb.trans kg)) λwa tY=>?_)|(go_at_call 40;refine ku (HA _ (sG.gb.trans kg)) λwa tY=>?_)|(go_at_call 79;refine ku (HS _ (sG.gb.trans kg)) λwb o_=>?_))
  go_wp2;go_returns;exact⟨rfl,sG.more kg,((((jB).trans (Lk.of kg)).trans lX).trans wU).trans (Lk.of kg)⟩
def aQd(hW:Tb W){b:Bool}(h:LS W w lb ps b){c:Int}(h0:gI dA (ps.headD (tx []))=f)(h1:gI fJ (ps.tail.headD (tx []))=m)(h2:mQ (ps.tail.tail.headD (tx []))=a)(h3:mQ (ps.tail.tail.tail.headD (tx []))=c)(h4:mQ (ps.tail.tail.tail.tail.headD (tx []))=d)(HA:OpI W 85 #[J f,J m,Y .u64 a,Y .u64 c,Y .u64 d] z fl)(hs:TY z fl):
  LM W 29 #[lp lb] lb w (.string (uT z.toNat fl)) ps.tail.tail.tail.tail.tail (((((b|| !decide (0<=f))|| !decide (0<=m))|| !okW f (ps.tail.tail.headD (tx [])))|| !okW f (ps.tail.tail.tail.headD (tx [])))|| !okW f (ps.tail.tail.tail.tail.headD (tx []))):=by
 have H0:Hid _:=Tm (W:=W) (lb:=lb) h0;have H1:Hid _:=aDz (W:=W) (lb:=lb) h1;have H2:Hid _:=CJ hW (lb:=lb) f h2;have H3:Hid _:=CJ hW (lb:=lb) f h3;have H4:Hid _:=CJ hW (lb:=lb) f h4;have HS:Hid _:=Lj hW hs;generalize okW f (ps.tail.tail.headD (tx []))=k2 at*
 generalize okW f (ps.tail.tail.tail.headD (tx []))=k3 at*
 generalize okW f (ps.tail.tail.tail.tail.headD (tx []))=k4 at*
 generalize ps.tail.tail.tail.tail.tail=p5 at*
 generalize ps.tail.tail.tail.tail=p4 at*
 generalize ps.tail.tail.tail=p3 at*
 generalize ps.tail.tail=p2 at*
 generalize ps.tail=p1 at*
 have HL:Hid (LS W w lb ps b):=h;clear h0 h1 h2 h3 h4 hs hW h;go_enter func29,ntmps29;go_wp2_with (first|(go_at_call 77;refine(H0 _ _ HL.out).mono ?_;rintro e w1 ⟨rfl,o9,jB⟩)|(go_at_call 78;refine(H1 _ _ o9).mono ?_;rintro e w2 ⟨rfl,yH,lX⟩)|(go_at_call 80;first|(refine(H4 _ _ ER).mono ?_;rintro e w5 ⟨rfl,Ja,hk5⟩)|(refine(H3 _ _ sG).mono ?_;rintro e w4 ⟨rfl,ER,ug⟩)|(refine(H2 _ _ yH).mono ?_;rintro e w3 ⟨rfl,sG,wU⟩))|(go_at_call 85;refine ku (HA _ (Ja.gb.trans kg)) λwa tY=>?_)|(go_at_call 79;refine ku (HS _ (Ja.gb.trans kg)) λwb o_=>?_))
 go_returns;exact⟨rfl,Ja.more kg,((((jB.trans lX).trans wU).trans ug).trans hk5).trans (Lk.of kg)⟩
def aNy(hW:Tb W){b:Bool}(h:LS W w lb ps b)(h0:gI dA (ps.headD (tx []))=f)(h1:gI fJ (ps.tail.headD (tx []))=m)(h2:gI iG (ps.tail.tail.headD (tx []))=k)(h3:mQ (ps.tail.tail.tail.headD (tx []))=a){q:Int->Bool}(hq:FwI a q)(HA:OpI W 92 #[J f,J m,J k,Y .u64 a] z fl)(hs:TY z fl):
  LM W 35 #[lp lb] lb w (.string (uT z.toNat fl)) ps.tail.tail.tail.tail (((((b|| !decide (0<=f))|| !decide (0<=m))|| !decide (0<=k))|| !(aQ 16 (ps.tail.tail.tail.headD (tx []))).isSome)|| !okI k q):=by
 have H0:Hid _:=Tm (W:=W) (lb:=lb) h0;have H1:Hid _:=aDz (W:=W) (lb:=lb) h1;have H2:Hid _:=aPD (W:=W) (lb:=lb) h2;have H3:Hid _:=aR9 (W:=W) (lb:=lb) k h3 hq;have HS:Hid _:=Lj hW hs;generalize(aQ 16 (ps.tail.tail.tail.headD (tx []))).isSome =k3 at*
 generalize okI k q=j3 at*
 generalize ps.tail.tail.tail.tail=p4 at*
 generalize ps.tail.tail.tail=p3 at*
 generalize ps.tail.tail=p2 at*
 generalize ps.tail=p1 at*
 have HL:Hid (LS W w lb ps b):=h;clear h0 h1 h2 h3 hs hW h hq;go_enter func35,ntmps35;go_wp2_with (first|(go_at_call 77;refine(H0 _ _ HL.out).mono ?_;rintro e w1 ⟨rfl,o9,jB⟩)|(go_at_call 78;refine(H1 _ _ o9).mono ?_;rintro e w2 ⟨rfl,yH,lX⟩)|(go_at_call 91;refine(H2 _ _ yH).mono ?_;rintro e w3 ⟨rfl,sG,wU⟩)|(go_at_call 93;refine(H3 _ _ sG).mono ?_;rintro e w4 ⟨rfl,ER,ug⟩)|(go_at_call 92;refine ku (HA _ (ER.gb.trans kg)) λwa tY=>?_)|(go_at_call 79;refine ku (HS _ (ER.gb.trans kg)) λwb o_=>?_))
 exact aAH
def aQX(hW:Tb W){b:Bool}(h:LS W w lb ps b)(h0:gI dA (ps.headD (tx []))=f)(h1:gI fJ (ps.tail.headD (tx []))=m)(h2:gI iG (ps.tail.tail.headD (tx []))=k)(h3:mQ (ps.tail.tail.tail.headD (tx []))=a)(HA:OpI W 94 #[J f,J m,J k,Y .u64 a] z fl)(hs:TY z fl):
  LM W 36 #[lp lb] lb w (.string (uT z.toNat fl)) ps.tail.tail.tail.tail ((((b|| !decide (0<=f))|| !decide (0<=m))|| !decide (0<=k))|| !okW f (ps.tail.tail.tail.headD (tx []))):=by
 have H0:Hid _:=Tm (W:=W) (lb:=lb) h0;have H1:Hid _:=aDz (W:=W) (lb:=lb) h1;have H2:Hid _:=aPD (W:=W) (lb:=lb) h2;have H3:Hid _:=CJ hW (lb:=lb) f h3;have HS:Hid _:=Lj hW hs;generalize okW f (ps.tail.tail.tail.headD (tx []))=k3 at*
 generalize ps.tail.tail.tail.tail=p4 at*
 generalize ps.tail.tail.tail=p3 at*
 generalize ps.tail.tail=p2 at*
 generalize ps.tail=p1 at*
 have HL:Hid (LS W w lb ps b):=h;clear h0 h1 h2 h3 hs hW h;go_enter func36,ntmps36;go_wp2_with (first|(go_at_call 77;refine(H0 _ _ HL.out).mono ?_;rintro e w1 ⟨rfl,o9,jB⟩)|(go_at_call 78;refine(H1 _ _ o9).mono ?_;rintro e w2 ⟨rfl,yH,lX⟩)|(go_at_call 91;refine(H2 _ _ yH).mono ?_;rintro e w3 ⟨rfl,sG,wU⟩)|(go_at_call 80;refine(H3 _ _ sG).mono ?_;rintro e w4 ⟨rfl,ER,ug⟩)|(go_at_call 94;refine ku (HA _ (ER.gb.trans kg)) λwa tY=>?_)|(go_at_call 79;refine ku (HS _ (ER.gb.trans kg)) λwb o_=>?_))
 exact aAH
def aNJ(hW:Tb W){b:Bool}(h:LS W w lb ps b)(h0:gI dA (ps.headD (tx []))=f)(h1:gI dA (ps.tail.headD (tx []))=t)(h2:gI fJ (ps.tail.tail.headD (tx []))=m)(h3:mQ (ps.tail.tail.tail.headD (tx []))=a)(HA:OpI W 95 #[J f,J t,J m,Y .u64 a] z fl)(hs:TY z fl):
  LM W 37 #[lp lb] lb w (.string (uT z.toNat fl)) ps.tail.tail.tail.tail ((((b|| !decide (0<=f))|| !decide (0<=t))|| !decide (0<=m))|| !okW f (ps.tail.tail.tail.headD (tx []))):=by
 have H0:Hid _:=Tm (W:=W) (lb:=lb) h0;have H1:Hid _:=Tm (W:=W) (lb:=lb) h1;have H2:Hid _:=aDz (W:=W) (lb:=lb) h2;have H3:Hid _:=CJ hW (lb:=lb) f h3;have HS:Hid _:=Lj hW hs;generalize okW f (ps.tail.tail.tail.headD (tx []))=k3 at*
 generalize ps.tail.tail.tail.tail=p4 at*
 generalize ps.tail.tail.tail=p3 at*
 generalize ps.tail.tail=p2 at*
 generalize ps.tail=p1 at*
 have HL:Hid (LS W w lb ps b):=h;clear h0 h1 h2 h3 hs hW h;go_enter func37,ntmps37;go_wp2_with (first|(go_at_call 77;first|(refine(H1 _ _ o9).mono ?_;rintro e w2 ⟨rfl,yH,lX⟩)|(refine(H0 _ _ HL.out).mono ?_;rintro e w1 ⟨rfl,o9,jB⟩))|(go_at_call 78;refine(H2 _ _ yH).mono ?_;rintro e w3 ⟨rfl,sG,wU⟩)|(go_at_call 80;refine(H3 _ _ sG).mono ?_;rintro e w4 ⟨rfl,ER,ug⟩)|(go_at_call 95;refine ku (HA _ (ER.gb.trans kg)) λwa tY=>?_)|(go_at_call 79;refine ku (HS _ (ER.gb.trans kg)) λwb o_=>?_))
 exact aAH
def iD.lit(w:World)(l:List Int)(hl:l.length<=100):iD (w.alloc (.cells (l.map (Value.int .i64)).toArray 3)) (aC w.heap.size l.length l.length) l.length (λj=>l.getD j 0):=by
 refine⟨_,_,rfl,Nat.le_refl _,by unfold maxLen;omega,λ_=>⟨_,_,rfl,λj hj=>?_⟩⟩;have e:(l.map (Value.int .i64)).toArray[0+j]?=some (J (l.getD j 0)):=by simp[List.getD_eq_getElem?_getD,hj]
 simpa[go_sem]using e
def numsL(l:List Int):ByteArray:=lJ l.length (λj=>l.getD j 0)
def Ins(l:List Int):Prop:=∀x,x ∈ l->-9223372036854775808<=x/\x<=9223372036854775807
def aBb(hW:Tb W){l:List Int}(hl:l.length<=100)(hi:Ins l)(hg:Gb W w')(dL:Gb (w'.alloc (.cells (l.map (Value.int .i64)).toArray 3)) aT):CT 100 #[aC w'.heap.size l.length l.length] aT λe w3=>e=O (.string (numsL l))/\Gb aT w3:=by
 refine aF5 (hW.pw.gb (hg.trans ((Gb.alloc (Gb.refl _) _).trans dL))) ((iD.lit w' l hl).gb dL) om (λj hj=>hi _ ?_);rw[List.getD_eq_getElem?_getD,List.getElem?_eq_getElem hj];exact List.getElem_mem hj
def aIW(hW:Tb W){b:Bool}(h:LS W w lb ps b)(hc:aA w cb 0 (.bool sg))(hn:cb≠lb){c:Int}(h0:gI dA (ps.headD (tx []))=f)(h1:mQ (ps.tail.headD (tx []))=a)(h2:mQ (ps.tail.tail.headD (tx []))=c)(HA:Hid (∀w',Gb W w'->QR 101 #[J f,Y .u64 a,Y .u64 c,.bool sg] w' (.tuple #[J r,J fl])))(hs:Ins [r,fl]):
  LM W 99 #[lp lb,.pointer (some ⟨cb,0,none⟩)] lb w (.string (numsL [r,fl])) ps.tail.tail.tail (((b|| !decide (0<=f))|| !okW f (ps.tail.headD (tx [])))|| !okW f (ps.tail.tail.headD (tx []))):=by
 have H0:Hid _:=Tm (W:=W) (lb:=lb) h0;have H1:Hid _:=CJ hW (lb:=lb) f h1;have H2:Hid _:=CJ hW (lb:=lb) f h2;have HS:Hid (∀w' aT,Gb W w'->Gb (w'.alloc (.cells #[J r,J fl] 3)) aT->CT 100 #[aC w'.heap.size 2 2] aT λe w3=>e=O (.string (numsL [r,fl]))/\Gb aT w3):=λw' aT hg dL=>aBb hW (by simp) hs hg dL;generalize okW f (ps.tail.headD (tx []))=k1 at*
 generalize okW f (ps.tail.tail.headD (tx []))=k2 at*
 generalize numsL [r,fl]=T at*
 generalize ps.tail.tail.tail=p3 at*
 generalize ps.tail.tail=p2 at*
 generalize ps.tail=p1 at*
 have HL:Hid (LS W w lb ps b):=h;clear h0 h1 h2 hs hW h;go_enter func99,ntmps99;go_upto_region 2 with(go_at_call 77;refine(H0 _ _ HL.out).mono ?_;rintro e w1 ⟨rfl,o9,jB⟩;have q1:=jB.c hn hc);go_region_held3 (λw'=>w'.cell? ⟨cb,0,none⟩=w.cell? ⟨cb,0,none⟩)((rw[hc];first|(with_reducible assumption)|exact kb))(first
   |(go_at_call 80;first|(refine(H2 _ _ (yH.more kg)).mono ?_;rintro e w3 ⟨rfl,sG,wU⟩;have q3:=wU.c hn (Eq.trans (by assumption) hc))|(refine(H1 _ _ (o9.more kg)).mono ?_;rintro e w2 ⟨rfl,yH,lX⟩;have q2:=lX.c hn (Eq.trans (by assumption) hc)))
   |(go_at_call 101;refine ku (HA _ (sG.gb.trans kg)) λwa tY=>?_)
   |(go_at_call 100;refine ku (HS _ _ (sG.gb.trans kg) (Gb.refl _)) λwb o_=>?_))
 go_wp2;go_returns;exact⟨rfl,sG.more kg,((jB.trans (Lk.of kg)).trans (lX.trans wU)).trans (Lk.of kg)⟩
def okD(s:ByteArray):Bool:=(decide (0<s.size)&&decide (s.size%2=0))&&FU s.data.toList
def aNU(b x y z:Bool):((b|| !(x&&y))|| !z)=(b|| !((x&&y)&&z)):=by cases b<;>cases x<;>cases y<;>cases z<;>rfl
def aFc(hW:Tb W){b:Bool}(h:LS W w lb ps b)(h0:mQ (ps.headD (tx []))=mu)(h1:mQ (ps.tail.headD (tx []))=inv)(h2:mQ (ps.tail.tail.headD (tx []))=sc)(hz:(ps.tail.tail.tail.headD (tx [])).size <=1048576)(HA:Hid (∀w',Gb W w'->QB 105 #[Y .u64 mu,Y .u64 inv,Y .u64 sc,.string (tx (Ug (ps.tail.tail.tail.headD (tx [])).data.toList))] w' (.agg #[J s0,J s1,J s2,J s3])))(hs:Ins [s0,s1,s2,s3]):
  LM W 43 #[lp lb] lb w (.string (numsL [s0,s1,s2,s3])) ps.tail.tail.tail.tail ((((b|| !okW 1 (ps.headD (tx [])))|| !okW 1 (ps.tail.headD (tx [])))|| !okW 1 (ps.tail.tail.headD (tx [])))|| !okD (ps.tail.tail.tail.headD (tx []))):=by
 have H0:Hid _:=CJ hW (lb:=lb) 1 h0;have H1:Hid _:=CJ hW (lb:=lb) 1 h1;have H2:Hid _:=CJ hW (lb:=lb) 1 h2;have H3:Hid (∀w' b,LS W w' lb ps.tail.tail.tail b->LM W 106 #[lp lb] lb w' (.string (tx (Ug (ps.tail.tail.tail.headD (tx [])).data.toList))) ps.tail.tail.tail.tail (b|| !okD (ps.tail.tail.tail.headD (tx [])))):=λw' b h=>by
  have:=aJI h hz;rw[aNU]at this;exact this
 have HS:Hid (∀w' aT B,B=w'.heap.size->Gb W w'->Gb (w'.alloc (.cells #[J s0,J s1,J s2,J s3] 3)) aT->CT 100 #[aC B 4 4] aT λe w3=>e=O (.string (numsL [s0,s1,s2,s3]))/\Gb aT w3):=λw' aT B hB hg dL=>by rw[hB];exact aBb hW (by simp) hs hg dL
 generalize okW 1 (ps.headD (tx []))=k0 at*
 generalize okW 1 (ps.tail.headD (tx []))=k1 at*
 generalize okW 1 (ps.tail.tail.headD (tx []))=k2 at*
 generalize okD (ps.tail.tail.tail.headD (tx []))=k3 at*
 generalize tx (Ug (ps.tail.tail.tail.headD (tx [])).data.toList)=D at*
 generalize numsL [s0,s1,s2,s3]=T at*
 generalize ps.tail.tail.tail.tail=p4 at*
 generalize ps.tail.tail.tail=p3 at*
 generalize ps.tail.tail=p2 at*
 generalize ps.tail=p1 at*
 have HL:Hid (LS W w lb ps b):=h;clear h0 h1 h2 hz hs hW h;go_enter func43,ntmps43;go_upto_region 2 with(first
  |(go_at_call 80;first|(refine(H2 _ _ yH).mono ?_;rintro e w3 ⟨rfl,sG,wU⟩)|(refine(H1 _ _ o9).mono ?_;rintro e w2 ⟨rfl,yH,lX⟩)|(refine(H0 _ _ HL.out).mono ?_;rintro e w1 ⟨rfl,o9,jB⟩)))
 clear H0 H1 H2;go_upto_region 3 with(first|(go_at_call 106;refine(H3 _ _ sG).mono ?_;rintro e w4 ⟨rfl,ER,ug⟩)|(go_at_call 105;refine ku (HA _ ER.gb) λwa tY=>?_))
 go_wp2_with (first|(go_at_call 100;refine ku (HS (wa.alloc (.cells #[J s0,J s1,J s2,J s3] 90)) _ _ (by simp) (ER.gb.trans kg) (Gb.refl _)) λwb o_=>?_))
 exact aAH
def aJE(HA:OpI W 96 #[J f,J m,Y .u64 a,.bool true] z fl):OpI W 38 #[J f,J m,Y .u64 a] z fl:=λw hg=>by
 show Calls _ _ _ _ _;go_enter func38,ntmps38;go_wp2_with (go_at_call 96;refine ku (HA _ (hg.trans kg)) λw1 ak=>?_;have jT:=ak.bG w);exact bW (by simp[results,Tryz.results38,go_sem,jT])
