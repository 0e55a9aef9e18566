import Derived.Test.YthoelefkjpjhfaaGreatDoorShf
import Derived.Test.YthoelefkjpjhfaaGreatDoorT3
import Derived.Test.YthoelefkjpjhfaaGreatDoorN3
import Derived.Test.YthoelefkjpjhfaaGreatDoorK3
set_option linter.all false
set_option maxRecDepth 1000000
set_option maxHeartbeats 40000000
open Go.Proofs.YthoelefkjpjhfaaGreatDoor renaming vI → J
open Go.Value renaming int → Y
open Go.Ending renaming returned → O
open Go.Proofs.Tryz
namespace Go.Proofs.YthoelefkjpjhfaaGreatDoor
open Go.RowKit
attribute [local go_sem] aB dL
variable {w W w' w1 w2 bf:ak}{lb b B n cb F i:Nat}{ps:List aJ}{a fl f z m k d t r mu inv sc s0 s1 s2 s3:Int}{bs:List Value}{v p v' x u:Value}{g:Nat->Int}{sg:Bool}
abbrev wU(B b:Nat)(bs:List Value)(w:ak):Prop:=Lib.IsBuilder 34 5 B b bs w
abbrev aJn(B b:Nat)(bs:List Value)(w:ak):Prop:=Lib.BuilderAt 34 5 B b (.pointer (some ⟨b,0,none⟩)) bs w
def aC1:(prog.info? 34).map (·.size)=some 2:=by kernel_rfl
def aBK(b:Nat)(w:ak)(h0:aB w b 0 (.pointer (some ⟨b,0,none⟩))):CT 44 #[.pointer (some ⟨b,0,none⟩)] w λe w'=>e=O (.tuple #[])/\w'=w:=by
 obtain⟨j,hj,_⟩:=Option.map_eq_some_iff.1 aC1;have hr:=Lib.run_neq_ptr_same w ⟨b,0,none⟩ underlying32 hj;go_enter func44,ntmps44;go_wp2;go_returns;exact⟨rfl,rfl⟩
def aLy:liesAt prog prog.depth 34 (2/prog.cellsOf 34) 0 34 1=true:=by kernel_rfl
def Za(b:Nat)(w:ak)(h0:aB w b 0 (.pointer none))(hsh:w.shape? b=some (34,2))(hfz:dL w b 0):CT 44 #[.pointer (some ⟨b,0,none⟩)] w λe w'=>e=O (.tuple #[])/\w'=w.setCell ⟨b,0,none⟩ (.pointer (some ⟨b,0,none⟩)):=by
 obtain⟨j,hj,hjs⟩:=Option.map_eq_some_iff.1 aC1;have r1:=Lib.run_to_unsafe w ⟨b,0,none⟩ underlying32 underlying113 hj (by rw[hjs];decide) hsh (Nat.zero_lt_succ 1);have r2:=Lib.run_from_unsafe w ⟨b,0,none⟩ underlying113 underlying32 hj hsh aLy;have r3:(callFunc 107 #[.pointer (some ⟨b,0,none⟩)]).run prog w=.ok (.value (.pointer (some ⟨b,0,none⟩))) w:=by
  rw[run_callFunc_extern func107 (by kernel_rfl) (by kernel_rfl) (by kernel_rfl) (e:=Extern.AbiNoEscape.same) (by kernel_rfl),Lib.run_noEscape];rfl
 go_enter func44,ntmps44;go_wp2;go_returns;exact⟨rfl,rfl⟩
def check_any(h:wU B b bs w):CT 44 #[.pointer (some ⟨b,0,none⟩)] w λe w'=>e=O (.tuple #[])/\aJn B b bs w'/\Below B w w':=by
 rcases h with h|h
 .exact(Za b w h.cell0 h.shape h.frozen0).mono λe w' ⟨e1,e2⟩=>by subst e2;exact⟨e1,h.used _,(Below.refl B w).setCell (p:=⟨b,0,none⟩) h.1 _⟩
 .exact(aBK b w h.cell0).mono λe w' ⟨e1,e2⟩=>by subst e2;exact⟨e1,h,Below.refl B _⟩
def TB:(prog.info? 5).map (λi=>(i.zero,i.size,i.bytes))=some (some (Y .u8 0),1,1):=by kernel_rfl
def aNz:(34:TypeId)≠5:=de
def aBS{x:Option Nat}(hbk:w1.heap[b]?=some (.cells #[p,v] 34 (0,0)))(lS:w1.grownBy w2 x)(lM:x≠some b):w2.heap[b]?=some (.cells #[p,v] 34 (0,0)):=(lS.block b (Ap.1 hbk).1 (λe=>lM e.symm)).trans hbk
def aC2(hbk:w1.heap[b]?=some (.cells #[p,v] 34 (0,0)))(lS:w1.grownBy w2 v.ownBlock)(lM:v.ownBlock≠some b)(iG:w2.ownsRow B 5 1 v' n bs):aB w2 b 1 v/\dL w2 b 1/\∃ao n' cap,v'=.slice ao n' cap:=by
 have mY:=aBS hbk lS lM;refine⟨(Lib.cell_of_heap mY 1).trans rfl,Lib.frozen_of_heap mY 1,?_⟩;rcases iG.2 with⟨hv,_⟩|⟨g,cap,cur,hv,_⟩
 .exact⟨_,_,_,hv⟩
 .exact⟨_,_,_,hv⟩
def aNI(s:aJ)(h:wU B b bs w)(o_:bs.length+s.size<=140737488355328)(hBw:B<=w.heap.size):CT 13 #[.pointer (some ⟨b,0,none⟩),.string s] w λe w'=>e=O (.tuple #[J s.size,.nilIface])/\aJn B b (bs++Lib.strCells s) w'/\Below B w w':=by
 obtain⟨i0,hi,mD,jB,mG⟩:=info_parts TB;have HK:Hid (wU B b bs w):=h;clear h;go_enter func13,ntmps13;go_upto_region 2 with(go_at_call 44;refine(check_any HK.out).mono ?_;rintro e w1 ⟨rfl,h1,iF⟩);obtain⟨hB,v,hbk,iG,lM⟩:=h1;have c1:w1.cell? ⟨b,1,none⟩=some v:=by rw[Lib.cell_of_heap hbk];rfl
 have GL:=iF.size;go_wp2_with (at_builtin;refine Lib.wpList_append_own_string _ rfl _ _ 24 9 rfl B 5 i0 underlying24 underlying9 hi mD jB mG _ _ _ rfl iG s rfl (by unfold maxLen;omega) om om ?_;intro v' w2 tZ lS _;obtain⟨d1,f1,ao,n',cap,rfl⟩:=aC2 hbk lS lM tZ);go_returns;exact⟨rfl,Lib.BuilderAt.put hB (aBS hbk lS lM) (by simpa[Lib.strCells_length]using tZ) aNz,(iF.grown lS om (λk hk=>(iG.lt k hk).1)).setCell (p:=⟨b,1,none⟩) hB _⟩
def aKp(h:aB w b 0 x):∀(j:Nat) (u:Value),[x][j]?=some u->w.cell? ((⟨b,0,none⟩:Addr).add j)=some u:=by
 intro j u hj;cases j with
 |zero=>simp at hj;subst hj;simpa[Addr.add]using h
 |succ j=>simp at hj
def aJu(c:Int)(h:wU B b bs w)(o_:bs.length+1<=140737488355328)(hBw:B<=w.heap.size):CT 205 #[.pointer (some ⟨b,0,none⟩),Y .u8 c] w λe w'=>e=O .nilIface /\aJn B b (bs++[Y .u8 c]) w'/\Below B w w':=by
 obtain⟨i0,hi,mD,jB,mG⟩:=info_parts TB;have HK:Hid (wU B b bs w):=h;clear h;go_enter func205,ntmps205;go_upto_region 2 with(go_at_call 44;refine(check_any HK.out).mono ?_;rintro e w1 ⟨rfl,h1,iF⟩);obtain⟨hB,v,hbk,iG,lM⟩:=h1;have c1:w1.cell? ⟨b,1,none⟩=some v:=by rw[Lib.cell_of_heap hbk];rfl
 have GL:=iF.size;have fJ:b<w1.heap.size:=(Ap.1 hbk).1;have aRM:(w1.alloc (.cells #[Y .u8 c] 5)).heap[b]?=some (.cells #[.pointer (some ⟨b,0,none⟩),v] 34 (0,0)):=(Lib.alloc_old w1 _ b fJ).trans hbk;go_wp2_with (at_builtin;refine wpList_append_own _ rfl _ _ 24 rfl B 5 i0 (Y .u8 0) 1 1 underlying24 hi mD jB mG rfl de _ _ _ rfl (iG.alloc _) ⟨w1.heap.size,0,none⟩ 1 1 [Y .u8 c] rfl rfl (aKp j_) (by simp[Value.oneCell']) (by unfold maxLen;omega) om (by rw[dV];omega) ?_;intro v' w2 tZ lS _;obtain⟨d1,f1,ao,n',cap,rfl⟩:=aC2 aRM lS lM tZ);go_returns;exact⟨rfl,Lib.BuilderAt.put hB (aBS aRM lS lM) (by simpa using tZ) aNz,((iF.alloc om _).grown lS (by rw[dV];omega) (λk hk=>(iG.lt k hk).1)).setCell (p:=⟨b,1,none⟩) hB _⟩
def aL1{P:Prop}(h:P:=by
 have mG:¬(2:Int)<=(t.size:Int):=by rw[<-ht,dZ];simp
 have HA2:Hid (V6 s.data.toList=acc):=by
  have:=HA.out;rw[V6,List.append_nil]at this
  .exact this.symm
  all_goals simp
 have HB2:Hid (b'=bF):=by
  have:=HB.out;rw[Iz,Bool.not_true,Bool.or_false]at this
  .exact this
  all_goals simp
 rw[ht];clear HA HB o_;go_wp2_with (go_at_call 15;refine(Tryz.Builder_String_any w2.heap.size w2.heap.size acc _ HBd.out uz).mono ?_;rintro e w6 ⟨rfl,hB6⟩);go_returns;exact⟨b_ (lu (λl=>Value.string (tx l)) HA2.out.symm),(by rw[<-HB2.out];exact hls.below hB6 hlB),hlk.below hB6 Dk⟩):P:=h
def V6:List UInt8->List UInt8
 |a::b::l=>UInt8.ofNat (oJ (tx [a,b])).toNat ::V6 l
 |_=>[]
def Iz:List UInt8->Bool
 |a::b::l=>(aV 16 (tx [a,b])).isSome &&Iz l
 |_=>true
def wU.keep(h:wU B b bs w)(hk:∀p,B<=p->p<w.heap.size->w'.heap[p]?=w.heap[p]?):wU B b bs w':=by
 have go:∀{p:Value},Lib.BuilderAt 34 5 B b p bs w->Lib.BuilderAt 34 5 B b p bs w':=λ{p} ⟨hB,v,hb,ho,hn⟩=>by
  refine⟨hB,v,(hk b hB (Ap.1 hb).1).trans hb,⟨ho.1,?_⟩,hn⟩;rcases ho.2 with h|⟨g,cap,cur,rfl,hg,hh,rest⟩
  .exact .inl h
  .exact .inr ⟨g,cap,cur,rfl,hg,(hk g hg (Ap.1 hh).1).trans hh,rest⟩
 rcases h with h|h
 .exact .inl (go h)
 .exact .inr (go h)
def wU.gb(h:wU B b bs w)(hg:Gb w w'):wU B b bs w':=h.keep λp _ hp=>Below.block hg p hp
def wU.lk(h:wU B b bs w)(hk:Lk lb w w')(hl:lb<B):wU B b bs w':=h.keep λp h1 hp=>hk.block p hp om
def wU.new(w:ak):wU w.heap.size w.heap.size [] (w.alloc (.cells #[.pointer none,.slice none 0 0] 34)):=.inl ⟨dJ _,.slice none 0 0,heap_alloc_new w _,⟨rfl,.inl ⟨rfl,rfl⟩⟩,by simp[Value.ownBlock]⟩
def aBO(l:List UInt8)(x:Nat)(hx:x<256):Lib.byteCells l++[Y .u8 (x:Int)]=Lib.byteCells (l++[UInt8.ofNat x]):=by
 simp[Lib.byteCells,lQ hx]
def Lk.below(h:Lk lb w w1)(hB:Below B w1 w2)(hw:w.heap.size<=B):Lk lb w w2:=⟨hB.os.trans h.os,hB.tape.trans h.tape,hB.output.trans h.output,yI h.size hB.size,λp hp hn=>(hB.block p om).trans (h.block p hp hn)⟩
def aNL(a c:UInt8):0<=oJ (tx [a,c])/\oJ (tx [a,c])<256:=by
 unfold oJ;cases h:aV 16 (tx [a,c])with
 |none=>exact⟨de,de⟩
 |some x=>
  unfold aV at h;split at h
  .cases h
  .have:=MH de _ 0 x (Int.le_refl _) h;exact⟨this.1,by simpa using this.2⟩
def strLen:Value->Nat
 | .string s=>s.size
 |_=>0
def aLc{b:Bool}(h:LS W w lb ps b)(hs:(ps.headD (tx [])).size <=1048576):LM W 106 #[lp lb] lb w (.string (tx (V6 (ps.headD (tx [])).data.toList))) ps.tail ((b|| !(decide (0<(ps.headD (tx [])).size)&&decide ((ps.headD (tx [])).size %2=0)))|| !Iz (ps.headD (tx [])).data.toList):=by
 have HL:Hid (LM W 167 #[lp lb] lb w (.string (ps.headD (tx []))) ps.tail b):=OA h;have fJ:=h.lt;clear h;generalize ps.headD (tx [])=s at*
 generalize ps.tail=ps' at*
 obtain⟨ok,Cb⟩:=dP (decide (0<s.size)&&decide (s.size%2=0));rw[Cb];have hq:0<s.size->((s.size:Int)%2==0)=ok:=λh=>by
  rw[<-Cb,h_ h,Bool.true_and];by_cases e:s.size%2=0
  .rw[h_ e];exact beq_iff_eq.2 om
  .rw[gV e];exact Am om
 have hw:(s.size:Int)=0/\ok=false\/(0:Int)<(s.size:Int)/\((s.size:Int)%2==0)=ok:=by
  by_cases e:s.size=0
  .exact .inl ⟨om,by rw[<-Cb,gV om,Bool.false_and]⟩
  .exact .inr ⟨om,hq om⟩
 obtain⟨bF,hbF⟩:=dP (b|| !ok|| !Iz s.data.toList);rw[hbF];have HF:Hid _:=hbF;clear hq Cb hbF;rcases hw with⟨hp,rfl⟩|⟨hp,Rk⟩
 all_goals
  go_enter func106,ntmps106;go_upto_region 3 with(first|(go_at_call 167;refine HL.out.mono ?_;rintro e w1 ⟨rfl,qZ,kF⟩)|(go_at_call 104;refine(pI qZ _).mono ?_;rintro e w2 ⟨rfl,Az,m_⟩))
  have HK2:Hid (Lk lb w w2):=kF.trans m_;have Dk:w.heap.size<=w2.heap.size:=HK2.out.size;clear kF m_ qZ hp HL;go_wp2;go_loopw [3] (λd wr=>∃(D acc:List UInt8) (b':Bool),d=.string (tx D)/\wU w2.heap.size w2.heap.size (Lib.byteCells acc) wr/\LS W wr lb ps' b'/\Lk lb w wr/\w2.heap.size<=wr.heap.size/\Hid (acc++V6 D=V6 s.data.toList)/\Hid ((b'|| !Iz D)=bF)/\acc.length+D.length<=s.size) (λd _=>strLen d)
  case atStart=>
   refine⟨s.data.toList,[],_,?_,Lib.fresh_isBuilder _ _ w2,Az.more (Gb.alloc (Gb.refl _) _),HK2.out.trans (Lk.of (Gb.alloc (Gb.refl _) _)),by rw[dV];omega,rfl,by first|exact HF.out|simpa using HF.out,?_⟩
   .rw[T_]
   .rw[dN];simp
  case round=>
   obtain⟨D,acc,b',rfl,hbd,hls,hlk,uz,HA,HB,o_⟩:=hrel;have hl9:=hls.lt;have HBd:Hid (wU w2.heap.size w2.heap.size (Lib.byteCells acc) wr):=hbd;have hlB:lb<w2.heap.size:=om;clear hbd
   match D,HA,HB,o_ with
   |a::c::D',HA,HB,o_=>
    obtain⟨t,ht⟩:=dP (tx (a::c::D'));have hx:t.extract 0 2=tx [a,c]:=by rw[<-ht,Rw];simp
    have hz:t.size=D'.length+2:=by rw[<-ht,dZ];rfl
    have hy:t.extract 2 (D'.length+2)=tx D':=by rw[<-ht,Rw];simp
    have mG:(2:Int)<=(t.size:Int):=om;obtain⟨x,r,h1,h2,HN⟩:=aCB 16 de de (tx [a,c]);have hx2:=aNL a c;unfold oJ at hx2;rw[h1]at hx2;have hu:IntKind.u8.wrap x=x:=by rw[IntKind.wrap_u8];omega
    have hA:=HA.out;have hB:=HB.out;rw[V6,oJ,h1]at hA;rw[Iz,h2]at hB;have HA2:Hid ((acc++[UInt8.ofNat x.toNat])++V6 D'=V6 s.data.toList):=by show _=_;rw[<-hA];simp
    have HB2:Hid (((b'|| !r)|| !Iz D')=bF):=by show _=_;rw[<-hB];cases b'<;>cases r<;>simp
    have hs2:=o_;simp only[List.length_cons]at hs2;rw[ht];have HC:Hid (∀w',Below w2.heap.size w' w'->wU w2.heap.size w2.heap.size (Lib.byteCells acc) w'->w2.heap.size<=w'.heap.size->CT 205 #[.pointer (some ⟨w2.heap.size,0,none⟩),Y .u8 x] w' λe bf=>e=O .nilIface /\aJn w2.heap.size w2.heap.size (Lib.byteCells (acc++[UInt8.ofNat x.toNat])) bf/\Below w2.heap.size w' bf):=λw' _ hb qY=>by
     rw[<-aBO acc x.toNat om,(om:((x.toNat:Nat):Int)=x)];exact aJu x hb (by rw[Lib.byteCells_length];omega) qY
    clear hA hB HA HB h1 h2 hx2 o_;go_wp2_with (first|(go_at_call 166;refine ku (HN _) λw3 aO=>?_;have vk:=hls.more aO)|(go_at_call 104;refine(pI vk _).mono ?_;rintro e w4 ⟨rfl,GU,wL⟩;have hs4:=wL.size;have hs3:=aO.size)|(go_at_call 205;refine(HC _ (Below.refl _ _) ((HBd.out.gb aO).lk wL hlB) om).mono ?_;rintro e w5 ⟨rfl,hb5,hB5⟩))
    go_roundw
    case rel=>
     have hs5:=hB5.size;exact⟨D',acc++[UInt8.ofNat x.toNat],b'|| !r,by first|rfl|exact lu _ hy,.inr hb5,GU.below hB5 hlB,((hlk.trans (Lk.of aO)).trans wL).below hB5 Dk,om,HA2.out,HB2.out,jA⟩
    case measure=>simp[strLen,dZ,hz]
   |[],HA,HB,o_=>
    obtain⟨t,ht⟩:=dP (tx []);exact aL1
   |[a],HA,HB,o_=>
    obtain⟨t,ht⟩:=dP (tx [a]);exact aL1
def Pw(w:ak):Prop:=Lib.TabIs prog w "internal/strconv.uint64pow10" .u64 Lib.pow10Tab
def aQX:∃g,prog.globalNamed "internal/strconv.uint64pow10" =some g:=⟨6,by kernel_rfl⟩
def Pw.gb(h:Pw w)(hg:Gb w w'):Pw w':=by
 unfold Pw Lib.TabIs World.var? at h⊢
 obtain⟨g,e⟩:=aQX;rw[e,Option.bind_some]at h⊢
 have fJ:g<w.heap.size:=by
  rcases uq g w.heap.size with c|c
  .exact c
  .rw[Array.getElem?_eq_none c]at h;cases h
 rw[Below.block hg g fJ];exact h
def aKY(w:ak)(k:Nat)(os:Array Obj):Gb w (Go.Sort.grow (w.drewN k) os):=⟨rfl,rfl,rfl,by simp[Go.Sort.grow,World.drewN],λp hp=>by
 show(w.heap++os)[p]?=_;rw[Array.getElem?_append_left hp]⟩
def aHU(n:Int)(h0:-9223372036854775808<=n)(h1:n<=9223372036854775807)(hp:Pw w):QB 165 #[J n] w (.string (tx (Lib.itoa n))):=(strconv_Itoa n h0 h1 w hp).mono λe w' ⟨e1,k,os,e2⟩=>⟨e1,by rw[e2];exact aKY w k os⟩
def aG5(z:Nat)(fl:Int)(hz:aI z)(h0:-9223372036854775808<=fl)(h1:fl<=9223372036854775807)(hd:Db w)(hp:Pw w):QB 79 #[aU (z:Int) fl] w (.string (xP z fl)):=by
 have H1:Hid (∀w',Gb w w'->QB 164 #[Y .u64 (z:Int),J 16] w' (.string (pV z))):=λw' hg=>aRF z hz (hd.gb hg);have H2:Hid (∀w',Gb w w'->QB 165 #[J fl] w' (.string (tx (Lib.itoa fl)))):=λw' hg=>aHU fl h0 h1 (hp.gb hg);have z1:=yV 15 z om;have z2:=iU fl h0 h1;rw[<-dZ]at z2;obtain⟨Z,hZ⟩:=dP (z:Int);rw[hZ]at H1⊢
 unfold xP;generalize pV z=t at*
 generalize tx (Lib.itoa fl)=t2 at*
 have c1:zK (t.size+1):=om;have c3:zK (t.size+1+t2.size):=om;clear hZ hz h0 h1 hd hp;go_enter func79,ntmps79;go_wp2;go_region_held3 (λw'=>lW w' w.heap.size 0 1 (Y .u64 Z) (J fl))(exact qX)(first|(go_at_call 164;refine ku (H1 _ kg) λw1 au=>?_;have:=au.CX w)|(go_at_call 165;refine ku (H2 _ kg) λw2 aC=>?_;have:=aC.CX w))
 all_goals go_wp2<;>go_returns
 all_goals exact⟨rfl,kg⟩
def nH(n:Nat)(g:Nat->Int):aJ:=tx (Lib.join ((List.range n).map λj=>Lib.itoa (g j)) [32])
def OZ(k:Nat):∀(xs:List (List UInt8)),(∀x,x ∈ xs->x.length<=k)->(Lib.join xs [32]).length <=xs.length*(k+1)
 |[],_=>by simp[Lib.join_nil]
 |[x],h=>by rw[Lib.join_one];have:=h x (by simp);simp;omega
 |x::y::l,h=>by
  have ih:=OZ k (y::l) λz hz=>h z (List.mem_cons_of_mem _ hz);have hx:=h x (by simp);have e:Lib.join (x::y::l) [32]=x++([32]++Lib.join (y::l) [32]):=by simp[Lib.join,List.intercalate]
  rw[e];simp only[List.length_append,List.length_cons,List.length_nil]at ih⊢
  rw[Nat.succ_mul];omega
def Sc(w:ak)(b n i:Nat)(g:Nat->aJ):Prop:=(∀j,j<n->∃u,aB w b j u/\dL w b j)/\∀j,j<i->aB w b j (.string (g j))
def Sc.gb{g:Nat->aJ}(h:Sc w b n i g)(hg:Gb w w'):Sc w' b n i g:=⟨λj hj=>by
 obtain⟨u,c,z⟩:=h.1 j hj;exact⟨u,hg.old c,(World.frozen?_of_block (a:=⟨b,j,none⟩) (Below.block hg b (aA c))).trans z⟩,λj hj=>hg.old (h.2 j hj)⟩
def Sc.put{g:Nat->aJ}(h:Sc w b n i g)(hi:i<n):Sc (w.setCell ⟨b,i,none⟩ (.string (g i))) b n (i+1) g:=by
 obtain⟨u,c,z⟩:=h.1 i hi;refine⟨λj hj=>?_,λj hj=>?_⟩
 .obtain⟨u',c',z'⟩:=h.1 j hj;by_cases e:i=j
  .subst e;exact⟨.string (g i),by simp[go_sem,c],by simp[go_sem,z]⟩
  .exact⟨u',by simp[go_sem,c',e],by simp[go_sem,z']⟩
 .by_cases e:i=j
  .subst e;simp[go_sem,c]
  .have q:=h.2 j (by omega);simp[go_sem,q,e]
def aHt(hp:Pw w)(hr:jd w v n g)(hn:n<=1000)(hg:∀j,j<n->-9223372036854775808<=g j/\g j<=9223372036854775807):QB 100 #[v] w (.string (nH n g)):=by
 have HI:Hid (∀j,j<n->∀w',Gb w w'->QB 165 #[J (g j)] w' (.string (tx (Lib.itoa (g j))))):=λj hj w' dY=>aHU (g j) (hg j hj).1 (hg j hj).2 (hp.gb dY);have HJ:Hid (∀w',Sc w' w.heap.size n n (λj=>tx (Lib.itoa (g j)))->w.heap.size<w'.heap.size->QB 191 #[aF w.heap.size n n,.string (tx [32])] w' (.string (nH n g))):=λw' hs fJ=>by
  have hl:((List.range n).map λj=>tx (Lib.itoa (g j))).length =n:=by simp
  have hd:((List.range n).map λj=>tx (Lib.itoa (g j))).map (·.data.toList)=(List.range n).map λj=>Lib.itoa (g j):=by simp
  have hx:(Lib.join ((List.range n).map λj=>Lib.itoa (g j)) [32]).length <=n*21:=by
   have:=OZ 20 ((List.range n).map λj=>Lib.itoa (g j)) (λx hx=>by
    obtain⟨j,hj,rfl⟩:=List.mem_map.1 hx;have hj:=List.mem_range.1 hj;exact iU (g j) (hg j hj).1 (hg j hj).2)
   rwa [List.length_map,List.length_range]at this
  have:=strings_Join w.heap.size 0 n ((List.range n).map λj=>tx (Lib.itoa (g j))) (tx [32]) w' (λj x hj=>by
   rw[List.getElem?_map,Option.map_eq_some_iff]at hj;obtain⟨k,hk,rfl⟩:=hj;obtain⟨hj,rfl⟩:=List.getElem?_eq_some_iff.1 hk;rw[List.length_range]at hj;rw[List.getElem_range,Nat.zero_add];exact hs.2 j hj) fJ (by rw[hl];omega) (by rw[hl];omega) (by rw[hd];exact yI hx om)
  rw[hl,hd]at this;exact this
 have hmk:∀w,(Instr.makeSlice 26 (J (n:Int)) (J (n:Int))).run prog w=.ok (aF w.heap.size n n) (w.alloc (.cells (madeCells #[.string ByteArray.empty] (n*1)) 9)):=λw=>tX 26 9 (.string ByteArray.empty) 1 16 underlying26 infoSt de n om w;have Io:∃a cap,v=.slice a n cap:=by obtain⟨a,cap,e,_⟩:=hr;exact⟨a,cap,e⟩
 obtain⟨a,cap,rfl⟩:=Io;have HR:Hid (∀j,j<n->∃b o,a=some ⟨b,o,none⟩/\aB w b (o+j) (J (g j))):=λj hj=>by
  obtain⟨b,o,cap',e,_,_,hc⟩:=hr.at om;simp only[Value.slice.injEq,true_and]at e;exact⟨b,o,e.1,hc j hj⟩
 generalize nH n g=T at*
 clear hr hg hp;go_enter func100,ntmps100;go_wp2;go_loopw [11] (λi wr=>∃k:Nat,k<=n/\i=J (k:Int)/\Sc wr w.heap.size n k (λj=>tx (Lib.itoa (g j)))/\Gb w wr/\w.heap.size<wr.heap.size) (λi _=>n-(intOf i).toNat)
 case atStart=>
  refine⟨0,fV _,rfl,⟨λj hj=>?_,λj hj=>bG hj om⟩,kg,by simp⟩;have hz:(madeCells #[Value.string ByteArray.empty] (n*1)).size =n:=by rw[size_madeCells,kW]
  first|exact⟨(madeCells #[Value.string ByteArray.empty] (n*1))[j]'(by rw[hz];exact hj),by simp[go_sem,hz,hj],by simp[go_sem]⟩|(rw[kW]at hz;exact⟨(madeCells #[Value.string ByteArray.empty] n)[j]'(by rw[hz];exact hj),by simp[go_sem,hz,hj],by simp[go_sem]⟩)
 case round=>
  obtain⟨k,hk,rfl,hs,dQ,fJ⟩:=hrel;have HS:Hid (Sc wr w.heap.size n k (λj=>tx (Lib.itoa (g j)))):=hs;by_cases h0:(k:Int)<(n:Int)
  .obtain⟨b,o,rfl,hc⟩:=HR k om;have c0:=dQ.old hc;obtain⟨u,c1,z1⟩:=hs.1 k om;have HIk:Hid _:=HI k om;obtain⟨x,hx⟩:=dP (g k);rw[hx]at HIk c0;have HX:Hid (g k=x):=hx;clear hs hc hx;go_wp2_with (go_at_call 165;refine ku (HIk _ dQ) λw1 au=>?_;have c2:=au.old c1;have z2:=(World.frozen?_of_block (a:=⟨w.heap.size,k,none⟩) (Below.block au w.heap.size (aA c1))).trans z1);go_roundw
   case rel=>
    have hq:=(HS.out.gb au).put (om:k<n);simp only[HX.out]at hq;have hz:=au.size;exact⟨k+1,om,jS,hq,kg,jA⟩
   case measure=>exact qL
  .obtain rfl:k=n:=om;clear hs;go_wp2_with (go_at_call 191;refine ku (HJ _ HS.out fJ) λw1 au=>?_);go_returns;exact⟨rfl,dQ.trans au⟩
structure Tb (w:ak):Prop where
 fm:Fm w
 db:Db w
 pw:Pw w
abbrev OpI(W:ak)(F:Nat)(args:Array Value)(z fl:Int):Prop:=Hid (∀w',Gb W w'->Calls prog F args w' λe bf=>e=O (aU z fl)/\Gr w' bf)
def VU(z fl:Int):Prop:=0<=z/\aI z/\-9223372036854775808<=fl/\fl<=9223372036854775807
def NQ(hW:Tb W)(h:VU z fl):Hid (∀w',Gb W w'->QB 79 #[aU z fl] w' (.string (xP z.toNat fl))):=λw' hg=>by
 have:=aG5 z.toNat fl (by have:=h.2.1;have:=h.1;omega) h.2.2.1 h.2.2.2 (hW.db.gb hg) (hW.pw.gb hg)
 rwa [show((z.toNat:Nat):Int)=z by have:=h.1;omega]at this
def Lk.c(h:Lk lb w w'){p:Nat}(hn:p≠lb)(hu:aB w p 0 u):aB w' p 0 u:=h.old hu hn
def Vq(hf:ig dK (ps.headD (tx []))=f):Hid (∀w' b,LS W w' lb ps b->LM W 77 #[lp lb] lb w' (J f) ps.tail (b|| !decide (0<=f))):=λw' b h=>by have:=aIw h;rwa [hf]at this
def aEZ(hm:ig gB (ps.headD (tx []))=m):Hid (∀w' b,LS W w' lb ps b->LM W 78 #[lp lb] lb w' (J m) ps.tail (b|| !decide (0<=m))):=λw' b h=>by have:=aOy h;rwa [hm]at this
def aRm(hk:ig jh (ps.headD (tx []))=k):Hid (∀w' b,LS W w' lb ps b->LM W 91 #[lp lb] lb w' (J k) ps.tail (b|| !decide (0<=k))):=λw' b h=>by have:=aOG h;rwa [hk]at this
def Es(hW:Tb W)(f:Int)(ha:oJ (ps.headD (tx []))=a):Hid (∀w' b,LS W w' lb ps b->LM W 80 #[lp lb,J f] lb w' (Y .u64 a) ps.tail (b|| !okW f (ps.headD (tx [])))):=λw' b h=>by have:=aNJ hW.fm h f;rwa [ha]at this
def aP4(hW:Tb W)(hF:F=26\/F=27\/F=28\/F=30){b:Bool}(h:LS W w lb ps b)(hc:aB w cb 0 (.func (.func F) #[] #[]))(hn:cb≠lb){c:Int}(hf:ig dK (ps.headD (tx []))=f)(hm:ig gB (ps.tail.headD (tx []))=m)(ha:oJ (ps.tail.tail.headD (tx []))=a)(EK:oJ (ps.tail.tail.tail.headD (tx []))=c)(HA:OpI W F #[J f,J m,Y .u64 a,Y .u64 c] z fl)(hs:VU z fl):
  LM W 76 #[lp lb,.pointer (some ⟨cb,0,none⟩)] lb w (.string (xP z.toNat fl)) ps.tail.tail.tail.tail ((((b|| !decide (0<=f))|| !decide (0<=m))|| !okW f (ps.tail.tail.headD (tx [])))|| !okW f (ps.tail.tail.tail.headD (tx []))):=by
 have HF:Hid _:=Vq (W:=W) (lb:=lb) hf;have HM:Hid _:=aEZ (W:=W) (lb:=lb) hm;have H1:Hid _:=Es hW (lb:=lb) f ha;have H2:Hid _:=Es hW (lb:=lb) f EK;have HS:Hid _:=NQ hW hs;generalize okW f (ps.tail.tail.headD (tx []))=k1 at*
 generalize okW f (ps.tail.tail.tail.headD (tx []))=k2 at*
 generalize ps.tail.tail.tail.tail=p4 at*
 generalize ps.tail.tail.tail=p3 at*
 generalize ps.tail.tail=p2 at*
 generalize ps.tail=p1 at*
 have HL:Hid (LS W w lb ps b):=h;clear hf hm ha EK hs hW h;rcases hF with rfl|rfl|rfl|rfl
 all_goals
  go_enter func76,ntmps76;go_upto_region 2 with(first|(go_at_call 77;refine(HF _ _ HL.out).mono ?_;rintro e w1 ⟨rfl,qZ,kF⟩;have q1:=kF.c hn hc)|(go_at_call 78;refine(HM _ _ qZ).mono ?_;rintro e w2 ⟨rfl,Az,m_⟩;have q2:=m_.c hn q1))
  go_region_held3 (λw'=>w'.cell? ⟨cb,0,none⟩=w.cell? ⟨cb,0,none⟩)((rw[hc];first|(with_reducible assumption)|exact kb))(first
    |(go_at_call 80;first|(refine(H2 _ _ (vk.more kg)).mono ?_;rintro e w4 ⟨rfl,GU,wL⟩;have q4:=wL.c hn (Eq.trans (by assumption) hc))|(refine(H1 _ _ (Az.more kg)).mono ?_;rintro e w3 ⟨rfl,vk,zu⟩;have q3:=zu.c hn (Eq.trans (by assumption) hc)))
    |(go_at_call 26;refine ku (HA _ (GU.gb.trans kg)) λw5 bT=>?_)
    |(go_at_call 27;refine ku (HA _ (GU.gb.trans kg)) λw5 bT=>?_)
    |(go_at_call 28;refine ku (HA _ (GU.gb.trans kg)) λw5 bT=>?_)
    |(go_at_call 30;refine ku (HA _ (GU.gb.trans kg)) λw5 bT=>?_)
    |(go_at_call 79;refine ku (HS _ (GU.gb.trans kg)) λw6 gG=>?_))
  go_wp2;go_returns;exact⟨rfl,GU.more kg,(kF.trans m_).trans ((Lk.of kg).trans (zu.trans (wL.trans (Lk.of kg))))⟩
def aB4{P:Prop}(h:P:=by
 go_returns;exact⟨rfl,GU.more kg,(((kF.trans m_).trans zu).trans wL).trans (Lk.of kg)⟩):P:=h
def aTN(k:Int)(ha:oJ (ps.headD (tx []))=a){q:Int->Bool}(hq:FwI a q):Hid (∀w' b,LS W w' lb ps b->LM W 93 #[lp lb,J k] lb w' (Y .u64 a) ps.tail ((b|| !(aV 16 (ps.headD (tx []))).isSome)|| !okI k q)):=λw' b h=>by have:=aEU h k (q:=q) (by rw[ha];exact hq);rwa [ha]at this
def aQ0(hW:Tb W)(hF:F=32\/F=38){b:Bool}(h:LS W w lb ps b)(hc:aB w cb 0 (.func (.func F) #[] #[]))(hn:cb≠lb)(h0:ig dK (ps.headD (tx []))=f)(h1:ig gB (ps.tail.headD (tx []))=m)(h2:oJ (ps.tail.tail.headD (tx []))=a)(HA:OpI W F #[J f,J m,Y .u64 a] z fl)(hs:VU z fl):
  LM W 87 #[lp lb,.pointer (some ⟨cb,0,none⟩)] lb w (.string (xP z.toNat fl)) ps.tail.tail.tail (((b|| !decide (0<=f))|| !decide (0<=m))|| !okW f (ps.tail.tail.headD (tx []))):=by
 have H0:Hid _:=Vq (W:=W) (lb:=lb) h0;have H1:Hid _:=aEZ (W:=W) (lb:=lb) h1;have H2:Hid _:=Es hW (lb:=lb) f h2;have HS:Hid _:=NQ hW hs;generalize okW f (ps.tail.tail.headD (tx []))=k2 at*
 generalize ps.tail.tail.tail=p3 at*
 generalize ps.tail.tail=p2 at*
 generalize ps.tail=p1 at*
 have HL:Hid (LS W w lb ps b):=h;clear h0 h1 h2 hs hW h;rcases hF with rfl|rfl
 all_goals
  go_enter func87,ntmps87;go_upto_region 2 with(first|(go_at_call 77;refine(H0 _ _ HL.out).mono ?_;rintro e w1 ⟨rfl,qZ,kF⟩;have q1:=kF.c hn hc)|(go_at_call 78;refine(H1 _ _ qZ).mono ?_;rintro e w2 ⟨rfl,Az,m_⟩;have q2:=m_.c hn q1))
  go_region_held3 (λw'=>w'.cell? ⟨cb,0,none⟩=w.cell? ⟨cb,0,none⟩)((rw[hc];first|(with_reducible assumption)|exact kb))(first|(go_at_call 80;refine(H2 _ _ (Az.more kg)).mono ?_;rintro e w3 ⟨rfl,vk,zu⟩;have q3:=zu.c hn (Eq.trans (by assumption) hc))|(go_at_call 32;refine ku (HA _ (vk.gb.trans kg)) λwa wC=>?_)|(go_at_call 38;refine ku (HA _ (vk.gb.trans kg)) λwa wC=>?_)|(go_at_call 79;refine ku (HS _ (vk.gb.trans kg)) λwb rC=>?_))
  go_wp2;go_returns;exact⟨rfl,vk.more kg,((((kF.trans m_)).trans (Lk.of kg)).trans zu).trans (Lk.of kg)⟩
def aSB(hW:Tb W)(hF:F=34\/F=39\/F=40){b:Bool}(h:LS W w lb ps b)(hc:aB w cb 0 (.func (.func F) #[] #[]))(hn:cb≠lb){c:Int}(h0:ig dK (ps.headD (tx []))=f)(h1:oJ (ps.tail.headD (tx []))=a)(h2:oJ (ps.tail.tail.headD (tx []))=c)(HA:OpI W F #[J f,Y .u64 a,Y .u64 c] z fl)(hs:VU z fl):
  LM W 89 #[lp lb,.pointer (some ⟨cb,0,none⟩)] lb w (.string (xP z.toNat fl)) ps.tail.tail.tail (((b|| !decide (0<=f))|| !okW f (ps.tail.headD (tx [])))|| !okW f (ps.tail.tail.headD (tx []))):=by
 have H0:Hid _:=Vq (W:=W) (lb:=lb) h0;have H1:Hid _:=Es hW (lb:=lb) f h1;have H2:Hid _:=Es hW (lb:=lb) f h2;have HS:Hid _:=NQ hW hs;generalize okW f (ps.tail.headD (tx []))=k1 at*
 generalize okW f (ps.tail.tail.headD (tx []))=k2 at*
 generalize ps.tail.tail.tail=p3 at*
 generalize ps.tail.tail=p2 at*
 generalize ps.tail=p1 at*
 have HL:Hid (LS W w lb ps b):=h;clear h0 h1 h2 hs hW h;rcases hF with rfl|rfl|rfl
 all_goals
  go_enter func89,ntmps89;go_upto_region 2 with(first|(go_at_call 77;refine(H0 _ _ HL.out).mono ?_;rintro e w1 ⟨rfl,qZ,kF⟩;have q1:=kF.c hn hc))
  go_region_held3 (λw'=>w'.cell? ⟨cb,0,none⟩=w.cell? ⟨cb,0,none⟩)((rw[hc];first|(with_reducible assumption)|exact kb))(first|(go_at_call 80;first|(refine(H2 _ _ (Az.more kg)).mono ?_;rintro e w3 ⟨rfl,vk,zu⟩;have q3:=zu.c hn (Eq.trans (by assumption) hc))|(refine(H1 _ _ (qZ.more kg)).mono ?_;rintro e w2 ⟨rfl,Az,m_⟩;have q2:=m_.c hn (Eq.trans (by assumption) hc)))|(go_at_call 34;refine ku (HA _ (vk.gb.trans kg)) λwa wC=>?_)|(go_at_call 39;refine ku (HA _ (vk.gb.trans kg)) λwa wC=>?_)|(go_at_call 40;refine ku (HA _ (vk.gb.trans kg)) λwa wC=>?_)|(go_at_call 79;refine ku (HS _ (vk.gb.trans kg)) λwb rC=>?_))
  go_wp2;go_returns;exact⟨rfl,vk.more kg,((((kF).trans (Lk.of kg)).trans m_).trans zu).trans (Lk.of kg)⟩
def aRV(hW:Tb W){b:Bool}(h:LS W w lb ps b){c:Int}(h0:ig dK (ps.headD (tx []))=f)(h1:ig gB (ps.tail.headD (tx []))=m)(h2:oJ (ps.tail.tail.headD (tx []))=a)(h3:oJ (ps.tail.tail.tail.headD (tx []))=c)(h4:oJ (ps.tail.tail.tail.tail.headD (tx []))=d)(HA:OpI W 85 #[J f,J m,Y .u64 a,Y .u64 c,Y .u64 d] z fl)(hs:VU z fl):
  LM W 29 #[lp lb] lb w (.string (xP z.toNat fl)) ps.tail.tail.tail.tail.tail (((((b|| !decide (0<=f))|| !decide (0<=m))|| !okW f (ps.tail.tail.headD (tx [])))|| !okW f (ps.tail.tail.tail.headD (tx [])))|| !okW f (ps.tail.tail.tail.tail.headD (tx []))):=by
 have H0:Hid _:=Vq (W:=W) (lb:=lb) h0;have H1:Hid _:=aEZ (W:=W) (lb:=lb) h1;have H2:Hid _:=Es hW (lb:=lb) f h2;have H3:Hid _:=Es hW (lb:=lb) f h3;have H4:Hid _:=Es hW (lb:=lb) f h4;have HS:Hid _:=NQ hW hs;generalize okW f (ps.tail.tail.headD (tx []))=k2 at*
 generalize okW f (ps.tail.tail.tail.headD (tx []))=k3 at*
 generalize okW f (ps.tail.tail.tail.tail.headD (tx []))=k4 at*
 generalize ps.tail.tail.tail.tail.tail=p5 at*
 generalize ps.tail.tail.tail.tail=p4 at*
 generalize ps.tail.tail.tail=p3 at*
 generalize ps.tail.tail=p2 at*
 generalize ps.tail=p1 at*
 have HL:Hid (LS W w lb ps b):=h;clear h0 h1 h2 h3 h4 hs hW h;go_enter func29,ntmps29;go_wp2_with (first|(go_at_call 77;refine(H0 _ _ HL.out).mono ?_;rintro e w1 ⟨rfl,qZ,kF⟩)|(go_at_call 78;refine(H1 _ _ qZ).mono ?_;rintro e w2 ⟨rfl,Az,m_⟩)|(go_at_call 80;first|(refine(H4 _ _ GU).mono ?_;rintro e w5 ⟨rfl,KE,hk5⟩)|(refine(H3 _ _ vk).mono ?_;rintro e w4 ⟨rfl,GU,wL⟩)|(refine(H2 _ _ Az).mono ?_;rintro e w3 ⟨rfl,vk,zu⟩))|(go_at_call 85;refine ku (HA _ (KE.gb.trans kg)) λwa wC=>?_)|(go_at_call 79;refine ku (HS _ (KE.gb.trans kg)) λwb rC=>?_))
 go_returns;exact⟨rfl,KE.more kg,((((kF.trans m_).trans zu).trans wL).trans hk5).trans (Lk.of kg)⟩
def aPb(hW:Tb W){b:Bool}(h:LS W w lb ps b)(h0:ig dK (ps.headD (tx []))=f)(h1:ig gB (ps.tail.headD (tx []))=m)(h2:ig jh (ps.tail.tail.headD (tx []))=k)(h3:oJ (ps.tail.tail.tail.headD (tx []))=a){q:Int->Bool}(hq:FwI a q)(HA:OpI W 92 #[J f,J m,J k,Y .u64 a] z fl)(hs:VU z fl):
  LM W 35 #[lp lb] lb w (.string (xP z.toNat fl)) ps.tail.tail.tail.tail (((((b|| !decide (0<=f))|| !decide (0<=m))|| !decide (0<=k))|| !(aV 16 (ps.tail.tail.tail.headD (tx []))).isSome)|| !okI k q):=by
 have H0:Hid _:=Vq (W:=W) (lb:=lb) h0;have H1:Hid _:=aEZ (W:=W) (lb:=lb) h1;have H2:Hid _:=aRm (W:=W) (lb:=lb) h2;have H3:Hid _:=aTN (W:=W) (lb:=lb) k h3 hq;have HS:Hid _:=NQ hW hs;generalize(aV 16 (ps.tail.tail.tail.headD (tx []))).isSome =k3 at*
 generalize okI k q=j3 at*
 generalize ps.tail.tail.tail.tail=p4 at*
 generalize ps.tail.tail.tail=p3 at*
 generalize ps.tail.tail=p2 at*
 generalize ps.tail=p1 at*
 have HL:Hid (LS W w lb ps b):=h;clear h0 h1 h2 h3 hs hW h hq;go_enter func35,ntmps35;go_wp2_with (first|(go_at_call 77;refine(H0 _ _ HL.out).mono ?_;rintro e w1 ⟨rfl,qZ,kF⟩)|(go_at_call 78;refine(H1 _ _ qZ).mono ?_;rintro e w2 ⟨rfl,Az,m_⟩)|(go_at_call 91;refine(H2 _ _ Az).mono ?_;rintro e w3 ⟨rfl,vk,zu⟩)|(go_at_call 93;refine(H3 _ _ vk).mono ?_;rintro e w4 ⟨rfl,GU,wL⟩)|(go_at_call 92;refine ku (HA _ (GU.gb.trans kg)) λwa wC=>?_)|(go_at_call 79;refine ku (HS _ (GU.gb.trans kg)) λwb rC=>?_))
 exact aB4
def aSC(hW:Tb W){b:Bool}(h:LS W w lb ps b)(h0:ig dK (ps.headD (tx []))=f)(h1:ig gB (ps.tail.headD (tx []))=m)(h2:ig jh (ps.tail.tail.headD (tx []))=k)(h3:oJ (ps.tail.tail.tail.headD (tx []))=a)(HA:OpI W 94 #[J f,J m,J k,Y .u64 a] z fl)(hs:VU z fl):
  LM W 36 #[lp lb] lb w (.string (xP z.toNat fl)) ps.tail.tail.tail.tail ((((b|| !decide (0<=f))|| !decide (0<=m))|| !decide (0<=k))|| !okW f (ps.tail.tail.tail.headD (tx []))):=by
 have H0:Hid _:=Vq (W:=W) (lb:=lb) h0;have H1:Hid _:=aEZ (W:=W) (lb:=lb) h1;have H2:Hid _:=aRm (W:=W) (lb:=lb) h2;have H3:Hid _:=Es hW (lb:=lb) f h3;have HS:Hid _:=NQ hW hs;generalize okW f (ps.tail.tail.tail.headD (tx []))=k3 at*
 generalize ps.tail.tail.tail.tail=p4 at*
 generalize ps.tail.tail.tail=p3 at*
 generalize ps.tail.tail=p2 at*
 generalize ps.tail=p1 at*
 have HL:Hid (LS W w lb ps b):=h;clear h0 h1 h2 h3 hs hW h;go_enter func36,ntmps36;go_wp2_with (first|(go_at_call 77;refine(H0 _ _ HL.out).mono ?_;rintro e w1 ⟨rfl,qZ,kF⟩)|(go_at_call 78;refine(H1 _ _ qZ).mono ?_;rintro e w2 ⟨rfl,Az,m_⟩)|(go_at_call 91;refine(H2 _ _ Az).mono ?_;rintro e w3 ⟨rfl,vk,zu⟩)|(go_at_call 80;refine(H3 _ _ vk).mono ?_;rintro e w4 ⟨rfl,GU,wL⟩)|(go_at_call 94;refine ku (HA _ (GU.gb.trans kg)) λwa wC=>?_)|(go_at_call 79;refine ku (HS _ (GU.gb.trans kg)) λwb rC=>?_))
 exact aB4
def aPq(hW:Tb W){b:Bool}(h:LS W w lb ps b)(h0:ig dK (ps.headD (tx []))=f)(h1:ig dK (ps.tail.headD (tx []))=t)(h2:ig gB (ps.tail.tail.headD (tx []))=m)(h3:oJ (ps.tail.tail.tail.headD (tx []))=a)(HA:OpI W 95 #[J f,J t,J m,Y .u64 a] z fl)(hs:VU z fl):
  LM W 37 #[lp lb] lb w (.string (xP z.toNat fl)) ps.tail.tail.tail.tail ((((b|| !decide (0<=f))|| !decide (0<=t))|| !decide (0<=m))|| !okW f (ps.tail.tail.tail.headD (tx []))):=by
 have H0:Hid _:=Vq (W:=W) (lb:=lb) h0;have H1:Hid _:=Vq (W:=W) (lb:=lb) h1;have H2:Hid _:=aEZ (W:=W) (lb:=lb) h2;have H3:Hid _:=Es hW (lb:=lb) f h3;have HS:Hid _:=NQ hW hs;generalize okW f (ps.tail.tail.tail.headD (tx []))=k3 at*
 generalize ps.tail.tail.tail.tail=p4 at*
 generalize ps.tail.tail.tail=p3 at*
 generalize ps.tail.tail=p2 at*
 generalize ps.tail=p1 at*
 have HL:Hid (LS W w lb ps b):=h;clear h0 h1 h2 h3 hs hW h;go_enter func37,ntmps37;go_wp2_with (first|(go_at_call 77;first|(refine(H1 _ _ qZ).mono ?_;rintro e w2 ⟨rfl,Az,m_⟩)|(refine(H0 _ _ HL.out).mono ?_;rintro e w1 ⟨rfl,qZ,kF⟩))|(go_at_call 78;refine(H2 _ _ Az).mono ?_;rintro e w3 ⟨rfl,vk,zu⟩)|(go_at_call 80;refine(H3 _ _ vk).mono ?_;rintro e w4 ⟨rfl,GU,wL⟩)|(go_at_call 95;refine ku (HA _ (GU.gb.trans kg)) λwa wC=>?_)|(go_at_call 79;refine ku (HS _ (GU.gb.trans kg)) λwb rC=>?_))
 exact aB4
def jd.lit(w:ak)(l:List Int)(hl:l.length<=100):jd (w.alloc (.cells (l.map (Value.int .i64)).toArray 3)) (aF w.heap.size l.length l.length) l.length (λj=>l.getD j 0):=by
 refine⟨_,_,rfl,dJ _,by unfold maxLen;omega,λ_=>⟨_,_,rfl,λj hj=>?_⟩⟩;have e:(l.map (Value.int .i64)).toArray[0+j]?=some (J (l.getD j 0)):=by simp[qF,hj]
 simpa[go_sem]using e
def numsL(l:List Int):aJ:=nH l.length (λj=>l.getD j 0)
def Ins(l:List Int):Prop:=∀x,x ∈ l->-9223372036854775808<=x/\x<=9223372036854775807
def aCA(hW:Tb W){l:List Int}(hl:l.length<=100)(hi:Ins l)(hg:Gb W w')(dY:Gb (w'.alloc (.cells (l.map (Value.int .i64)).toArray 3)) bf):CT 100 #[aF w'.heap.size l.length l.length] bf λe w3=>e=O (.string (numsL l))/\Gb bf w3:=by
 refine aHt (hW.pw.gb (hg.trans ((Gb.alloc (Gb.refl _) _).trans dY))) ((jd.lit w' l hl).gb dY) om (λj hj=>hi _ ?_);rw[qF,Dj hj];exact List.getElem_mem hj
def aKl(hW:Tb W){b:Bool}(h:LS W w lb ps b)(hc:aB w cb 0 (.bool sg))(hn:cb≠lb){c:Int}(h0:ig dK (ps.headD (tx []))=f)(h1:oJ (ps.tail.headD (tx []))=a)(h2:oJ (ps.tail.tail.headD (tx []))=c)(HA:Hid (∀w',Gb W w'->QR 101 #[J f,Y .u64 a,Y .u64 c,.bool sg] w' (.tuple #[J r,J fl])))(hs:Ins [r,fl]):
  LM W 99 #[lp lb,.pointer (some ⟨cb,0,none⟩)] lb w (.string (numsL [r,fl])) ps.tail.tail.tail (((b|| !decide (0<=f))|| !okW f (ps.tail.headD (tx [])))|| !okW f (ps.tail.tail.headD (tx []))):=by
 have H0:Hid _:=Vq (W:=W) (lb:=lb) h0;have H1:Hid _:=Es hW (lb:=lb) f h1;have H2:Hid _:=Es hW (lb:=lb) f h2;have HS:Hid (∀w' bf,Gb W w'->Gb (w'.alloc (.cells #[J r,J fl] 3)) bf->CT 100 #[aF w'.heap.size 2 2] bf λe w3=>e=O (.string (numsL [r,fl]))/\Gb bf w3):=λw' bf hg dY=>aCA hW (by simp) hs hg dY;generalize okW f (ps.tail.headD (tx []))=k1 at*
 generalize okW f (ps.tail.tail.headD (tx []))=k2 at*
 generalize numsL [r,fl]=T at*
 generalize ps.tail.tail.tail=p3 at*
 generalize ps.tail.tail=p2 at*
 generalize ps.tail=p1 at*
 have HL:Hid (LS W w lb ps b):=h;clear h0 h1 h2 hs hW h;go_enter func99,ntmps99;go_upto_region 2 with(go_at_call 77;refine(H0 _ _ HL.out).mono ?_;rintro e w1 ⟨rfl,qZ,kF⟩;have q1:=kF.c hn hc);go_region_held3 (λw'=>w'.cell? ⟨cb,0,none⟩=w.cell? ⟨cb,0,none⟩)((rw[hc];first|(with_reducible assumption)|exact kb))(first
   |(go_at_call 80;first|(refine(H2 _ _ (Az.more kg)).mono ?_;rintro e w3 ⟨rfl,vk,zu⟩;have q3:=zu.c hn (Eq.trans (by assumption) hc))|(refine(H1 _ _ (qZ.more kg)).mono ?_;rintro e w2 ⟨rfl,Az,m_⟩;have q2:=m_.c hn (Eq.trans (by assumption) hc)))
   |(go_at_call 101;refine ku (HA _ (vk.gb.trans kg)) λwa wC=>?_)
   |(go_at_call 100;refine ku (HS _ _ (vk.gb.trans kg) (Gb.refl _)) λwb rC=>?_))
 go_wp2;go_returns;exact⟨rfl,vk.more kg,((kF.trans (Lk.of kg)).trans (m_.trans zu)).trans (Lk.of kg)⟩
def okD(s:aJ):Bool:=(decide (0<s.size)&&decide (s.size%2=0))&&Iz s.data.toList
def aPB(b x y z:Bool):((b|| !(x&&y))|| !z)=(b|| !((x&&y)&&z)):=by cases b<;>cases x<;>cases y<;>cases z<;>rfl
def aGD(hW:Tb W){b:Bool}(h:LS W w lb ps b)(h0:oJ (ps.headD (tx []))=mu)(h1:oJ (ps.tail.headD (tx []))=inv)(h2:oJ (ps.tail.tail.headD (tx []))=sc)(hz:(ps.tail.tail.tail.headD (tx [])).size <=1048576)(HA:Hid (∀w',Gb W w'->QB 105 #[Y .u64 mu,Y .u64 inv,Y .u64 sc,.string (tx (V6 (ps.tail.tail.tail.headD (tx [])).data.toList))] w' (.agg #[J s0,J s1,J s2,J s3])))(hs:Ins [s0,s1,s2,s3]):
  LM W 43 #[lp lb] lb w (.string (numsL [s0,s1,s2,s3])) ps.tail.tail.tail.tail ((((b|| !okW 1 (ps.headD (tx [])))|| !okW 1 (ps.tail.headD (tx [])))|| !okW 1 (ps.tail.tail.headD (tx [])))|| !okD (ps.tail.tail.tail.headD (tx []))):=by
 have H0:Hid _:=Es hW (lb:=lb) 1 h0;have H1:Hid _:=Es hW (lb:=lb) 1 h1;have H2:Hid _:=Es hW (lb:=lb) 1 h2;have H3:Hid (∀w' b,LS W w' lb ps.tail.tail.tail b->LM W 106 #[lp lb] lb w' (.string (tx (V6 (ps.tail.tail.tail.headD (tx [])).data.toList))) ps.tail.tail.tail.tail (b|| !okD (ps.tail.tail.tail.headD (tx [])))):=λw' b h=>by
  have:=aLc h hz;rw[aPB]at this;exact this
 have HS:Hid (∀w' bf B,B=w'.heap.size->Gb W w'->Gb (w'.alloc (.cells #[J s0,J s1,J s2,J s3] 3)) bf->CT 100 #[aF B 4 4] bf λe w3=>e=O (.string (numsL [s0,s1,s2,s3]))/\Gb bf w3):=λw' bf B hB hg dY=>by rw[hB];exact aCA hW (by simp) hs hg dY
 generalize okW 1 (ps.headD (tx []))=k0 at*
 generalize okW 1 (ps.tail.headD (tx []))=k1 at*
 generalize okW 1 (ps.tail.tail.headD (tx []))=k2 at*
 generalize okD (ps.tail.tail.tail.headD (tx []))=k3 at*
 generalize tx (V6 (ps.tail.tail.tail.headD (tx [])).data.toList)=D at*
 generalize numsL [s0,s1,s2,s3]=T at*
 generalize ps.tail.tail.tail.tail=p4 at*
 generalize ps.tail.tail.tail=p3 at*
 generalize ps.tail.tail=p2 at*
 generalize ps.tail=p1 at*
 have HL:Hid (LS W w lb ps b):=h;clear h0 h1 h2 hz hs hW h;go_enter func43,ntmps43;go_upto_region 2 with(first
  |(go_at_call 80;first|(refine(H2 _ _ Az).mono ?_;rintro e w3 ⟨rfl,vk,zu⟩)|(refine(H1 _ _ qZ).mono ?_;rintro e w2 ⟨rfl,Az,m_⟩)|(refine(H0 _ _ HL.out).mono ?_;rintro e w1 ⟨rfl,qZ,kF⟩)))
 clear H0 H1 H2;go_upto_region 3 with(first|(go_at_call 106;refine(H3 _ _ vk).mono ?_;rintro e w4 ⟨rfl,GU,wL⟩)|(go_at_call 105;refine ku (HA _ GU.gb) λwa wC=>?_))
 go_wp2_with (first|(go_at_call 100;refine ku (HS (wa.alloc (.cells #[J s0,J s1,J s2,J s3] 90)) _ _ (by simp) (GU.gb.trans kg) (Gb.refl _)) λwb rC=>?_))
 exact aB4
def aK8(HA:OpI W 96 #[J f,J m,Y .u64 a,.bool true] z fl):OpI W 38 #[J f,J m,Y .u64 a] z fl:=λw hg=>by
 show Calls _ _ _ _ _;go_enter func38,ntmps38;go_wp2_with (go_at_call 96;refine ku (HA _ (hg.trans kg)) λw1 au=>?_;have lJ:=au.bK w);exact cO (by simp[results,results38,go_sem,lJ])
