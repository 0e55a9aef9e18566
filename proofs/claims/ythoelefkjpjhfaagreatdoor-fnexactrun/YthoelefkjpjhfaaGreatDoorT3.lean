import Derived.Laws.RangeAny
import Derived.Test.YthoelefkjpjhfaaGreatDoorT2
set_option linter.all false
set_option maxRecDepth 1000000
set_option maxHeartbeats 40000000
open Bool renaming false → G
open Go.Proofs.YthoelefkjpjhfaaGreatDoor renaming vU → Y
open Go.Value renaming int → Z, slice → X, bool → V, tuple → Q
open Go.IntKind renaming i64 → O
open Go.Proofs.Tryz
namespace Go.Proofs.YthoelefkjpjhfaaGreatDoor
open Go.RowKit
variable{w W w' a c:World}{lb n cap b1 o k p off B i:Nat}{b:Bool}{ps:List ByteArray}{v u:Value}{base r x:Int}{s t:ByteArray}{e:Ending}{acc:List UInt8}
def aEg{P:Prop}(h:P:=by
 go_wp2_with (go_at_call 235;refine kw (HD _) ?_);go_returns;exact⟨.no HNo.out rfl,by unfold World.iter;exact kg⟩):P:=h
def UD{P:Prop}(h:P:=by
 go_enter func235,ntmps235;go_wp2;go_returns;exact⟨bU E.out,rfl⟩):P:=h
attribute [local go_sem] aA dB
def dgv(r:Int):Int:=if nG r<0 then 0 else nG r
def dgk(r:Int):Bool:=decide (0<=nG r)
def aBu(r:Int)(w:World):QW 235 #[Z .i32 r] w (Q #[Y (dgv r),V (dgk r)]):=by
 by_cases c1:48<=r/\r<=57
 .have e:nG r=r-48:=by unfold nG;rw[if_pos c1]
  obtain⟨d,hd⟩:=dK (r-48);have E:Hid (Value.tuple #[Y d,V true]=Q #[Y (dgv r),V (dgk r)]):=by
   show _=_;unfold dgv dgk;rw[e,hd,if_neg om,decide_eq_true (by omega)]
  have a1:48<=r:=c1.1;have a2:r<=57:=c1.2;have u1:IntKind.i32.wrap (r-48)=d:=by rw[IntKind.wrap_i32];omega
  have u2:IntKind.u64.wrap d=d:=wu;clear e hd c1;exact UD
 by_cases c2:97<=r/\r<=102
 .have e:nG r=r-87:=by unfold nG;rw[if_neg c1,if_pos c2]
  obtain⟨d,hd⟩:=dK (r-97);have E:Hid (Value.tuple #[Y (d+10),V true]=Q #[Y (dgv r),V (dgk r)]):=by
   show _=_;unfold dgv dgk;rw[e,if_neg om,decide_eq_true om,(om:d+10=r-87)]
  have a0:48<=r:=om;have a00:¬r<=57:=om;have a1:97<=r:=c2.1;have a2:r<=102:=c2.2;have u1:IntKind.i32.wrap (r-97)=d:=by rw[IntKind.wrap_i32];omega
  have u2:IntKind.u64.wrap d=d:=wu;have u3:IntKind.u64.wrap (d+10)=d+10:=wu;clear e hd c1 c2;exact UD
 .have e:nG r=-1:=by unfold nG;rw[if_neg c1,if_neg c2]
  have E:Hid (Value.tuple #[Y 0,V G]=Q #[Y (dgv r),V (dgk r)]):=by
   show _=_;unfold dgv dgk;rw[e,if_pos de,decide_eq_false (by decide)]
  clear e;by_cases a1:48<=r
  .have a2:¬r<=57:=om;by_cases b1:97<=r
   .have b2:¬r<=102:=om;clear c1 c2;exact UD
   .clear c1 c2;exact UD
  .have b1:¬97<=r:=om;clear c1 c2;exact UD
def aAx(base:Int)(t:ByteArray)(e:Ending):Prop:=e=.returned (Q #[Y ((aQ base t).getD 0),V (aQ base t).isSome])
def aAx.no(h:aQ base t=none)(he:e=.returned (Q #[Y 0,V G])):aAx base t e:=by unfold aAx;rw[h];exact he
def aAx.yes(h:aQ base t=some x)(he:e=.returned (Q #[Y x,V true])):aAx base t e:=by unfold aAx;rw[h];exact he
def aIU(b0:2<=base)(b1:base<=16)(hk:k<=16):base^k<=18446744073709551616:=by
 obtain⟨b,rfl⟩:=Int.eq_ofNat_of_zero_le (om:0<=base);have h:=Nat.pow_le_pow_left (om:b<=16) k;have e:((b^k:Nat):Int)=(b:Int)^k:=Int.natCast_pow _ _;have e2:((16^k:Nat):Int)=(16:Int)^k:=Int.natCast_pow _ _;have:=VJ hk;rw[<-e];rw[<-e2]at this;omega
def aCW(base:Int)(b0:2<=base)(b1:base<=16)(t:ByteArray)(w:World):CT 166 #[Y base,.string t] w λe w'=>aAx base t e/\Gb w w':=by
 by_cases oG:t.size<1\/16<t.size
 .have zT:Hid (aQ base t=none):=by show _=_;unfold aQ;rw[if_pos oG]
  by_cases c:(t.size:Int)<1
  .go_enter func166,ntmps166;go_wp2;go_returns;exact⟨.no zT.out rfl,kg⟩
  .have c1:(16:Int)<(t.size:Int):=om;go_enter func166,ntmps166;go_wp2;go_returns;exact⟨.no zT.out rfl,kg⟩
 have l0:¬((t.size:Int)<1):=om;have l1:¬((16:Int)<(t.size:Int)):=om;have HV:Hid (aQ base t=kH base 0 t.data.toList):=by show _=_;unfold aQ;rw[if_neg oG]
 have aUz:t.size<=16:=om;go_enter func166,ntmps166;go_wp2;go_loopw [6] (λa wr=>∃(pos:Nat) (A:Int),pos<=t.size/\a=Y A/\wr=w.iter t pos/\0<=A/\Hid (A<base^pos)/\Hid (aQ base t=kH base A (t.data.toList.drop pos))) (λ_ wr=>t.size+1-wr.iterPos w.heap.size)
 case atStart=>exact⟨0,0,Nat.zero_le _,rfl,rfl,Int.le_refl _,show(0:Int)<base^0 by rw[Int.pow_zero];decide,HV.out⟩
 case round=>
  obtain⟨pos,A,jm,rfl,rfl,A0,HA1,HN⟩:=hrel;by_cases fF:pos<t.size
  .have Py:pos<t.data.toList.length:=by rw[dJ];exact fF
   have hN:=HN.out;rw[J3 Py]at hN;by_cases hasc:(t[pos]'fF).toNat <128
   .have hnx:=λty=>run_next_ascii (P:=Tryz.prog) w t pos ty fF hasc;have e8:(t.data.toList[pos]).toNat =(t[pos]'fF).toNat :=rfl;rw[e8]at hN;obtain⟨x,hx⟩:=dK ((t[pos]'fF).toNat);rw[hx]at hN;simp only[hx]at hnx;have HD:Hid _:=aBu (x:Int);have d15:=FV (x:Int);have hv:dgv (x:Int)=if nG (x:Int)<0 then 0 else nG (x:Int):=rfl
    have hk:dgk (x:Int)=decide (0<=nG (x:Int)):=rfl;obtain⟨D,hD⟩:=dK (dgv (x:Int));obtain⟨K,hK⟩:=dK (dgk (x:Int));rw[hD,hK]at HD;rw[hD]at hv;rw[hK]at hk;generalize nG (x:Int)=d at*
    clear hD hK hx e8 Py hasc;by_cases c0:d<0
    .rw[if_pos (.inl c0)]at hN;rw[decide_eq_false (by omega)]at hk;subst hk;have HNo:Hid _:=hN;clear hN hv HN HA1;exact aEg
    .rw[decide_eq_true (by omega)]at hk;rw[if_neg c0]at hv;subst hk;subst hv;by_cases c1:base<=D
     .rw[if_pos (.inr c1)]at hN;have HNo:Hid _:=hN;clear hN HN HA1;exact aEg
     .rw[if_neg (by omega)]at hN;have hp:=DI (D:=[]) b0 A0 HA1.out (om:0<=D) om;have Px:=aIU b0 b1 (om:pos+1<=16);have hp3:=hp.2;have hp4:A*base+D<18446744073709551616:=om;have hm0:=Int.mul_nonneg A0 (om:0<=base);have hp0:=hp.1;obtain⟨M,hM⟩:=dK (A*base);rw[hM]at hp0 hp3 hp4 hm0 hN;have u1:IntKind.u64.wrap (A*base)=M:=by rw[IntKind.wrap_u64,hM];omega
      have u3:IntKind.u64.wrap (M+D)=M+D:=wu;have PK:Hid _:=hN;have HP:Hid _:=hp3;clear hN HN HA1 hp Px hp3 hM;go_wp2_with (go_at_call 235;refine kw (HD _) ?_);go_roundw
      case rel=>exact⟨pos+1,_,om,rfl,rfl,hp0,HP.out,PK.out⟩
      case measure=>simp<;>omega
   .have hnx:=λty=>run_next_any (P:=Tryz.prog) w t pos ty fF;have hh:=(decode_high t pos fF om).1;have e8:(t.data.toList[pos]).toNat =(t[pos]'fF).toNat :=rfl;rw[e8]at hN;have zT:∀y:Nat,128<=y->nG (y:Int)=-1:=λy hy=>by unfold nG;rw[if_neg om,if_neg (by omega)]
    rw[if_pos (.inl (by rw[zT _ (by omega)];decide))]at hN;have HNo:Hid _:=hN;generalize(Utf8.decode t pos).1 =r at*
    generalize(Utf8.decode t pos).2 =st at*
    have HD:Hid _:=aBu (r:Int);have hk:dgk (r:Int)=G:=by unfold dgk;rw[zT r hh];rfl
    rw[hk]at HD;generalize dgv (r:Int)=D at*
    clear hN HN HA1 e8 Py hasc zT hk hh;exact aEg
  .obtain rfl:pos=t.size:=om;have hnx:=λty=>run_next_end (P:=Tryz.prog) w t t.size ty om;have hN:=HN.out;rw[<-dJ,DJ]at hN;have aTc:Hid _:=hN;clear hN HN HA1;go_wp2;go_returns;exact⟨.yes aTc.out rfl,by unfold World.iter;exact kg⟩
structure Lk (lb:Nat) (w w':World):Prop where
 os:w'.os=w.os
 tape:w'.tape=w.tape
 output:w'.output=w.output
 size:w.heap.size<=w'.heap.size
 block:∀p,p<w.heap.size->p≠lb->w'.heap[p]?=w.heap[p]?
def Lk.refl(lb:Nat)(w:World):Lk lb w w:=⟨rfl,rfl,rfl,Nat.le_refl _,λ_ _ _=>rfl⟩
def Lk.trans{b:World}(h:Lk lb a b)(k:Lk lb b c):Lk lb a c:=
 ⟨k.os.trans h.os,k.tape.trans h.tape,k.output.trans h.output,Nat.le_trans h.size k.size,λp hp hn=>(k.block p (Nat.lt_of_lt_of_le hp h.size) hn).trans (h.block p hp hn)⟩
def Lk.of(h:Gb w w'):Lk lb w w':=⟨h.os,h.tape,h.output,h.size,λp hp _=>Below.block h p hp⟩
def Lk.gb(h:Lk lb w w')(hg:Gb W w)(hl:W.heap.size<=lb):Gb W w':=
 ⟨h.os.trans hg.os,h.tape.trans hg.tape,h.output.trans hg.output,Nat.le_trans hg.size h.size,λp hp=>(h.block p (Nat.lt_of_lt_of_le hp hg.size) om).trans (Below.block hg p hp)⟩
def Lk.set(w:World)(i:Nat)(u:Value):Lk lb w (w.setCell ⟨lb,i,none⟩ u):=⟨rfl,rfl,rfl,Nat.le_of_eq (World.size_setCell ..).symm,λp hp hn=>Below.heap_setCell _ _ _ _ (λe=>hn e)⟩
def Lk.old(h:Lk lb w w')(hu:aA w p off u)(hn:p≠lb):aA w' p off u:=(World.cell?_of_block (w:=w) (a:=⟨p,off,none⟩) (h.block p (au hu) hn)).trans hu
def Ln(w:World)(lb:Nat)(v:Value)(b:Bool):Prop:=jC w lb 0 1 v (V b)
def oQ.lk{g:Nat->ByteArray}(h:oQ w v n g)(hk:Lk lb w w')(hn:∀b o n' c,v=X (some ⟨b,o,none⟩) n' c->b≠lb):oQ w' v n g:=by
 obtain⟨a,cap,h1,h2,h3,h4⟩:=h;refine⟨a,cap,h1,h2,h3,λhp=>?_⟩;obtain⟨b,o,rfl,hc⟩:=h4 hp;exact⟨b,o,rfl,λj hj=>hk.old (hc j hj) (hn _ _ _ _ h1)⟩
def aCR(h:Ln w lb v b)(ok:Bool):CT 104 #[.pointer (some ⟨lb,0,none⟩),V ok] w λe w'=>e=.returned (Q #[])/\w'=w.setCell ⟨lb,1,none⟩ (V (b|| !ok)):=by
 obtain⟨c0,z0,c1,z1⟩:=h;cases b<;>cases ok;all_goals
  go_enter func104,ntmps104;go_wp2;go_returns;exact⟨rfl,rfl⟩
def aCY{a:Option Addr}(h:Ln w lb (X a 0 cap) b):CT 167 #[.pointer (some ⟨lb,0,none⟩)] w λe w'=>e=.returned (.string (tx []))/\w'=w:=by
 obtain⟨c0,z0,c1,z1⟩:=h;go_enter func167,ntmps167;go_wp2;go_returns;exact⟨rfl,rfl⟩
def oQ.aQf{g:Nat->ByteArray}(h:oQ w (X (some ⟨b1,o,none⟩) (n+1) cap) (n+1) g):∃a1 c1,(∀w',(Instr.slice 26 (X (some ⟨b1,o,none⟩) (n+1) cap) (some (Z O 1)) none none).run Tryz.prog w'=.ok (X a1 n c1) w')/\oQ w (X a1 n c1) n (λj=>g (1+j))/\∃o',a1=some ⟨b1,o',none⟩:=by
 obtain⟨v1,h1,h2⟩:=h.cut 1 om;have hr:=h1 w;have z:=Tryz.sizeOf9;obtain⟨a,cap',e,rG,Bd,_⟩:=h;simp only[Value.slice.injEq]at e;obtain⟨rfl,_,rfl⟩:=e;rw[run_slice_l (P:=Tryz.prog) w 26 _ (n+1) cap (by rw[Jd];exact Tryz.underlying26) O ((1:Nat):Int) om (by omega)]at hr;simp[sliced,Jd,z]at hr;subst hr;refine⟨_,_,h1,h2,?_⟩;split
 .exact⟨_,rfl⟩
 .exact⟨o+1,by simp[Addr.add]⟩
def aCX{g:Nat->ByteArray}(h:Ln w lb (X (some ⟨b1,o,none⟩) (n+1) cap) b)(hr:oQ w (X (some ⟨b1,o,none⟩) (n+1) cap) (n+1) g):CT 167 #[.pointer (some ⟨lb,0,none⟩)] w λe w'=>∃o' cap',e=.returned (.string (g 0))/\w'=w.setCell ⟨lb,0,none⟩ (X (some ⟨b1,o',none⟩) n cap')/\oQ w (X (some ⟨b1,o',none⟩) n cap') n (λj=>g (1+j)):=by
 obtain⟨a1,c1,JH,tK,o',rfl⟩:=hr.aQf;have HR1:Hid _:=tK;obtain⟨a,cap',e,h1,h2,aW⟩:=hr;obtain⟨b2,o2,e2,hc⟩:=aW om;simp only[Value.slice.injEq]at e;obtain⟨rfl,_,rfl⟩:=e;simp only[Option.some.injEq,Addr.mk.injEq,and_true]at e2;obtain⟨rfl,rfl⟩:=e2;have q:aA w b1 o (.string (g 0)):=hc 0 om;have i0:(0:Int)<((n+1:Nat):Int):=om;have i1:(((n+1:Nat):Int)==0)=G:=beq_false_of_ne om;obtain⟨k0,z0,k1,z1⟩:=h;clear aW hc h1 h2 tK;go_enter func167,ntmps167;go_wp2;go_returns;exact⟨rfl,o',_,rfl,HR1.out⟩
def aEh{P:Prop}(h:P:=by
 go_wp2_with (go_at_call 163;refine(H _ (Gb.refl _)).mono ?_;rintro e w1 ⟨rfl,o9,jB⟩);go_returns;exact⟨rfl,o9,jB⟩):P:=h
def Nb(lb:Nat)(v:Value):Prop:=∀b o n c,v=X (some ⟨b,o,none⟩) n c->b≠lb
def Nl(lb:Nat)(v:Value):Prop:=∀b o n c,v=X (some ⟨b,o,none⟩) n c->b<lb
def Nl.nb(h:Nl lb v):Nb lb v:=λb o n c e=>Nat.ne_of_lt (h b o n c e)
structure LS (W w:World) (lb:Nat) (ps:List ByteArray) (b:Bool):Prop where
 gb:Gb W w
 le:W.heap.size<=lb
 ln:∃v,Ln w lb v b/\oQ w v ps.length (λj=>ps.getD j default)/\Nl lb v
abbrev LM(W:World)(F:Nat)(args:Array Value)(lb:Nat)(w:World)(v:Value)(ps:List ByteArray)(b:Bool):Prop:=Calls Tryz.prog F args w λe w'=>e=.returned v/\LS W w' lb ps b/\Lk lb w w'
abbrev lp(lb:Nat):Value:=.pointer (some ⟨lb,0,none⟩)
def LS.lt(h:LS W w lb ps b):lb<w.heap.size:=by
 obtain⟨v,h,_⟩:=h.ln;exact au h.1
def LS.more(h:LS W w lb ps b)(hg:Gb w w'):LS W w' lb ps b:=by
 obtain⟨v,h1,h2,h3⟩:=h.ln;exact⟨h.gb.trans hg,h.le,v,hg.y2 _ _ _ _ _ h1,h2.gb hg,h3⟩
def LS.below(h:LS W w lb ps b)(hB:Below B w w')(hl:lb<B):LS W w' lb ps b:=by
 obtain⟨v,⟨c0,z0,c1,z1⟩,⟨a,cap,e,r1,r2,r3⟩,h3⟩:=h.ln;have aSw:=hB.block lb hl;have hc:∀p off u,p<=lb->aA w p off u->aA w' p off u:=λp off u hp hu=>(World.cell?_of_block (w:=w) (a:=⟨p,off,none⟩) (hB.block p om)).trans hu;have hz:∀off,w'.frozen? ⟨lb,off,none⟩=w.frozen? ⟨lb,off,none⟩:=λoff=>World.frozen?_of_block (a:=⟨lb,off,none⟩) aSw;have rG:=h.le;refine⟨⟨hB.os.trans h.gb.os,hB.tape.trans h.gb.tape,hB.output.trans h.gb.output,Nat.le_trans h.gb.size hB.size,λp hp=>(hB.block p om).trans (Below.block h.gb p hp)⟩,rG,v,⟨hc _ _ _ (Nat.le_refl _) c0,(hz 0).trans z0,hc _ _ _ (Nat.le_refl _) c1,(hz 1).trans z1⟩,⟨a,cap,e,r1,r2,λhn=>?_⟩,h3⟩;obtain⟨b',o,rfl,hr⟩:=r3 hn;exact⟨b',o,rfl,λj hj=>hc _ _ _ (Nat.le_of_lt (h3 _ _ _ _ e)) (hr j hj)⟩
def nK(h:LS W w lb ps b)(ok:Bool):LM W 104 #[lp lb,V ok] lb w (Q #[]) ps (b|| !ok):=by
 obtain⟨v,h1,h2,h3⟩:=h.ln;refine(aCR h1 ok).mono λe w' ⟨e1,e2⟩=>?_;subst e2;obtain⟨c0,z0,c1,z1⟩:=h1;have hk:=Lk.set (lb:=lb) w 1 (V (b|| !ok));exact⟨e1,⟨hk.gb h.gb h.le,h.le,v,⟨by simp[go_sem,c0],by simp[go_sem,z0],by simp[go_sem,c1],by simp[go_sem,z1]⟩,h2.lk hk h3.nb,h3⟩,hk⟩
def MF(h:LS W w lb ps b):LM W 167 #[lp lb] lb w (.string (ps.headD (tx []))) ps.tail b:=by
 obtain⟨v,h1,h2,h3⟩:=h.ln;cases ps with
 |nil=>
  obtain⟨a,cap,rfl,h4⟩:=id h2;exact(aCY h1).mono λe w' ⟨e1,e2⟩=>⟨e1,by subst e2;exact h,by subst e2;exact Lk.refl _ _⟩
 |cons p ps=>
  obtain⟨a,cap,rfl,_,_,h4⟩:=id h2;obtain⟨b1,o,rfl,_⟩:=h4 (Nat.succ_pos _);have hn:=h3 b1 o _ _ rfl;refine(aCX h1 h2).mono λe w' ⟨o',cap',e1,e2,e3⟩=>?_;subst e2;obtain⟨c0,z0,c1,z1⟩:=h1;have hk:=Lk.set (lb:=lb) w 0 (X (some ⟨b1,o',none⟩) ps.length cap');have hb:Nl lb (X (some ⟨b1,o',none⟩) ps.length cap'):=λb' o2 n c e=>by
   simp only[Value.slice.injEq,Option.some.injEq,Addr.mk.injEq,and_true]at e;rw[<-e.1.1];exact hn
  refine⟨e1,⟨hk.gb h.gb h.le,h.le,_,⟨by simp[go_sem,c0],by simp[go_sem,z0],by simp[go_sem,c1],by simp[go_sem,z1]⟩,?_,hb⟩,hk⟩;have e4:oQ w (X (some ⟨b1,o',none⟩) ps.length cap') ps.length (λj=>ps.getD j default):=by
   have:(λj=>(p::ps).getD (1+j) default)=λj=>ps.getD j default:=by
    funext j;rw[Nat.add_comm];simp
   rw[<-this];exact e3
  exact e4.lk hk hb.nb
def aJp{g:Nat->ByteArray}(hr:oQ w v n g)(hp:Oo g n s r):QW 232 #[v,.string s] w (Z O r):=by
 obtain⟨a,cap,rfl,h1,h2,aW⟩:=hr;have HC:Hid _:=aW;have HP:Hid (Oo g n s r):=hp;have hn9:n<=9223372036854775807:=by unfold maxLen at h2;omega
 clear aW hp h2 h1;go_enter func232,ntmps232;go_wp2;go_loop [8] (λi=>∃k:Nat,k<=n/\i=Z O k/\Hid (∀j,j<k->g j≠s)) (λi=>n-(intOf i).toNat)
 case atStart=>exact⟨0,om,rfl,λj hj=>absurd hj om⟩
 case round=>
  obtain⟨k,hk,rfl,HB⟩:=hrel;by_cases h0:(k:Int)<(n:Int)
  .obtain⟨b,o,rfl,hc⟩:=HC om;have q:=hc k om;clear hc;by_cases e:g k=s
   .have H2:Hid (r=k):=by
     rcases HP.out with⟨_,h⟩|⟨k',h1,h2,h3,h4⟩
     .exact absurd e (h k om)
     .show r=k;have:k'=k:=by
       rcases Nat.lt_trichotomy k k' with c|c|c
       .exact absurd e (h4 k c)
       .exact c.symm
       .exact absurd h3 (HB k' c)
      omega
    have c:=str_eq e.symm;clear e;go_wp2;go_returns;exact⟨bU (congrArg _ H2.out.symm),rfl⟩
   .have H2:Hid (∀j,j<k+1->g j≠s):=λj hj=>by
     rcases Nat.lt_succ_iff_lt_or_eq.1 hj with h|rfl
     .exact HB j h
     .exact e
    have c:=xE (Ne.symm e);clear e;go_wp2;go_round
    case rel=>exact⟨k+1,om,by go_num,H2.out⟩
    case measure=>first|(simp[intOf];done)|(simp[intOf];omega)
  .obtain rfl:k=n:=om;have H2:Hid (r=-1):=by
    rcases HP.out with⟨h,_⟩|⟨k',h1,h2,h3,h4⟩
    .exact h
    .exact absurd h3 (HB k' h1)
   go_wp2;go_returns;exact⟨bU (congrArg _ H2.out.symm),rfl⟩
def aI1(h:LS W w lb ps b){g:Nat->ByteArray}(hr:oQ w v n g)(hv:Nb lb v)(hp:Oo g n (ps.headD (tx [])) r):LM W 163 #[lp lb,v] lb w (Z O r) ps.tail (b|| !decide (0<=r)):=by
 have HL:Hid (LM W 167 #[lp lb] lb w (.string (ps.headD (tx []))) ps.tail b):=MF h;have HI:Hid (∀w1,Lk lb w w1->QW 232 #[v,.string (ps.headD (tx []))] w1 (Z O r)):=λw1 hk=>aJp (hr.lk hk hv) hp;clear h hr hv hp;generalize ps.headD (tx [])=s at*
 go_enter func163,ntmps163;go_wp2_with (first|(go_at_call 167;refine HL.out.mono ?_;rintro e w1 ⟨rfl,o9,jB⟩)|(go_at_call 232;refine kw (HI _ jB) ?_)|(go_at_call 104;refine(nK o9 _).mono ?_;rintro e w2 ⟨rfl,yH,lX⟩))
 go_returns;exact⟨rfl,yH,jB.trans lX⟩
def aMR(h:LS W w lb ps b)(l:List ByteArray)(hl:l.length<=100)(hg:Gb (w.alloc (.cells (l.map Value.string).toArray 9)) w'):CT 163 #[lp lb,aC w.heap.size l.length l.length] w' λe aT=>e=.returned (Z O (gI l (ps.headD (tx []))))/\LS W aT lb ps.tail (b|| !decide (0<=gI l (ps.headD (tx []))))/\Lk lb w aT:=by
 have hg0:Gb w w':=(Gb.alloc (Gb.refl _) _).trans hg;refine(aI1 (h.more hg0) ((oQ.lit w l hl).gb hg) (λb' o n c e=>?_) (BN l _)).mono λe w' ⟨e1,e2,e3⟩=>⟨e1,e2,(Lk.of hg0).trans e3⟩;simp only[Value.slice.injEq,Option.some.injEq,Addr.mk.injEq,and_true]at e;have:=h.lt;omega
def aG7(h:LS W w lb ps b):LM W 77 #[lp lb] lb w (Z O (gI dA (ps.headD (tx [])))) ps.tail (b|| !decide (0<=gI dA (ps.headD (tx [])))):=by
 have H:Hid _:=λw' hg=>aMR h dA de (w':=w') hg;generalize gI dA (ps.headD (tx []))=r at*
 clear h;go_enter func77,ntmps77;exact aEh
def aMY(h:LS W w lb ps b):LM W 78 #[lp lb] lb w (Z O (gI fJ (ps.headD (tx [])))) ps.tail (b|| !decide (0<=gI fJ (ps.headD (tx [])))):=by
 have H:Hid _:=λw' hg=>aMR h fJ de (w':=w') hg;generalize gI fJ (ps.headD (tx []))=r at*
 clear h;go_enter func78,ntmps78;exact aEh
def aM4(h:LS W w lb ps b):LM W 91 #[lp lb] lb w (Z O (gI iG (ps.headD (tx [])))) ps.tail (b|| !decide (0<=gI iG (ps.headD (tx [])))):=by
 have H:Hid _:=λw' hg=>aMR h iG de (w':=w') hg;generalize gI iG (ps.headD (tx []))=r at*
 clear h;go_enter func91,ntmps91;exact aEh
def TM(l:List UInt8):(tx l).data.toList =l:=by simp
def Q7(s:ByteArray):tx s.data.toList=s:=by cases s;simp
def NM(f x:Int):Bool:=decide (f=0/\x<4294967296\/f=1)
def okW(f:Int)(s:ByteArray):Bool:=(aQ 16 s).isSome &&NM f ((aQ 16 s).getD 0)
abbrev mQ(s:ByteArray):Int:=(aQ 16 s).getD 0
def aMa(s:ByteArray):0<=mQ s/\mQ s<18446744073709551616:=by
 unfold mQ;cases h:aQ 16 s with
 |none=>exact⟨de,de⟩
 |some x=>exact MC de de h
def aBd(base:Int)(b0:2<=base)(b1:base<=16)(s:ByteArray):∃x r,(aQ base s).getD 0=x/\(aQ base s).isSome =r/\KB 166 #[Y base,.string s] (Q #[Y x,V r]):=⟨_,_,rfl,rfl,λw=>aCW base b0 b1 s w⟩
def aSI(hW:Fm W)(f x:Int)(h0:0<=x)(h1:aG x):∃(p mn mx:Int) (kn q:Bool),Hid (∀w',Gb W w'->Ji f w' p mn mx kn)/\Hid (kn=true->F9 p mn mx x q)/\NM f x=(kn&&q):=by
 by_cases hf:f=0\/f=1
 .obtain⟨p,mx,one,aI,sg,nan,hF,hsg⟩:∃p mx one aI sg nan,bD f p mx one aI sg nan/\(f=0/\sg=2147483648\/f=1/\sg=9223372036854775808):=by
   rcases hf with rfl|rfl
   .exact⟨_,_,_,_,_,_,.inl ⟨rfl,rfl,rfl,rfl,rfl,rfl,rfl⟩,.inl ⟨rfl,rfl⟩⟩
   .exact⟨_,_,_,_,_,_,.inr ⟨rfl,rfl,rfl,rfl,rfl,rfl,rfl⟩,.inr ⟨rfl,rfl⟩⟩
  obtain⟨mn,fb,sp,hM,_⟩:=hF.m;refine⟨p,mn,mx,true,decide (x<2*sg),λw' hg=>mJ hF hM (hW.gb hg),λ_ w=>fits_any hM x h0 h1 w,?_⟩;unfold NM;rw[Bool.true_and];refine decide_eq_decide.2 ?_;omega
 .refine⟨0,0,0,G,G,λw' hg=>nO f hf w',λh=>absurd h de,?_⟩;unfold NM;exact decide_eq_false om
def aL9(hW:Fm W)(h:LS W w lb ps b)(f:Int):LM W 80 #[lp lb,Z O f] lb w (Y (mQ (ps.headD (tx [])))) ps.tail (b|| !okW f (ps.headD (tx []))):=by
 have HL:Hid (LM W 167 #[lp lb] lb w (.string (ps.headD (tx []))) ps.tail b):=MF h;clear h;generalize ps.headD (tx [])=s at*
 have J7:=aMa s;unfold okW;obtain⟨x,r,hx,hr,HN⟩:=aBd 16 de de s;unfold mQ at J7⊢
 rw[hx,hr];rw[hx]at J7;clear hx hr;obtain⟨p,mn,mx,kn,q,HF,HT,hq⟩:=aSI hW f x J7.1 J7.2;rw[hq];clear hq J7 hW;cases r<;>cases kn;all_goals
  go_enter func80,ntmps80;go_wp2_with (first|(go_at_call 167;refine HL.out.mono ?_;rintro e w1 ⟨rfl,o9,jB⟩)|(go_at_call 166;refine ku (HN _) λw2 aB=>?_;have yH:=o9.more aB)|(go_at_call 168;refine ku (HF _ yH.gb) λw3 aK=>?_)|(go_at_call 169;refine ku ((HT (by trivial)).out _) λw4 aV=>?_)|(go_at_call 104;refine(nK (yH.more kg) _).mono ?_;rintro e w5 ⟨rfl,Ja,hk5⟩))
  go_returns;exact⟨rfl,Ja,(jB.trans (Lk.of kg)).trans hk5⟩
def FwI(x:Int)(q:Int->Bool):Prop:=
 (∃s m,KR 353 #[.agg #[Z .i32 (-2147483648),Z .i32 2147483647],Y x] (Q #[Z O s,Y m,V (q 0)]))/\
 (∃s m,KR 356 #[jI (-9223372036854775808) 9223372036854775807,Y x] (Q #[Z O s,Y m,V (q 1)]))/\
 (∃s m,KR 358 #[.agg #[Z .u32 0,Z .u32 4294967295],Y x] (Q #[Z O s,Y m,V (q 2)]))/\
 ∃s m,KR 360 #[aN 0 18446744073709551615,Y x] (Q #[Z O s,Y m,V (q 3)])
def okI(k:Int)(q:Int->Bool):Bool:=decide (¬(0<=k/\k<=3))||q k
def aKe{P:Prop}(h:P:=by
 go_enter func93,ntmps93;go_wp2_with (first|(go_at_call 167;refine HL.out.mono ?_;rintro e w1 ⟨rfl,o9,jB⟩)|(go_at_call 166;refine ku (HN _) λw2 aB=>?_;have yH:=o9.more aB)|(go_at_call 186;refine ku (HK _) λw4 aV=>?_)|(go_at_call 353;refine ku (H0 _) λw5 bJ=>?_)|(go_at_call 356;refine ku (H1 _) λw5 bJ=>?_)|(go_at_call 358;refine ku (H2 _) λw5 bJ=>?_)|(go_at_call 360;refine ku (H3 _) λw5 bJ=>?_)|(go_at_call 104;first|(refine(nK (sG.more kg) _).mono ?_;rintro e w6 ⟨rfl,hl6,Z7⟩)|(refine(nK yH _).mono ?_;rintro e w3 ⟨rfl,sG,wU⟩)))
 first|(go_returns;exact⟨rfl,hl6,(((jB.trans (Lk.of aB)).trans wU).trans (Lk.of kg)).trans Z7⟩)|(go_returns;exact⟨rfl,sG.more aV.gb,((jB.trans (Lk.of aB)).trans wU).trans (Lk.of aV.gb)⟩)):P:=h
def aDu(h:LS W w lb ps b)(aF:Int){q:Int->Bool}(hq:FwI (mQ (ps.headD (tx []))) q):LM W 93 #[lp lb,Z O aF] lb w (Y (mQ (ps.headD (tx [])))) ps.tail ((b|| !(aQ 16 (ps.headD (tx []))).isSome)|| !okI aF q):=by
 have HL:Hid (LM W 167 #[lp lb] lb w (.string (ps.headD (tx []))) ps.tail b):=MF h;clear h;generalize ps.headD (tx [])=s at*
 obtain⟨x,r,hx,hr,HN⟩:=aBd 16 de de s;unfold mQ at hq⊢
 rw[hx]at hq⊢
 rw[hr];obtain⟨⟨s0,m0,H0⟩,⟨s1,m1,H1⟩,⟨s2,m2,H2⟩,s3,m3,H3⟩:=hq;clear hx hr;by_cases hk:0<=aF/\aF<=3
 .have e:okI aF q=q aF:=by unfold okI;rw[decide_eq_false (λh=>h hk),Bool.false_or]
  rw[e];clear e;rcases(om:aF=0\/aF=1\/aF=2\/aF=3)with rfl|rfl|rfl|rfl
  case' inl=>have HK:Hid _:=tH;generalize q 0=q0 at*
  case' inr.inl=>have HK:Hid _:=tu;generalize q 1=q0 at*
  case' inr.inr.inl=>have HK:Hid _:=tq;generalize q 2=q0 at*
  case' inr.inr.inr=>have HK:Hid _:=sZ;generalize q 3=q0 at*
  all_goals
   clear hk;exact aKe
 .have e:okI aF q=true:=by unfold okI;rw[decide_eq_true hk,Bool.true_or]
  rw[e];have HK:Hid _:=λw=>zS aF hk w;clear e hk;rw[show((b|| !r)|| !true)=(b|| !r) by simp];exact aKe
def aEf{P:Prop}(h:P:=by
 go_enter func192,ntmps192;go_wp2;go_returns;exact⟨rfl,rfl⟩):P:=h
def ngB(s:ByteArray):Bool:=decide (CQ s=1)
def ES(s:ByteArray):ByteArray:=tx (s.data.toList.drop (CQ s))
def nmX(s:ByteArray):Int:=(aQ 10 (ES s)).getD 0
def nV(s:ByteArray):Int:=if ngB s then-nmX s else nmX s
def rX(s:ByteArray):Bool:=(aQ 10 (ES s)).isSome &&(s.toList==[48]||g_ (ES s) 0 != 48)
def aNI(s:ByteArray)(hs:s.size<=1048576)(w:World):QW 192 #[.string s,.string (tx [45])] w (Q #[.string (ES s),V (ngB s)]):=by
 obtain⟨⟨l⟩⟩:=s;cases l with
 |nil=>
  exact aEf
 |cons a l=>
  have hx:(⟨⟨a::l⟩⟩:ByteArray).extract 0 1=tx [a]:=by rw[aDI];simp
  have hy:(⟨⟨a::l⟩⟩:ByteArray).extract 1 (l.length+1)=tx l:=by rw[aDI];simp
  have hl:(1:Int)<=(l.length:Int)+1:=om;by_cases h:a=45
  .subst h;have e1:ES ⟨⟨45::l⟩⟩=tx l:=rfl;have e2:ngB ⟨⟨45::l⟩⟩=true:=rfl;rw[e1,e2];clear e1 e2;exact aEf
  .have f:CQ ⟨⟨a::l⟩⟩=0:=by unfold CQ;rw[if_neg];simpa using h
   have e1:ES ⟨⟨a::l⟩⟩=⟨⟨a::l⟩⟩:=by unfold ES;rw[f];rfl
   have e2:ngB ⟨⟨a::l⟩⟩=G:=by unfold ngB;rw[f];rfl
   rw[e1,e2];have hn:([a]==[45])=G:=by simpa using h
   clear e1 e2 f h;exact aEf
def aMU(s:ByteArray):0<=nmX s/\nmX s<10000000000000000:=by
 unfold nmX;cases h:aQ 10 (ES s)with
 |none=>exact⟨de,de⟩
 |some x=>
  unfold aQ at h;split at h
  .cases h
  .rename_i hz
   have:=JZ de _ 0 x (Int.le_refl _) h;rw[dJ,Int.zero_add,Int.one_mul]at this;have h2:(10:Int)^(ES s).size <=10^16:=by
    have:=Nat.pow_le_pow_right (show 0<10 by decide) (om:(ES s).size <=16)
    exact_mod_cast this
   exact⟨this.1,Int.lt_of_lt_of_le this.2 h2⟩
def V3(h:LS W w lb ps b)(hs:(ps.headD (tx [])).size <=1048576):LM W 102 #[lp lb] lb w (Z O (nV (ps.headD (tx [])))) ps.tail (b|| !rX (ps.headD (tx []))):=by
 have HL:Hid (LM W 167 #[lp lb] lb w (.string (ps.headD (tx []))) ps.tail b):=MF h;clear h;generalize ps.headD (tx [])=s at*
 have HC:KW 192 #[.string s,.string (tx [45])] (Q #[.string (ES s),V (ngB s)]):=λw=>aNI s hs w;have J7:=aMU s;have hi:0<(ES s).size ->∀w,(Instr.index 9 (.string (ES s)) (Z O 0)).run Tryz.prog w=.ok (Z .u8 (g_ (ES s) 0)) w:=λh w=>jO (ES s) 0 h w;have hz:(aQ 10 (ES s)).isSome =true->0<(ES s).size :=λh=>by
  unfold aQ at h;split at h
  .cases h
  .omega
 unfold rX nV;unfold nmX at J7⊢
 obtain⟨x,r,hx,hr,HN⟩:=aBd 10 de de (ES s);rw[hx]at J7⊢
 rw[hr]at hz⊢
 generalize ES s=d at*
 generalize ngB s=ng at*
 generalize iR:(s.toList==[48])=z at*
 generalize lu:(g_ d 0 != 48)=t at*
 have w1:IntKind.i64.wrap x=x:=wi;have w2:IntKind.i64.wrap (-x)=-x:=wi;cases r
 case' true=>have hi0:=hi (hz rfl)
 all_goals
  clear hx hr J7 hz hi hs;cases z<;>cases ng
 all_goals
  go_enter func102,ntmps102;go_wp2_with (first|(go_at_call 167;refine HL.out.mono ?_;rintro e w1 ⟨rfl,o9,jB⟩)|(go_at_call 192;refine kw (HC _) ?_)|(go_at_call 166;refine ku (HN _) λw2 aB=>?_;have yH:=o9.more aB)|(go_at_call 104;refine(nK yH _).mono ?_;rintro e w3 ⟨rfl,sG,wU⟩))
  go_returns;exact⟨rfl,by first|exact sG|simpa using sG,(jB.trans (Lk.of aB)).trans wU⟩
def XB{c:UInt8}(h:s.data.toList.head?=some c):g_ s 0=(c.toNat:Int):=by
 obtain⟨⟨l⟩⟩:=s;cases l with
 |nil=>cases h
 |cons a l=>
  obtain rfl:a=c:=by simpa using h
  unfold g_;rw[dif_pos (show 0<(⟨⟨a::l⟩⟩:ByteArray).size from Nat.succ_pos _)];rfl
def aGx:Lib.itoa 0=[48]:=by unfold Lib.itoa;rw[if_neg de,Lib.decDigits,dif_pos (by decide)];rfl
def aGj(h:s≠tx [48]):(s.toList==[48])=G:=by
 have:=xE h
 rwa [ByteArray.toList_eq (tx [48])]at this
def V7(s:ByteArray):(rX s=true->s=tx (Lib.itoa (nV s)))/\((∃m,s=tx (Lib.itoa m))->s.size<=5->rX s=true):=by
 refine⟨λh=>?_,λ⟨m,hm⟩ h5=>?_⟩
 .unfold rX at h;rw[Bool.and_eq_true,Bool.or_eq_true]at h;obtain⟨h1,h2⟩:=h;by_cases h0:s=tx [48]
  .subst h0;rw[show nV (tx [48])=0 from rfl,aGx]
  .rw[aGj h0]at h2;have h2:g_ (ES s) 0≠48:=by
    rcases h2 with h|h
    .cases h
    .simpa using h
   obtain⟨x,hx⟩:=Option.isSome_iff_exists.1 h1;have ex:nmX s=x:=by unfold nmX;rw[hx];rfl
   unfold aQ at hx;split at hx
   .cases hx
   .rename_i uF
    obtain⟨gU,lC⟩:=aHl _ x (by rw[dJ];omega) hx (λe=>h2 (XB e));unfold nV Lib.itoa;rw[ex];rw[show(ES s).data.toList =s.data.toList.drop (CQ s) from TM _]at lC;by_cases hf:s.data.toList.head?=some 45
    .have f1:CQ s=1:=by unfold CQ;rw[if_pos hf]
     rw[show ngB s=true by unfold ngB;rw[f1];rfl,if_pos rfl,if_pos om,Int.natAbs_neg,show x.natAbs=x.toNat by omega,lC,f1];obtain⟨⟨l⟩⟩:=s;cases l with
     |nil=>cases hf
     |cons a l=>
      obtain rfl:a=45:=by simpa using hf
      rfl
    .have f0:CQ s=0:=by unfold CQ;rw[if_neg hf]
     rw[show ngB s=G by unfold ngB;rw[f0];rfl,show(if G=true then-x else x)=x from rfl,if_neg om,lC,f0];exact(Q7 s).symm
 .obtain⟨h1,h2,h3⟩:=canon hm;have uF:(ES s).size =s.size-CQ s:=by unfold ES;rw[eF,List.length_drop,dJ]
  have hq:aQ 10 (ES s)=some (m.natAbs:Int):=by
   unfold aQ;rw[if_neg om,show(ES s).data.toList =s.data.toList.drop (CQ s) from TM _];exact h1
  unfold rX;rw[hq,Option.isSome_some,Bool.true_and];by_cases h0:s=tx [48]
  .subst h0;rw[ByteArray.toList_eq];rfl
  .rw[aGj h0,Bool.false_or,bne_iff_ne];have hL:∃n,0<n/\(ES s).data.toList =Lib.decDigits n:=by
    have e0:(ES s).data.toList =s.data.toList.drop (CQ s):=TM _;have e1:s.data.toList=Lib.itoa m:=by rw[hm]
    rw[e0,e1];rcases Int.lt_trichotomy m 0 with c|c|c
    .rw[h2.2 c];refine⟨m.natAbs,om,?_⟩;unfold Lib.itoa;rw[if_pos c];rfl
    .subst c;rw[aGx]at hm;exact absurd hm h0
    .have f1:¬CQ s=1:=λh=>absurd (h2.1 h) om;have f0:CQ s=0:=by
      unfold CQ at f1⊢
      split<;>simp_all
     rw[f0];refine⟨m.toNat,om,?_⟩;unfold Lib.itoa;rw[if_neg (by omega)];rfl
   obtain⟨n,hn,hL⟩:=hL;intro e;obtain⟨c,hc⟩:∃c,(ES s).data.toList.head? =some c:=by
    rw[hL];cases h:Lib.decDigits n with
    |nil=>exact absurd h (NU n)
    |cons a l=>exact⟨a,rfl⟩
   have:=XB hc;rw[e]at this;have h49:c.toNat=48:=om;have h48:c=48:=UInt8.toNat_inj.1 (by rw[h49];rfl);rw[hL,h48]at hc;exact aHk n hn hc
def Db(w:World):Prop:=aA w 8 15 (Z .u8 4)
def Db.gb(h:Db w)(hg:Gb w w'):Db w':=hg.old h
def aQV(h:Db w):QW 324 #[Y 16] w (Z O 4):=by
 unfold Db at h;have a1:IntKind.u64.wrap (-16)=18446744073709551600:=de;have a2:bits .and .u64 16 18446744073709551600=16:=de;have a3:IntKind.u64.wrap (16*285870213051353865)=4573923408821661840:=de;have a4:(4573923408821661840:Int)/288230376151711744=15:=de;go_enter func324,ntmps324;go_wp2;go_returns;exact⟨rfl,rfl⟩
def hc(d:Nat):UInt8:=(JM d).data.toList.headD 0
def aLV:∀d,d<16->JM d=tx [hc d]:=de
def Qy:ByteArray:=⟨#[48,49,50,51,52,53,54,55,56,57,97,98,99,100,101,102,103,104,105,106,107,108,109,110,111,112,113,114,115,116,117,118,119,120,121,122]⟩
def aNq:∀d,d<16->g_ Qy d=((hc d).toNat :Int):=de
def aGS(d:Nat)(hd:d<16)(w:World):(Instr.index 9 (.string Qy) (Y (d:Int))).run Tryz.prog w=.ok (Z .u8 ((hc d).toNat :Int)) w:=by
 have hz:Qy.size=36:=rfl;rw[run_index_string w 9 Qy .u64 d Tryz.underlying9,dif_pos ⟨om,by rw[hz];omega⟩,<-aNq d hd];unfold g_;rw[dif_pos (by rw[hz];omega)];rfl
def aNn(h:n<16):(nS n).data.toList =[hc n]:=by unfold nS;rw[if_pos h,aLV n h]
def aNo(h:¬n<16):(nS n).data.toList =(nS (n/16)).data.toList ++[hc (n%16)]:=by rw[nS,if_neg h,aLV _ (by omega)];simp[ByteArray.data_append]
def Hc(w:World)(b:Nat)(acc:List UInt8):Prop:=(∀i,i<65->∃u,aA w b i u/\dB w b i)/\∀j,(h:j<acc.length)->aA w b (65-acc.length+j) (Z .u8 ((acc[j]).toNat :Int))
def Hc.put{b:Nat}(h:Hc w b acc)(x:UInt8)(hi:i+acc.length+1=65):Hc (w.setCell ⟨b,i,none⟩ (Z .u8 (x.toNat:Int))) b (x::acc):=by
 obtain⟨h1,h2⟩:=h;obtain⟨u,c,z⟩:=h1 i om;refine⟨λk hk=>?_,λj hj=>?_⟩
 .obtain⟨u',c',z'⟩:=h1 k hk;by_cases e:i=k
  .subst e;exact⟨Z .u8 (x.toNat:Int),by simp[go_sem,c],by simp[go_sem,z]⟩
  .exact⟨u',by simp[go_sem,c',e],by simp[go_sem,z']⟩
 .cases j with
  |zero=>
   have e:65-(x::acc).length +0=i:=jl;rw[e];simp[go_sem,c]
  |succ j=>
   have hj':j<acc.length:=by simpa using hj
   have e:65-(x::acc).length +(j+1)=65-acc.length+j:=jl;have q:=h2 j hj';rw[e];have jV:¬i=65-acc.length+j:=om;simp[go_sem,q,jV]
def aQu(n:Nat)(h:aG n):bits .and .u64 (n:Int) 15=((n%16:Nat):Int):=by
 have h:=bits_and_u64_nat n 15 om om
 rwa [show n&&&15=n%16 from Nat.and_two_pow_sub_one_eq_mod n 4]at h
def aOl(w:World):QW 323 #[Z O 16] w (V true):=by
 have a1:bits .and O 16 15=0:=de;go_enter func323,ntmps323;go_wp2;go_returns;exact⟨rfl,rfl⟩
def aJ6(b J:Nat)(h:J<65)(w:World):(Instr.sliceAt 315 (.pointer (some ⟨b,0,none⟩)) (some (Z O (J:Int))) none none).run Tryz.prog w=.ok (X (some ⟨b,J,none⟩) (65-J) (65-J)) w:=by
 have hl:Tryz.prog.arrayLen 315=65:=by kernel_rfl
 have he:Tryz.prog.elem 315=5:=by kernel_rfl
 have hz:=Tryz.sizeOf5;rw[run_sliceAt_array_l (P:=Tryz.prog) (t:=315) w _ (by kernel_rfl) O (J:Int) om (by rw[hl];omega)];simp[slicedAt,hl,he,hz];rw[if_neg (by omega)];simp[Addr.add];exact λh=>h.symm
def aNW(n:Nat)(hn:aG n)(hd:Db w):QB 291 #[X none 0 0,Y (n:Int),Z O 16,V G,V G] w (Q #[X none 0 0,.string (nS n)]):=by
 have HT:Hid (∀w',Gb w w'->QW 324 #[Y 16] w' (Z O 4)):=λw' hg=>aQV (hd.gb hg);clear hd;go_enter func291,ntmps291;go_wp2_with (first|(go_at_call 324;refine kw (HT _ kg) ?_)|(go_at_call 323;refine kw (aOl _) ?_))
 go_loopw [1,13] (λu i wr=>∃(U I:Nat) (acc:List UInt8),u=Y (U:Int)/\i=Z O (I:Int)/\I+acc.length=65/\acc.length<=15/\Hid (U<16^(16-acc.length))/\Hid ((nS U).data.toList ++acc=(nS n).data.toList)/\Hc wr w.heap.size acc/\Gb w wr) (λu _ _=>(intOf u).toNat)
 case atStart=>
  refine⟨n,65,[],rfl,rfl,rfl,by simp,by show n<16^16;exact hn,by show _=_;simp,⟨λi hi=>?_,λj hj=>absurd hj (by simp)⟩,kg⟩;have hz:Tryz.zeroCells315.size=65:=by kernel_rfl
  exact⟨Tryz.zeroCells315[i]'(by rw[hz];exact hi),by simp[go_sem,hz,hi],by simp[go_sem]⟩
 case round=>
  obtain⟨U,I,acc,rfl,rfl,hI,hl,HU,HA,hH,dH⟩:=hrel;obtain⟨J,rfl⟩:∃J,I=J+1:=⟨I-1,om⟩;obtain⟨u0,c0,z0⟩:=hH.1 J om;have HH:Hid (Hc wr w.heap.size acc):=hH;clear hH;have hj1:IntKind.i64.wrap (((J+1:Nat):Int)-1)=(J:Int):=wi;have hj0:(0:Int)<=(J:Int):=om;have hj5:(J:Int)<65:=om;have hU9:aG U:=by
   have h:=Nat.pow_le_pow_right (show 0<16 by decide) (om:16-acc.length<=16);have:=HU.out;omega
  by_cases h16:U<16
  .have q:=aGS U h16;unfold Qy at q;have fF:¬(16:Int)<=(U:Int):=om;obtain⟨x,hx⟩:=dK (hc U);rw[hx]at q;have hA:=HA.out;rw[aNn h16,hx]at hA;have h2:=HH.out.put x (i:=J) om;have hcv:(convert 24 9 (X (some ⟨w.heap.size,J,none⟩) (65-J) (65-J))).run Tryz.prog (wr.setCell ⟨w.heap.size,J,none⟩ (Z .u8 (x.toNat:Int)))=.ok (.string (nS n)) (wr.setCell ⟨w.heap.size,J,none⟩ (Z .u8 (x.toNat:Int))):=by
    have oG:(x::acc).length =65-J:=jl;rw[<-Q7 (nS n),<-hA,<-oG];refine run_convert_bytes_back _ 24 9 5 ⟨w.heap.size,J,none⟩ (x::acc).length (x::acc) Tryz.underlying24 Tryz.underlying5 Tryz.underlying9 (λj hj=>?_);have e:(⟨w.heap.size,J,none⟩:Addr).add j=⟨w.heap.size,65-(x::acc).length +j,none⟩:=by
     rw[show 65-(x::acc).length +j=J+j by rw[oG];omega];unfold Addr.add;split<;>simp_all
    rw[e];exact h2.2 j hj
   have JH:∀w',(Instr.sliceAt 315 (.pointer (some ⟨w.heap.size,0,none⟩)) (some (Z O (J:Int))) none none).run Tryz.prog w'=.ok (X (some ⟨w.heap.size,J,none⟩) (65-J) (65-J)) w':=λw'=>aJ6 w.heap.size J om w';clear h2 hA HA HH hx;go_wp2;go_returns;exact⟨rfl,kg⟩
  .have q:=aGS (U%16) om;unfold Qy at q;have hb:=aQu U hU9;have fF:(16:Int)<=(U:Int):=om;obtain⟨D,hD⟩:=dK ((U%16:Nat):Int);obtain⟨x,hx⟩:=dK (hc (U%16));rw[hD]at q hb;rw[hx]at q;have h14:acc.length<=14:=by
    rcases Nat.lt_or_ge acc.length 15 with h|h
    .omega
    .have:=HU.out;rw[(om:16-acc.length=1)]at this;omega
   have HU2:Hid (U/16<16^(16-(x::acc).length)):=by
    show U/16<16^(16-(x::acc).length);have:=HU.out;rw[(om:16-acc.length=(15-acc.length)+1),Nat.pow_succ]at this;rw[show 16-(x::acc).length =15-acc.length by simp];omega
   have HA2:Hid ((nS (U/16)).data.toList ++x::acc=(nS n).data.toList):=by
    show _=_;rw[<-HA.out,aNo h16,hx];simp
   have hD9:=hD;clear hx hD;go_wp2;go_roundw
   case rel=>exact⟨U/16,J,x::acc,congrArg _ om,rfl,jl,jl,HU2.out,HA2.out,HH.out.put x om,kg⟩
   case measure=>exact uz
def aPW(n:Nat)(hn:aG n)(hd:Db w):QB 164 #[Y (n:Int),Z O 16] w (.string (nS n)):=by
 have H:Hid (QB 291 #[X none 0 0,Y (n:Int),Z O 16,V G,V G] w (Q #[X none 0 0,.string (nS n)])):=aNW n hn hd;generalize nS n=t at*
 clear hd;go_enter func164,ntmps164;go_wp2_with (first|(go_at_call 291;refine ku H.out λw1 ak=>?_)|go_in)
 go_returns;exact⟨rfl,ak⟩
