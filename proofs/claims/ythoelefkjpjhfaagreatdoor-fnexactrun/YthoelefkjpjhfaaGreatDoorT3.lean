import Derived.Laws.RangeAny
import Derived.Test.YthoelefkjpjhfaaGreatDoorT2
set_option linter.all false
set_option maxRecDepth 1000000
set_option maxHeartbeats 40000000
open Bool renaming false → G
open Go.Proofs.YthoelefkjpjhfaaGreatDoor renaming vU → Y
open Go.Value renaming int → Z, slice → X, bool → V, tuple → Q
open Go.IntKind renaming i64 → O
open Go.Proofs.Tryz
namespace Go.Proofs.YthoelefkjpjhfaaGreatDoor
open Go.RowKit
variable {w W w' a c:ak}{lb n cap b1 o k p off B i:Nat}{b:Bool}{ps:List aJ}{v u:Value}{base r x:Int}{s t:aJ}{e:Ending}{acc:List UInt8}
def aFI{P:Prop}(h:P:=by
 go_wp2_with (go_at_call 235;refine kw (HD _) ?_);go_returns;exact⟨.no HNo.out rfl,by unfold World.iter;exact kg⟩):P:=h
def WC{P:Prop}(h:P:=by
 go_enter func235,ntmps235;go_wp2;go_returns;exact⟨b_ E.out,rfl⟩):P:=h
attribute [local go_sem] aB dL
def dgv(r:Int):Int:=if oW r<0 then 0 else oW r
def dgk(r:Int):Bool:=decide (0<=oW r)
def aCU(r:Int)(w:ak):QW 235 #[Z .i32 r] w (Q #[Y (dgv r),V (dgk r)]):=by
 by_cases c1:48<=r/\r<=57
 .have e:oW r=r-48:=by unfold oW;rw[aQ c1]
  obtain⟨d,hd⟩:=dP (r-48);have E:Hid (Value.tuple #[Y d,V true]=Q #[Y (dgv r),V (dgk r)]):=by
   show _=_;unfold dgv dgk;rw[e,hd,aH om,h_ (by omega)]
  have a1:48<=r:=c1.1;have a2:r<=57:=c1.2;have u1:IntKind.i32.wrap (r-48)=d:=by rw[IntKind.wrap_i32];omega
  have u2:IntKind.u64.wrap d=d:=by rw[iT];omega
  clear e hd c1;exact WC
 by_cases c2:97<=r/\r<=102
 .have e:oW r=r-87:=by unfold oW;rw[aH c1,aQ c2]
  obtain⟨d,hd⟩:=dP (r-97);have E:Hid (Value.tuple #[Y (d+10),V true]=Q #[Y (dgv r),V (dgk r)]):=by
   show _=_;unfold dgv dgk;rw[e,aH om,h_ om,(om:d+10=r-87)]
  have a0:48<=r:=om;have a00:¬r<=57:=om;have a1:97<=r:=c2.1;have a2:r<=102:=c2.2;have u1:IntKind.i32.wrap (r-97)=d:=by rw[IntKind.wrap_i32];omega
  have u2:IntKind.u64.wrap d=d:=by rw[iT];omega
  have u3:IntKind.u64.wrap (d+10)=d+10:=by rw[iT];omega
  clear e hd c1 c2;exact WC
 .have e:oW r=-1:=by unfold oW;rw[aH c1,aH c2]
  have E:Hid (Value.tuple #[Y 0,V G]=Q #[Y (dgv r),V (dgk r)]):=by
   show _=_;unfold dgv dgk;rw[e,aQ de,gV (by decide)]
  clear e;by_cases a1:48<=r
  .have a2:¬r<=57:=om;by_cases b1:97<=r
   .have b2:¬r<=102:=om;clear c1 c2;exact WC
   .clear c1 c2;exact WC
  .have b1:¬97<=r:=om;clear c1 c2;exact WC
def aBU(base:Int)(t:aJ)(e:Ending):Prop:=e=.returned (Q #[Y ((aV base t).getD 0),V (aV base t).isSome])
def aBU.no(h:aV base t=none)(he:e=.returned (Q #[Y 0,V G])):aBU base t e:=by unfold aBU;rw[h];exact he
def aBU.yes(h:aV base t=some x)(he:e=.returned (Q #[Y x,V true])):aBU base t e:=by unfold aBU;rw[h];exact he
def aKj(b0:2<=base)(b1:base<=16)(hk:k<=16):base^k<=18446744073709551616:=by
 obtain⟨b,rfl⟩:=lq (om:0<=base);have h:=Nat.pow_le_pow_left (om:b<=16) k;have e:((b^k:Nat):Int)=(b:Int)^k:=FH _ _;have e2:((16^k:Nat):Int)=(16:Int)^k:=FH _ _;have:=XJ hk;rw[<-e];rw[<-e2]at this;omega
def aEl(base:Int)(b0:2<=base)(b1:base<=16)(t:aJ)(w:ak):CT 166 #[Y base,.string t] w λe w'=>aBU base t e/\Gb w w':=by
 by_cases o_:t.size<1\/16<t.size
 .have Cc:Hid (aV base t=none):=by show _=_;unfold aV;rw[aQ o_]
  by_cases c:(t.size:Int)<1
  .go_enter func166,ntmps166;go_wp2;go_returns;exact⟨.no Cc.out rfl,kg⟩
  .have c1:(16:Int)<(t.size:Int):=om;go_enter func166,ntmps166;go_wp2;go_returns;exact⟨.no Cc.out rfl,kg⟩
 have l0:¬((t.size:Int)<1):=om;have l1:¬((16:Int)<(t.size:Int)):=om;have HV:Hid (aV base t=lZ base 0 t.data.toList):=by show _=_;unfold aV;rw[aH o_]
 have aWb:t.size<=16:=om;go_enter func166,ntmps166;go_wp2;go_loopw [6] (λa wr=>∃(pos:Nat) (A:Int),pos<=t.size/\a=Y A/\wr=w.iter t pos/\0<=A/\Hid (A<base^pos)/\Hid (aV base t=lZ base A (t.data.toList.drop pos))) (λ_ wr=>t.size+1-wr.iterPos w.heap.size)
 case atStart=>exact⟨0,0,fV _,rfl,rfl,Int.le_refl _,show(0:Int)<base^0 by rw[Int.pow_zero];decide,HV.out⟩
 case round=>
  obtain⟨pos,A,jZ,rfl,rfl,A0,HA1,HN⟩:=hrel;by_cases fJ:pos<t.size
  .have Rl:pos<t.data.toList.length:=by rw[dN];exact fJ
   have hN:=HN.out;rw[MI Rl]at hN;by_cases hasc:(t[pos]'fJ).toNat <128
   .have hnx:=λty=>run_next_ascii (P:=prog) w t pos ty fJ hasc;have e8:(t.data.toList[pos]).toNat =(t[pos]'fJ).toNat :=rfl;rw[e8]at hN;obtain⟨x,hx⟩:=dP ((t[pos]'fJ).toNat);rw[hx]at hN;simp only[hx]at hnx;have HD:Hid _:=aCU (x:Int);have d15:=IB (x:Int);have hv:dgv (x:Int)=if oW (x:Int)<0 then 0 else oW (x:Int):=rfl
    have hk:dgk (x:Int)=decide (0<=oW (x:Int)):=rfl;obtain⟨D,hD⟩:=dP (dgv (x:Int));obtain⟨K,hK⟩:=dP (dgk (x:Int));rw[hD,hK]at HD;rw[hD]at hv;rw[hK]at hk;generalize oW (x:Int)=d at*
    clear hD hK hx e8 Rl hasc;by_cases c0:d<0
    .rw[aQ (.inl c0)]at hN;rw[gV (by omega)]at hk;subst hk;have HNo:Hid _:=hN;clear hN hv HN HA1;exact aFI
    .rw[h_ (by omega)]at hk;rw[aH c0]at hv;subst hk;subst hv;by_cases c1:base<=D
     .rw[aQ (.inr c1)]at hN;have HNo:Hid _:=hN;clear hN HN HA1;exact aFI
     .rw[aH (by omega)]at hN;have hp:=Fe (D:=[]) b0 A0 HA1.out (om:0<=D) om;have Rk:=aKj b0 b1 (om:pos+1<=16);have hp3:=hp.2;have hp4:A*base+D<18446744073709551616:=om;have hm0:=Bj A0 (om:0<=base);have hp0:=hp.1;obtain⟨M,hM⟩:=dP (A*base);rw[hM]at hp0 hp3 hp4 hm0 hN;have u1:IntKind.u64.wrap (A*base)=M:=by rw[iT,hM];omega
      have u3:IntKind.u64.wrap (M+D)=M+D:=by rw[iT];omega
      have RG:Hid _:=hN;have HP:Hid _:=hp3;clear hN HN HA1 hp Rk hp3 hM;go_wp2_with (go_at_call 235;refine kw (HD _) ?_);go_roundw
      case rel=>exact⟨pos+1,_,om,rfl,rfl,hp0,HP.out,RG.out⟩
      case measure=>simp<;>omega
   .have hnx:=λty=>run_next_any (P:=prog) w t pos ty fJ;have hh:=(decode_high t pos fJ om).1;have e8:(t.data.toList[pos]).toNat =(t[pos]'fJ).toNat :=rfl;rw[e8]at hN;have Cc:∀y:Nat,128<=y->oW (y:Int)=-1:=λy hy=>by unfold oW;rw[aH om,aH (by omega)]
    rw[aQ (.inl (by rw[Cc _ (by omega)];decide))]at hN;have HNo:Hid _:=hN;generalize(Utf8.decode t pos).1 =r at*
    generalize(Utf8.decode t pos).2 =st at*
    have HD:Hid _:=aCU (r:Int);have hk:dgk (r:Int)=G:=by unfold dgk;rw[Cc r hh];rfl
    rw[hk]at HD;generalize dgv (r:Int)=D at*
    clear hN HN HA1 e8 Rl hasc Cc hk hh;exact aFI
  .obtain rfl:pos=t.size:=om;have hnx:=λty=>run_next_end (P:=prog) w t t.size ty om;have hN:=HN.out;rw[<-dN,Fg]at hN;have aUM:Hid _:=hN;clear hN HN HA1;go_wp2;go_returns;exact⟨.yes aUM.out rfl,by unfold World.iter;exact kg⟩
structure Lk (lb:Nat) (w w':ak):Prop where
 os:w'.os=w.os
 tape:w'.tape=w.tape
 output:w'.output=w.output
 size:w.heap.size<=w'.heap.size
 block:∀p,p<w.heap.size->p≠lb->w'.heap[p]?=w.heap[p]?
def Lk.refl(lb:Nat)(w:ak):Lk lb w w:=⟨rfl,rfl,rfl,dJ _,λ_ _ _=>rfl⟩
def Lk.trans{b:ak}(h:Lk lb a b)(k:Lk lb b c):Lk lb a c:=
 ⟨k.os.trans h.os,k.tape.trans h.tape,k.output.trans h.output,yI h.size k.size,λp hp hn=>(k.block p (Ie hp h.size) hn).trans (h.block p hp hn)⟩
def Lk.of(h:Gb w w'):Lk lb w w':=⟨h.os,h.tape,h.output,h.size,λp hp _=>Below.block h p hp⟩
def Lk.gb(h:Lk lb w w')(hg:Gb W w)(hl:W.heap.size<=lb):Gb W w':=
 ⟨h.os.trans hg.os,h.tape.trans hg.tape,h.output.trans hg.output,yI hg.size h.size,λp hp=>(h.block p (Ie hp hg.size) om).trans (Below.block hg p hp)⟩
def Lk.set(w:ak)(i:Nat)(u:Value):Lk lb w (w.setCell ⟨lb,i,none⟩ u):=⟨rfl,rfl,rfl,Nat.le_of_eq (jW ..).symm,λp hp hn=>Below.heap_setCell _ _ _ _ (λe=>hn e)⟩
def Lk.old(h:Lk lb w w')(hu:aB w p off u)(hn:p≠lb):aB w' p off u:=(World.cell?_of_block (w:=w) (a:=⟨p,off,none⟩) (h.block p (aA hu) hn)).trans hu
def Ln(w:ak)(lb:Nat)(v:Value)(b:Bool):Prop:=jX w lb 0 1 v (V b)
def pq.lk{g:Nat->aJ}(h:pq w v n g)(hk:Lk lb w w')(hn:∀b o n' c,v=X (some ⟨b,o,none⟩) n' c->b≠lb):pq w' v n g:=by
 obtain⟨a,cap,h1,h2,h3,h4⟩:=h;refine⟨a,cap,h1,h2,h3,λhp=>?_⟩;obtain⟨b,o,rfl,hc⟩:=h4 hp;exact⟨b,o,rfl,λj hj=>hk.old (hc j hj) (hn _ _ _ _ h1)⟩
def aEg(h:Ln w lb v b)(ok:Bool):CT 104 #[.pointer (some ⟨lb,0,none⟩),V ok] w λe w'=>e=.returned (Q #[])/\w'=w.setCell ⟨lb,1,none⟩ (V (b|| !ok)):=by
 obtain⟨c0,z0,c1,z1⟩:=h;cases b<;>cases ok;all_goals
  go_enter func104,ntmps104;go_wp2;go_returns;exact⟨rfl,rfl⟩
def aEn{a:Option Addr}(h:Ln w lb (X a 0 cap) b):CT 167 #[.pointer (some ⟨lb,0,none⟩)] w λe w'=>e=.returned (.string (tx []))/\w'=w:=by
 obtain⟨c0,z0,c1,z1⟩:=h;go_enter func167,ntmps167;go_wp2;go_returns;exact⟨rfl,rfl⟩
def pq.aRX{g:Nat->aJ}(h:pq w (X (some ⟨b1,o,none⟩) (n+1) cap) (n+1) g):∃a1 c1,(∀w',(Instr.slice 26 (X (some ⟨b1,o,none⟩) (n+1) cap) (some (Z O 1)) none none).run prog w'=.ok (X a1 n c1) w')/\pq w (X a1 n c1) n (λj=>g (1+j))/\∃o',a1=some ⟨b1,o',none⟩:=by
 obtain⟨v1,h1,h2⟩:=h.cut 1 om;have hr:=h1 w;have z:=sizeOf9;obtain⟨a,cap',e,uz,Dz,_⟩:=h;simp only[Value.slice.injEq]at e;obtain⟨rfl,_,rfl⟩:=e;rw[run_slice_l (P:=prog) w 26 _ (n+1) cap (by rw[KH];exact underlying26) O ((1:Nat):Int) om (by omega)]at hr;simp[sliced,KH,z]at hr;subst hr;refine⟨_,_,h1,h2,?_⟩;split
 .exact⟨_,rfl⟩
 .exact⟨o+1,by simp[Addr.add]⟩
def aEm{g:Nat->aJ}(h:Ln w lb (X (some ⟨b1,o,none⟩) (n+1) cap) b)(hr:pq w (X (some ⟨b1,o,none⟩) (n+1) cap) (n+1) g):CT 167 #[.pointer (some ⟨lb,0,none⟩)] w λe w'=>∃o' cap',e=.returned (.string (g 0))/\w'=w.setCell ⟨lb,0,none⟩ (X (some ⟨b1,o',none⟩) n cap')/\pq w (X (some ⟨b1,o',none⟩) n cap') n (λj=>g (1+j)):=by
 obtain⟨a1,c1,LX,wz,o',rfl⟩:=hr.aRX;have HR1:Hid _:=wz;obtain⟨a,cap',e,h1,h2,aW⟩:=hr;obtain⟨b2,o2,e2,hc⟩:=aW om;simp only[Value.slice.injEq]at e;obtain⟨rfl,_,rfl⟩:=e;simp only[Option.some.injEq,Addr.mk.injEq,and_true]at e2;obtain⟨rfl,rfl⟩:=e2;have q:aB w b1 o (.string (g 0)):=hc 0 om;have i0:(0:Int)<((n+1:Nat):Int):=om;have i1:(((n+1:Nat):Int)==0)=G:=Am om;obtain⟨k0,z0,k1,z1⟩:=h;clear aW hc h1 h2 wz;go_enter func167,ntmps167;go_wp2;go_returns;exact⟨rfl,o',_,rfl,HR1.out⟩
def aFJ{P:Prop}(h:P:=by
 go_wp2_with (go_at_call 163;refine(H _ (Gb.refl _)).mono ?_;rintro e w1 ⟨rfl,qZ,kF⟩);go_returns;exact⟨rfl,qZ,kF⟩):P:=h
def Nb(lb:Nat)(v:Value):Prop:=∀b o n c,v=X (some ⟨b,o,none⟩) n c->b≠lb
def Nl(lb:Nat)(v:Value):Prop:=∀b o n c,v=X (some ⟨b,o,none⟩) n c->b<lb
def Nl.nb(h:Nl lb v):Nb lb v:=λb o n c e=>Nat.ne_of_lt (h b o n c e)
structure LS (W w:ak) (lb:Nat) (ps:List aJ) (b:Bool):Prop where
 gb:Gb W w
 le:W.heap.size<=lb
 ln:∃v,Ln w lb v b/\pq w v ps.length (λj=>ps.getD j default)/\Nl lb v
abbrev LM(W:ak)(F:Nat)(args:Array Value)(lb:Nat)(w:ak)(v:Value)(ps:List aJ)(b:Bool):Prop:=Calls prog F args w λe w'=>e=.returned v/\LS W w' lb ps b/\Lk lb w w'
abbrev lp(lb:Nat):Value:=.pointer (some ⟨lb,0,none⟩)
def LS.lt(h:LS W w lb ps b):lb<w.heap.size:=by
 obtain⟨v,h,_⟩:=h.ln;exact aA h.1
def LS.more(h:LS W w lb ps b)(hg:Gb w w'):LS W w' lb ps b:=by
 obtain⟨v,h1,h2,h3⟩:=h.ln;exact⟨h.gb.trans hg,h.le,v,hg.y2 _ _ _ _ _ h1,h2.gb hg,h3⟩
def LS.below(h:LS W w lb ps b)(hB:Below B w w')(hl:lb<B):LS W w' lb ps b:=by
 obtain⟨v,⟨c0,z0,c1,z1⟩,⟨a,cap,e,r1,r2,r3⟩,h3⟩:=h.ln;have aT9:=hB.block lb hl;have hc:∀p off u,p<=lb->aB w p off u->aB w' p off u:=λp off u hp hu=>(World.cell?_of_block (w:=w) (a:=⟨p,off,none⟩) (hB.block p om)).trans hu;have hz:∀off,w'.frozen? ⟨lb,off,none⟩=w.frozen? ⟨lb,off,none⟩:=λoff=>World.frozen?_of_block (a:=⟨lb,off,none⟩) aT9;have uz:=h.le;refine⟨⟨hB.os.trans h.gb.os,hB.tape.trans h.gb.tape,hB.output.trans h.gb.output,yI h.gb.size hB.size,λp hp=>(hB.block p om).trans (Below.block h.gb p hp)⟩,uz,v,⟨hc _ _ _ (dJ _) c0,(hz 0).trans z0,hc _ _ _ (dJ _) c1,(hz 1).trans z1⟩,⟨a,cap,e,r1,r2,λhn=>?_⟩,h3⟩;obtain⟨b',o,rfl,hr⟩:=r3 hn;exact⟨b',o,rfl,λj hj=>hc _ _ _ (Nat.le_of_lt (h3 _ _ _ _ e)) (hr j hj)⟩
def pI(h:LS W w lb ps b)(ok:Bool):LM W 104 #[lp lb,V ok] lb w (Q #[]) ps (b|| !ok):=by
 obtain⟨v,h1,h2,h3⟩:=h.ln;refine(aEg h1 ok).mono λe w' ⟨e1,e2⟩=>?_;subst e2;obtain⟨c0,z0,c1,z1⟩:=h1;have hk:=Lk.set (lb:=lb) w 1 (V (b|| !ok));exact⟨e1,⟨hk.gb h.gb h.le,h.le,v,⟨by simp[go_sem,c0],by simp[go_sem,z0],by simp[go_sem,c1],by simp[go_sem,z1]⟩,h2.lk hk h3.nb,h3⟩,hk⟩
def OA(h:LS W w lb ps b):LM W 167 #[lp lb] lb w (.string (ps.headD (tx []))) ps.tail b:=by
 obtain⟨v,h1,h2,h3⟩:=h.ln;cases ps with
 |nil=>
  obtain⟨a,cap,rfl,h4⟩:=id h2;exact(aEn h1).mono λe w' ⟨e1,e2⟩=>⟨e1,by subst e2;exact h,by subst e2;exact Lk.refl _ _⟩
 |cons p ps=>
  obtain⟨a,cap,rfl,_,_,h4⟩:=id h2;obtain⟨b1,o,rfl,_⟩:=h4 (Nat.succ_pos _);have hn:=h3 b1 o _ _ rfl;refine(aEm h1 h2).mono λe w' ⟨o',cap',e1,e2,e3⟩=>?_;subst e2;obtain⟨c0,z0,c1,z1⟩:=h1;have hk:=Lk.set (lb:=lb) w 0 (X (some ⟨b1,o',none⟩) ps.length cap');have hb:Nl lb (X (some ⟨b1,o',none⟩) ps.length cap'):=λb' o2 n c e=>by
   simp only[Value.slice.injEq,Option.some.injEq,Addr.mk.injEq,and_true]at e;rw[<-e.1.1];exact hn
  refine⟨e1,⟨hk.gb h.gb h.le,h.le,_,⟨by simp[go_sem,c0],by simp[go_sem,z0],by simp[go_sem,c1],by simp[go_sem,z1]⟩,?_,hb⟩,hk⟩;have e4:pq w (X (some ⟨b1,o',none⟩) ps.length cap') ps.length (λj=>ps.getD j default):=by
   have:(λj=>(p::ps).getD (1+j) default)=λj=>ps.getD j default:=by
    funext j;rw[Nat.add_comm];simp
   rw[<-this];exact e3
  exact e4.lk hk hb.nb
def aKR{g:Nat->aJ}(hr:pq w v n g)(hp:Qm g n s r):QW 232 #[v,.string s] w (Z O r):=by
 obtain⟨a,cap,rfl,h1,h2,aW⟩:=hr;have HC:Hid _:=aW;have HP:Hid (Qm g n s r):=hp;have hn9:n<=9223372036854775807:=by unfold maxLen at h2;omega
 clear aW hp h2 h1;go_enter func232,ntmps232;go_wp2;go_loop [8] (λi=>∃k:Nat,k<=n/\i=Z O k/\Hid (∀j,j<k->g j≠s)) (λi=>n-(intOf i).toNat)
 case atStart=>exact⟨0,om,rfl,λj hj=>bG hj om⟩
 case round=>
  obtain⟨k,hk,rfl,HB⟩:=hrel;by_cases h0:(k:Int)<(n:Int)
  .obtain⟨b,o,rfl,hc⟩:=HC om;have q:=hc k om;clear hc;by_cases e:g k=s
   .have H2:Hid (r=k):=by
     rcases HP.out with⟨_,h⟩|⟨k',h1,h2,h3,h4⟩
     .exact bG e (h k om)
     .show r=k;have:k'=k:=by
       rcases Oz k k' with c|c|c
       .exact bG e (h4 k c)
       .exact c.symm
       .exact bG h3 (HB k' c)
      omega
    have c:=str_eq e.symm;clear e;go_wp2;go_returns;exact⟨b_ (lu _ H2.out.symm),rfl⟩
   .have H2:Hid (∀j,j<k+1->g j≠s):=λj hj=>by
     rcases Nat.lt_succ_iff_lt_or_eq.1 hj with h|rfl
     .exact HB j h
     .exact e
    have c:=zJ (Ne.symm e);clear e;go_wp2;go_round
    case rel=>exact⟨k+1,om,jS,H2.out⟩
    case measure=>first|(simp[intOf];done)|(simp[intOf];omega)
  .obtain rfl:k=n:=om;have H2:Hid (r=-1):=by
    rcases HP.out with⟨h,_⟩|⟨k',h1,h2,h3,h4⟩
    .exact h
    .exact bG h3 (HB k' h1)
   go_wp2;go_returns;exact⟨b_ (lu _ H2.out.symm),rfl⟩
def aKq(h:LS W w lb ps b){g:Nat->aJ}(hr:pq w v n g)(hv:Nb lb v)(hp:Qm g n (ps.headD (tx [])) r):LM W 163 #[lp lb,v] lb w (Z O r) ps.tail (b|| !decide (0<=r)):=by
 have HL:Hid (LM W 167 #[lp lb] lb w (.string (ps.headD (tx []))) ps.tail b):=OA h;have HI:Hid (∀w1,Lk lb w w1->QW 232 #[v,.string (ps.headD (tx []))] w1 (Z O r)):=λw1 hk=>aKR (hr.lk hk hv) hp;clear h hr hv hp;generalize ps.headD (tx [])=s at*
 go_enter func163,ntmps163;go_wp2_with (first|(go_at_call 167;refine HL.out.mono ?_;rintro e w1 ⟨rfl,qZ,kF⟩)|(go_at_call 232;refine kw (HI _ kF) ?_)|(go_at_call 104;refine(pI qZ _).mono ?_;rintro e w2 ⟨rfl,Az,m_⟩))
 go_returns;exact⟨rfl,Az,kF.trans m_⟩
def aOr(h:LS W w lb ps b)(l:List aJ)(hl:l.length<=100)(hg:Gb (w.alloc (.cells (l.map Value.string).toArray 9)) w'):CT 163 #[lp lb,aF w.heap.size l.length l.length] w' λe bf=>e=.returned (Z O (ig l (ps.headD (tx []))))/\LS W bf lb ps.tail (b|| !decide (0<=ig l (ps.headD (tx []))))/\Lk lb w bf:=by
 have hg0:Gb w w':=(Gb.alloc (Gb.refl _) _).trans hg;refine(aKq (h.more hg0) ((pq.lit w l hl).gb hg) (λb' o n c e=>?_) (D6 l _)).mono λe w' ⟨e1,e2,e3⟩=>⟨e1,e2,(Lk.of hg0).trans e3⟩;simp only[Value.slice.injEq,Option.some.injEq,Addr.mk.injEq,and_true]at e;have:=h.lt;omega
def aIw(h:LS W w lb ps b):LM W 77 #[lp lb] lb w (Z O (ig dK (ps.headD (tx [])))) ps.tail (b|| !decide (0<=ig dK (ps.headD (tx [])))):=by
 have H:Hid _:=λw' hg=>aOr h dK de (w':=w') hg;generalize ig dK (ps.headD (tx []))=r at*
 clear h;go_enter func77,ntmps77;exact aFJ
def aOy(h:LS W w lb ps b):LM W 78 #[lp lb] lb w (Z O (ig gB (ps.headD (tx [])))) ps.tail (b|| !decide (0<=ig gB (ps.headD (tx [])))):=by
 have H:Hid _:=λw' hg=>aOr h gB de (w':=w') hg;generalize ig gB (ps.headD (tx []))=r at*
 clear h;go_enter func78,ntmps78;exact aFJ
def aOG(h:LS W w lb ps b):LM W 91 #[lp lb] lb w (Z O (ig jh (ps.headD (tx [])))) ps.tail (b|| !decide (0<=ig jh (ps.headD (tx [])))):=by
 have H:Hid _:=λw' hg=>aOr h jh de (w':=w') hg;generalize ig jh (ps.headD (tx []))=r at*
 clear h;go_enter func91,ntmps91;exact aFJ
def VH(l:List UInt8):(tx l).data.toList =l:=by simp
def T_(s:aJ):tx s.data.toList=s:=by cases s;simp
def PG(f x:Int):Bool:=decide (f=0/\x<4294967296\/f=1)
def okW(f:Int)(s:aJ):Bool:=(aV 16 s).isSome &&PG f ((aV 16 s).getD 0)
abbrev oJ(s:aJ):Int:=(aV 16 s).getD 0
def aNK(s:aJ):0<=oJ s/\oJ s<18446744073709551616:=by
 unfold oJ;cases h:aV 16 s with
 |none=>exact⟨de,de⟩
 |some x=>exact Ox de de h
def aCB(base:Int)(b0:2<=base)(b1:base<=16)(s:aJ):∃x r,(aV base s).getD 0=x/\(aV base s).isSome =r/\KB 166 #[Y base,.string s] (Q #[Y x,V r]):=⟨_,_,rfl,rfl,λw=>aEl base b0 b1 s w⟩
def aUl(hW:Fm W)(f x:Int)(h0:0<=x)(h1:aI x):∃(p mn mx:Int) (kn q:Bool),Hid (∀w',Gb W w'->KP f w' p mn mx kn)/\Hid (kn=true->IQ p mn mx x q)/\PG f x=(kn&&q):=by
 by_cases hf:f=0\/f=1
 .obtain⟨p,mx,one,aN,sg,nan,hF,hsg⟩:∃p mx one aN sg nan,bI f p mx one aN sg nan/\(f=0/\sg=2147483648\/f=1/\sg=9223372036854775808):=by
   rcases hf with rfl|rfl
   .exact⟨_,_,_,_,_,_,.inl ⟨rfl,rfl,rfl,rfl,rfl,rfl,rfl⟩,.inl ⟨rfl,rfl⟩⟩
   .exact⟨_,_,_,_,_,_,.inr ⟨rfl,rfl,rfl,rfl,rfl,rfl,rfl⟩,.inr ⟨rfl,rfl⟩⟩
  obtain⟨mn,fb,sp,hM,_⟩:=hF.m;refine⟨p,mn,mx,true,decide (x<2*sg),λw' hg=>oD hF hM (hW.gb hg),λ_ w=>fits_any hM x h0 h1 w,?_⟩;unfold PG;rw[Bool.true_and];refine decide_eq_decide.2 ?_;omega
 .refine⟨0,0,0,G,G,λw' hg=>pK f hf w',λh=>bG h de,?_⟩;unfold PG;exact gV om
def aNJ(hW:Fm W)(h:LS W w lb ps b)(f:Int):LM W 80 #[lp lb,Z O f] lb w (Y (oJ (ps.headD (tx [])))) ps.tail (b|| !okW f (ps.headD (tx []))):=by
 have HL:Hid (LM W 167 #[lp lb] lb w (.string (ps.headD (tx []))) ps.tail b):=OA h;clear h;generalize ps.headD (tx [])=s at*
 have MN:=aNK s;unfold okW;obtain⟨x,r,hx,hr,HN⟩:=aCB 16 de de s;unfold oJ at MN⊢
 rw[hx,hr];rw[hx]at MN;clear hx hr;obtain⟨p,mn,mx,kn,q,HF,HT,hq⟩:=aUl hW f x MN.1 MN.2;rw[hq];clear hq MN hW;cases r<;>cases kn;all_goals
  go_enter func80,ntmps80;go_wp2_with (first|(go_at_call 167;refine HL.out.mono ?_;rintro e w1 ⟨rfl,qZ,kF⟩)|(go_at_call 166;refine ku (HN _) λw2 aC=>?_;have Az:=qZ.more aC)|(go_at_call 168;refine ku (HF _ Az.gb) λw3 aO=>?_)|(go_at_call 169;refine ku ((HT (by trivial)).out _) λw4 bg=>?_)|(go_at_call 104;refine(pI (Az.more kg) _).mono ?_;rintro e w5 ⟨rfl,KE,hk5⟩))
  go_returns;exact⟨rfl,KE,(kF.trans (Lk.of kg)).trans hk5⟩
def FwI(x:Int)(q:Int->Bool):Prop:=
 (∃s m,KR 353 #[.agg #[Z .i32 (-2147483648),Z .i32 2147483647],Y x] (Q #[Z O s,Y m,V (q 0)]))/\
 (∃s m,KR 356 #[kV (-9223372036854775808) 9223372036854775807,Y x] (Q #[Z O s,Y m,V (q 1)]))/\
 (∃s m,KR 358 #[.agg #[Z .u32 0,Z .u32 4294967295],Y x] (Q #[Z O s,Y m,V (q 2)]))/\
 ∃s m,KR 360 #[aS 0 18446744073709551615,Y x] (Q #[Z O s,Y m,V (q 3)])
def okI(k:Int)(q:Int->Bool):Bool:=decide (¬(0<=k/\k<=3))||q k
def aLH{P:Prop}(h:P:=by
 go_enter func93,ntmps93;go_wp2_with (first|(go_at_call 167;refine HL.out.mono ?_;rintro e w1 ⟨rfl,qZ,kF⟩)|(go_at_call 166;refine ku (HN _) λw2 aC=>?_;have Az:=qZ.more aC)|(go_at_call 186;refine ku (HK _) λw4 bg=>?_)|(go_at_call 353;refine ku (H0 _) λw5 bT=>?_)|(go_at_call 356;refine ku (H1 _) λw5 bT=>?_)|(go_at_call 358;refine ku (H2 _) λw5 bT=>?_)|(go_at_call 360;refine ku (H3 _) λw5 bT=>?_)|(go_at_call 104;first|(refine(pI (vk.more kg) _).mono ?_;rintro e w6 ⟨rfl,hl6,hk6⟩)|(refine(pI Az _).mono ?_;rintro e w3 ⟨rfl,vk,zu⟩)))
 first|(go_returns;exact⟨rfl,hl6,(((kF.trans (Lk.of aC)).trans zu).trans (Lk.of kg)).trans hk6⟩)|(go_returns;exact⟨rfl,vk.more bg.gb,((kF.trans (Lk.of aC)).trans zu).trans (Lk.of bg.gb)⟩)):P:=h
def aEU(h:LS W w lb ps b)(aG:Int){q:Int->Bool}(hq:FwI (oJ (ps.headD (tx []))) q):LM W 93 #[lp lb,Z O aG] lb w (Y (oJ (ps.headD (tx [])))) ps.tail ((b|| !(aV 16 (ps.headD (tx []))).isSome)|| !okI aG q):=by
 have HL:Hid (LM W 167 #[lp lb] lb w (.string (ps.headD (tx []))) ps.tail b):=OA h;clear h;generalize ps.headD (tx [])=s at*
 obtain⟨x,r,hx,hr,HN⟩:=aCB 16 de de s;unfold oJ at hq⊢
 rw[hx]at hq⊢
 rw[hr];obtain⟨⟨s0,m0,H0⟩,⟨s1,m1,H1⟩,⟨s2,m2,H2⟩,s3,m3,H3⟩:=hq;clear hx hr;by_cases hk:0<=aG/\aG<=3
 .have e:okI aG q=q aG:=by unfold okI;rw[gV (λh=>h hk),Bool.false_or]
  rw[e];clear e;rcases(om:aG=0\/aG=1\/aG=2\/aG=3)with rfl|rfl|rfl|rfl
  case' inl=>have HK:Hid _:=vY;generalize q 0=q0 at*
  case' inr.inl=>have HK:Hid _:=vX;generalize q 1=q0 at*
  case' inr.inr.inl=>have HK:Hid _:=vW;generalize q 2=q0 at*
  case' inr.inr.inr=>have HK:Hid _:=vV;generalize q 3=q0 at*
  all_goals
   clear hk;exact aLH
 .have e:okI aG q=true:=by unfold okI;rw[h_ hk,Bool.true_or]
  rw[e];have HK:Hid _:=λw=>B_ aG hk w;clear e hk;rw[show((b|| !r)|| !true)=(b|| !r) by simp];exact aLH
def aFH{P:Prop}(h:P:=by
 go_enter func192,ntmps192;go_wp2;go_returns;exact⟨rfl,rfl⟩):P:=h
def ngB(s:aJ):Bool:=decide (CG s=1)
def GX(s:aJ):aJ:=tx (s.data.toList.drop (CG s))
def nmX(s:aJ):Int:=(aV 10 (GX s)).getD 0
def qh(s:aJ):Int:=if ngB s then-nmX s else nmX s
def uS(s:aJ):Bool:=(aV 10 (GX s)).isSome &&(s.toList==[48]||iJ (GX s) 0 != 48)
def aPp(s:aJ)(hs:s.size<=1048576)(w:ak):QW 192 #[.string s,.string (tx [45])] w (Q #[.string (GX s),V (ngB s)]):=by
 obtain⟨⟨l⟩⟩:=s;cases l with
 |nil=>
  exact aFH
 |cons a l=>
  have hx:(⟨⟨a::l⟩⟩:aJ).extract 0 1=tx [a]:=by rw[Rw];simp
  have hy:(⟨⟨a::l⟩⟩:aJ).extract 1 (l.length+1)=tx l:=by rw[Rw];simp
  have hl:(1:Int)<=(l.length:Int)+1:=om;by_cases h:a=45
  .subst h;have e1:GX ⟨⟨45::l⟩⟩=tx l:=rfl;have e2:ngB ⟨⟨45::l⟩⟩=true:=rfl;rw[e1,e2];clear e1 e2;exact aFH
  .have f:CG ⟨⟨a::l⟩⟩=0:=by unfold CG;rw[aH];simpa using h
   have e1:GX ⟨⟨a::l⟩⟩=⟨⟨a::l⟩⟩:=by unfold GX;rw[f];rfl
   have e2:ngB ⟨⟨a::l⟩⟩=G:=by unfold ngB;rw[f];rfl
   rw[e1,e2];have hn:([a]==[45])=G:=by simpa using h
   clear e1 e2 f h;exact aFH
def aOu(s:aJ):0<=nmX s/\nmX s<10000000000000000:=by
 unfold nmX;cases h:aV 10 (GX s)with
 |none=>exact⟨de,de⟩
 |some x=>
  unfold aV at h;split at h
  .cases h
  .rename_i hz
   have:=MH de _ 0 x (Int.le_refl _) h;rw[dN,Int.zero_add,Int.one_mul]at this;have h2:(10:Int)^(GX s).size <=10^16:=by
    have:=pU (show 0<10 by decide) (om:(GX s).size <=16)
    exact_mod_cast this
   exact⟨this.1,Int.lt_of_lt_of_le this.2 h2⟩
def X0(h:LS W w lb ps b)(hs:(ps.headD (tx [])).size <=1048576):LM W 102 #[lp lb] lb w (Z O (qh (ps.headD (tx [])))) ps.tail (b|| !uS (ps.headD (tx []))):=by
 have HL:Hid (LM W 167 #[lp lb] lb w (.string (ps.headD (tx []))) ps.tail b):=OA h;clear h;generalize ps.headD (tx [])=s at*
 have HC:KW 192 #[.string s,.string (tx [45])] (Q #[.string (GX s),V (ngB s)]):=λw=>aPp s hs w;have MN:=aOu s;have hi:0<(GX s).size ->∀w,(Instr.index 9 (.string (GX s)) (Z O 0)).run prog w=.ok (Z .u8 (iJ (GX s) 0)) w:=λh w=>jR (GX s) 0 h w;have hz:(aV 10 (GX s)).isSome =true->0<(GX s).size :=λh=>by
  unfold aV at h;split at h
  .cases h
  .omega
 unfold uS qh;unfold nmX at MN⊢
 obtain⟨x,r,hx,hr,HN⟩:=aCB 10 de de (GX s);rw[hx]at MN⊢
 rw[hr]at hz⊢
 generalize GX s=d at*
 generalize ngB s=ng at*
 generalize jB:(s.toList==[48])=z at*
 generalize mG:(iJ d 0 != 48)=t at*
 have w1:IntKind.i64.wrap x=x:=by rw[dI];omega
 have w2:IntKind.i64.wrap (-x)=-x:=by rw[dI];omega
 cases r
 case' true=>have hi0:=hi (hz rfl)
 all_goals
  clear hx hr MN hz hi hs;cases z<;>cases ng
 all_goals
  go_enter func102,ntmps102;go_wp2_with (first|(go_at_call 167;refine HL.out.mono ?_;rintro e w1 ⟨rfl,qZ,kF⟩)|(go_at_call 192;refine kw (HC _) ?_)|(go_at_call 166;refine ku (HN _) λw2 aC=>?_;have Az:=qZ.more aC)|(go_at_call 104;refine(pI Az _).mono ?_;rintro e w3 ⟨rfl,vk,zu⟩))
  go_returns;exact⟨rfl,by first|exact vk|simpa using vk,(kF.trans (Lk.of aC)).trans zu⟩
def Ze{c:UInt8}(h:s.data.toList.head?=some c):iJ s 0=(c.toNat:Int):=by
 obtain⟨⟨l⟩⟩:=s;cases l with
 |nil=>cases h
 |cons a l=>
  obtain rfl:a=c:=by simpa using h
  unfold iJ;rw[dif_pos (show 0<(⟨⟨a::l⟩⟩:aJ).size from Nat.succ_pos _)];rfl
def aHV:Lib.itoa 0=[48]:=by unfold Lib.itoa;rw[aH de,Lib.decDigits,dif_pos (by decide)];rfl
def aHH(h:s≠tx [48]):(s.toList==[48])=G:=by
 have:=zJ h
 rwa [ByteArray.toList_eq (tx [48])]at this
def X7(s:aJ):(uS s=true->s=tx (Lib.itoa (qh s)))/\((∃m,s=tx (Lib.itoa m))->s.size<=5->uS s=true):=by
 refine⟨λh=>?_,λ⟨m,hm⟩ h5=>?_⟩
 .unfold uS at h;rw[Bool.and_eq_true,Bool.or_eq_true]at h;obtain⟨h1,h2⟩:=h;by_cases h0:s=tx [48]
  .subst h0;rw[show qh (tx [48])=0 from rfl,aHV]
  .rw[aHH h0]at h2;have h2:iJ (GX s) 0≠48:=by
    rcases h2 with h|h
    .cases h
    .simpa using h
   obtain⟨x,hx⟩:=Option.isSome_iff_exists.1 h1;have ex:nmX s=x:=by unfold nmX;rw[hx];rfl
   unfold aV at hx;split at hx
   .cases hx
   .rename_i qY
    obtain⟨iF,mY⟩:=aIK _ x (by rw[dN];omega) hx (λe=>h2 (Ze e));unfold qh Lib.itoa;rw[ex];rw[show(GX s).data.toList =s.data.toList.drop (CG s) from VH _]at mY;by_cases hf:s.data.toList.head?=some 45
    .have f1:CG s=1:=by unfold CG;rw[aQ hf]
     rw[show ngB s=true by unfold ngB;rw[f1];rfl,aQ rfl,aQ om,Int.natAbs_neg,show x.natAbs=x.toNat by omega,mY,f1];obtain⟨⟨l⟩⟩:=s;cases l with
     |nil=>cases hf
     |cons a l=>
      obtain rfl:a=45:=by simpa using hf
      rfl
    .have f0:CG s=0:=by unfold CG;rw[aH hf]
     rw[show ngB s=G by unfold ngB;rw[f0];rfl,show(if G=true then-x else x)=x from rfl,aH om,mY,f0];exact(T_ s).symm
 .obtain⟨h1,h2,h3⟩:=canon hm;have qY:(GX s).size =s.size-CG s:=by unfold GX;rw[dZ,List.length_drop,dN]
  have hq:aV 10 (GX s)=some (m.natAbs:Int):=by
   unfold aV;rw[aH om,show(GX s).data.toList =s.data.toList.drop (CG s) from VH _];exact h1
  unfold uS;rw[hq,Option.isSome_some,Bool.true_and];by_cases h0:s=tx [48]
  .subst h0;rw[ByteArray.toList_eq];rfl
  .rw[aHH h0,Bool.false_or,bne_iff_ne];have hL:∃n,0<n/\(GX s).data.toList =Lib.decDigits n:=by
    have e0:(GX s).data.toList =s.data.toList.drop (CG s):=VH _;have e1:s.data.toList=Lib.itoa m:=by rw[hm]
    rw[e0,e1];rcases Int.lt_trichotomy m 0 with c|c|c
    .rw[h2.2 c];refine⟨m.natAbs,om,?_⟩;unfold Lib.itoa;rw[aQ c];rfl
    .subst c;rw[aHV]at hm;exact bG hm h0
    .have f1:¬CG s=1:=λh=>bG (h2.1 h) om;have f0:CG s=0:=by
      unfold CG at f1⊢
      split<;>simp_all
     rw[f0];refine⟨m.toNat,om,?_⟩;unfold Lib.itoa;rw[aH (by omega)];rfl
   obtain⟨n,hn,hL⟩:=hL;intro e;obtain⟨c,hc⟩:∃c,(GX s).data.toList.head? =some c:=by
    rw[hL];cases h:Lib.decDigits n with
    |nil=>exact bG h (PS n)
    |cons a l=>exact⟨a,rfl⟩
   have:=Ze hc;rw[e]at this;have h49:c.toNat=48:=om;have h48:c=48:=UInt8.toNat_inj.1 (by rw[h49];rfl);rw[hL,h48]at hc;exact aIJ n hn hc
def Db(w:ak):Prop:=aB w 8 15 (Z .u8 4)
def Db.gb(h:Db w)(hg:Gb w w'):Db w':=hg.old h
def aSA(h:Db w):QW 324 #[Y 16] w (Z O 4):=by
 unfold Db at h;have a1:IntKind.u64.wrap (-16)=18446744073709551600:=de;have a2:bits .and .u64 16 18446744073709551600=16:=de;have a3:IntKind.u64.wrap (16*285870213051353865)=4573923408821661840:=de;have a4:(4573923408821661840:Int)/288230376151711744=15:=de;go_enter func324,ntmps324;go_wp2;go_returns;exact⟨rfl,rfl⟩
def hc(d:Nat):UInt8:=(Ew d).data.toList.headD 0
def aNu:∀d,d<16->Ew d=tx [hc d]:=de
def Tm:aJ:=⟨#[48,49,50,51,52,53,54,55,56,57,97,98,99,100,101,102,103,104,105,106,107,108,109,110,111,112,113,114,115,116,117,118,119,120,121,122]⟩
def aO4:∀d,d<16->iJ Tm d=((hc d).toNat :Int):=de
def aIg(d:Nat)(hd:d<16)(w:ak):(Instr.index 9 (.string Tm) (Y (d:Int))).run prog w=.ok (Z .u8 ((hc d).toNat :Int)) w:=by
 have hz:Tm.size=36:=rfl;rw[run_index_string w 9 Tm .u64 d underlying9,dif_pos ⟨om,by rw[hz];omega⟩,<-aO4 d hd];unfold iJ;rw[dif_pos (by rw[hz];omega)];rfl
def aO1(h:n<16):(pV n).data.toList =[hc n]:=by unfold pV;rw[aQ h,aNu n h]
def aO2(h:¬n<16):(pV n).data.toList =(pV (n/16)).data.toList ++[hc (n%16)]:=by rw[pV,aH h,aNu _ (by omega)];simp[ByteArray.data_append]
def Hc(w:ak)(b:Nat)(acc:List UInt8):Prop:=(∀i,i<65->∃u,aB w b i u/\dL w b i)/\∀j,(h:j<acc.length)->aB w b (65-acc.length+j) (Z .u8 ((acc[j]).toNat :Int))
def Hc.put{b:Nat}(h:Hc w b acc)(x:UInt8)(hi:i+acc.length+1=65):Hc (w.setCell ⟨b,i,none⟩ (Z .u8 (x.toNat:Int))) b (x::acc):=by
 obtain⟨h1,h2⟩:=h;obtain⟨u,c,z⟩:=h1 i om;refine⟨λk hk=>?_,λj hj=>?_⟩
 .obtain⟨u',c',z'⟩:=h1 k hk;by_cases e:i=k
  .subst e;exact⟨Z .u8 (x.toNat:Int),by simp[go_sem,c],by simp[go_sem,z]⟩
  .exact⟨u',by simp[go_sem,c',e],by simp[go_sem,z']⟩
 .cases j with
  |zero=>
   have e:65-(x::acc).length +0=i:=jA;rw[e];simp[go_sem,c]
  |succ j=>
   have hj':j<acc.length:=by simpa using hj
   have e:65-(x::acc).length +(j+1)=65-acc.length+j:=jA;have q:=h2 j hj';rw[e];have lM:¬i=65-acc.length+j:=om;simp[go_sem,q,lM]
def aSb(n:Nat)(h:aI n):bits .and .u64 (n:Int) 15=((n%16:Nat):Int):=by
 have h:=bits_and_u64_nat n 15 om om
 rwa [show n&&&15=n%16 from Nat.and_two_pow_sub_one_eq_mod n 4]at h
def aP6(w:ak):QW 323 #[Z O 16] w (V true):=by
 have a1:bits .and O 16 15=0:=de;go_enter func323,ntmps323;go_wp2;go_returns;exact⟨rfl,rfl⟩
def aLA(b J:Nat)(h:J<65)(w:ak):(Instr.sliceAt 315 (.pointer (some ⟨b,0,none⟩)) (some (Z O (J:Int))) none none).run prog w=.ok (X (some ⟨b,J,none⟩) (65-J) (65-J)) w:=by
 have hl:prog.arrayLen 315=65:=by kernel_rfl
 have he:prog.elem 315=5:=by kernel_rfl
 have hz:=sizeOf5;rw[run_sliceAt_array_l (P:=prog) (t:=315) w _ (by kernel_rfl) O (J:Int) om (by rw[hl];omega)];simp[slicedAt,hl,he,hz];rw[aH (by omega)];simp[Addr.add];exact λh=>h.symm
def aPD(n:Nat)(hn:aI n)(hd:Db w):QB 291 #[X none 0 0,Y (n:Int),Z O 16,V G,V G] w (Q #[X none 0 0,.string (pV n)]):=by
 have HT:Hid (∀w',Gb w w'->QW 324 #[Y 16] w' (Z O 4)):=λw' hg=>aSA (hd.gb hg);clear hd;go_enter func291,ntmps291;go_wp2_with (first|(go_at_call 324;refine kw (HT _ kg) ?_)|(go_at_call 323;refine kw (aP6 _) ?_))
 go_loopw [1,13] (λu i wr=>∃(U I:Nat) (acc:List UInt8),u=Y (U:Int)/\i=Z O (I:Int)/\I+acc.length=65/\acc.length<=15/\Hid (U<16^(16-acc.length))/\Hid ((pV U).data.toList ++acc=(pV n).data.toList)/\Hc wr w.heap.size acc/\Gb w wr) (λu _ _=>(intOf u).toNat)
 case atStart=>
  refine⟨n,65,[],rfl,rfl,rfl,by simp,by show n<16^16;exact hn,by show _=_;simp,⟨λi hi=>?_,λj hj=>bG hj (by simp)⟩,kg⟩;have hz:zeroCells315.size=65:=by kernel_rfl
  exact⟨zeroCells315[i]'(by rw[hz];exact hi),by simp[go_sem,hz,hi],by simp[go_sem]⟩
 case round=>
  obtain⟨U,I,acc,rfl,rfl,hI,hl,HU,HA,hH,dQ⟩:=hrel;obtain⟨J,rfl⟩:∃J,I=J+1:=⟨I-1,om⟩;obtain⟨u0,c0,z0⟩:=hH.1 J om;have HH:Hid (Hc wr w.heap.size acc):=hH;clear hH;have hj1:IntKind.i64.wrap (((J+1:Nat):Int)-1)=(J:Int):=by rw[dI];omega
  have hj0:(0:Int)<=(J:Int):=om;have hj5:(J:Int)<65:=om;have hU9:aI U:=by
   have h:=pU (show 0<16 by decide) (om:16-acc.length<=16);have:=HU.out;omega
  by_cases h16:U<16
  .have q:=aIg U h16;unfold Tm at q;have fJ:¬(16:Int)<=(U:Int):=om;obtain⟨x,hx⟩:=dP (hc U);rw[hx]at q;have hA:=HA.out;rw[aO1 h16,hx]at hA;have h2:=HH.out.put x (i:=J) om;have hcv:(convert 24 9 (X (some ⟨w.heap.size,J,none⟩) (65-J) (65-J))).run prog (wr.setCell ⟨w.heap.size,J,none⟩ (Z .u8 (x.toNat:Int)))=.ok (.string (pV n)) (wr.setCell ⟨w.heap.size,J,none⟩ (Z .u8 (x.toNat:Int))):=by
    have o_:(x::acc).length =65-J:=jA;rw[<-T_ (pV n),<-hA,<-o_];refine run_convert_bytes_back _ 24 9 5 ⟨w.heap.size,J,none⟩ (x::acc).length (x::acc) underlying24 underlying5 underlying9 (λj hj=>?_);have e:(⟨w.heap.size,J,none⟩:Addr).add j=⟨w.heap.size,65-(x::acc).length +j,none⟩:=by
     rw[show 65-(x::acc).length +j=J+j by rw[o_];omega];unfold Addr.add;split<;>simp_all
    rw[e];exact h2.2 j hj
   have LX:∀w',(Instr.sliceAt 315 (.pointer (some ⟨w.heap.size,0,none⟩)) (some (Z O (J:Int))) none none).run prog w'=.ok (X (some ⟨w.heap.size,J,none⟩) (65-J) (65-J)) w':=λw'=>aLA w.heap.size J om w';clear h2 hA HA HH hx;go_wp2;go_returns;exact⟨rfl,kg⟩
  .have q:=aIg (U%16) om;unfold Tm at q;have hb:=aSb U hU9;have fJ:(16:Int)<=(U:Int):=om;obtain⟨D,hD⟩:=dP ((U%16:Nat):Int);obtain⟨x,hx⟩:=dP (hc (U%16));rw[hD]at q hb;rw[hx]at q;have h14:acc.length<=14:=by
    rcases uq acc.length 15 with h|h
    .omega
    .have:=HU.out;rw[(om:16-acc.length=1)]at this;omega
   have HU2:Hid (U/16<16^(16-(x::acc).length)):=by
    show U/16<16^(16-(x::acc).length);have:=HU.out;rw[(om:16-acc.length=(15-acc.length)+1),jE]at this;rw[show 16-(x::acc).length =15-acc.length by simp];omega
   have HA2:Hid ((pV (U/16)).data.toList ++x::acc=(pV n).data.toList):=by
    show _=_;rw[<-HA.out,aO2 h16,hx];simp
   have hD9:=hD;clear hx hD;go_wp2;go_roundw
   case rel=>exact⟨U/16,J,x::acc,lu _ om,rfl,jA,jA,HU2.out,HA2.out,HH.out.put x om,kg⟩
   case measure=>exact qL
def aRF(n:Nat)(hn:aI n)(hd:Db w):QB 164 #[Y (n:Int),Z O 16] w (.string (pV n)):=by
 have H:Hid (QB 291 #[X none 0 0,Y (n:Int),Z O 16,V G,V G] w (Q #[X none 0 0,.string (pV n)])):=aPD n hn hd;generalize pV n=t at*
 clear hd;go_enter func164,ntmps164;go_wp2_with (first|(go_at_call 291;refine ku H.out λw1 au=>?_)|go_in)
 go_returns;exact⟨rfl,au⟩
