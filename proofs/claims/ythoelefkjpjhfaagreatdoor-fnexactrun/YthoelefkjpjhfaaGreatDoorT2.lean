import Derived.Test.YthoelefkjpjhfaaGreatDoorT1
set_option linter.all false
open Option renaming none → E, some → I
open Bool renaming false → U, true → H
open Go.Proofs.YthoelefkjpjhfaaGreatDoor renaming vI → J, vU → Y
open Go.Ending renaming returned → Z
open Go.Value renaming slice → O, bool → X, tuple → V
open Go.Proofs.Tryz
namespace Go.Proofs.YthoelefkjpjhfaaGreatDoor
open Go.RowKit
attribute [local go_sem] aA
variable{w wr w' wr':World}{v u:Value}{n i base b j vl vc b' p F:Nat}{W g:Nat->Int}{A S s:ByteArray}{fl z f t m k o a c d r:Int}{e:Ending}{D:List UInt8}
def plN(s:ByteArray):List ByteArray->Int->Int
 |[],_=>-1
 |x::l,i=>if x.data=s.data then i else plN s l (i+1)
def gI(l:List ByteArray)(s:ByteArray):Int:=plN s l 0
def aFT(s:ByteArray):∀(l:List ByteArray) (i:Int),(plN s l i=-1/\∀j,j<l.length->l.getD j default≠s)\/∃k:Nat,k<l.length/\plN s l i=i+k/\l.getD k default=s/\∀j,j<k->l.getD j default≠s
 |[],i=>.inl ⟨rfl,λj h=>absurd h (Nat.not_lt_zero _)⟩
 |x::l,i=>by
  unfold plN;by_cases h:x.data=s.data
  .exact .inr ⟨0,Nat.succ_pos _,by rw[if_pos h];simp,ByteArray.ext h,λj hj=>absurd hj (Nat.not_lt_zero _)⟩
  .rw[if_neg h];rcases aFT s l (i+1)with⟨h1,h2⟩|⟨k,h1,h2,h3,h4⟩
   .refine .inl ⟨h1,λj hj=>?_⟩;cases j with
    |zero=>exact λe=>h (by rw[<-e];rfl)
    |succ j=>exact h2 j (Nat.lt_of_succ_lt_succ hj)
   .refine .inr ⟨k+1,Nat.succ_lt_succ h1,by rw[h2];omega,h3,λj hj=>?_⟩;cases j with
    |zero=>exact λe=>h (by rw[<-e];rfl)
    |succ j=>exact h4 j (Nat.lt_of_succ_lt_succ hj)
def BN(l:List ByteArray)(s:ByteArray):InL l s (gI l s):=by
 rcases aFT s l 0 with h|⟨k,h1,h2,h3,h4⟩
 .exact .inl h
 .exact .inr ⟨k,h1,by unfold gI;rw[h2];omega,h3,h4⟩
def rW(g:Nat->ByteArray):List UInt8->Nat->Int->Int->Int->Int->Option (Int × Int × Int × Int)
 |[],_,f,t,m,k=>I (f,t,m,k)
 |c::cs,i,f,t,m,k=>
  if c=102 then(if gI dA (g i)<0 then E else if f<0 then rW g cs (i+1) (gI dA (g i)) t m k else rW g cs (i+1) f (gI dA (g i)) m k)
  else if c=109 then(if gI fJ (g i)<0 then E else rW g cs (i+1) f t (gI fJ (g i)) k)
  else if c=107 then(if gI iG (g i)<0 then E else rW g cs (i+1) f t m (gI iG (g i)))
  else rW g cs (i+1) f t m k
structure La (w wr:World) (f t m k:Int):Prop where
 gb:Gb w wr
 c:OC wr (w.heap.size+1) 0 1 2 3 4 (J f) (J t) (J m) (J k) (O E 0 0)
 z:OC wr w.heap.size 0 1 2 3 4 (J 0) (J 0) (J 0) (J 0) (O E 0 0)
def La.more(h:La w wr f t m k)(hg:Gb wr wr'):La w wr' f t m k:=⟨h.gb.trans hg,hg.y5 _ _ _ _ _ _ _ _ _ _ _ h.c,hg.y5 _ _ _ _ _ _ _ _ _ _ _ h.z⟩
def Ar(h:aA w b j v)(jV:¬i=j):aA (w.setCell ⟨b,i,E⟩ u) b j v:=by simp[go_sem,h,jV]
def uS(h:aA w b' j v)(jV:¬b=b'):aA (w.setCell ⟨b,i,E⟩ u) b' j v:=by simp[go_sem,h,jV]
def La.s0(h:La w wr f t m k)(x:Int):La w (wr.setCell ⟨w.heap.size+1,0,E⟩ (J x)) x t m k:=by
 obtain⟨g,⟨c0,y0,c1,y1,c2,y2,c3,y3,c4,y4⟩,d0,e0,d1,e1,d2,e2,d3,e3,d4,e4⟩:=h;exact⟨Gb.setCell g (om:w.heap.size<=w.heap.size+1) _,⟨dn (by rw[c0];rfl),bf y0,Ar c1 de,bf y1,Ar c2 de,bf y2,Ar c3 de,bf y3,Ar c4 de,bf y4⟩,uS d0 om,bf e0,uS d1 om,bf e1,uS d2 om,bf e2,uS d3 om,bf e3,uS d4 om,bf e4⟩
def La.s1(h:La w wr f t m k)(x:Int):La w (wr.setCell ⟨w.heap.size+1,1,E⟩ (J x)) f x m k:=by
 obtain⟨g,⟨c0,y0,c1,y1,c2,y2,c3,y3,c4,y4⟩,d0,e0,d1,e1,d2,e2,d3,e3,d4,e4⟩:=h;exact⟨Gb.setCell g (om:w.heap.size<=w.heap.size+1) _,⟨Ar c0 de,bf y0,dn (by rw[c1];rfl),bf y1,Ar c2 de,bf y2,Ar c3 de,bf y3,Ar c4 de,bf y4⟩,uS d0 om,bf e0,uS d1 om,bf e1,uS d2 om,bf e2,uS d3 om,bf e3,uS d4 om,bf e4⟩
def La.s2(h:La w wr f t m k)(x:Int):La w (wr.setCell ⟨w.heap.size+1,2,E⟩ (J x)) f t x k:=by
 obtain⟨g,⟨c0,y0,c1,y1,c2,y2,c3,y3,c4,y4⟩,d0,e0,d1,e1,d2,e2,d3,e3,d4,e4⟩:=h;exact⟨Gb.setCell g (om:w.heap.size<=w.heap.size+1) _,⟨Ar c0 de,bf y0,Ar c1 de,bf y1,dn (by rw[c2];rfl),bf y2,Ar c3 de,bf y3,Ar c4 de,bf y4⟩,uS d0 om,bf e0,uS d1 om,bf e1,uS d2 om,bf e2,uS d3 om,bf e3,uS d4 om,bf e4⟩
def La.s3(h:La w wr f t m k)(x:Int):La w (wr.setCell ⟨w.heap.size+1,3,E⟩ (J x)) f t m x:=by
 obtain⟨g,⟨c0,y0,c1,y1,c2,y2,c3,y3,c4,y4⟩,d0,e0,d1,e1,d2,e2,d3,e3,d4,e4⟩:=h;exact⟨Gb.setCell g (om:w.heap.size<=w.heap.size+1) _,⟨Ar c0 de,bf y0,Ar c1 de,bf y1,Ar c2 de,bf y2,dn (by rw[c3];rfl),bf y3,Ar c4 de,bf y4⟩,uS d0 om,bf e0,uS d1 om,bf e1,uS d2 om,bf e2,uS d3 om,bf e3,uS d4 om,bf e4⟩
def Jd:Tryz.prog.elem 26=9:=by kernel_rfl
def oQ.cut{g:Nat->ByteArray}(h:oQ w v n g)(l:Nat)(hl:l<=n):∃v',(∀w',(Instr.slice 26 v (I (J (l:Int))) E E).run Tryz.prog w'=.ok v' w')/\oQ w v' (n-l) (λj=>g (l+j)):=by
 obtain⟨a,cap,rfl,h1,h2,hc⟩:=h;refine⟨O (if cap=l then a else a.map (·.add l)) (n-l) (cap-l),λw'=>?_,?_⟩
 .have z:=Tryz.sizeOf9;rw[run_slice_l (P:=Tryz.prog) w' 26 a n cap (by rw[Jd];exact Tryz.underlying26) .i64 (l:Int) om (by omega)];simp[sliced,Jd,z]
 .refine⟨_,_,rfl,om,om,λhn=>?_⟩;obtain⟨b,o,rfl,Df⟩:=hc om;rw[if_neg (by omega)];refine⟨b,o+l,?_,λj hj=>?_⟩
  .simp[Addr.add]
  .rw[Nat.add_assoc];exact Df (l+j) om
set_option maxRecDepth 1000000
set_option maxHeartbeats 40000000
def aAI{P:Prop}(h:P:=by
 have PK:Hid _:=(by have:=HN.out;rw[if_neg cx]at this;exact this);clear HN;go_wp2;go_roundw
 case rel=>exact⟨j+1,_,_,_,_,om,by go_num,HL2.out,PK.out⟩
 case measure=>simp[intOf]<;>omega):P:=h
def aKj{P:Prop}(h:P:=by
 obtain⟨v',JH,FK⟩:=HSl F om;have HW:Hid (∀w',Gb w w'->CT 54 #[v'] w' λe aT=>qB w' (S.size-F) (λj=>g (F+j)) (λj=>(aQ 16 (g (F+j))).getD 0) e aT):=λw' hg=>Ye (FK.gb hg) om;have hp1:=au c0;have HF2:Hid (F<=S.size):=hF;clear FK HB;go_upto_region 24 with fail;clear hF aDA;go_wp2_with (go_at_call 54;refine(HW _ aNl).mono ?_;rintro e w2 hW7;obtain⟨va,vl,vc,ok,rfl,aB,HU⟩:=qB.any hW7;clear hW7;have a0:=aB.Y51 w;have p0:=aB.Y50 w);refine bodyPost_ret (v:=V #[.agg #[J f,J t,J m,J k,O va vl vc],X ok]) (by simp[results,Tryz.results22,go_sem,p0,a0]) rfl ?_;rcases HU.out with⟨rfl,hall,how⟩|⟨rfl,jj,hj1,hj2⟩
 .have hF:=HF2.out;refine .yes kg rfl rfl HN.out HFr.out (λj j1 j2=>by have:=hall (j-F) (by omega);rwa [show F+(j-F)=j by omega]at this) ?_;exact RdB.rd (RdB.set (RdB.set (RdB.set (RdB.set (RdB.set (RdB.set (Ow.rdB how) om _ _) om _ _) om _ _) om _ _) om _ _) om _ _)
 .exact .no kg rfl (.inr (.inr ⟨F,F+jj,HFr.out,om,by have:=HF2.out;omega,hj2⟩))):P:=h
def aMA(g:Nat->ByteArray)(hi:i<D.length)(f t m k:Int):rW g (D.drop i) i f t m k=
  if D[i]=102 then(if gI dA (g i)<0 then E else if f<0 then rW g (D.drop (i+1)) (i+1) (gI dA (g i)) t m k else rW g (D.drop (i+1)) (i+1) f (gI dA (g i)) m k)
  else if D[i]=109 then(if gI fJ (g i)<0 then E else rW g (D.drop (i+1)) (i+1) f t (gI fJ (g i)) k)
  else if D[i]=107 then(if gI iG (g i)<0 then E else rW g (D.drop (i+1)) (i+1) f t m (gI iG (g i)))
  else rW g (D.drop (i+1)) (i+1) f t m k:=by rw[List.drop_eq_getElem_cons hi,rW]
def aIJ(g:Nat->ByteArray)(i:Nat)(f t m k:Int):rW g (D.drop D.length) i f t m k=I (f,t,m,k):=by rw[List.drop_length,rW]
def aAs(s:ByteArray)(i:Nat)(h:i<s.data.toList.length)(c:UInt8):(g_ s i==(c.toNat:Int))=decide (s.data.toList[i]=c):=by
 rw[Aj s i h];by_cases e:s.data.toList[i]=c
 .rw[e];simp
 .rw[decide_eq_false e];refine beq_false_of_ne λh=>e (UInt8.toNat_inj.1 om)
def qB.any{g:Nat->ByteArray}(h:qB w n g W e w'):∃a l c ok,e=Z (V #[O a l c,X ok])/\Gb w w'/\Hid ((ok=H/\(∀j,j<n->aQ 16 (g j)≠E)/\Ow w' w.heap.size 71 1 .u64 (O a l c) n W)\/ok=U/\∃j,j<n/\aQ 16 (g j)=E):=by
 obtain⟨hg,⟨u,h1,h2,h3⟩|⟨⟨a,l,c,h1⟩,h2⟩⟩:=h
 .obtain⟨a,c,rfl,_⟩:=h3.len;exact⟨a,n,c,H,h1,hg,.inl ⟨rfl,h2,h3⟩⟩
 .exact⟨a,l,c,U,h1,hg,.inr ⟨rfl,h2⟩⟩
def RdB(w:World)(base:Nat)(v:Value)(n:Nat)(g:Nat->Int):Prop:=
 ∃a cap,v=O a n cap/\n<=cap/\cap<=maxLen/\(0<n->∃b,a=I ⟨b,0,E⟩/\base<=b/\∀j,j<n->aA w b j (Y (g j)))
def Ow.rdB{t:TypeId}(h:Ow w base t 1 .u64 v n g):RdB w base v n g:=by
 rcases Nat.eq_zero_or_pos n with rfl|hn
 .obtain⟨a,cap,rfl,h1,h2⟩:=h.len;exact⟨a,cap,rfl,h1,h2,λhn=>om⟩
 .obtain⟨b,cap,rfl,h0,_,h1,h2,h3⟩:=h.at hn;exact⟨_,cap,rfl,h1,h2,λ_=>⟨b,rfl,h0,λj hj=>(h3 j om).1⟩⟩
def RdB.set(h:RdB w base v n g)(hp:p<base)(i:Nat)(u:Value):RdB (w.setCell ⟨p,i,E⟩ u) base v n g:=by
 obtain⟨a,cap,h1,h2,h3,h4⟩:=h;refine⟨a,cap,h1,h2,h3,λhn=>?_⟩;obtain⟨b,hb,Tn,hc⟩:=h4 hn;exact⟨b,hb,Tn,λj hj=>uS (hc j hj) om⟩
def RdB.rd(h:RdB w base v n g):Rd w .u64 v n n g:=by
 obtain⟨a,cap,h1,h2,h3,h4⟩:=h;refine⟨a,cap,h1,h2,h3,λhn=>?_⟩;obtain⟨b,hb,Tn,hc⟩:=h4 hn;exact⟨b,hb,hc⟩
def lq(S:ByteArray)(F:Nat):Prop:=F<=S.size/\(∀j,j<F->g_ S j≠119)/\(F<S.size->g_ S F=119)
def Ew(w:World)(S:ByteArray)(n:Nat)(g:Nat->ByteArray)(e:Ending)(w':World):Prop:=
 Gb w w'/\∃(f t m k:Int) (va:Option Addr) (vl vc:Nat) (ok:Bool),e=Z (V #[.agg #[J f,J t,J m,J k,O va vl vc],X ok])/\
  ((ok=U/\(n≠S.size\/rW g S.data.toList 0 (-1) (-1) 0 0=E\/∃F j,lq S F/\F<=j/\j<n/\aQ 16 (g j)=E))\/
   ok=H/\n=S.size/\rW g S.data.toList 0 (-1) (-1) 0 0=I (f,t,m,k)/\∃F,lq S F/\(∀j,F<=j->j<n->aQ 16 (g j)≠E)/\Rd w' .u64 (O va vl vc) (n-F) (n-F) (λj=>(aQ 16 (g (F+j))).getD 0))
def Ew.no{g:Nat->ByteArray}{va:Option Addr}(hg:Gb w w')(he:e=Z (V #[.agg #[J f,J t,J m,J k,O va vl vc],X U]))(h:n≠S.size\/rW g S.data.toList 0 (-1) (-1) 0 0=E\/∃F j,lq S F/\F<=j/\j<n/\aQ 16 (g j)=E):Ew w S n g e w':=⟨hg,f,t,m,k,va,vl,vc,U,he,.inl ⟨rfl,h⟩⟩
def Ew.yes{g:Nat->ByteArray}{va:Option Addr}(hg:Gb w w')(he:e=Z (V #[.agg #[J f,J t,J m,J k,O va vl vc],X H]))(hn:n=S.size)(hr:rW g S.data.toList 0 (-1) (-1) 0 0=I (f,t,m,k))(hF:lq S F)(ha:∀j,F<=j->j<n->aQ 16 (g j)≠E)(ho:Rd w' .u64 (O va vl vc) (n-F) (n-F) (λj=>(aQ 16 (g (F+j))).getD 0)):Ew w S n g e w':=⟨hg,f,t,m,k,va,vl,vc,H,he,.inr ⟨rfl,hn,hr,F,hF,ha,ho⟩⟩
def Ew.any{g:Nat->ByteArray}(h:Ew w S n g e w'):∃(f t m k:Int) (va:Option Addr) (vl vc:Nat) (ok:Bool),e=Z (V #[.agg #[J f,J t,J m,J k,O va vl vc],X ok])/\Gb w w'/\Hid ((ok=U/\(n≠S.size\/rW g S.data.toList 0 (-1) (-1) 0 0=E\/∃F j,lq S F/\F<=j/\j<n/\aQ 16 (g j)=E))\/
   ok=H/\n=S.size/\rW g S.data.toList 0 (-1) (-1) 0 0=I (f,t,m,k)/\∃F,lq S F/\(∀j,F<=j->j<n->aQ 16 (g j)≠E)/\Rd w' .u64 (O va vl vc) (n-F) (n-F) (λj=>(aQ 16 (g (F+j))).getD 0)):=by
 obtain⟨hg,f,t,m,k,va,vl,vc,ok,h1,h2⟩:=h;exact⟨f,t,m,k,va,vl,vc,ok,h1,hg,h2⟩
def aOC(S:ByteArray)(hS:S.size<=100){g:Nat->ByteArray}(hr:oQ w v n g)(hn:n<=1000000):CT 22 #[.string S,v] w λe w'=>Ew w S n g e w':=by
 have HR:Hid (∀w',Gb w w'->oQ w' v n g):=λw' hg=>hr.gb hg;have nU:=hr.cut;obtain⟨a,cap,hv,h1,h2,aW⟩:=hr;have HC:Hid _:=aW;subst hv;have hn9:n<=9223372036854775807:=om;have HSl:Hid _:=nU;clear aW h1 h2 nU;by_cases jV:n=S.size
 case neg=>
  have c:((n:Int)==(S.size:Int))=U:=beq_false_of_ne om;clear HSl;go_enter func22,ntmps22;go_wp2;refine bodyPost_ret (v:=V #[.agg #[J (-1),J (-1),J 0,J 0,O E 0 0],X U]) (by simp[results,Tryz.results22,go_sem]) rfl ?_;exact .no kg rfl (.inl jV)
 case pos=>
  subst jV;go_enter func22,ntmps22;go_wp2;go_loopw [7] (λi wr=>∃(j:Nat) (f t m k:Int),j<=S.size/\i=J (j:Int)/\La w wr f t m k/\Hid (rW g (S.data.toList.drop j) j f t m k=rW g S.data.toList 0 (-1) (-1) 0 0)) (λi _=>S.size-(intOf i).toNat)
  case atStart=>exact⟨0,-1,-1,0,0,Nat.zero_le _,rfl,⟨kg,by simp[OC,go_sem],by simp[OC,go_sem]⟩,rfl⟩
  case round=>
   obtain⟨j,f,t,m,k,hj,rfl,hLa,HRd⟩:=hrel;have aSG:=hLa;obtain⟨aNl,⟨c0,y0,c1,y1,c2,y2,c3,y3,c4,y4⟩,d0,e0,d1,e1,d2,e2,d3,e3,d4,e4⟩:=aSG;have uF:=aNl.size;by_cases fF:(j:Int)<(S.size:Int)
   .have jc:j<S.data.toList.length:=by rw[dJ];omega
    obtain⟨b,o,rfl,hc⟩:=HC om;have q1:=aNl.old (hc j om);have q2:=λob=>aZ ob q1;have kA:=λob=>aZ ob c0;have kB:=λob=>aZ ob c1;have kC:=λob=>aZ ob c2;have kD:=λob=>aZ ob c3;have kE:=λob=>aZ ob c4;have fA:=λc t=>cu (c:=c) (t:=t) y0;have fB:=λc t=>cu (c:=c) (t:=t) y1;have fC:=λc t=>cu (c:=c) (t:=t) y2;have fD:=λc t=>cu (c:=c) (t:=t) y3;clear hc;have hN:=HRd.out;rw[aMA g jc]at hN;have q:=jO S j om;have aN1:=aAs S j jc 102;have aJ5:=aAs S j jc 109;have aHC:=aAs S j jc 107;simp only[show((102:UInt8).toNat :Int)=102 from rfl,show((109:UInt8).toNat :Int)=109 from rfl,show((107:UInt8).toNat :Int)=107 from rfl]at aN1 aJ5 aHC;generalize g_ S j=bj at*
    clear HRd;by_cases WE:S.data.toList[j]=102
    .rw[decide_eq_true WE]at aN1;rw[if_pos WE]at hN;clear WE aJ5 aHC jc;by_cases cf:f<0
     .rw[if_pos cf]at hN;obtain⟨x,hx⟩:=dK (gI dA (g j));have HP:Hid (∀w',Gb (wr.alloc (.cells (dA.map Value.string).toArray 9)) w'->QW 57 #[aC wr.heap.size dA.length dA.length,.string (g j)] w' (J x)):=λw' hg=>by rw[<-hx];exact Mc (BN dA (g j)) de hg
      rw[hx]at hN;have HN:Hid _:=hN;clear hx hN;generalize g j=tj at*
      go_upto_region 19 with(go_at_call 57;refine kw (HP _ (Gb.refl _)) ?_);have JK:=(hLa.more (wr':=wr.alloc (.cells #[.string ⟨#[102,51,50]⟩,.string ⟨#[102,54,52]⟩] 9)) (Gb.alloc (Gb.refl _) _)).s0 x;obtain⟨W,hW⟩:=dK ((wr.alloc (.cells #[.string ⟨#[102,51,50]⟩,.string ⟨#[102,54,52]⟩] 9)).setCell ⟨w.heap.size+1,0,E⟩ (J x));rw[hW]at JK⊢
      clear hW hLa c0 y0 c1 y1 c2 y2 c3 y3 c4 y4 d0 e0 d1 e1 d2 e2 d3 e3 d4 e4 kA kB kC kD kE fA fB fC fD q1 q2;have HL2:Hid _:=JK;obtain⟨dH,⟨c0,y0,c1,y1,c2,y2,c3,y3,c4,y4⟩,d0,e0,d1,e1,d2,e2,d3,e3,d4,e4⟩:=JK;by_cases cx:x<0
      .have PK:Hid (rW g S.data.toList 0 (-1) (-1) 0 0=E):=by have:=HN.out;rw[if_pos cx]at this;exact this.symm
       clear HN;go_wp2;refine bodyPost_ret (v:=V #[.agg #[J x,J t,J m,J k,O E 0 0],X U]) (by simp[results,Tryz.results22,go_sem,d0,d1,d2,d3,d4]) rfl ?_;exact .no kg rfl (.inr (.inl PK.out))
      .exact aAI
     .rw[if_neg cf]at hN;obtain⟨x,hx⟩:=dK (gI dA (g j));have HP:Hid (∀w',Gb (wr.alloc (.cells (dA.map Value.string).toArray 9)) w'->QW 57 #[aC wr.heap.size dA.length dA.length,.string (g j)] w' (J x)):=λw' hg=>by rw[<-hx];exact Mc (BN dA (g j)) de hg
      rw[hx]at hN;have HN:Hid _:=hN;clear hx hN;generalize g j=tj at*
      go_upto_region 19 with(go_at_call 57;refine kw (HP _ (Gb.refl _)) ?_);have JK:=(hLa.more (wr':=wr.alloc (.cells #[.string ⟨#[102,51,50]⟩,.string ⟨#[102,54,52]⟩] 9)) (Gb.alloc (Gb.refl _) _)).s1 x;obtain⟨W,hW⟩:=dK ((wr.alloc (.cells #[.string ⟨#[102,51,50]⟩,.string ⟨#[102,54,52]⟩] 9)).setCell ⟨w.heap.size+1,1,E⟩ (J x));rw[hW]at JK⊢
      clear hW hLa c0 y0 c1 y1 c2 y2 c3 y3 c4 y4 d0 e0 d1 e1 d2 e2 d3 e3 d4 e4 kA kB kC kD kE fA fB fC fD q1 q2;have HL2:Hid _:=JK;obtain⟨dH,⟨c0,y0,c1,y1,c2,y2,c3,y3,c4,y4⟩,d0,e0,d1,e1,d2,e2,d3,e3,d4,e4⟩:=JK;by_cases cx:x<0
      .have PK:Hid (rW g S.data.toList 0 (-1) (-1) 0 0=E):=by have:=HN.out;rw[if_pos cx]at this;exact this.symm
       clear HN;go_wp2;refine bodyPost_ret (v:=V #[.agg #[J f,J x,J m,J k,O E 0 0],X U]) (by simp[results,Tryz.results22,go_sem,d0,d1,d2,d3,d4]) rfl ?_;exact .no kg rfl (.inr (.inl PK.out))
      .exact aAI
    rw[decide_eq_false WE]at aN1;rw[if_neg WE]at hN;by_cases ZL:S.data.toList[j]=109
    .rw[decide_eq_true ZL]at aJ5;rw[if_pos ZL]at hN;clear WE ZL aHC jc;obtain⟨x,hx⟩:=dK (gI fJ (g j));have HP:Hid (∀w',Gb (wr.alloc (.cells (fJ.map Value.string).toArray 9)) w'->QW 57 #[aC wr.heap.size fJ.length fJ.length,.string (g j)] w' (J x)):=λw' hg=>by rw[<-hx];exact Mc (BN fJ (g j)) de hg
     rw[hx]at hN;have HN:Hid _:=hN;clear hx hN;generalize g j=tj at*
     go_upto_region 19 with(go_at_call 57;refine kw (HP _ (Gb.refl _)) ?_);have JK:=(hLa.more (wr':=wr.alloc (.cells #[.string ⟨#[101,118,101,110]⟩,.string ⟨#[97,119,97,121]⟩,.string ⟨#[122,101,114,111]⟩,.string ⟨#[117,112]⟩,.string ⟨#[100,111,119,110]⟩] 9)) (Gb.alloc (Gb.refl _) _)).s2 x;obtain⟨W,hW⟩:=dK ((wr.alloc (.cells #[.string ⟨#[101,118,101,110]⟩,.string ⟨#[97,119,97,121]⟩,.string ⟨#[122,101,114,111]⟩,.string ⟨#[117,112]⟩,.string ⟨#[100,111,119,110]⟩] 9)).setCell ⟨w.heap.size+1,2,E⟩ (J x));rw[hW]at JK⊢
     clear hW hLa c0 y0 c1 y1 c2 y2 c3 y3 c4 y4 d0 e0 d1 e1 d2 e2 d3 e3 d4 e4 kA kB kC kD kE fA fB fC fD q1 q2;have HL2:Hid _:=JK;obtain⟨dH,⟨c0,y0,c1,y1,c2,y2,c3,y3,c4,y4⟩,d0,e0,d1,e1,d2,e2,d3,e3,d4,e4⟩:=JK;by_cases cx:x<0
     .have PK:Hid (rW g S.data.toList 0 (-1) (-1) 0 0=E):=by have:=HN.out;rw[if_pos cx]at this;exact this.symm
      clear HN;go_wp2;refine bodyPost_ret (v:=V #[.agg #[J f,J t,J x,J k,O E 0 0],X U]) (by simp[results,Tryz.results22,go_sem,d0,d1,d2,d3,d4]) rfl ?_;exact .no kg rfl (.inr (.inl PK.out))
     .exact aAI
    rw[decide_eq_false ZL]at aJ5;rw[if_neg ZL]at hN;by_cases aDq:S.data.toList[j]=107
    .rw[decide_eq_true aDq]at aHC;rw[if_pos aDq]at hN;clear WE ZL aDq jc;obtain⟨x,hx⟩:=dK (gI iG (g j));have HP:Hid (∀w',Gb (wr.alloc (.cells (iG.map Value.string).toArray 9)) w'->QW 57 #[aC wr.heap.size iG.length iG.length,.string (g j)] w' (J x)):=λw' hg=>by rw[<-hx];exact Mc (BN iG (g j)) de hg
     rw[hx]at hN;have HN:Hid _:=hN;clear hx hN;generalize g j=tj at*
     go_upto_region 19 with(go_at_call 57;refine kw (HP _ (Gb.refl _)) ?_);have JK:=(hLa.more (wr':=wr.alloc (.cells #[.string ⟨#[105,51,50]⟩,.string ⟨#[105,54,52]⟩,.string ⟨#[117,51,50]⟩,.string ⟨#[117,54,52]⟩] 9)) (Gb.alloc (Gb.refl _) _)).s3 x;obtain⟨W,hW⟩:=dK ((wr.alloc (.cells #[.string ⟨#[105,51,50]⟩,.string ⟨#[105,54,52]⟩,.string ⟨#[117,51,50]⟩,.string ⟨#[117,54,52]⟩] 9)).setCell ⟨w.heap.size+1,3,E⟩ (J x));rw[hW]at JK⊢
     clear hW hLa c0 y0 c1 y1 c2 y2 c3 y3 c4 y4 d0 e0 d1 e1 d2 e2 d3 e3 d4 e4 kA kB kC kD kE fA fB fC fD q1 q2;have HL2:Hid _:=JK;obtain⟨dH,⟨c0,y0,c1,y1,c2,y2,c3,y3,c4,y4⟩,d0,e0,d1,e1,d2,e2,d3,e3,d4,e4⟩:=JK;by_cases cx:x<0
     .have PK:Hid (rW g S.data.toList 0 (-1) (-1) 0 0=E):=by have:=HN.out;rw[if_pos cx]at this;exact this.symm
      clear HN;go_wp2;refine bodyPost_ret (v:=V #[.agg #[J f,J t,J m,J x,O E 0 0],X U]) (by simp[results,Tryz.results22,go_sem,d0,d1,d2,d3,d4]) rfl ?_;exact .no kg rfl (.inr (.inl PK.out))
     .exact aAI
    rw[decide_eq_false aDq]at aHC;rw[if_neg aDq]at hN;have HN:Hid _:=hN;clear WE ZL aDq jc hN;go_wp2;go_roundw
    case rel=>exact⟨j+1,_,_,_,_,om,by go_num,hLa,HN.out⟩
    case measure=>exact uz
   .obtain rfl:j=S.size:=om;have hN:=HRd.out;rw[<-dJ,aIJ]at hN;have HN:Hid (rW g S.data.toList 0 (-1) (-1) 0 0=I (f,t,m,k)):=hN.symm;clear HRd hN hLa;go_wp2;go_loop [9] (λi=>∃F:Nat,F<=S.size/\i=J (F:Int)/\Hid (∀j,j<F->g_ S j≠119)) (λi=>S.size-(intOf i).toNat)
    case atStart=>exact⟨0,Nat.zero_le _,rfl,λj hj=>absurd hj om⟩
    case round=>
     obtain⟨F,hF,rfl,HB⟩:=hrel;by_cases aDA:(F:Int)<(S.size:Int)
     .have q:=jO S F om;by_cases e:g_ S F=119
      .have cb:(g_ S F==119)=H:=by simp[e]
       have HFr:Hid (lq S F):=⟨hF,HB.out,λ_=>e⟩;clear e;exact aKj
      .have cb:(g_ S F==119)=U:=by simp[e]
       have HB2:Hid (∀j,j<F+1->g_ S j≠119):=λj hj=>by
        rcases Nat.lt_succ_iff_lt_or_eq.1 hj with h|rfl
        .exact HB j h
        .exact e
       clear e HB;go_wp2;go_round
       case rel=>exact⟨F+1,om,by go_num,HB2.out⟩
       case measure=>first|(simp[intOf];done)|(simp[intOf];omega)
     .have HFr:Hid (lq S F):=⟨hF,HB.out,λh=>absurd h om⟩;exact aKj
def aAJ{P:Prop}(h:P:=by
 have q:=dH.old (HCe j om);have HFj:Hid _:=HF j om;generalize W j=x at*
 go_upto_region 10 with fail;go_region_held3 (λw'=>rC w' w.heap.size 0 1 2 3 4 (J f) (J t) (J m) (J k) (aC b n cap)/\aA w' b j (Y x))(exact uf)((go_at_call 61;refine kw (HFj _) ?_))
 all_goals go_wp2<;>go_roundw
 case rel=>exact⟨j+1,om,by go_num,⟨kg,by refine⟨?_,?_,?_,?_,?_⟩<;>assumption⟩⟩
 case measure=>simp[intOf]<;>omega):P:=h
def aAK{P:Prop}(h:P:=by
 obtain⟨b,cap,rfl,yI,w_,aW⟩:=hr.at EP;have HCe:Hid (∀j,j<n->aA w b j (Y (W j))):=aW;have hn9:n<=9223372036854775807:=by unfold maxLen at w_;omega
 clear hr aW yI w_;go_enter func23,ntmps23;go_wp2;go_loopw [8] (λi wr=>∃j:Nat,j<=n/\i=J (j:Int)/\Lc w wr f t m k (aC b n cap)) (λi _=>n-(intOf i).toNat)
 case atStart=>exact⟨0,Nat.zero_le _,rfl,⟨kg,by simp[rC,go_sem]⟩⟩
 case round=>
  obtain⟨j,hj,rfl,hL⟩:=hrel;obtain⟨dH,c0,c1,c2,c3,c4⟩:=hL;by_cases fF:(j:Int)<(n:Int)
  .exact aAJ
  .obtain rfl:j=n:=om;have x0:=dH.old (HCe 0 om);have i0:(0:Int)<(j:Int):=om;clear HF;go_wp2;go_region_held3 (λw'=>rC w' w.heap.size 0 1 2 3 4 (J f) (J t) (J m) (J k) (aC b j cap)/\aA w' b 0 (Y (W 0)))(exact uf)(first|((first|go_at_call 62|go_at_call 63|go_at_call 64|go_at_call 65|go_at_call 66|go_at_call 67|go_at_call 68|go_at_call 69|go_at_call 70|go_at_call 71|go_at_call 72|go_at_call 73);refine ku (HO _) λw1 ak=>?_)|(go_at_call 59;refine ku (HR _) λw2 aB=>?_))
   all_goals go_wp2<;>go_returns
   all_goals exact⟨rfl,kg⟩):P:=h
def KL{P:Prop}(h:P:=by
 obtain⟨b,cap,rfl,yI,w_,aW⟩:=hr.at EP;have HCe:Hid (∀j,j<n->aA w b j (Y (W j))):=aW;have hn9:n<=9223372036854775807:=by unfold maxLen at w_;omega
 clear hr aW yI w_;go_enter func23,ntmps23;go_wp2;go_loopw [8] (λi wr=>∃j:Nat,j<=n/\i=J (j:Int)/\Lc w wr f t m k (aC b n cap)) (λi _=>n-(intOf i).toNat)
 case atStart=>exact⟨0,Nat.zero_le _,rfl,⟨kg,by simp[rC,go_sem]⟩⟩
 case round=>
  obtain⟨j,hj,rfl,hL⟩:=hrel;obtain⟨dH,c0,c1,c2,c3,c4⟩:=hL;by_cases fF:(j:Int)<(n:Int)
  .exact aAJ
  .obtain rfl:j=n:=om;have x0:=dH.old (HCe 0 om);have i0:(0:Int)<(j:Int):=om;have x1:=dH.old (HCe 1 om);have i1:(1:Int)<(j:Int):=om;clear HF;go_wp2;go_region_held3 (λw'=>kM w' b 0 1 (Y (W 0)) (Y (W 1))/\rC w' w.heap.size 0 1 2 3 4 (J f) (J t) (J m) (J k) (aC b j cap))(exact uf)(first|((first|go_at_call 62|go_at_call 63|go_at_call 64|go_at_call 65|go_at_call 66|go_at_call 67|go_at_call 68|go_at_call 69|go_at_call 70|go_at_call 71|go_at_call 72|go_at_call 73);refine ku (HO _) λw1 ak=>?_)|(go_at_call 59;refine ku (HR _) λw2 aB=>?_))
   all_goals go_wp2<;>go_returns
   all_goals exact⟨rfl,kg⟩):P:=h
structure Lc (w wr:World) (f t m k:Int) (v:Value):Prop where
 gb:Gb w wr
 c:rC wr w.heap.size 0 1 2 3 4 (J f) (J t) (J m) (J k) v
def Lc.more(h:Lc w wr f t m k v)(hg:Gb wr wr'):Lc w wr' f t m k v:=⟨h.gb.trans hg,hg.e5 _ _ _ _ _ _ _ _ _ _ _ h.c⟩
def aIr(hs:(s.toList==[105,110,116])=U)(f t m k:Int)(hr:Rd w .u64 v n n W)(EP:0<n)(ft:Nat->Bool)(HF:Hid (∀j,j<n->∀w,nP f (W j) w (ft j)))(hex:∃j,j<n/\ft j=U):
  nD s f t m k v w je:=by
 have HX:Hid _:=hex;clear hex;obtain⟨b,cap,rfl,yI,w_,aW⟩:=hr.at EP;have HCe:Hid (∀j,j<n->aA w b j (Y (W j))):=aW;have hn9:n<=9223372036854775807:=by unfold maxLen at w_;omega
 clear hr aW yI w_;go_enter func23,ntmps23;go_wp2;go_loopw [8] (λi wr=>∃j:Nat,j<=n/\i=J (j:Int)/\Lc w wr f t m k (aC b n cap)/\Hid (∀i,i<j->ft i=H)) (λi _=>n-(intOf i).toNat)
 case atStart=>exact⟨0,Nat.zero_le _,rfl,⟨kg,by simp[rC,go_sem]⟩,λi hi=>absurd hi om⟩
 case round=>
  obtain⟨j,hj,rfl,hL,HB⟩:=hrel;obtain⟨dH,c0,c1,c2,c3,c4⟩:=hL;by_cases fF:(j:Int)<(n:Int)
  .have q:=dH.old (HCe j om);have HFj:Hid _:=HF j om;have HB2:Hid (ft j=H->∀i,i<j+1->ft i=H):=λh i hi=>by
    rcases Nat.lt_succ_iff_lt_or_eq.1 hi with c|rfl
    .exact HB i c
    .exact h
   obtain⟨fj,hfj⟩:=dK (ft j);rw[hfj]at HFj HB2;clear hfj;generalize W j=x at*
   go_upto_region 10 with fail;go_region_held3 (λw'=>rC w' w.heap.size 0 1 2 3 4 (J f) (J t) (J m) (J k) (aC b n cap)/\aA w' b j (Y x))(exact uf)((go_at_call 61;refine kw (HFj _) ?_))
   all_goals
    cases fj
    .go_wp2;go_returns;exact⟨rfl,kg⟩
    .have HB3:Hid _:=HB2 rfl;go_wp2;go_roundw
     case rel=>exact⟨j+1,om,by go_num,⟨kg,by refine⟨?_,?_,?_,?_,?_⟩<;>assumption⟩,HB3.out⟩
     case measure=>exact uz
  .exfalso;obtain⟨i,h1,h2⟩:=HX.out;have:=HB i om;rw[h2]at this;cases this
def aFa(f t m k:Int)(hr:Rd w .u64 v n n W)(EP:0<n)(HF:Hid (∀j,j<n->∀w,nP f (W j) w H))(HR:uM z fl A)(hn:2<=n)(HO:KB 62 #[J f,J m,Y (W 0),Y (W 1)] (aP z fl)):
  nD (tx [97,100,100]) f t m k v w A:=by
 exact KL
def aE2(f t m k:Int)(hr:Rd w .u64 v n n W)(EP:0<n)(HF:Hid (∀j,j<n->∀w,nP f (W j) w H))(HR:uM z fl A)(hn:2<=n)(HO:KB 63 #[J f,J m,Y (W 0),Y (W 1)] (aP z fl)):
  nD (tx [115,117,98]) f t m k v w A:=by
 exact KL
def aE4(f t m k:Int)(hr:Rd w .u64 v n n W)(EP:0<n)(HF:Hid (∀j,j<n->∀w,nP f (W j) w H))(HR:uM z fl A)(hn:2<=n)(HO:KB 64 #[J f,J m,Y (W 0),Y (W 1)] (aP z fl)):
  nD (tx [109,117,108]) f t m k v w A:=by
 exact KL
def aE8(f t m k:Int)(hr:Rd w .u64 v n n W)(EP:0<n)(HF:Hid (∀j,j<n->∀w,nP f (W j) w H))(HR:uM z fl A)(hn:3<=n)(HO:KB 65 #[J f,J m,Y (W 0),Y (W 1),Y (W 2)] (aP z fl)):
  nD (tx [102,109,97]) f t m k v w A:=by
 obtain⟨b,cap,rfl,yI,w_,aW⟩:=hr.at EP;have HCe:Hid (∀j,j<n->aA w b j (Y (W j))):=aW;have hn9:n<=9223372036854775807:=by unfold maxLen at w_;omega
 clear hr aW yI w_;go_enter func23,ntmps23;go_wp2;go_loopw [8] (λi wr=>∃j:Nat,j<=n/\i=J (j:Int)/\Lc w wr f t m k (aC b n cap)) (λi _=>n-(intOf i).toNat)
 case atStart=>exact⟨0,Nat.zero_le _,rfl,⟨kg,by simp[rC,go_sem]⟩⟩
 case round=>
  obtain⟨j,hj,rfl,hL⟩:=hrel;obtain⟨dH,c0,c1,c2,c3,c4⟩:=hL;by_cases fF:(j:Int)<(n:Int)
  .exact aAJ
  .obtain rfl:j=n:=om;have x0:=dH.old (HCe 0 om);have i0:(0:Int)<(j:Int):=om;have x1:=dH.old (HCe 1 om);have i1:(1:Int)<(j:Int):=om;have x2:=dH.old (HCe 2 om);have i2:(2:Int)<(j:Int):=om;clear HF;go_wp2;go_region_held3 (λw'=>jv w' b 0 1 2 (Y (W 0)) (Y (W 1)) (Y (W 2))/\rC w' w.heap.size 0 1 2 3 4 (J f) (J t) (J m) (J k) (aC b j cap))(exact uf)(first|((first|go_at_call 62|go_at_call 63|go_at_call 64|go_at_call 65|go_at_call 66|go_at_call 67|go_at_call 68|go_at_call 69|go_at_call 70|go_at_call 71|go_at_call 72|go_at_call 73);refine ku (HO _) λw1 ak=>?_)|(go_at_call 59;refine ku (HR _) λw2 aB=>?_))
   all_goals go_wp2<;>go_returns
   all_goals exact⟨rfl,kg⟩
def aE9(f t m k:Int)(hr:Rd w .u64 v n n W)(EP:0<n)(HF:Hid (∀j,j<n->∀w,nP f (W j) w H))(HR:uM z fl A)(hn:2<=n)(HO:KB 66 #[J f,J m,Y (W 0),Y (W 1)] (aP z fl)):
  nD (tx [100,105,118]) f t m k v w A:=by
 exact KL
def aB3(f t m k:Int)(hr:Rd w .u64 v n n W)(EP:0<n)(HF:Hid (∀j,j<n->∀w,nP f (W j) w H))(HR:uM z fl A)(hn:1<=n)(HO:KB 67 #[J f,J m,Y (W 0)] (aP z fl)):
  nD (tx [115,113,114,116]) f t m k v w A:=by
 exact aAK
def aE3(f t m k:Int)(hr:Rd w .u64 v n n W)(EP:0<n)(HF:Hid (∀j,j<n->∀w,nP f (W j) w H))(HR:uM z fl A)(hn:2<=n)(HO:KB 68 #[J f,Y (W 0),Y (W 1)] (aP z fl)):
  nD (tx [114,101,109]) f t m k v w A:=by
 exact KL
def YJ(f t m k:Int)(hr:Rd w .u64 v n n W)(EP:0<n)(HF:Hid (∀j,j<n->∀w,nP f (W j) w H))(HR:uM z fl A)(hn:1<=n)(HO:KB 69 #[J f,J m,J k,Y (W 0)] (aP z fl)):
  nD (tx [116,111,105,110,116]) f t m k v w A:=by
 exact aAK
def RD(f t m k:Int)(hr:Rd w .u64 v n n W)(EP:0<n)(HF:Hid (∀j,j<n->∀w,nP f (W j) w H))(HR:uM z fl A)(hn:1<=n)(HO:KB 70 #[J f,J t,J m,Y (W 0)] (aP z fl)):
  nD (tx [99,111,110,118,101,114,116]) f t m k v w A:=by
 exact aAK
def YK(f t m k:Int)(hr:Rd w .u64 v n n W)(EP:0<n)(HF:Hid (∀j,j<n->∀w,nP f (W j) w H))(HR:uM z fl A)(hn:1<=n)(HO:KB 71 #[J f,J m,Y (W 0),X H] (aP z fl)):
  nD (tx [114,111,117,110,100]) f t m k v w A:=by
 exact aAK
def aE5(f t m k:Int)(hr:Rd w .u64 v n n W)(EP:0<n)(HF:Hid (∀j,j<n->∀w,nP f (W j) w H))(HR:uM z fl A)(hn:2<=n)(HO:KB 72 #[J f,Y (W 0),Y (W 1)] (aP z fl)):
  nD (tx [109,105,110]) f t m k v w A:=by
 exact KL
def aE6(f t m k:Int)(hr:Rd w .u64 v n n W)(EP:0<n)(HF:Hid (∀j,j<n->∀w,nP f (W j) w H))(HR:uM z fl A)(hn:2<=n)(HO:KB 73 #[J f,Y (W 0),Y (W 1)] (aP z fl)):
  nD (tx [109,97,120]) f t m k v w A:=by
 exact KL
def aE7(f t m k:Int)(hr:Rd w .u64 v n n W)(EP:0<n)(HR:uM z fl A)(ok:Bool)(HI:Hid (∀w,CT 58 #[J k,Y (W 0)] w λe w'=>∃s b kk c,e=Z (V #[.agg #[J s,aC b kk c,J 0,X U],X ok])/\Gb w w'))(HO:KB 60 #[J f,J m,J k,Y (W 0)] (aP z fl)):
  nD (tx [105,110,116]) f t m k v w (if ok=H then A else je):=by
 obtain⟨b,cap,rfl,yI,w_,aW⟩:=hr.at EP;have x0:=aW 0 EP;have i0:(0:Int)<(n:Int):=om;have x1:=λob=>aZ ob x0;have hb:=au x0;have jV:¬(w.heap.size+1=b):=om;have aUs:¬(w.heap.size=b):=om;clear hr aW yI w_;go_enter func23,ntmps23;go_wp2;go_region_held3 (λw'=>rC w' w.heap.size 0 1 2 3 4 (J f) (J t) (J m) (J k) (aC b n cap)/\aA w' b 0 (Y (W 0)))((go_split_ands;(repeat' apply And.intro)<;>first|(with_reducible assumption)|(simp[go_sem, *];done)|exact kb))((go_at_call 58;refine(HI _).mono ?_;rintro e w1 ⟨s1,b1,k1,c1,rfl,ak⟩;first|(obtain⟨p0,r0,p1,r1,p2,r2,p3,r3⟩:qL w1 (w.heap.size+1) 0 1 2 3 (J 0) (O E 0 0) (J 0) (X U);focus (refine ak.y4 _ 0 1 2 3 _ _ _ _ ?_;simp[qL,go_sem];done))|skip))
 all_goals
  cases ok
  .go_wp2;go_returns;exact⟨rfl,kg⟩
  .go_wp2;go_region_held3 (λw'=>rC w' w.heap.size 0 1 2 3 4 (J f) (J t) (J m) (J k) (aC b n cap)/\aA w' b 0 (Y (W 0)))((go_split_ands;(repeat' apply And.intro)<;>first|(with_reducible assumption)|(simp[go_sem, *];done)|exact kb))(first|(go_at_call 60;refine ku (HO _) λw2 aB=>?_)|(go_at_call 59;refine ku (HR _) λw3 aK=>?_))
   all_goals go_wp2<;>go_returns
   all_goals exact⟨rfl,kg⟩
def aKk{P:Prop}(h:P:=by
 have H1:Hid _:=uP o o0 o1;have H2:Hid _:=uP fl f0 f1;have z1:=iI o o0 o1;have z2:=iI fl f0 f1;rw[<-eF]at z1 z2;generalize tx (Lib.itoa o)=t1 at*
 generalize tx (Lib.itoa fl)=t2 at*
 have g1:¬9223372036854775807<t1.size+1:=om;have g2:t1.size+1<=9223372036854775807:=om;have g3:¬9223372036854775807<t1.size+1+t2.size:=om;have g4:t1.size+1+t2.size<=9223372036854775807:=om;clear o0 o1 f0 f1;obtain⟨b,cap,rfl,yI,w_,aW⟩:=hr.at EP;have HCe:Hid (∀j,j<n->aA w b j (Y (W j))):=aW;have hn9:n<=9223372036854775807:=by unfold maxLen at w_;omega
 clear hr aW yI w_;go_enter func23,ntmps23;go_wp2;go_loopw [8] (λi wr=>∃j:Nat,j<=n/\i=J (j:Int)/\Lc w wr f t m k (aC b n cap)) (λi _=>n-(intOf i).toNat)
 case atStart=>exact⟨0,Nat.zero_le _,rfl,⟨kg,by simp[rC,go_sem]⟩⟩
 case round=>
  obtain⟨j,hj,rfl,hL⟩:=hrel;obtain⟨dH,c0,c1,c2,c3,c4⟩:=hL;by_cases fF:(j:Int)<(n:Int)
  .exact aAJ
  .obtain rfl:j=n:=om;have x0:=dH.old (HCe 0 om);have x1:=dH.old (HCe 1 om);have i0:(0:Int)<(j:Int):=om;have i1:(1:Int)<(j:Int):=om;clear HF;go_wp2;go_region_held3 (λw'=>kM w' b 0 1 (Y (W 0)) (Y (W 1))/\rC w' w.heap.size 0 1 2 3 4 (J f) (J t) (J m) (J k) (aC b j cap))(exact uf)((go_at_call 74;refine ku (HO _) λw1 ak=>?_))
   all_goals go_wp2_with (go_at_call 45;first|(with_reducible refine ku (H1.out _) λw2 aB=>?_)|(with_reducible refine ku (H2.out _) λw3 aK=>?_))
   all_goals go_returns
   all_goals exact⟨rfl,kg⟩):P:=h
def RF(f t m k:Int)(hr:Rd w .u64 v n n W)(EP:0<n)(HF:Hid (∀j,j<n->∀w,nP f (W j) w H))(hn:2<=n)(o0:-9223372036854775808<=o)(o1:o<=9223372036854775807)(f0:-9223372036854775808<=fl)(f1:fl<=9223372036854775807)(HO:KB 74 #[J f,Y (W 0),Y (W 1),X U] (V #[J o,J fl])):
  nD (tx [99,111,109,112,97,114,101]) f t m k v w (tx (Lib.itoa o)++tx [32]++tx (Lib.itoa fl)):=by
 exact aKk
def Vh(f t m k:Int)(hr:Rd w .u64 v n n W)(EP:0<n)(HF:Hid (∀j,j<n->∀w,nP f (W j) w H))(hn:2<=n)(o0:-9223372036854775808<=o)(o1:o<=9223372036854775807)(f0:-9223372036854775808<=fl)(f1:fl<=9223372036854775807)(HO:KB 74 #[J f,Y (W 0),Y (W 1),X H] (V #[J o,J fl])):
  nD (tx [115,105,103,110,97,108]) f t m k v w (tx (Lib.itoa o)++tx [32]++tx (Lib.itoa fl)):=by
 exact aKk
def oQ.take{g:Nat->ByteArray}(h:oQ w v n g)(l:Nat)(hl:l<=n):∃v',(∀w',(Instr.slice 26 v E (I (J (l:Int))) E).run Tryz.prog w'=.ok v' w')/\oQ w v' l g:=by
 obtain⟨a,cap,rfl,h1,h2,hc⟩:=h;refine⟨O (if cap=0 then a else a.map (·.add 0)) l cap,λw'=>?_,?_⟩
 .have z:=Tryz.sizeOf9;rw[run_slice_h (P:=Tryz.prog) w' 26 a n cap (by rw[Jd];exact Tryz.underlying26) .i64 (l:Int) om (by omega)];simp[sliced,Jd,z]
 .refine⟨_,_,rfl,om,h2,λhn=>?_⟩;obtain⟨b,o,rfl,Df⟩:=hc om;rw[if_neg (by omega)];exact⟨b,o,by simp[Addr.add],λj hj=>Df j om⟩
def xX.any(h:xX w s e w'):∃t ok,e=Z (V #[.string t,X ok])/\Gb w w'/\Hid ((ok=H↔s.size%2=0/\0<s.size/\uj s.data.toList≠E)/\(ok=H->∃l,uj s.data.toList=I l/\t=tx l)):=by
 obtain⟨hg,t,ok,h1,h2,h3⟩:=h;exact⟨t,ok,h1,hg,h2,h3⟩
def aHT(n:Nat)(g:Nat->ByteArray):Prop:=n=4/\(∀j,j<3->aQ 16 (g j)≠E)/\(g 3).size %2=0/\0<(g 3).size /\uj (g 3).data.toList ≠E
abbrev aPh(a b c d:Int):ByteArray:=tx (Lib.itoa a)++tx [32]++tx (Lib.itoa b)++tx [32]++tx (Lib.itoa c)++tx [32]++tx (Lib.itoa d)
def PZ{g:Nat->ByteArray}(hr:oQ w v n g)(hn:n<=1000000)(hs:∀j,j<n->(g j).size <=1048576)(zT:¬aHT n g):QB 20 #[v] w (.string je):=by
 by_cases h4:n=4
 case neg=>
  obtain⟨a,cap,rfl,_⟩:=hr;have c:((n:Int)==4)=U:=beq_false_of_ne om;go_enter func20,ntmps20;go_wp2;go_returns;exact⟨rfl,kg⟩
 case pos=>
  subst h4;obtain⟨v3,Nr,hr3⟩:=hr.take 3 de;have JH:∀w',(Instr.slice 26 v E (I (J 3)) E).run Tryz.prog w'=.ok v3 w':=Nr;clear Nr;have HW:Hid (∀w',Gb w w'->CT 54 #[v3] w' λe aT=>qB w' 3 g (λj=>(aQ 16 (g j)).getD 0) e aT):=λw' hg=>Ye (hr3.gb hg) de;have HB:Hid _:=aHx (g 3) (hs 3 de);have HN:Hid _:=zT;obtain⟨a,cap,rfl,h1,h2,aW⟩:=hr;obtain⟨b,o,rfl,hc⟩:=aW de;have q:=hc 3 de;clear hr3 aW hc zT hs hn h1 h2;go_enter func20,ntmps20;go_upto_region 5 with(first|(go_at_call 54;refine(HW _ kg).mono ?_;rintro e w2 hW7;obtain⟨va,vl,vc,ok,rfl,aB,HU⟩:=qB.any hW7;clear hW7;have q2:=aB.old q)|(go_at_call 55;refine(HB _).mono ?_;rintro e w3 hB7;obtain⟨td,ok2,rfl,aK,HD⟩:=xX.any hB7;clear hB7))
  have aNm:ok=U\/ok2=U:=by
   rcases HU.out with⟨rfl,h1,_⟩|⟨rfl,_⟩
   .cases ok2
    .exact .inr rfl
    .exact absurd ⟨rfl,h1,HD.out.1.1 rfl⟩ HN.out
   .exact .inl rfl
  clear HU HD;cases ok
  .go_wp2;go_returns;exact⟨rfl,kg⟩
  .obtain rfl:ok2=U:=by simpa using aNm
   go_wp2;go_returns;exact⟨rfl,kg⟩
def YL{g:Nat->ByteArray}(hr:oQ w v 4 g)(hs:(g 3).size <=1048576)(W:Nat->Int)(hW:∀j,j<3->aQ 16 (g j)=I (W j))(l:List UInt8)(hz:(g 3).size %2=0/\0<(g 3).size)(hl:uj (g 3).data.toList =I l){b:Int}(ha:-9223372036854775808<=a/\a<=9223372036854775807)(hb:-9223372036854775808<=b/\b<=9223372036854775807)(hc:-9223372036854775808<=c/\c<=9223372036854775807)(hd:-9223372036854775808<=d/\d<=9223372036854775807)
  (HS:KB 56 #[Y (W 0),Y (W 1),Y (W 2),.string (tx l)] (.agg #[J a,J b,J c,J d])):QB 20 #[v] w (.string (aPh a b c d)):=by
 have H1:Hid _:=uP a ha.1 ha.2;have H2:Hid _:=uP b hb.1 hb.2;have H3:Hid _:=uP c hc.1 hc.2;have H4:Hid _:=uP d hd.1 hd.2;have z1:=iI a ha.1 ha.2;have z2:=iI b hb.1 hb.2;have z3:=iI c hc.1 hc.2;have z4:=iI d hd.1 hd.2;rw[<-eF]at z1 z2 z3 z4;unfold aPh;generalize tx (Lib.itoa a)=t1 at*
 generalize tx (Lib.itoa b)=t2 at*
 generalize tx (Lib.itoa c)=t3 at*
 generalize tx (Lib.itoa d)=t4 at*
 have g0:¬9223372036854775807<t1.size+1:=om;have k0:t1.size+1<=9223372036854775807:=om;have g1:¬9223372036854775807<t1.size+1+t2.size:=om;have k1:t1.size+1+t2.size<=9223372036854775807:=om;have g2:¬9223372036854775807<t1.size+1+t2.size+1:=om;have k2:t1.size+1+t2.size+1<=9223372036854775807:=om;have g3:¬9223372036854775807<t1.size+1+t2.size+1+t3.size:=om;have k3:t1.size+1+t2.size+1+t3.size<=9223372036854775807:=om;have g4:¬9223372036854775807<t1.size+1+t2.size+1+t3.size+1:=om;have k4:t1.size+1+t2.size+1+t3.size+1<=9223372036854775807:=om;have g5:¬9223372036854775807<t1.size+1+t2.size+1+t3.size+1+t4.size:=om;have k5:t1.size+1+t2.size+1+t3.size+1+t4.size<=9223372036854775807:=om;clear ha hb hc hd;obtain⟨v3,Nr,hr3⟩:=hr.take 3 de;have JH:∀w',(Instr.slice 26 v E (I (J 3)) E).run Tryz.prog w'=.ok v3 w':=Nr;clear Nr;have HW:Hid (∀w',Gb w w'->CT 54 #[v3] w' λe aT=>qB w' 3 g (λj=>(aQ 16 (g j)).getD 0) e aT):=λw' hg=>Ye (hr3.gb hg) de;have HB:Hid _:=aHx (g 3) hs;have HZ:Hid ((g 3).size %2=0/\0<(g 3).size /\uj (g 3).data.toList ≠E):=⟨hz.1,hz.2,by rw[hl];exact Option.some_ne_none _⟩;have HL:Hid _:=hl;have HV:Hid _:=hW;obtain⟨pa,cap,rfl,h1,h2,aW⟩:=hr;obtain⟨pb,o,rfl,Oz⟩:=aW de;have q:=Oz 3 de;clear hr3 aW Oz h1 h2 hW hl hz hs;go_enter func20,ntmps20;go_upto_region 5 with(first|(go_at_call 54;refine(HW _ kg).mono ?_;rintro e w2 hW7;obtain⟨va,vl,vc,ok,rfl,aB,HU⟩:=qB.any hW7;clear hW7;have q2:=aB.old q)|(go_at_call 55;refine(HB _).mono ?_;rintro e w3 hB7;obtain⟨td,ok2,rfl,aK,HD⟩:=xX.any hB7;clear hB7))
 obtain rfl:ok2=H:=HD.out.1.2 HZ.out;obtain⟨l',Tj,rfl⟩:=HD.out.2 rfl;obtain rfl:l'=l:=Option.some.inj (Tj.symm.trans HL.out);rcases HU.out with⟨rfl,_,how⟩|⟨_,j,hj,hj2⟩
 case inr=>exact absurd hj2 (by rw[HV.out j hj];exact Option.some_ne_none _)
 obtain⟨bw,cw,hv,_,hbw,_,_,hcw⟩:=how.at de;simp only[Value.slice.injEq]at hv;obtain⟨rfl,rfl,rfl⟩:=hv;have e0:=aK.old ((hcw 0 de).1);have e1:=aK.old ((hcw 1 de).1);have e2:=aK.old ((hcw 2 de).1);simp only[HV.out 0 de,HV.out 1 de,HV.out 2 de,Option.getD_some]at e0 e1 e2;have aUB:=au e0;clear how hcw HU HD HZ HL HV Tj HW HB q q2 JH;have n0:¬(w3.heap.size=bw):=om;go_wp2;go_region_held3 (λw'=>aA w' bw 0 (Y (W 0))/\aA w' bw 1 (Y (W 1))/\aA w' bw 2 (Y (W 2)))((go_split_ands;(repeat' apply And.intro)<;>first|(with_reducible assumption)|(simp[go_sem, *];done)|exact kb))((go_at_call 56;refine ku (HS _) λw4 aV=>?_;first|(obtain⟨p0,r0,p1,r1,p2,r2,p3,r3⟩:qL w4 w3.heap.size 0 1 2 3 (J 0) (J 0) (J 0) (J 0);focus (refine aV.y4 _ 0 1 2 3 _ _ _ _ ?_;simp[qL,go_sem];done))|skip))
 all_goals go_wp2<;>first|(go_region_held3 (λw'=>oV w' w3.heap.size 0 1 2 3 (J a) (J b) (J c) (J d)) ((go_split_ands;(repeat' apply And.intro)<;>first|(with_reducible assumption)|(simp[go_sem, *];done)|exact kb)) ((go_at_call 45;first|(with_reducible refine ku (H1.out _) λy1 aPL=>?_)|(with_reducible refine ku (H2.out _) λy2 aPK=>?_)|(with_reducible refine ku (H3.out _) λy3 aPJ=>?_)|(with_reducible refine ku (H4.out _) λy4 aPI=>?_))))|(go_region_held3 (λw'=>oV w' w4.heap.size 0 1 2 3 (J a) (J b) (J c) (J d)) ((go_split_ands;(repeat' apply And.intro)<;>first|(with_reducible assumption)|(simp[go_sem, *];done)|exact kb)) ((go_at_call 45;first|(with_reducible refine ku (H1.out _) λy1 aPL=>?_)|(with_reducible refine ku (H2.out _) λy2 aPK=>?_)|(with_reducible refine ku (H3.out _) λy3 aPJ=>?_)|(with_reducible refine ku (H4.out _) λy4 aPI=>?_))))
 all_goals go_wp2<;>go_returns
 all_goals exact⟨rfl,kg⟩
def aKi{P:Prop}(h:P:=by
 have HC:Hid (∀w,CT 9 #[.string s,.int .u8 32] w λe w'=>∃v,e=Z v/\Os w' w.heap.size v (f_ 32 s)/\Gb w w'):=aHp 32 s om;have hp:=V5 s;have Qs:(0:Int)<(uV s:Int):=om;exact aOh):P:=h
abbrev prt(s:ByteArray)(j:Nat):ByteArray:=(f_ 32 s).getD j default
abbrev uV(s:ByteArray):Nat:=(f_ 32 s).length
def V5(s:ByteArray):0<uV s:=by
 have:=List.length_pos_iff.2 (Ej 32 s.data.toList)
 simpa[uV,f_]using this
def SA(s:ByteArray):uV s<=s.size+1:=by
 have:=Ei 32 s.data.toList;rw[dJ]at this
 simpa[uV,f_]using this
def aOh{P:Prop}(h:P:=by
 go_enter func10,ntmps10;go_upto_region 2 with(go_at_call 9;refine(HC _).mono ?_;rintro e w1 ⟨v,rfl,hos,ak⟩);have FK:=Os.rs hos;obtain⟨v1,Nr,tK⟩:=FK.cut 1 hp;have JH:∀w',(Instr.slice 26 v (I (J 1)) E E).run Tryz.prog w'=.ok v1 w':=Nr;have HR:Hid (oQ w1 v1 (uV s-1) (λj=>prt s (1+j))):=tK;clear hos tK Nr;obtain⟨a,cap,rfl,h1,h2,aW⟩:=FK;obtain⟨b,o,rfl,hc⟩:=aW hp;have q:aA w1 b o (.string (prt s 0)):=hc 0 hp;rw[h0]at q;clear aW hc h1 h2 h0;go_wp2_with (first|(go_at_call 19;refine ku (HP _ _ HR.out) λw2 aB=>?_)|(go_at_call 20;refine ku (HP _ _ HR.out) λw2 aB=>?_))
 go_returns;exact⟨rfl,kg⟩):P:=h
def aC6(s:ByteArray)(hs:s.size<=100000)(h0:prt s 0=tx [112,111,108,121])(HP:Hid (∀w v,oQ w v (uV s-1) (λj=>prt s (1+j))->QB 19 #[v] w (.string A)))(w:World):QB 10 #[.string s] w (.string A):=by
 exact aKi
def IY(s:ByteArray)(hs:s.size<=100000)(h0:prt s 0=tx [115,97,109,112,108,101])(HP:Hid (∀w v,oQ w v (uV s-1) (λj=>prt s (1+j))->QB 20 #[v] w (.string A)))(w:World):QB 10 #[.string s] w (.string A):=by
 exact aKi
def F7(s S:ByteArray):Prop:=S.size≠0/\uV s-1=S.size/\(rW (λj=>prt s (1+j)) S.data.toList 0 (-1) (-1) 0 0≠E)/\∀F j,lq S F->F<=j->j<uV s-1->aQ 16 (prt s (1+j))≠E
def Wq(s:ByteArray)(hs:s.size<=100000)(hr:InL jP (prt s 0) r)(r0:-1<=r)(r1:r<15)(S:ByteArray)(hS:shapeOf r=S)(hS9:S.size<=100)(np:prt s 0≠tx [112,111,108,121])(nq:prt s 0≠tx [115,97,109,112,108,101])(zT:¬F7 s S->A=je)
  (HP:Hid (∀w f t m k v F,F7 s S->rW (λj=>prt s (1+j)) S.data.toList 0 (-1) (-1) 0 0=I (f,t,m,k)->lq S F->Rd w .u64 v (uV s-1-F) (uV s-1-F) (λj=>(aQ 16 (prt s (1+(F+j)))).getD 0)->nD (prt s 0) f t m k v w A)) (w:World):QB 10 #[.string s] w (.string A):=by
 have HC:Hid (∀w,CT 9 #[.string s,.int .u8 32] w λe w'=>∃v,e=Z v/\Os w' w.heap.size v (f_ 32 s)/\Gb w w'):=aHp 32 s om;have hp:=V5 s;have Qs:(0:Int)<(uV s:Int):=om;generalize hp0:prt s 0=p0 at*
 have HP0:Hid (prt s 0=p0):=hp0;clear hp0;have HSh:Hid _:=aIq hr r0 r1;rw[hS]at HSh;have HN:Hid _:=zT;have hn9:=SA s;have cp:=xE np;have cq:=xE nq;simp only[ByteArray.toList_mk]at cp cq;clear hr r0 r1 hS np nq zT;go_enter func10,ntmps10;go_upto_region 2 with(go_at_call 9;refine(HC _).mono ?_;rintro e w1 ⟨v,rfl,hos,ak⟩);have FK:=Os.rs hos;obtain⟨v1,Nr,tK⟩:=FK.cut 1 hp;have JH:∀w',(Instr.slice 26 v (I (J 1)) E E).run Tryz.prog w'=.ok v1 w':=Nr;have HR:Hid (oQ w1 v1 (uV s-1) (λj=>prt s (1+j))):=tK;clear hos tK Nr;obtain⟨a,cap,rfl,h1,h2,aW⟩:=FK;obtain⟨b,o,rfl,hc⟩:=aW hp;have q:w1.cell? ⟨b,o,E⟩=I (.string p0):=by rw[<-HP0.out];exact hc 0 hp
 have HRd:Hid (∀w',Gb w1 w'->CT 22 #[.string S,v1] w' λe aT=>Ew w' S (uV s-1) (λj=>prt s (1+j)) e aT):=λw' hg=>aOC S hS9 (HR.out.gb hg) om;clear aW hc h1 h2 HR;go_upto_region 8 with(first|(go_at_call 21;refine ku (HSh _) λw2 aB=>?_;have q2:=aB.old q)|(go_at_call 22;refine(HRd _ kg).mono ?_;rintro e w3 h7;obtain⟨f,t,m,k,va,vl,vc,ok,rfl,aK,HU⟩:=Ew.any h7;clear h7;have q3:=aK.old q2;have q4:=λob=>aZ ob q3))
 by_cases hz:S.size=0
 .have c:(S.size:Int)=0:=om;obtain rfl:=HN (λh=>h.1 hz);clear HU hz HN;go_wp2;go_returns;exact⟨rfl,kg⟩
 have c:((S.size:Int)==0)=U:=beq_false_of_ne om;rcases HU.out with⟨rfl,CP⟩|⟨rfl,hn,hrd,F,hF,hall,hRd⟩
 .have hx:¬F7 s S:=λh=>by
   rcases CP with h1|h1|⟨F,j,h1,h2,h3,h4⟩
   .exact h1 h.2.1
   .exact h.2.2.1 h1
   .exact h.2.2.2 F j h1 h2 h3 h4
  obtain rfl:=HN hx;clear HU hz HN hx CP;go_wp2;go_returns;exact⟨rfl,kg⟩
 .have Bc:F7 s S:=⟨hz,hn,by rw[hrd];exact Option.some_ne_none _,λF' j h1 h2 h3=>by
   have:F'=F:=by
    rcases Nat.lt_trichotomy F F' with c|c|c
    .exact absurd (hF.2.2 (by have:=h1.1;omega)) (h1.2.1 F c)
    .exact c.symm
    .exact absurd (h1.2.2 (by have:=hF.1;omega)) (hF.2.1 F' c)
   exact hall j om h3⟩
  have HS:Hid (∀w',Gb w3 w'->QB 23 #[.string p0,.agg #[J f,J t,J m,J k,O va vl vc]] w' (.string A)):=λw' hg=>HP w' f t m k _ F Bc hrd hF (hRd.gb hg);have qm:=au q3;have jV:¬(w3.heap.size=b):=om;clear HU hz HN Bc hrd hF hall hRd hn HP;go_wp2;go_region_held3 (λw'=>aA w' b o (.string p0)/\rC w' w3.heap.size 0 1 2 3 4 (J f) (J t) (J m) (J k) (O va vl vc))((go_split_ands;(repeat' apply And.intro)<;>first|(with_reducible assumption)|(simp[go_sem, *];done)|exact kb))((go_at_call 23;refine ku (HS _ kg) λw4 aV=>?_))
  all_goals go_wp2<;>go_returns
  all_goals exact⟨rfl,kg⟩
def vW(s:ByteArray):List ByteArray:=if(f_ 10 s).getLast? =I (tx [])then(f_ 10 s).dropLast else f_ 10 s
def xI(an:Nat->ByteArray):Nat->List UInt8
 |0=>[]
 |j+1=>xI an j++(an j).data.toList ++[10]
def aF0{an:Nat->ByteArray}(h:∀j,(an j).size <=5000)(j:Nat):(xI an j).length <=5001*j:=by
 induction j with
 |zero=>simp[xI]
 |succ j ih=>
  have:=h j;have e:=dJ (an j);simp only[xI,List.length_append,List.length_singleton,e];omega
def yC(s:ByteArray)(an:Nat->ByteArray):ByteArray:=if 100000<s.size\/1000<(vW s).length then tx [116,111,111,32,108,111,110,103,10]else tx (xI an (vW s).length)
def PS{P:Prop}(h:P:=by
 go_wp2;go_returns;exact⟨bU (congrArg Value.string HE.out.symm),kg⟩):P:=h
def aKl{P:Prop}(h:P:=by
 have q:=dH.old (hc j om);have HLj:Hid _:=HLn j om om;have hsj:=HSz j;have HO2:Hid (l++(an j).data.toList ++[10]=xI an (j+1)):=by show _=_;rw[xI,HO.out]
 have BH:Hid (∀w2,Gb wr w2->By w2 w1.heap.size _ l):=λw2 hg=>Lr.gb iU hg;generalize an j=t at*
 clear iU hc HO;go_upto_region 12 with(go_at_call 10;refine ku (HLj _) λw4 aV=>?_);have HW4:Hid (By w4 w1.heap.size _ l):=BH _ aV;have hz4:=aV.size;have aSi:Gb w1 w4:=dH.trans aV;clear BH q;go_loopw [4,7] (λo i wr=>∃k2:Nat,k2<=t.size/\i=J (k2:Int)/\By wr w1.heap.size o (l++t.data.toList.take k2)/\Gb w1 wr) (λ_ i _=>t.size-(intOf i).toNat)
 case atStart=>exact⟨0,Nat.zero_le _,rfl,by simpa using HW4.out,aSi⟩
 case round=>
  obtain⟨k2,lX,rfl,aPB,FN⟩:=hrel;have aPt:=FN.size;have HO3:Hid (∀w2,Gb wr w2->By w2 w1.heap.size _ (l++t.data.toList.take k2)):=λw2 hg=>Lr.gb aPB hg;clear aPB;have oG:(l++t.data.toList.take k2).length <=10000000:=by rw[List.length_append,List.length_take];omega
  by_cases C_:(k2:Int)<(t.size:Int)
  .have Py:k2<t.data.toList.length:=by rw[dJ];omega
   have qi:=jO t k2 om;have HB:Hid (g_ t k2=((t.data.toList[k2]).toNat :Int)):=Aj t k2 Py;have HT:Hid (t.data.toList.take (k2+1)=t.data.toList.take k2++[t.data.toList[k2]]):=take_snoc Py;generalize g_ t k2=bt at*
   go_wp2_with (at_builtin;refine vJ rfl _ _ 24 rfl 5 _ 1 Tryz.underlying24 ZM rfl de w1.heap.size _ (.int .u8 bt) _ wr.heap.size rfl (HO3 _ kg) rfl (by simp[go_sem]) rfl (by rw[List.length_map];omega) (by rw[World.size_alloc];omega) ?_;intro v3 w5 oD qm);go_roundw
   case rel=>exact⟨k2+1,om,by go_num,by rw[HT.out,<-List.append_assoc,By,List.map_append,List.map_cons,List.map_nil,<-HB.out];exact oD,Gb.below kg qm (Nat.le_refl _)⟩
   case measure=>exact uz
  .obtain rfl:k2=t.size:=om;have HT:Hid (t.data.toList.take t.size=t.data.toList):=List.take_of_length_le (by rw[dJ];exact Nat.le_refl _);go_wp2_with (at_builtin;refine vJ rfl _ _ 24 rfl 5 _ 1 Tryz.underlying24 ZM rfl de w1.heap.size _ (.int .u8 10) _ wr.heap.size rfl (HO3 _ kg) rfl (by simp[go_sem]) rfl (by rw[List.length_map];omega) (by rw[World.size_alloc];omega) ?_;intro v3 w5 oD qm);go_roundw
   case rel=>
    refine⟨j+1,_,om,by go_num,?_,Gb.below kg qm (Nat.le_refl _),HO2.out,?_⟩
    .rw[By,List.map_append,List.map_cons,List.map_nil,<-HT.out];exact oD
    .rw[List.length_append,List.length_append,dJ,List.length_singleton];omega
   case measure=>simp[intOf]<;>omega):P:=h
def take_snoc{k:Nat}(h:k<D.length):D.take (k+1)=D.take k++[D[k]]:=List.take_succ_eq_append_getElem h
def aOy(s:ByteArray)(hs:s.size<=1048576)(an:Nat->ByteArray)(ha:∀j,(an j).size <=5000)(HL:Hid (∀j,j<(vW s).length ->s.size<=100000->∀w,QB 10 #[.string ((vW s).getD j default)] w (.string (an j))))(w:World):QB 5 #[.string s] w (.string (yC s an)):=by
 have HC:Hid (∀w,CT 9 #[.string s,.int .u8 10] w λe w'=>∃v,e=Z v/\Os w' w.heap.size v (f_ 10 s)/\Gb w w'):=aHp 10 s hs;have HSz:Hid _:=ha;clear ha;have jV:=Ej 10 s.data.toList;have W9:=Ei 10 s.data.toList;rw[dJ]at W9;have aBn:(f_ 10 s).length =(qX 10 s.data.toList).length :=by unfold f_;rw[List.length_map]
 have jm:=List.length_pos_iff.2 jV;obtain⟨kk,hkk⟩:∃kk,(f_ 10 s).length =kk+1:=⟨(f_ 10 s).length -1,om⟩;have hk9:kk<=s.size:=om;have Bf:(f_ 10 s).getLast? =I ((f_ 10 s).getD kk default):=by
  rw[List.getLast?_eq_getElem?,hkk,Nat.add_sub_cancel,List.getD_eq_getElem?_getD,List.getElem?_eq_getElem (by omega)];rfl
 have HG:Hid ((f_ 10 s).getD kk default=tx []->(vW s).length =kk/\∀j,j<kk->(vW s).getD j default=(f_ 10 s).getD j default):=λhe=>by
  have e:vW s=(f_ 10 s).dropLast :=by unfold vW;rw[Bf,he,if_pos rfl]
  rw[e];refine⟨by rw[List.length_dropLast];omega,λj hj=>?_⟩;rw[List.getD_eq_getElem?_getD,List.getD_eq_getElem?_getD,List.getElem?_dropLast,if_pos (by omega)]
 have HH:Hid (¬(f_ 10 s).getD kk default=tx []->vW s=f_ 10 s):=λhe=>by
  unfold vW;rw[Bf,if_neg (λh=>he (Option.some.inj h))]
 clear jV W9 aBn jm Bf;have u:IntKind.i64.wrap (((kk+1:Nat):Int)-1)=(kk:Int):=wi;have i1:(kk:Int)<((kk+1:Nat):Int):=om;have i2:(0:Int)<=(kk:Int):=om;go_enter func5,ntmps5;go_upto_region 2 with(go_at_call 9;refine(HC _).mono ?_;rintro e w1 ⟨v,rfl,hos,ak⟩);have FK:=Os.rs hos;rw[hkk]at FK;obtain⟨v1,JH,tK⟩:=FK.take kk om;obtain⟨a,cap,rfl,h1,h2,aW⟩:=FK;obtain⟨b,o,rfl,hc⟩:=aW om;have q:aA w1 b (o+kk) (.string ((f_ 10 s).getD kk default)):=hc kk om;clear hos h1 h2;by_cases he:(f_ 10 s).getD kk default=tx []
 .obtain⟨o9,yH⟩:=HG he;have HRn:Hid (yC s an=if 100000<s.size\/1000<kk then tx [116,111,111,32,108,111,110,103,10]else tx (xI an kk)):=by show _=_;unfold yC;rw[o9]
  have HLn:Hid (∀j,j<kk->s.size<=100000->∀w,QB 10 #[.string ((f_ 10 s).getD j default)] w (.string (an j))):=λj hj h5 w=>by rw[<-yH j hj];exact HL j om h5 w
  rw[he]at q;obtain⟨a3,cap3,rfl,h13,h23,aGQ⟩:=tK;have HC3:Hid _:=aGQ;clear aGQ h13 h23 aW hc HG HH he o9 yH HL hkk;go_upto_region 4 with fail;clear q JH u i1;by_cases mF:100000<s.size\/1000<kk
  .have HE:Hid (yC s an=tx [116,111,111,32,108,111,110,103,10]):=by show _=_;rw[HRn.out,if_pos mF]
   clear HRn HLn;by_cases c0:(100000:Int)<(s.size:Int)
   .exact PS
   .have c1:(1000:Int)<((kk:Nat):Int):=om;exact PS
  have HE:Hid (yC s an=tx (xI an (kk))):=by show _=_;rw[HRn.out,if_neg mF]
  have c0:¬(100000:Int)<(s.size:Int):=om;have c1:¬(1000:Int)<((kk:Nat):Int):=om;clear HRn;go_wp2;go_loopw [4,5] (λo i wr=>∃(j:Nat) (l:List UInt8),j<=kk/\i=J (j:Int)/\By wr w1.heap.size o l/\Gb w1 wr/\Hid (l=xI an j)/\l.length<=5001*j) (λ_ i _=>kk-(intOf i).toNat)
  case atStart=>exact⟨0,[],Nat.zero_le _,rfl,Lr.lit w1 _,kg,rfl,Nat.zero_le _⟩
  case round=>
   obtain⟨j,l,hj,rfl,iU,dH,HO,hll⟩:=hrel;have uF:=dH.size;by_cases fF:(j:Int)<((kk:Nat):Int)
   .obtain⟨bb,oo,hbo,hc⟩:=HC3 om;subst hbo;exact aKl
   .obtain rfl:j=kk:=om;have q:=By.text iU wr (Below.refl _ _);rw[HO.out]at q;clear HLn;exact PS
 .have hee:=HH he;have HRn:Hid (yC s an=if 100000<s.size\/1000<kk+1 then tx [116,111,111,32,108,111,110,103,10]else tx (xI an (kk+1))):=by show _=_;unfold yC;rw[hee,hkk]
  have HLn:Hid (∀j,j<kk+1->s.size<=100000->∀w,QB 10 #[.string ((f_ 10 s).getD j default)] w (.string (an j))):=λj hj h5 w=>by have:=HL j (by rw[hee];omega) h5 w;rw[hee]at this;exact this
  have hz:(((f_ 10 s).getD kk default).size :Int)≠0:=λh=>he (by
   have h':((f_ 10 s).getD kk default).size =0:=om;generalize(f_ 10 s).getD kk default=x at h';cases x with
   |mk d=>exact congrArg _ (Array.eq_empty_of_size_eq_zero h'))
  have hz':((((f_ 10 s).getD kk default).size :Int)==0)=U:=beq_false_of_ne hz;generalize(f_ 10 s).getD kk default=last at*
  have HC3:Hid _:=aW;clear aW hc tK JH HG HH he hee HL hkk hz;go_upto_region 4 with fail;clear q u i1 hz';by_cases mF:100000<s.size\/1000<(kk+1)
  .have HE:Hid (yC s an=tx [116,111,111,32,108,111,110,103,10]):=by show _=_;rw[HRn.out,if_pos mF]
   clear HRn HLn;by_cases c0:(100000:Int)<(s.size:Int)
   .exact PS
   .have c1:(1000:Int)<(((kk+1):Nat):Int):=om;exact PS
  have HE:Hid (yC s an=tx (xI an ((kk+1)))):=by show _=_;rw[HRn.out,if_neg mF]
  have c0:¬(100000:Int)<(s.size:Int):=om;have c1:¬(1000:Int)<(((kk+1):Nat):Int):=om;clear HRn;go_wp2;go_loopw [4,5] (λo i wr=>∃(j:Nat) (l:List UInt8),j<=(kk+1)/\i=J (j:Int)/\By wr w1.heap.size o l/\Gb w1 wr/\Hid (l=xI an j)/\l.length<=5001*j) (λ_ i _=>(kk+1)-(intOf i).toNat)
  case atStart=>exact⟨0,[],Nat.zero_le _,rfl,Lr.lit w1 _,kg,rfl,Nat.zero_le _⟩
  case round=>
   obtain⟨j,l,hj,rfl,iU,dH,HO,hll⟩:=hrel;have uF:=dH.size;by_cases fF:(j:Int)<(((kk+1):Nat):Int)
   .obtain⟨bb,oo,hbo,hc⟩:=HC3 om;obtain⟨rfl,rfl⟩:b=bb/\o=oo:=by simpa using hbo
    clear hbo;exact aKl
   .obtain rfl:j=(kk+1):=om;have q:=By.text iU wr (Below.refl _ _);rw[HO.out]at q;clear HLn;exact PS
