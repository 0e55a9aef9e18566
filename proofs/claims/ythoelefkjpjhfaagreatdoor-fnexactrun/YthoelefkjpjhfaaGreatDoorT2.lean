import Derived.Test.YthoelefkjpjhfaaGreatDoorT1
set_option linter.all false
open Option renaming none → E, some → I
open Bool renaming false → U, true → H
open Go.Proofs.YthoelefkjpjhfaaGreatDoor renaming vI → J, vU → Y
open Go.Ending renaming returned → Z
open Go.Value renaming slice → O, bool → X, tuple → V
open Go.Proofs.Tryz
namespace Go.Proofs.YthoelefkjpjhfaaGreatDoor
open Go.RowKit
attribute [local go_sem] aB
variable {w wr w' wr':ak}{v u:Value}{n i base b j vl vc b' p F:Nat}{W g:Nat->Int}{A S s:aJ}{fl z f t m k o a c d r:Int}{e:Ending}{D:List UInt8}
def plN(s:aJ):List aJ->Int->Int
 |[],_=>-1
 |x::l,i=>if x.data=s.data then i else plN s l (i+1)
def ig(l:List aJ)(s:aJ):Int:=plN s l 0
def aAY(s:aJ):∀(l:List aJ) (i:Int),(plN s l i=-1/\∀j,j<l.length->l.getD j default≠s)\/∃k:Nat,k<l.length/\plN s l i=i+k/\l.getD k default=s/\∀j,j<k->l.getD j default≠s
 |[],i=>.inl ⟨rfl,λj h=>bG h (Nat.not_lt_zero _)⟩
 |x::l,i=>by
  unfold plN;by_cases h:x.data=s.data
  .exact .inr ⟨0,Nat.succ_pos _,by rw[aQ h];simp,ByteArray.ext h,λj hj=>bG hj (Nat.not_lt_zero _)⟩
  .rw[aH h];rcases aAY s l (i+1)with⟨h1,h2⟩|⟨k,h1,h2,h3,h4⟩
   .refine .inl ⟨h1,λj hj=>?_⟩;cases j with
    |zero=>exact λe=>h (by rw[<-e];rfl)
    |succ j=>exact h2 j (Nat.lt_of_succ_lt_succ hj)
   .refine .inr ⟨k+1,Nat.succ_lt_succ h1,by rw[h2];omega,h3,λj hj=>?_⟩;cases j with
    |zero=>exact λe=>h (by rw[<-e];rfl)
    |succ j=>exact h4 j (Nat.lt_of_succ_lt_succ hj)
def D6(l:List aJ)(s:aJ):InL l s (ig l s):=by
 rcases aAY s l 0 with h|⟨k,h1,h2,h3,h4⟩
 .exact .inl h
 .exact .inr ⟨k,h1,by unfold ig;rw[h2];omega,h3,h4⟩
def uQ(g:Nat->aJ):List UInt8->Nat->Int->Int->Int->Int->Option (Int × Int × Int × Int)
 |[],_,f,t,m,k=>I (f,t,m,k)
 |c::cs,i,f,t,m,k=>
  if c=102 then(if ig dK (g i)<0 then E else if f<0 then uQ g cs (i+1) (ig dK (g i)) t m k else uQ g cs (i+1) f (ig dK (g i)) m k)
  else if c=109 then(if ig gB (g i)<0 then E else uQ g cs (i+1) f t (ig gB (g i)) k)
  else if c=107 then(if ig jh (g i)<0 then E else uQ g cs (i+1) f t m (ig jh (g i)))
  else uQ g cs (i+1) f t m k
structure La (w wr:ak) (f t m k:Int):Prop where
 gb:Gb w wr
 c:Qo wr (w.heap.size+1) 0 1 2 3 4 (J f) (J t) (J m) (J k) (O E 0 0)
 z:Qo wr w.heap.size 0 1 2 3 4 (J 0) (J 0) (J 0) (J 0) (O E 0 0)
def La.more(h:La w wr f t m k)(hg:Gb wr wr'):La w wr' f t m k:=⟨h.gb.trans hg,hg.y5 _ _ _ _ _ _ _ _ _ _ _ h.c,hg.y5 _ _ _ _ _ _ _ _ _ _ _ h.z⟩
def CZ(h:aB w b j v)(lM:¬i=j):aB (w.setCell ⟨b,i,E⟩ u) b j v:=by simp[go_sem,h,lM]
def xK(h:aB w b' j v)(lM:¬b=b'):aB (w.setCell ⟨b,i,E⟩ u) b' j v:=by simp[go_sem,h,lM]
def La.s0(h:La w wr f t m k)(x:Int):La w (wr.setCell ⟨w.heap.size+1,0,E⟩ (J x)) x t m k:=by
 obtain⟨g,⟨c0,y0,c1,y1,c2,y2,c3,y3,c4,y4⟩,d0,e0,d1,e1,d2,e2,d3,e3,d4,e4⟩:=h;exact⟨Gb.setCell g (om:w.heap.size<=w.heap.size+1) _,⟨dG (by rw[c0];rfl),bD y0,CZ c1 de,bD y1,CZ c2 de,bD y2,CZ c3 de,bD y3,CZ c4 de,bD y4⟩,xK d0 om,bD e0,xK d1 om,bD e1,xK d2 om,bD e2,xK d3 om,bD e3,xK d4 om,bD e4⟩
def La.s1(h:La w wr f t m k)(x:Int):La w (wr.setCell ⟨w.heap.size+1,1,E⟩ (J x)) f x m k:=by
 obtain⟨g,⟨c0,y0,c1,y1,c2,y2,c3,y3,c4,y4⟩,d0,e0,d1,e1,d2,e2,d3,e3,d4,e4⟩:=h;exact⟨Gb.setCell g (om:w.heap.size<=w.heap.size+1) _,⟨CZ c0 de,bD y0,dG (by rw[c1];rfl),bD y1,CZ c2 de,bD y2,CZ c3 de,bD y3,CZ c4 de,bD y4⟩,xK d0 om,bD e0,xK d1 om,bD e1,xK d2 om,bD e2,xK d3 om,bD e3,xK d4 om,bD e4⟩
def La.s2(h:La w wr f t m k)(x:Int):La w (wr.setCell ⟨w.heap.size+1,2,E⟩ (J x)) f t x k:=by
 obtain⟨g,⟨c0,y0,c1,y1,c2,y2,c3,y3,c4,y4⟩,d0,e0,d1,e1,d2,e2,d3,e3,d4,e4⟩:=h;exact⟨Gb.setCell g (om:w.heap.size<=w.heap.size+1) _,⟨CZ c0 de,bD y0,CZ c1 de,bD y1,dG (by rw[c2];rfl),bD y2,CZ c3 de,bD y3,CZ c4 de,bD y4⟩,xK d0 om,bD e0,xK d1 om,bD e1,xK d2 om,bD e2,xK d3 om,bD e3,xK d4 om,bD e4⟩
def La.s3(h:La w wr f t m k)(x:Int):La w (wr.setCell ⟨w.heap.size+1,3,E⟩ (J x)) f t m x:=by
 obtain⟨g,⟨c0,y0,c1,y1,c2,y2,c3,y3,c4,y4⟩,d0,e0,d1,e1,d2,e2,d3,e3,d4,e4⟩:=h;exact⟨Gb.setCell g (om:w.heap.size<=w.heap.size+1) _,⟨CZ c0 de,bD y0,CZ c1 de,bD y1,CZ c2 de,bD y2,dG (by rw[c3];rfl),bD y3,CZ c4 de,bD y4⟩,xK d0 om,bD e0,xK d1 om,bD e1,xK d2 om,bD e2,xK d3 om,bD e3,xK d4 om,bD e4⟩
def KH:prog.elem 26=9:=by kernel_rfl
def pq.cut{g:Nat->aJ}(h:pq w v n g)(l:Nat)(hl:l<=n):∃v',(∀w',(Instr.slice 26 v (I (J (l:Int))) E E).run prog w'=.ok v' w')/\pq w v' (n-l) (λj=>g (l+j)):=by
 obtain⟨a,cap,rfl,h1,h2,hc⟩:=h;refine⟨O (if cap=l then a else a.map (·.add l)) (n-l) (cap-l),λw'=>?_,?_⟩
 .have z:=sizeOf9;rw[run_slice_l (P:=prog) w' 26 a n cap (by rw[KH];exact underlying26) .i64 (l:Int) om (by omega)];simp[sliced,KH,z]
 .refine⟨_,_,rfl,om,om,λhn=>?_⟩;obtain⟨b,o,rfl,EK⟩:=hc om;rw[aH (by omega)];refine⟨b,o+l,?_,λj hj=>?_⟩
  .simp[Addr.add]
  .rw[Nat.add_assoc];exact EK (l+j) om
set_option maxRecDepth 1000000
set_option maxHeartbeats 40000000
def aB5{P:Prop}(h:P:=by
 have RG:Hid _:=(by have:=HN.out;rw[aH cx]at this;exact this);clear HN;go_wp2;go_roundw
 case rel=>exact⟨j+1,_,_,_,_,om,jS,HL2.out,RG.out⟩
 case measure=>simp[intOf]<;>omega):P:=h
def aL3{P:Prop}(h:P:=by
 obtain⟨v',LX,Io⟩:=HSl F om;have HW:Hid (∀w',Gb w w'->CT 54 #[v'] w' λe bf=>sJ w' (S.size-F) (λj=>g (F+j)) (λj=>(aV 16 (g (F+j))).getD 0) e bf):=λw' hg=>ZT (Io.gb hg) om;have hp1:=aA c0;have HF2:Hid (F<=S.size):=hF;clear Io HB;go_upto_region 24 with fail;clear hF aE0;go_wp2_with (go_at_call 54;refine(HW _ aOY).mono ?_;rintro e w2 hW7;obtain⟨va,vl,vc,ok,rfl,aC,HU⟩:=sJ.any hW7;clear hW7;have a0:=aC.Y51 w;have p0:=aC.Y50 w);refine gY (v:=V #[.agg #[J f,J t,J m,J k,O va vl vc],X ok]) (by simp[results,results22,go_sem,p0,a0]) rfl ?_;rcases HU.out with⟨rfl,hall,yt⟩|⟨rfl,jj,hj1,hj2⟩
 .have hF:=HF2.out;refine .yes kg rfl rfl HN.out HFr.out (λj j1 j2=>by have:=hall (j-F) (by omega);rwa [show F+(j-F)=j by omega]at this) ?_;exact RdB.rd (RdB.set (RdB.set (RdB.set (RdB.set (RdB.set (RdB.set (Ow.rdB yt) om _ _) om _ _) om _ _) om _ _) om _ _) om _ _)
 .exact .no kg rfl (.inr (.inr ⟨F,F+jj,HFr.out,om,by have:=HF2.out;omega,hj2⟩))):P:=h
def aOb(g:Nat->aJ)(hi:i<D.length)(f t m k:Int):uQ g (D.drop i) i f t m k=
  if D[i]=102 then(if ig dK (g i)<0 then E else if f<0 then uQ g (D.drop (i+1)) (i+1) (ig dK (g i)) t m k else uQ g (D.drop (i+1)) (i+1) f (ig dK (g i)) m k)
  else if D[i]=109 then(if ig gB (g i)<0 then E else uQ g (D.drop (i+1)) (i+1) f t (ig gB (g i)) k)
  else if D[i]=107 then(if ig jh (g i)<0 then E else uQ g (D.drop (i+1)) (i+1) f t m (ig jh (g i)))
  else uQ g (D.drop (i+1)) (i+1) f t m k:=by rw[List.drop_eq_getElem_cons hi,uQ]
def aJ8(g:Nat->aJ)(i:Nat)(f t m k:Int):uQ g (D.drop D.length) i f t m k=I (f,t,m,k):=by rw[List.drop_length,uQ]
def aBP(s:aJ)(i:Nat)(h:i<s.data.toList.length)(c:UInt8):(iJ s i==(c.toNat:Int))=decide (s.data.toList[i]=c):=by
 rw[xC s i h];by_cases e:s.data.toList[i]=c
 .rw[e];simp
 .rw[gV e];refine Am λh=>e (UInt8.toNat_inj.1 om)
def sJ.any{g:Nat->aJ}(h:sJ w n g W e w'):∃a l c ok,e=Z (V #[O a l c,X ok])/\Gb w w'/\Hid ((ok=H/\(∀j,j<n->aV 16 (g j)≠E)/\Ow w' w.heap.size 71 1 .u64 (O a l c) n W)\/ok=U/\∃j,j<n/\aV 16 (g j)=E):=by
 obtain⟨hg,⟨u,h1,h2,h3⟩|⟨⟨a,l,c,h1⟩,h2⟩⟩:=h
 .obtain⟨a,c,rfl,_⟩:=h3.len;exact⟨a,n,c,H,h1,hg,.inl ⟨rfl,h2,h3⟩⟩
 .exact⟨a,l,c,U,h1,hg,.inr ⟨rfl,h2⟩⟩
def RdB(w:ak)(base:Nat)(v:Value)(n:Nat)(g:Nat->Int):Prop:=
 ∃a cap,v=O a n cap/\n<=cap/\cap<=maxLen/\(0<n->∃b,a=I ⟨b,0,E⟩/\base<=b/\∀j,j<n->aB w b j (Y (g j)))
def Ow.rdB{t:TypeId}(h:Ow w base t 1 .u64 v n g):RdB w base v n g:=by
 rcases jL n with rfl|hn
 .obtain⟨a,cap,rfl,h1,h2⟩:=h.len;exact⟨a,cap,rfl,h1,h2,λhn=>om⟩
 .obtain⟨b,cap,rfl,h0,_,h1,h2,h3⟩:=h.at hn;exact⟨_,cap,rfl,h1,h2,λ_=>⟨b,rfl,h0,λj hj=>(h3 j om).1⟩⟩
def RdB.set(h:RdB w base v n g)(hp:p<base)(i:Nat)(u:Value):RdB (w.setCell ⟨p,i,E⟩ u) base v n g:=by
 obtain⟨a,cap,h1,h2,h3,h4⟩:=h;refine⟨a,cap,h1,h2,h3,λhn=>?_⟩;obtain⟨b,hb,Vr,hc⟩:=h4 hn;exact⟨b,hb,Vr,λj hj=>xK (hc j hj) om⟩
def RdB.rd(h:RdB w base v n g):Rd w .u64 v n n g:=by
 obtain⟨a,cap,h1,h2,h3,h4⟩:=h;refine⟨a,cap,h1,h2,h3,λhn=>?_⟩;obtain⟨b,hb,Vr,hc⟩:=h4 hn;exact⟨b,hb,hc⟩
def mX(S:aJ)(F:Nat):Prop:=F<=S.size/\(∀j,j<F->iJ S j≠119)/\(F<S.size->iJ S F=119)
def Gq(w:ak)(S:aJ)(n:Nat)(g:Nat->aJ)(e:Ending)(w':ak):Prop:=
 Gb w w'/\∃(f t m k:Int) (va:Option Addr) (vl vc:Nat) (ok:Bool),e=Z (V #[.agg #[J f,J t,J m,J k,O va vl vc],X ok])/\
  ((ok=U/\(n≠S.size\/uQ g S.data.toList 0 (-1) (-1) 0 0=E\/∃F j,mX S F/\F<=j/\j<n/\aV 16 (g j)=E))\/
   ok=H/\n=S.size/\uQ g S.data.toList 0 (-1) (-1) 0 0=I (f,t,m,k)/\∃F,mX S F/\(∀j,F<=j->j<n->aV 16 (g j)≠E)/\Rd w' .u64 (O va vl vc) (n-F) (n-F) (λj=>(aV 16 (g (F+j))).getD 0))
def Gq.no{g:Nat->aJ}{va:Option Addr}(hg:Gb w w')(he:e=Z (V #[.agg #[J f,J t,J m,J k,O va vl vc],X U]))(h:n≠S.size\/uQ g S.data.toList 0 (-1) (-1) 0 0=E\/∃F j,mX S F/\F<=j/\j<n/\aV 16 (g j)=E):Gq w S n g e w':=⟨hg,f,t,m,k,va,vl,vc,U,he,.inl ⟨rfl,h⟩⟩
def Gq.yes{g:Nat->aJ}{va:Option Addr}(hg:Gb w w')(he:e=Z (V #[.agg #[J f,J t,J m,J k,O va vl vc],X H]))(hn:n=S.size)(hr:uQ g S.data.toList 0 (-1) (-1) 0 0=I (f,t,m,k))(hF:mX S F)(ha:∀j,F<=j->j<n->aV 16 (g j)≠E)(ho:Rd w' .u64 (O va vl vc) (n-F) (n-F) (λj=>(aV 16 (g (F+j))).getD 0)):Gq w S n g e w':=⟨hg,f,t,m,k,va,vl,vc,H,he,.inr ⟨rfl,hn,hr,F,hF,ha,ho⟩⟩
def Gq.any{g:Nat->aJ}(h:Gq w S n g e w'):∃(f t m k:Int) (va:Option Addr) (vl vc:Nat) (ok:Bool),e=Z (V #[.agg #[J f,J t,J m,J k,O va vl vc],X ok])/\Gb w w'/\Hid ((ok=U/\(n≠S.size\/uQ g S.data.toList 0 (-1) (-1) 0 0=E\/∃F j,mX S F/\F<=j/\j<n/\aV 16 (g j)=E))\/
   ok=H/\n=S.size/\uQ g S.data.toList 0 (-1) (-1) 0 0=I (f,t,m,k)/\∃F,mX S F/\(∀j,F<=j->j<n->aV 16 (g j)≠E)/\Rd w' .u64 (O va vl vc) (n-F) (n-F) (λj=>(aV 16 (g (F+j))).getD 0)):=by
 obtain⟨hg,f,t,m,k,va,vl,vc,ok,h1,h2⟩:=h;exact⟨f,t,m,k,va,vl,vc,ok,h1,hg,h2⟩
def aQn(S:aJ)(hS:S.size<=100){g:Nat->aJ}(hr:pq w v n g)(hn:n<=1000000):CT 22 #[.string S,v] w λe w'=>Gq w S n g e w':=by
 have HR:Hid (∀w',Gb w w'->pq w' v n g):=λw' hg=>hr.gb hg;have pY:=hr.cut;obtain⟨a,cap,hv,h1,h2,aW⟩:=hr;have HC:Hid _:=aW;subst hv;have hn9:n<=9223372036854775807:=om;have HSl:Hid _:=pY;clear aW h1 h2 pY;by_cases lM:n=S.size
 case neg=>
  have c:((n:Int)==(S.size:Int))=U:=Am om;clear HSl;go_enter func22,ntmps22;go_wp2;refine gY (v:=V #[.agg #[J (-1),J (-1),J 0,J 0,O E 0 0],X U]) (by simp[results,results22,go_sem]) rfl ?_;exact .no kg rfl (.inl lM)
 case pos=>
  subst lM;go_enter func22,ntmps22;go_wp2;go_loopw [7] (λi wr=>∃(j:Nat) (f t m k:Int),j<=S.size/\i=J (j:Int)/\La w wr f t m k/\Hid (uQ g (S.data.toList.drop j) j f t m k=uQ g S.data.toList 0 (-1) (-1) 0 0)) (λi _=>S.size-(intOf i).toNat)
  case atStart=>exact⟨0,-1,-1,0,0,fV _,rfl,⟨kg,by simp[Qo,qU,KF3,jX,ZB,go_sem],by simp[Qo,qU,KF3,jX,ZB,go_sem]⟩,rfl⟩
  case round=>
   obtain⟨j,f,t,m,k,hj,rfl,hLa,HRd⟩:=hrel;have aUj:=hLa;obtain⟨aOY,⟨c0,y0,c1,y1,c2,y2,c3,y3,c4,y4⟩,d0,e0,d1,e1,d2,e2,d3,e3,d4,e4⟩:=aUj;have qY:=aOY.size;by_cases fJ:(j:Int)<(S.size:Int)
   .have iV:j<S.data.toList.length:=by rw[dN];omega
    obtain⟨b,o,rfl,hc⟩:=HC om;have q1:=aOY.old (hc j om);have q2:=λob=>bC ob q1;have kA:=λob=>bC ob c0;have kB:=λob=>bC ob c1;have kC:=λob=>bC ob c2;have kD:=λob=>bC ob c3;have kE:=λob=>bC ob c4;have fA:=λc t=>dw (c:=c) (t:=t) y0;have fB:=λc t=>dw (c:=c) (t:=t) y1;have fC:=λc t=>dw (c:=c) (t:=t) y2;have fD:=λc t=>dw (c:=c) (t:=t) y3;clear hc;have hN:=HRd.out;rw[aOb g iV]at hN;have q:=jR S j om;have aPI:=aBP S j iV 102;have aLz:=aBP S j iV 109;have aI0:=aBP S j iV 107;simp only[show((102:UInt8).toNat :Int)=102 from rfl,show((109:UInt8).toNat :Int)=109 from rfl,show((107:UInt8).toNat :Int)=107 from rfl]at aPI aLz aI0;generalize iJ S j=bj at*
    clear HRd;by_cases Ym:S.data.toList[j]=102
    .rw[h_ Ym]at aPI;rw[aQ Ym]at hN;clear Ym aLz aI0 iV;by_cases cf:f<0
     .rw[aQ cf]at hN;obtain⟨x,hx⟩:=dP (ig dK (g j));have HP:Hid (∀w',Gb (wr.alloc (.cells (dK.map Value.string).toArray 9)) w'->QW 57 #[aF wr.heap.size dK.length dK.length,.string (g j)] w' (J x)):=λw' hg=>by rw[<-hx];exact Ot (D6 dK (g j)) de hg
      rw[hx]at hN;have HN:Hid _:=hN;clear hx hN;generalize g j=tj at*
      go_upto_region 19 with(go_at_call 57;refine kw (HP _ (Gb.refl _)) ?_);have L6:=(hLa.more (wr':=wr.alloc (.cells #[.string ⟨#[102,51,50]⟩,.string ⟨#[102,54,52]⟩] 9)) (Gb.alloc (Gb.refl _) _)).s0 x;obtain⟨W,hW⟩:=dP ((wr.alloc (.cells #[.string ⟨#[102,51,50]⟩,.string ⟨#[102,54,52]⟩] 9)).setCell ⟨w.heap.size+1,0,E⟩ (J x));rw[hW]at L6⊢
      clear hW hLa c0 y0 c1 y1 c2 y2 c3 y3 c4 y4 d0 e0 d1 e1 d2 e2 d3 e3 d4 e4 kA kB kC kD kE fA fB fC fD q1 q2;have HL2:Hid _:=L6;obtain⟨dQ,⟨c0,y0,c1,y1,c2,y2,c3,y3,c4,y4⟩,d0,e0,d1,e1,d2,e2,d3,e3,d4,e4⟩:=L6;by_cases cx:x<0
      .have RG:Hid (uQ g S.data.toList 0 (-1) (-1) 0 0=E):=by have:=HN.out;rw[aQ cx]at this;exact this.symm
       clear HN;go_wp2;refine gY (v:=V #[.agg #[J x,J t,J m,J k,O E 0 0],X U]) (by simp[results,results22,go_sem,d0,d1,d2,d3,d4]) rfl ?_;exact .no kg rfl (.inr (.inl RG.out))
      .exact aB5
     .rw[aH cf]at hN;obtain⟨x,hx⟩:=dP (ig dK (g j));have HP:Hid (∀w',Gb (wr.alloc (.cells (dK.map Value.string).toArray 9)) w'->QW 57 #[aF wr.heap.size dK.length dK.length,.string (g j)] w' (J x)):=λw' hg=>by rw[<-hx];exact Ot (D6 dK (g j)) de hg
      rw[hx]at hN;have HN:Hid _:=hN;clear hx hN;generalize g j=tj at*
      go_upto_region 19 with(go_at_call 57;refine kw (HP _ (Gb.refl _)) ?_);have L6:=(hLa.more (wr':=wr.alloc (.cells #[.string ⟨#[102,51,50]⟩,.string ⟨#[102,54,52]⟩] 9)) (Gb.alloc (Gb.refl _) _)).s1 x;obtain⟨W,hW⟩:=dP ((wr.alloc (.cells #[.string ⟨#[102,51,50]⟩,.string ⟨#[102,54,52]⟩] 9)).setCell ⟨w.heap.size+1,1,E⟩ (J x));rw[hW]at L6⊢
      clear hW hLa c0 y0 c1 y1 c2 y2 c3 y3 c4 y4 d0 e0 d1 e1 d2 e2 d3 e3 d4 e4 kA kB kC kD kE fA fB fC fD q1 q2;have HL2:Hid _:=L6;obtain⟨dQ,⟨c0,y0,c1,y1,c2,y2,c3,y3,c4,y4⟩,d0,e0,d1,e1,d2,e2,d3,e3,d4,e4⟩:=L6;by_cases cx:x<0
      .have RG:Hid (uQ g S.data.toList 0 (-1) (-1) 0 0=E):=by have:=HN.out;rw[aQ cx]at this;exact this.symm
       clear HN;go_wp2;refine gY (v:=V #[.agg #[J f,J x,J m,J k,O E 0 0],X U]) (by simp[results,results22,go_sem,d0,d1,d2,d3,d4]) rfl ?_;exact .no kg rfl (.inr (.inl RG.out))
      .exact aB5
    rw[gV Ym]at aPI;rw[aH Ym]at hN;by_cases aBp:S.data.toList[j]=109
    .rw[h_ aBp]at aLz;rw[aQ aBp]at hN;clear Ym aBp aI0 iV;obtain⟨x,hx⟩:=dP (ig gB (g j));have HP:Hid (∀w',Gb (wr.alloc (.cells (gB.map Value.string).toArray 9)) w'->QW 57 #[aF wr.heap.size gB.length gB.length,.string (g j)] w' (J x)):=λw' hg=>by rw[<-hx];exact Ot (D6 gB (g j)) de hg
     rw[hx]at hN;have HN:Hid _:=hN;clear hx hN;generalize g j=tj at*
     go_upto_region 19 with(go_at_call 57;refine kw (HP _ (Gb.refl _)) ?_);have L6:=(hLa.more (wr':=wr.alloc (.cells #[.string ⟨#[101,118,101,110]⟩,.string ⟨#[97,119,97,121]⟩,.string ⟨#[122,101,114,111]⟩,.string ⟨#[117,112]⟩,.string ⟨#[100,111,119,110]⟩] 9)) (Gb.alloc (Gb.refl _) _)).s2 x;obtain⟨W,hW⟩:=dP ((wr.alloc (.cells #[.string ⟨#[101,118,101,110]⟩,.string ⟨#[97,119,97,121]⟩,.string ⟨#[122,101,114,111]⟩,.string ⟨#[117,112]⟩,.string ⟨#[100,111,119,110]⟩] 9)).setCell ⟨w.heap.size+1,2,E⟩ (J x));rw[hW]at L6⊢
     clear hW hLa c0 y0 c1 y1 c2 y2 c3 y3 c4 y4 d0 e0 d1 e1 d2 e2 d3 e3 d4 e4 kA kB kC kD kE fA fB fC fD q1 q2;have HL2:Hid _:=L6;obtain⟨dQ,⟨c0,y0,c1,y1,c2,y2,c3,y3,c4,y4⟩,d0,e0,d1,e1,d2,e2,d3,e3,d4,e4⟩:=L6;by_cases cx:x<0
     .have RG:Hid (uQ g S.data.toList 0 (-1) (-1) 0 0=E):=by have:=HN.out;rw[aQ cx]at this;exact this.symm
      clear HN;go_wp2;refine gY (v:=V #[.agg #[J f,J t,J x,J k,O E 0 0],X U]) (by simp[results,results22,go_sem,d0,d1,d2,d3,d4]) rfl ?_;exact .no kg rfl (.inr (.inl RG.out))
     .exact aB5
    rw[gV aBp]at aLz;rw[aH aBp]at hN;by_cases aEQ:S.data.toList[j]=107
    .rw[h_ aEQ]at aI0;rw[aQ aEQ]at hN;clear Ym aBp aEQ iV;obtain⟨x,hx⟩:=dP (ig jh (g j));have HP:Hid (∀w',Gb (wr.alloc (.cells (jh.map Value.string).toArray 9)) w'->QW 57 #[aF wr.heap.size jh.length jh.length,.string (g j)] w' (J x)):=λw' hg=>by rw[<-hx];exact Ot (D6 jh (g j)) de hg
     rw[hx]at hN;have HN:Hid _:=hN;clear hx hN;generalize g j=tj at*
     go_upto_region 19 with(go_at_call 57;refine kw (HP _ (Gb.refl _)) ?_);have L6:=(hLa.more (wr':=wr.alloc (.cells #[.string ⟨#[105,51,50]⟩,.string ⟨#[105,54,52]⟩,.string ⟨#[117,51,50]⟩,.string ⟨#[117,54,52]⟩] 9)) (Gb.alloc (Gb.refl _) _)).s3 x;obtain⟨W,hW⟩:=dP ((wr.alloc (.cells #[.string ⟨#[105,51,50]⟩,.string ⟨#[105,54,52]⟩,.string ⟨#[117,51,50]⟩,.string ⟨#[117,54,52]⟩] 9)).setCell ⟨w.heap.size+1,3,E⟩ (J x));rw[hW]at L6⊢
     clear hW hLa c0 y0 c1 y1 c2 y2 c3 y3 c4 y4 d0 e0 d1 e1 d2 e2 d3 e3 d4 e4 kA kB kC kD kE fA fB fC fD q1 q2;have HL2:Hid _:=L6;obtain⟨dQ,⟨c0,y0,c1,y1,c2,y2,c3,y3,c4,y4⟩,d0,e0,d1,e1,d2,e2,d3,e3,d4,e4⟩:=L6;by_cases cx:x<0
     .have RG:Hid (uQ g S.data.toList 0 (-1) (-1) 0 0=E):=by have:=HN.out;rw[aQ cx]at this;exact this.symm
      clear HN;go_wp2;refine gY (v:=V #[.agg #[J f,J t,J m,J x,O E 0 0],X U]) (by simp[results,results22,go_sem,d0,d1,d2,d3,d4]) rfl ?_;exact .no kg rfl (.inr (.inl RG.out))
     .exact aB5
    rw[gV aEQ]at aI0;rw[aH aEQ]at hN;have HN:Hid _:=hN;clear Ym aBp aEQ iV hN;go_wp2;go_roundw
    case rel=>exact⟨j+1,_,_,_,_,om,jS,hLa,HN.out⟩
    case measure=>exact qL
   .obtain rfl:j=S.size:=om;have hN:=HRd.out;rw[<-dN,aJ8]at hN;have HN:Hid (uQ g S.data.toList 0 (-1) (-1) 0 0=I (f,t,m,k)):=hN.symm;clear HRd hN hLa;go_wp2;go_loop [9] (λi=>∃F:Nat,F<=S.size/\i=J (F:Int)/\Hid (∀j,j<F->iJ S j≠119)) (λi=>S.size-(intOf i).toNat)
    case atStart=>exact⟨0,fV _,rfl,λj hj=>bG hj om⟩
    case round=>
     obtain⟨F,hF,rfl,HB⟩:=hrel;by_cases aE0:(F:Int)<(S.size:Int)
     .have q:=jR S F om;by_cases e:iJ S F=119
      .have cb:(iJ S F==119)=H:=by simp[e]
       have HFr:Hid (mX S F):=⟨hF,HB.out,λ_=>e⟩;clear e;exact aL3
      .have cb:(iJ S F==119)=U:=by simp[e]
       have HB2:Hid (∀j,j<F+1->iJ S j≠119):=λj hj=>by
        rcases Nat.lt_succ_iff_lt_or_eq.1 hj with h|rfl
        .exact HB j h
        .exact e
       clear e HB;go_wp2;go_round
       case rel=>exact⟨F+1,om,jS,HB2.out⟩
       case measure=>first|(simp[intOf];done)|(simp[intOf];omega)
     .have HFr:Hid (mX S F):=⟨hF,HB.out,λh=>bG h om⟩;exact aL3
def aB6{P:Prop}(h:P:=by
 have q:=dQ.old (HCe j om);have HFj:Hid _:=HF j om;generalize W j=x at*
 go_upto_region 10 with fail;go_region_held3 (λw'=>uj w' w.heap.size 0 1 2 3 4 (J f) (J t) (J m) (J k) (aF b n cap)/\aB w' b j (Y x))(exact wK)((go_at_call 61;refine kw (HFj _) ?_))
 all_goals go_wp2<;>go_roundw
 case rel=>exact⟨j+1,om,jS,⟨kg,by refine⟨?_,?_,?_,?_,?_⟩<;>assumption⟩⟩
 case measure=>simp[intOf]<;>omega):P:=h
def aB7{P:Prop}(h:P:=by
 obtain⟨b,cap,rfl,AA,zA,aW⟩:=hr.at GR;have HCe:Hid (∀j,j<n->aB w b j (Y (W j))):=aW;have hn9:n<=9223372036854775807:=by unfold maxLen at zA;omega
 clear hr aW AA zA;go_enter func23,ntmps23;go_wp2;go_loopw [8] (λi wr=>∃j:Nat,j<=n/\i=J (j:Int)/\Lc w wr f t m k (aF b n cap)) (λi _=>n-(intOf i).toNat)
 case atStart=>exact⟨0,fV _,rfl,⟨kg,by simp[uj,pG,jU,lW,go_sem]⟩⟩
 case round=>
  obtain⟨j,hj,rfl,hL⟩:=hrel;obtain⟨dQ,c0,c1,c2,c3,c4⟩:=hL;by_cases fJ:(j:Int)<(n:Int)
  .exact aB6
  .obtain rfl:j=n:=om;have x0:=dQ.old (HCe 0 om);have i0:(0:Int)<(j:Int):=om;clear HF;go_wp2;go_region_held3 (λw'=>uj w' w.heap.size 0 1 2 3 4 (J f) (J t) (J m) (J k) (aF b j cap)/\aB w' b 0 (Y (W 0)))(exact wK)(first|((first|go_at_call 62|go_at_call 63|go_at_call 64|go_at_call 65|go_at_call 66|go_at_call 67|go_at_call 68|go_at_call 69|go_at_call 70|go_at_call 71|go_at_call 72|go_at_call 73);refine ku (HO _) λw1 au=>?_)|(go_at_call 59;refine ku (HR _) λw2 aC=>?_))
   all_goals go_wp2<;>go_returns
   all_goals exact⟨rfl,kg⟩):P:=h
def Ny{P:Prop}(h:P:=by
 obtain⟨b,cap,rfl,AA,zA,aW⟩:=hr.at GR;have HCe:Hid (∀j,j<n->aB w b j (Y (W j))):=aW;have hn9:n<=9223372036854775807:=by unfold maxLen at zA;omega
 clear hr aW AA zA;go_enter func23,ntmps23;go_wp2;go_loopw [8] (λi wr=>∃j:Nat,j<=n/\i=J (j:Int)/\Lc w wr f t m k (aF b n cap)) (λi _=>n-(intOf i).toNat)
 case atStart=>exact⟨0,fV _,rfl,⟨kg,by simp[uj,pG,jU,lW,go_sem]⟩⟩
 case round=>
  obtain⟨j,hj,rfl,hL⟩:=hrel;obtain⟨dQ,c0,c1,c2,c3,c4⟩:=hL;by_cases fJ:(j:Int)<(n:Int)
  .exact aB6
  .obtain rfl:j=n:=om;have x0:=dQ.old (HCe 0 om);have i0:(0:Int)<(j:Int):=om;have x1:=dQ.old (HCe 1 om);have i1:(1:Int)<(j:Int):=om;clear HF;go_wp2;go_region_held3 (λw'=>lW w' b 0 1 (Y (W 0)) (Y (W 1))/\uj w' w.heap.size 0 1 2 3 4 (J f) (J t) (J m) (J k) (aF b j cap))(exact wK)(first|((first|go_at_call 62|go_at_call 63|go_at_call 64|go_at_call 65|go_at_call 66|go_at_call 67|go_at_call 68|go_at_call 69|go_at_call 70|go_at_call 71|go_at_call 72|go_at_call 73);refine ku (HO _) λw1 au=>?_)|(go_at_call 59;refine ku (HR _) λw2 aC=>?_))
   all_goals go_wp2<;>go_returns
   all_goals exact⟨rfl,kg⟩):P:=h
structure Lc (w wr:ak) (f t m k:Int) (v:Value):Prop where
 gb:Gb w wr
 c:uj wr w.heap.size 0 1 2 3 4 (J f) (J t) (J m) (J k) v
def Lc.more(h:Lc w wr f t m k v)(hg:Gb wr wr'):Lc w wr' f t m k v:=⟨h.gb.trans hg,hg.e5 _ _ _ _ _ _ _ _ _ _ _ h.c⟩
def aJQ(hs:(s.toList==[105,110,116])=U)(f t m k:Int)(hr:Rd w .u64 v n n W)(GR:0<n)(ft:Nat->Bool)(HF:Hid (∀j,j<n->∀w,pO f (W j) w (ft j)))(hex:∃j,j<n/\ft j=U):
  oV s f t m k v w jO:=by
 have HX:Hid _:=hex;clear hex;obtain⟨b,cap,rfl,AA,zA,aW⟩:=hr.at GR;have HCe:Hid (∀j,j<n->aB w b j (Y (W j))):=aW;have hn9:n<=9223372036854775807:=by unfold maxLen at zA;omega
 clear hr aW AA zA;go_enter func23,ntmps23;go_wp2;go_loopw [8] (λi wr=>∃j:Nat,j<=n/\i=J (j:Int)/\Lc w wr f t m k (aF b n cap)/\Hid (∀i,i<j->ft i=H)) (λi _=>n-(intOf i).toNat)
 case atStart=>exact⟨0,fV _,rfl,⟨kg,by simp[uj,pG,jU,lW,go_sem]⟩,λi hi=>bG hi om⟩
 case round=>
  obtain⟨j,hj,rfl,hL,HB⟩:=hrel;obtain⟨dQ,c0,c1,c2,c3,c4⟩:=hL;by_cases fJ:(j:Int)<(n:Int)
  .have q:=dQ.old (HCe j om);have HFj:Hid _:=HF j om;have HB2:Hid (ft j=H->∀i,i<j+1->ft i=H):=λh i hi=>by
    rcases Nat.lt_succ_iff_lt_or_eq.1 hi with c|rfl
    .exact HB i c
    .exact h
   obtain⟨fj,hfj⟩:=dP (ft j);rw[hfj]at HFj HB2;clear hfj;generalize W j=x at*
   go_upto_region 10 with fail;go_region_held3 (λw'=>uj w' w.heap.size 0 1 2 3 4 (J f) (J t) (J m) (J k) (aF b n cap)/\aB w' b j (Y x))(exact wK)((go_at_call 61;refine kw (HFj _) ?_))
   all_goals
    cases fj
    .go_wp2;go_returns;exact⟨rfl,kg⟩
    .have HB3:Hid _:=HB2 rfl;go_wp2;go_roundw
     case rel=>exact⟨j+1,om,jS,⟨kg,by refine⟨?_,?_,?_,?_,?_⟩<;>assumption⟩,HB3.out⟩
     case measure=>exact qL
  .exfalso;obtain⟨i,h1,h2⟩:=HX.out;have:=HB i om;rw[h2]at this;cases this
def aGB(f t m k:Int)(hr:Rd w .u64 v n n W)(GR:0<n)(HF:Hid (∀j,j<n->∀w,pO f (W j) w H))(HR:xE z fl A)(hn:2<=n)(HO:KB 62 #[J f,J m,Y (W 0),Y (W 1)] (aU z fl)):
  oV (tx [97,100,100]) f t m k v w A:=by
 exact Ny
def aGt(f t m k:Int)(hr:Rd w .u64 v n n W)(GR:0<n)(HF:Hid (∀j,j<n->∀w,pO f (W j) w H))(HR:xE z fl A)(hn:2<=n)(HO:KB 63 #[J f,J m,Y (W 0),Y (W 1)] (aU z fl)):
  oV (tx [115,117,98]) f t m k v w A:=by
 exact Ny
def aGv(f t m k:Int)(hr:Rd w .u64 v n n W)(GR:0<n)(HF:Hid (∀j,j<n->∀w,pO f (W j) w H))(HR:xE z fl A)(hn:2<=n)(HO:KB 64 #[J f,J m,Y (W 0),Y (W 1)] (aU z fl)):
  oV (tx [109,117,108]) f t m k v w A:=by
 exact Ny
def aGz(f t m k:Int)(hr:Rd w .u64 v n n W)(GR:0<n)(HF:Hid (∀j,j<n->∀w,pO f (W j) w H))(HR:xE z fl A)(hn:3<=n)(HO:KB 65 #[J f,J m,Y (W 0),Y (W 1),Y (W 2)] (aU z fl)):
  oV (tx [102,109,97]) f t m k v w A:=by
 obtain⟨b,cap,rfl,AA,zA,aW⟩:=hr.at GR;have HCe:Hid (∀j,j<n->aB w b j (Y (W j))):=aW;have hn9:n<=9223372036854775807:=by unfold maxLen at zA;omega
 clear hr aW AA zA;go_enter func23,ntmps23;go_wp2;go_loopw [8] (λi wr=>∃j:Nat,j<=n/\i=J (j:Int)/\Lc w wr f t m k (aF b n cap)) (λi _=>n-(intOf i).toNat)
 case atStart=>exact⟨0,fV _,rfl,⟨kg,by simp[uj,pG,jU,lW,go_sem]⟩⟩
 case round=>
  obtain⟨j,hj,rfl,hL⟩:=hrel;obtain⟨dQ,c0,c1,c2,c3,c4⟩:=hL;by_cases fJ:(j:Int)<(n:Int)
  .exact aB6
  .obtain rfl:j=n:=om;have x0:=dQ.old (HCe 0 om);have i0:(0:Int)<(j:Int):=om;have x1:=dQ.old (HCe 1 om);have i1:(1:Int)<(j:Int):=om;have x2:=dQ.old (HCe 2 om);have i2:(2:Int)<(j:Int):=om;clear HF;go_wp2;go_region_held3 (λw'=>jU w' b 0 1 2 (Y (W 0)) (Y (W 1)) (Y (W 2))/\uj w' w.heap.size 0 1 2 3 4 (J f) (J t) (J m) (J k) (aF b j cap))(exact wK)(first|((first|go_at_call 62|go_at_call 63|go_at_call 64|go_at_call 65|go_at_call 66|go_at_call 67|go_at_call 68|go_at_call 69|go_at_call 70|go_at_call 71|go_at_call 72|go_at_call 73);refine ku (HO _) λw1 au=>?_)|(go_at_call 59;refine ku (HR _) λw2 aC=>?_))
   all_goals go_wp2<;>go_returns
   all_goals exact⟨rfl,kg⟩
def aGA(f t m k:Int)(hr:Rd w .u64 v n n W)(GR:0<n)(HF:Hid (∀j,j<n->∀w,pO f (W j) w H))(HR:xE z fl A)(hn:2<=n)(HO:KB 66 #[J f,J m,Y (W 0),Y (W 1)] (aU z fl)):
  oV (tx [100,105,118]) f t m k v w A:=by
 exact Ny
def aDs(f t m k:Int)(hr:Rd w .u64 v n n W)(GR:0<n)(HF:Hid (∀j,j<n->∀w,pO f (W j) w H))(HR:xE z fl A)(hn:1<=n)(HO:KB 67 #[J f,J m,Y (W 0)] (aU z fl)):
  oV (tx [115,113,114,116]) f t m k v w A:=by
 exact aB7
def aGu(f t m k:Int)(hr:Rd w .u64 v n n W)(GR:0<n)(HF:Hid (∀j,j<n->∀w,pO f (W j) w H))(HR:xE z fl A)(hn:2<=n)(HO:KB 68 #[J f,Y (W 0),Y (W 1)] (aU z fl)):
  oV (tx [114,101,109]) f t m k v w A:=by
 exact Ny
def aAs(f t m k:Int)(hr:Rd w .u64 v n n W)(GR:0<n)(HF:Hid (∀j,j<n->∀w,pO f (W j) w H))(HR:xE z fl A)(hn:1<=n)(HO:KB 69 #[J f,J m,J k,Y (W 0)] (aU z fl)):
  oV (tx [116,111,105,110,116]) f t m k v w A:=by
 exact aB7
def Us(f t m k:Int)(hr:Rd w .u64 v n n W)(GR:0<n)(HF:Hid (∀j,j<n->∀w,pO f (W j) w H))(HR:xE z fl A)(hn:1<=n)(HO:KB 70 #[J f,J t,J m,Y (W 0)] (aU z fl)):
  oV (tx [99,111,110,118,101,114,116]) f t m k v w A:=by
 exact aB7
def aAt(f t m k:Int)(hr:Rd w .u64 v n n W)(GR:0<n)(HF:Hid (∀j,j<n->∀w,pO f (W j) w H))(HR:xE z fl A)(hn:1<=n)(HO:KB 71 #[J f,J m,Y (W 0),X H] (aU z fl)):
  oV (tx [114,111,117,110,100]) f t m k v w A:=by
 exact aB7
def aGw(f t m k:Int)(hr:Rd w .u64 v n n W)(GR:0<n)(HF:Hid (∀j,j<n->∀w,pO f (W j) w H))(HR:xE z fl A)(hn:2<=n)(HO:KB 72 #[J f,Y (W 0),Y (W 1)] (aU z fl)):
  oV (tx [109,105,110]) f t m k v w A:=by
 exact Ny
def aGx(f t m k:Int)(hr:Rd w .u64 v n n W)(GR:0<n)(HF:Hid (∀j,j<n->∀w,pO f (W j) w H))(HR:xE z fl A)(hn:2<=n)(HO:KB 73 #[J f,Y (W 0),Y (W 1)] (aU z fl)):
  oV (tx [109,97,120]) f t m k v w A:=by
 exact Ny
def aGy(f t m k:Int)(hr:Rd w .u64 v n n W)(GR:0<n)(HR:xE z fl A)(ok:Bool)(HI:Hid (∀w,CT 58 #[J k,Y (W 0)] w λe w'=>∃s b kk c,e=Z (V #[.agg #[J s,aF b kk c,J 0,X U],X ok])/\Gb w w'))(HO:KB 60 #[J f,J m,J k,Y (W 0)] (aU z fl)):
  oV (tx [105,110,116]) f t m k v w (if ok=H then A else jO):=by
 obtain⟨b,cap,rfl,AA,zA,aW⟩:=hr.at GR;have x0:=aW 0 GR;have i0:(0:Int)<(n:Int):=om;have x1:=λob=>bC ob x0;have hb:=aA x0;have lM:¬(w.heap.size+1=b):=om;have aV4:¬(w.heap.size=b):=om;clear hr aW AA zA;go_enter func23,ntmps23;go_wp2;go_region_held3 (λw'=>uj w' w.heap.size 0 1 2 3 4 (J f) (J t) (J m) (J k) (aF b n cap)/\aB w' b 0 (Y (W 0)))((go_split_ands;(repeat' apply And.intro)<;>first|(with_reducible assumption)|(simp[go_sem, *];done)|exact kb))((go_at_call 58;refine(HI _).mono ?_;rintro e w1 ⟨s1,b1,k1,c1,rfl,au⟩;first|(obtain⟨p0,r0,p1,r1,p2,r2,p3,r3⟩:qU w1 (w.heap.size+1) 0 1 2 3 (J 0) (O E 0 0) (J 0) (X U);focus (refine au.y4 _ 0 1 2 3 _ _ _ _ ?_;simp[qU,KF3,jX,ZB,go_sem];done))|skip))
 all_goals
  cases ok
  .go_wp2;go_returns;exact⟨rfl,kg⟩
  .go_wp2;go_region_held3 (λw'=>uj w' w.heap.size 0 1 2 3 4 (J f) (J t) (J m) (J k) (aF b n cap)/\aB w' b 0 (Y (W 0)))((go_split_ands;(repeat' apply And.intro)<;>first|(with_reducible assumption)|(simp[go_sem, *];done)|exact kb))(first|(go_at_call 60;refine ku (HO _) λw2 aC=>?_)|(go_at_call 59;refine ku (HR _) λw3 aO=>?_))
   all_goals go_wp2<;>go_returns
   all_goals exact⟨rfl,kg⟩
def aL4{P:Prop}(h:P:=by
 have H1:Hid _:=vJ o o0 o1;have H2:Hid _:=vJ fl f0 f1;have z1:=iU o o0 o1;have z2:=iU fl f0 f1;rw[<-dZ]at z1 z2;generalize tx (Lib.itoa o)=t1 at*
 generalize tx (Lib.itoa fl)=t2 at*
 have g1:zK (t1.size+1):=om;have g3:zK (t1.size+1+t2.size):=om;clear o0 o1 f0 f1;obtain⟨b,cap,rfl,AA,zA,aW⟩:=hr.at GR;have HCe:Hid (∀j,j<n->aB w b j (Y (W j))):=aW;have hn9:n<=9223372036854775807:=by unfold maxLen at zA;omega
 clear hr aW AA zA;go_enter func23,ntmps23;go_wp2;go_loopw [8] (λi wr=>∃j:Nat,j<=n/\i=J (j:Int)/\Lc w wr f t m k (aF b n cap)) (λi _=>n-(intOf i).toNat)
 case atStart=>exact⟨0,fV _,rfl,⟨kg,by simp[uj,pG,jU,lW,go_sem]⟩⟩
 case round=>
  obtain⟨j,hj,rfl,hL⟩:=hrel;obtain⟨dQ,c0,c1,c2,c3,c4⟩:=hL;by_cases fJ:(j:Int)<(n:Int)
  .exact aB6
  .obtain rfl:j=n:=om;have x0:=dQ.old (HCe 0 om);have x1:=dQ.old (HCe 1 om);have i0:(0:Int)<(j:Int):=om;have i1:(1:Int)<(j:Int):=om;clear HF;go_wp2;go_region_held3 (λw'=>lW w' b 0 1 (Y (W 0)) (Y (W 1))/\uj w' w.heap.size 0 1 2 3 4 (J f) (J t) (J m) (J k) (aF b j cap))(exact wK)((go_at_call 74;refine ku (HO _) λw1 au=>?_))
   all_goals go_wp2_with (go_at_call 45;first|(with_reducible refine ku (H1.out _) λw2 aC=>?_)|(with_reducible refine ku (H2.out _) λw3 aO=>?_))
   all_goals go_returns
   all_goals exact⟨rfl,kg⟩):P:=h
def Ut(f t m k:Int)(hr:Rd w .u64 v n n W)(GR:0<n)(HF:Hid (∀j,j<n->∀w,pO f (W j) w H))(hn:2<=n)(o0:-9223372036854775808<=o)(o1:o<=9223372036854775807)(f0:-9223372036854775808<=fl)(f1:fl<=9223372036854775807)(HO:KB 74 #[J f,Y (W 0),Y (W 1),X U] (V #[J o,J fl])):
  oV (tx [99,111,109,112,97,114,101]) f t m k v w (tx (Lib.itoa o)++tx [32]++tx (Lib.itoa fl)):=by
 exact aL4
def Xk(f t m k:Int)(hr:Rd w .u64 v n n W)(GR:0<n)(HF:Hid (∀j,j<n->∀w,pO f (W j) w H))(hn:2<=n)(o0:-9223372036854775808<=o)(o1:o<=9223372036854775807)(f0:-9223372036854775808<=fl)(f1:fl<=9223372036854775807)(HO:KB 74 #[J f,Y (W 0),Y (W 1),X H] (V #[J o,J fl])):
  oV (tx [115,105,103,110,97,108]) f t m k v w (tx (Lib.itoa o)++tx [32]++tx (Lib.itoa fl)):=by
 exact aL4
def pq.take{g:Nat->aJ}(h:pq w v n g)(l:Nat)(hl:l<=n):∃v',(∀w',(Instr.slice 26 v E (I (J (l:Int))) E).run prog w'=.ok v' w')/\pq w v' l g:=by
 obtain⟨a,cap,rfl,h1,h2,hc⟩:=h;refine⟨O (if cap=0 then a else a.map (·.add 0)) l cap,λw'=>?_,?_⟩
 .have z:=sizeOf9;rw[run_slice_h (P:=prog) w' 26 a n cap (by rw[KH];exact underlying26) .i64 (l:Int) om (by omega)];simp[sliced,KH,z]
 .refine⟨_,_,rfl,om,h2,λhn=>?_⟩;obtain⟨b,o,rfl,EK⟩:=hc om;rw[aH (by omega)];exact⟨b,o,by simp[Addr.add],λj hj=>EK j om⟩
def zV.any(h:zV w s e w'):∃t ok,e=Z (V #[.string t,X ok])/\Gb w w'/\Hid ((ok=H↔s.size%2=0/\0<s.size/\wQ s.data.toList≠E)/\(ok=H->∃l,wQ s.data.toList=I l/\t=tx l)):=by
 obtain⟨hg,t,ok,h1,h2,h3⟩:=h;exact⟨t,ok,h1,hg,h2,h3⟩
def aJg(n:Nat)(g:Nat->aJ):Prop:=n=4/\(∀j,j<3->aV 16 (g j)≠E)/\(g 3).size %2=0/\0<(g 3).size /\wQ (g 3).data.toList ≠E
abbrev aQ1(a b c d:Int):aJ:=tx (Lib.itoa a)++tx [32]++tx (Lib.itoa b)++tx [32]++tx (Lib.itoa c)++tx [32]++tx (Lib.itoa d)
def RZ{g:Nat->aJ}(hr:pq w v n g)(hn:n<=1000000)(hs:∀j,j<n->(g j).size <=1048576)(Cc:¬aJg n g):QB 20 #[v] w (.string jO):=by
 by_cases h4:n=4
 case neg=>
  obtain⟨a,cap,rfl,_⟩:=hr;have c:((n:Int)==4)=U:=Am om;go_enter func20,ntmps20;go_wp2;go_returns;exact⟨rfl,kg⟩
 case pos=>
  subst h4;obtain⟨v3,Pg,hr3⟩:=hr.take 3 de;have LX:∀w',(Instr.slice 26 v E (I (J 3)) E).run prog w'=.ok v3 w':=Pg;clear Pg;have HW:Hid (∀w',Gb w w'->CT 54 #[v3] w' λe bf=>sJ w' 3 g (λj=>(aV 16 (g j)).getD 0) e bf):=λw' hg=>ZT (hr3.gb hg) de;have HB:Hid _:=aIV (g 3) (hs 3 de);have HN:Hid _:=Cc;obtain⟨a,cap,rfl,h1,h2,aW⟩:=hr;obtain⟨b,o,rfl,hc⟩:=aW de;have q:=hc 3 de;clear hr3 aW hc Cc hs hn h1 h2;go_enter func20,ntmps20;go_upto_region 5 with(first|(go_at_call 54;refine(HW _ kg).mono ?_;rintro e w2 hW7;obtain⟨va,vl,vc,ok,rfl,aC,HU⟩:=sJ.any hW7;clear hW7;have q2:=aC.old q)|(go_at_call 55;refine(HB _).mono ?_;rintro e w3 hB7;obtain⟨td,ok2,rfl,aO,HD⟩:=zV.any hB7;clear hB7))
  have aO0:ok=U\/ok2=U:=by
   rcases HU.out with⟨rfl,h1,_⟩|⟨rfl,_⟩
   .cases ok2
    .exact .inr rfl
    .exact bG ⟨rfl,h1,HD.out.1.1 rfl⟩ HN.out
   .exact .inl rfl
  clear HU HD;cases ok
  .go_wp2;go_returns;exact⟨rfl,kg⟩
  .obtain rfl:ok2=U:=by simpa using aO0
   go_wp2;go_returns;exact⟨rfl,kg⟩
def aAu{g:Nat->aJ}(hr:pq w v 4 g)(hs:(g 3).size <=1048576)(W:Nat->Int)(hW:∀j,j<3->aV 16 (g j)=I (W j))(l:List UInt8)(hz:(g 3).size %2=0/\0<(g 3).size)(hl:wQ (g 3).data.toList =I l){b:Int}(ha:-9223372036854775808<=a/\a<=9223372036854775807)(hb:-9223372036854775808<=b/\b<=9223372036854775807)(hc:-9223372036854775808<=c/\c<=9223372036854775807)(hd:-9223372036854775808<=d/\d<=9223372036854775807)
  (HS:KB 56 #[Y (W 0),Y (W 1),Y (W 2),.string (tx l)] (.agg #[J a,J b,J c,J d])):QB 20 #[v] w (.string (aQ1 a b c d)):=by
 have H1:Hid _:=vJ a ha.1 ha.2;have H2:Hid _:=vJ b hb.1 hb.2;have H3:Hid _:=vJ c hc.1 hc.2;have H4:Hid _:=vJ d hd.1 hd.2;have z1:=iU a ha.1 ha.2;have z2:=iU b hb.1 hb.2;have z3:=iU c hc.1 hc.2;have z4:=iU d hd.1 hd.2;rw[<-dZ]at z1 z2 z3 z4;unfold aQ1;generalize tx (Lib.itoa a)=t1 at*
 generalize tx (Lib.itoa b)=t2 at*
 generalize tx (Lib.itoa c)=t3 at*
 generalize tx (Lib.itoa d)=t4 at*
 have g0:zK (t1.size+1):=om;have g1:zK (t1.size+1+t2.size):=om;have g2:zK (t1.size+1+t2.size+1):=om;have g3:zK (t1.size+1+t2.size+1+t3.size):=om;have g4:zK (t1.size+1+t2.size+1+t3.size+1):=om;have g5:zK (t1.size+1+t2.size+1+t3.size+1+t4.size):=om;clear ha hb hc hd;obtain⟨v3,Pg,hr3⟩:=hr.take 3 de;have LX:∀w',(Instr.slice 26 v E (I (J 3)) E).run prog w'=.ok v3 w':=Pg;clear Pg;have HW:Hid (∀w',Gb w w'->CT 54 #[v3] w' λe bf=>sJ w' 3 g (λj=>(aV 16 (g j)).getD 0) e bf):=λw' hg=>ZT (hr3.gb hg) de;have HB:Hid _:=aIV (g 3) hs;have HZ:Hid ((g 3).size %2=0/\0<(g 3).size /\wQ (g 3).data.toList ≠E):=⟨hz.1,hz.2,by rw[hl];exact Option.some_ne_none _⟩;have HL:Hid _:=hl;have HV:Hid _:=hW;obtain⟨pa,cap,rfl,h1,h2,aW⟩:=hr;obtain⟨pb,o,rfl,Qx⟩:=aW de;have q:=Qx 3 de;clear hr3 aW Qx h1 h2 hW hl hz hs;go_enter func20,ntmps20;go_upto_region 5 with(first|(go_at_call 54;refine(HW _ kg).mono ?_;rintro e w2 hW7;obtain⟨va,vl,vc,ok,rfl,aC,HU⟩:=sJ.any hW7;clear hW7;have q2:=aC.old q)|(go_at_call 55;refine(HB _).mono ?_;rintro e w3 hB7;obtain⟨td,ok2,rfl,aO,HD⟩:=zV.any hB7;clear hB7))
 obtain rfl:ok2=H:=HD.out.1.2 HZ.out;obtain⟨l',S_,rfl⟩:=HD.out.2 rfl;obtain rfl:l'=l:=Option.some.inj (S_.symm.trans HL.out);rcases HU.out with⟨rfl,_,yt⟩|⟨_,j,hj,hj2⟩
 case inr=>exact bG hj2 (by rw[HV.out j hj];exact Option.some_ne_none _)
 obtain⟨bw,cw,hv,_,hbw,_,_,hcw⟩:=yt.at de;simp only[Value.slice.injEq]at hv;obtain⟨rfl,rfl,rfl⟩:=hv;have e0:=aO.old ((hcw 0 de).1);have e1:=aO.old ((hcw 1 de).1);have e2:=aO.old ((hcw 2 de).1);simp only[HV.out 0 de,HV.out 1 de,HV.out 2 de,Option.getD_some]at e0 e1 e2;have aWd:=aA e0;clear yt hcw HU HD HZ HL HV S_ HW HB q q2 LX;have n0:¬(w3.heap.size=bw):=om;go_wp2;go_region_held3 (λw'=>jU w' bw 0 1 2 (Y (W 0)) (Y (W 1)) (Y (W 2)))((go_split_ands;(repeat' apply And.intro)<;>first|(with_reducible assumption)|(simp[go_sem, *];done)|exact kb))((go_at_call 56;refine ku (HS _) λw4 bg=>?_;first|(obtain⟨p0,r0,p1,r1,p2,r2,p3,r3⟩:qU w4 w3.heap.size 0 1 2 3 (J 0) (J 0) (J 0) (J 0);focus (refine bg.y4 _ 0 1 2 3 _ _ _ _ ?_;simp[qU,KF3,jX,ZB,go_sem];done))|skip))
 all_goals go_wp2<;>first|(go_region_held3 (λw'=>pG w' w3.heap.size 0 1 2 3 (J a) (J b) (J c) (J d)) ((go_split_ands;(repeat' apply And.intro)<;>first|(with_reducible assumption)|(simp[go_sem, *];done)|exact kb)) ((go_at_call 45;first|(with_reducible refine ku (H1.out _) λy1 aRv=>?_)|(with_reducible refine ku (H2.out _) λy2 aRu=>?_)|(with_reducible refine ku (H3.out _) λy3 aRt=>?_)|(with_reducible refine ku (H4.out _) λy4 aRs=>?_))))|(go_region_held3 (λw'=>pG w' w4.heap.size 0 1 2 3 (J a) (J b) (J c) (J d)) ((go_split_ands;(repeat' apply And.intro)<;>first|(with_reducible assumption)|(simp[go_sem, *];done)|exact kb)) ((go_at_call 45;first|(with_reducible refine ku (H1.out _) λy1 aRv=>?_)|(with_reducible refine ku (H2.out _) λy2 aRu=>?_)|(with_reducible refine ku (H3.out _) λy3 aRt=>?_)|(with_reducible refine ku (H4.out _) λy4 aRs=>?_))))
 all_goals go_wp2<;>go_returns
 all_goals exact⟨rfl,kg⟩
def aL2{P:Prop}(h:P:=by
 have HC:Hid (∀w,CT 9 #[.string s,.int .u8 32] w λe w'=>∃v,e=Z v/\Os w' w.heap.size v (gW 32 s)/\Gb w w'):=aIN 32 s om;have hp:=X5 s;have SY:(0:Int)<(xR s:Int):=om;exact aP1):P:=h
abbrev prt(s:aJ)(j:Nat):aJ:=(gW 32 s).getD j default
abbrev xR(s:aJ):Nat:=(gW 32 s).length
def X5(s:aJ):0<xR s:=by
 have:=List.length_pos_iff.2 (F8 32 s.data.toList)
 simpa[xR,gW]using this
def UZ(s:aJ):xR s<=s.size+1:=by
 have:=F7 32 s.data.toList;rw[dN]at this
 simpa[xR,gW]using this
def aP1{P:Prop}(h:P:=by
 go_enter func10,ntmps10;go_upto_region 2 with(go_at_call 9;refine(HC _).mono ?_;rintro e w1 ⟨v,rfl,hos,au⟩);have Io:=Os.rs hos;obtain⟨v1,Pg,wz⟩:=Io.cut 1 hp;have LX:∀w',(Instr.slice 26 v (I (J 1)) E E).run prog w'=.ok v1 w':=Pg;have HR:Hid (pq w1 v1 (xR s-1) (λj=>prt s (1+j))):=wz;clear hos wz Pg;obtain⟨a,cap,rfl,h1,h2,aW⟩:=Io;obtain⟨b,o,rfl,hc⟩:=aW hp;have q:aB w1 b o (.string (prt s 0)):=hc 0 hp;rw[h0]at q;clear aW hc h1 h2 h0;go_wp2_with (first|(go_at_call 19;refine ku (HP _ _ HR.out) λw2 aC=>?_)|(go_at_call 20;refine ku (HP _ _ HR.out) λw2 aC=>?_))
 go_returns;exact⟨rfl,kg⟩):P:=h
def aEw(s:aJ)(hs:s.size<=100000)(h0:prt s 0=tx [112,111,108,121])(HP:Hid (∀w v,pq w v (xR s-1) (λj=>prt s (1+j))->QB 19 #[v] w (.string A)))(w:ak):QB 10 #[.string s] w (.string A):=by
 exact aL2
def Ku(s:aJ)(hs:s.size<=100000)(h0:prt s 0=tx [115,97,109,112,108,101])(HP:Hid (∀w v,pq w v (xR s-1) (λj=>prt s (1+j))->QB 20 #[v] w (.string A)))(w:ak):QB 10 #[.string s] w (.string A):=by
 exact aL2
def IK(s S:aJ):Prop:=S.size≠0/\xR s-1=S.size/\(uQ (λj=>prt s (1+j)) S.data.toList 0 (-1) (-1) 0 0≠E)/\∀F j,mX S F->F<=j->j<xR s-1->aV 16 (prt s (1+j))≠E
def Ye(s:aJ)(hs:s.size<=100000)(hr:InL jw (prt s 0) r)(r0:-1<=r)(r1:r<15)(S:aJ)(hS:shapeOf r=S)(hS9:S.size<=100)(np:prt s 0≠tx [112,111,108,121])(nq:prt s 0≠tx [115,97,109,112,108,101])(Cc:¬IK s S->A=jO)
  (HP:Hid (∀w f t m k v F,IK s S->uQ (λj=>prt s (1+j)) S.data.toList 0 (-1) (-1) 0 0=I (f,t,m,k)->mX S F->Rd w .u64 v (xR s-1-F) (xR s-1-F) (λj=>(aV 16 (prt s (1+(F+j)))).getD 0)->oV (prt s 0) f t m k v w A)) (w:ak):QB 10 #[.string s] w (.string A):=by
 have HC:Hid (∀w,CT 9 #[.string s,.int .u8 32] w λe w'=>∃v,e=Z v/\Os w' w.heap.size v (gW 32 s)/\Gb w w'):=aIN 32 s om;have hp:=X5 s;have SY:(0:Int)<(xR s:Int):=om;generalize hp0:prt s 0=p0 at*
 have HP0:Hid (prt s 0=p0):=hp0;clear hp0;have HSh:Hid _:=aCm hr r0 r1;rw[hS]at HSh;have HN:Hid _:=Cc;have hn9:=UZ s;have cp:=zJ np;have cq:=zJ nq;simp only[ByteArray.toList_mk]at cp cq;clear hr r0 r1 hS np nq Cc;go_enter func10,ntmps10;go_upto_region 2 with(go_at_call 9;refine(HC _).mono ?_;rintro e w1 ⟨v,rfl,hos,au⟩);have Io:=Os.rs hos;obtain⟨v1,Pg,wz⟩:=Io.cut 1 hp;have LX:∀w',(Instr.slice 26 v (I (J 1)) E E).run prog w'=.ok v1 w':=Pg;have HR:Hid (pq w1 v1 (xR s-1) (λj=>prt s (1+j))):=wz;clear hos wz Pg;obtain⟨a,cap,rfl,h1,h2,aW⟩:=Io;obtain⟨b,o,rfl,hc⟩:=aW hp;have q:w1.cell? ⟨b,o,E⟩=I (.string p0):=by rw[<-HP0.out];exact hc 0 hp
 have HRd:Hid (∀w',Gb w1 w'->CT 22 #[.string S,v1] w' λe bf=>Gq w' S (xR s-1) (λj=>prt s (1+j)) e bf):=λw' hg=>aQn S hS9 (HR.out.gb hg) om;clear aW hc h1 h2 HR;go_upto_region 8 with(first|(go_at_call 21;refine ku (HSh _) λw2 aC=>?_;have q2:=aC.old q)|(go_at_call 22;refine(HRd _ kg).mono ?_;rintro e w3 h7;obtain⟨f,t,m,k,va,vl,vc,ok,rfl,aO,HU⟩:=Gq.any h7;clear h7;have q3:=aO.old q2;have q4:=λob=>bC ob q3))
 by_cases hz:S.size=0
 .have c:(S.size:Int)=0:=om;obtain rfl:=HN (λh=>h.1 hz);clear HU hz HN;go_wp2;go_returns;exact⟨rfl,kg⟩
 have c:((S.size:Int)==0)=U:=Am om;rcases HU.out with⟨rfl,Eu⟩|⟨rfl,hn,hrd,F,hF,hall,hRd⟩
 .have hx:¬IK s S:=λh=>by
   rcases Eu with h1|h1|⟨F,j,h1,h2,h3,h4⟩
   .exact h1 h.2.1
   .exact h.2.2.1 h1
   .exact h.2.2.2 F j h1 h2 h3 h4
  obtain rfl:=HN hx;clear HU hz HN hx Eu;go_wp2;go_returns;exact⟨rfl,kg⟩
 .have Cb:IK s S:=⟨hz,hn,by rw[hrd];exact Option.some_ne_none _,λF' j h1 h2 h3=>by
   have:F'=F:=by
    rcases Oz F F' with c|c|c
    .exact bG (hF.2.2 (by have:=h1.1;omega)) (h1.2.1 F c)
    .exact c.symm
    .exact bG (h1.2.2 (by have:=hF.1;omega)) (hF.2.1 F' c)
   exact hall j om h3⟩
  have HS:Hid (∀w',Gb w3 w'->QB 23 #[.string p0,.agg #[J f,J t,J m,J k,O va vl vc]] w' (.string A)):=λw' hg=>HP w' f t m k _ F Cb hrd hF (hRd.gb hg);have nO:=aA q3;have lM:¬(w3.heap.size=b):=om;clear HU hz HN Cb hrd hF hall hRd hn HP;go_wp2;go_region_held3 (λw'=>aB w' b o (.string p0)/\uj w' w3.heap.size 0 1 2 3 4 (J f) (J t) (J m) (J k) (O va vl vc))((go_split_ands;(repeat' apply And.intro)<;>first|(with_reducible assumption)|(simp[go_sem, *];done)|exact kb))((go_at_call 23;refine ku (HS _ kg) λw4 bg=>?_))
  all_goals go_wp2<;>go_returns
  all_goals exact⟨rfl,kg⟩
def qE(s:aJ):List aJ:=if(gW 10 s).getLast? =I (tx [])then(gW 10 s).dropLast else gW 10 s
def tH(an:Nat->aJ):Nat->List UInt8
 |0=>[]
 |j+1=>tH an j++(an j).data.toList ++[10]
def XP{an:Nat->aJ}(h:∀j,(an j).size <=5000)(j:Nat):(tH an j).length <=5001*j:=by
 induction j with
 |zero=>simp[tH]
 |succ j ih=>
  have:=h j;have e:=dN (an j);simp only[tH,List.length_append,List.length_singleton,e];omega
def yF(s:aJ)(an:Nat->aJ):aJ:=if 100000<s.size\/1000<(qE s).length then tx [116,111,111,32,108,111,110,103,10]else tx (tH an (qE s).length)
def RP{P:Prop}(h:P:=by
 go_wp2;go_returns;exact⟨b_ (lu Value.string HE.out.symm),kg⟩):P:=h
def aL5{P:Prop}(h:P:=by
 have q:=dQ.old (hc j om);have HLj:Hid _:=HLn j om om;have hsj:=HSz j;have HO2:Hid (l++(an j).data.toList ++[10]=tH an (j+1)):=by show _=_;rw[tH,HO.out]
 have Au:Hid (∀w2,Gb wr w2->By w2 w1.heap.size _ l):=λw2 hg=>Lr.gb jv hg;generalize an j=t at*
 clear jv hc HO;go_upto_region 12 with(go_at_call 10;refine ku (HLj _) λw4 bg=>?_);have HW4:Hid (By w4 w1.heap.size _ l):=Au _ bg;have hz4:=bg.size;have aTW:Gb w1 w4:=dQ.trans bg;clear Au q;go_loopw [4,7] (λo i wr=>∃k2:Nat,k2<=t.size/\i=J (k2:Int)/\By wr w1.heap.size o (l++t.data.toList.take k2)/\Gb w1 wr) (λ_ i _=>t.size-(intOf i).toNat)
 case atStart=>exact⟨0,fV _,rfl,by simpa using HW4.out,aTW⟩
 case round=>
  obtain⟨k2,m_,rfl,aRk,Ir⟩:=hrel;have aRc:=Ir.size;have HO3:Hid (∀w2,Gb wr w2->By w2 w1.heap.size _ (l++t.data.toList.take k2)):=λw2 hg=>Lr.gb aRk hg;clear aRk;have o_:(l++t.data.toList.take k2).length <=10000000:=by rw[List.length_append,List.length_take];omega
  by_cases EI:(k2:Int)<(t.size:Int)
  .have Rl:k2<t.data.toList.length:=by rw[dN];omega
   have qi:=jR t k2 om;have HB:Hid (iJ t k2=((t.data.toList[k2]).toNat :Int)):=xC t k2 Rl;have HT:Hid (t.data.toList.take (k2+1)=t.data.toList.take k2++[t.data.toList[k2]]):=take_snoc Rl;generalize iJ t k2=bt at*
   go_wp2_with (at_builtin;refine rJ rfl _ _ 24 rfl 5 _ 1 underlying24 Vh rfl de w1.heap.size _ (.int .u8 bt) _ wr.heap.size rfl (HO3 _ kg) rfl j_ rfl (by rw[List.length_map];omega) (by rw[dV];omega) ?_;intro v3 w5 nM nO);go_roundw
   case rel=>exact⟨k2+1,om,jS,by rw[HT.out,<-List.append_assoc,By,List.map_append,List.map_cons,List.map_nil,<-HB.out];exact nM,Gb.below kg nO (dJ _)⟩
   case measure=>exact qL
  .obtain rfl:k2=t.size:=om;have HT:Hid (t.data.toList.take t.size=t.data.toList):=List.take_of_length_le (by rw[dN];exact dJ _);go_wp2_with (at_builtin;refine rJ rfl _ _ 24 rfl 5 _ 1 underlying24 Vh rfl de w1.heap.size _ (.int .u8 10) _ wr.heap.size rfl (HO3 _ kg) rfl j_ rfl (by rw[List.length_map];omega) (by rw[dV];omega) ?_;intro v3 w5 nM nO);go_roundw
   case rel=>
    refine⟨j+1,_,om,jS,?_,Gb.below kg nO (dJ _),HO2.out,?_⟩
    .rw[By,List.map_append,List.map_cons,List.map_nil,<-HT.out];exact nM
    .rw[List.length_append,List.length_append,dN,List.length_singleton];omega
   case measure=>simp[intOf]<;>omega):P:=h
def take_snoc{k:Nat}(h:k<D.length):D.take (k+1)=D.take k++[D[k]]:=List.take_succ_eq_append_getElem h
def aQj(s:aJ)(hs:s.size<=1048576)(an:Nat->aJ)(ha:∀j,(an j).size <=5000)(HL:Hid (∀j,j<(qE s).length ->s.size<=100000->∀w,QB 10 #[.string ((qE s).getD j default)] w (.string (an j))))(w:ak):QB 5 #[.string s] w (.string (yF s an)):=by
 have HC:Hid (∀w,CT 9 #[.string s,.int .u8 10] w λe w'=>∃v,e=Z v/\Os w' w.heap.size v (gW 10 s)/\Gb w w'):=aIN 10 s hs;have HSz:Hid _:=ha;clear ha;have lM:=F8 10 s.data.toList;have YI:=F7 10 s.data.toList;rw[dN]at YI;have aCM:(gW 10 s).length =(sG 10 s.data.toList).length :=by unfold gW;rw[List.length_map]
 have jZ:=List.length_pos_iff.2 lM;obtain⟨kk,hkk⟩:∃kk,(gW 10 s).length =kk+1:=⟨(gW 10 s).length -1,om⟩;have hk9:kk<=s.size:=om;have DC:(gW 10 s).getLast? =I ((gW 10 s).getD kk default):=by
  rw[List.getLast?_eq_getElem?,hkk,Nat.add_sub_cancel,qF,Dj (by omega)];rfl
 have HG:Hid ((gW 10 s).getD kk default=tx []->(qE s).length =kk/\∀j,j<kk->(qE s).getD j default=(gW 10 s).getD j default):=λhe=>by
  have e:qE s=(gW 10 s).dropLast :=by unfold qE;rw[DC,he,aQ rfl]
  rw[e];refine⟨by rw[List.length_dropLast];omega,λj hj=>?_⟩;rw[qF,qF,List.getElem?_dropLast,aQ (by omega)]
 have HH:Hid (¬(gW 10 s).getD kk default=tx []->qE s=gW 10 s):=λhe=>by
  unfold qE;rw[DC,aH (λh=>he (Option.some.inj h))]
 clear lM YI aCM jZ DC;have u:IntKind.i64.wrap (((kk+1:Nat):Int)-1)=(kk:Int):=by rw[dI];omega
 have i1:(kk:Int)<((kk+1:Nat):Int):=om;have i2:(0:Int)<=(kk:Int):=om;go_enter func5,ntmps5;go_upto_region 2 with(go_at_call 9;refine(HC _).mono ?_;rintro e w1 ⟨v,rfl,hos,au⟩);have Io:=Os.rs hos;rw[hkk]at Io;obtain⟨v1,LX,wz⟩:=Io.take kk om;obtain⟨a,cap,rfl,h1,h2,aW⟩:=Io;obtain⟨b,o,rfl,hc⟩:=aW om;have q:aB w1 b (o+kk) (.string ((gW 10 s).getD kk default)):=hc kk om;clear hos h1 h2;by_cases he:(gW 10 s).getD kk default=tx []
 .obtain⟨qZ,Az⟩:=HG he;have HRn:Hid (yF s an=if 100000<s.size\/1000<kk then tx [116,111,111,32,108,111,110,103,10]else tx (tH an kk)):=by show _=_;unfold yF;rw[qZ]
  have HLn:Hid (∀j,j<kk->s.size<=100000->∀w,QB 10 #[.string ((gW 10 s).getD j default)] w (.string (an j))):=λj hj h5 w=>by rw[<-Az j hj];exact HL j om h5 w
  rw[he]at q;obtain⟨a3,cap3,rfl,h13,h23,aIe⟩:=wz;have HC3:Hid _:=aIe;clear aIe h13 h23 aW hc HG HH he qZ Az HL hkk;go_upto_region 4 with fail;clear q LX u i1;by_cases oz:100000<s.size\/1000<kk
  .have HE:Hid (yF s an=tx [116,111,111,32,108,111,110,103,10]):=by show _=_;rw[HRn.out,aQ oz]
   clear HRn HLn;by_cases c0:(100000:Int)<(s.size:Int)
   .exact RP
   .have c1:(1000:Int)<((kk:Nat):Int):=om;exact RP
  have HE:Hid (yF s an=tx (tH an (kk))):=by show _=_;rw[HRn.out,aH oz]
  have c0:¬(100000:Int)<(s.size:Int):=om;have c1:¬(1000:Int)<((kk:Nat):Int):=om;clear HRn;go_wp2;go_loopw [4,5] (λo i wr=>∃(j:Nat) (l:List UInt8),j<=kk/\i=J (j:Int)/\By wr w1.heap.size o l/\Gb w1 wr/\Hid (l=tH an j)/\l.length<=5001*j) (λ_ i _=>kk-(intOf i).toNat)
  case atStart=>exact⟨0,[],fV _,rfl,Lr.lit w1 _,kg,rfl,fV _⟩
  case round=>
   obtain⟨j,l,hj,rfl,jv,dQ,HO,hll⟩:=hrel;have qY:=dQ.size;by_cases fJ:(j:Int)<((kk:Nat):Int)
   .obtain⟨bb,oo,hbo,hc⟩:=HC3 om;subst hbo;exact aL5
   .obtain rfl:j=kk:=om;have q:=By.text jv wr (Below.refl _ _);rw[HO.out]at q;clear HLn;exact RP
 .have hee:=HH he;have HRn:Hid (yF s an=if 100000<s.size\/1000<kk+1 then tx [116,111,111,32,108,111,110,103,10]else tx (tH an (kk+1))):=by show _=_;unfold yF;rw[hee,hkk]
  have HLn:Hid (∀j,j<kk+1->s.size<=100000->∀w,QB 10 #[.string ((gW 10 s).getD j default)] w (.string (an j))):=λj hj h5 w=>by have:=HL j (by rw[hee];omega) h5 w;rw[hee]at this;exact this
  have hz:(((gW 10 s).getD kk default).size :Int)≠0:=λh=>he (by
   have h':((gW 10 s).getD kk default).size =0:=om;generalize(gW 10 s).getD kk default=x at h';cases x with
   |mk d=>exact lu _ (Array.eq_empty_of_size_eq_zero h'))
  have Yx:((((gW 10 s).getD kk default).size :Int)==0)=U:=Am hz;generalize(gW 10 s).getD kk default=last at*
  have HC3:Hid _:=aW;clear aW hc wz LX HG HH he hee HL hkk hz;go_upto_region 4 with fail;clear q u i1 Yx;by_cases oz:100000<s.size\/1000<(kk+1)
  .have HE:Hid (yF s an=tx [116,111,111,32,108,111,110,103,10]):=by show _=_;rw[HRn.out,aQ oz]
   clear HRn HLn;by_cases c0:(100000:Int)<(s.size:Int)
   .exact RP
   .have c1:(1000:Int)<(((kk+1):Nat):Int):=om;exact RP
  have HE:Hid (yF s an=tx (tH an ((kk+1)))):=by show _=_;rw[HRn.out,aH oz]
  have c0:¬(100000:Int)<(s.size:Int):=om;have c1:¬(1000:Int)<(((kk+1):Nat):Int):=om;clear HRn;go_wp2;go_loopw [4,5] (λo i wr=>∃(j:Nat) (l:List UInt8),j<=(kk+1)/\i=J (j:Int)/\By wr w1.heap.size o l/\Gb w1 wr/\Hid (l=tH an j)/\l.length<=5001*j) (λ_ i _=>(kk+1)-(intOf i).toNat)
  case atStart=>exact⟨0,[],fV _,rfl,Lr.lit w1 _,kg,rfl,fV _⟩
  case round=>
   obtain⟨j,l,hj,rfl,jv,dQ,HO,hll⟩:=hrel;have qY:=dQ.size;by_cases fJ:(j:Int)<(((kk+1):Nat):Int)
   .obtain⟨bb,oo,hbo,hc⟩:=HC3 om;obtain⟨rfl,rfl⟩:b=bb/\o=oo:=by simpa using hbo
    clear hbo;exact aL5
   .obtain rfl:j=(kk+1):=om;have q:=By.text jv wr (Below.refl _ _);rw[HO.out]at q;clear HLn;exact RP
