import Derived.Test.YthoelefkjpjhfaaGreatDoorT5
import Derived.Test.YthoelefkjpjhfaaGreatDoorM3
set_option linter.all false
set_option maxRecDepth 1000000
set_option maxHeartbeats 40000000
open Option renaming none → V, some → E
open Go.Proofs.YthoelefkjpjhfaaGreatDoor renaming vI → J, vU → Y
open Go.Ending renaming returned → Z
open Go.Value renaming bool → O, tuple → X
open Go.Proofs.Tryz
namespace Go.Proofs.YthoelefkjpjhfaaGreatDoor
open Go.RowKit
attribute [local go_sem] aB dL
variable {w w' W1 wr W:ak}{t s p0 A:aJ}{b lb m n kB o mb o1 c1 G g cb nb cap j:Nat}{u k r h e z x y K N p a M mu inv scale:Int}{v:Value}{qs ps':List aJ}{bF:Bool}
def aLG{P:Prop}(h:P:=by
 go_enter func14,ntmps14;go_upto_region 2 with(go_at_call 24;refine HS.out.mono ?_;rintro e w1 ⟨rfl,Qu⟩;subst Qu);clear HS;go_upto_region 3 with(fail);have hi0:(0:Int)<((n+1:Nat):Int):=om;have q1:=λob=>bC ob q0;clear LX;go_upto_region 4 with(refine IY rfl _ _ rfl mb rfl rfl (HL _ (HG1.out.trans (Gb.alloc (Gb.refl _) _))) ?_);clear q1 q0 hi0 HL;go_wp2_with (first|(go_at_call 76;refine(HC _ (HZ _ j_ j_ j_ j_ ((Gb.alloc (Gb.refl _) _).trans (Gb.alloc (Gb.refl _) _))) ((Gb.alloc (Gb.refl _) _).trans (Gb.alloc (Gb.refl _) _))).mono ?_;rintro e w5 ⟨rfl,KE,hk5⟩;obtain⟨vl,⟨d0,y0,d1,y1⟩,_⟩:=KE.ln)|(go_at_call 87;refine(HC _ (HZ _ j_ j_ j_ j_ ((Gb.alloc (Gb.refl _) _).trans (Gb.alloc (Gb.refl _) _))) ((Gb.alloc (Gb.refl _) _).trans (Gb.alloc (Gb.refl _) _))).mono ?_;rintro e w5 ⟨rfl,KE,hk5⟩;obtain⟨vl,⟨d0,y0,d1,y1⟩,_⟩:=KE.ln)|(go_at_call 89;refine(HC _ (HZ _ j_ j_ j_ j_ ((Gb.alloc (Gb.refl _) _).trans (Gb.alloc (Gb.refl _) _))) ((Gb.alloc (Gb.refl _) _).trans (Gb.alloc (Gb.refl _) _))).mono ?_;rintro e w5 ⟨rfl,KE,hk5⟩;obtain⟨vl,⟨d0,y0,d1,y1⟩,_⟩:=KE.ln)|(go_at_call 99;refine(HC _ (HZ _ j_ j_ j_ j_ ((Gb.alloc (Gb.refl _) _).trans (Gb.alloc (Gb.refl _) _))) ((Gb.alloc (Gb.refl _) _).trans (Gb.alloc (Gb.refl _) _))).mono ?_;rintro e w5 ⟨rfl,KE,hk5⟩;obtain⟨vl,⟨d0,y0,d1,y1⟩,_⟩:=KE.ln)|(go_at_call 29;refine(HC _ (HZ _ j_ j_ j_ j_ ((Gb.alloc (Gb.refl _) _).trans (Gb.alloc (Gb.refl _) _))) ((Gb.alloc (Gb.refl _) _).trans (Gb.alloc (Gb.refl _) _))).mono ?_;rintro e w5 ⟨rfl,KE,hk5⟩;obtain⟨vl,⟨d0,y0,d1,y1⟩,_⟩:=KE.ln)|(go_at_call 35;refine(HC _ (HZ _ j_ j_ j_ j_ ((Gb.alloc (Gb.refl _) _).trans (Gb.alloc (Gb.refl _) _))) ((Gb.alloc (Gb.refl _) _).trans (Gb.alloc (Gb.refl _) _))).mono ?_;rintro e w5 ⟨rfl,KE,hk5⟩;obtain⟨vl,⟨d0,y0,d1,y1⟩,_⟩:=KE.ln)|(go_at_call 36;refine(HC _ (HZ _ j_ j_ j_ j_ ((Gb.alloc (Gb.refl _) _).trans (Gb.alloc (Gb.refl _) _))) ((Gb.alloc (Gb.refl _) _).trans (Gb.alloc (Gb.refl _) _))).mono ?_;rintro e w5 ⟨rfl,KE,hk5⟩;obtain⟨vl,⟨d0,y0,d1,y1⟩,_⟩:=KE.ln)|(go_at_call 37;refine(HC _ (HZ _ j_ j_ j_ j_ ((Gb.alloc (Gb.refl _) _).trans (Gb.alloc (Gb.refl _) _))) ((Gb.alloc (Gb.refl _) _).trans (Gb.alloc (Gb.refl _) _))).mono ?_;rintro e w5 ⟨rfl,KE,hk5⟩;obtain⟨vl,⟨d0,y0,d1,y1⟩,_⟩:=KE.ln)|(go_at_call 42;refine(HC _ (HZ _ j_ j_ j_ j_ ((Gb.alloc (Gb.refl _) _).trans (Gb.alloc (Gb.refl _) _))) ((Gb.alloc (Gb.refl _) _).trans (Gb.alloc (Gb.refl _) _))).mono ?_;rintro e w5 ⟨rfl,KE,hk5⟩;obtain⟨vl,⟨d0,y0,d1,y1⟩,_⟩:=KE.ln)|(go_at_call 43;refine(HC _ (HZ _ j_ j_ j_ j_ ((Gb.alloc (Gb.refl _) _).trans (Gb.alloc (Gb.refl _) _))) ((Gb.alloc (Gb.refl _) _).trans (Gb.alloc (Gb.refl _) _))).mono ?_;rintro e w5 ⟨rfl,KE,hk5⟩;obtain⟨vl,⟨d0,y0,d1,y1⟩,_⟩:=KE.ln))
 go_returns;exact⟨rfl,KE.gb⟩):P:=h
def aSe(HS:SpI w W1 s n)(su:Gb w W1)(q0:aB W1 w.heap.size 0 (.string p0))(LX:∀w',(Instr.slice 26 (aF w.heap.size (n+1) (n+1)) (E (J 1)) V V).run prog w'=.ok (.slice (E ⟨w.heap.size,o1,V⟩) n c1) w')(hG:G=76\/G=87\/G=89\/G=99)(HL:LkI w mb p0 (X #[.agg #[J p,fnc G #[.pointer (E ⟨cb,0,V⟩)]],O true]))(hp:(p != 0)=false\/(p != 0)=true/\(p != (n:Int))=false)(hq:qs.length=n)(HR:Hid (pq W1 (.slice (E ⟨w.heap.size,o1,V⟩) n c1) n (λj=>qs.getD j default)))(hz:W1.heap.size=w.heap.size+1)(HC:Hid (∀w1,LS w w1 W1.heap.size qs false->Gb W1 w1->Calls prog G #[lp W1.heap.size,.pointer (E ⟨cb,0,V⟩)] w1 λe w'=>e=Z (.string A)/\LS w w' W1.heap.size ps' bF/\Lk W1.heap.size w1 w')):QB 14 #[.map (E mb),.string s] w (.string (if bF then jO else A)):=by
 have HG1:Hid (Gb w W1):=su;clear su;have HZ:Hid (∀w1,aB w1 W1.heap.size 0 (.slice (E ⟨w.heap.size,o1,V⟩) n c1)->dL w1 W1.heap.size 0->aB w1 W1.heap.size 1 (O false)->dL w1 W1.heap.size 1->Gb W1 w1->LS w w1 W1.heap.size qs false):=λw1 d0 y0 d1 y1 hg=>⟨HG1.out.trans hg,om,_,⟨d0,y0,d1,y1⟩,by rw[hq];exact HR.out.gb hg,λb o n c e=>by
  simp only[Value.slice.injEq,Option.some.injEq,Addr.mk.injEq,and_true]at e;omega⟩
 clear HR hq hz;rcases hG with rfl|rfl|rfl|rfl<;>cases bF<;>rcases hp with hp|⟨hp,hpn⟩
 all_goals
  exact aLG
def aSc(HS:SpI w W1 s n)(su:Gb w W1)(q0:aB W1 w.heap.size 0 (.string p0))(LX:∀w',(Instr.slice 26 (aF w.heap.size (n+1) (n+1)) (E (J 1)) V V).run prog w'=.ok (.slice (E ⟨w.heap.size,o1,V⟩) n c1) w')(hG:G=29\/G=35\/G=36\/G=37\/G=42\/G=43)(HL:LkI w mb p0 (X #[.agg #[J p,fnc G #[]],O true]))(hp:(p != 0)=false\/(p != 0)=true/\(p != (n:Int))=false)(hq:qs.length=n)(HR:Hid (pq W1 (.slice (E ⟨w.heap.size,o1,V⟩) n c1) n (λj=>qs.getD j default)))(hz:W1.heap.size=w.heap.size+1)(HC:Hid (∀w1,LS w w1 W1.heap.size qs false->Gb W1 w1->Calls prog G #[lp W1.heap.size] w1 λe w'=>e=Z (.string A)/\LS w w' W1.heap.size ps' bF/\Lk W1.heap.size w1 w')):QB 14 #[.map (E mb),.string s] w (.string (if bF then jO else A)):=by
 have HG1:Hid (Gb w W1):=su;clear su;have HZ:Hid (∀w1,aB w1 W1.heap.size 0 (.slice (E ⟨w.heap.size,o1,V⟩) n c1)->dL w1 W1.heap.size 0->aB w1 W1.heap.size 1 (O false)->dL w1 W1.heap.size 1->Gb W1 w1->LS w w1 W1.heap.size qs false):=λw1 d0 y0 d1 y1 hg=>⟨HG1.out.trans hg,om,_,⟨d0,y0,d1,y1⟩,by rw[hq];exact HR.out.gb hg,λb o n c e=>by
  simp only[Value.slice.injEq,Option.some.injEq,Addr.mk.injEq,and_true]at e;omega⟩
 clear HR hq hz;rcases hG with rfl|rfl|rfl|rfl|rfl|rfl<;>cases bF<;>rcases hp with hp|⟨hp,hpn⟩
 all_goals
  exact aLG
def aQ2(a b:UInt8):aV 16 (tx [a,b])=if oW a.toNat<0\/oW b.toNat<0 then V else E (oW a.toNat*16+oW b.toNat):=by
 have h1:=IB a.toNat;have h2:=IB b.toNat;unfold aV;rw[aH (by rw[dZ];simp),show(tx [a,b]).data.toList =[a,b] from rfl,lZ];by_cases ca:oW a.toNat<0
 .rw[aQ (.inl ca),aQ (.inl ca)]
 .rw[aH om,lZ];by_cases cb:oW b.toNat<0
  .rw[aQ (.inl cb),aQ (.inr cb)]
  .rw[aH om,aH om,lZ]
   congr 1
   omega
def aBG:∀l:List UInt8,wQ l=if Iz l then E (V6 l)else V
 |[]=>rfl
 |[_]=>rfl
 |a::b::l=>by
  have ih:=aBG l;rw[wQ,Iz,V6,aQ2,ih];unfold oJ;rw[aQ2];by_cases c:oW a.toNat<0\/oW b.toNat<0
  .simp[c]
  .rw[aH c,aH c];cases Iz l<;>simp
def xH(a b:List UInt8):tx (a++b)=tx a++tx b:=by
 apply ByteArray.ext;simp[ByteArray.data_append]
def aHv(a b:Int):numsL [a,b]=tx (Lib.itoa a)++tx [32]++tx (Lib.itoa b):=by
 rw[<-xH,<-xH];unfold numsL nH;simp[Lib.join,List.intercalate,List.range_succ]
def aHu(a b c d:Int):numsL [a,b,c,d]=tx (Lib.itoa a)++tx [32]++tx (Lib.itoa b)++tx [32]++tx (Lib.itoa c)++tx [32]++tx (Lib.itoa d):=by
 rw[<-xH,<-xH,<-xH,<-xH,<-xH,<-xH];unfold numsL nH;simp[Lib.join,List.intercalate,List.range_succ]
def okS(s:aJ):Bool:=decide (s.size<=5)&&uS s
def UR(s:aJ):okS s=true↔s.size<=5/\∃m,s=tx (Lib.itoa m):=by
 unfold okS;rw[Bool.and_eq_true,decide_eq_true_iff];refine⟨λh=>⟨h.1,_,(X7 s).1 h.2⟩,λh=>⟨h.1,(X7 s).2 h.2 h.1⟩⟩
def aHT{b:Int}(h:tx (Lib.itoa a)=tx (Lib.itoa b)):a=b:=by
 obtain⟨a1,a2,_⟩:=canon (s:=tx (Lib.itoa a)) (m:=a) rfl;obtain⟨b1,b2,_⟩:=canon (s:=tx (Lib.itoa a)) (m:=b) h;rw[a1]at b1;have:=Option.some.inj b1;omega
def XZ(s:aJ)(hs:s.size<=1048576)(w:ak):CT 52 #[.string s] w λe w'=>(∃x,e=Z (X #[J x,O (okS s)])/\(okS s=true->x=qh s))/\Gr w w':=(aKr s hs w).mono λe w' ⟨hg,n,ok,he,h1,h2,_,_⟩=>by
 have e1:ok=okS s:=by
  by_cases c:okS s=true
  .rw[c];exact h1.2 ((UR s).1 c)
  .have c':okS s=false:=by simpa using c
   rw[c'];cases ok with
   |false=>rfl
   |true=>exact bG ((UR s).2 (h1.1 rfl)) c
 refine⟨⟨n,by rw[<-e1];exact he,λc=>?_⟩,hg⟩;have hn:=h2 (by rw[e1];exact c);have hm:=(X7 s).1 (by unfold okS at c;rw[Bool.and_eq_true]at c;exact c.2);exact aHT (hn.symm.trans hm)
def aB3{P:Prop}(h:P:=by
 have HNj:=HN j fJ;obtain⟨t,ht⟩:=dP (g j);obtain⟨z,hzv⟩:=dP (qh (g j));have e0:Hid ((λq=>qh (g q)) (j*1+0)=z):=by show _=_;rw[<-hzv,kW,Nat.add_zero]
 rw[hzv,ht]at HNj;rw[ht]at x0;clear ht hzv;go_wp2_with (first|(go_at_call 52;refine ku (HNj _) λw2 aC=>?_)|(at_builtin;refine nC rfl _ _ 80 rfl 3 (J 0) 1 8 .i64 underlying80 aOL rfl de de w.heap.size j 1 (λq=>qh (g q)) _ w2.heap.size rfl (Au _ kg) rfl (CS (g:=λq=>qh (g q)) (m:=j*1) j_ e0.out) om om (by have:=aC.size;rw[dV];omega) ?_;intro v' w3 nM nO _ _))
 go_roundw
 case rel=>exact⟨j+1,om,jS,nM,Gb.below kg nO (dJ _)⟩
 case measure=>simp[intOf]<;>omega):P:=h
def aOL:(prog.info? 3).map (λi=>(i.zero,i.size,i.bytes))=E (E (J 0),1,8):=by kernel_rfl
def Fb(hs:s.size<=1048576)(h:okS s=true):KR 52 #[.string s] (X #[J (qh s),O true]):=λw=>(XZ s hs w).mono λe w' ⟨⟨x,e1,e2⟩,hg⟩=>⟨by rw[e1,e2 h,h],hg⟩
def XL{g:Nat->aJ}(hr:pq w v n g)(hn:n<=1000000)(hz:∀j,j<n->(g j).size <=1048576)(m:Nat)(hm:m<n)(Cb:∀j,j<m->okS (g j)=true)(Eu:okS (g m)=false):QB 19 #[v] w (.string (tx [114,101,106,101,99,116,101,100])):=by
 obtain⟨a,cap,rfl,_,_,aW⟩:=hr;obtain⟨b,o,rfl,hc⟩:=aW om;have HC:Hid (∀j,j<n->aB w b (o+j) (.string (g j))):=hc;have HN:Hid (∀j,j<m->KR 52 #[.string (g j)] (X #[J (qh (g j)),O true])):=λj hj=>Fb (hz j om) (Cb j hj);have HM:Hid (∀w,CT 52 #[.string (g m)] w λe w'=>∃x,e=Z (X #[J x,O false])/\Gr w w'):=λw=>(XZ (g m) (hz m hm) w).mono λe w' ⟨⟨x,e1,_⟩,hg⟩=>⟨x,by rw[e1,Eu],hg⟩;clear hc aW hz Cb Eu;go_enter func19,ntmps19;go_wp2;go_loopw [3,4] (λs i wr=>∃j:Nat,j<=m/\i=J (j:Int)/\Ow wr w.heap.size 3 1 .i64 s j (λq=>qh (g q))/\Gb w wr) (λ_ i _=>n-(intOf i).toNat)
 case atStart=>exact⟨0,fV _,rfl,Ow.lit w _ _ _ _,kg⟩
 case round=>
  obtain⟨j,hj,rfl,jv,dQ⟩:=hrel;have qY:=dQ.size;have iV:(j:Int)<(n:Int):=om;have x0:aB wr b (o+j) (.string (g j)):=dQ.old (HC j om);have Au:Hid (∀w2,Gb wr w2->Ow w2 w.heap.size 3 1 .i64 _ j (λq=>qh (g q))):=λw2 hg=>jv.gb hg;clear jv;by_cases fJ:j<m
  .exact aB3
  .obtain rfl:j=m:=om;generalize g j=t at*
   go_wp2_with (go_at_call 52;refine(HM _).mono ?_;rintro e w2 ⟨x,rfl,aC⟩);go_returns;exact⟨rfl,dQ.trans aC.gb⟩
def E_{g:Nat->aJ}(hr:pq w v n g)(hn:n<=1000000)(hz:∀j,j<n->(g j).size <=1048576)(Cb:∀j,j<n->okS (g j)=true)(hK:qh (g 0)=K)(hN0:0<=N)(hN1:N<=64)(aOP:n=0\/0<n/\K<1\/0<n/\¬K<1/\6<K\/0<n/\¬K<1/\¬6<K/\KW 46 #[J K] (J N)/\((n:Int) != 1+2*N)=true):QB 19 #[v] w (.string (tx [114,101,106,101,99,116,101,100])):=by
 obtain⟨a,cap,rfl,_,_,aW⟩:=hr;have HC:Hid (∀j,j<n->∃b o,a=E ⟨b,o,V⟩/\aB w b (o+j) (.string (g j))):=λj hj=>by
  obtain⟨b,o,e,hc⟩:=aW om;exact⟨b,o,e,hc j hj⟩
 have HN:Hid (∀j,j<n->KR 52 #[.string (g j)] (X #[J (qh (g j)),O true])):=λj hj=>Fb (hz j om) (Cb j hj);have HK:Hid (qh (g 0)=K):=hK;have u1:IntKind.i64.wrap (2*N)=2*N:=by rw[dI];omega
 have u2:IntKind.i64.wrap (1+2*N)=1+2*N:=by rw[dI];omega
 clear aW hz Cb hK;go_enter func19,ntmps19;go_wp2;go_loopw [3,4] (λs i wr=>∃j:Nat,j<=n/\i=J (j:Int)/\Ow wr w.heap.size 3 1 .i64 s j (λq=>qh (g q))/\Gb w wr) (λ_ i _=>n-(intOf i).toNat)
 case atStart=>exact⟨0,fV _,rfl,Ow.lit w _ _ _ _,kg⟩
 case round=>
  obtain⟨j,hj,rfl,jv,dQ⟩:=hrel;have qY:=dQ.size;by_cases fJ:j<n
  .have iV:(j:Int)<(n:Int):=om;obtain⟨b,o,rfl,hx⟩:=HC j fJ;have x0:aB wr b (o+j) (.string (g j)):=dQ.old hx;have Au:Hid (∀w2,Gb wr w2->Ow w2 w.heap.size 3 1 .i64 _ j (λq=>qh (g q))):=λw2 hg=>jv.gb hg;clear jv aOP hx;exact aB3
  .obtain rfl:j=n:=om;have iV:¬(j:Int)<(j:Int):=om;rcases jL j with rfl|hp
   .obtain⟨a',cap',rfl,_⟩:=jv.len;clear jv aOP HN HC;go_wp2;go_returns;exact⟨rfl,dQ⟩
   .obtain⟨b',cap',rfl,_,_,_,_,Pv⟩:=jv.at hp;have x0:=(Pv 0 om).1;rw[HK.out]at x0;have j0:((j:Int)==0)=false:=Am om;have j1:(0:Int)<(j:Int):=om;clear jv Pv HN HC;rcases aOP with c|⟨_,c⟩|⟨_,c,c2⟩|⟨_,c,c2,HZ,c3⟩
    .omega
    all_goals
     go_wp2_with (go_at_call 46;refine kw (HZ _) ?_);go_returns;exact⟨rfl,dQ⟩
def VE:prog.elem 80=3:=by kernel_rfl
def RY{g:Nat->Int}(n h:Nat)(M:Int)(hM:M=(h:Int)+1)(hn:n=2*h+1)(h1:1<=h)(AA:n<=cap)(zA:cap<=maxLen)(hc:∀j,j<n->aB wr nb j (J (g j))):∃v1 v2,(∀w,(Instr.slice 80 (aF nb n cap) (E (J 1)) (E (J M)) V).run prog w=.ok v1 w)/\(∀w,(Instr.slice 80 (aF nb n cap) (E (J M)) V V).run prog w=.ok v2 w)/\jd wr v1 h (λj=>g (1+j))/\jd wr v2 h (λj=>g (1+h+j)):=by
 have z:=sizeOf3;subst hM;have e1:((h:Int)+1).toNat =h+1:=om;refine⟨.slice (E ⟨nb,1,V⟩) h (cap-1),.slice (E ⟨nb,h+1,V⟩) h (cap-(h+1)),λw=>?_,λw=>?_,?_,?_⟩
 .rw[run_slice_lh (P:=prog) w 80 _ n cap (by rw[VE];exact underlying80) .i64 .i64 1 ((h:Int)+1) om om (by omega)];have c:¬cap=1:=om;simp[sliced,VE,z,Addr.add,e1,c]
 .rw[run_slice_l (P:=prog) w 80 _ n cap (by rw[VE];exact underlying80) .i64 ((h:Int)+1) om (by omega)];have c:¬cap=h+1:=om;have c2:n-(h+1)=h:=om;simp[sliced,VE,z,Addr.add,e1,c,c2]
 .exact⟨_,_,rfl,om,om,λ_=>⟨nb,1,rfl,λj hj=>hc _ om⟩⟩
 .exact⟨_,_,rfl,om,om,λ_=>⟨nb,h+1,rfl,λj hj=>(hc _ om).trans (by show E (Value.int .i64 (g (h+1+j)))=E (Value.int .i64 (g (1+h+j)));rw[Nat.add_comm h 1])⟩⟩
def aHf{g:Nat->aJ}(hr:pq w v n g)(hn:n<=1000000)(hz:∀j,j<n->(g j).size <=1048576)(Cb:∀j,j<n->okS (g j)=true){h:Nat}(hK:qh (g 0)=K)(HZ:KW 46 #[J K] (J N))(hN:N=(h:Int))(hM:M=(h:Int)+1)(h1:1<=h)(h64:h<=64)(k1:¬K<1)(k6:¬6<K)(hnh:n=2*h+1)(HP:Hid (∀w' v1 v2,jd w' v1 h (λj=>qh (g (1+j)))->jd w' v2 h (λj=>qh (g (1+h+j)))->CT 53 #[J K,v1,v2] w' λe bf=>∃v,e=Z (X #[v,O false])/\Gb w' bf)):QB 19 #[v] w (.string (tx [114,101,106,101,99,116,101,100])):=by
 obtain⟨a,cap,rfl,_,_,aW⟩:=hr;have HC:Hid (∀j,j<n->∃b o,a=E ⟨b,o,V⟩/\aB w b (o+j) (.string (g j))):=λj hj=>by
  obtain⟨b,o,e,hc⟩:=aW om;exact⟨b,o,e,hc j hj⟩
 have HN:Hid (∀j,j<n->KR 52 #[.string (g j)] (X #[J (qh (g j)),O true])):=λj hj=>Fb (hz j om) (Cb j hj);have HK:Hid (qh (g 0)=K):=hK;have u1:IntKind.i64.wrap (2*N)=2*N:=by rw[dI];omega
 have u2:IntKind.i64.wrap (1+2*N)=1+2*N:=by rw[dI];omega
 have u3:IntKind.i64.wrap (N+1)=M:=by rw[dI];omega
 have HNM:Hid (N=(h:Int)/\M=(h:Int)+1):=⟨hN,hM⟩;have u4:((n:Int) != 1+2*N)=false:=by rw[bne_eq_false_iff_eq];omega
 have HNH:Hid (n=2*h+1):=hnh;clear hN hM hnh;clear aW hz Cb hK;go_enter func19,ntmps19;go_wp2;go_loopw [3,4] (λs i wr=>∃j:Nat,j<=n/\i=J (j:Int)/\Ow wr w.heap.size 3 1 .i64 s j (λq=>qh (g q))/\Gb w wr) (λ_ i _=>n-(intOf i).toNat)
 case atStart=>exact⟨0,fV _,rfl,Ow.lit w _ _ _ _,kg⟩
 case round=>
  obtain⟨j,hj,rfl,jv,dQ⟩:=hrel;have qY:=dQ.size;by_cases fJ:j<n
  .have iV:(j:Int)<(n:Int):=om;obtain⟨b,o,rfl,hx⟩:=HC j fJ;have x0:aB wr b (o+j) (.string (g j)):=dQ.old hx;have Au:Hid (∀w2,Gb wr w2->Ow w2 w.heap.size 3 1 .i64 _ j (λq=>qh (g q))):=λw2 hg=>jv.gb hg;clear jv HZ HP hx;exact aB3
  .obtain rfl:j=n:=om;have iV:¬(j:Int)<(j:Int):=om;have hnh:=HNH.out;obtain⟨b',cap',rfl,_,_,AA,zA,Pv⟩:=jv.at om;have x0:=(Pv 0 om).1;rw[HK.out]at x0;obtain⟨v1,v2,s1,s2,wz,tY⟩:=RY (wr:=wr) (nb:=b') (g:=λq=>qh (g q)) (cap:=cap') j h M HNM.out.2 hnh h1 AA zA (λq hq=>(Pv q om).1);have HR1:Hid (jd wr v1 h (λq=>qh (g (1+q)))):=wz;have HR2:Hid (jd wr v2 h (λq=>qh (g (1+h+q)))):=tY;have j0:((j:Int)==0)=false:=Am om;have j1:(0:Int)<(j:Int):=om;clear jv Pv HN HC wz tY hnh h1 h64 AA zA;go_wp2_with (go_at_call 46;refine kw (HZ _) ?_);go_region_held3 (λw'=>aB w' b' 0 (J K))((first|(with_reducible assumption)|exact kb))((go_at_call 53;refine(HP _ _ _ (HR1.out.gb kg) (HR2.out.gb kg)).mono ?_;rintro e w2 ⟨v,rfl,aC⟩))
   all_goals
    go_wp2;go_returns;exact⟨rfl,dQ.trans kg⟩
def SQ(a:List UInt8):∀l:List (List UInt8),l≠[]->Lib.join (l++[a]) [32]=Lib.join l [32]++[32]++a
 |[],h=>bG rfl h
 |[x],_=>by simp[Lib.join,List.intercalate]
 |x::y::l,_=>by
  have ih:=SQ a (y::l) (by simp);have e:∀z,Lib.join (x::y::z) [32]=x++([32]++Lib.join (y::z) [32]):=λz=>by simp[Lib.join,List.intercalate]
  rw[show x::y::l++[a]=x::y::(l++[a]) from rfl,e,e,show y::(l++[a])=y::l++[a] from rfl,ih];simp
def aOt(g:Nat->Int):nH 1 g=tx (Lib.itoa (g 0)):=by
 unfold nH;simp[Lib.join,List.intercalate]
def aEk(g:Nat->Int)(hj:1<=j):nH (j+1) g=nH j g++tx [32]++tx (Lib.itoa (g j)):=by
 unfold nH;rw[List.range_succ,List.map_append,List.map_cons,List.map_nil,SQ _ _ jA,xH,xH]
def Sz(n:Nat)(g:Nat->Int)(hg:∀j,j<n->-9223372036854775808<=g j/\g j<=9223372036854775807):(nH n g).size <=n*21:=by
 unfold nH;rw[dZ];have:=OZ 20 ((List.range n).map λj=>Lib.itoa (g j)) (λx hx=>by
  obtain⟨j,hj,rfl⟩:=List.mem_map.1 hx;have hj:=List.mem_range.1 hj;exact iU (g j) (hg j hj).1 (hg j hj).2)
 rwa [List.length_map,List.length_range]at this
def aHe{g:Nat->aJ}(hr:pq w v n g)(hn:n<=1000000)(hz:∀j,j<n->(g j).size <=1048576)(Cb:∀j,j<n->okS (g j)=true){h:Nat}(hK:qh (g 0)=K)(HZ:KW 46 #[J K] (J N))(hN:N=(h:Int))(hM:M=(h:Int)+1)(h1:1<=h)(h64:h<=64)(k1:¬K<1)(k6:¬6<K)(hnh:n=2*h+1){G:Nat->Int}(hG:∀j,j<h->-9223372036854775808<=G j/\G j<=9223372036854775807)(HP:Hid (∀w' v1 v2,jd w' v1 h (λj=>qh (g (1+j)))->jd w' v2 h (λj=>qh (g (1+h+j)))->CT 53 #[J K,v1,v2] w' λe bf=>∃v,e=Z (X #[v,O true])/\Ow bf w'.heap.size 3 1 .i64 v h G/\Gb w' bf)):QB 19 #[v] w (.string (nH h G)):=by
 have HS:Hid (∀j,j<h->KR 45 #[J (G j)] (.string (tx (Lib.itoa (G j))))):=λj hj w=>vJ (G j) (hG j hj).1 (hG j hj).2 w;have HG:Hid (∀j,j<h->-9223372036854775808<=G j/\G j<=9223372036854775807):=hG;have H1:Hid (1<=h/\h<=64):=⟨h1,h64⟩;clear hG;obtain⟨a,cap,rfl,_,_,aW⟩:=hr;have HC:Hid (∀j,j<n->∃b o,a=E ⟨b,o,V⟩/\aB w b (o+j) (.string (g j))):=λj hj=>by
  obtain⟨b,o,e,hc⟩:=aW om;exact⟨b,o,e,hc j hj⟩
 have HN:Hid (∀j,j<n->KR 52 #[.string (g j)] (X #[J (qh (g j)),O true])):=λj hj=>Fb (hz j om) (Cb j hj);have HK:Hid (qh (g 0)=K):=hK;have u1:IntKind.i64.wrap (2*N)=2*N:=by rw[dI];omega
 have u2:IntKind.i64.wrap (1+2*N)=1+2*N:=by rw[dI];omega
 have u3:IntKind.i64.wrap (N+1)=M:=by rw[dI];omega
 have HNM:Hid (N=(h:Int)/\M=(h:Int)+1):=⟨hN,hM⟩;have u4:((n:Int) != 1+2*N)=false:=by rw[bne_eq_false_iff_eq];omega
 have HNH:Hid (n=2*h+1):=hnh;clear hN hM hnh;clear aW hz Cb hK;go_enter func19,ntmps19;go_wp2;go_loopw [3,4] (λs i wr=>∃j:Nat,j<=n/\i=J (j:Int)/\Ow wr w.heap.size 3 1 .i64 s j (λq=>qh (g q))/\Gb w wr) (λ_ i _=>n-(intOf i).toNat)
 case atStart=>exact⟨0,fV _,rfl,Ow.lit w _ _ _ _,kg⟩
 case round=>
  obtain⟨j,hj,rfl,jv,dQ⟩:=hrel;have qY:=dQ.size;by_cases fJ:j<n
  .have iV:(j:Int)<(n:Int):=om;obtain⟨b,o,rfl,hx⟩:=HC j fJ;have x0:aB wr b (o+j) (.string (g j)):=dQ.old hx;have Au:Hid (∀w2,Gb wr w2->Ow w2 w.heap.size 3 1 .i64 _ j (λq=>qh (g q))):=λw2 hg=>jv.gb hg;clear jv HZ HP hx HS;exact aB3
  .obtain rfl:j=n:=om;have iV:¬(j:Int)<(j:Int):=om;have hnh:=HNH.out;obtain⟨b',cap',rfl,_,_,AA,zA,Pv⟩:=jv.at om;have x0:=(Pv 0 om).1;rw[HK.out]at x0;obtain⟨v1,v2,s1,s2,wz,tY⟩:=RY (wr:=wr) (nb:=b') (g:=λq=>qh (g q)) (cap:=cap') j h M HNM.out.2 hnh h1 AA zA (λq hq=>(Pv q om).1);have HR1:Hid (jd wr v1 h (λq=>qh (g (1+q)))):=wz;have HR2:Hid (jd wr v2 h (λq=>qh (g (1+h+q)))):=tY;have j0:((j:Int)==0)=false:=Am om;have j1:(0:Int)<(j:Int):=om;clear jv Pv HN HC wz tY hnh h1 h64 AA zA;go_wp2_with (go_at_call 46;refine kw (HZ _) ?_);go_region_held3 (λw'=>aB w' b' 0 (J K))((first|(with_reducible assumption)|exact kb))((go_at_call 53;refine(HP _ _ _ (HR1.out.gb kg) (HR2.out.gb kg)).mono ?_;rintro e w2 ⟨v,rfl,Qw,aC⟩;obtain⟨b2,cap2,rfl,_,_,d1,d2,aRH⟩:=Qw.at H1.out.1;have HY:Hid (∀q,q<h->aB w2 b2 q (J (G q))):=λq hq=>(aRH q om).1;clear aRH))
   all_goals
    have y0:=HY 0 H1.out.1;have HS0:=HS 0 H1.out.1;have t_:=HG 0 H1.out.1;have e1:Hid (tx (Lib.itoa (G 0))=nH 1 G):=(aOt G).symm;have l1:(0:Int)<(h:Int):=by have:=H1.out.1;omega
    generalize mD:tx (Lib.itoa (G 0))=t0 at*
    generalize hg0:G 0=z0 at*
    clear hg0 t_;go_wp2_with (go_at_call 45;refine ku (HS0 _) λw3 aO=>?_);have H2:Hid (Gb w w3):=dQ.trans kg;have HY3:Hid (∀q,q<h->aB w3 b2 q (J (G q))):=λq hq=>aO.old (HY q hq);clear HY HS0 y0 x0 HZ HP HR1 HR2 s1 s2 aO mD;go_loopw [10,11] (λs i wr'=>∃q:Nat,1<=q/\q<=h/\s=.string (nH q G)/\i=J (q:Int)/\Gb w3 wr') (λ_ i _=>h-(intOf i).toNat)
    case atStart=>exact⟨1,dJ _,H1.out.1,by rw[e1.out],rfl,kg⟩
    case round=>
     obtain⟨q,hq1,hqh,rfl,rfl,uG⟩:=hrel;have hn:=HNM.out.1;by_cases fJ:q<h
     .have l2:(q:Int)<N:=om;have l3:(q:Int)<(h:Int):=om;have y1:=uG.old (HY3 q fJ);have HSq:=HS q fJ;have z1:=Sz q G (λj hj=>HG j om);have z2:=iU (G q) (HG q fJ).1 (HG q fJ).2;have h64:=H1.out.2;rw[<-dZ]at z2;have e2:Hid (nH q G++tx [32]++tx (Lib.itoa (G q))=nH (q+1) G):=(aEk G hq1).symm;generalize tx (Lib.itoa (G q))=t2 at*
      generalize G q=z at*
      generalize nH q G=t1 at*
      have c1:zK (t1.size+1):=om;have c3:zK (t1.size+1+t2.size):=om;have hq6:q<64:=om;clear hn z1 z2 h64 e1;go_wp2_with (go_at_call 45;refine ku (HSq _) λw4 bg=>?_);go_roundw
      case rel=>exact⟨q+1,om,om,by rw[<-e2.out],jS,kg⟩
      case measure=>exact qL
     .obtain rfl:q=h:=om;have l2:¬(q:Int)<N:=om;clear hn e1;go_wp2;go_returns;exact⟨rfl,H2.out.trans uG⟩
def Xm(hm:Wo mu)(hi:Wo inv)(hs:Wo scale)(s:aJ)(hz:s.size<=1048576)(hn:¬(s.size<=20000/\isC mu inv scale=true))(hw:Fm w):
  QR 105 #[Y mu,Y inv,Y scale,.string s] w (QV ⟨1,0,0,0⟩):=by
 have HC:Hid (∀w',Gr w w'->QR 199 #[Y mu,Y inv,Y scale] w' (O (isC mu inv scale))):=λw' hg=>SS hm hi hs (hw.gr hg);generalize isC mu inv scale=b at*
 clear hm hi hs hw;rcases(show(20000:Int)<s.size\/(¬(20000:Int)<s.size/\b=false) by
  rcases(om:(20000:Int)<s.size\/¬(20000:Int)<s.size)with h|h
  .exact .inl h
  .refine .inr ⟨h,?_⟩;cases b
   .rfl
   .exact bG ⟨om,rfl⟩ hn)with h|⟨h,rfl⟩
 .clear hn;go_enter func105,ntmps105;go_wp2;go_returns;exact⟨rfl,kr⟩
 .clear hn;go_enter func105,ntmps105;go_wp2_with (go_at_call 199;refine ku (HC _ kr) λw1 au=>?_;have qN:=au.Qz w);exact cO (by simp[results,results105,go_sem,qN])
def Tail(s:aJ)(k:Nat)(t:aJ):Prop:=t.size+17*k=s.size/\∀i,iJ t i=iJ s (17*k+i)
def Tail.next{k:Nat}(h:Tail s k t)(ht:17<=t.size):Tail s (k+1) (t.extract 17 t.size):=by
 refine⟨by rw[ByteArray.size_extract];have:=h.1;omega,λi=>?_⟩;rw[Gi _ _ _ _ (dJ _)];split
 .rw[h.2];congr 1;omega
 .unfold iJ;rw[dif_neg (by have:=h.1;omega)]
def Tail.num{k:Nat}(h:Tail s k t)(p n:Nat):num t p n=num s (17*k+p) n:=Ia n λi _=>by rw[h.2];congr 1;omega
def tU(t:aJ):Int:=if 17<=t.size then num t 0 8 else 0
def tC(t:aJ):Int:=if 17<=t.size then iJ t 8 else 0
def tV(t:aJ):Int:=if 17<=t.size then num t 9 8 else 0
def tL(t:aJ):aJ:=if 17<=t.size then t.extract 17 t.size else t
def Nx(lb:Nat)(t:aJ)(w w':ak):Prop:=Gr (w.setCell ⟨lb,0,V⟩ (.string (tL t))) w'\/(tL t=t/\Gr w w')
def aHy(t:aJ)(lb:Nat)(hs:t.size<=1048576)(hc:aB w lb 0 (.string t))(hz:dL w lb 0):
  CT 273 #[.pointer (E ⟨lb,0,V⟩)] w λe w'=>e=Z (X #[aAf (tU t) (tC t) (tV t),O (decide (17<=t.size))])/\Nx lb t w w':=by
 unfold tU tC tV Nx tL;by_cases h:17<=t.size
 .rw[aQ h,aQ h,aQ h,aQ h,h_ h];exact(aHx t lb h hs hc hz).mono λe w' hh=>⟨hh.1,.inl hh.2⟩
 .rw[aH h,aH h,aH h,aH h,gV h];exact(aKv t lb om hc).mono λe w' hh=>⟨hh.1,.inr ⟨rfl,hh.2⟩⟩
structure Md (w:ak) (b kB m lb:Nat) (r h e u k:Int) (t:aJ):Prop where
 rs:Rs w b
 k0:aB w kB 0 (Y r)
 k1:aB w kB 1 (Y h)
 k2:aB w kB 2 (Y e)
 m0:aB w m 0 (J 2)
 m1:aB w m 1 (J 0)
 m2:aB w m 2 (J u)
 m3:aB w m 3 (J k)
 z0:dL w m 0
 z1:dL w m 1
 z2:dL w m 2
 z3:dL w m 3
 l0:aB w lb 0 (.string t)
 lz:dL w lb 0
structure On (w:ak) (o:Nat) (x y z:Int):Prop where
 o0:aB w o 0 (Y x)
 o1:aB w o 1 (.int .u8 y)
 o2:aB w o 2 (Y z)
 z0:dL w o 0
 z1:dL w o 1
 z2:dL w o 2
def Rs.set(h:Rs w b)(hb:g≠b)(o:Nat)(v:Value):Rs (w.setCell ⟨g,o,V⟩ v) b:=
 ⟨aZ hb h.r0,aZ hb h.r1,aZ hb h.r2,aZ hb h.r3,bD h.y0,bD h.y1,bD h.y2,bD h.y3⟩
def Md.gr(H:Md w b kB m lb r h e u k t)(g:Gr w w'):Md w' b kB m lb r h e u k t:=
 ⟨H.rs.gb g.gb,g.old H.k0,g.old H.k1,g.old H.k2,g.old H.m0,g.old H.m1,g.old H.m2,g.old H.m3,iY g H.z0,iY g H.z1,iY g H.z2,iY g H.z3,g.old H.l0,iY g H.lz⟩
def On.gr(H:On w o x y z)(g:Gr w w'):On w' o x y z:=
 ⟨g.old H.o0,g.old H.o1,g.old H.o2,iY g H.z0,iY g H.z1,iY g H.z2⟩
def Md.off(H:Md w b kB m lb r h e u k t)(i:Nat)(v:Value)(h1:o≠b)(h2:o≠kB)(h3:o≠m)(h4:o≠lb):Md (w.setCell ⟨o,i,V⟩ v) b kB m lb r h e u k t:=
 ⟨H.rs.set h1 _ _,aZ h2 H.k0,aZ h2 H.k1,aZ h2 H.k2,aZ h3 H.m0,aZ h3 H.m1,aZ h3 H.m2,aZ h3 H.m3,bD H.z0,bD H.z1,bD H.z2,bD H.z3,aZ h4 H.l0,bD H.lz⟩
def Md.adv(H:Md w b kB m lb r h e u k t)(h1:m≠b)(h2:m≠kB)(h3:m≠lb)(u' k':Int):Md ((w.setCell ⟨m,2,V⟩ (J u')).setCell ⟨m,3,V⟩ (J k')) b kB m lb r h e u' k' t:=
 ⟨(H.rs.set h1 _ _).set h1 _ _,aZ h2 (aZ h2 H.k0),aZ h2 (aZ h2 H.k1),aZ h2 (aZ h2 H.k2),bQ de (bQ de H.m0),bQ de (bQ de H.m1),bQ de (dG (lI H.m2)),dG (has_set (lI H.m3)),bD (bD H.z0),bD (bD H.z1),bD (bD H.z2),bD (bD H.z3),aZ h3 (aZ h3 H.l0),bD (bD H.lz)⟩
def Md.left(H:Md w b kB m lb r h e u k t)(h1:lb≠b)(h2:lb≠kB)(h3:lb≠m)(t':aJ):Md (w.setCell ⟨lb,0,V⟩ (.string t')) b kB m lb r h e u k t':=
 ⟨H.rs.set h1 _ _,aZ h2 H.k0,aZ h2 H.k1,aZ h2 H.k2,aZ h3 H.m0,aZ h3 H.m1,aZ h3 H.m2,aZ h3 H.m3,bD H.z0,bD H.z1,bD H.z2,bD H.z3,dG (lI H.l0),bD H.lz⟩
def Md.nx(H:Md w b kB m lb r h e u k t)(h1:lb≠b)(h2:lb≠kB)(h3:lb≠m)(hn:Nx lb t w w'):Md w' b kB m lb r h e u k (tL t):=by
 rcases hn with g|⟨e1,g⟩
 .exact(H.left h1 h2 h3 _).gr g
 .rw[e1];exact H.gr g
def On.off(H:On w o x y z)(h:g≠o)(i:Nat)(v:Value):On (w.setCell ⟨g,i,V⟩ v) o x y z:=
 ⟨aZ h H.o0,aZ h H.o1,aZ h H.o2,bD H.z0,bD H.z1,bD H.z2⟩
def On.nx(H:On w o x y z)(h:lb≠o)(hn:Nx lb t w w'):On w' o x y z:=by
 rcases hn with g|⟨_,g⟩
 .exact(H.off h _ _).gr g
 .exact H.gr g
def On.put(H:On w o x y z)(x' y' z':Int):On (((w.setCell ⟨o,0,V⟩ (Y x')).setCell ⟨o,1,V⟩ (.int .u8 y')).setCell ⟨o,2,V⟩ (Y z')) o x' y' z':=
 ⟨bQ de (bQ de (dG (lI H.o0))),bQ de (dG (has_set (lI H.o1))),dG (has_set (has_set (lI H.o2))),bD (bD (bD H.z0)),bD (bD (bD H.z1)),bD (bD (bD H.z2))⟩
def Nx.gr(hn:Nx lb t w w')(g:Gr W w)(h:W.heap.size<=lb):Gr W w':=by
 rcases hn with k|⟨_,k⟩
 .exact(g.setCell h _).trans k
 .exact g.trans k
def Nx.size(hn:Nx lb t w w'):w.heap.size<=w'.heap.size:=by
 rcases hn with k|⟨_,k⟩
 .have:=k.size;rw[jW]at this;exact this
 .exact k.size
def aHq(w:ak)(x y z:Int):On (w.alloc (.cells #[Y x,.int .u8 y,Y z] 227)) w.heap.size x y z:=
 ⟨kb,kb,kb,kb,kb,kb⟩
def aOC(h:Rs w b)(r n e:Int)(s:aJ):Md (((w.alloc (.cells #[Y r,Y n,Y e] 223)).alloc (.cells #[J 2,J 0,J 0,J 0] 90)).alloc (.cells #[.string s] 9)) b w.heap.size (w.heap.size+1) (w.heap.size+1+1) r n e 0 0 s:=by
 obtain⟨r0,r1,r2,r3,y0,y1,y2,y3⟩:=h;exact⟨⟨kb,kb,kb,kb,kb,kb,kb,kb⟩,kb,kb,kb,kb,kb,kb,kb,kb,kb,kb,kb,kb,kb⟩
structure Mk7 (w:ak) (m:Nat) (a z u k:Int):Prop where
 c0:aB w m 0 (J a)
 c1:aB w m 1 (J z)
 c2:aB w m 2 (J u)
 c3:aB w m 3 (J k)
 z1:dL w m 1
def Mk7.gr(H:Mk7 w m a z u k)(g:Gr w w'):Mk7 w' m a z u k:=
 ⟨g.old H.c0,g.old H.c1,g.old H.c2,g.old H.c3,iY g H.z1⟩
def Md.mk0(H:Md w b kB m lb r h e u k t):Mk7 (w.setCell ⟨m,0,V⟩ (J 0)) m 0 0 u k:=
 ⟨dG (lI H.m0),bQ de H.m1,bQ de H.m2,bQ de H.m3,bD H.z1⟩
def aIn{x:ak}(h:Gr w x)(hb:w.heap.size<=b)(v0 v1 v2 v3:Value):Gr w ((((x.setCell ⟨b,0,V⟩ v0).setCell ⟨b,1,V⟩ v1).setCell ⟨b,2,V⟩ v2).setCell ⟨b,3,V⟩ v3):=
 (((h.setCell hb _).setCell hb _).setCell hb _).setCell hb _
def Uw{o:O7}(H:o.I)(HI:o.In)(hm:Wo mu)(hi:Wo inv)(hs:Wo scale)(s:aJ)(hz:s.size<=20000)(hn:isC mu inv scale=true)(hw:Fm w)(hT:Tl w)(hD:Dc w):
  CT 105 #[Y mu,Y inv,Y scale,.string s] w λe w'=>∃r,Tried (o.KJ mu inv scale s) (o.zAt mu s) s.size r/\e=Z (QV r)/\Gr w w':=by
 have hf:∀(z fl:Int) (w:ak),(Instr.field 100 (aU z fl) 0).run prog w=.ok (Y z) w:=λz fl w=>by kernel_rfl
 have HC:Hid (∀w',Gr w w'->QR 199 #[Y mu,Y inv,Y scale] w' (O true)):=λw' hg=>by have:=SS hm hi hs (hw.gr hg);rw[hn]at this;exact this
 have hrm:=HI.lN hm;have zB:=HI.sub hm hrm;have hii:=HI.mul hi hi;have GR:=HI.mul hii (Wo.c yu);have hsc:=HI.mul hs (Wo.c c63);have hsh:=HI.fix hsc;have HR:Hid (∀w',Gr w w'->CT 96 #[J 1,J 4,Y mu,O false] w' λe bf=>∃fl:Int,e=Z (aU (o.lN mu) fl)/\Gr w' bf):=λw' hg=>H.lN.out mu hm w' (hw.gr hg);have HA:Hid (∀w',Gr w w'->QR 200 #[Y mu,Y (o.lN mu)] w' (Y (o.above mu))):=λw' hg=>H.minus.out _ _ hm hrm w' (hw.gr hg);have ZG:Hid (∀w',Gr w w'->QR 201 #[Y inv,Y inv] w' (Y (o.mul inv inv))):=λw' hg=>H.times.out _ _ hi hi w' (hw.gr hg);have IU:Hid (∀w',Gr w w'->QR 201 #[Y (o.mul inv inv),Y 4602678819172646912] w' (Y (o.narrow inv))):=λw' hg=>H.times.out _ _ hii (Wo.c _) w' (hw.gr hg);have HM3:Hid (∀w',Gr w w'->QR 201 #[Y scale,Y 4890909195324358656] w' (Y (o.mul scale c63))):=λw' hg=>H.times.out _ _ hs (Wo.c _) w' (hw.gr hg);have HF:Hid (∀w',Gr w w'->QR 202 #[Y (o.mul scale c63)] w' (Y (o.shr scale))):=λw' hg=>H.fix.out _ hsc w' (hw.gr hg);have HT:Hid (∀w',Gr w w'->CT 94 #[J 1,J 2,J 1,Y (o.lN mu)] w' λe bf=>∃fl:Int,e=Z (aU (o.whole (o.lN mu)) fl)/\Gr w' bf):=λw' hg=>H.whole.out _ hm (of_decide_eq_true (SV hn).1) w' (hw.gr hg);have HX:Hid (∀k,∀w',Gr w w'->QR 204 #[aR1 (o.above mu) (o.narrow inv) (o.shr scale),aAf (num s (17*k) 8) (iJ s (17*k+8)) (num s (17*k+9) 8)] w' (X #[J (Wi (lK (num s (17*k) 8)) (iJ s (17*k+8))),O (o.KJ mu inv scale s k)])):=λk w' hg=>
  aFg H HI zB GR hsh (SA s _) (wG s _).1 (wG s _).2 (SA s _) (hw.gr hg) (hT.below hg.below) (hD.below hg.below)
 have HZ:Hid (∀k,o.zAt mu s k=wrap64 (Wi (lK (num s (17*k) 8)) (iJ s (17*k+8))+wrap64 (o.whole (o.lN mu)))):=λk=>rfl;have qY:¬(20000:Int)<s.size:=om;generalize o.whole (o.lN mu)=T at*
 generalize o.KJ mu inv scale s=acc at*
 generalize o.zAt mu s=zz at*
 generalize o.shr scale=sh at*
 generalize o.mul scale c63=sc at*
 generalize o.narrow inv=nw at*
 generalize o.above mu=ab at*
 generalize o.mul inv inv=ii at*
 generalize o.lN mu=rm at*
 clear H HI hn hm hi hs hw hT hD hrm zB hii GR hsc hsh;go_enter func105,ntmps105;go_upto_region 3 with(go_at_call 199;refine ku (HC _ kr) λw1 au=>?_);go_upto_region 4 with(go_at_call 96;refine(HR _ kr).mono ?_;rintro e w2 ⟨f2,rfl,aC⟩);go_upto_region 5 with(first|(go_at_call 200;refine ku (HA _ kr) λw3 aO=>?_)|(go_at_call 201;first|(with_reducible refine ku (ZG.out _ kr) λw4 bg=>?_)|(with_reducible refine ku (IU.out _ kr) λw5 bT=>?_)|(with_reducible refine ku (HM3.out _ kr) λw6 gG=>?_))|(go_at_call 202;refine ku (HF _ kr) λw7 jT=>?_))
 have G7:Hid (Gr (w.alloc (.cells #[J 0,J 0,J 0,J 0] 90)) w7):=(show Gr _ w7 from kr);clear au aC aO bg bT gG jT HC HR HA ZG IU HM3 HF;go_upto_region 7 with(go_at_call 203;refine(aDh _ _).mono ?_;rintro e w8 ⟨rfl,hw8⟩);have hM8:=aOC ((aGU w).gb G7.out.gb) ab nw sh s;have G8:Hid (Gr w w8):=(show Gr w w8 from by subst hw8;have:=G7.out;exact kr);have hb7:w.heap.size<w7.heap.size:=by have:=G7.out.size;simp only[dV]at this;omega
 have hs8:w8.heap.size=w7.heap.size+1+1+1:=by subst hw8;simp only[dV]
 rw[<-hw8]at hM8⊢
 have HM8:Hid _:=hM8;have HN8:Hid (CT 273 #[.pointer (E ⟨w7.heap.size+1+1,0,V⟩)] w8 λe w'=>e=Z (X #[aAf (tU s) (tC s) (tV s),O (decide (17<=s.size))])/\Nx (w7.heap.size+1+1) s w8 w'):=aHy s _ om hM8.l0 hM8.lz;clear hM8 hw8 G7;obtain⟨b,hb⟩:=dP (w.heap.size);obtain⟨kb,hkb⟩:=dP (w7.heap.size);obtain⟨m,hm⟩:=dP (kb+1);obtain⟨lb,hlb⟩:=dP (m+1);rw[hkb]at HN8 HM8 hb7 hs8⊢
 rw[hb]at HM8 hb7⊢
 rw[hm]at HN8 HM8 hs8⊢
 rw[hlb]at HN8 HM8 hs8⊢
 go_wp2_with (go_at_call 273;refine HN8.out.mono ?_;rintro e w9 ⟨rfl,hnx⟩);have hM9:=HM8.out.nx (om:lb≠b) (om:lb≠kb) (om:lb≠m) hnx;have hG9:Gr w w9:=hnx.gr G8.out om;have hs9:=hnx.size;have HM0:Hid (Md (w9.alloc (.cells #[Y (tU s),.int .u8 (tC s),Y (tV s)] 227)) b kb m lb ab nw sh 0 0 (tL s)):=hM9.gr kr;have HO0:Hid _:=aHq w9 (tU s) (tC s) (tV s);have HG0:Hid (Gr w (w9.alloc (.cells #[Y (tU s),.int .u8 (tC s),Y (tV s)] 227))):=(show Gr w _ from kr);clear hM9 hG9 HM8 HN8 hnx G8;go_loopw [13,14] (λs13 s14 wr=>∃(k:Nat) (t:aJ) (ob:Nat),Tail s k t/\lb<ob/\s13=.pointer (E ⟨ob,0,V⟩)/\s14=O (decide (17<=t.size))/\(∀j,j<k->acc j=false)/\Md wr b kb m lb ab nw sh (17*(k:Int)) k (tL t)/\On wr ob (tU t) (tC t) (tV t)/\Gr w wr) (λ_ _ wr=>s.size+17-rQ wr m)
 case atStart=>exact⟨0,s,w9.heap.size,⟨om,λi=>by congr 1;omega⟩,om,rfl,rfl,λj hj=>bG hj om,HM0.out,HO0.out,HG0.out⟩
 case round=>
  obtain⟨k,t,ob,ht,hob,rfl,rfl,ha,hM,hO,hG⟩:=hrel
  rename_i wr
  have HA:Hid (∀j,j<k->acc j=false):=ha;have HG:Hid (Gr w wr):=hG;obtain⟨u,hu⟩:=dP (17*(k:Int));rw[hu]at hM;have HMr:Hid (Md wr b kb m lb ab nw sh u k (tL t)):=hM;have HOr:Hid (On wr ob (tU t) (tC t) (tV t)):=hO;have p2:=hM.m2;have HU:Hid (rQ wr m=u.toNat):=by show _=_;simp only[rQ,p2]
  have qY:=ht.1;clear ha hG HM0 HO0 HG0;by_cases uz:17<=t.size
  .have hen:decide (17<=t.size)=true:=h_ uz;rw[hen];have aNp:=ht.next uz;have hL:tL t=t.extract 17 t.size:=aQ uz;have hU:tU t=num s (17*k) 8:=(aQ uz).trans (ht.num 0 8);have hC:tC t=iJ s (17*k+8):=(aQ uz).trans (ht.2 8);have hV:tV t=num s (17*k+9) 8:=(aQ uz).trans (ht.num 9 8);rw[hU,hC,hV]at HOr;have HXk:=HX k;have HZk:=HZ k;have hzn:=ZQ _ (iJ s (17*k+8)) (Gn (num s (17*k) 8));have hn8:=SA s (17*k);have hb8:=wG s (17*k+8);have hv8:=SA s (17*k+9);generalize Wi (lK (num s (17*k) 8)) (iJ s (17*k+8))=zv at*
   generalize num s (17*k) 8=xu at*
   generalize num s (17*k+9) 8=xv at*
   generalize iJ s (17*k+8)=xc at*
   have HXX:Hid _:=HXk;have HZZ:Hid _:=HZk;have HTL:Hid (Tail s (k+1) (tL t)):=by show Tail _ _ _;rw[hL];exact aNp
   have hTs:(tL t).size <=1048576:=by have:=HTL.out.1;omega
   generalize tL t=t' at*
   have p3:=hM.m3;have z2:=hM.z2;have z3:=hM.z3;have u0:0<=u:=om;have u1:u<=20000:=om;have k1:(k:Int)<=20000:=om;clear HXk HZk HX HZ hen aNp hL hU hC hV hM hO;go_upto_region 12 with fail;obtain⟨wa,hwa⟩:=dP ((wr.setCell ⟨m,2,V⟩ (J (u+17))).setCell ⟨m,3,V⟩ (J ((k:Int)+1)));have HMa:Hid (Md wa b kb m lb ab nw sh (u+17) ((k:Int)+1) t'):=by rw[<-hwa];exact HMr.out.adv om om om _ _
   have HOa:Hid (On wa ob xu xc xv):=by rw[<-hwa];exact(HOr.out.off om _ _).off om _ _
   have HGa:Hid (Gr w wa):=by rw[<-hwa];exact(HG.out.setCell (om:w.heap.size<=m) _).setCell (om:w.heap.size<=m) _
   rw[hwa];clear hwa p2 p3 z2 z3 HMr HOr HG;have k0:=HMa.out.k0;have k1':=HMa.out.k1;have k2:=HMa.out.k2;have o0:=HOa.out.o0;have o1:=HOa.out.o1;have o2:=HOa.out.o2;go_upto_region 13 with(go_at_call 204;refine ku (HXX _ HGa.out) λwb rC=>?_);have HMb:Hid (Md wb b kb m lb ab nw sh (u+17) ((k:Int)+1) t'):=HMa.out.gr rC;have HOb:Hid (On wb ob xu xc xv):=HOa.out.gr rC;have HGb:Hid (Gr w wb):=HGa.out.trans rC;clear HMa HOa HGa k0 k1' k2 o0 o1 o2 rC HXX;cases aBA:acc k
   .have o0:=HOb.out.o0;have o1:=HOb.out.o1;have o2:=HOb.out.o2;have V5:=aA HMb.out.l0;have HNx:Hid (∀wc,Gr wb wc->CT 273 #[.pointer (E ⟨lb,0,V⟩)] wc λe w'=>e=Z (X #[aAf (tU t') (tC t') (tV t'),O (decide (17<=t'.size))])/\Nx lb t' wc w'):=λwc hg=>aHy t' lb hTs (HMb.out.gr hg).l0 (HMb.out.gr hg).lz;have HMc:Hid (Md (wb.alloc (.cells #[Y xu,.int .u8 xc,Y xv] 227)) b kb m lb ab nw sh (u+17) ((k:Int)+1) t'):=HMb.out.gr kr;have HOc:Hid _:=aHq wb xu xc xv;have HGc:Hid (Gr w (wb.alloc (.cells #[Y xu,.int .u8 xc,Y xv] 227))):=(show Gr w _ from by have:=HGb.out;exact kr);clear HMb HOb HT;go_wp2_with (go_at_call 273;refine(HNx _ kr).mono ?_;rintro e wd ⟨rfl,hnx⟩;have HMd:Hid _:=HMc.out.nx (om:lb≠b) (om:lb≠kb) (om:lb≠m) hnx;have HOd:Hid _:=HOc.out.nx (om:lb≠wb.heap.size) hnx;have HGd:Hid (Gr w wd):=hnx.gr HGc.out (by omega);have d0:=HOd.out.o0;have d1:=HOd.out.o1;have d2:=HOd.out.o2;have e0:=HOd.out.z0;have e1:=HOd.out.z1;have e2:=HOd.out.z2);go_roundw
    case rel=>
     refine⟨k+1,t',wb.heap.size,HTL.out,V5,rfl,rfl,λj hj=>?_,?_,HOd.out.put _ _ _,?_⟩
     .rcases uq j k with h|h
      .exact HA j h
      .obtain rfl:j=k:=om;exact aBA
     .rw[(om:17*((k+1:Nat):Int)=u+17)];exact((HMd.out.off 0 _ om om om om).off 1 _ om om om om).off 2 _ om om om om
     .exact((HGd.out.setCell (om:w.heap.size<=wb.heap.size) _).setCell (om:w.heap.size<=wb.heap.size) _).setCell (om:w.heap.size<=wb.heap.size) _
    case measure=>
     have h1:=HU.out;have p2:=(((HMd.out.off 0 (Y (tU t')) (om:wb.heap.size≠b) (om:wb.heap.size≠kb) (om:wb.heap.size≠m) (om:wb.heap.size≠lb)).off 1 (.int .u8 (tC t')) (om:wb.heap.size≠b) (om:wb.heap.size≠kb) (om:wb.heap.size≠m) (om:wb.heap.size≠lb)).off 2 (Y (tV t')) (om:wb.heap.size≠b) (om:wb.heap.size≠kb) (om:wb.heap.size≠m) (om:wb.heap.size≠lb)).m2;show s.size+17-rQ _ m<s.size+17-rQ wr m;simp only[rQ]at h1⊢
     rw[p2,h1];show s.size+17-(u+17).toNat <_;omega
   .have m0:=HMb.out.m0;have y0:=HMb.out.z0;go_upto_region 15 with fail;obtain⟨wx,hwx⟩:=dP (wb.setCell ⟨m,0,V⟩ (J 0));have HK:Hid (Mk7 wx m 0 0 (u+17) ((k:Int)+1)):=by rw[<-hwx];exact HMb.out.mk0
    have HRs:Hid (Rs wx b):=by rw[<-hwx];exact HMb.out.rs.set om _ _
    have HGx:Hid (Gr w wx):=by rw[<-hwx];exact HGb.out.setCell (om:w.heap.size<=m) _
    rw[hwx];clear hwx m0 y0 HMb HOb HGb;go_upto_region 16 with(go_at_call 94;refine(HT _ HGx.out).mono ?_;rintro e wy ⟨f6,rfl,aCN⟩;have hK:=HK.out.gr aCN;have c0:=hK.c0;have c1:=hK.c1;have c2:=hK.c2;have c3:=hK.c3;have z1:=hK.z1);obtain⟨r0,r1,r2,r3,y0,y1,y2,y3⟩:=HRs.out.gb aCN.gb;have HRy:Hid (Rs wy b):=HRs.out.gb aCN.gb;have hmb:m≠b:=om;clear hK;go_wp2;have hw:zz k=wrap64 (zv+wrap64 T):=HZZ.out;rw[<-hw];obtain⟨e0,e1,e2,e3⟩:=aK7 (HRy.out.set hmb 1 (J (zz k))) (J 0) (J (zz k)) (J (u+17)) (J ((k:Int)+1));refine gY (v:=QV ⟨0,zz k,u+17,(k:Int)+1⟩) (by simp[results,results105,go_sem,e0,e1,e2,e3]) rfl ⟨_,.inl ⟨k,by have:=HTL.out.1;omega,aBA,HA.out,by rw[<-hu]⟩,rfl,?_⟩;exact aIn ((HGx.out.trans aCN).setCell (om:w.heap.size<=m) _) om _ _ _ _
  .have hen:decide (17<=t.size)=false:=gV uz;rw[hen];obtain⟨⟨r0,r1,r2,r3,y0,y1,y2,y3⟩,_,_,_,m0,m1,m2,m3,_,_,_,_,_,_⟩:=hM;clear HX HZ HT hO HOr;go_wp2;obtain⟨e0,e1,e2,e3⟩:=aK7 HMr.out.rs (J 2) (J 0) (J u) (J k);refine gY (v:=QV ⟨2,0,u,(k:Int)⟩) (by simp[results,results105,go_sem,e0,e1,e2,e3]) rfl ⟨_,.inr ⟨k,om,om,HA.out,by rw[<-hu]⟩,rfl,?_⟩;exact aIn HG.out om _ _ _ _
