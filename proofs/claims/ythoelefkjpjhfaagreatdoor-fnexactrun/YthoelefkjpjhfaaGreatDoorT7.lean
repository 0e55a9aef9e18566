import Derived.Test.YthoelefkjpjhfaaGreatDoorT6
set_option linter.all false
open Go.Proofs.YthoelefkjpjhfaaGreatDoor renaming vI → J, vU → Y
open Go.Proofs.Tryz
namespace Go.Proofs.YthoelefkjpjhfaaGreatDoor
open Go.RowKit
attribute [local go_sem] aA
variable{qs ps':List ByteArray}{p0 p1 S A s:ByteArray}{F mb Fs Fi G F' N:Nat}{w w':World}{fl p k z f t m x r:Int}{ex:Array Value}{bF sg:Bool}{u:Value}
def aMK(l:List ByteArray)(s:ByteArray):-1<=gI l s/\gI l s<l.length:=by
 unfold gI;rcases aFT s l 0 with⟨h,_⟩|⟨k,h1,h2,_⟩<;>omega
def Xg(h:lq S F)(h':lq S F'):F'=F:=by
 rcases Nat.lt_trichotomy F F' with c|c|c
 .exact absurd (h.2.2 (by have:=h'.1;omega)) (h'.2.1 F c)
 .exact c.symm
 .exact absurd (h'.2.2 (by have:=h.1;omega)) (h.2.1 F' c)
def aJ8(S:ByteArray)(F:Nat)(qs:List ByteArray):Prop:=qs.length=S.size/\rW (λj=>qs.getD j default) S.data.toList 0 (-1) (-1) 0 0≠none/\∀j,F<=j->j<qs.length->aQ 16 (qs.getD j default)≠none
def aBf(s:ByteArray)(hs:s.size<=100000)(hc:f_ 32 s=p0::qs)(np:p0≠tx [112,111,108,121])(nq:p0≠tx [115,97,109,112,108,101])(hS:shapeOf (gI jP p0)=S)(hS9:S.size<=100)(hF:lq S F)(zT:S.size=0\/¬aJ8 S F qs->A=je)
  (HP:Hid (∀w f t m k v,S.size≠0->aJ8 S F qs->rW (λj=>qs.getD j default) S.data.toList 0 (-1) (-1) 0 0=some (f,t,m,k)->Rd w .u64 v (qs.length-F) (qs.length-F) (λj=>mQ (qs.getD (F+j) default))->nD p0 f t m k v w A)) (w:World):QB 10 #[.string s] w (.string A):=by
 have e0:prt s 0=p0:=by unfold prt;rw[hc];rfl
 have e1:∀j,prt s (1+j)=qs.getD j default:=λj=>by unfold prt;rw[hc,Nat.add_comm];rfl
 have e1':(λj=>prt s (1+j))=λj=>qs.getD j default:=funext e1;have e2:uV s-1=qs.length:=by unfold uV;rw[hc];rfl
 have hin:=aMK jP p0;have hr:F7 s S↔S.size≠0/\aJ8 S F qs:=by
  unfold F7 aJ8;rw[e1',e2];constructor
  .rintro⟨h1,h2,h3,h4⟩;exact⟨h1,h2,h3,λj h5 h6=>by have:=h4 F j hF h5 h6;rwa [e1]at this⟩
  .rintro⟨h1,h2,h3,h4⟩;exact⟨h1,h2,h3,λF' j h5 h6 h7=>by rw[e1];exact h4 j (by rw[<-Xg hF h5];exact h6) h7⟩
 refine Wq s hs (r:=gI jP p0) (by rw[e0];exact BN _ _) hin.1 hin.2 S hS hS9 (by rw[e0];exact np) (by rw[e0];exact nq) (λh=>zT ?_) (λw f t m k v F' h1 h2 h3 h4=>?_) w
 .rw[hr]at h;by_cases c:S.size=0
  .exact .inl c
  .exact .inr λc'=>h ⟨c,c'⟩
 .obtain rfl:=Xg hF h3;rw[e1']at h2;rw[e0];refine HP w f t m k v (hr.1 h1).1 (hr.1 h1).2 h2 ?_;rw[e2]at h4;have e3:(λj=>(aQ 16 (prt s (1+(F'+j)))).getD 0)=λj=>mQ (qs.getD (F'+j) default):=funext λj=>by rw[e1]
  rwa [e3]at h4
def aMZ(s:ByteArray)(hs:s.size<=100000)(hc:f_ 32 s=p0::qs)(np:p0≠tx [112,111,108,121])(nq:p0≠tx [115,97,109,112,108,101])(h:gI jP p0=-1)(w:World):QB 10 #[.string s] w (.string je):=
 aBf s hs hc np nq (S:=tx []) (by rw[h];rfl) de (F:=0) ⟨de,λj hj=>absurd hj (Nat.not_lt_zero _),λh=>absurd h de⟩ (λ_=>rfl) (λw f t m k v h1=>absurd rfl h1) w
abbrev Aw(w:World)(mb:Nat)(s A:ByteArray):Prop:=QB 14 #[.map (some mb),.string s] w (.string A)
def aMH(s:ByteArray)(hs:s.size<=100000)(hm:Ml w)(hF:FS w mb iP)(hc:f_ 32 s=p0::qs)(hk:iP.find? (λk=>p0==k.1)=none):Aw w mb s je:=by
 obtain⟨W1,a1,o1,c1,HS,rJ,hz,q0,JH,HR,rfl⟩:=RZ s hs hm hc;rcases SH hF p0 with⟨_,HL⟩|⟨k,v,h1,_⟩
 .exact aQw HS rJ q0 JH HL
 .rw[hk]at h1;cases h1
def yR(s:ByteArray)(hs:s.size<=100000)(hm:Ml w)(hF:FS w mb iP)(hc:f_ 32 s=p0::qs)(hk:iP.find? (λk=>p0==k.1)=some (p1,.inl (u,p,G)))(hp:(p != 0)=true)(hG:G=76\/G=87\/G=89\/G=99)(HC:Hid ((qs.length:Int)=p->∀cb lb w1,cb≠lb->aA w1 cb 0 u->LS w w1 lb qs false->Calls Tryz.prog G #[lp lb,.pointer (some ⟨cb,0,none⟩)] w1 λe w'=>e=.returned (.string A)/\LS w w' lb ps' bF/\Lk lb w1 w')):Aw w mb s (if(qs.length:Int)=p/\bF=false then A else je):=by
 obtain⟨W1,a1,o1,c1,HS,rJ,hz,q0,JH,HR,rfl⟩:=RZ s hs hm hc;rcases SH hF p0 with⟨h1,_⟩|⟨k,v,h1,h2,HL⟩
 .rw[hk]at h1;cases h1
 .rw[hk]at h1;cases h1;obtain⟨cb,rfl,zW,jV⟩:=h2;have fF:=au zW;by_cases hn:(qs.length:Int)=p
  .have h:=aQx HS rJ q0 JH hG HL (.inr ⟨hp,by rw[hn];simp⟩) rfl HR hz (A:=A) (ps':=ps') (bF:=bF) (λw1 h hg=>HC hn cb W1.heap.size w1 om ((rJ.trans hg).old zW) h);cases bF
   .rwa [if_pos ⟨hn,rfl⟩]
   .rwa [if_neg (λc=>Bool.noConfusion c.2)]
  .rw[if_neg (λc=>hn c.1)];exact aL1 HS rJ q0 JH HL hp (by simpa using λe=>hn e.symm)
def rD(s:ByteArray)(hs:s.size<=100000)(hm:Ml w)(hF:FS w mb iP)(hc:f_ 32 s=p0::qs)(hk:iP.find? (λk=>p0==k.1)=some (p1,.inr (.agg #[J p,fnv G])))(hG:G=29\/G=35\/G=36\/G=37\/G=42\/G=43)(HC:Hid (p=0\/(qs.length:Int)=p->∀lb w1,LS w w1 lb qs false->Calls Tryz.prog G #[lp lb] w1 λe w'=>e=.returned (.string A)/\LS w w' lb ps' bF/\Lk lb w1 w')):Aw w mb s (if(p=0\/(qs.length:Int)=p)/\bF=false then A else je):=by
 obtain⟨W1,a1,o1,c1,HS,rJ,hz,q0,JH,HR,rfl⟩:=RZ s hs hm hc;rcases SH hF p0 with⟨h1,_⟩|⟨k,v,h1,h2,HL⟩
 .rw[hk]at h1;cases h1
 .rw[hk]at h1;cases h1;obtain rfl:v=_:=h2;by_cases hn:p=0\/(qs.length:Int)=p
  .have h:=aQv HS rJ q0 JH hG HL (by
    by_cases c:p=0
    .exact .inl (by simpa using c)
    .exact .inr ⟨by simpa using c,by simpa using(hn.resolve_left c).symm⟩) rfl HR hz (A:=A) (ps':=ps') (bF:=bF) (λw1 h hg=>HC hn W1.heap.size w1 h)
   cases bF
   .rwa [if_pos ⟨hn,rfl⟩]
   .rwa [if_neg (λc=>Bool.noConfusion c.2)]
  .rw[if_neg (λc=>hn c.1)];exact aL1 HS rJ q0 JH HL (by simpa using λe=>hn (.inl e)) (by simpa using λe=>hn (.inr e.symm))
abbrev PN:Prop:=∀f x:Int,0<=x->aG x->dZ f x (NM f x)
def iE(q:ByteArray):0<=mQ q/\mQ q<18446744073709551616:=by
 unfold mQ;cases h:aQ 16 q with
 |none=>exact⟨de,de⟩
 |some x=>exact MC de de h
def aHb{P:ByteArray->Prop}:(∀q,q ∈ qs.drop F->P q)↔∀j,F<=j->j<qs.length->P (qs.getD j default):=by
 constructor
 .intro h j h1 h2;rw[List.getD_eq_getElem?_getD,List.getElem?_eq_getElem h2];refine h _ (List.mem_iff_getElem.2 ⟨j-F,by rw[List.length_drop];omega,?_⟩);rw[List.getElem_drop];simp[(om:F+(j-F)=j)]
 .intro h q hq;obtain⟨i,h1,rfl⟩:=List.mem_iff_getElem.1 hq;rw[List.length_drop]at h1;have:=h (F+i) om om
  rwa [List.getD_eq_getElem?_getD,List.getElem?_eq_getElem om,Option.getD_some,<-List.getElem_drop (h:=by rw[List.length_drop];omega)]at this
def JW(f:Int)(q:ByteArray):okW f q=true↔aQ 16 q≠none/\NM f (mQ q)=true:=by
 unfold okW;rw[Bool.and_eq_true,Option.isSome_iff_ne_none]
def MW(s:ByteArray)(hs:s.size<=100000)(hc:f_ 32 s=p0::qs)(np:p0≠tx [112,111,108,121])(nq:p0≠tx [115,97,109,112,108,101])(ni:p0≠tx [105,110,116])(AX:PN)(hS:shapeOf (gI jP p0)=S)(hS9:S.size<=100)(hF:lq S F)(hN:S.size=F+N)(hN0:0<N)(hrd:∀r,rW (λj=>qs.getD j default) S.data.toList 0 (-1) (-1) 0 0=some r->r=(f,t,m,k))(HSc:Hid (∀w v,Rd w .u64 v N N (λj=>mQ (qs.getD (F+j) default))->Hid (∀j,j<N->∀w,nP f (mQ (qs.getD (F+j) default)) w true)->nD p0 f t m k v w A)){P:Prop}[Decidable P](hb:P↔qs.length=S.size/\rW (λj=>qs.getD j default) S.data.toList 0 (-1) (-1) 0 0≠none/\∀q,q ∈ qs.drop F->okW f q=true)(w:World):QB 10 #[.string s] w (.string (if P then A else je)):=by
 rw[aHb (P:=λq=>okW f q=true)]at hb;refine aBf s hs hc np nq hS hS9 hF (λh=>?_) (λw f' t' m' k' v h0 h1 h2 h3=>?_) w
 .refine if_neg λc=>?_;rcases h with h|h
  .omega
  .exact h ⟨(hb.1 c).1,(hb.1 c).2.1,λj h1 h2=>((JW _ _).1 ((hb.1 c).2.2 j h1 h2)).1⟩
 .cases hrd _ h2;have e:qs.length-F=N:=by have:=h1.1;omega
  rw[e]at h3;by_cases c:P
  .rw[if_pos c];exact HSc w v h3 λj hj w=>by
    have:=(AX f _ (iE (qs.getD (F+j) default)).1 (iE _).2).out w
    rwa [((JW _ _).1 ((hb.1 c).2.2 (F+j) om om)).2]at this
  .rw[if_neg c];refine aIr (by have:=xE ni;rwa [ByteArray.toList_eq (tx [105,110,116])]at this) f t m k h3 hN0 (λj=>NM f (mQ (qs.getD (F+j) default))) (λj hj w=>(AX f _ (iE _).1 (iE _).2).out w) ?_;refine Classical.byContradiction λh=>c (hb.2 ⟨h1.1,h1.2.1,λj h5 h6=>(JW _ _).2 ⟨h1.2.2 j h5 h6,?_⟩⟩);cases e:NM f (mQ (qs.getD j default))with
   |true=>rfl
   |false=>exact absurd ⟨j-F,om,by rw[(om:F+(j-F)=j)];exact e⟩ h
structure Ans (TD:World->Prop) (s A:ByteArray):Prop where
 m:∀w,QB 10 #[.string s] w (.string A)
 p:∀w mb,Tb w->Ml w->TD w->FS w mb iP->Aw w mb s A
 z:A.size<=5000
abbrev QH(Fs:Nat)(xs:Array Value)(Fi:Nat)(ys:Array Value):Prop:=∃z fl,TY z fl/\KB Fs xs (aP z fl)/\∀w,Fm w->Calls Tryz.prog Fi ys w λe w'=>e=.returned (aP z fl)/\Gr w w'
abbrev aL7(f:Int)(n:Nat)(W:Nat->Int):Prop:=Hid (∀j,j<n->∀w,nP f (W j) w true)
abbrev aQJ(z fl:Int)(A:ByteArray):Prop:=uM z fl A
abbrev ScH(p0:ByteArray)(f t m k:Int)(N:Nat)(W:Nat->Int)(Fs:Nat)(xs:Array Value):Prop:=∀w v n,Rd w .u64 v n n W->0<n->aL7 f n W->∀z fl A,aQJ z fl A->N<=n->KB Fs xs (aP z fl)->nD p0 f t m k v w A
def LV(h:TY z fl):aQJ z fl (uT z.toNat fl):=λw=>by
 have:=aFE z.toNat fl (by have:=h.1;have:=h.2.1;omega) h.2.2.1 h.2.2.2 w
 rwa [show((z.toNat:Nat):Int)=z by have:=h.1;omega]at this
def sS(h:TY z fl):(uT z.toNat fl).size <=5000:=by
 have h1:=zV 15 z.toNat (by have:=h.1;have:=h.2.1;omega);have h2:=iI fl h.2.2.1 h.2.2.2;rw[<-eF]at h2;rw[ByteArray.size_append,ByteArray.size_append,eF [32]];simp only[List.length_cons,List.length_nil];omega
def nC{P:Prop}[Decidable P](h:A.size<=5000):(if P then A else je).size <=5000:=by
 split
 .exact h
 .decide
def IX(s:ByteArray)(hs:s.size<=100000)(hc:f_ 32 s=p0::qs)(np:p0≠tx [112,111,108,121])(nq:p0≠tx [115,97,109,112,108,101])(hS:shapeOf (gI jP p0)=S)(hS9:S.size<=100)(hF:lq S F)(hl:qs.length≠S.size)(w:World):QB 10 #[.string s] w (.string je):=
 aBf s hs hc np nq hS hS9 hF (λ_=>rfl) (λw f t m k v _ h1=>absurd h1.1 hl) w
def zq(h0:F<S.size)(h1:g_ S F=119)(h2:∀j,j<F->g_ S j≠119):lq S F:=⟨Nat.le_of_lt h0,h2,λ_=>h1⟩
def DY{TD:World->Prop}(s:ByteArray)(hs:s.size<=100000)(hc:f_ 32 s=p0::qs)(np:p0≠tx [112,111,108,121])(nq:p0≠tx [115,97,109,112,108,101])(ni:p0≠tx [105,110,116])(AX:PN)(hS:shapeOf (gI jP p0)=tx [102,109,119,119])(hk:iP.find? (λk=>p0==k.1)=some (p1,.inl (fnv Fi,4,76)))(hFi:Fi=26\/Fi=27\/Fi=28\/Fi=30)(HO:∀f m a c:Int,0<=a->aG a->0<=c->aG c->QH Fs (#[J f,J m,Y a,Y c]++ex) Fi #[J f,J m,Y a,Y c])(HSc:∀f t m k W,ScH p0 f t m k 2 W Fs (#[J f,J m,Y (W 0),Y (W 1)]++ex)):∃A,Ans TD s A:=by
 have Ny:lq (tx [102,109,119,119]) 2:=zq (F:=2) de de de;by_cases hl:qs.length=4
 .match qs,hl with
  |[q0,q1,q2,q3],_=>
   obtain⟨z,fl,hz,h1,h2⟩:=HO (gI dA q0) (gI fJ q1) (mQ q2) (mQ q3) (iE _).1 (iE _).2 (iE _).1 (iE _).2;refine⟨if((((false|| !decide (0<=gI dA q0))|| !decide (0<=gI fJ q1))|| !okW (gI dA q0) q2)|| !okW (gI dA q0) q3)=false then uT z.toNat fl else je,⟨?_,λw mb hT hm _ hF=>?_,nC (sS hz)⟩⟩
   .refine MW s hs hc np nq ni AX hS de Ny (N:=2) rfl de (f:=gI dA q0) (t:=-1) (m:=gI fJ q1) (k:=0) (λr h=>?_) (λw v hr HF=>HSc _ _ _ _ _ w v _ hr de HF _ _ _ (LV hz) de h1) ?_
    .simp[rW]at h;exact h.2.2.symm
    .simp[rW,eF,and_assoc]
   .have:=yR s hs hm hF hc hk rfl (.inl rfl) (λ_ cb lb w1 hn zW h=>aOk hT hFi h zW hn rfl rfl rfl rfl (λw' hg=>h2 w' (hT.fm.gb hg)) hz)
    simpa using this
 .refine⟨je,⟨IX s hs hc np nq hS de Ny hl,λw mb hT hm _ hF=>?_,de⟩⟩;have:=yR s hs hm hF hc hk rfl (.inl rfl) (A:=je) (bF:=true) (ps':=[]) (λh=>absurd h om)
  simpa using this
def join_one{TD:World->Prop}(s:ByteArray)(hs:s.size<=100000)(hc:f_ 32 s=p0::qs)(np:p0≠tx [112,111,108,121])(nq:p0≠tx [115,97,109,112,108,101])(ni:p0≠tx [105,110,116])(AX:PN)(hS:shapeOf (gI jP p0)=tx [102,109,119])(hk:iP.find? (λk=>p0==k.1)=some (p1,.inl (fnv Fi,3,87)))(hFi:Fi=32\/Fi=38)(HO:∀f m a:Int,0<=a->aG a->QH Fs (#[J f,J m,Y a]++ex) Fi #[J f,J m,Y a])(HSc:∀f t m k W,ScH p0 f t m k 1 W Fs (#[J f,J m,Y (W 0)]++ex)):∃A,Ans TD s A:=by
 have Ny:lq (tx [102,109,119]) 2:=zq (F:=2) de de de;by_cases hl:qs.length=3
 .match qs,hl with
  |[q0,q1,q2],_=>
   obtain⟨z,fl,hz,h1,h2⟩:=HO (gI dA q0) (gI fJ q1) (mQ q2) (iE _).1 (iE _).2;refine⟨if(((false|| !decide (0<=gI dA q0))|| !decide (0<=gI fJ q1))|| !okW (gI dA q0) q2)=false then uT z.toNat fl else je,⟨?_,λw mb hT hm _ hF=>?_,nC (sS hz)⟩⟩
   .refine MW s hs hc np nq ni AX hS de Ny (N:=1) rfl de (f:=gI dA q0) (t:=-1) (m:=gI fJ q1) (k:=0) (λr h=>?_) (λw v hr HF=>HSc _ _ _ _ _ w v _ hr de HF _ _ _ (LV hz) de h1) ?_
    .simp[rW]at h;exact h.2.2.symm
    .simp[rW,eF,and_assoc]
   .have:=yR s hs hm hF hc hk rfl (.inr (.inl rfl)) (λ_ cb lb w1 hn zW h=>aPg hT hFi h zW hn rfl rfl rfl (λw' hg=>h2 w' (hT.fm.gb hg)) hz)
    simpa using this
 .refine⟨je,⟨IX s hs hc np nq hS de Ny hl,λw mb hT hm _ hF=>?_,de⟩⟩;have:=yR s hs hm hF hc hk rfl (.inr (.inl rfl)) (A:=je) (bF:=true) (ps':=[]) (λh=>absurd h om)
  simpa using this
def SX{TD:World->Prop}(s:ByteArray)(hs:s.size<=100000)(hc:f_ 32 s=p0::qs)(np:p0≠tx [112,111,108,121])(nq:p0≠tx [115,97,109,112,108,101])(ni:p0≠tx [105,110,116])(AX:PN)(hS:shapeOf (gI jP p0)=tx [102,119,119])(hk:iP.find? (λk=>p0==k.1)=some (p1,.inl (fnv Fi,3,89)))(hFi:Fi=34\/Fi=39\/Fi=40)(HO:∀f a c:Int,0<=a->aG a->0<=c->aG c->QH Fs (#[J f,Y a,Y c]++ex) Fi #[J f,Y a,Y c])(HSc:∀f t m k W,ScH p0 f t m k 2 W Fs (#[J f,Y (W 0),Y (W 1)]++ex)):∃A,Ans TD s A:=by
 have Ny:lq (tx [102,119,119]) 1:=zq (F:=1) de de de;by_cases hl:qs.length=3
 .match qs,hl with
  |[q0,q1,q2],_=>
   obtain⟨z,fl,hz,h1,h2⟩:=HO (gI dA q0) (mQ q1) (mQ q2) (iE _).1 (iE _).2 (iE _).1 (iE _).2;refine⟨if(((false|| !decide (0<=gI dA q0))|| !okW (gI dA q0) q1)|| !okW (gI dA q0) q2)=false then uT z.toNat fl else je,⟨?_,λw mb hT hm _ hF=>?_,nC (sS hz)⟩⟩
   .refine MW s hs hc np nq ni AX hS de Ny (N:=2) rfl de (f:=gI dA q0) (t:=-1) (m:=0) (k:=0) (λr h=>?_) (λw v hr HF=>HSc _ _ _ _ _ w v _ hr de HF _ _ _ (LV hz) de h1) ?_
    .simp[rW]at h;exact h.2.symm
    .simp[rW,eF,and_assoc]
   .have:=yR s hs hm hF hc hk rfl (.inr (.inr (.inl rfl))) (λ_ cb lb w1 hn zW h=>aQW hT hFi h zW hn rfl rfl rfl (λw' hg=>h2 w' (hT.fm.gb hg)) hz)
    simpa using this
 .refine⟨je,⟨IX s hs hc np nq hS de Ny hl,λw mb hT hm _ hF=>?_,de⟩⟩;have:=yR s hs hm hF hc hk rfl (.inr (.inr (.inl rfl))) (A:=je) (bF:=true) (ps':=[]) (λh=>absurd h om)
  simpa using this
def aGu{TD:World->Prop}(s:ByteArray)(hs:s.size<=100000)(hc:f_ 32 s=p0::qs)(np:p0≠tx [112,111,108,121])(nq:p0≠tx [115,97,109,112,108,101])(ni:p0≠tx [105,110,116])(AX:PN)(hS:shapeOf (gI jP p0)=tx [102,109,119,119,119])(hk:iP.find? (λk=>p0==k.1)=some (p1,.inr (.agg #[J 5,fnv 29])))(HO:∀f m a c d:Int,0<=a->aG a->0<=c->aG c->0<=d->aG d->QH 65 #[J f,J m,Y a,Y c,Y d] 85 #[J f,J m,Y a,Y c,Y d])(HSc:∀f t m k W,ScH p0 f t m k 3 W 65 #[J f,J m,Y (W 0),Y (W 1),Y (W 2)]):∃A,Ans TD s A:=by
 have Ny:lq (tx [102,109,119,119,119]) 2:=zq (F:=2) de de de;by_cases hl:qs.length=5
 .match qs,hl with
  |[q0,q1,q2,q3,q4],_=>
   obtain⟨z,fl,hz,h1,h2⟩:=HO (gI dA q0) (gI fJ q1) (mQ q2) (mQ q3) (mQ q4) (iE _).1 (iE _).2 (iE _).1 (iE _).2 (iE _).1 (iE _).2;refine⟨if(((((false|| !decide (0<=gI dA q0))|| !decide (0<=gI fJ q1))|| !okW (gI dA q0) q2)|| !okW (gI dA q0) q3)|| !okW (gI dA q0) q4)=false then uT z.toNat fl else je,⟨?_,λw mb hT hm _ hF=>?_,nC (sS hz)⟩⟩
   .refine MW s hs hc np nq ni AX hS de Ny (N:=3) rfl de (f:=gI dA q0) (t:=-1) (m:=gI fJ q1) (k:=0) (λr h=>?_) (λw v hr HF=>HSc _ _ _ _ _ w v _ hr de HF _ _ _ (LV hz) de h1) ?_
    .simp[rW]at h;exact h.2.2.symm
    .simp[rW,eF,and_assoc]
   .have:=rD s hs hm hF hc hk (.inl rfl) (λ_ lb w1 h=>aQd hT h rfl rfl rfl rfl rfl (λw' hg=>h2 w' (hT.fm.gb hg)) hz)
    simpa using this
 .refine⟨je,⟨IX s hs hc np nq hS de Ny hl,λw mb hT hm _ hF=>?_,de⟩⟩;have:=rD s hs hm hF hc hk (.inl rfl) (A:=je) (bF:=true) (ps':=[]) (λh=>absurd h om)
  simpa using this
def aJn{TD:World->Prop}(s:ByteArray)(hs:s.size<=100000)(hc:f_ 32 s=p0::qs)(np:p0≠tx [112,111,108,121])(nq:p0≠tx [115,97,109,112,108,101])(ni:p0≠tx [105,110,116])(AX:PN)(hS:shapeOf (gI jP p0)=tx [102,109,107,119])(hk:iP.find? (λk=>p0==k.1)=some (p1,.inr (.agg #[J 4,fnv 36])))(HO:∀f m k a:Int,0<=a->aG a->QH 69 #[J f,J m,J k,Y a] 94 #[J f,J m,J k,Y a])(HSc:∀f t m k W,ScH p0 f t m k 1 W 69 #[J f,J m,J k,Y (W 0)]):∃A,Ans TD s A:=by
 have Ny:lq (tx [102,109,107,119]) 3:=zq (F:=3) de de de;by_cases hl:qs.length=4
 .match qs,hl with
  |[q0,q1,q2,q3],_=>
   obtain⟨z,fl,hz,h1,h2⟩:=HO (gI dA q0) (gI fJ q1) (gI iG q2) (mQ q3) (iE _).1 (iE _).2;refine⟨if((((false|| !decide (0<=gI dA q0))|| !decide (0<=gI fJ q1))|| !decide (0<=gI iG q2))|| !okW (gI dA q0) q3)=false then uT z.toNat fl else je,⟨?_,λw mb hT hm _ hF=>?_,nC (sS hz)⟩⟩
   .refine MW s hs hc np nq ni AX hS de Ny (N:=1) rfl de (f:=gI dA q0) (t:=-1) (m:=gI fJ q1) (k:=gI iG q2) (λr h=>?_) (λw v hr HF=>HSc _ _ _ _ _ w v _ hr de HF _ _ _ (LV hz) de h1) ?_
    .simp[rW]at h;exact h.2.2.2.symm
    .simp[rW,eF,and_assoc]
   .have:=rD s hs hm hF hc hk (.inr (.inr (.inl rfl))) (λ_ lb w1 h=>aQX hT h rfl rfl rfl rfl (λw' hg=>h2 w' (hT.fm.gb hg)) hz)
    simpa using this
 .refine⟨je,⟨IX s hs hc np nq hS de Ny hl,λw mb hT hm _ hF=>?_,de⟩⟩;have:=rD s hs hm hF hc hk (.inr (.inr (.inl rfl))) (A:=je) (bF:=true) (ps':=[]) (λh=>absurd h om)
  simpa using this
def aDs{TD:World->Prop}(s:ByteArray)(hs:s.size<=100000)(hc:f_ 32 s=p0::qs)(np:p0≠tx [112,111,108,121])(nq:p0≠tx [115,97,109,112,108,101])(ni:p0≠tx [105,110,116])(AX:PN)(hS:shapeOf (gI jP p0)=tx [102,102,109,119])(hk:iP.find? (λk=>p0==k.1)=some (p1,.inr (.agg #[J 4,fnv 37])))(HO:∀f t m a:Int,0<=a->aG a->QH 70 #[J f,J t,J m,Y a] 95 #[J f,J t,J m,Y a])(HSc:∀f t m k W,ScH p0 f t m k 1 W 70 #[J f,J t,J m,Y (W 0)]):∃A,Ans TD s A:=by
 have Ny:lq (tx [102,102,109,119]) 3:=zq (F:=3) de de de;by_cases hl:qs.length=4
 .match qs,hl with
  |[q0,q1,q2,q3],_=>
   obtain⟨z,fl,hz,h1,h2⟩:=HO (gI dA q0) (gI dA q1) (gI fJ q2) (mQ q3) (iE _).1 (iE _).2;refine⟨if((((false|| !decide (0<=gI dA q0))|| !decide (0<=gI dA q1))|| !decide (0<=gI fJ q2))|| !okW (gI dA q0) q3)=false then uT z.toNat fl else je,⟨?_,λw mb hT hm _ hF=>?_,nC (sS hz)⟩⟩
   .refine MW s hs hc np nq ni AX hS de Ny (N:=1) rfl de (f:=gI dA q0) (t:=gI dA q1) (m:=gI fJ q2) (k:=0) (λr h=>?_) (λw v hr HF=>HSc _ _ _ _ _ w v _ hr de HF _ _ _ (LV hz) de h1) ?_
    .simp[rW]at h;obtain⟨x0,x1,h⟩:=h;rw[if_neg (by omega)]at h;simp at h;exact h.2.symm
    .simp[rW,eF,and_assoc];intro x0 x1 x2;rw[if_neg (by omega)];simp
   .have:=rD s hs hm hF hc hk (.inr (.inr (.inr (.inl rfl)))) (λ_ lb w1 h=>aNJ hT h rfl rfl rfl rfl (λw' hg=>h2 w' (hT.fm.gb hg)) hz)
    simpa using this
 .refine⟨je,⟨IX s hs hc np nq hS de Ny hl,λw mb hT hm _ hF=>?_,de⟩⟩;have:=rD s hs hm hF hc hk (.inr (.inr (.inr (.inl rfl)))) (A:=je) (bF:=true) (ps':=[]) (λh=>absurd h om)
  simpa using this
def WG{TD:World->Prop}(s:ByteArray)(hs:s.size<=100000)(hc:f_ 32 s=p0::qs)(np:p0≠tx [112,111,108,121])(nq:p0≠tx [115,97,109,112,108,101])(ni:p0≠tx [105,110,116])(AX:PN)(hS:shapeOf (gI jP p0)=tx [102,119,119])(hk:iP.find? (λk=>p0==k.1)=some (p1,.inl (.bool sg,3,99)))
  (HO:∀f a c:Int,0<=a->aG a->0<=c->aG c->∃r fl,Ins [r,fl]/\KB 74 #[J f,Y a,Y c,.bool sg] (.tuple #[J r,J fl])/\∀w,Fm w->QR 101 #[J f,Y a,Y c,.bool sg] w (.tuple #[J r,J fl]))
  (HSc:∀(f t m k:Int) (W:Nat->Int) w v n,Rd w .u64 v n n W->0<n->aL7 f n W->2<=n->∀r fl,Ins [r,fl]->KB 74 #[J f,Y (W 0),Y (W 1),.bool sg] (.tuple #[J r,J fl])->nD p0 f t m k v w (numsL [r,fl])):∃A,Ans TD s A:=by
 have Ny:lq (tx [102,119,119]) 1:=zq (F:=1) de de de;by_cases hl:qs.length=3
 .match qs,hl with
  |[q0,q1,q2],_=>
   obtain⟨r,fl,hz,h1,h2⟩:=HO (gI dA q0) (mQ q1) (mQ q2) (iE _).1 (iE _).2 (iE _).1 (iE _).2;have z1:=iI r (hz r (by simp)).1 (hz r (by simp)).2;have z2:=iI fl (hz fl (by simp)).1 (hz fl (by simp)).2;refine⟨if(((false|| !decide (0<=gI dA q0))|| !okW (gI dA q0) q1)|| !okW (gI dA q0) q2)=false then numsL [r,fl]else je,⟨?_,λw mb hT hm _ hF=>?_,nC ?_⟩⟩
   .refine MW s hs hc np nq ni AX hS de Ny (N:=2) rfl de (f:=gI dA q0) (t:=-1) (m:=0) (k:=0) (λr h=>?_) (λw v hr HF=>HSc _ _ _ _ _ w v _ hr de HF de _ _ hz h1) ?_
    .simp[rW]at h;exact h.2.symm
    .simp[rW,eF,and_assoc]
   .have:=yR s hs hm hF hc hk rfl (.inr (.inr (.inr rfl))) (λ_ cb lb w1 hn zW h=>aIW hT h zW hn rfl rfl rfl (λw' hg=>h2 w' (hT.fm.gb hg)) hz)
    simpa using this
   .rw[aF7,ByteArray.size_append,ByteArray.size_append,eF,eF,eF];simp only[List.length_cons,List.length_nil];omega
 .refine⟨je,⟨IX s hs hc np nq hS de Ny hl,λw mb hT hm _ hF=>?_,de⟩⟩;have:=yR s hs hm hF hc hk rfl (.inr (.inr (.inr rfl))) (A:=je) (bF:=true) (ps':=[]) (λh=>absurd h om)
  simpa using this
abbrev aQK(q:Int->Int->Bool):Prop:=∀a:Int,0<=a->aG a->FwI a (q a)/\∀k,0<=k->k<=3->Hid (∀w,CT 58 #[J k,Y a] w λe w'=>∃s b kk c,e=.returned (.tuple #[.agg #[J s,aC b kk c,J 0,.bool false],.bool (q a k)])/\Gb w w')
def aGt{TD:World->Prop}(s:ByteArray)(hs:s.size<=100000)(hc:f_ 32 s=tx [105,110,116]::qs)(hk:iP.find? (λk=>tx [105,110,116]==k.1)=some (p1,.inr (.agg #[J 4,fnv 35]))){q:Int->Int->Bool}(HI:aQK q)
  (HO:∀f m k a:Int,0<=a->aG a->QH 60 #[J f,J m,J k,Y a] 92 #[J f,J m,J k,Y a]):∃A,Ans TD s A:=by
 have np:tx [105,110,116]≠tx [112,111,108,121]:=de;have nq:tx [105,110,116]≠tx [115,97,109,112,108,101]:=de;have hS:shapeOf (gI jP (tx [105,110,116]))=tx [102,109,107,119]:=de;have Ny:lq (tx [102,109,107,119]) 3:=zq (F:=3) de de de;by_cases hl:qs.length=4
 .match qs,hl with
  |[q0,q1,q2,q3],_=>
   obtain⟨z,fl,hz,h1,h2⟩:=HO (gI dA q0) (gI fJ q1) (gI iG q2) (mQ q3) (iE _).1 (iE _).2;obtain⟨hq,h5⟩:=HI (mQ q3) (iE _).1 (iE _).2;have k3:gI iG q2<4:=(aMK iG q2).2;refine⟨if(((((false|| !decide (0<=gI dA q0))|| !decide (0<=gI fJ q1))|| !decide (0<=gI iG q2))|| !(aQ 16 q3).isSome)|| !okI (gI iG q2) (q (mQ q3)))=false then uT z.toNat fl else je,⟨?_,λw mb hT hm _ hF=>?_,nC (sS hz)⟩⟩
   .refine aBf s hs hc np nq hS de Ny (λh=>if_neg λc=>?_) (λw f t m k v _ h3 h4 h6=>?_)
    .simp at c;rcases h with h|h
     .exact absurd h de
     .exact h ⟨rfl,by simp[rW];omega,λj j3 j4=>by
       obtain rfl:j=3:=by simp at j4;omega
       simpa[Option.isSome_iff_ne_none]using c.1.2⟩
    .simp[rW]at h4;obtain⟨c0,c1,c2,rfl,rfl,rfl,rfl⟩:=h4;have hr:=aE7 (gI dA q0) (-1) (gI fJ q1) (gI iG q2) h6 (show 0<1 by decide) (LV hz) (q (mQ q3) (gI iG q2)) (h5 _ c2 om) h1;have hn:(aQ 16 q3).isSome =true:=by have:=h3.2.2 3 (Nat.le_refl _) (show 3<4 by decide);simpa[Option.isSome_iff_ne_none]using this
     have e:okI (gI iG q2) (q (mQ q3))=q (mQ q3) (gI iG q2):=by unfold okI;simp;omega
     simpa[c0,c1,c2,hn,e]using hr
   .have:=rD s hs hm hF hc hk (.inr (.inl rfl)) (λ_ lb w1 h=>aNy hT h rfl rfl rfl rfl hq (λw' hg=>h2 w' (hT.fm.gb hg)) hz)
    simpa using this
 .refine⟨je,⟨IX s hs hc np nq hS de Ny hl,λw mb hT hm _ hF=>?_,de⟩⟩;have:=rD s hs hm hF hc hk (.inr (.inl rfl)) (A:=je) (bF:=true) (ps':=[]) (λh=>absurd h om)
  simpa using this
def Af(c:UInt8):∀(l p:List UInt8),p ∈ qX c l->p.length<=l.length
 |[],p,h=>by simp[qX]at h;simp[h]
 |b::l,p,h=>by
  unfold qX at h;split at h
  .rcases List.mem_cons.1 h with rfl|h
   .simp
   .have:=Af c l p h;simp;omega
  .obtain⟨x,y,e⟩:∃x y,qX c l=x::y:=by cases e:qX c l with
    |nil=>exact absurd e (Ej c l)
    |cons x y=>exact⟨x,y,rfl⟩
   rw[e]at h;rcases List.mem_cons.1 h with rfl|h
   .have:=Af c l x (by rw[e];exact List.mem_cons_self);simp[List.head!];omega
   .have:=Af c l p (by rw[e];exact List.mem_cons_of_mem _ h);simp;omega
def Eh{c:UInt8}{p:ByteArray}(h:p ∈ f_ c s):p.size<=s.size:=by
 obtain⟨l,hl,rfl⟩:=List.mem_map.1 h;have:=Af c _ l hl
 rwa [eF,<-dJ]
def aBt:∀l:List UInt8,(Ug l).length <=l.length
 |[]=>Nat.le_refl _
 |[_]=>Nat.zero_le _
 |a::b::l=>by have:=aBt l;rw[Ug];simp;omega
def aGs{TD:World->Prop}(hTD:∀w w',Gb w w'->TD w->TD w')(s:ByteArray)(hs:s.size<=100000)(hc:f_ 32 s=tx [115,97,109,112,108,101]::qs)(hk:iP.find? (λk=>tx [115,97,109,112,108,101]==k.1)=some (p1,.inr (.agg #[J 4,fnv 43])))
  (HO:∀(a b c:Int) (t:ByteArray),0<=a->aG a->0<=b->aG b->0<=c->aG c->t.size<=1048576->∃s0 s1 s2 s3,Ins [s0,s1,s2,s3]/\KB 56 #[Y a,Y b,Y c,.string t] (.agg #[J s0,J s1,J s2,J s3])/\∀w,Fm w->TD w->QB 105 #[Y a,Y b,Y c,.string t] w (.agg #[J s0,J s1,J s2,J s3])):∃A,Ans TD s A:=by
 have e0:prt s 0=tx [115,97,109,112,108,101]:=by unfold prt;rw[hc];rfl
 have e1':(λj=>prt s (1+j))=λj=>qs.getD j default:=funext λj=>by unfold prt;rw[hc,Nat.add_comm];rfl
 have e2:uV s-1=qs.length:=by unfold uV;rw[hc];rfl
 have hq:∀q,q ∈ qs->q.size<=1048576:=λq h=>Nat.le_trans (Eh (c:=32) (by rw[hc];exact List.mem_cons_of_mem _ h)) om;have hg:∀j,j<qs.length->(qs.getD j default).size <=1048576:=λj hj=>by rw[List.getD_eq_getElem?_getD,List.getElem?_eq_getElem hj];exact hq _ (List.getElem_mem hj)
 have hn:=SA s;by_cases hl:qs.length=4
 .match qs,hl with
  |[q0,q1,q2,q3],_=>
   have h3:q3.size<=1048576:=hq q3 (by simp);obtain⟨s0,s1,s2,s3,hi,h1,h2⟩:=HO (mQ q0) (mQ q1) (mQ q2) (tx (Ug q3.data.toList)) (iE _).1 (iE _).2 (iE _).1 (iE _).2 (iE _).1 (iE _).2 (by rw[eF];have:=aBt q3.data.toList;rw[dJ]at this;omega);have i0:=hi s0 (by simp);have i1:=hi s1 (by simp);have i2:=hi s2 (by simp);have i3:=hi s3 (by simp);have z0:=iI s0 i0.1 i0.2;have z1:=iI s1 i1.1 i1.2;have z2:=iI s2 i2.1 i2.2;have z3:=iI s3 i3.1 i3.2;have hb:((((false|| !okW 1 q0)|| !okW 1 q1)|| !okW 1 q2)|| !okD q3)=false↔aHT 4 (λj=>[q0,q1,q2,q3].getD j default):=by
    have hw:∀q,okW 1 q=true↔aQ 16 q≠none:=λq=>by rw[JW];simp[NM]
    have hd:okD q3=true↔q3.size%2=0/\0<q3.size/\uj q3.data.toList≠none:=by
     unfold okD;rw[aAh];cases FU q3.data.toList<;>simp[and_comm]
    simp only[Bool.or_eq_false_iff,Bool.not_eq_false',true_and];rw[hw,hw,hw,hd];unfold aHT;constructor
    .rintro⟨⟨⟨a0,a1⟩,a2⟩,a3⟩;refine⟨rfl,λj hj=>?_,a3⟩
     match j,hj with
     |0,_=>exact a0
     |1,_=>exact a1
     |2,_=>exact a2
    .rintro⟨_,a,a3⟩;exact⟨⟨⟨a 0 de,a 1 de⟩,a 2 de⟩,a3⟩
   refine⟨if((((false|| !okW 1 q0)|| !okW 1 q1)|| !okW 1 q2)|| !okD q3)=false then numsL [s0,s1,s2,s3]else je,⟨IY s hs e0 (λw v hr=>?_),λw mb hT hm hD hF=>?_,nC ?_⟩⟩
   .rw[e1',e2]at hr;by_cases c:((((false|| !okW 1 q0)|| !okW 1 q1)|| !okW 1 q2)|| !okD q3)=false
    .rw[if_pos c,aF6];obtain⟨_,a,a1,a2,a3⟩:=hb.1 c;refine YL hr h3 (λj=>mQ ([q0,q1,q2,q3].getD j default)) (λj hj=>?_) (Ug q3.data.toList) ⟨a1,a2⟩ ?_ i0 i1 i2 i3 h1
     .have:=a j hj;unfold mQ;cases e:aQ 16 ([q0,q1,q2,q3].getD j default)with
      |none=>exact absurd e this
      |some x=>rfl
     .have e:=aAh q3.data.toList;cases d:FU q3.data.toList with
      |false=>rw[d]at e;exact absurd e a3
      |true=>rw[d]at e;exact e
    .rw[if_neg c];exact PZ hr (show 4<=1000000 by decide) hg λh=>c (hb.2 h)
   .have:=rD s hs hm hF hc hk (.inr (.inr (.inr (.inr (.inr rfl))))) (λ_ lb w1 h=>aFc hT h rfl rfl rfl h3 (λw' hg=>h2 w' (hT.fm.gb hg) (hTD _ _ hg hD)) hi)
    simpa using this
   .rw[aF6]
    repeat rw[ByteArray.size_append]
    repeat rw[eF]
    simp only[List.length_cons,List.length_nil];omega
 .refine⟨je,⟨IY s hs e0 (λw v hr=>?_),λw mb hT hm _ hF=>?_,de⟩⟩
  .rw[e1',e2]at hr;exact PZ hr om hg λh=>hl h.1
  .have:=rD s hs hm hF hc hk (.inr (.inr (.inr (.inr (.inr rfl))))) (A:=je) (bF:=true) (ps':=[]) (λh=>absurd h om)
   simpa using this
def z_{P:Nat->Bool}:∀{n:Nat},(¬∀j,j<n->P j=true)->∃m,m<n/\P m=false/\∀j,j<m->P j=true
 |0,h=>absurd (λj hj=>absurd hj (Nat.not_lt_zero _)) h
 |n+1,h=>by
  by_cases c:∀j,j<n->P j=true
  .refine⟨n,Nat.lt_succ_self _,?_,c⟩;cases e:P n with
   |false=>rfl
   |true=>exact absurd (λj hj=>by
     rcases Nat.lt_succ_iff_lt_or_eq.1 hj with d|rfl
     .exact c j d
     .exact e) h
  .obtain⟨m,h1,h2,h3⟩:=z_ c;exact⟨m,om,h2,h3⟩
def aM5(h0:-9999<=x)(h1:x<=9999):(Lib.itoa x).length <=5:=by
 unfold Lib.itoa;split
 .have:=Ae 3 x.natAbs om;simp;omega
 .have:=Ae 3 x.toNat om;omega
def aMS(h:rX s=true)(h0:-9999<=nV s)(h1:nV s<=9999):okS s=true:=by
 refine(Sm s).2 ⟨?_,_,(V7 s).1 h⟩;rw[(V7 s).1 h,eF];exact aM5 h0 h1
def aF3(h:okS s=true):rX s=true:=by unfold okS at h;rw[Bool.and_eq_true]at h;exact h.2
def Sr:∀ps:List ByteArray,Zn ps=true↔∀j,j<ps.length->rX (ps.getD j default)=true
 |[]=>⟨λ_ j hj=>absurd hj (Nat.not_lt_zero _),λ_=>rfl⟩
 |p::l=>by
  have ih:=Sr l;rw[Zn,Bool.and_eq_true,ih];constructor
  .rintro⟨h1,h2⟩ j hj;cases j with
   |zero=>exact h1
   |succ j=>exact h2 j (Nat.lt_of_succ_lt_succ hj)
  .exact λh=>⟨h 0 (Nat.succ_pos _),λj hj=>h (j+1) (Nat.succ_lt_succ hj)⟩
abbrev MkP(F:Nat)(k:Int)(vf vg:Value)(w:World)(b:Bool)(n:Nat)(f:Nat->Int):Prop:=Calls Tryz.prog F #[J k,vf,vg] w λe w'=>∃v,e=.returned (.tuple #[v,.bool b])/\Ow w' w.heap.size 3 1 .i64 v n f/\Gb w w'
abbrev aKb(k:Int)(L M:Nat)(f g:Nat->Int):Prop:=1<=k/\k<=6/\(L=2^k.toNat/\∀i,i<L->Ul (f i))/\(M=2^k.toNat/\∀i,i<M->Ul (g i))
structure aOa:Prop where
 y:∀(k:Int) (L M:Nat) (f g:Nat->Int),aKb k L M f g->∃G:Nat->Int,(∀j,-9223372036854775808<=G j/\G j<=9223372036854775807)/\(∀w v1 v2,iD w v1 L f->iD w v2 M g->MkP 53 k v1 v2 w true (2^k.toNat) G)/\∀w v1 v2,Fm w->iD w v1 L f->iD w v2 M g->MkP 103 k v1 v2 w true (2^k.toNat) G
 n:∀(k:Int) (L M:Nat) (f g:Nat->Int),¬aKb k L M f g->L<=2000000->M<=2000000->(∀w v1 v2,iD w v1 L f->iD w v2 M g->MkP 53 k v1 v2 w false 0 (λ_=>0))/\∀w v1 v2,Fm w->iD w v1 L f->iD w v2 M g->MkP 103 k v1 v2 w false 0 (λ_=>0)
 z:∀k:Int,1<=k->k<=6->KW 46 #[J k] (J ((2^k.toNat:Nat):Int))
def aMI(h1:1<=k)(h6:k<=6):1<=2^k.toNat/\2^k.toNat<=64:=⟨Nat.pow_pos de,Nat.pow_le_pow_right (n:=2) de (om:k.toNat<=6)⟩
def aDr{TD:World->Prop}(s:ByteArray)(hs:s.size<=100000)(hc:f_ 32 s=tx [112,111,108,121]::qs)(hk:iP.find? (λk=>tx [112,111,108,121]==k.1)=some (p1,.inr (.agg #[J 0,fnv 42])))(HP:aOa):∃A,Ans TD s A:=by
 have e0:prt s 0=tx [112,111,108,121]:=by unfold prt;rw[hc];rfl
 have e1':(λj=>prt s (1+j))=λj=>qs.getD j default:=funext λj=>by unfold prt;rw[hc,Nat.add_comm];rfl
 have e2:uV s-1=qs.length:=by unfold uV;rw[hc];rfl
 have hq:∀q,q ∈ qs->q.size<=1048576:=λq h=>Nat.le_trans (Eh (c:=32) (by rw[hc];exact List.mem_cons_of_mem _ h)) om;have hg:∀j,j<qs.length->(qs.getD j default).size <=1048576:=λj hj=>by rw[List.getD_eq_getElem?_getD,List.getElem?_eq_getElem hj];exact hq _ (List.getElem_mem hj)
 have Nu:=SA s;have hn:qs.length<=1000000:=om;have hpl:∀{A:ByteArray},(∀w v,oQ w v qs.length (λj=>qs.getD j default)->QB 19 #[v] w (.string A))->∀w,QB 10 #[.string s] w (.string A):=λh=>aC6 s hs e0 (λw v hr=>h w v (by rw[e1',e2]at hr;exact hr));cases qs with
 |nil=>
  refine⟨je,⟨hpl λw v hr=>Dz hr hn hg (λj hj=>absurd hj (Nat.not_lt_zero _)) (K:=nV default) (N:=0) rfl de de (.inl rfl),λw mb hT hm _ hF=>?_,de⟩⟩;have zT:¬aKb (nV (tx [])) 0 0 (JB []) (λj=>JB [] (0+j)):=λh=>by have:=(aMI h.1 h.2.1).1;have:=h.2.2.1.1;omega
  have:=rD s hs hm hF hc hk (.inr (.inr (.inr (.inr (.inl rfl))))) (λ_ lb w1 h=>aFS hT h (λp h=>absurd h List.not_mem_nil) de (λw' v1 v2 dL r1 r2=>(HP.n _ _ _ _ _ zT de de).2 w' v1 v2 (hT.fm.gb dL) r1 r2) de (λj hj=>absurd hj (Nat.not_lt_zero _)))
  simpa using this
 |cons q0 rs=>
  have oG:rs.length<=999999:=by simp at hn;omega
  obtain⟨K,hK⟩:=dK (nV q0);obtain⟨h,hh⟩:=dK (rs.length/2);obtain⟨M,hM⟩:=dK (rs.length-h);have ef:∀j,nV ((q0::rs).getD (1+j) default)=JB rs j:=λj=>by unfold JB;rw[Nat.add_comm];rfl
  have eg:∀j,nV ((q0::rs).getD (1+h+j) default)=JB rs (h+j):=λj=>by unfold JB;rw[(om:1+h+j=(h+j)+1)];rfl
  have hP:∀{ok:Bool} {N:Nat} {G:Nat->Int},(∀w v1 v2,Fm w->iD w v1 h (JB rs)->iD w v2 M (λj=>JB rs (h+j))->MkP 103 K v1 v2 w ok N G)->N<=1000->(∀j,j<N->-9223372036854775808<=G j/\G j<=9223372036854775807)->∀w mb,Tb w->Ml w->FS w mb iP->Aw w mb s (if(((false|| !rX q0)|| !Zn rs)|| !ok)=false then lJ N G else je):=λHA hN hG w mb hT hm hF=>by
   have:=rD s hs hm hF hc hk (.inr (.inr (.inr (.inr (.inl rfl))))) (λ_ lb w1 hl=>aFS hT hl hq (om:rs.length<=1000000) (λw' v1 v2 dL r1 r2=>by
    rw[show((q0::rs).tail.length /2)=h from hh]at r1 r2;rw[show(q0::rs).tail.length -h=M from hM]at r2;rw[show nV ((q0::rs).headD (tx []))=K from hK];exact HA w' v1 v2 (hT.fm.gb dL) r1 r2) hN hG)
   simpa using this
  by_cases rM:aKb K h M (JB rs) (λj=>JB rs (h+j))
  .obtain⟨G,hG,hS,hI⟩:=HP.y K h M _ _ rM;obtain⟨k1,k6,⟨hL,hf⟩,hM2,zk⟩:=rM;have h64:=aMI k1 k6;refine⟨if(((false|| !rX q0)|| !Zn rs)|| !true)=false then lJ (2^K.toNat) G else je,⟨hpl λw v hr=>?_,λw mb hT hm _ hF=>hP hI om (λj _=>hG j) w mb hT hm hF,nC (Nat.le_trans (P_ _ _ λj _=>hG j) om)⟩⟩;by_cases Bc:∀j,j<(q0::rs).length ->okS ((q0::rs).getD j default)=true
   .rw[if_pos]
    .refine aFQ hr hn hg Bc (K:=K) (N:=(h:Int)) (M:=(h:Int)+1) (h:=h) hK (by rw[hL];exact HP.z K k1 k6) rfl rfl om om om om jl (λj _=>hG j) (λw' v1 v2 r1 r2=>?_)|>.mono ?_
     .rw[show(λj=>nV ((q0::rs).getD (1+j) default))=JB rs from funext ef]at r1;rw[show(λj=>nV ((q0::rs).getD (1+h+j) default))=λj=>JB rs (h+j) from funext eg]at r2;have:=hS w' v1 v2 r1 (by rw[(om:M=h)];exact r2)
      rwa [<-hL]at this
     .rw[hL];exact λ_ _ h=>h
    .have a0:=aF3 (Bc 0 (Nat.succ_pos _));have a1:Zn rs=true:=(Sr rs).2 λj hj=>aF3 (Bc (j+1) (Nat.succ_lt_succ hj));rw[a1,show rX q0=true from a0];rfl
   .obtain⟨m,m1,m2,m3⟩:=z_ (P:=λj=>okS ((q0::rs).getD j default)) Bc;rw[if_neg]
    .exact VL hr hn hg m m1 m3 m2
    .intro c;simp at c;have hx:rX ((q0::rs).getD m default)=true/\-9999<=nV ((q0::rs).getD m default)/\nV ((q0::rs).getD m default)<=9999:=by
      cases m with
      |zero=>exact⟨c.1,by show _<=nV q0;omega,by show nV q0<=_;omega⟩
      |succ m=>
       have m1':m<rs.length:=Nat.lt_of_succ_lt_succ m1;refine⟨(Sr rs).1 c.2 m m1',?_⟩;have e:nV ((q0::rs).getD (m+1) default)=JB rs m:=by rw[Nat.add_comm];exact ef m
       rw[e];by_cases d:m<h
       .have:=hf m d;unfold Ul at this;omega
       .have:=zk (m-h) (by omega);dsimp only at this;rw[(om:h+(m-h)=m)]at this;unfold Ul at this;omega
     have:=aMS hx.1 hx.2.1 hx.2.2;rw[m2]at this;cases this
  .have zT:=HP.n K h M _ _ rM om om;refine⟨je,⟨hpl λw v hr=>?_,λw mb hT hm _ hF=>?_,de⟩⟩
   .by_cases Bc:∀j,j<(q0::rs).length ->okS ((q0::rs).getD j default)=true
    .by_cases k1:K<1
     .exact Dz hr hn hg Bc hK (N:=0) de de (.inr (.inl ⟨Nat.succ_pos _,k1⟩))
     by_cases k6:6<K
     .exact Dz hr hn hg Bc hK (N:=0) de de (.inr (.inr (.inl ⟨Nat.succ_pos _,k1,k6⟩)))
     have h64:=aMI (k:=K) om om;by_cases hN:(q0::rs).length =2*2^K.toNat+1
     .simp at hN;have hh2:h=2^K.toNat:=om;refine aFR hr hn hg Bc (K:=K) (N:=(h:Int)) (M:=(h:Int)+1) (h:=h) hK (by rw[hh2];exact HP.z K om om) rfl rfl om om k1 k6 jl (λw' v1 v2 r1 r2=>?_);rw[show(λj=>nV ((q0::rs).getD (1+j) default))=JB rs from funext ef]at r1;rw[show(λj=>nV ((q0::rs).getD (1+h+j) default))=λj=>JB rs (h+j) from funext eg]at r2;exact(zT.1 w' v1 v2 r1 (by rw[(om:M=h)];exact r2)).mono λe aT ⟨v,h1,_,h3⟩=>⟨v,h1,h3⟩
     .refine Dz hr hn hg Bc hK (N:=((2^K.toNat:Nat):Int)) om om (.inr (.inr (.inr ⟨Nat.succ_pos _,k1,k6,HP.z K om om,?_⟩)));rw[bne_iff_ne];omega
    .obtain⟨m,m1,m2,m3⟩:=z_ (P:=λj=>okS ((q0::rs).getD j default)) Bc;exact VL hr hn hg m m1 m3 m2
   .have:=hP zT.2 de (λj hj=>absurd hj (Nat.not_lt_zero _)) w mb hT hm hF
    simpa using this
abbrev Gi(a:Int):Prop:=0<=a/\a<18446744073709551616
structure aKa (TD:World->Prop) (q:Int->Int->Bool):Prop where
 td:∀w w',Gb w w'->TD w->TD w'
 fit:PN
 add:∀f m a c:Int,Gi a->Gi c->QH 62 #[J f,J m,Y a,Y c] 26 #[J f,J m,Y a,Y c]
 sub:∀f m a c:Int,Gi a->Gi c->QH 63 #[J f,J m,Y a,Y c] 27 #[J f,J m,Y a,Y c]
 mul:∀f m a c:Int,Gi a->Gi c->QH 64 #[J f,J m,Y a,Y c] 28 #[J f,J m,Y a,Y c]
 div:∀f m a c:Int,Gi a->Gi c->QH 66 #[J f,J m,Y a,Y c] 30 #[J f,J m,Y a,Y c]
 sqrt:∀f m a:Int,Gi a->QH 67 #[J f,J m,Y a] 32 #[J f,J m,Y a]
 round:∀f m a:Int,Gi a->QH 71 #[J f,J m,Y a,.bool true] 96 #[J f,J m,Y a,.bool true]
 rem:∀f a c:Int,Gi a->Gi c->QH 68 #[J f,Y a,Y c] 34 #[J f,Y a,Y c]
 min:∀f a c:Int,Gi a->Gi c->QH 72 #[J f,Y a,Y c] 39 #[J f,Y a,Y c]
 max:∀f a c:Int,Gi a->Gi c->QH 73 #[J f,Y a,Y c] 40 #[J f,Y a,Y c]
 fma:∀f m a c d:Int,Gi a->Gi c->Gi d->QH 65 #[J f,J m,Y a,Y c,Y d] 85 #[J f,J m,Y a,Y c,Y d]
 aLJ:∀f m k a:Int,Gi a->QH 69 #[J f,J m,J k,Y a] 94 #[J f,J m,J k,Y a]
 convert:∀f t m a:Int,Gi a->QH 70 #[J f,J t,J m,Y a] 95 #[J f,J t,J m,Y a]
 cmp:∀(f a c:Int) (sg:Bool),Gi a->Gi c->∃r fl,Ins [r,fl]/\KB 74 #[J f,Y a,Y c,.bool sg] (.tuple #[J r,J fl])/\∀w,Fm w->QR 101 #[J f,Y a,Y c,.bool sg] w (.tuple #[J r,J fl])
 from_:∀f m k a:Int,Gi a->QH 60 #[J f,J m,J k,Y a] 92 #[J f,J m,J k,Y a]
 int:aQK q
 smp:∀(a b c:Int) (t:ByteArray),Gi a->Gi b->Gi c->t.size<=1048576->∃s0 s1 s2 s3,Ins [s0,s1,s2,s3]/\KB 56 #[Y a,Y b,Y c,.string t] (.agg #[J s0,J s1,J s2,J s3])/\∀w,Fm w->TD w->QB 105 #[Y a,Y b,Y c,.string t] w (.agg #[J s0,J s1,J s2,J s3])
 prd:aOa
def aDZ{k:Nat}(h:k<jP.length):jP.getD k default ∈ iP.map (·.1):=by
 rw[List.getD_eq_getElem?_getD,List.getElem?_eq_getElem h,Option.getD_some];exact List.mem_of_mem_take (i:=15) (show jP[k] ∈ (iP.map (·.1)).take 15 from List.getElem_mem h)
def VU:tx (Lib.itoa r)++tx [32]++tx (Lib.itoa fl)=numsL [r,fl]:=(aF7 r fl).symm
def aGk{TD:World->Prop}{q:Int->Int->Bool}(H:aKa TD q)(s:ByteArray)(hs:s.size<=100000):∃A,Ans TD s A:=by
 obtain⟨p0,qs,hc⟩:∃p0 qs,f_ 32 s=p0::qs:=by
  cases e:f_ 32 s with
  |nil=>exact absurd (List.map_eq_nil_iff.1 e) (Ej 32 _)
  |cons x y=>exact⟨x,y,rfl⟩
 by_cases h0:p0=tx [97,100,100]
 .subst h0;exact DY s hs hc de de de H.fit de (p1:=tx [97,100,100]) rfl (ex:=#[]) (.inl rfl) (λf m a c x0 x1 x2 x3=>H.add f m a c ⟨x0,x1⟩ ⟨x2,x3⟩) (λf t m k W w v n hr h0 HF z fl A HR hn HO=>aFa f t m k hr h0 HF HR hn HO)
 by_cases h1:p0=tx [115,117,98]
 .subst h1;exact DY s hs hc de de de H.fit de (p1:=tx [115,117,98]) rfl (ex:=#[]) (.inr (.inl rfl)) (λf m a c x0 x1 x2 x3=>H.sub f m a c ⟨x0,x1⟩ ⟨x2,x3⟩) (λf t m k W w v n hr h0 HF z fl A HR hn HO=>aE2 f t m k hr h0 HF HR hn HO)
 by_cases h2:p0=tx [109,117,108]
 .subst h2;exact DY s hs hc de de de H.fit de (p1:=tx [109,117,108]) rfl (ex:=#[]) (.inr (.inr (.inl rfl))) (λf m a c x0 x1 x2 x3=>H.mul f m a c ⟨x0,x1⟩ ⟨x2,x3⟩) (λf t m k W w v n hr h0 HF z fl A HR hn HO=>aE4 f t m k hr h0 HF HR hn HO)
 by_cases h3:p0=tx [100,105,118]
 .subst h3;exact DY s hs hc de de de H.fit de (p1:=tx [100,105,118]) rfl (ex:=#[]) (.inr (.inr (.inr rfl))) (λf m a c x0 x1 x2 x3=>H.div f m a c ⟨x0,x1⟩ ⟨x2,x3⟩) (λf t m k W w v n hr h0 HF z fl A HR hn HO=>aE9 f t m k hr h0 HF HR hn HO)
 by_cases h4:p0=tx [115,113,114,116]
 .subst h4;exact join_one s hs hc de de de H.fit de (p1:=tx [115,113,114,116]) rfl (ex:=#[]) (.inl rfl) (λf m a x0 x1=>H.sqrt f m a ⟨x0,x1⟩) (λf t m k W w v n hr h0 HF z fl A HR hn HO=>aB3 f t m k hr h0 HF HR hn HO)
 by_cases h5:p0=tx [114,111,117,110,100]
 .subst h5;exact join_one s hs hc de de de H.fit de (p1:=tx [114,111,117,110,100]) rfl (ex:=#[.bool true]) (.inr rfl) (λf m a x0 x1=>by obtain⟨z,fl,h1,h2,h3⟩:=H.round f m a ⟨x0,x1⟩;exact⟨z,fl,h1,h2,λw hw=>aJE (W:=w) (λw' hg=>h3 w' (hw.gb hg)) w (Gb.refl _)⟩) (λf t m k W w v n hr h0 HF z fl A HR hn HO=>YK f t m k hr h0 HF HR hn HO)
 by_cases h6:p0=tx [114,101,109]
 .subst h6;exact SX s hs hc de de de H.fit de (p1:=tx [114,101,109]) rfl (ex:=#[]) (.inl rfl) (λf a c x0 x1 x2 x3=>H.rem f a c ⟨x0,x1⟩ ⟨x2,x3⟩) (λf t m k W w v n hr h0 HF z fl A HR hn HO=>aE3 f t m k hr h0 HF HR hn HO)
 by_cases h7:p0=tx [109,105,110]
 .subst h7;exact SX s hs hc de de de H.fit de (p1:=tx [109,105,110]) rfl (ex:=#[]) (.inr (.inl rfl)) (λf a c x0 x1 x2 x3=>H.min f a c ⟨x0,x1⟩ ⟨x2,x3⟩) (λf t m k W w v n hr h0 HF z fl A HR hn HO=>aE5 f t m k hr h0 HF HR hn HO)
 by_cases h8:p0=tx [109,97,120]
 .subst h8;exact SX s hs hc de de de H.fit de (p1:=tx [109,97,120]) rfl (ex:=#[]) (.inr (.inr rfl)) (λf a c x0 x1 x2 x3=>H.max f a c ⟨x0,x1⟩ ⟨x2,x3⟩) (λf t m k W w v n hr h0 HF z fl A HR hn HO=>aE6 f t m k hr h0 HF HR hn HO)
 by_cases h9:p0=tx [102,109,97]
 .subst h9;exact aGu s hs hc de de de H.fit de (p1:=tx [102,109,97]) rfl (λf m a c d x0 x1 x2 x3 x4 x5=>H.fma f m a c d ⟨x0,x1⟩ ⟨x2,x3⟩ ⟨x4,x5⟩) (λf t m k W w v n hr h0 HF z fl A HR hn HO=>aE8 f t m k hr h0 HF HR hn HO)
 by_cases h10:p0=tx [116,111,105,110,116]
 .subst h10;exact aJn s hs hc de de de H.fit de (p1:=tx [116,111,105,110,116]) rfl (λf m k a x0 x1=>H.aLJ f m k a ⟨x0,x1⟩) (λf t m k W w v n hr h0 HF z fl A HR hn HO=>YJ f t m k hr h0 HF HR hn HO)
 by_cases h11:p0=tx [99,111,110,118,101,114,116]
 .subst h11;exact aDs s hs hc de de de H.fit de (p1:=tx [99,111,110,118,101,114,116]) rfl (λf t m a x0 x1=>H.convert f t m a ⟨x0,x1⟩) (λf t m k W w v n hr h0 HF z fl A HR hn HO=>RD f t m k hr h0 HF HR hn HO)
 by_cases h12:p0=tx [99,111,109,112,97,114,101]
 .subst h12;exact WG s hs hc de de de H.fit de (p1:=tx [99,111,109,112,97,114,101]) rfl (λf a c x0 x1 x2 x3=>H.cmp f a c false ⟨x0,x1⟩ ⟨x2,x3⟩) (λf t m k W w v n hr h0 HF hn r fl hi HO=>VU▸RF f t m k hr h0 HF hn (hi r (by simp)).1 (hi r (by simp)).2 (hi fl (by simp)).1 (hi fl (by simp)).2 HO)
 by_cases h13:p0=tx [115,105,103,110,97,108]
 .subst h13;exact WG s hs hc de de de H.fit de (p1:=tx [115,105,103,110,97,108]) rfl (λf a c x0 x1 x2 x3=>H.cmp f a c true ⟨x0,x1⟩ ⟨x2,x3⟩) (λf t m k W w v n hr h0 HF hn r fl hi HO=>VU▸Vh f t m k hr h0 HF hn (hi r (by simp)).1 (hi r (by simp)).2 (hi fl (by simp)).1 (hi fl (by simp)).2 HO)
 by_cases hi:p0=tx [105,110,116]
 .subst hi;exact aGt s hs hc (p1:=tx [105,110,116]) rfl H.int (λf m k a x0 x1=>H.from_ f m k a ⟨x0,x1⟩)
 by_cases hq:p0=tx [115,97,109,112,108,101]
 .subst hq;exact aGs H.td s hs hc (p1:=tx [115,97,109,112,108,101]) rfl (λa b c t x0 x1 x2 x3 x4 x5=>H.smp a b c t ⟨x0,x1⟩ ⟨x2,x3⟩ ⟨x4,x5⟩)
 by_cases hp:p0=tx [112,111,108,121]
 .subst hp;exact aDr s hs hc (p1:=tx [112,111,108,121]) rfl H.prd
 have zT:p0 ∉ iP.map (·.1):=by
  simp[iP];exact⟨h0,h1,h2,h9,h3,h4,h6,hi,h10,h11,h5,h7,h8,h12,h13,hp,hq⟩
 refine⟨je,⟨aMZ s hs hc hp hq ?_,λw mb hT hm _ hF=>aMH s hs hm hF hc ?_,de⟩⟩
 .rcases BN jP p0 with h|⟨k,h1,h2,h3,_⟩
  .exact h.1
  .exact absurd (h3▸aDZ h1) zT
 .rw[List.find?_eq_none];intro x hx e;have:p0=x.1:=ByteArray.ext (eq_of_beq (a:=p0.data) (b:=x.1.data) e);exact zT (this▸List.mem_map_of_mem hx)
set_option maxRecDepth 1000000
def aGi{p:ByteArray}(h:p ∈ vW s):p.size<=s.size:=by
 unfold vW at h;split at h
 .exact Eh (List.dropLast_subset _ h)
 .exact Eh h
def Tb.gb(h:Tb w)(hg:Gb w w'):Tb w':=⟨h.fm.gb hg,h.db.gb hg,h.pw.gb hg⟩
def aFt{TD:World->Prop}{q:Int->Int->Bool}(H:aKa TD q)(s:ByteArray)(hs:s.size<=1048576):∃R:ByteArray,(∀w,QB 5 #[.string s] w (.string R))/\∀w,Tb w->Ml w->TD w->QB 6 #[.string s] w (.string R):=by
 have hl:∀j,j<(vW s).length /\s.size<=100000->∃A,Ans TD ((vW s).getD j default) A:=λj h=>aGk H _ (by
  rw[List.getD_eq_getElem?_getD,List.getElem?_eq_getElem h.1,Option.getD_some];exact Nat.le_trans (aGi (List.getElem_mem h.1)) h.2)
 obtain⟨an,ha⟩:∃an:Nat->ByteArray,∀j,(an j).size <=5000/\(j<(vW s).length /\s.size<=100000->Ans TD ((vW s).getD j default) (an j)):=⟨λj=>if h:j<(vW s).length /\s.size<=100000 then Classical.choose (hl j h)else je,λj=>by
  dsimp only
  by_cases h:j<(vW s).length /\s.size<=100000
  .rw[dif_pos h];have:=Classical.choose_spec (hl j h);exact⟨this.z,λ_=>this⟩
  .rw[dif_neg h];exact⟨de,λc=>absurd c h⟩⟩
 exact⟨yC s an,λw=>aOy s hs an (λj=>(ha j).1) (λj h1 h2 w=>((ha j).2 ⟨h1,h2⟩).m w) w,λw hT hm hD=>aOz s hs an (λj=>(ha j).1) hm (λj h1 h2 w' mb hg hF=>((ha j).2 ⟨h1,h2⟩).p w' mb (hT.gb hg) (hm.gb hg) (H.td _ _ hg hD) hF)⟩
def aM3{TD:World->Prop}{q:Int->Int->Bool}(H:aKa TD q)(s:ByteArray)(w:World)(hT:Tb w)(hm:Ml w)(hD:TD w):CT 3 #[.string s] w λe w'=>e=.returned (.bool true)/\Below w.heap.size w w':=by
 by_cases hz:s.size<=1048576
 .have hz':¬(1048576:Int)<s.size:=om;obtain⟨R,hS,hI⟩:=aFt H s hz;have HS:KB 5 #[.string s] (.string R):=hS;have HI:Hid (∀w',Gb w w'->QB 6 #[.string s] w' (.string R)):=λw' hg=>hI w' (hT.gb hg) (hm.gb hg) (H.td _ _ hg hD);clear hS hI hT hm hD H;go_enter func3,ntmps3;go_wp2_with (first|(go_at_call 5;refine ku (HS _) λw1 ak=>?_)|(go_at_call 6;refine ku (HI _ kg) λw2 aB=>?_))
  go_returns;exact⟨rfl,(show Gb w w2 from kg)⟩
 .have hz':(1048576:Int)<s.size:=om;clear H hT hm hD;go_enter func3,ntmps3;go_wp2;go_returns;exact⟨rfl,Below.refl _ _⟩
