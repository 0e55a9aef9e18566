import Derived.Test.YthoelefkjpjhfaaGreatDoorT6
set_option linter.all false
open Go.Proofs.YthoelefkjpjhfaaGreatDoor renaming vI → J, vU → Y
open Go.Proofs.Tryz
namespace Go.Proofs.YthoelefkjpjhfaaGreatDoor
open Go.RowKit
attribute [local go_sem] aB
variable {qs ps':List aJ}{p0 p1 S A s:aJ}{F mb Fs Fi G F' N:Nat}{w w':ak}{fl p k z f t m x r:Int}{ex:Array Value}{bF sg:Bool}{u:Value}
def aHh(l:List aJ)(s:aJ):-1<=ig l s/\ig l s<l.length:=by
 unfold ig;rcases aAY s l 0 with⟨h,_⟩|⟨k,h1,h2,_⟩<;>omega
def YQ(h:mX S F)(h':mX S F'):F'=F:=by
 rcases Oz F F' with c|c|c
 .exact bG (h.2.2 (by have:=h'.1;omega)) (h'.2.1 F c)
 .exact c.symm
 .exact bG (h'.2.2 (by have:=h.1;omega)) (h.2.1 F' c)
def aLC(S:aJ)(F:Nat)(qs:List aJ):Prop:=qs.length=S.size/\uQ (λj=>qs.getD j default) S.data.toList 0 (-1) (-1) 0 0≠none/\∀j,F<=j->j<qs.length->aV 16 (qs.getD j default)≠none
def aCD(s:aJ)(hs:s.size<=100000)(hc:gW 32 s=p0::qs)(np:p0≠tx [112,111,108,121])(nq:p0≠tx [115,97,109,112,108,101])(hS:shapeOf (ig jw p0)=S)(hS9:S.size<=100)(hF:mX S F)(Cc:S.size=0\/¬aLC S F qs->A=jO)
  (HP:Hid (∀w f t m k v,S.size≠0->aLC S F qs->uQ (λj=>qs.getD j default) S.data.toList 0 (-1) (-1) 0 0=some (f,t,m,k)->Rd w .u64 v (qs.length-F) (qs.length-F) (λj=>oJ (qs.getD (F+j) default))->oV p0 f t m k v w A)) (w:ak):QB 10 #[.string s] w (.string A):=by
 have e0:prt s 0=p0:=by unfold prt;rw[hc];rfl
 have e1:∀j,prt s (1+j)=qs.getD j default:=λj=>by unfold prt;rw[hc,Nat.add_comm];rfl
 have e1':(λj=>prt s (1+j))=λj=>qs.getD j default:=funext e1;have e2:xR s-1=qs.length:=by unfold xR;rw[hc];rfl
 have hin:=aHh jw p0;have hr:IK s S↔S.size≠0/\aLC S F qs:=by
  unfold IK aLC;rw[e1',e2];constructor
  .rintro⟨h1,h2,h3,h4⟩;exact⟨h1,h2,h3,λj h5 h6=>by have:=h4 F j hF h5 h6;rwa [e1]at this⟩
  .rintro⟨h1,h2,h3,h4⟩;exact⟨h1,h2,h3,λF' j h5 h6 h7=>by rw[e1];exact h4 j (by rw[<-YQ hF h5];exact h6) h7⟩
 refine Ye s hs (r:=ig jw p0) (by rw[e0];exact D6 _ _) hin.1 hin.2 S hS hS9 (by rw[e0];exact np) (by rw[e0];exact nq) (λh=>Cc ?_) (λw f t m k v F' h1 h2 h3 h4=>?_) w
 .rw[hr]at h;by_cases c:S.size=0
  .exact .inl c
  .exact .inr λc'=>h ⟨c,c'⟩
 .obtain rfl:=YQ hF h3;rw[e1']at h2;rw[e0];refine HP w f t m k v (hr.1 h1).1 (hr.1 h1).2 h2 ?_;rw[e2]at h4;have e3:(λj=>(aV 16 (prt s (1+(F'+j)))).getD 0)=λj=>oJ (qs.getD (F'+j) default):=funext λj=>by rw[e1]
  rwa [e3]at h4
def aOz(s:aJ)(hs:s.size<=100000)(hc:gW 32 s=p0::qs)(np:p0≠tx [112,111,108,121])(nq:p0≠tx [115,97,109,112,108,101])(h:ig jw p0=-1)(w:ak):QB 10 #[.string s] w (.string jO):=
 aCD s hs hc np nq (S:=tx []) (by rw[h];rfl) de (F:=0) ⟨de,λj hj=>bG hj (Nat.not_lt_zero _),λh=>bG h de⟩ (λ_=>rfl) (λw f t m k v h1=>bG rfl h1) w
abbrev Aw(w:ak)(mb:Nat)(s A:aJ):Prop:=QB 14 #[.map (some mb),.string s] w (.string A)
def aOi(s:aJ)(hs:s.size<=100000)(hm:Ml w)(hF:RH w mb jC)(hc:gW 32 s=p0::qs)(hk:jC.find? (λk=>p0==k.1)=none):Aw w mb s jO:=by
 obtain⟨W1,a1,o1,c1,HS,su,hz,q0,LX,HR,rfl⟩:=UL s hs hm hc;rcases U7 hF p0 with⟨_,HL⟩|⟨k,v,h1,_⟩
 .exact aSd HS su q0 LX HL
 .rw[hk]at h1;cases h1
def AY(s:aJ)(hs:s.size<=100000)(hm:Ml w)(hF:RH w mb jC)(hc:gW 32 s=p0::qs)(hk:jC.find? (λk=>p0==k.1)=some (p1,.inl (u,p,G)))(hp:(p != 0)=true)(hG:G=76\/G=87\/G=89\/G=99)(HC:Hid ((qs.length:Int)=p->∀cb lb w1,cb≠lb->aB w1 cb 0 u->LS w w1 lb qs false->Calls prog G #[lp lb,.pointer (some ⟨cb,0,none⟩)] w1 λe w'=>e=.returned (.string A)/\LS w w' lb ps' bF/\Lk lb w1 w')):Aw w mb s (if(qs.length:Int)=p/\bF=false then A else jO):=by
 obtain⟨W1,a1,o1,c1,HS,su,hz,q0,LX,HR,rfl⟩:=UL s hs hm hc;rcases U7 hF p0 with⟨h1,_⟩|⟨k,v,h1,h2,HL⟩
 .rw[hk]at h1;cases h1
 .rw[hk]at h1;cases h1;obtain⟨cb,rfl,Ci,lM⟩:=h2;have fJ:=aA Ci;by_cases hn:(qs.length:Int)=p
  .have h:=aSe HS su q0 LX hG HL (.inr ⟨hp,by rw[hn];simp⟩) rfl HR hz (A:=A) (ps':=ps') (bF:=bF) (λw1 h hg=>HC hn cb W1.heap.size w1 om ((su.trans hg).old Ci) h);cases bF
   .rwa [aQ ⟨hn,rfl⟩]
   .rwa [aH (λc=>Bool.noConfusion c.2)]
  .rw[aH (λc=>hn c.1)];exact aNB HS su q0 LX HL hp (by simpa using λe=>hn e.symm)
def uo(s:aJ)(hs:s.size<=100000)(hm:Ml w)(hF:RH w mb jC)(hc:gW 32 s=p0::qs)(hk:jC.find? (λk=>p0==k.1)=some (p1,.inr (.agg #[J p,fnv G])))(hG:G=29\/G=35\/G=36\/G=37\/G=42\/G=43)(HC:Hid (p=0\/(qs.length:Int)=p->∀lb w1,LS w w1 lb qs false->Calls prog G #[lp lb] w1 λe w'=>e=.returned (.string A)/\LS w w' lb ps' bF/\Lk lb w1 w')):Aw w mb s (if(p=0\/(qs.length:Int)=p)/\bF=false then A else jO):=by
 obtain⟨W1,a1,o1,c1,HS,su,hz,q0,LX,HR,rfl⟩:=UL s hs hm hc;rcases U7 hF p0 with⟨h1,_⟩|⟨k,v,h1,h2,HL⟩
 .rw[hk]at h1;cases h1
 .rw[hk]at h1;cases h1;obtain rfl:v=_:=h2;by_cases hn:p=0\/(qs.length:Int)=p
  .have h:=aSc HS su q0 LX hG HL (by
    by_cases c:p=0
    .exact .inl (by simpa using c)
    .exact .inr ⟨by simpa using c,by simpa using(hn.resolve_left c).symm⟩) rfl HR hz (A:=A) (ps':=ps') (bF:=bF) (λw1 h hg=>HC hn W1.heap.size w1 h)
   cases bF
   .rwa [aQ ⟨hn,rfl⟩]
   .rwa [aH (λc=>Bool.noConfusion c.2)]
  .rw[aH (λc=>hn c.1)];exact aNB HS su q0 LX HL (by simpa using λe=>hn (.inl e)) (by simpa using λe=>hn (.inr e.symm))
abbrev RJ:Prop:=∀f x:Int,0<=x->aI x->fF f x (PG f x)
def je(q:aJ):0<=oJ q/\oJ q<18446744073709551616:=by
 unfold oJ;cases h:aV 16 q with
 |none=>exact⟨de,de⟩
 |some x=>exact Ox de de h
def aIA{P:aJ->Prop}:(∀q,q ∈ qs.drop F->P q)↔∀j,F<=j->j<qs.length->P (qs.getD j default):=by
 constructor
 .intro h j h1 h2;rw[qF,Dj h2];refine h _ (List.mem_iff_getElem.2 ⟨j-F,by rw[List.length_drop];omega,?_⟩);rw[List.getElem_drop];simp[(om:F+(j-F)=j)]
 .intro h q hq;obtain⟨i,h1,rfl⟩:=List.mem_iff_getElem.1 hq;rw[List.length_drop]at h1;have:=h (F+i) om om
  rwa [qF,Dj om,Option.getD_some,<-List.getElem_drop (h:=by rw[List.length_drop];omega)]at this
def MC(f:Int)(q:aJ):okW f q=true↔aV 16 q≠none/\PG f (oJ q)=true:=by
 unfold okW;rw[Bool.and_eq_true,Option.isSome_iff_ne_none]
def OU(s:aJ)(hs:s.size<=100000)(hc:gW 32 s=p0::qs)(np:p0≠tx [112,111,108,121])(nq:p0≠tx [115,97,109,112,108,101])(ni:p0≠tx [105,110,116])(Dt:RJ)(hS:shapeOf (ig jw p0)=S)(hS9:S.size<=100)(hF:mX S F)(hN:S.size=F+N)(hN0:0<N)(hrd:∀r,uQ (λj=>qs.getD j default) S.data.toList 0 (-1) (-1) 0 0=some r->r=(f,t,m,k))(HSc:Hid (∀w v,Rd w .u64 v N N (λj=>oJ (qs.getD (F+j) default))->Hid (∀j,j<N->∀w,pO f (oJ (qs.getD (F+j) default)) w true)->oV p0 f t m k v w A)){P:Prop}[Decidable P](hb:P↔qs.length=S.size/\uQ (λj=>qs.getD j default) S.data.toList 0 (-1) (-1) 0 0≠none/\∀q,q ∈ qs.drop F->okW f q=true)(w:ak):QB 10 #[.string s] w (.string (if P then A else jO)):=by
 rw[aIA (P:=λq=>okW f q=true)]at hb;refine aCD s hs hc np nq hS hS9 hF (λh=>?_) (λw f' t' m' k' v h0 h1 h2 h3=>?_) w
 .refine aH λc=>?_;rcases h with h|h
  .omega
  .exact h ⟨(hb.1 c).1,(hb.1 c).2.1,λj h1 h2=>((MC _ _).1 ((hb.1 c).2.2 j h1 h2)).1⟩
 .cases hrd _ h2;have e:qs.length-F=N:=by have:=h1.1;omega
  rw[e]at h3;by_cases c:P
  .rw[aQ c];exact HSc w v h3 λj hj w=>by
    have:=(Dt f _ (je (qs.getD (F+j) default)).1 (je _).2).out w
    rwa [((MC _ _).1 ((hb.1 c).2.2 (F+j) om om)).2]at this
  .rw[aH c];refine aJQ (by have:=zJ ni;rwa [ByteArray.toList_eq (tx [105,110,116])]at this) f t m k h3 hN0 (λj=>PG f (oJ (qs.getD (F+j) default))) (λj hj w=>(Dt f _ (je _).1 (je _).2).out w) ?_;refine Classical.byContradiction λh=>c (hb.2 ⟨h1.1,h1.2.1,λj h5 h6=>(MC _ _).2 ⟨h1.2.2 j h5 h6,?_⟩⟩);cases e:PG f (oJ (qs.getD j default))with
   |true=>rfl
   |false=>exact bG ⟨j-F,om,by rw[(om:F+(j-F)=j)];exact e⟩ h
structure Ans (TD:ak->Prop) (s A:aJ):Prop where
 m:∀w,QB 10 #[.string s] w (.string A)
 p:∀w mb,Tb w->Ml w->TD w->RH w mb jC->Aw w mb s A
 z:A.size<=5000
abbrev TG(Fs:Nat)(xs:Array Value)(Fi:Nat)(ys:Array Value):Prop:=∃z fl,VU z fl/\KB Fs xs (aU z fl)/\∀w,Fm w->Calls prog Fi ys w λe w'=>e=.returned (aU z fl)/\Gr w w'
abbrev aNH(f:Int)(n:Nat)(W:Nat->Int):Prop:=Hid (∀j,j<n->∀w,pO f (W j) w true)
abbrev aSr(z fl:Int)(A:aJ):Prop:=xE z fl A
abbrev ScH(p0:aJ)(f t m k:Int)(N:Nat)(W:Nat->Int)(Fs:Nat)(xs:Array Value):Prop:=∀w v n,Rd w .u64 v n n W->0<n->aNH f n W->∀z fl A,aSr z fl A->N<=n->KB Fs xs (aU z fl)->oV p0 f t m k v w A
def Oc(h:VU z fl):aSr z fl (xP z.toNat fl):=λw=>by
 have:=aG4 z.toNat fl (by have:=h.1;have:=h.2.1;omega) h.2.2.1 h.2.2.2 w
 rwa [show((z.toNat:Nat):Int)=z by have:=h.1;omega]at this
def vM(h:VU z fl):(xP z.toNat fl).size <=5000:=by
 have h1:=yV 15 z.toNat (by have:=h.1;have:=h.2.1;omega);have h2:=iU fl h.2.2.1 h.2.2.2;rw[<-dZ]at h2;rw[ByteArray.size_append,ByteArray.size_append,dZ [32]];simp only[List.length_cons,List.length_nil];omega
def oU{P:Prop}[Decidable P](h:A.size<=5000):(if P then A else jO).size <=5000:=by
 split
 .exact h
 .decide
def Kr(s:aJ)(hs:s.size<=100000)(hc:gW 32 s=p0::qs)(np:p0≠tx [112,111,108,121])(nq:p0≠tx [115,97,109,112,108,101])(hS:shapeOf (ig jw p0)=S)(hS9:S.size<=100)(hF:mX S F)(hl:qs.length≠S.size)(w:ak):QB 10 #[.string s] w (.string jO):=
 aCD s hs hc np nq hS hS9 hF (λ_=>rfl) (λw f t m k v _ h1=>bG h1.1 hl) w
def BF(h0:F<S.size)(h1:iJ S F=119)(h2:∀j,j<F->iJ S j≠119):mX S F:=⟨Nat.le_of_lt h0,h2,λ_=>h1⟩
def FD{TD:ak->Prop}(s:aJ)(hs:s.size<=100000)(hc:gW 32 s=p0::qs)(np:p0≠tx [112,111,108,121])(nq:p0≠tx [115,97,109,112,108,101])(ni:p0≠tx [105,110,116])(Dt:RJ)(hS:shapeOf (ig jw p0)=tx [102,109,119,119])(hk:jC.find? (λk=>p0==k.1)=some (p1,.inl (fnv Fi,4,76)))(hFi:Fi=26\/Fi=27\/Fi=28\/Fi=30)(HO:∀f m a c:Int,0<=a->aI a->0<=c->aI c->TG Fs (#[J f,J m,Y a,Y c]++ex) Fi #[J f,J m,Y a,Y c])(HSc:∀f t m k W,ScH p0 f t m k 2 W Fs (#[J f,J m,Y (W 0),Y (W 1)]++ex)):∃A,Ans TD s A:=by
 have Pm:mX (tx [102,109,119,119]) 2:=BF (F:=2) de de de;by_cases hl:qs.length=4
 .match qs,hl with
  |[q0,q1,q2,q3],_=>
   obtain⟨z,fl,hz,h1,h2⟩:=HO (ig dK q0) (ig gB q1) (oJ q2) (oJ q3) (je _).1 (je _).2 (je _).1 (je _).2;refine⟨if((((false|| !decide (0<=ig dK q0))|| !decide (0<=ig gB q1))|| !okW (ig dK q0) q2)|| !okW (ig dK q0) q3)=false then xP z.toNat fl else jO,⟨?_,λw mb hT hm _ hF=>?_,oU (vM hz)⟩⟩
   .refine OU s hs hc np nq ni Dt hS de Pm (N:=2) rfl de (f:=ig dK q0) (t:=-1) (m:=ig gB q1) (k:=0) (λr h=>?_) (λw v hr HF=>HSc _ _ _ _ _ w v _ hr de HF _ _ _ (Oc hz) de h1) ?_
    .simp[uQ]at h;exact h.2.2.symm
    .simp[uQ,dZ,and_assoc]
   .have:=AY s hs hm hF hc hk rfl (.inl rfl) (λ_ cb lb w1 hn Ci h=>aP4 hT hFi h Ci hn rfl rfl rfl rfl (λw' hg=>h2 w' (hT.fm.gb hg)) hz)
    simpa using this
 .refine⟨jO,⟨Kr s hs hc np nq hS de Pm hl,λw mb hT hm _ hF=>?_,de⟩⟩;have:=AY s hs hm hF hc hk rfl (.inl rfl) (A:=jO) (bF:=true) (ps':=[]) (λh=>bG h om)
  simpa using this
def join_one{TD:ak->Prop}(s:aJ)(hs:s.size<=100000)(hc:gW 32 s=p0::qs)(np:p0≠tx [112,111,108,121])(nq:p0≠tx [115,97,109,112,108,101])(ni:p0≠tx [105,110,116])(Dt:RJ)(hS:shapeOf (ig jw p0)=tx [102,109,119])(hk:jC.find? (λk=>p0==k.1)=some (p1,.inl (fnv Fi,3,87)))(hFi:Fi=32\/Fi=38)(HO:∀f m a:Int,0<=a->aI a->TG Fs (#[J f,J m,Y a]++ex) Fi #[J f,J m,Y a])(HSc:∀f t m k W,ScH p0 f t m k 1 W Fs (#[J f,J m,Y (W 0)]++ex)):∃A,Ans TD s A:=by
 have Pm:mX (tx [102,109,119]) 2:=BF (F:=2) de de de;by_cases hl:qs.length=3
 .match qs,hl with
  |[q0,q1,q2],_=>
   obtain⟨z,fl,hz,h1,h2⟩:=HO (ig dK q0) (ig gB q1) (oJ q2) (je _).1 (je _).2;refine⟨if(((false|| !decide (0<=ig dK q0))|| !decide (0<=ig gB q1))|| !okW (ig dK q0) q2)=false then xP z.toNat fl else jO,⟨?_,λw mb hT hm _ hF=>?_,oU (vM hz)⟩⟩
   .refine OU s hs hc np nq ni Dt hS de Pm (N:=1) rfl de (f:=ig dK q0) (t:=-1) (m:=ig gB q1) (k:=0) (λr h=>?_) (λw v hr HF=>HSc _ _ _ _ _ w v _ hr de HF _ _ _ (Oc hz) de h1) ?_
    .simp[uQ]at h;exact h.2.2.symm
    .simp[uQ,dZ,and_assoc]
   .have:=AY s hs hm hF hc hk rfl (.inr (.inl rfl)) (λ_ cb lb w1 hn Ci h=>aQ0 hT hFi h Ci hn rfl rfl rfl (λw' hg=>h2 w' (hT.fm.gb hg)) hz)
    simpa using this
 .refine⟨jO,⟨Kr s hs hc np nq hS de Pm hl,λw mb hT hm _ hF=>?_,de⟩⟩;have:=AY s hs hm hF hc hk rfl (.inr (.inl rfl)) (A:=jO) (bF:=true) (ps':=[]) (λh=>bG h om)
  simpa using this
def Vf{TD:ak->Prop}(s:aJ)(hs:s.size<=100000)(hc:gW 32 s=p0::qs)(np:p0≠tx [112,111,108,121])(nq:p0≠tx [115,97,109,112,108,101])(ni:p0≠tx [105,110,116])(Dt:RJ)(hS:shapeOf (ig jw p0)=tx [102,119,119])(hk:jC.find? (λk=>p0==k.1)=some (p1,.inl (fnv Fi,3,89)))(hFi:Fi=34\/Fi=39\/Fi=40)(HO:∀f a c:Int,0<=a->aI a->0<=c->aI c->TG Fs (#[J f,Y a,Y c]++ex) Fi #[J f,Y a,Y c])(HSc:∀f t m k W,ScH p0 f t m k 2 W Fs (#[J f,Y (W 0),Y (W 1)]++ex)):∃A,Ans TD s A:=by
 have Pm:mX (tx [102,119,119]) 1:=BF (F:=1) de de de;by_cases hl:qs.length=3
 .match qs,hl with
  |[q0,q1,q2],_=>
   obtain⟨z,fl,hz,h1,h2⟩:=HO (ig dK q0) (oJ q1) (oJ q2) (je _).1 (je _).2 (je _).1 (je _).2;refine⟨if(((false|| !decide (0<=ig dK q0))|| !okW (ig dK q0) q1)|| !okW (ig dK q0) q2)=false then xP z.toNat fl else jO,⟨?_,λw mb hT hm _ hF=>?_,oU (vM hz)⟩⟩
   .refine OU s hs hc np nq ni Dt hS de Pm (N:=2) rfl de (f:=ig dK q0) (t:=-1) (m:=0) (k:=0) (λr h=>?_) (λw v hr HF=>HSc _ _ _ _ _ w v _ hr de HF _ _ _ (Oc hz) de h1) ?_
    .simp[uQ]at h;exact h.2.symm
    .simp[uQ,dZ,and_assoc]
   .have:=AY s hs hm hF hc hk rfl (.inr (.inr (.inl rfl))) (λ_ cb lb w1 hn Ci h=>aSB hT hFi h Ci hn rfl rfl rfl (λw' hg=>h2 w' (hT.fm.gb hg)) hz)
    simpa using this
 .refine⟨jO,⟨Kr s hs hc np nq hS de Pm hl,λw mb hT hm _ hF=>?_,de⟩⟩;have:=AY s hs hm hF hc hk rfl (.inr (.inr (.inl rfl))) (A:=jO) (bF:=true) (ps':=[]) (λh=>bG h om)
  simpa using this
def aHS{TD:ak->Prop}(s:aJ)(hs:s.size<=100000)(hc:gW 32 s=p0::qs)(np:p0≠tx [112,111,108,121])(nq:p0≠tx [115,97,109,112,108,101])(ni:p0≠tx [105,110,116])(Dt:RJ)(hS:shapeOf (ig jw p0)=tx [102,109,119,119,119])(hk:jC.find? (λk=>p0==k.1)=some (p1,.inr (.agg #[J 5,fnv 29])))(HO:∀f m a c d:Int,0<=a->aI a->0<=c->aI c->0<=d->aI d->TG 65 #[J f,J m,Y a,Y c,Y d] 85 #[J f,J m,Y a,Y c,Y d])(HSc:∀f t m k W,ScH p0 f t m k 3 W 65 #[J f,J m,Y (W 0),Y (W 1),Y (W 2)]):∃A,Ans TD s A:=by
 have Pm:mX (tx [102,109,119,119,119]) 2:=BF (F:=2) de de de;by_cases hl:qs.length=5
 .match qs,hl with
  |[q0,q1,q2,q3,q4],_=>
   obtain⟨z,fl,hz,h1,h2⟩:=HO (ig dK q0) (ig gB q1) (oJ q2) (oJ q3) (oJ q4) (je _).1 (je _).2 (je _).1 (je _).2 (je _).1 (je _).2;refine⟨if(((((false|| !decide (0<=ig dK q0))|| !decide (0<=ig gB q1))|| !okW (ig dK q0) q2)|| !okW (ig dK q0) q3)|| !okW (ig dK q0) q4)=false then xP z.toNat fl else jO,⟨?_,λw mb hT hm _ hF=>?_,oU (vM hz)⟩⟩
   .refine OU s hs hc np nq ni Dt hS de Pm (N:=3) rfl de (f:=ig dK q0) (t:=-1) (m:=ig gB q1) (k:=0) (λr h=>?_) (λw v hr HF=>HSc _ _ _ _ _ w v _ hr de HF _ _ _ (Oc hz) de h1) ?_
    .simp[uQ]at h;exact h.2.2.symm
    .simp[uQ,dZ,and_assoc]
   .have:=uo s hs hm hF hc hk (.inl rfl) (λ_ lb w1 h=>aRV hT h rfl rfl rfl rfl rfl (λw' hg=>h2 w' (hT.fm.gb hg)) hz)
    simpa using this
 .refine⟨jO,⟨Kr s hs hc np nq hS de Pm hl,λw mb hT hm _ hF=>?_,de⟩⟩;have:=uo s hs hm hF hc hk (.inl rfl) (A:=jO) (bF:=true) (ps':=[]) (λh=>bG h om)
  simpa using this
def aKP{TD:ak->Prop}(s:aJ)(hs:s.size<=100000)(hc:gW 32 s=p0::qs)(np:p0≠tx [112,111,108,121])(nq:p0≠tx [115,97,109,112,108,101])(ni:p0≠tx [105,110,116])(Dt:RJ)(hS:shapeOf (ig jw p0)=tx [102,109,107,119])(hk:jC.find? (λk=>p0==k.1)=some (p1,.inr (.agg #[J 4,fnv 36])))(HO:∀f m k a:Int,0<=a->aI a->TG 69 #[J f,J m,J k,Y a] 94 #[J f,J m,J k,Y a])(HSc:∀f t m k W,ScH p0 f t m k 1 W 69 #[J f,J m,J k,Y (W 0)]):∃A,Ans TD s A:=by
 have Pm:mX (tx [102,109,107,119]) 3:=BF (F:=3) de de de;by_cases hl:qs.length=4
 .match qs,hl with
  |[q0,q1,q2,q3],_=>
   obtain⟨z,fl,hz,h1,h2⟩:=HO (ig dK q0) (ig gB q1) (ig jh q2) (oJ q3) (je _).1 (je _).2;refine⟨if((((false|| !decide (0<=ig dK q0))|| !decide (0<=ig gB q1))|| !decide (0<=ig jh q2))|| !okW (ig dK q0) q3)=false then xP z.toNat fl else jO,⟨?_,λw mb hT hm _ hF=>?_,oU (vM hz)⟩⟩
   .refine OU s hs hc np nq ni Dt hS de Pm (N:=1) rfl de (f:=ig dK q0) (t:=-1) (m:=ig gB q1) (k:=ig jh q2) (λr h=>?_) (λw v hr HF=>HSc _ _ _ _ _ w v _ hr de HF _ _ _ (Oc hz) de h1) ?_
    .simp[uQ]at h;exact h.2.2.2.symm
    .simp[uQ,dZ,and_assoc]
   .have:=uo s hs hm hF hc hk (.inr (.inr (.inl rfl))) (λ_ lb w1 h=>aSC hT h rfl rfl rfl rfl (λw' hg=>h2 w' (hT.fm.gb hg)) hz)
    simpa using this
 .refine⟨jO,⟨Kr s hs hc np nq hS de Pm hl,λw mb hT hm _ hF=>?_,de⟩⟩;have:=uo s hs hm hF hc hk (.inr (.inr (.inl rfl))) (A:=jO) (bF:=true) (ps':=[]) (λh=>bG h om)
  simpa using this
def aES{TD:ak->Prop}(s:aJ)(hs:s.size<=100000)(hc:gW 32 s=p0::qs)(np:p0≠tx [112,111,108,121])(nq:p0≠tx [115,97,109,112,108,101])(ni:p0≠tx [105,110,116])(Dt:RJ)(hS:shapeOf (ig jw p0)=tx [102,102,109,119])(hk:jC.find? (λk=>p0==k.1)=some (p1,.inr (.agg #[J 4,fnv 37])))(HO:∀f t m a:Int,0<=a->aI a->TG 70 #[J f,J t,J m,Y a] 95 #[J f,J t,J m,Y a])(HSc:∀f t m k W,ScH p0 f t m k 1 W 70 #[J f,J t,J m,Y (W 0)]):∃A,Ans TD s A:=by
 have Pm:mX (tx [102,102,109,119]) 3:=BF (F:=3) de de de;by_cases hl:qs.length=4
 .match qs,hl with
  |[q0,q1,q2,q3],_=>
   obtain⟨z,fl,hz,h1,h2⟩:=HO (ig dK q0) (ig dK q1) (ig gB q2) (oJ q3) (je _).1 (je _).2;refine⟨if((((false|| !decide (0<=ig dK q0))|| !decide (0<=ig dK q1))|| !decide (0<=ig gB q2))|| !okW (ig dK q0) q3)=false then xP z.toNat fl else jO,⟨?_,λw mb hT hm _ hF=>?_,oU (vM hz)⟩⟩
   .refine OU s hs hc np nq ni Dt hS de Pm (N:=1) rfl de (f:=ig dK q0) (t:=ig dK q1) (m:=ig gB q2) (k:=0) (λr h=>?_) (λw v hr HF=>HSc _ _ _ _ _ w v _ hr de HF _ _ _ (Oc hz) de h1) ?_
    .simp[uQ]at h;obtain⟨x0,x1,h⟩:=h;rw[aH (by omega)]at h;simp at h;exact h.2.symm
    .simp[uQ,dZ,and_assoc];intro x0 x1 x2;rw[aH (by omega)];simp
   .have:=uo s hs hm hF hc hk (.inr (.inr (.inr (.inl rfl)))) (λ_ lb w1 h=>aPq hT h rfl rfl rfl rfl (λw' hg=>h2 w' (hT.fm.gb hg)) hz)
    simpa using this
 .refine⟨jO,⟨Kr s hs hc np nq hS de Pm hl,λw mb hT hm _ hF=>?_,de⟩⟩;have:=uo s hs hm hF hc hk (.inr (.inr (.inr (.inl rfl)))) (A:=jO) (bF:=true) (ps':=[]) (λh=>bG h om)
  simpa using this
def Yn{TD:ak->Prop}(s:aJ)(hs:s.size<=100000)(hc:gW 32 s=p0::qs)(np:p0≠tx [112,111,108,121])(nq:p0≠tx [115,97,109,112,108,101])(ni:p0≠tx [105,110,116])(Dt:RJ)(hS:shapeOf (ig jw p0)=tx [102,119,119])(hk:jC.find? (λk=>p0==k.1)=some (p1,.inl (.bool sg,3,99)))
  (HO:∀f a c:Int,0<=a->aI a->0<=c->aI c->∃r fl,Ins [r,fl]/\KB 74 #[J f,Y a,Y c,.bool sg] (.tuple #[J r,J fl])/\∀w,Fm w->QR 101 #[J f,Y a,Y c,.bool sg] w (.tuple #[J r,J fl]))
  (HSc:∀(f t m k:Int) (W:Nat->Int) w v n,Rd w .u64 v n n W->0<n->aNH f n W->2<=n->∀r fl,Ins [r,fl]->KB 74 #[J f,Y (W 0),Y (W 1),.bool sg] (.tuple #[J r,J fl])->oV p0 f t m k v w (numsL [r,fl])):∃A,Ans TD s A:=by
 have Pm:mX (tx [102,119,119]) 1:=BF (F:=1) de de de;by_cases hl:qs.length=3
 .match qs,hl with
  |[q0,q1,q2],_=>
   obtain⟨r,fl,hz,h1,h2⟩:=HO (ig dK q0) (oJ q1) (oJ q2) (je _).1 (je _).2 (je _).1 (je _).2;have z1:=iU r (hz r (by simp)).1 (hz r (by simp)).2;have z2:=iU fl (hz fl (by simp)).1 (hz fl (by simp)).2;refine⟨if(((false|| !decide (0<=ig dK q0))|| !okW (ig dK q0) q1)|| !okW (ig dK q0) q2)=false then numsL [r,fl]else jO,⟨?_,λw mb hT hm _ hF=>?_,oU ?_⟩⟩
   .refine OU s hs hc np nq ni Dt hS de Pm (N:=2) rfl de (f:=ig dK q0) (t:=-1) (m:=0) (k:=0) (λr h=>?_) (λw v hr HF=>HSc _ _ _ _ _ w v _ hr de HF de _ _ hz h1) ?_
    .simp[uQ]at h;exact h.2.symm
    .simp[uQ,dZ,and_assoc]
   .have:=AY s hs hm hF hc hk rfl (.inr (.inr (.inr rfl))) (λ_ cb lb w1 hn Ci h=>aKl hT h Ci hn rfl rfl rfl (λw' hg=>h2 w' (hT.fm.gb hg)) hz)
    simpa using this
   .rw[aHv,ByteArray.size_append,ByteArray.size_append,dZ,dZ,dZ];simp only[List.length_cons,List.length_nil];omega
 .refine⟨jO,⟨Kr s hs hc np nq hS de Pm hl,λw mb hT hm _ hF=>?_,de⟩⟩;have:=AY s hs hm hF hc hk rfl (.inr (.inr (.inr rfl))) (A:=jO) (bF:=true) (ps':=[]) (λh=>bG h om)
  simpa using this
abbrev aSs(q:Int->Int->Bool):Prop:=∀a:Int,0<=a->aI a->FwI a (q a)/\∀k,0<=k->k<=3->Hid (∀w,CT 58 #[J k,Y a] w λe w'=>∃s b kk c,e=.returned (.tuple #[.agg #[J s,aF b kk c,J 0,.bool false],.bool (q a k)])/\Gb w w')
def aHR{TD:ak->Prop}(s:aJ)(hs:s.size<=100000)(hc:gW 32 s=tx [105,110,116]::qs)(hk:jC.find? (λk=>tx [105,110,116]==k.1)=some (p1,.inr (.agg #[J 4,fnv 35]))){q:Int->Int->Bool}(HI:aSs q)
  (HO:∀f m k a:Int,0<=a->aI a->TG 60 #[J f,J m,J k,Y a] 92 #[J f,J m,J k,Y a]):∃A,Ans TD s A:=by
 have np:tx [105,110,116]≠tx [112,111,108,121]:=de;have nq:tx [105,110,116]≠tx [115,97,109,112,108,101]:=de;have hS:shapeOf (ig jw (tx [105,110,116]))=tx [102,109,107,119]:=de;have Pm:mX (tx [102,109,107,119]) 3:=BF (F:=3) de de de;by_cases hl:qs.length=4
 .match qs,hl with
  |[q0,q1,q2,q3],_=>
   obtain⟨z,fl,hz,h1,h2⟩:=HO (ig dK q0) (ig gB q1) (ig jh q2) (oJ q3) (je _).1 (je _).2;obtain⟨hq,h5⟩:=HI (oJ q3) (je _).1 (je _).2;have k3:ig jh q2<4:=(aHh jh q2).2;refine⟨if(((((false|| !decide (0<=ig dK q0))|| !decide (0<=ig gB q1))|| !decide (0<=ig jh q2))|| !(aV 16 q3).isSome)|| !okI (ig jh q2) (q (oJ q3)))=false then xP z.toNat fl else jO,⟨?_,λw mb hT hm _ hF=>?_,oU (vM hz)⟩⟩
   .refine aCD s hs hc np nq hS de Pm (λh=>aH λc=>?_) (λw f t m k v _ h3 h4 h6=>?_)
    .simp at c;rcases h with h|h
     .exact bG h de
     .exact h ⟨rfl,by simp[uQ];omega,λj j3 j4=>by
       obtain rfl:j=3:=by simp at j4;omega
       simpa[Option.isSome_iff_ne_none]using c.1.2⟩
    .simp[uQ]at h4;obtain⟨c0,c1,c2,rfl,rfl,rfl,rfl⟩:=h4;have hr:=aGy (ig dK q0) (-1) (ig gB q1) (ig jh q2) h6 (show 0<1 by decide) (Oc hz) (q (oJ q3) (ig jh q2)) (h5 _ c2 om) h1;have hn:(aV 16 q3).isSome =true:=by have:=h3.2.2 3 (dJ _) (show 3<4 by decide);simpa[Option.isSome_iff_ne_none]using this
     have e:okI (ig jh q2) (q (oJ q3))=q (oJ q3) (ig jh q2):=by unfold okI;simp;omega
     simpa[c0,c1,c2,hn,e]using hr
   .have:=uo s hs hm hF hc hk (.inr (.inl rfl)) (λ_ lb w1 h=>aPb hT h rfl rfl rfl rfl hq (λw' hg=>h2 w' (hT.fm.gb hg)) hz)
    simpa using this
 .refine⟨jO,⟨Kr s hs hc np nq hS de Pm hl,λw mb hT hm _ hF=>?_,de⟩⟩;have:=uo s hs hm hF hc hk (.inr (.inl rfl)) (A:=jO) (bF:=true) (ps':=[]) (λh=>bG h om)
  simpa using this
def CQ(c:UInt8):∀(l p:List UInt8),p ∈ sG c l->p.length<=l.length
 |[],p,h=>by simp[sG]at h;simp[h]
 |b::l,p,h=>by
  unfold sG at h;split at h
  .rcases List.mem_cons.1 h with rfl|h
   .simp
   .have:=CQ c l p h;simp;omega
  .obtain⟨x,y,e⟩:∃x y,sG c l=x::y:=by cases e:sG c l with
    |nil=>exact bG e (F8 c l)
    |cons x y=>exact⟨x,y,rfl⟩
   rw[e]at h;rcases List.mem_cons.1 h with rfl|h
   .have:=CQ c l x (by rw[e];exact List.mem_cons_self);simp[List.head!];omega
   .have:=CQ c l p (by rw[e];exact List.mem_cons_of_mem _ h);simp;omega
def F6{c:UInt8}{p:aJ}(h:p ∈ gW c s):p.size<=s.size:=by
 obtain⟨l,hl,rfl⟩:=List.mem_map.1 h;have:=CQ c _ l hl
 rwa [dZ,<-dN]
def aCT:∀l:List UInt8,(V6 l).length <=l.length
 |[]=>dJ _
 |[_]=>fV _
 |a::b::l=>by have:=aCT l;rw[V6];simp;omega
def aHQ{TD:ak->Prop}(hTD:∀w w',Gb w w'->TD w->TD w')(s:aJ)(hs:s.size<=100000)(hc:gW 32 s=tx [115,97,109,112,108,101]::qs)(hk:jC.find? (λk=>tx [115,97,109,112,108,101]==k.1)=some (p1,.inr (.agg #[J 4,fnv 43])))
  (HO:∀(a b c:Int) (t:aJ),0<=a->aI a->0<=b->aI b->0<=c->aI c->t.size<=1048576->∃s0 s1 s2 s3,Ins [s0,s1,s2,s3]/\KB 56 #[Y a,Y b,Y c,.string t] (.agg #[J s0,J s1,J s2,J s3])/\∀w,Fm w->TD w->QB 105 #[Y a,Y b,Y c,.string t] w (.agg #[J s0,J s1,J s2,J s3])):∃A,Ans TD s A:=by
 have e0:prt s 0=tx [115,97,109,112,108,101]:=by unfold prt;rw[hc];rfl
 have e1':(λj=>prt s (1+j))=λj=>qs.getD j default:=funext λj=>by unfold prt;rw[hc,Nat.add_comm];rfl
 have e2:xR s-1=qs.length:=by unfold xR;rw[hc];rfl
 have hq:∀q,q ∈ qs->q.size<=1048576:=λq h=>yI (F6 (c:=32) (by rw[hc];exact List.mem_cons_of_mem _ h)) om;have hg:∀j,j<qs.length->(qs.getD j default).size <=1048576:=λj hj=>by rw[qF,Dj hj];exact hq _ (List.getElem_mem hj)
 have hn:=UZ s;by_cases hl:qs.length=4
 .match qs,hl with
  |[q0,q1,q2,q3],_=>
   have h3:q3.size<=1048576:=hq q3 (by simp);obtain⟨s0,s1,s2,s3,hi,h1,h2⟩:=HO (oJ q0) (oJ q1) (oJ q2) (tx (V6 q3.data.toList)) (je _).1 (je _).2 (je _).1 (je _).2 (je _).1 (je _).2 (by rw[dZ];have:=aCT q3.data.toList;rw[dN]at this;omega);have i0:=hi s0 (by simp);have i1:=hi s1 (by simp);have i2:=hi s2 (by simp);have i3:=hi s3 (by simp);have z0:=iU s0 i0.1 i0.2;have z1:=iU s1 i1.1 i1.2;have z2:=iU s2 i2.1 i2.2;have z3:=iU s3 i3.1 i3.2;have hb:((((false|| !okW 1 q0)|| !okW 1 q1)|| !okW 1 q2)|| !okD q3)=false↔aJg 4 (λj=>[q0,q1,q2,q3].getD j default):=by
    have hw:∀q,okW 1 q=true↔aV 16 q≠none:=λq=>by rw[MC];simp[PG]
    have hd:okD q3=true↔q3.size%2=0/\0<q3.size/\wQ q3.data.toList≠none:=by
     unfold okD;rw[aBG];cases Iz q3.data.toList<;>simp[and_comm]
    simp only[Bool.or_eq_false_iff,Bool.not_eq_false',true_and];rw[hw,hw,hw,hd];unfold aJg;constructor
    .rintro⟨⟨⟨a0,a1⟩,a2⟩,a3⟩;refine⟨rfl,λj hj=>?_,a3⟩
     match j,hj with
     |0,_=>exact a0
     |1,_=>exact a1
     |2,_=>exact a2
    .rintro⟨_,a,a3⟩;exact⟨⟨⟨a 0 de,a 1 de⟩,a 2 de⟩,a3⟩
   refine⟨if((((false|| !okW 1 q0)|| !okW 1 q1)|| !okW 1 q2)|| !okD q3)=false then numsL [s0,s1,s2,s3]else jO,⟨Ku s hs e0 (λw v hr=>?_),λw mb hT hm hD hF=>?_,oU ?_⟩⟩
   .rw[e1',e2]at hr;by_cases c:((((false|| !okW 1 q0)|| !okW 1 q1)|| !okW 1 q2)|| !okD q3)=false
    .rw[aQ c,aHu];obtain⟨_,a,a1,a2,a3⟩:=hb.1 c;refine aAu hr h3 (λj=>oJ ([q0,q1,q2,q3].getD j default)) (λj hj=>?_) (V6 q3.data.toList) ⟨a1,a2⟩ ?_ i0 i1 i2 i3 h1
     .have:=a j hj;unfold oJ;cases e:aV 16 ([q0,q1,q2,q3].getD j default)with
      |none=>exact bG e this
      |some x=>rfl
     .have e:=aBG q3.data.toList;cases d:Iz q3.data.toList with
      |false=>rw[d]at e;exact bG e a3
      |true=>rw[d]at e;exact e
    .rw[aH c];exact RZ hr (show 4<=1000000 by decide) hg λh=>c (hb.2 h)
   .have:=uo s hs hm hF hc hk (.inr (.inr (.inr (.inr (.inr rfl))))) (λ_ lb w1 h=>aGD hT h rfl rfl rfl h3 (λw' hg=>h2 w' (hT.fm.gb hg) (hTD _ _ hg hD)) hi)
    simpa using this
   .rw[aHu]
    repeat rw[ByteArray.size_append]
    repeat rw[dZ]
    simp only[List.length_cons,List.length_nil];omega
 .refine⟨jO,⟨Ku s hs e0 (λw v hr=>?_),λw mb hT hm _ hF=>?_,de⟩⟩
  .rw[e1',e2]at hr;exact RZ hr om hg λh=>hl h.1
  .have:=uo s hs hm hF hc hk (.inr (.inr (.inr (.inr (.inr rfl))))) (A:=jO) (bF:=true) (ps':=[]) (λh=>bG h om)
   simpa using this
def CJ{P:Nat->Bool}:∀{n:Nat},(¬∀j,j<n->P j=true)->∃m,m<n/\P m=false/\∀j,j<m->P j=true
 |0,h=>bG (λj hj=>bG hj (Nat.not_lt_zero _)) h
 |n+1,h=>by
  by_cases c:∀j,j<n->P j=true
  .refine⟨n,Nat.lt_succ_self _,?_,c⟩;cases e:P n with
   |false=>rfl
   |true=>exact bG (λj hj=>by
     rcases Nat.lt_succ_iff_lt_or_eq.1 hj with d|rfl
     .exact c j d
     .exact e) h
  .obtain⟨m,h1,h2,h3⟩:=CJ c;exact⟨m,om,h2,h3⟩
def aOH(h0:-9999<=x)(h1:x<=9999):(Lib.itoa x).length <=5:=by
 unfold Lib.itoa;split
 .have:=CP 3 x.natAbs om;simp;omega
 .have:=CP 3 x.toNat om;omega
def aOs(h:uS s=true)(h0:-9999<=qh s)(h1:qh s<=9999):okS s=true:=by
 refine(UR s).2 ⟨?_,_,(X7 s).1 h⟩;rw[(X7 s).1 h,dZ];exact aOH h0 h1
def aHr(h:okS s=true):uS s=true:=by unfold okS at h;rw[Bool.and_eq_true]at h;exact h.2
def UU:∀ps:List aJ,okN ps=true↔∀j,j<ps.length->uS (ps.getD j default)=true
 |[]=>⟨λ_ j hj=>bG hj (Nat.not_lt_zero _),λ_=>rfl⟩
 |p::l=>by
  have ih:=UU l;rw[okN,Bool.and_eq_true,ih];constructor
  .rintro⟨h1,h2⟩ j hj;cases j with
   |zero=>exact h1
   |succ j=>exact h2 j (Nat.lt_of_succ_lt_succ hj)
  .exact λh=>⟨h 0 (Nat.succ_pos _),λj hj=>h (j+1) (Nat.succ_lt_succ hj)⟩
abbrev MkP(F:Nat)(k:Int)(vf vg:Value)(w:ak)(b:Bool)(n:Nat)(f:Nat->Int):Prop:=Calls prog F #[J k,vf,vg] w λe w'=>∃v,e=.returned (.tuple #[v,.bool b])/\Ow w' w.heap.size 3 1 .i64 v n f/\Gb w w'
abbrev aLE(k:Int)(L M:Nat)(f g:Nat->Int):Prop:=1<=k/\k<=6/\(L=2^k.toNat/\∀i,i<L->Wh (f i))/\(M=2^k.toNat/\∀i,i<M->Wh (g i))
structure aPR:Prop where
 y:∀(k:Int) (L M:Nat) (f g:Nat->Int),aLE k L M f g->∃G:Nat->Int,(∀j,-9223372036854775808<=G j/\G j<=9223372036854775807)/\(∀w v1 v2,jd w v1 L f->jd w v2 M g->MkP 53 k v1 v2 w true (2^k.toNat) G)/\∀w v1 v2,Fm w->jd w v1 L f->jd w v2 M g->MkP 103 k v1 v2 w true (2^k.toNat) G
 n:∀(k:Int) (L M:Nat) (f g:Nat->Int),¬aLE k L M f g->L<=2000000->M<=2000000->(∀w v1 v2,jd w v1 L f->jd w v2 M g->MkP 53 k v1 v2 w false 0 (λ_=>0))/\∀w v1 v2,Fm w->jd w v1 L f->jd w v2 M g->MkP 103 k v1 v2 w false 0 (λ_=>0)
 z:∀k:Int,1<=k->k<=6->KW 46 #[J k] (J ((2^k.toNat:Nat):Int))
def aOj(h1:1<=k)(h6:k<=6):1<=2^k.toNat/\2^k.toNat<=64:=⟨iQ de,pU (n:=2) de (om:k.toNat<=6)⟩
def aER{TD:ak->Prop}(s:aJ)(hs:s.size<=100000)(hc:gW 32 s=tx [112,111,108,121]::qs)(hk:jC.find? (λk=>tx [112,111,108,121]==k.1)=some (p1,.inr (.agg #[J 0,fnv 42])))(HP:aPR):∃A,Ans TD s A:=by
 have e0:prt s 0=tx [112,111,108,121]:=by unfold prt;rw[hc];rfl
 have e1':(λj=>prt s (1+j))=λj=>qs.getD j default:=funext λj=>by unfold prt;rw[hc,Nat.add_comm];rfl
 have e2:xR s-1=qs.length:=by unfold xR;rw[hc];rfl
 have hq:∀q,q ∈ qs->q.size<=1048576:=λq h=>yI (F6 (c:=32) (by rw[hc];exact List.mem_cons_of_mem _ h)) om;have hg:∀j,j<qs.length->(qs.getD j default).size <=1048576:=λj hj=>by rw[qF,Dj hj];exact hq _ (List.getElem_mem hj)
 have Ip:=UZ s;have hn:qs.length<=1000000:=om;have hpl:∀{A:aJ},(∀w v,pq w v qs.length (λj=>qs.getD j default)->QB 19 #[v] w (.string A))->∀w,QB 10 #[.string s] w (.string A):=λh=>aEw s hs e0 (λw v hr=>h w v (by rw[e1',e2]at hr;exact hr));cases qs with
 |nil=>
  refine⟨jO,⟨hpl λw v hr=>E_ hr hn hg (λj hj=>bG hj (Nat.not_lt_zero _)) (K:=qh default) (N:=0) rfl de de (.inl rfl),λw mb hT hm _ hF=>?_,de⟩⟩;have Cc:¬aLE (qh (tx [])) 0 0 (LH []) (λj=>LH [] (0+j)):=λh=>by have:=(aOj h.1 h.2.1).1;have:=h.2.2.1.1;omega
  have:=uo s hs hm hF hc hk (.inr (.inr (.inr (.inr (.inl rfl))))) (λ_ lb w1 h=>aHg hT h (λp h=>bG h List.not_mem_nil) de (λw' v1 v2 dY r1 r2=>(HP.n _ _ _ _ _ Cc de de).2 w' v1 v2 (hT.fm.gb dY) r1 r2) de (λj hj=>bG hj (Nat.not_lt_zero _)))
  simpa using this
 |cons q0 rs=>
  have o_:rs.length<=999999:=by simp at hn;omega
  obtain⟨K,hK⟩:=dP (qh q0);obtain⟨h,hh⟩:=dP (rs.length/2);obtain⟨M,hM⟩:=dP (rs.length-h);have ef:∀j,qh ((q0::rs).getD (1+j) default)=LH rs j:=λj=>by unfold LH;rw[Nat.add_comm];rfl
  have eg:∀j,qh ((q0::rs).getD (1+h+j) default)=LH rs (h+j):=λj=>by unfold LH;rw[(om:1+h+j=(h+j)+1)];rfl
  have hP:∀{ok:Bool} {N:Nat} {G:Nat->Int},(∀w v1 v2,Fm w->jd w v1 h (LH rs)->jd w v2 M (λj=>LH rs (h+j))->MkP 103 K v1 v2 w ok N G)->N<=1000->(∀j,j<N->-9223372036854775808<=G j/\G j<=9223372036854775807)->∀w mb,Tb w->Ml w->RH w mb jC->Aw w mb s (if(((false|| !uS q0)|| !okN rs)|| !ok)=false then nH N G else jO):=λHA hN hG w mb hT hm hF=>by
   have:=uo s hs hm hF hc hk (.inr (.inr (.inr (.inr (.inl rfl))))) (λ_ lb w1 hl=>aHg hT hl hq (om:rs.length<=1000000) (λw' v1 v2 dY r1 r2=>by
    rw[show((q0::rs).tail.length /2)=h from hh]at r1 r2;rw[show(q0::rs).tail.length -h=M from hM]at r2;rw[show qh ((q0::rs).headD (tx []))=K from hK];exact HA w' v1 v2 (hT.fm.gb dY) r1 r2) hN hG)
   simpa using this
  by_cases uF:aLE K h M (LH rs) (λj=>LH rs (h+j))
  .obtain⟨G,hG,hS,hI⟩:=HP.y K h M _ _ uF;obtain⟨k1,k6,⟨hL,hf⟩,hM2,uH⟩:=uF;have h64:=aOj k1 k6;refine⟨if(((false|| !uS q0)|| !okN rs)|| !true)=false then nH (2^K.toNat) G else jO,⟨hpl λw v hr=>?_,λw mb hT hm _ hF=>hP hI om (λj _=>hG j) w mb hT hm hF,oU (yI (Sz _ _ λj _=>hG j) om)⟩⟩;by_cases Cb:∀j,j<(q0::rs).length ->okS ((q0::rs).getD j default)=true
   .rw[aQ]
    .refine aHe hr hn hg Cb (K:=K) (N:=(h:Int)) (M:=(h:Int)+1) (h:=h) hK (by rw[hL];exact HP.z K k1 k6) rfl rfl om om om om jA (λj _=>hG j) (λw' v1 v2 r1 r2=>?_)|>.mono ?_
     .rw[show(λj=>qh ((q0::rs).getD (1+j) default))=LH rs from funext ef]at r1;rw[show(λj=>qh ((q0::rs).getD (1+h+j) default))=λj=>LH rs (h+j) from funext eg]at r2;have:=hS w' v1 v2 r1 (by rw[(om:M=h)];exact r2)
      rwa [<-hL]at this
     .rw[hL];exact λ_ _ h=>h
    .have a0:=aHr (Cb 0 (Nat.succ_pos _));have a1:okN rs=true:=(UU rs).2 λj hj=>aHr (Cb (j+1) (Nat.succ_lt_succ hj));rw[a1,show uS q0=true from a0];rfl
   .obtain⟨m,m1,m2,m3⟩:=CJ (P:=λj=>okS ((q0::rs).getD j default)) Cb;rw[aH]
    .exact XL hr hn hg m m1 m3 m2
    .intro c;simp at c;have hx:uS ((q0::rs).getD m default)=true/\-9999<=qh ((q0::rs).getD m default)/\qh ((q0::rs).getD m default)<=9999:=by
      cases m with
      |zero=>exact⟨c.1,by show _<=qh q0;omega,by show qh q0<=_;omega⟩
      |succ m=>
       have m1':m<rs.length:=Nat.lt_of_succ_lt_succ m1;refine⟨(UU rs).1 c.2 m m1',?_⟩;have e:qh ((q0::rs).getD (m+1) default)=LH rs m:=by rw[Nat.add_comm];exact ef m
       rw[e];by_cases d:m<h
       .have:=hf m d;unfold Wh at this;omega
       .have:=uH (m-h) (by omega);dsimp only at this;rw[(om:h+(m-h)=m)]at this;unfold Wh at this;omega
     have:=aOs hx.1 hx.2.1 hx.2.2;rw[m2]at this;cases this
  .have Cc:=HP.n K h M _ _ uF om om;refine⟨jO,⟨hpl λw v hr=>?_,λw mb hT hm _ hF=>?_,de⟩⟩
   .by_cases Cb:∀j,j<(q0::rs).length ->okS ((q0::rs).getD j default)=true
    .by_cases k1:K<1
     .exact E_ hr hn hg Cb hK (N:=0) de de (.inr (.inl ⟨Nat.succ_pos _,k1⟩))
     by_cases k6:6<K
     .exact E_ hr hn hg Cb hK (N:=0) de de (.inr (.inr (.inl ⟨Nat.succ_pos _,k1,k6⟩)))
     have h64:=aOj (k:=K) om om;by_cases hN:(q0::rs).length =2*2^K.toNat+1
     .simp at hN;have hh2:h=2^K.toNat:=om;refine aHf hr hn hg Cb (K:=K) (N:=(h:Int)) (M:=(h:Int)+1) (h:=h) hK (by rw[hh2];exact HP.z K om om) rfl rfl om om k1 k6 jA (λw' v1 v2 r1 r2=>?_);rw[show(λj=>qh ((q0::rs).getD (1+j) default))=LH rs from funext ef]at r1;rw[show(λj=>qh ((q0::rs).getD (1+h+j) default))=λj=>LH rs (h+j) from funext eg]at r2;exact(Cc.1 w' v1 v2 r1 (by rw[(om:M=h)];exact r2)).mono λe bf ⟨v,h1,_,h3⟩=>⟨v,h1,h3⟩
     .refine E_ hr hn hg Cb hK (N:=((2^K.toNat:Nat):Int)) om om (.inr (.inr (.inr ⟨Nat.succ_pos _,k1,k6,HP.z K om om,?_⟩)));rw[bne_iff_ne];omega
    .obtain⟨m,m1,m2,m3⟩:=CJ (P:=λj=>okS ((q0::rs).getD j default)) Cb;exact XL hr hn hg m m1 m3 m2
   .have:=hP Cc.2 de (λj hj=>bG hj (Nat.not_lt_zero _)) w mb hT hm hF
    simpa using this
abbrev IX(a:Int):Prop:=0<=a/\a<18446744073709551616
structure aJm (TD:ak->Prop) (q:Int->Int->Bool):Prop where
 td:∀w w',Gb w w'->TD w->TD w'
 fit:RJ
 add:∀f m a c:Int,IX a->IX c->TG 62 #[J f,J m,Y a,Y c] 26 #[J f,J m,Y a,Y c]
 sub:∀f m a c:Int,IX a->IX c->TG 63 #[J f,J m,Y a,Y c] 27 #[J f,J m,Y a,Y c]
 mul:∀f m a c:Int,IX a->IX c->TG 64 #[J f,J m,Y a,Y c] 28 #[J f,J m,Y a,Y c]
 div:∀f m a c:Int,IX a->IX c->TG 66 #[J f,J m,Y a,Y c] 30 #[J f,J m,Y a,Y c]
 sqrt:∀f m a:Int,IX a->TG 67 #[J f,J m,Y a] 32 #[J f,J m,Y a]
 round:∀f m a:Int,IX a->TG 71 #[J f,J m,Y a,.bool true] 96 #[J f,J m,Y a,.bool true]
 rem:∀f a c:Int,IX a->IX c->TG 68 #[J f,Y a,Y c] 34 #[J f,Y a,Y c]
 min:∀f a c:Int,IX a->IX c->TG 72 #[J f,Y a,Y c] 39 #[J f,Y a,Y c]
 max:∀f a c:Int,IX a->IX c->TG 73 #[J f,Y a,Y c] 40 #[J f,Y a,Y c]
 fma:∀f m a c d:Int,IX a->IX c->IX d->TG 65 #[J f,J m,Y a,Y c,Y d] 85 #[J f,J m,Y a,Y c,Y d]
 aNf:∀f m k a:Int,IX a->TG 69 #[J f,J m,J k,Y a] 94 #[J f,J m,J k,Y a]
 convert:∀f t m a:Int,IX a->TG 70 #[J f,J t,J m,Y a] 95 #[J f,J t,J m,Y a]
 cmp:∀(f a c:Int) (sg:Bool),IX a->IX c->∃r fl,Ins [r,fl]/\KB 74 #[J f,Y a,Y c,.bool sg] (.tuple #[J r,J fl])/\∀w,Fm w->QR 101 #[J f,Y a,Y c,.bool sg] w (.tuple #[J r,J fl])
 from_:∀f m k a:Int,IX a->TG 60 #[J f,J m,J k,Y a] 92 #[J f,J m,J k,Y a]
 int:aSs q
 smp:∀(a b c:Int) (t:aJ),IX a->IX b->IX c->t.size<=1048576->∃s0 s1 s2 s3,Ins [s0,s1,s2,s3]/\KB 56 #[Y a,Y b,Y c,.string t] (.agg #[J s0,J s1,J s2,J s3])/\∀w,Fm w->TD w->QB 105 #[Y a,Y b,Y c,.string t] w (.agg #[J s0,J s1,J s2,J s3])
 prd:aPR
def aFo{k:Nat}(h:k<jw.length):jw.getD k default ∈ jC.map (·.1):=by
 rw[qF,Dj h,Option.getD_some];exact List.mem_of_mem_take (i:=15) (show jw[k] ∈ (jC.map (·.1)).take 15 from List.getElem_mem h)
def XU:tx (Lib.itoa r)++tx [32]++tx (Lib.itoa fl)=numsL [r,fl]:=(aHv r fl).symm
def aHI{TD:ak->Prop}{q:Int->Int->Bool}(H:aJm TD q)(s:aJ)(hs:s.size<=100000):∃A,Ans TD s A:=by
 obtain⟨p0,qs,hc⟩:∃p0 qs,gW 32 s=p0::qs:=by
  cases e:gW 32 s with
  |nil=>exact bG (List.map_eq_nil_iff.1 e) (F8 32 _)
  |cons x y=>exact⟨x,y,rfl⟩
 by_cases h0:p0=tx [97,100,100]
 .subst h0;exact FD s hs hc de de de H.fit de (p1:=tx [97,100,100]) rfl (ex:=#[]) (.inl rfl) (λf m a c x0 x1 x2 x3=>H.add f m a c ⟨x0,x1⟩ ⟨x2,x3⟩) (λf t m k W w v n hr h0 HF z fl A HR hn HO=>aGB f t m k hr h0 HF HR hn HO)
 by_cases h1:p0=tx [115,117,98]
 .subst h1;exact FD s hs hc de de de H.fit de (p1:=tx [115,117,98]) rfl (ex:=#[]) (.inr (.inl rfl)) (λf m a c x0 x1 x2 x3=>H.sub f m a c ⟨x0,x1⟩ ⟨x2,x3⟩) (λf t m k W w v n hr h0 HF z fl A HR hn HO=>aGt f t m k hr h0 HF HR hn HO)
 by_cases h2:p0=tx [109,117,108]
 .subst h2;exact FD s hs hc de de de H.fit de (p1:=tx [109,117,108]) rfl (ex:=#[]) (.inr (.inr (.inl rfl))) (λf m a c x0 x1 x2 x3=>H.mul f m a c ⟨x0,x1⟩ ⟨x2,x3⟩) (λf t m k W w v n hr h0 HF z fl A HR hn HO=>aGv f t m k hr h0 HF HR hn HO)
 by_cases h3:p0=tx [100,105,118]
 .subst h3;exact FD s hs hc de de de H.fit de (p1:=tx [100,105,118]) rfl (ex:=#[]) (.inr (.inr (.inr rfl))) (λf m a c x0 x1 x2 x3=>H.div f m a c ⟨x0,x1⟩ ⟨x2,x3⟩) (λf t m k W w v n hr h0 HF z fl A HR hn HO=>aGA f t m k hr h0 HF HR hn HO)
 by_cases h4:p0=tx [115,113,114,116]
 .subst h4;exact join_one s hs hc de de de H.fit de (p1:=tx [115,113,114,116]) rfl (ex:=#[]) (.inl rfl) (λf m a x0 x1=>H.sqrt f m a ⟨x0,x1⟩) (λf t m k W w v n hr h0 HF z fl A HR hn HO=>aDs f t m k hr h0 HF HR hn HO)
 by_cases h5:p0=tx [114,111,117,110,100]
 .subst h5;exact join_one s hs hc de de de H.fit de (p1:=tx [114,111,117,110,100]) rfl (ex:=#[.bool true]) (.inr rfl) (λf m a x0 x1=>by obtain⟨z,fl,h1,h2,h3⟩:=H.round f m a ⟨x0,x1⟩;exact⟨z,fl,h1,h2,λw hw=>aK8 (W:=w) (λw' hg=>h3 w' (hw.gb hg)) w (Gb.refl _)⟩) (λf t m k W w v n hr h0 HF z fl A HR hn HO=>aAt f t m k hr h0 HF HR hn HO)
 by_cases h6:p0=tx [114,101,109]
 .subst h6;exact Vf s hs hc de de de H.fit de (p1:=tx [114,101,109]) rfl (ex:=#[]) (.inl rfl) (λf a c x0 x1 x2 x3=>H.rem f a c ⟨x0,x1⟩ ⟨x2,x3⟩) (λf t m k W w v n hr h0 HF z fl A HR hn HO=>aGu f t m k hr h0 HF HR hn HO)
 by_cases h7:p0=tx [109,105,110]
 .subst h7;exact Vf s hs hc de de de H.fit de (p1:=tx [109,105,110]) rfl (ex:=#[]) (.inr (.inl rfl)) (λf a c x0 x1 x2 x3=>H.min f a c ⟨x0,x1⟩ ⟨x2,x3⟩) (λf t m k W w v n hr h0 HF z fl A HR hn HO=>aGw f t m k hr h0 HF HR hn HO)
 by_cases h8:p0=tx [109,97,120]
 .subst h8;exact Vf s hs hc de de de H.fit de (p1:=tx [109,97,120]) rfl (ex:=#[]) (.inr (.inr rfl)) (λf a c x0 x1 x2 x3=>H.max f a c ⟨x0,x1⟩ ⟨x2,x3⟩) (λf t m k W w v n hr h0 HF z fl A HR hn HO=>aGx f t m k hr h0 HF HR hn HO)
 by_cases h9:p0=tx [102,109,97]
 .subst h9;exact aHS s hs hc de de de H.fit de (p1:=tx [102,109,97]) rfl (λf m a c d x0 x1 x2 x3 x4 x5=>H.fma f m a c d ⟨x0,x1⟩ ⟨x2,x3⟩ ⟨x4,x5⟩) (λf t m k W w v n hr h0 HF z fl A HR hn HO=>aGz f t m k hr h0 HF HR hn HO)
 by_cases h10:p0=tx [116,111,105,110,116]
 .subst h10;exact aKP s hs hc de de de H.fit de (p1:=tx [116,111,105,110,116]) rfl (λf m k a x0 x1=>H.aNf f m k a ⟨x0,x1⟩) (λf t m k W w v n hr h0 HF z fl A HR hn HO=>aAs f t m k hr h0 HF HR hn HO)
 by_cases h11:p0=tx [99,111,110,118,101,114,116]
 .subst h11;exact aES s hs hc de de de H.fit de (p1:=tx [99,111,110,118,101,114,116]) rfl (λf t m a x0 x1=>H.convert f t m a ⟨x0,x1⟩) (λf t m k W w v n hr h0 HF z fl A HR hn HO=>Us f t m k hr h0 HF HR hn HO)
 by_cases h12:p0=tx [99,111,109,112,97,114,101]
 .subst h12;exact Yn s hs hc de de de H.fit de (p1:=tx [99,111,109,112,97,114,101]) rfl (λf a c x0 x1 x2 x3=>H.cmp f a c false ⟨x0,x1⟩ ⟨x2,x3⟩) (λf t m k W w v n hr h0 HF hn r fl hi HO=>XU▸Ut f t m k hr h0 HF hn (hi r (by simp)).1 (hi r (by simp)).2 (hi fl (by simp)).1 (hi fl (by simp)).2 HO)
 by_cases h13:p0=tx [115,105,103,110,97,108]
 .subst h13;exact Yn s hs hc de de de H.fit de (p1:=tx [115,105,103,110,97,108]) rfl (λf a c x0 x1 x2 x3=>H.cmp f a c true ⟨x0,x1⟩ ⟨x2,x3⟩) (λf t m k W w v n hr h0 HF hn r fl hi HO=>XU▸Xk f t m k hr h0 HF hn (hi r (by simp)).1 (hi r (by simp)).2 (hi fl (by simp)).1 (hi fl (by simp)).2 HO)
 by_cases hi:p0=tx [105,110,116]
 .subst hi;exact aHR s hs hc (p1:=tx [105,110,116]) rfl H.int (λf m k a x0 x1=>H.from_ f m k a ⟨x0,x1⟩)
 by_cases hq:p0=tx [115,97,109,112,108,101]
 .subst hq;exact aHQ H.td s hs hc (p1:=tx [115,97,109,112,108,101]) rfl (λa b c t x0 x1 x2 x3 x4 x5=>H.smp a b c t ⟨x0,x1⟩ ⟨x2,x3⟩ ⟨x4,x5⟩)
 by_cases hp:p0=tx [112,111,108,121]
 .subst hp;exact aER s hs hc (p1:=tx [112,111,108,121]) rfl H.prd
 have Cc:p0 ∉ jC.map (·.1):=by
  simp[jC];exact⟨h0,h1,h2,h9,h3,h4,h6,hi,h10,h11,h5,h7,h8,h12,h13,hp,hq⟩
 refine⟨jO,⟨aOz s hs hc hp hq ?_,λw mb hT hm _ hF=>aOi s hs hm hF hc ?_,de⟩⟩
 .rcases D6 jw p0 with h|⟨k,h1,h2,h3,_⟩
  .exact h.1
  .exact bG (h3▸aFo h1) Cc
 .rw[List.find?_eq_none];intro x hx e;have:p0=x.1:=ByteArray.ext (eq_of_beq (a:=p0.data) (b:=x.1.data) e);exact Cc (this▸List.mem_map_of_mem hx)
set_option maxRecDepth 1000000
def aHG{p:aJ}(h:p ∈ qE s):p.size<=s.size:=by
 unfold qE at h;split at h
 .exact F6 (List.dropLast_subset _ h)
 .exact F6 h
def Tb.gb(h:Tb w)(hg:Gb w w'):Tb w':=⟨h.fm.gb hg,h.db.gb hg,h.pw.gb hg⟩
abbrev LD(an:aJ->aJ)(s:aJ):aJ:=yF s λj=>an ((qE s).getD j default)
def aCo{TD:ak->Prop}{q:Int->Int->Bool}(H:aJm TD q):∃an:aJ->aJ,(∀p,(an p).size <=5000)/\∀s:aJ,s.size<=1048576->(∀w,QB 5 #[.string s] w (.string (LD an s)))/\∀w,Tb w->Ml w->TD w->QB 6 #[.string s] w (.string (LD an s)):=by
 have hx:∀p:aJ,∃A:aJ,A.size<=5000/\(p.size<=100000->Ans TD p A):=λp=>by
  by_cases h:p.size<=100000
  .obtain⟨A,hA⟩:=aHI H p h;exact⟨A,hA.z,λ_=>hA⟩
  .exact⟨jO,de,λc=>bG c h⟩
 obtain⟨an,ha⟩:∃an:aJ->aJ,∀p,(an p).size <=5000/\(p.size<=100000->Ans TD p (an p)):=⟨λp=>Classical.choose (hx p),λp=>Classical.choose_spec (hx p)⟩;refine⟨an,λp=>(ha p).1,λs hs=>?_⟩;have hb:∀j,j<(qE s).length ->s.size<=100000->Ans TD ((qE s).getD j default) (an ((qE s).getD j default)):=λj h1 h2=>(ha _).2 (by
  rw[qF,Dj h1,Option.getD_some];exact yI (aHG (List.getElem_mem h1)) h2)
 exact⟨λw=>aQj s hs _ (λj=>(ha _).1) (λj h1 h2 w=>(hb j h1 h2).m w) w,λw hT hm hD=>aQk s hs _ (λj=>(ha _).1) hm (λj h1 h2 w' mb hg hF=>(hb j h1 h2).p w' mb (hT.gb hg) (hm.gb hg) (H.td _ _ hg hD) hF)⟩
def aOF{TD:ak->Prop}{q:Int->Int->Bool}(H:aJm TD q)(s:aJ)(w:ak)(hT:Tb w)(hm:Ml w)(hD:TD w):CT 3 #[.string s] w λe w'=>e=.returned (.bool true)/\Below w.heap.size w w':=by
 by_cases hz:s.size<=1048576
 .have Yx:¬(1048576:Int)<s.size:=om;obtain⟨an,_,hR⟩:=aCo H;obtain⟨hS,hI⟩:=hR s hz;generalize LD an s=R at hS hI;have HS:KB 5 #[.string s] (.string R):=hS;have HI:Hid (∀w',Gb w w'->QB 6 #[.string s] w' (.string R)):=λw' hg=>hI w' (hT.gb hg) (hm.gb hg) (H.td _ _ hg hD);clear hS hI hT hm hD H;go_enter func3,ntmps3;go_wp2_with (first|(go_at_call 5;refine ku (HS _) λw1 au=>?_)|(go_at_call 6;refine ku (HI _ kg) λw2 aC=>?_))
  go_returns;exact⟨rfl,(show Gb w w2 from kg)⟩
 .have Yx:(1048576:Int)<s.size:=om;clear H hT hm hD;go_enter func3,ntmps3;go_wp2;go_returns;exact⟨rfl,Below.refl _ _⟩
