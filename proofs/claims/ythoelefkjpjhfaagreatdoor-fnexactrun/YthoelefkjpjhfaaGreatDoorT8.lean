import Derived.Test.YthoelefkjpjhfaaGreatDoorM4
import Derived.Test.YthoelefkjpjhfaaGreatDoorFz
import Derived.Test.YthoelefkjpjhfaaGreatDoorRows
import Derived.LaidMore
import Derived.OpenShut
import Derived.ChangeSame
import Derived.ChangeVars
import Derived.Stop.Joined
import Derived.Deep.Strs
import Derived.Lib.LaidTab
import Derived.Shelf.Vars
set_option linter.all false
open Bool renaming false → J
open Option renaming some → Y
open Go.Proofs.Tryz
namespace Go.Proofs.YthoelefkjpjhfaaGreatDoor
open Go.RowKit
variable {W W' w:ak}{fl aj Z a f b p mn mx one aN aG s e z sg nan c mu inv sc:Int}{g n M base fuel:Nat}{t:TypeId}{cs:Array Value}{k:IntKind}{ex aT2:Bool}
def aN4{b:Bool}(h:bM p mn mx one aN aj s M e b z fl):0<=fl/\fl<=31:=by
 obtain⟨_,_,_,_,_,_,_,_,_,_,h⟩:=h;rcases h with⟨_,_,rfl⟩|⟨_,_,_,rfl⟩|⟨_,_,_,⟨_,rfl⟩|⟨_,_,rfl⟩|⟨_,_,rfl⟩⟩<;>exact⟨de,de⟩
def XO{o:d_}(h:cZ p mn mx one aN sg nan aj o Z fl):0<=fl/\fl<=31:=by
 rcases h with⟨_,_,rfl⟩|⟨_,z,h,_⟩|⟨_,_,rfl⟩|⟨_,_,rfl⟩|⟨_,_,rfl⟩
 .exact⟨de,de⟩
 .exact aN4 h
 all_goals exact⟨de,de⟩
def nG(h:Wd Z)(h':0<=fl/\fl<=31):VU Z fl:=⟨h.1,h.2,om,om⟩
def Ou{R:Int->d_->d_->d_}(h:um R f aj a b Z fl):VU Z fl:=nG h.wd (by
 rcases h with⟨_,_,_,_,_,_,_,_,_,_,_,_,h⟩|⟨_,_,_,_,_,_,_,_,_,rfl⟩|⟨_,_,rfl⟩
 .exact XO h
 all_goals exact⟨de,de⟩)
def UO{R:Int->Int->d_->d_->d_}(h:pz R f aj a b Z fl):VU Z fl:=nG h.wd (by
 rcases h with⟨_,_,_,_,_,_,_,_,_,_,_,_,h|⟨_,_,rfl⟩⟩|⟨_,_,_,_,_,_,_,_,_,rfl⟩|⟨_,_,rfl⟩
 .exact XO h
 all_goals exact⟨de,de⟩)
def aA4:Wd 9221120237041090560:=⟨de,de⟩
def aPd(h:RI f aj a b c Z fl):VU Z fl:=by
 rcases h with⟨_,_,_,_,_,_,_,_,_,hF,_,_,_,_,h⟩|⟨_,_,_,_,_,_,hF,_,rfl,rfl⟩|⟨_,rfl,rfl⟩
 .exact nG (Sl hF h) (XO h)
 .exact nG (D9 hF) ⟨de,de⟩
 .exact nG aA4 ⟨de,de⟩
def aKZ(h:iE f aj aG a Z fl):VU Z fl:=nG h.wd (by
 rcases h with⟨_,_,_,_,_,_,_,_,_,h⟩|⟨_,_,_,_,_,_,_,_,_,rfl⟩|⟨_,_,rfl⟩
 .exact XO h
 all_goals exact⟨de,de⟩)
def aFq(x:d_):0<=KY x/\KY x<=31:=by rcases TU x with h|h<;>rw[h]<;>exact⟨de,de⟩
def aLk{t:Int}(h:wJ f t aj a Z fl):VU Z fl:=by
 rcases h with⟨_,_,_,_,_,_,_,_,_,_,_,_,_,hF,_,_,_,h⟩|⟨_,_,_,_,_,_,hF,_,rfl,rfl⟩|⟨_,rfl,rfl⟩
 .exact nG (Sl hF h) (XO h)
 .exact nG (D9 hF) ⟨de,de⟩
 .exact nG aA4 ⟨de,de⟩
def aJ6(h:nU f aj a ex Z fl):VU Z fl:=by
 rcases h with⟨_,_,_,_,_,_,x,hF,_,_,⟨_,rfl,rfl⟩|⟨_,h,rfl⟩⟩|⟨_,_,_,_,_,_,hF,_,rfl,rfl⟩|⟨_,rfl,rfl⟩
 .exact nG (D9 hF) (by split<;>exact⟨de,de⟩)
 .exact nG (Sl hF h) (by split<;>first|exact aFq x|exact⟨de,de⟩)
 .exact nG (D9 hF) ⟨de,de⟩
 .exact nG aA4 ⟨de,de⟩
def aNm(h:-9223372036854775808<=a/\a<=9223372036854775807)(h':-9223372036854775808<=b/\b<=9223372036854775807):Ins [a,b]:=λx hx=>by
 simp at hx;rcases hx with rfl|rfl
 .exact h
 .exact h'
def aK6:RJ:=λf x x0 x1 w=>by
 by_cases h:f=0/\x<4294967296\/f=1
 .rw[show PG f x=true from h_ h];rcases h with⟨rfl,h⟩|rfl
  .exact gJ (.inl ⟨rfl,rfl,rfl,rfl,rfl,rfl,rfl⟩) x x0 om w
  .exact gJ f64 x x0 om w
 .rw[show PG f x=J from gV h];exact jH f x x0 om w
def wrap_in(n:Int):-9223372036854775808<=wrap64 n/\wrap64 n<=9223372036854775807:=by unfold wrap64;omega
def aNW{o:O7}{s:aJ}{r:Smp}(hz:s.size<=1048576)(h:o.nT mu inv sc s r):Ins [r.st,r.z,r.us,r.tr]:=by
 have hx:(-9223372036854775808<=r.st/\r.st<=9223372036854775807)/\(-9223372036854775808<=r.z/\r.z<=9223372036854775807)/\(-9223372036854775808<=r.us/\r.us<=9223372036854775807)/\(-9223372036854775808<=r.tr/\r.tr<=9223372036854775807):=by
  unfold O7.nT at h;split at h
  .rcases h with⟨k,h1,_,_,rfl⟩|⟨k,h1,h2,_,rfl⟩
   .have:=wrap_in (Wi (lK (num s (17*k) 8)) (iJ s (17*k+8))+wrap64 (o.whole (o.lN mu)));exact⟨by dsimp only;omega,this,by dsimp only;omega,by dsimp only;omega⟩
   .exact⟨by dsimp only;omega,by dsimp only;omega,by dsimp only;omega,by dsimp only;omega⟩
  .subst h;exact⟨by dsimp only;omega,by dsimp only;omega,by dsimp only;omega,by dsimp only;omega⟩
 intro x h;simp at h;rcases h with rfl|rfl|rfl|rfl
 .exact hx.1
 .exact hx.2.1
 .exact hx.2.2.1
 .exact hx.2.2.2
def aJR(o:O7)(mu inv sc:Int)(s:aJ):∃r,o.nT mu inv sc s r:=by
 unfold O7.nT;split
 .by_cases h:∀j,j<s.size/17->(!o.KJ mu inv sc s j)=true
  .exact⟨_,.inr ⟨s.size/17,om,om,λj hj=>by simpa using h j hj,rfl⟩⟩
  .obtain⟨m,h1,h2,h3⟩:=CJ h;exact⟨_,.inl ⟨m,om,by simpa using h2,λj hj=>by simpa using h3 j hj,rfl⟩⟩
 .exact⟨_,rfl⟩
def aOl{x y:d_}(hx:VO x)(hy:VO y):-2<=qO x y/\qO x y<=2:=by
 have h1:=hx.lD;have h2:=hy.lD;have hl:-1<=Q_ x y/\Q_ x y<=1:=by
  unfold Q_ or3 mM
  (repeat' split)<;>omega
 unfold qO
 (repeat' split)<;>omega
section
variable [Inhabited Ch]
def aQb(h:gU f aj aG a Z fl):VU Z fl:=by
 rcases h with⟨p,mx,one,aN,sg,nan,x,hF,ha,hm,hk,hx,hp⟩|⟨_,rfl,rfl⟩
 .have hm:=ML aG x.s;rcases hp with⟨_,rfl,rfl⟩|⟨_,c,rfl,rfl⟩|⟨_,_,rfl,rfl⟩
  .exact nG (yB _ _ (ML aG 0)) ⟨de,de⟩
  .exact nG (yB _ _ om) (aFq x)
  .exact nG (yB _ _ hm) ⟨de,de⟩
 .exact nG ⟨de,de⟩ ⟨de,de⟩
def aSD:TiS (λa=>pick (gU 1 0 1 a)):=λc hc w=>(sO 1 0 1 c hc.1 hc.2 w).mono λe w' ⟨Z,fl,hp,he,hg⟩=>⟨fl,by simp only[mQ (P:=gU 1 0 1 c) gU.one hp];exact he,hg⟩
def aSE:TiI (λa=>pick (gU 1 0 1 a)):=λc hc w hw=>(sU 1 0 1 c hc.1 hc.2 w hw).mono λe w' ⟨Z,fl,hp,he,hg⟩=>⟨fl,by simp only[mQ (P:=gU 1 0 1 c) gU.one hp];exact he,hg⟩
def aNl:aFi XV:=λn u h0 h1 hu w hw=>by
 subst hu;exact(uy 1 0 1 _ (Int.emod_nonneg _ de) (Int.emod_lt_of_pos _ de) w hw).mono λe w' ⟨Z,fl,hp,he,hg⟩=>⟨fl,by rw[show XV.int n=Z from ER hp];exact he,hg⟩
def aKi:aPR where
 y k L M f g h:=⟨pF XV (λa=>pick (gU 1 0 1 a)) k.toNat f g,λj=>by unfold pF;rw[dI];omega,λw v1 v2 r1 r2=>aPO aOn aCx aSD k h r1 r2,λw v1 v2 hw r1 r2=>aPP aOo aNl aCx aSE k h hw r1 r2⟩
 n k L M f g h hL hM:=⟨λw v1 v2 r1 r2=>(aC7 h hL hM).1 r1 r2,λw v1 v2 hw r1 r2=>(aC7 h hL hM).2 (o:=XV) aNl hw r1 r2⟩
 z k h1 h6 w:=xI k k.toNat om om _ rfl w
def hall:aJm (λw=>Tl w/\Dc w) (λa k=>jk k a) where
 td w w' hg h:=⟨h.1.below hg,h.2.below hg⟩
 fit:=aK6
 add f m a c ha hc:=by obtain⟨Z,fl,h,h1,h2⟩:=add_same f m a c ha.1 ha.2 hc.1 hc.2;exact⟨Z,fl,Ou h,h1,h2⟩
 sub f m a c ha hc:=by obtain⟨Z,fl,h,h1,h2⟩:=AV f m a c ha.1 ha.2 hc.1 hc.2;exact⟨Z,fl,Ou h,h1,h2⟩
 mul f m a c ha hc:=by obtain⟨Z,fl,h,h1,h2⟩:=Bd f m a c ha.1 ha.2 hc.1 hc.2;exact⟨Z,fl,Ou h,h1,h2⟩
 div f m a c ha hc:=by obtain⟨Z,fl,h,h1,h2⟩:=FV f m a c ha.1 ha.2 hc.1 hc.2;exact⟨Z,fl,UO h,h1,h2⟩
 sqrt f m a ha:=by obtain⟨Z,fl,h,h1,h2⟩:=BN f m a ha.1 ha.2;exact⟨Z,fl,UO h,h1,h2⟩
 round f m a ha:=by obtain⟨Z,fl,h,h1,h2⟩:=aEb f m a true ha.1 ha.2;exact⟨Z,fl,aJ6 h,h1,h2⟩
 rem f a c ha hc:=by obtain⟨Z,fl,h,h1,h2⟩:=aG7 f a c ha.1 ha.2 hc.1 hc.2;exact⟨Z,fl,UO h,h1,h2⟩
 min f a c ha hc:=by obtain⟨Z,fl,h,h1,h2⟩:=aHD f a c ha.1 ha.2 hc.1 hc.2;exact⟨Z,fl,Ou h,h1,h2⟩
 max f a c ha hc:=by obtain⟨Z,fl,h,h1,h2⟩:=aHE f a c ha.1 ha.2 hc.1 hc.2;exact⟨Z,fl,Ou h,h1,h2⟩
 fma f m a c d ha hc hd:=by obtain⟨Z,fl,h,h1,h2⟩:=aIx f m a c d ha.1 ha.2 hc.1 hc.2 hd.1 hd.2;exact⟨Z,fl,aPd h,h1,h2⟩
 aNf f m k a ha:=by obtain⟨Z,fl,h,h1,h2⟩:=aAh f m k a ha.1 ha.2;exact⟨Z,fl,aQb h,h1,h2⟩
 convert f t m a ha:=by obtain⟨Z,fl,h,h1,h2⟩:=aFa f t m a ha.1 ha.2;exact⟨Z,fl,aLk h,h1,h2⟩
 cmp f a c sg ha hc:=by
  obtain⟨r,fl,h,h1,h2⟩:=VK f a c sg ha.1 ha.2 hc.1 hc.2;refine⟨r,fl,?_,λw=>(h1 w).mono λe w' ⟨e1,e2⟩=>⟨e1,e2.gb⟩,h2⟩;rcases h with⟨_,_,_,_,_,_,x,y,hF,hx,hy,h⟩|⟨_,rfl,rfl⟩
  .have ho:=aOl (bU hF hx).1 (bU hF hy).1;rcases h with⟨_,rfl,rfl⟩|⟨_,_,rfl,rfl⟩|⟨_,_,rfl,rfl⟩|⟨_,rfl,rfl⟩|⟨_,rfl,rfl⟩<;>exact aNm om om
  .exact aNm om om
 from_ f m k a ha:=by obtain⟨Z,fl,h,h1,h2⟩:=VA f m k a ha.1 ha.2;exact⟨Z,fl,aKZ h,h1,h2⟩
 int a a0 a1:=by
  obtain⟨s0,m0,_,f0⟩:=aRU a a0 a1;obtain⟨s1,m1,_,f1⟩:=aRT a a0 a1;obtain⟨s2,m2,_,f2⟩:=aRS a a0 a1;obtain⟨s3,m3,_,f3⟩:=aRR a a0 a1;exact⟨⟨⟨s0,m0,f0⟩,⟨s1,m1,f1⟩,⟨s2,m2,f2⟩,s3,m3,f3⟩,λk _ _ w=>(SH k a a0 a1 w).mono λe w' ⟨b,kk,c,_,h,hg⟩=>⟨_,b,kk,c,h,hg⟩⟩
 smp a b c t ha hb hc ht:=by
  obtain⟨r,hr⟩:∃r,o7.nT a b c t r:=aJR o7 a b c t;exact⟨r.st,r.z,r.us,r.tr,aNW ht hr,λw=>(aGC aTi Sv ha hb hc t ht w).mono λe w' ⟨r',h1,h2,h3⟩=>⟨by rw[O7.nT.one hr h1];exact h2,h3⟩,λw hw hD=>(aGE aTj Sv ha hb hc t ht hw hD.1 hD.2).mono λe w' ⟨r',h1,h2,h3⟩=>⟨by rw[O7.nT.one hr h1];exact h2,h3.gb⟩⟩
 prd:=aKi
end
open Go.ChangeShapes Go.WideShapes Go.ChangeAt Go.RowKit
def aNj:ownKnob prog.godebug=none:=by kernel_rfl
def aPu:prog.cellsOf 71=1:=by kernel_rfl
abbrev N7{H:Type}(ns:List Int):DataW H:=.agg (ns.map λn=>.lit (.int .u64 n))
abbrev aQm(ns:List Int):List Value:=ns.map λn=>.int .u64 n
def BA{name:String}(hg:prog.globalNamed name=Y g)(hv:W.var? prog name=Y cs):∃t fr,W.heap[g]?=Y (.cells cs t fr):=by
 simp only[World.var?,hg,Option.bind_some]at hv;split at hv
 .rename_i c t fr e
  obtain rfl:=Option.some.inj hv;exact⟨t,fr,e⟩
 .cases hv
def yC{name:String}(hg:prog.globalNamed name=Y g)(hb:Below W.heap.size W W')(hv:W.var? prog name=Y cs):W'.var? prog name=Y cs:=by
 obtain⟨t,fr,h⟩:=BA hg hv;have hs:g<W.heap.size:=by
  rcases uq g W.heap.size with k|k
  .exact k
  .simp[k]at h
 simp only[World.var?,hg,Option.bind_some];rw[Below.block hb g hs,h]
def jG{name:String}{d:DataW Unit}{rest:List (String × DataW Unit)}(h:∃ps,DataW.LaidVars prog W ((name,d)::rest) ps):
  (∃g t cs fuel p sp,prog.globalNamed name=Y g/\(prog.globals[g]?).map (·.type)=Y t/\W.var? prog name=Y cs/\DataW.trod (λ_=>()) prog W 0 sp J fuel t cs.toList=Y (d,p))/\∃ps,DataW.LaidVars prog W rest ps:=by
 obtain⟨ps,g,t,cs,fuel,p,q,hg,ht,aOR,hd,hr,_⟩:=h;exact⟨⟨g,t,cs,fuel,p,_,hg,ht,aOR,hd⟩,q,hr⟩
def DY{name:String}{ns:List Int}{e:TypeId}(hg:prog.globalNamed name=Y g)(ht:(prog.globals[g]?).map (·.type)=Y t)(hu:prog.underlying t=Y (.array n e))(he:prog.underlying e=Y (.int k))(hce:prog.cellsOf e=1)(hT:prog.cellsOf t=n)
  (h:∃g t cs fuel p sp,prog.globalNamed name=Y g/\(prog.globals[g]?).map (·.type)=Y t/\W.var? prog name=Y cs/\DataW.trod (λ_=>()) prog W 0 sp J fuel t cs.toList=Y (Lib.tabData k ns,p)):Lib.TabIs prog W name k ns:=by
 obtain⟨g',t',cs,fuel,p,sp,dY,ht',hv,hd⟩:=h;obtain rfl:=Option.some.inj (hg.symm.trans dY);obtain rfl:=Option.some.inj (ht.symm.trans ht');unfold Lib.TabIs;rw[hv,<-Lib.cells_of_tab hu he hce hT hd]
def IZ{name:String}{ns:List Int}(hg:prog.globalNamed name=Y g)(ht:(prog.globals[g]?).map (·.type)=Y t)(hu:prog.underlying t=Y (.array n 71))(hT:prog.cellsOf t=n)
  (h:∃g t cs fuel p sp,prog.globalNamed name=Y g/\(prog.globals[g]?).map (·.type)=Y t/\W.var? prog name=Y cs/\DataW.trod (λ_=>()) prog W 0 sp J fuel t cs.toList=Y (N7 ns,p)):W.var? prog name=Y (aQm ns).toArray :=DY hg ht hu underlying71 aPu hT h
open Go.ChangeShapes Go.WideShapes Go.ChangeAt Go.RowKit
abbrev yJ:String:= "loop.example/s01330/impl.tails"
def gT:prog.globalNamed yJ=Y 2:=by kernel_rfl
def tT:(prog.globals[2]?).map (·.type)=Y 305:=by kernel_rfl
def aPv:prog.cellsOf 305=18:=by kernel_rfl
def aPV:(aQm ET).toArray =sZ:=rfl
def UG{H:Type}(enc:TypeId × Value->H)(W:ak)(sp:Nat->Bool):DataW.trod enc prog W 0 sp true 4 305 sZ.toList=Y (N7 ET,[]):=by kernel_rfl
def aPY(h:∃g t cs fuel p sp,prog.globalNamed yJ=Y g/\(prog.globals[g]?).map (·.type)=Y t/\W.var? prog yJ=Y cs/\DataW.trod (λ_=>()) prog W 0 sp J fuel t cs.toList=Y (Rows.laid_loop_example_s01330_impl_tails,p)):W.var? prog yJ=Y sZ:=
 IZ (ns:=ET) gT tT underlying305 aPv h
def RX(h:W.var? prog yJ=Y sZ):Tl W:=BA gT h
open Go.ChangeShapes Go.WideShapes Go.ChangeAt Go.RowKit
abbrev yL:String:= "loop.example/s01330/impl.decays"
def gD:prog.globalNamed yL=Y 3:=by kernel_rfl
def tD:(prog.globals[3]?).map (·.type)=Y 306:=by kernel_rfl
def cellsD:prog.cellsOf 306=38:=by kernel_rfl
def UH{H:Type}(enc:TypeId × Value->H)(W:ak)(sp:Nat->Bool):DataW.trod enc prog W 0 sp true 4 306 nP.toList=Y (N7 yg,[]):=by kernel_rfl
def aP0(h:∃g t cs fuel p sp,prog.globalNamed yL=Y g/\(prog.globals[g]?).map (·.type)=Y t/\W.var? prog yL=Y cs/\DataW.trod (λ_=>()) prog W 0 sp J fuel t cs.toList=Y (Rows.laid_loop_example_s01330_impl_decays,p)):W.var? prog yL=Y nP:=
 IZ (ns:=yg) gD tD underlying306 cellsD h
def Tt(h:W.var? prog yL=Y nP):Dc W:=BA gD h
set_option maxRecDepth 1000000
open Go.ChangeShapes Go.WideShapes Go.ChangeAt Go.RowKit
abbrev yK:String:= "loop.example/s01330/impl.formats"
def gF:prog.globalNamed yK=Y 0:=by kernel_rfl
def tF:(prog.globals[0]?).map (·.type)=Y 247:=by kernel_rfl
def aLq:prog.cellsOf 247=6:=by kernel_rfl
def aPx:prog.cellsOf 169=3:=by kernel_rfl
def aPw:prog.cellsOf 3=1:=by kernel_rfl
def wF:Array Value:=#[.int .i64 24,.int .i64 (-126),.int .i64 127,.int .i64 53,.int .i64 (-1022),.int .i64 1023]
def int_of_trod{H:Type}{enc:TypeId × Value->H}{P:Program}{sp:Nat->Bool}{c:Value}{y:DataW H × List MemPlace}
  (ht:P.underlying t=Y (.int k)) (h:DataW.trod enc P w base sp aT2 fuel t [c]=Y y):∃n,c=.int k n/\y=(.lit (.int k n),[]):=by
 cases fuel with
 |zero=>simp[DataW.trod]at h
 |succ fuel=>
  cases c<;>simp[DataW.trod,ht]at h
  rename_i k' n
  obtain⟨⟨rfl,_⟩,rfl⟩:=h;exact⟨n,rfl,rfl⟩
def aPZ(h:∃g t cs fuel p sp,prog.globalNamed yK=Y g/\(prog.globals[g]?).map (·.type)=Y t/\W.var? prog yK=Y cs/\DataW.trod (λ_=>()) prog W 0 sp J fuel t cs.toList=Y (Rows.laid_loop_example_s01330_impl_formats,p)):W.var? prog yK=Y wF:=by
 obtain⟨g,t,cs,fuel,p,sp,hg,ht,aOR,hd⟩:=h;obtain rfl:=Option.some.inj (gF.symm.trans hg);obtain rfl:=Option.some.inj (tF.symm.trans ht);rw[aOR]
 congr 1
 obtain⟨l⟩:=cs;obtain⟨xs,m,_,hx,hl,hn,hel⟩:=DataW.trod_array underlying247 hd;rw[aLq]at hl;rw[aPx]at hel
 match l,hl with
 |[c0,c1,c2,c3,c4,c5],_=>
  match xs,hn with
  |[x0,x1],_=>
   have h0:=hel 0 de;have h1:=hel 1 de;obtain⟨y0,y1,y2,m0,rfl,_,e0,e1,e2⟩:=Go.Deep.trod_struct3 underlying169 (show DataW.trod _ prog W 0 _ J m 169 [c0,c1,c2]=Y x0 from h0);obtain⟨y3,y4,y5,m1,rfl,_,e3,e4,e5⟩:=Go.Deep.trod_struct3 underlying169 (show DataW.trod _ prog W 0 _ J m 169 [c3,c4,c5]=Y x1 from h1);dsimp only at e0 e1 e2 e3 e4 e5;rw[aPw]at e0 e1 e2 e3 e4 e5;obtain⟨n0,rfl,rfl⟩:=int_of_trod underlying3 (show DataW.trod _ prog W 0 _ J m0 3 [c0]=Y y0 from e0);obtain⟨n1,rfl,rfl⟩:=int_of_trod underlying3 (show DataW.trod _ prog W 0 _ J m0 3 [c1]=Y y1 from e1);obtain⟨n2,rfl,rfl⟩:=int_of_trod underlying3 (show DataW.trod _ prog W 0 _ J m0 3 [c2]=Y y2 from e2);obtain⟨n3,rfl,rfl⟩:=int_of_trod underlying3 (show DataW.trod _ prog W 0 _ J m1 3 [c3]=Y y3 from e3);obtain⟨n4,rfl,rfl⟩:=int_of_trod underlying3 (show DataW.trod _ prog W 0 _ J m1 3 [c4]=Y y4 from e4);obtain⟨n5,rfl,rfl⟩:=int_of_trod underlying3 (show DataW.trod _ prog W 0 _ J m1 3 [c5]=Y y5 from e5);simp[Rows.laid_loop_example_s01330_impl_formats]at hx;obtain⟨⟨⟨rfl,rfl,rfl⟩,⟨rfl,rfl,rfl⟩⟩,_⟩:=hx;rfl
def Tj(hv:W.var? prog yK=Y wF):Fm W:=
 ⟨World.var?_cell gF hv 0,World.var?_cell gF hv 1,World.var?_cell gF hv 2,World.var?_cell gF hv 3,World.var?_cell gF hv 4,World.var?_cell gF hv 5⟩
abbrev Y4{H:Type}:DataW H:=.agg [.agg [.lit (.int .i64 24),.lit (.int .i64 (-126)),.lit (.int .i64 127)],.agg [.lit (.int .i64 53),.lit (.int .i64 (-1022)),.lit (.int .i64 1023)]]
def reads_table{H:Type}(enc:TypeId × Value->H)(W:ak)(sp:Nat->Bool):DataW.trod enc prog W 0 sp true 4 247 wF.toList=Y (Y4,[]):=by kernel_rfl
open Go.ChangeShapes Go.WideShapes Go.ChangeAt Go.RowKit
def dbL:List Int:=match (Rows.laid_math_bits_deBruijn64tab:DataW Unit)with
 | .agg l=>l.map λx=>match x with
  | .lit (.int _ n)=>n
  |_=>0
 |_=>[]
def PU(h:∃g t cs fuel p sp,prog.globalNamed "math/bits.deBruijn64tab" =some g/\(prog.globals[g]?).map (·.type)=some t/\W.var? prog "math/bits.deBruijn64tab" =some cs/\DataW.trod (λ_=>()) prog W 0 sp false fuel t cs.toList=some (Rows.laid_math_bits_deBruijn64tab,p)):Db W:=by
 have hg:prog.globalNamed "math/bits.deBruijn64tab" =some 8:=by kernel_rfl
 have:=DY (k:=.u8) (ns:=dbL) hg (t:=320) (by kernel_rfl) underlying320 underlying5 (by kernel_rfl) (by kernel_rfl) h;exact this.cell hg 15 de
def Om(h:∃g t cs fuel p sp,prog.globalNamed "internal/strconv.uint64pow10" =some g/\(prog.globals[g]?).map (·.type)=some t/\W.var? prog "internal/strconv.uint64pow10" =some cs/\DataW.trod (λ_=>()) prog W 0 sp false fuel t cs.toList=some (Rows.laid_internal_strconv_uint64pow10,p)):Pw W:=
 DY (g:=6) (t:=314) (by kernel_rfl) (by kernel_rfl) underlying314 underlying71 (by kernel_rfl) (by kernel_rfl) h
def Kt(h:W.ShapedOpen prog):Ml W:=cell_of_shapedOpen_int (g:=1) (t:=3) (zero:=#[.int .i64 0]) h (of_decide_eq_true (by kernel_rfl)) (by kernel_rfl) rfl (by kernel_rfl) (by kernel_rfl) underlying3
