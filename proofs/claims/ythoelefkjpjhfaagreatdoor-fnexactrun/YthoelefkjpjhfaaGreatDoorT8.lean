import Derived.Test.YthoelefkjpjhfaaGreatDoorT7
import Derived.Test.YthoelefkjpjhfaaGreatDoorM4
import Derived.Test.YthoelefkjpjhfaaGreatDoorFz
import Derived.Test.YthoelefkjpjhfaaGreatDoorRows
import Derived.LaidMore
import Derived.OpenShut
import Derived.ChangeSame
import Derived.ChangeVars
import Derived.Stop.Joined
import Derived.Deep.Strs
import Derived.Lib.LaidTab
import Derived.Shelf.Vars
import Derived.Test.YthoelefkjpjhfaaGreatDoorCards
import Derived.Test.YthoelefkjpjhfaaGreatDoorTie
import Derived.Lib.SmallJoins
import Derived.SevenTiedAt
import Derived.ChangeMaps5
import Derived.Lay
set_option linter.all false
open Bool renaming false → J
open Option renaming some → Y
namespace Go.Proofs.YthoelefkjpjhfaaGreatDoor
open Go.RowKit
def aMt{p mn mx one aI aj s:Int}{M:Nat}{e:Int}{b:Bool}{z fl:Int}(h:bH p mn mx one aI aj s M e b z fl):0<=fl/\fl<=31:=by
 obtain⟨_,_,_,_,_,_,_,_,_,_,h⟩:=h;rcases h with⟨_,_,rfl⟩|⟨_,_,_,rfl⟩|⟨_,_,_,⟨_,rfl⟩|⟨_,_,rfl⟩|⟨_,_,rfl⟩⟩<;>exact⟨de,de⟩
def VP{p mn mx one aI sg nan aj:Int}{o:dM}{Z fl:Int}(h:bY p mn mx one aI sg nan aj o Z fl):0<=fl/\fl<=31:=by
 rcases h with⟨_,_,rfl⟩|⟨_,z,h,_⟩|⟨_,_,rfl⟩|⟨_,_,rfl⟩|⟨_,_,rfl⟩
 .exact⟨de,de⟩
 .exact aMt h
 all_goals exact⟨de,de⟩
def lI{Z fl:Int}(h:Wd Z)(h':0<=fl/\fl<=31):TY Z fl:=⟨h.1,h.2,om,om⟩
def Me{R:Int->dM->dM->dM}{f aj a b Z fl:Int}(h:qZ R f aj a b Z fl):TY Z fl:=lI h.wd (by
 rcases h with⟨_,_,_,_,_,_,_,_,_,_,_,_,h⟩|⟨_,_,_,_,_,_,_,_,_,rfl⟩|⟨_,_,rfl⟩
 .exact VP h
 all_goals exact⟨de,de⟩)
def Sj{R:Int->Int->dM->dM->dM}{f aj a b Z fl:Int}(h:nJ R f aj a b Z fl):TY Z fl:=lI h.wd (by
 rcases h with⟨_,_,_,_,_,_,_,_,_,_,_,_,h|⟨_,_,rfl⟩⟩|⟨_,_,_,_,_,_,_,_,_,rfl⟩|⟨_,_,rfl⟩
 .exact VP h
 all_goals exact⟨de,de⟩)
def Zp:Wd 9221120237041090560:=⟨de,de⟩
def aNA{f aj a b c Z fl:Int}(h:PL f aj a b c Z fl):TY Z fl:=by
 rcases h with⟨_,_,_,_,_,_,_,_,_,hF,_,_,_,_,h⟩|⟨_,_,_,_,_,_,hF,_,rfl,rfl⟩|⟨_,rfl,rfl⟩
 .exact lI (P8 hF h) (VP h)
 .exact lI (BQ hF) ⟨de,de⟩
 .exact lI Zp ⟨de,de⟩
def aJw{f aj aF a Z fl:Int}(h:gQ f aj aF a Z fl):TY Z fl:=lI h.wd (by
 rcases h with⟨_,_,_,_,_,_,_,_,_,h⟩|⟨_,_,_,_,_,_,_,_,_,rfl⟩|⟨_,_,rfl⟩
 .exact VP h
 all_goals exact⟨de,de⟩)
def aD1(x:dM):0<=Jo x/\Jo x<=31:=by rcases QV x with h|h<;>rw[h]<;>exact⟨de,de⟩
def aJQ{f t aj a Z fl:Int}(h:t_ f t aj a Z fl):TY Z fl:=by
 rcases h with⟨_,_,_,_,_,_,_,_,_,_,_,_,_,hF,_,_,_,h⟩|⟨_,_,_,_,_,_,hF,_,rfl,rfl⟩|⟨_,rfl,rfl⟩
 .exact lI (P8 hF h) (VP h)
 .exact lI (BQ hF) ⟨de,de⟩
 .exact lI Zp ⟨de,de⟩
def aIH{f aj a:Int}{ex:Bool}{Z fl:Int}(h:lU f aj a ex Z fl):TY Z fl:=by
 rcases h with⟨_,_,_,_,_,_,x,hF,_,_,⟨_,rfl,rfl⟩|⟨_,h,rfl⟩⟩|⟨_,_,_,_,_,_,hF,_,rfl,rfl⟩|⟨_,rfl,rfl⟩
 .exact lI (BQ hF) (by split<;>exact⟨de,de⟩)
 .exact lI (P8 hF h) (by split<;>first|exact aD1 x|exact⟨de,de⟩)
 .exact lI (BQ hF) ⟨de,de⟩
 .exact lI Zp ⟨de,de⟩
def aLO{a b:Int}(h:-9223372036854775808<=a/\a<=9223372036854775807)(h':-9223372036854775808<=b/\b<=9223372036854775807):Ins [a,b]:=λx hx=>by
 simp at hx;rcases hx with rfl|rfl
 .exact h
 .exact h'
def aJC:PN:=λf x x0 x1 w=>by
 by_cases h:f=0/\x<4294967296\/f=1
 .rw[show NM f x=true from decide_eq_true h];rcases h with⟨rfl,h⟩|rfl
  .exact fO (.inl ⟨rfl,rfl,rfl,rfl,rfl,rfl,rfl⟩) x x0 om w
  .exact fO f64 x x0 om w
 .rw[show NM f x=J from decide_eq_false h];exact iV f x x0 om w
def wrap_in(n:Int):-9223372036854775808<=wrap64 n/\wrap64 n<=9223372036854775807:=by unfold wrap64;omega
def aMm{o:O7}{mu inv sc:Int}{s:ByteArray}{r:Smp}(hz:s.size<=1048576)(h:o.lT mu inv sc s r):Ins [r.st,r.z,r.us,r.tr]:=by
 have hx:(-9223372036854775808<=r.st/\r.st<=9223372036854775807)/\(-9223372036854775808<=r.z/\r.z<=9223372036854775807)/\(-9223372036854775808<=r.us/\r.us<=9223372036854775807)/\(-9223372036854775808<=r.tr/\r.tr<=9223372036854775807):=by
  unfold O7.lT at h;split at h
  .rcases h with⟨k,h1,_,_,rfl⟩|⟨k,h1,h2,_,rfl⟩
   .have:=wrap_in (Um (jU (num s (17*k) 8)) (g_ s (17*k+8))+wrap64 (o.whole (o.jW mu)));exact⟨by dsimp only;omega,this,by dsimp only;omega,by dsimp only;omega⟩
   .exact⟨by dsimp only;omega,by dsimp only;omega,by dsimp only;omega,by dsimp only;omega⟩
  .subst h;exact⟨by dsimp only;omega,by dsimp only;omega,by dsimp only;omega,by dsimp only;omega⟩
 intro x h;simp at h;rcases h with rfl|rfl|rfl|rfl
 .exact hx.1
 .exact hx.2.1
 .exact hx.2.2.1
 .exact hx.2.2.2
def aIs(o:O7)(mu inv sc:Int)(s:ByteArray):∃r,o.lT mu inv sc s r:=by
 unfold O7.lT;split
 .by_cases h:∀j,j<s.size/17->(!o.Jf mu inv sc s j)=true
  .exact⟨_,.inr ⟨s.size/17,om,om,λj hj=>by simpa using h j hj,rfl⟩⟩
  .obtain⟨m,h1,h2,h3⟩:=z_ h;exact⟨_,.inl ⟨m,om,by simpa using h2,λj hj=>by simpa using h3 j hj,rfl⟩⟩
 .exact⟨_,rfl⟩
def aML{x y:dM}(hx:VO x)(hy:VO y):-2<=oN x y/\oN x y<=2:=by
 have h1:=hx.jM;have h2:=hy.jM;have hl:-1<=Ph x y/\Ph x y<=1:=by
  unfold Ph or3 kU
  (repeat' split)<;>omega
 unfold oN
 (repeat' split)<;>omega
section
variable [Inhabited Ch]
def aOq{f aj aF a Z fl:Int}(h:fU f aj aF a Z fl):TY Z fl:=by
 rcases h with⟨p,mx,one,aI,sg,nan,x,hF,ha,hm,hk,hx,hp⟩|⟨_,rfl,rfl⟩
 .have hm:=J6 aF x.s;rcases hp with⟨_,rfl,rfl⟩|⟨_,c,rfl,rfl⟩|⟨_,_,rfl,rfl⟩
  .exact lI (vK _ _ (J6 aF 0)) ⟨de,de⟩
  .exact lI (vK _ _ om) (aD1 x)
  .exact lI (vK _ _ hm) ⟨de,de⟩
 .exact lI ⟨de,de⟩ ⟨de,de⟩
def aQY:TiS (λa=>pick (fU 1 0 1 a)):=λc hc w=>(qF 1 0 1 c hc.1 hc.2 w).mono λe w' ⟨Z,fl,hp,he,hg⟩=>⟨fl,by simp only[kX (P:=fU 1 0 1 c) fU.one hp];exact he,hg⟩
def aQZ:TiI (λa=>pick (fU 1 0 1 a)):=λc hc w hw=>(qJ 1 0 1 c hc.1 hc.2 w hw).mono λe w' ⟨Z,fl,hp,he,hg⟩=>⟨fl,by simp only[kX (P:=fU 1 0 1 c) fU.one hp];exact he,hg⟩
def aLN:aDU VW:=λn u h0 h1 hu w hw=>by
 subst hu;exact(rF 1 0 1 _ (Int.emod_nonneg _ de) (Int.emod_lt_of_pos _ de) w hw).mono λe w' ⟨Z,fl,hp,he,hg⟩=>⟨fl,by rw[show VW.int n=Z from Dn hp];exact he,hg⟩
def aIT:aOa where
 y k L M f g h:=⟨pF VW (λa=>pick (fU 1 0 1 a)) k.toNat f g,λj=>by unfold pF;rw[IntKind.wrap_i64];omega,λw v1 v2 r1 r2=>aN7 aMN aA7 aQY k h r1 r2,λw v1 v2 hw r1 r2=>aN8 aMO aLN aA7 aQZ k h hw r1 r2⟩
 n k L M f g h hL hM:=⟨λw v1 v2 r1 r2=>(aBH h hL hM).1 r1 r2,λw v1 v2 hw r1 r2=>(aBH h hL hM).2 (o:=VW) aLN hw r1 r2⟩
 z k h1 h6 w:=xG k k.toNat om om _ rfl w
def hall:aKa (λw=>Tl w/\Dc w) (λa k=>iJ k a) where
 td w w' hg h:=⟨h.1.below hg,h.2.below hg⟩
 fit:=aJC
 add f m a c ha hc:=by obtain⟨Z,fl,h,h1,h2⟩:=add_same f m a c ha.1 ha.2 hc.1 hc.2;exact⟨Z,fl,Me h,h1,h2⟩
 sub f m a c ha hc:=by obtain⟨Z,fl,h,h1,h2⟩:=yP f m a c ha.1 ha.2 hc.1 hc.2;exact⟨Z,fl,Me h,h1,h2⟩
 mul f m a c ha hc:=by obtain⟨Z,fl,h,h1,h2⟩:=yY f m a c ha.1 ha.2 hc.1 hc.2;exact⟨Z,fl,Me h,h1,h2⟩
 div f m a c ha hc:=by obtain⟨Z,fl,h,h1,h2⟩:=Ea f m a c ha.1 ha.2 hc.1 hc.2;exact⟨Z,fl,Sj h,h1,h2⟩
 sqrt f m a ha:=by obtain⟨Z,fl,h,h1,h2⟩:=zI f m a ha.1 ha.2;exact⟨Z,fl,Sj h,h1,h2⟩
 round f m a ha:=by obtain⟨Z,fl,h,h1,h2⟩:=aCM f m a true ha.1 ha.2;exact⟨Z,fl,aIH h,h1,h2⟩
 rem f a c ha hc:=by obtain⟨Z,fl,h,h1,h2⟩:=aFH f a c ha.1 ha.2 hc.1 hc.2;exact⟨Z,fl,Sj h,h1,h2⟩
 min f a c ha hc:=by obtain⟨Z,fl,h,h1,h2⟩:=aGf f a c ha.1 ha.2 hc.1 hc.2;exact⟨Z,fl,Me h,h1,h2⟩
 max f a c ha hc:=by obtain⟨Z,fl,h,h1,h2⟩:=aGg f a c ha.1 ha.2 hc.1 hc.2;exact⟨Z,fl,Me h,h1,h2⟩
 fma f m a c d ha hc hd:=by obtain⟨Z,fl,h,h1,h2⟩:=aG8 f m a c d ha.1 ha.2 hc.1 hc.2 hd.1 hd.2;exact⟨Z,fl,aNA h,h1,h2⟩
 aLJ f m k a ha:=by obtain⟨Z,fl,h,h1,h2⟩:=Yz f m k a ha.1 ha.2;exact⟨Z,fl,aOq h,h1,h2⟩
 convert f t m a ha:=by obtain⟨Z,fl,h,h1,h2⟩:=aDN f t m a ha.1 ha.2;exact⟨Z,fl,aJQ h,h1,h2⟩
 cmp f a c sg ha hc:=by
  obtain⟨r,fl,h,h1,h2⟩:=TQ f a c sg ha.1 ha.2 hc.1 hc.2;refine⟨r,fl,?_,λw=>(h1 w).mono λe w' ⟨e1,e2⟩=>⟨e1,e2.gb⟩,h2⟩;rcases h with⟨_,_,_,_,_,_,x,y,hF,hx,hy,h⟩|⟨_,rfl,rfl⟩
  .have ho:=aML (bK hF hx).1 (bK hF hy).1;rcases h with⟨_,rfl,rfl⟩|⟨_,_,rfl,rfl⟩|⟨_,_,rfl,rfl⟩|⟨_,rfl,rfl⟩|⟨_,rfl,rfl⟩<;>exact aLO om om
  .exact aLO om om
 from_ f m k a ha:=by obtain⟨Z,fl,h,h1,h2⟩:=TG f m k a ha.1 ha.2;exact⟨Z,fl,aJw h,h1,h2⟩
 int a a0 a1:=by
  obtain⟨s0,m0,_,f0⟩:=aQb a a0 a1;obtain⟨s1,m1,_,f1⟩:=aQa a a0 a1;obtain⟨s2,m2,_,f2⟩:=aP9 a a0 a1;obtain⟨s3,m3,_,f3⟩:=aP8 a a0 a1;exact⟨⟨⟨s0,m0,f0⟩,⟨s1,m1,f1⟩,⟨s2,m2,f2⟩,s3,m3,f3⟩,λk _ _ w=>(Qg k a a0 a1 w).mono λe w' ⟨b,kk,c,_,h,hg⟩=>⟨_,b,kk,c,h,hg⟩⟩
 smp a b c t ha hb hc ht:=by
  obtain⟨r,hr⟩:∃r,o7.lT a b c t r:=aIs o7 a b c t;exact⟨r.st,r.z,r.us,r.tr,aMm ht hr,λw=>(aFb aRD aBa ha hb hc t ht w).mono λe w' ⟨r',h1,h2,h3⟩=>⟨by rw[O7.lT.one hr h1];exact h2,h3⟩,λw hw hD=>(aFd aRE aBa ha hb hc t ht hw hD.1 hD.2).mono λe w' ⟨r',h1,h2,h3⟩=>⟨by rw[O7.lT.one hr h1];exact h2,h3.gb⟩⟩
 prd:=aIT
end
def aJc(s:ByteArray){w:World}(hw:Fm w)(hT:Tl w)(hD:Dc w)(hb:Db w)(hp:Pw w)(hm:Ml w):CT 3 #[.string s] w λe w'=>e=.returned (.bool true)/\Below w.heap.size w w':=by
 obtain⟨ch0⟩:=aQk;have hch:Inhabited Ch:=⟨ch0⟩;exact aM3 hall s w ⟨hw,hb,hp⟩ hm ⟨hT,hD⟩
open Go.ChangeShapes Go.WideShapes Go.ChangeAt Go.RowKit
def aPd:ownKnob Tryz.prog.godebug=none:=by kernel_rfl
def aNN:Tryz.prog.cellsOf 71=1:=by kernel_rfl
abbrev Y4{H:Type}(ns:List Int):DataW H:=.agg (ns.map λn=>.lit (.int .u64 n))
abbrev aOB(ns:List Int):List Value:=ns.map λn=>.int .u64 n
def zn{W:World}{name:String}{g:Nat}{cs:Array Value}(hg:Tryz.prog.globalNamed name=Y g)(hv:W.var? Tryz.prog name=Y cs):∃t fr,W.heap[g]?=Y (.cells cs t fr):=by
 simp only[World.var?,hg,Option.bind_some]at hv;split at hv
 .rename_i c t fr e
  obtain rfl:=Option.some.inj hv;exact⟨t,fr,e⟩
 .cases hv
def Kv{W W':World}{name:String}{g:Nat}{cs:Array Value}(hg:Tryz.prog.globalNamed name=Y g)(hb:Below W.heap.size W W')(hv:W.var? Tryz.prog name=Y cs):W'.var? Tryz.prog name=Y cs:=by
 obtain⟨t,fr,h⟩:=zn hg hv;have hs:g<W.heap.size:=by
  rcases Nat.lt_or_ge g W.heap.size with k|k
  .exact k
  .simp[k]at h
 simp only[World.var?,hg,Option.bind_some];rw[Below.block hb g hs,h]
def qh{name:String}{d:DataW Unit}{rest:List (String × DataW Unit)}{W:World}(h:∃ps,DataW.LaidVars Tryz.prog W ((name,d)::rest) ps):
  (∃g t cs fuel p sp,Tryz.prog.globalNamed name=Y g/\(Tryz.prog.globals[g]?).map (·.type)=Y t/\W.var? Tryz.prog name=Y cs/\DataW.trod (λ_=>()) Tryz.prog W 0 sp J fuel t cs.toList=Y (d,p))/\∃ps,DataW.LaidVars Tryz.prog W rest ps:=by
 obtain⟨ps,g,t,cs,fuel,p,q,hg,ht,aNe,hd,hr,_⟩:=h;exact⟨⟨g,t,cs,fuel,p,_,hg,ht,aNe,hd⟩,q,hr⟩
def BK{name:String}{k:IntKind}{ns:List Int}{n g:Nat}{t e:TypeId}{W:World}(hg:Tryz.prog.globalNamed name=Y g)(ht:(Tryz.prog.globals[g]?).map (·.type)=Y t)(hu:Tryz.prog.underlying t=Y (.array n e))(he:Tryz.prog.underlying e=Y (.int k))(hce:Tryz.prog.cellsOf e=1)(hT:Tryz.prog.cellsOf t=n)
  (h:∃g t cs fuel p sp,Tryz.prog.globalNamed name=Y g/\(Tryz.prog.globals[g]?).map (·.type)=Y t/\W.var? Tryz.prog name=Y cs/\DataW.trod (λ_=>()) Tryz.prog W 0 sp J fuel t cs.toList=Y (Lib.tabData k ns,p)):Lib.TabIs Tryz.prog W name k ns:=by
 obtain⟨g',t',cs,fuel,p,sp,dL,ht',hv,hd⟩:=h;obtain rfl:=Option.some.inj (hg.symm.trans dL);obtain rfl:=Option.some.inj (ht.symm.trans ht');unfold Lib.TabIs;rw[hv,<-Lib.cells_of_tab hu he hce hT hd]
def Gm{name:String}{ns:List Int}{n g:Nat}{t:TypeId}{W:World}(hg:Tryz.prog.globalNamed name=Y g)(ht:(Tryz.prog.globals[g]?).map (·.type)=Y t)(hu:Tryz.prog.underlying t=Y (.array n 71))(hT:Tryz.prog.cellsOf t=n)
  (h:∃g t cs fuel p sp,Tryz.prog.globalNamed name=Y g/\(Tryz.prog.globals[g]?).map (·.type)=Y t/\W.var? Tryz.prog name=Y cs/\DataW.trod (λ_=>()) Tryz.prog W 0 sp J fuel t cs.toList=Y (Y4 ns,p)):W.var? Tryz.prog name=Y (aOB ns).toArray :=BK hg ht hu Tryz.underlying71 aNN hT h
open Go.ChangeShapes Go.WideShapes Go.ChangeAt Go.RowKit
abbrev DL:String:= "loop.example/s01330/impl.tails"
def gT:Tryz.prog.globalNamed DL=Y 2:=by kernel_rfl
def tT:(Tryz.prog.globals[2]?).map (·.type)=Y 305:=by kernel_rfl
def aNO:Tryz.prog.cellsOf 305=18:=by kernel_rfl
def aOe:(aOB KP).toArray =vN:=rfl
def aFI{H:Type}(enc:TypeId × Value->H)(W:World)(sp:Nat->Bool):DataW.trod enc Tryz.prog W 0 sp true 4 305 vN.toList=Y (Y4 KP,[]):=by kernel_rfl
def aQS{W:World}(h:∃g t cs fuel p sp,Tryz.prog.globalNamed DL=Y g/\(Tryz.prog.globals[g]?).map (·.type)=Y t/\W.var? Tryz.prog DL=Y cs/\DataW.trod (λ_=>()) Tryz.prog W 0 sp J fuel t cs.toList=Y (Rows.laid_loop_example_s01330_impl_tails,p)):W.var? Tryz.prog DL=Y vN:=
 Gm (ns:=KP) gT tT Tryz.underlying305 aNO h
def aBT{W:World}(h:W.var? Tryz.prog DL=Y vN):Tl W:=zn gT h
open Go.ChangeShapes Go.WideShapes Go.ChangeAt Go.RowKit
abbrev DR:String:= "loop.example/s01330/impl.decays"
def gD:Tryz.prog.globalNamed DR=Y 3:=by kernel_rfl
def tD:(Tryz.prog.globals[3]?).map (·.type)=Y 306:=by kernel_rfl
def cellsD:Tryz.prog.cellsOf 306=38:=by kernel_rfl
def aFJ{H:Type}(enc:TypeId × Value->H)(W:World)(sp:Nat->Bool):DataW.trod enc Tryz.prog W 0 sp true 4 306 qw.toList=Y (Y4 zu,[]):=by kernel_rfl
def aQU{W:World}(h:∃g t cs fuel p sp,Tryz.prog.globalNamed DR=Y g/\(Tryz.prog.globals[g]?).map (·.type)=Y t/\W.var? Tryz.prog DR=Y cs/\DataW.trod (λ_=>()) Tryz.prog W 0 sp J fuel t cs.toList=Y (Rows.laid_loop_example_s01330_impl_decays,p)):W.var? Tryz.prog DR=Y qw:=
 Gm (ns:=zu) gD tD Tryz.underlying306 cellsD h
def aDK{W:World}(h:W.var? Tryz.prog DR=Y qw):Dc W:=zn gD h
set_option maxRecDepth 1000000
open Go.ChangeShapes Go.WideShapes Go.ChangeAt Go.RowKit
abbrev DN:String:= "loop.example/s01330/impl.formats"
def gF:Tryz.prog.globalNamed DN=Y 0:=by kernel_rfl
def tF:(Tryz.prog.globals[0]?).map (·.type)=Y 247:=by kernel_rfl
def aJW:Tryz.prog.cellsOf 247=6:=by kernel_rfl
def aNQ:Tryz.prog.cellsOf 169=3:=by kernel_rfl
def aNP:Tryz.prog.cellsOf 3=1:=by kernel_rfl
def CV:Array Value:=#[.int .i64 24,.int .i64 (-126),.int .i64 127,.int .i64 53,.int .i64 (-1022),.int .i64 1023]
def int_of_trod{H:Type}{enc:TypeId × Value->H}{P:Program}{w:World}{base:Nat}{sp:Nat->Bool}{aSp:Bool}{fuel:Nat}{t:TypeId}{k:IntKind}{c:Value}{y:DataW H × List MemPlace}
  (ht:P.underlying t=Y (.int k)) (h:DataW.trod enc P w base sp aSp fuel t [c]=Y y):∃n,c=.int k n/\y=(.lit (.int k n),[]):=by
 cases fuel with
 |zero=>simp[DataW.trod]at h
 |succ fuel=>
  cases c<;>simp[DataW.trod,ht]at h
  rename_i k' n
  obtain⟨⟨rfl,_⟩,rfl⟩:=h;exact⟨n,rfl,rfl⟩
def aQT{W:World}(h:∃g t cs fuel p sp,Tryz.prog.globalNamed DN=Y g/\(Tryz.prog.globals[g]?).map (·.type)=Y t/\W.var? Tryz.prog DN=Y cs/\DataW.trod (λ_=>()) Tryz.prog W 0 sp J fuel t cs.toList=Y (Rows.laid_loop_example_s01330_impl_formats,p)):W.var? Tryz.prog DN=Y CV:=by
 obtain⟨g,t,cs,fuel,p,sp,hg,ht,aNe,hd⟩:=h;obtain rfl:=Option.some.inj (gF.symm.trans hg);obtain rfl:=Option.some.inj (tF.symm.trans ht);rw[aNe]
 congr 1
 obtain⟨l⟩:=cs;obtain⟨xs,m,_,hx,hl,hn,hel⟩:=DataW.trod_array Tryz.underlying247 hd;rw[aJW]at hl;rw[aNQ]at hel
 match l,hl with
 |[c0,c1,c2,c3,c4,c5],_=>
  match xs,hn with
  |[x0,x1],_=>
   have h0:=hel 0 de;have h1:=hel 1 de;obtain⟨y0,y1,y2,m0,rfl,_,e0,e1,e2⟩:=Go.Deep.trod_struct3 Tryz.underlying169 (show DataW.trod _ Tryz.prog W 0 _ J m 169 [c0,c1,c2]=Y x0 from h0);obtain⟨y3,y4,y5,m1,rfl,_,e3,e4,e5⟩:=Go.Deep.trod_struct3 Tryz.underlying169 (show DataW.trod _ Tryz.prog W 0 _ J m 169 [c3,c4,c5]=Y x1 from h1);dsimp only at e0 e1 e2 e3 e4 e5;rw[aNP]at e0 e1 e2 e3 e4 e5;obtain⟨n0,rfl,rfl⟩:=int_of_trod Tryz.underlying3 (show DataW.trod _ Tryz.prog W 0 _ J m0 3 [c0]=Y y0 from e0);obtain⟨n1,rfl,rfl⟩:=int_of_trod Tryz.underlying3 (show DataW.trod _ Tryz.prog W 0 _ J m0 3 [c1]=Y y1 from e1);obtain⟨n2,rfl,rfl⟩:=int_of_trod Tryz.underlying3 (show DataW.trod _ Tryz.prog W 0 _ J m0 3 [c2]=Y y2 from e2);obtain⟨n3,rfl,rfl⟩:=int_of_trod Tryz.underlying3 (show DataW.trod _ Tryz.prog W 0 _ J m1 3 [c3]=Y y3 from e3);obtain⟨n4,rfl,rfl⟩:=int_of_trod Tryz.underlying3 (show DataW.trod _ Tryz.prog W 0 _ J m1 3 [c4]=Y y4 from e4);obtain⟨n5,rfl,rfl⟩:=int_of_trod Tryz.underlying3 (show DataW.trod _ Tryz.prog W 0 _ J m1 3 [c5]=Y y5 from e5);simp[Rows.laid_loop_example_s01330_impl_formats]at hx;obtain⟨⟨⟨rfl,rfl,rfl⟩,⟨rfl,rfl,rfl⟩⟩,_⟩:=hx;rfl
def aDH{W:World}(hv:W.var? Tryz.prog DN=Y CV):Fm W:=
 ⟨World.var?_cell gF hv 0,World.var?_cell gF hv 1,World.var?_cell gF hv 2,World.var?_cell gF hv 3,World.var?_cell gF hv 4,World.var?_cell gF hv 5⟩
abbrev aHm{H:Type}:DataW H:=.agg [.agg [.lit (.int .i64 24),.lit (.int .i64 (-126)),.lit (.int .i64 127)],.agg [.lit (.int .i64 53),.lit (.int .i64 (-1022)),.lit (.int .i64 1023)]]
def reads_table{H:Type}(enc:TypeId × Value->H)(W:World)(sp:Nat->Bool):DataW.trod enc Tryz.prog W 0 sp true 4 247 CV.toList=Y (aHm,[]):=by kernel_rfl
open Go.ChangeShapes Go.WideShapes Go.ChangeAt Go.RowKit
def dbL:List Int:=match (Rows.laid_math_bits_deBruijn64tab:DataW Unit)with
 | .agg l=>l.map λx=>match x with
  | .lit (.int _ n)=>n
  |_=>0
 |_=>[]
def aAk{W:World}(h:∃g t cs fuel p sp,Tryz.prog.globalNamed "math/bits.deBruijn64tab" =some g/\(Tryz.prog.globals[g]?).map (·.type)=some t/\W.var? Tryz.prog "math/bits.deBruijn64tab" =some cs/\DataW.trod (λ_=>()) Tryz.prog W 0 sp false fuel t cs.toList=some (Rows.laid_math_bits_deBruijn64tab,p)):Db W:=by
 have hg:Tryz.prog.globalNamed "math/bits.deBruijn64tab" =some 8:=by kernel_rfl
 have:=BK (k:=.u8) (ns:=dbL) hg (t:=320) (by kernel_rfl) Tryz.underlying320 Tryz.underlying5 (by kernel_rfl) (by kernel_rfl) h;exact this.cell hg 15 de
def Y9{W:World}(h:∃g t cs fuel p sp,Tryz.prog.globalNamed "internal/strconv.uint64pow10" =some g/\(Tryz.prog.globals[g]?).map (·.type)=some t/\W.var? Tryz.prog "internal/strconv.uint64pow10" =some cs/\DataW.trod (λ_=>()) Tryz.prog W 0 sp false fuel t cs.toList=some (Rows.laid_internal_strconv_uint64pow10,p)):Pw W:=
 BK (g:=6) (t:=314) (by kernel_rfl) (by kernel_rfl) Tryz.underlying314 Tryz.underlying71 (by kernel_rfl) (by kernel_rfl) h
def Wn{W:World}(h:W.ShapedOpen Tryz.prog):Ml W:=cell_of_shapedOpen_int (g:=1) (t:=3) (zero:=#[.int .i64 0]) h (of_decide_eq_true (by kernel_rfl)) (by kernel_rfl) rfl (by kernel_rfl) (by kernel_rfl) Tryz.underlying3
end Go.Proofs.YthoelefkjpjhfaaGreatDoor
set_option maxRecDepth 1000000
namespace Go.Proofs.YthoelefkjpjhfaaGreatDoor.fnExactRun
open Go.ChangeShapes Go.WideShapes Go.ChangeAt Go.RowKit Go.Joins
abbrev Wu:List (String × DataW Unit):=Rows.fnExactRunRow.laid
def aHS(W:World):Prop:=W.var? Tryz.prog DN=Y CV/\W.var? Tryz.prog DL=Y vN/\W.var? Tryz.prog DR=Y qw
def Q5{W:World}(h:laidMetH Tryz.prog Wu W):aHS W/\Db W/\Pw W:=by
 rw[MakeChecks.laidMetH_plain _ _ _ (by kernel_rfl)]at h;obtain⟨ps,hl,_⟩:=h;obtain⟨_,l⟩:=qh ⟨ps,hl⟩;obtain⟨x1,l⟩:=qh l;obtain⟨x2,l⟩:=qh l;obtain⟨_,l⟩:=qh l;obtain⟨x4,l⟩:=qh l;obtain⟨x5,l⟩:=qh l;obtain⟨x6,l⟩:=qh l;exact⟨⟨aQT x4,aQS x5,aQU x6⟩,aAk x1,Y9 x2⟩
def Yk{H:Type}(enc:TypeId × Value->H){W W':World}(hb:Below W.heap.size W W')(hv:aHS W)(sp:Nat->Bool):
  ∃q,DataW.TrodVars enc Tryz.prog W' sp [DN,DL,DR] [aHm,Y4 KP,Y4 zu] q:=by
 obtain⟨h0,h1,h2⟩:=hv;exact⟨_,⟨_,247,CV,4,[],_,gF,tF,Kv gF hb h0,reads_table enc W' sp,⟨_,305,vN,4,[],_,gT,tT,Kv gT hb h1,aFI enc W' sp,⟨_,306,qw,4,[],_,gD,tD,Kv gD hb h2,aFJ enc W' sp,rfl,rfl⟩,rfl⟩,rfl⟩⟩
def Ut{H:Type}{enc:TypeId × Value->H}{W:World}{gs:List (DataW H)}{q:List MemPlace}(hv:aHS W)(hV:DataW.TrodVars enc Tryz.prog W (λ_=>true) [DN,DL,DR] gs q):gs=[aHm,Y4 KP,Y4 zu]:=by
 obtain⟨h0,h1,h2⟩:=hv;obtain⟨d0,gs0,rfl⟩:∃d l,gs=d::l:=by cases gs<;>simp[DataW.TrodVars]at hV⊢
 obtain⟨a0,b0,c0,f0,p0,q0,e0,k0,m0,n0,hV,_⟩:=hV;obtain rfl:=Option.some.inj (gF.symm.trans e0);obtain rfl:=Option.some.inj (tF.symm.trans k0);obtain rfl:c0=CV:=Option.some.inj (m0.symm.trans h0);obtain⟨rfl,rfl⟩:=DataW.Trod.unique (v:=.agg CV) ⟨f0,n0⟩ ⟨4,reads_table enc W _⟩;obtain⟨d1,gs1,rfl⟩:∃d l,gs0=d::l:=by cases gs0<;>simp[DataW.TrodVars]at hV⊢
 obtain⟨a1,b1,c1,f1,p1,q1,e1,k1,m1,n1,hV,_⟩:=hV;obtain rfl:=Option.some.inj (gT.symm.trans e1);obtain rfl:=Option.some.inj (tT.symm.trans k1);obtain rfl:c1=vN:=Option.some.inj (m1.symm.trans h1);obtain⟨rfl,rfl⟩:=DataW.Trod.unique (v:=.agg vN) ⟨f1,n1⟩ ⟨4,aFI enc W _⟩;obtain⟨d2,gs2,rfl⟩:∃d l,gs1=d::l:=by cases gs1<;>simp[DataW.TrodVars]at hV⊢
 obtain⟨a2,b2,c2,f2,p2,q2,e2,k2,m2,n2,hV,_⟩:=hV;obtain rfl:=Option.some.inj (gD.symm.trans e2);obtain rfl:=Option.some.inj (tD.symm.trans k2);obtain rfl:c2=qw:=Option.some.inj (m2.symm.trans h2);obtain⟨rfl,rfl⟩:=DataW.Trod.unique (v:=.agg qw) ⟨f2,n2⟩ ⟨4,aFJ enc W _⟩;cases gs2<;>simp[DataW.TrodVars]at hV⊢
def lifted(os:Go.Os)(started:os.Started)(H:Type)(enc:TypeId × Value->H):
  ReturnsInHanded {} Tryz.checked os 3 .any (λw args=>(Rows.fnExactRunSpec.pre enc Tryz.prog Tryz.f3 [] J w args/\laidMetH Tryz.prog Wu w)/\sizedMet enc Tryz.prog Tryz.f3 (OpenSpec.ofChange Rows.fnExactRunSpec) J w args)
   (Rows.fnExactRunSpec.post enc Tryz.prog Tryz.f3 J true J J):=by
 refine returnsInHanded_of_calls aPd started (by kernel_rfl)
  (ChangeSpec.witness_shaped (enc:=enc) (C:=Tryz.checked) (os:=os) (X:=λw _=>laidMetH Tryz.prog Wu w) J (World.laidAll Tryz.prog os Wu) #[.string ⟨#[]⟩] 8 (World.laidAll_os _ _ _) (World.shaped_of_ZipB (by kernel_rfl) (by kernel_rfl)) (by kernel_rfl) (by kernel_rfl) (by kernel_rfl)
   (by rw[MakeChecks.laidMetH_plain _ _ _ (by kernel_rfl)];exact laidMet_laidAll _ (by kernel_rfl) (by kernel_rfl))) ?_
 intro w tape i _ hsh _ Bc hpre _;obtain⟨_,_,_,fn',aSm,_,_,_,_,aGE⟩:=Bc;obtain rfl:fn'=Tryz.f3:=Option.some.inj (aSm.symm.trans Tryz.func3);obtain⟨⟨⟨ds,gs,before,hw0,_⟩,hL0⟩,_⟩:=hpre;have hL:laidMetH Tryz.prog Wu (w.forCall tape i):=hL0.of_heap (by rfl);have hW:=DataW.Whole.of_heap (w':=w.forCall tape i) (by rfl) hw0
 suffices h:CT 3 i.args (w.forCall tape i) λe W'=>∃v,e=.returned v/\Rows.fnExactRunSpec.post enc Tryz.prog Tryz.f3 J true J J (w.forCall tape i) i.args v W' from h.mono λe W' ⟨v,he,hp⟩=>by subst he;exact ChangeSpec.post_blind hp
 generalize w.heap.size=base at aGE;generalize w.forCall tape i=W at*
 generalize i.args=args at*
 have aPq:∀(j:Nat) t v,Tryz.f3.params[j]?=Y t->args[j]?=Y v->Value.okWide Tryz.prog W .any base t v:=aGE;have hW':=hW;obtain⟨p,q,hA0,hV0,rfl,hfz,hnd⟩:=hW;have hA:DataW.TrodAll enc Tryz.prog W 0 (λ_=>true) true Tryz.f3.params.toList args.toList ds p:=hA0;have hV:DataW.TrodVars enc Tryz.prog W (λ_=>true) [DN,DL,DR] gs q:=hV0;rw[Tryz.params3]at hA aPq;obtain⟨v0,vs0,d0,ds0,p0,q0,aTu,rfl,rfl,h0,r0⟩:=trodAll_cons hA;obtain⟨rfl,rfl,rfl⟩:=trodAll_nil r0;obtain rfl:args=#[v0]:=by cases args;simp_all
 obtain⟨hX,hdb,hpw⟩:=Q5 hL;obtain rfl:=Ut hX hV;obtain⟨a0,rfl,rfl,rfl,w0⟩:=Go.ChangeMaps.open_string Tryz.underlying9 (aPq 0 9 v0 rfl rfl) h0;clear hA0 hV0 aGE;refine(aJc a0 (aDH hX.1) (aBT hX.2.1) (aDK hX.2.2) hdb hpw (Wn hsh)).mono λe W' ⟨he,dH⟩=>?_;subst he;obtain⟨_,hq⟩:=Yk enc dH hX (λb=>decide (b<W.heap.size));exact⟨_,rfl,_,_,_,[],_,_,hW',(trodAll_cons_mk (shut_bool Tryz.underlying4 _) trodAll_mk0),(trodAll_cons_mk (Go.ChangeMaps.shut_string Tryz.underlying9 w0) trodAll_mk0),hq,Below.frame dH _,λh=>by cases h⟩
end Go.Proofs.YthoelefkjpjhfaaGreatDoor.fnExactRun
