import Derived.Test.YtnbbfeknbfohhaaGreatDoorR3
import Derived.Test.YtnbbfeknbfohhaaGreatDoorA7
import Derived.Test.YtnbbfeknbfohhaaGreatDoorF2D
import Derived.Deep.DeepCutAuto
import Derived.Deep.RegionHeld3
set_option linter.unusedVariables false
set_option linter.unusedSimpArgs false
set_option maxRecDepth 1000000
set_option maxHeartbeats 40000000
open Go.Value renaming int → J, agg → O, bool → V
open Go.IntKind renaming i64 → Y, u64 → Z
open Go.Ending renaming returned → X
open Go.Proofs.Tryz
namespace Go.Proofs.YtnbbfeknbfohhaaGreatDoor
open Go.RowKit
theorem m64:og 53 (-1022) 1023 52 63 4503599627370496 9218868437227405312 9223372036854775808 9221120237041090560:=.inr ⟨rfl,rfl,rfl,rfl,rfl,rfl,rfl,rfl,rfl⟩
theorem je(f mode:Int)(hf:¬(f=0∨f=1)){w:World}(hw:Fm w):
  QR 70 #[J Y f,J Y mode] w (.tuple #[O #[J Y 53,J Y (-1022),J Y 1023,J Y 0,Value.nilFunc],V false]):=by
 have HF:KR 102 #[J Y f] (.tuple #[O #[J Y 0,J Y 0,J Y 0],V false]):=fun w'=>GX f hf w'
 have HW:Hid (∀w',Gr w w'→Fm w'):=fun w' hg=>hw.gr hg
 clear hf hw
 go_enter func70,ntmps70
 go_wp2_with (go_at_call 102;refine(HF.out _).mono ?_;rintro x w1 ⟨rfl,aj⟩;obtain⟨a0,a1,a2,a3,a4,a5⟩:=HW.out w1 Gr.g;have A3:=aK a3;have A4:=aK a4;have A5:=aK a5;obtain⟨bG,bK⟩:=aj.y1 w.heap.size 0 (J Y 0);have BQ:=aK bG;have MK:=bH bK;obtain⟨cO,bJ⟩:=aj.y1 w.heap.size 1 (J Y 0);have BP:=aK cO;have MJ:=bH bJ;obtain⟨iW,d_⟩:=aj.y1 w.heap.size 2 (J Y 0);have VU:=aK iW;have aCZ:=bH d_;obtain⟨ar3,dZ⟩:=aj.y1 w.heap.size 3 (J Y 0);have VT:=aK ar3;have aCY:=bH dZ;obtain⟨lW,gV⟩:=aj.y1 w.heap.size 4 (Value.nilFunc);have VR:=aK lW;have aCX:=bH gV)
 refine bodyPost_ret (v:=.tuple #[O #[J Y 53,J Y (-1022),J Y 1023,J Y 0,Value.nilFunc],V false]) (by simp[results,Tryz.results70,go_sem,BQ,BP,VU,VT,VR]) rfl ⟨rfl,?_⟩
 exact Gr.g
theorem gK{f p mx one inf sg nan mn fb sp:Int}(h:aI f p mx one inf sg nan)(hm:og p mn mx fb sp one inf sg nan)(mode:Int)(k:Nat)(HR:KR 158 #[J Y mode] (.tuple #[.func (.func k) #[] #[],V true])){w:World}(hw:Fm w):
  QR 70 #[J Y f,J Y mode] w (.tuple #[O #[J Y p,J Y mn,J Y mx,J Y mode,.func (.func k) #[] #[]],V true]):=by
 have HF:Hid (∀w',Gr w w'→QR 102 #[J Y f] w' (.tuple #[O #[J Y p,J Y mn,J Y mx],V true])):=fun w' hg=>vF h hm (hw.gr hg)
 clear h hm hw
 go_enter func70,ntmps70
 go_wp2_with (first
  |(go_at_call 102;refine(HF.out _ Gr.g).mono ?_;rintro x w1 ⟨rfl,aj⟩;obtain⟨bG,bK,cO,bJ,iW,d_,ar3,dZ,lW,gV⟩:=aj.y5 w.heap.size 0 1 2 3 4 (J Y 0) (J Y 0) (J Y 0) (J Y 0) (Value.nilFunc))
  |(go_at_call 158;refine(HR.out _).mono ?_;rintro x w2 ⟨rfl,ak⟩;obtain⟨iF,h_,jh,g_,lZ,jM,lY,jL,vS,oP⟩:=ak.y5 w.heap.size 0 1 2 3 4 (J Y 0) (J Y 0) (J Y 0) (J Y 0) (Value.nilFunc);obtain⟨bm0,bm1,bm2⟩:=ak.e3 w1.heap.size 0 1 2 (J Y p) (J Y mn) (J Y mx)))
 refine bodyPost_ret (v:=.tuple #[O #[J Y p,J Y mn,J Y mx,J Y mode,.func (.func k) #[] #[]],V true]) (by simp[results,Tryz.results70,go_sem,iF,jh,lZ,lY,vS]) rfl ⟨rfl,?_⟩
 exact Gr.g
theorem jm{f p mx one inf sg nan mn fb sp:Int}(h:aI f p mx one inf sg nan)(hm:og p mn mx fb sp one inf sg nan)(mode:Int)(HR:KR 158 #[J Y mode] (.tuple #[Value.nilFunc,V false])){w:World}(hw:Fm w):
  QR 70 #[J Y f,J Y mode] w (.tuple #[O #[J Y p,J Y mn,J Y mx,J Y mode,Value.nilFunc],V false]):=by
 have HF:Hid (∀w',Gr w w'→QR 102 #[J Y f] w' (.tuple #[O #[J Y p,J Y mn,J Y mx],V true])):=fun w' hg=>vF h hm (hw.gr hg)
 clear h hm hw
 go_enter func70,ntmps70
 go_wp2_with (first
  |(go_at_call 102;refine(HF.out _ Gr.g).mono ?_;rintro x w1 ⟨rfl,aj⟩;obtain⟨bG,bK,cO,bJ,iW,d_,ar3,dZ,lW,gV⟩:=aj.y5 w.heap.size 0 1 2 3 4 (J Y 0) (J Y 0) (J Y 0) (J Y 0) (Value.nilFunc))
  |(go_at_call 158;refine(HR.out _).mono ?_;rintro x w2 ⟨rfl,ak⟩;obtain⟨iF,h_,jh,g_,lZ,jM,lY,jL,vS,oP⟩:=ak.y5 w.heap.size 0 1 2 3 4 (J Y 0) (J Y 0) (J Y 0) (J Y 0) (Value.nilFunc);obtain⟨bm0,bm1,bm2⟩:=ak.e3 w1.heap.size 0 1 2 (J Y p) (J Y mn) (J Y mx)))
 refine bodyPost_ret (v:=.tuple #[O #[J Y p,J Y mn,J Y mx,J Y mode,Value.nilFunc],V false]) (by simp[results,Tryz.results70,go_sem,iF,jh,lZ,lY,vS]) rfl ⟨rfl,?_⟩
 exact Gr.g
theorem FV{p mn mx fb sp one inf sg nan:Int}(h:og p mn mx fb sp one inf sg nan)(W:Int)(h0:0≤W)(h1:W<2*sg)(w:World):
  CT 73 #[O #[J Y p,J Y mn,J Y mx],J Z W] w fun e w'=>∃c s x g:Int,bY p mx one inf sg nan W c s x g∧e=X (O #[J Y s,J Y x,J Y c,J Z 0,J Z g,V false,J Y 0])∧Gr w w':=by
 have HU:Hid (∀w,CT 160 #[O #[J Y p,J Y mn,J Y mx],J Z W] w fun e w'=>∃c s x g:Int,bY p mx one inf sg nan W c s x g∧e=X (O #[J Y c,J Y s,J Y x,J Z g])∧Gr w w'):=fun w=>I5 h W h0 h1 w
 clear h
 go_enter func73,ntmps73
 go_wp2_with (go_at_call 160;refine(HU.out _).mono ?_;rintro e w1 ⟨c,s,x,g,hu,rfl,aj⟩;obtain⟨bG,bK⟩:=aj.y1 (w.heap.size+1) 0 (J Y 0);have BQ:=aK bG;have MK:=bH bK;obtain⟨cO,bJ⟩:=aj.y1 (w.heap.size+1) 1 (J Y 0);have BP:=aK cO;have MJ:=bH bJ;obtain⟨iW,d_⟩:=aj.y1 (w.heap.size+1) 2 (J Y 0);have VU:=aK iW;have aCZ:=bH d_;obtain⟨ar3,dZ⟩:=aj.y1 (w.heap.size+1) 3 (J Z 0);have VT:=aK ar3;have aCY:=bH dZ;obtain⟨lW,gV⟩:=aj.y1 (w.heap.size+1) 4 (J Z 0);have VR:=aK lW;have aCX:=bH gV;obtain⟨mX,iM⟩:=aj.y1 (w.heap.size+1) 5 (V false);have aBE:=aK mX;have aEn:=bH iM;obtain⟨mW,iK⟩:=aj.y1 (w.heap.size+1) 6 (J Y 0);have aBD:=aK mW;have aEm:=bH iK)
 refine bodyPost_ret (v:=O #[J Y s,J Y x,J Y c,J Z 0,J Z g,V false,J Y 0]) (by simp[results,Tryz.results73,go_sem,BQ,BP,VU,VT,VR,aBE,aBD]) rfl ⟨c,s,x,g,hu,rfl,?_⟩
 exact Gr.g
theorem Dz{p mn mx fb sp one inf sg nan:Int}(h:og p mn mx fb sp one inf sg nan)(W:Int)(h0:2*sg≤W)(h1:W<18446744073709551616)(w:World):
  QR 73 #[O #[J Y p,J Y mn,J Y mx],J Z W] w (O #[J Y 0,J Y 0,J Y 4,J Z 0,J Z 0,V false,J Y 0]):=by
 have HU:KR 160 #[O #[J Y p,J Y mn,J Y mx],J Z W] (O #[J Y 4,J Y 0,J Y 0,J Z 0]):=fun w=>EP h W h0 h1 w
 clear h
 go_enter func73,ntmps73
 go_wp2_with (go_at_call 160;refine(HU.out _).mono ?_;rintro e w1 ⟨rfl,aj⟩;obtain⟨bG,bK⟩:=aj.y1 (w.heap.size+1) 0 (J Y 0);have BQ:=aK bG;have MK:=bH bK;obtain⟨cO,bJ⟩:=aj.y1 (w.heap.size+1) 1 (J Y 0);have BP:=aK cO;have MJ:=bH bJ;obtain⟨iW,d_⟩:=aj.y1 (w.heap.size+1) 2 (J Y 0);have VU:=aK iW;have aCZ:=bH d_;obtain⟨ar3,dZ⟩:=aj.y1 (w.heap.size+1) 3 (J Z 0);have VT:=aK ar3;have aCY:=bH dZ;obtain⟨lW,gV⟩:=aj.y1 (w.heap.size+1) 4 (J Z 0);have VR:=aK lW;have aCX:=bH gV;obtain⟨mX,iM⟩:=aj.y1 (w.heap.size+1) 5 (V false);have aBE:=aK mX;have aEn:=bH iM;obtain⟨mW,iK⟩:=aj.y1 (w.heap.size+1) 6 (J Y 0);have aBD:=aK mW;have aEm:=bH iK)
 refine bodyPost_ret (v:=O #[J Y 0,J Y 0,J Y 4,J Z 0,J Z 0,V false,J Y 0]) (by simp[results,Tryz.results73,go_sem,BQ,BP,VU,VT,VR,aBE,aBD]) rfl ⟨rfl,?_⟩
 exact Gr.g
theorem Uk(p mn mx md:Int)(k:Nat)(s e mh ml:Int)(st:Bool)(z:Int)(HZ:KR 106 #[O #[J Y p,J Y mn,J Y mx],J Y s] (J Z z))(w:World):
  QR 177 #[O #[J Y p,J Y mn,J Y mx,J Y md,.func (.func k) #[] #[]],O #[J Y s,J Y e,J Y 0,J Z mh,J Z ml,V st,J Y 0]] w (O #[J Z z,J Y 0]):=by
 go_enter func177,ntmps177
 go_wp2_with (go_at_call 106;refine(HZ.out _).mono ?_;rintro e w1 ⟨rfl,aj⟩;obtain⟨bG,bK,cO,bJ⟩:=aj.y2 (w.heap.size+1+1) 0 1 (J Z 0) (J Y 0))
 refine bodyPost_ret (v:=O #[J Z z,J Y 0]) (by simp[results,Tryz.results177,go_sem,bG,cO]) rfl ⟨rfl,?_⟩
 exact Gr.g
theorem Np(p mn mx md:Int)(k:Nat)(s e mh ml:Int)(st:Bool)(fl z:Int)(HZ:KR 105 #[O #[J Y p,J Y mn,J Y mx],J Y s] (J Z z))(w:World):
  QR 177 #[O #[J Y p,J Y mn,J Y mx,J Y md,.func (.func k) #[] #[]],O #[J Y s,J Y e,J Y 2,J Z mh,J Z ml,V st,J Y fl]] w (O #[J Z z,J Y fl]):=by
 go_enter func177,ntmps177
 go_wp2
 go_region_held3 (fun w'=>w'.cell? ⟨w.heap.size,0,none⟩=some (J Y p)∧w'.cell? ⟨w.heap.size,1,none⟩=some (J Y mn)∧w'.cell? ⟨w.heap.size,2,none⟩=some (J Y mx)∧w'.cell? ⟨w.heap.size+1,0,none⟩=some (J Y s)∧w'.cell? ⟨w.heap.size+1,6,none⟩=some (J Y fl))
  ((go_split_ands;(repeat' apply And.intro)<;>exact kl))
  (first|(go_at_call 105;refine(HZ.out _).mono ?_;rintro e w1 ⟨rfl,aj⟩;obtain⟨bG,bK,cO,bJ⟩:=aj.y2 (w.heap.size+1+1) 0 1 (J Z 0) (J Y 0)))
 all_goals (try go_split_ands)
 all_goals go_wp2
 all_goals
  refine bodyPost_ret (v:=O #[J Z z,J Y fl]) (by simp[results,Tryz.results177,go_sem,bG,cO]) rfl ⟨rfl,?_⟩
  exact Gr.g
theorem Uj(p mn mx md:Int)(k:Nat)(s e mh ml:Int)(st:Bool)(z:Int)(HZ:KR 105 #[O #[J Y p,J Y mn,J Y mx],J Y s] (J Z z))(w:World):
  QR 177 #[O #[J Y p,J Y mn,J Y mx,J Y md,.func (.func k) #[] #[]],O #[J Y s,J Y e,J Y 2,J Z mh,J Z ml,V st,J Y 0]] w (O #[J Z z,J Y 0]):=Np p mn mx md k s e mh ml st 0 z HZ w
theorem Ui(p mn mx md:Int)(k:Nat)(s e mh ml:Int)(st:Bool)(z:Int)(HZ:KR 103 #[O #[J Y p,J Y mn,J Y mx]] (J Z z))(w:World):
  QR 177 #[O #[J Y p,J Y mn,J Y mx,J Y md,.func (.func k) #[] #[]],O #[J Y s,J Y e,J Y 3,J Z mh,J Z ml,V st,J Y 0]] w (O #[J Z z,J Y 0]):=by
 go_enter func177,ntmps177
 go_wp2_with (go_at_call 103;refine(HZ.out _).mono ?_;rintro e w1 ⟨rfl,aj⟩;obtain⟨bG,bK,cO,bJ⟩:=aj.y2 (w.heap.size+1+1) 0 1 (J Z 0) (J Y 0))
 refine bodyPost_ret (v:=O #[J Z z,J Y 0]) (by simp[results,Tryz.results177,go_sem,bG,cO]) rfl ⟨rfl,?_⟩
 exact Gr.g
theorem Uh(p mn mx md:Int)(k:Nat)(s e mh ml:Int)(st:Bool)(z:Int)(HZ:KR 176 #[O #[J Y p,J Y mn,J Y mx]] (O #[J Z z,J Y 1]))(w:World):
  QR 177 #[O #[J Y p,J Y mn,J Y mx,J Y md,.func (.func k) #[] #[]],O #[J Y s,J Y e,J Y 4,J Z mh,J Z ml,V st,J Y 0]] w (O #[J Z z,J Y 1]):=by
 go_enter func177,ntmps177
 go_wp2_with (go_at_call 176;refine(HZ.out _).mono ?_;rintro e w1 ⟨rfl,aj⟩;obtain⟨bG,bK,cO,bJ⟩:=aj.y2 (w.heap.size+1+1) 0 1 (J Z 0) (J Y 0))
 refine bodyPost_ret (v:=O #[J Z z,J Y 1]) (by simp[results,Tryz.results177,go_sem,bG,cO]) rfl ⟨rfl,?_⟩
 exact Gr.g
theorem XJ(p mn mx md:Int)(k:Nat)(s e mh ml:Int)(st:Bool)(of:Int)(Q:Int→Int→Prop)(G:Int→Int)(hG:Hid (∀z fl,Q z fl→bits .or Y fl of=G fl))(HR:Hid (∀w,CT 186 #[O #[J Y p,J Y mn,J Y mx,J Y md,.func (.func k) #[] #[]],J Y s,J Y e,O #[J Z mh,J Z ml],V st] w fun e w'=>∃z fl,Q z fl∧e=X (O #[J Z z,J Y fl])∧Gr w w'))(w:World):
  CT 177 #[O #[J Y p,J Y mn,J Y mx,J Y md,.func (.func k) #[] #[]],O #[J Y s,J Y e,J Y 1,J Z mh,J Z ml,V st,J Y of]] w fun e w'=>∃z fl,Q z fl∧e=X (O #[J Z z,J Y (G fl)])∧Gr w w':=by
 go_enter func177,ntmps177
 go_upto_region 6 with(go_at_call 186;refine(HR.out _).mono ?_;rintro e w1 ⟨z,fl,hq,rfl,aj⟩;obtain⟨bG,bK,cO,bJ⟩:=aj.y2 (w.heap.size+1+1) 0 1 (J Z 0) (J Y 0);have ax6:=aj.e1 (w.heap.size+1) 6 (J Y of);have hz1:=au bG;have hor:=hG.out z fl hq)
 obtain⟨w2,hw2⟩:∃w2,w1.alloc (.cells #[J Z z,J Y fl] 41)=w2:=⟨_,rfl⟩
 have ak:Gr w1 w2:=by rw[←hw2];exact(Gr.refl _).alloc _ _
 have x0:w2.cell? ⟨w1.heap.size,0,none⟩=some (J Z z):=by rw[←hw2];simp[go_sem]
 have x1:w2.cell? ⟨w1.heap.size,1,none⟩=some (J Y fl):=by rw[←hw2];simp[go_sem]
 have xz1:w2.frozen? ⟨w1.heap.size,1,none⟩=false:=by rw[←hw2];simp[go_sem]
 have hz2:w1.heap.size<w2.heap.size:=by rw[←hw2];simp
 rw[hw2]
 clear hw2
 obtain⟨iF,h_,jh,g_⟩:=ak.y2 (w.heap.size+1+1) 0 1 (J Z 0) (J Y 0);have YB:=ak.e1 (w.heap.size+1) 6 (J Y of)
 have hgw:Gr w w2:=Gr.g
 go_wp2
 refine bodyPost_ret (v:=O #[J Z z,J Y (G fl)]) (by simp[results,Tryz.results177,go_sem,iF,jh]) rfl ⟨z,fl,hq,rfl,?_⟩
 exact Gr.g
theorem XK{fl:Int}(h:fl=0∨fl=16∨fl=20∨fl=24):bits .or Y fl 0=fl:=by rcases h with rfl|rfl|rfl|rfl<;>decide+kernel
theorem JL(p mn mx md:Int)(k:Nat)(s e mh ml:Int)(st:Bool)(Q:Int→Int→Prop)(hQ:∀z fl,Q z fl→fl=0∨fl=16∨fl=20∨fl=24)(HR:Hid (∀w,CT 186 #[O #[J Y p,J Y mn,J Y mx,J Y md,.func (.func k) #[] #[]],J Y s,J Y e,O #[J Z mh,J Z ml],V st] w fun e w'=>∃z fl,Q z fl∧e=X (O #[J Z z,J Y fl])∧Gr w w'))(w:World):
  CT 177 #[O #[J Y p,J Y mn,J Y mx,J Y md,.func (.func k) #[] #[]],O #[J Y s,J Y e,J Y 1,J Z mh,J Z ml,V st,J Y 0]] w fun e w'=>∃z fl,Q z fl∧e=X (O #[J Z z,J Y fl])∧Gr w w':=
 XJ p mn mx md k s e mh ml st 0 Q (fun fl=>fl) (fun z fl h=>XK (hQ z fl h)) HR w
theorem jV(p mn mx md:Int)(k:Nat)(sx ex cx xh xl sy ey cy yh yl:Int)(tx ty:Bool)(own:Nat)(m:Int)(hm:max cx cy=m)(h3:3≤m)(w:World):
  QR 74 #[O #[J Y p,J Y mn,J Y mx,J Y md,.func (.func k) #[] #[]],.func (.func own) #[] #[],O #[J Y sx,J Y ex,J Y cx,J Z xh,J Z xl,V tx,J Y 0],O #[J Y sy,J Y ey,J Y cy,J Z yh,J Z yl,V ty,J Y 0]] w (O #[J Y 0,J Y 0,J Y m,J Z 0,J Z 0,V false,J Y 0]):=by
 go_enter func74,ntmps74
 go_wp2
 go_returns
 exact⟨rfl,Gr.g⟩
theorem Zi{P:Prop}(h:P:=by
 refine bodyPost_ret (v:=O #[J Y os,J Y oe,J Y oc,J Z oh,J Z ol,V ot,J Y 0]) (by simp[results,Tryz.results74,go_sem,bG,cO,iW,ar3,lW,mX,mW]) rfl ⟨os,oe,oc,oh,ol,ot,hq,rfl,?_⟩
 exact Gr.g):P:=h
theorem G_(p mn mx md:Int)(k:Nat)(sx ex cx xh xl sy ey cy yh yl:Int)(tx ty:Bool)(m:Int)(hm:max cx cy=m)(h3:m<3)(Q:Int→Int→Int→Int→Int→Bool→Prop)(HO:Hid (∀w,CT 169 #[O #[J Y p,J Y mn,J Y mx,J Y md,.func (.func k) #[] #[]],O #[J Y sx,J Y ex,J Y cx,J Z xh,J Z xl,V tx,J Y 0],O #[J Y sy,J Y ey,J Y cy,J Z yh,J Z yl,V ty,J Y 0]] w fun e w'=>∃os oe oc oh ol ot,Q os oe oc oh ol ot∧e=X (O #[J Y os,J Y oe,J Y oc,J Z oh,J Z ol,V ot,J Y 0])∧Gr w w'))(w:World):
  CT 74 #[O #[J Y p,J Y mn,J Y mx,J Y md,.func (.func k) #[] #[]],.func (.func 169) #[] #[],O #[J Y sx,J Y ex,J Y cx,J Z xh,J Z xl,V tx,J Y 0],O #[J Y sy,J Y ey,J Y cy,J Z yh,J Z yl,V ty,J Y 0]] w fun e w'=>∃os oe oc oh ol ot,Q os oe oc oh ol ot∧e=X (O #[J Y os,J Y oe,J Y oc,J Z oh,J Z ol,V ot,J Y 0])∧Gr w w':=by
 go_enter func74,ntmps74
 go_wp2_with (go_at_call 169;refine(HO.out _).mono ?_;rintro e w1 ⟨os,oe,oc,oh,ol,ot,hq,rfl,aj⟩;obtain⟨bG,bK,cO,bJ,iW,d_,ar3,dZ,lW,gV,mX,iM,mW,iK⟩:=aj.y7 (w.heap.size+1+1+1) 0 1 2 3 4 5 6 (J Y 0) (J Y 0) (J Y 0) (J Z 0) (J Z 0) (V false) (J Y 0))
 exact Zi
theorem yj(p mn mx md:Int)(k:Nat)(sx ex cx xh xl sy ey cy yh yl:Int)(tx ty:Bool)(m:Int)(hm:max cx cy=m)(h3:m<3)(Q:Int→Int→Int→Int→Int→Bool→Prop)(HO:Hid (∀w,CT 174 #[O #[J Y p,J Y mn,J Y mx,J Y md,.func (.func k) #[] #[]],O #[J Y sx,J Y ex,J Y cx,J Z xh,J Z xl,V tx,J Y 0],O #[J Y sy,J Y ey,J Y cy,J Z yh,J Z yl,V ty,J Y 0]] w fun e w'=>∃os oe oc oh ol ot,Q os oe oc oh ol ot∧e=X (O #[J Y os,J Y oe,J Y oc,J Z oh,J Z ol,V ot,J Y 0])∧Gr w w'))(w:World):
  CT 74 #[O #[J Y p,J Y mn,J Y mx,J Y md,.func (.func k) #[] #[]],.func (.func 174) #[] #[],O #[J Y sx,J Y ex,J Y cx,J Z xh,J Z xl,V tx,J Y 0],O #[J Y sy,J Y ey,J Y cy,J Z yh,J Z yl,V ty,J Y 0]] w fun e w'=>∃os oe oc oh ol ot,Q os oe oc oh ol ot∧e=X (O #[J Y os,J Y oe,J Y oc,J Z oh,J Z ol,V ot,J Y 0])∧Gr w w':=by
 go_enter func74,ntmps74
 go_wp2_with (go_at_call 174;refine(HO.out _).mono ?_;rintro e w1 ⟨os,oe,oc,oh,ol,ot,hq,rfl,aj⟩;obtain⟨bG,bK,cO,bJ,iW,d_,ar3,dZ,lW,gV,mX,iM,mW,iK⟩:=aj.y7 (w.heap.size+1+1+1) 0 1 2 3 4 5 6 (J Y 0) (J Y 0) (J Y 0) (J Z 0) (J Z 0) (V false) (J Y 0))
 exact Zi
