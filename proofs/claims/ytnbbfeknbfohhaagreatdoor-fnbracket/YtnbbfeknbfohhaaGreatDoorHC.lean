import Derived.Test.YtnbbfeknbfohhaaGreatDoorB5
import Derived.Test.YtnbbfeknbfohhaaGreatDoorH2
import Derived.Deep.RegionHeld3
import Derived.Deep.DeepCutAuto
set_option linter.unusedVariables false
set_option linter.unusedSimpArgs false
set_option maxRecDepth 1000000
set_option maxHeartbeats 40000000
open Go.Value renaming int → J, agg → O, bool → X
open Go.IntKind renaming i64 → Y, u64 → Z
open Go.Proofs.Tryz
namespace Go.Proofs.YtnbbfeknbfohhaaGreatDoor
open Go.RowKit
theorem Y4{P:Prop}(h:P:=by
 go_wp2
 refine bodyPost_ret (v:=O #[J Y 0,J Y 0,J Y 4,J Z 0,J Z 0,X false,J Y 0]) (by simp[results,Tryz.results179,go_sem,iF,jh,lZ,lY,vS,yF,yE]) rfl ⟨rfl,?_⟩
 exact Gr.g):P:=h
theorem Y5{P:Prop}(h:P:=by
 go_wp2
 refine bodyPost_ret (v:=O #[J Y zs,J Y ze,J Y 2,J Z 0,J Z 0,X false,J Y 0]) (by simp[results,Tryz.results179,go_sem,iF,jh,lZ,lY,vS,yF,yE]) rfl ⟨rfl,?_⟩
 exact Gr.g):P:=h
theorem SK{P:Prop}(h:P:=by
 go_wp2
 refine bodyPost_ret (v:=O #[J Y zs,J Y ze,J Y 0,J Z 0,J Z 0,X false,J Y 0]) (by simp[results,Tryz.results179,go_sem,iF,jh,lZ,lY,vS,yF,yE]) rfl ⟨rfl,?_⟩
 exact Gr.g):P:=h
theorem EY(s e s' e':Int)(hs:s=0∨s=1)(ht:s'=0∨s'=1)(e0:-50000≤e)(e1:e≤50000)(f0:-50000≤e')(f1:e'≤50000)(w:World):
  QR 220 #[O #[J Y s,J Y e],O #[J Y s',J Y e']] w (O #[J Y (mulS s s'),J Y (e-e')]):=by
 have u1:=YO s s' hs ht
 have u2:IntKind.i64.wrap (e-e')=e-e':=wi
 generalize mulS s s'=z at*
 go_enter func220,ntmps220
 go_wp2
 go_returns
 exact⟨aU (by simp[u1,u2]),Gr.g⟩
theorem FM(p mn mx md:Int)(k:Nat)(sx ex xh xl sy ey yh yl:Int)(tx ty:Bool)(zs ze:Int)(HT:KR 220 #[O #[J Y sx,J Y ex],O #[J Y sy,J Y ey]] (O #[J Y zs,J Y ze]))(w:World):
  QR 179 #[O #[J Y p,J Y mn,J Y mx,J Y md,.func (.func k) #[] #[]],O #[J Y sx,J Y ex,J Y 0,J Z xh,J Z xl,X tx,J Y 0],O #[J Y sy,J Y ey,J Y 0,J Z yh,J Z yl,X ty,J Y 0]] w (O #[J Y 0,J Y 0,J Y 4,J Z 0,J Z 0,X false,J Y 0]):=by
 go_enter func179,ntmps179
 go_upto_region 2 with(go_at_call 220;refine(HT.out _).mono ?_;rintro e w1 ⟨rfl,aj⟩;obtain⟨as0,RS,RQ,RP,RN⟩:=aj.e5 w.heap.size 0 1 2 3 4 (J Y p) (J Y mn) (J Y mx) (J Y md) (.func (.func k) #[] #[]);obtain⟨oQ,yI⟩:=aj.e2 (w.heap.size+1) 2 4 (J Y 0) (J Z xl);obtain⟨sK,BO⟩:=aj.e2 (w.heap.size+1+1) 2 4 (J Y 0) (J Z yl);obtain⟨bG,bK,cO,bJ,iW,d_,ar3,dZ,lW,gV,mX,iM,mW,iK⟩:=aj.y7 (w.heap.size+1+1+1) 0 1 2 3 4 5 6 (J Y 0) (J Y 0) (J Y 0) (J Z 0) (J Z 0) (X false) (J Y 0);have hz1:=au bG)
 obtain⟨w2,hw2⟩:∃w2,w1.alloc (.cells #[J Y zs,J Y ze] 118)=w2:=⟨_,rfl⟩
 have ak:Gr w1 w2:=by rw[←hw2];exact(Gr.refl _).alloc _ _
 have at0:w2.cell? ⟨w1.heap.size,0,none⟩=some (J Y zs):=by rw[←hw2];simp[go_sem]
 have YF:w2.cell? ⟨w1.heap.size,1,none⟩=some (J Y ze):=by rw[←hw2];simp[go_sem]
 have hz2:w1.heap.size<w2.heap.size:=by rw[←hw2];simp
 rw[hw2]
 clear hw2
 obtain⟨IK,IJ,II,IG,IE⟩:=ak.e5 w.heap.size 0 1 2 3 4 (J Y p) (J Y mn) (J Y mx) (J Y md) (.func (.func k) #[] #[]);obtain⟨ug,Ib⟩:=ak.e2 (w.heap.size+1) 2 4 (J Y 0) (J Z xl);obtain⟨L9,by4⟩:=ak.e2 (w.heap.size+1+1) 2 4 (J Y 0) (J Z yl);obtain⟨iF,h_,jh,g_,lZ,jM,lY,jL,vS,oP,yF,qC,yE,qB⟩:=ak.y7 (w.heap.size+1+1+1) 0 1 2 3 4 5 6 (J Y 0) (J Y 0) (J Y 0) (J Z 0) (J Z 0) (X false) (J Y 0)
 exact Y4
theorem FK(p mn mx md:Int)(k:Nat)(sx ex xh xl sy ey yh yl:Int)(tx ty:Bool)(zs ze:Int)(HT:KR 220 #[O #[J Y sx,J Y ex],O #[J Y sy,J Y ey]] (O #[J Y zs,J Y ze]))(w:World):
  QR 179 #[O #[J Y p,J Y mn,J Y mx,J Y md,.func (.func k) #[] #[]],O #[J Y sx,J Y ex,J Y 0,J Z xh,J Z xl,X tx,J Y 0],O #[J Y sy,J Y ey,J Y 1,J Z yh,J Z yl,X ty,J Y 0]] w (O #[J Y zs,J Y ze,J Y 0,J Z 0,J Z 0,X false,J Y 0]):=by
 go_enter func179,ntmps179
 go_upto_region 2 with(go_at_call 220;refine(HT.out _).mono ?_;rintro e w1 ⟨rfl,aj⟩;obtain⟨as0,RS,RQ,RP,RN⟩:=aj.e5 w.heap.size 0 1 2 3 4 (J Y p) (J Y mn) (J Y mx) (J Y md) (.func (.func k) #[] #[]);obtain⟨oQ,yI⟩:=aj.e2 (w.heap.size+1) 2 4 (J Y 0) (J Z xl);obtain⟨sK,BO⟩:=aj.e2 (w.heap.size+1+1) 2 4 (J Y 1) (J Z yl);obtain⟨bG,bK,cO,bJ,iW,d_,ar3,dZ,lW,gV,mX,iM,mW,iK⟩:=aj.y7 (w.heap.size+1+1+1) 0 1 2 3 4 5 6 (J Y 0) (J Y 0) (J Y 0) (J Z 0) (J Z 0) (X false) (J Y 0);have hz1:=au bG)
 obtain⟨w2,hw2⟩:∃w2,w1.alloc (.cells #[J Y zs,J Y ze] 118)=w2:=⟨_,rfl⟩
 have ak:Gr w1 w2:=by rw[←hw2];exact(Gr.refl _).alloc _ _
 have at0:w2.cell? ⟨w1.heap.size,0,none⟩=some (J Y zs):=by rw[←hw2];simp[go_sem]
 have YF:w2.cell? ⟨w1.heap.size,1,none⟩=some (J Y ze):=by rw[←hw2];simp[go_sem]
 have hz2:w1.heap.size<w2.heap.size:=by rw[←hw2];simp
 rw[hw2]
 clear hw2
 obtain⟨IK,IJ,II,IG,IE⟩:=ak.e5 w.heap.size 0 1 2 3 4 (J Y p) (J Y mn) (J Y mx) (J Y md) (.func (.func k) #[] #[]);obtain⟨ug,Ib⟩:=ak.e2 (w.heap.size+1) 2 4 (J Y 0) (J Z xl);obtain⟨L9,by4⟩:=ak.e2 (w.heap.size+1+1) 2 4 (J Y 1) (J Z yl);obtain⟨iF,h_,jh,g_,lZ,jM,lY,jL,vS,oP,yF,qC,yE,qB⟩:=ak.y7 (w.heap.size+1+1+1) 0 1 2 3 4 5 6 (J Y 0) (J Y 0) (J Y 0) (J Z 0) (J Z 0) (X false) (J Y 0)
 exact SK
theorem FI(p mn mx md:Int)(k:Nat)(sx ex xh xl sy ey yh yl:Int)(tx ty:Bool)(zs ze:Int)(HT:KR 220 #[O #[J Y sx,J Y ex],O #[J Y sy,J Y ey]] (O #[J Y zs,J Y ze]))(w:World):
  QR 179 #[O #[J Y p,J Y mn,J Y mx,J Y md,.func (.func k) #[] #[]],O #[J Y sx,J Y ex,J Y 0,J Z xh,J Z xl,X tx,J Y 0],O #[J Y sy,J Y ey,J Y 2,J Z yh,J Z yl,X ty,J Y 0]] w (O #[J Y zs,J Y ze,J Y 0,J Z 0,J Z 0,X false,J Y 0]):=by
 go_enter func179,ntmps179
 go_upto_region 2 with(go_at_call 220;refine(HT.out _).mono ?_;rintro e w1 ⟨rfl,aj⟩;obtain⟨as0,RS,RQ,RP,RN⟩:=aj.e5 w.heap.size 0 1 2 3 4 (J Y p) (J Y mn) (J Y mx) (J Y md) (.func (.func k) #[] #[]);obtain⟨oQ,yI⟩:=aj.e2 (w.heap.size+1) 2 4 (J Y 0) (J Z xl);obtain⟨sK,BO⟩:=aj.e2 (w.heap.size+1+1) 2 4 (J Y 2) (J Z yl);obtain⟨bG,bK,cO,bJ,iW,d_,ar3,dZ,lW,gV,mX,iM,mW,iK⟩:=aj.y7 (w.heap.size+1+1+1) 0 1 2 3 4 5 6 (J Y 0) (J Y 0) (J Y 0) (J Z 0) (J Z 0) (X false) (J Y 0);have hz1:=au bG)
 obtain⟨w2,hw2⟩:∃w2,w1.alloc (.cells #[J Y zs,J Y ze] 118)=w2:=⟨_,rfl⟩
 have ak:Gr w1 w2:=by rw[←hw2];exact(Gr.refl _).alloc _ _
 have at0:w2.cell? ⟨w1.heap.size,0,none⟩=some (J Y zs):=by rw[←hw2];simp[go_sem]
 have YF:w2.cell? ⟨w1.heap.size,1,none⟩=some (J Y ze):=by rw[←hw2];simp[go_sem]
 have hz2:w1.heap.size<w2.heap.size:=by rw[←hw2];simp
 rw[hw2]
 clear hw2
 obtain⟨IK,IJ,II,IG,IE⟩:=ak.e5 w.heap.size 0 1 2 3 4 (J Y p) (J Y mn) (J Y mx) (J Y md) (.func (.func k) #[] #[]);obtain⟨ug,Ib⟩:=ak.e2 (w.heap.size+1) 2 4 (J Y 0) (J Z xl);obtain⟨L9,by4⟩:=ak.e2 (w.heap.size+1+1) 2 4 (J Y 2) (J Z yl);obtain⟨iF,h_,jh,g_,lZ,jM,lY,jL,vS,oP,yF,qC,yE,qB⟩:=ak.y7 (w.heap.size+1+1+1) 0 1 2 3 4 5 6 (J Y 0) (J Y 0) (J Y 0) (J Z 0) (J Z 0) (X false) (J Y 0)
 exact SK
theorem FH(p mn mx md:Int)(k:Nat)(sx ex xh xl sy ey yh yl:Int)(tx ty:Bool)(zs ze:Int)(HT:KR 220 #[O #[J Y sx,J Y ex],O #[J Y sy,J Y ey]] (O #[J Y zs,J Y ze]))(w:World):
  QR 179 #[O #[J Y p,J Y mn,J Y mx,J Y md,.func (.func k) #[] #[]],O #[J Y sx,J Y ex,J Y 1,J Z xh,J Z xl,X tx,J Y 0],O #[J Y sy,J Y ey,J Y 0,J Z yh,J Z yl,X ty,J Y 0]] w (O #[J Y zs,J Y ze,J Y 2,J Z 0,J Z 0,X false,J Y 2]):=by
 go_enter func179,ntmps179
 go_upto_region 2 with(go_at_call 220;refine(HT.out _).mono ?_;rintro e w1 ⟨rfl,aj⟩;obtain⟨as0,RS,RQ,RP,RN⟩:=aj.e5 w.heap.size 0 1 2 3 4 (J Y p) (J Y mn) (J Y mx) (J Y md) (.func (.func k) #[] #[]);obtain⟨oQ,yI⟩:=aj.e2 (w.heap.size+1) 2 4 (J Y 1) (J Z xl);obtain⟨sK,BO⟩:=aj.e2 (w.heap.size+1+1) 2 4 (J Y 0) (J Z yl);obtain⟨bG,bK,cO,bJ,iW,d_,ar3,dZ,lW,gV,mX,iM,mW,iK⟩:=aj.y7 (w.heap.size+1+1+1) 0 1 2 3 4 5 6 (J Y 0) (J Y 0) (J Y 0) (J Z 0) (J Z 0) (X false) (J Y 0);have hz1:=au bG)
 obtain⟨w2,hw2⟩:∃w2,w1.alloc (.cells #[J Y zs,J Y ze] 118)=w2:=⟨_,rfl⟩
 have ak:Gr w1 w2:=by rw[←hw2];exact(Gr.refl _).alloc _ _
 have at0:w2.cell? ⟨w1.heap.size,0,none⟩=some (J Y zs):=by rw[←hw2];simp[go_sem]
 have YF:w2.cell? ⟨w1.heap.size,1,none⟩=some (J Y ze):=by rw[←hw2];simp[go_sem]
 have hz2:w1.heap.size<w2.heap.size:=by rw[←hw2];simp
 rw[hw2]
 clear hw2
 obtain⟨IK,IJ,II,IG,IE⟩:=ak.e5 w.heap.size 0 1 2 3 4 (J Y p) (J Y mn) (J Y mx) (J Y md) (.func (.func k) #[] #[]);obtain⟨ug,Ib⟩:=ak.e2 (w.heap.size+1) 2 4 (J Y 1) (J Z xl);obtain⟨L9,by4⟩:=ak.e2 (w.heap.size+1+1) 2 4 (J Y 0) (J Z yl);obtain⟨iF,h_,jh,g_,lZ,jM,lY,jL,vS,oP,yF,qC,yE,qB⟩:=ak.y7 (w.heap.size+1+1+1) 0 1 2 3 4 5 6 (J Y 0) (J Y 0) (J Y 0) (J Z 0) (J Z 0) (X false) (J Y 0)
 go_wp2
 refine bodyPost_ret (v:=O #[J Y zs,J Y ze,J Y 2,J Z 0,J Z 0,X false,J Y 2]) (by simp[results,Tryz.results179,go_sem,iF,jh,lZ,lY,vS,yF,yE]) rfl ⟨rfl,?_⟩
 exact Gr.g
theorem FC(p mn mx md:Int)(k:Nat)(sx ex xh xl sy ey yh yl:Int)(tx ty:Bool)(zs ze:Int)(HT:KR 220 #[O #[J Y sx,J Y ex],O #[J Y sy,J Y ey]] (O #[J Y zs,J Y ze]))(w:World):
  QR 179 #[O #[J Y p,J Y mn,J Y mx,J Y md,.func (.func k) #[] #[]],O #[J Y sx,J Y ex,J Y 1,J Z xh,J Z xl,X tx,J Y 0],O #[J Y sy,J Y ey,J Y 2,J Z yh,J Z yl,X ty,J Y 0]] w (O #[J Y zs,J Y ze,J Y 0,J Z 0,J Z 0,X false,J Y 0]):=by
 go_enter func179,ntmps179
 go_upto_region 2 with(go_at_call 220;refine(HT.out _).mono ?_;rintro e w1 ⟨rfl,aj⟩;obtain⟨as0,RS,RQ,RP,RN⟩:=aj.e5 w.heap.size 0 1 2 3 4 (J Y p) (J Y mn) (J Y mx) (J Y md) (.func (.func k) #[] #[]);obtain⟨oQ,yI⟩:=aj.e2 (w.heap.size+1) 2 4 (J Y 1) (J Z xl);obtain⟨sK,BO⟩:=aj.e2 (w.heap.size+1+1) 2 4 (J Y 2) (J Z yl);obtain⟨bG,bK,cO,bJ,iW,d_,ar3,dZ,lW,gV,mX,iM,mW,iK⟩:=aj.y7 (w.heap.size+1+1+1) 0 1 2 3 4 5 6 (J Y 0) (J Y 0) (J Y 0) (J Z 0) (J Z 0) (X false) (J Y 0);have hz1:=au bG)
 obtain⟨w2,hw2⟩:∃w2,w1.alloc (.cells #[J Y zs,J Y ze] 118)=w2:=⟨_,rfl⟩
 have ak:Gr w1 w2:=by rw[←hw2];exact(Gr.refl _).alloc _ _
 have at0:w2.cell? ⟨w1.heap.size,0,none⟩=some (J Y zs):=by rw[←hw2];simp[go_sem]
 have YF:w2.cell? ⟨w1.heap.size,1,none⟩=some (J Y ze):=by rw[←hw2];simp[go_sem]
 have hz2:w1.heap.size<w2.heap.size:=by rw[←hw2];simp
 rw[hw2]
 clear hw2
 obtain⟨IK,IJ,II,IG,IE⟩:=ak.e5 w.heap.size 0 1 2 3 4 (J Y p) (J Y mn) (J Y mx) (J Y md) (.func (.func k) #[] #[]);obtain⟨ug,Ib⟩:=ak.e2 (w.heap.size+1) 2 4 (J Y 1) (J Z xl);obtain⟨L9,by4⟩:=ak.e2 (w.heap.size+1+1) 2 4 (J Y 2) (J Z yl);obtain⟨iF,h_,jh,g_,lZ,jM,lY,jL,vS,oP,yF,qC,yE,qB⟩:=ak.y7 (w.heap.size+1+1+1) 0 1 2 3 4 5 6 (J Y 0) (J Y 0) (J Y 0) (J Z 0) (J Z 0) (X false) (J Y 0)
 exact SK
theorem FB(p mn mx md:Int)(k:Nat)(sx ex xh xl sy ey yh yl:Int)(tx ty:Bool)(zs ze:Int)(HT:KR 220 #[O #[J Y sx,J Y ex],O #[J Y sy,J Y ey]] (O #[J Y zs,J Y ze]))(w:World):
  QR 179 #[O #[J Y p,J Y mn,J Y mx,J Y md,.func (.func k) #[] #[]],O #[J Y sx,J Y ex,J Y 2,J Z xh,J Z xl,X tx,J Y 0],O #[J Y sy,J Y ey,J Y 0,J Z yh,J Z yl,X ty,J Y 0]] w (O #[J Y zs,J Y ze,J Y 2,J Z 0,J Z 0,X false,J Y 0]):=by
 go_enter func179,ntmps179
 go_upto_region 2 with(go_at_call 220;refine(HT.out _).mono ?_;rintro e w1 ⟨rfl,aj⟩;obtain⟨as0,RS,RQ,RP,RN⟩:=aj.e5 w.heap.size 0 1 2 3 4 (J Y p) (J Y mn) (J Y mx) (J Y md) (.func (.func k) #[] #[]);obtain⟨oQ,yI⟩:=aj.e2 (w.heap.size+1) 2 4 (J Y 2) (J Z xl);obtain⟨sK,BO⟩:=aj.e2 (w.heap.size+1+1) 2 4 (J Y 0) (J Z yl);obtain⟨bG,bK,cO,bJ,iW,d_,ar3,dZ,lW,gV,mX,iM,mW,iK⟩:=aj.y7 (w.heap.size+1+1+1) 0 1 2 3 4 5 6 (J Y 0) (J Y 0) (J Y 0) (J Z 0) (J Z 0) (X false) (J Y 0);have hz1:=au bG)
 obtain⟨w2,hw2⟩:∃w2,w1.alloc (.cells #[J Y zs,J Y ze] 118)=w2:=⟨_,rfl⟩
 have ak:Gr w1 w2:=by rw[←hw2];exact(Gr.refl _).alloc _ _
 have at0:w2.cell? ⟨w1.heap.size,0,none⟩=some (J Y zs):=by rw[←hw2];simp[go_sem]
 have YF:w2.cell? ⟨w1.heap.size,1,none⟩=some (J Y ze):=by rw[←hw2];simp[go_sem]
 have hz2:w1.heap.size<w2.heap.size:=by rw[←hw2];simp
 rw[hw2]
 clear hw2
 obtain⟨IK,IJ,II,IG,IE⟩:=ak.e5 w.heap.size 0 1 2 3 4 (J Y p) (J Y mn) (J Y mx) (J Y md) (.func (.func k) #[] #[]);obtain⟨ug,Ib⟩:=ak.e2 (w.heap.size+1) 2 4 (J Y 2) (J Z xl);obtain⟨L9,by4⟩:=ak.e2 (w.heap.size+1+1) 2 4 (J Y 0) (J Z yl);obtain⟨iF,h_,jh,g_,lZ,jM,lY,jL,vS,oP,yF,qC,yE,qB⟩:=ak.y7 (w.heap.size+1+1+1) 0 1 2 3 4 5 6 (J Y 0) (J Y 0) (J Y 0) (J Z 0) (J Z 0) (X false) (J Y 0)
 exact Y5
theorem Fz(p mn mx md:Int)(k:Nat)(sx ex xh xl sy ey yh yl:Int)(tx ty:Bool)(zs ze:Int)(HT:KR 220 #[O #[J Y sx,J Y ex],O #[J Y sy,J Y ey]] (O #[J Y zs,J Y ze]))(w:World):
  QR 179 #[O #[J Y p,J Y mn,J Y mx,J Y md,.func (.func k) #[] #[]],O #[J Y sx,J Y ex,J Y 2,J Z xh,J Z xl,X tx,J Y 0],O #[J Y sy,J Y ey,J Y 1,J Z yh,J Z yl,X ty,J Y 0]] w (O #[J Y zs,J Y ze,J Y 2,J Z 0,J Z 0,X false,J Y 0]):=by
 go_enter func179,ntmps179
 go_upto_region 2 with(go_at_call 220;refine(HT.out _).mono ?_;rintro e w1 ⟨rfl,aj⟩;obtain⟨as0,RS,RQ,RP,RN⟩:=aj.e5 w.heap.size 0 1 2 3 4 (J Y p) (J Y mn) (J Y mx) (J Y md) (.func (.func k) #[] #[]);obtain⟨oQ,yI⟩:=aj.e2 (w.heap.size+1) 2 4 (J Y 2) (J Z xl);obtain⟨sK,BO⟩:=aj.e2 (w.heap.size+1+1) 2 4 (J Y 1) (J Z yl);obtain⟨bG,bK,cO,bJ,iW,d_,ar3,dZ,lW,gV,mX,iM,mW,iK⟩:=aj.y7 (w.heap.size+1+1+1) 0 1 2 3 4 5 6 (J Y 0) (J Y 0) (J Y 0) (J Z 0) (J Z 0) (X false) (J Y 0);have hz1:=au bG)
 obtain⟨w2,hw2⟩:∃w2,w1.alloc (.cells #[J Y zs,J Y ze] 118)=w2:=⟨_,rfl⟩
 have ak:Gr w1 w2:=by rw[←hw2];exact(Gr.refl _).alloc _ _
 have at0:w2.cell? ⟨w1.heap.size,0,none⟩=some (J Y zs):=by rw[←hw2];simp[go_sem]
 have YF:w2.cell? ⟨w1.heap.size,1,none⟩=some (J Y ze):=by rw[←hw2];simp[go_sem]
 have hz2:w1.heap.size<w2.heap.size:=by rw[←hw2];simp
 rw[hw2]
 clear hw2
 obtain⟨IK,IJ,II,IG,IE⟩:=ak.e5 w.heap.size 0 1 2 3 4 (J Y p) (J Y mn) (J Y mx) (J Y md) (.func (.func k) #[] #[]);obtain⟨ug,Ib⟩:=ak.e2 (w.heap.size+1) 2 4 (J Y 2) (J Z xl);obtain⟨L9,by4⟩:=ak.e2 (w.heap.size+1+1) 2 4 (J Y 1) (J Z yl);obtain⟨iF,h_,jh,g_,lZ,jM,lY,jL,vS,oP,yF,qC,yE,qB⟩:=ak.y7 (w.heap.size+1+1+1) 0 1 2 3 4 5 6 (J Y 0) (J Y 0) (J Y 0) (J Z 0) (J Z 0) (X false) (J Y 0)
 exact Y5
theorem Fv(p mn mx md:Int)(k:Nat)(sx ex xh xl sy ey yh yl:Int)(tx ty:Bool)(zs ze:Int)(HT:KR 220 #[O #[J Y sx,J Y ex],O #[J Y sy,J Y ey]] (O #[J Y zs,J Y ze]))(w:World):
  QR 179 #[O #[J Y p,J Y mn,J Y mx,J Y md,.func (.func k) #[] #[]],O #[J Y sx,J Y ex,J Y 2,J Z xh,J Z xl,X tx,J Y 0],O #[J Y sy,J Y ey,J Y 2,J Z yh,J Z yl,X ty,J Y 0]] w (O #[J Y 0,J Y 0,J Y 4,J Z 0,J Z 0,X false,J Y 0]):=by
 go_enter func179,ntmps179
 go_upto_region 2 with(go_at_call 220;refine(HT.out _).mono ?_;rintro e w1 ⟨rfl,aj⟩;obtain⟨as0,RS,RQ,RP,RN⟩:=aj.e5 w.heap.size 0 1 2 3 4 (J Y p) (J Y mn) (J Y mx) (J Y md) (.func (.func k) #[] #[]);obtain⟨oQ,yI⟩:=aj.e2 (w.heap.size+1) 2 4 (J Y 2) (J Z xl);obtain⟨sK,BO⟩:=aj.e2 (w.heap.size+1+1) 2 4 (J Y 2) (J Z yl);obtain⟨bG,bK,cO,bJ,iW,d_,ar3,dZ,lW,gV,mX,iM,mW,iK⟩:=aj.y7 (w.heap.size+1+1+1) 0 1 2 3 4 5 6 (J Y 0) (J Y 0) (J Y 0) (J Z 0) (J Z 0) (X false) (J Y 0);have hz1:=au bG)
 obtain⟨w2,hw2⟩:∃w2,w1.alloc (.cells #[J Y zs,J Y ze] 118)=w2:=⟨_,rfl⟩
 have ak:Gr w1 w2:=by rw[←hw2];exact(Gr.refl _).alloc _ _
 have at0:w2.cell? ⟨w1.heap.size,0,none⟩=some (J Y zs):=by rw[←hw2];simp[go_sem]
 have YF:w2.cell? ⟨w1.heap.size,1,none⟩=some (J Y ze):=by rw[←hw2];simp[go_sem]
 have hz2:w1.heap.size<w2.heap.size:=by rw[←hw2];simp
 rw[hw2]
 clear hw2
 obtain⟨IK,IJ,II,IG,IE⟩:=ak.e5 w.heap.size 0 1 2 3 4 (J Y p) (J Y mn) (J Y mx) (J Y md) (.func (.func k) #[] #[]);obtain⟨ug,Ib⟩:=ak.e2 (w.heap.size+1) 2 4 (J Y 2) (J Z xl);obtain⟨L9,by4⟩:=ak.e2 (w.heap.size+1+1) 2 4 (J Y 2) (J Z yl);obtain⟨iF,h_,jh,g_,lZ,jM,lY,jL,vS,oP,yF,qC,yE,qB⟩:=ak.y7 (w.heap.size+1+1+1) 0 1 2 3 4 5 6 (J Y 0) (J Y 0) (J Y 0) (J Z 0) (J Z 0) (X false) (J Y 0)
 exact Y4
theorem FD(p mn mx md:Int)(k:Nat)(sx ex xh xl sy ey yh yl:Int)(tx ty:Bool)(zs ze:Int)(HT:KR 220 #[O #[J Y sx,J Y ex],O #[J Y sy,J Y ey]] (O #[J Y zs,J Y ze]))(A B:Nat)(hA:xl=(A:Int))(hB:yl=(B:Int))(hA1:A<18446744073709551616)(hB1:B<18446744073709551616)(os oe oc oh ol:Int)(ot:Bool)
  (HC:Hid (∀w v,wV (fun _ _=>B) A w v→QR 221 #[O #[J Y p,J Y mn,J Y mx,J Y md,.func (.func k) #[] #[]],O #[J Y zs,J Y ze],v] w (O #[J Y os,J Y oe,J Y oc,J Z oh,J Z ol,X ot,J Y 0]))) (w:World):
  QR 179 #[O #[J Y p,J Y mn,J Y mx,J Y md,.func (.func k) #[] #[]],O #[J Y sx,J Y ex,J Y 1,J Z xh,J Z xl,X tx,J Y 0],O #[J Y sy,J Y ey,J Y 1,J Z yh,J Z yl,X ty,J Y 0]] w (O #[J Y os,J Y oe,J Y oc,J Z oh,J Z ol,X ot,J Y 0]):=by
 subst hA hB
 have HQ:Hid (∀w,CT 222 #[J Z (A:Int),J Z (B:Int)] w fun e w'=>∃b1 b2,e=.returned (.func (.func 248) #[] #[.pointer (some ⟨b1,0,none⟩),.pointer (some ⟨b2,0,none⟩)])∧wV (fun _ _=>B) A w' (.func (.func 248) #[] #[.pointer (some ⟨b1,0,none⟩),.pointer (some ⟨b2,0,none⟩)])∧Gr w w'):=fun w=>(Bq A B hA1 hB1 w).mono (by
  rintro e w' ⟨v,rfl,hd,hg⟩
  obtain⟨b1,b2,rfl,hh⟩:=hd
  exact⟨b1,b2,rfl,⟨b1,b2,rfl,hh⟩,hg⟩)
 go_enter func179,ntmps179
 go_upto_region 2 with(go_at_call 220;refine(HT.out _).mono ?_;rintro e w1 ⟨rfl,aj⟩;obtain⟨as0,RS,RQ,RP,RN⟩:=aj.e5 w.heap.size 0 1 2 3 4 (J Y p) (J Y mn) (J Y mx) (J Y md) (.func (.func k) #[] #[]);obtain⟨oQ,yI⟩:=aj.e2 (w.heap.size+1) 2 4 (J Y 1) (J Z ((A:Int)));obtain⟨sK,BO⟩:=aj.e2 (w.heap.size+1+1) 2 4 (J Y 1) (J Z ((B:Int)));obtain⟨bG,bK,cO,bJ,iW,d_,ar3,dZ,lW,gV,mX,iM,mW,iK⟩:=aj.y7 (w.heap.size+1+1+1) 0 1 2 3 4 5 6 (J Y 0) (J Y 0) (J Y 0) (J Z 0) (J Z 0) (X false) (J Y 0);have hz1:=au bG)
 obtain⟨w2,hw2⟩:∃w2,w1.alloc (.cells #[J Y zs,J Y ze] 118)=w2:=⟨_,rfl⟩
 have ak:Gr w1 w2:=by rw[←hw2];exact(Gr.refl _).alloc _ _
 have at0:w2.cell? ⟨w1.heap.size,0,none⟩=some (J Y zs):=by rw[←hw2];simp[go_sem]
 have YF:w2.cell? ⟨w1.heap.size,1,none⟩=some (J Y ze):=by rw[←hw2];simp[go_sem]
 have hz2:w1.heap.size<w2.heap.size:=by rw[←hw2];simp
 rw[hw2]
 clear hw2
 obtain⟨IK,IJ,II,IG,IE⟩:=ak.e5 w.heap.size 0 1 2 3 4 (J Y p) (J Y mn) (J Y mx) (J Y md) (.func (.func k) #[] #[]);obtain⟨ug,Ib⟩:=ak.e2 (w.heap.size+1) 2 4 (J Y 1) (J Z ((A:Int)));obtain⟨L9,by4⟩:=ak.e2 (w.heap.size+1+1) 2 4 (J Y 1) (J Z ((B:Int)));obtain⟨iF,h_,jh,g_,lZ,jM,lY,jL,vS,oP,yF,qC,yE,qB⟩:=ak.y7 (w.heap.size+1+1+1) 0 1 2 3 4 5 6 (J Y 0) (J Y 0) (J Y 0) (J Z 0) (J Z 0) (X false) (J Y 0)
 go_wp2
 go_region_held3 (fun w'=>w'.cell? ⟨w.heap.size,0,none⟩=some (J Y p)∧w'.cell? ⟨w.heap.size,1,none⟩=some (J Y mn)∧w'.cell? ⟨w.heap.size,2,none⟩=some (J Y mx)∧w'.cell? ⟨w.heap.size,3,none⟩=some (J Y md)∧w'.cell? ⟨w.heap.size,4,none⟩=some (.func (.func k) #[] #[])∧w'.cell? ⟨w.heap.size+1,4,none⟩=some (J Z (A:Int))∧w'.cell? ⟨w.heap.size+1+1,4,none⟩=some (J Z (B:Int))∧w'.cell? ⟨w1.heap.size,0,none⟩=some (J Y zs)∧w'.cell? ⟨w1.heap.size,1,none⟩=some (J Y ze))
  ((go_split_ands;(repeat' apply And.intro)<;>exact kl))
  (first
   |(go_at_call 222;refine(HQ.out _).mono ?_;rintro e w4 ⟨b1,b2,rfl,hdg,aF⟩;obtain⟨vH,wK,vG,wJ,BJ,Af,BI,Ae,dr4,Vt,dr5,Vs,dr6,Vr⟩:=aF.y7 (w.heap.size+1+1+1) 0 1 2 3 4 5 6 (J Y 0) (J Y 0) (J Y 0) (J Z 0) (J Z 0) (X false) (J Y 0))
   |(go_at_call 221;refine(HC.out _ _ (wV.gr hdg Gr.g)).mono ?_;rintro e w3 ⟨rfl,aA⟩;obtain⟨lV,kZ,nX,kY,qX,nK,cr3,nJ,Ee,qW,Ed,qV,Ec,qU⟩:=aA.y7 (w.heap.size+1+1+1) 0 1 2 3 4 5 6 (J Y 0) (J Y 0) (J Y 0) (J Z 0) (J Z 0) (X false) (J Y 0)))
 all_goals (try go_split_ands)
 all_goals go_wp2
 all_goals
  refine bodyPost_ret (v:=O #[J Y os,J Y oe,J Y oc,J Z oh,J Z ol,X ot,J Y 0]) (by simp[results,Tryz.results179,go_sem,lV,nX,qX,cr3,Ee,Ed,Ec]) rfl ⟨rfl,?_⟩
  exact Gr.g
theorem xI(p mn mx md:Int)(k:Nat)(sx ex cx xh xl sy ey cy yh yl:Int)(tx ty:Bool)(w:World):
  QR 183 #[O #[J Y p,J Y mn,J Y mx,J Y md,.func (.func k) #[] #[]],O #[J Y sx,J Y ex,J Y 0,J Z xh,J Z xl,X tx,J Y 0],O #[J Y sy,J Y ey,J Y cy,J Z yh,J Z yl,X ty,J Y 0]] w (O #[J Y sx,J Y ex,J Y 0,J Z xh,J Z xl,X tx,J Y 0]):=by
 go_enter func183,ntmps183
 go_wp2
 go_returns
 exact⟨rfl,Gr.g⟩
theorem xK(p mn mx md:Int)(k:Nat)(sx ex cx xh xl sy ey cy yh yl:Int)(tx ty:Bool)(w:World):
  QR 183 #[O #[J Y p,J Y mn,J Y mx,J Y md,.func (.func k) #[] #[]],O #[J Y 1,J Y ex,J Y 1,J Z xh,J Z xl,X tx,J Y 0],O #[J Y sy,J Y ey,J Y cy,J Z yh,J Z yl,X ty,J Y 0]] w (O #[J Y 0,J Y 0,J Y 4,J Z 0,J Z 0,X false,J Y 0]):=by
 go_enter func183,ntmps183
 go_wp2
 go_returns
 exact⟨rfl,Gr.g⟩
theorem xJ(p mn mx md:Int)(k:Nat)(sx ex cx xh xl sy ey cy yh yl:Int)(tx ty:Bool)(w:World):
  QR 183 #[O #[J Y p,J Y mn,J Y mx,J Y md,.func (.func k) #[] #[]],O #[J Y 1,J Y ex,J Y 2,J Z xh,J Z xl,X tx,J Y 0],O #[J Y sy,J Y ey,J Y cy,J Z yh,J Z yl,X ty,J Y 0]] w (O #[J Y 0,J Y 0,J Y 4,J Z 0,J Z 0,X false,J Y 0]):=by
 go_enter func183,ntmps183
 go_wp2
 go_returns
 exact⟨rfl,Gr.g⟩
theorem yU(p mn mx md:Int)(k:Nat)(sx ex cx xh xl sy ey cy yh yl:Int)(tx ty:Bool)(w:World):
  QR 183 #[O #[J Y p,J Y mn,J Y mx,J Y md,.func (.func k) #[] #[]],O #[J Y 0,J Y ex,J Y 2,J Z xh,J Z xl,X tx,J Y 0],O #[J Y sy,J Y ey,J Y cy,J Z yh,J Z yl,X ty,J Y 0]] w (O #[J Y 0,J Y ex,J Y 2,J Z xh,J Z xl,X tx,J Y 0]):=by
 go_enter func183,ntmps183
 go_wp2
 go_returns
 exact⟨rfl,Gr.g⟩
structure aC3 (w wx:World) (p mn mx md:Int) (k:Nat) (xl:Int):Prop where
 g:Gr w wx:=by exact kr
 s0:wx.cell? ⟨w.heap.size,0,none⟩=some (J Y p):=by exact kl
 s1:wx.cell? ⟨w.heap.size,1,none⟩=some (J Y mn):=by exact kl
 s2:wx.cell? ⟨w.heap.size,2,none⟩=some (J Y mx):=by exact kl
 s3:wx.cell? ⟨w.heap.size,3,none⟩=some (J Y md):=by exact kl
 s4:wx.cell? ⟨w.heap.size,4,none⟩=some (.func (.func k) #[] #[]):=by exact kl
 x4:wx.cell? ⟨w.heap.size+1,4,none⟩=some (J Z xl):=by exact kl
 r0:wx.cell? ⟨w.heap.size+1+1+1,0,none⟩=some (J Y 0):=by exact kl
 r0z:wx.frozen? ⟨w.heap.size+1+1+1,0,none⟩=false:=by exact kl
 r1:wx.cell? ⟨w.heap.size+1+1+1,1,none⟩=some (J Y 0):=by exact kl
 r1z:wx.frozen? ⟨w.heap.size+1+1+1,1,none⟩=false:=by exact kl
 r2:wx.cell? ⟨w.heap.size+1+1+1,2,none⟩=some (J Y 0):=by exact kl
 r2z:wx.frozen? ⟨w.heap.size+1+1+1,2,none⟩=false:=by exact kl
 r3:wx.cell? ⟨w.heap.size+1+1+1,3,none⟩=some (J Z 0):=by exact kl
 r3z:wx.frozen? ⟨w.heap.size+1+1+1,3,none⟩=false:=by exact kl
 r4:wx.cell? ⟨w.heap.size+1+1+1,4,none⟩=some (J Z 0):=by exact kl
 r4z:wx.frozen? ⟨w.heap.size+1+1+1,4,none⟩=false:=by exact kl
 r5:wx.cell? ⟨w.heap.size+1+1+1,5,none⟩=some (X false):=by exact kl
 r5z:wx.frozen? ⟨w.heap.size+1+1+1,5,none⟩=false:=by exact kl
 r6:wx.cell? ⟨w.heap.size+1+1+1,6,none⟩=some (J Y 0):=by exact kl
 r6z:wx.frozen? ⟨w.heap.size+1+1+1,6,none⟩=false:=by exact kl
theorem yT(p mn mx md:Int)(k:Nat)(ex xh xl sy ey cy yh yl:Int)(tx ty:Bool)(fb hi od t sh hq:Int)(Nn:Nat)(hN:Nn<18446744073709551616)(b0:0≤fb)(b1:fb≤60)(e0:-50000≤ex)(e1:ex≤50000)(h1:IntKind.i64.wrap (ex+fb)=hi)(h2:bits .and Y hi 1=od)(h3:IntKind.i64.wrap (60-fb)=t)(h4:IntKind.i64.wrap (t+od)=sh)(s0:0≤sh)(s1:sh≤62)(h5:IntKind.u64.wrap (xl*2^sh.toNat)=(Nn:Int))(h6:hi/2=hq)(q0:-100000≤hq)(q1:hq≤100000)(o0:0≤od)(o1:od≤1)
  (HF:KR 187 #[O #[J Y p,J Y mn,J Y mx]] (J Y fb)) (os oe oc oh ol:Int) (ot:Bool)
  (HC:Hid (∀w v,wV aO Nn w v→QR 221 #[O #[J Y p,J Y mn,J Y mx,J Y md,.func (.func k) #[] #[]],O #[J Y 0,J Y hq],v] w (O #[J Y os,J Y oe,J Y oc,J Z oh,J Z ol,X ot,J Y 0]))) (w:World):
  QR 183 #[O #[J Y p,J Y mn,J Y mx,J Y md,.func (.func k) #[] #[]],O #[J Y 0,J Y ex,J Y 1,J Z xh,J Z xl,X tx,J Y 0],O #[J Y sy,J Y ey,J Y cy,J Z yh,J Z yl,X ty,J Y 0]] w (O #[J Y os,J Y oe,J Y oc,J Z oh,J Z ol,X ot,J Y 0]):=by
 have HQ:Hid (∀w,CT 223 #[J Z (Nn:Int)] w fun e w'=>∃b1 b2,e=.returned (.func (.func 248) #[] #[.pointer (some ⟨b1,0,none⟩),.pointer (some ⟨b2,0,none⟩)])∧wV aO Nn w' (.func (.func 248) #[] #[.pointer (some ⟨b1,0,none⟩),.pointer (some ⟨b2,0,none⟩)])∧Gr w w'):=fun w=>(zu Nn hN w).mono (by
  rintro e w' ⟨v,rfl,hd,hg⟩
  obtain⟨b1,b2,rfl,hh⟩:=hd
  exact⟨b1,b2,rfl,⟨b1,b2,rfl,hh⟩,hg⟩)
 go_enter func183,ntmps183
 go_wp2
 go_cut [7] (fun s7 wx=>s7=J Y hi∧aC3 w wx p mn mx md k xl)
 case first=>
  go_region_held3 (fun w'=>w'.cell? ⟨w.heap.size,0,none⟩=some (J Y p)∧w'.cell? ⟨w.heap.size,1,none⟩=some (J Y mn)∧w'.cell? ⟨w.heap.size,2,none⟩=some (J Y mx)∧w'.cell? ⟨w.heap.size+1,1,none⟩=some (J Y ex))
   ((go_split_ands;(repeat' apply And.intro)<;>exact kl))
   (first|(go_at_call 187;refine(HF.out _).mono ?_;rintro e w1 ⟨rfl,aj⟩))
  all_goals (try go_split_ands)
  all_goals (go_wp2;go_meet)
  all_goals exact⟨rfl,{}⟩
 case rest=>
  obtain⟨rfl,⟨qg,qs0,qs1,qs2,qs3,qs4,qx4,AQ,aDA,Iy,aDz,Wu,aDy,Ws,aDx,Wq,aDw,Wp,aDv,Wn,aDu⟩⟩:=hcut
  go_wp2
  go_cut [8] (fun s8 wy=>s8=J Z (Nn:Int)∧aC3 w wy p mn mx md k xl)
  case first=>
   go_region_held3 (fun w'=>w'.cell? ⟨w.heap.size,0,none⟩=some (J Y p)∧w'.cell? ⟨w.heap.size,1,none⟩=some (J Y mn)∧w'.cell? ⟨w.heap.size,2,none⟩=some (J Y mx)∧w'.cell? ⟨w.heap.size+1,4,none⟩=some (J Z xl))
    ((go_split_ands;(repeat' apply And.intro)<;>exact kl))
    (first|(go_at_call 187;refine(HF.out _).mono ?_;rintro e w2 ⟨rfl,ak⟩))
   all_goals (try go_split_ands)
   all_goals (go_wp2;go_meet)
   all_goals exact⟨rfl,{}⟩
  case rest=>
   clear qs0 qs1 qs2 qs3 qs4 qx4 AQ aDA Iy aDz Wu aDy Ws aDx Wq aDw Wp aDv Wn aDu
   obtain⟨rfl,⟨vg,vs0,vs1,vs2,vs3,vs4,vx4,vr0,aEL,vr1,aEK,vr2,aEJ,vr3,aEI,vr4,aEH,vr5,aEG,vr6,aEF⟩⟩:=hcut
   go_wp2
   go_region_held3 (fun w'=>w'.cell? ⟨w.heap.size,0,none⟩=some (J Y p)∧w'.cell? ⟨w.heap.size,1,none⟩=some (J Y mn)∧w'.cell? ⟨w.heap.size,2,none⟩=some (J Y mx)∧w'.cell? ⟨w.heap.size,3,none⟩=some (J Y md)∧w'.cell? ⟨w.heap.size,4,none⟩=some (.func (.func k) #[] #[]))
    ((go_split_ands;(repeat' apply And.intro)<;>exact kl))
    (first
     |(go_at_call 223;refine(HQ.out _).mono ?_;rintro e w4 ⟨b1,b2,rfl,hdg,aF⟩;obtain⟨vH,wK,vG,wJ,BJ,Af,BI,Ae,dr4,Vt,dr5,Vs,dr6,Vr⟩:=aF.y7 (w.heap.size+1+1+1) 0 1 2 3 4 5 6 (J Y 0) (J Y 0) (J Y 0) (J Z 0) (J Z 0) (X false) (J Y 0))
     |(go_at_call 221;refine(HC.out _ _ (wV.gr hdg Gr.g)).mono ?_;rintro e w3 ⟨rfl,aA⟩;obtain⟨lV,kZ,nX,kY,qX,nK,cr3,nJ,Ee,qW,Ed,qV,Ec,qU⟩:=aA.y7 (w.heap.size+1+1+1) 0 1 2 3 4 5 6 (J Y 0) (J Y 0) (J Y 0) (J Z 0) (J Z 0) (X false) (J Y 0)))
   all_goals (try go_split_ands)
   all_goals go_wp2
   all_goals
    refine bodyPost_ret (v:=O #[J Y os,J Y oe,J Y oc,J Z oh,J Z ol,X ot,J Y 0]) (by simp[results,Tryz.results183,go_sem,lV,nX,qX,cr3,Ee,Ed,Ec]) rfl ⟨rfl,?_⟩
    exact Gr.g
