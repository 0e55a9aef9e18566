import Derived.Test.YtnbbfeknbfohhaaGreatDoorB5
import Derived.Deep.DeepCutAuto
set_option linter.unusedVariables false
set_option linter.unusedSimpArgs false
set_option maxRecDepth 1000000
set_option maxHeartbeats 40000000
open Go.Value renaming int → J, agg → O, bool → X
open Go.IntKind renaming i64 → Y, u64 → Z
open Go.Proofs.Tryz
namespace Go.Proofs.YtnbbfeknbfohhaaGreatDoor
open Go.RowKit
theorem Zj{P:Prop}(h:P:=by
 obtain⟨rfl,rfl,rfl,⟨qg,qx4,qy4,qo0,aAB,qo1,aAA,qo2,aAz,qo3,aAy,qo4,aAx,qo5,aAw,qo6,aAv,AQ,zC,Iy,zB,Wu,Ua,Ws,T_,Wq,TY,Wp,TW,Wn,TV⟩⟩:=hcut
 have hzo:=au qo0
 have hzr:=au AQ
 go_wp2
 refine bodyPost_ret (v:=O #[J Y zs,J Y ze,J Y 4,J Z 0,J Z 0,X false,J Y 0]) (by simp[results,Tryz.results174,go_sem,AQ,Iy,Wu,Ws,Wq,Wp,Wn]) rfl ⟨rfl,?_⟩
 exact Gr.g):P:=h
theorem SV{P:Prop}(h:P:=by
 obtain⟨rfl,rfl,rfl,⟨qg,qx4,qy4,qo0,aAB,qo1,aAA,qo2,aAz,qo3,aAy,qo4,aAx,qo5,aAw,qo6,aAv,AQ,zC,Iy,zB,Wu,Ua,Ws,T_,Wq,TY,Wp,TW,Wn,TV⟩⟩:=hcut
 have hzo:=au qo0
 have hzr:=au AQ
 go_wp2
 refine bodyPost_ret (v:=O #[J Y zs,J Y ze,J Y 2,J Z 0,J Z 0,X false,J Y 0]) (by simp[results,Tryz.results174,go_sem,AQ,Iy,Wu,Ws,Wq,Wp,Wn]) rfl ⟨rfl,?_⟩
 exact Gr.g):P:=h
theorem SX{P:Prop}(h:P:=by
 obtain⟨rfl,rfl,rfl,⟨qg,qx4,qy4,qo0,aAB,qo1,aAA,qo2,aAz,qo3,aAy,qo4,aAx,qo5,aAw,qo6,aAv,AQ,zC,Iy,zB,Wu,Ua,Ws,T_,Wq,TY,Wp,TW,Wn,TV⟩⟩:=hcut
 have hzo:=au qo0
 have hzr:=au AQ
 go_wp2
 refine bodyPost_ret (v:=O #[J Y zs,J Y ze,J Y 0,J Z 0,J Z 0,X false,J Y 0]) (by simp[results,Tryz.results174,go_sem,AQ,Iy,Wu,Ws,Wq,Wp,Wn]) rfl ⟨rfl,?_⟩
 exact Gr.g):P:=h
structure pO (w wx:World) (o:Nat) (xl yl zs ze:Int):Prop where
 g:Gr w wx:=by exact kr
 x4:wx.cell? ⟨w.heap.size+1,4,none⟩=some (J Z xl):=by exact kl
 y4:wx.cell? ⟨w.heap.size+1+1,4,none⟩=some (J Z yl):=by exact kl
 o0:wx.cell? ⟨o,0,none⟩=some (J Y zs):=by exact kl
 WA:wx.frozen? ⟨o,0,none⟩=false:=by exact kl
 o1:wx.cell? ⟨o,1,none⟩=some (J Y ze):=by exact kl
 Wy:wx.frozen? ⟨o,1,none⟩=false:=by exact kl
 o2:wx.cell? ⟨o,2,none⟩=some (J Y 1):=by exact kl
 oz2:wx.frozen? ⟨o,2,none⟩=false:=by exact kl
 o3:wx.cell? ⟨o,3,none⟩=some (J Z 0):=by exact kl
 oz3:wx.frozen? ⟨o,3,none⟩=false:=by exact kl
 o4:wx.cell? ⟨o,4,none⟩=some (J Z 0):=by exact kl
 oz4:wx.frozen? ⟨o,4,none⟩=false:=by exact kl
 o5:wx.cell? ⟨o,5,none⟩=some (X false):=by exact kl
 oz5:wx.frozen? ⟨o,5,none⟩=false:=by exact kl
 o6:wx.cell? ⟨o,6,none⟩=some (J Y 0):=by exact kl
 oz6:wx.frozen? ⟨o,6,none⟩=false:=by exact kl
 r0:wx.cell? ⟨w.heap.size+1+1+1,0,none⟩=some (J Y 0):=by exact kl
 rz0:wx.frozen? ⟨w.heap.size+1+1+1,0,none⟩=false:=by exact kl
 r1:wx.cell? ⟨w.heap.size+1+1+1,1,none⟩=some (J Y 0):=by exact kl
 rz1:wx.frozen? ⟨w.heap.size+1+1+1,1,none⟩=false:=by exact kl
 r2:wx.cell? ⟨w.heap.size+1+1+1,2,none⟩=some (J Y 0):=by exact kl
 rz2:wx.frozen? ⟨w.heap.size+1+1+1,2,none⟩=false:=by exact kl
 r3:wx.cell? ⟨w.heap.size+1+1+1,3,none⟩=some (J Z 0):=by exact kl
 rz3:wx.frozen? ⟨w.heap.size+1+1+1,3,none⟩=false:=by exact kl
 r4:wx.cell? ⟨w.heap.size+1+1+1,4,none⟩=some (J Z 0):=by exact kl
 rz4:wx.frozen? ⟨w.heap.size+1+1+1,4,none⟩=false:=by exact kl
 r5:wx.cell? ⟨w.heap.size+1+1+1,5,none⟩=some (X false):=by exact kl
 rz5:wx.frozen? ⟨w.heap.size+1+1+1,5,none⟩=false:=by exact kl
 r6:wx.cell? ⟨w.heap.size+1+1+1,6,none⟩=some (J Y 0):=by exact kl
 rz6:wx.frozen? ⟨w.heap.size+1+1+1,6,none⟩=false:=by exact kl
theorem JI(p mn mx md:Int)(k:Nat)(sx ex xh xl sy ey yh yl:Int)(tx ty:Bool)(zs ze:Int)(HT:KR 218 #[O #[J Y sx,J Y ex],O #[J Y sy,J Y ey]] (O #[J Y zs,J Y ze]))(w:World):
  QR 174 #[O #[J Y p,J Y mn,J Y mx,J Y md,.func (.func k) #[] #[]],O #[J Y sx,J Y ex,J Y 0,J Z xh,J Z xl,X tx,J Y 0],O #[J Y sy,J Y ey,J Y 0,J Z yh,J Z yl,X ty,J Y 0]] w (O #[J Y zs,J Y ze,J Y 0,J Z 0,J Z 0,X false,J Y 0]):=by
 go_enter func174,ntmps174
 go_wp2_with (go_at_call 218;refine(HT.out _).mono ?_;rintro e w1 ⟨rfl,aj⟩;obtain⟨oQ,yI⟩:=aj.e2 (w.heap.size+1) 2 4 (J Y 0) (J Z xl);obtain⟨sK,BO⟩:=aj.e2 (w.heap.size+1+1) 2 4 (J Y 0) (J Z yl);obtain⟨bG,bK,cO,bJ,iW,d_,ar3,dZ,lW,gV,mX,iM,mW,iK⟩:=aj.y7 (w.heap.size+1+1+1) 0 1 2 3 4 5 6 (J Y 0) (J Y 0) (J Y 0) (J Z 0) (J Z 0) (X false) (J Y 0);have hz1:=au bG)
 go_cut [7,8,9] (fun s7 s8 s9 wx=>s7=.pointer (some ⟨w1.heap.size,0,none⟩)∧s8=J Y 0∧s9=J Y 0∧pO w wx w1.heap.size xl yl zs ze)
 case first=>
  go_region_held3 (fun w'=>w'.cell? ⟨w.heap.size+1,2,none⟩=some (J Y 0)∧w'.cell? ⟨w.heap.size+1+1,2,none⟩=some (J Y 0))
   ((go_split_ands;(repeat' apply And.intro)<;>exact kh))
   (fail)
  all_goals (go_wp2;go_meet)
  all_goals exact⟨rfl,rfl,rfl,{}⟩
 case rest=>
  exact SX
theorem JH(p mn mx md:Int)(k:Nat)(sx ex xh xl sy ey yh yl:Int)(tx ty:Bool)(zs ze:Int)(HT:KR 218 #[O #[J Y sx,J Y ex],O #[J Y sy,J Y ey]] (O #[J Y zs,J Y ze]))(w:World):
  QR 174 #[O #[J Y p,J Y mn,J Y mx,J Y md,.func (.func k) #[] #[]],O #[J Y sx,J Y ex,J Y 0,J Z xh,J Z xl,X tx,J Y 0],O #[J Y sy,J Y ey,J Y 1,J Z yh,J Z yl,X ty,J Y 0]] w (O #[J Y zs,J Y ze,J Y 0,J Z 0,J Z 0,X false,J Y 0]):=by
 go_enter func174,ntmps174
 go_wp2_with (go_at_call 218;refine(HT.out _).mono ?_;rintro e w1 ⟨rfl,aj⟩;obtain⟨oQ,yI⟩:=aj.e2 (w.heap.size+1) 2 4 (J Y 0) (J Z xl);obtain⟨sK,BO⟩:=aj.e2 (w.heap.size+1+1) 2 4 (J Y 1) (J Z yl);obtain⟨bG,bK,cO,bJ,iW,d_,ar3,dZ,lW,gV,mX,iM,mW,iK⟩:=aj.y7 (w.heap.size+1+1+1) 0 1 2 3 4 5 6 (J Y 0) (J Y 0) (J Y 0) (J Z 0) (J Z 0) (X false) (J Y 0);have hz1:=au bG)
 go_cut [7,8,9] (fun s7 s8 s9 wx=>s7=.pointer (some ⟨w1.heap.size,0,none⟩)∧s8=J Y 0∧s9=J Y 1∧pO w wx w1.heap.size xl yl zs ze)
 case first=>
  go_region_held3 (fun w'=>w'.cell? ⟨w.heap.size+1,2,none⟩=some (J Y 0)∧w'.cell? ⟨w.heap.size+1+1,2,none⟩=some (J Y 1))
   ((go_split_ands;(repeat' apply And.intro)<;>exact kh))
   (fail)
  all_goals (go_wp2;go_meet)
  all_goals exact⟨rfl,rfl,rfl,{}⟩
 case rest=>
  exact SX
theorem JG(p mn mx md:Int)(k:Nat)(sx ex xh xl sy ey yh yl:Int)(tx ty:Bool)(zs ze:Int)(HT:KR 218 #[O #[J Y sx,J Y ex],O #[J Y sy,J Y ey]] (O #[J Y zs,J Y ze]))(w:World):
  QR 174 #[O #[J Y p,J Y mn,J Y mx,J Y md,.func (.func k) #[] #[]],O #[J Y sx,J Y ex,J Y 0,J Z xh,J Z xl,X tx,J Y 0],O #[J Y sy,J Y ey,J Y 2,J Z yh,J Z yl,X ty,J Y 0]] w (O #[J Y zs,J Y ze,J Y 4,J Z 0,J Z 0,X false,J Y 0]):=by
 go_enter func174,ntmps174
 go_wp2_with (go_at_call 218;refine(HT.out _).mono ?_;rintro e w1 ⟨rfl,aj⟩;obtain⟨oQ,yI⟩:=aj.e2 (w.heap.size+1) 2 4 (J Y 0) (J Z xl);obtain⟨sK,BO⟩:=aj.e2 (w.heap.size+1+1) 2 4 (J Y 2) (J Z yl);obtain⟨bG,bK,cO,bJ,iW,d_,ar3,dZ,lW,gV,mX,iM,mW,iK⟩:=aj.y7 (w.heap.size+1+1+1) 0 1 2 3 4 5 6 (J Y 0) (J Y 0) (J Y 0) (J Z 0) (J Z 0) (X false) (J Y 0);have hz1:=au bG)
 go_cut [7,8,9] (fun s7 s8 s9 wx=>s7=.pointer (some ⟨w1.heap.size,0,none⟩)∧s8=J Y 0∧s9=J Y 2∧pO w wx w1.heap.size xl yl zs ze)
 case first=>
  go_region_held3 (fun w'=>w'.cell? ⟨w.heap.size+1,2,none⟩=some (J Y 0)∧w'.cell? ⟨w.heap.size+1+1,2,none⟩=some (J Y 2))
   ((go_split_ands;(repeat' apply And.intro)<;>exact kh))
   (fail)
  all_goals (go_wp2;go_meet)
  all_goals exact⟨rfl,rfl,rfl,{}⟩
 case rest=>
  exact Zj
theorem JF(p mn mx md:Int)(k:Nat)(sx ex xh xl sy ey yh yl:Int)(tx ty:Bool)(zs ze:Int)(HT:KR 218 #[O #[J Y sx,J Y ex],O #[J Y sy,J Y ey]] (O #[J Y zs,J Y ze]))(w:World):
  QR 174 #[O #[J Y p,J Y mn,J Y mx,J Y md,.func (.func k) #[] #[]],O #[J Y sx,J Y ex,J Y 1,J Z xh,J Z xl,X tx,J Y 0],O #[J Y sy,J Y ey,J Y 0,J Z yh,J Z yl,X ty,J Y 0]] w (O #[J Y zs,J Y ze,J Y 0,J Z 0,J Z 0,X false,J Y 0]):=by
 go_enter func174,ntmps174
 go_wp2_with (go_at_call 218;refine(HT.out _).mono ?_;rintro e w1 ⟨rfl,aj⟩;obtain⟨oQ,yI⟩:=aj.e2 (w.heap.size+1) 2 4 (J Y 1) (J Z xl);obtain⟨sK,BO⟩:=aj.e2 (w.heap.size+1+1) 2 4 (J Y 0) (J Z yl);obtain⟨bG,bK,cO,bJ,iW,d_,ar3,dZ,lW,gV,mX,iM,mW,iK⟩:=aj.y7 (w.heap.size+1+1+1) 0 1 2 3 4 5 6 (J Y 0) (J Y 0) (J Y 0) (J Z 0) (J Z 0) (X false) (J Y 0);have hz1:=au bG)
 go_cut [7,8,9] (fun s7 s8 s9 wx=>s7=.pointer (some ⟨w1.heap.size,0,none⟩)∧s8=J Y 0∧s9=J Y 1∧pO w wx w1.heap.size xl yl zs ze)
 case first=>
  go_region_held3 (fun w'=>w'.cell? ⟨w.heap.size+1,2,none⟩=some (J Y 1)∧w'.cell? ⟨w.heap.size+1+1,2,none⟩=some (J Y 0))
   ((go_split_ands;(repeat' apply And.intro)<;>exact kh))
   (fail)
  all_goals (go_wp2;go_meet)
  all_goals exact⟨rfl,rfl,rfl,{}⟩
 case rest=>
  exact SX
theorem JE(p mn mx md:Int)(k:Nat)(sx ex xh xl sy ey yh yl:Int)(tx ty:Bool)(zs ze:Int)(HT:KR 218 #[O #[J Y sx,J Y ex],O #[J Y sy,J Y ey]] (O #[J Y zs,J Y ze]))(mh ml:Int)(HM:KR 193 #[J Z xl,J Z yl] (O #[J Z mh,J Z ml]))(w:World):
  QR 174 #[O #[J Y p,J Y mn,J Y mx,J Y md,.func (.func k) #[] #[]],O #[J Y sx,J Y ex,J Y 1,J Z xh,J Z xl,X tx,J Y 0],O #[J Y sy,J Y ey,J Y 1,J Z yh,J Z yl,X ty,J Y 0]] w (O #[J Y zs,J Y ze,J Y 1,J Z mh,J Z ml,X false,J Y 0]):=by
 go_enter func174,ntmps174
 go_wp2_with (go_at_call 218;refine(HT.out _).mono ?_;rintro e w1 ⟨rfl,aj⟩;obtain⟨oQ,yI⟩:=aj.e2 (w.heap.size+1) 2 4 (J Y 1) (J Z xl);obtain⟨sK,BO⟩:=aj.e2 (w.heap.size+1+1) 2 4 (J Y 1) (J Z yl);obtain⟨bG,bK,cO,bJ,iW,d_,ar3,dZ,lW,gV,mX,iM,mW,iK⟩:=aj.y7 (w.heap.size+1+1+1) 0 1 2 3 4 5 6 (J Y 0) (J Y 0) (J Y 0) (J Z 0) (J Z 0) (X false) (J Y 0);have hz1:=au bG)
 go_cut [7,8,9] (fun s7 s8 s9 wx=>s7=.pointer (some ⟨w1.heap.size,0,none⟩)∧s8=J Y 1∧s9=J Y 1∧pO w wx w1.heap.size xl yl zs ze)
 case first=>
  go_region_held3 (fun w'=>w'.cell? ⟨w.heap.size+1,2,none⟩=some (J Y 1)∧w'.cell? ⟨w.heap.size+1+1,2,none⟩=some (J Y 1))
   ((go_split_ands;(repeat' apply And.intro)<;>exact kh))
   (fail)
  all_goals (go_wp2;go_meet)
  all_goals exact⟨rfl,rfl,rfl,{}⟩
 case rest=>
  obtain⟨rfl,rfl,rfl,⟨qg,qx4,qy4,qo0,aAB,qo1,aAA,qo2,aAz,qo3,aAy,qo4,aAx,qo5,aAw,qo6,aAv,AQ,zC,Iy,zB,Wu,Ua,Ws,T_,Wq,TY,Wp,TW,Wn,TV⟩⟩:=hcut
  have hzo:=au qo0
  have hzr:=au AQ
  go_wp2_with (go_at_call 193;refine(HM.out _).mono ?_;rintro e w2 ⟨rfl,ak⟩;obtain⟨iF,h_,jh,g_,lZ,jM,lY,jL,vS,oP,yF,qC,yE,qB⟩:=ak.y7 (w.heap.size+1+1+1) 0 1 2 3 4 5 6 (J Y 0) (J Y 0) (J Y 0) (J Z 0) (J Z 0) (X false) (J Y 0);obtain⟨bo0,aFx,bo1,aFw,bo2,aFv,bo3,aFu,bo4,aFt,bo5,aFs,bo6,aFr⟩:=ak.y7 w1.heap.size 0 1 2 3 4 5 6 (J Y zs) (J Y ze) (J Y 1) (J Z 0) (J Z 0) (X false) (J Y 0);have hz2:=au iF;have hz3:=au bo0)
  refine bodyPost_ret (v:=O #[J Y zs,J Y ze,J Y 1,J Z mh,J Z ml,X false,J Y 0]) (by simp[results,Tryz.results174,go_sem,iF,jh,lZ,lY,vS,yF,yE]) rfl ⟨rfl,?_⟩
  exact Gr.g
theorem JD(p mn mx md:Int)(k:Nat)(sx ex xh xl sy ey yh yl:Int)(tx ty:Bool)(zs ze:Int)(HT:KR 218 #[O #[J Y sx,J Y ex],O #[J Y sy,J Y ey]] (O #[J Y zs,J Y ze]))(w:World):
  QR 174 #[O #[J Y p,J Y mn,J Y mx,J Y md,.func (.func k) #[] #[]],O #[J Y sx,J Y ex,J Y 1,J Z xh,J Z xl,X tx,J Y 0],O #[J Y sy,J Y ey,J Y 2,J Z yh,J Z yl,X ty,J Y 0]] w (O #[J Y zs,J Y ze,J Y 2,J Z 0,J Z 0,X false,J Y 0]):=by
 go_enter func174,ntmps174
 go_wp2_with (go_at_call 218;refine(HT.out _).mono ?_;rintro e w1 ⟨rfl,aj⟩;obtain⟨oQ,yI⟩:=aj.e2 (w.heap.size+1) 2 4 (J Y 1) (J Z xl);obtain⟨sK,BO⟩:=aj.e2 (w.heap.size+1+1) 2 4 (J Y 2) (J Z yl);obtain⟨bG,bK,cO,bJ,iW,d_,ar3,dZ,lW,gV,mX,iM,mW,iK⟩:=aj.y7 (w.heap.size+1+1+1) 0 1 2 3 4 5 6 (J Y 0) (J Y 0) (J Y 0) (J Z 0) (J Z 0) (X false) (J Y 0);have hz1:=au bG)
 go_cut [7,8,9] (fun s7 s8 s9 wx=>s7=.pointer (some ⟨w1.heap.size,0,none⟩)∧s8=J Y 1∧s9=J Y 2∧pO w wx w1.heap.size xl yl zs ze)
 case first=>
  go_region_held3 (fun w'=>w'.cell? ⟨w.heap.size+1,2,none⟩=some (J Y 1)∧w'.cell? ⟨w.heap.size+1+1,2,none⟩=some (J Y 2))
   ((go_split_ands;(repeat' apply And.intro)<;>exact kh))
   (fail)
  all_goals (go_wp2;go_meet)
  all_goals exact⟨rfl,rfl,rfl,{}⟩
 case rest=>
  exact SV
theorem JC(p mn mx md:Int)(k:Nat)(sx ex xh xl sy ey yh yl:Int)(tx ty:Bool)(zs ze:Int)(HT:KR 218 #[O #[J Y sx,J Y ex],O #[J Y sy,J Y ey]] (O #[J Y zs,J Y ze]))(w:World):
  QR 174 #[O #[J Y p,J Y mn,J Y mx,J Y md,.func (.func k) #[] #[]],O #[J Y sx,J Y ex,J Y 2,J Z xh,J Z xl,X tx,J Y 0],O #[J Y sy,J Y ey,J Y 0,J Z yh,J Z yl,X ty,J Y 0]] w (O #[J Y zs,J Y ze,J Y 4,J Z 0,J Z 0,X false,J Y 0]):=by
 go_enter func174,ntmps174
 go_wp2_with (go_at_call 218;refine(HT.out _).mono ?_;rintro e w1 ⟨rfl,aj⟩;obtain⟨oQ,yI⟩:=aj.e2 (w.heap.size+1) 2 4 (J Y 2) (J Z xl);obtain⟨sK,BO⟩:=aj.e2 (w.heap.size+1+1) 2 4 (J Y 0) (J Z yl);obtain⟨bG,bK,cO,bJ,iW,d_,ar3,dZ,lW,gV,mX,iM,mW,iK⟩:=aj.y7 (w.heap.size+1+1+1) 0 1 2 3 4 5 6 (J Y 0) (J Y 0) (J Y 0) (J Z 0) (J Z 0) (X false) (J Y 0);have hz1:=au bG)
 go_cut [7,8,9] (fun s7 s8 s9 wx=>s7=.pointer (some ⟨w1.heap.size,0,none⟩)∧s8=J Y 0∧s9=J Y 2∧pO w wx w1.heap.size xl yl zs ze)
 case first=>
  go_region_held3 (fun w'=>w'.cell? ⟨w.heap.size+1,2,none⟩=some (J Y 2)∧w'.cell? ⟨w.heap.size+1+1,2,none⟩=some (J Y 0))
   ((go_split_ands;(repeat' apply And.intro)<;>exact kh))
   (fail)
  all_goals (go_wp2;go_meet)
  all_goals exact⟨rfl,rfl,rfl,{}⟩
 case rest=>
  exact Zj
theorem JB(p mn mx md:Int)(k:Nat)(sx ex xh xl sy ey yh yl:Int)(tx ty:Bool)(zs ze:Int)(HT:KR 218 #[O #[J Y sx,J Y ex],O #[J Y sy,J Y ey]] (O #[J Y zs,J Y ze]))(w:World):
  QR 174 #[O #[J Y p,J Y mn,J Y mx,J Y md,.func (.func k) #[] #[]],O #[J Y sx,J Y ex,J Y 2,J Z xh,J Z xl,X tx,J Y 0],O #[J Y sy,J Y ey,J Y 1,J Z yh,J Z yl,X ty,J Y 0]] w (O #[J Y zs,J Y ze,J Y 2,J Z 0,J Z 0,X false,J Y 0]):=by
 go_enter func174,ntmps174
 go_wp2_with (go_at_call 218;refine(HT.out _).mono ?_;rintro e w1 ⟨rfl,aj⟩;obtain⟨oQ,yI⟩:=aj.e2 (w.heap.size+1) 2 4 (J Y 2) (J Z xl);obtain⟨sK,BO⟩:=aj.e2 (w.heap.size+1+1) 2 4 (J Y 1) (J Z yl);obtain⟨bG,bK,cO,bJ,iW,d_,ar3,dZ,lW,gV,mX,iM,mW,iK⟩:=aj.y7 (w.heap.size+1+1+1) 0 1 2 3 4 5 6 (J Y 0) (J Y 0) (J Y 0) (J Z 0) (J Z 0) (X false) (J Y 0);have hz1:=au bG)
 go_cut [7,8,9] (fun s7 s8 s9 wx=>s7=.pointer (some ⟨w1.heap.size,0,none⟩)∧s8=J Y 1∧s9=J Y 2∧pO w wx w1.heap.size xl yl zs ze)
 case first=>
  go_region_held3 (fun w'=>w'.cell? ⟨w.heap.size+1,2,none⟩=some (J Y 2)∧w'.cell? ⟨w.heap.size+1+1,2,none⟩=some (J Y 1))
   ((go_split_ands;(repeat' apply And.intro)<;>exact kh))
   (fail)
  all_goals (go_wp2;go_meet)
  all_goals exact⟨rfl,rfl,rfl,{}⟩
 case rest=>
  exact SV
theorem JA(p mn mx md:Int)(k:Nat)(sx ex xh xl sy ey yh yl:Int)(tx ty:Bool)(zs ze:Int)(HT:KR 218 #[O #[J Y sx,J Y ex],O #[J Y sy,J Y ey]] (O #[J Y zs,J Y ze]))(w:World):
  QR 174 #[O #[J Y p,J Y mn,J Y mx,J Y md,.func (.func k) #[] #[]],O #[J Y sx,J Y ex,J Y 2,J Z xh,J Z xl,X tx,J Y 0],O #[J Y sy,J Y ey,J Y 2,J Z yh,J Z yl,X ty,J Y 0]] w (O #[J Y zs,J Y ze,J Y 2,J Z 0,J Z 0,X false,J Y 0]):=by
 go_enter func174,ntmps174
 go_wp2_with (go_at_call 218;refine(HT.out _).mono ?_;rintro e w1 ⟨rfl,aj⟩;obtain⟨oQ,yI⟩:=aj.e2 (w.heap.size+1) 2 4 (J Y 2) (J Z xl);obtain⟨sK,BO⟩:=aj.e2 (w.heap.size+1+1) 2 4 (J Y 2) (J Z yl);obtain⟨bG,bK,cO,bJ,iW,d_,ar3,dZ,lW,gV,mX,iM,mW,iK⟩:=aj.y7 (w.heap.size+1+1+1) 0 1 2 3 4 5 6 (J Y 0) (J Y 0) (J Y 0) (J Z 0) (J Z 0) (X false) (J Y 0);have hz1:=au bG)
 go_cut [7,8,9] (fun s7 s8 s9 wx=>s7=.pointer (some ⟨w1.heap.size,0,none⟩)∧s8=J Y 2∧s9=J Y 2∧pO w wx w1.heap.size xl yl zs ze)
 case first=>
  go_region_held3 (fun w'=>w'.cell? ⟨w.heap.size+1,2,none⟩=some (J Y 2)∧w'.cell? ⟨w.heap.size+1+1,2,none⟩=some (J Y 2))
   ((go_split_ands;(repeat' apply And.intro)<;>exact kh))
   (fail)
  all_goals (go_wp2;go_meet)
  all_goals exact⟨rfl,rfl,rfl,{}⟩
 case rest=>
  exact SV
theorem aAl(p mn mx md:Int)(k:Nat)(sx ex cx xh xl sy ey cy yh yl:Int)(tx ty:Bool)(h:cy<cx)(w:World):
  QR 169 #[O #[J Y p,J Y mn,J Y mx,J Y md,.func (.func k) #[] #[]],O #[J Y sx,J Y ex,J Y cx,J Z xh,J Z xl,X tx,J Y 0],O #[J Y sy,J Y ey,J Y cy,J Z yh,J Z yl,X ty,J Y 0]] w (O #[J Y sx,J Y ex,J Y cx,J Z xh,J Z xl,X tx,J Y 0]):=by
 go_enter func169,ntmps169
 go_wp2
 go_returns
 exact⟨rfl,Gr.g⟩
theorem sum_lt(p mn mx md:Int)(k:Nat)(sx ex cx xh xl sy ey cy yh yl:Int)(tx ty:Bool)(h:cx<cy)(w:World):
  QR 169 #[O #[J Y p,J Y mn,J Y mx,J Y md,.func (.func k) #[] #[]],O #[J Y sx,J Y ex,J Y cx,J Z xh,J Z xl,X tx,J Y 0],O #[J Y sy,J Y ey,J Y cy,J Z yh,J Z yl,X ty,J Y 0]] w (O #[J Y sy,J Y ey,J Y cy,J Z yh,J Z yl,X ty,J Y 0]):=by
 go_enter func169,ntmps169
 go_wp2
 go_returns
 exact⟨rfl,Gr.g⟩
theorem aAk(p mn mx md:Int)(k:Nat)(sx ex cx xh xl sy ey cy yh yl:Int)(tx ty:Bool)(h1:cx=cy)(h2:(cx==1)=false)(h3:sx=sy)(w:World):
  QR 169 #[O #[J Y p,J Y mn,J Y mx,J Y md,.func (.func k) #[] #[]],O #[J Y sx,J Y ex,J Y cx,J Z xh,J Z xl,X tx,J Y 0],O #[J Y sy,J Y ey,J Y cy,J Z yh,J Z yl,X ty,J Y 0]] w (O #[J Y sx,J Y ex,J Y cx,J Z xh,J Z xl,X tx,J Y 0]):=by
 subst h1 h3
 go_enter func169,ntmps169
 go_wp2
 go_returns
 exact⟨rfl,Gr.g⟩
theorem Xa(p mn mx md:Int)(k:Nat)(sx ex cx xh xl sy ey cy yh yl:Int)(tx ty:Bool)(h1:cx=2)(h2:cy=2)(h3:(sx==sy)=false)(w:World):
  QR 169 #[O #[J Y p,J Y mn,J Y mx,J Y md,.func (.func k) #[] #[]],O #[J Y sx,J Y ex,J Y cx,J Z xh,J Z xl,X tx,J Y 0],O #[J Y sy,J Y ey,J Y cy,J Z yh,J Z yl,X ty,J Y 0]] w (O #[J Y 0,J Y 0,J Y 4,J Z 0,J Z 0,X false,J Y 0]):=by
 subst h1 h2
 go_enter func169,ntmps169
 go_wp2
 go_returns
 exact⟨rfl,Gr.g⟩
theorem sum_nil(p mn mx md:Int)(k:Nat)(sx ex cx xh xl sy ey cy yh yl:Int)(tx ty:Bool)(h1:cx=0)(h2:cy=0)(h3:(sx==sy)=false)(os oe oc oh ol:Int)(ot:Bool)(HN:KR 217 #[O #[J Y p,J Y mn,J Y mx,J Y md,.func (.func k) #[] #[]]] (O #[J Y os,J Y oe,J Y oc,J Z oh,J Z ol,X ot,J Y 0]))(w:World):
  QR 169 #[O #[J Y p,J Y mn,J Y mx,J Y md,.func (.func k) #[] #[]],O #[J Y sx,J Y ex,J Y cx,J Z xh,J Z xl,X tx,J Y 0],O #[J Y sy,J Y ey,J Y cy,J Z yh,J Z yl,X ty,J Y 0]] w (O #[J Y os,J Y oe,J Y oc,J Z oh,J Z ol,X ot,J Y 0]):=by
 subst h1 h2
 go_enter func169,ntmps169
 go_wp2_with (go_at_call 217;refine(HN.out _).mono ?_;rintro e w1 ⟨rfl,aj⟩;obtain⟨bG,bK,cO,bJ,iW,d_,ar3,dZ,lW,gV,mX,iM,mW,iK⟩:=aj.y7 (w.heap.size+1+1+1) 0 1 2 3 4 5 6 (J Y 0) (J Y 0) (J Y 0) (J Z 0) (J Z 0) (X false) (J Y 0))
 refine bodyPost_ret (v:=O #[J Y os,J Y oe,J Y oc,J Z oh,J Z ol,X ot,J Y 0]) (by simp[results,Tryz.results169,go_sem,bG,cO,iW,ar3,lW,mX,mW]) rfl ⟨rfl,?_⟩
 exact Gr.g
theorem W_(p mn mx md:Int)(k:Nat)(sx ex cx xh xl sy ey cy yh yl:Int)(tx ty:Bool)(h1:cx=1)(h2:cy=1)(Q:Int→Int→Int→Int→Int→Bool→Prop)(HT:Hid (∀w,CT 216 #[O #[J Y p,J Y mn,J Y mx,J Y md,.func (.func k) #[] #[]],O #[J Y sx,J Y ex,J Y 1,J Z xh,J Z xl,X tx,J Y 0],O #[J Y sy,J Y ey,J Y 1,J Z yh,J Z yl,X ty,J Y 0]] w fun e w'=>∃os oe oc oh ol ot,Q os oe oc oh ol ot∧e=.returned (O #[J Y os,J Y oe,J Y oc,J Z oh,J Z ol,X ot,J Y 0])∧Gr w w'))(w:World):
  CT 169 #[O #[J Y p,J Y mn,J Y mx,J Y md,.func (.func k) #[] #[]],O #[J Y sx,J Y ex,J Y cx,J Z xh,J Z xl,X tx,J Y 0],O #[J Y sy,J Y ey,J Y cy,J Z yh,J Z yl,X ty,J Y 0]] w fun e w'=>∃os oe oc oh ol ot,Q os oe oc oh ol ot∧e=.returned (O #[J Y os,J Y oe,J Y oc,J Z oh,J Z ol,X ot,J Y 0])∧Gr w w':=by
 subst h1 h2
 go_enter func169,ntmps169
 go_wp2_with (go_at_call 216;refine(HT.out _).mono ?_;rintro e w1 ⟨os,oe,oc,oh,ol,ot,hq,rfl,aj⟩;obtain⟨bG,bK,cO,bJ,iW,d_,ar3,dZ,lW,gV,mX,iM,mW,iK⟩:=aj.y7 (w.heap.size+1+1+1) 0 1 2 3 4 5 6 (J Y 0) (J Y 0) (J Y 0) (J Z 0) (J Z 0) (X false) (J Y 0))
 refine bodyPost_ret (v:=O #[J Y os,J Y oe,J Y oc,J Z oh,J Z ol,X ot,J Y 0]) (by simp[results,Tryz.results169,go_sem,bG,cO,iW,ar3,lW,mX,mW]) rfl ⟨os,oe,oc,oh,ol,ot,hq,rfl,?_⟩
 exact Gr.g
