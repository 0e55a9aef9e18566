import Derived.Test.YtnbbfeknbfohhaaGreatDoorBp
import Derived.Test.YtnbbfeknbfohhaaGreatDoorBm
import Derived.Deep.RegionHeld3
import Derived.Deep.DeepCutAuto
set_option linter.unusedVariables false
set_option linter.unusedSimpArgs false
set_option maxRecDepth 1000000
set_option maxHeartbeats 40000000
open Go.Value renaming int → J
open Go.IntKind renaming i64 → Y, u64 → O
namespace Go.Proofs.YtnbbfeknbfohhaaGreatDoor
open Go.RowKit
def BrX(sg:Int)(Z fl:Nat→Int):Prop:=∀i,i≤4→bits .and Y (fl i) 16=0∧(Z i=Z 3∨((Z i==Z 3)=false)∧Z i%sg=0∧Z 3%sg=0)
def BrZ(sg f:Int)(Z:Nat→Int):Prop:=∀i,i≤4→∀w',QW 28 #[J Y f,J O (Z i)] w' (J O (Z i%sg))
def BrB(sg:Int)(Z fl:Nat→Int)(le:Int):Prop:=(∀i,i≤4→bits .and Y (fl i) 16=16∧(Z i=Z 3∨((Z i==Z 3)=false)∧Z i=Z 4))∧Z 2%sg=le∧(Z 4%sg<Z 3%sg∧le=Z 4%sg∨¬Z 4%sg<Z 3%sg∧le=Z 3%sg)
theorem aHX(a a2:Option Addr)(len cap len2 cap2:Nat)(hl:len≤1048576)(hl2:len2≤1048576){c:Nat→Int}(q K:Int)(q0:0≤q)(q1:q≤255)(hK:q%8=K)(f cl sg le:Int)(Z fl:Nat→Int){w:World}
  (HC:Hid (∀w',Gb w w'→rD w' a len c)) (HW:Hid (∀w',Gb w w'→Fm w'))
  (HPk:Hid (QW 25 #[.slice a2 len2 cap2,J Y 0] w (J Y q)))
  (HO:Hid (∀i:Nat,i≤4→aGs a len cap c K i f (Z i) (fl i)))
  (HCl:KR 27 #[J Y f,J O (Z 0)] (J Y cl))
  (hcase:Hid (3≤cl∨¬3≤cl∧BrZ sg f Z∧BrX sg Z fl∨¬3≤cl∧BrZ sg f Z∧BrB sg Z fl le∧∀w',Gb w w'→QR 29 #[J Y f,J O (Z 4)] w' (J O (Z 3)))):
  QB 8 #[.slice a len cap,.slice a2 len2 cap2] w (.bool true):=by
 have h1:¬(1048576:Int)<(len:Int):=om
 have h2:¬(1048576:Int)<(len2:Int):=om
 have hK':Int.tmod q 8=K:=by rw[Int.tmod_eq_emod_of_nonneg q0];exact hK
 go_enter Tryz.func8,Tryz.ntmps8
 go_upto_region 4 with(go_at_call 25;refine HPk.out.mono ?_;rintro x w' ⟨rfl,hw⟩;subst hw)
 clear HPk hl hl2
 go_wp2
 go_loopw [6,7,8] (fun s6 s7 s8 wr=>∃(i:Nat) (g:Int) (vs:Value),vs=s6∧i≤5∧s8=J Y i∧s7=J Y g∧Hid (0<i→g=f)∧Hid (Ov wr w.heap.size vs i Z fl)∧Gb w wr) (fun _ _ i _=>5-(intOf i).toNat)
 case atStart=>exact⟨0,0,_,rfl,om,rfl,rfl,fun h=>absurd h om,Ov.lit w Z fl,kg⟩
 case round=>
  obtain⟨i,g,vs,rfl,hi,rfl,rfl,Hg,HR,hG⟩:=hrel
  have HG:Hid (Gb w wr):=hG
  have hsz:=hG.size
  clear hG
  by_cases hlt:(i:Int)≤4
  ·obtain⟨ho1,ho2⟩:=HO.out i om
   obtain⟨z,hz⟩:∃z,Z i=z:=⟨_,rfl⟩
   obtain⟨y,hy⟩:∃y,fl i=y:=⟨_,rfl⟩
   rw[hz,hy]at ho1 ho2
   have HO1:Hid (∀w,rD w a len c→QB 26 #[.slice a len cap,J Y K,J Y i,.bool true] w (.tuple #[J Y f,.agg #[J O z,J Y y]])):=ho1
   have HO2:Hid (∀w,rD w a len c→Fm w→QB 26 #[.slice a len cap,J Y K,J Y i,.bool false] w (.tuple #[J Y f,.agg #[J O z,J Y y]])):=ho2
   clear ho1 ho2
   have HZi:Hid (Z i=z∧fl i=y):=⟨hz,hy⟩
   have hq1:=aHr z y
   clear hz hy
   go_upto_region 10 with(go_at_call 26;with_reducible refine(HO1.out _ (HC.out _ (by have:=HG.out;exact kg))).mono ?_;rintro x w1 ⟨rfl,aj⟩)
   obtain⟨w2,hw2⟩:∃w2,w1.alloc (.cells #[J O z,J Y y] 41)=w2:=⟨_,rfl⟩
   have ak:Gr w1 w2:=by rw[←hw2];exact(Gr.refl _).alloc _ _
   have ra0:w2.cell? ⟨w1.heap.size,0,none⟩=some (J O z):=by rw[←hw2];simp[go_sem]
   have ra1:w2.cell? ⟨w1.heap.size,1,none⟩=some (J Y y):=by rw[←hw2];simp[go_sem]
   have hs2:w1.heap.size<w2.heap.size:=by rw[←hw2];simp
   rw[hw2]
   clear hw2
   go_upto_region 11 with(go_at_call 26;with_reducible refine(HO2.out _ (HC.out _ (by have:=HG.out;exact kg)) (HW.out _ (by have:=HG.out;exact kg))).mono ?_;rintro x w3 ⟨rfl,aA⟩)
   obtain⟨w4,hw4⟩:∃w4,w3.alloc (.cells #[J O z,J Y y] 41)=w4:=⟨_,rfl⟩
   have aF:Gr w3 w4:=by rw[←hw4];exact(Gr.refl _).alloc _ _
   have rb0:w4.cell? ⟨w3.heap.size,0,none⟩=some (J O z):=by rw[←hw4];simp[go_sem]
   have rb1:w4.cell? ⟨w3.heap.size,1,none⟩=some (J Y y):=by rw[←hw4];simp[go_sem]
   have rc0:w4.cell? ⟨w1.heap.size,0,none⟩=some (J O z):=aF.old (aA.old ra0)
   have rc1:w4.cell? ⟨w1.heap.size,1,none⟩=some (J Y y):=aF.old (aA.old ra1)
   rw[hw4]
   clear hw4
   have HG4:Hid (Gb wr w4):=(show Gb wr w4 from kg)
   have hs4:=HG4.out.size
   have HR4:Hid (∀w',Gb wr w'→Ov w' w.heap.size vs i Z fl):=fun w' hg=>Ov.gb HR.out hg
   clear aj ak aA aF ra0 ra1 hs2 HR
   go_wp2_with (at_builtin;refine aG2 rfl _ _ rfl w.heap.size i Z fl _ w4.heap.size rfl (HR4.out _ (by have:=HG4.out;exact kg)) rfl (by rw[HZi.out.1];simp[go_sem]) (by rw[HZi.out.2];simp[go_sem]) om (by rw[World.size_alloc];omega) ?_;intro v5 w5 ho5 hb5)
   have hg5:Gb w w5:=Gb.below (show Gb w _ by have:=HG.out;have:=HG4.out;exact kg) hb5 (Nat.le_refl _)
   clear hb5
   go_roundw
   case rel=>exact⟨i+1,f,_,rfl,om,by go_num,rfl,fun _=>rfl,ho5,hg5⟩
   case measure=>simp[intOf]<;>omega
  ·obtain rfl:i=5:=om
   obtain rfl:g=f:=Hg.out om
   obtain⟨b,cp,rfl,_,_,hcell⟩:=HR.out.at om
   have k0:=(hcell 0 om).1
   have k1:=(hcell 0 om).2
   have k6:=(hcell 3 om).1
   have k8:=(hcell 4 om).1
   have k4:=(hcell 2 om).1
   simp only[Nat.reduceMul,Nat.zero_mul,Nat.zero_add]at k0 k1 k6 k8 k4
   have HCE:Hid (∀w',Gb wr w'→∀j,j<5→w'.cell? ⟨b,j*2,none⟩=some (J O (Z j))∧w'.cell? ⟨b,j*2+1,none⟩=some (J Y (fl j))):=fun w' hg j hj=>⟨hg.old (hcell j hj).1,hg.old (hcell j hj).2⟩
   clear hcell HR HO Hg
   rename World=>V
   have HGV:Hid (Gb w V):=HG.out
   rcases hcase.out with hc|⟨hc,hz,hx⟩|⟨hc,hz,hb,hn⟩
   ·go_wp2_with (go_at_call 27;with_reducible refine(HCl.out _).mono ?_;rintro x w1 ⟨rfl,aj⟩;have k0':=aj.old k0;have k1':=aj.old k1;have k6':=aj.old k6;have k8':=aj.old k8;have k4':=aj.old k4)
    go_returns
    exact⟨rfl,by have:=HGV.out;exact kg⟩
   ·have HX:Hid (BrX sg Z fl):=hx
    have A0:=(hx 0 om).1
    have HZ:Hid (BrZ sg g Z):=hz
    clear hx hcase hz
    go_upto_region 20 with(go_at_call 27;with_reducible refine(HCl.out _).mono ?_;rintro x w1 ⟨rfl,aj⟩;have k0':=aj.old k0;have k1':=aj.old k1;have k6':=aj.old k6;have k8':=aj.old k8;have k4':=aj.old k4)
    have HG1:Hid (Gb V w1):=aj.gb
    clear aj k0 k1 k6 k8 k4 k0' k1' k6' k8' k4'
    go_wp2
    go_loopw [15] (fun s15 wx=>∃j:Nat,j≤5∧s15=J Y j∧Gb V wx) (fun j _=>5-(intOf j).toNat)
    case atStart=>exact⟨0,om,rfl,HG1.out⟩
    case round=>
     obtain⟨j,hj,rfl,hgx⟩:=hrel
     by_cases hjl:(j:Int)≤4
     ·obtain⟨x0,x1⟩:=HCE.out _ hgx j om
      obtain⟨b0,b1⟩:=HX.out j om
      have HS3:=HZ.out 3 om
      have HSj:=HZ.out j om
      have HGx:Hid (Gb V wr):=hgx
      clear hgx
      generalize fl j=y at*
      rcases b1 with e|⟨e,e1,e2⟩
      ·rw[e]at x0
       clear HS3 HSj
       go_wp2
       go_roundw
       all_goals first|exact⟨j+1,om,by go_num,HGx.out⟩|exact⟨⟨j+1,om,by go_num,HGx.out⟩,by simp[intOf];omega⟩|(simp[intOf]<;>omega)
      ·rw[e2]at HS3
       rw[e1]at HSj
       have H3:KW 28 #[J Y g,J O (Z 3)] (J O 0):=HS3
       have Hj:KW 28 #[J Y g,J O (Z j)] (J O 0):=HSj
       clear HS3 HSj e1 e2
       generalize Z j=z at*
       generalize Z 3=u at*
       go_wp2_with (go_at_call 28;first|(with_reducible refine(H3.out _).mono ?_;rintro x w' ⟨rfl,hw⟩;subst hw)|(with_reducible refine(Hj.out _).mono ?_;rintro x w' ⟨rfl,hw⟩;subst hw))
       go_roundw
       all_goals first|exact⟨j+1,om,by go_num,HGx.out⟩|exact⟨⟨j+1,om,by go_num,HGx.out⟩,by simp[intOf];omega⟩|(simp[intOf]<;>omega)
     ·go_wp2
      go_returns
      exact⟨rfl,HGV.out.trans hgx⟩
   ·have HB:Hid (BrB sg Z fl le):=hb
    have A0:=(hb.1 0 om).1
    have HZ:Hid (BrZ sg g Z):=hz
    have HN:Hid (∀w',Gb w w'→QR 29 #[J Y g,J O (Z 4)] w' (J O (Z 3))):=hn
    clear hb hcase hz hn
    go_upto_region 26 with(go_at_call 27;with_reducible refine(HCl.out _).mono ?_;rintro x w1 ⟨rfl,aj⟩;have k0':=aj.old k0;have k1':=aj.old k1;have k6':=aj.old k6;have k8':=aj.old k8;have k4':=aj.old k4)
    have HG1:Hid (Gb V w1):=aj.gb
    clear aj k0 k1 k6 k8 k4 k0' k1' k6' k8' k4'
    go_wp2
    go_loopw [16] (fun s16 wx=>∃j:Nat,j≤5∧s16=J Y j∧Gb V wx) (fun j _=>5-(intOf j).toNat)
    case atStart=>exact⟨0,om,rfl,HG1.out⟩
    case round=>
     obtain⟨j,hj,rfl,hgx⟩:=hrel
     by_cases hjl:(j:Int)≤4
     ·obtain⟨x0,x1⟩:=HCE.out _ hgx j om
      obtain⟨b0,b1⟩:=HB.out.1 j om
      have HGx:Hid (Gb V wr):=hgx
      clear hgx
      generalize fl j=y at*
      rcases b1 with e|⟨e,e1⟩
      ·rw[e]at x0
       go_wp2
       go_roundw
       all_goals first|exact⟨j+1,om,by go_num,HGx.out⟩|exact⟨⟨j+1,om,by go_num,HGx.out⟩,by simp[intOf];omega⟩|(simp[intOf]<;>omega)
      ·rw[e1]at x0 e
       clear e1
       have e':¬Z 4=Z 3:=by simpa using e
       generalize Z 4=d at*
       generalize Z 3=u at*
       go_wp2
       go_roundw
       all_goals first|exact⟨j+1,om,by go_num,HGx.out⟩|exact⟨⟨j+1,om,by go_num,HGx.out⟩,by simp[intOf];omega⟩|(simp[intOf]<;>omega)
     ·obtain⟨_,hz2,hle⟩:=HB.out
      have x4:=(HCE.out _ hgx 2 om).1
      simp only[Nat.reduceMul]at x4
      have S2:KW 28 #[J Y g,J O (Z 2)] (J O le):=by rw[←hz2];exact HZ.out 2 om
      obtain⟨s3,hs3⟩:∃s,Z 3%sg=s:=⟨_,rfl⟩
      obtain⟨s4,hs4⟩:∃s,Z 4%sg=s:=⟨_,rfl⟩
      have S3:KW 28 #[J Y g,J O (Z 3)] (J O s3):=by rw[←hs3];exact HZ.out 3 om
      have S4:KW 28 #[J Y g,J O (Z 4)] (J O s4):=by rw[←hs4];exact HZ.out 4 om
      rw[hs3,hs4]at hle
      have HGx:Hid (Gb V wr):=hgx
      clear hs3 hs4 hz2 hgx HCE HB HZ HCl
      rcases hle with⟨l,rfl⟩|⟨l,rfl⟩
      all_goals
       go_wp2_with (first
        |(go_at_call 28;first|(with_reducible refine(S3.out _).mono ?_;rintro x w' ⟨rfl,hw⟩;subst hw)|(with_reducible refine(S4.out _).mono ?_;rintro x w' ⟨rfl,hw⟩;subst hw)|(with_reducible refine(S2.out _).mono ?_;rintro x w' ⟨rfl,hw⟩;subst hw))
        |(go_at_call 29;with_reducible refine(HN.out _ (by have:=HGV.out;have:=HGx.out;exact kg)).mono ?_;rintro x w2 ⟨rfl,ak⟩;have x4':=ak.old x4))
       go_returns
       exact⟨rfl,by have:=HGV.out;have:=HGx.out;exact kg⟩
