import Derived.Test.YtnbbfeknbfohhaaGreatDoorU1
import Derived.Test.YtnbbfeknbfohhaaGreatDoorH3
set_option linter.unusedVariables false
set_option linter.unusedSimpArgs false
set_option maxRecDepth 1000000
open Go.Value renaming int → J, slice → Z
open Go.IntKind renaming i64 → Y
open Go.Proofs.Tryz
namespace Go.Proofs.YtnbbfeknbfohhaaGreatDoor
open Go.RowKit
theorem SS{P:Prop}(h:P:=by
 go_enter func172,ntmps172
 go_wp2
 all_goals go_returns
 all_goals exact⟨aU (congrArg Value.bool (by rw[hB.out,Bool.eq_iff_iff];simp<;>omega)),kr⟩):P:=h
theorem xY(c s x g c' s' x' g':Int)(b:Bool)(hb:b=decide (c=2∧c'=0∨c=0∧c'=2))(w:World):
  QR 172 #[.agg #[J Y c,J Y s,J Y x,J .u64 g],.agg #[J Y c',J Y s',J Y x',J .u64 g']] w (.bool b):=by
 have hB:Hid (b=decide (c=2∧c'=0∨c=0∧c'=2)):=hb
 clear hb
 rcases(show c=2∨c=0∨(c≠2∧c≠0) by omega)with rfl|rfl|⟨h1,h2⟩
 ·exact SS
 ·exact SS
 ·have e1:(c==2)=false:=by simp;omega
  have e2:(c==0)=false:=by simp;omega
  exact SS
set_option maxHeartbeats 40000000
theorem Zg{P:Prop}(h:P:=by
 refine bodyPost_ret (v:=.agg #[J Y 1,Z (some ⟨b2,0,none⟩) k2 VJ,J Y z,.bool false]) (by simp[results,Tryz.results173,go_sem,iF,jh,lZ,lY];rfl) rfl ⟨b2,k2,VJ,?_,rfl,?_⟩
 ·exact hbig2.Rz iF jh lZ lY
 ·exact Gb.g):P:=h
theorem Zh{P:Prop}(h:P:=by
 refine bodyPost_ret (v:=.agg #[J Y 0,Z (some ⟨b2,0,none⟩) k2 VJ,J Y z,.bool false]) (by simp[results,Tryz.results173,go_sem,iF,jh,lZ,lY];rfl) rfl ⟨b2,k2,VJ,?_,rfl,?_⟩
 ·exact hbig2.Rz iF jh lZ lY
 ·exact Gb.g):P:=h
theorem BG(c s x c' s' x':Int)(G G':Nat)(hG:G<18446744073709551616)(hG':G'<18446744073709551616)(hs:s=0∨s=1)(hs':s'=0∨s'=1)(x0:-50000≤x)(x1:x≤50000)(y0:-50000≤x')(y1:x'≤50000)(w:World):
  CT 173 #[.agg #[J Y c,J Y s,J Y x,J .u64 ((G:Nat))],.agg #[J Y (c'),J Y (s'),J Y (x'),J .u64 ((G':Nat))]] w fun e w'=>∃b k cc,aB 4 w' (Z (some ⟨b,0,none⟩) k cc) (G*G')∧e=.returned (.agg #[J Y (mulS s s'),Z (some ⟨b,0,none⟩) k cc,J Y (x+x'),.bool false])∧Gb w w':=by
 have HB:Hid (∀(H:Nat) w,H<18446744073709551616→CT 150 #[J .u64 (H:Nat)] w fun e w'=>∃b k c,aB 2 w' (Z (some ⟨b,0,none⟩) k c) H∧e=.returned (Z (some ⟨b,0,none⟩) k c)∧Gb w w'):=fun H w hH=>b_ (dU H hH w)
 have HM:Hid (∀v v' (N N':Nat) w,aB 2 w v N→aB 2 w v' N'→CT 182 #[v,v'] w fun e w'=>∃b k c,aB 4 w' (Z (some ⟨b,0,none⟩) k c) (N*N')∧e=.returned (Z (some ⟨b,0,none⟩) k c)∧Gb w w'):=fun v v' N N' w ⟨n,a1,a2⟩ ⟨n',b1,b2⟩=>b_ ((rP a2 om b2 om).mono (fun e w' ⟨v,k,c1,c2,c3,c4⟩=>⟨v,k,c1,c2,om,c4⟩))
 have u1:IntKind.i64.wrap (x+x')=x+x':=wi
 obtain⟨z,hz⟩:∃z,x+x'=z:=⟨_,rfl⟩
 rw[hz]at u1⊢
 have u2:IntKind.i64.wrap (x+x')=z:=by rw[hz];exact u1
 clear u1 hz
 rcases hs with rfl|rfl<;>rcases hs' with rfl|rfl
 ·go_enter func173,ntmps173
  go_wp2
  go_region_held3 (fun w'=>w'.cell? ⟨w.heap.size,1,none⟩=some (J Y 0)∧w'.cell? ⟨w.heap.size,2,none⟩=some (J Y x)∧w'.cell? ⟨w.heap.size,3,none⟩=some (J .u64 (G:Nat))∧w'.cell? ⟨w.heap.size+1,1,none⟩=some (J Y 0)∧w'.cell? ⟨w.heap.size+1,2,none⟩=some (J Y x')∧w'.cell? ⟨w.heap.size+1,3,none⟩=some (J .u64 (G':Nat)))
   ((go_split_ands;(repeat' apply And.intro)<;>exact kh))
   (first
    |(go_at_call 150;refine(HB.out _ _ (by assumption)).mono ?_;rintro e w1 ⟨b,k,cc,hbig,rfl,aj⟩;obtain⟨bG,bK,cO,bJ,iW,d_,ar3,dZ⟩:=aj.y4 (w.heap.size+1+1) 0 1 2 3 (J Y 0) (Z none 0 0) (J Y 0) (.bool false))
    |(go_at_call 182;refine(HM.out _ _ _ _ _ (aB.gb (by assumption) Gb.g) (aB.gb (by assumption) Gb.g)).mono ?_;rintro e w2 ⟨b2,k2,VJ,hbig2,rfl,ak⟩;obtain⟨iF,h_,jh,g_,lZ,jM,lY,jL⟩:=ak.y4 (w.heap.size+1+1) 0 1 2 3 (J Y 0) (Z none 0 0) (J Y 0) (.bool false)))
  all_goals (try go_split_ands)
  all_goals go_wp2
  all_goals
   exact Zh
 ·go_enter func173,ntmps173
  go_wp2
  go_region_held3 (fun w'=>w'.cell? ⟨w.heap.size,1,none⟩=some (J Y 0)∧w'.cell? ⟨w.heap.size,2,none⟩=some (J Y x)∧w'.cell? ⟨w.heap.size,3,none⟩=some (J .u64 (G:Nat))∧w'.cell? ⟨w.heap.size+1,1,none⟩=some (J Y 1)∧w'.cell? ⟨w.heap.size+1,2,none⟩=some (J Y x')∧w'.cell? ⟨w.heap.size+1,3,none⟩=some (J .u64 (G':Nat)))
   ((go_split_ands;(repeat' apply And.intro)<;>exact kh))
   (first
    |(go_at_call 150;refine(HB.out _ _ (by assumption)).mono ?_;rintro e w1 ⟨b,k,cc,hbig,rfl,aj⟩;obtain⟨bG,bK,cO,bJ,iW,d_,ar3,dZ⟩:=aj.y4 (w.heap.size+1+1) 0 1 2 3 (J Y 0) (Z none 0 0) (J Y 0) (.bool false))
    |(go_at_call 182;refine(HM.out _ _ _ _ _ (aB.gb (by assumption) Gb.g) (aB.gb (by assumption) Gb.g)).mono ?_;rintro e w2 ⟨b2,k2,VJ,hbig2,rfl,ak⟩;obtain⟨iF,h_,jh,g_,lZ,jM,lY,jL⟩:=ak.y4 (w.heap.size+1+1) 0 1 2 3 (J Y 0) (Z none 0 0) (J Y 0) (.bool false)))
  all_goals (try go_split_ands)
  all_goals go_wp2
  all_goals
   exact Zg
 ·go_enter func173,ntmps173
  go_wp2
  go_region_held3 (fun w'=>w'.cell? ⟨w.heap.size,1,none⟩=some (J Y 1)∧w'.cell? ⟨w.heap.size,2,none⟩=some (J Y x)∧w'.cell? ⟨w.heap.size,3,none⟩=some (J .u64 (G:Nat))∧w'.cell? ⟨w.heap.size+1,1,none⟩=some (J Y 0)∧w'.cell? ⟨w.heap.size+1,2,none⟩=some (J Y x')∧w'.cell? ⟨w.heap.size+1,3,none⟩=some (J .u64 (G':Nat)))
   ((go_split_ands;(repeat' apply And.intro)<;>exact kh))
   (first
    |(go_at_call 150;refine(HB.out _ _ (by assumption)).mono ?_;rintro e w1 ⟨b,k,cc,hbig,rfl,aj⟩;obtain⟨bG,bK,cO,bJ,iW,d_,ar3,dZ⟩:=aj.y4 (w.heap.size+1+1) 0 1 2 3 (J Y 0) (Z none 0 0) (J Y 0) (.bool false))
    |(go_at_call 182;refine(HM.out _ _ _ _ _ (aB.gb (by assumption) Gb.g) (aB.gb (by assumption) Gb.g)).mono ?_;rintro e w2 ⟨b2,k2,VJ,hbig2,rfl,ak⟩;obtain⟨iF,h_,jh,g_,lZ,jM,lY,jL⟩:=ak.y4 (w.heap.size+1+1) 0 1 2 3 (J Y 0) (Z none 0 0) (J Y 0) (.bool false)))
  all_goals (try go_split_ands)
  all_goals go_wp2
  all_goals
   exact Zg
 ·go_enter func173,ntmps173
  go_wp2
  go_region_held3 (fun w'=>w'.cell? ⟨w.heap.size,1,none⟩=some (J Y 1)∧w'.cell? ⟨w.heap.size,2,none⟩=some (J Y x)∧w'.cell? ⟨w.heap.size,3,none⟩=some (J .u64 (G:Nat))∧w'.cell? ⟨w.heap.size+1,1,none⟩=some (J Y 1)∧w'.cell? ⟨w.heap.size+1,2,none⟩=some (J Y x')∧w'.cell? ⟨w.heap.size+1,3,none⟩=some (J .u64 (G':Nat)))
   ((go_split_ands;(repeat' apply And.intro)<;>exact kh))
   (first
    |(go_at_call 150;refine(HB.out _ _ (by assumption)).mono ?_;rintro e w1 ⟨b,k,cc,hbig,rfl,aj⟩;obtain⟨bG,bK,cO,bJ,iW,d_,ar3,dZ⟩:=aj.y4 (w.heap.size+1+1) 0 1 2 3 (J Y 0) (Z none 0 0) (J Y 0) (.bool false))
    |(go_at_call 182;refine(HM.out _ _ _ _ _ (aB.gb (by assumption) Gb.g) (aB.gb (by assumption) Gb.g)).mono ?_;rintro e w2 ⟨b2,k2,VJ,hbig2,rfl,ak⟩;obtain⟨iF,h_,jh,g_,lZ,jM,lY,jL⟩:=ak.y4 (w.heap.size+1+1) 0 1 2 3 (J Y 0) (Z none 0 0) (J Y 0) (.bool false)))
  all_goals (try go_split_ands)
  all_goals go_wp2
  all_goals
   exact Zh
