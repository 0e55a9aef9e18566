import Derived.Test.YtmiekgjgpmfekaaGreatDoorDr
import Derived.Test.YtmiekgjgpmfekaaGreatDoorM3
import Derived.Test.YtmiekgjgpmfekaaGreatDoorM8
import Derived.Test.YtmiekgjgpmfekaaGreatDoorQc
import Derived.Test.YtmiekgjgpmfekaaGreatDoorQb
set_option linter.all false
set_option maxRecDepth 1000000
set_option maxHeartbeats 40000000
open Bool renaming false → O, true → V
open Go.Proofs.YtmiekgjgpmfekaaGreatDoor renaming vI → J, vU → Y
open Go.Ending renaming returned → Z
open Go.Proofs.Tryz
namespace Go.Proofs.YtmiekgjgpmfekaaGreatDoor
open Go.RowKit
variable{w w':World}{f p mx one inf sg nan mu inv sc x0:Int}{m base b k K c N len:Nat}{v:Value}{g:Nat->Int}{s s' t:ByteArray}
theorem aCu{P:Prop}(h:P:=by
 go_wp2;go_round
 case rel=>exact⟨j'+1,y/2,om,rfl,om,om,by go_num⟩
 case measure=>simp[intOf]<;>omega):P:=h
theorem aCx{P:Prop}(h:P:=by
 go_wp2;go_round
 case rel=>exact⟨j+1,IntKind.u64.wrap (x*2),om,rfl,by simp only[IntKind.wrap_u64];omega,by simp only[IntKind.wrap_u64];omega,by go_num⟩
 case measure=>simp[intOf]<;>omega):P:=h
theorem aCz{P:Prop}(h:P:=by
 go_wp2_with (go_at_call 75;refine(take_any a len cap (p+1+7) 256 _ HC.out om om om).mono ?_;rintro e w' ⟨x,x0,x1,rfl,hw⟩;subst hw);go_round
 case rel=>exact⟨7+1,IntKind.u64.wrap (IntKind.u64.wrap (v*256)+x),om,by go_num,rfl,by simp only[IntKind.wrap_u64];omega,by simp only[IntKind.wrap_u64];omega,by go_num⟩
 case measure=>simp[intOf]<;>omega):P:=h
theorem aCA{P:Prop}(h:P:=by
 go_wp2_with (go_at_call 75;refine(take_any a len cap (p+1+0) 256 _ HC.out om om om).mono ?_;rintro e w' ⟨x,x0,x1,rfl,hw⟩;subst hw);go_round
 case rel=>exact⟨0+1,IntKind.u64.wrap (IntKind.u64.wrap (v*256)+x),om,by go_num,rfl,by simp only[IntKind.wrap_u64];omega,by simp only[IntKind.wrap_u64];omega,by go_num⟩
 case measure=>simp[intOf]<;>omega):P:=h
theorem KO{P:Prop}(h:P:=by
 go_wp2_with (first
  |(go_at_call 98;refine(HP _).mono ?_;rintro x w' ⟨rfl,hw⟩;subst hw)
  |(go_at_call 120;refine(H1 _).mono ?_;rintro x w' ⟨rfl,hw⟩;subst hw)
  |(go_at_call 106;refine(nN _ _ _ aJu.out (by first|omega|(simp only[IntKind.wrap_u64];omega)) (by first|omega|(simp only[IntKind.wrap_u64];omega))).mono ?_;rintro x w' ⟨z,z0,z1,rfl,hw⟩;subst hw))
 go_returns;first|exact⟨z,j+1+1,z0,z1,om,rfl,rfl⟩|exact⟨z,z0,z1,j+1+1,om,rfl,rfl⟩):P:=h
theorem wJ(a:Option Addr)(len cap p n:Nat)(hn:n<=64)(w:World)(hC:dM w a len)(hp:p<=900):
  CT 159 #[.slice a len cap,J p,J n] w fun e w'=>∃(v:Int) (k:Nat),0<=v/\v<18446744073709551616/\k<=p+10/\e=Z (.tuple #[Y v,J k])/\w=w':=by
 have HC:Hid _:=hC;clear hC;go_enter func159,ntmps159;go_wp2_with (go_at_call 75;refine(take_any a len cap p 5 _ HC.out om om om).mono ?_;rintro e w' ⟨how,hw0,hw1,rfl,hw⟩;subst hw);go_loop [1,10,11] (fun s1 s10 s11=>∃(i:Nat) (v:Int),i<=8/\s1=J ((p+1+i:Nat):Int)/\s10=Y v/\0<=v/\v<18446744073709551616/\s11=J i) (fun _ _ s=>8-(intOf s).toNat)
 case atStart=>exact⟨0,0,om,by go_num,rfl,om,om,rfl⟩
 case round=>
  obtain⟨i,v,hi,rfl,rfl,v0,v1,rfl⟩:=hrel;by_cases hlt:(i:Int)<8
  ·rcases(show how=0\/how=1\/((how==0)=O/\(how==1)=O) by simp;omega)with rfl|rfl|⟨e0,e1⟩
   ·rcases(show i=0\/i=7\/(0<i/\i<7) by omega)with rfl|rfl|⟨i0,i7⟩
    ·exact aCA
    ·exact aCz
    ·go_wp2_with (go_at_call 75;refine(take_any a len cap (p+1+i) 256 _ HC.out om om om).mono ?_;rintro e w' ⟨x,x0,x1,rfl,hw⟩;subst hw);go_round
     case rel=>exact⟨i+1,IntKind.u64.wrap (IntKind.u64.wrap (v*256)),om,by go_num,rfl,by simp only[IntKind.wrap_u64];omega,by simp only[IntKind.wrap_u64];omega,by go_num⟩
     case measure=>simp[intOf]<;>omega
   ·rcases(show i=0\/i=7\/(0<i/\i<7) by omega)with rfl|rfl|⟨i0,i7⟩
    ·exact aCA
    ·exact aCz
    ·go_wp2_with (go_at_call 75;refine(take_any a len cap (p+1+i) 256 _ HC.out om om om).mono ?_;rintro e w' ⟨x,x0,x1,rfl,hw⟩;subst hw);go_round
     case rel=>exact⟨i+1,IntKind.u64.wrap (IntKind.u64.wrap (v*256)+255),om,by go_num,rfl,by simp only[IntKind.wrap_u64];omega,by simp only[IntKind.wrap_u64];omega,by go_num⟩
     case measure=>simp[intOf]<;>omega
   ·go_wp2_with (go_at_call 75;refine(take_any a len cap (p+1+i) 256 _ HC.out om om om).mono ?_;rintro e w' ⟨x,x0,x1,rfl,hw⟩;subst hw);go_round
    case rel=>exact⟨i+1,IntKind.u64.wrap (IntKind.u64.wrap (v*256)+x),om,by go_num,rfl,by simp only[IntKind.wrap_u64];omega,by simp only[IntKind.wrap_u64];omega,by go_num⟩
    case measure=>simp[intOf]<;>omega
  ·by_cases h2:how=2
   ·subst h2;go_wp2_with (go_at_call 75;refine(take_any a len cap (p+1+i) 64 _ HC.out om om om).mono ?_;rintro e w' ⟨x,x0,x1,rfl,hw⟩;subst hw);go_loop [10,12] (fun s10 s12=>∃(j v:Int),0<=j/\j<=x/\s10=Y v/\0<=v/\v<18446744073709551616/\s12=J j) (fun _ s=>(64-intOf s).toNat)
    case atStart=>exact⟨0,v,om,x0,rfl,v0,v1,rfl⟩
    case round=>
     obtain⟨j,u,j0,j1,rfl,u0,u1,rfl⟩:=hrel;by_cases hj:j<x
     ·go_wp2;go_round
      case rel=>exact⟨j+1,u/2,om,om,rfl,om,om,rfl⟩
      case measure=>simp[intOf];omega
     ·go_wp2;go_loop [10,13] (fun s10 s13=>∃(j:Nat) (x:Int),j<=64/\s10=Y x/\0<=x/\x<18446744073709551616/\s13=J j) (fun _ s=>64-(intOf s).toNat)
      case atStart=>exact⟨n,u,hn,rfl,u0,u1,rfl⟩
      case round=>
       obtain⟨j,x,j1,rfl,x0,x1,rfl⟩:=hrel;by_cases hj:(j:Int)<64
       ·exact aCx
       ·go_wp2;go_loop [10,14] (fun s10 s14=>∃(j:Nat) (x:Int),j<=64/\s10=Y x/\0<=x/\x<18446744073709551616/\s14=J j) (fun _ s=>64-(intOf s).toNat)
        case atStart=>exact⟨n,x,hn,rfl,x0,x1,rfl⟩
        case round=>
         obtain⟨j',y,j2,rfl,y0,y1,rfl⟩:=hrel;by_cases hj':(j':Int)<64
         ·exact aCu
         ·go_wp2;go_returns;first|exact⟨y,p+1+i+1,y0,y1,om,rfl,rfl⟩|exact⟨y,y0,y1,p+1+i+1,om,rfl,rfl⟩
   ·have e2:(how==2)=O:=by simp[h2]
    clear h2;go_wp2;go_loop [10,13] (fun s10 s13=>∃(j:Nat) (x:Int),j<=64/\s10=Y x/\0<=x/\x<18446744073709551616/\s13=J j) (fun _ s=>64-(intOf s).toNat)
    case atStart=>exact⟨n,v,hn,rfl,v0,v1,rfl⟩
    case round=>
     obtain⟨j,x,j1,rfl,x0,x1,rfl⟩:=hrel;by_cases hj:(j:Int)<64
     ·exact aCx
     ·go_wp2;go_loop [10,14] (fun s10 s14=>∃(j:Nat) (x:Int),j<=64/\s10=Y x/\0<=x/\x<18446744073709551616/\s14=J j) (fun _ s=>64-(intOf s).toNat)
      case atStart=>exact⟨n,x,hn,rfl,x0,x1,rfl⟩
      case round=>
       obtain⟨j',y,j2,rfl,y0,y1,rfl⟩:=hrel;by_cases hj':(j':Int)<64
       ·exact aCu
       ·go_wp2;go_returns;first|exact⟨y,p+1+i,y0,y1,om,rfl,rfl⟩|exact⟨y,y0,y1,p+1+i,om,rfl,rfl⟩
theorem NQ(a:Option Addr)(len cap p:Nat)(f:Int)(hf:f=0\/f=1)(w:World)(hC:dM w a len)(hp:p<=900):
  CT 203 #[.slice a len cap,J p,J f] w fun x w'=>∃v:Int,0<=v/\v<18446744073709551616/\x=Z (.tuple #[Y v,J ((p+2:Nat):Int)])/\w=w':=by
 have HC:Hid (dM w a len):=hC;clear hC;obtain⟨mx,pp,hm,HM,HP⟩:∃mx pp:Int,(mx=127\/mx=1023)/\Hid ((24<=pp/\pp<=53)/\∀w,QW 148 #[J f] w (J mx))/\KW 98 #[J f] (J pp):=by
  rcases hf with rfl|rfl
  ·exact⟨127,24,.inl rfl,⟨om,fun w=>rC (.inl ⟨rfl,rfl,rfl,rfl,rfl,rfl,rfl⟩) w⟩,fun w=>jL (.inl ⟨rfl,rfl,rfl,rfl,rfl,rfl,rfl⟩) w⟩
  ·exact⟨1023,53,.inr rfl,⟨om,fun w=>rC ZQ w⟩,fun w=>jL ZQ w⟩
 have hpp:=HM.out.1;clear hf;rcases hm with rfl|rfl
 all_goals
  go_enter func203,ntmps203;go_upto_region 3 with(go_at_call 75;refine(take_any a len cap p 16 _ HC.out om om om).mono ?_;rintro x w' ⟨how,c0,c1,rfl,hw⟩;subst hw);go_upto_region 4 with(go_at_call 75;refine(take_any a len cap (p+1) 256 _ HC.out om om om).mono ?_;rintro x w' ⟨d,d0,d1,rfl,hw⟩;subst hw);go_upto_region 5 with(go_at_call 148;refine(HM.out.2 _).mono ?_;rintro x w' ⟨rfl,hw⟩;subst hw);rcases(show how<9\/how=9\/how=10\/how=11\/how=12\/how=13\/how=14\/how=15 by omega)with k|rfl|rfl|rfl|rfl|rfl|rfl|rfl
 all_goals go_wp2_with (go_at_call 98;refine(HP _).mono ?_;rintro x w' ⟨rfl,hw⟩;subst hw)
 all_goals go_returns
 all_goals refine⟨_,?_,?_,rfl,rfl⟩
 all_goals first|omega|(simp only[IntKind.wrap_u64];omega)
theorem QN(h:aP f p mx one inf sg nan)(s v:Int)(hs:s=0\/s=1)(v0:0<=v)(v1:v<18446744073709551616)(w:World):
  CT 106 #[J f,J s,Y v] w fun x w'=>∃z:Int,0<=z/\z<18446744073709551616/\x=Z (Y z)/\w=w':=by
 have HS:KW 118 #[J f] (Y sg):=fun w=>iV h w;clear h;rcases hs with rfl|rfl
 ·go_enter func106,ntmps106;go_wp2;go_returns;exact⟨_,v0,v1,rfl,rfl⟩
 ·go_enter func106,ntmps106;go_wp2_with (go_at_call 118;refine(HS _).mono ?_;rintro x w' ⟨rfl,hw⟩;subst hw);go_returns;refine⟨_,?_,?_,rfl,rfl⟩;all_goals (simp only[IntKind.wrap_u64];omega)
theorem JG(h:aP f p mx one inf sg nan)(a:Option Addr)(len cap k:Nat)(w:World)(hC:dM w a len)(hp:k<=800):
  CT 161 #[.slice a len cap,J k,J f] w fun x w'=>∃(v:Int) (j:Nat),0<=v/\v<18446744073709551616/\j<=k+20/\x=Z (.tuple #[Y v,J j])/\w=w':=by
 have HC:Hid (dM w a len):=hC;have HE:Hid (∀k:Nat,k<=900->CT 203 #[.slice a len cap,J k,J f] w fun x w'=>∃v:Int,0<=v/\v<18446744073709551616/\x=Z (.tuple #[Y v,J ((k+2:Nat):Int)])/\w=w'):=fun k hk=>NQ a len cap k f (by rcases h with h|h<;>omega) w hC hk;have HP:KW 98 #[J f] (J p):=fun w=>jL h w;obtain⟨p1,hp1⟩:∃p1:Int,p-1=p1:=⟨_,rfl⟩;obtain⟨p2,hp2⟩:∃p2:Int,p-2=p2:=⟨_,rfl⟩;have H1:KW 120 #[J p1] (Y one):=fun w=>hp1▸lM h w;have H2:∃hf:Int,(0<=hf/\hf<18446744073709551616)/\KW 120 #[J p2] (Y hf):=by
  rw[<-hp2];rcases h with⟨rfl,rfl,rfl,rfl,rfl,rfl,rfl⟩|⟨rfl,rfl,rfl,rfl,rfl,rfl,rfl⟩
  ·exact⟨4194304,om,fun w=>gU 22 _ om de w⟩
  ·exact⟨2251799813685248,om,fun w=>gU 51 _ om de w⟩
 obtain⟨hf,hfb,H2⟩:=H2;obtain⟨n,hn,CV⟩:∃n:Nat,p-1=(n:Int)/\n<=64:=⟨(p-1).toNat,by rcases h with h|h<;>omega,by rcases h with h|h<;>omega⟩;have HB:Hid (∀k:Nat,k<=900->CT 159 #[.slice a len cap,J k,J p1] w fun e w'=>∃(v:Int) (j:Nat),0<=v/\v<18446744073709551616/\j<=k+10/\e=Z (.tuple #[Y v,J j])/\w=w'):=fun k hk=>by rw[<-hp1,hn];exact wJ a len cap k n CV w hC hk
 have nN:Hid (∀s v w,(s=0\/s=1)->0<=v->v<18446744073709551616->CT 106 #[J f,J s,Y v] w fun x w'=>∃z:Int,0<=z/\z<18446744073709551616/\x=Z (Y z)/\w=w'):=fun s v w a b c=>QN h s v a b c w;have hob:0<one/\one<=4503599627370496/\24<=p/\p<=53:=by rcases h with h|h<;>omega
 clear h hC hn;go_enter func161,ntmps161;go_upto_region 3 with(go_at_call 203;refine(HE k om).mono ?_;rintro x w' ⟨e,x0,x1,rfl,hw⟩;subst hw);go_upto_region 4 with(first|(go_at_call 98;refine(HP _).mono ?_;rintro x w' ⟨rfl,hw⟩;subst hw)|(go_at_call 159;refine(HB (k+2) om).mono ?_;rintro x w' ⟨fr,j,fr0,fr1,hj,rfl,hw⟩;subst hw));go_upto_region 5 with(go_at_call 75;refine(take_any a len cap j 12 _ HC.out om om om).mono ?_;rintro x w' ⟨d,d0,d1,rfl,hw⟩;subst hw);go_upto_region 6 with(go_at_call 75;refine(take_any a len cap (j+1) 2 _ HC.out om om om).mono ?_;rintro x w' ⟨s,s0,s1,rfl,hw⟩;subst hw);have V6:s=0\/s=1:=om;have aJu:Hid (s=0\/s=1):=V6;clear V6;rcases(show d=0\/d=1\/d=2\/d=3\/((d==0)=O/\(d==1)=O/\(d==2)=O/\(d==3)=O) by simp;omega)with rfl|rfl|rfl|rfl|⟨k0,k1,k2,k3⟩
 ·exact KO
 ·exact KO
 ·go_upto_region 14 with(first|(go_at_call 98;refine(HP _).mono ?_;rintro x w' ⟨rfl,hw⟩;subst hw)|(go_at_call 120;refine(H2 _).mono ?_;rintro x w' ⟨rfl,hw⟩;subst hw));exact KO
 ·exact KO
 ·exact KO
theorem aCw{P:Prop}(h:P:=by
 obtain⟨g,hgb,FV,hgx⟩:=hB.put z0 z00;have HO:Hid (∀w2,Gb wr w2->Ow w2 w.heap.size 5 1 .u8 o2 (m+9+j) g):=fun w2 hg=>FV.gb hg;have HX:Hid (g ((m+9+j)*1+0)=z0):=hgx;exact aCB):P:=h
theorem aCB{P:Prop}(h:P:=by
 have hsz:=hG.size;have HGg:Hid (∀j,0<=g j/\g j<=255):=hgb;clear hB FV hgx hgb;go_wp2_with (at_builtin;refine h_ rfl _ _ 44 rfl 5 (.int .u8 0) 1 1 .u8 Tryz.underlying44 TF rfl de de w.heap.size (m+9+j) 1 g _ wr.heap.size rfl (HO _ kg) rfl (Dx (by simp[go_sem]) HX.out) om om (by rw[World.size_alloc];omega) ?_;intro v' w3 hown3 hb3 _ _);go_roundw
 case rel=>exact⟨j+1,v/256,_,rfl,om,by go_num,rfl,om,om,⟨g,HGg.out,hown3⟩,Gb.below kg hb3 (Nat.le_refl _)⟩
 case measure=>simp[intOf];omega):P:=h
theorem dM.g7{a:Option Addr}(h:dM w a len)(g:Gb w w'):dM w' a len:=by
 refine⟨h.few,?_⟩;rcases h.cells with e|⟨b,off,e,c⟩
 ·exact .inl e
 ·refine .inr ⟨b,off,e,fun i hi=>?_⟩;obtain⟨z,z0,z1,hz⟩:=c i hi;exact⟨z,z0,z1,g.old hz⟩
theorem TF:(Tryz.prog.info? 5).map (fun i=>(i.zero,i.size,i.bytes))=some (some (.int .u8 0),1,1):=by kernel_rfl
def Bs(w:World)(base:Nat)(v:Value)(m:Nat):Prop:=∃g,(∀j,0<=g j/\g j<=255)/\Ow w base 5 1 .u8 v m g
theorem Bs.gb(h:Bs w base v m)(hg:Gb w w'):Bs w' base v m:=by
 obtain⟨g,hb,h⟩:=h;exact⟨g,hb,h.gb hg⟩
theorem Bs.put(h:Bs w base v m)(x:Int)(x0:0<=x/\x<=255):∃g,(∀j,0<=g j/\g j<=255)/\Ow w base 5 1 .u8 v m g/\g (m*1+0)=x:=by
 obtain⟨g,hb,h⟩:=h;refine⟨fun j=>if j=m then x else g j,fun j=>?_,h.congr fun j hj=>?_,?_⟩
 ·show 0<=(if j=m then x else g j)/\(if j=m then x else g j)<=255;split
  ·exact x0
  ·exact hb j
 ·show g j=if j=m then x else g j
  rw[if_neg (by omega)]
 ·show(if m*1+0=m then x else g (m*1+0))=x;rw[if_pos (by omega)]
theorem u8_in(v:Int):0<=IntKind.u8.wrap v/\IntKind.u8.wrap v<=255:=by rw[IntKind.wrap_u8];omega
theorem Bs.text(h:Bs w base v m):∃t:ByteArray,t.size=m/\∀w',Gb w w'->(convert 44 9 v).run Tryz.prog w'=.ok (.string t) w':=by
 rcases Nat.eq_zero_or_pos m with rfl|hm
 ·obtain⟨g,hb,h⟩:=h;obtain⟨a,cap,rfl,_,_⟩:=h.len;refine⟨⟨#[]⟩,rfl,fun w' hg=>?_⟩;cases a with
  |none=>
   rw[run_convert_bytes_string w' 44 9 5 none 0 cap Tryz.underlying44 Tryz.underlying5 Tryz.underlying9];simp[Conv.bytesToString];rfl
  |some a=>exact run_convert_bytes_back w' 44 9 5 a cap [] Tryz.underlying44 Tryz.underlying5 Tryz.underlying9 (fun j hj=>absurd hj (by simp))
 ·obtain⟨g,hb,h⟩:=h;obtain⟨b,cap,hv,_,_,hc⟩:=h.rd.at hm;subst hv;refine⟨⟨((List.range m).map fun j=>UInt8.ofNat (g j).toNat).toArray⟩,by simp[ByteArray.size],fun w' hg=>?_⟩;have hl:((List.range m).map fun j=>UInt8.ofNat (g j).toNat).length =m:=by simp
  have:=run_convert_bytes_back w' 44 9 5 ⟨b,0,none⟩ cap ((List.range m).map fun j=>UInt8.ofNat (g j).toNat) Tryz.underlying44 Tryz.underlying5 Tryz.underlying9 (fun j hj=>by
   have hj':j<m:=om;have e:(⟨b,0,none⟩:Addr).add j=⟨b,j,none⟩:=by unfold Addr.add;split<;>simp_all
   rw[e,hg.old (hc j om)];have h1:=hb j;simp;omega)
  rw[hl]at this;exact this
theorem Dx{k:IntKind}(h0:w.cell? ⟨b,0,none⟩=some (.int k x0))(e0:g (m+0)=x0):∀j,j<1*1->w.cell? ⟨b,j,none⟩=some (.int k (g (m+j))):=by
 intro j hj;obtain rfl:j=0:=om;rw[h0,e0]
abbrev EN:ByteArray:=⟨#[108,101,102,116,111,118,101,114,32,108,101,102,116,111,118,101,114]⟩
theorem Gv(a:Option Addr)(len cap p:Nat)(w:World)(hC:dM w a len)(hp:p<=300):
  CT 160 #[.slice a len cap,J p] w fun e w'=>∃(t:ByteArray) (k:Nat),t.size<=1000/\k<=p+200/\e=Z (.tuple #[.string t,J k])/\Gb w w':=by
 have HC:Hid (∀w',Gb w w'->dM w' a len):=fun w' g=>hC.g7 g;clear hC;go_enter func160,ntmps160;go_upto_region 3 with(go_at_call 75;refine(take_any a len cap p 7 _ (HC _ (Gb.refl _)) om om om).mono ?_;rintro e w' ⟨n,n0,n1,rfl,hw⟩;subst hw);go_wp2;go_loopw [1,9,10] (fun s1 s9 s10 wr=>∃(i k m:Nat) (out:Value),out=s9/\(i:Int)<=n/\s1=J k/\k<=p+1+22*i/\s10=J i/\Bs wr w.heap.size s9 m/\m<=17*i/\Gb w wr) (fun _ _ i _=>(7-intOf i).toNat)
 case atStart=>exact⟨0,p+1,0,_,rfl,om,by go_num,om,rfl,⟨fun _=>0,fun _=>⟨Int.le_refl 0,show(0:Int)<=255 by decide⟩,Ow.lit _ _ _ _ _⟩,om,kg⟩
 case round=>
  obtain⟨i,k,m,out,rfl,hi,rfl,hk,rfl,hB,hm,hG⟩:=hrel;by_cases hlt:(i:Int)<n
  ·have HB:Hid (Bs wr w.heap.size out m):=hB;have HG:Hid (Gb w wr):=hG;clear hB hG;go_upto_region 8 with(go_at_call 159;refine(wJ a len cap k 64 om _ (HC _ HG.out) om).mono ?_;rintro e w' ⟨v,k1,v0,v1,hk1,rfl,hw⟩;subst hw);go_upto_region 10 with(go_at_call 159;refine(wJ a len cap k1 64 om _ (HC _ HG.out) om).mono ?_;rintro e w' ⟨u,k2,u0,u1,hk2,rfl,hw⟩;subst hw);go_upto_region 12 with(go_at_call 75;refine(take_any a len cap k2 256 _ (HC _ HG.out) om om om).mono ?_;rintro e w' ⟨x,x0,x1,rfl,hw⟩;subst hw);go_upto_region 13 with(go_at_call 75;refine(take_any a len cap (k2+1) 8 _ (HC _ HG.out) om om om).mono ?_;rintro e w' ⟨y,y0,y1,rfl,hw⟩;subst hw);go_wp2;go_loopw [9,11,15] (fun s9 s11 s15 wx=>∃(j:Nat) (v:Int) (o2:Value),o2=s9/\j<=8/\s15=J j/\s11=Y v/\0<=v/\v<18446744073709551616/\Bs wx w.heap.size s9 (m+j)/\Gb w wx) (fun _ _ i _=>(8-intOf i).toNat)
   case atStart=>exact⟨0,v,_,rfl,om,rfl,rfl,v0,v1,HB.out,HG.out⟩
   case round=>
    obtain⟨j,v,o2,rfl,hj,rfl,rfl,v0,v1,hB,hG⟩:=hrel;by_cases hj8:(j:Int)<8
    ·obtain⟨z,hz⟩:∃z,IntKind.u8.wrap v=z:=⟨_,rfl⟩;obtain⟨g,hgb,FV,hgx⟩:=hB.put z (by rw[<-hz];exact u8_in _);have HO:Hid (∀w2,Gb wr w2->Ow w2 w.heap.size 5 1 .u8 o2 (m+j) g):=fun w2 hg=>FV.gb hg;have HX:Hid (g ((m+j)*1+0)=z):=hgx;have hsz:=hG.size;have HGg:Hid (∀j,0<=g j/\g j<=255):=hgb;clear hB FV hgx hgb;go_wp2_with (at_builtin;refine h_ rfl _ _ 44 rfl 5 (.int .u8 0) 1 1 .u8 Tryz.underlying44 TF rfl de de w.heap.size (m+j) 1 g _ wr.heap.size rfl (HO _ kg) rfl (Dx (by simp[go_sem]) HX.out) om om (by rw[World.size_alloc];omega) ?_;intro v' w3 hown3 hb3 _ _);go_roundw
     case rel=>exact⟨j+1,v/256,_,rfl,om,by go_num,rfl,om,om,⟨g,HGg.out,hown3⟩,Gb.below kg hb3 (Nat.le_refl _)⟩
     case measure=>simp[intOf];omega
    ·obtain rfl:j=8:=om;obtain⟨z,hz⟩:∃z,IntKind.u8.wrap x=z:=⟨_,rfl⟩;obtain⟨g,hgb,FV,hgx⟩:=hB.put z (by rw[<-hz];exact u8_in _);have HO:Hid (∀w2,Gb wr w2->Ow w2 w.heap.size 5 1 .u8 o2 (m+8) g):=fun w2 hg=>FV.gb hg;have HX:Hid (g ((m+8)*1+0)=z):=hgx;have hsz:=hG.size;have HGg:Hid (∀j,0<=g j/\g j<=255):=hgb;clear hB FV hgx hgb;go_wp2_with (at_builtin;refine h_ rfl _ _ 44 rfl 5 (.int .u8 0) 1 1 .u8 Tryz.underlying44 TF rfl de de w.heap.size (m+8) 1 g _ wr.heap.size rfl (HO _ kg) rfl (Dx (by simp[go_sem]) HX.out) om om (by rw[World.size_alloc];omega) ?_;intro v' w3 hown3 hb3 _ _);have HG3:Hid (Gb w w3):=(show Gb w w3 from Gb.below kg hb3 (Nat.le_refl _));have HB3:Hid (Bs w3 w.heap.size v' (m+9)):=⟨g,HGg.out,hown3⟩;clear hown3 hb3 HO HX hG hsz;go_loopw [9,13,16] (fun s9 s13 s16 wx=>∃(j:Nat) (v:Int) (o2:Value),o2=s9/\j<=8/\s16=J j/\s13=Y v/\0<=v/\v<18446744073709551616/\Bs wx w.heap.size s9 (m+9+j)/\Gb w wx) (fun _ _ i _=>(8-intOf i).toNat)
     case atStart=>exact⟨0,u,_,rfl,om,rfl,rfl,u0,u1,HB3.out,HG3.out⟩
     case round=>
      obtain⟨j,v,o2,rfl,hj,rfl,rfl,v0,v1,hB,hG⟩:=hrel;by_cases hj8:(j:Int)<8
      ·obtain⟨z0,hz0⟩:∃z,IntKind.u8.wrap v=z:=⟨_,rfl⟩;have z00:0<=z0/\z0<=255:=by rw[<-hz0,IntKind.wrap_u8];omega
       rcases(show((j:Int)=7/\y<4)\/((j:Int)=7/\¬y<4)\/(((j:Int)==7)=O) by simp;omega)with⟨c1,c2⟩|⟨c1,c2⟩|c1
       ·obtain⟨g,hgb,FV,hgx⟩:=hB.put (z0/8) om;have HO:Hid (∀w2,Gb wr w2->Ow w2 w.heap.size 5 1 .u8 o2 (m+9+j) g):=fun w2 hg=>FV.gb hg;have HX:Hid (g ((m+9+j)*1+0)=z0/8):=hgx;exact aCB
       ·exact aCw
       ·exact aCw
      ·obtain rfl:j=8:=om;have hB':Bs wr w.heap.size o2 (m+17):=hB;go_wp2;go_roundw
       case rel=>exact⟨i+1,k2+1+1,m+17,_,rfl,om,by go_num,om,by go_num,hB',om,hG⟩
       case measure=>simp[intOf];omega
  ·have HB:Hid (Bs wr w.heap.size out m):=hB;have HG:Hid (Gb w wr):=hG;clear hB hG;go_upto_region 28 with(go_at_call 75;refine(take_any a len cap k 20 _ (HC _ HG.out) om om om).mono ?_;rintro e w' ⟨x,x0,x1,rfl,hw⟩;subst hw);by_cases hx:16<x
   ·go_wp2;go_returns;exact⟨_,k+1,de,om,rfl,HG.out⟩
   ·obtain⟨t,ht,hq⟩:=HB.out.text;obtain⟨X,rfl⟩:=Int.eq_ofNat_of_zero_le x0;have hX:X<=16:=om;have hl:EN.size=17:=rfl;have qs:∀w,(Instr.slice 9 (.string EN) none (some (J X)) none).run Tryz.prog w=.ok (.string (EN.extract 0 X)) w:=fun w=>run_slice_string_h w 9 EN Tryz.underlying9 .i64 X om (by rw[hl];omega);have hs:(EN.extract 0 X).size <=17:=by rw[ByteArray.size_extract];omega
    have hsz:(t++EN.extract 0 X).size <=1000:=by rw[ByteArray.size_append];omega
    obtain⟨t1,ht1⟩:∃t1,EN.extract 0 X=t1:=⟨_,rfl⟩;rw[ht1]at qs hs hsz;have ht':t.size<=200:=om;have hcd:¬9223372036854775807<t.size+t1.size:=om;have aI1:t.size+t1.size<=9223372036854775807:=om;clear ht ht1;have HQ:Hid _:=hq;clear hq;go_wp2;go_region_held3 (fun w'=>Gb wr w'/\(convert 44 9 out).run Tryz.prog w'=.ok (.string t) w')
     (exact⟨kg,HQ.out _ kg⟩)
     (fail)
    all_goals go_wp2
    all_goals go_returns
    all_goals exact⟨_,k+1,hsz,om,rfl,(show Gb w _ from by have:=HG.out;exact kg)⟩
theorem aCv{P:Prop}(h:P:=by
 rw[decide_eq_true c2];rcases by_ y.c 4 with⟨k',_⟩|⟨k',_⟩
 ·exact .inr (.inr (.inr (.inl ⟨rfl,rfl,kx,k'⟩)))
 ·exact .inr (.inr (.inr (.inr (.inl ⟨rfl,rfl,kx,k'⟩))))):P:=h
theorem aCy{P:Prop}(h:P:=by
 rw[decide_eq_true c1];rcases by_ x.c 4 with⟨k,_⟩|⟨k,_⟩
 ·exact .inl ⟨rfl,k⟩
 ·rcases by_ y.c 4 with⟨k',_⟩|⟨k',_⟩
  ·exact .inr (.inl ⟨rfl,k,k'⟩)
  ·exact .inr (.inr (.inl ⟨rfl,k,k'⟩))):P:=h
theorem aE5(h:aC K w (aB b k c) N)(h0:N=0):((k:Nat):Int)=0:=by
 obtain⟨n,hn,hb⟩:=h;obtain⟨b',cap,e,_⟩:=hb.shape;have:=hb.none h0;injection e with _ e2 _;omega
theorem aE4(h:aC K w (aB b k c) N)(hN:0<N):0<k:=by
 obtain⟨n,hn,hb⟩:=h;obtain⟨b',cap,e,_⟩:=hb.shape;have h2:=hb.1.iff;injection e with _ e2 _;have:n≠0:=fun h=>by have:=h2.1 h;omega
 omega
def Ce(R:Int->Int->Prop)(F:Nat)(args:Array Value):Prop:=∀w,Calls Tryz.prog F args w fun e w'=>∃z fl:Int,R z fl/\e=Z (aK z fl)/\Gr w w'
theorem UM(f mode a b ca sa xa ga cb sb xb gb sp xp:Int)(Gp:Nat)(qa qb np:Bool)(R:Int->Int->Prop)(HF:fM f mode a b V)(gJ:bC f a ca sa xa ga)(iJ:bC f b cb sb xb gb)
  (kY:bF ca sa xa ga qa) (r_:bF cb sb xb gb qb) (HNa:Hid (∀t,Ce R 96 #[J f,.bool t])) (HBa:Hid (Ce R 83 #[J f])) (HIn:Hid (Ce R 97 #[J f,J sp])) (WB:Hid (Ce R 84 #[J f,J sp]))
  (HP:RP ca sa xa ga cb sb xb gb np) (HM:Hid (∀w,CT 165 #[eH ca sa xa ga,eH cb sb xb gb] w fun e w'=>∃b k cc,aC 4 w' (aB b k cc) Gp/\e=Z (.agg #[J sp,aB b k cc,J xp,.bool O])/\Gb w w'))
  (HR:Hid (0<Gp->∀v w,aC 4 w v Gp->CT 85 #[J f,J mode,.agg #[J sp,v,J xp,.bool O]] w (Ey R w)))
  (hcase:qa=V/\(ca==4)=V\/qa=V/\(ca==4)=O/\(cb==4)=V\/qa=V/\(ca==4)=O/\(cb==4)=O\/qa=O/\qb=V/\(ca==4)=O/\(cb==4)=V\/qa=O/\qb=V/\(ca==4)=O/\(cb==4)=O\/qa=O/\qb=O/\np=V\/
   qa=O/\qb=O/\np=O/\((ca==2)=V/\Hid True\/(ca==2)=O/\(cb==2)=V/\Hid True\/(ca==2)=O/\(cb==2)=O/\Hid (Gp=0)\/(ca==2)=O/\(cb==2)=O/\Hid (0<Gp))) (w:World):
  CT 104 #[J f,J mode,Y a,Y b] w fun e w'=>∃z fl:Int,R z fl/\e=Z (aK z fl)/\Gb w w':=by
 rcases hcase with⟨rfl,e1⟩|⟨rfl,e1,e2⟩|⟨rfl,e1,e2⟩|⟨rfl,rfl,e1,e2⟩|⟨rfl,rfl,e1,e2⟩|⟨rfl,rfl,rfl⟩|⟨rfl,rfl,rfl,⟨e1,hG⟩|⟨e1,e2,hG⟩|⟨e1,e2,hG⟩|⟨e1,e2,hG⟩⟩
 all_goals
  go_enter func104,ntmps104;go_wp2_with (first
   |(go_at_call 94;refine kw (HF _) ?_)
   |(go_at_call 57;first|(with_reducible refine ku (gJ.out _) fun w1 ak=>?_;have gY:=ak.aZ w;have hz0:=au gY.1)|(with_reducible refine ku (iJ.out _) fun w2 aA=>?_;have jA:=aA.aZ w;have:=aA.J8 w1;have hz1:=au jA.1))
   |(go_at_call 95;first|(with_reducible refine ku (kY.out _) fun va aS=>?_;have:=aS.aZ w;have:=aS.dX w1;have:=aS.dX w2)|(with_reducible refine ku (r_.out _) fun vb bV=>?_;have:=bV.aZ w;have:=bV.dX w1;have:=bV.dX w2))
   |(go_at_call 164;refine ku (HP _) fun vp kU=>?_;have:=kU.aZ w;have:=kU.dX w1;have:=kU.dX w2)
   |(go_at_call 165;refine(HM _).mono ?_;rintro e wm ⟨bp,kp,qp,hbp,rfl,kS⟩;have Jl:=kS.A20 w;have Qy:=kS.dX w1;have Qx:=kS.dX w2;have mA0:=nS Qy.1;have mB0:=nS Qx.1;have hzm:=au Jl.1.1;first|(have hkp:=aE5 hbp hG.out)|(have hkp:=aE4 hbp hG.out)|skip)
   |(go_at_call 97;refine(HIn _).mono ?_;rintro e w9 ⟨z,fl,hq,rfl,aV⟩;have iw:=aV.aZ w)
   |(go_at_call 84;refine(WB _).mono ?_;rintro e w9 ⟨z,fl,hq,rfl,aV⟩;have iw:=aV.aZ w)
   |(go_at_call 96;refine(HNa _ _).mono ?_;rintro e w9 ⟨z,fl,hq,rfl,aV⟩;have iw:=aV.aZ w)
   |(go_at_call 83;refine(HBa _).mono ?_;rintro e w9 ⟨z,fl,hq,rfl,aV⟩;have iw:=aV.aZ w)
   |(go_at_call 85;refine(HR hG.out _ _ (aC.gb hbp Gb.g)).mono ?_;rintro e w9 ⟨z,fl,hq,rfl,aV⟩;have iw:=aV.aZ w))
  refine bodyPost_ret (v:=aK z fl) (by simp[results,Tryz.results104,go_sem,iw]) rfl ⟨z,fl,hq,rfl,?_⟩;exact Gb.g
theorem aGr(h:aP f p mx one inf sg nan)(a b:Int)(a0:0<=a)(fa:a<2*sg)(b0:0<=b)(fb:b<2*sg)(w:World):
  CT 104 #[J f,J 0,Y a,Y b] w fun e w'=>∃z fl:Int,(0<=z/\z<2*sg)/\e=Z (aK z fl)/\Gb w w':=by
 have hb:=h.bounds;obtain⟨x,hx⟩:=fE h a a0 om;obtain⟨y,hy⟩:=fE h b b0 om;obtain⟨v1,v2,v3,v4,v5,v6⟩:=bQ h hx;obtain⟨u1,u2,u3,u4,u5,u6⟩:=bQ h hy;have xc0:=v1.c0;have Ui:=v1.c4;have yc0:=u1.c0;have yc4:=u1.c4;have hms:mulS x.s y.s=0\/mulS x.s y.s=1:=by unfold mulS;split<;>simp
 have hsw:∀v,0<=v->v<sg->0<=sw (mulS x.s y.s) sg v/\sw (mulS x.s y.s) sg v<2*sg:=by
  intro v k1 k2;unfold sw;split<;>omega
 have by_:∀c d:Int,(c==d)=V/\c=d\/(c==d)=O/\c≠d:=by
  intro c d;by_cases k:c=d
  ·exact .inl ⟨by simp[k],k⟩
  ·exact .inr ⟨by simp[k],k⟩
 refine UM f 0 a b x.c x.s x.e ((x.M:Nat):Int) y.c y.s y.e ((y.M:Nat):Int) (mulS x.s y.s) (x.e+y.e) (x.M*y.M) (decide (3<=x.c)) (decide (3<=y.c)) (decide (x.c=2/\y.c=0\/x.c=0/\y.c=2)) _ (fun w=>iU h 0 a b om om a0 fa b0 fb w) (ig h a a0 fa hx) (ig h b b0 fb hy) (fun w=>fO _ _ _ _ _ rfl w) (fun w=>fO _ _ _ _ _ rfl w)
  (fun t w=>(lJ h t _ rfl w).mono (fun e w' ⟨h1,h2⟩=>⟨_,_,om,h1,h2⟩)) (fun w=>(dI h w).mono (fun e w' ⟨h1,h2⟩=>⟨_,_,om,h1,h2⟩))
  (fun w=>(eX h _ hms w).mono (fun e w' ⟨h1,h2⟩=>⟨_,_,hsw inf om om,h1,h2⟩)) (fun w=>(iy h _ hms w).mono (fun e w' ⟨h1,h2⟩=>⟨_,_,hsw 0 om om,h1,h2⟩))
  (fun w=>tJ _ _ _ _ _ _ _ _ _ rfl w) (fun w=>xG _ _ _ _ _ _ x.M y.M om om v1.jF u1.jF om om om om w)
  (fun h0 v w hB=>?_) ?_ w
 ·have hK:=FK hB om;obtain⟨n,hn,hBig⟩:=hB;refine(mQ h hBig om h0 hK 0 _ _ _ om om hms om om (fun k=>by cases k)).mono ?_;rintro e w' ⟨z,fl,_,z0,z1,rfl,hg⟩;exact⟨_,_,hsw z z0 z1,rfl,hg⟩
 ·by_cases c1:3<=x.c
  ·exact aCy
  ·rw[decide_eq_false c1];have kx:(x.c==4)=O:=by simp;omega
   by_cases c2:3<=y.c
   ·exact aCv
   ·rw[decide_eq_false c2];by_cases c3:x.c=2/\y.c=0\/x.c=0/\y.c=2
    ·rw[decide_eq_true c3];exact .inr (.inr (.inr (.inr (.inr (.inl ⟨rfl,rfl,rfl⟩)))))
    ·rw[decide_eq_false c3];refine .inr (.inr (.inr (.inr (.inr (.inr ⟨rfl,rfl,rfl,?_⟩)))));rcases by_ x.c 2 with⟨k,_⟩|⟨k,_⟩
     ·exact .inl ⟨k,trivial⟩
     ·rcases by_ y.c 2 with⟨k',_⟩|⟨k',_⟩
      ·exact .inr (.inl ⟨k,k',trivial⟩)
      ·rcases Nat.eq_zero_or_pos (x.M*y.M)with g|g
       ·exact .inr (.inr (.inl ⟨k,k',g⟩))
       ·exact .inr (.inr (.inr ⟨k,k',g⟩))
theorem UW(f mode a b ca sa xa ga cb sb xb gb sp xq inf:Int)(rest:Bool)(m:Nat)(qa qb:Bool)(R:Int->Int->Prop)(HF:fM f mode a b V)(gJ:bC f a ca sa xa ga)(iJ:bC f b cb sb xb gb)
  (kY:bF ca sa xa ga qa) (r_:bF cb sb xb gb qb) (HNa:Hid (∀t,Ce R 96 #[J f,.bool t])) (HBa:Hid (Ce R 83 #[J f])) (HIn:Hid (Ce R 97 #[J f,J sp])) (WB:Hid (Ce R 84 #[J f,J sp]))
  (HI:KW 107 #[J f] (Y inf)) (HPu:Hid (∀w,CT 106 #[J f,J sp,Y inf] w fun e w'=>∃z:Int,R z 2/\e=Z (Y z)/\w=w'))
  (a0:0<=sa) (a1:sa<=1) (b0:0<=sb) (b1:sb<=1) (hm1:(sa+sb).tmod 2=sp) (hm2:(sa+sb)%2=sp)
  (HM:Hid (ca=1/\cb=1->∀w,CT 108 #[J f,eH 1 sa xa ga,eH 1 sb xb gb] w fun e w'=>∃bq kq qq,aC 8 w' (aB bq kq qq) m/\e=Z (.agg #[J sp,aB bq kq qq,J xq,.bool rest])/\Gb w w'))
  (HR:Hid (ca=1/\cb=1->∀v w,aC 8 w v m->CT 85 #[J f,J mode,.agg #[J sp,v,J xq,.bool rest]] w (Ey R w)))
  (hcase:qa=V/\(ca==4)=V\/qa=V/\(ca==4)=O/\(cb==4)=V\/qa=V/\(ca==4)=O/\(cb==4)=O\/qa=O/\qb=V/\(ca==4)=O/\(cb==4)=V\/qa=O/\qb=V/\(ca==4)=O/\(cb==4)=O\/
   qa=O/\qb=O/\Hid ((ca=0\/ca=1\/ca=2)/\(cb=0\/cb=1\/cb=2))) (w:World):
  CT 45 #[J f,J mode,Y a,Y b] w fun e w'=>∃z fl:Int,R z fl/\e=Z (aK z fl)/\Gb w w':=by
 rcases hcase with⟨rfl,e1⟩|⟨rfl,e1,e2⟩|⟨rfl,e1,e2⟩|⟨rfl,rfl,e1,e2⟩|⟨rfl,rfl,e1,e2⟩|⟨rfl,rfl,HC⟩
 rotate_right
 ·go_enter func45,ntmps45;go_upto_region 7 with(first
   |(go_at_call 94;refine kw (HF _) ?_)
   |(go_at_call 57;first|(with_reducible refine ku (gJ.out _) fun w1 ak=>?_;have gY:=ak.aZ w;have hz0:=au gY.1)|(with_reducible refine ku (iJ.out _) fun w2 aA=>?_;have jA:=aA.aZ w;have:=aA.J8 w1;have hz1:=au jA.1))
   |(go_at_call 95;first|(with_reducible refine ku (kY.out _) fun va aS=>?_;have:=aS.aZ w;have:=aS.dX w1;have:=aS.dX w2)|(with_reducible refine ku (r_.out _) fun vb bV=>?_;have aBq:=bV.aZ w;have:=bV.dX w1;have:=bV.dX w2)))
  obtain⟨h1,h2⟩:=HC.out;clear HC gJ iJ kY r_ HF HNa;rcases h1 with rfl|rfl|rfl<;>rcases h2 with rfl|rfl|rfl
  all_goals
   go_wp2_with (first
    |(go_at_call 83;refine(HBa _).mono ?_;rintro e w9 ⟨z,fl,hq,rfl,aV⟩;have iw:=aV.aZ w)
    |(go_at_call 97;refine(HIn _).mono ?_;rintro e w9 ⟨z,fl,hq,rfl,aV⟩;have iw:=aV.aZ w)
    |(go_at_call 84;refine(WB _).mono ?_;rintro e w9 ⟨z,fl,hq,rfl,aV⟩;have iw:=aV.aZ w)
    |(go_at_call 107;refine kw (HI _) ?_)
    |(go_at_call 106;refine(HPu _).mono ?_;rintro e wk ⟨z,hq,rfl,hw⟩;subst hw)
    |(go_at_call 108;refine(HM (by first|exact⟨rfl,rfl⟩|exact⟨trivial,trivial⟩) _).mono ?_;rintro e wm ⟨bq,kq,qq,hbq,rfl,kS⟩;have:=kS.aZ w)
    |(go_at_call 85;refine(HR (by first|exact⟨rfl,rfl⟩|exact⟨trivial,trivial⟩) _ _ hbq).mono ?_;rintro e w9 ⟨z,fl,hq,rfl,aV⟩;have iw:=aV.aZ w))
   first
    |(refine bodyPost_ret (v:=.agg #[Y z,J fl]) (by simp[results,Tryz.results45,go_sem,iw]) rfl ⟨z,fl,hq,rfl,?_⟩;exact Gb.g)
    |(refine bodyPost_ret (v:=.agg #[Y z,J 2]) (by simp[results,Tryz.results45,go_sem,aBq]) rfl ⟨z,2,hq,rfl,?_⟩;exact Gb.g)
 all_goals
  go_enter func45,ntmps45;go_wp2_with (first
   |(go_at_call 94;refine kw (HF _) ?_)
   |(go_at_call 57;first|(with_reducible refine ku (gJ.out _) fun w1 ak=>?_;have gY:=ak.aZ w;have hz0:=au gY.1)|(with_reducible refine ku (iJ.out _) fun w2 aA=>?_;have jA:=aA.aZ w;have:=aA.J8 w1;have hz1:=au jA.1))
   |(go_at_call 95;first|(with_reducible refine ku (kY.out _) fun va aS=>?_;have:=aS.aZ w;have:=aS.dX w1;have:=aS.dX w2)|(with_reducible refine ku (r_.out _) fun vb bV=>?_;have aBq:=bV.aZ w;have:=bV.dX w1;have:=bV.dX w2))
   |(go_at_call 96;refine(HNa _ _).mono ?_;rintro e w9 ⟨z,fl,hq,rfl,aV⟩;have iw:=aV.aZ w))
  refine bodyPost_ret (v:=aK z fl) (by simp[results,Tryz.results45,go_sem,iw]) rfl ⟨z,fl,hq,rfl,?_⟩;exact Gb.g
theorem aB7(h:aP f p mx one inf sg nan)(a b:Int)(a0:0<=a)(fa:a<2*sg)(b0:0<=b)(fb:b<2*sg)(w:World):
  CT 45 #[J f,J 0,Y a,Y b] w fun e w'=>∃z fl:Int,(0<=z/\z<2*sg)/\e=Z (aK z fl)/\Gb w w':=by
 have hb:=h.bounds;obtain⟨x,hx⟩:=fE h a a0 om;obtain⟨y,hy⟩:=fE h b b0 om;obtain⟨v1,v2,v3,v4,v5,v6⟩:=bQ h hx;obtain⟨u1,u2,u3,u4,u5,u6⟩:=bQ h hy;have xc0:=v1.c0;have Ui:=v1.c4;have yc0:=u1.c0;have yc4:=u1.c4;have hxs:=v1.jF;have hys:=u1.jF;obtain⟨sp,hsp⟩:∃sp,(x.s+y.s)%2=sp:=⟨_,rfl⟩;have hsp':(x.s+y.s).tmod 2=sp:=by rw[Int.tmod_eq_emod_of_nonneg (by omega)];exact hsp
 have hms:sp=0\/sp=1:=om;have hsw:∀v,0<=v->v<sg->0<=sw sp sg v/\sw sp sg v<2*sg:=by
  intro v k1 k2;unfold sw;split<;>omega
 have by_:∀c d:Int,(c==d)=V/\c=d\/(c==d)=O/\c≠d:=by
  intro c d;by_cases k:c=d
  ·exact .inl ⟨by simp[k],k⟩
  ·exact .inr ⟨by simp[k],k⟩
 obtain⟨P,hP⟩:∃P:Nat,(P:Int)=p+4:=⟨(p+4).toNat,om⟩;have hnum:x.c=1/\y.c=1->p+2<=(nb (x.M*2^P/y.M):Int)/\0<y.M/\0<x.M*2^P/y.M:=by
  rintro⟨cx,cy⟩;have bx:one<=(x.M:Int)/\(x.M:Int)<2*one:=by
   rcases hx with⟨_,hu⟩|⟨_,rfl⟩
   ·obtain⟨_,_,_,_,k5,_,_,k8,_⟩:=jg h hu;exact⟨k8 cx,k5⟩
   ·cases cx
  have bY:one<=(y.M:Int)/\(y.M:Int)<2*one:=by
   rcases hy with⟨_,hu⟩|⟨_,rfl⟩
   ·obtain⟨_,_,_,_,k5,_,_,k8,_⟩:=jg h hu;exact⟨k8 cy,k5⟩
   ·cases cy
  have hm:2^(P-1)<=x.M*2^P/y.M:=by
   rw[Nat.le_div_iff_mul_le (by omega)];have e1:2^P=2*2^(P-1):=by
    obtain⟨k,rfl⟩:∃k,P=k+1:=⟨P-1,om⟩;rw[Nat.pow_succ,Nat.add_sub_cancel];omega
   rw[e1,<-Nat.mul_assoc,Nat.mul_comm];exact Nat.mul_le_mul_right _ om
  have:=pq hm;exact⟨om,om,Nat.lt_of_lt_of_le (Nat.pow_pos de) hm⟩
 refine UW f 0 a b x.c x.s x.e ((x.M:Nat):Int) y.c y.s y.e ((y.M:Nat):Int) sp (x.e-y.e-P) inf (decide (x.M*2^P%y.M≠0)) (x.M*2^P/y.M) (decide (3<=x.c)) (decide (3<=y.c)) _ (fun w=>iU h 0 a b om om a0 fa b0 fb w) (ig h a a0 fa hx) (ig h b b0 fb hy) (fun w=>fO _ _ _ _ _ rfl w) (fun w=>fO _ _ _ _ _ rfl w)
  (fun t w=>(lJ h t _ rfl w).mono (fun e w' ⟨h1,h2⟩=>⟨_,_,om,h1,h2⟩)) (fun w=>(dI h w).mono (fun e w' ⟨h1,h2⟩=>⟨_,_,om,h1,h2⟩))
  (fun w=>(eX h _ hms w).mono (fun e w' ⟨h1,h2⟩=>⟨_,_,hsw inf om om,h1,h2⟩)) (fun w=>(iy h _ hms w).mono (fun e w' ⟨h1,h2⟩=>⟨_,_,hsw 0 om om,h1,h2⟩))
  (fun w=>jh h w) (fun w=>(nP h sp inf (sw sp sg inf) (by unfold sw;rcases hms with k|k<;>rw[k]<;>simp) om om w).mono (fun e w' ⟨h1,h2⟩=>⟨_,hsw inf om om,h1,h2⟩))
  om om om om hsp' hsp
  (fun hc w=>oz h 1 x.s x.e 1 y.s y.e x.M y.M om om (hnum hc).2.1 om om om om sp hsp' hsp om om om om P hP w)
  (fun hc v w hB=>?_) ?_ w
 ·have hK:=FK hB om;obtain⟨n,hn,hBig⟩:=hB;refine(mQ h hBig om (hnum hc).2.2 hK 0 sp _ _ om om hms om om (fun _=>(hnum hc).1)).mono ?_;rintro e w' ⟨z,fl,_,z0,z1,rfl,hg⟩;exact⟨_,_,hsw z z0 z1,rfl,hg⟩
 ·by_cases c1:3<=x.c
  ·exact aCy
  ·rw[decide_eq_false c1];have kx:(x.c==4)=O:=by simp;omega
   by_cases c2:3<=y.c
   ·exact aCv
   ·rw[decide_eq_false c2];exact .inr (.inr (.inr (.inr (.inr ⟨rfl,rfl,⟨om,om⟩⟩))))
theorem aD5(h:aP f p mx one inf sg nan)(v:Int)(v0:0<v)(v1:v<=100)(w:World):
  CT 36 #[J f,J 0,J 1,Y v] w fun e w'=>∃z fl:Int,(0<=z/\z<2*sg)/\e=Z (aK z fl)/\Gb w w':=by
 have hb:=h.bounds;have hM0:0<v.toNat:=om;refine GN f 0 1 v 0 v.toNat hM0 (fun w=>TA 1 v 64 (fH v.toNat (bG 1 0)) v.toNat (bG 1 0) V om ?_ (decide_eq_false om) (fun w=>jC 1 w) (fun w=>?_) (fun w=>gU 63 _ om de w) (fun w=>sS 1 0 (.inl rfl) w) (fun v v' w ⟨n,h1,h2⟩ ⟨n',h1',h2'⟩=>gV h2 om h2' om) w) (fun w=>iq f V (aP.yes h) w) (fun w=>jK 0 V de w) _ (fun v w hB=>?_) w
 ·rw[show bG 1 0=9223372036854775807 by decide];exact decide_eq_true (by unfold fH;rw[if_pos (by omega)];omega)
 ·have e:v=((v.toNat:Nat):Int):=om;have:=dV ((fC v.toNat om w).mono (fun e w' ⟨v,k,c1,c2,c3,c4⟩=>⟨v,k,c1,c2,(by omega:k<=2),c4⟩));rw[<-e]at this;exact this
 ·have hK:=FK hB om;obtain⟨n,hn,hBig⟩:=hB;refine(mQ h hBig om hM0 hK 0 0 0 O om om (.inl rfl) om om (fun k=>by cases k)).mono ?_;rintro e w' ⟨z,fl,_,z0,z1,rfl,hg⟩;refine⟨_,_,?_,rfl,hg⟩;unfold sw;split<;>omega
theorem zN{o:O7}(h:∀i,i<17*k+17->j_ s i=j_ s' i):o.oH mu inv sc s k=o.oH mu inv sc s' k/\o.OH mu s k=o.OH mu s' k:=by
 have h1:num s (17*k) 8=num s' (17*k) 8:=qP 8 fun i hi=>h _ om;have h2:num s (17*k+9) 8=num s' (17*k+9) 8:=qP 8 fun i hi=>h _ om;have h3:=h (17*k+8) om;unfold O7.oH O7.OH;rw[h1,h2,h3];exact⟨rfl,rfl⟩
theorem Dy(s:ByteArray)(n i:Nat)(hn:n<=s.size)(hi:i<n):j_ (s.extract 0 n) i=j_ s i:=by
 rw[wI _ _ _ _ hn,Nat.zero_add,if_pos hi]
theorem aCk(s t:ByteArray)(i:Nat)(hi:i<s.size):j_ (s++t) i=j_ s i:=by
 unfold j_;rw[dif_pos hi,dif_pos (by rw[ByteArray.size_append];omega),ByteArray.getElem_append_left hi]
theorem Pj{o:O7}{r:Smp}(h:o.iD mu inv sc t r):
  r=⟨1,0,0,0⟩\/
  (∃(k:Nat) (z:Int),r=⟨0,z,17*(k:Int)+17,(k:Int)+1⟩/\17*k+17<=t.size/\t.size<=20000/\o.iD mu inv sc (t.extract 0 (17*k+17)) r/\o.iD mu inv sc (t.extract 0 (17*k+16)) ⟨2,0,17*(k:Int),k⟩/\∀u:ByteArray,u.size=3->o.iD mu inv sc (t.extract 0 (17*k+17)++u) r)\/
  ∃k:Nat,r=⟨2,0,17*(k:Int),k⟩/\17*k<=t.size/\t.size<=20000/\o.iD mu inv sc (t.extract 0 (17*k)) r:=by
 unfold O7.iD at h;split at h
 ·rename_i c
  have hz:=c.1;have mk:∀(s:ByteArray) (r:Smp),s.size<=20000->Tried (o.oH mu inv sc s) (o.OH mu s) s.size r->o.iD mu inv sc s r:=fun s r hs hr=>by
   unfold O7.iD;rw[if_pos ⟨hs,c.2⟩];exact hr
  have hsz:∀n,n<=t.size->(t.extract 0 n).size =n:=fun n hn=>by rw[ByteArray.size_extract];omega
  rcases h with⟨k,k1,k2,k3,rfl⟩|⟨k,k1,k2,k3,rfl⟩
  ·have a17:∀j,j<=k->o.oH mu inv sc (t.extract 0 (17*k+17)) j=o.oH mu inv sc t j/\o.OH mu (t.extract 0 (17*k+17)) j=o.OH mu t j:=fun j hj=>zN fun i hi=>Dy t _ i k1 om;refine .inr (.inl ⟨k,o.OH mu t k,rfl,k1,hz,?_,?_,fun u hu=>?_⟩)
   ·refine mk _ _ (by rw[hsz _ k1];omega) (.inl ⟨k,by rw[hsz _ k1];omega,by rw[(a17 k (Nat.le_refl _)).1];exact k2,fun j hj=>by rw[(a17 j om).1];exact k3 j hj,by rw[(a17 k (Nat.le_refl _)).2]⟩)
   ·refine mk _ _ (by rw[hsz _ (by omega)];omega) (.inr ⟨k,by rw[hsz _ (by omega)];omega,by rw[hsz _ (by omega)];omega,fun j hj=>?_,rfl⟩);rw[(zN (s:=t.extract 0 (17*k+16)) (s':=t) fun i hi=>Dy t _ i om om).1];exact k3 j hj
   ·have hs2:(t.extract 0 (17*k+17)++u).size =17*k+20:=by rw[ByteArray.size_append,hsz _ k1,hu]
    have b17:∀j,j<=k->o.oH mu inv sc (t.extract 0 (17*k+17)++u) j=o.oH mu inv sc t j/\o.OH mu (t.extract 0 (17*k+17)++u) j=o.OH mu t j:=fun j hj=>zN fun i hi=>by
     rw[aCk _ _ _ (by rw[hsz _ k1];omega)];exact Dy t _ i k1 om
    refine mk _ _ om (.inl ⟨k,om,by rw[(b17 k (Nat.le_refl _)).1];exact k2,fun j hj=>by rw[(b17 j om).1];exact k3 j hj,by rw[(b17 k (Nat.le_refl _)).2]⟩)
  ·refine .inr (.inr ⟨k,rfl,k2,hz,?_⟩);refine mk _ _ (by rw[hsz _ k2];omega) (.inr ⟨k,by rw[hsz _ k2];omega,by rw[hsz _ k2];omega,fun j hj=>?_,rfl⟩);rw[(zN (s:=t.extract 0 (17*k)) (s':=t) fun i hi=>Dy t _ i k2 om).1];exact k3 j hj
 ·exact .inl h
