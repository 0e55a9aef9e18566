import Derived.Test.YtnbbfeknbfohhaaGreatDoorDa
import Derived.Test.YtnbbfeknbfohhaaGreatDoorF0
import Derived.Deep.RegionHeld3
set_option linter.unusedVariables false
set_option linter.unusedSimpArgs false
open Go.Value renaming int → J
open Go.IntKind renaming i64 → Y, u64 → O
open Go.Proofs.Tryz
namespace Go.Proofs.YtnbbfeknbfohhaaGreatDoor
open Go.RowKit
def aGs(a:Option Addr)(len cap:Nat)(c:Nat→Int)(k m f Z fl:Int):Prop:=
 (∀w,rD w a len c→QB 26 #[.slice a len cap,J Y k,J Y m,.bool true] w (.tuple #[J Y f,.agg #[J O Z,J Y fl]]))∧
 (∀w,rD w a len c→Fm w→QB 26 #[.slice a len cap,J Y k,J Y m,.bool false] w (.tuple #[J Y f,.agg #[J O Z,J Y fl]]))
set_option maxRecDepth 1000000
set_option maxHeartbeats 40000000
theorem aIa{P:Prop}(h:P:=by
 refine bodyPost_ret (v:=.tuple #[J Y g,.agg #[J O Z,J Y fl]]) (by simp[results,Tryz.results26,go_sem,zs0,zs1]) rfl ⟨rfl,?_⟩
 exact kg):P:=h
theorem wO{P:Prop}(h:P:=by
 refine bodyPost_ret (v:=.tuple #[J Y f,.agg #[J O Z,J Y fl]]) (by simp[results,Tryz.results26,go_sem,zs0,zs1]) rfl ⟨rfl,?_⟩
 exact kg):P:=h
theorem aIO{a:Option Addr}{len cap:Nat}{c:Nat→Int}{f m0 u v:Int}(HD:Hid (∀w,rD w a len c→QB 78 #[.slice a len cap] w (.tuple #[J Y f,J Y m0,J O u,J O v]))){m Z fl:Int}
  (HS:KB 79 #[J Y f,J Y m,J O u,J O v] (.agg #[J O Z,J Y fl])) (HI:Hid (∀w,Fm w→QR 80 #[J Y f,J Y m,J O u,J O v] w (.agg #[J O Z,J Y fl]))):aGs a len cap c 0 m f Z fl:=by
 refine⟨fun w hC=>?_,fun w hC hw=>?_⟩
 ·have HC:Hid (∀w',Gb w w'→rD w' a len c):=fun w' g=>hC.gb g
  clear hC
  go_enter func26,ntmps26
  go_wp2_with (first
   |(go_at_call 78;refine(HD.out _ (HC.out _ kg)).mono ?_;rintro x w1 ⟨rfl,aj⟩;obtain⟨fP,fU,fO,fQ⟩:=aj.y2 w.heap.size 0 1 (J O 0) (J Y 0))
   |(go_at_call 79;refine(HS.out _).mono ?_;rintro x w2 ⟨rfl,ak⟩;obtain⟨zs0,Hf,zs1,G8⟩:=ak.y2 w.heap.size 0 1 (J O 0) (J Y 0)))
  exact wO
 ·have HC:Hid (∀w',Gb w w'→rD w' a len c):=fun w' g=>hC.gb g
  have HW:Hid (∀w',Gb w w'→Fm w'):=fun w' g=>hw.gb g
  clear hC hw
  go_enter func26,ntmps26
  go_wp2_with (first
   |(go_at_call 78;refine(HD.out _ (HC.out _ kg)).mono ?_;rintro x w1 ⟨rfl,aj⟩;obtain⟨fP,fU,fO,fQ⟩:=aj.y2 w.heap.size 0 1 (J O 0) (J Y 0))
   |(go_at_call 80;refine(HI.out _ (HW.out _ kg)).mono ?_;rintro x w2 ⟨rfl,ak⟩;obtain⟨zs0,Hf,zs1,G8⟩:=ak.y2 w.heap.size 0 1 (J O 0) (J Y 0)))
  exact wO
theorem aIN{a:Option Addr}{len cap:Nat}{c:Nat→Int}{f m0 u v:Int}(HD:Hid (∀w,rD w a len c→QB 81 #[.slice a len cap] w (.tuple #[J Y f,J Y m0,J O u,J O v]))){m Z fl:Int}
  (HS:KB 82 #[J Y f,J Y m,J O u,J O v] (.agg #[J O Z,J Y fl])) (HI:Hid (∀w,Fm w→QR 83 #[J Y f,J Y m,J O u,J O v] w (.agg #[J O Z,J Y fl]))):aGs a len cap c 1 m f Z fl:=by
 refine⟨fun w hC=>?_,fun w hC hw=>?_⟩
 ·have HC:Hid (∀w',Gb w w'→rD w' a len c):=fun w' g=>hC.gb g
  clear hC
  go_enter func26,ntmps26
  go_wp2_with (first
   |(go_at_call 81;refine(HD.out _ (HC.out _ kg)).mono ?_;rintro x w1 ⟨rfl,aj⟩;obtain⟨fP,fU,fO,fQ⟩:=aj.y2 w.heap.size 0 1 (J O 0) (J Y 0))
   |(go_at_call 82;refine(HS.out _).mono ?_;rintro x w2 ⟨rfl,ak⟩;obtain⟨zs0,Hf,zs1,G8⟩:=ak.y2 w.heap.size 0 1 (J O 0) (J Y 0)))
  exact wO
 ·have HC:Hid (∀w',Gb w w'→rD w' a len c):=fun w' g=>hC.gb g
  have HW:Hid (∀w',Gb w w'→Fm w'):=fun w' g=>hw.gb g
  clear hC hw
  go_enter func26,ntmps26
  go_wp2_with (first
   |(go_at_call 81;refine(HD.out _ (HC.out _ kg)).mono ?_;rintro x w1 ⟨rfl,aj⟩;obtain⟨fP,fU,fO,fQ⟩:=aj.y2 w.heap.size 0 1 (J O 0) (J Y 0))
   |(go_at_call 83;refine(HI.out _ (HW.out _ kg)).mono ?_;rintro x w2 ⟨rfl,ak⟩;obtain⟨zs0,Hf,zs1,G8⟩:=ak.y2 w.heap.size 0 1 (J O 0) (J Y 0)))
  exact wO
theorem aIM{a:Option Addr}{len cap:Nat}{c:Nat→Int}{f m0 u v:Int}(HD:Hid (∀w,rD w a len c→QB 84 #[.slice a len cap] w (.tuple #[J Y f,J Y m0,J O u,J O v]))){m Z fl:Int}
  (HS:KB 85 #[J Y f,J Y m,J O u,J O v] (.agg #[J O Z,J Y fl])) (HI:Hid (∀w,Fm w→QR 86 #[J Y f,J Y m,J O u,J O v] w (.agg #[J O Z,J Y fl]))):aGs a len cap c 2 m f Z fl:=by
 refine⟨fun w hC=>?_,fun w hC hw=>?_⟩
 ·have HC:Hid (∀w',Gb w w'→rD w' a len c):=fun w' g=>hC.gb g
  clear hC
  go_enter func26,ntmps26
  go_wp2_with (first
   |(go_at_call 84;refine(HD.out _ (HC.out _ kg)).mono ?_;rintro x w1 ⟨rfl,aj⟩;obtain⟨fP,fU,fO,fQ⟩:=aj.y2 w.heap.size 0 1 (J O 0) (J Y 0))
   |(go_at_call 85;refine(HS.out _).mono ?_;rintro x w2 ⟨rfl,ak⟩;obtain⟨zs0,Hf,zs1,G8⟩:=ak.y2 w.heap.size 0 1 (J O 0) (J Y 0)))
  exact wO
 ·have HC:Hid (∀w',Gb w w'→rD w' a len c):=fun w' g=>hC.gb g
  have HW:Hid (∀w',Gb w w'→Fm w'):=fun w' g=>hw.gb g
  clear hC hw
  go_enter func26,ntmps26
  go_wp2_with (first
   |(go_at_call 84;refine(HD.out _ (HC.out _ kg)).mono ?_;rintro x w1 ⟨rfl,aj⟩;obtain⟨fP,fU,fO,fQ⟩:=aj.y2 w.heap.size 0 1 (J O 0) (J Y 0))
   |(go_at_call 86;refine(HI.out _ (HW.out _ kg)).mono ?_;rintro x w2 ⟨rfl,ak⟩;obtain⟨zs0,Hf,zs1,G8⟩:=ak.y2 w.heap.size 0 1 (J O 0) (J Y 0)))
  exact wO
theorem aIL{a:Option Addr}{len cap:Nat}{c:Nat→Int}{f m0 u v t:Int}(HD:Hid (∀w,rD w a len c→QB 87 #[.slice a len cap] w (.tuple #[J Y f,J Y m0,J O u,J O v,J O t]))){m Z fl:Int}
  (HS:KB 88 #[J Y f,J Y m,J O u,J O v,J O t] (.agg #[J O Z,J Y fl])) (HI:Hid (∀w,Fm w→QR 89 #[J Y f,J Y m,J O u,J O v,J O t] w (.agg #[J O Z,J Y fl]))):aGs a len cap c 3 m f Z fl:=by
 refine⟨fun w hC=>?_,fun w hC hw=>?_⟩
 ·have HC:Hid (∀w',Gb w w'→rD w' a len c):=fun w' g=>hC.gb g
  clear hC
  go_enter func26,ntmps26
  go_wp2_with (first
   |(go_at_call 87;refine(HD.out _ (HC.out _ kg)).mono ?_;rintro x w1 ⟨rfl,aj⟩;obtain⟨fP,fU,fO,fQ⟩:=aj.y2 w.heap.size 0 1 (J O 0) (J Y 0))
   |(go_at_call 88;refine(HS.out _).mono ?_;rintro x w2 ⟨rfl,ak⟩;obtain⟨zs0,Hf,zs1,G8⟩:=ak.y2 w.heap.size 0 1 (J O 0) (J Y 0)))
  exact wO
 ·have HC:Hid (∀w',Gb w w'→rD w' a len c):=fun w' g=>hC.gb g
  have HW:Hid (∀w',Gb w w'→Fm w'):=fun w' g=>hw.gb g
  clear hC hw
  go_enter func26,ntmps26
  go_wp2_with (first
   |(go_at_call 87;refine(HD.out _ (HC.out _ kg)).mono ?_;rintro x w1 ⟨rfl,aj⟩;obtain⟨fP,fU,fO,fQ⟩:=aj.y2 w.heap.size 0 1 (J O 0) (J Y 0))
   |(go_at_call 89;refine(HI.out _ (HW.out _ kg)).mono ?_;rintro x w2 ⟨rfl,ak⟩;obtain⟨zs0,Hf,zs1,G8⟩:=ak.y2 w.heap.size 0 1 (J O 0) (J Y 0)))
  exact wO
theorem aIK{a:Option Addr}{len cap:Nat}{c:Nat→Int}{f m0 u v:Int}(HD:Hid (∀w,rD w a len c→QB 90 #[.slice a len cap] w (.tuple #[J Y f,J Y m0,J O u,J O v]))){m Z fl:Int}
  (HS:KB 91 #[J Y f,J Y m,J O u,J O v] (.agg #[J O Z,J Y fl])) (HI:Hid (∀w,Fm w→QR 92 #[J Y f,J Y m,J O u,J O v] w (.agg #[J O Z,J Y fl]))):aGs a len cap c 4 m f Z fl:=by
 refine⟨fun w hC=>?_,fun w hC hw=>?_⟩
 ·have HC:Hid (∀w',Gb w w'→rD w' a len c):=fun w' g=>hC.gb g
  clear hC
  go_enter func26,ntmps26
  go_wp2_with (first
   |(go_at_call 90;refine(HD.out _ (HC.out _ kg)).mono ?_;rintro x w1 ⟨rfl,aj⟩;obtain⟨fP,fU,fO,fQ⟩:=aj.y2 w.heap.size 0 1 (J O 0) (J Y 0))
   |(go_at_call 91;refine(HS.out _).mono ?_;rintro x w2 ⟨rfl,ak⟩;obtain⟨zs0,Hf,zs1,G8⟩:=ak.y2 w.heap.size 0 1 (J O 0) (J Y 0)))
  exact wO
 ·have HC:Hid (∀w',Gb w w'→rD w' a len c):=fun w' g=>hC.gb g
  have HW:Hid (∀w',Gb w w'→Fm w'):=fun w' g=>hw.gb g
  clear hC hw
  go_enter func26,ntmps26
  go_wp2_with (first
   |(go_at_call 90;refine(HD.out _ (HC.out _ kg)).mono ?_;rintro x w1 ⟨rfl,aj⟩;obtain⟨fP,fU,fO,fQ⟩:=aj.y2 w.heap.size 0 1 (J O 0) (J Y 0))
   |(go_at_call 92;refine(HI.out _ (HW.out _ kg)).mono ?_;rintro x w2 ⟨rfl,ak⟩;obtain⟨zs0,Hf,zs1,G8⟩:=ak.y2 w.heap.size 0 1 (J O 0) (J Y 0)))
  exact wO
theorem aIJ{a:Option Addr}{len cap:Nat}{c:Nat→Int}{f m0 u:Int}(HD:Hid (∀w,rD w a len c→QB 93 #[.slice a len cap] w (.tuple #[J Y f,J Y m0,J O u]))){m Z fl:Int}
  (HS:KB 94 #[J Y f,J Y m,J O u] (.agg #[J O Z,J Y fl])) (HI:Hid (∀w,Fm w→QR 95 #[J Y f,J Y m,J O u] w (.agg #[J O Z,J Y fl]))):aGs a len cap c 5 m f Z fl:=by
 refine⟨fun w hC=>?_,fun w hC hw=>?_⟩
 ·have HC:Hid (∀w',Gb w w'→rD w' a len c):=fun w' g=>hC.gb g
  clear hC
  go_enter func26,ntmps26
  go_wp2_with (first
   |(go_at_call 93;refine(HD.out _ (HC.out _ kg)).mono ?_;rintro x w1 ⟨rfl,aj⟩;obtain⟨fP,fU,fO,fQ⟩:=aj.y2 w.heap.size 0 1 (J O 0) (J Y 0))
   |(go_at_call 94;refine(HS.out _).mono ?_;rintro x w2 ⟨rfl,ak⟩;obtain⟨zs0,Hf,zs1,G8⟩:=ak.y2 w.heap.size 0 1 (J O 0) (J Y 0)))
  exact wO
 ·have HC:Hid (∀w',Gb w w'→rD w' a len c):=fun w' g=>hC.gb g
  have HW:Hid (∀w',Gb w w'→Fm w'):=fun w' g=>hw.gb g
  clear hC hw
  go_enter func26,ntmps26
  go_wp2_with (first
   |(go_at_call 93;refine(HD.out _ (HC.out _ kg)).mono ?_;rintro x w1 ⟨rfl,aj⟩;obtain⟨fP,fU,fO,fQ⟩:=aj.y2 w.heap.size 0 1 (J O 0) (J Y 0))
   |(go_at_call 95;refine(HI.out _ (HW.out _ kg)).mono ?_;rintro x w2 ⟨rfl,ak⟩;obtain⟨zs0,Hf,zs1,G8⟩:=ak.y2 w.heap.size 0 1 (J O 0) (J Y 0)))
  exact wO
theorem aII{a:Option Addr}{len cap:Nat}{c:Nat→Int}{f m0 k u:Int}(HD:Hid (∀w,rD w a len c→QB 96 #[.slice a len cap] w (.tuple #[J Y f,J Y m0,J Y k,J O u]))){m Z fl:Int}
  (HS:KB 19 #[J Y f,J Y m,J Y k,J O u] (.agg #[J O Z,J Y fl])) (HI:Hid (∀w,Fm w→QR 97 #[J Y f,J Y m,J Y k,J O u] w (.agg #[J O Z,J Y fl]))):aGs a len cap c 6 m f Z fl:=by
 refine⟨fun w hC=>?_,fun w hC hw=>?_⟩
 ·have HC:Hid (∀w',Gb w w'→rD w' a len c):=fun w' g=>hC.gb g
  clear hC
  go_enter func26,ntmps26
  go_wp2_with (first
   |(go_at_call 96;refine(HD.out _ (HC.out _ kg)).mono ?_;rintro x w1 ⟨rfl,aj⟩;obtain⟨fP,fU,fO,fQ⟩:=aj.y2 w.heap.size 0 1 (J O 0) (J Y 0))
   |(go_at_call 19;refine(HS.out _).mono ?_;rintro x w2 ⟨rfl,ak⟩;obtain⟨zs0,Hf,zs1,G8⟩:=ak.y2 w.heap.size 0 1 (J O 0) (J Y 0)))
  exact wO
 ·have HC:Hid (∀w',Gb w w'→rD w' a len c):=fun w' g=>hC.gb g
  have HW:Hid (∀w',Gb w w'→Fm w'):=fun w' g=>hw.gb g
  clear hC hw
  go_enter func26,ntmps26
  go_wp2_with (first
   |(go_at_call 96;refine(HD.out _ (HC.out _ kg)).mono ?_;rintro x w1 ⟨rfl,aj⟩;obtain⟨fP,fU,fO,fQ⟩:=aj.y2 w.heap.size 0 1 (J O 0) (J Y 0))
   |(go_at_call 97;refine(HI.out _ (HW.out _ kg)).mono ?_;rintro x w2 ⟨rfl,ak⟩;obtain⟨zs0,Hf,zs1,G8⟩:=ak.y2 w.heap.size 0 1 (J O 0) (J Y 0)))
  exact wO
theorem aIH{a:Option Addr}{len cap:Nat}{c:Nat→Int}{f g m0 u:Int}(HD:Hid (∀w,rD w a len c→QB 98 #[.slice a len cap] w (.tuple #[J Y f,J Y g,J Y m0,J O u]))){m Z fl:Int}
  (HS:KB 99 #[J Y f,J Y g,J Y m,J O u] (.agg #[J O Z,J Y fl])) (HI:Hid (∀w,Fm w→QR 100 #[J Y f,J Y g,J Y m,J O u] w (.agg #[J O Z,J Y fl]))):aGs a len cap c 7 m g Z fl:=by
 refine⟨fun w hC=>?_,fun w hC hw=>?_⟩
 ·have HC:Hid (∀w',Gb w w'→rD w' a len c):=fun w' g=>hC.gb g
  clear hC
  go_enter func26,ntmps26
  go_wp2_with (first
   |(go_at_call 98;refine(HD.out _ (HC.out _ kg)).mono ?_;rintro x w1 ⟨rfl,aj⟩;obtain⟨fP,fU,fO,fQ⟩:=aj.y2 w.heap.size 0 1 (J O 0) (J Y 0))
   |(go_at_call 99;refine(HS.out _).mono ?_;rintro x w2 ⟨rfl,ak⟩;obtain⟨zs0,Hf,zs1,G8⟩:=ak.y2 w.heap.size 0 1 (J O 0) (J Y 0)))
  exact aIa
 ·have HC:Hid (∀w',Gb w w'→rD w' a len c):=fun w' g=>hC.gb g
  have HW:Hid (∀w',Gb w w'→Fm w'):=fun w' g=>hw.gb g
  clear hC hw
  go_enter func26,ntmps26
  go_wp2_with (first
   |(go_at_call 98;refine(HD.out _ (HC.out _ kg)).mono ?_;rintro x w1 ⟨rfl,aj⟩;obtain⟨fP,fU,fO,fQ⟩:=aj.y2 w.heap.size 0 1 (J O 0) (J Y 0))
   |(go_at_call 100;refine(HI.out _ (HW.out _ kg)).mono ?_;rintro x w2 ⟨rfl,ak⟩;obtain⟨zs0,Hf,zs1,G8⟩:=ak.y2 w.heap.size 0 1 (J O 0) (J Y 0)))
  exact aIa
