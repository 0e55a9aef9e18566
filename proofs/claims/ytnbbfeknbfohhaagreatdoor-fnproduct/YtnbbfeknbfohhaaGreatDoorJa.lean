import Derived.Test.YtnbbfeknbfohhaaGreatDoorIf
import Derived.Test.YtnbbfeknbfohhaaGreatDoorSd
import Derived.Test.YtnbbfeknbfohhaaGreatDoorSf
import Derived.Test.YtnbbfeknbfohhaaGreatDoorIh
set_option linter.unusedVariables false
set_option linter.unusedSimpArgs false
set_option maxRecDepth 1000000
set_option maxHeartbeats 40000000
open Go.Value renaming int → J
open Go.IntKind renaming i64 → Y
open Go.Ending renaming returned → Z
open Go.Proofs.Tryz
namespace Go.Proofs.YtnbbfeknbfohhaaGreatDoor
open Go.RowKit
def tN (k : Int) (n : Nat) : Nat := if 1 ≤ k ∧ k ≤ 6 ∧ n = 2 ^ k.toNat then 2 ^ (k.toNat - 1) else 0
abbrev V8 (F : Nat) (args : Array Value) (w : World) (n : Nat) (f : Nat → Int × Int) : Prop := Calls Tryz.prog F args w fun e w' => ∃ v, e = Z v ∧ Ow w' w.heap.size 46 2 .u64 v n (flat f) ∧ Gb w w'
theorem log_any (k : Int) (b : Bool) (hb : b = decide (1 ≤ k ∧ k ≤ 6)) (w : World) :
  QW 54 #[J Y k] w (.bool b) := by
 rcases (show (k < 1 ∨ 1 ≤ k ∧ 6 < k ∨ 1 ≤ k ∧ k ≤ 6) by omega) with c | ⟨c, c'⟩ | ⟨c, c'⟩
 ·obtain rfl : b = false := by rw [hb]; simp; omega
  have c1 : ¬ 1 ≤ k := om
  clear hb
  go_enter func54, ntmps54
  go_wp2
  go_returns
  exact ⟨rfl, rfl⟩
 ·obtain rfl : b = false := by rw [hb]; simp; omega
  have c1 : ¬ k ≤ 6 := om
  clear hb
  go_enter func54, ntmps54
  go_wp2
  go_returns
  exact ⟨rfl, rfl⟩
 ·obtain rfl : b = true := by rw [hb]; simp; omega
  clear hb
  go_enter func54, ntmps54
  go_wp2
  go_returns
  exact ⟨rfl, rfl⟩
theorem EU {o : Ops} (H : o.I) (HI : o.In) (k : Nat) (hk1 : 1 ≤ k) (hk6 : k ≤ 6) {w : World} {v cv : Value} {cs : Nat → Int} (hw : Fm w) (hr : Rd w .u64 v (2 ^ k) (2 ^ k) cs) (hcs : ∀ j, Wd (cs j)) (hc : CR o w cv (k + 1)) :
  V8 57 #[cv, v] w (2 ^ (k - 1)) (o.tr k cs) := by
 have HW : Hid (CT 142 #[J Y (k : Int), v, .func (.func 143) #[] #[], .func (.func 144) #[] #[], .func (.func 145) #[cv] #[]] w fun e w' => ∃ v', e = Z v' ∧ Ow w' w.heap.size 46 2 .u64 v' (2 ^ (k - 1)) (flat (o.tr k cs)) ∧ Gb w w') := MV H HI k hk1 k w v cv (k + 1) cs rfl hw hr hcs hc om om
 obtain ⟨g, cap, rfl, _⟩ := hc
 obtain ⟨n, hn⟩ : ∃ n, n = k + 1 := ⟨_, rfl⟩
 rw [← hn] at HW ⊢
 have u : IntKind.i64.wrap ((n : Int) - 1) = (k : Int) := wi
 clear hw hr hcs H HI hn
 go_enter func57, ntmps57
 go_wp2_with (go_at_call 142; refine HW.out.mono ?_; rintro e w1 ⟨v', rfl, ho1, aj⟩)
 go_returns
 exact ⟨_, rfl, ho1, aj⟩
theorem Il {o : Ops} (H : o.S) (HI : o.In) (k : Int) {w : World} {v : Value} {n : Nat} {cs : Nat → Int} (hn : n ≤ 2000000) (hr : Rd w .u64 v n n cs) (hcs : ∀ j, Wd (cs j)) :
  V8 20 #[J Y k, v] w (tN k n) (o.tr k.toNat cs) := by
 by_cases h : 1 ≤ k ∧ k ≤ 6
 ·by_cases hk : n = 2 ^ k.toNat
  ·have ht : tN k n = 2 ^ (k.toNat - 1) := by unfold tN; rw [if_pos ⟨h.1, h.2, hk⟩]
   rw [ht]
   rw [hk] at hr
   exact EW H HI k.toNat om om k w v cs om hr hcs
  ·have ht : tN k n = 0 := by unfold tN; rw [if_neg (fun h' => hk h'.2.2)]
   rw [ht]
   obtain ⟨a, cap, rfl, _⟩ := hr
   obtain ⟨L, hL⟩ : ∃ L, L = 2 ^ k.toNat := ⟨_, rfl⟩
   have HS : KW 49 #[J Y k] (J Y (L : Int)) := fun w => qG k k.toNat om om L (by rw [hL]) w
   have hq : ((n : Int) == (L : Int)) = false := by simp; omega
   have k1 : ¬ k < 1 := om
   have k2 : ¬ (6 : Int) < k := om
   clear hk ht H HI hcs h hL
   go_enter func20, ntmps20
   go_wp2_with (go_at_call 49; refine kw (HS.out _) ?_)
   go_returns
   exact ⟨_, rfl, Ow.lit _ _ _ _ _, kg⟩
 ·have ht : tN k n = 0 := by unfold tN; rw [if_neg (fun h' => h ⟨h'.1, h'.2.1⟩)]
  rw [ht]
  obtain ⟨a, cap, rfl, _⟩ := hr
  clear ht H HI hcs
  rcases (show k < 1 ∨ 1 ≤ k ∧ 6 < k by omega) with c | ⟨c, c'⟩
  ·clear h
   go_enter func20, ntmps20
   go_wp2
   go_returns
   exact ⟨_, rfl, Ow.lit _ _ _ _ _, kg⟩
  ·have c1 : ¬ k < 1 := om
   clear h
   go_enter func20, ntmps20
   go_wp2
   go_returns
   exact ⟨_, rfl, Ow.lit _ _ _ _ _, kg⟩
def bN (k : Int) (n : Nat) : Nat := if 1 ≤ k ∧ k ≤ 6 ∧ n = 2 ^ (k.toNat - 1) then 2 ^ k.toNat else 0
abbrev V6 (F : Nat) (args : Array Value) (w : World) (n : Nat) (f : Nat → Int) : Prop := Calls Tryz.prog F args w fun e w' => ∃ v, e = Z v ∧ Ow w' w.heap.size 22 1 .u64 v n f ∧ Gb w w'
theorem aBu {o : Ops} (H : o.I) (HI : o.In) (k : Nat) (hk1 : 1 ≤ k) (hk6 : k ≤ 6) {w : World} {v cv : Value} {zs : Nat → Int × Int} (hw : Fm w) (hr : Rd w .u64 v (2 ^ (k - 1)) (2 ^ (k - 1) * 2) (flat zs)) (hcs : ∀ j, mF (zs j)) (hc : CR o w cv (k + 1)) :
  V6 59 #[cv, v] w (2 ^ k) (o.bk k zs) := by
 have HW : Hid (CT 147 #[J Y (k : Int), v, .func (.func 148) #[cv] #[], .func (.func 149) #[] #[], .func (.func 143) #[] #[]] w fun e w' => ∃ v', e = Z v' ∧ Ow w' w.heap.size 22 1 .u64 v' (2 ^ k) (o.bk k zs) ∧ Gb w w') := MW H HI k hk1 k w v cv (k + 1) zs rfl hw hr hcs hc om om
 obtain ⟨g, cap, rfl, _⟩ := hc
 obtain ⟨n, hn⟩ : ∃ n, n = k + 1 := ⟨_, rfl⟩
 rw [← hn] at HW ⊢
 have u : IntKind.i64.wrap ((n : Int) - 1) = (k : Int) := wi
 clear hw hr hcs H HI hn
 go_enter func59, ntmps59
 go_wp2_with (go_at_call 147; refine HW.out.mono ?_; rintro e w1 ⟨v', rfl, ho1, aj⟩)
 go_returns
 exact ⟨_, rfl, ho1, aj⟩
theorem aBK {o : Ops} (H : o.S) (HI : o.In) (k : Int) {w : World} {v : Value} {n : Nat} {zs : Nat → Int × Int} (hn : n ≤ 2000000) (hr : Rd w .u64 v n (n * 2) (flat zs)) (hcs : ∀ j, mF (zs j)) :
  V6 53 #[J Y k, v] w (bN k n) (o.bk k.toNat zs) := by
 by_cases h : 1 ≤ k ∧ k ≤ 6
 ·by_cases hk : n = 2 ^ (k.toNat - 1)
  ·have ht : bN k n = 2 ^ k.toNat := by unfold bN; rw [if_pos ⟨h.1, h.2, hk⟩]
   rw [ht]
   rw [hk] at hr
   exact Oe H HI k.toNat om om k w v zs om hr hcs
  ·have ht : bN k n = 0 := by unfold bN; rw [if_neg (fun h' => hk h'.2.2)]
   rw [ht]
   obtain ⟨a, cap, rfl, _⟩ := hr
   obtain ⟨L, hL⟩ : ∃ L, L = 2 ^ k.toNat := ⟨_, rfl⟩
   have hL2 : L = 2 * 2 ^ (k.toNat - 1) := by rw [hL, Nat.mul_comm, ← Nat.pow_succ]; congr 1; omega
   have HS : KW 49 #[J Y k] (J Y (L : Int)) := fun w => qG k k.toNat om om L (by rw [hL]) w
   obtain ⟨M, hM⟩ : ∃ M : Nat, M = n * 2 := ⟨_, rfl⟩
   have u : IntKind.i64.wrap ((n : Int) * 2) = (M : Int) := wi
   have hq : ((M : Int) == (L : Int)) = false := by simp; omega
   have k1 : ¬ k < 1 := om
   have k2 : ¬ (6 : Int) < k := om
   clear hk ht H HI hcs h hL hL2 hM
   go_enter func53, ntmps53
   go_wp2_with (go_at_call 49; refine kw (HS.out _) ?_)
   go_returns
   exact ⟨_, rfl, Ow.lit _ _ _ _ _, kg⟩
 ·have ht : bN k n = 0 := by unfold bN; rw [if_neg (fun h' => h ⟨h'.1, h'.2.1⟩)]
  rw [ht]
  obtain ⟨a, cap, rfl, _⟩ := hr
  clear ht H HI hcs
  rcases (show k < 1 ∨ 1 ≤ k ∧ 6 < k by omega) with c | ⟨c, c'⟩
  ·clear h
   go_enter func53, ntmps53
   go_wp2
   go_returns
   exact ⟨_, rfl, Ow.lit _ _ _ _ _, kg⟩
  ·have c1 : ¬ k < 1 := om
   clear h
   go_enter func53, ntmps53
   go_wp2
   go_returns
   exact ⟨_, rfl, Ow.lit _ _ _ _ _, kg⟩
def TiS (ti : Int → Int) : Prop := ∀ c, Wd c → Hid (∀ w, CT 39 #[J Y 1, J Y 0, J Y 1, J .u64 c] w fun e w' => ∃ fl : Int, e = Z (.agg #[J .u64 (ti c), J Y fl]) ∧ Gb w w')
def TiI (ti : Int → Int) : Prop := ∀ c, Wd c → Hid (∀ w, Fm w → CT 23 #[J Y 1, J Y 0, J Y 1, J .u64 c] w fun e w' => ∃ fl : Int, e = Z (.agg #[J .u64 (ti c), J Y fl]) ∧ Gr w w')
def YH (k : Int) (L M : Nat) (f g : Nat → Int) : Prop := 1 ≤ k ∧ k ≤ 6 ∧ (L = 2 ^ k.toNat ∧ ∀ i, i < L → AL (f i)) ∧ (M = 2 ^ k.toNat ∧ ∀ i, i < M → AL (g i))
def pZ (o : Ops) (k : Nat) (f g : Nat → Int) (j : Nat) : Int × Int := o.cMul (o.tr k (fun j => o.int (f j)) j) (o.tr k (fun j => o.int (g j)) j)
def pF (o : Ops) (ti : Int → Int) (k : Nat) (f g : Nat → Int) (j : Nat) : Int := IntKind.i64.wrap (ti (o.bk k (pZ o k f g) j))
theorem Nq {o : Ops} (HI : o.In) (k : Nat) (f g : Nat → Int) (j : Nat) : mF (pZ o k f g j) := HI.cMul (HI.tr _ _ _ fun _ => HI.int _) (HI.tr _ _ _ fun _ => HI.int _)
abbrev V7 (F : Nat) (k : Int) (vf vg : Value) (w : World) (b : Bool) (n : Nat) (f : Nat → Int) : Prop := Calls Tryz.prog F #[J Y k, vf, vg] w fun e w' => ∃ v, e = Z (.tuple #[v, .bool b]) ∧ Ow w' w.heap.size 3 1 Y v n f ∧ Gb w w'
theorem Bo {w' : World} {b n : Nat} {t : TypeId} {v : Value} {k : IntKind} {g : Nat → Int} (ho : Ow w' b t 1 k v n g) : Rd w' k v n n g := by have := ho.rd; rw [Nat.mul_one] at this; exact this
theorem FU {k : Nat} (h : k ≤ 6) : 2 ^ k ≤ 64 := Nat.pow_le_pow_right (show 0 < 2 by decide) h
theorem aBG {o : Ops} (H : o.S) (HI : o.In) {ti : Int → Int} (HT : TiS ti) (k : Int) {L M : Nat} {f g : Nat → Int} (hfit : YH k L M f g) {vf vg : Value} {w : World} (hrf : Rd w Y vf L L f) (hrg : Rd w Y vg M M g) :
  V7 13 k vf vg w true (2 ^ k.toNat) (pF o ti k.toNat f g) := by
 obtain ⟨h1, h6, ⟨hL, hf⟩, hM, hg⟩ := hfit
 obtain ⟨n, hn⟩ : ∃ n, n = 2 ^ k.toNat := ⟨_, rfl⟩
 obtain ⟨h, hh⟩ : ∃ h, h = 2 ^ (k.toNat - 1) := ⟨_, rfl⟩
 have UW : n ≤ 64 := by rw [hn]; exact FU om
 have aDX : h ≤ 64 := by rw [hh]; exact FU om
 have hn0 : 0 < n := by rw [hn]; exact Nat.pow_pos de
 have hh0 : 0 < h := by rw [hh]; exact Nat.pow_pos de
 have tn : tN k n = h := by unfold tN; rw [if_pos ⟨h1, h6, hn⟩, hh]
 have bn : bN k h = n := by unfold bN; rw [if_pos ⟨h1, h6, hh⟩, hn]
 have hwi : ∀ (f : Nat → Int) (j : Nat), Wd (o.int (f j)) := fun f j => HI.int _
 have hTr : ∀ (f : Nat → Int) (w' : World) (u : Value), Rd w' .u64 u n n (fun j => o.int (f j)) → CT 20 #[J Y k, u] w' fun e w'' => ∃ b cap, e = Z (.slice (some ⟨b, 0, none⟩) h cap) ∧ b < w''.heap.size ∧ (∀ q, q < h * 2 → w''.cell? ⟨b, q, none⟩ = some (J .u64 (flat (o.tr k.toNat (fun j => o.int (f j))) q))) ∧ Gb w' w'' := fun f w' u hr => by
  refine (Il H HI k om hr (hwi f)).mono fun e w'' ⟨v, e1, e2, e3⟩ => ?_
  rw [tn] at e2
  obtain ⟨b, cap, rfl, _, c2, _, _, c3⟩ := e2.at hh0
  exact ⟨b, cap, e1, c2, fun q hq => (c3 q hq).1, e3⟩
 rw [← hn] at hL hM ⊢
 rw [hL] at hrf hf
 rw [hM] at hrg hg
 exact OG k (n : Int) n h om om hn0 hh0 om om vf vg w (fun j => o.int (f j)) (fun j => o.int (g j)) (o.bk k.toNat (pZ o k.toNat f g)) (fun j => ti (o.bk k.toNat (pZ o k.toNat f g) j)) (o.tr k.toNat (fun j => o.int (f j))) (o.tr k.toNat (fun j => o.int (g j))) (pZ o k.toNat f g)
  (fun w => qG k k.toNat om om _ (by rw [hn]) w)
  (wP hrf hn0 om hf _ rfl)
  (wP hrg hn0 om hg _ rfl)
  (fun w' hg' => (MQ H (hrf.gb hg') hn0 om hf).mono fun e w'' ⟨v, e1, e2, e3⟩ => ⟨v, e1, Bo e2, e3⟩)
  (fun w' hg' => (MQ H (hrg.gb hg') hn0 om hg).mono fun e w'' ⟨v, e1, e2, e3⟩ => ⟨v, e1, Bo e2, e3⟩)
  (fun w' u hr => hTr f w' u hr)
  (fun w' u hr => hTr g w' u hr)
  (fun j hj w' => Ef H HI (HI.tr k.toNat _ j (hwi f)).1 (HI.tr k.toNat _ j (hwi f)).2 (HI.tr k.toNat _ j (hwi g)).1 (HI.tr k.toNat _ j (hwi g)).2 w')
  (fun w' u hr => by
   show Calls _ _ _ _ _
   refine (aBK H HI k om hr (Nq HI _ f g)).mono fun e w'' ⟨v, e1, e2, e3⟩ => ?_
   rw [bn] at e2
   obtain ⟨b, cap, rfl, _, c2, _, _, c3⟩ := e2.at hn0
   exact ⟨b, cap, e1, c2, fun q hq => (c3 q om).1, e3⟩)
  (fun j hj w' => (HT _ (HI.bk _ _ _ (Nq HI _ f g))).out w')
theorem aBH {o : Ops} (H : o.I) (HN : Rj o) (HI : o.In) {ti : Int → Int} (HT : TiI ti) (k : Int) {L M : Nat} {f g : Nat → Int} (hfit : YH k L M f g) {vf vg : Value} {w : World} (hw : Fm w) (hrf : Rd w Y vf L L f) (hrg : Rd w Y vg M M g) :
  V7 14 k vf vg w true (2 ^ k.toNat) (pF o ti k.toNat f g) := by
 obtain ⟨h1, h6, ⟨hL, hf⟩, hM, hg⟩ := hfit
 obtain ⟨kk, hkk⟩ : ∃ kk, kk = k.toNat := ⟨_, rfl⟩
 have hk : k = (kk : Int) := om
 have hk1 : 1 ≤ kk := om
 have hk6 : kk ≤ 6 := om
 rw [← hkk] at hL hM ⊢
 obtain ⟨n, hn⟩ : ∃ n, n = 2 ^ kk := ⟨_, rfl⟩
 obtain ⟨h, hh⟩ : ∃ h, h = 2 ^ (kk - 1) := ⟨_, rfl⟩
 have UW : n ≤ 64 := by rw [hn]; exact FU hk6
 have aDX : h ≤ 64 := by rw [hh]; exact FU om
 have hn0 : 0 < n := by rw [hn]; exact Nat.pow_pos de
 have hh0 : 0 < h := by rw [hh]; exact Nat.pow_pos de
 have hwi : ∀ (f : Nat → Int) (j : Nat), Wd (o.int (f j)) := fun f j => HI.int _
 have hTr : ∀ (f : Nat → Int) (w' : World) (u cv : Value), Gb w w' → CR o w' cv (kk + 1) → Rd w' .u64 u n n (fun j => o.int (f j)) → CT 57 #[cv, u] w' fun e w'' => ∃ v, e = Z v ∧ Ow w'' w'.heap.size 46 2 .u64 v h (flat (o.tr kk (fun j => o.int (f j)))) ∧ Gb w' w'' := fun f w' u cv hg' hc hr => by
  rw [hh]
  exact EU H HI kk hk1 hk6 (hw.gb hg') (by rw [← hn]; exact hr) (hwi f) hc
 rw [← hn] at hL hM ⊢
 rw [hL] at hrf hf
 rw [hM] at hrg hg
 obtain ⟨b0, cap0, rfl, _⟩ := hrf.at hn0
 exact QK kk k (n : Int) n h hk hk1 hk6 (by rw [hn]; simp) rfl om om hn0 hh0 b0 cap0 vg w (fun j => o.int (f j)) (fun j => o.int (g j)) (o.bk kk (pZ o kk f g)) (fun j => ti (o.bk kk (pZ o kk f g) j)) (o.tr kk (fun j => o.int (f j))) (o.tr kk (fun j => o.int (g j))) (pZ o kk f g) (fun w cv => CR o w cv (kk + 1))
  (fun w w' v h hg => h.gb hg)
  (fun w => log_any k true (by simp; omega) w)
  (fun w' hg' => (IW HN (hw.gb hg') (hrf.gb hg') hn0 om hf _ rfl).mono fun e w'' ⟨v, e1, e2, e3⟩ => ⟨v, e1, Bo e2, e3⟩)
  (fun w' hg' => (IW HN (hw.gb hg') (hrg.gb hg') hn0 om hg _ rfl).mono fun e w'' ⟨v, e1, e2, e3⟩ => ⟨v, e1, Bo e2, e3⟩)
  (fun w' hg' => by
   show Calls _ _ _ _ _
   rw [hk]
   exact (L8 H HI kk hk1 hk6 (hw.gb hg')).mono fun e w'' ⟨v, e1, e2, e3⟩ => ⟨v, e1, e2.cr om, e3⟩)
  (hTr f) (hTr g)
  (fun j hj w' hg' => Aq H HI (HI.tr kk _ j (hwi f)).1 (HI.tr kk _ j (hwi f)).2 (HI.tr kk _ j (hwi g)).1 (HI.tr kk _ j (hwi g)).2 (hw.gb hg'))
  (fun w' u cv hg' hc hr => by
   show Calls _ _ _ _ _
   refine (aBu H HI kk hk1 hk6 (hw.gb hg') (by rw [← hh]; exact hr) (Nq HI kk f g) hc).mono fun e w'' ⟨v, e1, e2, e3⟩ => ?_
   rw [← hn] at e2
   obtain ⟨b, cap, rfl, c1, c2, _, _, c3⟩ := e2.at hn0
   exact ⟨b, cap, e1, c1, c2, fun q hq => (c3 q om).1, e3⟩)
  (fun j hj w' hg' => (HT _ (HI.bk _ _ _ (Nq HI _ f g))).out w' (hw.gb hg'))
theorem VI (n : Nat) (hn0 : 0 < n) {L : Nat} (hL : L ≤ 2000000) (f : Nat → Int) : ∃ p : Bool, (p = true ↔ L = n ∧ ∀ i, i < L → AL (f i)) ∧
  (∀ {v : Value} {w : World}, Rd w Y v L L f → QW 50 #[v, J Y (n : Int)] w (.bool p)) ∧
  (∀ {o : Ops} {v : Value} {w : World}, Rj o → Fm w → Rd w Y v L L f → CT 55 #[J Y (n : Int), v] w fun e w' => ∃ v', e = Z (.tuple #[v', .bool p]) ∧ Gb w w') := by
 by_cases h : L = n
 ·subst h
  rcases aAZ L f with hy | ⟨m, hm, hlt, hbad⟩
  ·exact ⟨true, by simp; exact hy, fun hr => wP hr hn0 hL hy _ rfl, fun HN hw hr => (IW HN hw hr hn0 hL hy _ rfl).mono fun e w' ⟨v, e1, _, e3⟩ => ⟨v, e1, e3⟩⟩
  ·exact ⟨false, ⟨fun h => Bool.noConfusion h, fun h => absurd (h.2 m hm) hbad⟩, fun hr => VH hr hL m hm hlt hbad _ rfl, fun HN hw hr => (aBM HN hw hr hn0 hL m hm hlt hbad _ rfl).mono fun e w' ⟨e1, e3⟩ => ⟨_, e1, e3⟩⟩
 ·exact ⟨false, ⟨fun h => Bool.noConfusion h, fun h' => absurd h'.1 h⟩, fun hr => QY hr _ om, fun HN hw hr => (aAf hr _ om).mono fun e w' ⟨e1, e3⟩ => ⟨_, e1, e3⟩⟩
theorem Ol {k : Int} {L M : Nat} {f g : Nat → Int} (hfit : ¬ YH k L M f g) (hL : L ≤ 2000000) (hM : M ≤ 2000000) :
  (∀ {vf vg : Value} {w : World}, Rd w Y vf L L f → Rd w Y vg M M g → pR 13 k vf vg w) ∧
  (∀ {o : Ops} {vf vg : Value} {w : World}, Rj o → Fm w → Rd w Y vf L L f → Rd w Y vg M M g → pR 14 k vf vg w) := by
 by_cases h : 1 ≤ k ∧ k ≤ 6
 ·obtain ⟨n, hn⟩ : ∃ n, n = 2 ^ k.toNat := ⟨_, rfl⟩
  have hn0 : 0 < n := by rw [hn]; exact Nat.pow_pos de
  obtain ⟨p, hp, ps, pi⟩ := VI n hn0 hL f
  obtain ⟨q, hq, qs, qi⟩ := VI n hn0 hM g
  have hpq : p = false ∨ p = true ∧ q = false := by
   cases p
   ·exact .inl rfl
   ·cases q
    ·exact .inr ⟨rfl, rfl⟩
    ·exact absurd ⟨h.1, h.2, by rw [← hn]; exact hp.1 rfl, by rw [← hn]; exact hq.1 rfl⟩ hfit
  have hs : KW 49 #[J Y k] (J Y (n : Int)) := fun w => qG k k.toNat om om _ (by rw [hn]) w
  have hkn : KN k n := by
   unfold KN
   rcases (show k = 1 ∨ k = 2 ∨ k = 3 ∨ k = 4 ∨ k = 5 ∨ k = 6 by omega) with rfl | rfl | rfl | rfl | rfl | rfl <;> simp at hn <;> simp [hn]
  refine ⟨fun {vf vg w} hf hg => ?_, fun {o vf vg w} HN hw hf hg => UF k n hkn vf vg w (fun w => log_any k true (by simp; omega) w) p q hpq (fun w' hg' => pi HN (hw.gb hg') (hf.gb hg')) (fun w' hg' => qi HN (hw.gb hg') (hg.gb hg'))⟩
  rcases hpq with rfl | ⟨rfl, rfl⟩
  ·exact Xh k n om om vf vg w hs (ps hf)
  ·exact Xg k n om om vf vg w hs (ps hf) (qs hg)
 ·exact ⟨fun {vf vg w} _ _ => Xf k om vf vg w, fun {o vf vg w} _ _ _ _ => X9 k vf vg w (fun w => log_any k false (by simp; omega) w)⟩
