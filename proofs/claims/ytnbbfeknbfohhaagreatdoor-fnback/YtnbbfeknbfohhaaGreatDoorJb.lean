import Derived.Test.YtnbbfeknbfohhaaGreatDoorIf
import Derived.Test.YtnbbfeknbfohhaaGreatDoorSd
import Derived.Test.YtnbbfeknbfohhaaGreatDoorSf
import Derived.Deep.DeepCutAuto
import Derived.Deep.Cut
set_option linter.unusedVariables false
set_option linter.unusedSimpArgs false
set_option maxRecDepth 1000000
set_option maxHeartbeats 40000000
open Go.Value renaming int → J
open Go.IntKind renaming i64 → Y
open Go.Ending renaming returned → Z
namespace Go.Proofs.YtnbbfeknbfohhaaGreatDoor
open Go.RowKit
def tN (k : Int) (n : Nat) : Nat := if 1 ≤ k ∧ k ≤ 6 ∧ n = 2 ^ k.toNat then 2 ^ (k.toNat - 1) else 0
abbrev MakesD (F : Nat) (args : Array Value) (w : World) (n : Nat) (f : Nat → Int × Int) : Prop := Calls Tryz.prog F args w fun e w' => ∃ v, e = Z v ∧ Ow w' w.heap.size 46 2 .u64 v n (flat f) ∧ Gb w w'
theorem log_any (k : Int) (b : Bool) (hb : b = decide (1 ≤ k ∧ k ≤ 6)) (w : World) :
  QW 54 #[J Y k] w (.bool b) := by
 rcases (show (k < 1 ∨ 1 ≤ k ∧ 6 < k ∨ 1 ≤ k ∧ k ≤ 6) by omega) with c | ⟨c, c'⟩ | ⟨c, c'⟩
 ·obtain rfl : b = false := by rw [hb]; simp; omega
  have c1 : ¬ 1 ≤ k := by omega
  clear hb
  go_enter Tryz.func54, Tryz.ntmps54
  go_wp2
  go_returns
  exact ⟨rfl, rfl⟩
 ·obtain rfl : b = false := by rw [hb]; simp; omega
  have c1 : ¬ k ≤ 6 := by omega
  clear hb
  go_enter Tryz.func54, Tryz.ntmps54
  go_wp2
  go_returns
  exact ⟨rfl, rfl⟩
 ·obtain rfl : b = true := by rw [hb]; simp; omega
  clear hb
  go_enter Tryz.func54, Tryz.ntmps54
  go_wp2
  go_returns
  exact ⟨rfl, rfl⟩
theorem transform_i {o : Ops} (H : o.I) (HI : o.In) (k : Nat) (hk1 : 1 ≤ k) (hk6 : k ≤ 6) {w : World} {v cv : Value} {cs : Nat → Int} (hw : Fm w) (hr : Rd w .u64 v (2 ^ k) (2 ^ k) cs) (hcs : ∀ j, Wd (cs j)) (hc : CR o w cv (k + 1)) :
  MakesD 57 #[cv, v] w (2 ^ (k - 1)) (o.tr k cs) := by
 have HW : Hid (CT 142 #[J Y (k : Int), v, .func (.func 143) #[] #[], .func (.func 144) #[] #[], .func (.func 145) #[cv] #[]] w fun e w' => ∃ v', e = Z v' ∧ Ow w' w.heap.size 46 2 .u64 v' (2 ^ (k - 1)) (flat (o.tr k cs)) ∧ Gb w w') := walkT_i H HI k hk1 k w v cv (k + 1) cs rfl hw hr hcs hc (by omega) (by omega)
 obtain ⟨g, cap, rfl, _⟩ := hc
 obtain ⟨n, hn⟩ : ∃ n, n = k + 1 := ⟨_, rfl⟩
 rw [← hn] at HW ⊢
 have u : IntKind.i64.wrap ((n : Int) - 1) = (k : Int) := by rw [IntKind.wrap_i64]; omega
 clear hw hr hcs H HI hn
 go_enter Tryz.func57, Tryz.ntmps57
 go_wp2_with (go_at_call 142; refine HW.out.mono ?_; rintro e w1 ⟨v', rfl, ho1, hg_w1⟩)
 go_returns
 exact ⟨_, rfl, ho1, hg_w1⟩
theorem Transform_s {o : Ops} (H : o.S) (HI : o.In) (k : Int) {w : World} {v : Value} {n : Nat} {cs : Nat → Int} (hn : n ≤ 2000000) (hr : Rd w .u64 v n n cs) (hcs : ∀ j, Wd (cs j)) :
  MakesD 20 #[J Y k, v] w (tN k n) (o.tr k.toNat cs) := by
 by_cases h : 1 ≤ k ∧ k ≤ 6
 ·by_cases hk : n = 2 ^ k.toNat
  ·have ht : tN k n = 2 ^ (k.toNat - 1) := by unfold tN; rw [if_pos ⟨h.1, h.2, hk⟩]
   rw [ht]
   rw [hk] at hr
   exact transS_s H HI k.toNat (by omega) (by omega) k w v cs (by omega) hr hcs
  ·have ht : tN k n = 0 := by unfold tN; rw [if_neg (fun h' => hk h'.2.2)]
   rw [ht]
   obtain ⟨a, cap, rfl, _⟩ := hr
   obtain ⟨L, hL⟩ : ∃ L, L = 2 ^ k.toNat := ⟨_, rfl⟩
   have HS : KW 49 #[J Y k] (J Y (L : Int)) := fun w => size_k k k.toNat (by omega) (by omega) L (by rw [hL]) w
   have hq : ((n : Int) == (L : Int)) = false := by simp; omega
   have k1 : ¬ k < 1 := by omega
   have k2 : ¬ (6 : Int) < k := by omega
   clear hk ht H HI hcs h hL
   go_enter Tryz.func20, Tryz.ntmps20
   go_wp2_with (go_at_call 49; refine kw (HS.out _) ?_)
   go_returns
   exact ⟨_, rfl, Ow.lit _ _ _ _ _, kg⟩
 ·have ht : tN k n = 0 := by unfold tN; rw [if_neg (fun h' => h ⟨h'.1, h'.2.1⟩)]
  rw [ht]
  obtain ⟨a, cap, rfl, _⟩ := hr
  clear ht H HI hcs
  rcases (show k < 1 ∨ 1 ≤ k ∧ 6 < k by omega) with c | ⟨c, c'⟩
  ·clear h
   go_enter Tryz.func20, Tryz.ntmps20
   go_wp2
   go_returns
   exact ⟨_, rfl, Ow.lit _ _ _ _ _, kg⟩
  ·have c1 : ¬ k < 1 := by omega
   clear h
   go_enter Tryz.func20, Tryz.ntmps20
   go_wp2
   go_returns
   exact ⟨_, rfl, Ow.lit _ _ _ _ _, kg⟩
set_option maxRecDepth 1000000
def bN (k : Int) (n : Nat) : Nat := if 1 ≤ k ∧ k ≤ 6 ∧ n = 2 ^ (k.toNat - 1) then 2 ^ k.toNat else 0
abbrev MakesU (F : Nat) (args : Array Value) (w : World) (n : Nat) (f : Nat → Int) : Prop := Calls Tryz.prog F args w fun e w' => ∃ v, e = Z v ∧ Ow w' w.heap.size 22 1 .u64 v n f ∧ Gb w w'
theorem back_i {o : Ops} (H : o.I) (HI : o.In) (k : Nat) (hk1 : 1 ≤ k) (hk6 : k ≤ 6) {w : World} {v cv : Value} {zs : Nat → Int × Int} (hw : Fm w) (hr : Rd w .u64 v (2 ^ (k - 1)) (2 ^ (k - 1) * 2) (flat zs)) (hcs : ∀ j, WdC (zs j)) (hc : CR o w cv (k + 1)) :
  MakesU 59 #[cv, v] w (2 ^ k) (o.bk k zs) := by
 have HW : Hid (CT 147 #[J Y (k : Int), v, .func (.func 148) #[cv] #[], .func (.func 149) #[] #[], .func (.func 143) #[] #[]] w fun e w' => ∃ v', e = Z v' ∧ Ow w' w.heap.size 22 1 .u64 v' (2 ^ k) (o.bk k zs) ∧ Gb w w') := walkB_i H HI k hk1 k w v cv (k + 1) zs rfl hw hr hcs hc (by omega) (by omega)
 obtain ⟨g, cap, rfl, _⟩ := hc
 obtain ⟨n, hn⟩ : ∃ n, n = k + 1 := ⟨_, rfl⟩
 rw [← hn] at HW ⊢
 have u : IntKind.i64.wrap ((n : Int) - 1) = (k : Int) := by rw [IntKind.wrap_i64]; omega
 clear hw hr hcs H HI hn
 go_enter Tryz.func59, Tryz.ntmps59
 go_wp2_with (go_at_call 147; refine HW.out.mono ?_; rintro e w1 ⟨v', rfl, ho1, hg_w1⟩)
 go_returns
 exact ⟨_, rfl, ho1, hg_w1⟩
theorem Back_s {o : Ops} (H : o.S) (HI : o.In) (k : Int) {w : World} {v : Value} {n : Nat} {zs : Nat → Int × Int} (hn : n ≤ 2000000) (hr : Rd w .u64 v n (n * 2) (flat zs)) (hcs : ∀ j, WdC (zs j)) :
  MakesU 53 #[J Y k, v] w (bN k n) (o.bk k.toNat zs) := by
 by_cases h : 1 ≤ k ∧ k ≤ 6
 ·by_cases hk : n = 2 ^ (k.toNat - 1)
  ·have ht : bN k n = 2 ^ k.toNat := by unfold bN; rw [if_pos ⟨h.1, h.2, hk⟩]
   rw [ht]
   rw [hk] at hr
   exact backS_s H HI k.toNat (by omega) (by omega) k w v zs (by omega) hr hcs
  ·have ht : bN k n = 0 := by unfold bN; rw [if_neg (fun h' => hk h'.2.2)]
   rw [ht]
   obtain ⟨a, cap, rfl, _⟩ := hr
   obtain ⟨L, hL⟩ : ∃ L, L = 2 ^ k.toNat := ⟨_, rfl⟩
   have hL2 : L = 2 * 2 ^ (k.toNat - 1) := by rw [hL, Nat.mul_comm, ← Nat.pow_succ]; congr 1; omega
   have HS : KW 49 #[J Y k] (J Y (L : Int)) := fun w => size_k k k.toNat (by omega) (by omega) L (by rw [hL]) w
   obtain ⟨M, hM⟩ : ∃ M : Nat, M = n * 2 := ⟨_, rfl⟩
   have u : IntKind.i64.wrap ((n : Int) * 2) = (M : Int) := by rw [IntKind.wrap_i64]; omega
   have hq : ((M : Int) == (L : Int)) = false := by simp; omega
   have k1 : ¬ k < 1 := by omega
   have k2 : ¬ (6 : Int) < k := by omega
   clear hk ht H HI hcs h hL hL2 hM
   go_enter Tryz.func53, Tryz.ntmps53
   go_wp2_with (go_at_call 49; refine kw (HS.out _) ?_)
   go_returns
   exact ⟨_, rfl, Ow.lit _ _ _ _ _, kg⟩
 ·have ht : bN k n = 0 := by unfold bN; rw [if_neg (fun h' => h ⟨h'.1, h'.2.1⟩)]
  rw [ht]
  obtain ⟨a, cap, rfl, _⟩ := hr
  clear ht H HI hcs
  rcases (show k < 1 ∨ 1 ≤ k ∧ 6 < k by omega) with c | ⟨c, c'⟩
  ·clear h
   go_enter Tryz.func53, Tryz.ntmps53
   go_wp2
   go_returns
   exact ⟨_, rfl, Ow.lit _ _ _ _ _, kg⟩
  ·have c1 : ¬ k < 1 := by omega
   clear h
   go_enter Tryz.func53, Tryz.ntmps53
   go_wp2
   go_returns
   exact ⟨_, rfl, Ow.lit _ _ _ _ _, kg⟩
set_option maxRecDepth 1000000
def TiS (ti : Int → Int) : Prop := ∀ c, Wd c → Hid (∀ w, CT 39 #[J Y 1, J Y 0, J Y 1, J .u64 c] w fun e w' => ∃ fl : Int, e = Z (.agg #[J .u64 (ti c), J Y fl]) ∧ Gb w w')
def TiI (ti : Int → Int) : Prop := ∀ c, Wd c → Hid (∀ w, Fm w → CT 23 #[J Y 1, J Y 0, J Y 1, J .u64 c] w fun e w' => ∃ fl : Int, e = Z (.agg #[J .u64 (ti c), J Y fl]) ∧ Gr w w')
def PFit (k : Int) (L M : Nat) (f g : Nat → Int) : Prop := 1 ≤ k ∧ k ≤ 6 ∧ (L = 2 ^ k.toNat ∧ ∀ i, i < L → InB (f i)) ∧ (M = 2 ^ k.toNat ∧ ∀ i, i < M → InB (g i))
def pZ (o : Ops) (k : Nat) (f g : Nat → Int) (j : Nat) : Int × Int := o.cMul (o.tr k (fun j => o.int (f j)) j) (o.tr k (fun j => o.int (g j)) j)
def pF (o : Ops) (ti : Int → Int) (k : Nat) (f g : Nat → Int) (j : Nat) : Int := IntKind.i64.wrap (ti (o.bk k (pZ o k f g) j))
theorem pZ_wd {o : Ops} (HI : o.In) (k : Nat) (f g : Nat → Int) (j : Nat) : WdC (pZ o k f g j) := HI.cMul (HI.tr _ _ _ fun _ => HI.int _) (HI.tr _ _ _ fun _ => HI.int _)
abbrev MakesP (F : Nat) (k : Int) (vf vg : Value) (w : World) (b : Bool) (n : Nat) (f : Nat → Int) : Prop := Calls Tryz.prog F #[J Y k, vf, vg] w fun e w' => ∃ v, e = Z (.tuple #[v, .bool b]) ∧ Ow w' w.heap.size 3 1 Y v n f ∧ Gb w w'
theorem rdOw {w' : World} {b n : Nat} {t : TypeId} {v : Value} {k : IntKind} {g : Nat → Int} (ho : Ow w' b t 1 k v n g) : Rd w' k v n n g := by have := ho.rd; rw [Nat.mul_one] at this; exact this
theorem p6_le {k : Nat} (h : k ≤ 6) : 2 ^ k ≤ 64 := Nat.pow_le_pow_right (show 0 < 2 by decide) h
theorem Prod_s {o : Ops} (H : o.S) (HI : o.In) {ti : Int → Int} (HT : TiS ti) (k : Int) {L M : Nat} {f g : Nat → Int} (hfit : PFit k L M f g) {vf vg : Value} {w : World} (hrf : Rd w Y vf L L f) (hrg : Rd w Y vg M M g) :
  MakesP 13 k vf vg w true (2 ^ k.toNat) (pF o ti k.toNat f g) := by
 obtain ⟨h1, h6, ⟨hL, hf⟩, hM, hg⟩ := hfit
 obtain ⟨n, hn⟩ : ∃ n, n = 2 ^ k.toNat := ⟨_, rfl⟩
 obtain ⟨h, hh⟩ : ∃ h, h = 2 ^ (k.toNat - 1) := ⟨_, rfl⟩
 have hn64 : n ≤ 64 := by rw [hn]; exact p6_le (by omega)
 have hh64 : h ≤ 64 := by rw [hh]; exact p6_le (by omega)
 have hn0 : 0 < n := by rw [hn]; exact Nat.pow_pos (by decide)
 have hh0 : 0 < h := by rw [hh]; exact Nat.pow_pos (by decide)
 have tn : tN k n = h := by unfold tN; rw [if_pos ⟨h1, h6, hn⟩, hh]
 have bn : bN k h = n := by unfold bN; rw [if_pos ⟨h1, h6, hh⟩, hn]
 have hwi : ∀ (f : Nat → Int) (j : Nat), Wd (o.int (f j)) := fun f j => HI.int _
 have hTr : ∀ (f : Nat → Int) (w' : World) (u : Value), Rd w' .u64 u n n (fun j => o.int (f j)) → CT 20 #[J Y k, u] w' fun e w'' => ∃ b cap, e = Z (.slice (some ⟨b, 0, none⟩) h cap) ∧ b < w''.heap.size ∧ (∀ q, q < h * 2 → w''.cell? ⟨b, q, none⟩ = some (J .u64 (flat (o.tr k.toNat (fun j => o.int (f j))) q))) ∧ Gb w' w'' := fun f w' u hr => by
  refine (Transform_s H HI k (by omega) hr (hwi f)).mono fun e w'' ⟨v, e1, e2, e3⟩ => ?_
  rw [tn] at e2
  obtain ⟨b, cap, rfl, _, c2, _, _, c3⟩ := e2.at hh0
  exact ⟨b, cap, e1, c2, fun q hq => (c3 q hq).1, e3⟩
 rw [← hn] at hL hM ⊢
 rw [hL] at hrf hf
 rw [hM] at hrg hg
 exact sprod_yes k (n : Int) n h (by omega) (by omega) hn0 hh0 (by omega) (by omega) vf vg w (fun j => o.int (f j)) (fun j => o.int (g j)) (o.bk k.toNat (pZ o k.toNat f g)) (fun j => ti (o.bk k.toNat (pZ o k.toNat f g) j)) (o.tr k.toNat (fun j => o.int (f j))) (o.tr k.toNat (fun j => o.int (g j))) (pZ o k.toNat f g)
  (fun w => size_k k k.toNat (by omega) (by omega) _ (by rw [hn]) w)
  (coefs_yes hrf hn0 (by omega) hf _ rfl)
  (coefs_yes hrg hn0 (by omega) hg _ rfl)
  (fun w' hg' => (words_s H (hrf.gb hg') hn0 (by omega) hf).mono fun e w'' ⟨v, e1, e2, e3⟩ => ⟨v, e1, rdOw e2, e3⟩)
  (fun w' hg' => (words_s H (hrg.gb hg') hn0 (by omega) hg).mono fun e w'' ⟨v, e1, e2, e3⟩ => ⟨v, e1, rdOw e2, e3⟩)
  (fun w' u hr => hTr f w' u hr)
  (fun w' u hr => hTr g w' u hr)
  (fun j hj w' => cprod_s H HI (HI.tr k.toNat _ j (hwi f)).1 (HI.tr k.toNat _ j (hwi f)).2 (HI.tr k.toNat _ j (hwi g)).1 (HI.tr k.toNat _ j (hwi g)).2 w')
  (fun w' u hr => by
   show Calls _ _ _ _ _
   refine (Back_s H HI k (by omega) hr (pZ_wd HI _ f g)).mono fun e w'' ⟨v, e1, e2, e3⟩ => ?_
   rw [bn] at e2
   obtain ⟨b, cap, rfl, _, c2, _, _, c3⟩ := e2.at hn0
   exact ⟨b, cap, e1, c2, fun q hq => (c3 q (by omega)).1, e3⟩)
  (fun j hj w' => (HT _ (HI.bk _ _ _ (pZ_wd HI _ f g))).out w')
theorem cf_s (n : Nat) (hn0 : 0 < n) {L : Nat} (hL : L ≤ 2000000) (f : Nat → Int) : ∃ p : Bool, (p = true ↔ L = n ∧ ∀ i, i < L → InB (f i)) ∧
  (∀ {v : Value} {w : World}, Rd w Y v L L f → QW 50 #[v, J Y (n : Int)] w (.bool p)) := by
 by_cases h : L = n
 ·subst h
  rcases inB_or L f with hy | ⟨m, hm, hlt, hbad⟩
  ·exact ⟨true, by simp; exact hy, fun hr => coefs_yes hr hn0 hL hy _ rfl⟩
  ·exact ⟨false, ⟨fun h => Bool.noConfusion h, fun h => absurd (h.2 m hm) hbad⟩, fun hr => coefs_no hr hL m hm hlt hbad _ rfl⟩
 ·exact ⟨false, ⟨fun h => Bool.noConfusion h, fun h' => absurd h'.1 h⟩, fun hr => coefs_len hr _ (by omega)⟩
theorem Prod_nos {k : Int} {L M : Nat} {f g : Nat → Int} (hfit : ¬ PFit k L M f g) (hL : L ≤ 2000000) (hM : M ≤ 2000000) {vf vg : Value} {w : World} (hf : Rd w Y vf L L f) (hg : Rd w Y vg M M g) : NoProd 13 k vf vg w := by
 by_cases h : 1 ≤ k ∧ k ≤ 6
 ·obtain ⟨n, hn⟩ : ∃ n, n = 2 ^ k.toNat := ⟨_, rfl⟩
  have hn0 : 0 < n := by rw [hn]; exact Nat.pow_pos (by decide)
  obtain ⟨p, hp, ps⟩ := cf_s n hn0 hL f
  obtain ⟨q, hq, qs⟩ := cf_s n hn0 hM g
  have hpq : p = false ∨ p = true ∧ q = false := by
   cases p
   ·exact .inl rfl
   ·cases q
    ·exact .inr ⟨rfl, rfl⟩
    ·exact absurd ⟨h.1, h.2, by rw [← hn]; exact hp.1 rfl, by rw [← hn]; exact hq.1 rfl⟩ hfit
  have hs : KW 49 #[J Y k] (J Y (n : Int)) := fun w => size_k k k.toNat (by omega) (by omega) _ (by rw [hn]) w
  rcases hpq with rfl | ⟨rfl, rfl⟩
  ·exact sprod_f k n (by omega) (by omega) vf vg w hs (ps hf)
  ·exact sprod_g k n (by omega) (by omega) vf vg w hs (ps hf) (qs hg)
 ·exact sprod_k k (by omega) vf vg w
set_option maxRecDepth 1000000
theorem twJb0 {P : Prop} (h : P := by
 have := circleOf_i H HI k.toNat (by omega) (by omega) hw
 rw [Int.toNat_of_nonneg (by omega)] at this
 exact this.mono fun e w' ⟨v, e1, e2, e3⟩ => ⟨v, e1, e2.cr (by omega), e3⟩) : P := h
theorem Transform_y {o : Ops} (H : o.I) (HI : o.In) (k : Int) {w : World} {v : Value} {n : Nat} {cs : Nat → Int} (hn : n ≤ 2000000) (hw : Fm w) (hr : Rd w .u64 v n n cs) (hcs : ∀ j, Wd (cs j)) (h : 1 ≤ k ∧ k ≤ 6) (hk : n = 2 ^ k.toNat) :
  MakesD 21 #[J Y k, v] w (tN k n) (o.tr k.toNat cs) := by
 have HL : KW 54 #[J Y k] (.bool true) := fun w => log_any _ true (by simp; omega) w
 have ht : tN k n = 2 ^ (k.toNat - 1) := by unfold tN; rw [if_pos ⟨h.1, h.2, hk⟩]
 rw [ht]
 have HC : Hid (CT 56 #[J Y k] w fun e w' => ∃ cv, e = Z cv ∧ CR o w' cv (k.toNat + 1) ∧ Gb w w') := by
  exact twJb0
 have HT : Hid (∀ w' cv, Gb w w' → CR o w' cv (k.toNat + 1) → MakesD 57 #[cv, v] w' (2 ^ (k.toNat - 1)) (o.tr k.toNat cs)) := fun w' cv hg hc => transform_i H HI k.toNat (by omega) (by omega) (hw.gb hg) (by rw [← hk]; exact hr.gb hg) hcs hc
 obtain ⟨a, cap, rfl, _⟩ := hr
 have hkk : (2 : Int) ^ k.toNat = (n : Int) := by rw [hk]; simp
 generalize 2 ^ (k.toNat - 1) = N at *
 generalize o.tr k.toNat cs = f at *
 generalize k.toNat + 1 = n1 at *
 have hcase : k = 1 ∧ n = 2 ∨ k = 2 ∧ n = 4 ∨ k = 3 ∧ n = 8 ∨ k = 4 ∧ n = 16 ∨ k = 5 ∧ n = 32 ∨ k = 6 ∧ n = 64 := by
  rcases (show k = 1 ∨ k = 2 ∨ k = 3 ∨ k = 4 ∨ k = 5 ∨ k = 6 by omega) with rfl | rfl | rfl | rfl | rfl | rfl <;> simp at hk <;> simp [hk]
 clear hkk hk ht H HI hw hcs h
 rcases hcase with ⟨rfl, rfl⟩ | ⟨rfl, rfl⟩ | ⟨rfl, rfl⟩ | ⟨rfl, rfl⟩ | ⟨rfl, rfl⟩ | ⟨rfl, rfl⟩
 all_goals
  go_enter Tryz.func21, Tryz.ntmps21
  go_wp2_with (first
   | (go_at_call 54; refine kw (HL.out _) ?_)
   | (go_at_call 56; refine HC.out.mono ?_; rintro e w1 ⟨cv, rfl, hcr, hg_w1⟩)
   | (go_at_call 57; refine (HT.out _ _ hg_w1 hcr).mono ?_; rintro e w2 ⟨v2, rfl, ho2, hg_w2⟩))
  go_returns
  exact ⟨_, rfl, Ow.mono ho2 hg_w1.size, hg_w1.trans hg_w2⟩
theorem Back_y {o : Ops} (H : o.I) (HI : o.In) (k : Int) {w : World} {v : Value} {n : Nat} {zs : Nat → Int × Int} (hn : n ≤ 2000000) (hw : Fm w) (hr : Rd w .u64 v n (n * 2) (flat zs)) (hcs : ∀ j, WdC (zs j)) (h : 1 ≤ k ∧ k ≤ 6) (hk : n = 2 ^ (k.toNat - 1)) :
  MakesU 22 #[J Y k, v] w (bN k n) (o.bk k.toNat zs) := by
 have HL : KW 54 #[J Y k] (.bool true) := fun w => log_any _ true (by simp; omega) w
 have ht : bN k n = 2 ^ k.toNat := by unfold bN; rw [if_pos ⟨h.1, h.2, hk⟩]
 rw [ht]
 have HC : Hid (CT 56 #[J Y k] w fun e w' => ∃ cv, e = Z cv ∧ CR o w' cv (k.toNat + 1) ∧ Gb w w') := by
  exact twJb0
 have HT : Hid (∀ w' cv, Gb w w' → CR o w' cv (k.toNat + 1) → MakesU 59 #[cv, v] w' (2 ^ k.toNat) (o.bk k.toNat zs)) := fun w' cv hg hc => back_i H HI k.toNat (by omega) (by omega) (hw.gb hg) (by rw [← hk]; exact hr.gb hg) hcs hc
 obtain ⟨a, cap, rfl, _⟩ := hr
 generalize 2 ^ k.toNat = N at *
 generalize o.bk k.toNat zs = f at *
 generalize k.toNat + 1 = n1 at *
 have hcase : k = 1 ∧ n = 1 ∨ k = 2 ∧ n = 2 ∨ k = 3 ∧ n = 4 ∨ k = 4 ∧ n = 8 ∨ k = 5 ∧ n = 16 ∨ k = 6 ∧ n = 32 := by
  rcases (show k = 1 ∨ k = 2 ∨ k = 3 ∨ k = 4 ∨ k = 5 ∨ k = 6 by omega) with rfl | rfl | rfl | rfl | rfl | rfl <;> simp at hk <;> simp [hk]
 clear hk ht H HI hw hcs h
 rcases hcase with ⟨rfl, rfl⟩ | ⟨rfl, rfl⟩ | ⟨rfl, rfl⟩ | ⟨rfl, rfl⟩ | ⟨rfl, rfl⟩ | ⟨rfl, rfl⟩
 all_goals
  go_enter Tryz.func22, Tryz.ntmps22
  go_wp2_with (first
   | (go_at_call 54; refine kw (HL.out _) ?_)
   | (go_at_call 56; refine HC.out.mono ?_; rintro e w1 ⟨cv, rfl, hcr, hg_w1⟩)
   | (go_at_call 59; refine (HT.out _ _ hg_w1 hcr).mono ?_; rintro e w2 ⟨v2, rfl, ho2, hg_w2⟩))
  go_returns
  exact ⟨_, rfl, Ow.mono ho2 hg_w1.size, hg_w1.trans hg_w2⟩
end Go.Proofs.YtnbbfeknbfohhaaGreatDoor
