import Derived.Test.YtnbbfeknbfohhaaGreatDoorIf
import Derived.Test.YtnbbfeknbfohhaaGreatDoorSd
import Derived.Test.YtnbbfeknbfohhaaGreatDoorSf
import Derived.Test.YtnbbfeknbfohhaaGreatDoorIh
import Derived.Deep.DeepCutAuto
import Derived.Deep.Cut
set_option linter.unusedVariables false
set_option linter.unusedSimpArgs false
set_option maxRecDepth 1000000
set_option maxHeartbeats 40000000
namespace Go.Proofs.YtnbbfeknbfohhaaGreatDoor
open Go.RowKit
def tN (k : Int) (n : Nat) : Nat := if 1 ≤ k ∧ k ≤ 6 ∧ n = 2 ^ k.toNat then 2 ^ (k.toNat - 1) else 0
abbrev MakesD (F : Nat) (args : Array Value) (w : World) (n : Nat) (f : Nat → Int × Int) : Prop := Calls Tryz.prog F args w fun e w' => ∃ v, e = .returned v ∧ Ow w' w.heap.size 46 2 .u64 v n (flat f) ∧ Gb w w'
theorem log_any (k : Int) (b : Bool) (hb : b = decide (1 ≤ k ∧ k ≤ 6)) (w : World) :
  QW 54 #[.int .i64 k] w (.bool b) := by
 rcases (show (k < 1 ∨ 1 ≤ k ∧ 6 < k ∨ 1 ≤ k ∧ k ≤ 6) by omega) with c | ⟨c, c'⟩ | ⟨c, c'⟩
 ·obtain rfl : b = false := by rw [hb]; simp; omega
  have c1 : ¬ 1 ≤ k := by omega
  clear hb
  go_enter Tryz.func54, Tryz.ntmps54
  go_wp2
  go_returns
  exact ⟨rfl, rfl⟩
 ·obtain rfl : b = false := by rw [hb]; simp; omega
  have c1 : ¬ k ≤ 6 := by omega
  clear hb
  go_enter Tryz.func54, Tryz.ntmps54
  go_wp2
  go_returns
  exact ⟨rfl, rfl⟩
 ·obtain rfl : b = true := by rw [hb]; simp; omega
  clear hb
  go_enter Tryz.func54, Tryz.ntmps54
  go_wp2
  go_returns
  exact ⟨rfl, rfl⟩
theorem transform_i {o : Ops} (H : o.I) (HI : o.In) (k : Nat) (hk1 : 1 ≤ k) (hk6 : k ≤ 6) {w : World} {v cv : Value} {cs : Nat → Int} (hw : Fm w) (hr : Rd w .u64 v (2 ^ k) (2 ^ k) cs) (hcs : ∀ j, Wd (cs j)) (hc : CR o w cv (k + 1)) :
  MakesD 57 #[cv, v] w (2 ^ (k - 1)) (o.tr k cs) := by
 have HW : Hid (CT 142 #[.int .i64 (k : Int), v, .func (.func 143) #[] #[], .func (.func 144) #[] #[], .func (.func 145) #[cv] #[]] w fun e w' => ∃ v', e = .returned v' ∧ Ow w' w.heap.size 46 2 .u64 v' (2 ^ (k - 1)) (flat (o.tr k cs)) ∧ Gb w w') := walkT_i H HI k hk1 k w v cv (k + 1) cs rfl hw hr hcs hc (by omega) (by omega)
 obtain ⟨g, cap, rfl, _⟩ := hc
 obtain ⟨n, hn⟩ : ∃ n, n = k + 1 := ⟨_, rfl⟩
 rw [← hn] at HW ⊢
 have u : IntKind.i64.wrap ((n : Int) - 1) = (k : Int) := by rw [IntKind.wrap_i64]; omega
 clear hw hr hcs H HI hn
 go_enter Tryz.func57, Tryz.ntmps57
 go_wp2_with (go_at_call 142; refine HW.out.mono ?_; rintro e w1 ⟨v', rfl, ho1, hg_w1⟩)
 go_returns
 exact ⟨_, rfl, ho1, hg_w1⟩
theorem Transform_s {o : Ops} (H : o.S) (HI : o.In) (k : Int) {w : World} {v : Value} {n : Nat} {cs : Nat → Int} (hn : n ≤ 2000000) (hr : Rd w .u64 v n n cs) (hcs : ∀ j, Wd (cs j)) :
  MakesD 20 #[.int .i64 k, v] w (tN k n) (o.tr k.toNat cs) := by
 by_cases h : 1 ≤ k ∧ k ≤ 6
 ·by_cases hk : n = 2 ^ k.toNat
  ·have ht : tN k n = 2 ^ (k.toNat - 1) := by unfold tN; rw [if_pos ⟨h.1, h.2, hk⟩]
   rw [ht]
   rw [hk] at hr
   exact transS_s H HI k.toNat (by omega) (by omega) k w v cs (by omega) hr hcs
  ·have ht : tN k n = 0 := by unfold tN; rw [if_neg (fun h' => hk h'.2.2)]
   rw [ht]
   obtain ⟨a, cap, rfl, _⟩ := hr
   obtain ⟨L, hL⟩ : ∃ L, L = 2 ^ k.toNat := ⟨_, rfl⟩
   have HS : KW 49 #[.int .i64 k] (.int .i64 (L : Int)) := fun w => size_k k k.toNat (by omega) (by omega) L (by rw [hL]) w
   have hq : ((n : Int) == (L : Int)) = false := by simp; omega
   have k1 : ¬ k < 1 := by omega
   have k2 : ¬ (6 : Int) < k := by omega
   clear hk ht H HI hcs h hL
   go_enter Tryz.func20, Tryz.ntmps20
   go_wp2_with (go_at_call 49; refine kw (HS.out _) ?_)
   go_returns
   exact ⟨_, rfl, Ow.lit _ _ _ _ _, kg⟩
 ·have ht : tN k n = 0 := by unfold tN; rw [if_neg (fun h' => h ⟨h'.1, h'.2.1⟩)]
  rw [ht]
  obtain ⟨a, cap, rfl, _⟩ := hr
  clear ht H HI hcs
  rcases (show k < 1 ∨ 1 ≤ k ∧ 6 < k by omega) with c | ⟨c, c'⟩
  ·clear h
   go_enter Tryz.func20, Tryz.ntmps20
   go_wp2
   go_returns
   exact ⟨_, rfl, Ow.lit _ _ _ _ _, kg⟩
  ·have c1 : ¬ k < 1 := by omega
   clear h
   go_enter Tryz.func20, Tryz.ntmps20
   go_wp2
   go_returns
   exact ⟨_, rfl, Ow.lit _ _ _ _ _, kg⟩
end Go.Proofs.YtnbbfeknbfohhaaGreatDoor
set_option maxRecDepth 1000000
namespace Go.Proofs.YtnbbfeknbfohhaaGreatDoor
open Go.RowKit
def bN (k : Int) (n : Nat) : Nat := if 1 ≤ k ∧ k ≤ 6 ∧ n = 2 ^ (k.toNat - 1) then 2 ^ k.toNat else 0
abbrev MakesU (F : Nat) (args : Array Value) (w : World) (n : Nat) (f : Nat → Int) : Prop := Calls Tryz.prog F args w fun e w' => ∃ v, e = .returned v ∧ Ow w' w.heap.size 22 1 .u64 v n f ∧ Gb w w'
theorem back_i {o : Ops} (H : o.I) (HI : o.In) (k : Nat) (hk1 : 1 ≤ k) (hk6 : k ≤ 6) {w : World} {v cv : Value} {zs : Nat → Int × Int} (hw : Fm w) (hr : Rd w .u64 v (2 ^ (k - 1)) (2 ^ (k - 1) * 2) (flat zs)) (hcs : ∀ j, WdC (zs j)) (hc : CR o w cv (k + 1)) :
  MakesU 59 #[cv, v] w (2 ^ k) (o.bk k zs) := by
 have HW : Hid (CT 147 #[.int .i64 (k : Int), v, .func (.func 148) #[cv] #[], .func (.func 149) #[] #[], .func (.func 143) #[] #[]] w fun e w' => ∃ v', e = .returned v' ∧ Ow w' w.heap.size 22 1 .u64 v' (2 ^ k) (o.bk k zs) ∧ Gb w w') := walkB_i H HI k hk1 k w v cv (k + 1) zs rfl hw hr hcs hc (by omega) (by omega)
 obtain ⟨g, cap, rfl, _⟩ := hc
 obtain ⟨n, hn⟩ : ∃ n, n = k + 1 := ⟨_, rfl⟩
 rw [← hn] at HW ⊢
 have u : IntKind.i64.wrap ((n : Int) - 1) = (k : Int) := by rw [IntKind.wrap_i64]; omega
 clear hw hr hcs H HI hn
 go_enter Tryz.func59, Tryz.ntmps59
 go_wp2_with (go_at_call 147; refine HW.out.mono ?_; rintro e w1 ⟨v', rfl, ho1, hg_w1⟩)
 go_returns
 exact ⟨_, rfl, ho1, hg_w1⟩
theorem Back_s {o : Ops} (H : o.S) (HI : o.In) (k : Int) {w : World} {v : Value} {n : Nat} {zs : Nat → Int × Int} (hn : n ≤ 2000000) (hr : Rd w .u64 v n (n * 2) (flat zs)) (hcs : ∀ j, WdC (zs j)) :
  MakesU 53 #[.int .i64 k, v] w (bN k n) (o.bk k.toNat zs) := by
 by_cases h : 1 ≤ k ∧ k ≤ 6
 ·by_cases hk : n = 2 ^ (k.toNat - 1)
  ·have ht : bN k n = 2 ^ k.toNat := by unfold bN; rw [if_pos ⟨h.1, h.2, hk⟩]
   rw [ht]
   rw [hk] at hr
   exact backS_s H HI k.toNat (by omega) (by omega) k w v zs (by omega) hr hcs
  ·have ht : bN k n = 0 := by unfold bN; rw [if_neg (fun h' => hk h'.2.2)]
   rw [ht]
   obtain ⟨a, cap, rfl, _⟩ := hr
   obtain ⟨L, hL⟩ : ∃ L, L = 2 ^ k.toNat := ⟨_, rfl⟩
   have hL2 : L = 2 * 2 ^ (k.toNat - 1) := by rw [hL, Nat.mul_comm, ← Nat.pow_succ]; congr 1; omega
   have HS : KW 49 #[.int .i64 k] (.int .i64 (L : Int)) := fun w => size_k k k.toNat (by omega) (by omega) L (by rw [hL]) w
   obtain ⟨M, hM⟩ : ∃ M : Nat, M = n * 2 := ⟨_, rfl⟩
   have u : IntKind.i64.wrap ((n : Int) * 2) = (M : Int) := by rw [IntKind.wrap_i64]; omega
   have hq : ((M : Int) == (L : Int)) = false := by simp; omega
   have k1 : ¬ k < 1 := by omega
   have k2 : ¬ (6 : Int) < k := by omega
   clear hk ht H HI hcs h hL hL2 hM
   go_enter Tryz.func53, Tryz.ntmps53
   go_wp2_with (go_at_call 49; refine kw (HS.out _) ?_)
   go_returns
   exact ⟨_, rfl, Ow.lit _ _ _ _ _, kg⟩
 ·have ht : bN k n = 0 := by unfold bN; rw [if_neg (fun h' => h ⟨h'.1, h'.2.1⟩)]
  rw [ht]
  obtain ⟨a, cap, rfl, _⟩ := hr
  clear ht H HI hcs
  rcases (show k < 1 ∨ 1 ≤ k ∧ 6 < k by omega) with c | ⟨c, c'⟩
  ·clear h
   go_enter Tryz.func53, Tryz.ntmps53
   go_wp2
   go_returns
   exact ⟨_, rfl, Ow.lit _ _ _ _ _, kg⟩
  ·have c1 : ¬ k < 1 := by omega
   clear h
   go_enter Tryz.func53, Tryz.ntmps53
   go_wp2
   go_returns
   exact ⟨_, rfl, Ow.lit _ _ _ _ _, kg⟩
end Go.Proofs.YtnbbfeknbfohhaaGreatDoor
set_option maxRecDepth 1000000
namespace Go.Proofs.YtnbbfeknbfohhaaGreatDoor
open Go.RowKit
def TiS (ti : Int → Int) : Prop := ∀ c, Wd c → Hid (∀ w, CT 39 #[.int .i64 1, .int .i64 0, .int .i64 1, .int .u64 c] w fun e w' => ∃ fl : Int, e = .returned (.agg #[.int .u64 (ti c), .int .i64 fl]) ∧ Gb w w')
def TiI (ti : Int → Int) : Prop := ∀ c, Wd c → Hid (∀ w, Fm w → CT 23 #[.int .i64 1, .int .i64 0, .int .i64 1, .int .u64 c] w fun e w' => ∃ fl : Int, e = .returned (.agg #[.int .u64 (ti c), .int .i64 fl]) ∧ Gr w w')
def PFit (k : Int) (L M : Nat) (f g : Nat → Int) : Prop := 1 ≤ k ∧ k ≤ 6 ∧ (L = 2 ^ k.toNat ∧ ∀ i, i < L → InB (f i)) ∧ (M = 2 ^ k.toNat ∧ ∀ i, i < M → InB (g i))
def pZ (o : Ops) (k : Nat) (f g : Nat → Int) (j : Nat) : Int × Int := o.cMul (o.tr k (fun j => o.int (f j)) j) (o.tr k (fun j => o.int (g j)) j)
def pF (o : Ops) (ti : Int → Int) (k : Nat) (f g : Nat → Int) (j : Nat) : Int := IntKind.i64.wrap (ti (o.bk k (pZ o k f g) j))
theorem pZ_wd {o : Ops} (HI : o.In) (k : Nat) (f g : Nat → Int) (j : Nat) : WdC (pZ o k f g j) := HI.cMul (HI.tr _ _ _ fun _ => HI.int _) (HI.tr _ _ _ fun _ => HI.int _)
abbrev MakesP (F : Nat) (k : Int) (vf vg : Value) (w : World) (b : Bool) (n : Nat) (f : Nat → Int) : Prop := Calls Tryz.prog F #[.int .i64 k, vf, vg] w fun e w' => ∃ v, e = .returned (.tuple #[v, .bool b]) ∧ Ow w' w.heap.size 3 1 .i64 v n f ∧ Gb w w'
theorem rdOw {w' : World} {b n : Nat} {t : TypeId} {v : Value} {k : IntKind} {g : Nat → Int} (ho : Ow w' b t 1 k v n g) : Rd w' k v n n g := by have := ho.rd; rw [Nat.mul_one] at this; exact this
theorem p6_le {k : Nat} (h : k ≤ 6) : 2 ^ k ≤ 64 := Nat.pow_le_pow_right (show 0 < 2 by decide) h
theorem Prod_s {o : Ops} (H : o.S) (HI : o.In) {ti : Int → Int} (HT : TiS ti) (k : Int) {L M : Nat} {f g : Nat → Int} (hfit : PFit k L M f g) {vf vg : Value} {w : World} (hrf : Rd w .i64 vf L L f) (hrg : Rd w .i64 vg M M g) :
  MakesP 13 k vf vg w true (2 ^ k.toNat) (pF o ti k.toNat f g) := by
 obtain ⟨h1, h6, ⟨hL, hf⟩, hM, hg⟩ := hfit
 obtain ⟨n, hn⟩ : ∃ n, n = 2 ^ k.toNat := ⟨_, rfl⟩
 obtain ⟨h, hh⟩ : ∃ h, h = 2 ^ (k.toNat - 1) := ⟨_, rfl⟩
 have hn64 : n ≤ 64 := by rw [hn]; exact p6_le (by omega)
 have hh64 : h ≤ 64 := by rw [hh]; exact p6_le (by omega)
 have hn0 : 0 < n := by rw [hn]; exact Nat.pow_pos (by decide)
 have hh0 : 0 < h := by rw [hh]; exact Nat.pow_pos (by decide)
 have tn : tN k n = h := by unfold tN; rw [if_pos ⟨h1, h6, hn⟩, hh]
 have bn : bN k h = n := by unfold bN; rw [if_pos ⟨h1, h6, hh⟩, hn]
 have hwi : ∀ (f : Nat → Int) (j : Nat), Wd (o.int (f j)) := fun f j => HI.int _
 have hTr : ∀ (f : Nat → Int) (w' : World) (u : Value), Rd w' .u64 u n n (fun j => o.int (f j)) → CT 20 #[.int .i64 k, u] w' fun e w'' => ∃ b cap, e = .returned (.slice (some ⟨b, 0, none⟩) h cap) ∧ b < w''.heap.size ∧ (∀ q, q < h * 2 → w''.cell? ⟨b, q, none⟩ = some (.int .u64 (flat (o.tr k.toNat (fun j => o.int (f j))) q))) ∧ Gb w' w'' := fun f w' u hr => by
  refine (Transform_s H HI k (by omega) hr (hwi f)).mono fun e w'' ⟨v, e1, e2, e3⟩ => ?_
  rw [tn] at e2
  obtain ⟨b, cap, rfl, _, c2, _, _, c3⟩ := e2.at hh0
  exact ⟨b, cap, e1, c2, fun q hq => (c3 q hq).1, e3⟩
 rw [← hn] at hL hM ⊢
 rw [hL] at hrf hf
 rw [hM] at hrg hg
 exact sprod_yes k (n : Int) n h (by omega) (by omega) hn0 hh0 (by omega) (by omega) vf vg w (fun j => o.int (f j)) (fun j => o.int (g j)) (o.bk k.toNat (pZ o k.toNat f g)) (fun j => ti (o.bk k.toNat (pZ o k.toNat f g) j)) (o.tr k.toNat (fun j => o.int (f j))) (o.tr k.toNat (fun j => o.int (g j))) (pZ o k.toNat f g)
  (fun w => size_k k k.toNat (by omega) (by omega) _ (by rw [hn]) w)
  (coefs_yes hrf hn0 (by omega) hf _ rfl)
  (coefs_yes hrg hn0 (by omega) hg _ rfl)
  (fun w' hg' => (words_s H (hrf.gb hg') hn0 (by omega) hf).mono fun e w'' ⟨v, e1, e2, e3⟩ => ⟨v, e1, rdOw e2, e3⟩)
  (fun w' hg' => (words_s H (hrg.gb hg') hn0 (by omega) hg).mono fun e w'' ⟨v, e1, e2, e3⟩ => ⟨v, e1, rdOw e2, e3⟩)
  (fun w' u hr => hTr f w' u hr)
  (fun w' u hr => hTr g w' u hr)
  (fun j hj w' => cprod_s H HI (HI.tr k.toNat _ j (hwi f)).1 (HI.tr k.toNat _ j (hwi f)).2 (HI.tr k.toNat _ j (hwi g)).1 (HI.tr k.toNat _ j (hwi g)).2 w')
  (fun w' u hr => by
   show Calls _ _ _ _ _
   refine (Back_s H HI k (by omega) hr (pZ_wd HI _ f g)).mono fun e w'' ⟨v, e1, e2, e3⟩ => ?_
   rw [bn] at e2
   obtain ⟨b, cap, rfl, _, c2, _, _, c3⟩ := e2.at hn0
   exact ⟨b, cap, e1, c2, fun q hq => (c3 q (by omega)).1, e3⟩)
  (fun j hj w' => (HT _ (HI.bk _ _ _ (pZ_wd HI _ f g))).out w')
theorem Prod_i {o : Ops} (H : o.I) (HN : IntI o) (HI : o.In) {ti : Int → Int} (HT : TiI ti) (k : Int) {L M : Nat} {f g : Nat → Int} (hfit : PFit k L M f g) {vf vg : Value} {w : World} (hw : Fm w) (hrf : Rd w .i64 vf L L f) (hrg : Rd w .i64 vg M M g) :
  MakesP 14 k vf vg w true (2 ^ k.toNat) (pF o ti k.toNat f g) := by
 obtain ⟨h1, h6, ⟨hL, hf⟩, hM, hg⟩ := hfit
 obtain ⟨kk, hkk⟩ : ∃ kk, kk = k.toNat := ⟨_, rfl⟩
 have hk : k = (kk : Int) := by omega
 have hk1 : 1 ≤ kk := by omega
 have hk6 : kk ≤ 6 := by omega
 rw [← hkk] at hL hM ⊢
 obtain ⟨n, hn⟩ : ∃ n, n = 2 ^ kk := ⟨_, rfl⟩
 obtain ⟨h, hh⟩ : ∃ h, h = 2 ^ (kk - 1) := ⟨_, rfl⟩
 have hn64 : n ≤ 64 := by rw [hn]; exact p6_le hk6
 have hh64 : h ≤ 64 := by rw [hh]; exact p6_le (by omega)
 have hn0 : 0 < n := by rw [hn]; exact Nat.pow_pos (by decide)
 have hh0 : 0 < h := by rw [hh]; exact Nat.pow_pos (by decide)
 have hwi : ∀ (f : Nat → Int) (j : Nat), Wd (o.int (f j)) := fun f j => HI.int _
 have hTr : ∀ (f : Nat → Int) (w' : World) (u cv : Value), Gb w w' → CR o w' cv (kk + 1) → Rd w' .u64 u n n (fun j => o.int (f j)) → CT 57 #[cv, u] w' fun e w'' => ∃ v, e = .returned v ∧ Ow w'' w'.heap.size 46 2 .u64 v h (flat (o.tr kk (fun j => o.int (f j)))) ∧ Gb w' w'' := fun f w' u cv hg' hc hr => by
  rw [hh]
  exact transform_i H HI kk hk1 hk6 (hw.gb hg') (by rw [← hn]; exact hr) (hwi f) hc
 rw [← hn] at hL hM ⊢
 rw [hL] at hrf hf
 rw [hM] at hrg hg
 obtain ⟨b0, cap0, rfl, _⟩ := hrf.at hn0
 exact iprod_yes kk k (n : Int) n h hk hk1 hk6 (by rw [hn]; simp) rfl (by omega) (by omega) hn0 hh0 b0 cap0 vg w (fun j => o.int (f j)) (fun j => o.int (g j)) (o.bk kk (pZ o kk f g)) (fun j => ti (o.bk kk (pZ o kk f g) j)) (o.tr kk (fun j => o.int (f j))) (o.tr kk (fun j => o.int (g j))) (pZ o kk f g) (fun w cv => CR o w cv (kk + 1))
  (fun w w' v h hg => h.gb hg)
  (fun w => log_any k true (by simp; omega) w)
  (fun w' hg' => (wc_yes HN (hw.gb hg') (hrf.gb hg') hn0 (by omega) hf _ rfl).mono fun e w'' ⟨v, e1, e2, e3⟩ => ⟨v, e1, rdOw e2, e3⟩)
  (fun w' hg' => (wc_yes HN (hw.gb hg') (hrg.gb hg') hn0 (by omega) hg _ rfl).mono fun e w'' ⟨v, e1, e2, e3⟩ => ⟨v, e1, rdOw e2, e3⟩)
  (fun w' hg' => by
   show Calls _ _ _ _ _
   rw [hk]
   exact (circleOf_i H HI kk hk1 hk6 (hw.gb hg')).mono fun e w'' ⟨v, e1, e2, e3⟩ => ⟨v, e1, e2.cr (by omega), e3⟩)
  (hTr f) (hTr g)
  (fun j hj w' hg' => ctimes_i H HI (HI.tr kk _ j (hwi f)).1 (HI.tr kk _ j (hwi f)).2 (HI.tr kk _ j (hwi g)).1 (HI.tr kk _ j (hwi g)).2 (hw.gb hg'))
  (fun w' u cv hg' hc hr => by
   show Calls _ _ _ _ _
   refine (back_i H HI kk hk1 hk6 (hw.gb hg') (by rw [← hh]; exact hr) (pZ_wd HI kk f g) hc).mono fun e w'' ⟨v, e1, e2, e3⟩ => ?_
   rw [← hn] at e2
   obtain ⟨b, cap, rfl, c1, c2, _, _, c3⟩ := e2.at hn0
   exact ⟨b, cap, e1, c1, c2, fun q hq => (c3 q (by omega)).1, e3⟩)
  (fun j hj w' hg' => (HT _ (HI.bk _ _ _ (pZ_wd HI _ f g))).out w' (hw.gb hg'))
theorem cf_any (n : Nat) (hn0 : 0 < n) {L : Nat} (hL : L ≤ 2000000) (f : Nat → Int) : ∃ p : Bool, (p = true ↔ L = n ∧ ∀ i, i < L → InB (f i)) ∧
  (∀ {v : Value} {w : World}, Rd w .i64 v L L f → QW 50 #[v, .int .i64 (n : Int)] w (.bool p)) ∧
  (∀ {o : Ops} {v : Value} {w : World}, IntI o → Fm w → Rd w .i64 v L L f → CT 55 #[.int .i64 (n : Int), v] w fun e w' => ∃ v', e = .returned (.tuple #[v', .bool p]) ∧ Gb w w') := by
 by_cases h : L = n
 ·subst h
  rcases inB_or L f with hy | ⟨m, hm, hlt, hbad⟩
  ·exact ⟨true, by simp; exact hy, fun hr => coefs_yes hr hn0 hL hy _ rfl, fun HN hw hr => (wc_yes HN hw hr hn0 hL hy _ rfl).mono fun e w' ⟨v, e1, _, e3⟩ => ⟨v, e1, e3⟩⟩
  ·exact ⟨false, ⟨fun h => Bool.noConfusion h, fun h => absurd (h.2 m hm) hbad⟩, fun hr => coefs_no hr hL m hm hlt hbad _ rfl, fun HN hw hr => (wc_no HN hw hr hn0 hL m hm hlt hbad _ rfl).mono fun e w' ⟨e1, e3⟩ => ⟨_, e1, e3⟩⟩
 ·exact ⟨false, ⟨fun h => Bool.noConfusion h, fun h' => absurd h'.1 h⟩, fun hr => coefs_len hr _ (by omega), fun HN hw hr => (wc_len hr _ (by omega)).mono fun e w' ⟨e1, e3⟩ => ⟨_, e1, e3⟩⟩
theorem Prod_no {k : Int} {L M : Nat} {f g : Nat → Int} (hfit : ¬ PFit k L M f g) (hL : L ≤ 2000000) (hM : M ≤ 2000000) :
  (∀ {vf vg : Value} {w : World}, Rd w .i64 vf L L f → Rd w .i64 vg M M g → NoProd 13 k vf vg w) ∧
  (∀ {o : Ops} {vf vg : Value} {w : World}, IntI o → Fm w → Rd w .i64 vf L L f → Rd w .i64 vg M M g → NoProd 14 k vf vg w) := by
 by_cases h : 1 ≤ k ∧ k ≤ 6
 ·obtain ⟨n, hn⟩ : ∃ n, n = 2 ^ k.toNat := ⟨_, rfl⟩
  have hn0 : 0 < n := by rw [hn]; exact Nat.pow_pos (by decide)
  obtain ⟨p, hp, ps, pi⟩ := cf_any n hn0 hL f
  obtain ⟨q, hq, qs, qi⟩ := cf_any n hn0 hM g
  have hpq : p = false ∨ p = true ∧ q = false := by
   cases p
   ·exact .inl rfl
   ·cases q
    ·exact .inr ⟨rfl, rfl⟩
    ·exact absurd ⟨h.1, h.2, by rw [← hn]; exact hp.1 rfl, by rw [← hn]; exact hq.1 rfl⟩ hfit
  have hs : KW 49 #[.int .i64 k] (.int .i64 (n : Int)) := fun w => size_k k k.toNat (by omega) (by omega) _ (by rw [hn]) w
  have hkn : KN k n := by
   unfold KN
   rcases (show k = 1 ∨ k = 2 ∨ k = 3 ∨ k = 4 ∨ k = 5 ∨ k = 6 by omega) with rfl | rfl | rfl | rfl | rfl | rfl <;> simp at hn <;> simp [hn]
  refine ⟨fun {vf vg w} hf hg => ?_, fun {o vf vg w} HN hw hf hg => iprod_no k n hkn vf vg w (fun w => log_any k true (by simp; omega) w) p q hpq (fun w' hg' => pi HN (hw.gb hg') (hf.gb hg')) (fun w' hg' => qi HN (hw.gb hg') (hg.gb hg'))⟩
  rcases hpq with rfl | ⟨rfl, rfl⟩
  ·exact sprod_f k n (by omega) (by omega) vf vg w hs (ps hf)
  ·exact sprod_g k n (by omega) (by omega) vf vg w hs (ps hf) (qs hg)
 ·exact ⟨fun {vf vg w} _ _ => sprod_k k (by omega) vf vg w, fun {o vf vg w} _ _ _ _ => iprod_k k vf vg w (fun w => log_any k false (by simp; omega) w)⟩
end Go.Proofs.YtnbbfeknbfohhaaGreatDoor
set_option maxRecDepth 1000000
namespace Go.Proofs.YtnbbfeknbfohhaaGreatDoor
open Go.RowKit
theorem lawProd_by (k : Int) (a1 a2 : Option Addr) (n1 cap1 n2 cap2 : Nat) (f g F : Nat → Int) (B : Bool) (N : Nat) (hN : N ≤ 64) {w : World} (ha1 : ArgRow w .i64 a1 n1 f) (ha2 : ArgRow w .i64 a2 n2 g) (hn1 : n1 ≤ 1048576) (hn2 : n2 ≤ 1048576)
  (H1 : Hid (∀ w v v', Rd w .i64 v n1 n1 f → Rd w .i64 v' n2 n2 g → MakesP 13 k v v' w B N F))
  (H2 : Hid (∀ w' v v', Gb w w' → Rd w' .i64 v n1 n1 f → Rd w' .i64 v' n2 n2 g → MakesP 14 k v v' w' B N F)) :
  QB 5 #[.int .i64 k, .slice a1 n1 cap1, .slice a2 n2 cap2] w (.bool true) := by
 have H3 : Hid (∀ w', Gb w w' → CT 15 #[.slice a1 n1 cap1] w' fun e w'' => ∃ v, e = .returned v ∧ Ow w'' w'.heap.size 3 1 .i64 v n1 f ∧ Gb w' w'') := fun w' hg => toIntS_any (ha1.gb hg) (by omega)
 have H4 : Hid (∀ w', Gb w w' → CT 15 #[.slice a2 n2 cap2] w' fun e w'' => ∃ v, e = .returned v ∧ Ow w'' w'.heap.size 3 1 .i64 v n2 g ∧ Gb w' w'') := fun w' hg => toIntS_any (ha2.gb hg) (by omega)
 have hl1 : ¬ (1048576 : Int) < (n1 : Int) := by omega
 have hl2 : ¬ (1048576 : Int) < (n2 : Int) := by omega
 clear ha1 ha2
 go_enter Tryz.func5, Tryz.ntmps5
 go_upto_region 6 with (first
  | (go_at_call 15; first
   | (with_reducible refine (H3.out _ kg).mono ?_; rintro e w1 ⟨u1, rfl, hu1, hg_w1⟩)
   | (with_reducible refine (H4.out _ kg).mono ?_; rintro e w2 ⟨u2, rfl, hu2, hg_w2⟩))
  | (go_at_call 13; refine (H1.out _ _ _ (rdOw (hu1.gb hg_w2)) (rdOw hu2)).mono ?_; rintro e w3 ⟨v0, rfl, ho0, hg_w3⟩))
 go_upto_region 7 with (go_at_call 15; refine (H3.out _ kg).mono ?_; rintro e w4 ⟨x1, rfl, hx1, hg_w4⟩)
 go_upto_region 8 with (go_at_call 15; refine (H4.out _ kg).mono ?_; rintro e w5 ⟨x2, rfl, hx2, hg_w5⟩)
 go_upto_region 9 with (go_at_call 14; refine (H2.out _ _ _ kg (rdOw (hx1.gb hg_w5)) (rdOw hx2)).mono ?_; rintro e w6 ⟨v1, rfl, ho1, hg_w6⟩)
 have hy0 := (((rdOw ho0).gb hg_w4).gb hg_w5).gb hg_w6
 go_upto_region 11 with (go_at_call 16; refine (eqIntS_same (rdOw ho1) hy0 (by omega)).mono ?_; rintro e w7 ⟨rfl, hg_w7⟩)
 have hx17 := ((hx1.gb hg_w5).gb hg_w6).gb hg_w7
 go_upto_region 13 with (first
  | (go_at_call 15; refine (H3.out _ kg).mono ?_; rintro e w8 ⟨u8, rfl, hu8, hg_w8⟩)
  | (go_at_call 16; refine (eqIntS_same (rdOw (hx17.gb hg_w8)) (rdOw hu8) (by omega)).mono ?_; rintro e w9 ⟨rfl, hg_w9⟩))
 have hx29 := (((hx2.gb hg_w6).gb hg_w7).gb hg_w8).gb hg_w9
 go_upto_region 15 with (first
  | (go_at_call 15; refine (H4.out _ kg).mono ?_; rintro e wa ⟨ua, rfl, hua, hg_wa⟩)
  | (go_at_call 16; refine (eqIntS_same (rdOw (hx29.gb hg_wa)) (rdOw hua) (by omega)).mono ?_; rintro e wb ⟨rfl, hg_wb⟩))
 have hx1b := (((hx17.gb hg_w8).gb hg_w9).gb hg_wa).gb hg_wb
 have hx2b := (hx29.gb hg_wa).gb hg_wb
 have ho1b := ((((ho1.gb hg_w7).gb hg_w8).gb hg_w9).gb hg_wa).gb hg_wb
 have hr0b := ((((hy0.gb hg_w7).gb hg_w8).gb hg_w9).gb hg_wa).gb hg_wb
 have hg_b : Gb w wb := kg
 have s1 := hg_w1.size
 have s2 := hg_w2.size
 have s3 := hg_w3.size
 have s4 := hg_w4.size
 have s5 := hg_w5.size
 have q0 : ∀ p, v0.ownBlock = some p → w2.heap.size ≤ p ∧ p < w3.heap.size := fun p h => ⟨(World.ownsRow.lt ho0 p h).1, (World.ownsRow.lt ho0 p h).2⟩
 have q1 : ∀ p, x1.ownBlock = some p → w3.heap.size ≤ p ∧ p < w4.heap.size := fun p h => ⟨(World.ownsRow.lt hx1 p h).1, (World.ownsRow.lt hx1 p h).2⟩
 have q2 : ∀ p, x2.ownBlock = some p → w4.heap.size ≤ p ∧ p < w5.heap.size := fun p h => ⟨(World.ownsRow.lt hx2 p h).1, (World.ownsRow.lt hx2 p h).2⟩
 have q3 : ∀ p, v1.ownBlock = some p → w5.heap.size ≤ p := fun p h => (World.ownsRow.lt ho1 p h).1
 have Q0 : Hid _ := q0
 have Q1 : Hid _ := q1
 have Q2 : Hid _ := q2
 have Q3 : Hid _ := q3
 clear q0 q1 q2 q3 hx17 hx29 hu8 hua ho1 hy0 hu1 hu2
 go_upto_region 17 with (go_at_call 17; refine (markIntS_any 1 (by omega) (by omega) hx1b (by omega)).mono ?_; rintro e wc ⟨rfl, _, hmc⟩)
 have hx2c := Ow.mk hmc hx2b (fun p h h' => by have := Q2.out p h; have := Q1.out p h'; omega)
 have ho1c := Ow.mk hmc ho1b (fun p h h' => by have := Q3.out p h; have := Q1.out p h'; omega)
 have hr0c := Rd.mk hmc hr0b (fun p h h' => by have := Q0.out p h; have := Q1.out p h'; omega)
 have hg_c : Gb w wc := Gb.below hg_b (hmc.below (base := w3.heap.size) fun p h => (Q1.out p h).1) (by omega)
 clear hmc hx2b ho1b hr0b hx1b
 go_upto_region 18 with (go_at_call 17; refine (markIntS_any _ (by omega) (by omega) hx2c (by omega)).mono ?_; rintro e wd ⟨rfl, _, hmd⟩)
 have ho1d := Ow.mk hmd ho1c (fun p h h' => by have := Q3.out p h; have := Q2.out p h'; omega)
 have hr0d := Rd.mk hmd hr0c (fun p h h' => by have := Q0.out p h; have := Q2.out p h'; omega)
 have hg_d : Gb w wd := Gb.below hg_c (hmd.below (base := w4.heap.size) fun p h => (Q2.out p h).1) (by omega)
 clear hmd ho1c hr0c hx2c
 have hz : ¬ (1 + (n1 : Int) + (n2 : Int)) < 0 := by omega
 have hz1 : ¬ (1 + (N : Int)) < 0 := by omega
 go_upto_region 20 with (go_at_call 16; refine (eqIntS_same (rdOw ho1d) hr0d (by omega)).mono ?_; rintro e we ⟨rfl, hg_we⟩)
 go_upto_region 22 with (go_at_call 17; refine (markIntS_any 1 (by omega) (by omega) (ho1d.gb hg_we) (by omega)).mono ?_; rintro e wf ⟨rfl, hof, hmf⟩)
 have hr0f := Rd.mk hmf (hr0d.gb hg_we) (fun p h h' => by have := Q0.out p h; have := Q3.out p h'; omega)
 have hg_f : Gb w wf := Gb.below (Gb.trans hg_d hg_we) (hmf.below (base := w5.heap.size) fun p h => Q3.out p h) (by omega)
 clear hmf ho1d hr0d
 go_upto_region 28 with (go_at_call 18; refine kw (heldIntS_any (rdOw hof) (by omega)) ?_)
 go_upto_region 29 with (first
  | (go_at_call 15; first
   | (with_reducible refine (H3.out _ kg).mono ?_; rintro e wg ⟨ug, rfl, hug, hg_wg⟩)
   | (with_reducible refine (H4.out _ kg).mono ?_; rintro e wh ⟨uh, rfl, huh, hg_wh⟩))
  | (go_at_call 14; refine (H2.out _ _ _ kg (rdOw (hug.gb hg_wh)) (rdOw huh)).mono ?_; rintro e wi ⟨vi, rfl, hoi, hg_wi⟩))
 go_wp2_with (go_at_call 16; refine (eqIntS_same (rdOw hoi) (((hr0f.gb hg_wg).gb hg_wh).gb hg_wi) (by omega)).mono ?_; rintro e wj ⟨rfl, hg_wj⟩)
 go_returns
 exact ⟨rfl, kg⟩
theorem lawProduct {o : Ops} (HS : o.S) (HP : o.I) (HN : IntI o) (HI : o.In) {ti : Int → Int} (HTs : TiS ti) (HTi : TiI ti) (k : Int) (a1 a2 : Option Addr) (n1 cap1 n2 cap2 : Nat) (f g : Nat → Int) {w : World} (hw : Fm w) (ha1 : ArgRow w .i64 a1 n1 f) (ha2 : ArgRow w .i64 a2 n2 g) (hn1 : n1 ≤ 1048576) (hn2 : n2 ≤ 1048576) :
  QB 5 #[.int .i64 k, .slice a1 n1 cap1, .slice a2 n2 cap2] w (.bool true) := by
 by_cases h : PFit k n1 n2 f g
 ·exact lawProd_by k a1 a2 n1 cap1 n2 cap2 f g (pF o ti k.toNat f g) true (2 ^ k.toNat) (p6_le (by have := h.2.1; omega)) ha1 ha2 hn1 hn2 (fun w v v' r1 r2 => Prod_s HS HI HTs k h r1 r2) (fun w' v v' hg r1 r2 => Prod_i HP HN HI HTi k h (hw.gb hg) r1 r2)
 ·exact lawProd_by k a1 a2 n1 cap1 n2 cap2 f g (fun _ => 0) false 0 (by omega) ha1 ha2 hn1 hn2 (fun w v v' r1 r2 => (Prod_no h (by omega) (by omega)).1 r1 r2) (fun w' v v' hg r1 r2 => (Prod_no h (by omega) (by omega)).2 HN (hw.gb hg) r1 r2)
end Go.Proofs.YtnbbfeknbfohhaaGreatDoor
