import Derived.Test.YtnbbfeknbfohhaaGreatDoorA7
import Derived.WalkSmall
import Derived.WalkLawsBesides
import Derived.Laws.Bits64b
import Derived.Test.YtnbbfeknbfohhaaGreatDoorY1
import Derived.Test.YtnbbfeknbfohhaaGreatDoorF0
import Derived.Deep.RegionHeld3
import Derived.Deep.DeepCutAuto
import Derived.Deep.Cut
set_option linter.unusedVariables false
set_option linter.unusedSimpArgs false
set_option maxHeartbeats 40000000
namespace Go.Proofs.YtnbbfeknbfohhaaGreatDoor
open Go.RowKit
def byt (s : ByteArray) (i : Nat) : Int := if h : i < s.size then (s[i].toNat : Int) else 0
theorem byt_in (s : ByteArray) (i : Nat) : 0 ≤ byt s i ∧ byt s i ≤ 255 := by
 unfold byt
 split
 ·have := (s[i]).toNat_lt; omega
 ·omega
theorem index_s (s : ByteArray) (i : Nat) (h : i < s.size) (w : World) : (Instr.index 9 (.string s) (.int .i64 i)).run Tryz.prog w = .ok (.int .u8 (byt s i)) w := by
 rw [run_index_string w 9 s .i64 i Tryz.underlying9, dif_pos ⟨by omega, by omega⟩]
 unfold byt
 rw [dif_pos h]
 rfl
def num (s : ByteArray) (p : Nat) : Nat → Int
 | 0 => 0
 | k + 1 => byt s p + 256 * num s (p + 1) k
theorem num_in (s : ByteArray) (k : Nat) : ∀ p, 0 ≤ num s p k ∧ num s p k < 256 ^ k := by
 induction k with
 | zero => intro p; exact ⟨Int.le_refl _, by unfold num; decide⟩
 | succ k ih =>
  intro p
  have a := ih (p + 1)
  have b := byt_in s p
  show 0 ≤ byt s p + 256 * num s (p + 1) k ∧ byt s p + 256 * num s (p + 1) k < 256 ^ (k + 1)
  rw [Int.pow_succ]
  omega
theorem num_top (s : ByteArray) (k : Nat) : ∀ p, num s p (k + 1) = num s p k + 256 ^ k * byt s (p + k) := by
 induction k with
 | zero => intro p; simp [num]
 | succ k ih =>
  intro p
  show byt s p + 256 * num s (p + 1) (k + 1) = byt s p + 256 * num s (p + 1) k + 256 ^ (k + 1) * byt s (p + (k + 1))
  rw [ih (p + 1), Int.pow_succ, show p + 1 + k = p + (k + 1) by omega, Int.mul_add]
  have : 256 * (256 ^ k * byt s (p + (k + 1))) = 256 ^ k * 256 * byt s (p + (k + 1)) := by rw [← Int.mul_assoc, Int.mul_comm 256]
  omega
theorem num_8 (s : ByteArray) (p : Nat) : 0 ≤ num s p 8 ∧ num s p 8 < 18446744073709551616 := num_in s 8 p
theorem draw_s (s : ByteArray) (p : Nat) (h : p + 8 ≤ s.size) (hs : s.size ≤ 1048576) (w : World) :
  Calls Tryz.prog 37 #[.string s, .int .i64 p] w fun e w' => e = .returned (.int .u64 (num s p 8)) ∧ w = w' := by
 go_enter Tryz.func37, Tryz.ntmps37
 go_wp2
 go_loop [5, 6] (fun v i => ∃ k : Nat, k ≤ 8 ∧ v = .int .u64 (num s (p + k) (8 - k)) ∧ i = .int .i64 ((k : Int) - 1)) (fun _ i => (intOf i + 1).toNat)
 case atStart => exact ⟨8, by omega, rfl, rfl⟩
 case round =>
  obtain ⟨k, hk, rfl, rfl⟩ := hrel
  by_cases h0 : 0 ≤ (k : Int) - 1
  ·obtain ⟨j, rfl⟩ : ∃ j, k = j + 1 := ⟨k - 1, by omega⟩
   have q := index_s s (p + j) (by omega) w
   have hb := byt_in s (p + j)
   have hn := num_in s (8 - (j + 1)) (p + (j + 1))
   have hm : num s (p + (j + 1)) (8 - (j + 1)) < 72057594037927936 := Int.lt_of_lt_of_le hn.2 (by
    have := Nat.pow_le_pow_right (show 0 < 256 by decide) (show 8 - (j + 1) ≤ 7 by omega)
    have e : ((256 ^ (8 - (j + 1)) : Nat) : Int) = (256 : Int) ^ (8 - (j + 1)) := Int.natCast_pow _ _
    omega)
   have HS : Hid (num s (p + j) (8 - j) = num s (p + (j + 1)) (8 - (j + 1)) * 256 + byt s (p + j)) := by
    show _ = _
    rw [show 8 - j = 8 - (j + 1) + 1 by omega]
    show byt s (p + j) + 256 * num s (p + j + 1) (8 - (j + 1)) = _
    rw [show p + j + 1 = p + (j + 1) by omega]
    omega
   have e1 : ((p + j : Nat) : Int) = (p : Int) + j := by omega
   have e2 : ((j + 1 : Nat) : Int) - 1 = j := by omega
   rw [e2]
   rw [e1] at q
   have hn0 := hn.1
   clear hn e1 e2
   generalize num s (p + (j + 1)) (8 - (j + 1)) = v at *
   generalize byt s (p + j) = b at *
   go_wp2
   go_round
   case rel => exact ⟨j, by omega, by rw [HS.out], by go_num⟩
   case measure => first | (simp [intOf]; done) | (simp [intOf]; omega)
  ·obtain rfl : k = 0 := by omega
   go_wp2
   go_returns
   exact ⟨rfl, rfl⟩
theorem or_add7 (v b : Int) (k : Nat) (hk : k < 8) (v0 : 0 ≤ v) (v1 : v < 256 ^ k) (b0 : 0 ≤ b) (b1 : b ≤ 255) : bits .or .u64 v (b * 256 ^ k) = v + 256 ^ k * b ∧ b * 256 ^ k < 18446744073709551616 ∧ v + 256 ^ k * b < 18446744073709551616 := by
 obtain ⟨x, rfl⟩ := Int.eq_ofNat_of_zero_le v0
 obtain ⟨y, rfl⟩ := Int.eq_ofNat_of_zero_le b0
 have e : ((2 ^ (8 * k) : Nat) : Int) = (256 : Int) ^ k := by rw [Nat.pow_mul]; exact Int.natCast_pow _ _
 rw [← e] at v1 ⊢
 have hx : x < 2 ^ (8 * k) := by omega
 have hy : y < 2 ^ 8 := by omega
 have hp : 2 ^ (8 * k) * 2 ^ 8 ≤ 2 ^ 64 := by rw [← Nat.pow_add]; exact Nat.pow_le_pow_right (by decide) (by omega)
 have h1 : 2 ^ (8 * k) * y + x < 2 ^ (8 * k) * 2 ^ 8 := by
  have : 2 ^ (8 * k) * (y + 1) ≤ 2 ^ (8 * k) * 2 ^ 8 := Nat.mul_le_mul_left _ (by omega)
  rw [Nat.mul_add] at this; omega
 have h2 : x ||| y * 2 ^ (8 * k) = 2 ^ (8 * k) * y + x := by
  rw [Nat.mul_comm y, Nat.or_comm, Nat.two_pow_add_eq_or_of_lt hx]
 have h3 := bits_or_u64_nat x (y * 2 ^ (8 * k)) (by omega) (by rw [Nat.mul_comm]; omega)
 rw [h2] at h3
 have h4 : ((y * 2 ^ (8 * k) : Nat) : Int) = (y : Int) * ((2 ^ (8 * k) : Nat) : Int) := by rw [Int.natCast_mul]
 have h5 : ((2 ^ (8 * k) * y + x : Nat) : Int) = (x : Int) + ((2 ^ (8 * k) : Nat) : Int) * (y : Int) := by rw [Int.natCast_add, Int.natCast_mul]; omega
 rw [h4, h5] at h3
 refine ⟨h3, ?_, ?_⟩
 ·rw [← h4]; rw [Nat.mul_comm]; omega
 ·rw [← h5]; omega
set_option maxRecDepth 100000 in
theorem draw_i (s : ByteArray) (h : 8 ≤ s.size) (hs : s.size ≤ 1048576) (w : World) :
  Calls Tryz.prog 132 #[.string s] w fun e w' => e = .returned (.int .u64 (num s 0 8)) ∧ w = w' := by
 go_enter Tryz.func132, Tryz.ntmps132
 go_wp2
 go_loop [3, 5] (fun v i => ∃ k : Nat, k ≤ 8 ∧ v = .int .u64 (num s 0 k) ∧ i = .int .i64 k) (fun _ i => 8 - (intOf i).toNat)
 case atStart => exact ⟨0, by omega, rfl, rfl⟩
 case round =>
  obtain ⟨k, hk, rfl, rfl⟩ := hrel
  by_cases h0 : (k : Int) < 8
  ·have q := index_s s k (by omega) w
   have hb := byt_in s k
   have hn := num_in s k 0
   obtain ⟨o1, o2, o3⟩ := or_add7 (num s 0 k) (byt s k) k (by omega) hn.1 hn.2 hb.1 hb.2
   have HS : Hid (num s 0 (k + 1) = num s 0 k + 256 ^ k * byt s k) := by show _ = _; rw [num_top, Nat.zero_add]
   have hn0 := hn.1
   have HW : Hid (IntKind.u64.wrap (byt s k * 2 ^ (8 * k)) = byt s k * 256 ^ k) := by
    show _ = _
    have e : (2 : Int) ^ (8 * k) = 256 ^ k := by rw [Int.pow_mul]; rfl
    have hp : (0 : Int) ≤ byt s k * 256 ^ k := Int.mul_nonneg hb.1 (Int.pow_nonneg (by decide))
    rw [e, IntKind.wrap_u64]
    exact Int.emod_eq_of_lt hp o2
   clear hn
   generalize num s 0 k = v at *
   generalize byt s k = b at *
   go_wp2
   go_round
   case rel => exact ⟨k + 1, by omega, by rw [HS.out, ← o1, HW.out], by go_num⟩
   case measure => first | (simp [intOf]; done) | (simp [intOf]; omega)
  ·obtain rfl : k = 8 := by omega
   go_wp2
   go_returns
   exact ⟨rfl, rfl⟩
end Go.Proofs.YtnbbfeknbfohhaaGreatDoor
namespace Go.Proofs.YtnbbfeknbfohhaaGreatDoor
open Go.RowKit
def Wo (a : Int) : Prop := 0 ≤ a ∧ a < 18446744073709551616
abbrev hfC : Int := 4602678819172646912
abbrev c32 : Int := 4751297606875873280
abbrev c63 : Int := 4890909195324358656
structure O7 where
 int : Int → Int
 sub : Int → Int → Int
 mul : Int → Int → Int
 rint : Int → Int
 fix : Int → Int
 whole : Int → Int
structure O7.In (o : O7) : Prop where
 int : ∀ n, Wo (o.int n)
 sub : ∀ {a b}, Wo a → Wo b → Wo (o.sub a b)
 subn : ∀ {a b}, Wo a → Wo b → 9223372036854775808 ≤ o.sub a b → o.sub a b % 9223372036854775808 ≤ 9218868437227405312
 mul : ∀ {a b}, Wo a → Wo b → Wo (o.mul a b)
 rint : ∀ {a}, Wo a → Wo (o.rint a)
 fix : ∀ {a}, Wo a → Wo (o.fix a)
 whole : ∀ {a}, Wo a → Wo (o.whole a)
def ordF (a b : Int) : Int := if a.tmod 9223372036854775808 = 0 ∧ b.tmod 9223372036854775808 = 0 then 0 else if decide (9223372036854775808 ≤ a) ≠ decide (9223372036854775808 ≤ b) then (if 9223372036854775808 ≤ a then -1 else 1) else if a.tmod 9223372036854775808 = b.tmod 9223372036854775808 then 0 else if decide (a.tmod 9223372036854775808 < b.tmod 9223372036854775808) = decide (a < 9223372036854775808) then -1 else 1
def Unp (a c s : Int) : Prop := (s = 0 ∨ s = 1) ∧ (1 < c ↔ 9218868437227405312 ≤ a % 9223372036854775808) ∧ (c = 0 ↔ a % 9223372036854775808 = 0) ∧ (s = 1 → 9223372036854775808 ≤ a)
structure O7.S (o : O7) : Prop where
 word : Hid (∀ n, -9223372036854775808 ≤ n → n ≤ 9223372036854775807 → ∀ w, Calls Tryz.prog 109 #[.int .i64 n] w fun e w' => e = .returned (.int .u64 (o.int n)) ∧ Gb w w')
 minus : Hid (∀ a b, Wo a → Wo b → ∀ w, Calls Tryz.prog 33 #[.int .u64 a, .int .u64 b] w fun e w' => e = .returned (.int .u64 (o.sub a b)) ∧ Gb w w')
 times : Hid (∀ a b, Wo a → Wo b → ∀ w, Calls Tryz.prog 34 #[.int .u64 a, .int .u64 b] w fun e w' => e = .returned (.int .u64 (o.mul a b)) ∧ Gb w w')
 half : KB 35 #[] (.int .u64 hfC)
 from32 : Hid (∀ w, Calls Tryz.prog 19 #[.int .i64 1, .int .i64 0, .int .i64 3, .int .u64 4294967296] w fun e w' => ∃ fl : Int, e = .returned (.agg #[.int .u64 c32, .int .i64 fl]) ∧ Gb w w')
 from63 : Hid (∀ w, Calls Tryz.prog 19 #[.int .i64 1, .int .i64 0, .int .i64 3, .int .u64 9223372036854775808] w fun e w' => ∃ fl : Int, e = .returned (.agg #[.int .u64 c63, .int .i64 fl]) ∧ Gb w w')
 unp : ∀ {a}, Wo a → ∃ c s x g : Int, Unp a c s ∧ KR 31 #[.int .i64 1, .int .u64 a] (.agg #[.int .i64 c, .int .i64 s, .int .i64 x, .int .u64 g])
 order : Hid (∀ a b, Wo a → Wo b → ∀ w, Calls Tryz.prog 108 #[.int .i64 1, .int .u64 a, .int .u64 b] w fun e w' => e = .returned (.int .i64 (ordF a b)) ∧ w = w')
 rint : Hid (∀ a, Wo a → ∀ w, Calls Tryz.prog 32 #[.int .i64 1, .int .i64 4, .int .u64 a, .bool false] w fun e w' => ∃ fl : Int, e = .returned (.agg #[.int .u64 (o.rint a), .int .i64 fl]) ∧ Gb w w')
 fix : Hid (∀ a, Wo a → ∀ w, Calls Tryz.prog 39 #[.int .i64 1, .int .i64 2, .int .i64 3, .int .u64 a] w fun e w' => ∃ fl : Int, e = .returned (.agg #[.int .u64 (o.fix a), .int .i64 fl]) ∧ Gb w w')
 whole : Hid (∀ a, Wo a → ∀ w, Calls Tryz.prog 39 #[.int .i64 1, .int .i64 0, .int .i64 1, .int .u64 a] w fun e w' => ∃ fl : Int, e = .returned (.agg #[.int .u64 (o.whole a), .int .i64 fl]) ∧ Gb w w')
 k1 : o.mul (o.int (-2199023255552)) hfC = 14010698440749613056
 k2 : o.mul (o.int 2199023255552) hfC = 4787326403894837248
 k3 : o.mul (o.int 1) hfC = hfC
 k4 : o.mul (o.int 2) hfC = 4607182418800017408
 k5 : o.mul (o.int 0) hfC = 0
 k6 : o.mul hfC hfC = 4598175219545276416
 k7 : o.mul 4598175219545276416 hfC = 4593671619917905920
 neg : ∀ {x}, Wo x → 9223372036854775808 ≤ x → x % 9223372036854775808 ≤ 9218868437227405312 → o.fix (o.mul x c32) = 0
structure O7.I (o : O7) : Prop where
 word : Hid (∀ n, -9223372036854775808 ≤ n → n ≤ 9223372036854775807 → ∀ w, Fm w → Calls Tryz.prog 134 #[.int .i64 n] w fun e w' => e = .returned (.int .u64 (o.int n)) ∧ Gr w w')
 minus : Hid (∀ a b, Wo a → Wo b → ∀ w, Fm w → Calls Tryz.prog 42 #[.int .u64 a, .int .u64 b] w fun e w' => e = .returned (.int .u64 (o.sub a b)) ∧ Gr w w')
 times : Hid (∀ a b, Wo a → Wo b → ∀ w, Fm w → Calls Tryz.prog 43 #[.int .u64 a, .int .u64 b] w fun e w' => e = .returned (.int .u64 (o.mul a b)) ∧ Gr w w')
 fix : Hid (∀ a, Wo a → ∀ w, Fm w → Calls Tryz.prog 44 #[.int .u64 a] w fun e w' => e = .returned (.int .u64 (o.fix a)) ∧ Gr w w')
 rint : Hid (∀ a, Wo a → ∀ w, Fm w → Calls Tryz.prog 41 #[.int .i64 1, .int .i64 4, .int .u64 a, .bool false] w fun e w' => ∃ fl : Int, e = .returned (.agg #[.int .u64 (o.rint a), .int .i64 fl]) ∧ Gr w w')
 whole : Hid (∀ a, Wo a → a % 9223372036854775808 ≤ 4787326403894837248 → ∀ w, Fm w → Calls Tryz.prog 23 #[.int .i64 1, .int .i64 2, .int .i64 1, .int .u64 (o.rint a)] w fun e w' => ∃ fl : Int, e = .returned (.agg #[.int .u64 (o.whole (o.rint a)), .int .i64 fl]) ∧ Gr w w')
def isC (mu inv scale : Int) : Bool := decide (mu % 9223372036854775808 ≤ 4787326403894837248) && (decide (hfC ≤ inv) && decide (inv ≤ 4607182418800017408)) && (decide (0 < scale) && decide (scale ≤ 4607182418800017408))
namespace O7
variable (o : O7)
def above (mu : Int) : Int := o.sub mu (o.rint mu)
def narrow (inv : Int) : Int := o.mul (o.mul inv inv) hfC
def shr (scale : Int) : Int := o.fix (o.mul scale c63)
def xOf (z : Int) (n : Nat) (r h : Int) : Int := o.sub (o.mul (o.mul (o.sub (o.int z) r) (o.sub (o.int z) r)) h) (o.mul (o.int ((n : Int) * n)) 4593671619917905920)
def leaves (z : Int) (n : Nat) (r h e : Int) : Int := share (decayN (o.fix (o.mul (o.xOf z n r h) c32))) e
def acc (z : Int) (n : Nat) (r h e v : Int) : Bool := decide (v / 2 < o.leaves z n r h e)
end O7
def zOf (n : Nat) (c : Int) : Int := if c % 2 = 1 then (n : Int) + 1 else -(n : Int)
theorem zOf_in (n : Nat) (c : Int) (hn : n ≤ 18) : -18 ≤ zOf n c ∧ zOf n c ≤ 19 := by unfold zOf; split <;> omega
theorem Wo.c (x : Int) (h0 : 0 ≤ x := by decide) (h1 : x < 18446744073709551616 := by decide) : Wo x := ⟨h0, h1⟩
end Go.Proofs.YtnbbfeknbfohhaaGreatDoor
namespace Go.Proofs.YtnbbfeknbfohhaaGreatDoor
open Go.RowKit
theorem res_f7 : ∀ (z fl : Int) (w : World), (Instr.field 41 (.agg #[.int .u64 z, .int .i64 fl]) 0).run Tryz.prog w = .ok (.int .u64 z) w := fun z fl w => by kernel_rfl
set_option maxRecDepth 100000 in
theorem between_s {o : O7} (H : o.S) (HI : o.In) {a : Int} (ha : Wo a) (lo hi cl ch : Int) (l0 : -9223372036854775808 ≤ lo) (l1 : lo ≤ 9223372036854775807) (h0 : -9223372036854775808 ≤ hi) (h1 : hi ≤ 9223372036854775807) (hl : o.mul (o.int lo) hfC = cl) (hh : o.mul (o.int hi) hfC = ch) {c s x g : Int} (HU : KR 31 #[.int .i64 1, .int .u64 a] (.agg #[.int .i64 c, .int .i64 s, .int .i64 x, .int .u64 g])) (r : Bool)
  (hr : r = (!decide (1 < c) && (decide (0 ≤ ordF a cl) && decide (ordF a ch ≤ 0)))) (w : World) :
  Calls Tryz.prog 30 #[.int .u64 a, .int .i64 lo, .int .i64 hi] w fun e w' => e = .returned (.bool r) ∧ Gb w w' := by
 have HW1 : KB 109 #[.int .i64 lo] (.int .u64 (o.int lo)) := H.word.out lo l0 l1
 have HW2 : KB 109 #[.int .i64 hi] (.int .u64 (o.int hi)) := H.word.out hi h0 h1
 have HH := H.half
 have HM1 : KB 34 #[.int .u64 (o.int lo), .int .u64 hfC] (.int .u64 cl) := by rw [← hl]; exact H.times.out _ _ (HI.int lo) (Wo.c _)
 have HM2 : KB 34 #[.int .u64 (o.int hi), .int .u64 hfC] (.int .u64 ch) := by rw [← hh]; exact H.times.out _ _ (HI.int hi) (Wo.c _)
 have HO1 : KW 108 #[.int .i64 1, .int .u64 a, .int .u64 cl] (.int .i64 (ordF a cl)) := H.order.out a cl ha (by rw [← hl]; exact HI.mul (HI.int lo) (Wo.c _))
 have HO2 : KW 108 #[.int .i64 1, .int .u64 a, .int .u64 ch] (.int .i64 (ordF a ch)) := H.order.out a ch ha (by rw [← hh]; exact HI.mul (HI.int hi) (Wo.c _))
 generalize o.int lo = u1 at *
 generalize o.int hi = u2 at *
 generalize ordF a cl = q1 at *
 generalize ordF a ch = q2 at *
 clear H HI hl hh l0 l1 h0 h1 ha
 rcases (show (1 < c ∧ r = false) ∨ (¬ 1 < c ∧ ¬ 0 ≤ q1 ∧ r = false) ∨ (¬ 1 < c ∧ 0 ≤ q1 ∧ r = decide (q2 ≤ 0)) by
  by_cases c1 : 1 < c
  ·exact .inl ⟨c1, by rw [hr]; simp [c1]⟩
  ·by_cases c2 : 0 ≤ q1
   ·exact .inr (.inr ⟨c1, c2, by rw [hr]; simp [c1, c2]⟩)
   ·exact .inr (.inl ⟨c1, c2, by rw [hr]; simp [c2]⟩)) with ⟨c1, rfl⟩ | ⟨c1, c2, rfl⟩ | ⟨c1, c2, rfl⟩
 ·clear hr
  go_enter Tryz.func30, Tryz.ntmps30
  go_wp2_with (go_at_call 31; refine (HU.out _).mono ?_; rintro e w1 ⟨rfl, hg_w1⟩)
  go_returns
  exact ⟨rfl, kg⟩
 all_goals
  clear hr
  go_enter Tryz.func30, Tryz.ntmps30
  go_upto_region 4 with (go_at_call 31; refine (HU.out _).mono ?_; rintro e w1 ⟨rfl, hg_w1⟩)
  go_wp2_with (first
   | (go_at_call 109; first | (with_reducible refine (HW1.out _).mono ?_; rintro e w2 ⟨rfl, hg_w2⟩) | (with_reducible refine (HW2.out _).mono ?_; rintro e w5 ⟨rfl, hg_w5⟩))
   | (go_at_call 35; refine (HH.out _).mono ?_; rintro e w3 ⟨rfl, hg_w3⟩)
   | (go_at_call 34; first | (with_reducible refine (HM1.out _).mono ?_; rintro e w4 ⟨rfl, hg_w4⟩) | (with_reducible refine (HM2.out _).mono ?_; rintro e w6 ⟨rfl, hg_w6⟩))
   | (go_at_call 108; first | (with_reducible refine kw (HO1.out _) ?_) | (with_reducible refine kw (HO2.out _) ?_)))
  go_returns
  exact ⟨rfl, kg⟩
set_option maxRecDepth 100000 in
theorem fixed_w {o : O7} (H : o.S) (HI : o.In) {a : Int} (ha : Wo a) (n t cn : Int) (hc : Wo cn) (HT : KW 114 #[.int .i64 n] (.int .u64 t)) (HF : Hid (∀ w, Calls Tryz.prog 19 #[.int .i64 1, .int .i64 0, .int .i64 3, .int .u64 t] w fun e w' => ∃ fl : Int, e = .returned (.agg #[.int .u64 cn, .int .i64 fl]) ∧ Gb w w'))
  {c s x g : Int} (HU : KR 31 #[.int .i64 1, .int .u64 a] (.agg #[.int .i64 c, .int .i64 s, .int .i64 x, .int .u64 g])) (r : Int) (hr : s = 1 ∧ r = 0 ∨ s = 0 ∧ r = o.fix (o.mul a cn)) (w : World) :
  Calls Tryz.prog 125 #[.int .u64 a, .int .i64 n] w fun e w' => e = .returned (.int .u64 r) ∧ Gb w w' := by
 have hf := res_f7
 have HM : KB 34 #[.int .u64 a, .int .u64 cn] (.int .u64 (o.mul a cn)) := H.times.out _ _ ha hc
 have HX : Hid (∀ w, Calls Tryz.prog 39 #[.int .i64 1, .int .i64 2, .int .i64 3, .int .u64 (o.mul a cn)] w fun e w' => ∃ fl : Int, e = .returned (.agg #[.int .u64 (o.fix (o.mul a cn)), .int .i64 fl]) ∧ Gb w w') := H.fix.out _ (HI.mul ha hc)
 clear H HI ha hc
 rcases hr with ⟨rfl, rfl⟩ | ⟨rfl, rfl⟩
 ·go_enter Tryz.func125, Tryz.ntmps125
  go_wp2_with (go_at_call 31; refine (HU.out _).mono ?_; rintro e w1 ⟨rfl, hg_w1⟩)
  go_returns
  exact ⟨rfl, kg⟩
 ·generalize o.fix (o.mul a cn) = r at *
  generalize o.mul a cn = m at *
  go_enter Tryz.func125, Tryz.ntmps125
  go_upto_region 4 with (go_at_call 31; refine (HU.out _).mono ?_; rintro e w1 ⟨rfl, hg_w1⟩)
  go_wp2_with (first
   | (go_at_call 114; refine kw (HT.out _) ?_)
   | (go_at_call 19; refine (HF.out _).mono ?_; rintro e w3 ⟨f3, rfl, hg_w3⟩)
   | (go_at_call 34; refine (HM.out _).mono ?_; rintro e w4 ⟨rfl, hg_w4⟩)
   | (go_at_call 39; refine (HX.out _).mono ?_; rintro e w5 ⟨f5, rfl, hg_w5⟩))
  go_returns
  exact ⟨rfl, kg⟩
theorem fixed32 {o : O7} (H : o.S) (HI : o.In) {a : Int} (ha : Wo a) (hq : 9223372036854775808 ≤ a → a % 9223372036854775808 ≤ 9218868437227405312) (w : World) :
  Calls Tryz.prog 125 #[.int .u64 a, .int .i64 32] w fun e w' => e = .returned (.int .u64 (o.fix (o.mul a c32))) ∧ Gb w w' := by
 obtain ⟨c, s, x, g, hu, HU⟩ := H.unp ha
 refine fixed_w H HI ha 32 4294967296 c32 (Wo.c _) (fun w => l2Two_any 32 _ (by omega) (by decide) w) H.from32 HU _ ?_ w
 obtain ⟨h1, h2, h3, h4⟩ := hu
 rcases h1 with h1 | h1
 ·exact .inr ⟨h1, rfl⟩
 ·exact .inl ⟨h1, H.neg ha (h4 h1) (hq (h4 h1))⟩
theorem fixed63 {o : O7} (H : o.S) (HI : o.In) {a : Int} (h0 : 0 ≤ a) (h1 : a < 9223372036854775808) (w : World) :
  Calls Tryz.prog 125 #[.int .u64 a, .int .i64 63] w fun e w' => e = .returned (.int .u64 (o.shr a)) ∧ Gb w w' := by
 have ha : Wo a := ⟨h0, by omega⟩
 obtain ⟨c, s, x, g, hu, HU⟩ := H.unp ha
 refine fixed_w H HI ha 63 9223372036854775808 c63 (Wo.c _) (fun w => l2Two_any 63 _ (by omega) (by decide) w) H.from63 HU _ ?_ w
 obtain ⟨k1, k2, k3, k4⟩ := hu
 rcases k1 with k1 | k1
 ·exact .inr ⟨k1, rfl⟩
 ·have := k4 k1; omega
set_option maxRecDepth 100000 in
theorem accepts_s {o : O7} (H : o.S) (HI : o.In) (z : Int) (n : Nat) (hn : n ≤ 18) (z0 : -18 ≤ z) (z1 : z ≤ 19) {r h sc v : Int} (hr : Wo r) (hh : Wo h) (s0 : 0 ≤ sc) (s1 : sc < 9223372036854775808) (hv : Wo v) (w : World) :
  Calls Tryz.prog 38 #[.int .i64 z, .int .i64 n, .int .u64 r, .int .u64 h, .int .u64 sc, .int .u64 v] w fun e w' => e = .returned (.bool (o.acc z n r h (o.shr sc) v)) ∧ Gb w w' := by
 have hf := res_f7
 have hd := HI.sub (HI.int z) hr
 have hdd := HI.mul hd hd
 have hm := HI.mul hdd hh
 have hq : Wo (4593671619917905920 : Int) := Wo.c _
 have hi := HI.int ((n : Int) * n)
 have hmi := HI.mul hi hq
 have hx := HI.sub hm hmi
 have hy := HI.fix (HI.mul hx (Wo.c c32))
 have HD : KR 124 #[.int .u64 (o.fix (o.mul (o.xOf z n r h) c32))] (.int .u64 (decayN (o.fix (o.mul (o.xOf z n r h) c32)))) := decay_s _ hy.1 hy.2
 have HP : KR 123 #[.int .u64 (decayN (o.fix (o.mul (o.xOf z n r h) c32))), .int .u64 (o.shr sc)] (.int .u64 (o.leaves z n r h (o.shr sc))) := by
  have d := decayN_in (o.fix (o.mul (o.xOf z n r h) c32))
  have e := HI.fix (HI.mul (show Wo sc from ⟨s0, by omega⟩) (Wo.c c63))
  exact part_s _ _ d.1 (by omega) e.1 e.2
 have HX : KB 125 #[.int .u64 (o.xOf z n r h), .int .i64 32] (.int .u64 (o.fix (o.mul (o.xOf z n r h) c32))) := fixed32 H HI hx (HI.subn hm hmi)
 have HE : KB 125 #[.int .u64 sc, .int .i64 63] (.int .u64 (o.shr sc)) := fixed63 H HI s0 s1
 have HW1 : KB 109 #[.int .i64 z] (.int .u64 (o.int z)) := H.word.out z (by omega) (by omega)
 have nn : (n : Int) * n ≤ 18 * 18 := Int.mul_le_mul (by omega) (by omega) (by omega) (by omega)
 have nn0 : 0 ≤ (n : Int) * n := Int.mul_nonneg (by omega) (by omega)
 obtain ⟨N, hN⟩ : ∃ N, (n : Int) * n = N := ⟨_, rfl⟩
 have HW2 : KB 109 #[.int .i64 N] (.int .u64 (o.int N)) := H.word.out N (by omega) (by omega)
 have HH := H.half
 have HS1 : KB 33 #[.int .u64 (o.int z), .int .u64 r] (.int .u64 (o.sub (o.int z) r)) := H.minus.out _ _ (HI.int z) hr
 have HT := H.times
 have HQ1 : KB 34 #[.int .u64 hfC, .int .u64 hfC] (.int .u64 4598175219545276416) := by rw [← H.k6]; exact HT.out _ _ (Wo.c _) (Wo.c _)
 have HQ2 : KB 34 #[.int .u64 4598175219545276416, .int .u64 hfC] (.int .u64 4593671619917905920) := by rw [← H.k7]; exact HT.out _ _ (Wo.c _) (Wo.c _)
 have HS2 : KB 33 #[.int .u64 (o.mul (o.mul (o.sub (o.int z) r) (o.sub (o.int z) r)) h), .int .u64 (o.mul (o.int N) 4593671619917905920)] (.int .u64 (o.xOf z n r h)) := by rw [← hN]; exact H.minus.out _ _ hm hmi
 have HM1 : KB 34 #[.int .u64 (o.sub (o.int z) r), .int .u64 (o.sub (o.int z) r)] (.int .u64 (o.mul (o.sub (o.int z) r) (o.sub (o.int z) r))) := HT.out _ _ hd hd
 have HM2 : KB 34 #[.int .u64 (o.mul (o.sub (o.int z) r) (o.sub (o.int z) r)), .int .u64 h] (.int .u64 (o.mul (o.mul (o.sub (o.int z) r) (o.sub (o.int z) r)) h)) := HT.out _ _ hdd hh
 have HM3 : KB 34 #[.int .u64 (o.int N), .int .u64 4593671619917905920] (.int .u64 (o.mul (o.int N) 4593671619917905920)) := by rw [← hN]; exact HT.out _ _ hi hq
 have HR : Hid (o.acc z n r h (o.shr sc) v = decide (v / 2 < o.leaves z n r h (o.shr sc))) := rfl
 have v0 := hv.1
 have v1 := hv.2
 generalize o.acc z n r h (o.shr sc) v = b at *
 generalize o.leaves z n r h (o.shr sc) = lv at *
 generalize o.shr sc = es at *
 generalize decayN (o.fix (o.mul (o.xOf z n r h) c32)) = dy at *
 generalize o.fix (o.mul (o.xOf z n r h) c32) = fx at *
 generalize o.xOf z n r h = xx at *
 generalize o.mul (o.int N) 4593671619917905920 = mi at *
 generalize o.mul (o.mul (o.sub (o.int z) r) (o.sub (o.int z) r)) h = mh at *
 generalize o.mul (o.sub (o.int z) r) (o.sub (o.int z) r) = dd at *
 generalize o.sub (o.int z) r = d at *
 generalize o.int N = iN at *
 generalize o.int z = iz at *
 clear HT H HI hr hh hd hdd hm hq hi hmi hx hy
 go_enter Tryz.func38, Tryz.ntmps38
 go_upto_region 2 with (first
   | (go_at_call 109; refine (HW1.out _).mono ?_; rintro e w1 ⟨rfl, hg_w1⟩)
   | (go_at_call 33; refine (HS1.out _).mono ?_; rintro e w2 ⟨rfl, hg_w2⟩))
 go_upto_region 3 with (first
   | (go_at_call 35; refine (HH.out _).mono ?_; rintro e w3 ⟨rfl, hg_w3⟩)
   | (go_at_call 34; first | (with_reducible refine (HQ1.out _).mono ?_; rintro e w4 ⟨rfl, hg_w4⟩) | (with_reducible refine (HQ2.out _).mono ?_; rintro e w5 ⟨rfl, hg_w5⟩)))
 go_upto_region 4 with (first
   | (go_at_call 109; refine (HW2.out _).mono ?_; rintro e w6 ⟨rfl, hg_w6⟩)
   | (go_at_call 34; first | (with_reducible refine (HM1.out _).mono ?_; rintro e w7 ⟨rfl, hg_w7⟩) | (with_reducible refine (HM2.out _).mono ?_; rintro e w8 ⟨rfl, hg_w8⟩) | (with_reducible refine (HM3.out _).mono ?_; rintro e w9 ⟨rfl, hg_w9⟩))
   | (go_at_call 33; refine (HS2.out _).mono ?_; rintro e wa ⟨rfl, hg_wa⟩))
 go_wp2_with (first
   | (go_at_call 125; first | (with_reducible refine (HX.out _).mono ?_; rintro e wb ⟨rfl, hg_wb⟩) | (with_reducible refine (HE.out _).mono ?_; rintro e wc ⟨rfl, hg_wc⟩))
   | (go_at_call 124; refine (HD.out _).mono ?_; rintro e wd ⟨rfl, hg_wd⟩)
   | (go_at_call 123; refine (HP.out _).mono ?_; rintro e we ⟨rfl, hg_we⟩))
 go_returns
 obtain rfl := HR.out
 exact ⟨rfl, kg⟩
end Go.Proofs.YtnbbfeknbfohhaaGreatDoor
namespace Go.Proofs.YtnbbfeknbfohhaaGreatDoor
open Go.RowKit
theorem twY20 {P : Prop} (h : P := by
 have a0 := ha.1
 have a1 := ha.2
 have b0 := hb.1
 have b1 := hb.2
 unfold ordF
 rw [tm63 ha, tm63 hb]
 simp only [ne_eq, decide_eq_decide]
 (repeat' split) <;> omega) : P := h
theorem tm63 {a : Int} (h : Wo a) : a.tmod 9223372036854775808 = a % 9223372036854775808 := Int.tmod_eq_emod_of_nonneg h.1
theorem ord_ge {a b : Int} (ha : Wo a) (hb : Wo b) : 0 ≤ ordF a b ↔ (a % 9223372036854775808 = 0 ∧ b % 9223372036854775808 = 0) ∨ (a < 9223372036854775808 ∧ b < 9223372036854775808 ∧ b ≤ a) ∨ (a < 9223372036854775808 ∧ 9223372036854775808 ≤ b) ∨ (9223372036854775808 ≤ a ∧ 9223372036854775808 ≤ b ∧ a ≤ b) := by
 exact twY20
theorem ord_le {a b : Int} (ha : Wo a) (hb : Wo b) : ordF a b ≤ 0 ↔ (a % 9223372036854775808 = 0 ∧ b % 9223372036854775808 = 0) ∨ (a < 9223372036854775808 ∧ b < 9223372036854775808 ∧ a ≤ b) ∨ (9223372036854775808 ≤ a ∧ b < 9223372036854775808) ∨ (9223372036854775808 ≤ a ∧ 9223372036854775808 ≤ b ∧ b ≤ a) := by
 exact twY20
theorem bool_iff {b : Bool} {P : Prop} [Decidable P] (h : b = true ↔ P) : b = decide P := by
 by_cases p : P
 ·rw [decide_eq_true p]; exact h.mpr p
 ·rw [decide_eq_false p]; cases b
  ·rfl
  ·exact absurd (h.mp rfl) p
theorem b_mu {a c s : Int} (ha : Wo a) (hu : Unp a c s) : (!decide (1 < c) && (decide (0 ≤ ordF a 14010698440749613056) && decide (ordF a 4787326403894837248 ≤ 0))) = decide (a % 9223372036854775808 ≤ 4787326403894837248) := by
 refine bool_iff ?_
 have a0 := ha.1
 have a1 := ha.2
 have h := hu.2.1
 rw [Bool.and_eq_true, Bool.and_eq_true, Bool.not_eq_true', decide_eq_false_iff_not, decide_eq_true_eq, decide_eq_true_eq, ord_ge ha (Wo.c _), ord_le ha (Wo.c _), h]
 omega
theorem b_inv {a c s : Int} (ha : Wo a) (hu : Unp a c s) : (!decide (1 < c) && (decide (0 ≤ ordF a hfC) && decide (ordF a 4607182418800017408 ≤ 0))) = (decide (hfC ≤ a) && decide (a ≤ 4607182418800017408)) := by
 refine (bool_iff (P := hfC ≤ a ∧ a ≤ 4607182418800017408) ?_).trans (Bool.decide_and _ _)
 have a0 := ha.1
 have a1 := ha.2
 have h := hu.2.1
 rw [Bool.and_eq_true, Bool.and_eq_true, Bool.not_eq_true', decide_eq_false_iff_not, decide_eq_true_eq, decide_eq_true_eq, ord_ge ha (Wo.c _), ord_le ha (Wo.c _), h]
 unfold hfC
 omega
theorem b_sc {a c s : Int} (ha : Wo a) (hu : Unp a c s) : ((!decide (1 < c) && (decide (0 ≤ ordF a 0) && decide (ordF a 4607182418800017408 ≤ 0))) && !decide (c = 0)) = (decide (0 < a) && decide (a ≤ 4607182418800017408)) := by
 refine (bool_iff (P := 0 < a ∧ a ≤ 4607182418800017408) ?_).trans (Bool.decide_and _ _)
 have a0 := ha.1
 have a1 := ha.2
 have h := hu.2.1
 have h2 := hu.2.2.1
 rw [Bool.and_eq_true, Bool.and_eq_true, Bool.and_eq_true, Bool.not_eq_true', Bool.not_eq_true', decide_eq_false_iff_not, decide_eq_false_iff_not, decide_eq_true_eq, decide_eq_true_eq, ord_ge ha (Wo.c _), ord_le ha (Wo.c _), h, h2]
 omega
structure Smp where
 st : Int
 z : Int
 us : Int
 tr : Int
def Tried (a : Nat → Bool) (Z : Nat → Int) (n : Nat) (r : Smp) : Prop :=
 (∃ k, 17 * k + 17 ≤ n ∧ a k = true ∧ (∀ j, j < k → a j = false) ∧ r = ⟨0, Z k, 17 * (k : Int) + 17, (k : Int) + 1⟩) ∨
 (∃ k, n < 17 * k + 17 ∧ 17 * k ≤ n ∧ (∀ j, j < k → a j = false) ∧ r = ⟨2, 0, 17 * (k : Int), (k : Int)⟩)
theorem Tried.one {a : Nat → Bool} {Z : Nat → Int} {n : Nat} {r r' : Smp} (h : Tried a Z n r) (h' : Tried a Z n r') : r = r' := by
 rcases h with ⟨k, k1, k2, k3, rfl⟩ | ⟨k, k1, k2, k3, rfl⟩ <;> rcases h' with ⟨j, j1, j2, j3, rfl⟩ | ⟨j, j1, j2, j3, rfl⟩
 ·obtain rfl : k = j := by
   rcases Nat.lt_trichotomy k j with h | h | h
   ·rw [j3 k h] at k2; cases k2
   ·exact h
   ·rw [k3 j h] at j2; cases j2
  rfl
 ·have : k < j := by omega
  rw [j3 k this] at k2; cases k2
 ·have : j < k := by omega
  rw [k3 j this] at j2; cases j2
 ·obtain rfl : k = j := by omega
  rfl
namespace O7
variable (o : O7)
def accAt (mu inv scale : Int) (s : ByteArray) (k : Nat) : Bool := o.acc (zOf (baseN (num s (17 * k) 8)) (byt s (17 * k + 8))) (baseN (num s (17 * k) 8)) (o.above mu) (o.narrow inv) (o.shr scale) (num s (17 * k + 9) 8)
def zAt (mu : Int) (s : ByteArray) (k : Nat) : Int := wrap64 (zOf (baseN (num s (17 * k) 8)) (byt s (17 * k + 8)) + wrap64 (o.whole (o.rint mu)))
def SampIs (mu inv scale : Int) (s : ByteArray) (r : Smp) : Prop :=
 if s.size ≤ 20000 ∧ isC mu inv scale = true then Tried (o.accAt mu inv scale s) (o.zAt mu s) s.size r else r = ⟨1, 0, 0, 0⟩
theorem SampIs.one {o : O7} {mu inv scale : Int} {s : ByteArray} {r r' : Smp} (h : o.SampIs mu inv scale s r) (h' : o.SampIs mu inv scale s r') : r = r' := by
 unfold SampIs at h h'
 split at h
 ·rename_i c
  rw [if_pos c] at h'
  exact h.one h'
 ·rename_i c
  rw [if_neg c] at h'
  rw [h, h']
end O7
abbrev smpV (r : Smp) : Value := .agg #[.int .i64 r.st, .int .i64 r.z, .int .i64 r.us, .int .i64 r.tr]
set_option maxRecDepth 100000 in
theorem sample_no_s {o : O7} (H : o.S) (HI : o.In) {mu inv scale : Int} (hm : Wo mu) (hi : Wo inv) (hs : Wo scale) (s : ByteArray) (hz : s.size ≤ 1048576) (hn : ¬ (s.size ≤ 20000 ∧ isC mu inv scale = true)) (w : World) :
  Calls Tryz.prog 9 #[.int .u64 mu, .int .u64 inv, .int .u64 scale, .string s] w fun e w' => e = .returned (smpV ⟨1, 0, 0, 0⟩) ∧ Gb w w' := by
 obtain ⟨c1, s1, x1, g1, u1, U1⟩ := H.unp hm
 obtain ⟨c2, s2, x2, g2, u2, U2⟩ := H.unp hi
 obtain ⟨c3, s3, x3, g3, u3, U3⟩ := H.unp hs
 have e1 := b_mu hm u1
 have e2 := b_inv hi u2
 have e3 := b_sc hs u3
 have hf3 : ∀ w, (Instr.field 59 (.agg #[.int .i64 c3, .int .i64 s3, .int .i64 x3, .int .u64 g3]) 0).run Tryz.prog w = .ok (.int .i64 c3) w := fun w => by kernel_rfl
 have B1 : KB 30 #[.int .u64 mu, .int .i64 (-2199023255552), .int .i64 2199023255552] (.bool (decide (mu % 9223372036854775808 ≤ 4787326403894837248))) := between_s H HI hm _ _ _ _ (by omega) (by omega) (by omega) (by omega) H.k1 H.k2 U1 _ e1.symm
 have B2 : KB 30 #[.int .u64 inv, .int .i64 1, .int .i64 2] (.bool (decide (hfC ≤ inv) && decide (inv ≤ 4607182418800017408))) := between_s H HI hi _ _ _ _ (by omega) (by omega) (by omega) (by omega) H.k3 H.k4 U2 _ e2.symm
 obtain ⟨b3, hb3⟩ : ∃ b, (!decide (1 < c3) && (decide (0 ≤ ordF scale 0) && decide (ordF scale 4607182418800017408 ≤ 0))) = b := ⟨_, rfl⟩
 have B3 : KB 30 #[.int .u64 scale, .int .i64 0, .int .i64 2] (.bool b3) := between_s H HI hs _ _ _ _ (by omega) (by omega) (by omega) (by omega) H.k5 H.k4 U3 _ hb3.symm
 rw [hb3] at e3
 unfold isC at hn
 rw [← e3] at hn
 clear e1 e2 e3 hb3 u1 u2 u3 U1 U2 H HI
 generalize decide (mu % 9223372036854775808 ≤ 4787326403894837248) = b1 at *
 generalize (decide (hfC ≤ inv) && decide (inv ≤ 4607182418800017408)) = b2 at *
 rcases (show ((20000 : Int) < s.size ∨ (¬ (20000 : Int) < s.size ∧ b1 = false) ∨ (¬ (20000 : Int) < s.size ∧ b1 = true ∧ b2 = false) ∨ (¬ (20000 : Int) < s.size ∧ b1 = true ∧ b2 = true ∧ b3 = false) ∨ (¬ (20000 : Int) < s.size ∧ b1 = true ∧ b2 = true ∧ b3 = true ∧ c3 = 0)) by
  rcases (show (20000 : Int) < s.size ∨ ¬ (20000 : Int) < s.size by omega) with h | h
  ·exact .inl h
  ·refine .inr ?_
   have h' : s.size ≤ 20000 := by omega
   cases b1
   ·exact .inl ⟨h, rfl⟩
   ·cases b2
    ·exact .inr (.inl ⟨h, rfl, rfl⟩)
    ·cases b3
     ·exact .inr (.inr (.inl ⟨h, rfl, rfl, rfl⟩))
     ·refine .inr (.inr (.inr ⟨h, rfl, rfl, rfl, ?_⟩))
      by_cases hc : c3 = 0
      ·exact hc
      ·exact absurd ⟨h', by simp [hc]⟩ hn) with h | ⟨h, rfl⟩ | ⟨h, rfl, rfl⟩ | ⟨h, rfl, rfl, rfl⟩ | ⟨h, rfl, rfl, rfl, rfl⟩
 ·clear hn
  go_enter Tryz.func9, Tryz.ntmps9
  go_wp2
  go_returns
  exact ⟨rfl, kg⟩
 all_goals
  clear hn
  go_enter Tryz.func9, Tryz.ntmps9
  go_wp2_with (first
   | (go_at_call 30; first | (with_reducible refine (B1.out _).mono ?_; rintro e w1 ⟨rfl, hg_w1⟩; obtain ⟨pr0, prz0, pr1, prz1, pr2, prz2, pr3, prz3⟩ := hg_w1.y4 w.heap.size 0 1 2 3 (.int .i64 0) (.int .i64 0) (.int .i64 0) (.int .i64 0)) | (with_reducible refine (B2.out _).mono ?_; rintro e w2 ⟨rfl, hg_w2⟩; obtain ⟨pr0, prz0, pr1, prz1, pr2, prz2, pr3, prz3⟩ := hg_w2.y4 w.heap.size 0 1 2 3 (.int .i64 0) (.int .i64 0) (.int .i64 0) (.int .i64 0)) | (with_reducible refine (B3.out _).mono ?_; rintro e w3 ⟨rfl, hg_w3⟩; obtain ⟨pr0, prz0, pr1, prz1, pr2, prz2, pr3, prz3⟩ := hg_w3.y4 w.heap.size 0 1 2 3 (.int .i64 0) (.int .i64 0) (.int .i64 0) (.int .i64 0)))
   | (go_at_call 31; refine (U3.out _).mono ?_; rintro e w4 ⟨rfl, hg_w4⟩; obtain ⟨pr0, prz0, pr1, prz1, pr2, prz2, pr3, prz3⟩ := hg_w4.y4 w.heap.size 0 1 2 3 (.int .i64 0) (.int .i64 0) (.int .i64 0) (.int .i64 0)))
  refine bodyPost_ret (v := smpV ⟨1, 0, 0, 0⟩) (by simp [results, Tryz.results9, go_sem, pr0, pr1, pr2, pr3]) rfl ⟨rfl, ?_⟩
  exact kg
end Go.Proofs.YtnbbfeknbfohhaaGreatDoor
namespace Go.Proofs.YtnbbfeknbfohhaaGreatDoor
open Go.RowKit
theorem isC_parts {mu inv scale : Int} (h : isC mu inv scale = true) : decide (mu % 9223372036854775808 ≤ 4787326403894837248) = true ∧ (decide (hfC ≤ inv) && decide (inv ≤ 4607182418800017408)) = true ∧ (decide (0 < scale) && decide (scale ≤ 4607182418800017408)) = true := by
  unfold isC at h
  rw [Bool.and_eq_true, Bool.and_eq_true] at h
  exact ⟨h.1.1, h.1.2, h.2⟩
structure Mid (w : World) (b g : Nat) (u k : Int) : Prop where
  c0 : w.cell? ⟨g, 0, none⟩ = some (.int .i64 0)
  c1 : w.cell? ⟨g, 1, none⟩ = some (.int .i64 0)
  c2 : w.cell? ⟨g, 2, none⟩ = some (.int .i64 u)
  c3 : w.cell? ⟨g, 3, none⟩ = some (.int .i64 k)
  z0 : w.frozen? ⟨g, 0, none⟩ = false
  z1 : w.frozen? ⟨g, 1, none⟩ = false
  z2 : w.frozen? ⟨g, 2, none⟩ = false
  z3 : w.frozen? ⟨g, 3, none⟩ = false
  r0 : w.cell? ⟨b, 0, none⟩ = some (.int .i64 0)
  r1 : w.cell? ⟨b, 1, none⟩ = some (.int .i64 0)
  r2 : w.cell? ⟨b, 2, none⟩ = some (.int .i64 0)
  r3 : w.cell? ⟨b, 3, none⟩ = some (.int .i64 0)
  y0 : w.frozen? ⟨b, 0, none⟩ = false
  y1 : w.frozen? ⟨b, 1, none⟩ = false
  y2 : w.frozen? ⟨b, 2, none⟩ = false
  y3 : w.frozen? ⟨b, 3, none⟩ = false
theorem Mid.gb {w w' : World} {b g : Nat} {u k : Int} (h : Mid w b g u k) (hg : Gb w w') : Mid w' b g u k :=
  ⟨hg.old h.c0, hg.old h.c1, hg.old h.c2, hg.old h.c3, hg.fzc h.c0 h.z0, hg.fzc h.c1 h.z1, hg.fzc h.c2 h.z2, hg.fzc h.c3 h.z3, hg.old h.r0, hg.old h.r1, hg.old h.r2, hg.old h.r3, hg.fzc h.r0 h.y0, hg.fzc h.r1 h.y1, hg.fzc h.r2 h.y2, hg.fzc h.r3 h.y3⟩
theorem Mid.next {w : World} {b g : Nat} {u k : Int} (h : Mid w b g u k) (hb : g ≠ b) (u' k' : Int) : Mid ((w.setCell ⟨g, 2, none⟩ (.int .i64 u')).setCell ⟨g, 3, none⟩ (.int .i64 k')) b g u' k' :=
  ⟨cell_setOff (by decide) (cell_setOff (by decide) h.c0), cell_setOff (by decide) (cell_setOff (by decide) h.c1), cell_setOff (by decide) (cell_setSame (has_of h.c2)), cell_setSame (has_set (has_of h.c3)),
   fz_set (fz_set h.z0), fz_set (fz_set h.z1), fz_set (fz_set h.z2), fz_set (fz_set h.z3),
   cell_setNew hb (cell_setNew hb h.r0), cell_setNew hb (cell_setNew hb h.r1), cell_setNew hb (cell_setNew hb h.r2), cell_setNew hb (cell_setNew hb h.r3), fz_set (fz_set h.y0), fz_set (fz_set h.y1), fz_set (fz_set h.y2), fz_set (fz_set h.y3)⟩
structure Rs (w : World) (b : Nat) : Prop where
  r0 : w.cell? ⟨b, 0, none⟩ = some (.int .i64 0)
  r1 : w.cell? ⟨b, 1, none⟩ = some (.int .i64 0)
  r2 : w.cell? ⟨b, 2, none⟩ = some (.int .i64 0)
  r3 : w.cell? ⟨b, 3, none⟩ = some (.int .i64 0)
  y0 : w.frozen? ⟨b, 0, none⟩ = false
  y1 : w.frozen? ⟨b, 1, none⟩ = false
  y2 : w.frozen? ⟨b, 2, none⟩ = false
  y3 : w.frozen? ⟨b, 3, none⟩ = false
theorem Rs.gb {w w' : World} {b : Nat} (h : Rs w b) (hg : Gb w w') : Rs w' b :=
  ⟨hg.old h.r0, hg.old h.r1, hg.old h.r2, hg.old h.r3, hg.fzc h.r0 h.y0, hg.fzc h.r1 h.y1, hg.fzc h.r2 h.y2, hg.fzc h.r3 h.y3⟩
theorem rs_new (w : World) : Rs (w.alloc (.cells #[.int .i64 0, .int .i64 0, .int .i64 0, .int .i64 0] 24)) w.heap.size :=
  ⟨kb, kb, kb, kb, kb, kb, kb, kb⟩
theorem mid_new {w : World} {b : Nat} (h : Rs w b) (v : Int) : b < w.heap.size ∧ Mid (w.alloc (.cells #[.int .i64 0, .int .i64 0, .int .i64 0, .int .i64 0] 24)) b w.heap.size 0 0 := by
  obtain ⟨r0, r1, r2, r3, y0, y1, y2, y3⟩ := h
  exact ⟨cell_size r0, ⟨kb, kb, kb, kb, kb, kb, kb, kb, kb, kb, kb, kb, kb, kb, kb, kb⟩⟩
theorem fin4 {w : World} {b : Nat} (h : Rs w b) (v0 v1 v2 v3 : Value) : let w' := (((w.setCell ⟨b, 0, none⟩ v0).setCell ⟨b, 1, none⟩ v1).setCell ⟨b, 2, none⟩ v2).setCell ⟨b, 3, none⟩ v3
    w'.cell? ⟨b, 0, none⟩ = some v0 ∧ w'.cell? ⟨b, 1, none⟩ = some v1 ∧ w'.cell? ⟨b, 2, none⟩ = some v2 ∧ w'.cell? ⟨b, 3, none⟩ = some v3 :=
  ⟨cell_setOff (by decide) (cell_setOff (by decide) (cell_setOff (by decide) (cell_setSame (has_of h.r0)))), cell_setOff (by decide) (cell_setOff (by decide) (cell_setSame (has_set (has_of h.r1)))), cell_setOff (by decide) (cell_setSame (has_set (has_set (has_of h.r2)))), cell_setSame (has_set (has_set (has_set (has_of h.r3))))⟩
theorem Mid.rs {w : World} {b g : Nat} {u k : Int} (h : Mid w b g u k) (hb : g ≠ b) (o : Nat) (v : Value) : Rs (w.setCell ⟨g, o, none⟩ v) b :=
  ⟨cell_setNew hb h.r0, cell_setNew hb h.r1, cell_setNew hb h.r2, cell_setNew hb h.r3, fz_set h.y0, fz_set h.y1, fz_set h.y2, fz_set h.y3⟩
theorem gb_fin {w x : World} {b g : Nat} (h : Gb w x) (hb : w.heap.size ≤ b) (hg : w.heap.size ≤ g) (o : Nat) (v v0 v1 v2 v3 : Value) : Gb w (((((x.setCell ⟨g, o, none⟩ v).setCell ⟨b, 0, none⟩ v0).setCell ⟨b, 1, none⟩ v1).setCell ⟨b, 2, none⟩ v2).setCell ⟨b, 3, none⟩ v3) :=
  ((((h.setCell hg _).setCell hb _).setCell hb _).setCell hb _).setCell hb _
def usedOf (w : World) (g : Nat) : Nat := match w.cell? ⟨g, 2, none⟩ with
  | some (.int _ u) => u.toNat
  | _ => 0
set_option maxRecDepth 100000 in
theorem sample_yes_s {o : O7} (H : o.S) (HI : o.In) {mu inv scale : Int} (hm : Wo mu) (hi : Wo inv) (hs : Wo scale) (s : ByteArray) (hz : s.size ≤ 20000) (hn : isC mu inv scale = true) (w : World) :
    Calls Tryz.prog 9 #[.int .u64 mu, .int .u64 inv, .int .u64 scale, .string s] w fun e w' => ∃ r, Tried (o.accAt mu inv scale s) (o.zAt mu s) s.size r ∧ e = .returned (smpV r) ∧ Gb w w' := by
  have hf := res_f7
  obtain ⟨i1, i2, i3⟩ := isC_parts hn
  obtain ⟨c1, s1, x1, g1, u1, U1⟩ := H.unp hm
  obtain ⟨c2, s2, x2, g2, u2, U2⟩ := H.unp hi
  obtain ⟨c3, s3, x3, g3, u3, U3⟩ := H.unp hs
  have e1 := b_mu hm u1
  have e2 := b_inv hi u2
  have e3 := b_sc hs u3
  rw [i1] at e1
  rw [i2] at e2
  rw [i3, Bool.and_eq_true] at e3
  have hf3 : ∀ w, (Instr.field 59 (.agg #[.int .i64 c3, .int .i64 s3, .int .i64 x3, .int .u64 g3]) 0).run Tryz.prog w = .ok (.int .i64 c3) w := fun w => by kernel_rfl
  have B1 : KB 30 #[.int .u64 mu, .int .i64 (-2199023255552), .int .i64 2199023255552] (.bool true) := between_s H HI hm _ _ _ _ (by omega) (by omega) (by omega) (by omega) H.k1 H.k2 U1 _ e1.symm
  have B2 : KB 30 #[.int .u64 inv, .int .i64 1, .int .i64 2] (.bool true) := between_s H HI hi _ _ _ _ (by omega) (by omega) (by omega) (by omega) H.k3 H.k4 U2 _ e2.symm
  have B3 : KB 30 #[.int .u64 scale, .int .i64 0, .int .i64 2] (.bool true) := between_s H HI hs _ _ _ _ (by omega) (by omega) (by omega) (by omega) H.k5 H.k4 U3 _ e3.1.symm
  have hc3 : (c3 == 0) = false := by have := e3.2; simpa using this
  have hsz : ¬ (20000 : Int) < s.size := by omega
  have sc : 0 ≤ scale ∧ scale < 9223372036854775808 := by rw [Bool.and_eq_true, decide_eq_true_eq, decide_eq_true_eq] at i3; omega
  have HR : Hid (∀ w, Calls Tryz.prog 32 #[.int .i64 1, .int .i64 4, .int .u64 mu, .bool false] w fun e w' => ∃ fl : Int, e = .returned (.agg #[.int .u64 (o.rint mu), .int .i64 fl]) ∧ Gb w w') := H.rint.out mu hm
  have HA : KB 33 #[.int .u64 mu, .int .u64 (o.rint mu)] (.int .u64 (o.above mu)) := H.minus.out _ _ hm (HI.rint hm)
  have HM1 : KB 34 #[.int .u64 inv, .int .u64 inv] (.int .u64 (o.mul inv inv)) := H.times.out _ _ hi hi
  have HM2 : KB 34 #[.int .u64 (o.mul inv inv), .int .u64 hfC] (.int .u64 (o.narrow inv)) := H.times.out _ _ (HI.mul hi hi) (Wo.c _)
  have HH := H.half
  have hr := HI.sub hm (HI.rint hm)
  have hh := HI.mul (HI.mul hi hi) (Wo.c hfC)
  have HT : Hid (∀ w, Calls Tryz.prog 39 #[.int .i64 1, .int .i64 0, .int .i64 1, .int .u64 (o.rint mu)] w fun e w' => ∃ fl : Int, e = .returned (.agg #[.int .u64 (o.whole (o.rint mu)), .int .i64 fl]) ∧ Gb w w') := H.whole.out _ (HI.rint hm)
  have HX : Hid (∀ k, 17 * k + 17 ≤ s.size → ∀ w, Calls Tryz.prog 38 #[.int .i64 (zOf (baseN (num s (17 * k) 8)) (byt s (17 * k + 8))), .int .i64 (baseN (num s (17 * k) 8) : Nat), .int .u64 (o.above mu), .int .u64 (o.narrow inv), .int .u64 scale, .int .u64 (num s (17 * k + 9) 8)] w fun e w' => e = .returned (.bool (o.accAt mu inv scale s k)) ∧ Gb w w') := fun k hk w => by
    have n := baseN_le (num s (17 * k) 8)
    have zz := zOf_in _ (byt s (17 * k + 8)) n
    exact accepts_s H HI _ _ n zz.1 zz.2 hr hh sc.1 sc.2 (num_8 s _) w
  have HZ : Hid (∀ k, o.zAt mu s k = wrap64 (zOf (baseN (num s (17 * k) 8)) (byt s (17 * k + 8)) + wrap64 (o.whole (o.rint mu)))) := fun k => rfl
  generalize o.whole (o.rint mu) = T at *
  generalize o.accAt mu inv scale s = acc at *
  generalize o.zAt mu s = zz at *
  generalize o.narrow inv = h at *
  generalize o.above mu = r at *
  generalize o.mul inv inv = ii at *
  generalize o.rint mu = rm at *
  clear H HI hn i1 i2 i3 u1 u2 u3 U1 U2 e1 e2 e3 hm hi hs sc hr hh
  go_enter Tryz.func9, Tryz.ntmps9
  go_upto_region 4 with (first
      | (go_at_call 30; first | (with_reducible refine (B1.out _).mono ?_; rintro e w1 ⟨rfl, hg_w1⟩) | (with_reducible refine (B2.out _).mono ?_; rintro e w2 ⟨rfl, hg_w2⟩) | (with_reducible refine (B3.out _).mono ?_; rintro e w3 ⟨rfl, hg_w3⟩))
      | (go_at_call 31; refine (U3.out _).mono ?_; rintro e w4 ⟨rfl, hg_w4⟩))
  have G4 : Hid (Gb (w.alloc (.cells #[.int .i64 0, .int .i64 0, .int .i64 0, .int .i64 0] 24)) w4) := (show Gb _ w4 from kg)
  clear hg_w1 hg_w2 hg_w3 hg_w4
  go_upto_region 5 with (go_at_call 32; refine (HR.out _).mono ?_; rintro e w5 ⟨f5, rfl, hg_w5⟩)
  go_upto_region 6 with (go_at_call 33; refine (HA.out _).mono ?_; rintro e w6 ⟨rfl, hg_w6⟩)
  go_upto_region 7 with (first
      | (go_at_call 34; first | (with_reducible refine (HM1.out _).mono ?_; rintro e w7 ⟨rfl, hg_w7⟩) | (with_reducible refine (HM2.out _).mono ?_; rintro e w9 ⟨rfl, hg_w9⟩))
      | (go_at_call 35; refine (HH.out _).mono ?_; rintro e w8 ⟨rfl, hg_w8⟩))
  have G9 : Hid (Gb (w.alloc (.cells #[.int .i64 0, .int .i64 0, .int .i64 0, .int .i64 0] 24)) w9) := (show Gb _ w9 from by have := G4.out; exact kg)
  clear hg_w5 hg_w6 hg_w7 hg_w8 hg_w9
  go_wp2
  clear HA HM1 HM2 HH HR B1 B2 B3 U3 hf3
  obtain ⟨hbg, hM0⟩ := mid_new ((rs_new w).gb G9.out) 0
  have HM0 : Hid _ := hM0
  have G0 : Hid (Gb w w9) := (show Gb w w9 from by have := G9.out; exact kg)
  clear hM0 G4 G9
  obtain ⟨g, hg⟩ : ∃ g, w9.heap.size = g := ⟨_, rfl⟩
  rw [hg] at hbg HM0 ⊢
  have hgb : g ≠ w.heap.size := by omega
  obtain ⟨b, hwb⟩ : ∃ b, w.heap.size = b := ⟨_, rfl⟩
  rw [hwb] at hbg HM0 hgb ⊢
  go_loopw [14] (fun _ wr => ∃ k : Nat, 17 * k ≤ s.size ∧ (∀ j, j < k → acc j = false) ∧ Mid wr b g (17 * (k : Int)) k ∧ Gb w9 wr) (fun _ wr => s.size + 17 - usedOf wr g)
  case atStart => exact ⟨0, by omega, fun j hj => absurd hj (by omega), HM0.out, kg⟩
  case round =>
    obtain ⟨k, hk, ha, hM, hG⟩ := hrel
    rename_i wr
    have HA : Hid (∀ j, j < k → acc j = false) := ha
    have HG : Hid (Gb w9 wr) := hG
    obtain ⟨u, hu⟩ : ∃ u : Int, 17 * (k : Int) = u := ⟨_, rfl⟩
    rw [hu] at hM
    have HM : Hid (Mid wr b g u k) := hM
    have p2 := hM.c2
    have HU : Hid (usedOf wr g = u.toNat) := by show _ = _; simp only [usedOf, p2]
    clear ha hG HM0
    by_cases hle : u + 17 ≤ (s.size : Int)
    · have hn := baseN_le (num s (17 * k) 8)
      have hnum := num_8 s (17 * k)
      have D1 : KW 37 #[.string s, .int .i64 u] (.int .u64 (num s (17 * k) 8)) := fun w => by rw [← hu]; exact draw_s s (17 * k) (by omega) (by omega) w
      have D2 : KW 37 #[.string s, .int .i64 (u + 9)] (.int .u64 (num s (17 * k + 9) 8)) := fun w => by rw [← hu]; exact draw_s s (17 * k + 9) (by omega) (by omega) w
      have HB : KR 36 #[.int .u64 (num s (17 * k) 8)] (.int .i64 (baseN (num s (17 * k) 8) : Nat)) := base_s _ hnum.1 hnum.2
      have q : ∀ w, (Instr.index 9 (.string s) (.int .i64 (u + 8))).run Tryz.prog w = .ok (.int .u8 (byt s (17 * k + 8))) w := fun w => by rw [← hu]; exact index_s s (17 * k + 8) (by omega) w
      have hby := byt_in s (17 * k + 8)
      have HXk := HX.out k (by omega)
      have HZk := HZ.out k
      have hzd : zOf (baseN (num s (17 * k) 8)) (byt s (17 * k + 8)) = if byt s (17 * k + 8) % 2 = 1 then ((baseN (num s (17 * k) 8) : Nat) : Int) + 1 else -((baseN (num s (17 * k) 8) : Nat) : Int) := rfl
      generalize baseN (num s (17 * k) 8) = n at *
      generalize num s (17 * k) 8 = uu at *
      generalize num s (17 * k + 9) 8 = vv at *
      generalize byt s (17 * k + 8) = cc at *
      obtain ⟨zv, hzv⟩ : ∃ zv, zOf n cc = zv := ⟨_, rfl⟩
      rw [hzv] at hzd HXk HZk
      have HXX : Hid _ := HXk
      have HZZ : Hid _ := HZk
      have HN : Hid (17 * (k + 1) ≤ s.size) := (show _ ≤ _ by omega)
      clear HXk HZk HX HZ hzv hnum
      rcases (show (cc % 2 = 1 ∧ zv = (n : Int) + 1) ∨ (cc % 2 = 0 ∧ zv = -(n : Int)) by
        by_cases h : cc % 2 = 1
        · exact .inl ⟨h, by rw [hzd, if_pos h]⟩
        · exact .inr ⟨by omega, by rw [hzd, if_neg h]⟩) with ⟨hc2, rfl⟩ | ⟨hc2, rfl⟩
      all_goals
        clear hzd hM
        go_upto_region 10 with (first
          | (go_at_call 37; refine (D1.out _).mono ?_; rintro e w' ⟨rfl, hw⟩; subst hw)
          | (go_at_call 36; refine (HB.out _).mono ?_; rintro e wa ⟨rfl, hg_wa⟩))
        have HMa : Hid (Mid wa b g u k) := HM.out.gb hg_wa.gb
        have HGa : Hid (Gb w9 wa) := HG.out.trans hg_wa.gb
        have pa2 := HMa.out.c2
        have pa3 := HMa.out.c3
        have za2 := HMa.out.z2
        have za3 := HMa.out.z3
        clear p2 HM HG hg_wa
        go_upto_region 14 with (go_at_call 37; refine (D2.out _).mono ?_; rintro e w' ⟨rfl, hw⟩; subst hw)
        cases hacc : acc k
        · rw [hacc] at HXX
          go_wp2_with (go_at_call 38; refine (HXX.out _).mono ?_; rintro e wb ⟨rfl, hg_wb⟩)
          have hMb := (HMa.out.next hgb (u + 17) ((k : Int) + 1)).gb hg_wb
          go_roundw
          case rel =>
            refine ⟨k + 1, HN.out, fun j hj => ?_, by rw [show 17 * ((k + 1 : Nat) : Int) = u + 17 by omega]; exact hMb, by have := HGa.out; exact kg⟩
            rcases Nat.lt_or_ge j k with h | h
            · exact HA.out j h
            · obtain rfl : j = k := by omega
              exact hacc
          case measure =>
            have h1 := HU.out
            have p2 := hMb.c2
            have h2 : usedOf wb g = (u + 17).toNat := by simp only [usedOf, p2]
            show s.size + 17 - usedOf wb g < s.size + 17 - usedOf wr g
            omega
        · rw [hacc] at HXX
          go_upto_region 17 with (go_at_call 38; refine (HXX.out _).mono ?_; rintro e wb ⟨rfl, hg_wb⟩)
          have HMb : Hid (Mid wb b g (u + 17) ((k : Int) + 1)) := (HMa.out.next hgb (u + 17) ((k : Int) + 1)).gb hg_wb
          have HGb : Hid (Gb w9 wb) := (show Gb w9 wb from by have := HGa.out; exact kg)
          clear HMa HGa pa2 pa3 za2 za3 hg_wb
          go_upto_region 18 with (go_at_call 39; refine (HT.out _).mono ?_; rintro e wc ⟨f6, rfl, hg_wc⟩; have HMc : Hid (Mid wc b g (u + 17) ((k : Int) + 1)) := HMb.out.gb hg_wc; obtain ⟨p0, p1, p2, p3, pz0, pz1, pz2, pz3, r0, r1, r2, r3, rz0, rz1, rz2, rz3⟩ := HMc.out)
          clear HMb HT HU HXX HB D1 D2 q
          go_wp2
          have hw : zz k = wrap64 (_ + wrap64 T) := HZZ.out
          rw [← hw]
          obtain ⟨e0, e1, e2, e3⟩ := fin4 (HMc.out.rs hgb 1 (.int .i64 (zz k))) (.int .i64 0) (.int .i64 (zz k)) (.int .i64 (u + 17)) (.int .i64 ((k : Int) + 1))
          refine bodyPost_ret (v := smpV ⟨0, zz k, u + 17, (k : Int) + 1⟩) (by simp [results, Tryz.results9, go_sem, e0, e1, e2, e3]) rfl ⟨_, .inl ⟨k, by have := HN.out; omega, hacc, HA.out, by rw [← hu]⟩, rfl, ?_⟩
          exact gb_fin (G0.out.trans (HGb.out.trans hg_wc)) (by omega) (by omega) _ _ _ _ _ _
    · have HN : Hid (s.size < 17 * k + 17) := (show _ < _ by omega)
      clear HX HZ HT
      obtain ⟨p0, p1, p2, p3, pz0, pz1, pz2, pz3, r0, r1, r2, r3, rz0, rz1, rz2, rz3⟩ := hM
      go_wp2
      obtain ⟨e0, e1, e2, e3⟩ := fin4 (HM.out.rs hgb 0 (.int .i64 2)) (.int .i64 2) (.int .i64 0) (.int .i64 u) (.int .i64 k)
      refine bodyPost_ret (v := smpV ⟨2, 0, u, (k : Int)⟩) (by simp [results, Tryz.results9, go_sem, e0, e1, e2, e3]) rfl ⟨_, .inr ⟨k, HN.out, hk, HA.out, by rw [← hu]⟩, rfl, ?_⟩
      exact gb_fin (G0.out.trans HG.out) (by omega) (by omega) _ _ _ _ _ _
end Go.Proofs.YtnbbfeknbfohhaaGreatDoor
