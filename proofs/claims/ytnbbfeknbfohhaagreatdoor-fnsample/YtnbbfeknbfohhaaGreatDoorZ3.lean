import Derived.Test.YtnbbfeknbfohhaaGreatDoorZ1
import Derived.Test.YtnbbfeknbfohhaaGreatDoorZ2
import Derived.Test.YtnbbfeknbfohhaaGreatDoorXX
import Derived.Test.YtnbbfeknbfohhaaGreatDoorY2
import Derived.Test.YtnbbfeknbfohhaaGreatDoorY3
import Derived.Laws.StructEq
set_option linter.unusedVariables false
set_option linter.unusedSimpArgs false
set_option maxHeartbeats 40000000
namespace Go.Proofs.YtnbbfeknbfohhaaGreatDoor
open Go.RowKit
set_option maxRecDepth 100000 in
theorem arguments_any (a : Option Addr) (len cap : Nat) (w : World) (hC : CodeRow w a len) :
  Calls Tryz.prog 77 #[.slice a len cap] w fun e w' => ∃ (mu inv sc : Int) (t : ByteArray), Wo mu ∧ Wo inv ∧ Wo sc ∧ t.size ≤ 30000 ∧ e = .returned (.tuple #[.int .u64 mu, .int .u64 inv, .int .u64 sc, .string t]) ∧ Gb w w' := by
 have hf := res_f7
 have HC : Hid (∀ w', Gb w w' → CodeRow w' a len) := fun w' g => hC.g7 g
 have HT0 : Hid (Calls Tryz.prog 48 #[.slice a len cap, .int .i64 0, .int .i64 24] w fun e w' => ∃ x : Int, 0 ≤ x ∧ x < 24 ∧ e = .returned (.tuple #[.int .i64 x, .int .i64 1]) ∧ w = w') := (take_any a len cap 0 24 w hC (by omega) (by omega) (by omega)).mono fun e w' ⟨x, h1, h2, h3, h4⟩ => ⟨x, h1, h2, h3, h4⟩
 have HW : Hid (∀ n, -9223372036854775808 ≤ n → n ≤ 9223372036854775807 → ∀ w, Calls Tryz.prog 109 #[.int .i64 n] w fun e w' => ∃ z, Wo z ∧ e = .returned (.int .u64 z) ∧ Gb w w') := fun n n0 n1 w => (word_7 n n0 n1 w).mono fun e w' ⟨h1, h2⟩ => ⟨_, o7_in.int n, h1, h2⟩
 have HM : Hid (∀ x y, Wo x → Wo y → ∀ w, Calls Tryz.prog 34 #[.int .u64 x, .int .u64 y] w fun e w' => ∃ z, Wo z ∧ e = .returned (.int .u64 z) ∧ Gb w w') := fun x y hx hy w => (times_7 hx hy w).mono fun e w' ⟨h1, h2⟩ => ⟨_, o7_in.mul hx hy, h1, h2⟩
 have HD : Hid (∀ x y, Wo x → Wo y → ∀ w, Calls Tryz.prog 91 #[.int .i64 1, .int .i64 0, .int .u64 x, .int .u64 y] w fun e w' => ∃ z fl, Wo z ∧ e = .returned (.agg #[.int .u64 z, .int .i64 fl]) ∧ Gb w w') := fun x y hx hy w => (div_all f647 x y hx.1 (by have := hx.2; omega) hy.1 (by have := hy.2; omega) w).mono fun e w' ⟨z, fl, h1, h2, h3⟩ => ⟨z, fl, ⟨h1.1, by have := h1.2; omega⟩, h2, h3⟩
 have HF : Hid (∀ x, Wo x → ∀ w, Calls Tryz.prog 19 #[.int .i64 1, .int .i64 0, .int .i64 1, .int .u64 x] w fun e w' => ∃ z fl, Wo z ∧ e = .returned (.agg #[.int .u64 z, .int .i64 fl]) ∧ Gb w w') := fun x hx w => (specFromInt_any 1 0 1 x hx.1 hx.2 w).mono fun e w' ⟨z, fl, h1, h2, h3⟩ => ⟨z, fl, from_7 h1, h2, h3⟩
 have HH : Hid _ := half_7
 have HN : KW 113 #[.int .i64 1] (.int .u64 9221120237041090560) := fun w => l2Nan_any f647 w
 have hh : Wo hfC := Wo.c _
 clear hC
 go_enter Tryz.func77, Tryz.ntmps77
 go_upto_region 2 with (go_at_call 48; refine HT0.out.mono ?_; rintro e w' ⟨how, how0, how1, rfl, hw⟩; subst hw)
 go_upto_region 3 with (go_at_call 163; refine (bitsN_any a len cap 1 44 (by omega) _ (HC.out _ (Gb.refl _)) (by omega)).mono ?_; rintro e w' ⟨mm, k1, m0, m1, hk1, rfl, hw⟩; subst hw)
 go_upto_region 4 with (go_at_call 48; refine (take_any a len cap k1 250 _ (HC.out _ (Gb.refl _)) (by omega) (by omega) (by omega)).mono ?_; rintro e w' ⟨xa, a0, a1, rfl, hw⟩; subst hw)
 go_upto_region 5 with (go_at_call 48; refine (take_any a len cap (k1 + 1) 250 _ (HC.out _ (Gb.refl _)) (by omega) (by omega) (by omega)).mono ?_; rintro e w' ⟨xb, b0, b1, rfl, hw⟩; subst hw)
 go_upto_region 6 with (go_at_call 164; refine (drawDraws_any a len cap (k1 + 1 + 1) _ (HC.out _ (Gb.refl _)) (by omega)).mono ?_; rintro e w1 ⟨t, k2, ht, hk2, rfl, hg_w1⟩)
 go_upto_region 7 with (go_at_call 48; refine (take_any a len cap k2 4 _ (HC.out _ hg_w1) (by omega) (by omega) (by omega)).mono ?_; rintro e w' ⟨c, c0, c1, rfl, hw⟩; subst hw)
 have hmm : Wo mm := ⟨m0, m1⟩
 go_upto_region 8 with (first
  | (go_at_call 19; refine (HF.out _ hmm _).mono ?_; rintro e w2 ⟨zf, ff, hzf, rfl, hg_w2⟩)
  | (go_at_call 109; refine (HW.out _ (by omega) (by omega) _).mono ?_; rintro e w3 ⟨zw, hzw, rfl, hg_w3⟩)
  | (go_at_call 91; refine (HD.out _ _ (by assumption) (by assumption) _).mono ?_; rintro e w4 ⟨mu, fd, hmu, rfl, hg_w4⟩))
 go_upto_region 9 with (first
  | (go_at_call 19; refine (HF.out _ hmm _).mono ?_; rintro e w2 ⟨zf, ff, hzf, rfl, hg_w2⟩)
  | (go_at_call 109; refine (HW.out _ (by omega) (by omega) _).mono ?_; rintro e w3 ⟨zw, hzw, rfl, hg_w3⟩)
  | (go_at_call 91; refine (HD.out _ _ (by assumption) (by assumption) _).mono ?_; rintro e w4 ⟨inv, fd, hinv, rfl, hg_w4⟩))
 go_upto_region 10 with (first
  | (go_at_call 19; refine (HF.out _ hmm _).mono ?_; rintro e w2 ⟨zf, ff, hzf, rfl, hg_w2⟩)
  | (go_at_call 109; refine (HW.out _ (by omega) (by omega) _).mono ?_; rintro e w3 ⟨zw, hzw, rfl, hg_w3⟩)
  | (go_at_call 91; refine (HD.out _ _ (by assumption) (by assumption) _).mono ?_; rintro e w4 ⟨sc, fd, hsc, rfl, hg_w4⟩))
 rcases (show how = 18 ∨ how = 19 ∨ how = 20 ∨ how = 21 ∨ how = 22 ∨ how = 23 ∨ ((how == 18) = false ∧ (how == 19) = false ∧ (how == 20) = false ∧ (how == 21) = false ∧ (how == 22) = false ∧ (how == 23) = false) by simp; omega) with rfl | rfl | rfl | rfl | rfl | rfl | ⟨e1, e2, e3, e4, e5, e6⟩
 ·go_wp2_with (first
   | (go_at_call 109; refine (HW.out _ (by omega) (by omega) _).mono ?_; rintro e w3 ⟨zw, hzw, rfl, hg_w3⟩)
   | (go_at_call 34; refine (HM.out _ _ (by assumption) (by assumption) _).mono ?_; rintro e w4 ⟨zt, hzt, rfl, hg_w4⟩))
  go_returns
  exact ⟨_, _, _, t, by assumption, by assumption, by assumption, by omega, rfl, kg⟩
 ·go_wp2_with (first
   | (go_at_call 35; refine (HH.out _).mono ?_; rintro e w2 ⟨rfl, hg_w2⟩)
   | (go_at_call 109; refine (HW.out _ (by omega) (by omega) _).mono ?_; rintro e w3 ⟨zw, hzw, rfl, hg_w3⟩)
   | (go_at_call 34; refine (HM.out _ _ (by assumption) (by assumption) _).mono ?_; rintro e w4 ⟨zt, hzt, rfl, hg_w4⟩))
  go_returns
  exact ⟨_, _, _, t, by assumption, by assumption, by assumption, by omega, rfl, kg⟩
 ·go_wp2_with (go_at_call 109; refine (HW.out _ (by omega) (by omega) _).mono ?_; rintro e w3 ⟨zw, hzw, rfl, hg_w3⟩)
  go_returns
  exact ⟨_, _, _, t, by assumption, by assumption, by assumption, by omega, rfl, kg⟩
 ·go_wp2_with (go_at_call 113; refine (HN.out _).mono ?_; rintro e w' ⟨rfl, hw⟩; subst hw)
  go_returns
  exact ⟨_, _, _, t, Wo.c _, by assumption, by assumption, by omega, rfl, kg⟩
 ·have HCr : Hid (CodeRow w4 a len) := HC.out _ (show Gb w w4 from kg)
  go_wp2_with (go_at_call 165; refine (drawWord_any f647 a len cap k2 _ HCr.out (by omega)).mono ?_; rintro e w' ⟨v, j, v0, v1, hj, rfl, hw⟩; subst hw)
  go_returns
  exact ⟨_, v, _, t, by assumption, ⟨v0, v1⟩, by assumption, by omega, rfl, kg⟩
 ·have G4 : Hid (Gb w w4) := (show Gb w w4 from kg)
  clear hg_w4
  go_wp2
  go_loopw [23, 24] (fun s23 s24 wr => ∃ (i : Nat) (out : Value), out = s23 ∧ (i : Int) ≤ 20000 + c / 2 ∧ s24 = .int .i64 i ∧ Bs wr w4.heap.size out i ∧ Gb w4 wr) (fun _ i _ => (20002 - intOf i).toNat)
  case atStart => exact ⟨0, _, rfl, by omega, rfl, ⟨fun _ => 0, fun _ => ⟨Int.le_refl 0, show (0 : Int) ≤ 255 by decide⟩, Ow.lit _ _ _ _ _⟩, kg⟩
  case round =>
   obtain ⟨i, out, rfl, hi, rfl, hB, hG⟩ := hrel
   by_cases hlt : (i : Int) < 20000 + c / 2
   ·obtain ⟨g, hgb, hOg, hgx⟩ := hB.put 255 (by decide)
    have HO : Hid (∀ w2, Gb wr w2 → Ow w2 w4.heap.size 5 1 .u8 out i g) := fun w2 hg => hOg.gb hg
    have HX : Hid (g (i * 1 + 0) = 255) := hgx
    have HGg : Hid (∀ j, 0 ≤ g j ∧ g j ≤ 255) := hgb
    have hsz := hG.size
    clear hB hOg hgx hgb
    go_wp2_with (at_builtin; refine wpList_more rfl _ _ 28 rfl 5 (.int .u8 0) 1 1 .u8 Tryz.underlying28 infoB rfl (by decide) (by decide) w4.heap.size i 1 g _ wr.heap.size rfl (HO.out _ kg) rfl (cells1b (by simp [go_sem]) HX.out) (by omega) (by omega) (by rw [World.size_alloc]; omega) ?_; intro v' w3 hown3 hb3 _ _)
    go_roundw
    case rel => exact ⟨i + 1, _, rfl, by omega, by go_num, ⟨g, HGg.out, hown3⟩, Gb.below kg hb3 (Nat.le_refl _)⟩
    case measure => simp [intOf]; omega
   ·obtain ⟨t2, ht2, hq⟩ := hB.text
    have HQ : Hid _ := hq
    have HG : Hid (Gb w wr) := G4.out.trans hG
    have hG' := hG
    have ht3 : t2.size ≤ 30000 := by omega
    clear hq hB ht2
    go_upto_region 27 with fail
    go_region_held3 (fun w' => Gb wr w' ∧ (convert 28 9 out).run Tryz.prog w' = .ok (.string t2) w')
     (exact ⟨kg, HQ.out _ kg⟩)
     (fail)
    all_goals (try go_split_ands)
    all_goals go_wp2
    all_goals refine bodyPost_ret (v := .tuple #[.int .u64 mu, .int .u64 inv, .int .u64 sc, .string t2]) (by simp [results, Tryz.results77, go_sem]) rfl ⟨mu, hmu, inv, hinv, sc, hsc, t2, ht3, rfl, (show Gb w _ from by have := HG.out; exact kg)⟩
 ·go_wp2
  go_returns
  exact ⟨_, _, _, t, by assumption, by assumption, by assumption, by omega, rfl, kg⟩
theorem drawSample_any (a : Option Addr) (len cap : Nat) (w : World) (hC : CodeRow w a len) :
  Calls Tryz.prog 24 #[.slice a len cap] w fun e w' => ∃ (mu inv sc : Int) (t : ByteArray), Wo mu ∧ Wo inv ∧ Wo sc ∧ t.size ≤ 30000 ∧ e = .returned (.tuple #[.int .u64 mu, .int .u64 inv, .int .u64 sc, .string t]) ∧ Gb w w' := by
 have HC : Hid (CodeRow w a len) := hC
 clear hC
 go_enter Tryz.func24, Tryz.ntmps24
 go_wp2_with (go_at_call 77; refine (arguments_any a len cap _ HC.out).mono ?_; rintro e w1 ⟨mu, inv, sc, t, h1, h2, h3, h4, rfl, hg⟩)
 go_returns
 exact ⟨mu, inv, sc, t, h1, h2, h3, h4, rfl, hg⟩
end Go.Proofs.YtnbbfeknbfohhaaGreatDoor
namespace Go.Proofs.YtnbbfeknbfohhaaGreatDoor
open Go.RowKit
theorem acc_same {o : O7} {mu inv sc : Int} {s s' : ByteArray} {k : Nat} (h : ∀ i, i < 17 * k + 17 → byt s i = byt s' i) : o.accAt mu inv sc s k = o.accAt mu inv sc s' k ∧ o.zAt mu s k = o.zAt mu s' k := by
 have h1 : num s (17 * k) 8 = num s' (17 * k) 8 := num_congr 8 fun i hi => h _ (by omega)
 have h2 : num s (17 * k + 9) 8 = num s' (17 * k + 9) 8 := num_congr 8 fun i hi => h _ (by omega)
 have h3 := h (17 * k + 8) (by omega)
 unfold O7.accAt O7.zAt
 rw [h1, h2, h3]
 exact ⟨rfl, rfl⟩
theorem byt_pre (s : ByteArray) (n i : Nat) (hn : n ≤ s.size) (hi : i < n) : byt (s.extract 0 n) i = byt s i := by
 rw [byt_cut _ _ _ _ hn, Nat.zero_add, if_pos hi]
theorem byt_app (s t : ByteArray) (i : Nat) (hi : i < s.size) : byt (s ++ t) i = byt s i := by
 unfold byt
 rw [dif_pos hi, dif_pos (by rw [ByteArray.size_append]; omega), ByteArray.getElem_append_left hi]
theorem samp_cases {o : O7} {mu inv sc : Int} {t : ByteArray} {r : Smp} (h : o.SampIs mu inv sc t r) :
  r = ⟨1, 0, 0, 0⟩ ∨
  (∃ (k : Nat) (z : Int), r = ⟨0, z, 17 * (k : Int) + 17, (k : Int) + 1⟩ ∧ 17 * k + 17 ≤ t.size ∧ t.size ≤ 20000 ∧ o.SampIs mu inv sc (t.extract 0 (17 * k + 17)) r ∧ o.SampIs mu inv sc (t.extract 0 (17 * k + 16)) ⟨2, 0, 17 * (k : Int), k⟩ ∧ ∀ u : ByteArray, u.size = 3 → o.SampIs mu inv sc (t.extract 0 (17 * k + 17) ++ u) r) ∨
  ∃ k : Nat, r = ⟨2, 0, 17 * (k : Int), k⟩ ∧ 17 * k ≤ t.size ∧ t.size ≤ 20000 ∧ o.SampIs mu inv sc (t.extract 0 (17 * k)) r := by
 unfold O7.SampIs at h
 split at h
 ·rename_i c
  have hz := c.1
  have mk : ∀ (s : ByteArray) (r : Smp), s.size ≤ 20000 → Tried (o.accAt mu inv sc s) (o.zAt mu s) s.size r → o.SampIs mu inv sc s r := fun s r hs hr => by
   unfold O7.SampIs
   rw [if_pos ⟨hs, c.2⟩]
   exact hr
  have hsz : ∀ n, n ≤ t.size → (t.extract 0 n).size = n := fun n hn => by rw [ByteArray.size_extract]; omega
  rcases h with ⟨k, k1, k2, k3, rfl⟩ | ⟨k, k1, k2, k3, rfl⟩
  ·have a17 : ∀ j, j ≤ k → o.accAt mu inv sc (t.extract 0 (17 * k + 17)) j = o.accAt mu inv sc t j ∧ o.zAt mu (t.extract 0 (17 * k + 17)) j = o.zAt mu t j := fun j hj => acc_same fun i hi => byt_pre t _ i k1 (by omega)
   refine .inr (.inl ⟨k, o.zAt mu t k, rfl, k1, hz, ?_, ?_, fun u hu => ?_⟩)
   ·refine mk _ _ (by rw [hsz _ k1]; omega) (.inl ⟨k, by rw [hsz _ k1]; omega, by rw [(a17 k (Nat.le_refl _)).1]; exact k2, fun j hj => by rw [(a17 j (by omega)).1]; exact k3 j hj, by rw [(a17 k (Nat.le_refl _)).2]⟩)
   ·refine mk _ _ (by rw [hsz _ (by omega)]; omega) (.inr ⟨k, by rw [hsz _ (by omega)]; omega, by rw [hsz _ (by omega)]; omega, fun j hj => ?_, rfl⟩)
    rw [(acc_same (s := t.extract 0 (17 * k + 16)) (s' := t) fun i hi => byt_pre t _ i (by omega) (by omega)).1]
    exact k3 j hj
   ·have hs2 : (t.extract 0 (17 * k + 17) ++ u).size = 17 * k + 20 := by rw [ByteArray.size_append, hsz _ k1, hu]
    have b17 : ∀ j, j ≤ k → o.accAt mu inv sc (t.extract 0 (17 * k + 17) ++ u) j = o.accAt mu inv sc t j ∧ o.zAt mu (t.extract 0 (17 * k + 17) ++ u) j = o.zAt mu t j := fun j hj => acc_same fun i hi => by
     rw [byt_app _ _ _ (by rw [hsz _ k1]; omega)]
     exact byt_pre t _ i k1 (by omega)
    refine mk _ _ (by omega) (.inl ⟨k, by omega, by rw [(b17 k (Nat.le_refl _)).1]; exact k2, fun j hj => by rw [(b17 j (by omega)).1]; exact k3 j hj, by rw [(b17 k (Nat.le_refl _)).2]⟩)
  ·refine .inr (.inr ⟨k, rfl, k2, hz, ?_⟩)
   refine mk _ _ (by rw [hsz _ k2]; omega) (.inr ⟨k, by rw [hsz _ k2]; omega, by rw [hsz _ k2]; omega, fun j hj => ?_, rfl⟩)
   rw [(acc_same (s := t.extract 0 (17 * k)) (s' := t) fun i hi => byt_pre t _ i k2 (by omega)).1]
   exact k3 j hj
 ·exact .inl h
end Go.Proofs.YtnbbfeknbfohhaaGreatDoor
namespace Go.Proofs.YtnbbfeknbfohhaaGreatDoor
open Go.RowKit
theorem eqDr (p q u k : Int) (w : World) : (Op.equalIn 10000 24 (.agg #[.int .i64 p, .int .i64 q, .int .i64 u, .int .i64 k]) (.agg #[.int .i64 p, .int .i64 q, .int .i64 u, .int .i64 k])).run Tryz.prog w = .ok true w := by
 have u4 := Tryz.underlying3
 have a4 := Tryz.isAgg3
 have z4 := Tryz.sizeOf3
 have hS : Tryz.prog.underlying 24 = some (.struct (Tryz.prog.fieldsOf 24)) := by kernel_rfl
 rw [show (10000 : Nat) = 9999 + 1 from rfl, run_equalIn_agg w 9999 24 _ _ hS (by kernel_rfl)]
 simp only [Program.fieldsOf, Tryz.underlying24]
 go_simp
theorem pick_any (a : Option Addr) (len cap i : Nat) (hi : i ≤ 2) (w : World) (hC : CodeRow w a len) :
  Calls Tryz.prog 25 #[.slice a len cap, .int .i64 i] w fun e w' => ∃ z : Int, 0 ≤ z ∧ z ≤ 255 ∧ e = .returned (.int .i64 z) ∧ w = w' := by
 have hf := hC.few
 rcases (show len = 0 ∨ 0 < len by omega) with rfl | hl
 ·clear hC
  go_enter Tryz.func25, Tryz.ntmps25
  go_wp2
  go_returns
  exact ⟨_, by omega, by omega, rfl, rfl⟩
 ·rcases hC.cells with h | ⟨b, off, rfl, hc⟩
  ·omega
  have hm := Nat.mod_lt i hl
  obtain ⟨z, z0, z1, hz⟩ := hc (i % len) hm
  have e0 : ((len : Int) == 0) = false := by simp; omega
  have e1 : Int.tmod (i : Int) (len : Int) = ((i % len : Nat) : Int) := by rw [Int.tmod_eq_emod_of_nonneg (by omega)]; rfl
  have e2 : ((i % len : Nat) : Int) < (len : Int) := by omega
  generalize i % len = j at *
  clear hC hc
  go_enter Tryz.func25, Tryz.ntmps25
  go_wp2
  go_returns
  exact ⟨z, z0, z1, rfl, rfl⟩
def tail3 (x y v : Int) : ByteArray := ⟨#[UInt8.ofNat x.toNat, UInt8.ofNat y.toNat, UInt8.ofNat v.toNat]⟩
theorem tail3_run (w : World) (x y v : Int) (x0 : 0 ≤ x) (x1 : x ≤ 255) (y0 : 0 ≤ y) (y1 : y ≤ 255) (v0 : 0 ≤ v) (v1 : v ≤ 255) :
  (convert 28 9 (.slice (some ⟨w.heap.size, 0, none⟩) 3 3)).run Tryz.prog (w.alloc (.cells #[.int .u8 x, .int .u8 y, .int .u8 v] 5)) = .ok (.string (tail3 x y v)) (w.alloc (.cells #[.int .u8 x, .int .u8 y, .int .u8 v] 5)) := by
 refine run_convert_bytes_back _ 28 9 5 ⟨w.heap.size, 0, none⟩ 3 [UInt8.ofNat x.toNat, UInt8.ofNat y.toNat, UInt8.ofNat v.toNat] Tryz.underlying28 Tryz.underlying5 Tryz.underlying9 (fun j hj => ?_)
 have e : (⟨w.heap.size, 0, none⟩ : Addr).add j = ⟨w.heap.size, j, none⟩ := by unfold Addr.add; split <;> simp_all
 rw [e, World.cell?_alloc_new]
 have hj' : j < 3 := hj
 obtain rfl | rfl | rfl : j = 0 ∨ j = 1 ∨ j = 2 := by omega
 all_goals (simp; omega)
structure Rw (w : World) (b : Nat) (p q u k : Int) : Prop where
 c0 : w.cell? ⟨b, 0, none⟩ = some (.int .i64 p)
 c1 : w.cell? ⟨b, 1, none⟩ = some (.int .i64 q)
 c2 : w.cell? ⟨b, 2, none⟩ = some (.int .i64 u)
 c3 : w.cell? ⟨b, 3, none⟩ = some (.int .i64 k)
theorem Rw.gb {w w' : World} {b : Nat} {p q u k : Int} (h : Rw w b p q u k) (g : Gb w w') : Rw w' b p q u k := ⟨g.old h.c0, g.old h.c1, g.old h.c2, g.old h.c3⟩
theorem rw_new (w : World) (p q u k : Int) : Rw (w.alloc (.cells #[.int .i64 p, .int .i64 q, .int .i64 u, .int .i64 k] 24)) w.heap.size p q u k := ⟨kb, kb, kb, kb⟩
set_option maxRecDepth 1000000 in
theorem lawFnSample (a b : Option Addr) (la ca lb cb : Nat) (w : World) (hA : CodeRow w a la) (hB : CodeRow w b lb) (hw : Fm w) (hT : Tl w) (hD : Dc w) :
  Calls Tryz.prog 7 #[.slice a la ca, .slice b lb cb] w fun e w' => e = .returned (.bool true) ∧ Below w.heap.size w w' := by
 have fa := hA.few
 have fb := hB.few
 have g1 : ¬ (1048576 : Int) < la := by omega
 have g2 : ¬ (1048576 : Int) < lb := by omega
 have HA : Hid (CodeRow w a la) := hA
 have HB : Hid (∀ w', Gb w w' → CodeRow w' b lb) := fun w' hg => hB.g7 hg
 have HP : Hid (∀ mu inv sc, Wo mu → Wo inv → Wo sc → ∀ (t : ByteArray) (r : Smp), t.size ≤ 1048576 → o7.SampIs mu inv sc t r → ∀ w', Gb w w' → Calls Tryz.prog 10 #[.int .u64 mu, .int .u64 inv, .int .u64 sc, .string t] w' fun e w'' => e = .returned (smpV r) ∧ Gr w' w'') := fun mu inv sc hm hi hs t r ht hr w' hg => (sample_i o7_i o7_in hm hi hs t ht (hw.gb hg) (hT.below hg) (hD.below hg)).mono fun e w'' ⟨r', h1, h2, h3⟩ => ⟨by rw [h2, O7.SampIs.one hr h1], h3⟩
 clear hA hB hw hT hD
 go_enter Tryz.func7, Tryz.ntmps7
 go_upto_region 4 with (go_at_call 24; refine (drawSample_any a la ca _ HA.out).mono ?_; rintro e w1 ⟨mu, inv, sc, t, hmu, hinv, hsc, hts, rfl, hg_w1⟩)
 go_upto_region 5 with (go_at_call 9; refine (sample_s o7_s o7_in hmu hinv hsc t (by omega) _).mono ?_; rintro e w2 ⟨r, hr, rfl, hg_w2⟩)
 have HPr : Hid (∀ (t : ByteArray) (r : Smp), t.size ≤ 1048576 → o7.SampIs mu inv sc t r → ∀ w', Gb w w' → Calls Tryz.prog 10 #[.int .u64 mu, .int .u64 inv, .int .u64 sc, .string t] w' fun e w'' => e = .returned (smpV r) ∧ Gr w' w'') := HP.out mu inv sc hmu hinv hsc
 have G2 : Hid (Gb w w2) := (show Gb w w2 from hg_w1.trans hg_w2)
 have H0 : Hid (∀ w', Gb w w' → Calls Tryz.prog 10 #[.int .u64 mu, .int .u64 inv, .int .u64 sc, .string t] w' fun e w'' => e = .returned (smpV r) ∧ Gr w' w'') := HPr.out t r (by omega) hr
 have hcs := samp_cases hr
 clear hr HP hg_w1 hg_w2 hmu hinv hsc
 rcases hcs with rfl | ⟨k, z, rfl, hk, hz, s1, s2, s3⟩ | ⟨k, rfl, hk, hz, s1⟩
 ·have hE := eqDr 1 0 0 0
  go_upto_region 6 with (go_at_call 10; refine (H0.out _ (by have := G2.out; exact kg)).mono ?_; rintro e w3 ⟨rfl, hg_w3⟩; have pa0 := hg_w3.e1 w2.heap.size 0 (.int .i64 1); have paA0 := kca pa0; have pa1 := hg_w3.e1 w2.heap.size 1 (.int .i64 0); have paA1 := kca pa1; have pa2 := hg_w3.e1 w2.heap.size 2 (.int .i64 0); have paA2 := kca pa2; have pa3 := hg_w3.e1 w2.heap.size 3 (.int .i64 0); have paA3 := kca pa3)
  go_wp2
  go_returns
  exact ⟨rfl, (show Gb w _ from by have := G2.out; exact kg)⟩
 ·have hE := eqDr 0 z (17 * (k : Int) + 17) ((k : Int) + 1)
  have hE2 := eqDr 2 0 (17 * (k : Int)) k
  obtain ⟨u, hu⟩ : ∃ u : Int, 17 * (k : Int) + 17 = u := ⟨_, rfl⟩
  have hu2 : 17 * (k : Int) = u - 17 := by omega
  have u0 : 17 ≤ u := by omega
  have u1 : u ≤ 20000 := by omega
  have hk1 : (k : Int) ≤ 20000 := by omega
  have hn : (t.extract 0 (17 * k + 17)).size ≤ 20000 := by rw [ByteArray.size_extract]; omega
  have hn2 : (t.extract 0 (17 * k + 16)).size ≤ 1048576 := by rw [ByteArray.size_extract]; omega
  have H1 : Hid (∀ w', Gb w w' → Calls Tryz.prog 10 #[.int .u64 mu, .int .u64 inv, .int .u64 sc, .string (t.extract 0 (17 * k + 17))] w' fun e w'' => e = .returned (smpV ⟨0, z, 17 * (k : Int) + 17, (k : Int) + 1⟩) ∧ Gr w' w'') := HPr.out _ _ (by omega) s1
  have H2 : Hid (∀ w', Gb w w' → Calls Tryz.prog 10 #[.int .u64 mu, .int .u64 inv, .int .u64 sc, .string (t.extract 0 (17 * k + 16))] w' fun e w'' => e = .returned (smpV ⟨2, 0, 17 * (k : Int), k⟩) ∧ Gr w' w'') := HPr.out _ _ hn2 s2
  have H3 : Hid (∀ v : ByteArray, v.size = 3 → ∀ w', Gb w w' → Calls Tryz.prog 10 #[.int .u64 mu, .int .u64 inv, .int .u64 sc, .string (t.extract 0 (17 * k + 17) ++ v)] w' fun e w'' => e = .returned (smpV ⟨0, z, 17 * (k : Int) + 17, (k : Int) + 1⟩) ∧ Gr w' w'') := fun v hv => HPr.out _ _ (by rw [ByteArray.size_append, hv]; omega) (s3 v hv)
  have q1 : ∀ w, (Instr.slice 9 (.string t) none (some (.int .i64 u)) none).run Tryz.prog w = .ok (.string (t.extract 0 (17 * k + 17))) w := fun w => by
   have := run_slice_string_h w 9 t Tryz.underlying9 .i64 u (by omega) (by omega)
   rw [show u.toNat = 17 * k + 17 by omega] at this
   exact this
  have q2 : ∀ w, (Instr.slice 9 (.string t) none (some (.int .i64 (u - 1))) none).run Tryz.prog w = .ok (.string (t.extract 0 (17 * k + 16))) w := fun w => by
   have := run_slice_string_h w 9 t Tryz.underlying9 .i64 (u - 1) (by omega) (by omega)
   rw [show (u - 1).toNat = 17 * k + 16 by omega] at this
   exact this
  rw [hu] at hE H1 H0 H3 ⊢
  rw [hu2] at hE2 H2
  generalize t.extract 0 (17 * k + 17) = t1 at *
  generalize t.extract 0 (17 * k + 16) = t2 at *
  clear s1 s2 s3 HPr hu hu2 hn2
  go_upto_region 6 with (go_at_call 10; refine (H0.out _ (by have := G2.out; exact kg)).mono ?_; rintro e w3 ⟨rfl, hg_w3⟩; have pa0 := hg_w3.e1 w2.heap.size 0 (.int .i64 0); have paA0 := kca pa0; have pa1 := hg_w3.e1 w2.heap.size 1 (.int .i64 z); have paA1 := kca pa1; have pa2 := hg_w3.e1 w2.heap.size 2 (.int .i64 u); have paA2 := kca pa2; have pa3 := hg_w3.e1 w2.heap.size 3 (.int .i64 ((k : Int) + 1)); have paA3 := kca pa3)
  go_upto_region 10 with fail
  have G3 : Hid (Gb w (w3.alloc (.cells #[.int .i64 0, .int .i64 z, .int .i64 u, .int .i64 ((k : Int) + 1)] 24))) := (show Gb w _ from by have := G2.out; exact kg)
  have hRd := rw_new w3 0 z u ((k : Int) + 1)
  have hRw : Rw (w3.alloc (.cells #[.int .i64 0, .int .i64 z, .int .i64 u, .int .i64 ((k : Int) + 1)] 24)) w2.heap.size 0 z u ((k : Int) + 1) := ⟨kb, kb, kb, kb⟩
  obtain ⟨W, hW⟩ : ∃ W, w3.alloc (.cells #[.int .i64 0, .int .i64 z, .int .i64 u, .int .i64 ((k : Int) + 1)] 24) = W := ⟨_, rfl⟩
  rw [hW] at G3 hRd hRw ⊢
  have HRd : Hid _ := hRd
  have HRw : Hid _ := hRw
  obtain ⟨d0, d1, d2, d3⟩ := hRd
  obtain ⟨c0, c1, c2, c3⟩ := hRw
  clear hW pa0 pa1 pa2 pa3 paA0 paA1 paA2 paA3 hg_w3 H0
  generalize w2.heap.size = bw at *
  generalize w3.heap.size = bd at *
  go_region_held3 (fun w' => w'.cell? ⟨bw, 0, none⟩ = some (.int .i64 0) ∧ w'.cell? ⟨bw, 1, none⟩ = some (.int .i64 z) ∧ w'.cell? ⟨bw, 2, none⟩ = some (.int .i64 u) ∧ w'.cell? ⟨bw, 3, none⟩ = some (.int .i64 ((k : Int) + 1)) ∧ w'.cell? ⟨bd, 0, none⟩ = some (.int .i64 0) ∧ w'.cell? ⟨bd, 1, none⟩ = some (.int .i64 z) ∧ w'.cell? ⟨bd, 2, none⟩ = some (.int .i64 u) ∧ w'.cell? ⟨bd, 3, none⟩ = some (.int .i64 ((k : Int) + 1)))
   ((go_split_ands; (repeat' apply And.intro) <;> exact kl))
   (first
    | (go_at_call 10; with_reducible refine (H1.out _ (by have := G3.out; exact kg)).mono ?_; rintro e w4 ⟨rfl, hg_w4⟩))
  all_goals (try go_split_ands)
  all_goals go_upto_region 14 with fail
  all_goals
   have G4 : Hid (Gb w w4) := (show Gb w w4 from by have := G3.out; exact kg)
   have g44 : Gb W w4 := kg
   have HRd4 : Hid _ := HRd.out.gb g44
   have HRw4 : Hid _ := HRw.out.gb g44
   clear hg_w4 HRd HRw G3 H1 d0 d1 d2 d3 c0 c1 c2 c3 g44
   have HK : Hid (∀ i : Int, 0 ≤ i → i ≤ 2 → ∀ w', Gb w w' → Calls Tryz.prog 25 #[.slice b lb cb, .int .i64 i] w' fun e w'' => ∃ z : Int, 0 ≤ z ∧ z ≤ 255 ∧ e = .returned (.int .i64 z) ∧ w' = w'') := fun i i0 i1 w' hg => by
    obtain ⟨n, rfl⟩ := Int.eq_ofNat_of_zero_le i0
    exact pick_any b lb cb n (by omega) w' (HB.out w' hg)
   have hcv := tail3_run
   go_upto_region 15 with (go_at_call 25; refine (HK.out _ (by decide) (by decide) _ G4.out).mono ?_; rintro e w' ⟨y, y0, y1, rfl, hw⟩; subst hw)
   generalize htl : tail3 _ _ _ = v
   have hv : v.size = 3 := by rw [← htl]; rfl
   have g5 : Hid (∀ c t, Gb w4 (w4.alloc (.cells c t))) := fun c t => kg
   generalize hW5 : w4.alloc _ = W5
   have g45 : Gb w4 W5 := by rw [← hW5]; exact g5.out _ _
   have G5 : Hid (Gb w W5) := G4.out.trans g45
   have hRd5 := HRd4.out.gb g45
   have HRd5 : Hid _ := hRd5
   have HRw5 : Hid _ := HRw4.out.gb g45
   obtain ⟨d0, d1, d2, d3⟩ := hRd5
   clear hW5 htl hcv HK g5 g45 HRd4 HRw4 G4
   go_upto_region 16 with (go_at_call 10; refine (H2.out _ G5.out).mono ?_; rintro e w6 ⟨rfl, hg_w6⟩)
   have g57 : Gb W5 (w6.alloc (.cells #[.int .i64 2, .int .i64 0, .int .i64 (u - 17), .int .i64 k] 24)) := kg
   have hRe := rw_new w6 2 0 (u - 17) k
   obtain ⟨W7, hW7⟩ : ∃ W, w6.alloc (.cells #[.int .i64 2, .int .i64 0, .int .i64 (u - 17), .int .i64 k] 24) = W := ⟨_, rfl⟩
   rw [hW7] at g57 hRe ⊢
   have G7 : Hid (Gb w W7) := G5.out.trans g57
   have hRd7 := HRd5.out.gb g57
   have hRw7 := HRw5.out.gb g57
   clear d0 d1 d2 d3 hW7 g57 hg_w6 HRd5 HRw5 G5 H2 q2
   generalize w6.heap.size = be at *
   obtain ⟨d0, d1, d2, d3⟩ := hRd7
   obtain ⟨c0, c1, c2, c3⟩ := hRw7
   obtain ⟨e0, e1, e2, e3⟩ := hRe
   have HS3 : Hid (∀ w', Gb w w' → Calls Tryz.prog 10 #[.int .u64 mu, .int .u64 inv, .int .u64 sc, .string (t1 ++ v)] w' fun e w'' => e = .returned (smpV ⟨0, z, u, (k : Int) + 1⟩) ∧ Gr w' w'') := H3.out v hv
   have hcd : ¬ 9223372036854775807 < t1.size + v.size := by omega
   have hcd' : t1.size + v.size ≤ 9223372036854775807 := by omega
   have hw1 : IntKind.i64.wrap (u - 17) = u - 17 := by rw [IntKind.wrap_i64]; omega
   have hw2 : IntKind.i64.wrap ((k : Int) + 1 - 1) = k := by rw [IntKind.wrap_i64]; omega
   have hw3 : IntKind.i64.wrap (k : Int) = k := by rw [IntKind.wrap_i64]; omega
   clear H3 hv hn
   go_region_held3 (fun w' => w'.cell? ⟨bw, 0, none⟩ = some (.int .i64 0) ∧ w'.cell? ⟨bw, 1, none⟩ = some (.int .i64 z) ∧ w'.cell? ⟨bw, 2, none⟩ = some (.int .i64 u) ∧ w'.cell? ⟨bw, 3, none⟩ = some (.int .i64 ((k : Int) + 1)) ∧ w'.cell? ⟨bd, 0, none⟩ = some (.int .i64 0) ∧ w'.cell? ⟨bd, 1, none⟩ = some (.int .i64 z) ∧ w'.cell? ⟨bd, 2, none⟩ = some (.int .i64 u) ∧ w'.cell? ⟨bd, 3, none⟩ = some (.int .i64 ((k : Int) + 1)) ∧ w'.cell? ⟨be, 0, none⟩ = some (.int .i64 2) ∧ w'.cell? ⟨be, 1, none⟩ = some (.int .i64 0) ∧ w'.cell? ⟨be, 2, none⟩ = some (.int .i64 (u - 17)) ∧ w'.cell? ⟨be, 3, none⟩ = some (.int .i64 k))
    ((go_split_ands; (repeat' apply And.intro) <;> exact kl))
    (first
     | (go_at_call 10; with_reducible refine (HS3.out _ (by have := G7.out; exact kg)).mono ?_; rintro e w8 ⟨rfl, hg_w8⟩))
   all_goals (try go_split_ands)
   all_goals go_wp2
   all_goals go_returns
   all_goals exact ⟨rfl, (show Gb w _ from by have := G7.out; exact kg)⟩
 ·have hE := eqDr 2 0 (17 * (k : Int)) k
  obtain ⟨u, hu⟩ : ∃ u : Int, 17 * (k : Int) = u := ⟨_, rfl⟩
  have hn : (t.extract 0 (17 * k)).size ≤ 1048576 := by rw [ByteArray.size_extract]; omega
  have H1 : Hid (∀ w', Gb w w' → Calls Tryz.prog 10 #[.int .u64 mu, .int .u64 inv, .int .u64 sc, .string (t.extract 0 (17 * k))] w' fun e w'' => e = .returned (smpV ⟨2, 0, 17 * (k : Int), k⟩) ∧ Gr w' w'') := HPr.out _ _ hn s1
  have q1 : ∀ w, (Instr.slice 9 (.string t) none (some (.int .i64 u)) none).run Tryz.prog w = .ok (.string (t.extract 0 (17 * k))) w := fun w => by
   have := run_slice_string_h w 9 t Tryz.underlying9 .i64 u (by omega) (by omega)
   rw [show u.toNat = 17 * k by omega] at this
   exact this
  rw [hu] at hE H1 H0
  generalize t.extract 0 (17 * k) = t1 at *
  go_upto_region 6 with (go_at_call 10; refine (H0.out _ (by have := G2.out; exact kg)).mono ?_; rintro e w3 ⟨rfl, hg_w3⟩; have pa0 := hg_w3.e1 w2.heap.size 0 (.int .i64 2); have paA0 := kca pa0; have pa1 := hg_w3.e1 w2.heap.size 1 (.int .i64 0); have paA1 := kca pa1; have pa2 := hg_w3.e1 w2.heap.size 2 (.int .i64 u); have paA2 := kca pa2; have pa3 := hg_w3.e1 w2.heap.size 3 (.int .i64 k); have paA3 := kca pa3)
  go_upto_region 10 with fail
  have G3 : Hid (Gb w (w3.alloc (.cells #[.int .i64 2, .int .i64 0, .int .i64 u, .int .i64 k] 24))) := (show Gb w _ from by have := G2.out; exact kg)
  have hRd := rw_new w3 2 0 u k
  have hRw : Rw (w3.alloc (.cells #[.int .i64 2, .int .i64 0, .int .i64 u, .int .i64 k] 24)) w2.heap.size 2 0 u k := ⟨kb, kb, kb, kb⟩
  obtain ⟨W, hW⟩ : ∃ W, w3.alloc (.cells #[.int .i64 2, .int .i64 0, .int .i64 u, .int .i64 k] 24) = W := ⟨_, rfl⟩
  rw [hW] at G3 hRd hRw ⊢
  obtain ⟨d0, d1, d2, d3⟩ := hRd
  obtain ⟨c0, c1, c2, c3⟩ := hRw
  clear hW pa0 pa1 pa2 pa3 paA0 paA1 paA2 paA3 hg_w3
  generalize w2.heap.size = bw at *
  generalize w3.heap.size = bd at *
  go_region_held3 (fun w' => w'.cell? ⟨bw, 0, none⟩ = some (.int .i64 2) ∧ w'.cell? ⟨bw, 1, none⟩ = some (.int .i64 0) ∧ w'.cell? ⟨bw, 2, none⟩ = some (.int .i64 u) ∧ w'.cell? ⟨bw, 3, none⟩ = some (.int .i64 k) ∧ w'.cell? ⟨bd, 0, none⟩ = some (.int .i64 2) ∧ w'.cell? ⟨bd, 1, none⟩ = some (.int .i64 0) ∧ w'.cell? ⟨bd, 2, none⟩ = some (.int .i64 u) ∧ w'.cell? ⟨bd, 3, none⟩ = some (.int .i64 k))
   ((go_split_ands; (repeat' apply And.intro) <;> exact kl))
   (first
    | (go_at_call 10; with_reducible refine (H1.out _ (by have := G3.out; exact kg)).mono ?_; rintro e w4 ⟨rfl, hg_w4⟩))
  all_goals (try go_split_ands)
  all_goals go_wp2
  all_goals go_returns
  all_goals exact ⟨rfl, (show Gb w _ from by have := G3.out; exact kg)⟩
end Go.Proofs.YtnbbfeknbfohhaaGreatDoor
