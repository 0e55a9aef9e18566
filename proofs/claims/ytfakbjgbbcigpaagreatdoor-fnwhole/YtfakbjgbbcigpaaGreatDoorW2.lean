/- spec.l4Quotient. -/
import Derived.Test.YtfakbjgbbcigpaaGreatDoorB4
import Derived.Test.YtfakbjgbbcigpaaGreatDoorW1
import Derived.Deep.DeepCutAuto
import Derived.Test.YtfakbjgbbcigpaaGreatDoorL5ZF
import Derived.Test.YtfakbjgbbcigpaaGreatDoorG8
import Derived.Deep.RegionHeld3
set_option linter.unusedVariables false
set_option linter.unusedSimpArgs false
namespace Go.Proofs.YtfakbjgbbcigpaaGreatDoor
open Go.RowKit

theorem bigN_nil {K : Nat} {w : World} {b k c N : Nat} (h : BigN K w (.slice (some ⟨b, 0, none⟩) k c) N) (h0 : N = 0) : k = 0 := by
  obtain ⟨n, hn, hnm, hr⟩ := h
  have e : n = k := by obtain ⟨_, b', c', hv, _⟩ := hr; cases hv; rfl
  rw [← e]; exact (hnm.iff).2 h0
theorem bigN_pos {K : Nat} {w : World} {b k c N : Nat} (h : BigN K w (.slice (some ⟨b, 0, none⟩) k c) N) (h0 : N ≠ 0) : 0 < k := by
  obtain ⟨n, hn, hnm, hr⟩ := h
  have e : n = k := by obtain ⟨_, b', c', hv, _⟩ := hr; cases hv; rfl
  rw [← e]
  rcases Nat.eq_zero_or_pos n with c | c
  · exact absurd ((hnm.iff).1 c) h0
  · exact c

/-- Quotient and rest, as slices. -/
theorem div_slices {K L : Nat} {v v' : Value} {N N' : Nat} {w : World} (hK : K ≤ 1000) (hL : L ≤ 1000) (h : BigN K w v N) (h' : BigN L w v' N') (h0 : 0 < N') :
    Calls Tryz.prog 102 #[v, v'] w fun e w' => ∃ b k c b' k' c', BigN K w' (.slice (some ⟨b, 0, none⟩) k c) (N / N') ∧ BigN (L + 1) w' (.slice (some ⟨b', 0, none⟩) k' c') (N % N') ∧ e = .returned (.tuple #[.slice (some ⟨b, 0, none⟩) k c, .slice (some ⟨b', 0, none⟩) k' c']) ∧ Gb w w' := by
  obtain ⟨n, hn, hb⟩ := h
  obtain ⟨n', hn', hb'⟩ := h'
  refine (l2Div_any hb (by omega) hb' (by omega) h0).mono ?_
  rintro e w' ⟨q, r, k, k', rfl, hq, hr, hk, hk', hg⟩
  obtain ⟨b, c, rfl, _⟩ := Big.shape hq
  obtain ⟨b', c', rfl, _⟩ := Big.shape hr
  exact ⟨b, k, c, b', k', c', ⟨k, by omega, hq⟩, ⟨k', by omega, hr⟩, rfl, hg⟩

set_option maxRecDepth 1000000 in
set_option maxHeartbeats 8000000 in
theorem l4Quotient_any {f p mx one inf sg nan : Int} (h : IsFmt f p mx one inf sg nan) (c s x c' s' x' : Int) (A B : Nat) (hA : A < 18446744073709551616) (hB : B < 18446744073709551616) (hB0 : 0 < B) (a0 : 0 ≤ s) (a1 : s ≤ 1) (b0 : 0 ≤ s') (b1 : s' ≤ 1) (sp : Int) (hm1 : (s + s').tmod 2 = sp) (hm2 : (s + s') % 2 = sp) (x0 : -50000 ≤ x) (x1 : x ≤ 50000) (y0 : -50000 ≤ x') (y1 : x' ≤ 50000) (P : Nat) (hP : (P : Int) = p + 4) (w : World) :
    Calls Tryz.prog 82 #[.int .i64 f, .agg #[.int .i64 c, .int .i64 s, .int .i64 x, .int .u64 ((A : Nat))], .agg #[.int .i64 (c'), .int .i64 (s'), .int .i64 (x'), .int .u64 ((B : Nat))]] w fun e w' => ∃ b k cc, BigN 8 w' (.slice (some ⟨b, 0, none⟩) k cc) (A * 2 ^ P / B) ∧ e = .returned (.agg #[.int .i64 sp, .slice (some ⟨b, 0, none⟩) k cc, .int .i64 (x - x' - P), .bool (decide (A * 2 ^ P % B ≠ 0))]) ∧ Gb w w' := by
  have hpb : p ≤ 53 ∧ 24 ≤ p := by rcases h with h | h <;> omega
  have hP60 : P ≤ 57 := by omega
  have HB : Hid (∀ (H : Nat) w, H < 18446744073709551616 → Calls Tryz.prog 58 #[.int .u64 (H : Nat)] w fun e w' => ∃ b k c, BigN 2 w' (.slice (some ⟨b, 0, none⟩) k c) H ∧ e = .returned (.slice (some ⟨b, 0, none⟩) k c) ∧ Gb w w') := fun H w hH => big_slice (l2Big_any H hH w)
  have HS : Hid (∀ v w, BigN 2 w v A → Calls Tryz.prog 57 #[v, .int .i64 (P : Int)] w fun e w' => ∃ b k c, BigN 8 w' (.slice (some ⟨b, 0, none⟩) k c) (A * 2 ^ P) ∧ e = .returned (.slice (some ⟨b, 0, none⟩) k c) ∧ Gb w w') := fun v w ⟨n, a1, a2⟩ => big_slice ((l2Shl_any a2 (by omega) P (by omega)).mono (fun e w' ⟨v, k, c1, c2, c3, c4⟩ => ⟨v, k, c1, c2, by omega, c4⟩))
  have HD : Hid (∀ v v' w, BigN 8 w v (A * 2 ^ P) → BigN 2 w v' B → Calls Tryz.prog 102 #[v, v'] w fun e w' => ∃ b k c b' k' c', BigN 8 w' (.slice (some ⟨b, 0, none⟩) k c) (A * 2 ^ P / B) ∧ BigN 3 w' (.slice (some ⟨b', 0, none⟩) k' c') (A * 2 ^ P % B) ∧ e = .returned (.tuple #[.slice (some ⟨b, 0, none⟩) k c, .slice (some ⟨b', 0, none⟩) k' c']) ∧ Gb w w') := fun v v' w h1 h2 => div_slices (by omega) (by omega) h1 h2 hB0
  have HP : Hid (∀ w, Calls Tryz.prog 65 #[.int .i64 f] w fun e w' => e = .returned (.int .i64 p) ∧ w = w') := fun w => l2P_any h w
  have g1 : p + 4 = (P : Int) := hP.symm
  obtain ⟨z, hz⟩ : ∃ z, x - x' - (P : Int) = z := ⟨_, rfl⟩
  rw [hz]
  clear hP h
  by_cases hr : A * 2 ^ P % B = 0
  · rw [show decide (A * 2 ^ P % B ≠ 0) = false by simp [hr]]
    have HR : Hid _ := hr
    clear hr
    generalize A * 2 ^ P % B = R at *
    generalize A * 2 ^ P / B = Qn at *
    generalize A * 2 ^ P = X at *
    go_enter Tryz.func82, Tryz.ntmps82
    go_wp2_with (go_at_call 65; refine (HP.out _).mono ?_; rintro e wp ⟨rfl, hw⟩; subst hw)
    go_region_held3 (fun w' => w'.cell? ⟨w.heap.size, 1, none⟩ = some (.int .i64 s) ∧ w'.cell? ⟨w.heap.size, 2, none⟩ = some (.int .i64 x) ∧ w'.cell? ⟨w.heap.size, 3, none⟩ = some (.int .u64 (A : Nat)) ∧ w'.cell? ⟨w.heap.size + 1, 1, none⟩ = some (.int .i64 s') ∧ w'.cell? ⟨w.heap.size + 1, 2, none⟩ = some (.int .i64 x') ∧ w'.cell? ⟨w.heap.size + 1, 3, none⟩ = some (.int .u64 (B : Nat)))
      ((go_split_ands; (repeat' apply And.intro) <;> exact kh))
      (first
        | (go_at_call 58; refine (HB.out _ _ (by assumption)).mono ?_; rintro e w1 ⟨b, k, cc, hbig, rfl, hg_w1⟩; have ar0 : w1.cell? ⟨w.heap.size + 1 + 1, 0, none⟩ = some (.int .i64 0) := hg_w1.c; have arz0 : w1.frozen? ⟨w.heap.size + 1 + 1, 0, none⟩ = false := hg_w1.z ar0; have ar1 : w1.cell? ⟨w.heap.size + 1 + 1, 1, none⟩ = some (.slice none 0 0) := hg_w1.c; have arz1 : w1.frozen? ⟨w.heap.size + 1 + 1, 1, none⟩ = false := hg_w1.z ar1; have ar2 : w1.cell? ⟨w.heap.size + 1 + 1, 2, none⟩ = some (.int .i64 0) := hg_w1.c; have arz2 : w1.frozen? ⟨w.heap.size + 1 + 1, 2, none⟩ = false := hg_w1.z ar2; have ar3 : w1.cell? ⟨w.heap.size + 1 + 1, 3, none⟩ = some (.bool false) := hg_w1.c; have arz3 : w1.frozen? ⟨w.heap.size + 1 + 1, 3, none⟩ = false := hg_w1.z ar3)
        | (go_at_call 57; refine (HS.out _ _ (BigN.gb (by assumption) Gb.g)).mono ?_; rintro e w2 ⟨b2, k2, cc2, hbig2, rfl, hg_w2⟩; have br0 : w2.cell? ⟨w.heap.size + 1 + 1, 0, none⟩ = some (.int .i64 0) := hg_w2.c; have brz0 : w2.frozen? ⟨w.heap.size + 1 + 1, 0, none⟩ = false := hg_w2.z br0; have br1 : w2.cell? ⟨w.heap.size + 1 + 1, 1, none⟩ = some (.slice none 0 0) := hg_w2.c; have brz1 : w2.frozen? ⟨w.heap.size + 1 + 1, 1, none⟩ = false := hg_w2.z br1; have br2 : w2.cell? ⟨w.heap.size + 1 + 1, 2, none⟩ = some (.int .i64 0) := hg_w2.c; have brz2 : w2.frozen? ⟨w.heap.size + 1 + 1, 2, none⟩ = false := hg_w2.z br2; have br3 : w2.cell? ⟨w.heap.size + 1 + 1, 3, none⟩ = some (.bool false) := hg_w2.c; have brz3 : w2.frozen? ⟨w.heap.size + 1 + 1, 3, none⟩ = false := hg_w2.z br3)
        | (go_at_call 102; refine (HD.out _ _ _ (BigN.gb (by assumption) Gb.g) (BigN.gb (by assumption) Gb.g)).mono ?_; rintro e w3 ⟨b3, k3, cc3, b4, k4, cc4, hbig3, hbig4, rfl, hg_w3⟩; have cr0 : w3.cell? ⟨w.heap.size + 1 + 1, 0, none⟩ = some (.int .i64 0) := hg_w3.c; have crz0 : w3.frozen? ⟨w.heap.size + 1 + 1, 0, none⟩ = false := hg_w3.z cr0; have cr1 : w3.cell? ⟨w.heap.size + 1 + 1, 1, none⟩ = some (.slice none 0 0) := hg_w3.c; have crz1 : w3.frozen? ⟨w.heap.size + 1 + 1, 1, none⟩ = false := hg_w3.z cr1; have cr2 : w3.cell? ⟨w.heap.size + 1 + 1, 2, none⟩ = some (.int .i64 0) := hg_w3.c; have crz2 : w3.frozen? ⟨w.heap.size + 1 + 1, 2, none⟩ = false := hg_w3.z cr2; have cr3 : w3.cell? ⟨w.heap.size + 1 + 1, 3, none⟩ = some (.bool false) := hg_w3.c; have crz3 : w3.frozen? ⟨w.heap.size + 1 + 1, 3, none⟩ = false := hg_w3.z cr3; have cx1 : w3.cell? ⟨w.heap.size, 1, none⟩ = some (.int .i64 s) := hg_w3.c; have cx2 : w3.cell? ⟨w.heap.size, 2, none⟩ = some (.int .i64 x) := hg_w3.c; have cy1 : w3.cell? ⟨w.heap.size + 1, 1, none⟩ = some (.int .i64 (s')) := hg_w3.c; have cy2 : w3.cell? ⟨w.heap.size + 1, 2, none⟩ = some (.int .i64 (x')) := hg_w3.c; obtain rfl : k4 = 0 := (bigN_nil hbig4 HR.out)))
    all_goals (try go_split_ands)
    all_goals go_wp2
    all_goals
      refine bodyPost_ret (v := .agg #[.int .i64 sp, .slice (some ⟨b3, 0, none⟩) k3 cc3, .int .i64 z, .bool false]) (by simp [results, Tryz.results82, go_sem, cr0, cr1, cr2, cr3]) rfl ⟨b3, k3, cc3, ?_, rfl, ?_⟩
      · exact hbig3.st4 cr0 cr1 cr2 cr3
      · exact Gb.g
  · rw [show decide (A * 2 ^ P % B ≠ 0) = true by simp [hr]]
    have HR : Hid (A * 2 ^ P % B ≠ 0) := hr
    clear hr
    generalize A * 2 ^ P % B = R at *
    generalize A * 2 ^ P / B = Qn at *
    generalize A * 2 ^ P = X at *
    go_enter Tryz.func82, Tryz.ntmps82
    go_wp2_with (go_at_call 65; refine (HP.out _).mono ?_; rintro e wp ⟨rfl, hw⟩; subst hw)
    go_region_held3 (fun w' => w'.cell? ⟨w.heap.size, 1, none⟩ = some (.int .i64 s) ∧ w'.cell? ⟨w.heap.size, 2, none⟩ = some (.int .i64 x) ∧ w'.cell? ⟨w.heap.size, 3, none⟩ = some (.int .u64 (A : Nat)) ∧ w'.cell? ⟨w.heap.size + 1, 1, none⟩ = some (.int .i64 s') ∧ w'.cell? ⟨w.heap.size + 1, 2, none⟩ = some (.int .i64 x') ∧ w'.cell? ⟨w.heap.size + 1, 3, none⟩ = some (.int .u64 (B : Nat)))
      ((go_split_ands; (repeat' apply And.intro) <;> exact kh))
      (first
        | (go_at_call 58; refine (HB.out _ _ (by assumption)).mono ?_; rintro e w1 ⟨b, k, cc, hbig, rfl, hg_w1⟩; have ar0 : w1.cell? ⟨w.heap.size + 1 + 1, 0, none⟩ = some (.int .i64 0) := hg_w1.c; have arz0 : w1.frozen? ⟨w.heap.size + 1 + 1, 0, none⟩ = false := hg_w1.z ar0; have ar1 : w1.cell? ⟨w.heap.size + 1 + 1, 1, none⟩ = some (.slice none 0 0) := hg_w1.c; have arz1 : w1.frozen? ⟨w.heap.size + 1 + 1, 1, none⟩ = false := hg_w1.z ar1; have ar2 : w1.cell? ⟨w.heap.size + 1 + 1, 2, none⟩ = some (.int .i64 0) := hg_w1.c; have arz2 : w1.frozen? ⟨w.heap.size + 1 + 1, 2, none⟩ = false := hg_w1.z ar2; have ar3 : w1.cell? ⟨w.heap.size + 1 + 1, 3, none⟩ = some (.bool false) := hg_w1.c; have arz3 : w1.frozen? ⟨w.heap.size + 1 + 1, 3, none⟩ = false := hg_w1.z ar3)
        | (go_at_call 57; refine (HS.out _ _ (BigN.gb (by assumption) Gb.g)).mono ?_; rintro e w2 ⟨b2, k2, cc2, hbig2, rfl, hg_w2⟩; have br0 : w2.cell? ⟨w.heap.size + 1 + 1, 0, none⟩ = some (.int .i64 0) := hg_w2.c; have brz0 : w2.frozen? ⟨w.heap.size + 1 + 1, 0, none⟩ = false := hg_w2.z br0; have br1 : w2.cell? ⟨w.heap.size + 1 + 1, 1, none⟩ = some (.slice none 0 0) := hg_w2.c; have brz1 : w2.frozen? ⟨w.heap.size + 1 + 1, 1, none⟩ = false := hg_w2.z br1; have br2 : w2.cell? ⟨w.heap.size + 1 + 1, 2, none⟩ = some (.int .i64 0) := hg_w2.c; have brz2 : w2.frozen? ⟨w.heap.size + 1 + 1, 2, none⟩ = false := hg_w2.z br2; have br3 : w2.cell? ⟨w.heap.size + 1 + 1, 3, none⟩ = some (.bool false) := hg_w2.c; have brz3 : w2.frozen? ⟨w.heap.size + 1 + 1, 3, none⟩ = false := hg_w2.z br3)
        | (go_at_call 102; refine (HD.out _ _ _ (BigN.gb (by assumption) Gb.g) (BigN.gb (by assumption) Gb.g)).mono ?_; rintro e w3 ⟨b3, k3, cc3, b4, k4, cc4, hbig3, hbig4, rfl, hg_w3⟩; have cr0 : w3.cell? ⟨w.heap.size + 1 + 1, 0, none⟩ = some (.int .i64 0) := hg_w3.c; have crz0 : w3.frozen? ⟨w.heap.size + 1 + 1, 0, none⟩ = false := hg_w3.z cr0; have cr1 : w3.cell? ⟨w.heap.size + 1 + 1, 1, none⟩ = some (.slice none 0 0) := hg_w3.c; have crz1 : w3.frozen? ⟨w.heap.size + 1 + 1, 1, none⟩ = false := hg_w3.z cr1; have cr2 : w3.cell? ⟨w.heap.size + 1 + 1, 2, none⟩ = some (.int .i64 0) := hg_w3.c; have crz2 : w3.frozen? ⟨w.heap.size + 1 + 1, 2, none⟩ = false := hg_w3.z cr2; have cr3 : w3.cell? ⟨w.heap.size + 1 + 1, 3, none⟩ = some (.bool false) := hg_w3.c; have crz3 : w3.frozen? ⟨w.heap.size + 1 + 1, 3, none⟩ = false := hg_w3.z cr3; have cx1 : w3.cell? ⟨w.heap.size, 1, none⟩ = some (.int .i64 s) := hg_w3.c; have cx2 : w3.cell? ⟨w.heap.size, 2, none⟩ = some (.int .i64 x) := hg_w3.c; have cy1 : w3.cell? ⟨w.heap.size + 1, 1, none⟩ = some (.int .i64 (s')) := hg_w3.c; have cy2 : w3.cell? ⟨w.heap.size + 1, 2, none⟩ = some (.int .i64 (x')) := hg_w3.c; have hkn : 0 < k4 := bigN_pos hbig4 HR.out; have hkp : (0 : Int) < (k4 : Int) := (by omega)))
    all_goals (try go_split_ands)
    all_goals go_wp2
    all_goals
      refine bodyPost_ret (v := .agg #[.int .i64 sp, .slice (some ⟨b3, 0, none⟩) k3 cc3, .int .i64 z, .bool true]) (by simp [results, Tryz.results82, go_sem, cr0, cr1, cr2, cr3, hkn]) rfl ⟨b3, k3, cc3, ?_, rfl, ?_⟩
      · exact hbig3.st4 cr0 cr1 cr2 cr3
      · exact Gb.g
end Go.Proofs.YtfakbjgbbcigpaaGreatDoor

/- spec.Div of two numbers. -/
set_option linter.unusedVariables false
set_option linter.unusedSimpArgs false
namespace Go.Proofs.YtfakbjgbbcigpaaGreatDoor
open Go.RowKit

set_option maxRecDepth 1000000 in
set_option maxHeartbeats 4000000 in
theorem sDiv_11 (f mode a b ca sa xa ga cb sb xb gb : Int) (HF : Hid (∀ w, Calls Tryz.prog 55 #[.int .i64 f, .int .i64 mode, .int .u64 a, .int .u64 b] w fun e w' => e = .returned (.bool true) ∧ w = w')) (HUa : Hid (∀ w, Calls Tryz.prog 44 #[.int .i64 f, .int .u64 a] w fun e w' => e = .returned (.agg #[.int .i64 ca, .int .i64 sa, .int .i64 xa, .int .u64 ga]) ∧ Gr w w')) (HUb : Hid (∀ w, Calls Tryz.prog 44 #[.int .i64 f, .int .u64 b] w fun e w' => e = .returned (.agg #[.int .i64 cb, .int .i64 sb, .int .i64 xb, .int .u64 gb]) ∧ Gr w w')) (HQa : Hid (∀ w, Calls Tryz.prog 45 #[.agg #[.int .i64 ca, .int .i64 sa, .int .i64 xa, .int .u64 ga]] w fun e w' => e = .returned (.bool false) ∧ Gr w w')) (HQb : Hid (∀ w, Calls Tryz.prog 45 #[.agg #[.int .i64 cb, .int .i64 sb, .int .i64 xb, .int .u64 gb]] w fun e w' => e = .returned (.bool false) ∧ Gr w w')) (e1 : ca = 1) (e2 : cb = 1) (sp : Int) (a0 : 0 ≤ sa) (a1 : sa ≤ 1) (b0 : 0 ≤ sb) (b1 : sb ≤ 1) (hm1 : (sa + sb).tmod 2 = sp) (hm2 : (sa + sb) % 2 = sp) (xq : Int) (rest : Bool) (m : Nat) (HM : Hid (∀ w, Calls Tryz.prog 82 #[.int .i64 f, .agg #[.int .i64 1, .int .i64 sa, .int .i64 xa, .int .u64 ga], .agg #[.int .i64 1, .int .i64 sb, .int .i64 xb, .int .u64 gb]] w fun e w' => ∃ bq kq qq, BigN 8 w' (.slice (some ⟨bq, 0, none⟩) kq qq) m ∧ e = .returned (.agg #[.int .i64 sp, .slice (some ⟨bq, 0, none⟩) kq qq, .int .i64 xq, .bool rest]) ∧ Gb w w')) (Q : Int → Int → Prop) (HR : Hid (∀ v w, BigN 8 w v m → Calls Tryz.prog 30 #[.int .i64 f, .int .i64 mode, .agg #[.int .i64 sp, v, .int .i64 xq, .bool rest]] w fun e w' => ∃ z fl, Q z fl ∧ e = .returned (.agg #[.int .u64 z, .int .i64 fl]) ∧ Gb w w')) (w : World) :
    Calls Tryz.prog 50 #[.int .i64 f, .int .i64 mode, .int .u64 a, .int .u64 b] w fun e w' => ∃ z fl, Q z fl ∧ e = .returned (.agg #[.int .u64 z, .int .i64 fl]) ∧ Gb w w' := by
  subst e1 e2
  go_enter Tryz.func50, Tryz.ntmps50
  go_wp2_with (first
    | (go_at_call 55; refine (HF.out _).mono ?_; rintro e wk ⟨rfl, hw⟩; subst hw)
    | (go_at_call 44; first | (with_reducible refine (HUa.out _).mono ?_; rintro e w1 ⟨rfl, hg_w1⟩; have u0r0 : w1.cell? ⟨w.heap.size, 0, none⟩ = some (.int .u64 0) := hg_w1.c; have u0rz0 : w1.frozen? ⟨w.heap.size, 0, none⟩ = false := hg_w1.z; have u0r1 : w1.cell? ⟨w.heap.size, 1, none⟩ = some (.int .i64 0) := hg_w1.c; have u0rz1 : w1.frozen? ⟨w.heap.size, 1, none⟩ = false := hg_w1.z; have hz0 := cell_size u0r0) | (with_reducible refine (HUb.out _).mono ?_; rintro e w2 ⟨rfl, hg_w2⟩; have u1r0 : w2.cell? ⟨w.heap.size, 0, none⟩ = some (.int .u64 0) := hg_w2.c; have u1rz0 : w2.frozen? ⟨w.heap.size, 0, none⟩ = false := hg_w2.z; have u1r1 : w2.cell? ⟨w.heap.size, 1, none⟩ = some (.int .i64 0) := hg_w2.c; have u1rz1 : w2.frozen? ⟨w.heap.size, 1, none⟩ = false := hg_w2.z; have u1p00 : w2.cell? ⟨w1.heap.size, 0, none⟩ = some (.int .i64 1) := hg_w2.c; have u1p0A0 := (fun ob => cell_alloc ob u1p00); have u1p01 : w2.cell? ⟨w1.heap.size, 1, none⟩ = some (.int .i64 sa) := hg_w2.c; have u1p0A1 := (fun ob => cell_alloc ob u1p01); have u1p02 : w2.cell? ⟨w1.heap.size, 2, none⟩ = some (.int .i64 xa) := hg_w2.c; have u1p0A2 := (fun ob => cell_alloc ob u1p02); have u1p03 : w2.cell? ⟨w1.heap.size, 3, none⟩ = some (.int .u64 ga) := hg_w2.c; have u1p0A3 := (fun ob => cell_alloc ob u1p03); have hz1 := cell_size u1r0))
    | (go_at_call 45; first | (with_reducible refine (HQa.out _).mono ?_; rintro e va ⟨rfl, hg_va⟩; have qar0 : va.cell? ⟨w.heap.size, 0, none⟩ = some (.int .u64 0) := hg_va.c; have qarz0 : va.frozen? ⟨w.heap.size, 0, none⟩ = false := hg_va.z; have qar1 : va.cell? ⟨w.heap.size, 1, none⟩ = some (.int .i64 0) := hg_va.c; have qarz1 : va.frozen? ⟨w.heap.size, 1, none⟩ = false := hg_va.z; have qap00 : va.cell? ⟨w1.heap.size, 0, none⟩ = some (.int .i64 1) := hg_va.c; have qap01 : va.cell? ⟨w1.heap.size, 1, none⟩ = some (.int .i64 sa) := hg_va.c; have qap02 : va.cell? ⟨w1.heap.size, 2, none⟩ = some (.int .i64 xa) := hg_va.c; have qap03 : va.cell? ⟨w1.heap.size, 3, none⟩ = some (.int .u64 ga) := hg_va.c; have qap10 : va.cell? ⟨w2.heap.size, 0, none⟩ = some (.int .i64 1) := hg_va.c; have qap11 : va.cell? ⟨w2.heap.size, 1, none⟩ = some (.int .i64 sb) := hg_va.c; have qap12 : va.cell? ⟨w2.heap.size, 2, none⟩ = some (.int .i64 xb) := hg_va.c; have qap13 : va.cell? ⟨w2.heap.size, 3, none⟩ = some (.int .u64 gb) := hg_va.c) | (with_reducible refine (HQb.out _).mono ?_; rintro e vb ⟨rfl, hg_vb⟩; have qbr0 : vb.cell? ⟨w.heap.size, 0, none⟩ = some (.int .u64 0) := hg_vb.c; have qbrz0 : vb.frozen? ⟨w.heap.size, 0, none⟩ = false := hg_vb.z; have qbr1 : vb.cell? ⟨w.heap.size, 1, none⟩ = some (.int .i64 0) := hg_vb.c; have qbrz1 : vb.frozen? ⟨w.heap.size, 1, none⟩ = false := hg_vb.z; have qbp00 : vb.cell? ⟨w1.heap.size, 0, none⟩ = some (.int .i64 1) := hg_vb.c; have qbp01 : vb.cell? ⟨w1.heap.size, 1, none⟩ = some (.int .i64 sa) := hg_vb.c; have qbp02 : vb.cell? ⟨w1.heap.size, 2, none⟩ = some (.int .i64 xa) := hg_vb.c; have qbp03 : vb.cell? ⟨w1.heap.size, 3, none⟩ = some (.int .u64 ga) := hg_vb.c; have qbp10 : vb.cell? ⟨w2.heap.size, 0, none⟩ = some (.int .i64 1) := hg_vb.c; have qbp11 : vb.cell? ⟨w2.heap.size, 1, none⟩ = some (.int .i64 sb) := hg_vb.c; have qbp12 : vb.cell? ⟨w2.heap.size, 2, none⟩ = some (.int .i64 xb) := hg_vb.c; have qbp13 : vb.cell? ⟨w2.heap.size, 3, none⟩ = some (.int .u64 gb) := hg_vb.c))
    | (go_at_call 82; refine (HM.out _).mono ?_; rintro e wm ⟨bq, kq, qq, hbq, rfl, hg_wm⟩; have mr0 : wm.cell? ⟨w.heap.size, 0, none⟩ = some (.int .u64 0) := hg_wm.c; have mrz0 : wm.frozen? ⟨w.heap.size, 0, none⟩ = false := hg_wm.z mr0; have mr1 : wm.cell? ⟨w.heap.size, 1, none⟩ = some (.int .i64 0) := hg_wm.c; have mrz1 : wm.frozen? ⟨w.heap.size, 1, none⟩ = false := hg_wm.z mr1)
    | (go_at_call 30; refine (HR.out _ _ hbq).mono ?_; rintro e w9 ⟨z, fl, hq, rfl, hg_w9⟩; have zr0 : w9.cell? ⟨w.heap.size, 0, none⟩ = some (.int .u64 0) := hg_w9.c; have zrz0 : w9.frozen? ⟨w.heap.size, 0, none⟩ = false := hg_w9.z zr0; have zr1 : w9.cell? ⟨w.heap.size, 1, none⟩ = some (.int .i64 0) := hg_w9.c; have zrz1 : w9.frozen? ⟨w.heap.size, 1, none⟩ = false := hg_w9.z zr1))
  refine bodyPost_ret (v := .agg #[.int .u64 z, .int .i64 fl]) (by simp [results, Tryz.results50, go_sem, zr0, zr1]) rfl ⟨z, fl, hq, rfl, ?_⟩
  exact Gb.g
end Go.Proofs.YtfakbjgbbcigpaaGreatDoor

/- spec.Div of two numbers gives some word; integers that are numbers. -/
set_option linter.unusedVariables false
set_option linter.unusedSimpArgs false
namespace Go.Proofs.YtfakbjgbbcigpaaGreatDoor
open Go.RowKit

theorem div_some {f p mx one inf sg nan a b : Int} (h : IsFmt f p mx one inf sg nan) (a0 : 0 ≤ a) (b0 : 0 ≤ b) {x y : Opd} (hx : OpdIs p mx one inf sg nan a x) (hy : OpdIs p mx one inf sg nan b y) (cx : x.c = 1) (cy : y.c = 1) (w : World) :
    Calls Tryz.prog 50 #[.int .i64 f, .int .i64 0, .int .u64 a, .int .u64 b] w fun e w' => ∃ z fl : Int, (0 ≤ z ∧ z < 18446744073709551616) ∧ e = .returned (.agg #[.int .u64 z, .int .i64 fl]) ∧ Gb w w' := by
  obtain ⟨v1, v2, v3, v4, v5, v6⟩ := opd_vo h hx
  obtain ⟨u1, u2, u3, u4, u5, u6⟩ := opd_vo h hy
  have hb := h.bounds
  obtain ⟨fa, _⟩ := word_is h a0 hx (by omega)
  obtain ⟨fb, _⟩ := word_is h b0 hy (by omega)
  have hxs := v1.s01
  have hys := u1.s01
  obtain ⟨sp, hsp⟩ : ∃ sp, (x.s + y.s) % 2 = sp := ⟨_, rfl⟩
  have hsp' : (x.s + y.s).tmod 2 = sp := by rw [Int.tmod_eq_emod_of_nonneg (by omega)]; exact hsp
  have hs01 : sp = 0 ∨ sp = 1 := by omega
  have bx : one ≤ (x.M : Int) ∧ (x.M : Int) < 2 * one := by
    rcases hx with ⟨_, hu⟩ | ⟨_, rfl⟩
    · obtain ⟨_, _, _, _, k5, _, _, k8, _⟩ := unpack_bounds h hu; exact ⟨k8 cx, k5⟩
    · cases cx
  have bY : one ≤ (y.M : Int) ∧ (y.M : Int) < 2 * one := by
    rcases hy with ⟨_, hu⟩ | ⟨_, rfl⟩
    · obtain ⟨_, _, _, _, k5, _, _, k8, _⟩ := unpack_bounds h hu; exact ⟨k8 cy, k5⟩
    · cases cy
  obtain ⟨P, hP⟩ : ∃ P : Nat, (P : Int) = p + 4 := ⟨(p + 4).toNat, by omega⟩
  have hm : 2 ^ (P - 1) ≤ x.M * 2 ^ P / y.M := by
    rw [Nat.le_div_iff_mul_le (by omega)]
    have e1 : 2 ^ P = 2 * 2 ^ (P - 1) := by
      obtain ⟨k, rfl⟩ : ∃ k, P = k + 1 := ⟨P - 1, by omega⟩
      rw [Nat.pow_succ, Nat.add_sub_cancel]; omega
    rw [e1, ← Nat.mul_assoc, Nat.mul_comm]
    exact Nat.mul_le_mul_right _ (by omega)
  have hnb : p + 2 ≤ (nb (x.M * 2 ^ P / y.M) : Int) := by
    have := nb_gt hm
    omega
  have hm0 : 0 < x.M * 2 ^ P / y.M := Nat.lt_of_lt_of_le (Nat.pow_pos (by decide)) hm
  refine sDiv_11 f 0 a b _ _ _ _ _ _ _ _ (fun w => l3Fits_yes h 0 a b (by omega) (by omega) a0 fa b0 fb w) (unp_det h a a0 fa hx) (unp_det h b b0 fb hy) (fun w => l3Quiet_any _ _ _ _ false (by simp; omega) w) (fun w => l3Quiet_any _ _ _ _ false (by simp; omega) w) cx cy sp (by omega) (by omega) (by omega) (by omega) hsp' hsp (x.e - y.e - P) (decide (x.M * 2 ^ P % y.M ≠ 0)) (x.M * 2 ^ P / y.M)
    (fun w => l4Quotient_any h 1 x.s x.e 1 y.s y.e x.M y.M (by omega) (by omega) (by omega) (by omega) (by omega) (by omega) (by omega) sp hsp' hsp (by omega) (by omega) (by omega) (by omega) P hP w)
    (fun z fl => 0 ≤ z ∧ z < 18446744073709551616) (fun v w hB => ?_) w
  have hK := big_nb hB (by omega)
  obtain ⟨n, hn, hBig⟩ := hB
  refine (l2Round_any h hBig (by omega) hm0 hK 0 sp _ _ (by omega) (by omega) hs01 (by omega) (by omega) (fun _ => hnb)).mono ?_
  rintro e w' ⟨z, fl, _, z0, z1, rfl, hg⟩
  refine ⟨_, _, ?_, rfl, hg⟩
  unfold sw
  split <;> omega

/-- A small integer is a number of the format. -/
theorem small_int {f p mx one inf sg nan v Z fl : Int} (h : IsFmt f p mx one inf sg nan) (v0 : 0 < v) (v1 : v ≤ 100) (hZ : FromIs f 0 1 v Z fl) : (0 ≤ Z ∧ Z < 18446744073709551616) ∧ ∃ x, OpdIs p mx one inf sg nan Z x ∧ x.c = 1 := by
  have hb := h.bounds
  have hs : signK 1 v = 0 := by unfold signK; rw [if_neg (by omega)]
  have hM : magK 1 v = v.toNat := by unfold magK; rw [if_neg (by omega)]
  have hft : fitsK 1 v = true := by
    unfold fitsK
    rw [hs, hM, show mostK 1 0 = 9223372036854775807 by decide]
    exact decide_eq_true (by omega)
  rcases hZ with ⟨p', mx', one', inf', sg', nan', hF', hm, hk, hp⟩ | ⟨_, _, _, _, _, _, _, k, _⟩ | ⟨k, _⟩
  · obtain ⟨rfl, rfl, rfl, rfl, rfl, rfl⟩ := h.one hF'
    unfold intO at hp
    rw [hs, hM, if_neg (by omega)] at hp
    obtain ⟨z, z0, z1, hz⟩ := whole_exact h 0 v.toNat (by omega) (by omega)
    rcases hp with ⟨c, _⟩ | ⟨_, z', hr, hZ⟩ | ⟨c, _⟩ | ⟨c, _⟩ | ⟨c, _⟩
    · exfalso; dsimp only at c; omega
    · have e1 := (RoundIs.one hr (hz 0)).1
      have e : Z = z := by rw [hZ]; unfold sw; rw [if_neg (by simp)]; exact e1
      rw [e]
      obtain ⟨x, hx⟩ := opd_ex h z (by omega) (by omega)
      refine ⟨⟨by omega, by omega⟩, x, hx, ?_⟩
      rcases hx with ⟨_, u, h1, h2⟩ | ⟨q, _⟩
      · rcases h2 with q | q | q | q | ⟨_, _, q, _⟩
        · exfalso; omega
        · exfalso; omega
        · exfalso; omega
        · exfalso; omega
        · exact q
      · exfalso; omega
    all_goals (exfalso; dsimp only at c; omega)
  · rcases k with k | k
    · exact absurd (by omega) k
    · rw [hft] at k; cases k
  · exact absurd h.yes.symm (by simp [k])
end Go.Proofs.YtfakbjgbbcigpaaGreatDoor

/- spec.DrawToInt. -/
set_option linter.unusedVariables false
set_option linter.unusedSimpArgs false
namespace Go.Proofs.YtfakbjgbbcigpaaGreatDoor
open Go.RowKit

theorem who_fmt (f : Int) (h : f = 0 ∨ f = 1) : ∃ p mx one inf sg nan, IsFmt f p mx one inf sg nan := by
  rcases h with rfl | rfl
  · exact ⟨_, _, _, _, _, _, .inl ⟨rfl, rfl, rfl, rfl, rfl, rfl, rfl⟩⟩
  · exact ⟨_, _, _, _, _, _, .inr ⟨rfl, rfl, rfl, rfl, rfl, rfl, rfl⟩⟩

set_option maxRecDepth 100000 in
set_option maxHeartbeats 8000000 in
theorem drawToInt_any (a : Option Addr) (len cap : Nat) (w : World) (hC : CodeRow w a len)
    (HWd : Hid (∀ (s : Int) (k b n c : Nat) (N : Nat) (w : World), (s = 0 ∨ s = 1) → N < 18446744073709551616 → BigN 20 w (.slice (some ⟨b, 0, none⟩) n c) N → Calls Tryz.prog 22 #[.int .i64 s, .slice (some ⟨b, 0, none⟩) n c] w fun e w' => ∃ z : Int, 0 ≤ z ∧ z < 18446744073709551616 ∧ e = .returned (.int .u64 z) ∧ Gb w w'))
    (HFI : Hid (∀ (f k v : Int) (w : World), (f = 0 ∨ f = 1) → 0 ≤ v → v < 18446744073709551616 → Calls Tryz.prog 6 #[.int .i64 f, .int .i64 2, .int .i64 k, .int .u64 v] w fun e w' => ∃ z fl : Int, (0 ≤ z ∧ z < 18446744073709551616) ∧ e = .returned (.agg #[.int .u64 z, .int .i64 fl]) ∧ Gb w w'))
    (HHa : Hid (∀ (f v : Int), (f = 0 ∨ f = 1) → 0 < v → v ≤ 100 → ∃ z1 fl1 z2 fl2 : Int, Hid (∀ w, Calls Tryz.prog 6 #[.int .i64 f, .int .i64 0, .int .i64 1, .int .u64 v] w fun e w' => e = .returned (.agg #[.int .u64 z1, .int .i64 fl1]) ∧ Gb w w') ∧ Hid (∀ w, Calls Tryz.prog 6 #[.int .i64 f, .int .i64 0, .int .i64 1, .int .u64 2] w fun e w' => e = .returned (.agg #[.int .u64 z2, .int .i64 fl2]) ∧ Gb w w') ∧
      Hid (∀ w, Calls Tryz.prog 50 #[.int .i64 f, .int .i64 0, .int .u64 z1, .int .u64 z2] w fun e w' => ∃ z fl : Int, (0 ≤ z ∧ z < 18446744073709551616) ∧ e = .returned (.agg #[.int .u64 z, .int .i64 fl]) ∧ Gb w w'))) :
    Calls Tryz.prog 13 #[.slice a len cap] w (FromDraw w) := by
  have HC : Hid (CodeRow w a len) := hC
  clear hC
  have hfd : ∀ z fl w, (Instr.field 27 (.agg #[.int .u64 z, .int .i64 fl]) 0).run Tryz.prog w = .ok (.int .u64 z) w := fun z fl w => by kernel_rfl
  go_enter Tryz.func13, Tryz.ntmps13
  go_upto_region 2 with (go_at_call 17; refine (drawFormat_any a len cap 0 _ HC.out (by omega)).mono ?_; rintro x w' ⟨f, m, f0, f1, m0, m1, rfl, hw⟩; subst hw)
  go_upto_region 3 with (go_at_call 18; refine (drawKind_any a len cap 2 _ HC.out (by omega)).mono ?_; rintro x w' ⟨kd, k0, k1, rfl, hw⟩; subst hw)
  go_upto_region 4 with (go_at_call 19; refine (take_any a len cap 3 10 _ HC.out (by omega) (by omega) (by omega)).mono ?_; rintro x w' ⟨how, h0, h1, rfl, hw⟩; subst hw)
  go_upto_region 5 with (go_at_call 40; refine (drawAny_any a len cap 4 f _ HC.out (by omega)).mono ?_; rintro x w' ⟨v, j, v0, v1, hj, rfl, hw⟩; subst hw)
  go_upto_region 6 with (go_at_call 19; refine (take_any a len cap j 9 _ HC.out (by omega) (by omega) (by omega)).mono ?_; rintro x w' ⟨x9, x0, x1, rfl, hw⟩; subst hw)
  obtain ⟨B, hB⟩ : ∃ B, bitsK kd = B := ⟨_, rfl⟩
  obtain ⟨S, hS⟩ : ∃ S, sgnK kd = S := ⟨_, rfl⟩
  have HK : Hid (∀ w, Calls Tryz.prog 21 #[.int .i64 kd] w fun e w' => e = .returned (.tuple #[.int .i64 B, .bool S]) ∧ w = w') := fun w => by rw [← hB, ← hS]; exact l5Kind_any kd w
  have HM : Hid (∀ s w, (s = 0 ∨ s = 1) → Calls Tryz.prog 23 #[.int .i64 kd, .int .i64 s] w fun e w' => ∃ b k c, BigN 20 w' (.slice (some ⟨b, 0, none⟩) k c) (mostK kd s) ∧ e = .returned (.slice (some ⟨b, 0, none⟩) k c) ∧ Gb w w') := fun s w hs => l5Most_any kd s hs w
  clear hB hS
  go_upto_region 7 with (go_at_call 21; refine (HK.out _).mono ?_; rintro x w' ⟨rfl, hw⟩; subst hw)
  by_cases hf : f = 0 ∨ f = 1
  · obtain ⟨pp, mx, one, inf, sg, nan, hF⟩ := who_fmt f hf
    have hbb := hF.bounds
    have HFm : Hid (∀ w, Calls Tryz.prog 26 #[.int .i64 f] w fun e w' => e = .returned (.bool true) ∧ w = w') := fun w => l2Format_any f true (IsFmt.yes hF) w
    have HSg : Hid (∀ w, Calls Tryz.prog 49 #[.int .i64 f] w fun e w' => e = .returned (.int .u64 sg) ∧ w = w') := fun w => l2Sign_any hF w
    have HPu : Hid (∀ s v w, (s = 0 ∨ s = 1) → 0 ≤ v → v < 18446744073709551616 → Calls Tryz.prog 51 #[.int .i64 f, .int .i64 s, .int .u64 v] w fun e w' => ∃ z : Int, 0 ≤ z ∧ z < 18446744073709551616 ∧ e = .returned (.int .u64 z) ∧ w = w') := fun s v w hs v0 v1 => l2Put_some hF s v hs v0 v1 w
    have s0 : ¬ sg = 0 := by omega
    have Hf : Hid (f = 0 ∨ f = 1) := hf
    clear hF hf hbb
    rcases (show (decide (how < 2) = true ∧ how < 2 ∧ ¬ how = 2) ∨ how = 2 ∨ (decide (how < 2) = false ∧ ¬ how < 2 ∧ ¬ how = 2) by simp; omega) with ⟨d1, d2, d3⟩ | rfl | ⟨d1, d2, d3⟩
    · rcases (show (decide (0 < B) = true ∧ 0 < B) ∨ (decide (0 < B) = false ∧ ¬ 0 < B) by simp; omega) with ⟨b1, b2⟩ | ⟨b1, b2⟩
      · rcases (show x9 = 0 ∨ x9 = 1 ∨ x9 = 2 ∨ x9 = 3 ∨ x9 = 4 ∨ x9 = 5 ∨ x9 = 6 ∨ x9 = 7 ∨ x9 = 8 by omega) with rfl | rfl | rfl | rfl | rfl | rfl | rfl | rfl | rfl
        all_goals
          go_upto_region 9 with (first
            | (go_at_call 26; refine (HFm.out _).mono ?_; rintro x w' ⟨rfl, hw⟩; subst hw)
            | (go_at_call 23; refine (HM.out _ _ (by decide)).mono ?_; rintro x w1 ⟨b1, n1, c1, hb1, rfl, hg_w1⟩)
            | (go_at_call 22; refine (HWd.out _ 0 _ _ _ _ _ (by decide) (mostK_lt _ _) hb1).mono ?_; rintro x w2 ⟨z, z0, z1, rfl, hg_w2⟩)
            | (go_at_call 6; refine (HFI.out _ _ _ _ Hf.out z0 z1).mono ?_; rintro x w3 ⟨y, fl, ⟨y0, y1⟩, rfl, hg_w3⟩))
          obtain ⟨r, hr⟩ : ∃ r, Int.tmod y sg = r := ⟨_, rfl⟩
          rcases (show 8 < r ∨ ¬ 8 < r by omega) with c1 | c1
          all_goals
            go_wp2_with (go_at_call 49; refine (HSg.out _).mono ?_; rintro x w' ⟨rfl, hw⟩; subst hw)
            go_returns
            exact ⟨f, m, kd, _, f0, f1, m0, m1, k0, k1, by first | omega | exact (wrap_u64_in _).1, by first | omega | exact (wrap_u64_in _).2, rfl, (hg_w1.trans hg_w2).trans hg_w3⟩
      · go_wp2_with (go_at_call 26; refine (HFm.out _).mono ?_; rintro x w' ⟨rfl, hw⟩; subst hw)
        go_returns
        exact ⟨f, m, kd, v, f0, f1, m0, m1, k0, k1, v0, v1, rfl, Gb.refl _⟩
    · rcases (show x9 = 0 ∨ x9 = 1 ∨ x9 = 2 ∨ x9 = 3 ∨ x9 = 4 ∨ x9 = 5 ∨ x9 = 6 ∨ x9 = 7 ∨ x9 = 8 by omega) with rfl | rfl | rfl | rfl | rfl | rfl | rfl | rfl | rfl
      · obtain ⟨z1, g1, z2, g2, I1, I2, HDv⟩ := HHa.out f 1 Hf.out (by decide) (by decide)
        go_wp2_with (first
          | (go_at_call 26; refine (HFm.out _).mono ?_; rintro x w' ⟨rfl, hw⟩; subst hw)
          | (go_at_call 6; first | (with_reducible refine (I1.out _).mono ?_; rintro x w1 ⟨rfl, hg_w1⟩) | (with_reducible refine (I2.out _).mono ?_; rintro x w2 ⟨rfl, hg_w2⟩))
          | (go_at_call 50; refine (HDv.out _).mono ?_; rintro x w3 ⟨y, fl, ⟨y0, y1⟩, rfl, hg_w3⟩)
          | (go_at_call 51; refine (HPu.out _ _ _ (by decide) y0 y1).mono ?_; rintro x w' ⟨u, u0, u1, rfl, hw⟩; subst hw))
        go_returns
        exact ⟨f, m, kd, _, f0, f1, m0, m1, k0, k1, u0, u1, rfl, (hg_w1.trans hg_w2).trans hg_w3⟩
      · obtain ⟨z1, g1, z2, g2, I1, I2, HDv⟩ := HHa.out f 3 Hf.out (by decide) (by decide)
        go_wp2_with (first
          | (go_at_call 26; refine (HFm.out _).mono ?_; rintro x w' ⟨rfl, hw⟩; subst hw)
          | (go_at_call 6; first | (with_reducible refine (I1.out _).mono ?_; rintro x w1 ⟨rfl, hg_w1⟩) | (with_reducible refine (I2.out _).mono ?_; rintro x w2 ⟨rfl, hg_w2⟩))
          | (go_at_call 50; refine (HDv.out _).mono ?_; rintro x w3 ⟨y, fl, ⟨y0, y1⟩, rfl, hg_w3⟩)
          | (go_at_call 51; refine (HPu.out _ _ _ (by decide) y0 y1).mono ?_; rintro x w' ⟨u, u0, u1, rfl, hw⟩; subst hw))
        go_returns
        exact ⟨f, m, kd, _, f0, f1, m0, m1, k0, k1, u0, u1, rfl, (hg_w1.trans hg_w2).trans hg_w3⟩
      · obtain ⟨z1, g1, z2, g2, I1, I2, HDv⟩ := HHa.out f 5 Hf.out (by decide) (by decide)
        go_wp2_with (first
          | (go_at_call 26; refine (HFm.out _).mono ?_; rintro x w' ⟨rfl, hw⟩; subst hw)
          | (go_at_call 6; first | (with_reducible refine (I1.out _).mono ?_; rintro x w1 ⟨rfl, hg_w1⟩) | (with_reducible refine (I2.out _).mono ?_; rintro x w2 ⟨rfl, hg_w2⟩))
          | (go_at_call 50; refine (HDv.out _).mono ?_; rintro x w3 ⟨y, fl, ⟨y0, y1⟩, rfl, hg_w3⟩)
          | (go_at_call 51; refine (HPu.out _ _ _ (by decide) y0 y1).mono ?_; rintro x w' ⟨u, u0, u1, rfl, hw⟩; subst hw))
        go_returns
        exact ⟨f, m, kd, _, f0, f1, m0, m1, k0, k1, u0, u1, rfl, (hg_w1.trans hg_w2).trans hg_w3⟩
      · obtain ⟨z1, g1, z2, g2, I1, I2, HDv⟩ := HHa.out f 7 Hf.out (by decide) (by decide)
        go_wp2_with (first
          | (go_at_call 26; refine (HFm.out _).mono ?_; rintro x w' ⟨rfl, hw⟩; subst hw)
          | (go_at_call 6; first | (with_reducible refine (I1.out _).mono ?_; rintro x w1 ⟨rfl, hg_w1⟩) | (with_reducible refine (I2.out _).mono ?_; rintro x w2 ⟨rfl, hg_w2⟩))
          | (go_at_call 50; refine (HDv.out _).mono ?_; rintro x w3 ⟨y, fl, ⟨y0, y1⟩, rfl, hg_w3⟩)
          | (go_at_call 51; refine (HPu.out _ _ _ (by decide) y0 y1).mono ?_; rintro x w' ⟨u, u0, u1, rfl, hw⟩; subst hw))
        go_returns
        exact ⟨f, m, kd, _, f0, f1, m0, m1, k0, k1, u0, u1, rfl, (hg_w1.trans hg_w2).trans hg_w3⟩
      · obtain ⟨z1, g1, z2, g2, I1, I2, HDv⟩ := HHa.out f 9 Hf.out (by decide) (by decide)
        go_wp2_with (first
          | (go_at_call 26; refine (HFm.out _).mono ?_; rintro x w' ⟨rfl, hw⟩; subst hw)
          | (go_at_call 6; first | (with_reducible refine (I1.out _).mono ?_; rintro x w1 ⟨rfl, hg_w1⟩) | (with_reducible refine (I2.out _).mono ?_; rintro x w2 ⟨rfl, hg_w2⟩))
          | (go_at_call 50; refine (HDv.out _).mono ?_; rintro x w3 ⟨y, fl, ⟨y0, y1⟩, rfl, hg_w3⟩)
          | (go_at_call 51; refine (HPu.out _ _ _ (by decide) y0 y1).mono ?_; rintro x w' ⟨u, u0, u1, rfl, hw⟩; subst hw))
        go_returns
        exact ⟨f, m, kd, _, f0, f1, m0, m1, k0, k1, u0, u1, rfl, (hg_w1.trans hg_w2).trans hg_w3⟩
      · obtain ⟨z1, g1, z2, g2, I1, I2, HDv⟩ := HHa.out f 11 Hf.out (by decide) (by decide)
        go_wp2_with (first
          | (go_at_call 26; refine (HFm.out _).mono ?_; rintro x w' ⟨rfl, hw⟩; subst hw)
          | (go_at_call 6; first | (with_reducible refine (I1.out _).mono ?_; rintro x w1 ⟨rfl, hg_w1⟩) | (with_reducible refine (I2.out _).mono ?_; rintro x w2 ⟨rfl, hg_w2⟩))
          | (go_at_call 50; refine (HDv.out _).mono ?_; rintro x w3 ⟨y, fl, ⟨y0, y1⟩, rfl, hg_w3⟩)
          | (go_at_call 51; refine (HPu.out _ _ _ (by decide) y0 y1).mono ?_; rintro x w' ⟨u, u0, u1, rfl, hw⟩; subst hw))
        go_returns
        exact ⟨f, m, kd, _, f0, f1, m0, m1, k0, k1, u0, u1, rfl, (hg_w1.trans hg_w2).trans hg_w3⟩
      · obtain ⟨z1, g1, z2, g2, I1, I2, HDv⟩ := HHa.out f 13 Hf.out (by decide) (by decide)
        go_wp2_with (first
          | (go_at_call 26; refine (HFm.out _).mono ?_; rintro x w' ⟨rfl, hw⟩; subst hw)
          | (go_at_call 6; first | (with_reducible refine (I1.out _).mono ?_; rintro x w1 ⟨rfl, hg_w1⟩) | (with_reducible refine (I2.out _).mono ?_; rintro x w2 ⟨rfl, hg_w2⟩))
          | (go_at_call 50; refine (HDv.out _).mono ?_; rintro x w3 ⟨y, fl, ⟨y0, y1⟩, rfl, hg_w3⟩)
          | (go_at_call 51; refine (HPu.out _ _ _ (by decide) y0 y1).mono ?_; rintro x w' ⟨u, u0, u1, rfl, hw⟩; subst hw))
        go_returns
        exact ⟨f, m, kd, _, f0, f1, m0, m1, k0, k1, u0, u1, rfl, (hg_w1.trans hg_w2).trans hg_w3⟩
      · obtain ⟨z1, g1, z2, g2, I1, I2, HDv⟩ := HHa.out f 15 Hf.out (by decide) (by decide)
        go_wp2_with (first
          | (go_at_call 26; refine (HFm.out _).mono ?_; rintro x w' ⟨rfl, hw⟩; subst hw)
          | (go_at_call 6; first | (with_reducible refine (I1.out _).mono ?_; rintro x w1 ⟨rfl, hg_w1⟩) | (with_reducible refine (I2.out _).mono ?_; rintro x w2 ⟨rfl, hg_w2⟩))
          | (go_at_call 50; refine (HDv.out _).mono ?_; rintro x w3 ⟨y, fl, ⟨y0, y1⟩, rfl, hg_w3⟩)
          | (go_at_call 51; refine (HPu.out _ _ _ (by decide) y0 y1).mono ?_; rintro x w' ⟨u, u0, u1, rfl, hw⟩; subst hw))
        go_returns
        exact ⟨f, m, kd, _, f0, f1, m0, m1, k0, k1, u0, u1, rfl, (hg_w1.trans hg_w2).trans hg_w3⟩
      · obtain ⟨z1, g1, z2, g2, I1, I2, HDv⟩ := HHa.out f 17 Hf.out (by decide) (by decide)
        go_wp2_with (first
          | (go_at_call 26; refine (HFm.out _).mono ?_; rintro x w' ⟨rfl, hw⟩; subst hw)
          | (go_at_call 6; first | (with_reducible refine (I1.out _).mono ?_; rintro x w1 ⟨rfl, hg_w1⟩) | (with_reducible refine (I2.out _).mono ?_; rintro x w2 ⟨rfl, hg_w2⟩))
          | (go_at_call 50; refine (HDv.out _).mono ?_; rintro x w3 ⟨y, fl, ⟨y0, y1⟩, rfl, hg_w3⟩)
          | (go_at_call 51; refine (HPu.out _ _ _ (by decide) y0 y1).mono ?_; rintro x w' ⟨u, u0, u1, rfl, hw⟩; subst hw))
        go_returns
        exact ⟨f, m, kd, _, f0, f1, m0, m1, k0, k1, u0, u1, rfl, (hg_w1.trans hg_w2).trans hg_w3⟩
    · go_wp2_with (go_at_call 26; refine (HFm.out _).mono ?_; rintro x w' ⟨rfl, hw⟩; subst hw)
      go_returns
      exact ⟨f, m, kd, v, f0, f1, m0, m1, k0, k1, v0, v1, rfl, Gb.refl _⟩
  · have HFm : Hid (∀ w, Calls Tryz.prog 26 #[.int .i64 f] w fun e w' => e = .returned (.bool false) ∧ w = w') := fun w => l2Format_any f false (by symm; simp; omega) w
    clear hf
    rcases (show (decide (how < 2) = true ∧ how < 2 ∧ ¬ how = 2) ∨ how = 2 ∨ (decide (how < 2) = false ∧ ¬ how < 2 ∧ ¬ how = 2) by simp; omega) with ⟨d1, d2, d3⟩ | rfl | ⟨d1, d2, d3⟩
    · rcases (show (decide (0 < B) = true ∧ 0 < B) ∨ (decide (0 < B) = false ∧ ¬ 0 < B) by simp; omega) with ⟨b1, b2⟩ | ⟨b1, b2⟩
      all_goals
        go_wp2_with (go_at_call 26; refine (HFm.out _).mono ?_; rintro x w' ⟨rfl, hw⟩; subst hw)
        go_returns
        exact ⟨f, m, kd, v, f0, f1, m0, m1, k0, k1, v0, v1, rfl, Gb.refl _⟩
    all_goals
      go_wp2_with (go_at_call 26; refine (HFm.out _).mono ?_; rintro x w' ⟨rfl, hw⟩; subst hw)
      go_returns
      exact ⟨f, m, kd, v, f0, f1, m0, m1, k0, k1, v0, v1, rfl, Gb.refl _⟩
end Go.Proofs.YtfakbjgbbcigpaaGreatDoor
