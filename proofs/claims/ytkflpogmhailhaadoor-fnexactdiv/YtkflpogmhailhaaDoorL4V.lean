/- spec.l4Quotient. -/
import Derived.Test.YtkflpogmhailhaaDoorB4
import Derived.Test.YtkflpogmhailhaaDoorBigDiv
set_option linter.unusedVariables false
set_option linter.unusedSimpArgs false
namespace Go.Proofs.YtkflpogmhailhaaDoor
open Go.RowKit

theorem bigN_nil {K : Nat} {w : World} {b k c N : Nat} (h : BigN K w (.slice (some ⟨b, 0, none⟩) k c) N) (h0 : N = 0) : k = 0 := by
  obtain ⟨n, hn, hnm, hr⟩ := h
  have e : n = k := by obtain ⟨_, b', c', hv, _⟩ := hr; cases hv; rfl
  rw [← e]; exact (hnm.iff).2 h0
theorem bigN_pos {K : Nat} {w : World} {b k c N : Nat} (h : BigN K w (.slice (some ⟨b, 0, none⟩) k c) N) (h0 : N ≠ 0) : 0 < k := by
  obtain ⟨n, hn, hnm, hr⟩ := h
  have e : n = k := by obtain ⟨_, b', c', hv, _⟩ := hr; cases hv; rfl
  rw [← e]
  rcases Nat.eq_zero_or_pos n with c | c
  · exact absurd ((hnm.iff).1 c) h0
  · exact c

/-- Quotient and rest, as slices. -/
theorem div_slices {K L : Nat} {v v' : Value} {N N' : Nat} {w : World} (hK : K ≤ 1000) (hL : L ≤ 1000) (h : BigN K w v N) (h' : BigN L w v' N') (h0 : 0 < N') :
    Calls Tryd.prog 32 #[v, v'] w fun e w' => ∃ b k c b' k' c', BigN K w' (.slice (some ⟨b, 0, none⟩) k c) (N / N') ∧ BigN (L + 1) w' (.slice (some ⟨b', 0, none⟩) k' c') (N % N') ∧ e = .returned (.tuple #[.slice (some ⟨b, 0, none⟩) k c, .slice (some ⟨b', 0, none⟩) k' c']) ∧ Gb w w' := by
  obtain ⟨n, hn, hb⟩ := h
  obtain ⟨n', hn', hb'⟩ := h'
  refine (l2Div_any hb (by omega) hb' (by omega) h0).mono ?_
  rintro e w' ⟨q, r, k, k', rfl, hq, hr, hk, hk', hg⟩
  obtain ⟨b, c, rfl, _⟩ := Big.shape hq
  obtain ⟨b', c', rfl, _⟩ := Big.shape hr
  exact ⟨b, k, c, b', k', c', ⟨k, by omega, hq⟩, ⟨k', by omega, hr⟩, rfl, hg⟩

set_option maxRecDepth 1000000 in
set_option maxHeartbeats 8000000 in
theorem l4Quotient_any {f p mx one inf sg nan : Int} (h : IsFmt f p mx one inf sg nan) (c s x c' s' x' : Int) (A B : Nat) (hA : A < 18446744073709551616) (hB : B < 18446744073709551616) (hB0 : 0 < B) (a0 : 0 ≤ s) (a1 : s ≤ 1) (b0 : 0 ≤ s') (b1 : s' ≤ 1) (sp : Int) (hm1 : (s + s').tmod 2 = sp) (hm2 : (s + s') % 2 = sp) (x0 : -50000 ≤ x) (x1 : x ≤ 50000) (y0 : -50000 ≤ x') (y1 : x' ≤ 50000) (P : Nat) (hP : (P : Int) = p + 4) (w : World) :
    Calls Tryd.prog 43 #[.int .i64 f, .agg #[.int .i64 c, .int .i64 s, .int .i64 x, .int .u64 ((A : Nat))], .agg #[.int .i64 (c'), .int .i64 (s'), .int .i64 (x'), .int .u64 ((B : Nat))]] w fun e w' => ∃ b k cc, BigN 8 w' (.slice (some ⟨b, 0, none⟩) k cc) (A * 2 ^ P / B) ∧ e = .returned (.agg #[.int .i64 sp, .slice (some ⟨b, 0, none⟩) k cc, .int .i64 (x - x' - P), .bool (decide (A * 2 ^ P % B ≠ 0))]) ∧ Gb w w' := by
  have hpb : p ≤ 53 ∧ 24 ≤ p := by rcases h with h | h <;> omega
  have hP60 : P ≤ 57 := by omega
  have HB : Hid (∀ (H : Nat) w, H < 18446744073709551616 → Calls Tryd.prog 31 #[.int .u64 (H : Nat)] w fun e w' => ∃ b k c, BigN 2 w' (.slice (some ⟨b, 0, none⟩) k c) H ∧ e = .returned (.slice (some ⟨b, 0, none⟩) k c) ∧ Gb w w') := fun H w hH => big_slice (l2Big_any H hH w)
  have HS : Hid (∀ v w, BigN 2 w v A → Calls Tryd.prog 30 #[v, .int .i64 (P : Int)] w fun e w' => ∃ b k c, BigN 8 w' (.slice (some ⟨b, 0, none⟩) k c) (A * 2 ^ P) ∧ e = .returned (.slice (some ⟨b, 0, none⟩) k c) ∧ Gb w w') := fun v w ⟨n, a1, a2⟩ => big_slice ((l2Shl_any a2 (by omega) P (by omega)).mono (fun e w' ⟨v, k, c1, c2, c3, c4⟩ => ⟨v, k, c1, c2, by omega, c4⟩))
  have HD : Hid (∀ v v' w, BigN 8 w v (A * 2 ^ P) → BigN 2 w v' B → Calls Tryd.prog 32 #[v, v'] w fun e w' => ∃ b k c b' k' c', BigN 8 w' (.slice (some ⟨b, 0, none⟩) k c) (A * 2 ^ P / B) ∧ BigN 3 w' (.slice (some ⟨b', 0, none⟩) k' c') (A * 2 ^ P % B) ∧ e = .returned (.tuple #[.slice (some ⟨b, 0, none⟩) k c, .slice (some ⟨b', 0, none⟩) k' c']) ∧ Gb w w') := fun v v' w h1 h2 => div_slices (by omega) (by omega) h1 h2 hB0
  have HP : Hid (∀ w, Calls Tryd.prog 45 #[.int .i64 f] w fun e w' => e = .returned (.int .i64 p) ∧ w = w') := fun w => l2P_any h w
  have g1 : p + 4 = (P : Int) := hP.symm
  obtain ⟨z, hz⟩ : ∃ z, x - x' - (P : Int) = z := ⟨_, rfl⟩
  rw [hz]
  clear hP h
  by_cases hr : A * 2 ^ P % B = 0
  · rw [show decide (A * 2 ^ P % B ≠ 0) = false by simp [hr]]
    have HR : Hid _ := hr
    clear hr
    generalize A * 2 ^ P % B = R at *
    generalize A * 2 ^ P / B = Qn at *
    generalize A * 2 ^ P = X at *
    go_enter Tryd.func43, Tryd.ntmps43
    go_wp2_with (go_at_call 45; refine (HP.out _).mono ?_; rintro e wp ⟨rfl, hw⟩; subst hw)
    go_region_held3 (fun w' => w'.cell? ⟨w.heap.size, 1, none⟩ = some (.int .i64 s) ∧ w'.cell? ⟨w.heap.size, 2, none⟩ = some (.int .i64 x) ∧ w'.cell? ⟨w.heap.size, 3, none⟩ = some (.int .u64 (A : Nat)) ∧ w'.cell? ⟨w.heap.size + 1, 1, none⟩ = some (.int .i64 s') ∧ w'.cell? ⟨w.heap.size + 1, 2, none⟩ = some (.int .i64 x') ∧ w'.cell? ⟨w.heap.size + 1, 3, none⟩ = some (.int .u64 (B : Nat)))
      ((go_split_ands; (repeat' apply And.intro) <;> (repeat' (first | (with_reducible assumption) | (with_reducible refine has_of (by with_reducible assumption)) | (with_reducible refine Gr.old (by with_reducible assumption) ?_) | (with_reducible refine Gb.old (by with_reducible assumption) ?_) | (with_reducible refine Gb.hs (by with_reducible assumption) ?_) | (with_reducible refine has_old (by with_reducible assumption) ?_) | (with_reducible refine cell_setSame ?_) | (with_reducible refine has_set ?_) | (with_reducible refine cell_setOff ?_ ?_; omega) | (with_reducible refine cell_setNew ?_ ?_; (dsimp only; omega)) | (simp [go_sem]; done) | (with_reducible refine cell_alloc _ ?_) | (with_reducible refine cell_drew ?_) | (with_reducible refine has_alloc _ ?_) | (with_reducible refine fz_old (by with_reducible assumption) ?_) | (with_reducible refine Gb.fh (by with_reducible assumption) (by with_reducible assumption) ?_) | (with_reducible refine fz_alloc ?_) | (with_reducible refine fz_set ?_) | (with_reducible refine fz_drew ?_) | go_size))))
      (first
        | (go_at_call 31; refine (HB.out _ _ (by assumption)).mono ?_; rintro e w1 ⟨b, k, cc, hbig, rfl, hg_w1⟩; have ar0 : w1.cell? ⟨w.heap.size + 1 + 1, 0, none⟩ = some (.int .i64 0) := hg_w1.c; have arz0 : w1.frozen? ⟨w.heap.size + 1 + 1, 0, none⟩ = false := hg_w1.z ar0; have ar1 : w1.cell? ⟨w.heap.size + 1 + 1, 1, none⟩ = some (.slice none 0 0) := hg_w1.c; have arz1 : w1.frozen? ⟨w.heap.size + 1 + 1, 1, none⟩ = false := hg_w1.z ar1; have ar2 : w1.cell? ⟨w.heap.size + 1 + 1, 2, none⟩ = some (.int .i64 0) := hg_w1.c; have arz2 : w1.frozen? ⟨w.heap.size + 1 + 1, 2, none⟩ = false := hg_w1.z ar2; have ar3 : w1.cell? ⟨w.heap.size + 1 + 1, 3, none⟩ = some (.bool false) := hg_w1.c; have arz3 : w1.frozen? ⟨w.heap.size + 1 + 1, 3, none⟩ = false := hg_w1.z ar3)
        | (go_at_call 30; refine (HS.out _ _ (BigN.gb (by assumption) Gb.g)).mono ?_; rintro e w2 ⟨b2, k2, cc2, hbig2, rfl, hg_w2⟩; have br0 : w2.cell? ⟨w.heap.size + 1 + 1, 0, none⟩ = some (.int .i64 0) := hg_w2.c; have brz0 : w2.frozen? ⟨w.heap.size + 1 + 1, 0, none⟩ = false := hg_w2.z br0; have br1 : w2.cell? ⟨w.heap.size + 1 + 1, 1, none⟩ = some (.slice none 0 0) := hg_w2.c; have brz1 : w2.frozen? ⟨w.heap.size + 1 + 1, 1, none⟩ = false := hg_w2.z br1; have br2 : w2.cell? ⟨w.heap.size + 1 + 1, 2, none⟩ = some (.int .i64 0) := hg_w2.c; have brz2 : w2.frozen? ⟨w.heap.size + 1 + 1, 2, none⟩ = false := hg_w2.z br2; have br3 : w2.cell? ⟨w.heap.size + 1 + 1, 3, none⟩ = some (.bool false) := hg_w2.c; have brz3 : w2.frozen? ⟨w.heap.size + 1 + 1, 3, none⟩ = false := hg_w2.z br3)
        | (go_at_call 32; refine (HD.out _ _ _ (BigN.gb (by assumption) Gb.g) (BigN.gb (by assumption) Gb.g)).mono ?_; rintro e w3 ⟨b3, k3, cc3, b4, k4, cc4, hbig3, hbig4, rfl, hg_w3⟩; have cr0 : w3.cell? ⟨w.heap.size + 1 + 1, 0, none⟩ = some (.int .i64 0) := hg_w3.c; have crz0 : w3.frozen? ⟨w.heap.size + 1 + 1, 0, none⟩ = false := hg_w3.z cr0; have cr1 : w3.cell? ⟨w.heap.size + 1 + 1, 1, none⟩ = some (.slice none 0 0) := hg_w3.c; have crz1 : w3.frozen? ⟨w.heap.size + 1 + 1, 1, none⟩ = false := hg_w3.z cr1; have cr2 : w3.cell? ⟨w.heap.size + 1 + 1, 2, none⟩ = some (.int .i64 0) := hg_w3.c; have crz2 : w3.frozen? ⟨w.heap.size + 1 + 1, 2, none⟩ = false := hg_w3.z cr2; have cr3 : w3.cell? ⟨w.heap.size + 1 + 1, 3, none⟩ = some (.bool false) := hg_w3.c; have crz3 : w3.frozen? ⟨w.heap.size + 1 + 1, 3, none⟩ = false := hg_w3.z cr3; have cx1 : w3.cell? ⟨w.heap.size, 1, none⟩ = some (.int .i64 s) := hg_w3.c; have cx2 : w3.cell? ⟨w.heap.size, 2, none⟩ = some (.int .i64 x) := hg_w3.c; have cy1 : w3.cell? ⟨w.heap.size + 1, 1, none⟩ = some (.int .i64 (s')) := hg_w3.c; have cy2 : w3.cell? ⟨w.heap.size + 1, 2, none⟩ = some (.int .i64 (x')) := hg_w3.c; obtain rfl : k4 = 0 := (bigN_nil hbig4 HR.out)))
    all_goals (try go_split_ands)
    all_goals go_wp2
    all_goals
      refine bodyPost_ret (v := .agg #[.int .i64 sp, .slice (some ⟨b3, 0, none⟩) k3 cc3, .int .i64 z, .bool false]) (by simp [results, Tryd.results43, go_sem, cr0, cr1, cr2, cr3]) rfl ⟨b3, k3, cc3, ?_, rfl, ?_⟩
      · exact hbig3.st4 cr0 cr1 cr2 cr3
      · exact Gb.g
  · rw [show decide (A * 2 ^ P % B ≠ 0) = true by simp [hr]]
    have HR : Hid (A * 2 ^ P % B ≠ 0) := hr
    clear hr
    generalize A * 2 ^ P % B = R at *
    generalize A * 2 ^ P / B = Qn at *
    generalize A * 2 ^ P = X at *
    go_enter Tryd.func43, Tryd.ntmps43
    go_wp2_with (go_at_call 45; refine (HP.out _).mono ?_; rintro e wp ⟨rfl, hw⟩; subst hw)
    go_region_held3 (fun w' => w'.cell? ⟨w.heap.size, 1, none⟩ = some (.int .i64 s) ∧ w'.cell? ⟨w.heap.size, 2, none⟩ = some (.int .i64 x) ∧ w'.cell? ⟨w.heap.size, 3, none⟩ = some (.int .u64 (A : Nat)) ∧ w'.cell? ⟨w.heap.size + 1, 1, none⟩ = some (.int .i64 s') ∧ w'.cell? ⟨w.heap.size + 1, 2, none⟩ = some (.int .i64 x') ∧ w'.cell? ⟨w.heap.size + 1, 3, none⟩ = some (.int .u64 (B : Nat)))
      ((go_split_ands; (repeat' apply And.intro) <;> (repeat' (first | (with_reducible assumption) | (with_reducible refine has_of (by with_reducible assumption)) | (with_reducible refine Gr.old (by with_reducible assumption) ?_) | (with_reducible refine Gb.old (by with_reducible assumption) ?_) | (with_reducible refine Gb.hs (by with_reducible assumption) ?_) | (with_reducible refine has_old (by with_reducible assumption) ?_) | (with_reducible refine cell_setSame ?_) | (with_reducible refine has_set ?_) | (with_reducible refine cell_setOff ?_ ?_; omega) | (with_reducible refine cell_setNew ?_ ?_; (dsimp only; omega)) | (simp [go_sem]; done) | (with_reducible refine cell_alloc _ ?_) | (with_reducible refine cell_drew ?_) | (with_reducible refine has_alloc _ ?_) | (with_reducible refine fz_old (by with_reducible assumption) ?_) | (with_reducible refine Gb.fh (by with_reducible assumption) (by with_reducible assumption) ?_) | (with_reducible refine fz_alloc ?_) | (with_reducible refine fz_set ?_) | (with_reducible refine fz_drew ?_) | go_size))))
      (first
        | (go_at_call 31; refine (HB.out _ _ (by assumption)).mono ?_; rintro e w1 ⟨b, k, cc, hbig, rfl, hg_w1⟩; have ar0 : w1.cell? ⟨w.heap.size + 1 + 1, 0, none⟩ = some (.int .i64 0) := hg_w1.c; have arz0 : w1.frozen? ⟨w.heap.size + 1 + 1, 0, none⟩ = false := hg_w1.z ar0; have ar1 : w1.cell? ⟨w.heap.size + 1 + 1, 1, none⟩ = some (.slice none 0 0) := hg_w1.c; have arz1 : w1.frozen? ⟨w.heap.size + 1 + 1, 1, none⟩ = false := hg_w1.z ar1; have ar2 : w1.cell? ⟨w.heap.size + 1 + 1, 2, none⟩ = some (.int .i64 0) := hg_w1.c; have arz2 : w1.frozen? ⟨w.heap.size + 1 + 1, 2, none⟩ = false := hg_w1.z ar2; have ar3 : w1.cell? ⟨w.heap.size + 1 + 1, 3, none⟩ = some (.bool false) := hg_w1.c; have arz3 : w1.frozen? ⟨w.heap.size + 1 + 1, 3, none⟩ = false := hg_w1.z ar3)
        | (go_at_call 30; refine (HS.out _ _ (BigN.gb (by assumption) Gb.g)).mono ?_; rintro e w2 ⟨b2, k2, cc2, hbig2, rfl, hg_w2⟩; have br0 : w2.cell? ⟨w.heap.size + 1 + 1, 0, none⟩ = some (.int .i64 0) := hg_w2.c; have brz0 : w2.frozen? ⟨w.heap.size + 1 + 1, 0, none⟩ = false := hg_w2.z br0; have br1 : w2.cell? ⟨w.heap.size + 1 + 1, 1, none⟩ = some (.slice none 0 0) := hg_w2.c; have brz1 : w2.frozen? ⟨w.heap.size + 1 + 1, 1, none⟩ = false := hg_w2.z br1; have br2 : w2.cell? ⟨w.heap.size + 1 + 1, 2, none⟩ = some (.int .i64 0) := hg_w2.c; have brz2 : w2.frozen? ⟨w.heap.size + 1 + 1, 2, none⟩ = false := hg_w2.z br2; have br3 : w2.cell? ⟨w.heap.size + 1 + 1, 3, none⟩ = some (.bool false) := hg_w2.c; have brz3 : w2.frozen? ⟨w.heap.size + 1 + 1, 3, none⟩ = false := hg_w2.z br3)
        | (go_at_call 32; refine (HD.out _ _ _ (BigN.gb (by assumption) Gb.g) (BigN.gb (by assumption) Gb.g)).mono ?_; rintro e w3 ⟨b3, k3, cc3, b4, k4, cc4, hbig3, hbig4, rfl, hg_w3⟩; have cr0 : w3.cell? ⟨w.heap.size + 1 + 1, 0, none⟩ = some (.int .i64 0) := hg_w3.c; have crz0 : w3.frozen? ⟨w.heap.size + 1 + 1, 0, none⟩ = false := hg_w3.z cr0; have cr1 : w3.cell? ⟨w.heap.size + 1 + 1, 1, none⟩ = some (.slice none 0 0) := hg_w3.c; have crz1 : w3.frozen? ⟨w.heap.size + 1 + 1, 1, none⟩ = false := hg_w3.z cr1; have cr2 : w3.cell? ⟨w.heap.size + 1 + 1, 2, none⟩ = some (.int .i64 0) := hg_w3.c; have crz2 : w3.frozen? ⟨w.heap.size + 1 + 1, 2, none⟩ = false := hg_w3.z cr2; have cr3 : w3.cell? ⟨w.heap.size + 1 + 1, 3, none⟩ = some (.bool false) := hg_w3.c; have crz3 : w3.frozen? ⟨w.heap.size + 1 + 1, 3, none⟩ = false := hg_w3.z cr3; have cx1 : w3.cell? ⟨w.heap.size, 1, none⟩ = some (.int .i64 s) := hg_w3.c; have cx2 : w3.cell? ⟨w.heap.size, 2, none⟩ = some (.int .i64 x) := hg_w3.c; have cy1 : w3.cell? ⟨w.heap.size + 1, 1, none⟩ = some (.int .i64 (s')) := hg_w3.c; have cy2 : w3.cell? ⟨w.heap.size + 1, 2, none⟩ = some (.int .i64 (x')) := hg_w3.c; have hkn : 0 < k4 := bigN_pos hbig4 HR.out; have hkp : (0 : Int) < (k4 : Int) := (by omega)))
    all_goals (try go_split_ands)
    all_goals go_wp2
    all_goals
      refine bodyPost_ret (v := .agg #[.int .i64 sp, .slice (some ⟨b3, 0, none⟩) k3 cc3, .int .i64 z, .bool true]) (by simp [results, Tryd.results43, go_sem, cr0, cr1, cr2, cr3, hkn]) rfl ⟨b3, k3, cc3, ?_, rfl, ?_⟩
      · exact hbig3.st4 cr0 cr1 cr2 cr3
      · exact Gb.g
end Go.Proofs.YtkflpogmhailhaaDoor
