/- Rows of words in memory; spec.l2Norm, l2Big, l2BigWide, l2Len, l2Bit, l2Word, l2Cmp. -/
import Derived.Test.YtkflpogmhailhaaGreatDoorA1
import Derived.Test.YtkflpogmhailhaaGreatDoorRows
import Derived.Laws.OwnMore
import Derived.OwnWalk
import Derived.WalkLawsBesides
set_option linter.unusedVariables false
set_option linter.unusedSimpArgs false

namespace Go.Proofs.YtkflpogmhailhaaGreatDoor
open Go.RowKit

/-- Old blocks are as they were. -/
def Gb (w w' : World) : Prop := Below w.heap.size w w'
theorem Gr.gb {w w' : World} (h : Gr w w') : Gb w w' := h.below
theorem Gb.refl (w : World) : Gb w w := Below.refl _ _
theorem Gb.size {w w' : World} (h : Gb w w') : w.heap.size ≤ w'.heap.size := Below.size h
theorem Gb.trans {a b c : World} (h : Gb a b) (k : Gb b c) : Gb a c := Below.trans h (Below.mono k h.size)
theorem Gb.alloc {W w : World} (h : Gb W w) (o : Obj) : Gb W (w.alloc o) := Below.alloc h h.size o
theorem Gb.drew {W w : World} (h : Gb W w) : Gb W w.drew := Below.drew h
theorem Gb.setCell {W w : World} (h : Gb W w) {a : Addr} (ha : W.heap.size ≤ a.block) (v : Value) : Gb W (w.setCell a v) := Below.setCell h ha v
theorem Gb.below {W w w' : World} {base : Nat} (h : Gb W w) (k : Below base w w') (hb : W.heap.size ≤ base) : Gb W w' := Below.trans h (Below.mono k hb)
theorem Gb.old {W w : World} (h : Gb W w) {b o : Nat} {v : Value} (hv : W.cell? ⟨b, o, none⟩ = some v) : w.cell? ⟨b, o, none⟩ = some v :=
  (Below.cell h (p := ⟨b, o, none⟩) (cell_size hv)).trans hv
theorem Gb.fz {W w : World} (h : Gb W w) {b o : Nat} (hb : b < W.heap.size) (hz : W.frozen? ⟨b, o, none⟩ = false) : w.frozen? ⟨b, o, none⟩ = false :=
  (Below.frozen h (p := ⟨b, o, none⟩) hb).trans hz

/-- v is a slice at the head of a row; its n words are N's. -/
def Raw (w : World) (v : Value) (n N : Nat) : Prop :=
  N < 4294967296 ^ n ∧ ∃ b cap, v = .slice (some ⟨b, 0, none⟩) n cap ∧ n ≤ cap ∧ cap ≤ maxLen ∧ ∀ j, j < n → w.cell? ⟨b, j, none⟩ = some (.int .u32 (dg N j : Int))
/-- The same, and the last word is not 0. -/
def Big (w : World) (v : Value) (n N : Nat) : Prop := Nm n N ∧ Raw w v n N

theorem Raw.gb {w w' : World} {v : Value} {n N : Nat} (h : Raw w v n N) (k : Gb w w') : Raw w' v n N := by
  obtain ⟨h1, b, cap, h2, h3, h3', h4⟩ := h
  exact ⟨h1, b, cap, h2, h3, h3', fun j hj => k.old (h4 j hj)⟩
theorem Big.gb {w w' : World} {v : Value} {n N : Nat} (h : Big w v n N) (k : Gb w w') : Big w' v n N := ⟨h.1, h.2.gb k⟩
theorem Raw.alloc {w : World} {v : Value} {n N : Nat} (h : Raw w v n N) (o : Obj) : Raw (w.alloc o) v n N := h.gb ((Gb.refl w).alloc o)
theorem Big.alloc {w : World} {v : Value} {n N : Nat} (h : Big w v n N) (o : Obj) : Big (w.alloc o) v n N := h.gb ((Gb.refl w).alloc o)

/-- A row that the call itself made and that grows: its first n words are N's. -/
def Own (w : World) (base : Nat) (v : Value) (n N : Nat) : Prop := w.ownsRow base 64 1 v n (wds n N) ∧ v ≠ .slice none 0 0

theorem Own.raw {w : World} {base : Nat} {v : Value} {n N : Nat} (h : Own w base v n N) (hN : N < 4294967296 ^ n) : Raw w v n N := by
  obtain ⟨⟨h1, h2⟩, h3⟩ := h
  rcases h2 with ⟨rfl, _⟩ | ⟨g, cap, cur, rfl, hb, hh, hc, hm, hs, ht⟩
  · exact absurd rfl h3
  · refine ⟨hN, g, cap, rfl, hc, hm, fun j hj => ?_⟩
    have e : cur.toList[j]? = some (.int .u32 (dg N j : Int)) := by
      rw [← wds_get n N j hj, ← ht, List.getElem?_take_of_lt (by omega)]
    simp only [Array.getElem?_toList] at e
    simp [World.cell?, hh, e]
theorem Own.alloc {w : World} {base : Nat} {v : Value} {n N : Nat} (h : Own w base v n N) (o : Obj) : Own (w.alloc o) base v n N := ⟨h.1.alloc o, h.2⟩
theorem Own.drew {w : World} {base : Nat} {v : Value} {n N : Nat} (h : Own w base v n N) : Own w.drew base v n N := ⟨h.1.drew, h.2⟩

theorem infoWord : (Tryz.prog.info? 64).map (fun i => (i.zero, i.size, i.bytes)) = some (some (.int .u32 0), 1, 4) := by kernel_rfl

/-- 'out = append(out, x)', the word that is next. -/
theorem wpList_push {w : World} {ops : Array Oper} {rest : List Oper} {o : Oper} {a : Act} {Q : Exit → Act → World → Prop} (hgd : o.guard = none) (s x : Operand)
    (ho : o.op = .call { callee := .builtin .append, args := #[s, x], argTypes := #[58, 58] })
    (base n N : Nat) (v : Value) (b : Nat) (hs : a.eval s = v) (hown : Own w base v n N) (hx : a.eval x = .slice (some ⟨b, 0, none⟩) 1 1)
    (hc : w.cell? ⟨b, 0, none⟩ = some (.int .u32 (dg N n : Int))) (hn : n ≤ 1000000000) (hbase : base ≤ w.heap.size)
    (h : ∀ v' w', Own w' base v' (n + 1) N → Below base w w' → wpList Tryz.prog ops Q rest (a.put o.dst v') w') : wpList Tryz.prog ops Q (o :: rest) a w := by
  obtain ⟨i0, hi, hz0, hz1, hz2⟩ := info_parts infoWord
  refine wpList_append_own _ hgd s x 58 ho base 64 i0 (.int .u32 0) 1 4 Tryz.underlying58 hi hz0 hz1 hz2 rfl (by decide) v n (wds n N) hs hown.1 ⟨b, 0, none⟩ 1 1 [.int .u32 (dg N n : Int)] hx rfl ?_ ?_ (by unfold maxLen; omega) (by omega) hbase ?_
  · intro j u hj
    match j, hj with
    | 0, hj => simp at hj; subst hj; simpa [Addr.add] using hc
  · intro u hu; simp at hu; subst hu; rfl
  · intro v' w' hown' hgrow hnil
    refine h v' w' ⟨by rw [wds_succ]; exact hown', fun e => ?_⟩ ?_
    · exact absurd (hnil.mp e).1 hown.2
    · refine (Below.refl base w).grown hgrow hbase ?_
      intro k hk
      exact (hown.1.lt k hk).1
end Go.Proofs.YtkflpogmhailhaaGreatDoor

namespace Go.Proofs.YtkflpogmhailhaaGreatDoor
open Go.RowKit

theorem Gb.fzc {W w : World} (h : Gb W w) {b o : Nat} {v : Value} (hv : W.cell? ⟨b, o, none⟩ = some v) (hz : W.frozen? ⟨b, o, none⟩ = false) : w.frozen? ⟨b, o, none⟩ = false := h.fz (cell_size hv) hz


set_option maxHeartbeats 1000000 in
theorem l2Norm_any {v : Value} {n N : Nat} {w : World} (h : Raw w v n N) (hn : n ≤ 1000000000) :
    Calls Tryz.prog 96 #[v] w fun e w' => ∃ v' k, e = .returned v' ∧ w = w' ∧ Big w v' k N ∧ k ≤ n := by
  obtain ⟨hN, b, cap, rfl, hcap, hmx, hcell⟩ := h
  have hmx' : cap ≤ 9223372036854775807 := hmx
  have HC : Hid _ := hcell
  have HN : Hid _ := hN
  have HM : Hid _ := hmx
  clear hcell hN hmx
  go_enter Tryz.func96, Tryz.ntmps96
  go_wp2
  go_loop [3] (fun i => ∃ k : Nat, k ≤ n ∧ i = .int .i64 k ∧ Hid (N < 4294967296 ^ k)) (fun i => (intOf i).toNat)
  case atStart => exact ⟨n, Nat.le_refl _, rfl, HN.out⟩
  case round =>
    obtain ⟨k, hk, rfl, HK⟩ := hrel
    rcases Nat.eq_zero_or_pos k with rfl | hpos
    · have HF : Hid (Big w (.slice (some ⟨b, 0, none⟩) 0 cap) 0 N) := ⟨⟨HK.out, .inl rfl⟩, HK.out, b, cap, rfl, Nat.zero_le _, HM.out, fun j hj => by omega⟩
      go_wp2
      go_returns
      exact ⟨_, rfl, rfl, _, HF.out, by omega⟩
    · obtain ⟨j, rfl⟩ : ∃ j, k = j + 1 := ⟨k - 1, by omega⟩
      have hc : w.cell? ⟨b, j, none⟩ = some (.int .u32 (dg N j : Int)) := HC.out j (by omega)
      have hjj : ((j + 1 : Nat) : Int) - 1 = (j : Int) := by omega
      by_cases hz : dg N j = 0
      · have HL : Hid _ := low_of_dg HK.out hz
        have hz2 : ((dg N j : Nat) : Int) = 0 := by omega
        rw [hz2] at hc
        clear hz hz2
        go_wp2
        go_round
        case rel => exact ⟨j, by omega, by go_num, HL.out⟩
        case measure => simp [intOf] <;> omega
      · have hz2 : (((dg N j : Nat) : Int) == 0) = false := by simp; omega
        have HF : Hid (Big w (.slice (some ⟨b, 0, none⟩) (j + 1) cap) (j + 1) N) := ⟨⟨HK.out, .inr (ge_of_dg hz)⟩, HK.out, b, cap, rfl, by omega, HM.out, fun i hi => HC.out i (by omega)⟩
        clear hz
        go_wp2
        go_returns
        exact ⟨_, rfl, rfl, _, HF.out, by omega⟩
end Go.Proofs.YtkflpogmhailhaaGreatDoor

namespace Go.Proofs.YtkflpogmhailhaaGreatDoor
open Go.RowKit

theorem raw2 (W : Nat) (h1 : W < 18446744073709551616) (w : World) (t : TypeId) :
    Raw (w.alloc (Obj.cells #[Value.int IntKind.u32 ((W : Int) % 4294967296), Value.int IntKind.u32 ((W : Int) / 4294967296)] t)) (.slice (some ⟨w.heap.size, 0, none⟩) 2 2) 2 W := by
  refine ⟨by omega, w.heap.size, 2, rfl, by omega, by decide, fun j hj => ?_⟩
  match j, hj with
  | 0, _ =>
    have e : ((dg W 0 : Nat) : Int) = (W : Int) % 4294967296 := by unfold dg; simp
    rw [e]; simp [go_sem]
  | 1, _ =>
    have e : ((dg W 1 : Nat) : Int) = (W : Int) / 4294967296 := by unfold dg; rw [Nat.pow_one]; omega
    rw [e]; simp [go_sem]

set_option maxHeartbeats 1000000 in
theorem l2Big_any (W : Nat) (h1 : W < 18446744073709551616) (w : World) :
    Calls Tryz.prog 45 #[.int .u64 W] w fun e w' => ∃ v' k, e = .returned v' ∧ Big w' v' k W ∧ k ≤ 2 ∧ Gb w w' := by
  go_enter Tryz.func45, Tryz.ntmps45
  go_wp2_with (go_at_call 96; refine (l2Norm_any (raw2 W h1 w _) (by omega)).mono ?_; rintro e w' ⟨v', k, rfl, hw, hbig, hk⟩; rw [← hw]; clear hw)
  go_returns
  exact ⟨_, _, rfl, hbig, hk, (Gb.refl w).alloc _⟩
end Go.Proofs.YtkflpogmhailhaaGreatDoor

namespace Go.Proofs.YtkflpogmhailhaaGreatDoor
open Go.RowKit

set_option maxHeartbeats 1000000 in
theorem l2Len_any {v : Value} {n N : Nat} {w : World} (h : Big w v n N) (hn : n ≤ 1000000000) :
    Calls Tryz.prog 97 #[v] w fun e w' => e = .returned (.int .i64 (nb N)) ∧ w = w' := by
  obtain ⟨hnm, hN, b, cap, rfl, hcap, hmx, hcell⟩ := h
  rcases Nat.eq_zero_or_pos n with rfl | hpos
  · have e : nb N = 0 := by rw [hnm.zero]; rfl
    rw [e]
    clear hcell hnm hN e
    go_enter Tryz.func97, Tryz.ntmps97
    go_wp2
    go_ret
    exact ⟨rfl, rfl⟩
  · obtain ⟨m, rfl⟩ : ∃ m, n = m + 1 := ⟨n - 1, by omega⟩
    obtain ⟨ht, hne⟩ := nb_top hnm
    have hc : w.cell? ⟨b, m, none⟩ = some (.int .u32 (dg N m : Int)) := hcell m (by omega)
    have hd := dg_lt N m
    have h32 : nb (dg N m) ≤ 32 := nb_le (by simpa using hd)
    have HT : Hid _ := ht
    generalize dg N m = t at *
    have hmm : ((m + 1 : Nat) : Int) - 1 = (m : Int) := by omega
    have hm0 : (((m + 1 : Nat) : Int) == 0) = false := by simp; omega
    clear hcell hnm hN ht hne
    go_enter Tryz.func97, Tryz.ntmps97
    go_wp2
    go_loop [3, 4] (fun i u => ∃ k s : Nat, i = .int .i64 (((m : Int) * 32 + k : Int)) ∧ u = .int .u32 s ∧ Hid (nb t = k + nb s) ∧ k ≤ 32 ∧ s < 4294967296) (fun _ u => (intOf u).toNat)
    case atStart => exact ⟨0, t, by go_num, rfl, by show _ = _; omega, by omega, hd⟩
    case round =>
      obtain ⟨k, s, rfl, rfl, HB, hk, hs⟩ := hrel
      rcases Nat.eq_zero_or_pos s with rfl | spos
      · have e : (m : Int) * 32 + k = (nb N : Int) := by
          have := HB.out; have := HT.out; rw [nb_zero] at *; omega
        have E : Hid _ := e
        clear e
        go_wp2
        go_returns
        exact ⟨ret_congr (congrArg (Value.int IntKind.i64) E.out), rfl⟩
      · have hh := nb_half s spos
        have HH : Hid (nb t = (k + 1) + nb (s / 2)) := by show _ = _; have := HB.out; omega
        have hk1 : k + 1 ≤ 32 := by have := HH.out; omega
        have spos' : (0 : Int) < (s : Int) := by omega
        clear hh
        go_wp2
        go_round
        case rel => exact ⟨k + 1, s / 2, by go_num, by go_num, HH, hk1, by omega⟩
        case measure => simp [intOf] <;> omega
end Go.Proofs.YtkflpogmhailhaaGreatDoor

namespace Go.Proofs.YtkflpogmhailhaaGreatDoor
open Go.RowKit

set_option maxHeartbeats 1000000 in
theorem l2Bit_zero {v : Value} {n N : Nat} {w : World} (h : Big w v n N) (hn : n ≤ 1000000000) :
    Calls Tryz.prog 48 #[v, .int .i64 0] w fun e w' => e = .returned (.int .u32 ((N : Int) % 2)) ∧ w = w' := by
  obtain ⟨hnm, hN, b, cap, rfl, hcap, hmx, hcell⟩ := h
  rcases Nat.eq_zero_or_pos n with rfl | hpos
  · have e : N = 0 := hnm.zero
    subst e
    clear hcell hnm hN
    go_enter Tryz.func48, Tryz.ntmps48
    go_wp2
    go_returns
    exact ⟨rfl, rfl⟩
  · have hc : w.cell? ⟨b, 0, none⟩ = some (.int .u32 (dg N 0 : Int)) := hcell 0 (by omega)
    have hd : ((dg N 0 : Nat) : Int) % 2 = (N : Int) % 2 := by unfold dg; simp only [Nat.pow_zero, Nat.div_one]; omega
    have hl := dg_lt N 0
    have HD : Hid _ := hd
    generalize dg N 0 = t at *
    clear hcell hnm hN hd
    go_enter Tryz.func48, Tryz.ntmps48
    go_wp2
    go_returns
    first
      | exact ⟨ret_congr (congrArg (Value.int IntKind.u32) HD.out), rfl⟩
      | (refine ⟨ret_congr (congrArg (Value.int IntKind.u32) ?_), rfl⟩; have := HD.out; simp; omega)

set_option maxHeartbeats 1000000 in
theorem l2Word_any {v : Value} {n N : Nat} {w : World} (h : Big w v n N) (hn : n ≤ 1000000000) (hW : N < 18446744073709551616) :
    Calls Tryz.prog 102 #[v] w fun e w' => e = .returned (.int .u64 N) ∧ w = w' := by
  obtain ⟨hnm, hN, b, cap, rfl, hcap, hmx, hcell⟩ := h
  have HC : Hid _ := hcell
  have HN : Hid _ := hN
  clear hcell hnm hN
  go_enter Tryz.func102, Tryz.ntmps102
  go_wp2
  go_loop [3, 4] (fun u i => ∃ (j W : Nat), j ≤ n ∧ u = .int .u64 W ∧ i = .int .i64 ((j : Int) - 1) ∧ Hid (W = N / 4294967296 ^ j)) (fun _ i => (intOf i + 1).toNat)
  case atStart => exact ⟨n, 0, Nat.le_refl _, rfl, by go_num, by show _ = _; rw [Nat.div_eq_of_lt HN.out]⟩
  case round =>
    obtain ⟨j, W, hj, rfl, rfl, HW⟩ := hrel
    rcases Nat.eq_zero_or_pos j with rfl | jpos
    · have e : ((W : Nat) : Int) = (N : Int) := by have := HW.out; simp at this; omega
      have E : Hid _ := e
      clear e
      go_wp2
      go_returns
      exact ⟨ret_congr (congrArg (Value.int IntKind.u64) E.out), rfl⟩
    · obtain ⟨i, rfl⟩ : ∃ i, j = i + 1 := ⟨j - 1, by omega⟩
      have hc : w.cell? ⟨b, i, none⟩ = some (.int .u32 (dg N i : Int)) := HC.out i (by omega)
      have hs := word_step N i
      have hd := dg_lt N i
      have hle := Nat.div_le_self N (4294967296 ^ i)
      rw [← HW.out] at hs
      have HS : Hid _ := hs
      have hb : W * 4294967296 + dg N i < 18446744073709551616 := by omega
      have hjj : ((i + 1 : Nat) : Int) - 1 = (i : Int) := by omega
      clear hs hle
      generalize dg N i = t at *
      go_wp2
      go_round
      case rel => exact ⟨i, W * 4294967296 + t, by omega, by go_num, by go_num, HS.out⟩
      case measure => simp [intOf] <;> omega
end Go.Proofs.YtkflpogmhailhaaGreatDoor

namespace Go.Proofs.YtkflpogmhailhaaGreatDoor
open Go.RowKit

/-- -1, 0, 1 by the order. -/
def cmpZ (a b : Nat) : Int := if a < b then -1 else if b < a then 1 else 0

set_option maxRecDepth 1000000 in
set_option maxHeartbeats 4000000 in
theorem l2Cmp_core {b cap n N b' cap' n' N' : Nat} {z : Int} {w : World} (hn : n ≤ 1000000) (hN : Nm n N) (hn' : n' ≤ 1000000) (hN' : Nm n' N')
    (hcell : ∀ j, j < n → w.cell? ⟨b, j, none⟩ = some (.int .u32 (dg N j : Int))) (hcap : n ≤ cap) (hcell' : ∀ j, j < n' → w.cell? ⟨b', j, none⟩ = some (.int .u32 (dg N' j : Int))) (hcap' : n' ≤ cap') (hz : z = cmpZ N N') :
    Calls Tryz.prog 47 #[.slice (some ⟨b, 0, none⟩) n cap, .slice (some ⟨b', 0, none⟩) n' cap'] w fun e w' => e = .returned (.int .i64 z) ∧ Gb w w' := by
  rcases Nat.lt_trichotomy n n' with hl | hl | hl
  · have h := hN.lt hN' hl
    have e : z = -1 := by rw [hz]; unfold cmpZ; rw [if_pos h]
    subst e
    have hne : ((n : Int) == (n' : Int)) = false := by simp; omega
    clear hcell hcell' hN hN' h hz
    go_enter Tryz.func47, Tryz.ntmps47
    go_wp2
    go_returns
    exact ⟨rfl, Gb.refl w⟩
  · subst hl
    have HC : Hid _ := hcell
    have HC' : Hid _ := hcell'
    have HZ : Hid _ := hz
    have HN : Hid _ := (⟨hN.1, hN'.1⟩ : N < 4294967296 ^ n ∧ N' < 4294967296 ^ n)
    clear hcell hcell' hz hN hN'
    go_enter Tryz.func47, Tryz.ntmps47
    go_wp2
    go_loopw [5] (fun i wr => ∃ j : Nat, j ≤ n ∧ i = .int .i64 ((j : Int) - 1) ∧ Hid (N / 4294967296 ^ j = N' / 4294967296 ^ j) ∧ Gb w wr) (fun i _ => (intOf i + 1).toNat)
    case atStart => exact ⟨n, Nat.le_refl _, by go_num, by show _ = _; rw [Nat.div_eq_of_lt HN.out.1, Nat.div_eq_of_lt HN.out.2], Gb.refl w⟩
    case round =>
      obtain ⟨j, hj, rfl, HE, hgb⟩ := hrel
      have HG : Hid _ := hgb
      clear hgb
      rcases Nat.eq_zero_or_pos j with rfl | jpos
      · have e : (0 : Int) = z := by
          have := HE.out
          simp at this
          rw [HZ.out, this]; unfold cmpZ; rw [if_neg (by omega), if_neg (by omega)]
        subst e
        go_wp2
        go_returns
        exact ⟨rfl, HG.out⟩
      · obtain ⟨i, rfl⟩ : ∃ i, j = i + 1 := ⟨j - 1, by omega⟩
        have hc : wr.cell? ⟨b, i, none⟩ = some (.int .u32 (dg N i : Int)) := Gb.old HG.out (HC.out i (by omega))
        have hc' : wr.cell? ⟨b', i, none⟩ = some (.int .u32 (dg N' i : Int)) := Gb.old HG.out (HC'.out i (by omega))
        have hjj : ((i + 1 : Nat) : Int) - 1 = (i : Int) := by omega
        have hi1 : (i : Int) < (n : Int) := by omega
        obtain ⟨m1, m2, m3⟩ := cmp_top HE.out
        rcases Nat.lt_trichotomy (dg N i) (dg N' i) with c | c | c
        · have e : (-1 : Int) = z := by rw [HZ.out]; unfold cmpZ; rw [if_pos (m1 c)]
          subst e
          have c' : (dg N i : Int) < (dg N' i : Int) := by omega
          clear m1 m2 m3 HE
          generalize dg N i = t at *
          generalize dg N' i = t' at *
          go_wp2
          go_region
          all_goals (try go_wp2)
          all_goals go_returns
          all_goals first | exact ⟨rfl, HG.out⟩ | exact ⟨rfl, Gb.drew HG.out⟩ | exact ⟨rfl, Gb.drew (Gb.drew HG.out)⟩
        · have HE2 : Hid _ := m3 c
          have c' : (dg N i : Int) = (dg N' i : Int) := by omega
          rw [← c'] at hc'
          clear m1 m2 m3 HE c c'
          generalize dg N i = t at *
          go_wp2
          go_region
          all_goals (try go_wp2)
          all_goals go_region
          all_goals (try go_wp2)
          all_goals go_roundw
          all_goals first
            | exact ⟨i, by omega, by go_num, HE2.out, HG.out⟩
            | exact ⟨i, by omega, by go_num, HE2.out, Gb.drew HG.out⟩
            | exact ⟨i, by omega, by go_num, HE2.out, Gb.drew (Gb.drew HG.out)⟩
            | (simp [intOf] <;> omega)
        · have e : (1 : Int) = z := by rw [HZ.out]; unfold cmpZ; rw [if_neg (by have := m2 c; omega), if_pos (m2 c)]
          subst e
          have c' : (dg N' i : Int) < (dg N i : Int) := by omega
          clear m1 m2 m3 HE
          generalize dg N i = t at *
          generalize dg N' i = t' at *
          go_wp2
          go_region
          all_goals (try go_wp2)
          all_goals go_region
          all_goals (try go_wp2)
          all_goals go_returns
          all_goals first | exact ⟨rfl, HG.out⟩ | exact ⟨rfl, Gb.drew HG.out⟩ | exact ⟨rfl, Gb.drew (Gb.drew HG.out)⟩
  · have h := hN'.lt hN hl
    have e : z = 1 := by rw [hz]; unfold cmpZ; rw [if_neg (by omega), if_pos h]
    subst e
    have hne : ((n : Int) == (n' : Int)) = false := by simp; omega
    clear hcell hcell' hN hN' h hz
    go_enter Tryz.func47, Tryz.ntmps47
    go_wp2
    go_returns
    exact ⟨rfl, Gb.refl w⟩

theorem l2Cmp_any {v v2 : Value} {n N n' N' : Nat} {w : World} (h : Big w v n N) (hn : n ≤ 1000000) (h' : Big w v2 n' N') (hn' : n' ≤ 1000000) :
    Calls Tryz.prog 47 #[v, v2] w fun e w' => e = .returned (.int .i64 (cmpZ N N')) ∧ Gb w w' := by
  obtain ⟨hnm, hN, b, cap, rfl, hcap, hmx, hcell⟩ := h
  obtain ⟨hnm', hN', b', cap', rfl, hcap', hmx', hcell'⟩ := h'
  exact l2Cmp_core hn hnm hn' hnm' hcell hcap hcell' hcap' rfl
end Go.Proofs.YtkflpogmhailhaaGreatDoor

/- Cells that stay: short words. -/
set_option linter.unusedVariables false
namespace Go.Proofs.YtkflpogmhailhaaGreatDoor
open Go.RowKit

theorem Gr.c {W w : World} (h : Gr W w) {b o : Nat} {v : Value} (k : W.cell? ⟨b, o, none⟩ = some v := by (repeat' (first | (with_reducible assumption) | (with_reducible refine has_of (by with_reducible assumption)) | (with_reducible refine Gr.old (by with_reducible assumption) ?_) | (with_reducible refine cell_swap _ ?_ (by with_reducible assumption); omega) | (with_reducible refine cell_setSame ?_) | (with_reducible refine has_old (by with_reducible assumption) ?_) | (with_reducible refine has_set ?_) | (with_reducible refine cell_setOff ?_ ?_; omega) | (with_reducible refine cell_setNew ?_ ?_; (dsimp only; omega)) | (simp [go_sem]; done) | (simp [go_sem]; rfl) | (with_reducible refine cell_alloc _ ?_) | (with_reducible refine cell_drew ?_) | (with_reducible refine has_alloc _ ?_) | (with_reducible refine fz_old (by with_reducible assumption) ?_) | (with_reducible refine fz_alloc ?_) | (with_reducible refine fz_set ?_) | (with_reducible refine fz_drew ?_)))) : w.cell? ⟨b, o, none⟩ = some v := h.old k
theorem Gr.z {W w : World} (h : Gr W w) {b o : Nat} (k : W.frozen? ⟨b, o, none⟩ = false := by (repeat' (first | (with_reducible assumption) | (with_reducible refine has_of (by with_reducible assumption)) | (with_reducible refine Gr.old (by with_reducible assumption) ?_) | (with_reducible refine cell_swap _ ?_ (by with_reducible assumption); omega) | (with_reducible refine cell_setSame ?_) | (with_reducible refine has_old (by with_reducible assumption) ?_) | (with_reducible refine has_set ?_) | (with_reducible refine cell_setOff ?_ ?_; omega) | (with_reducible refine cell_setNew ?_ ?_; (dsimp only; omega)) | (simp [go_sem]; done) | (simp [go_sem]; rfl) | (with_reducible refine cell_alloc _ ?_) | (with_reducible refine cell_drew ?_) | (with_reducible refine has_alloc _ ?_) | (with_reducible refine fz_old (by with_reducible assumption) ?_) | (with_reducible refine fz_alloc ?_) | (with_reducible refine fz_set ?_) | (with_reducible refine fz_drew ?_)))) : w.frozen? ⟨b, o, none⟩ = false := fz_old h k
theorem Gb.c {W w : World} (h : Gb W w) {b o : Nat} {v : Value} (k : W.cell? ⟨b, o, none⟩ = some v := by (repeat' (first | (with_reducible assumption) | (with_reducible refine has_of (by with_reducible assumption)) | (with_reducible refine Gr.old (by with_reducible assumption) ?_) | (with_reducible refine Gb.old (by with_reducible assumption) ?_) | (with_reducible refine cell_swap _ ?_ (by with_reducible assumption); omega) | (with_reducible refine cell_setSame ?_) | (with_reducible refine has_old (by with_reducible assumption) ?_) | (with_reducible refine has_set ?_) | (with_reducible refine cell_setOff ?_ ?_; omega) | (with_reducible refine cell_setNew ?_ ?_; (dsimp only; omega)) | (simp [go_sem]; done) | (simp [go_sem]; rfl) | (with_reducible refine cell_alloc _ ?_) | (with_reducible refine cell_drew ?_) | (with_reducible refine has_alloc _ ?_) | (with_reducible refine fz_old (by with_reducible assumption) ?_) | (with_reducible refine Gb.fzc (by with_reducible assumption) (by first | (with_reducible assumption) | (with_reducible exact cell_drew (by with_reducible assumption))) ?_) | (with_reducible refine Gb.fz (by with_reducible assumption) ?_ ?_) | go_size | (with_reducible refine fz_alloc ?_) | (with_reducible refine fz_set ?_) | (with_reducible refine fz_drew ?_)))) : w.cell? ⟨b, o, none⟩ = some v := h.old k
theorem Gb.z {W w : World} (h : Gb W w) {b o : Nat} {v : Value} (hv : w.cell? ⟨b, o, none⟩ = some v) (k0 : W.cell? ⟨b, o, none⟩ = some v := by (repeat' (first | (with_reducible assumption) | (with_reducible refine has_of (by with_reducible assumption)) | (with_reducible refine Gr.old (by with_reducible assumption) ?_) | (with_reducible refine Gb.old (by with_reducible assumption) ?_) | (with_reducible refine cell_swap _ ?_ (by with_reducible assumption); omega) | (with_reducible refine cell_setSame ?_) | (with_reducible refine has_old (by with_reducible assumption) ?_) | (with_reducible refine has_set ?_) | (with_reducible refine cell_setOff ?_ ?_; omega) | (with_reducible refine cell_setNew ?_ ?_; (dsimp only; omega)) | (simp [go_sem]; done) | (simp [go_sem]; rfl) | (with_reducible refine cell_alloc _ ?_) | (with_reducible refine cell_drew ?_) | (with_reducible refine has_alloc _ ?_) | (with_reducible refine fz_old (by with_reducible assumption) ?_) | (with_reducible refine Gb.fzc (by with_reducible assumption) (by first | (with_reducible assumption) | (with_reducible exact cell_drew (by with_reducible assumption))) ?_) | (with_reducible refine Gb.fz (by with_reducible assumption) ?_ ?_) | go_size | (with_reducible refine fz_alloc ?_) | (with_reducible refine fz_set ?_) | (with_reducible refine fz_drew ?_)))) (k : W.frozen? ⟨b, o, none⟩ = false := by (repeat' (first | (with_reducible assumption) | (with_reducible refine has_of (by with_reducible assumption)) | (with_reducible refine Gr.old (by with_reducible assumption) ?_) | (with_reducible refine Gb.old (by with_reducible assumption) ?_) | (with_reducible refine cell_swap _ ?_ (by with_reducible assumption); omega) | (with_reducible refine cell_setSame ?_) | (with_reducible refine has_old (by with_reducible assumption) ?_) | (with_reducible refine has_set ?_) | (with_reducible refine cell_setOff ?_ ?_; omega) | (with_reducible refine cell_setNew ?_ ?_; (dsimp only; omega)) | (simp [go_sem]; done) | (simp [go_sem]; rfl) | (with_reducible refine cell_alloc _ ?_) | (with_reducible refine cell_drew ?_) | (with_reducible refine has_alloc _ ?_) | (with_reducible refine fz_old (by with_reducible assumption) ?_) | (with_reducible refine Gb.fzc (by with_reducible assumption) (by first | (with_reducible assumption) | (with_reducible exact cell_drew (by with_reducible assumption))) ?_) | (with_reducible refine Gb.fz (by with_reducible assumption) ?_ ?_) | go_size | (with_reducible refine fz_alloc ?_) | (with_reducible refine fz_set ?_) | (with_reducible refine fz_drew ?_)))) : w.frozen? ⟨b, o, none⟩ = false := h.fzc k0 k
theorem Gr.g {W w : World} (h : Gr W w := by (repeat' (first | (with_reducible assumption) | (with_reducible exact Gr.refl _) | (with_reducible refine Gr.alloc ?_ _ _) | (with_reducible refine Gr.drew ?_) | (with_reducible refine Gr.setCell ?_ ?_ _) | (with_reducible refine Gr.trans ?_ (by with_reducible assumption)) | go_size))) : Gr W w := h
theorem Gb.g {W w : World} (h : Gb W w := by (repeat' (first | (with_reducible assumption) | (with_reducible exact Gb.refl _) | (with_reducible exact Hid.out (by with_reducible assumption)) | (with_reducible refine Gb.alloc ?_ _) | (with_reducible refine Gb.drew ?_) | (with_reducible refine Gb.setCell ?_ ?_ _) | (with_reducible refine Gb.trans ?_ (by with_reducible assumption)) | (with_reducible refine Gb.trans ?_ (Gr.gb (by with_reducible assumption))) | go_size))) : Gb W w := h
theorem Gb.hs {W w : World} (h : Gb W w) {b o : Nat} (hv : (W.cell? ⟨b, o, none⟩).isSome = true) : (w.cell? ⟨b, o, none⟩).isSome = true := by
  obtain ⟨v, hv⟩ := Option.isSome_iff_exists.mp hv
  exact has_of (h.old hv)
theorem Gb.fh {W w : World} (h : Gb W w) {b o : Nat} (hv : (W.cell? ⟨b, o, none⟩).isSome = true) (hz : W.frozen? ⟨b, o, none⟩ = false) : w.frozen? ⟨b, o, none⟩ = false := by
  obtain ⟨v, hv⟩ := Option.isSome_iff_exists.mp hv
  exact h.fzc hv hz
/-- A rule for a cell ahead of an allocation. -/
theorem Gr.a {W w : World} (h : Gr W w) {b o : Nat} {v : Value} (k : W.cell? ⟨b, o, none⟩ = some v := by (repeat' (first | (with_reducible assumption) | (with_reducible refine has_of (by with_reducible assumption)) | (with_reducible refine Gr.old (by with_reducible assumption) ?_) | (with_reducible refine cell_swap _ ?_ (by with_reducible assumption); omega) | (with_reducible refine cell_setSame ?_) | (with_reducible refine has_old (by with_reducible assumption) ?_) | (with_reducible refine has_set ?_) | (with_reducible refine cell_setOff ?_ ?_; omega) | (with_reducible refine cell_setNew ?_ ?_; (dsimp only; omega)) | (simp [go_sem]; done) | (simp [go_sem]; rfl) | (with_reducible refine cell_alloc _ ?_) | (with_reducible refine cell_drew ?_) | (with_reducible refine has_alloc _ ?_) | (with_reducible refine fz_old (by with_reducible assumption) ?_) | (with_reducible refine fz_alloc ?_) | (with_reducible refine fz_set ?_) | (with_reducible refine fz_drew ?_)))) (ob : Obj) : (w.alloc ob).cell? ⟨b, o, none⟩ = some v := cell_alloc ob (h.old k)
theorem kh {P : Prop} (h : P := by (repeat' (first | (with_reducible assumption) | (with_reducible refine has_of (by with_reducible assumption)) | (with_reducible refine Gr.old (by with_reducible assumption) ?_) | (with_reducible refine Gb.old (by with_reducible assumption) ?_) | (with_reducible refine Gb.hs (by with_reducible assumption) ?_) | (with_reducible refine has_old (by with_reducible assumption) ?_) | (with_reducible refine cell_setSame ?_) | (with_reducible refine has_set ?_) | (with_reducible refine cell_setOff ?_ ?_; omega) | (with_reducible refine cell_setNew ?_ ?_; (dsimp only; omega)) | (simp [go_sem]; done) | (with_reducible refine cell_alloc _ ?_) | (with_reducible refine cell_drew ?_) | (with_reducible refine has_alloc _ ?_) | (with_reducible refine fz_old (by with_reducible assumption) ?_) | (with_reducible refine Gb.fh (by with_reducible assumption) (by with_reducible assumption) ?_) | (with_reducible refine fz_alloc ?_) | (with_reducible refine fz_set ?_) | (with_reducible refine fz_drew ?_) | go_size))) : P := h
end Go.Proofs.YtkflpogmhailhaaGreatDoor
