/- spec.l2Cmp. -/
import Derived.Test.YtmllepdkbggpmaaDoorBigRow
import Derived.WalkLawsBesides
set_option linter.unusedVariables false
set_option linter.unusedSimpArgs false
namespace Go.Proofs.YtmllepdkbggpmaaDoor
open Go.RowKit

/-- -1, 0, 1 by the order. -/
def cmpZ (a b : Nat) : Int := if a < b then -1 else if b < a then 1 else 0

set_option maxRecDepth 1000000 in
set_option maxHeartbeats 4000000 in
theorem l2Cmp_core {b cap n N b' cap' n' N' : Nat} {z : Int} {w : World} (hn : n ≤ 1000000) (hN : Nm n N) (hn' : n' ≤ 1000000) (hN' : Nm n' N')
    (hcell : ∀ j, j < n → w.cell? ⟨b, j, none⟩ = some (.int .u32 (dg N j : Int))) (hcap : n ≤ cap) (hcell' : ∀ j, j < n' → w.cell? ⟨b', j, none⟩ = some (.int .u32 (dg N' j : Int))) (hcap' : n' ≤ cap') (hz : z = cmpZ N N') :
    Calls Tryd.prog 76 #[.slice (some ⟨b, 0, none⟩) n cap, .slice (some ⟨b', 0, none⟩) n' cap'] w fun e w' => e = .returned (.int .i64 z) ∧ Gb w w' := by
  rcases Nat.lt_trichotomy n n' with hl | hl | hl
  · have h := hN.lt hN' hl
    have e : z = -1 := by rw [hz]; unfold cmpZ; rw [if_pos h]
    subst e
    have hne : ((n : Int) == (n' : Int)) = false := by simp; omega
    clear hcell hcell' hN hN' h hz
    go_enter Tryd.func76, Tryd.ntmps76
    go_wp2
    go_returns
    exact ⟨rfl, Gb.refl w⟩
  · subst hl
    have HC : Hid _ := hcell
    have HC' : Hid _ := hcell'
    have HZ : Hid _ := hz
    have HN : Hid _ := (⟨hN.1, hN'.1⟩ : N < 4294967296 ^ n ∧ N' < 4294967296 ^ n)
    clear hcell hcell' hz hN hN'
    go_enter Tryd.func76, Tryd.ntmps76
    go_wp2
    go_loopw [5] (fun i wr => ∃ j : Nat, j ≤ n ∧ i = .int .i64 ((j : Int) - 1) ∧ Hid (N / 4294967296 ^ j = N' / 4294967296 ^ j) ∧ Gb w wr) (fun i _ => (intOf i + 1).toNat)
    case atStart => exact ⟨n, Nat.le_refl _, by go_num, by show _ = _; rw [Nat.div_eq_of_lt HN.out.1, Nat.div_eq_of_lt HN.out.2], Gb.refl w⟩
    case round =>
      obtain ⟨j, hj, rfl, HE, hgb⟩ := hrel
      have HG : Hid _ := hgb
      clear hgb
      rcases Nat.eq_zero_or_pos j with rfl | jpos
      · have e : (0 : Int) = z := by
          have := HE.out
          simp at this
          rw [HZ.out, this]; unfold cmpZ; rw [if_neg (by omega), if_neg (by omega)]
        subst e
        go_wp2
        go_returns
        exact ⟨rfl, HG.out⟩
      · obtain ⟨i, rfl⟩ : ∃ i, j = i + 1 := ⟨j - 1, by omega⟩
        have hc : wr.cell? ⟨b, i, none⟩ = some (.int .u32 (dg N i : Int)) := Gb.old HG.out (HC.out i (by omega))
        have hc' : wr.cell? ⟨b', i, none⟩ = some (.int .u32 (dg N' i : Int)) := Gb.old HG.out (HC'.out i (by omega))
        have hjj : ((i + 1 : Nat) : Int) - 1 = (i : Int) := by omega
        have hi1 : (i : Int) < (n : Int) := by omega
        obtain ⟨m1, m2, m3⟩ := cmp_top HE.out
        rcases Nat.lt_trichotomy (dg N i) (dg N' i) with c | c | c
        · have e : (-1 : Int) = z := by rw [HZ.out]; unfold cmpZ; rw [if_pos (m1 c)]
          subst e
          have c' : (dg N i : Int) < (dg N' i : Int) := by omega
          clear m1 m2 m3 HE
          generalize dg N i = t at *
          generalize dg N' i = t' at *
          go_wp2
          go_region
          all_goals (try go_wp2)
          all_goals go_returns
          all_goals first | exact ⟨rfl, HG.out⟩ | exact ⟨rfl, Gb.drew HG.out⟩ | exact ⟨rfl, Gb.drew (Gb.drew HG.out)⟩
        · have HE2 : Hid _ := m3 c
          have c' : (dg N i : Int) = (dg N' i : Int) := by omega
          rw [← c'] at hc'
          clear m1 m2 m3 HE c c'
          generalize dg N i = t at *
          go_wp2
          go_region
          all_goals (try go_wp2)
          all_goals go_region
          all_goals (try go_wp2)
          all_goals go_roundw
          all_goals first
            | exact ⟨i, by omega, by go_num, HE2.out, HG.out⟩
            | exact ⟨i, by omega, by go_num, HE2.out, Gb.drew HG.out⟩
            | exact ⟨i, by omega, by go_num, HE2.out, Gb.drew (Gb.drew HG.out)⟩
            | (simp [intOf] <;> omega)
        · have e : (1 : Int) = z := by rw [HZ.out]; unfold cmpZ; rw [if_neg (by have := m2 c; omega), if_pos (m2 c)]
          subst e
          have c' : (dg N' i : Int) < (dg N i : Int) := by omega
          clear m1 m2 m3 HE
          generalize dg N i = t at *
          generalize dg N' i = t' at *
          go_wp2
          go_region
          all_goals (try go_wp2)
          all_goals go_region
          all_goals (try go_wp2)
          all_goals go_returns
          all_goals first | exact ⟨rfl, HG.out⟩ | exact ⟨rfl, Gb.drew HG.out⟩ | exact ⟨rfl, Gb.drew (Gb.drew HG.out)⟩
  · have h := hN'.lt hN hl
    have e : z = 1 := by rw [hz]; unfold cmpZ; rw [if_neg (by omega), if_pos h]
    subst e
    have hne : ((n : Int) == (n' : Int)) = false := by simp; omega
    clear hcell hcell' hN hN' h hz
    go_enter Tryd.func76, Tryd.ntmps76
    go_wp2
    go_returns
    exact ⟨rfl, Gb.refl w⟩

theorem l2Cmp_any {v v2 : Value} {n N n' N' : Nat} {w : World} (h : Big w v n N) (hn : n ≤ 1000000) (h' : Big w v2 n' N') (hn' : n' ≤ 1000000) :
    Calls Tryd.prog 76 #[v, v2] w fun e w' => e = .returned (.int .i64 (cmpZ N N')) ∧ Gb w w' := by
  obtain ⟨hnm, hN, b, cap, rfl, hcap, hmx, hcell⟩ := h
  obtain ⟨hnm', hN', b', cap', rfl, hcap', hmx', hcell'⟩ := h'
  exact l2Cmp_core hn hnm hn' hnm' hcell hcap hcell' hcap' rfl
end Go.Proofs.YtmllepdkbggpmaaDoor
