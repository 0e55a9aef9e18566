/- make of a list. -/
import Derived.Test.YtkackkggpehpkaaGreatDoorX0
import Derived.Laws.MakeOwn
import Derived.Deep.OwnRows
import Derived.Test.YtkackkggpehpkaaGreatDoorX1
import Derived.Deep.DeepCutAuto
import Derived.Laws.EntriesVeiled
import Derived.Deep.Cut
import Derived.Test.YtkackkggpehpkaaGreatDoorX2
set_option linter.unusedVariables false
set_option linter.unusedSimpArgs false
namespace Go.Proofs.YtkackkggpehpkaaGreatDoor
open Go.RowKit

theorem make_run (ty t : TypeId) (z : Value) (size bytes : Nat) (hty : Tryz.prog.underlying ty = some (.slice t)) (hinf : (Tryz.prog.info? t).map (fun i => (i.zero, i.size, i.bytes)) = some (some z, size, bytes)) (hby : bytes ≤ 1000) (n : Nat) (hn : n ≤ 10000000) (w : World) :
  (Instr.makeSlice ty (.int .i64 (n : Int)) (.int .i64 (n : Int))).run Tryz.prog w = .ok (.slice (some ⟨w.heap.size, 0, none⟩) n n) (w.alloc (.cells (madeCells z.cells (n * size)) t)) := by
 obtain ⟨i, hi, hz, hs, hb⟩ := info_parts hinf
 have hb' : (i.bytes : Int) * (n : Int) ≤ 281474976710656 := by
  have h : i.bytes * n ≤ 1000 * 10000000 := Nat.mul_le_mul (by omega) hn
  have h' : ((i.bytes * n : Nat) : Int) ≤ 281474976710656 := by omega
  rwa [Int.natCast_mul] at h'
 have hr := run_make (P := Tryz.prog) w ty t i z hty hi hz .i64 .i64 n n (by omega) (Int.le_refl _) hb' (by omega)
 simp only [Int.toNat_natCast, hs] at hr
 exact hr
theorem made_list (z : Array Value) (k : IntKind) (hz : ∀ j, z[j % z.size]! = .int k 0) (m : Nat) : (madeCells z m).toList = uv k m (fun _ => 0) := by
 unfold madeCells uv
 simp [hz]
theorem Ow.made (w : World) (t : TypeId) (size : Nat) (z : Array Value) (k : IntKind) (hz : ∀ j, z[j % z.size]! = .int k 0) (n : Nat) (hn : n ≤ 10000000) : Ow (w.alloc (.cells (madeCells z (n * size)) t)) w.heap.size t size k (.slice (some ⟨w.heap.size, 0, none⟩) n n) n (fun _ => 0) := by
 have := World.ownsRow_lit (base := w.heap.size) (e := t) (size := size) w (madeCells z (n * size)) n (Nat.le_refl _) (by unfold maxLen; omega) (size_madeCells _ _)
 rw [made_list z k hz] at this
 exact this
theorem z1 (k : IntKind) : ∀ j, (#[Value.int k 0])[j % (#[Value.int k 0]).size]! = .int k 0 := fun j => by
 have : j % (#[Value.int k 0]).size = 0 := Nat.mod_one j
 rw [this]; rfl
theorem z2 (k : IntKind) : ∀ j, (#[Value.int k 0, .int k 0])[j % (#[Value.int k 0, .int k 0]).size]! = .int k 0 := fun j => by
 rcases (show j % 2 = 0 ∨ j % 2 = 1 by omega) with e | e
 ·show (#[Value.int k 0, .int k 0])[j % 2]! = _; rw [e]; rfl
 ·show (#[Value.int k 0, .int k 0])[j % 2]! = _; rw [e]; rfl
end Go.Proofs.YtkackkggpehpkaaGreatDoor

/- What impl.walk is handed: valueOf, kept, spread. -/
set_option linter.unusedVariables false
set_option linter.unusedSimpArgs false
set_option maxHeartbeats 40000000
namespace Go.Proofs.YtkackkggpehpkaaGreatDoor
open Go.RowKit

theorem infoU : (Tryz.prog.info? 49).map (fun i => (i.zero, i.size, i.bytes)) = some (some (.int .u64 0), 1, 8) := by kernel_rfl
/-- The roots of every size, as they are read. -/
def CR (o : Ops) (w : World) (cv : Value) (n : Nat) : Prop :=
 ∃ g cap, cv = .slice (some ⟨g, 0, none⟩) n cap ∧ ∀ i, 1 ≤ i → i < n → ∃ b cp, w.cell? ⟨g, i, none⟩ = some (.slice (some ⟨b, 0, none⟩) (2 ^ (i - 1)) cp) ∧ ∀ q, q < 2 ^ (i - 1) * 2 → w.cell? ⟨b, q, none⟩ = some (.int .u64 (flat (o.rt i) q))
theorem Circ.cr {o : Ops} {w : World} {base : Nat} {v : Value} {n : Nat} (h : Circ o w base v n) (hn : 0 < n) : CR o w v n := by
 obtain ⟨xs, h1, h2⟩ := h
 obtain ⟨g, cap, rfl⟩ : ∃ g cap, v = .slice (some ⟨g, 0, none⟩) n cap := by
  rcases h1.2 with ⟨_, h⟩ | ⟨g, gcap, _, rfl, _⟩
  ·omega
  ·exact ⟨g, gcap, rfl⟩
 refine ⟨g, cap, rfl, fun i hi hin => ?_⟩
 obtain ⟨u, hu, ho⟩ := h2 i hi hin
 obtain ⟨b, cp, rfl, _, _, _, _, hc⟩ := ho.at (Nat.pow_pos (by decide))
 exact ⟨b, cp, (World.ownsRow.cellAt h1 i (by omega)).trans hu, fun q hq => (hc q hq).1⟩
theorem CR.gb {o : Ops} {w w' : World} {cv : Value} {n : Nat} (h : CR o w cv n) (hg : Gb w w') : CR o w' cv n := by
 obtain ⟨g, cap, rfl, h2⟩ := h
 refine ⟨g, cap, rfl, fun i hi hin => ?_⟩
 obtain ⟨b, cp, h3, h4⟩ := h2 i hi hin
 exact ⟨b, cp, hg.old h3, fun q hq => hg.old (h4 q hq)⟩

set_option maxRecDepth 100000 in
theorem valueOf_i {o : Ops} {v : Value} {cs : Nat → Int} {w : World} (hr : Rd w .u64 v 2 2 cs) :
  Calls Tryz.prog 94 #[v] w fun e w' => ∃ v', e = .returned v' ∧ Ow w' w.heap.size 54 2 .u64 v' 1 (flat (o.tr 1 cs)) ∧ Gb w w' := by
 obtain ⟨b, cap, rfl, h1, h2, hc⟩ := hr.at (by omega)
 have c0 : w.cell? ⟨b, 0, none⟩ = some (.int .u64 (cs 0)) := hc 0 (by omega)
 have c1 : w.cell? ⟨b, 1, none⟩ = some (.int .u64 (cs 1)) := hc 1 (by omega)
 have e0 : flat (o.tr 1 cs) 0 = cs 0 := rfl
 have e1 : flat (o.tr 1 cs) 1 = cs 1 := rfl
 generalize flat (o.tr 1 cs) = f at *
 generalize cs 0 = x at *
 generalize cs 1 = y at *
 clear hr hc
 go_enter Tryz.func94, Tryz.ntmps94
 go_wp2
 go_region
 all_goals go_wp2
 all_goals go_returns
 all_goals
  refine ⟨_, rfl, ?_, kg⟩
  have := World.ownsRow_lit (base := w.heap.size) (e := 54) (size := 2) w.drew #[.int .u64 x, .int .u64 y] 1 (Nat.le_refl _) (by decide) rfl
  refine Ow.congr (g := fun j => if j = 0 then x else y) this (fun j hj => ?_)
  match j, hj with
  | 0, _ => exact e0.symm
  | 1, _ => exact e1.symm

set_option maxRecDepth 100000 in
theorem kept_i (k j : Int) (w : World) : Calls Tryz.prog 93 #[.int .i64 k, .int .i64 j] w fun e w' => e = .returned (.func (.func 135) #[] #[]) ∧ w = w' := by
 go_enter Tryz.func93, Tryz.ntmps93
 go_wp2
 go_returns
 exact ⟨rfl, rfl⟩
set_option maxRecDepth 100000 in
theorem kept1_i (x y : Int) (w : World) : Calls Tryz.prog 135 #[.int .u64 x, .int .u64 y] w fun e w' => e = .returned (.tuple #[.int .u64 x, .int .u64 y]) ∧ w = w' := by
 go_enter Tryz.func135, Tryz.ntmps135
 go_wp2
 go_returns
 exact ⟨rfl, rfl⟩
set_option maxRecDepth 100000 in
theorem spreadOf_i {o : Ops} {w : World} {cv : Value} {n : Nat} (hc : CR o w cv n) (k j : Nat) (hk1 : 1 ≤ k) (hk : k < n) (hn : n ≤ 7) (hj : 2 * j < 2 ^ (k - 1)) (x y : Int) (hx : o.rt k (2 * j) = (x, y)) :
  Calls Tryz.prog 95 #[cv, .int .i64 k, .int .i64 j] w fun e w' => e = .returned (.func (.func 136) #[.agg #[.int .u64 x, .int .u64 y]] #[]) ∧ w = w' := by
 obtain ⟨g, cap, rfl, h2⟩ := hc
 obtain ⟨b, cp, h3, h4⟩ := h2 k hk1 hk
 obtain ⟨m, hm⟩ : ∃ m, 2 ^ (k - 1) = m := ⟨_, rfl⟩
 rw [hm] at h3 h4 hj
 have hmm : m ≤ 64 := by
  rw [← hm]
  have := Nat.pow_le_pow_right (show 0 < 2 by decide) (show k - 1 ≤ 6 by omega)
  omega
 have c0 : w.cell? ⟨b, 2 * j * 2, none⟩ = some (.int .u64 x) := by rw [h4 _ (by omega), Nat.mul_comm, flat_re, hx]
 have c1 : w.cell? ⟨b, 2 * j * 2 + 1, none⟩ = some (.int .u64 y) := by rw [h4 _ (by omega), show 2 * j * 2 + 1 = 2 * (2 * j) + 1 by omega, flat_im, hx]
 have hk' : (k : Int) < (n : Int) := by omega
 have hj' : 2 * (j : Int) < (m : Int) := by omega
 clear h2 h4 hm hx
 go_enter Tryz.func95, Tryz.ntmps95
 go_wp2
 go_returns
 exact ⟨rfl, rfl⟩
end Go.Proofs.YtkackkggpehpkaaGreatDoor

/- What the laws do with lists of uint64: toUint64S, eqUint64S, markUint64S, heldUint64S. -/
set_option linter.unusedVariables false
set_option linter.unusedSimpArgs false
set_option maxHeartbeats 40000000
namespace Go.Proofs.YtkackkggpehpkaaGreatDoor
open Go.RowKit

theorem infoUx : (Tryz.prog.info? 49).map (fun i => (i.zero, i.size, i.bytes)) = some (some (.int .u64 0), 1, 8) := by kernel_rfl
/-- A list that came in. -/
def ArgRow (w : World) (k : IntKind) (a : Option Addr) (n : Nat) (g : Nat → Int) : Prop := n = 0 ∨ ∃ b off, a = some ⟨b, off, none⟩ ∧ ∀ i, i < n → w.cell? ⟨b, off + i, none⟩ = some (.int k (g i))
theorem ArgRow.gb {w w' : World} {k : IntKind} {a : Option Addr} {n : Nat} {g : Nat → Int} (h : ArgRow w k a n g) (hg : Gb w w') : ArgRow w' k a n g := by
 rcases h with h | ⟨b, off, e, hc⟩
 ·exact .inl h
 ·exact .inr ⟨b, off, e, fun i hi => hg.old (hc i hi)⟩

set_option maxRecDepth 100000 in
theorem toUint64S_any {a : Option Addr} {n cap : Nat} {g : Nat → Int} {w : World} (ha : ArgRow w .u64 a n g) (hn : n ≤ 2000000) :
  Calls Tryz.prog 15 #[.slice a n cap] w fun e w' => ∃ v, e = .returned v ∧ Ow w' w.heap.size 49 1 .u64 v n g ∧ Gb w w' := by
 have hmk : ∀ w, (Instr.makeSlice 27 (.int .i64 (n : Int)) (.int .i64 (n : Int))).run Tryz.prog w = .ok (.slice (some ⟨w.heap.size, 0, none⟩) n n) (w.alloc (.cells (madeCells #[.int .u64 0] (n * 1)) 49)) := fun w => make_run 27 49 (.int .u64 0) 1 8 Tryz.underlying27 infoUx (by decide) n (by omega) w
 have HMd : Hid (Ow (w.alloc (.cells (madeCells #[.int .u64 0] n) 49)) w.heap.size 49 1 .u64 (.slice (some ⟨w.heap.size, 0, none⟩) n n) n (fun _ => 0)) := by have := Ow.made w 49 1 #[.int .u64 0] .u64 (z1 _) n (by omega); rw [Nat.mul_one] at this; exact this
 have HA : Hid _ := ha
 clear ha
 go_enter Tryz.func15, Tryz.ntmps15
 go_wp2
 go_loopw [4] (fun i wr => ∃ j : Nat, j ≤ n ∧ i = .int .i64 j ∧ Ow wr w.heap.size 49 1 .u64 (.slice (some ⟨w.heap.size, 0, none⟩) n n) n (fun q => if q < j then g q else 0) ∧ Gb w wr) (fun i _ => n - (intOf i).toNat)
 case atStart => exact ⟨0, Nat.zero_le _, rfl, Ow.congr HMd.out (fun q hq => by rw [if_neg (by omega)]), kg⟩
 case round =>
  obtain ⟨j, hj, rfl, hof, hgb⟩ := hrel
  have HF : Hid _ := hof
  by_cases hlt : j < n
  ·have hlt' : (j : Int) < (n : Int) := by omega
   obtain ⟨b, cap', e, _, _, _, _, hcz⟩ := hof.at (by omega)
   simp only [Value.slice.injEq, Option.some.injEq, Addr.mk.injEq, and_true, true_and] at e
   obtain ⟨rfl, rfl⟩ := e
   obtain ⟨c0, z0⟩ := hcz j (by omega)
   rw [if_neg (by omega)] at c0
   rcases HA.out with h0 | ⟨b, off, rfl, hc⟩
   ·omega
   have x0 : wr.cell? ⟨b, off + j, none⟩ = some (.int .u64 (g j)) := hgb.old (hc j hlt)
   obtain ⟨x, hx⟩ : ∃ x, g j = x := ⟨_, rfl⟩
   rw [hx] at x0
   have Hx : Hid _ := hx
   clear hof hcz hx hc
   go_wp2
   go_roundw
   case rel =>
    refine ⟨j + 1, by omega, by go_num, ?_, kg⟩
    refine Ow.congr (Ow.store HF.out j x) (fun q hq => ?_)
    by_cases e1 : q = j
    ·rw [if_pos e1, if_pos (by omega), e1, Hx.out]
    ·by_cases e2 : q < j
     ·rw [if_neg e1, if_pos e2, if_pos (by omega)]
     ·rw [if_neg e1, if_neg e2, if_neg (by omega)]
   case measure => simp [intOf] <;> omega
  ·obtain rfl : j = n := by omega
   have hjm' : ¬ (j : Int) < (j : Int) := by omega
   clear hof
   go_wp2
   go_returns
   exact ⟨_, rfl, Ow.congr HF.out (fun q hq => by rw [if_pos (by omega)]), hgb⟩

set_option maxRecDepth 100000 in
theorem eqUint64S_same {va vb : Value} {n : Nat} {g : Nat → Int} {w : World} (ha : Rd w .u64 va n n g) (hb : Rd w .u64 vb n n g) (hn : n ≤ 2000000) :
  Calls Tryz.prog 17 #[va, vb] w fun e w' => e = .returned (.bool true) ∧ Gb w w' := by
 rcases Nat.eq_zero_or_pos n with rfl | hpos
 ·obtain ⟨a, ca, rfl, _⟩ := ha
  obtain ⟨b, cb, rfl, _⟩ := hb
  go_enter Tryz.func17, Tryz.ntmps17
  go_wp2
  go_loopw [5] (fun i wr => i = .int .i64 0 ∧ w = wr) (fun _ _ => 0)
  case atStart => exact ⟨rfl, rfl⟩
  case round =>
   obtain ⟨rfl, rfl⟩ := hrel
   go_wp2
   go_returns
   exact ⟨rfl, Gb.refl w⟩
 ·obtain ⟨a, ca, rfl, _, _, hca⟩ := ha.at hpos
  obtain ⟨b, cb, rfl, _, _, hcb⟩ := hb.at hpos
  have HA : Hid _ := hca
  have HB : Hid _ := hcb
  clear hca hcb ha hb
  go_enter Tryz.func17, Tryz.ntmps17
  go_wp2
  go_loopw [5] (fun i wr => ∃ j : Nat, j ≤ n ∧ i = .int .i64 j ∧ Gb w wr) (fun i _ => n - (intOf i).toNat)
  case atStart => exact ⟨0, Nat.zero_le _, rfl, Gb.refl w⟩
  case round =>
   obtain ⟨j, hj, rfl, hgb⟩ := hrel
   by_cases hlt : j < n
   ·have hlt' : (j : Int) < (n : Int) := by omega
    have a0 : wr.cell? ⟨a, j, none⟩ = some (.int .u64 (g j)) := hgb.old (HA.out _ (by omega))
    have b0 : wr.cell? ⟨b, j, none⟩ = some (.int .u64 (g j)) := hgb.old (HB.out _ (by omega))
    generalize g j = x at *
    go_wp2
    go_region
    all_goals
     go_wp2
     go_roundw
     case rel => exact ⟨j + 1, by omega, by go_num, kg⟩
     case measure => simp [intOf] <;> omega
   ·obtain rfl : j = n := by omega
    have hjm' : ¬ (j : Int) < (j : Int) := by omega
    go_wp2
    go_returns
    exact ⟨rfl, hgb⟩

set_option maxRecDepth 100000 in
theorem markUint64S_any {v : Value} {base n : Nat} {t : TypeId} {g : Nat → Int} {w : World} (s : Int) (s0 : 1 ≤ s) (s1 : s ≤ 5000000) (ho : Ow w base t 1 .u64 v n g) (hn : n ≤ 2000000) :
  Calls Tryz.prog 18 #[v, .int .i64 s] w fun e w' => e = .returned (.int .i64 (s + n)) ∧ Ow w' base t 1 .u64 v n (fun j => s + j) ∧ Mk w w' v := by
 rcases Nat.eq_zero_or_pos n with rfl | hpos
 ·obtain ⟨a, ca, rfl, _⟩ := ho.len
  have HO : Hid _ := ho
  clear ho
  go_enter Tryz.func18, Tryz.ntmps18
  go_wp2
  go_loopw [1, 5] (fun k i wr => k = .int .i64 s ∧ i = .int .i64 0 ∧ w = wr) (fun _ _ _ => 0)
  case atStart => exact ⟨rfl, rfl, rfl⟩
  case round =>
   obtain ⟨rfl, rfl, rfl⟩ := hrel
   go_wp2
   go_returns
   exact ⟨ret_congr (by first | (simp [go_sem]; done) | rfl), Ow.congr HO.out (fun j hj => by omega), Mk.refl _ _⟩
 ·obtain ⟨b, cap, rfl, hb0, hb1, hc1, hc2, _⟩ := ho.at hpos
  have HO : Hid _ := ho
  clear ho
  go_enter Tryz.func18, Tryz.ntmps18
  go_wp2
  go_loopw [1, 5] (fun k i wr => ∃ j : Nat, ∃ x : Int, j ≤ n ∧ i = .int .i64 j ∧ k = .int .i64 x ∧ Hid (x = s + j) ∧ Ow wr base t 1 .u64 (.slice (some ⟨b, 0, none⟩) n cap) n (fun q => if q < j then s + q else g q) ∧ Mk w wr (.slice (some ⟨b, 0, none⟩) n cap)) (fun _ i _ => n - (intOf i).toNat)
  case atStart => exact ⟨0, s, Nat.zero_le _, rfl, rfl, by show _ = _; omega, Ow.congr HO.out (fun q hq => by rw [if_neg (by omega)]), Mk.refl _ _⟩
  case round =>
   obtain ⟨j, x, hj, rfl, rfl, HX, hof, hmk⟩ := hrel
   have HF : Hid _ := hof
   have hx := HX.out
   have x0 : 0 ≤ x := by omega
   have x1 : x ≤ 8000000 := by omega
   by_cases hlt : j < n
   ·have hlt' : (j : Int) < (n : Int) := by omega
    obtain ⟨b', cap', e, _, _, _, _, hcz⟩ := hof.at hpos
    simp only [Value.slice.injEq, Option.some.injEq, Addr.mk.injEq, and_true, true_and] at e
    obtain ⟨rfl, rfl⟩ := e
    obtain ⟨c0, z0⟩ := hcz j (by omega)
    rw [if_neg (by omega)] at c0
    clear hof hcz hx
    go_wp2
    go_roundw
    case rel =>
     refine ⟨j + 1, x + 1, by omega, by go_num, by go_num, by show _ = _; have := HX.out; omega, ?_, ?_⟩
     ·refine Ow.congr (Ow.store HF.out j x) (fun q hq => ?_)
      by_cases e1 : q = j
      ·rw [if_pos e1, if_pos (by omega), e1]; exact HX.out
      ·by_cases e2 : q < j
       ·rw [if_neg e1, if_pos e2, if_pos (by omega)]
       ·rw [if_neg e1, if_neg e2, if_neg (by omega)]
     ·exact hmk.set _ _
    case measure => simp [intOf] <;> omega
   ·obtain rfl : j = n := by omega
    have hjm' : ¬ (j : Int) < (j : Int) := by omega
    clear hof hx
    go_wp2
    go_returns
    exact ⟨ret_congr (by have := HX.out; simp [go_sem]; omega), Ow.congr HF.out (fun q hq => by rw [if_pos (by omega)]), hmk⟩
end Go.Proofs.YtkackkggpehpkaaGreatDoor
