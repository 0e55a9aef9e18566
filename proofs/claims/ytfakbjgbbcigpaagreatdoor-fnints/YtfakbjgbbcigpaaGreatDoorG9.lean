/- Results held against each other. -/
import Derived.Test.YtfakbjgbbcigpaaGreatDoorA1
import Derived.Test.YtfakbjgbbcigpaaGreatDoorRows
import Derived.Laws.StructEq
import Derived.WalkLawsBesides
import Derived.Test.YtfakbjgbbcigpaaGreatDoorG8
import Derived.Test.YtfakbjgbbcigpaaGreatDoorA7
import Derived.Deep.RegionHeld3
import Derived.Deep.DeepCutAuto
import Derived.Test.YtfakbjgbbcigpaaGreatDoorG1
import Derived.Test.YtfakbjgbbcigpaaGreatDoorL5ZF
import Derived.Test.YtfakbjgbbcigpaaGreatDoorL5ZT
import Derived.Test.YtfakbjgbbcigpaaGreatDoorL5ZV
set_option linter.unusedVariables false
set_option linter.unusedSimpArgs false
namespace Go.Proofs.YtfakbjgbbcigpaaGreatDoor
open Go.RowKit

theorem eqRS (a b c d : Int) (w : World) : (Op.equalIn 10000 27 (.agg #[.int .u64 a, .int .i64 b]) (.agg #[.int .u64 c, .int .i64 d])).run Tryz.prog w = .ok (a == c && b == d) w := by
  have u3 := Tryz.underlying23
  have a3 := Tryz.isAgg23
  have z3 := Tryz.sizeOf23
  have u4 := Tryz.underlying3
  have a4 := Tryz.isAgg3
  have z4 := Tryz.sizeOf3
  have hS : Tryz.prog.underlying 27 = some (.struct (Tryz.prog.fieldsOf 27)) := by kernel_rfl
  rw [show (10000 : Nat) = 9999 + 1 from rfl, run_equalIn_agg w 9999 27 _ _ hS (by kernel_rfl)]
  simp only [Program.fieldsOf, Tryz.underlying27]
  go_simp
  by_cases h1 : a = c <;> by_cases h2 : b = d <;> simp [h1, h2]

theorem eqRS_same (Z fl : Int) (w : World) : (Op.equalIn 10000 27 (.agg #[.int .u64 Z, .int .i64 fl]) (.agg #[.int .u64 Z, .int .i64 fl])).run Tryz.prog w = .ok true w := by rw [eqRS]; simp
end Go.Proofs.YtfakbjgbbcigpaaGreatDoor

/- laws.FnInts: the walk. -/
set_option linter.unusedVariables false
set_option linter.unusedSimpArgs false
namespace Go.Proofs.YtfakbjgbbcigpaaGreatDoor
open Go.RowKit

/-- Take number i of a region first; its slot is named. -/
theorem take_at {P : Program} {md : Region.Mode} {ops : Array Oper} {Q : Exit → Act → World → Prop} {S : World → Prop} {i : Nat} {oi : Oper} {v : Value} {d : Option Tmp} {fuel : Nat} {listed : Array Bool} {a : Act} {w : World} (hi : ops[i]? = some oi) (hd : oi.dst = d)
    (hs : Region.noSelect ops = true) (hf : Region.free md ops listed i = true) (hr : (Region.ready md ops listed).contains i = true)
    (hQ : ∀ c a w, Q (.panic c) (a.put d v) w → Q (.panic c) a w) (hy : YieldsIf P ops S oi v a) (hS : S w)
    (h : wpAnyH P md ops Q S fuel (listed.setIfInBounds i true) (a.put d v) w) : wpAnyH P md ops Q S (fuel + 1) listed a w := by
  subst hd
  exact wpAnyH_take hi hs hf hr hQ hy hS h

/-- What is asked of a drawn integer. -/
structure InA (f m k v Z fl : Int) (w : World) : Prop where
  sfi : ∀ w', Calls Tryz.prog 6 #[.int .i64 f, .int .i64 m, .int .i64 k, .int .u64 v] w' fun e w'' => e = .returned (.agg #[.int .u64 Z, .int .i64 fl]) ∧ Gb w' w''
  ifi : ∀ w', Gb w w' → Calls Tryz.prog 7 #[.int .i64 f, .int .i64 m, .int .i64 k, .int .u64 v] w' fun e w'' => e = .returned (.agg #[.int .u64 Z, .int .i64 fl]) ∧ Gr w' w''
  iti : fl = 0 → ∀ way w', 0 ≤ way → way ≤ 4 → Gb w w' → Calls Tryz.prog 8 #[.int .i64 f, .int .i64 way, .int .i64 k, .int .u64 Z] w' fun e w'' => e = .returned (.agg #[.int .u64 v, .int .i64 0]) ∧ Gr w' w''

/-- What is asked of a drawn word in one way of rounding. -/
structure InB (a way up fl dn c : Int) (w : World) : Prop where
  icu : ∀ w', Gb w w' → Calls Tryz.prog 10 #[.int .i64 0, .int .i64 1, .int .i64 way, .int .u64 a] w' fun e w'' => e = .returned (.agg #[.int .u64 up, .int .i64 fl]) ∧ Gr w' w''
  scu : ∀ w', Calls Tryz.prog 11 #[.int .i64 0, .int .i64 1, .int .i64 way, .int .u64 a] w' fun e w'' => e = .returned (.agg #[.int .u64 up, .int .i64 fl]) ∧ Gb w' w''
  icd : ∀ w', Gb w w' → Calls Tryz.prog 10 #[.int .i64 1, .int .i64 0, .int .i64 way, .int .u64 up] w' fun e w'' => e = .returned (.agg #[.int .u64 dn, .int .i64 0]) ∧ Gr w' w''
  scd : ∀ w', Calls Tryz.prog 11 #[.int .i64 1, .int .i64 0, .int .i64 way, .int .u64 up] w' fun e w'' => e = .returned (.agg #[.int .u64 dn, .int .i64 0]) ∧ Gb w' w''
  cls : ∀ w', Calls Tryz.prog 12 #[.int .i64 0, .int .u64 a] w' fun e w'' => e = .returned (.int .i64 c) ∧ Gr w' w''

attribute [local go_sem] undef in
set_option maxRecDepth 1000000 in
set_option maxHeartbeats 8000000 in
theorem ints_walk (a : Option Addr) (len cap : Nat) (w : World) (hC : CodeRow w a len)
    (HD : Hid (∀ w', Gb w w' → Calls Tryz.prog 5 #[.slice a len cap] w' (FromDraw w')))
    (HE : Hid (∀ w', Gb w w' → Calls Tryz.prog 9 #[.slice a len cap] w' fun x w'' => ∃ f v : Int, -10 ≤ f ∧ f ≤ 10 ∧ 0 ≤ v ∧ v < 18446744073709551616 ∧ x = .returned (.tuple #[.int .i64 f, .int .u64 v]) ∧ w' = w''))
    (HF : Hid (∀ f m k v, 0 ≤ v → v < 18446744073709551616 → ∃ Z fl, InA f m k v Z fl w))
    (HG : Hid (∀ v way, 0 ≤ v → v < 4294967296 → 0 ≤ way → way ≤ 4 → ∃ up fl dn c, InB v way up fl dn c w ∧ (decide (c < 3) = true ∧ decide (3 ≤ c) = false ∧ dn = v ∧ fl = 0 ∨ decide (c < 3) = false ∧ decide (3 ≤ c) = true))) :
    Calls Tryz.prog 3 #[.slice a len cap] w fun e w' => e = .returned (.bool true) ∧ Gb w w' := by
  have hlen : len ≤ 1048576 := hC.1
  clear hC
  go_enter Tryz.func3, Tryz.ntmps3
  go_upto_region 4 with (go_at_call 5; refine (HD.out _ (Gb.refl _)).mono ?_; rintro x w1 ⟨f, m, kd, v, f0, f1, m0, m1, k0, k1, v0, v1, rfl, hg_w1⟩)
  obtain ⟨Z, fl, SA⟩ := HF.out f m kd v v0 v1
  have HA : Hid (InA f m kd v Z fl w) := SA
  have hgb1 : Gb w w1 := hg_w1
  have hq1 := eqRS_same Z fl
  have hq2 := eqRS_same v 0
  clear SA HF HD
  go_upto_region 8 with (first
    | (go_at_call 6; with_reducible refine (InA.sfi HA.out _).mono ?_; rintro x w2 ⟨rfl, hg_w2⟩; have hgb2 : Gb w w2 := Gb.g)
    | (go_at_call 7; with_reducible refine (InA.ifi HA.out _ Gb.g).mono ?_; rintro x w3 ⟨rfl, hg_w3⟩; have hgb3 : Gb w w3 := Gb.g; have wt0 : w3.cell? ⟨w2.heap.size, 0, none⟩ = some (.int .u64 Z) := hg_w3.c; have wtA0 := (fun ob => cell_alloc ob wt0); have wt1 : w3.cell? ⟨w2.heap.size, 1, none⟩ = some (.int .i64 fl) := hg_w3.c; have wtA1 := (fun ob => cell_alloc ob wt1)))
  obtain ⟨w4, hw4⟩ : ∃ w4, w3.alloc (.cells #[.int .u64 Z, .int .i64 fl] 27) = w4 := ⟨_, rfl⟩
  have hg_w4 : Gr w3 w4 := by rw [← hw4]; exact (Gr.refl _).alloc _ _
  have hgb4 : Gb w w4 := Gb.g
  have rr0 : w4.cell? ⟨w3.heap.size, 0, none⟩ = some (.int .u64 Z) := by rw [← hw4]; simp [go_sem]
  have rr1 : w4.cell? ⟨w3.heap.size, 1, none⟩ = some (.int .i64 fl) := by rw [← hw4]; simp [go_sem]
  have hz4 : w3.heap.size < w4.heap.size := by rw [← hw4]; simp
  rw [hw4]
  clear hw4
  have wu0 : w4.cell? ⟨w2.heap.size, 0, none⟩ = some (.int .u64 Z) := hg_w4.c; have wu1 : w4.cell? ⟨w2.heap.size, 1, none⟩ = some (.int .i64 fl) := hg_w4.c
  go_wp2_with fail
  go_loopw [9] (fun i wr => ∃ k : Nat, k ≤ 5 ∧ i = .int .i64 k ∧ Gb w wr ∧ wr.cell? ⟨w2.heap.size, 0, none⟩ = some (.int .u64 Z) ∧ wr.cell? ⟨w2.heap.size, 1, none⟩ = some (.int .i64 fl) ∧ wr.cell? ⟨w3.heap.size, 0, none⟩ = some (.int .u64 Z) ∧ wr.cell? ⟨w3.heap.size, 1, none⟩ = some (.int .i64 fl)) (fun i _ => 5 - (intOf i).toNat)
  case atStart => exact ⟨0, by omega, rfl, Gb.g, wu0, wu1, rr0, rr1⟩
  case round =>
    obtain ⟨k, hk, rfl, hgr, t0, t1, t2, t3⟩ := hrel
    by_cases hgo : k < 5 ∧ fl = 0
    · obtain ⟨hk5, rfl⟩ := hgo
      have hk5' : (k : Int) ≤ 4 := by omega
      go_wp2_with (go_at_call 8; refine (InA.iti HA.out rfl (k : Int) _ (by omega) (by omega) Gb.g).mono ?_; rintro y w5 ⟨rfl, hg_w5⟩; have xa0 : w5.cell? ⟨w2.heap.size, 0, none⟩ = some (.int .u64 Z) := hg_w5.c; have xa1 : w5.cell? ⟨w2.heap.size, 1, none⟩ = some (.int .i64 0) := hg_w5.c; have xb0 : w5.cell? ⟨w3.heap.size, 0, none⟩ = some (.int .u64 Z) := hg_w5.c; have xb1 : w5.cell? ⟨w3.heap.size, 1, none⟩ = some (.int .i64 0) := hg_w5.c; have hgb5 : Gb w w5 := Gb.g)
      go_roundw
      case rel => exact ⟨k + 1, by omega, by go_num, Gb.g, xa0, xa1, xb0, xb1⟩
      case measure => simp [intOf] <;> omega
    · have HN : Hid (¬ (k < 5 ∧ fl = 0)) := hgo
      clear hgo
      rcases (show 4 < (k : Int) ∨ ((k : Int) ≤ 4 ∧ ¬ fl = 0) by have := HN.out; omega) with hx | ⟨hx, hx2⟩
      all_goals
        go_upto_region 14 with (go_at_call 9; refine (HE.out _ Gb.g).mono ?_; rintro y wk ⟨f', v', g0, g1, y0, y1, rfl, hw⟩; subst hw)
        obtain ⟨u, hu⟩ : ∃ u, Int.tmod v' 4294967296 = u := ⟨_, rfl⟩
        have u0 : 0 ≤ u := by rw [← hu]; exact Int.tmod_nonneg _ y0
        have u1 : u < 4294967296 := by rw [← hu]; exact Int.tmod_lt_of_pos _ (by omega)
        have hgx := hgr
        clear hgr HA HE t0 t1 t2 t3 wu0 wu1 rr0 rr1
        go_wp2_with fail
        go_loopw [12] (fun i wr => ∃ k : Nat, k ≤ 5 ∧ i = .int .i64 k ∧ Gb w wr) (fun i _ => 5 - (intOf i).toNat)
        case atStart => exact ⟨0, by omega, rfl, Gb.g⟩
        case round =>
          obtain ⟨j, hj, rfl, hgr⟩ := hrel
          by_cases hgo : j < 5
          · have hj5' : (j : Int) ≤ 4 := by omega
            obtain ⟨up, gl, dn, c, SB, hc⟩ := HG.out u (j : Int) u0 u1 (by omega) (by omega)
            have HB : Hid (InB u (j : Int) up gl dn c w) := SB
            have hq3 := eqRS_same up gl
            have hq4 := eqRS_same dn 0
            have hfd : ∀ w, (Instr.field 27 (.agg #[.int .u64 up, .int .i64 gl]) 0).run Tryz.prog w = .ok (.int .u64 up) w := fun w => by kernel_rfl
            clear SB
            go_upto_region 20 with (go_at_call 10; first | (with_reducible refine (InB.icu HB.out _ Gb.g).mono ?_; rintro y n1 ⟨rfl, hg_n1⟩; have hgbn1 : Gb w n1 := Gb.g) | (with_reducible refine (InB.icd HB.out _ Gb.g).mono ?_; rintro y n2 ⟨rfl, hg_n2⟩; have hgbn2 : Gb w n2 := Gb.g; have ux0 : n2.cell? ⟨n1.heap.size, 0, none⟩ = some (.int .u64 up) := hg_n2.c; have uxA0 := (fun ob => cell_alloc ob ux0); have ux1 : n2.cell? ⟨n1.heap.size, 1, none⟩ = some (.int .i64 gl) := hg_n2.c; have uxA1 := (fun ob => cell_alloc ob ux1)))
            obtain ⟨n3, hn3⟩ : ∃ n3, n2.alloc (.cells #[.int .u64 dn, .int .i64 0] 27) = n3 := ⟨_, rfl⟩
            have hg_n3 : Gr n2 n3 := by rw [← hn3]; exact (Gr.refl _).alloc _ _
            have hgbn3 : Gb w n3 := Gb.g
            have dd0 : n3.cell? ⟨n2.heap.size, 0, none⟩ = some (.int .u64 dn) := by rw [← hn3]; simp [go_sem]
            have dd1 : n3.cell? ⟨n2.heap.size, 1, none⟩ = some (.int .i64 0) := by rw [← hn3]; simp [go_sem]
            have hzn : n2.heap.size < n3.heap.size := by rw [← hn3]; simp
            rw [hn3]
            clear hn3
            have uy0 : n3.cell? ⟨n1.heap.size, 0, none⟩ = some (.int .u64 up) := hg_n3.c; have uy1 : n3.cell? ⟨n1.heap.size, 1, none⟩ = some (.int .i64 gl) := hg_n3.c
            go_region_held3 (fun w' => w'.cell? ⟨n1.heap.size, 0, none⟩ = some (.int .u64 up) ∧ w'.cell? ⟨n1.heap.size, 1, none⟩ = some (.int .i64 gl) ∧ w'.cell? ⟨n2.heap.size, 0, none⟩ = some (.int .u64 dn) ∧ w'.cell? ⟨n2.heap.size, 1, none⟩ = some (.int .i64 0))
              ((go_split_ands; (repeat' apply And.intro) <;> exact kh))
              ((go_at_call 11; with_reducible refine (InB.scu HB.out _).mono ?_; rintro y n4 ⟨rfl, hg_n4⟩; have ua0 : n4.cell? ⟨n1.heap.size, 0, none⟩ = some (.int .u64 up) := hg_n4.c; have ua1 : n4.cell? ⟨n1.heap.size, 1, none⟩ = some (.int .i64 gl) := hg_n4.c; have da0 : n4.cell? ⟨n2.heap.size, 0, none⟩ = some (.int .u64 dn) := hg_n4.c; have da1 : n4.cell? ⟨n2.heap.size, 1, none⟩ = some (.int .i64 0) := hg_n4.c; have hgbn4 : Gb w n4 := Gb.g))
            all_goals (try go_split_ands)
            all_goals
              rcases hc with ⟨c1, c2, rfl, rfl⟩ | ⟨c1, c2⟩
              · go_upto_region 24 with (go_at_call 12; with_reducible refine (InB.cls HB.out _).mono ?_; rintro y n5 ⟨rfl, hg_n5⟩; have ub0 : n5.cell? ⟨n1.heap.size, 0, none⟩ = some (.int .u64 up) := hg_n5.c; have ub1 : n5.cell? ⟨n1.heap.size, 1, none⟩ = some (.int .i64 0) := hg_n5.c; have db0 : n5.cell? ⟨n2.heap.size, 0, none⟩ = some (.int .u64 dn) := hg_n5.c; have db1 : n5.cell? ⟨n2.heap.size, 1, none⟩ = some (.int .i64 0) := hg_n5.c; have hgbn5 : Gb w n5 := Gb.g)
                refine wp_region_noPanic ?_
                refine wp_region_held_drew (S := fun _ => True) (by kernel_rfl) trivial (fun hHeld => ?_)
                refine take_at (i := 0) (v := ?_) (d := some 98) (fuel := 12) rfl rfl (by kernel_rfl) (by kernel_rfl) (by kernel_rfl) (fun _ _ _ h => h) (Or.inl ⟨by rfl, ?_⟩) trivial ?_
                rotate_left
                · (intro w hSw; go_simp; try with_reducible rfl)
                simp only [Act.put, List.setIfInBounds_toArray, List.set_cons_zero, List.set_cons_succ]
                refine wpAnyH_ready (rs := [1]) (by kernel_rfl) (by simp) ?_
                refine AllReadyH.cons rfl (fun K hK => ?_) AllReadyH.nil
                go_simp
                go_at_call 12
                with_reducible refine (InB.cls HB.out _).mono ?_
                rintro y n6 ⟨rfl, hg_n6⟩
                have hgbn6 : Gb w n6 := Gb.g
                refine hK.out _ _ trivial (fun hHeld => ?_)
                clear hK K
                (try simp only [Act.put, List.setIfInBounds_toArray, List.set_cons_zero, List.set_cons_succ])
                refine take_at (i := 2) (v := ?_) (d := some 100) (fuel := 10) rfl rfl (by kernel_rfl) (by kernel_rfl) (by kernel_rfl) (fun _ _ _ h => h) (Or.inl ⟨by rfl, ?_⟩) trivial ?_
                rotate_left
                · (intro w hSw; go_simp; try with_reducible rfl)
                simp only [Act.put, List.setIfInBounds_toArray, List.set_cons_zero, List.set_cons_succ]
                refine take_at (i := 3) (v := ?_) (d := some 101) (fuel := 9) rfl rfl (by kernel_rfl) (by kernel_rfl) (by kernel_rfl) (fun _ _ _ h => h) (Or.inl ⟨by rfl, ?_⟩) trivial ?_
                rotate_left
                · (intro w hSw; go_simp; try with_reducible rfl)
                simp only [Act.put, List.setIfInBounds_toArray, List.set_cons_zero, List.set_cons_succ]
                refine take_at (i := 4) (v := undef) (d := some 102) (fuel := 8) rfl rfl (by kernel_rfl) (by kernel_rfl) (by kernel_rfl) (fun _ _ _ h => h) (Or.inr ⟨by rfl, rfl⟩) trivial ?_
                simp only [Act.put, List.setIfInBounds_toArray, List.set_cons_zero, List.set_cons_succ]
                refine take_at (i := 5) (v := undef) (d := some 103) (fuel := 7) rfl rfl (by kernel_rfl) (by kernel_rfl) (by kernel_rfl) (fun _ _ _ h => h) (Or.inr ⟨by rfl, rfl⟩) trivial ?_
                simp only [Act.put, List.setIfInBounds_toArray, List.set_cons_zero, List.set_cons_succ]
                refine take_at (i := 6) (v := undef) (d := some 104) (fuel := 6) rfl rfl (by kernel_rfl) (by kernel_rfl) (by kernel_rfl) (fun _ _ _ h => h) (Or.inr ⟨by rfl, rfl⟩) trivial ?_
                simp only [Act.put, List.setIfInBounds_toArray, List.set_cons_zero, List.set_cons_succ]
                refine take_at (i := 7) (v := undef) (d := some 105) (fuel := 5) rfl rfl (by kernel_rfl) (by kernel_rfl) (by kernel_rfl) (fun _ _ _ h => h) (Or.inr ⟨by rfl, rfl⟩) trivial ?_
                simp only [Act.put, List.setIfInBounds_toArray, List.set_cons_zero, List.set_cons_succ]
                refine take_at (i := 8) (v := undef) (d := some 106) (fuel := 4) rfl rfl (by kernel_rfl) (by kernel_rfl) (by kernel_rfl) (fun _ _ _ h => h) (Or.inr ⟨by rfl, rfl⟩) trivial ?_
                simp only [Act.put, List.setIfInBounds_toArray, List.set_cons_zero, List.set_cons_succ]
                refine take_at (i := 9) (v := undef) (d := some 107) (fuel := 3) rfl rfl (by kernel_rfl) (by kernel_rfl) (by kernel_rfl) (fun _ _ _ h => h) (Or.inr ⟨by rfl, rfl⟩) trivial ?_
                simp only [Act.put, List.setIfInBounds_toArray, List.set_cons_zero, List.set_cons_succ]
                refine take_at (i := 10) (v := undef) (d := some 108) (fuel := 2) rfl rfl (by kernel_rfl) (by kernel_rfl) (by kernel_rfl) (fun _ _ _ h => h) (Or.inr ⟨by rfl, rfl⟩) trivial ?_
                simp only [Act.put, List.setIfInBounds_toArray, List.set_cons_zero, List.set_cons_succ]
                refine take_at (i := 11) (v := undef) (d := some 109) (fuel := 1) rfl rfl (by kernel_rfl) (by kernel_rfl) (by kernel_rfl) (fun _ _ _ h => h) (Or.inr ⟨by rfl, rfl⟩) trivial ?_
                simp only [Act.put, List.setIfInBounds_toArray, List.set_cons_zero, List.set_cons_succ]
                refine take_at (i := 12) (v := ?_) (d := some 110) (fuel := 0) rfl rfl (by kernel_rfl) (by kernel_rfl) (by kernel_rfl) (fun _ _ _ h => h) (Or.inl ⟨by rfl, ?_⟩) trivial ?_
                rotate_left
                · (intro w hSw; go_simp; try with_reducible rfl)
                simp only [Act.put, List.setIfInBounds_toArray, List.set_cons_zero, List.set_cons_succ]
                refine wpAnyH_done (by kernel_rfl) (NoPanic.normal ?_) _
                go_wp2
                go_roundw
                all_goals first | exact ⟨j + 1, by omega, by go_num, Gb.g⟩ | (simp [intOf] <;> omega)
              · go_upto_region 24 with (go_at_call 12; with_reducible refine (InB.cls HB.out _).mono ?_; rintro y n5 ⟨rfl, hg_n5⟩; have ub0 : n5.cell? ⟨n1.heap.size, 0, none⟩ = some (.int .u64 up) := hg_n5.c; have ub1 : n5.cell? ⟨n1.heap.size, 1, none⟩ = some (.int .i64 gl) := hg_n5.c; have db0 : n5.cell? ⟨n2.heap.size, 0, none⟩ = some (.int .u64 dn) := hg_n5.c; have db1 : n5.cell? ⟨n2.heap.size, 1, none⟩ = some (.int .i64 0) := hg_n5.c; have hgbn5 : Gb w n5 := Gb.g)
                go_region_held3 (fun w' => w'.cell? ⟨n1.heap.size, 0, none⟩ = some (.int .u64 up) ∧ w'.cell? ⟨n1.heap.size, 1, none⟩ = some (.int .i64 gl) ∧ w'.cell? ⟨n2.heap.size, 0, none⟩ = some (.int .u64 dn) ∧ w'.cell? ⟨n2.heap.size, 1, none⟩ = some (.int .i64 0))
                  ((go_split_ands; (repeat' apply And.intro) <;> exact kh))
                  (first
                    | (go_at_call 12; with_reducible refine (InB.cls HB.out _).mono ?_; rintro y n6 ⟨rfl, hg_n6⟩; have uc0 : n6.cell? ⟨n1.heap.size, 0, none⟩ = some (.int .u64 up) := hg_n6.c; have uc1 : n6.cell? ⟨n1.heap.size, 1, none⟩ = some (.int .i64 gl) := hg_n6.c; have dc0 : n6.cell? ⟨n2.heap.size, 0, none⟩ = some (.int .u64 dn) := hg_n6.c; have dc1 : n6.cell? ⟨n2.heap.size, 1, none⟩ = some (.int .i64 0) := hg_n6.c; have hgbn6 : Gb w n6 := Gb.g)
                    | (go_at_call 11; first | (with_reducible refine (InB.scu HB.out _).mono ?_; rintro y n7 ⟨rfl, hg_n7⟩; have ud0 : n7.cell? ⟨n1.heap.size, 0, none⟩ = some (.int .u64 up) := hg_n7.c; have ud1 : n7.cell? ⟨n1.heap.size, 1, none⟩ = some (.int .i64 gl) := hg_n7.c; have de0 : n7.cell? ⟨n2.heap.size, 0, none⟩ = some (.int .u64 dn) := hg_n7.c; have de1 : n7.cell? ⟨n2.heap.size, 1, none⟩ = some (.int .i64 0) := hg_n7.c; have hgbn7 : Gb w n7 := Gb.g) | (with_reducible refine (InB.scd HB.out _).mono ?_; rintro y n8 ⟨rfl, hg_n8⟩; have ue0 : n8.cell? ⟨n1.heap.size, 0, none⟩ = some (.int .u64 up) := hg_n8.c; have ue1 : n8.cell? ⟨n1.heap.size, 1, none⟩ = some (.int .i64 gl) := hg_n8.c; have df0 : n8.cell? ⟨n2.heap.size, 0, none⟩ = some (.int .u64 dn) := hg_n8.c; have df1 : n8.cell? ⟨n2.heap.size, 1, none⟩ = some (.int .i64 0) := hg_n8.c; have hgbn8 : Gb w n8 := Gb.g)))
                all_goals (try go_split_ands)
                all_goals go_wp2
                all_goals go_roundw
                all_goals first | exact ⟨j + 1, by omega, by go_num, Gb.g⟩ | (simp [intOf] <;> omega)
          · have hj5 : 4 < (j : Int) := by omega
            go_wp2
            go_returns
            exact ⟨rfl, Gb.g⟩
end Go.Proofs.YtfakbjgbbcigpaaGreatDoor

/- FnInts: integers and words of F32 come back. -/
set_option linter.unusedVariables false
set_option linter.unusedSimpArgs false
namespace Go.Proofs.YtfakbjgbbcigpaaGreatDoor
open Go.RowKit

theorem sw_lt {f p mx one inf sg nan s v : Int} (h : IsFmt f p mx one inf sg nan) (hs : s = 0 ∨ s = 1) (v0 : 0 ≤ v) (v1 : v ≤ inf) : 0 ≤ sw s sg v ∧ sw s sg v < 2 * sg ∧ sw s sg v < 18446744073709551616 := by
  have hb := h.bounds
  unfold sw
  split <;> omega

theorem word_int (kind a : Int) (a0 : 0 ≤ a) (a1 : a < 18446744073709551616) : wordK (signK kind a) (magK kind a) = a := by
  unfold signK magK wordK
  by_cases c : (kind = 0 ∨ kind = 1) ∧ 9223372036854775808 ≤ a
  · rw [if_pos c, if_pos c, if_pos ⟨rfl, by omega⟩]; omega
  · rw [if_neg c, if_neg c, if_neg (by omega)]; omega

/-- An operand with no magnitude. -/
theorem opd_flat {f p mx one inf sg nan v s : Int} (h : IsFmt f p mx one inf sg nan) (hs : s = 0 ∨ s = 1) (hv : v = 0 ∨ v = inf) {y : Opd} (hy : OpdIs p mx one inf sg nan (sw s sg v) y) : y.s = s ∧ y.e = 0 ∧ y.M = 0 ∧ (v = 0 → y.c = 0) ∧ (v = inf → y.c = 2) := by
  have hb := h.bounds
  obtain ⟨y1, y2⟩ := OpdIs.bare h hs (by omega) (by omega) hy
  rcases y2 with ⟨_, v', hs', hv'⟩ | ⟨c, _⟩
  · dsimp only at hs' hv'
    have : v' = v := by omega
    subst this
    rcases hv' with ⟨q, c, e, m⟩ | ⟨_, _, c, _⟩ | ⟨_, c, _⟩ | ⟨q, c, e, m⟩ | ⟨q0, q1, c, _⟩
    · exact ⟨y1, e, by omega, fun _ => c, fun _ => by omega⟩
    · exfalso; omega
    · exfalso; omega
    · exact ⟨y1, e, by omega, fun _ => by omega, fun _ => c⟩
    · exfalso; omega
  · exfalso; omega

/-- ToInt of FromInt is the integer, where FromInt has no flag. -/
theorem ints_back {f mode kind a Z : Int} (a0 : 0 ≤ a) (a1 : a < 18446744073709551616) (hf : FromIs f mode kind a Z 0) (way : Int) (hw : 0 ≤ way ∧ way ≤ 4) : (0 ≤ Z ∧ Z < 18446744073709551616) ∧ ToIntIs f way kind Z a 0 := by
  rcases hf with ⟨p, mx, one, inf, sg, nan, hF, hm, hk, hp⟩ | ⟨_, _, _, _, _, _, _, _, _, k⟩ | ⟨_, _, k⟩
  · have hb := hF.bounds
    have hk' := of_decide_eq_true hk
    have hwd := word_int kind a a0 a1
    unfold intO at hp
    rcases Nat.eq_zero_or_pos (magK kind a) with h0 | h0
    · rw [if_pos h0] at hp
      have hZ : Z = sw 0 sg 0 := by
        rcases hp with ⟨_, k, _⟩ | ⟨c, _⟩ | ⟨c, _⟩ | ⟨c, _⟩ | ⟨c, _⟩
        · exact k
        all_goals (exfalso; dsimp only at c; omega)
      have hl := sw_lt hF (.inl rfl) (Int.le_refl 0) (show (0 : Int) ≤ inf by omega)
      obtain ⟨y, hy⟩ := opd_ex hF (sw 0 sg 0) hl.1 hl.2.2
      obtain ⟨q1, q2, q3, q4, _⟩ := opd_flat hF (.inl rfl) (.inl rfl) hy
      subst hZ
      refine ⟨⟨hl.1, hl.2.2⟩, .inl ⟨p, mx, one, inf, sg, nan, y, hF, hl.2.1, hw, hk'.1, hy, .inr (.inl ⟨by have := q4 rfl; omega, ?_, ?_, ?_⟩)⟩⟩
      · rw [wholeM_no (by omega), q3, Nat.zero_mul]; omega
      · rw [wholeM_no (by omega), q3, Nat.zero_mul]
        rw [h0] at hwd
        unfold wordK at hwd ⊢
        rw [if_neg (by omega)] at hwd ⊢
        omega
      · unfold wfl; rw [if_neg (by have := q4 rfl; omega)]
    · rw [if_neg (by omega)] at hp
      obtain ⟨z, hr, rfl⟩ : ∃ z, RoundIs p (1 - mx) mx one inf mode (signK kind a) (magK kind a) 0 false z 0 ∧ Z = sw (signK kind a) sg z := by
        rcases hp with ⟨c, _⟩ | ⟨_, z, k, k'⟩ | ⟨c, _⟩ | ⟨c, _⟩ | ⟨c, _⟩
        · exfalso; dsimp only at c; omega
        · exact ⟨z, k, k'⟩
        all_goals (exfalso; dsimp only at c; omega)
      obtain ⟨z0, z1, hy'⟩ := exact_word hF (signK_01 kind a) h0 (by omega) hr
      have hl := sw_lt hF (signK_01 kind a) (show 0 ≤ z by omega) (show z ≤ inf by omega)
      obtain ⟨y, hy⟩ := opd_ex hF _ hl.1 hl.2.2
      obtain ⟨q1, q2, q3⟩ := hy' y hy
      have := (opd_vo hF hy).2.2.2.1
      obtain ⟨r1, r2⟩ := whole_nv (by omega) q3 way
      refine ⟨⟨hl.1, hl.2.2⟩, .inl ⟨p, mx, one, inf, sg, nan, y, hF, hl.2.1, hw, hk'.1, hy, .inr (.inl ⟨by omega, ?_, ?_, ?_⟩)⟩⟩
      · rw [r1, q2]; exact hk'.2
      · rw [r1, q2]; exact hwd.symm
      · unfold wfl; rw [r2, if_neg (by simp)]
  · omega
  · omega

/-- A number of F32 goes to F64 without a flag, and comes back. -/
theorem conv_back {a way Z fl : Int} (a0 : 0 ≤ a) (a1 : a < 4294967296) (hw : 0 ≤ way ∧ way ≤ 4) (hc : ConvIs 0 1 way a Z fl) : (0 ≤ Z ∧ Z < 18446744073709551616) ∧ ∃ p mx one inf sg nan x, IsFmt 0 p mx one inf sg nan ∧ OpdIs p mx one inf sg nan a x ∧ (x.c ≤ 2 ∧ fl = 0 ∧ ConvIs 1 0 way Z a 0 ∨ 3 ≤ x.c ∧ ∃ Y, ConvIs 1 0 way Z Y 0) := by
  rcases hc with ⟨p, mx, one, inf, sg, nan, p', mx', one', inf', sg', nan', x, hF, _, hG, hx, hp⟩ | ⟨_, _, _, _, _, _, _, k, _⟩ | ⟨k, _⟩
  · have hb := hF.bounds
    have hb' := hG.bounds
    obtain ⟨v1, v2, v3, v4, v5, v6⟩ := opd_vo hG hx
    have hs := v1.s01
    have hown := fun hc => pack_own hG a0 hx hc way
    have hsw : ∀ (v : Int), 0 ≤ v → v ≤ inf → 0 ≤ sw x.s sg v ∧ sw x.s sg v < 18446744073709551616 := fun v k1 k2 => by have := sw_lt hF hs k1 k2; omega
    rcases hp with ⟨c, rfl, rfl⟩ | ⟨c, z, hr, rfl⟩ | ⟨c, rfl, rfl⟩ | ⟨c, hZ, hfl⟩ | ⟨c, hZ, hfl⟩
    · have hl := hsw 0 (by omega) (by omega)
      obtain ⟨y, hy⟩ := opd_ex hF _ hl.1 hl.2
      obtain ⟨q1, q2, q3, q4, _⟩ := opd_flat hF hs (.inl rfl) hy
      refine ⟨hl, p', mx', one', inf', sg', nan', x, hG, hx, .inl ⟨by omega, rfl, .inl ⟨p', mx', one', inf', sg', nan', p, mx, one, inf, sg, nan, y, hG, hw, hF, hy, ?_⟩⟩⟩
      rcases hown (by omega) with ⟨_, k, _⟩ | ⟨d, _⟩ | ⟨d, _⟩ | ⟨d, _⟩ | ⟨d, _⟩
      · exact .inl ⟨q4 rfl, by rw [q1]; exact k, rfl⟩
      all_goals (exfalso; omega)
    · obtain ⟨M0, Mn⟩ := v1.fin c
      have hbd : (nb x.M : Int) ≤ 24 ∧ -150 ≤ (nb x.M : Int) + x.e - 1 ∧ (nb x.M : Int) + x.e - 1 ≤ 127 := by
        rcases hown (by omega) with ⟨d, _⟩ | ⟨_, z', hr', _⟩ | ⟨d, _⟩ | ⟨d, _⟩ | ⟨d, _⟩
        · exfalso; omega
        · obtain ⟨_, _, w1, w2, w3⟩ := word_is hG a0 hx (by omega)
          have hn := w2 c
          have hsz : (x.M : Int) < 2 * one' := by
            obtain ⟨k, m, e0, hm, hg, he, g1, g2⟩ := hn
            omega
          have hsz2 : one' ≤ (x.M : Int) := by
            obtain ⟨k, m, e0, hm, hg, he, g1, g2⟩ := hn
            omega
          obtain ⟨top, E, r, r2, hf, k1, k2, k3, k4, k5, kc⟩ := hr'
          rcases hG with ⟨_, rfl, rfl, rfl, rfl, rfl, rfl⟩ | ⟨e, _⟩
          · have n1 : nb x.M ≤ 24 := nb_le (by omega)
            have n2 : 23 < nb x.M := nb_gt (by omega)
            refine ⟨by omega, ?_, by omega⟩
            obtain ⟨k, m, e0, hm, hg, he, g1, g2⟩ := hn
            have hk : k ≤ 24 := by
              rcases Nat.lt_or_ge 24 k with d | d
              · exfalso
                have h2 := pow2_le' (show 25 ≤ k by omega)
                have m1 : 1 ≤ m := by
                  rcases Int.lt_or_le m 1 with q | q
                  · have : m * 2 ^ k ≤ 0 := Int.mul_nonpos_of_nonpos_of_nonneg (by omega) (Int.le_of_lt (Int.pow_pos (by decide)))
                    omega
                  · exact q
                have := Int.mul_le_mul m1 h2 (by decide) (by omega)
                omega
              · exact d
            omega
          · omega
        · exfalso; omega
        · exfalso; omega
        · exfalso; omega
      obtain ⟨z', hz'⟩ := fit_exact (e := x.e) hF M0 (by rcases hF with ⟨e, _⟩ | ⟨_, rfl, rfl, rfl, rfl, rfl, rfl⟩ <;> omega) (by rcases hF with ⟨e, _⟩ | ⟨_, rfl, rfl, rfl, rfl, rfl, rfl⟩ <;> omega) (by rcases hF with ⟨e, _⟩ | ⟨_, rfl, rfl, rfl, rfl, rfl, rfl⟩ <;> omega)
      obtain ⟨rfl, rfl⟩ := RoundIs.one hr (hz' way x.s)
      obtain ⟨z0, z1, hy'⟩ := exact_word hF hs M0 (by omega) hr
      have hl := hsw z (by omega) (by omega)
      obtain ⟨y, hy⟩ := opd_ex hF _ hl.1 hl.2
      obtain ⟨q1, q2, q3⟩ := hy' y hy
      have hye := (opd_vo hF hy).2.2.2.1
      have hyM := ((opd_vo hF hy).1.fin q1).1
      refine ⟨hl, p', mx', one', inf', sg', nan', x, hG, hx, .inl ⟨by omega, rfl, .inl ⟨p', mx', one', inf', sg', nan', p, mx, one, inf, sg, nan, y, hG, hw, hF, hy, ?_⟩⟩⟩
      rcases hown (by omega) with ⟨d, _⟩ | ⟨_, v, hr', k⟩ | ⟨d, _⟩ | ⟨d, _⟩ | ⟨d, _⟩
      · exfalso; omega
      · refine .inr (.inl ⟨q1, v, ?_, by rw [q2]; exact k⟩)
        rw [q2]
        exact (RoundIs.nv hyM M0 (by omega) (by omega) q3).2 hr'
      all_goals (exfalso; omega)
    · have hl := hsw inf (by omega) (by omega)
      obtain ⟨y, hy⟩ := opd_ex hF _ hl.1 hl.2
      obtain ⟨q1, q2, q3, _, q4⟩ := opd_flat hF hs (.inr rfl) hy
      refine ⟨hl, p', mx', one', inf', sg', nan', x, hG, hx, .inl ⟨by omega, rfl, .inl ⟨p', mx', one', inf', sg', nan', p, mx, one, inf, sg, nan, y, hG, hw, hF, hy, ?_⟩⟩⟩
      rcases hown (by omega) with ⟨d, _⟩ | ⟨d, _⟩ | ⟨_, k, _⟩ | ⟨d, _⟩ | ⟨d, _⟩
      · exfalso; omega
      · exfalso; omega
      · exact .inr (.inr (.inl ⟨q4 rfl, by rw [q1]; exact k, rfl⟩))
      all_goals (exfalso; omega)
    all_goals
      rw [hZ]
      have hl : 0 ≤ nan ∧ nan < 18446744073709551616 := by omega
      obtain ⟨y, hy⟩ := opd_ex hF nan hl.1 hl.2
      have hyc : y.c = 3 := by
        rcases hy with ⟨_, hu⟩ | ⟨k, _⟩
        · obtain ⟨v, h1, h2⟩ := hu
          rcases h2 with h2 | h2 | h2 | h2 | ⟨h2, h3, _⟩ <;> omega
        · exfalso; omega
      exact ⟨hl, p', mx', one', inf', sg', nan', x, hG, hx, .inr ⟨by omega, nan', .inl ⟨p', mx', one', inf', sg', nan', p, mx, one, inf, sg, nan, y, hG, hw, hF, hy, .inr (.inr (.inr (.inl ⟨hyc, rfl, rfl⟩)))⟩⟩⟩
  · rcases k with k | k
    · exact absurd hw k
    · exact absurd (.inl rfl) k
  · exact absurd (.inr rfl) k
end Go.Proofs.YtfakbjgbbcigpaaGreatDoor

/- laws.FnInts: what its walk calls. -/
set_option linter.unusedVariables false
set_option linter.unusedSimpArgs false
namespace Go.Proofs.YtfakbjgbbcigpaaGreatDoor
open Go.RowKit

set_option maxRecDepth 100000 in
theorem intClass_any (f v c s x g : Int) (HU : Hid (∀ w, Calls Tryz.prog 44 #[.int .i64 f, .int .u64 v] w fun e w' => e = .returned (.agg #[.int .i64 c, .int .i64 s, .int .i64 x, .int .u64 g]) ∧ Gr w w')) (w : World) : Calls Tryz.prog 12 #[.int .i64 f, .int .u64 v] w fun e w' => e = .returned (.int .i64 c) ∧ Gr w w' := by
  have hf : ∀ w, (Instr.field 89 (.agg #[.int .i64 c, .int .i64 s, .int .i64 x, .int .u64 g]) 0).run Tryz.prog w = .ok (.int .i64 c) w := fun w => by kernel_rfl
  go_enter Tryz.func12, Tryz.ntmps12
  go_wp2_with (go_at_call 44; refine (HU.out _).mono ?_; rintro x w1 ⟨rfl, hg_w1⟩)
  go_returns
  exact ⟨rfl, by first | exact hg_w1 | exact kr⟩

theorem CodeRow.gbI {w w' : World} {a : Option Addr} {len : Nat} (h : CodeRow w a len) (g : Gb w w') : CodeRow w' a len := by
  obtain ⟨h1, h2⟩ := h
  refine ⟨h1, ?_⟩
  rcases h2 with e | ⟨b, off, rfl, hc⟩
  · exact .inl e
  · refine .inr ⟨b, off, rfl, fun i hi => ?_⟩
    obtain ⟨z, z0, z1, hz⟩ := hc i hi
    exact ⟨z, z0, z1, g.old hz⟩

theorem ints_all (f m k v : Int) (v0 : 0 ≤ v) (v1 : v < 18446744073709551616) (w : World) (hw : Fm w) : ∃ Z fl, InA f m k v Z fl w := by
  obtain ⟨Z, fl, hF, S, I⟩ := fromInt_same f m k v v0 v1
  refine ⟨Z, fl, ⟨S, fun w' hg => I w' (hw.gb hg), fun hfl way w' h0 h4 hg => ?_⟩⟩
  subst hfl
  obtain ⟨⟨Z0, Z1⟩, hT⟩ := ints_back v0 v1 hF way ⟨h0, h4⟩
  obtain ⟨Y, gl, hT', _, J⟩ := toInt_same f way k Z Z0 Z1
  obtain ⟨rfl, rfl⟩ := ToIntIs.one hT hT'
  exact J w' (hw.gb hg)

theorem conv_all (v way : Int) (v0 : 0 ≤ v) (v1 : v < 4294967296) (h0 : 0 ≤ way) (h4 : way ≤ 4) (w : World) (hw : Fm w) : ∃ up fl dn c, InB v way up fl dn c w ∧ (decide (c < 3) = true ∧ decide (3 ≤ c) = false ∧ dn = v ∧ fl = 0 ∨ decide (c < 3) = false ∧ decide (3 ≤ c) = true) := by
  obtain ⟨up, fl, hC, S, I⟩ := conv_same 0 1 way v v0 (by omega)
  obtain ⟨⟨u0, u1⟩, p, mx, one, inf, sg, nan, x, hF, hx, hcase⟩ := conv_back v0 v1 ⟨h0, h4⟩ hC
  obtain ⟨dn, gl, hC', S', I'⟩ := conv_same 1 0 way up u0 u1
  have hsg : v < 2 * sg := by rcases hF with ⟨_, rfl, rfl, rfl, rfl, rfl, rfl⟩ | ⟨e, _⟩ <;> omega
  have hcl : ∀ w', Calls Tryz.prog 12 #[.int .i64 0, .int .u64 v] w' fun e w'' => e = .returned (.int .i64 x.c) ∧ Gr w' w'' := fun w' => intClass_any 0 v _ _ _ _ (unp_det hF v v0 hsg hx) w'
  rcases hcase with ⟨c, rfl, hB⟩ | ⟨c, Y, hB⟩
  · obtain ⟨rfl, rfl⟩ := ConvIs.one hC' hB
    exact ⟨up, 0, dn, x.c, ⟨fun w' hg => I w' (hw.gb hg), S, fun w' hg => I' w' (hw.gb hg), S', hcl⟩, .inl ⟨decide_eq_true (by omega), decide_eq_false (by omega), rfl, rfl⟩⟩
  · obtain ⟨rfl, rfl⟩ := ConvIs.one hC' hB
    exact ⟨up, fl, dn, x.c, ⟨fun w' hg => I w' (hw.gb hg), S, fun w' hg => I' w' (hw.gb hg), S', hcl⟩, .inr ⟨decide_eq_false (by omega), decide_eq_true c⟩⟩

theorem lawInts (a : Option Addr) (len cap : Nat) (w : World) (hC : CodeRow w a len) (hw : Fm w) :
    Calls Tryz.prog 3 #[.slice a len cap] w fun e w' => e = .returned (.bool true) ∧ Gb w w' :=
  ints_walk a len cap w hC
    (fun w' hg => drawFromInt_any a len cap w' (CodeRow.gbI hC hg) (fun s k b n c N w hs hN hB => (l5Word_any s hs 20 (by omega) N hN b n c w hB).mono (fun e w' ⟨h1, h2⟩ => ⟨_, (wordK_lt s N hN).1, (wordK_lt s N hN).2, h1, h2⟩)))
    (fun w' hg => drawUnp_any a len cap w' (CodeRow.gbI hC hg))
    (fun f m k v v0 v1 => ints_all f m k v v0 v1 w hw)
    (fun v way v0 v1 h0 h4 => conv_all v way v0 v1 h0 h4 w hw)
end Go.Proofs.YtfakbjgbbcigpaaGreatDoor
