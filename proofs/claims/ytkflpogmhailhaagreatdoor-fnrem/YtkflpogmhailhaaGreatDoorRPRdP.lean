/- impl's round: the ways through it. -/
import Derived.Test.YtkflpogmhailhaaGreatDoorF2b
import Derived.Test.YtkflpogmhailhaaGreatDoorA2
import Derived.Deep.RegionHeld3
set_option linter.unusedVariables false
set_option linter.unusedSimpArgs false
namespace Go.Proofs.YtkflpogmhailhaaGreatDoor
open Go.RowKit

set_option maxRecDepth 100000 in
set_option maxHeartbeats 4000000 in
theorem round_Z {p mn mx fb sp one inf sg nan : Int} (h : IsM p mn mx fb sp one inf sg nan) (md : Int) (k : Nat) (sign e : Int) (sticky : Bool) (e0 : -200000 ≤ e) (e1 : e ≤ 200000) (z0 : Int) (HZe : Hid (∀ w, Calls Tryz.prog 85 #[.agg #[.int .i64 p, .int .i64 mn, .int .i64 mx], .int .i64 sign] w fun x w' => x = .returned (.int .u64 z0) ∧ Gr w w')) (w : World) :
    Calls Tryz.prog 114 #[.agg #[.int .i64 p, .int .i64 mn, .int .i64 mx, .int .i64 md, .func (.func k) #[] #[]], .int .i64 sign, .int .i64 e, .agg #[.int .u64 0, .int .u64 0], .bool sticky] w fun x w' => x = .returned (.agg #[.int .u64 z0, .int .i64 0]) ∧ Gr w w' := by
  have HF : Hid (∀ w, Calls Tryz.prog 117 #[.agg #[.int .i64 p, .int .i64 mn, .int .i64 mx]] w fun e w' => e = .returned (.int .i64 fb) ∧ Gr w w') := fun w => fb_any h w
  have HInf : Hid (∀ w, Calls Tryz.prog 84 #[.agg #[.int .i64 p, .int .i64 mn, .int .i64 mx], .int .i64 0] w fun e w' => e = .returned (.int .u64 inf) ∧ Gr w w') := fun w => inf_any h 0 inf (.inl ⟨rfl, rfl⟩) w
  have hq := eqWideS 0 0 0 0
  simp only [BEq.rfl, Bool.and_true, Bool.true_and] at hq
  clear h
  go_enter Tryz.func114, Tryz.ntmps114
  go_wp2_with (first
      | (go_at_call 85; refine (HZe.out _).mono ?_; rintro x w6 ⟨rfl, hg_w6⟩; have gc0 : w6.cell? ⟨w.heap.size, 0, none⟩ = some (.int .i64 p) := kq; have gc1 : w6.cell? ⟨w.heap.size, 1, none⟩ = some (.int .i64 mn) := kq; have gc2 : w6.cell? ⟨w.heap.size, 2, none⟩ = some (.int .i64 mx) := kq; have gm3 : w6.cell? ⟨w.heap.size, 3, none⟩ = some (.int .i64 md) := kq; have gm4 : w6.cell? ⟨w.heap.size, 4, none⟩ = some (.func (.func k) #[] #[]) := kq; have gc3 : w6.cell? ⟨w.heap.size + 1, 0, none⟩ = some (.int .u64 0) := kq; have gc4 : w6.cell? ⟨w.heap.size + 1, 1, none⟩ = some (.int .u64 0) := kq; have gr0 : w6.cell? ⟨w.heap.size + 1 + 1, 0, none⟩ = some (.int .u64 0) := kq; have gz0 : w6.frozen? ⟨w.heap.size + 1 + 1, 0, none⟩ = false := kq; have gr1 : w6.cell? ⟨w.heap.size + 1 + 1, 1, none⟩ = some (.int .i64 0) := kq; have gz1 : w6.frozen? ⟨w.heap.size + 1 + 1, 1, none⟩ = false := kq))
  all_goals
    refine bodyPost_ret (v := .agg #[.int .u64 z0, .int .i64 0]) (by simp [results, Tryz.results114, go_sem, gr0, gr1]) rfl ⟨rfl, ?_⟩
    exact kr


set_option maxRecDepth 100000 in
set_option maxHeartbeats 4000000 in
theorem round_O {p mn mx fb sp one inf sg nan : Int} (h : IsM p mn mx fb sp one inf sg nan) (md : Int) (k : Nat) (sign e mh ml : Int) (sticky : Bool) (e0 : -200000 ≤ e) (e1 : e ≤ 200000) (hnz : (mh == 0 && ml == 0) = false) (L : Nat) (u top E : Int) (hL : L ≤ 128) (hu : 128 - (L : Int) = u) (htop : (L : Int) + e - 1 = top) (hE : max top mn = E) (HZ : Hid (∀ w, Calls Tryz.prog 141 #[.agg #[.int .u64 mh, .int .u64 ml]] w fun x w' => x = .returned (.int .i64 u) ∧ Gr w w')) (z : Int) (HO : Hid (∀ w, Calls Tryz.prog 142 #[.agg #[.int .i64 p, .int .i64 mn, .int .i64 mx, .int .i64 md, .func (.func k) #[] #[]], .int .i64 sign] w fun x w' => x = .returned (.agg #[.int .u64 z, .int .i64 20]) ∧ Gr w w')) (c : mx < E) (w : World) :
    Calls Tryz.prog 114 #[.agg #[.int .i64 p, .int .i64 mn, .int .i64 mx, .int .i64 md, .func (.func k) #[] #[]], .int .i64 sign, .int .i64 e, .agg #[.int .u64 mh, .int .u64 ml], .bool sticky] w fun x w' => x = .returned (.agg #[.int .u64 z, .int .i64 20]) ∧ Gr w w' := by
  have HF : Hid (∀ w, Calls Tryz.prog 117 #[.agg #[.int .i64 p, .int .i64 mn, .int .i64 mx]] w fun e w' => e = .returned (.int .i64 fb) ∧ Gr w w') := fun w => fb_any h w
  have HInf : Hid (∀ w, Calls Tryz.prog 84 #[.agg #[.int .i64 p, .int .i64 mn, .int .i64 mx], .int .i64 0] w fun e w' => e = .returned (.int .u64 inf) ∧ Gr w w') := fun w => inf_any h 0 inf (.inl ⟨rfl, rfl⟩) w
  have hq := eqWideS mh ml 0 0
  have hq2 : (mh == 0 && ml == 0) = false := hnz
  simp only [hq2] at hq
  have bb : -1022 ≤ mn ∧ mn ≤ 0 ∧ 0 < mx ∧ mx ≤ 1023 ∧ 0 ≤ fb ∧ fb ≤ 52 := by rcases h with h | h <;> omega
  have t1 : e + 128 - 1 - u = top := by omega
  have t2 : e + 127 - u = top := by omega
  have tb : -300000 ≤ top ∧ top ≤ 300000 := by omega
  have Eb : -300000 ≤ E ∧ E ≤ 300000 := by omega
  have ub : 0 ≤ u ∧ u ≤ 128 := by omega
  clear hnz hq2 hu htop
  clear h
  go_enter Tryz.func114, Tryz.ntmps114
  go_wp2_with (first
      | (go_at_call 141; refine (HZ.out _).mono ?_; rintro x w1 ⟨rfl, hg_w1⟩; have ac0 : w1.cell? ⟨w.heap.size, 0, none⟩ = some (.int .i64 p) := kq; have ac1 : w1.cell? ⟨w.heap.size, 1, none⟩ = some (.int .i64 mn) := kq; have ac2 : w1.cell? ⟨w.heap.size, 2, none⟩ = some (.int .i64 mx) := kq; have am3 : w1.cell? ⟨w.heap.size, 3, none⟩ = some (.int .i64 md) := kq; have am4 : w1.cell? ⟨w.heap.size, 4, none⟩ = some (.func (.func k) #[] #[]) := kq; have ac3 : w1.cell? ⟨w.heap.size + 1, 0, none⟩ = some (.int .u64 mh) := kq; have ac4 : w1.cell? ⟨w.heap.size + 1, 1, none⟩ = some (.int .u64 ml) := kq; have ar0 : w1.cell? ⟨w.heap.size + 1 + 1, 0, none⟩ = some (.int .u64 0) := kq; have az0 : w1.frozen? ⟨w.heap.size + 1 + 1, 0, none⟩ = false := kq; have ar1 : w1.cell? ⟨w.heap.size + 1 + 1, 1, none⟩ = some (.int .i64 0) := kq; have az1 : w1.frozen? ⟨w.heap.size + 1 + 1, 1, none⟩ = false := kq)
      | (go_at_call 142; refine (HO.out _).mono ?_; rintro x wo ⟨rfl, hg_wo⟩; have oc0 : wo.cell? ⟨w.heap.size, 0, none⟩ = some (.int .i64 p) := kq; have oc1 : wo.cell? ⟨w.heap.size, 1, none⟩ = some (.int .i64 mn) := kq; have oc2 : wo.cell? ⟨w.heap.size, 2, none⟩ = some (.int .i64 mx) := kq; have om3 : wo.cell? ⟨w.heap.size, 3, none⟩ = some (.int .i64 md) := kq; have om4 : wo.cell? ⟨w.heap.size, 4, none⟩ = some (.func (.func k) #[] #[]) := kq; have oc3 : wo.cell? ⟨w.heap.size + 1, 0, none⟩ = some (.int .u64 mh) := kq; have oc4 : wo.cell? ⟨w.heap.size + 1, 1, none⟩ = some (.int .u64 ml) := kq; have or0 : wo.cell? ⟨w.heap.size + 1 + 1, 0, none⟩ = some (.int .u64 0) := kq; have oz0 : wo.frozen? ⟨w.heap.size + 1 + 1, 0, none⟩ = false := kq; have or1 : wo.cell? ⟨w.heap.size + 1 + 1, 1, none⟩ = some (.int .i64 0) := kq; have oz1 : wo.frozen? ⟨w.heap.size + 1 + 1, 1, none⟩ = false := kq))
  all_goals
    refine bodyPost_ret (v := .agg #[.int .u64 z, .int .i64 20]) (by simp [results, Tryz.results114, go_sem, or0, or1]) rfl ⟨rfl, ?_⟩
    exact kr


set_option maxRecDepth 100000 in
set_option maxHeartbeats 4000000 in
theorem round_V {p mn mx fb sp one inf sg nan : Int} (h : IsM p mn mx fb sp one inf sg nan) (md : Int) (k : Nat) (sign e mh ml : Int) (sticky : Bool) (e0 : -200000 ≤ e) (e1 : e ≤ 200000) (hnz : (mh == 0 && ml == 0) = false) (L : Nat) (u top E : Int) (hL : L ≤ 128) (hu : 128 - (L : Int) = u) (htop : (L : Int) + e - 1 = top) (hE : max top mn = E) (HZ : Hid (∀ w, Calls Tryz.prog 141 #[.agg #[.int .u64 mh, .int .u64 ml]] w fun x w' => x = .returned (.int .i64 u) ∧ Gr w w')) (c : E ≤ mx) (a1 dr r : Int) (inex : Bool) (ha : E - fb = a1) (hdr : a1 - e = dr) (HAt : Hid (∀ w, Calls Tryz.prog 143 #[.func (.func k) #[] #[], .int .i64 dr, .int .i64 sign, .agg #[.int .u64 mh, .int .u64 ml], .bool sticky] w fun x w' => x = .returned (.tuple #[.int .u64 r, .bool inex]) ∧ Gr w w')) (r0 : 0 ≤ r) (a2 Y G : Int) (ha2 : E - mn = a2) (hY : a2 * one = Y) (hG : Y + r = G) (G1 : G < 18446744073709551616) (a20 : 0 ≤ a2) (Y0 : 0 ≤ Y) (z : Int) (HO : Hid (∀ w, Calls Tryz.prog 142 #[.agg #[.int .i64 p, .int .i64 mn, .int .i64 mx, .int .i64 md, .func (.func k) #[] #[]], .int .i64 sign] w fun x w' => x = .returned (.agg #[.int .u64 z, .int .i64 20]) ∧ Gr w w')) (hv : inf ≤ G) (w : World) :
    Calls Tryz.prog 114 #[.agg #[.int .i64 p, .int .i64 mn, .int .i64 mx, .int .i64 md, .func (.func k) #[] #[]], .int .i64 sign, .int .i64 e, .agg #[.int .u64 mh, .int .u64 ml], .bool sticky] w fun x w' => x = .returned (.agg #[.int .u64 z, .int .i64 20]) ∧ Gr w w' := by
  have HF : Hid (∀ w, Calls Tryz.prog 117 #[.agg #[.int .i64 p, .int .i64 mn, .int .i64 mx]] w fun e w' => e = .returned (.int .i64 fb) ∧ Gr w w') := fun w => fb_any h w
  have HInf : Hid (∀ w, Calls Tryz.prog 84 #[.agg #[.int .i64 p, .int .i64 mn, .int .i64 mx], .int .i64 0] w fun e w' => e = .returned (.int .u64 inf) ∧ Gr w w') := fun w => inf_any h 0 inf (.inl ⟨rfl, rfl⟩) w
  have hq := eqWideS mh ml 0 0
  have hq2 : (mh == 0 && ml == 0) = false := hnz
  simp only [hq2] at hq
  have bb : -1022 ≤ mn ∧ mn ≤ 0 ∧ 0 < mx ∧ mx ≤ 1023 ∧ 0 ≤ fb ∧ fb ≤ 52 := by rcases h with h | h <;> omega
  have t1 : e + 128 - 1 - u = top := by omega
  have t2 : e + 127 - u = top := by omega
  have tb : -300000 ≤ top ∧ top ≤ 300000 := by omega
  have Eb : -300000 ≤ E ∧ E ≤ 300000 := by omega
  have ub : 0 ≤ u ∧ u ≤ 128 := by omega
  clear hnz hq2 hu htop
  have u1 : IntKind.i64.wrap (E - fb) = a1 := by rw [ha]; exact wi64 _ (by omega) (by omega)
  have u2 : IntKind.i64.wrap (a1 - e) = dr := by rw [hdr]; exact wi64 _ (by omega) (by omega)
  have u3 : IntKind.i64.wrap (E - mn) = a2 := by rw [ha2]; exact wi64 _ (by omega) (by omega)
  have u4 : IntKind.u64.wrap a2 = a2 := wu64 _ (by omega) (by omega)
  have u5 : IntKind.u64.wrap (a2 * 2 ^ fb.toNat) = Y := by
    have : (2 : Int) ^ fb.toNat = one := by rcases h with ⟨rfl, rfl, rfl, rfl, rfl, rfl, rfl, rfl, rfl⟩ | ⟨rfl, rfl, rfl, rfl, rfl, rfl, rfl, rfl, rfl⟩ <;> decide
    rw [this, hY]; exact wu64 _ Y0 (by omega)
  have u6 : IntKind.u64.wrap (Y + r) = G := by rw [hG]; exact wu64 _ (by omega) (by omega)
  have u7 : ¬ fb < 0 := by omega
  have G0 : 0 ≤ G := by omega
  clear ha hdr ha2 hY hG
  clear h
  go_enter Tryz.func114, Tryz.ntmps114
  go_wp2_with (first
      | (go_at_call 141; refine (HZ.out _).mono ?_; rintro x w1 ⟨rfl, hg_w1⟩; have ac0 : w1.cell? ⟨w.heap.size, 0, none⟩ = some (.int .i64 p) := kq; have ac1 : w1.cell? ⟨w.heap.size, 1, none⟩ = some (.int .i64 mn) := kq; have ac2 : w1.cell? ⟨w.heap.size, 2, none⟩ = some (.int .i64 mx) := kq; have am3 : w1.cell? ⟨w.heap.size, 3, none⟩ = some (.int .i64 md) := kq; have am4 : w1.cell? ⟨w.heap.size, 4, none⟩ = some (.func (.func k) #[] #[]) := kq; have ac3 : w1.cell? ⟨w.heap.size + 1, 0, none⟩ = some (.int .u64 mh) := kq; have ac4 : w1.cell? ⟨w.heap.size + 1, 1, none⟩ = some (.int .u64 ml) := kq; have ar0 : w1.cell? ⟨w.heap.size + 1 + 1, 0, none⟩ = some (.int .u64 0) := kq; have az0 : w1.frozen? ⟨w.heap.size + 1 + 1, 0, none⟩ = false := kq; have ar1 : w1.cell? ⟨w.heap.size + 1 + 1, 1, none⟩ = some (.int .i64 0) := kq; have az1 : w1.frozen? ⟨w.heap.size + 1 + 1, 1, none⟩ = false := kq))
  go_region_held3 (fun w' => w'.cell? ⟨w.heap.size, 0, none⟩ = some (.int .i64 p) ∧ w'.cell? ⟨w.heap.size, 1, none⟩ = some (.int .i64 mn) ∧ w'.cell? ⟨w.heap.size, 2, none⟩ = some (.int .i64 mx) ∧ w'.cell? ⟨w.heap.size, 3, none⟩ = some (.int .i64 md) ∧ w'.cell? ⟨w.heap.size, 4, none⟩ = some (.func (.func k) #[] #[]) ∧ w'.cell? ⟨w.heap.size + 1, 0, none⟩ = some (.int .u64 mh) ∧ w'.cell? ⟨w.heap.size + 1, 1, none⟩ = some (.int .u64 ml) ∧ w'.cell? ⟨w.heap.size + 1 + 1, 0, none⟩ = some (.int .u64 0) ∧ w'.cell? ⟨w.heap.size + 1 + 1, 1, none⟩ = some (.int .i64 0) ∧ w'.frozen? ⟨w.heap.size + 1 + 1, 0, none⟩ = false ∧ w'.frozen? ⟨w.heap.size + 1 + 1, 1, none⟩ = false)
    ((go_split_ands; (repeat' apply And.intro) <;> exact kl))
    (first
      | (go_at_call 117; refine (HF.out _).mono ?_; rintro x w2 ⟨rfl, hg_w2⟩; have hc_w2 := hg_w2.cells; have hf_w2 := hg_w2.frozens; have hz_w2 := hg_w2.size; (try simp only [World.size_alloc, World.size_drew, World.size_setCell] at hz_w2))
      | (go_at_call 143; refine (HAt.out _).mono ?_; rintro x w3 ⟨rfl, hg_w3⟩; have hc_w3 := hg_w3.cells; have hf_w3 := hg_w3.frozens; have hz_w3 := hg_w3.size; (try simp only [World.size_alloc, World.size_drew, World.size_setCell] at hz_w3)))
  all_goals (try go_split_ands)
  all_goals go_wp2
  all_goals
    go_region_held3 (fun w' => w'.cell? ⟨w.heap.size, 0, none⟩ = some (.int .i64 p) ∧ w'.cell? ⟨w.heap.size, 1, none⟩ = some (.int .i64 mn) ∧ w'.cell? ⟨w.heap.size, 2, none⟩ = some (.int .i64 mx) ∧ w'.cell? ⟨w.heap.size, 3, none⟩ = some (.int .i64 md) ∧ w'.cell? ⟨w.heap.size, 4, none⟩ = some (.func (.func k) #[] #[]) ∧ w'.cell? ⟨w.heap.size + 1, 0, none⟩ = some (.int .u64 mh) ∧ w'.cell? ⟨w.heap.size + 1, 1, none⟩ = some (.int .u64 ml) ∧ w'.cell? ⟨w.heap.size + 1 + 1, 0, none⟩ = some (.int .u64 0) ∧ w'.cell? ⟨w.heap.size + 1 + 1, 1, none⟩ = some (.int .i64 0) ∧ w'.frozen? ⟨w.heap.size + 1 + 1, 0, none⟩ = false ∧ w'.frozen? ⟨w.heap.size + 1 + 1, 1, none⟩ = false)
      ((go_split_ands; (repeat' apply And.intro) <;> exact kl))
      (first | (go_at_call 117; refine (HF.out _).mono ?_; rintro x w4 ⟨rfl, hg_w4⟩; have hc_w4 := hg_w4.cells; have hf_w4 := hg_w4.frozens; have hz_w4 := hg_w4.size; (try simp only [World.size_alloc, World.size_drew, World.size_setCell] at hz_w4)))
  all_goals (try go_split_ands)
  all_goals
    go_wp2_with (first
      | (go_at_call 84; refine (HInf.out _).mono ?_; rintro x w5 ⟨rfl, hg_w5⟩; have fc0 : w5.cell? ⟨w.heap.size, 0, none⟩ = some (.int .i64 p) := kq; have fc1 : w5.cell? ⟨w.heap.size, 1, none⟩ = some (.int .i64 mn) := kq; have fc2 : w5.cell? ⟨w.heap.size, 2, none⟩ = some (.int .i64 mx) := kq; have fm3 : w5.cell? ⟨w.heap.size, 3, none⟩ = some (.int .i64 md) := kq; have fm4 : w5.cell? ⟨w.heap.size, 4, none⟩ = some (.func (.func k) #[] #[]) := kq; have fc3 : w5.cell? ⟨w.heap.size + 1, 0, none⟩ = some (.int .u64 mh) := kq; have fc4 : w5.cell? ⟨w.heap.size + 1, 1, none⟩ = some (.int .u64 ml) := kq; have fr0 : w5.cell? ⟨w.heap.size + 1 + 1, 0, none⟩ = some (.int .u64 0) := kq; have fz0 : w5.frozen? ⟨w.heap.size + 1 + 1, 0, none⟩ = false := kq; have fr1 : w5.cell? ⟨w.heap.size + 1 + 1, 1, none⟩ = some (.int .i64 0) := kq; have fz1 : w5.frozen? ⟨w.heap.size + 1 + 1, 1, none⟩ = false := kq)
      | (go_at_call 142; refine (HO.out _).mono ?_; rintro x wo ⟨rfl, hg_wo⟩; have oc0 : wo.cell? ⟨w.heap.size, 0, none⟩ = some (.int .i64 p) := kq; have oc1 : wo.cell? ⟨w.heap.size, 1, none⟩ = some (.int .i64 mn) := kq; have oc2 : wo.cell? ⟨w.heap.size, 2, none⟩ = some (.int .i64 mx) := kq; have om3 : wo.cell? ⟨w.heap.size, 3, none⟩ = some (.int .i64 md) := kq; have om4 : wo.cell? ⟨w.heap.size, 4, none⟩ = some (.func (.func k) #[] #[]) := kq; have oc3 : wo.cell? ⟨w.heap.size + 1, 0, none⟩ = some (.int .u64 mh) := kq; have oc4 : wo.cell? ⟨w.heap.size + 1, 1, none⟩ = some (.int .u64 ml) := kq; have or0 : wo.cell? ⟨w.heap.size + 1 + 1, 0, none⟩ = some (.int .u64 0) := kq; have oz0 : wo.frozen? ⟨w.heap.size + 1 + 1, 0, none⟩ = false := kq; have or1 : wo.cell? ⟨w.heap.size + 1 + 1, 1, none⟩ = some (.int .i64 0) := kq; have oz1 : wo.frozen? ⟨w.heap.size + 1 + 1, 1, none⟩ = false := kq))
  all_goals
    refine bodyPost_ret (v := .agg #[.int .u64 z, .int .i64 20]) (by simp [results, Tryz.results114, go_sem, or0, or1]) rfl ⟨rfl, ?_⟩
    exact kr


set_option maxRecDepth 100000 in
set_option maxHeartbeats 4000000 in
theorem round_X {p mn mx fb sp one inf sg nan : Int} (h : IsM p mn mx fb sp one inf sg nan) (md : Int) (k : Nat) (sign e mh ml : Int) (sticky : Bool) (e0 : -200000 ≤ e) (e1 : e ≤ 200000) (hnz : (mh == 0 && ml == 0) = false) (L : Nat) (u top E : Int) (hL : L ≤ 128) (hu : 128 - (L : Int) = u) (htop : (L : Int) + e - 1 = top) (hE : max top mn = E) (HZ : Hid (∀ w, Calls Tryz.prog 141 #[.agg #[.int .u64 mh, .int .u64 ml]] w fun x w' => x = .returned (.int .i64 u) ∧ Gr w w')) (c : E ≤ mx) (a1 dr r : Int)  (ha : E - fb = a1) (hdr : a1 - e = dr) (HAt : Hid (∀ w, Calls Tryz.prog 143 #[.func (.func k) #[] #[], .int .i64 dr, .int .i64 sign, .agg #[.int .u64 mh, .int .u64 ml], .bool sticky] w fun x w' => x = .returned (.tuple #[.int .u64 r, .bool false]) ∧ Gr w w')) (r0 : 0 ≤ r) (a2 Y G : Int) (ha2 : E - mn = a2) (hY : a2 * one = Y) (hG : Y + r = G) (G1 : G < 18446744073709551616) (a20 : 0 ≤ a2) (Y0 : 0 ≤ Y) (z0 z : Int) (HZe : Hid (∀ w, Calls Tryz.prog 85 #[.agg #[.int .i64 p, .int .i64 mn, .int .i64 mx], .int .i64 sign] w fun x w' => x = .returned (.int .u64 z0) ∧ Gr w w')) (hor : bits .or .u64 z0 G = z) (hv : G < inf) (w : World) :
    Calls Tryz.prog 114 #[.agg #[.int .i64 p, .int .i64 mn, .int .i64 mx, .int .i64 md, .func (.func k) #[] #[]], .int .i64 sign, .int .i64 e, .agg #[.int .u64 mh, .int .u64 ml], .bool sticky] w fun x w' => x = .returned (.agg #[.int .u64 z, .int .i64 0]) ∧ Gr w w' := by
  have HF : Hid (∀ w, Calls Tryz.prog 117 #[.agg #[.int .i64 p, .int .i64 mn, .int .i64 mx]] w fun e w' => e = .returned (.int .i64 fb) ∧ Gr w w') := fun w => fb_any h w
  have HInf : Hid (∀ w, Calls Tryz.prog 84 #[.agg #[.int .i64 p, .int .i64 mn, .int .i64 mx], .int .i64 0] w fun e w' => e = .returned (.int .u64 inf) ∧ Gr w w') := fun w => inf_any h 0 inf (.inl ⟨rfl, rfl⟩) w
  have hq := eqWideS mh ml 0 0
  have hq2 : (mh == 0 && ml == 0) = false := hnz
  simp only [hq2] at hq
  have bb : -1022 ≤ mn ∧ mn ≤ 0 ∧ 0 < mx ∧ mx ≤ 1023 ∧ 0 ≤ fb ∧ fb ≤ 52 := by rcases h with h | h <;> omega
  have t1 : e + 128 - 1 - u = top := by omega
  have t2 : e + 127 - u = top := by omega
  have tb : -300000 ≤ top ∧ top ≤ 300000 := by omega
  have Eb : -300000 ≤ E ∧ E ≤ 300000 := by omega
  have ub : 0 ≤ u ∧ u ≤ 128 := by omega
  clear hnz hq2 hu htop
  have u1 : IntKind.i64.wrap (E - fb) = a1 := by rw [ha]; exact wi64 _ (by omega) (by omega)
  have u2 : IntKind.i64.wrap (a1 - e) = dr := by rw [hdr]; exact wi64 _ (by omega) (by omega)
  have u3 : IntKind.i64.wrap (E - mn) = a2 := by rw [ha2]; exact wi64 _ (by omega) (by omega)
  have u4 : IntKind.u64.wrap a2 = a2 := wu64 _ (by omega) (by omega)
  have u5 : IntKind.u64.wrap (a2 * 2 ^ fb.toNat) = Y := by
    have : (2 : Int) ^ fb.toNat = one := by rcases h with ⟨rfl, rfl, rfl, rfl, rfl, rfl, rfl, rfl, rfl⟩ | ⟨rfl, rfl, rfl, rfl, rfl, rfl, rfl, rfl, rfl⟩ <;> decide
    rw [this, hY]; exact wu64 _ Y0 (by omega)
  have u6 : IntKind.u64.wrap (Y + r) = G := by rw [hG]; exact wu64 _ (by omega) (by omega)
  have u7 : ¬ fb < 0 := by omega
  have G0 : 0 ≤ G := by omega
  clear ha hdr ha2 hY hG
  clear h
  go_enter Tryz.func114, Tryz.ntmps114
  go_wp2_with (first
      | (go_at_call 141; refine (HZ.out _).mono ?_; rintro x w1 ⟨rfl, hg_w1⟩; have ac0 : w1.cell? ⟨w.heap.size, 0, none⟩ = some (.int .i64 p) := kq; have ac1 : w1.cell? ⟨w.heap.size, 1, none⟩ = some (.int .i64 mn) := kq; have ac2 : w1.cell? ⟨w.heap.size, 2, none⟩ = some (.int .i64 mx) := kq; have am3 : w1.cell? ⟨w.heap.size, 3, none⟩ = some (.int .i64 md) := kq; have am4 : w1.cell? ⟨w.heap.size, 4, none⟩ = some (.func (.func k) #[] #[]) := kq; have ac3 : w1.cell? ⟨w.heap.size + 1, 0, none⟩ = some (.int .u64 mh) := kq; have ac4 : w1.cell? ⟨w.heap.size + 1, 1, none⟩ = some (.int .u64 ml) := kq; have ar0 : w1.cell? ⟨w.heap.size + 1 + 1, 0, none⟩ = some (.int .u64 0) := kq; have az0 : w1.frozen? ⟨w.heap.size + 1 + 1, 0, none⟩ = false := kq; have ar1 : w1.cell? ⟨w.heap.size + 1 + 1, 1, none⟩ = some (.int .i64 0) := kq; have az1 : w1.frozen? ⟨w.heap.size + 1 + 1, 1, none⟩ = false := kq))
  go_region_held3 (fun w' => w'.cell? ⟨w.heap.size, 0, none⟩ = some (.int .i64 p) ∧ w'.cell? ⟨w.heap.size, 1, none⟩ = some (.int .i64 mn) ∧ w'.cell? ⟨w.heap.size, 2, none⟩ = some (.int .i64 mx) ∧ w'.cell? ⟨w.heap.size, 3, none⟩ = some (.int .i64 md) ∧ w'.cell? ⟨w.heap.size, 4, none⟩ = some (.func (.func k) #[] #[]) ∧ w'.cell? ⟨w.heap.size + 1, 0, none⟩ = some (.int .u64 mh) ∧ w'.cell? ⟨w.heap.size + 1, 1, none⟩ = some (.int .u64 ml) ∧ w'.cell? ⟨w.heap.size + 1 + 1, 0, none⟩ = some (.int .u64 0) ∧ w'.cell? ⟨w.heap.size + 1 + 1, 1, none⟩ = some (.int .i64 0) ∧ w'.frozen? ⟨w.heap.size + 1 + 1, 0, none⟩ = false ∧ w'.frozen? ⟨w.heap.size + 1 + 1, 1, none⟩ = false)
    ((go_split_ands; (repeat' apply And.intro) <;> exact kl))
    (first
      | (go_at_call 117; refine (HF.out _).mono ?_; rintro x w2 ⟨rfl, hg_w2⟩; have hc_w2 := hg_w2.cells; have hf_w2 := hg_w2.frozens; have hz_w2 := hg_w2.size; (try simp only [World.size_alloc, World.size_drew, World.size_setCell] at hz_w2))
      | (go_at_call 143; refine (HAt.out _).mono ?_; rintro x w3 ⟨rfl, hg_w3⟩; have hc_w3 := hg_w3.cells; have hf_w3 := hg_w3.frozens; have hz_w3 := hg_w3.size; (try simp only [World.size_alloc, World.size_drew, World.size_setCell] at hz_w3)))
  all_goals (try go_split_ands)
  all_goals go_wp2
  all_goals
    go_region_held3 (fun w' => w'.cell? ⟨w.heap.size, 0, none⟩ = some (.int .i64 p) ∧ w'.cell? ⟨w.heap.size, 1, none⟩ = some (.int .i64 mn) ∧ w'.cell? ⟨w.heap.size, 2, none⟩ = some (.int .i64 mx) ∧ w'.cell? ⟨w.heap.size, 3, none⟩ = some (.int .i64 md) ∧ w'.cell? ⟨w.heap.size, 4, none⟩ = some (.func (.func k) #[] #[]) ∧ w'.cell? ⟨w.heap.size + 1, 0, none⟩ = some (.int .u64 mh) ∧ w'.cell? ⟨w.heap.size + 1, 1, none⟩ = some (.int .u64 ml) ∧ w'.cell? ⟨w.heap.size + 1 + 1, 0, none⟩ = some (.int .u64 0) ∧ w'.cell? ⟨w.heap.size + 1 + 1, 1, none⟩ = some (.int .i64 0) ∧ w'.frozen? ⟨w.heap.size + 1 + 1, 0, none⟩ = false ∧ w'.frozen? ⟨w.heap.size + 1 + 1, 1, none⟩ = false)
      ((go_split_ands; (repeat' apply And.intro) <;> exact kl))
      (first | (go_at_call 117; refine (HF.out _).mono ?_; rintro x w4 ⟨rfl, hg_w4⟩; have hc_w4 := hg_w4.cells; have hf_w4 := hg_w4.frozens; have hz_w4 := hg_w4.size; (try simp only [World.size_alloc, World.size_drew, World.size_setCell] at hz_w4)))
  all_goals (try go_split_ands)
  all_goals
    go_wp2_with (first
      | (go_at_call 84; refine (HInf.out _).mono ?_; rintro x w5 ⟨rfl, hg_w5⟩; have fc0 : w5.cell? ⟨w.heap.size, 0, none⟩ = some (.int .i64 p) := kq; have fc1 : w5.cell? ⟨w.heap.size, 1, none⟩ = some (.int .i64 mn) := kq; have fc2 : w5.cell? ⟨w.heap.size, 2, none⟩ = some (.int .i64 mx) := kq; have fm3 : w5.cell? ⟨w.heap.size, 3, none⟩ = some (.int .i64 md) := kq; have fm4 : w5.cell? ⟨w.heap.size, 4, none⟩ = some (.func (.func k) #[] #[]) := kq; have fc3 : w5.cell? ⟨w.heap.size + 1, 0, none⟩ = some (.int .u64 mh) := kq; have fc4 : w5.cell? ⟨w.heap.size + 1, 1, none⟩ = some (.int .u64 ml) := kq; have fr0 : w5.cell? ⟨w.heap.size + 1 + 1, 0, none⟩ = some (.int .u64 0) := kq; have fz0 : w5.frozen? ⟨w.heap.size + 1 + 1, 0, none⟩ = false := kq; have fr1 : w5.cell? ⟨w.heap.size + 1 + 1, 1, none⟩ = some (.int .i64 0) := kq; have fz1 : w5.frozen? ⟨w.heap.size + 1 + 1, 1, none⟩ = false := kq)
      | (go_at_call 85; refine (HZe.out _).mono ?_; rintro x w6 ⟨rfl, hg_w6⟩; have gc0 : w6.cell? ⟨w.heap.size, 0, none⟩ = some (.int .i64 p) := kq; have gc1 : w6.cell? ⟨w.heap.size, 1, none⟩ = some (.int .i64 mn) := kq; have gc2 : w6.cell? ⟨w.heap.size, 2, none⟩ = some (.int .i64 mx) := kq; have gm3 : w6.cell? ⟨w.heap.size, 3, none⟩ = some (.int .i64 md) := kq; have gm4 : w6.cell? ⟨w.heap.size, 4, none⟩ = some (.func (.func k) #[] #[]) := kq; have gc3 : w6.cell? ⟨w.heap.size + 1, 0, none⟩ = some (.int .u64 mh) := kq; have gc4 : w6.cell? ⟨w.heap.size + 1, 1, none⟩ = some (.int .u64 ml) := kq; have gr0 : w6.cell? ⟨w.heap.size + 1 + 1, 0, none⟩ = some (.int .u64 0) := kq; have gz0 : w6.frozen? ⟨w.heap.size + 1 + 1, 0, none⟩ = false := kq; have gr1 : w6.cell? ⟨w.heap.size + 1 + 1, 1, none⟩ = some (.int .i64 0) := kq; have gz1 : w6.frozen? ⟨w.heap.size + 1 + 1, 1, none⟩ = false := kq))
  all_goals
    refine bodyPost_ret (v := .agg #[.int .u64 z, .int .i64 0]) (by simp [results, Tryz.results114, go_sem, gr0, gr1]) rfl ⟨rfl, ?_⟩
    exact kr


set_option maxRecDepth 100000 in
set_option maxHeartbeats 4000000 in
theorem round_T {p mn mx fb sp one inf sg nan : Int} (h : IsM p mn mx fb sp one inf sg nan) (md : Int) (k : Nat) (sign e mh ml : Int) (sticky : Bool) (e0 : -200000 ≤ e) (e1 : e ≤ 200000) (hnz : (mh == 0 && ml == 0) = false) (L : Nat) (u top E : Int) (hL : L ≤ 128) (hu : 128 - (L : Int) = u) (htop : (L : Int) + e - 1 = top) (hE : max top mn = E) (HZ : Hid (∀ w, Calls Tryz.prog 141 #[.agg #[.int .u64 mh, .int .u64 ml]] w fun x w' => x = .returned (.int .i64 u) ∧ Gr w w')) (c : E ≤ mx) (a1 dr r : Int)  (ha : E - fb = a1) (hdr : a1 - e = dr) (HAt : Hid (∀ w, Calls Tryz.prog 143 #[.func (.func k) #[] #[], .int .i64 dr, .int .i64 sign, .agg #[.int .u64 mh, .int .u64 ml], .bool sticky] w fun x w' => x = .returned (.tuple #[.int .u64 r, .bool true]) ∧ Gr w w')) (r0 : 0 ≤ r) (a2 Y G : Int) (ha2 : E - mn = a2) (hY : a2 * one = Y) (hG : Y + r = G) (G1 : G < 18446744073709551616) (a20 : 0 ≤ a2) (Y0 : 0 ≤ Y) (z0 z : Int) (HZe : Hid (∀ w, Calls Tryz.prog 85 #[.agg #[.int .i64 p, .int .i64 mn, .int .i64 mx], .int .i64 sign] w fun x w' => x = .returned (.int .u64 z0) ∧ Gr w w')) (HTi : Hid (∀ w, Calls Tryz.prog 144 #[.agg #[.int .i64 p, .int .i64 mn, .int .i64 mx, .int .i64 md, .func (.func k) #[] #[]], .int .i64 top, .int .i64 sign, .int .i64 e, .agg #[.int .u64 mh, .int .u64 ml], .bool sticky] w fun x w' => x = .returned (.bool true) ∧ Gr w w')) (hor : bits .or .u64 z0 G = z) (hv : G < inf) (w : World) :
    Calls Tryz.prog 114 #[.agg #[.int .i64 p, .int .i64 mn, .int .i64 mx, .int .i64 md, .func (.func k) #[] #[]], .int .i64 sign, .int .i64 e, .agg #[.int .u64 mh, .int .u64 ml], .bool sticky] w fun x w' => x = .returned (.agg #[.int .u64 z, .int .i64 24]) ∧ Gr w w' := by
  have HF : Hid (∀ w, Calls Tryz.prog 117 #[.agg #[.int .i64 p, .int .i64 mn, .int .i64 mx]] w fun e w' => e = .returned (.int .i64 fb) ∧ Gr w w') := fun w => fb_any h w
  have HInf : Hid (∀ w, Calls Tryz.prog 84 #[.agg #[.int .i64 p, .int .i64 mn, .int .i64 mx], .int .i64 0] w fun e w' => e = .returned (.int .u64 inf) ∧ Gr w w') := fun w => inf_any h 0 inf (.inl ⟨rfl, rfl⟩) w
  have hq := eqWideS mh ml 0 0
  have hq2 : (mh == 0 && ml == 0) = false := hnz
  simp only [hq2] at hq
  have bb : -1022 ≤ mn ∧ mn ≤ 0 ∧ 0 < mx ∧ mx ≤ 1023 ∧ 0 ≤ fb ∧ fb ≤ 52 := by rcases h with h | h <;> omega
  have t1 : e + 128 - 1 - u = top := by omega
  have t2 : e + 127 - u = top := by omega
  have tb : -300000 ≤ top ∧ top ≤ 300000 := by omega
  have Eb : -300000 ≤ E ∧ E ≤ 300000 := by omega
  have ub : 0 ≤ u ∧ u ≤ 128 := by omega
  clear hnz hq2 hu htop
  have u1 : IntKind.i64.wrap (E - fb) = a1 := by rw [ha]; exact wi64 _ (by omega) (by omega)
  have u2 : IntKind.i64.wrap (a1 - e) = dr := by rw [hdr]; exact wi64 _ (by omega) (by omega)
  have u3 : IntKind.i64.wrap (E - mn) = a2 := by rw [ha2]; exact wi64 _ (by omega) (by omega)
  have u4 : IntKind.u64.wrap a2 = a2 := wu64 _ (by omega) (by omega)
  have u5 : IntKind.u64.wrap (a2 * 2 ^ fb.toNat) = Y := by
    have : (2 : Int) ^ fb.toNat = one := by rcases h with ⟨rfl, rfl, rfl, rfl, rfl, rfl, rfl, rfl, rfl⟩ | ⟨rfl, rfl, rfl, rfl, rfl, rfl, rfl, rfl, rfl⟩ <;> decide
    rw [this, hY]; exact wu64 _ Y0 (by omega)
  have u6 : IntKind.u64.wrap (Y + r) = G := by rw [hG]; exact wu64 _ (by omega) (by omega)
  have u7 : ¬ fb < 0 := by omega
  have G0 : 0 ≤ G := by omega
  clear ha hdr ha2 hY hG
  clear h
  go_enter Tryz.func114, Tryz.ntmps114
  go_wp2_with (first
      | (go_at_call 141; refine (HZ.out _).mono ?_; rintro x w1 ⟨rfl, hg_w1⟩; have ac0 : w1.cell? ⟨w.heap.size, 0, none⟩ = some (.int .i64 p) := kq; have ac1 : w1.cell? ⟨w.heap.size, 1, none⟩ = some (.int .i64 mn) := kq; have ac2 : w1.cell? ⟨w.heap.size, 2, none⟩ = some (.int .i64 mx) := kq; have am3 : w1.cell? ⟨w.heap.size, 3, none⟩ = some (.int .i64 md) := kq; have am4 : w1.cell? ⟨w.heap.size, 4, none⟩ = some (.func (.func k) #[] #[]) := kq; have ac3 : w1.cell? ⟨w.heap.size + 1, 0, none⟩ = some (.int .u64 mh) := kq; have ac4 : w1.cell? ⟨w.heap.size + 1, 1, none⟩ = some (.int .u64 ml) := kq; have ar0 : w1.cell? ⟨w.heap.size + 1 + 1, 0, none⟩ = some (.int .u64 0) := kq; have az0 : w1.frozen? ⟨w.heap.size + 1 + 1, 0, none⟩ = false := kq; have ar1 : w1.cell? ⟨w.heap.size + 1 + 1, 1, none⟩ = some (.int .i64 0) := kq; have az1 : w1.frozen? ⟨w.heap.size + 1 + 1, 1, none⟩ = false := kq))
  go_region_held3 (fun w' => w'.cell? ⟨w.heap.size, 0, none⟩ = some (.int .i64 p) ∧ w'.cell? ⟨w.heap.size, 1, none⟩ = some (.int .i64 mn) ∧ w'.cell? ⟨w.heap.size, 2, none⟩ = some (.int .i64 mx) ∧ w'.cell? ⟨w.heap.size, 3, none⟩ = some (.int .i64 md) ∧ w'.cell? ⟨w.heap.size, 4, none⟩ = some (.func (.func k) #[] #[]) ∧ w'.cell? ⟨w.heap.size + 1, 0, none⟩ = some (.int .u64 mh) ∧ w'.cell? ⟨w.heap.size + 1, 1, none⟩ = some (.int .u64 ml) ∧ w'.cell? ⟨w.heap.size + 1 + 1, 0, none⟩ = some (.int .u64 0) ∧ w'.cell? ⟨w.heap.size + 1 + 1, 1, none⟩ = some (.int .i64 0) ∧ w'.frozen? ⟨w.heap.size + 1 + 1, 0, none⟩ = false ∧ w'.frozen? ⟨w.heap.size + 1 + 1, 1, none⟩ = false)
    ((go_split_ands; (repeat' apply And.intro) <;> exact kl))
    (first
      | (go_at_call 117; refine (HF.out _).mono ?_; rintro x w2 ⟨rfl, hg_w2⟩; have hc_w2 := hg_w2.cells; have hf_w2 := hg_w2.frozens; have hz_w2 := hg_w2.size; (try simp only [World.size_alloc, World.size_drew, World.size_setCell] at hz_w2))
      | (go_at_call 143; refine (HAt.out _).mono ?_; rintro x w3 ⟨rfl, hg_w3⟩; have hc_w3 := hg_w3.cells; have hf_w3 := hg_w3.frozens; have hz_w3 := hg_w3.size; (try simp only [World.size_alloc, World.size_drew, World.size_setCell] at hz_w3)))
  all_goals (try go_split_ands)
  all_goals go_wp2
  all_goals
    go_region_held3 (fun w' => w'.cell? ⟨w.heap.size, 0, none⟩ = some (.int .i64 p) ∧ w'.cell? ⟨w.heap.size, 1, none⟩ = some (.int .i64 mn) ∧ w'.cell? ⟨w.heap.size, 2, none⟩ = some (.int .i64 mx) ∧ w'.cell? ⟨w.heap.size, 3, none⟩ = some (.int .i64 md) ∧ w'.cell? ⟨w.heap.size, 4, none⟩ = some (.func (.func k) #[] #[]) ∧ w'.cell? ⟨w.heap.size + 1, 0, none⟩ = some (.int .u64 mh) ∧ w'.cell? ⟨w.heap.size + 1, 1, none⟩ = some (.int .u64 ml) ∧ w'.cell? ⟨w.heap.size + 1 + 1, 0, none⟩ = some (.int .u64 0) ∧ w'.cell? ⟨w.heap.size + 1 + 1, 1, none⟩ = some (.int .i64 0) ∧ w'.frozen? ⟨w.heap.size + 1 + 1, 0, none⟩ = false ∧ w'.frozen? ⟨w.heap.size + 1 + 1, 1, none⟩ = false)
      ((go_split_ands; (repeat' apply And.intro) <;> exact kl))
      (first | (go_at_call 117; refine (HF.out _).mono ?_; rintro x w4 ⟨rfl, hg_w4⟩; have hc_w4 := hg_w4.cells; have hf_w4 := hg_w4.frozens; have hz_w4 := hg_w4.size; (try simp only [World.size_alloc, World.size_drew, World.size_setCell] at hz_w4)))
  all_goals (try go_split_ands)
  all_goals
    go_wp2_with (first
      | (go_at_call 84; refine (HInf.out _).mono ?_; rintro x w5 ⟨rfl, hg_w5⟩; have fc0 : w5.cell? ⟨w.heap.size, 0, none⟩ = some (.int .i64 p) := kq; have fc1 : w5.cell? ⟨w.heap.size, 1, none⟩ = some (.int .i64 mn) := kq; have fc2 : w5.cell? ⟨w.heap.size, 2, none⟩ = some (.int .i64 mx) := kq; have fm3 : w5.cell? ⟨w.heap.size, 3, none⟩ = some (.int .i64 md) := kq; have fm4 : w5.cell? ⟨w.heap.size, 4, none⟩ = some (.func (.func k) #[] #[]) := kq; have fc3 : w5.cell? ⟨w.heap.size + 1, 0, none⟩ = some (.int .u64 mh) := kq; have fc4 : w5.cell? ⟨w.heap.size + 1, 1, none⟩ = some (.int .u64 ml) := kq; have fr0 : w5.cell? ⟨w.heap.size + 1 + 1, 0, none⟩ = some (.int .u64 0) := kq; have fz0 : w5.frozen? ⟨w.heap.size + 1 + 1, 0, none⟩ = false := kq; have fr1 : w5.cell? ⟨w.heap.size + 1 + 1, 1, none⟩ = some (.int .i64 0) := kq; have fz1 : w5.frozen? ⟨w.heap.size + 1 + 1, 1, none⟩ = false := kq)
      | (go_at_call 144; refine (HTi.out _).mono ?_; rintro x w7 ⟨rfl, hg_w7⟩; have hc0 : w7.cell? ⟨w.heap.size, 0, none⟩ = some (.int .i64 p) := kq; have hc1 : w7.cell? ⟨w.heap.size, 1, none⟩ = some (.int .i64 mn) := kq; have hc2 : w7.cell? ⟨w.heap.size, 2, none⟩ = some (.int .i64 mx) := kq; have hm3 : w7.cell? ⟨w.heap.size, 3, none⟩ = some (.int .i64 md) := kq; have hm4 : w7.cell? ⟨w.heap.size, 4, none⟩ = some (.func (.func k) #[] #[]) := kq; have hc3 : w7.cell? ⟨w.heap.size + 1, 0, none⟩ = some (.int .u64 mh) := kq; have hc4 : w7.cell? ⟨w.heap.size + 1, 1, none⟩ = some (.int .u64 ml) := kq; have hr0 : w7.cell? ⟨w.heap.size + 1 + 1, 0, none⟩ = some (.int .u64 0) := kq; have hz0 : w7.frozen? ⟨w.heap.size + 1 + 1, 0, none⟩ = false := kq; have hr1 : w7.cell? ⟨w.heap.size + 1 + 1, 1, none⟩ = some (.int .i64 0) := kq; have hz1 : w7.frozen? ⟨w.heap.size + 1 + 1, 1, none⟩ = false := kq)
      | (go_at_call 85; refine (HZe.out _).mono ?_; rintro x w6 ⟨rfl, hg_w6⟩; have gc0 : w6.cell? ⟨w.heap.size, 0, none⟩ = some (.int .i64 p) := kq; have gc1 : w6.cell? ⟨w.heap.size, 1, none⟩ = some (.int .i64 mn) := kq; have gc2 : w6.cell? ⟨w.heap.size, 2, none⟩ = some (.int .i64 mx) := kq; have gm3 : w6.cell? ⟨w.heap.size, 3, none⟩ = some (.int .i64 md) := kq; have gm4 : w6.cell? ⟨w.heap.size, 4, none⟩ = some (.func (.func k) #[] #[]) := kq; have gc3 : w6.cell? ⟨w.heap.size + 1, 0, none⟩ = some (.int .u64 mh) := kq; have gc4 : w6.cell? ⟨w.heap.size + 1, 1, none⟩ = some (.int .u64 ml) := kq; have gr0 : w6.cell? ⟨w.heap.size + 1 + 1, 0, none⟩ = some (.int .u64 0) := kq; have gz0 : w6.frozen? ⟨w.heap.size + 1 + 1, 0, none⟩ = false := kq; have gr1 : w6.cell? ⟨w.heap.size + 1 + 1, 1, none⟩ = some (.int .i64 0) := kq; have gz1 : w6.frozen? ⟨w.heap.size + 1 + 1, 1, none⟩ = false := kq))
  all_goals
    refine bodyPost_ret (v := .agg #[.int .u64 z, .int .i64 24]) (by simp [results, Tryz.results114, go_sem, gr0, gr1]) rfl ⟨rfl, ?_⟩
    exact kr


set_option maxRecDepth 100000 in
set_option maxHeartbeats 4000000 in
theorem round_F {p mn mx fb sp one inf sg nan : Int} (h : IsM p mn mx fb sp one inf sg nan) (md : Int) (k : Nat) (sign e mh ml : Int) (sticky : Bool) (e0 : -200000 ≤ e) (e1 : e ≤ 200000) (hnz : (mh == 0 && ml == 0) = false) (L : Nat) (u top E : Int) (hL : L ≤ 128) (hu : 128 - (L : Int) = u) (htop : (L : Int) + e - 1 = top) (hE : max top mn = E) (HZ : Hid (∀ w, Calls Tryz.prog 141 #[.agg #[.int .u64 mh, .int .u64 ml]] w fun x w' => x = .returned (.int .i64 u) ∧ Gr w w')) (c : E ≤ mx) (a1 dr r : Int)  (ha : E - fb = a1) (hdr : a1 - e = dr) (HAt : Hid (∀ w, Calls Tryz.prog 143 #[.func (.func k) #[] #[], .int .i64 dr, .int .i64 sign, .agg #[.int .u64 mh, .int .u64 ml], .bool sticky] w fun x w' => x = .returned (.tuple #[.int .u64 r, .bool true]) ∧ Gr w w')) (r0 : 0 ≤ r) (a2 Y G : Int) (ha2 : E - mn = a2) (hY : a2 * one = Y) (hG : Y + r = G) (G1 : G < 18446744073709551616) (a20 : 0 ≤ a2) (Y0 : 0 ≤ Y) (z0 z : Int) (HZe : Hid (∀ w, Calls Tryz.prog 85 #[.agg #[.int .i64 p, .int .i64 mn, .int .i64 mx], .int .i64 sign] w fun x w' => x = .returned (.int .u64 z0) ∧ Gr w w')) (HTi : Hid (∀ w, Calls Tryz.prog 144 #[.agg #[.int .i64 p, .int .i64 mn, .int .i64 mx, .int .i64 md, .func (.func k) #[] #[]], .int .i64 top, .int .i64 sign, .int .i64 e, .agg #[.int .u64 mh, .int .u64 ml], .bool sticky] w fun x w' => x = .returned (.bool false) ∧ Gr w w')) (hor : bits .or .u64 z0 G = z) (hv : G < inf) (w : World) :
    Calls Tryz.prog 114 #[.agg #[.int .i64 p, .int .i64 mn, .int .i64 mx, .int .i64 md, .func (.func k) #[] #[]], .int .i64 sign, .int .i64 e, .agg #[.int .u64 mh, .int .u64 ml], .bool sticky] w fun x w' => x = .returned (.agg #[.int .u64 z, .int .i64 16]) ∧ Gr w w' := by
  have HF : Hid (∀ w, Calls Tryz.prog 117 #[.agg #[.int .i64 p, .int .i64 mn, .int .i64 mx]] w fun e w' => e = .returned (.int .i64 fb) ∧ Gr w w') := fun w => fb_any h w
  have HInf : Hid (∀ w, Calls Tryz.prog 84 #[.agg #[.int .i64 p, .int .i64 mn, .int .i64 mx], .int .i64 0] w fun e w' => e = .returned (.int .u64 inf) ∧ Gr w w') := fun w => inf_any h 0 inf (.inl ⟨rfl, rfl⟩) w
  have hq := eqWideS mh ml 0 0
  have hq2 : (mh == 0 && ml == 0) = false := hnz
  simp only [hq2] at hq
  have bb : -1022 ≤ mn ∧ mn ≤ 0 ∧ 0 < mx ∧ mx ≤ 1023 ∧ 0 ≤ fb ∧ fb ≤ 52 := by rcases h with h | h <;> omega
  have t1 : e + 128 - 1 - u = top := by omega
  have t2 : e + 127 - u = top := by omega
  have tb : -300000 ≤ top ∧ top ≤ 300000 := by omega
  have Eb : -300000 ≤ E ∧ E ≤ 300000 := by omega
  have ub : 0 ≤ u ∧ u ≤ 128 := by omega
  clear hnz hq2 hu htop
  have u1 : IntKind.i64.wrap (E - fb) = a1 := by rw [ha]; exact wi64 _ (by omega) (by omega)
  have u2 : IntKind.i64.wrap (a1 - e) = dr := by rw [hdr]; exact wi64 _ (by omega) (by omega)
  have u3 : IntKind.i64.wrap (E - mn) = a2 := by rw [ha2]; exact wi64 _ (by omega) (by omega)
  have u4 : IntKind.u64.wrap a2 = a2 := wu64 _ (by omega) (by omega)
  have u5 : IntKind.u64.wrap (a2 * 2 ^ fb.toNat) = Y := by
    have : (2 : Int) ^ fb.toNat = one := by rcases h with ⟨rfl, rfl, rfl, rfl, rfl, rfl, rfl, rfl, rfl⟩ | ⟨rfl, rfl, rfl, rfl, rfl, rfl, rfl, rfl, rfl⟩ <;> decide
    rw [this, hY]; exact wu64 _ Y0 (by omega)
  have u6 : IntKind.u64.wrap (Y + r) = G := by rw [hG]; exact wu64 _ (by omega) (by omega)
  have u7 : ¬ fb < 0 := by omega
  have G0 : 0 ≤ G := by omega
  clear ha hdr ha2 hY hG
  clear h
  go_enter Tryz.func114, Tryz.ntmps114
  go_wp2_with (first
      | (go_at_call 141; refine (HZ.out _).mono ?_; rintro x w1 ⟨rfl, hg_w1⟩; have ac0 : w1.cell? ⟨w.heap.size, 0, none⟩ = some (.int .i64 p) := kq; have ac1 : w1.cell? ⟨w.heap.size, 1, none⟩ = some (.int .i64 mn) := kq; have ac2 : w1.cell? ⟨w.heap.size, 2, none⟩ = some (.int .i64 mx) := kq; have am3 : w1.cell? ⟨w.heap.size, 3, none⟩ = some (.int .i64 md) := kq; have am4 : w1.cell? ⟨w.heap.size, 4, none⟩ = some (.func (.func k) #[] #[]) := kq; have ac3 : w1.cell? ⟨w.heap.size + 1, 0, none⟩ = some (.int .u64 mh) := kq; have ac4 : w1.cell? ⟨w.heap.size + 1, 1, none⟩ = some (.int .u64 ml) := kq; have ar0 : w1.cell? ⟨w.heap.size + 1 + 1, 0, none⟩ = some (.int .u64 0) := kq; have az0 : w1.frozen? ⟨w.heap.size + 1 + 1, 0, none⟩ = false := kq; have ar1 : w1.cell? ⟨w.heap.size + 1 + 1, 1, none⟩ = some (.int .i64 0) := kq; have az1 : w1.frozen? ⟨w.heap.size + 1 + 1, 1, none⟩ = false := kq))
  go_region_held3 (fun w' => w'.cell? ⟨w.heap.size, 0, none⟩ = some (.int .i64 p) ∧ w'.cell? ⟨w.heap.size, 1, none⟩ = some (.int .i64 mn) ∧ w'.cell? ⟨w.heap.size, 2, none⟩ = some (.int .i64 mx) ∧ w'.cell? ⟨w.heap.size, 3, none⟩ = some (.int .i64 md) ∧ w'.cell? ⟨w.heap.size, 4, none⟩ = some (.func (.func k) #[] #[]) ∧ w'.cell? ⟨w.heap.size + 1, 0, none⟩ = some (.int .u64 mh) ∧ w'.cell? ⟨w.heap.size + 1, 1, none⟩ = some (.int .u64 ml) ∧ w'.cell? ⟨w.heap.size + 1 + 1, 0, none⟩ = some (.int .u64 0) ∧ w'.cell? ⟨w.heap.size + 1 + 1, 1, none⟩ = some (.int .i64 0) ∧ w'.frozen? ⟨w.heap.size + 1 + 1, 0, none⟩ = false ∧ w'.frozen? ⟨w.heap.size + 1 + 1, 1, none⟩ = false)
    ((go_split_ands; (repeat' apply And.intro) <;> exact kl))
    (first
      | (go_at_call 117; refine (HF.out _).mono ?_; rintro x w2 ⟨rfl, hg_w2⟩; have hc_w2 := hg_w2.cells; have hf_w2 := hg_w2.frozens; have hz_w2 := hg_w2.size; (try simp only [World.size_alloc, World.size_drew, World.size_setCell] at hz_w2))
      | (go_at_call 143; refine (HAt.out _).mono ?_; rintro x w3 ⟨rfl, hg_w3⟩; have hc_w3 := hg_w3.cells; have hf_w3 := hg_w3.frozens; have hz_w3 := hg_w3.size; (try simp only [World.size_alloc, World.size_drew, World.size_setCell] at hz_w3)))
  all_goals (try go_split_ands)
  all_goals go_wp2
  all_goals
    go_region_held3 (fun w' => w'.cell? ⟨w.heap.size, 0, none⟩ = some (.int .i64 p) ∧ w'.cell? ⟨w.heap.size, 1, none⟩ = some (.int .i64 mn) ∧ w'.cell? ⟨w.heap.size, 2, none⟩ = some (.int .i64 mx) ∧ w'.cell? ⟨w.heap.size, 3, none⟩ = some (.int .i64 md) ∧ w'.cell? ⟨w.heap.size, 4, none⟩ = some (.func (.func k) #[] #[]) ∧ w'.cell? ⟨w.heap.size + 1, 0, none⟩ = some (.int .u64 mh) ∧ w'.cell? ⟨w.heap.size + 1, 1, none⟩ = some (.int .u64 ml) ∧ w'.cell? ⟨w.heap.size + 1 + 1, 0, none⟩ = some (.int .u64 0) ∧ w'.cell? ⟨w.heap.size + 1 + 1, 1, none⟩ = some (.int .i64 0) ∧ w'.frozen? ⟨w.heap.size + 1 + 1, 0, none⟩ = false ∧ w'.frozen? ⟨w.heap.size + 1 + 1, 1, none⟩ = false)
      ((go_split_ands; (repeat' apply And.intro) <;> exact kl))
      (first | (go_at_call 117; refine (HF.out _).mono ?_; rintro x w4 ⟨rfl, hg_w4⟩; have hc_w4 := hg_w4.cells; have hf_w4 := hg_w4.frozens; have hz_w4 := hg_w4.size; (try simp only [World.size_alloc, World.size_drew, World.size_setCell] at hz_w4)))
  all_goals (try go_split_ands)
  all_goals
    go_wp2_with (first
      | (go_at_call 84; refine (HInf.out _).mono ?_; rintro x w5 ⟨rfl, hg_w5⟩; have fc0 : w5.cell? ⟨w.heap.size, 0, none⟩ = some (.int .i64 p) := kq; have fc1 : w5.cell? ⟨w.heap.size, 1, none⟩ = some (.int .i64 mn) := kq; have fc2 : w5.cell? ⟨w.heap.size, 2, none⟩ = some (.int .i64 mx) := kq; have fm3 : w5.cell? ⟨w.heap.size, 3, none⟩ = some (.int .i64 md) := kq; have fm4 : w5.cell? ⟨w.heap.size, 4, none⟩ = some (.func (.func k) #[] #[]) := kq; have fc3 : w5.cell? ⟨w.heap.size + 1, 0, none⟩ = some (.int .u64 mh) := kq; have fc4 : w5.cell? ⟨w.heap.size + 1, 1, none⟩ = some (.int .u64 ml) := kq; have fr0 : w5.cell? ⟨w.heap.size + 1 + 1, 0, none⟩ = some (.int .u64 0) := kq; have fz0 : w5.frozen? ⟨w.heap.size + 1 + 1, 0, none⟩ = false := kq; have fr1 : w5.cell? ⟨w.heap.size + 1 + 1, 1, none⟩ = some (.int .i64 0) := kq; have fz1 : w5.frozen? ⟨w.heap.size + 1 + 1, 1, none⟩ = false := kq)
      | (go_at_call 144; refine (HTi.out _).mono ?_; rintro x w7 ⟨rfl, hg_w7⟩; have hc0 : w7.cell? ⟨w.heap.size, 0, none⟩ = some (.int .i64 p) := kq; have hc1 : w7.cell? ⟨w.heap.size, 1, none⟩ = some (.int .i64 mn) := kq; have hc2 : w7.cell? ⟨w.heap.size, 2, none⟩ = some (.int .i64 mx) := kq; have hm3 : w7.cell? ⟨w.heap.size, 3, none⟩ = some (.int .i64 md) := kq; have hm4 : w7.cell? ⟨w.heap.size, 4, none⟩ = some (.func (.func k) #[] #[]) := kq; have hc3 : w7.cell? ⟨w.heap.size + 1, 0, none⟩ = some (.int .u64 mh) := kq; have hc4 : w7.cell? ⟨w.heap.size + 1, 1, none⟩ = some (.int .u64 ml) := kq; have hr0 : w7.cell? ⟨w.heap.size + 1 + 1, 0, none⟩ = some (.int .u64 0) := kq; have hz0 : w7.frozen? ⟨w.heap.size + 1 + 1, 0, none⟩ = false := kq; have hr1 : w7.cell? ⟨w.heap.size + 1 + 1, 1, none⟩ = some (.int .i64 0) := kq; have hz1 : w7.frozen? ⟨w.heap.size + 1 + 1, 1, none⟩ = false := kq)
      | (go_at_call 85; refine (HZe.out _).mono ?_; rintro x w6 ⟨rfl, hg_w6⟩; have gc0 : w6.cell? ⟨w.heap.size, 0, none⟩ = some (.int .i64 p) := kq; have gc1 : w6.cell? ⟨w.heap.size, 1, none⟩ = some (.int .i64 mn) := kq; have gc2 : w6.cell? ⟨w.heap.size, 2, none⟩ = some (.int .i64 mx) := kq; have gm3 : w6.cell? ⟨w.heap.size, 3, none⟩ = some (.int .i64 md) := kq; have gm4 : w6.cell? ⟨w.heap.size, 4, none⟩ = some (.func (.func k) #[] #[]) := kq; have gc3 : w6.cell? ⟨w.heap.size + 1, 0, none⟩ = some (.int .u64 mh) := kq; have gc4 : w6.cell? ⟨w.heap.size + 1, 1, none⟩ = some (.int .u64 ml) := kq; have gr0 : w6.cell? ⟨w.heap.size + 1 + 1, 0, none⟩ = some (.int .u64 0) := kq; have gz0 : w6.frozen? ⟨w.heap.size + 1 + 1, 0, none⟩ = false := kq; have gr1 : w6.cell? ⟨w.heap.size + 1 + 1, 1, none⟩ = some (.int .i64 0) := kq; have gz1 : w6.frozen? ⟨w.heap.size + 1 + 1, 1, none⟩ = false := kq))
  all_goals
    refine bodyPost_ret (v := .agg #[.int .u64 z, .int .i64 16]) (by simp [results, Tryz.results114, go_sem, gr0, gr1]) rfl ⟨rfl, ?_⟩
    exact kr

end Go.Proofs.YtkflpogmhailhaaGreatDoor
