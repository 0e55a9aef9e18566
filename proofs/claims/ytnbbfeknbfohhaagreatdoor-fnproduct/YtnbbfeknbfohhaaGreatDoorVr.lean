import Derived.Test.YtnbbfeknbfohhaaGreatDoorVa
import Derived.Test.YtnbbfeknbfohhaaGreatDoorW6
import Derived.Test.YtnbbfeknbfohhaaGreatDoorL5d
import Derived.Test.YtnbbfeknbfohhaaGreatDoorJa
set_option linter.unusedVariables false
set_option linter.unusedSimpArgs false
namespace Go.Proofs.YtnbbfeknbfohhaaGreatDoor
open Go.RowKit
theorem qm.num {R : Int → bI → bI → bI} {a b Z fl : Int} (h : qm R 1 0 a b Z fl) : ∃ x y, uh a x ∧ uh b y ∧ V4 (R 0 x y) Z fl := by
 rcases h with ⟨p, mx, one, inf, sg, nan, x, y, hF, hm, hx, hy, hp⟩ | ⟨p, mx, one, inf, sg, nan, hF, hm, _⟩ | ⟨hF, _⟩
 ·obtain ⟨rfl, rfl, rfl, rfl, rfl, rfl⟩ := hF.one sD
  exact ⟨x, y, hx, hy, hp⟩
 ·omega
 ·omega
theorem Vl.turn {a x : Int} (h : Vl a x) : Vl (l9 a) (-x) := by
 obtain ⟨hw, o, ho, hc, rfl⟩ := h
 have hz : a < 9223372036854775808 ∧ l9 a = a + 9223372036854775808 ∨ 9223372036854775808 ≤ a ∧ l9 a = a - 9223372036854775808 := by unfold l9; split <;> omega
 obtain ⟨_, _, h3⟩ := yQ sD a (l9 a) hw.1 (by unfold Wd at hw; omega) hz ho
 refine ⟨sS hw, jZ o, h3, hc, ?_⟩
 rw [Ns (uh.fin ho hc).1.s]
theorem Fin'.turn {o : bI} (h : Fin' o) : Fin' (jZ o) := ⟨by have := h.s; unfold jZ; dsimp only; omega, h.c, h.e⟩
theorem WS (n : Int) (h0 : -2047 ≤ n) (h1 : n ≤ 2047) : ∃ o fl, V4 o (EM n) fl ∧ ov o = n * (4194304 * uN) ∧ Fin' o := by
 obtain ⟨Z, fl, h⟩ := NW 1 0 1 (n % 18446744073709551616)
 rw [rE h]
 have u0 := I7
 have e : n % 18446744073709551616 = n ∧ 0 ≤ n ∨ n % 18446744073709551616 = n + 18446744073709551616 ∧ n < 0 := om
 have hs : eH 1 (n % 18446744073709551616) = if n < 0 then 1 else 0 := by
  unfold eH
  rcases e with ⟨e, k⟩ | ⟨e, k⟩ <;> rw [e]
  ·rw [if_neg om, if_neg (by omega)]
  ·rw [if_pos ⟨.inr rfl, om⟩, if_pos k]
 have hM : iH 1 (n % 18446744073709551616) = n.natAbs := by
  unfold iH
  rcases e with ⟨e, k⟩ | ⟨e, k⟩ <;> rw [e]
  ·rw [if_neg (by omega)]; omega
  ·rw [if_pos ⟨.inr rfl, om⟩]; omega
 have hf : jK 1 (n % 18446744073709551616) = true := by
  unfold jK
  rw [hM, hs]
  refine decide_eq_true ⟨⟨om, om⟩, ?_⟩
  split
  ·rw [show dX 1 1 = 9223372036854775808 by decide]; omega
  ·rw [show dX 1 0 = 9223372036854775807 by decide]; omega
 have hp : V4 (sW 1 (n % 18446744073709551616)) Z fl := by
  rcases h with ⟨p, mx, one, inf, sg, nan, hF, hm, hk, hp⟩ | ⟨p, mx, one, inf, sg, nan, hF, hm, _⟩ | ⟨hF, _⟩
  ·obtain ⟨rfl, rfl, rfl, rfl, rfl, rfl⟩ := hF.one sD
   exact hp
  ·rw [hf] at hm; rcases hm with hm | hm
   ·omega
   ·cases hm
  ·omega
 have hO : ov (sW 1 (n % 18446744073709551616)) = n * (4194304 * uN) ∧ Fin' (sW 1 (n % 18446744073709551616)) := by
  unfold sW
  rw [hM, hs]
  have hn : ∀ N : Nat, ((nv N 0 : Nat) : Int) = N * (4194304 * (uN : Int)) := fun N => by
   rw [← w_]; unfold nv sN; rw [show ((0 : Int) + 6000).toNat = 22 + eU from rfl, Int.natCast_mul]
  by_cases c : n.natAbs = 0
  ·rw [if_pos c, n_ rfl, show n = 0 by omega, Int.zero_mul]
   exact ⟨rfl, ⟨.inl rfl, .inl ⟨rfl, rfl⟩, de⟩⟩
  ·rw [if_neg c]
   refine ⟨?_, ⟨by dsimp only; split <;> simp, .inr ⟨rfl, by dsimp only; omega⟩, show (-5000 : Int) ≤ 0 by decide⟩⟩
   unfold ov
   dsimp only
   rw [hn]
   by_cases k : n < 0
   ·rw [if_pos k, if_pos rfl, show ((n.natAbs : Nat) : Int) = -n by omega, Int.neg_mul, Int.neg_neg]
   ·rw [if_neg k, if_neg de, show ((n.natAbs : Nat) : Int) = n by omega]
 exact ⟨_, fl, hp, hO⟩
theorem Yd : Vl jJ (2097152 * uN) := by
 have := CY (s := 0) (.inl rfl) 4503599627370496 (-1) 4602678819172646912 om om om (.inr om) om
 have e : ov ⟨1, 0, -1 - 53 + 1, 4503599627370496⟩ = 2097152 * (uN : Int) := by
  unfold ov nv uN
  dsimp only
  rw [if_neg de, show eU = 31 + ((-1 : Int) - 53 + 1 + 6000).toNat from rfl, show (4503599627370496 : Nat) = 2097152 * 2 ^ 31 by decide, Nat.mul_assoc, ← Nat.pow_add, Int.natCast_mul]
  rfl
 rw [e] at this
 exact this
def opC (a : Int) : bI := if a = 0 then ⟨0, 0, 0, 0⟩ else ⟨1, a / 9223372036854775808, a % 9223372036854775808 / 4503599627370496 - 1075, (a % 9223372036854775808 % 4503599627370496 + 4503599627370496).toNat⟩
def okW (a : Int) : Bool := decide (a = 0 ∨ 0 ≤ a ∧ a < 18446744073709551616 ∧ 4503599627370496 ≤ a % 9223372036854775808 ∧ a % 9223372036854775808 < 9218868437227405312)
theorem zI {a : Int} (h : okW a = true) : Wd a ∧ uh a (opC a) := by
 have h' := of_decide_eq_true h
 unfold opC
 by_cases c : a = 0
 ·subst c
  rw [if_pos rfl]
  exact ⟨oU, .inl ⟨de, 0, .inl ⟨rfl, rfl, de⟩, .inl ⟨rfl, rfl, rfl, rfl⟩⟩⟩
 ·rw [if_neg c]
  obtain ⟨a0, a1, v0, v1⟩ : 0 ≤ a ∧ a < 18446744073709551616 ∧ 4503599627370496 ≤ a % 9223372036854775808 ∧ a % 9223372036854775808 < 9218868437227405312 := om
  refine ⟨⟨a0, a1⟩, .inl ⟨om, a % 9223372036854775808, by dsimp only; omega, .inr (.inr (.inr (.inr ⟨om, v1, rfl, 0, a % 9223372036854775808 % 4503599627370496 + 4503599627370496, 1 - 1023 - 53 + a % 9223372036854775808 / 4503599627370496, .inr ⟨v0, rfl, rfl⟩, ?_, ?_, ?_, ?_⟩)))⟩⟩ <;> dsimp only <;> omega
def uD (o : bI) : Int := nb o.M + o.e - 1
def ZI (o : bI) : Int := sw o.s 9223372036854775808 ((chosen 0 o.s (aT o.M o.e (uD o - 53 + 1)) (aG o.M o.e (uD o - 53 + 1) false) : Nat) + 4503599627370496 * (uD o - (1 - 1023)))
def okO (o : bI) : Bool := decide (o.c = 1 ∧ -1022 ≤ uD o ∧ uD o ≤ 1000)
theorem Ug {o : bI} (h : okO o = true) : ∃ fl, V4 o (ZI o) fl := by
 obtain ⟨c, t0, t1⟩ := of_decide_eq_true h
 have hl := kG o.M o.e (uD o - 53 + 1) 53 (by unfold uD; omega)
 rw [show (2 : Nat) ^ 53 = 9007199254740992 by decide] at hl
 have hc := (gZ 0 o.s (aT o.M o.e (uD o - 53 + 1)) (aG o.M o.e (uD o - 53 + 1) false)).2
 rcases Nat.eq_zero_or_pos (aG o.M o.e (uD o - 53 + 1) false) with k | k
 ·exact ⟨0, .inr (.inl ⟨c, _, ⟨uD o, uD o, _, _, _, rfl, .inr ⟨om, rfl⟩, rfl, rfl, rfl, .inr (.inr ⟨om, om, rfl, .inl ⟨k, rfl⟩⟩)⟩, rfl⟩)⟩
 ·exact ⟨16, .inr (.inl ⟨c, _, ⟨uD o, uD o, _, _, _, rfl, .inr ⟨om, rfl⟩, rfl, rfl, rfl, .inr (.inr ⟨om, om, rfl, .inr (.inr ⟨k, .inl om, rfl⟩)⟩)⟩, rfl⟩)⟩
theorem ev2 {R : Int → bI → bI → bI} {a b : Int} (ha : okW a = true) (hb : okW b = true) (h : okO (R 0 (opC a) (opC b)) = true) : ∃ fl, qm R 1 0 a b (ZI (R 0 (opC a) (opC b))) fl := by
 obtain ⟨fl, hp⟩ := Ug h
 exact ⟨fl, .inl ⟨_, _, _, _, _, _, opC a, opC b, sD, ⟨om, om⟩, (zI ha).2, (zI hb).2, hp⟩⟩
theorem evD {R : Int → Int → bI → bI → bI} {a b : Int} {o : bI} (ha : okW a = true) (hb : okW b = true) (ho : R 53 0 (opC a) (opC b) = o) (h : okO o = true) : ∃ fl, kH R 1 0 a b (ZI o) fl := by
 obtain ⟨fl, hp⟩ := Ug h
 exact ⟨fl, .inl ⟨_, _, _, _, _, _, opC a, opC b, sD, ⟨om, om⟩, (zI ha).2, (zI hb).2, .inl (by rw [ho]; exact hp)⟩⟩
def sqC (x : bI) (t : Nat) : bI := ⟨1, 0, (x.e - iG 53 x.e) / 2 - 1, 2 * t + nC (decide (t * t ≠ x.M * 2 ^ iG 53 x.e))⟩
theorem TP {m r t : Nat} (h1 : r * r ≤ m) (h2 : m < (r + 1) * (r + 1)) (h3 : t * t ≤ m) (h4 : m < (t + 1) * (t + 1)) : r = t := by
 rcases Nat.lt_trichotomy r t with c | c | c
 ·have := Nat.mul_le_mul (show r + 1 ≤ t by omega) (show r + 1 ≤ t by omega); omega
 ·exact c
 ·have := Nat.mul_le_mul (show t + 1 ≤ r by omega) (show t + 1 ≤ r by omega); omega
theorem aAn {x : bI} {t : Nat} (c : x.c = 1) (s : x.s = 0) (h3 : t * t ≤ x.M * 2 ^ iG 53 x.e) (h4 : x.M * 2 ^ iG 53 x.e < (t + 1) * (t + 1)) : jl 53 0 x x = sqC x t := by
 have hr := zq (x.M * 2 ^ iG 53 x.e)
 unfold jl sqC sqM
 rw [if_neg om, if_neg om, if_neg om, if_neg om, TP hr.1 hr.2 h3 h4]
def eY (a1 a2 t1 t2 re t3 im : Int) (q : Nat) : Bool :=
 (okW uS && okW a1 && okO (fM 0 (opC uS) (opC a1)) && decide (ZI (fM 0 (opC uS) (opC a1)) = t1)) &&
 ((okW t1 && okW jJ && okO (r_ 0 (opC t1) (opC jJ)) && decide (ZI (r_ 0 (opC t1) (opC jJ)) = t2)) &&
 ((okW t2 && okO (sqC (opC t2) q) && decide ((opC t2).c = 1 ∧ (opC t2).s = 0 ∧ q * q ≤ (opC t2).M * 2 ^ iG 53 (opC t2).e ∧ (opC t2).M * 2 ^ iG 53 (opC t2).e < (q + 1) * (q + 1)) && decide (ZI (sqC (opC t2) q) = re)) &&
 ((okW re && okW re && okO (fM 0 (opC re) (opC re)) && decide (ZI (fM 0 (opC re) (opC re)) = t3)) &&
 (okW a2 && okW t3 && okO (divO 53 0 (opC a2) (opC t3)) && decide (ZI (divO 53 0 (opC a2) (opC t3)) = im)))))
theorem row {k j : Nat} {a1 a2 t1 t2 re t3 im : Int} {q : Nat} (hp : dJ.rt (k + 1) j = (a1, a2)) (h : eY a1 a2 t1 t2 re t3 im q = true) : dJ.rt (k + 2) (2 * j) = (re, im) := by
 unfold eY at h
 simp only [Bool.and_eq_true, decide_eq_true_eq] at h
 obtain ⟨⟨⟨⟨x1, x2⟩, x3⟩, x4⟩, ⟨⟨⟨y1, y2⟩, y3⟩, y4⟩, ⟨⟨⟨z1, z2⟩, z3, z4, z5, z6⟩, z7⟩, ⟨⟨⟨u1, _⟩, u3⟩, u4⟩, ⟨⟨v1, v2⟩, v3⟩, v4⟩ := h
 obtain ⟨f1, g1⟩ := ev2 x1 x2 x3
 obtain ⟨f2, g2⟩ := ev2 y1 y2 y3
 obtain ⟨f3, g3⟩ := evD z1 z1 (aAn z3 z4 z5 z6) z2
 obtain ⟨f4, g4⟩ := ev2 u1 u1 u3
 obtain ⟨f5, g5⟩ := evD v1 v2 rfl v3
 rw [x4] at g1
 rw [y4] at g2
 rw [z7] at g3
 rw [u4] at g4
 rw [v4] at g5
 have e1 : dJ.j_ (a1, a2) = re := by
  show yN (EL (C_ uS a1) jJ) = re
  rw [rF g1, uy g2, uw g3]
 have e2 : dJ.root (a1, a2) = (re, im) := by
  show (dJ.j_ (a1, a2), EN a2 (C_ (dJ.j_ (a1, a2)) (dJ.j_ (a1, a2)))) = _
  rw [e1, rF g4, uz g5]
 simp only [Ops.rt]
 rw [if_pos om, show 2 * j / 2 = j by omega, hp, e2]
theorem jR {k j : Nat} {v : Int × Int} (h : dJ.rt (k + 2) (2 * j) = v) : dJ.rt (k + 2) (2 * j + 1) = aBp v := by
 simp only [Ops.rt] at h ⊢
 rw [if_pos om, show 2 * j / 2 = j by omega] at h
 rw [if_neg om, show (2 * j + 1) / 2 = j by omega, h]
theorem PZ : dJ.rt 2 (2 * 0) = (4604544271217802189, 4604544271217802188) := row (a1 := 0) (a2 := 4607182418800017408) rfl (show eY 0 4607182418800017408 4607182418800017408 4602678819172646912 4604544271217802189 4609047870845172685 4604544271217802188 101904826760412361 = true by decide +kernel)
theorem PY : dJ.rt 3 (2 * 0) = (4606496786581982534, 4600565431771507042) := row (a1 := 4604544271217802189) (a2 := 4604544271217802188) PZ (show eY 4604544271217802189 4604544271217802188 4610366944636280294 4605863345008909798 4606496786581982534 4611000386209353030 4600565431771507042 133145072587297888 = true by decide +kernel)
theorem PX : dJ.rt 3 (2 * 1) = (4600565431771507042, 13829868823436758342) := row (a1 := 13827916308072577997) (a2 := 13827916308072577996) (jR PZ) (show eY 13827916308072577997 13827916308072577996 4598947915082336358 4594444315454965862 4600565431771507042 4605069031398877538 13829868823436758342 110300989657617956 = true by decide +kernel)
theorem PW : dJ.rt 4 (2 * 0) = (4607009347991985328, 4596196889902818826) := row (a1 := 4606496786581982534) (a2 := 4600565431771507042) PY (show eY 4606496786581982534 4600565431771507042 4611343202318370467 4606839602690999971 4607009347991985328 4611512947619355824 4596196889902818826 141346055147342594 = true by decide +kernel)
theorem PV : dJ.rt 4 (2 * 1) = (4596196889902818828, 13830381384846761133) := row (a1 := 13829868823436758342) (a2 := 13823937468626282850) (jR PY) (show eY 13829868823436758342 13823937468626282850 4590149478407443920 4585645878780073424 4596196889902818828 4600700489530189324 13830381384846761133 112461913796534456 = true by decide +kernel)
theorem PU : dJ.rt 4 (2 * 2) = (4605664432017547683, 13826551388188862664) := row (a1 := 4600565431771507042) (a2 := 13829868823436758342) PX (show eY 4600565431771507042 13829868823436758342 4608905871763417688 4604402272136047192 4605664432017547683 4610168031644918179 13826551388188862664 119827399556340265 = true by decide +kernel)
theorem PS : dJ.rt 4 (2 * 3) = (4603179351334086857, 4605664432017547682) := row (a1 := 13823937468626282850) (a2 := 4606496786581982534) (jR PX) (show eY 13823937468626282850 4606496786581982534 4603735512873216847 4599231913245846351 4603179351334086857 4607682950961457353 4605664432017547682 160132217241934099 = true by decide +kernel)
theorem PO : dJ.rt 5 (2 * 0) = (4607139046673687846, 4591727299969791019) := row (a1 := 4607009347991985328) (a2 := 4596196889902818826) PW (show eY 4607009347991985328 4596196889902818826 4611599483023371864 4607095883396001368 4607139046673687846 4611642646301058342 4591727299969791019 143421234054582873 = true by decide +kernel)
theorem PN : dJ.rt 5 (2 * 1) = (4591727299969791023, 13830511083528463649) := row (a1 := 13830381384846761136) (a2 := 13819568926757594634) (jR PW) (show eY 13830381384846761136 13819568926757594634 4581195487265450496 4576691887638080000 4591727299969791023 4596230899597161519 13830511083528463649 113006068906017524 = true by decide +kernel)
theorem PL : dJ.rt 5 (2 * 2) = (4605137878724712257, 13827261363116383700) := row (a1 := 4596196889902818828) (a2 := 13830381384846761133) PV (show eY 4596196889902818828 13830381384846761133 4608061027501552834 4603557427874182338 4605137878724712257 4609641478352082753 13827261363116383700 111402546870973458 = true by decide +kernel)
theorem PK : dJ.rt 5 (2 * 3) = (4603889326261607894, 4605137878724712254) := row (a1 := 13819568926757594636) (a2 := 4607009347991985325) (jR PV) (show eY 13819568926757594636 4607009347991985325 4605425201396946557 4600921601769576061 4603889326261607894 4608392925888978390 4605137878724712254 182851414922607294 = true by decide +kernel)
theorem PI : dJ.rt 5 (2 * 4) = (4606794571824115163, 13822272960629939973) := row (a1 := 4605664432017547683) (a2 := 13826551388188862664) PU (show eY 4605664432017547683 13826551388188862664 4610927025036153042 4606423425408782546 4606794571824115163 4611298171451485659 13822272960629939973 137909636461419945 = true by decide +kernel)
theorem PG : dJ.rt 5 (2 * 5) = (4598900923775164166, 4606794571824115161) := row (a1 := 13829036468872323491) (a2 := 4603179351334086856) (jR PU) (show eY 13829036468872323491 4603179351334086856 4595239967420414324 4590736367793043828 4598900923775164166 4603404523402534662 4606794571824115161 167337723432263861 = true by decide +kernel)
theorem PE : dJ.rt 5 (2 * 6) = (4606118860100255153, 4602163548591158842) := row (a1 := 4603179351334086857) (a2 := 4605664432017547682) PS (show eY 4603179351334086857 4605664432017547682 4609684484694422628 4605180885067052132 4606118860100255153 4610622459727625649 4602163548591158842 127098248879659787 = true by decide +kernel)
theorem PD : dJ.rt 5 (2 * 7) = (4602163548591158843, 13829490896955030960) := row (a1 := 13826551388188862665) (a2 := 13829036468872323490) (jR PS) (show eY 13826551388188862665 13829036468872323490 4601677754849767022 4597174155222396526 4602163548591158843 4606667148218529339 13829490896955030960 135870858772046760 = true by decide +kernel)
theorem aB9 : dJ.rt 6 (2 * 0) = (4607171569234046334, 4587232218149935123) := row (a1 := 4607139046673687846) (a2 := 4591727299969791019) PO (show eY 4607139046673687846 4591727299969791019 4611664332364223123 4607160732736852627 4607171569234046334 4611675168861416830 4587232218149935123 143941595020318687 = true by decide +kernel)
theorem aB8 : dJ.rt 6 (2 * 1) = (4587232218149935093, 13830543606088822180) := row (a1 := 13830511083528463654) (a2 := 13815099336824566827) (jR PO) (show eY 13830511083528463654 13815099336824566827 4572201654323866880 4567698054696496384 4587232218149935093 4591735817777305589 13830543606088822180 113142353826250571 = true by decide +kernel)
theorem aB7 : dJ.rt 6 (2 * 2) = (4604849113969373103, 13827596121717664924) := row (a1 := 4591727299969791023) (a2 := 13830511083528463649) PN (show eY 4591727299969791023 13830511083528463649 4607623848756681539 4603120249129311043 4604849113969373103 4609352713596743599 13827596121717664924 106782310785546992 = true by decide +kernel)
theorem aB6 : dJ.rt 6 (2 * 3) = (4604224084862889119, 4604849113969373100) := row (a1 := 13815099336824566831) (a2 := 4607139046673687841) (jR PN) (show eY 13815099336824566831 4607139046673687841 4606299558886689146 4601795959259318650 4604224084862889119 4608727684490259615 4604849113969373100 193563690163606510 = true by decide +kernel)
theorem aB5 : dJ.rt 6 (2 * 4) = (4606655894547498725, 13823112524845490139) := row (a1 := 4605137878724712257) (a2 := 13827261363116383700) PL (show eY 4605137878724712257 13827261363116383700 4610663748389735328 4606160148762364832 4606655894547498725 4611159494174869221 13823112524845490139 135690800035556936 = true by decide +kernel)
theorem aB4 : dJ.rt 6 (2 * 5) = (4599740487990714333, 4606655894547498722) := row (a1 := 13828509915579488065) (a2 := 4603889326261607892) (jR PL) (show eY 13828509915579488065 4603889326261607892 4597346180591756028 4592842580964385532 4599740487990714333 4604244087618084829 4606655894547498722 194203778329869201 = true by decide +kernel)
theorem aB3 : dJ.rt 6 (2 * 6) = (4606317631232591731, 4601373767755717821) := row (a1 := 4603889326261607894) (a2 := 4605137878724712254) PK (show eY 4603889326261607894 4605137878724712254 4610039472158183147 4605535872530812651 4606317631232591731 4610821230859962227 4601373767755717821 130278586997045038 = true by decide +kernel)
theorem aB2 : dJ.rt 6 (2 * 7) = (4601373767755717824, 13829689668087367536) := row (a1 := 13827261363116383702) (a2 := 13828509915579488062) (jR PK) (show eY 13827261363116383702 13828509915579488062 4600257804994724948 4595754205367354452 4601373767755717824 4605877367383088320 13829689668087367536 123234365404990468 = true by decide +kernel)
theorem aB1 : dJ.rt 6 (2 * 8) = (4607084929468638487, 13817826579625959737) := row (a1 := 4606794571824115163) (a2 := 13822272960629939973) PI (show eY 4606794571824115163 13822272960629939973 4611492094939436782 4606988495312066286 4607084929468638487 4611588529096008983 13817826579625959737 142555358773793136 = true by decide +kernel)
theorem aB0 : dJ.rt 6 (2 * 9) = (4594454542771183926, 4607084929468638492) := row (a1 := 13830166608678890971) (a2 := 4598900923775164165) (jR PI) (show eY 13830166608678890971 4598900923775164165 4586366372650230352 4581862773022859856 4594454542771183926 4598958142398554422 4607084929468638492 169168719380752057 = true by decide +kernel)
theorem ZF : dJ.rt 6 (2 * 10) = (4605409869824231233, 4603540801876750388) := row (a1 := 4598900923775164166) (a2 := 4606794571824115161) PG (show eY 4598900923775164166 4606794571824115161 4608489744764331970 4603986145136961474 4605409869824231233 4609913469451601729 4603540801876750388 115754404463277073 = true by decide +kernel)
theorem ZE : dJ.rt 6 (2 * 11) = (4603540801876750389, 13828781906679007039) := row (a1 := 13822272960629939974) (a2 := 13830166608678890969) (jR PG) (show eY 13822272960629939974 13830166608678890969 4604567766871388285 4600064167244017789 4603540801876750389 4608044401504120885 13828781906679007039 171698634607167129 = true by decide +kernel)
theorem ZC : dJ.rt 6 (2 * 12) = (4606912484326125783, 4597922303871901466) := row (a1 := 4606118860100255153) (a2 := 4602163548591158842) PE (show eY 4606118860100255153 4602163548591158842 4611154239077506776 4606650639450136280 4606912484326125783 4611416083953496279 4597922303871901466 139796236493589871 = true by decide +kernel)
theorem ZB : dJ.rt 6 (2 * 13) = (4597922303871901466, 13830284521180901591) := row (a1 := 13829490896955030961) (a2 := 13825535585445934650) (jR PE) (show eY 13829490896955030961 13825535585445934650 4593172890261262968 4588669290633892472 4597922303871901466 4602425903499271962 13830284521180901591 140068537301856671 = true by decide +kernel)
theorem ZA : dJ.rt 6 (2 * 14) = (4605900952042040894, 13826177882254409709) := row (a1 := 4602163548591158843) (a2 := 13829490896955030960) PD (show eY 4602163548591158843 13829490896955030960 4609305400968330639 4604801801340960143 4605900952042040894 4610404551669411390 13826177882254409709 123611719948231643 = true by decide +kernel)
theorem Zz : dJ.rt 6 (2 * 15) = (4602805845399633901, 4605900952042040894) := row (a1 := 13825535585445934651) (a2 := 4606118860100255152) (jR PD) (show eY 13825535585445934651 4606118860100255152 4602936454463390946 4598432854836020450 4602805845399633901 4607309445027004397 4605900952042040894 148180027339439531 = true by decide +kernel)
def cv (a : Int) : Int := if (opC a).s = 1 then -(((opC a).M * 2 ^ ((opC a).e + 100).toNat : Nat) : Int) else (((opC a).M * 2 ^ ((opC a).e + 100).toNat : Nat) : Int)
def eW : Nat := 5900
def wN : Nat := 2 ^ eW
theorem aBN : ((uN : Nat) : Int) = 302231454903657293676544 * ((wN : Nat) : Int) := by
 unfold uN wN
 rw [show eU = 78 + eW from rfl, Nat.pow_add, show (2 : Nat) ^ 78 = 302231454903657293676544 by decide, Int.natCast_mul]
 rfl
theorem Z5 {a : Int} (h : okW a = true) (hc : (opC a).c ≤ 1) (he : -100 ≤ (opC a).e) : Vl a (cv a * (wN : Int)) := by
 obtain ⟨h1, h2⟩ := zI h
 refine ⟨h1, opC a, h2, hc, ?_⟩
 have : nv (opC a).M (opC a).e = (opC a).M * 2 ^ ((opC a).e + 100).toNat * wN := by
  unfold nv wN
  rw [Nat.mul_assoc, ← Nat.pow_add, show ((opC a).e + 100).toNat + eW = ((opC a).e + 6000).toNat by unfold eW; omega]
 have e : ((nv (opC a).M (opC a).e : Nat) : Int) = (((opC a).M * 2 ^ ((opC a).e + 100).toNat : Nat) : Int) * (wN : Int) := by rw [this, Int.natCast_mul _ wN]
 unfold ov cv
 rw [e]
 split
 ·rw [Int.neg_mul]
 ·rfl
open Classical in
noncomputable def Zv (a : Int) : Int := if h : ∃ Z fl, lI 1 0 1 a Z fl then Classical.choose h else 0
theorem Jb {a Z fl : Int} (h : lI 1 0 1 a Z fl) : Zv a = Z := by
 have hex : ∃ Z fl, lI 1 0 1 a Z fl := ⟨Z, fl, h⟩
 unfold Zv; rw [dif_pos hex]; obtain ⟨qA, h'⟩ := Classical.choose_spec hex; exact (lI.one h' h).1
theorem IU (s : Int) (M N d : Nat) (h0 : 2 * (N * 2 ^ (d + 1)) < 2 * M + 2 ^ (d + 1)) (h1 : 2 * M < 2 * (N * 2 ^ (d + 1)) + 2 ^ (d + 1)) :
  chosen 0 s (M / 2 ^ (d + 1)) (hr M (d + 1) false) = N := by
 have hP : 0 < 2 ^ d := Nat.pow_pos de
 have e2 : 2 ^ (d + 1) = 2 * 2 ^ d := by rw [Nat.pow_succ, Nat.mul_comm]
 have hd := Nat.div_add_mod M (2 ^ d)
 have hm := Nat.mod_lt M hP
 have hq : M / 2 ^ (d + 1) = M / 2 ^ d / 2 := by rw [Nat.pow_succ, Nat.div_div_eq_div_mul]
 unfold chosen hr up
 rw [hq, Nat.add_sub_cancel]
 rw [e2] at h0 h1
 generalize hT : M / 2 ^ d = t at *
 generalize hR : M % 2 ^ d = r at *
 generalize hPP : 2 ^ d = P at *
 -- M = P * t + r, |M - 2 N P| < P
 have e3 : N * (2 * P) = P * (2 * N) := by rw [← Nat.mul_assoc, Nat.mul_comm (N * 2) P, Nat.mul_comm N 2]
 rw [e3] at h0 h1
 have ht : t = 2 * N ∧ True ∨ t + 1 = 2 * N ∧ 0 < r := by
  rcases Nat.lt_or_ge t (2 * N) with c | c
  ·right
   have c1 : t + 1 = 2 * N := by
    rcases Nat.lt_or_ge (t + 1) (2 * N) with k | k
    ·exfalso
     have := Nat.mul_le_mul_left P (show t + 2 ≤ 2 * N by omega)
     rw [Nat.mul_add] at this
     omega
    ·omega
   refine ⟨c1, ?_⟩
   have : P * (2 * N) = P * t + P := by rw [← c1, Nat.mul_add, Nat.mul_one]
   omega
  ·left
   refine ⟨?_, trivial⟩
   rcases Nat.lt_or_ge (2 * N) t with k | k
   ·exfalso
    have := Nat.mul_le_mul_left P (show 2 * N + 1 ≤ t by omega)
    rw [Nat.mul_add] at this
    omega
   ·omega
 rcases ht with ⟨ht, _⟩ | ⟨ht, hr0⟩
 ·have a1 : ¬ t % 2 = 1 := om
  rw [if_neg a1]
  have a2 : (0 + (if r ≠ 0 ∨ false = true then 1 else 0) : Nat) ≤ 1 := by split <;> omega
  generalize (0 + (if r ≠ 0 ∨ false = true then 1 else 0) : Nat) = z at *
  rw [if_neg (by simp; omega)]
  omega
 ·have a1 : t % 2 = 1 := om
  have a2 : (if r ≠ 0 ∨ false = true then 1 else 0 : Nat) = 1 := if_pos (.inl om)
  rw [if_pos a1, a2, if_pos (by simp)]
  omega
theorem S_ {c v n : Int} (h : Vl c v) (h0 : -1099511627776 ≤ n) (h1 : n ≤ 1099511627776) (hn : 2 * v < 2 * (n * (4194304 * uN)) + 4194304 * uN) (hn' : 2 * (n * (4194304 * uN)) < 2 * v + 4194304 * uN) : Zv c = n % 18446744073709551616 := by
 obtain ⟨hw, o, ho, hc, rfl⟩ := h
 obtain ⟨fo, eo, _⟩ := uh.fin ho hc
 have u0 := I7
 rw [← w_] at hn hn'
 have S0 : 0 < (sN : Int) := by rw [w_]; omega
 obtain ⟨N, hN⟩ : ∃ N : Nat, N = n.natAbs := ⟨_, rfl⟩
 -- the size is near N
 have key : 2 * (N * sN) < 2 * nv o.M o.e + sN ∧ 2 * nv o.M o.e < 2 * (N * sN) + sN ∧ (N ≠ 0 → o.s = if n < 0 then 1 else 0) := by
  have hv0 : (0 : Int) ≤ ((nv o.M o.e : Nat) : Int) := om
  have cast : ((N * sN : Nat) : Int) = (N : Int) * (sN : Int) := Int.natCast_mul _ _
  rcases Int.lt_trichotomy n 0 with c | c | c
  ·have eN : (N : Int) = -n := om
   have hp : n * (sN : Int) = -((N : Int) * (sN : Int)) := by rw [eN, Int.neg_mul, Int.neg_neg]
   have hge : (sN : Int) ≤ (N : Int) * (sN : Int) := by
    have := Int.mul_le_mul_of_nonneg_right (show (1 : Int) ≤ N by omega) (show (0 : Int) ≤ sN by omega)
    omega
   rw [hp] at hn hn'
   unfold ov at hn hn'
   rcases fo.s with e | e
   ·rw [if_neg (by omega)] at hn hn'; omega
   ·rw [if_pos e] at hn hn'
    exact ⟨om, om, fun _ => by rw [if_pos c]; exact e⟩
  ·have eN : N = 0 := om
   rw [c, Int.zero_mul] at hn hn'
   subst eN
   unfold ov at hn hn'
   rw [Nat.zero_mul]
   split at hn <;> (rename_i k; first | rw [if_pos k] at hn' | rw [if_neg k] at hn') <;> exact ⟨om, om, fun k => absurd rfl k⟩
  ·have eN : (N : Int) = n := om
   have hp : n * (sN : Int) = (N : Int) * (sN : Int) := by rw [eN]
   have hge : (sN : Int) ≤ (N : Int) * (sN : Int) := by
    have := Int.mul_le_mul_of_nonneg_right (show (1 : Int) ≤ N by omega) (show (0 : Int) ≤ sN by omega)
    omega
   rw [hp] at hn hn'
   unfold ov at hn hn'
   rcases fo.s with e | e
   ·rw [if_neg (by omega)] at hn hn'
    exact ⟨om, om, fun _ => by rw [if_neg (by omega)]; exact e⟩
   ·rw [if_pos e] at hn hn'; omega
 obtain ⟨k0, k1, k2⟩ := key
 have hWh : aV 0 o = N := by
  rcases Int.lt_or_le o.e 0 with c | c
  ·obtain ⟨d, hd⟩ : ∃ d, (0 - o.e).toNat = d + 1 := ⟨(0 - o.e).toNat - 1, om⟩
   unfold aV aT
   rw [if_neg om, xA _ _ _ _ om, hd]
   have es : sN = 2 ^ (d + 1) * 2 ^ (o.e + 6000).toNat := by
    unfold sN
    rw [← Nat.pow_add]
    congr 1
    unfold eU; omega
   have hQ : 0 < 2 ^ (o.e + 6000).toNat := Nat.pow_pos de
   unfold nv at k0 k1
   rw [es] at k0 k1
   generalize 2 ^ (o.e + 6000).toNat = Q at *
   have f1 : 2 * (N * (2 ^ (d + 1) * Q)) = 2 * (N * 2 ^ (d + 1)) * Q := by rw [← Nat.mul_assoc N, ← Nat.mul_assoc 2]
   have f2 : 2 * (o.M * Q) = 2 * o.M * Q := by rw [Nat.mul_assoc]
   rw [f1, f2, ← Nat.add_mul] at k0 k1
   exact IU o.s o.M N d (Nat.lt_of_mul_lt_mul_right k0) (Nat.lt_of_mul_lt_mul_right k1)
  ·rw [vU c]
   have es : nv o.M o.e = o.M * 2 ^ o.e.toNat * sN := by
    unfold nv sN
    rw [Nat.mul_assoc, ← Nat.pow_add]
    congr 2
    unfold eU; omega
   rw [es] at k0 k1
   generalize o.M * 2 ^ o.e.toNat = X at *
   have p0 : 0 < sN := om
   rcases Nat.lt_trichotomy X N with c | c | c
   ·exfalso
    have := Nat.mul_le_mul_right sN (show X + 1 ≤ N by omega)
    rw [Nat.add_mul] at this
    omega
   ·exact c
   ·exfalso
    have := Nat.mul_le_mul_right sN (show N + 1 ≤ X by omega)
    rw [Nat.add_mul] at this
    omega
 have hle : aV 0 o ≤ dX 1 o.s := by
  rw [hWh]
  rcases fo.s with e | e <;> rw [e]
  ·rw [show dX 1 0 = 9223372036854775807 by decide]; omega
  ·rw [show dX 1 1 = 9223372036854775808 by decide]; omega
 have hT : lI 1 0 1 c (l7 o.s (aV 0 o)) (Wi o) := .inl ⟨_, _, _, _, _, _, o, f64, hw.2, de, de, ho, .inr (.inl ⟨hc, hle, rfl, rfl⟩)⟩
 rw [Jb hT, hWh]
 unfold l7
 by_cases z : N = 0
 ·rw [if_neg (fun k => k.2 z)]; omega
 ·rw [k2 z]
  by_cases k : n < 0
  ·rw [if_pos k, if_pos ⟨rfl, z⟩]; omega
  ·rw [if_neg k, if_neg (by simp)]; omega
theorem aBQ : TiS Zv := fun c hc w => (Dl f64 0 1 c de de hc.1 hc.2 hc.2 w).mono fun e w' ⟨Z, fl, hp, he, hg⟩ => ⟨fl, by rw [Jb hp]; exact he, hg⟩
theorem aBR : TiI Zv := fun c hc w hw => by
 obtain ⟨x, hx⟩ := jk f64 c hc.1 hc.2
 exact (D6 f64 0 1 de rfl hc.1 hc.2 hc.2 hx hw).mono fun e w' ⟨Z, fl, hp, he, hg⟩ => ⟨fl, by rw [Jb (.inl ⟨_, _, _, _, _, _, x, f64, hc.2, de, de, hx, hp⟩)]; exact he, hg⟩
theorem UG : Rj dJ := fun n u h0 h1 hu w hw => by
 subst hu
 exact (zU f64 0 1 _ de rfl (Int.emod_nonneg _ de) (Int.emod_lt_of_pos _ de) w hw).mono fun e w' ⟨Z, fl, hp, he, hg⟩ => ⟨fl, by rw [show dJ.int n = Z from rE hp]; exact he, hg⟩
