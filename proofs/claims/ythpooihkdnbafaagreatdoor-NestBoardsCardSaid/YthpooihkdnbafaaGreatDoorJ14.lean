/- Parts of the proof, joined. -/
import Derived.Test.YthpooihkdnbafaaGreatDoorJ12
import Derived.Test.YthpooihkdnbafaaGreatDoorJ13
import Derived.Test.YthpooihkdnbafaaGreatDoorJ11
set_option linter.unusedSimpArgs false
set_option linter.unusedVariables false
set_option linter.constructorNameAsVariable false
namespace Go.Proofs.YthpooihkdnbafaaGreatDoor.Zm
open Go.RowKit

set_option maxRecDepth 100000 in
theorem greatest_at {d : Int} (hd : 1 ≤ d) (hd' : d ≤ 10000) : CallAt Tryz.prog [] (.fn 48) [.f (.one (.fn 85 [] [(false, [.ptr 0 0])])), lv (.func (.func 50) #[] #[])] [.cells 3 [sI d]] 1
    (fun x _ => x = (if d = 1 then .tup [.agg [zn 0, zn 0], .one (lc (.bool false))] else .tup [.agg [sI (sS d (d.toNat - 1)).1, sI (sS d (d.toNat - 1)).2.1], .one (lc (.bool true))]) ∧ plainV x = true) := by
  refine call_of_reach entersP (by kernel_rfl) (Reach.run (imp := nimp) mixP noCall_ok 2000 ?_)
  refine Reach.range1 (s1 := (gRange d).2.2.1) (k := (gRange d).2.2.2.2) (l := 5) (secs_at hd hd') (by kernel_rfl) rfl (by kernel_rfl) ?_
  rintro x H' rfl
  by_cases h1 : d = 1
  · rw [if_pos h1, if_pos h1]
    refine ⟨none, ((overZ 5 { (gRange d).2.2.1 with zh := gH d }).getD (none, ⟨⟨0, .e⟩, [], 0, []⟩)).2, by kernel_rfl, go ?_⟩
    exact Reach.finV (.tup [.agg [zn 0, zn 0], .one (lc (.bool false))]) (by kernel_rfl) fun _ => ⟨rfl, rfl⟩
  · rw [if_neg h1, if_neg h1]
    refine ⟨none, ((overZ 5 { (gRange d).2.2.1 with zh := gM d (sS d (d.toNat - 1)).1 (sS d (d.toNat - 1)).2.1 }).getD (none, ⟨⟨0, .e⟩, [], 0, []⟩)).2, by kernel_rfl, go ?_⟩
    exact Reach.finV (.tup [.agg [sI (sS d (d.toNat - 1)).1, sI (sS d (d.toNat - 1)).2.1], .one (lc (.bool true))]) (by kernel_rfl) fun _ => ⟨rfl, rfl⟩
/-- nest.Strongest. -/
theorem nStr_bad {d : Int} (h : ¬ sizeE d = 0) : PureAt Tryz.prog 21 [symI d] (· = .tup [.one (zn 0), .one (zn 0), .one (sI (sizeE d))]) := by
  refine pure_of_call (call_of_reach entersP (by kernel_rfl) (goT t3 t3_ok ?_))
  refine Reach.bool 11 true (bne_t h) (by kernel_rfl) (goT t3 t3_ok ?_)
  exact Reach.finV (.tup [.one (zn 0), .one (zn 0), .one (sI (sizeE d))]) (by kernel_rfl) fun _ => ⟨rfl, rfl⟩
theorem size_ok {d : Int} (hd : 1 ≤ d) (hd' : d ≤ 10000) : sizeE d = 0 := by unfold sizeE rangeE; rw [if_neg (by omega)]
theorem size_no {d : Int} (h : ¬ sizeE d = 0) : sizeE d = 3 := by unfold sizeE rangeE at *; split <;> simp_all
theorem size_in {d : Int} (h : sizeE d = 0) : 1 ≤ d ∧ d ≤ 10000 := by unfold sizeE rangeE at h; split at h <;> omega
theorem nStr_one : PureAt Tryz.prog 21 [symI 1] (· = .tup [.one (zn 0), .one (zn 0), .one (zn 7)]) := by
  refine pure_of_call (call_of_reach entersP (by kernel_rfl) (goX t3 t3_ok ?_))
  refine Reach.bool 11 (t := sizeE 1 != 0) false (by rw [size_ok (by decide) (by decide)]; rfl) (by kernel_rfl) (goX t3 t3_ok ?_)
  refine Reach.askH (greatest_at (d := 1) (by decide) (by decide)) (by kernel_rfl) (by kernel_rfl) ?_
  rw [if_pos rfl]
  refine goX t3 t3_ok ?_
  exact Reach.finV (.tup [.one (zn 0), .one (zn 0), .one (zn 7)]) (by kernel_rfl) fun _ => ⟨rfl, rfl⟩
theorem nStr_ok {d : Int} (hd : 2 ≤ d) (hd' : d ≤ 10000) : PureAt Tryz.prog 21 [symI d] (· = .tup [.one (sI (sS d (d.toNat - 1)).1), .one (sI (sS d (d.toNat - 1)).2.1), .one (zn 0)]) := by
  refine pure_of_call (call_of_reach entersP (by kernel_rfl) (goX t3 t3_ok ?_))
  refine Reach.bool 11 (t := sizeE d != 0) false (by rw [size_ok (by omega) hd']; rfl) (by kernel_rfl) (goX t3 t3_ok ?_)
  refine Reach.askH (greatest_at (d := d) (by omega) hd') (by kernel_rfl) (by kernel_rfl) ?_
  rw [if_neg (by omega)]
  refine goX t3 t3_ok ?_
  exact Reach.finV (.tup [.one (sI (sS d (d.toNat - 1)).1), .one (sI (sS d (d.toNat - 1)).2.1), .one (zn 0)]) (by kernel_rfl) fun _ => ⟨rfl, rfl⟩
/-- The reference's errors of sizes. -/
theorem cs1_at (a : Int) : CallAt Tryz.prog [] (.fn 8) ([] ++ .f (.one (.b (.slc 0 0 1 1))) :: []) [.cells 3 [sI a]] 1 (fun x _ => x = symI (sizeE a) ∧ plainV x = true) := by
  refine call_of_reach entersP (by kernel_rfl) (go ?_)
  by_cases h1 : a < 1
  · refine Reach.bool 15 true (decide_eq_true h1) (by kernel_rfl) (go ?_)
    refine Reach.lit 2 (u := .int .i64 3) (by kernel_rfl) ?_
    exact Reach.finV (symI 3) (by kernel_rfl) fun _ => ⟨by rw [sizeE, rangeE, if_pos (.inl h1)], rfl⟩
  · refine Reach.bool 15 false (decide_eq_false h1) (by kernel_rfl) (go ?_)
    by_cases h2 : a > 10000
    · refine Reach.bool 21 true (decide_eq_true h2) (by kernel_rfl) (go ?_)
      refine Reach.lit 2 (u := .int .i64 3) (by kernel_rfl) ?_
      exact Reach.finV (symI 3) (by kernel_rfl) fun _ => ⟨by rw [sizeE, rangeE, if_pos (.inr h2)], rfl⟩
    · refine Reach.bool 21 false (decide_eq_false h2) (by kernel_rfl) (go ?_)
      refine Reach.lit 2 (u := .int .i64 0) (by kernel_rfl) ?_
      exact Reach.finV (symI 0) (by kernel_rfl) fun _ => ⟨by rw [sizeE, rangeE, if_neg (by omega)], rfl⟩
theorem cs3_at (a b c : Int) : CallAt Tryz.prog [] (.fn 8) ([] ++ .f (.one (.b (.slc 0 0 3 3))) :: []) [.cells 3 [sI a, sI b, sI c]] 1 (fun x _ => x = symI (or3 (sizeE a) (sizeE b) (sizeE c)) ∧ plainV x = true) := by
  have e3 : ∀ {n : Int}, n < 1 ∨ 10000 < n → sizeE n = 3 := fun h => by rw [sizeE, rangeE, if_pos h]
  have e0 : ∀ {n : Int}, ¬ n < 1 → ¬ n > 10000 → sizeE n = 0 := fun h h' => by rw [sizeE, rangeE, if_neg (by omega)]
  refine call_of_reach entersP (by kernel_rfl) (go ?_)
  by_cases h1 : a < 1
  · refine Reach.bool 15 true (decide_eq_true h1) (by kernel_rfl) (go (Reach.lit 2 (u := .int .i64 3) (by kernel_rfl) ?_))
    exact Reach.finV (symI 3) (by kernel_rfl) fun _ => ⟨by rw [e3 (.inl h1)]; rfl, rfl⟩
  refine Reach.bool 15 false (decide_eq_false h1) (by kernel_rfl) (go ?_)
  by_cases h2 : a > 10000
  · refine Reach.bool 21 true (decide_eq_true h2) (by kernel_rfl) (go (Reach.lit 2 (u := .int .i64 3) (by kernel_rfl) ?_))
    exact Reach.finV (symI 3) (by kernel_rfl) fun _ => ⟨by rw [e3 (.inr h2)]; rfl, rfl⟩
  refine Reach.bool 21 false (decide_eq_false h2) (by kernel_rfl) (go ?_)
  rw [e0 h1 h2, show or3 0 (sizeE b) (sizeE c) = or2 (sizeE b) (sizeE c) from rfl]
  by_cases h3 : b < 1
  · refine Reach.bool 15 true (decide_eq_true h3) (by kernel_rfl) (go (Reach.lit 2 (u := .int .i64 3) (by kernel_rfl) ?_))
    exact Reach.finV (symI 3) (by kernel_rfl) fun _ => ⟨by rw [e3 (.inl h3)]; rfl, rfl⟩
  refine Reach.bool 15 false (decide_eq_false h3) (by kernel_rfl) (go ?_)
  by_cases h4 : b > 10000
  · refine Reach.bool 21 true (decide_eq_true h4) (by kernel_rfl) (go (Reach.lit 2 (u := .int .i64 3) (by kernel_rfl) ?_))
    exact Reach.finV (symI 3) (by kernel_rfl) fun _ => ⟨by rw [e3 (.inr h4)]; rfl, rfl⟩
  refine Reach.bool 21 false (decide_eq_false h4) (by kernel_rfl) (go ?_)
  rw [e0 h3 h4, show or2 0 (sizeE c) = sizeE c from rfl]
  by_cases h5 : c < 1
  · refine Reach.bool 15 true (decide_eq_true h5) (by kernel_rfl) (go (Reach.lit 2 (u := .int .i64 3) (by kernel_rfl) ?_))
    exact Reach.finV (symI 3) (by kernel_rfl) fun _ => ⟨by rw [e3 (.inl h5)], rfl⟩
  refine Reach.bool 15 false (decide_eq_false h5) (by kernel_rfl) (go ?_)
  by_cases h6 : c > 10000
  · refine Reach.bool 21 true (decide_eq_true h6) (by kernel_rfl) (go (Reach.lit 2 (u := .int .i64 3) (by kernel_rfl) ?_))
    exact Reach.finV (symI 3) (by kernel_rfl) fun _ => ⟨by rw [e3 (.inr h6)], rfl⟩
  refine Reach.bool 21 false (decide_eq_false h6) (by kernel_rfl) (go (Reach.lit 2 (u := .int .i64 0) (by kernel_rfl) ?_))
  exact Reach.finV (symI 0) (by kernel_rfl) fun _ => ⟨by rw [e0 h5 h6], rfl⟩
/-- law.number, where it says yes. -/
theorem number_bad {h e b w : Int} (hb : ¬ b = 0) (h0 : h = 0) (he : e = b) : PureAt Tryz.prog 10 [symI h, symI e, symI b, symI w] (· = lv (.bool true)) := by
  refine pure_of_call (call_of_reach entersP (by kernel_rfl) (go ?_))
  refine Reach.bool 10 true (bne_t hb) (by kernel_rfl) (go ?_)
  refine Reach.bool 13 (t := h == 0) true (by simp [h0]) (by kernel_rfl) (go ?_)
  refine Reach.bool 8 (t := e == b) true (by simp [he]) (by kernel_rfl) ?_
  exact Reach.finV (lv (.bool true)) (by kernel_rfl) fun _ => ⟨rfl, rfl⟩
theorem number_badL {h e b : Int} (w : Int) (hb : ¬ b = 0) (h0 : h = 0) (he : e = b) : PureAt Tryz.prog 10 [symI h, symI e, symI b, litI w] (· = lv (.bool true)) :=
  (number_bad (w := w) hb h0 he).of fun _ ⟨v1, _, e1, h1, v2, _, e2, h2, v3, _, e3, h3, v4, _, e4, h4, h5⟩ => ⟨v1, _, e1, h1, v2, _, e2, h2, v3, _, e3, h3, v4, _, e4, h4, h5⟩
theorem number_ok {h e b w : Int} (hb : b = 0) (he : e = 0) (hw : h = w) : PureAt Tryz.prog 10 [symI h, symI e, symI b, symI w] (· = lv (.bool true)) := by
  refine pure_of_call (call_of_reach entersP (by kernel_rfl) (go ?_))
  refine Reach.bool 10 false (bne_f hb) (by kernel_rfl) (go ?_)
  refine Reach.bool 20 (t := e == 0) true (by simp [he]) (by kernel_rfl) (go ?_)
  refine Reach.bool 8 (t := h == w) true (by simp [hw]) (by kernel_rfl) ?_
  exact Reach.finV (lv (.bool true)) (by kernel_rfl) fun _ => ⟨rfl, rfl⟩

/-- The best stack of all, if there is one. -/
def topN (N : Nat) (d t k : Int) : Option (Int × Int) := match sawE d t k (lowE t k 1) 1 with
  | none => none
  | some ws => some (bestE d t k N 2 1 (sumE 0 ws))
def topE (d t k : Int) : Option (Int × Int) := topN 63 d t k
section
variable (e1 e2 e3 d t k : Int)
set_option maxRecDepth 100000 in
theorem greatB_at : CallAt Tryz.prog [] (.fn 28) [stacksV, lv (.func (.func 30) #[] #[])] (bH e1 e2 e3 d t k) 4
    (fun x _ => x = (match topE d t k with | none => .tup [.agg [zn 0, zn 0], .one (lc (.bool false))] | some y => .tup [.agg [sI y.1, sI y.2], .one (lc (.bool true))]) ∧ plainV x = true) := by
  refine call_of_reach entersP (by kernel_rfl) (Reach.run (imp := nimp) mixP noCall_ok 2000 ?_)
  refine Reach.range1 (s1 := (bRange e1 e2 e3 d t k).2.2.1) (k := (bRange e1 e2 e3 d t k).2.2.2.2) (l := 8) (stacks_at e1 e2 e3 d t k) (by kernel_rfl) rfl (by kernel_rfl) ?_
  rintro x H' rfl
  unfold stacksH topE topN
  cases sawE d t k (lowE t k 1) 1 with
  | none =>
    refine ⟨none, ((overZ 8 { (bRange e1 e2 e3 d t k).2.2.1 with zh := bG e1 e2 e3 d t k }).getD (none, ⟨⟨0, .e⟩, [], 0, []⟩)).2, by kernel_rfl, go ?_⟩
    exact Reach.finV (.tup [.agg [zn 0, zn 0], .one (lc (.bool false))]) (by kernel_rfl) fun _ => ⟨rfl, rfl⟩
  | some ws =>
    refine ⟨none, ((overZ 8 { (bRange e1 e2 e3 d t k).2.2.1 with zh := bM e1 e2 e3 d t k (bestE d t k 63 2 1 (sumE 0 ws)).1 (bestE d t k 63 2 1 (sumE 0 ws)).2 }).getD (none, ⟨⟨0, .e⟩, [], 0, []⟩)).2, by kernel_rfl, go ?_⟩
    exact Reach.finV (.tup [.agg [sI (bestE d t k 63 2 1 (sumE 0 ws)).1, sI (bestE d t k 63 2 1 (sumE 0 ws)).2], .one (lc (.bool true))]) (by kernel_rfl) fun _ => ⟨rfl, rfl⟩
end
/-- What nest.BestBoards yields. -/
def bestV (d t k : Int) : Int × Int :=
  if or3 (sizeE d) (sizeE t) (rangeE k 0 10000) = 0 then (match topE d t k with | none => (0, 7) | some y => (y.1, 0)) else (0, or3 (sizeE d) (sizeE t) (rangeE k 0 10000))
set_option maxRecDepth 100000 in
theorem nBest_any (d t k : Int) : PureAt Tryz.prog 6 [symI d, symI t, symI k] (· = .tup [.one (sI (bestV d t k).1), .one (sI (bestV d t k).2)]) := by
  refine pure_of_call (call_of_reach entersP (by kernel_rfl) (goT t3 t3_ok ?_))
  refine Reach.read1 0 (or3_at (sizeE d) (sizeE t) (rangeE k 0 10000)) (by kernel_rfl) (by kernel_rfl) (by kernel_rfl) rfl rfl (goT t3 t3_ok ?_)
  unfold bestV
  by_cases h : or3 (sizeE d) (sizeE t) (rangeE k 0 10000) = 0
  · rw [if_pos h]
    refine Reach.bool 20 false (bne_f h) (by kernel_rfl) (goX t3 t3_ok ?_)
    refine Reach.askH (greatB_at (sizeE d) (sizeE t) (rangeE k 0 10000) d t k) (by kernel_rfl) (by kernel_rfl) ?_
    cases topE d t k with
    | none =>
      refine goT t3 t3_ok (Reach.lit 6 (u := .int .i64 0) (by kernel_rfl) (Reach.lit 7 (u := .int .i64 7) (by kernel_rfl) ?_))
      exact Reach.finV (.tup [.one (sI 0), .one (sI 7)]) (by kernel_rfl) fun _ => ⟨rfl, rfl⟩
    | some y =>
      refine goT t3 t3_ok (Reach.lit 7 (u := .int .i64 0) (by kernel_rfl) ?_)
      exact Reach.finV (.tup [.one (sI y.1), .one (sI 0)]) (by kernel_rfl) fun _ => ⟨rfl, rfl⟩
  · rw [if_neg h]
    refine Reach.bool 20 true (bne_t h) (by kernel_rfl) (goT t3 t3_ok (Reach.lit 6 (u := .int .i64 0) (by kernel_rfl) ?_))
    exact Reach.finV (.tup [.one (sI 0), .one (sI (or3 (sizeE d) (sizeE t) (rangeE k 0 10000)))]) (by kernel_rfl) fun _ => ⟨rfl, rfl⟩

section
variable {d t k n : Int} (hd : 1 ≤ d) (hd' : d ≤ 10000) (D : Dom t k n)
section
include D
theorem Dom.fail (r : Nat) : ∀ (i : Nat), i + r ≤ 64 → sawE d t k (lowI t k n i) r = none → ∃ j : Nat, i ≤ j ∧ j < i + r ∧ wideE d t (lowI t k n j) < 1 := by
  induction r with
  | zero => intro i _ h; rw [sawE] at h; cases h
  | succ r ih =>
    intro i hi h
    rw [sawE] at h
    split at h
    · rename_i hw; exact ⟨i, Nat.le_refl _, by omega, hw⟩
    · rw [D.next (Int.natCast_nonneg _) (by omega)] at h
      cases hs : sawE d t k (lowI t k n ((i : Int) + 1)) r with
      | none =>
        obtain ⟨j, h1, h2, h3⟩ := ih (i + 1) (by omega) hs
        exact ⟨j, by omega, by omega, h3⟩
      | some us => rw [hs] at h; cases h
theorem Dom.y0 : yE t (lowI t k n 0) = n * t + (n - 1) * k := by
  obtain ⟨h1, h2, h3, h4⟩ := D.all
  obtain ⟨e, _, _⟩ := D.y (i := 0) (by decide) (by decide)
  have : lowI t k n 0 = - (n * t + (n - 1) * k) := by unfold lowI; omega
  rw [e, this]
  omega
theorem Dom.yle {j : Int} (h0 : 0 ≤ j) (hj : j < n) : yE t (lowI t k n j) ≤ n * t + (n - 1) * k := by
  obtain ⟨h1, h2, h3, h4⟩ := D.all
  obtain ⟨e, _, _⟩ := D.y (i := j) h0 (by have := D.n2; omega)
  obtain ⟨t1, t2, k1, k2, n1, n2⟩ := D
  have hm : j * (t + k) ≤ (n - 1) * (t + k) := Int.mul_le_mul_of_nonneg_right (by omega) (by omega)
  have hr : (n - 1) * (t + k) + t = n * t + (n - 1) * k := by
    rw [Int.mul_add, Int.sub_mul, Int.one_mul]
    omega
  have hp : 0 ≤ j * (t + k) := Int.mul_nonneg h0 (by omega)
  rw [e]
  unfold lowI
  omega
end
include hd hd'
theorem hh_zero {y y' : Int} (h1 : 1 ≤ y) (hle : y ≤ y') (h2 : y' ≤ 4000000) (h : hh d y = 0) : hh d y' = 0 := by
  obtain ⟨a1, a2, a3⟩ := hh_any (d := d) (y := y') hd hd' (by omega) h2
  rcases Int.lt_or_le d y' with hf | hf
  · exact a3 hf
  · obtain ⟨b1, b2, b3, b4⟩ := hh_is hd hd' h1 (by omega)
    obtain ⟨c1, c2, c3, c4⟩ := hh_is hd hd' (w := y') (by omega) (by omega)
    rcases Int.lt_or_le 0 (hh d y') with hp | hp
    · have e1 := c3 1 (by decide) hp
      have e2 := b4 1 (by omega) (by decide)
      have e3 := sq_le (show 0 ≤ y by omega) hle
      omega
    · omega
include D
theorem none_next (D' : Dom t k (n + 1)) (h : sawE d t k (lowE t k n) n.toNat = none) : sawE d t k (lowE t k (n + 1)) (n + 1).toNat = none := by
  have hn := D.n1; have hn2 := D.n2
  rw [D.low] at h
  obtain ⟨j, _, hj, hw⟩ := D.fail n.toNat 0 (by omega) h
  have hy := D.yle (j := j) (by omega) (by omega)
  obtain ⟨_, y1, _⟩ := D.y (i := j) (by omega) (by omega)
  have hz := (wide_hh (d := d) (t := t) (low := lowI t k n j)).1.1 hw
  have hy' := D'.y0
  obtain ⟨_, a2, a3, _⟩ := D'.all
  have hstep : (n + 1) * t + (n + 1 - 1) * k = n * t + (n - 1) * k + t + k := by
    rw [Int.add_mul, Int.one_mul, show n + 1 - 1 = (n - 1) + 1 by omega, Int.add_mul, Int.one_mul]
    omega
  have ht := D.t1; have hk := D.k1
  have hz' : hh d (yE t (lowI t k (n + 1) 0)) = 0 := hh_zero hd hd' y1 (by rw [hy', hstep]; omega) (by rw [hy']; omega) hz
  have hw' := (wide_hh (d := d) (t := t) (low := lowI t k (n + 1) 0)).1.2 hz'
  rw [D'.low, show (n + 1).toNat = n.toNat + 1 by omega, sawE, if_pos hw']
end
section
variable {d t k : Int} (hd : 1 ≤ d) (hd' : d ≤ 10000) (D : ∀ n, 1 ≤ n → n ≤ 64 → Dom t k n)
include hd hd' D
theorem bestF_stop : ∀ (m : Nat) (n b w : Int), n + m = 65 → 1 ≤ n → sawE d t k (lowE t k n) n.toNat = none → bestF d t k m n b w = b
  | 0, n, b, w, _, _, _ => rfl
  | 1, n, b, w, hn, h0, h => by rw [bestF, h]; rfl
  | m + 2, n, b, w, hn, h0, h => by
    rw [bestF, h]
    exact bestF_stop (m + 1) (n + 1) b w (by omega) (by omega) (none_next hd hd' (D n h0 (by omega)) (D (n + 1) (by omega) (by omega)) h)
theorem best_eq : ∀ (m : Nat) (n b w : Int), n + m = 65 → 1 ≤ n → 1 ≤ b → (bestE d t k m n b w).1 = bestF d t k m n b w ∧ 1 ≤ (bestE d t k m n b w).1
  | 0, n, b, w, _, _, hb => ⟨rfl, hb⟩
  | m + 1, n, b, w, hn, h0, hb => by
    cases hs : sawE d t k (lowE t k n) n.toNat with
    | none =>
      rw [bestF_stop hd hd' D (m + 1) n b w hn h0 hs, bestE, hs]
      exact ⟨rfl, hb⟩
    | some ws =>
      rw [bestE, bestF, hs]
      dsimp only
      by_cases hg : sumE 0 ws > w
      · rw [if_pos (cmp_pos.2 hg), if_pos (cmp_pos.2 hg), if_pos hg, if_pos hg]
        exact best_eq m (n + 1) n _ (by omega) (by omega) h0
      · rw [if_neg (fun h => hg (cmp_pos.1 h)), if_neg (fun h => hg (cmp_pos.1 h)), if_neg hg, if_neg hg]
        exact best_eq m (n + 1) b w (by omega) (by omega) hb
set_option maxRecDepth 100000 in
theorem best_topN {N M : Nat} (hN : N + 2 = 65) (hM : M = N + 1) : (topN N d t k = none → bestF d t k M 1 0 0 = 0) ∧ ∀ y, topN N d t k = some y → y.1 = bestF d t k M 1 0 0 ∧ 1 ≤ y.1 := by
  subst hM
  unfold topN
  cases hs : sawE d t k (lowE t k 1) 1 with
  | none => exact ⟨fun _ => bestF_stop hd hd' D (N + 1) 1 0 0 (by omega) (by decide) hs, fun y h => by cases h⟩
  | some ws =>
    refine ⟨fun h => (by cases h), fun y h => ?_⟩
    injection h with h
    subst h
    have D1 := D 1 (by decide) (by decide)
    have hsum : sumE 0 ws > 0 := by
      rw [sawE] at hs
      split at hs
      · cases hs
      · rename_i hw
        simp only [sawE, Option.map_some, Option.some.injEq] at hs
        rw [← hs]
        have e := (wide_hh (d := d) (t := t) (low := lowE t k 1)).2 hw
        rw [D1.low] at e hw ⊢
        obtain ⟨_, y1, y2⟩ := D1.y (i := 0) (by decide) (by decide)
        have := hh_any hd hd' y1 y2
        unfold sumE
        simp only [List.foldl_cons, List.foldl_nil]
        rw [W64_id (by omega) (by omega)]
        omega
    have h1 : bestF d t k (N + 1) 1 0 0 = bestF d t k N 2 1 (sumE 0 ws) := by
      rw [bestF, show (1 : Int).toNat = 1 from rfl, hs]
      dsimp only
      rw [if_pos hsum, if_pos hsum]
      rfl
    rw [h1]
    exact best_eq hd hd' D N 2 1 (sumE 0 ws) (by omega) (by decide) (by decide)
theorem best_top : (topE d t k = none → bestF d t k 64 1 0 0 = 0) ∧ ∀ y, topE d t k = some y → y.1 = bestF d t k 64 1 0 0 ∧ 1 ≤ y.1 := by
  unfold topE
  exact best_topN hd hd' D (N := 63) (M := 64) rfl rfl
end

/-- The numbers of cells. -/
def intsC : List C → Option (List Int)
  | [] => some []
  | .b (.sym (.int .i64 a)) :: l | .b (.lit (.int .i64 a)) :: l => match intsC l with | some r => some (a :: r) | none => none
  | _ => none
abbrev symC (a : Int) : C := .b (.sym (.int .i64 a))
/-- A function of a list of numbers, that is known as a function. -/
def tabL (f0 : FuncId) (T0 : TypeId) (g : List Int → V) : CallFn := fun t args H _ => match t, args with
  | .fn f, [.f (.one (.b (.slc k 0 n c)))] => match Nat.beq f f0, H[k]? with
    | true, some (.cells T l) => match Nat.beq T T0, intsC l with
      | true, some is => match Nat.beq n is.length && Nat.beq c is.length && Nat.ble n 1000 with
        | true => some (g is, H)
        | false => none
      | _, _ => none
    | _, _ => none
  | _, _ => none
def orC (a b : CallFn) : CallFn := fun t args H ro => match a t args H ro with | some r => some r | none => b t args H ro
section
variable {P : Program} {gl : List Nat} {H : Hp} {ro : Nat}
theorem intsC_holds {σ : Env} : ∀ {l : List C} {is : List Int} {vs : List Value}, intsC l = some is → holdsC σ l vs → holdsC σ (is.map symC) vs
  | [], is, vs, h, hv => by injection h with h; subst h; exact hv
  | .b (.sym (.int .i64 a)) :: l, is, vs, h, ⟨v, r, e, h1, h2⟩ => by
    simp only [intsC] at h
    split at h
    · rename_i r' hr
      injection h with h
      subst h
      exact ⟨v, r, e, h1, intsC_holds hr h2⟩
    · cases h
  | .b (.lit (.int .i64 a)) :: l, is, vs, h, ⟨v, r, e, h1, h2⟩ => by
    simp only [intsC] at h
    split at h
    · rename_i r' hr
      injection h with h
      subst h
      exact ⟨v, r, e, h1, intsC_holds hr h2⟩
    · cases h
theorem orC_ok {a b : CallFn} (ha : CallOk P gl a) (hb : CallOk P gl b) : CallOk P gl (orC a b) := fun t args H ro x H' h => by
  unfold orC at h
  split at h
  · rename_i r hr
    rw [h] at hr
    exact ha t args H ro x H' hr
  · exact hb t args H ro x H' h
/-- A call that reads one block, whatever is known of it. -/
theorem CallAt.readB {f : FuncId} {b b' : Blk} (k : Nat) {args args' : List V} {R : V → Prop} (h : CallAt P [] (.fn f) args [b] 1 (fun x _ => R x ∧ plainV x = true)) (hb : plainK b = true) (h0 : H[k]? = some b') (hl : b'.live = true) (hbb : ∀ σ w, b'.holds σ k w → b.holds σ k w)
    (ha : ∀ σ vs, holdsV σ args' vs → holdsV (fun j => if j = 0 then σ k else none) args vs) : CallAt P gl (.fn f) args' H ro (fun x H' => R x ∧ H' = H) := by
  intro σ w vs hro hm hgl hv
  have l0 : live H k := ⟨b', h0, hl⟩
  have ht : ∀ j x, (fun j => if j = 0 then σ k else none : Env) j = some x → j = 0 ∧ σ k = some x := fun j x e => by
    by_cases hj : j = 0
    · subst hj; exact ⟨rfl, by simpa using e⟩
    · simp [hj] at e
  have hR : HRep (fun j => if j = 0 then σ k else none) [b] w := by
    refine ⟨fun j b' hj => ?_, fun j j' g n n' h1 h2 _ _ => ?_, fun j g n h1 e => ?_, fun j x e => by rw [(ht j x e).1]; simp⟩
    · cases j with
      | zero => simp only [List.getElem?_cons_zero, Option.some.injEq] at hj; subst hj; exact plainK_any hb (by simp) (hbb _ _ (hm.blk k _ h0))
      | succ j => simp at hj
    · have := live_lt h1; have := live_lt h2; simp at *; omega
    · exact hm.lt k g n l0 (ht j _ e).2
  obtain ⟨h6, h7⟩ := h _ w vs (Nat.le_refl _) hR (fun k g e => by simp at e) (ha σ vs hv)
  refine ⟨h6, h7.mono ?_⟩
  rintro e w' ⟨u, e1, x, G, ⟨hx, hp⟩, υ, hlf, hxv⟩
  have hbel : Below w.heap.size w w' := (hlf.base.mono fun g ⟨k, n, h1, h2, _⟩ => by have := live_lt h2; simp at this; omega).below
  exact ⟨u, e1, x, H, ⟨hx, rfl⟩, σ, Left.below ro hm hbel, plainV_any hp hxv⟩
theorem tabL_ok {f0 : FuncId} {T0 : TypeId} {g : List Int → V} (h : ∀ l : List Int, l.length < 4611686018427387904 → CallAt P [] (.fn f0) [.f (.one (.b (.slc 0 0 l.length l.length)))] [.cells T0 (l.map symC)] 1 (fun x _ => x = g l ∧ plainV x = true)) : CallOk P gl (tabL f0 T0 g) := by
  intro t args H ro x H' hc σ w vs hro hm hgl ha
  unfold tabL at hc
  split at hc
  · rename_i f k n c
    split at hc
    · rename_i T l e1 e2
      split at hc
      · rename_i is e3 e4
        split at hc
        · rename_i e5
          rw [Bool.and_eq_true, Bool.and_eq_true] at e5
          have e7 := Nat.le_of_ble_eq_true e5.2
          obtain rfl := Nat.eq_of_beq_eq_true e1
          obtain rfl := Nat.eq_of_beq_eq_true e3
          obtain rfl := Nat.eq_of_beq_eq_true e5.1.1
          obtain rfl := Nat.eq_of_beq_eq_true e5.1.2
          simp only [Option.some.injEq, Prod.mk.injEq] at hc
          obtain ⟨rfl, rfl⟩ := hc
          obtain ⟨h1, h2⟩ := CallAt.readB (gl := gl) (ro := ro) k (h is (by omega)) (by simp [plainK, List.all_map, plainC, plainB]) e2 rfl (fun σ w ⟨g, cs, a1, a2, a3⟩ => ⟨g, cs, a1, a2, intsC_holds e4 a3⟩) (args' := [.f (.one (.b (.slc k 0 is.length is.length)))]) (fun σ vs ⟨v, r, e, ⟨g, N, e1, e2⟩, hr⟩ => ⟨v, r, e, ⟨g, N, by simpa using e1, e2⟩, hr⟩) σ w vs hro hm hgl ha
          refine ⟨h1, h2.mono ?_⟩
          rintro e w' ⟨v, e6, z, G, ⟨hz, hG⟩, hy⟩
          exact ⟨v, e6, by rw [hz, hG] at hy; exact hy⟩
        · cases hc
      · cases hc
    · cases hc
  · cases hc
end
noncomputable def dOps (c : Cf) : Array Oper := match drawnS c with | some (o, _) => o | none => #[]
noncomputable def dC (c : Cf) : Cf := match drawnS c with | some (_, c') => c' | none => c
section
variable {P : Program} {gl : List Nat} {fz : FuncId} {oz : Option Nat} {c : Cf} {Q : Cf → Prop} {cf : CallFn} {H : Hp}
theorem Reach.drawn1 (hmix : P.follows .mixedOrders = true) {imp : FuncId → Bool} (hC : CallOk P gl cf) (h1 : (drawnS c).isSome = true) (hty : tyZ (dOps c) (dC c).2.zs.n = true)
    (h : DrOk P gl cf imp (dOps c) (dC c).2.zh.length ((dOps c).toList, (dC c).2, []) (fun s' ks => (upZ ks s'.zh.length && ((ks.all fun k => mild k.1) || pairsZ (closZ (dOps c).toList) ks)) = true ∧ Reach P gl fz oz ((dC c).1, s') Q)) : Reach P gl fz oz c Q := by
  unfold dOps dC at *
  cases e : drawnS c with
  | none => rw [e] at h1; cases h1
  | some r => rw [e] at h hty; exact Reach.drawn hmix hC e hty h
/-- What was there before other blocks. -/
theorem HRep.pre {σ : Env} {w : World} {G : Hp} (hm : HRep σ (H ++ G) w) (hu : H.all (underK H.length) = true) : HRep (σ.cut H.length) H w := by
  have hlv : ∀ {j : Nat}, live H j → live (H ++ G) j := fun ⟨b, h1, h2⟩ => ⟨b, by rw [List.getElem?_append_left (List.getElem?_eq_some_iff.1 h1).1]; exact h1, h2⟩
  refine ⟨fun k b hk => ?_, fun k k' g n n' h1 h2 e1 e2 => ?_, fun k g n h1 e1 => ?_, fun k x e => (cut_some e).1⟩
  · have hlt := (List.getElem?_eq_some_iff.1 hk).1
    rw [List.all_eq_true] at hu
    exact Blk.cut hlt (underK_ok (hu b (List.mem_iff_getElem?.2 ⟨k, hk⟩))) (hm.blk k b (by rw [List.getElem?_append_left hlt]; exact hk))
  · exact hm.inj k k' g n n' (hlv h1) (hlv h2) (cut_some e1).2 (cut_some e2).2
  · exact hm.lt k g n (hlv h1) (cut_some e1).2
end

abbrev slyI (k n : Nat) : V := .f (.one (.b (.sly k 0 n n)))
abbrev royI (k n : Nat) : V := .f (.one (.b (.roy k 0 n 1)))
/-- The error of a list of sizes. -/
def chkE : List Int → Int
  | [] => 0
  | a :: l => or2 (sizeE a) (chkE l)
/-- The first number of a list that isn't 0. -/
def firstE : List Int → Int
  | [] => 0
  | a :: l => or2 a (firstE l)
noncomputable def chI0 : Cf := intoLoop (runL Tryz.prog [] nimp noCall 8 none 2000 (startS Tryz.prog 8 [.f (.one (.b (.slc 0 0 1 1)))] [.cells 3 [sI 0]] 1))
noncomputable def headCh (l : List Int) (i : Int) : Cf := atC chI0.1 22 [(0, slyI 0 l.length), (3, symI i)] [.cells 3 (l.map sI)] 1
theorem size3 {a : Int} (h : a < 1 ∨ 10000 < a) : sizeE a = 3 := by unfold sizeE rangeE; rw [if_pos h]
theorem size0 {a : Int} (h : ¬ a < 1) (h' : ¬ a > 10000) : sizeE a = 0 := by unfold sizeE rangeE; rw [if_neg (by omega)]
theorem chk_loop (l : List Int) : ∀ (m i : Nat), l.length - i ≤ m → i ≤ l.length → l.length < 4611686018427387904 →
    Reach Tryz.prog [] 8 none (headCh l i) (Ends Tryz.prog 8 (fun x _ => x = symI (chkE (l.drop i)) ∧ plainV x = true)) := by
  intro m
  induction m with
  | zero =>
    intro i hm hi hl
    have : i = l.length := by omega
    subst this
    refine goL (Reach.len1 (n := l.length) (by kernel_rfl) (goL ?_))
    refine Reach.bool 7 (t := decide ((l.length : Int) < l.length)) false (decide_eq_false (Int.lt_irrefl _)) (by kernel_rfl) (go ?_)
    refine Reach.lit 2 (u := .int .i64 0) (by kernel_rfl) ?_
    exact Reach.finV (symI 0) (by kernel_rfl) fun _ => ⟨by rw [List.drop_length]; rfl, rfl⟩
  | succ m ih =>
    intro i hm hi hl
    refine goL (Reach.len1 (n := l.length) (by kernel_rfl) (goL ?_))
    by_cases h : i < l.length
    · have hd : l.drop i = l[i] :: l.drop (i + 1) := List.drop_eq_getElem_cons h
      refine Reach.bool 7 true (decide_eq_true (Int.ofNat_lt.2 h)) (by kernel_rfl) (goL ?_)
      refine Reach.idx (k := 0) (off := 0) (n := l.length) (i := i) (m := 1) (by kernel_rfl) (Int.natCast_nonneg i) (Int.ofNat_lt.2 h) (goL ?_)
      refine Reach.ld1 (k := 0) (off := 0 + (i : Int).toNat * 1) (l := l.map sI) (d := sI l[i]) (by kernel_rfl) (by kernel_rfl) (by simp [h]) (goL ?_)
      by_cases h1 : l[i] < 1
      · refine Reach.bool 15 (t := decide (l[i] < 1)) true (decide_eq_true h1) (by kernel_rfl) (go ?_)
        refine Reach.lit 2 (u := .int .i64 3) (by kernel_rfl) ?_
        exact Reach.finV (symI 3) (by kernel_rfl) fun _ => ⟨by rw [hd, chkE, size3 (.inl h1)]; rfl, rfl⟩
      · refine Reach.bool 15 (t := decide (l[i] < 1)) false (decide_eq_false h1) (by kernel_rfl) (goL ?_)
        refine Reach.idx (k := 0) (off := 0) (n := l.length) (i := i) (m := 1) (by kernel_rfl) (Int.natCast_nonneg i) (Int.ofNat_lt.2 h) (goL ?_)
        refine Reach.ld1 (k := 0) (off := 0 + (i : Int).toNat * 1) (l := l.map sI) (d := sI l[i]) (by kernel_rfl) (by kernel_rfl) (by simp [h]) (goL ?_)
        by_cases h2 : l[i] > 10000
        · refine Reach.bool 21 (t := decide (l[i] > 10000)) true (decide_eq_true h2) (by kernel_rfl) (go ?_)
          refine Reach.lit 2 (u := .int .i64 3) (by kernel_rfl) ?_
          exact Reach.finV (symI 3) (by kernel_rfl) fun _ => ⟨by rw [hd, chkE, size3 (.inr h2)]; rfl, rfl⟩
        · refine Reach.bool 21 (t := decide (l[i] > 10000)) false (decide_eq_false h2) (by kernel_rfl) (goL ?_)
          refine Reach.int 3 ((i + 1 : Nat) : Int) (W64_id (by omega) (by omega)) (by kernel_rfl) (Reach.into ?_)
          refine Reach.keep [0, 3] (Reach.cast (c' := headCh l (i + 1 : Nat)) (by kernel_rfl) ?_)
          have := ih (i + 1) (by omega) (by omega) hl
          rw [hd, chkE, size0 h1 h2]
          exact this
    · have : i = l.length := by omega
      subst this
      refine Reach.bool 7 (t := decide ((l.length : Int) < l.length)) false (decide_eq_false (Int.lt_irrefl _)) (by kernel_rfl) (go ?_)
      refine Reach.lit 2 (u := .int .i64 0) (by kernel_rfl) ?_
      exact Reach.finV (symI 0) (by kernel_rfl) fun _ => ⟨by rw [List.drop_length]; rfl, rfl⟩
theorem chk_at (l : List Int) (hl : l.length < 4611686018427387904) : CallAt Tryz.prog [] (.fn 8) [.f (.one (.b (.slc 0 0 l.length l.length)))] [.cells 3 (l.map sI)] 1 (fun x _ => x = symI (chkE l) ∧ plainV x = true) := by
  refine CallAt.args (args := [slyI 0 l.length]) ?_ fun σ vs h => h
  refine call_of_reach entersP (by kernel_rfl) (goL (Reach.into ?_))
  refine Reach.lit 3 (u := .int .i64 0) (by kernel_rfl) ?_
  refine Reach.keep [0, 3] (Reach.cast (c' := headCh l (0 : Nat)) (by kernel_rfl) ?_)
  exact chk_loop l l.length 0 (by omega) (by omega) hl
noncomputable def fiI0 : Cf := intoLoop (runL Tryz.prog [] nimp noCall 7 none 2000 (startS Tryz.prog 7 [.f (.one (.b (.slc 0 0 1 1)))] [.cells 3 [sI 0]] 1))
noncomputable def headFi (l : List Int) (i : Int) : Cf := atC fiI0.1 19 [(0, slyI 0 l.length), (3, symI i)] [.cells 3 (l.map sI)] 1
theorem first_loop (l : List Int) : ∀ (m i : Nat), l.length - i ≤ m → i ≤ l.length → l.length < 4611686018427387904 →
    Reach Tryz.prog [] 7 none (headFi l i) (Ends Tryz.prog 7 (fun x _ => x = symI (firstE (l.drop i)) ∧ plainV x = true)) := by
  intro m
  induction m with
  | zero =>
    intro i hm hi hl
    have : i = l.length := by omega
    subst this
    refine goL (Reach.len1 (n := l.length) (by kernel_rfl) (goL ?_))
    refine Reach.bool 7 (t := decide ((l.length : Int) < l.length)) false (decide_eq_false (Int.lt_irrefl _)) (by kernel_rfl) (go ?_)
    refine Reach.lit 2 (u := .int .i64 0) (by kernel_rfl) ?_
    exact Reach.finV (symI 0) (by kernel_rfl) fun _ => ⟨by rw [List.drop_length]; rfl, rfl⟩
  | succ m ih =>
    intro i hm hi hl
    refine goL (Reach.len1 (n := l.length) (by kernel_rfl) (goL ?_))
    by_cases h : i < l.length
    · have hd : l.drop i = l[i] :: l.drop (i + 1) := List.drop_eq_getElem_cons h
      refine Reach.bool 7 true (decide_eq_true (Int.ofNat_lt.2 h)) (by kernel_rfl) (goL ?_)
      refine Reach.idx (k := 0) (off := 0) (n := l.length) (i := i) (m := 1) (by kernel_rfl) (Int.natCast_nonneg i) (Int.ofNat_lt.2 h) (goL ?_)
      refine Reach.ld1 (k := 0) (off := 0 + (i : Int).toNat * 1) (l := l.map sI) (d := sI l[i]) (by kernel_rfl) (by kernel_rfl) (by simp [h]) (goL ?_)
      by_cases h1 : l[i] = 0
      · refine Reach.bool 14 (t := l[i] != 0) false (bne_f h1) (by kernel_rfl) (goL ?_)
        refine Reach.int 3 ((i + 1 : Nat) : Int) (W64_id (by omega) (by omega)) (by kernel_rfl) (Reach.into ?_)
        refine Reach.keep [0, 3] (Reach.cast (c' := headFi l (i + 1 : Nat)) (by kernel_rfl) ?_)
        have := ih (i + 1) (by omega) (by omega) hl
        rw [hd, firstE, h1]
        exact this
      · refine Reach.bool 14 (t := l[i] != 0) true (bne_t h1) (by kernel_rfl) (goL ?_)
        refine Reach.idx (k := 0) (off := 0) (n := l.length) (i := i) (m := 1) (by kernel_rfl) (Int.natCast_nonneg i) (Int.ofNat_lt.2 h) (goL ?_)
        refine Reach.ld1 (k := 0) (off := 0 + (i : Int).toNat * 1) (l := l.map sI) (d := sI l[i]) (by kernel_rfl) (by kernel_rfl) (by simp [h]) (go ?_)
        exact Reach.finV (symI l[i]) (by kernel_rfl) fun _ => ⟨by rw [hd, firstE, or2, if_neg h1], rfl⟩
    · have : i = l.length := by omega
      subst this
      refine Reach.bool 7 (t := decide ((l.length : Int) < l.length)) false (decide_eq_false (Int.lt_irrefl _)) (by kernel_rfl) (go ?_)
      refine Reach.lit 2 (u := .int .i64 0) (by kernel_rfl) ?_
      exact Reach.finV (symI 0) (by kernel_rfl) fun _ => ⟨by rw [List.drop_length]; rfl, rfl⟩
theorem first_at (l : List Int) (hl : l.length < 4611686018427387904) : CallAt Tryz.prog [] (.fn 7) [.f (.one (.b (.slc 0 0 l.length l.length)))] [.cells 3 (l.map sI)] 1 (fun x _ => x = symI (firstE l) ∧ plainV x = true) := by
  refine CallAt.args (args := [slyI 0 l.length]) ?_ fun σ vs h => h
  refine call_of_reach entersP (by kernel_rfl) (goL (Reach.into ?_))
  refine Reach.lit 3 (u := .int .i64 0) (by kernel_rfl) ?_
  refine Reach.keep [0, 3] (Reach.cast (c' := headFi l (0 : Nat)) (by kernel_rfl) ?_)
  exact first_loop l l.length 0 (by omega) (by omega) hl
/-- Two lists with the same numbers. -/
noncomputable def siI0 : Cf := intoLoop (runL Tryz.prog [] nimp noCall 13 none 2000 (startS Tryz.prog 13 [.f (.one (.b (.slc 0 0 1 1))), .f (.one (.b (.row 1 0 1 1)))] [.cells 3 [sI 0], .row 3 [sI 0]] 2))
noncomputable def headSi (l : List Int) (i : Int) : Cf := atC siI0.1 26 [(0, slyI 0 l.length), (1, royI 1 l.length), (5, symI i)] [.cells 3 (l.map sI), .row 3 (l.map sI)] 2
theorem same_loop (l : List Int) : ∀ (m i : Nat), l.length - i ≤ m → i ≤ l.length → l.length < 4611686018427387904 →
    Reach Tryz.prog [] 13 none (headSi l i) (Ends Tryz.prog 13 (fun x _ => x = lv (.bool true) ∧ plainV x = true)) := by
  intro m
  induction m with
  | zero =>
    intro i hm hi hl
    have : i = l.length := by omega
    subst this
    refine goL (Reach.len1 (n := l.length) (by kernel_rfl) (goL ?_))
    refine Reach.bool 14 (t := decide ((l.length : Int) < l.length)) false (decide_eq_false (Int.lt_irrefl _)) (by kernel_rfl) (go ?_)
    exact Reach.finV (lv (.bool true)) (by kernel_rfl) fun _ => ⟨rfl, rfl⟩
  | succ m ih =>
    intro i hm hi hl
    refine goL (Reach.len1 (n := l.length) (by kernel_rfl) (goL ?_))
    by_cases h : i < l.length
    · refine Reach.bool 14 true (decide_eq_true (Int.ofNat_lt.2 h)) (by kernel_rfl) (goL ?_)
      refine Reach.open' 0 (x := slyI 0 l.length) (.f (.one (.b (.slc 0 0 l.length l.length)))) (by kernel_rfl) (fun σ v h => h) ?_
      refine Reach.open' 1 (x := royI 1 l.length) (.f (.one (.b (.row 1 0 l.length 1)))) (by kernel_rfl) (fun σ v h => h) ?_
      refine Reach.unsym 5 (u := .int .i64 i) (by kernel_rfl) ?_
      refine Reach.drawn1 mixP (imp := nimp) noCall_ok (by kernel_rfl) (by kernel_rfl) (DrOk.run 2 ?_)
      refine DrOk.idx (k := 0) (off := 0) (n := l.length) (i := i) (m := 1) (by kernel_rfl) (Int.natCast_nonneg i) (Int.ofNat_lt.2 h) ?_
      refine DrOk.ld (k := 0) (off := 0 + (i : Int).toNat * 1) (l := l.map sI) (x := sI l[i]) (by kernel_rfl) (by kernel_rfl) (by simp [h]) (DrOk.run 2 ?_)
      refine DrOk.idx (k := 1) (off := 0) (n := l.length) (i := i) (m := 1) (by kernel_rfl) (Int.natCast_nonneg i) (Int.ofNat_lt.2 h) ?_
      refine DrOk.ld (k := 1) (off := 0 + (i : Int).toNat * 1) (l := l.map sI) (x := sI l[i]) (by kernel_rfl) (by kernel_rfl) (by simp [h]) (DrOk.run 1 ?_)
      refine DrOk.fin (by kernel_rfl) ⟨by kernel_rfl, ?_⟩
      refine Reach.bool 25 (t := l[i] != l[i]) false (by simp) (by kernel_rfl) ?_
      refine Reach.open' 0 (x := .f (.one (.b (.slc 0 0 l.length l.length)))) (slyI 0 l.length) (by kernel_rfl) (fun σ v h => h) ?_
      refine Reach.open' 1 (x := .f (.one (.b (.row 1 0 l.length 1)))) (royI 1 l.length) (by kernel_rfl) (fun σ v h => h) ?_
      refine Reach.lit 5 (u := .int .i64 i) (by kernel_rfl) (goL ?_)
      refine Reach.int 5 ((i + 1 : Nat) : Int) (W64_id (by omega) (by omega)) (by kernel_rfl) (Reach.into ?_)
      refine Reach.keep [0, 1, 5] (Reach.cast (c' := headSi l (i + 1 : Nat)) (by kernel_rfl) ?_)
      exact ih (i + 1) (by omega) (by omega) hl
    · have : i = l.length := by omega
      subst this
      refine Reach.bool 14 (t := decide ((l.length : Int) < l.length)) false (decide_eq_false (Int.lt_irrefl _)) (by kernel_rfl) (go ?_)
      exact Reach.finV (lv (.bool true)) (by kernel_rfl) fun _ => ⟨rfl, rfl⟩
theorem same_at (l : List Int) (hl : l.length < 4611686018427387904) : CallAt Tryz.prog [] (.fn 13) [slyI 0 l.length, royI 1 l.length] [.cells 3 (l.map sI), .row 3 (l.map sI)] 2 (fun x _ => x = lv (.bool true) ∧ plainV x = true) := by
  refine call_of_reach entersP (by kernel_rfl) (goL ?_)
  refine Reach.len1 (n := l.length) (by kernel_rfl) (goL ?_)
  refine Reach.len1 (n := l.length) (by kernel_rfl) (goL ?_)
  refine Reach.bool 10 (t := (l.length : Int) != l.length) false (by simp) (by kernel_rfl) (goL (Reach.into ?_))
  refine Reach.lit 5 (u := .int .i64 0) (by kernel_rfl) ?_
  refine Reach.keep [0, 1, 5] (Reach.cast (c' := headSi l (0 : Nat)) (by kernel_rfl) ?_)
  exact same_loop l l.length 0 (by omega) (by omega) hl
theorem whenL_any (b : Bool) (e : Int) : PureAt Tryz.prog 9 [symB b, symI e] (· = symI (if b = true then e else 0)) := by
  refine pure_of_call (call_of_reach entersP (by kernel_rfl) (go ?_))
  cases b with
  | true =>
    refine Reach.bool 5 true rfl (by kernel_rfl) (go ?_)
    exact Reach.finV (symI e) (by kernel_rfl) fun _ => ⟨rfl, rfl⟩
  | false =>
    refine Reach.bool 5 false rfl (by kernel_rfl) (go ?_)
    refine Reach.lit 4 (u := .int .i64 0) (by kernel_rfl) ?_
    exact Reach.finV (symI 0) (by kernel_rfl) fun _ => ⟨rfl, rfl⟩
theorem enters_has' {f : FuncId} {n : Nat} (h : hasB Tryz.prog f n = true) (args : Array Value) (w : World) : (callFunc f args).run Tryz.prog w = .ok (.enter f args) w := by
  unfold hasB at h
  split at h
  · rename_i fn hf
    rw [Bool.and_eq_true] at h
    obtain ⟨c, hb⟩ := Option.isSome_iff_exists.1 h.1
    exact enters_of entersP hf hb args w
  · cases h
/-- awake, whatever else there is. -/
theorem awakeG_at (G : Hp) (ro : Nat) : CallAt Tryz.prog gN (.fn 4) [] (h0 ++ G) ro (fun x H' => x = lv (.bool true) ∧ H' = h0 ++ G) := by
  intro σ w vs hro hm hgl ha
  rw [show vs = [] from ha]
  have hm' := HRep.pre hm (by kernel_rfl)
  have hgl' : GlOk gN (σ.cut h0.length) := fun k g e => by
    obtain ⟨n, e2⟩ := hgl k g e
    refine ⟨n, ?_⟩
    have : k < gN.length := (List.getElem?_eq_some_iff.1 e).1
    rw [cut_of (Nat.lt_of_lt_of_le this (by decide))]
    exact e2
  refine ⟨enters_has' (n := 0) (by kernel_rfl), (awake_run hm' hgl').mono ?_⟩
  rintro e w' ⟨rfl, hb⟩
  exact ⟨_, rfl, _, _, ⟨rfl, rfl⟩, σ, Left.below ro hm hb, rfl, rfl⟩

/-- A table of when. -/
def tabW (f0 : FuncId) : PureFn := fun f args => match Nat.beq f f0 with
  | true => (match args with | [.f (.one (.b (.sym (.bool b)))), .f (.one (.b (.sym (.int .i64 e))))] => some (symI (if b = true then e else 0)) | _ => none)
  | false => none
theorem tabW_ok : TabOk Tryz.prog (tabW 9) := fun f args x ht => by
  unfold tabW at ht
  split at ht
  · rename_i hf
    obtain rfl := Nat.eq_of_beq_eq_true hf
    split at ht
    · injection ht with ht
      subst ht
      exact whenL_any _ _
    · cases ht
  · cases ht
def tB : PureFn := orT (tab3 6 fun d t k => .tup [.one (sI (bestV d t k).1), .one (sI (bestV d t k).2)]) (tabW 9)
theorem tB_ok : TabOk Tryz.prog tB := orT_ok (tab3_ok nBest_any) tabW_ok
def cfB : CallFn := orC (pureCall fun f args => tB f (args.map symV1)) (orC (tabL 8 3 fun l => symI (chkE l)) (tabL 7 3 fun l => symI (firstE l)))
theorem cfB_ok {gl : List Nat} : CallOk Tryz.prog gl cfB := orC_ok (pureCall_ok (pureOk_of tB_ok)) (orC_ok (tabL_ok chk_at) (tabL_ok first_at))
abbrev gq {gl : List Nat} {fz : FuncId} {oz : Option Nat} {c : Cf} {Q : Cf → Prop} (h : Reach Tryz.prog gl fz oz (runS Tryz.prog gl nimp cfB fz oz 2000 c) Q) : Reach Tryz.prog gl fz oz c Q := Reach.run mixP cfB_ok 2000 h
/-- A test, said otherwise. -/
theorem Reach.sameB {P : Program} {gl : List Nat} {fz : FuncId} {oz : Option Nat} {c : Cf} {Q : Cf → Prop} (d : Tmp) {t : Bool} (t' : Bool) (ht : t = t') (e : c.2.zs.get d = symB t) (h : Reach P gl fz oz (knowS d (symB t') c) Q) : Reach P gl fz oz c Q :=
  Reach.know d _ (fun σ v hv => by rw [e] at hv; rw [← ht]; exact hv) h
/-- A block of which nothing is known any more. -/
theorem Reach.kill {P : Program} {gl : List Nat} {fz : FuncId} {oz : Option Nat} {c : Cf} {Q : Cf → Prop} (k : Nat) (hro : Nat.ble c.2.zr k = true) (hk : (c.2.zh[k]?).isSome = true) (h : Reach P gl fz oz (heapS (c.2.zh.set k .dead) c) Q) : Reach P gl fz oz c Q := by
  obtain ⟨b, hb⟩ := Option.isSome_iff_exists.1 hk
  exact Reach.block (Nat.le_of_ble_eq_true hro) hb (b' := .dead) (fun _ _ _ => trivial) (fun h => by cases h) h
abbrev fLaw : FuncId := 3
abbrev lawB : V → Hp → Prop := fun x _ => x = lv (.bool true) ∧ plainV x = true
def boxB (D T : Int) (K : C) : Blk := .cells 23 [sI D, sI T, K]
abbrev nilV : V := lv (.slice none 0 0)
section
variable (D T K n : Int)
noncomputable abbrev runB (c : Cf) : Cf := runS Tryz.prog gN nimp cfB fLaw none 2000 c
/-- The call of nest.Boards. -/
noncomputable def lawC : Cf := keepS [1, 2, 28, 30, 32, 33] (runB (knowS 19 (lv (.bool false)) (runB (afterCall (runB (startS Tryz.prog fLaw [.f (.agg [sI D, sI T, sI K]), symI n] h0 1)) (lv (.bool true)) (h0 ++ [boxB D T (sI K)])))))
theorem law_top (hm : ¬ (D > 120 ∧ D ≤ 10000) → Reach Tryz.prog gN fLaw none (lawC D T K n) (Ends Tryz.prog fLaw lawB)) : CallAt Tryz.prog gN (.fn fLaw) [.f (.agg [sI D, sI T, sI K]), symI n] h0 1 lawB := by
  refine call_of_reach entersP (by kernel_rfl) (gq ?_)
  refine Reach.callH (awakeG_at [boxB D T (sI K)] 1) (by kernel_rfl) (by kernel_rfl) (by kernel_rfl) (gq ?_)
  by_cases h1 : D > 120
  · refine Reach.bool 19 (t := decide (D > 120)) true (decide_eq_true h1) (by kernel_rfl) (gq ?_)
    by_cases h2 : D ≤ 10000
    · refine Reach.bool 24 (t := decide (D ≤ 10000)) true (decide_eq_true h2) (by kernel_rfl) (gq ?_)
      refine Reach.callH (awakeG_at [boxB D T (sI K)] 1) (by kernel_rfl) (by kernel_rfl) (by kernel_rfl) (gq ?_)
      exact Reach.finV (lv (.bool true)) (by kernel_rfl) fun _ => ⟨rfl, rfl⟩
    · refine Reach.bool 24 (t := decide (D ≤ 10000)) false (decide_eq_false h2) (by kernel_rfl) (gq ?_)
      exact Reach.keep [1, 2, 28, 30, 32, 33] (Reach.cast (c' := lawC D T K n) (by kernel_rfl) (hm fun h => h2 h.2))
  · refine Reach.bool 19 (t := decide (D > 120)) false (decide_eq_false h1) (by kernel_rfl) (gq ?_)
    exact Reach.keep [1, 2, 28, 30, 32, 33] (Reach.cast (c' := lawC D T K n) (by kernel_rfl) (hm fun h => h1 h.1))
/-- The error that both find. -/
def badE : Int := or2 (or2 (sizeE D) (sizeE T)) (rangeE K 0 10000)
theorem bad_first (b : Bool) (hb : b = true ↔ (K < 0 ∨ 10000 < K)) : firstE [chkE [D, T], if b = true then 3 else 0] = badE D T K := by
  have e : (if b = true then (3 : Int) else 0) = rangeE K 0 10000 := by
    unfold rangeE
    by_cases h : K < 0 ∨ 10000 < K
    · rw [if_pos h, if_pos (hb.2 h)]
    · rw [if_neg h, if_neg (fun h' => h (hb.1 h'))]
  rw [e]
  have z : ∀ a : Int, or2 a 0 = a := fun a => by unfold or2; split <;> simp_all
  simp only [firstE, chkE, z, badE]
/-- Ahead of the search for an error. -/
noncomputable def preN (e : Int) : Cf := runB (afterCall (lawC D T K n) (.tup [.one (.b (.lit (.slice none 0 0))), .one (sI e)]) (h0 ++ [boxB D T (sI K)]))
noncomputable def badN0 : List Item := (runB (heapS (h0 ++ [boxB 1 1 (zn 0)]) (preN 1 1 0 1 0))).1
/-- The error is found. -/
noncomputable def badN (e : Int) : Cf := atC badN0 135 [(1, symI n), (2, .f (.one (.b (.ptr 1 0)))), (5, nilV), (6, symI e), (7, symI (bestV D T K).1), (8, symI (bestV D T K).2), (9, symI (badE D T K)), (65, symB (badE D T K != 0))] (h0 ++ [boxB D T (sI K), .dead, .dead]) 1
theorem findN (e : Int) {Q : Cf → Prop} (h : Reach Tryz.prog gN fLaw none (badN D T K n e) Q) : Reach Tryz.prog gN fLaw none (preN D T K n e) Q := by
  rcases K with m | m
  · have hb := bad_first D T (Int.ofNat m) (decide (Int.ofNat m > 10000)) (by simp only [decide_eq_true_eq, Int.ofNat_eq_natCast]; omega)
    refine Reach.block (k := 1) (b := boxB D T (sI (Int.ofNat m))) (b' := boxB D T (lc (.int .i64 (Int.ofNat m)))) (Nat.le_of_ble_eq_true (by kernel_rfl)) (by kernel_rfl) (fun σ w h => h) (fun _ => rfl) (gq ?_)
    refine Reach.int 9 (badE D T (Int.ofNat m)) hb (by kernel_rfl) ?_
    refine Reach.sameB 65 (badE D T (Int.ofNat m) != 0) (by rw [← hb]) (by kernel_rfl) ?_
    refine Reach.block (k := 1) (b := boxB D T (lc (.int .i64 (Int.ofNat m)))) (b' := boxB D T (sI (Int.ofNat m))) (Nat.le_of_ble_eq_true (by kernel_rfl)) (by kernel_rfl) (fun σ w h => h) (fun _ => rfl) ?_
    refine Reach.kill 2 (by kernel_rfl) (by kernel_rfl) (Reach.kill 3 (by kernel_rfl) (by kernel_rfl) ?_)
    exact Reach.keep [1, 2, 5, 6, 7, 8, 9, 65] (Reach.cast (by kernel_rfl) h)
  · cases m with
    | zero =>
      have hb := bad_first D T (Int.negSucc 0) true (by simp)
      refine Reach.block (k := 1) (b := boxB D T (sI (Int.negSucc 0))) (b' := boxB D T (lc (.int .i64 (Int.negSucc 0)))) (Nat.le_of_ble_eq_true (by kernel_rfl)) (by kernel_rfl) (fun σ w h => h) (fun _ => rfl) (gq ?_)
      refine Reach.int 9 (badE D T (Int.negSucc 0)) hb (by kernel_rfl) ?_
      refine Reach.sameB 65 (badE D T (Int.negSucc 0) != 0) (by rw [← hb]) (by kernel_rfl) ?_
      refine Reach.block (k := 1) (b := boxB D T (lc (.int .i64 (Int.negSucc 0)))) (b' := boxB D T (sI (Int.negSucc 0))) (Nat.le_of_ble_eq_true (by kernel_rfl)) (by kernel_rfl) (fun σ w h => h) (fun _ => rfl) ?_
      refine Reach.kill 2 (by kernel_rfl) (by kernel_rfl) (Reach.kill 3 (by kernel_rfl) (by kernel_rfl) ?_)
      exact Reach.keep [1, 2, 5, 6, 7, 8, 9, 65] (Reach.cast (by kernel_rfl) h)
    | succ m =>
      have hb := bad_first D T (Int.negSucc (m + 1)) true (by simp only [true_iff]; omega)
      refine Reach.block (k := 1) (b := boxB D T (sI (Int.negSucc (m + 1)))) (b' := boxB D T (lc (.int .i64 (Int.negSucc (m + 1))))) (Nat.le_of_ble_eq_true (by kernel_rfl)) (by kernel_rfl) (fun σ w h => h) (fun _ => rfl) (gq ?_)
      refine Reach.int 9 (badE D T (Int.negSucc (m + 1))) hb (by kernel_rfl) ?_
      refine Reach.sameB 65 (badE D T (Int.negSucc (m + 1)) != 0) (by rw [← hb]) (by kernel_rfl) ?_
      refine Reach.block (k := 1) (b := boxB D T (lc (.int .i64 (Int.negSucc (m + 1))))) (b' := boxB D T (sI (Int.negSucc (m + 1)))) (Nat.le_of_ble_eq_true (by kernel_rfl)) (by kernel_rfl) (fun σ w h => h) (fun _ => rfl) ?_
      refine Reach.kill 2 (by kernel_rfl) (by kernel_rfl) (Reach.kill 3 (by kernel_rfl) (by kernel_rfl) ?_)
      exact Reach.keep [1, 2, 5, 6, 7, 8, 9, 65] (Reach.cast (by kernel_rfl) h)
/-- Ahead of the search for an error. -/
noncomputable def preL (e : Int) (b1 b2 : Blk) : Cf := runB (afterCall (lawC D T K n) (.tup [.one (.b (.sly 3 0 n.toNat n.toNat)), .one (sI e)]) (h0 ++ [boxB D T (sI K), b1, b2]))
noncomputable def badL0 : List Item := (runB (heapS (h0 ++ [boxB 1 1 (zn 0), .dead, .dead]) (preL 1 1 0 1 0 .dead .dead))).1
/-- The error is found. -/
noncomputable def badL (e : Int) (b1 b2 : Blk) : Cf := atC badL0 135 [(1, symI n), (2, .f (.one (.b (.ptr 1 0)))), (5, (slyI 3 n.toNat)), (6, symI e), (7, symI (bestV D T K).1), (8, symI (bestV D T K).2), (9, symI (badE D T K)), (65, symB (badE D T K != 0))] (h0 ++ [boxB D T (sI K), b1, b2, .dead, .dead]) 1
theorem findL (e : Int) (b1 b2 : Blk) {Q : Cf → Prop} (h : Reach Tryz.prog gN fLaw none (badL D T K n e b1 b2) Q) : Reach Tryz.prog gN fLaw none (preL D T K n e b1 b2) Q := by
  rcases K with m | m
  · have hb := bad_first D T (Int.ofNat m) (decide (Int.ofNat m > 10000)) (by simp only [decide_eq_true_eq, Int.ofNat_eq_natCast]; omega)
    refine Reach.block (k := 1) (b := boxB D T (sI (Int.ofNat m))) (b' := boxB D T (lc (.int .i64 (Int.ofNat m)))) (Nat.le_of_ble_eq_true (by kernel_rfl)) (by kernel_rfl) (fun σ w h => h) (fun _ => rfl) (gq ?_)
    refine Reach.int 9 (badE D T (Int.ofNat m)) hb (by kernel_rfl) ?_
    refine Reach.sameB 65 (badE D T (Int.ofNat m) != 0) (by rw [← hb]) (by kernel_rfl) ?_
    refine Reach.block (k := 1) (b := boxB D T (lc (.int .i64 (Int.ofNat m)))) (b' := boxB D T (sI (Int.ofNat m))) (Nat.le_of_ble_eq_true (by kernel_rfl)) (by kernel_rfl) (fun σ w h => h) (fun _ => rfl) ?_
    refine Reach.kill 4 (by kernel_rfl) (by kernel_rfl) (Reach.kill 5 (by kernel_rfl) (by kernel_rfl) ?_)
    exact Reach.keep [1, 2, 5, 6, 7, 8, 9, 65] (Reach.cast (by kernel_rfl) h)
  · cases m with
    | zero =>
      have hb := bad_first D T (Int.negSucc 0) true (by simp)
      refine Reach.block (k := 1) (b := boxB D T (sI (Int.negSucc 0))) (b' := boxB D T (lc (.int .i64 (Int.negSucc 0)))) (Nat.le_of_ble_eq_true (by kernel_rfl)) (by kernel_rfl) (fun σ w h => h) (fun _ => rfl) (gq ?_)
      refine Reach.int 9 (badE D T (Int.negSucc 0)) hb (by kernel_rfl) ?_
      refine Reach.sameB 65 (badE D T (Int.negSucc 0) != 0) (by rw [← hb]) (by kernel_rfl) ?_
      refine Reach.block (k := 1) (b := boxB D T (lc (.int .i64 (Int.negSucc 0)))) (b' := boxB D T (sI (Int.negSucc 0))) (Nat.le_of_ble_eq_true (by kernel_rfl)) (by kernel_rfl) (fun σ w h => h) (fun _ => rfl) ?_
      refine Reach.kill 4 (by kernel_rfl) (by kernel_rfl) (Reach.kill 5 (by kernel_rfl) (by kernel_rfl) ?_)
      exact Reach.keep [1, 2, 5, 6, 7, 8, 9, 65] (Reach.cast (by kernel_rfl) h)
    | succ m =>
      have hb := bad_first D T (Int.negSucc (m + 1)) true (by simp only [true_iff]; omega)
      refine Reach.block (k := 1) (b := boxB D T (sI (Int.negSucc (m + 1)))) (b' := boxB D T (lc (.int .i64 (Int.negSucc (m + 1))))) (Nat.le_of_ble_eq_true (by kernel_rfl)) (by kernel_rfl) (fun σ w h => h) (fun _ => rfl) (gq ?_)
      refine Reach.int 9 (badE D T (Int.negSucc (m + 1))) hb (by kernel_rfl) ?_
      refine Reach.sameB 65 (badE D T (Int.negSucc (m + 1)) != 0) (by rw [← hb]) (by kernel_rfl) ?_
      refine Reach.block (k := 1) (b := boxB D T (lc (.int .i64 (Int.negSucc (m + 1))))) (b' := boxB D T (sI (Int.negSucc (m + 1)))) (Nat.le_of_ble_eq_true (by kernel_rfl)) (by kernel_rfl) (fun σ w h => h) (fun _ => rfl) ?_
      refine Reach.kill 4 (by kernel_rfl) (by kernel_rfl) (Reach.kill 5 (by kernel_rfl) (by kernel_rfl) ?_)
      exact Reach.keep [1, 2, 5, 6, 7, 8, 9, 65] (Reach.cast (by kernel_rfl) h)
end

section
variable (D T K n : Int)
theorem bad_three (h : ¬ badE D T K = 0) : or3 (sizeE D) (sizeE T) (rangeE K 0 10000) = badE D T K := by
  unfold badE or2 at *
  unfold or3 or2
  by_cases h1 : sizeE D = 0
  · rw [if_pos h1, if_pos h1]
  · rw [if_neg h1, if_neg h1, if_neg h1]
theorem bad_parts (h : badE D T K = 0) : sizeE D = 0 ∧ sizeE T = 0 ∧ rangeE K 0 10000 = 0 := by
  unfold badE or2 at h
  by_cases h1 : sizeE D = 0
  · rw [if_pos h1] at h
    by_cases h2 : sizeE T = 0
    · rw [if_pos h2] at h; exact ⟨h1, h2, h⟩
    · rw [if_neg h2] at h; exact absurd h h2
  · rw [if_neg h1, if_neg h1] at h; exact absurd h h1
theorem bad_best (h : ¬ badE D T K = 0) : bestV D T K = (0, badE D T K) := by
  unfold bestV
  rw [bad_three D T K h, if_neg h]
theorem tail_bad {e : Int} (hb : ¬ badE D T K = 0) (he : e = badE D T K) : Reach Tryz.prog gN fLaw none (badN D T K n e) (Ends Tryz.prog fLaw lawB) := by
  have hv := bad_best D T K hb
  refine Reach.bool 65 true (bne_t hb) (by kernel_rfl) (gq ?_)
  refine Reach.bool 74 (t := e == badE D T K) true (by simp [he]) (by kernel_rfl) (gq ?_)
  refine Reach.pure1 (by kernel_rfl) rfl (number_badL (h := (bestV D T K).1) (e := (bestV D T K).2) (b := badE D T K) 0 hb (by rw [hv]) (by rw [hv])) (gq ?_)
  exact Reach.finV (lv (.bool true)) (by kernel_rfl) fun _ => ⟨rfl, rfl⟩
section
variable (hb : badE D T K = 0)
include hb
theorem good_dom : 1 ≤ D ∧ D ≤ 10000 ∧ ∀ n, 1 ≤ n → n ≤ 64 → Dom T K n := by
  obtain ⟨h1, h2, h3⟩ := bad_parts D T K hb
  obtain ⟨a1, a2⟩ := range_in h1
  obtain ⟨b1, b2⟩ := range_in h2
  obtain ⟨c1, c2⟩ := range_in h3
  exact ⟨a1, a2, fun n h h' => ⟨b1, b2, c1, c2, h, h'⟩⟩
theorem good_number : PureAt Tryz.prog 10 [symI (bestV D T K).1, symI (bestV D T K).2, symI (if (bestF D T K 64 1 0 0 == 0) = true then 7 else 0), symI (bestF D T K 64 1 0 0)] (· = lv (.bool true)) := by
  obtain ⟨d1, d2, hD⟩ := good_dom D T K hb
  obtain ⟨h1, h2, h3⟩ := bad_parts D T K hb
  obtain ⟨g1, g2⟩ := best_top d1 d2 hD
  generalize bestF D T K 64 1 0 0 = B at *
  cases ht : topE D T K with
  | none =>
    have hv : bestV D T K = (0, 7) := by
      unfold bestV
      rw [h1, h2, h3, if_pos (show or3 0 0 0 = 0 from rfl), ht]
    have e := g1 ht
    rw [hv, e]
    simp only [beq_self_eq_true, if_true]
    exact number_bad (by decide) rfl rfl
  | some y =>
    have hv : bestV D T K = (y.1, 0) := by
      unfold bestV
      rw [h1, h2, h3, if_pos (show or3 0 0 0 = 0 from rfl), ht]
    obtain ⟨e1, e2⟩ := g2 y ht
    rw [hv, ← e1]
    have : (y.1 == 0) = false := by rw [beq_eq_false_iff_ne]; omega
    rw [this]
    simp only [Bool.false_eq_true, if_false]
    exact number_ok rfl rfl rfl
theorem refBest_g : PureAt Tryz.prog 11 [symI D, symI T, symI K] (· = symI (bestF D T K 64 1 0 0)) := by
  obtain ⟨d1, d2, hD⟩ := good_dom D T K hb
  exact refBest_any d1 d2 hD
theorem tail_out {e : Int} (hn : n < 1 ∨ n > 64) (he : e = 3) : Reach Tryz.prog gN fLaw none (badN D T K n e) (Ends Tryz.prog fLaw lawB) := by
  refine Reach.bool 65 false (bne_f hb) (by kernel_rfl) (gq ?_)
  refine Reach.pure1 (by kernel_rfl) rfl (refBest_g D T K hb) (gq ?_)
  refine Reach.pure1 (by kernel_rfl) rfl (good_number D T K hb) (gq ?_)
  by_cases h1 : n < 1
  · refine Reach.bool 97 (t := decide (n < 1)) true (decide_eq_true h1) (by kernel_rfl) (gq ?_)
    refine Reach.bool 4 (t := e == 3) true (by simp [he]) (by kernel_rfl) ?_
    exact Reach.finV (lv (.bool true)) (by kernel_rfl) fun _ => ⟨rfl, rfl⟩
  · refine Reach.bool 97 (t := decide (n < 1)) false (decide_eq_false h1) (by kernel_rfl) (gq ?_)
    refine Reach.bool 100 (t := decide (n > 64)) true (decide_eq_true (by omega)) (by kernel_rfl) (gq ?_)
    refine Reach.bool 4 (t := e == 3) true (by simp [he]) (by kernel_rfl) ?_
    exact Reach.finV (lv (.bool true)) (by kernel_rfl) fun _ => ⟨rfl, rfl⟩
theorem tail_none {e : Int} (h1 : 1 ≤ n) (h64 : n ≤ 64) (he : e = 7) (hs : sawE D T K (lowE T K n) n.toNat = none) : Reach Tryz.prog gN fLaw none (badN D T K n e) (Ends Tryz.prog fLaw lawB) := by
  obtain ⟨d1, d2, hD⟩ := good_dom D T K hb
  refine Reach.bool 65 false (bne_f hb) (by kernel_rfl) (gq ?_)
  refine Reach.pure1 (by kernel_rfl) rfl (refBest_g D T K hb) (gq ?_)
  refine Reach.pure1 (by kernel_rfl) rfl (good_number D T K hb) (gq ?_)
  refine Reach.bool 97 (t := decide (n < 1)) false (decide_eq_false (by omega)) (by kernel_rfl) (gq ?_)
  refine Reach.bool 100 (t := decide (n > 64)) false (decide_eq_false (by omega)) (by kernel_rfl) (gq ?_)
  refine Reach.callR (CallAt.fresh (gl := gN) (H := h0 ++ [boxB D T (sI K), .dead, .dead]) (ro := 1) (refBoards_at d1 d2 (hD n h1 h64)) rfl fun x G hx => refR_plain hx) (by kernel_rfl) (by kernel_rfl) ?_
  rintro y X ⟨x, G, hx, hy⟩
  rw [hs] at hx
  obtain rfl : x = _ := hx
  rcases hy with ⟨_, rfl, rfl⟩ | ⟨hp, rfl, rfl⟩
  · refine gq ?_
    refine Reach.bool 4 (t := e == 7) true (by simp [he]) (by kernel_rfl) ?_
    exact Reach.finV (lv (.bool true)) (by kernel_rfl) fun _ => ⟨rfl, rfl⟩
  · cases hp
theorem tail_some {b1 : Blk} {ws : List Int} (h1 : 1 ≤ n) (h64 : n ≤ 64) (hs : sawE D T K (lowE T K n) n.toNat = some ws) : Reach Tryz.prog gN fLaw none (badL D T K n 0 b1 (.cells 3 (ws.map sI))) (Ends Tryz.prog fLaw lawB) := by
  obtain ⟨d1, d2, hD⟩ := good_dom D T K hb
  have hl := sawE_len _ hs
  refine Reach.bool 65 false (bne_f hb) (by kernel_rfl) (gq ?_)
  refine Reach.pure1 (by kernel_rfl) rfl (refBest_g D T K hb) (gq ?_)
  refine Reach.pure1 (by kernel_rfl) rfl (good_number D T K hb) (gq ?_)
  refine Reach.bool 97 (t := decide (n < 1)) false (decide_eq_false (by omega)) (by kernel_rfl) (gq ?_)
  refine Reach.bool 100 (t := decide (n > 64)) false (decide_eq_false (by omega)) (by kernel_rfl) (gq ?_)
  refine Reach.callR (CallAt.fresh (gl := gN) (H := h0 ++ [boxB D T (sI K), b1, .cells 3 (ws.map sI), .dead, .dead]) (ro := 1) (refBoards_at d1 d2 (hD n h1 h64)) rfl fun x G hx => refR_plain hx) (by kernel_rfl) (by kernel_rfl) ?_
  rintro y X ⟨x, G, hx, hy⟩
  rw [hs] at hx
  obtain ⟨rfl, rfl⟩ := hx
  rcases hy with ⟨hp, _, _⟩ | ⟨_, rfl, rfl⟩
  · cases hp
  · refine gq ?_
    refine Reach.bool 130 (t := (0 : Int) == 0) true (by decide) (by kernel_rfl) (gq ?_)
    have hsame := same_at ws (by omega)
    rw [hl] at hsame
    refine Reach.callR (CallAt.read2 (gl := gN) (ro := 1) (H := h0 ++ [boxB D T (sI K), b1, .cells 3 (ws.map sI), .dead, .dead] ++ [.row 3 (([] ++ ws).map sI)]) 3 6 (args' := [slyI 3 n.toNat, royI 6 n.toNat]) hsame (by simp [plainK, List.all_map, plainC, plainB]) (by simp [plainK, List.all_map, plainC, plainB]) (by kernel_rfl) (by kernel_rfl) (by decide) (fun σ vs ⟨v, r, e, ⟨g, N, f1, f2⟩, v', r', e', ⟨g', N', c', f1', f2'⟩, hr⟩ => ⟨v, r, e, ⟨g, N, f1, f2⟩, v', r', e', ⟨g', N', c', f1', f2'⟩, hr⟩)) (by kernel_rfl) (by kernel_rfl) ?_
    rintro y X ⟨rfl, rfl⟩
    refine gq ?_
    exact Reach.finV (lv (.bool true)) (by kernel_rfl) fun _ => ⟨rfl, rfl⟩
end
theorem boardsR_plain {x : V} {G : Hp} (h : boardsR D T K n x G) : plainV x = true ∨ (nfV x = true ∧ G.all plainK = true) := by
  unfold boardsR at h
  split at h
  · split at h
    · exact .inl (by rw [h]; rfl)
    · exact .inr ⟨by rw [h.1]; rfl, by rw [h.2]; simp [plainK, List.all_map, plainC, plainB]⟩
  · exact .inl (by rw [h]; rfl)
theorem boards_bad : boardsE D T K n = if badE D T K = 0 then rangeE n 1 64 else badE D T K := by
  unfold boardsE badE or4 or3 or2
  by_cases h1 : sizeE D = 0
  · rw [if_pos h1]
    by_cases h2 : sizeE T = 0
    · simp [h1, h2]
    · simp [h1, h2]
  · simp [h1]
theorem law_main : Reach Tryz.prog gN fLaw none (lawC D T K n) (Ends Tryz.prog fLaw lawB) := by
  refine Reach.callR (CallAt.fresh (gl := gN) (H := h0 ++ [boxB D T (sI K)]) (ro := 1) (boards_at D T K n) rfl fun x G hx => boardsR_plain D T K n hx) (by kernel_rfl) (by kernel_rfl) ?_
  rintro y X ⟨x, G, hx, hy⟩
  unfold boardsR at hx
  split at hx
  · rename_i h0'
    rw [boards_bad] at h0'
    split at h0'
    · rename_i hb
      obtain ⟨n1, n2⟩ := range_in h0'
      split at hx
      · rename_i hs
        subst hx
        rcases hy with ⟨_, rfl, rfl⟩ | ⟨hp, rfl, rfl⟩
        · exact gq (Reach.cast (c' := preN D T K n 7) (by kernel_rfl) <| findN D T K n 7 (tail_none D T K n hb n1 n2 rfl hs))
        · cases hp
      · rename_i ws hs
        obtain ⟨rfl, rfl⟩ := hx
        rcases hy with ⟨hp, rfl, rfl⟩ | ⟨_, rfl, rfl⟩
        · cases hp
        · exact gq (Reach.cast (c' := preL D T K n 0 (.cells 26 [sI (sizeE D), sI (sizeE T), sI (rangeE K 0 10000), sI (rangeE n 1 64)]) (.cells 3 (ws.map sI))) (by kernel_rfl) <| findL D T K n 0 _ _ (tail_some D T K n hb n1 n2 hs))
    · exact absurd h0' ‹_›
  · rename_i h0'
    subst hx
    rcases hy with ⟨_, rfl, rfl⟩ | ⟨hp, rfl, rfl⟩
    · by_cases hb : badE D T K = 0
      · rw [boards_bad, if_pos hb] at h0'
        have e : rangeE n 1 64 = 3 := by unfold rangeE at *; split <;> simp_all
        have hn : n < 1 ∨ n > 64 := by
          unfold rangeE at h0'
          split at h0'
          · omega
          · exact absurd rfl h0'
        exact gq (Reach.cast (c' := preN D T K n (boardsE D T K n)) (by kernel_rfl) <| findN D T K n _ (tail_out D T K n hb hn (by rw [boards_bad, if_pos hb, e])))
      · exact gq (Reach.cast (c' := preN D T K n (boardsE D T K n)) (by kernel_rfl) <| findN D T K n _ (tail_bad D T K n hb (by rw [boards_bad, if_neg hb])))
    · cases hp
theorem lawB_at : CallAt Tryz.prog gN (.fn fLaw) [.f (.agg [sI D, sI T, sI K]), symI n] h0 1 lawB := law_top D T K n fun _ => law_main D T K n
end
end Go.Proofs.YthpooihkdnbafaaGreatDoor.Zm
