/- Parts of the proof, joined. -/
import Derived.Test.YtgkpejlddgoalaaGreatDoorJ12
import Derived.Test.YtgkpejlddgoalaaGreatDoorJ13
import Derived.Test.YtgkpejlddgoalaaGreatDoorJ11
set_option linter.unusedSimpArgs false
set_option linter.unusedVariables false
set_option linter.constructorNameAsVariable false
namespace Go.Proofs.YtgkpejlddgoalaaGreatDoor.Zm
open Go.RowKit

set_option maxRecDepth 100000 in
theorem greatest_at {d : Int} (hd : 1 ≤ d) (hd' : d ≤ 10000) : CallAt Tryz.prog [] (.fn 60) [.f (.one (.fn 100 [] [(false, [.ptr 0 0])])), lv (.func (.func 62) #[] #[])] [.cells 3 [sI d]] 1
    (fun x _ => x = (if d = 1 then .tup [.agg [zn 0, zn 0], .one (lc (.bool false))] else .tup [.agg [sI (sS d (d.toNat - 1)).1, sI (sS d (d.toNat - 1)).2.1], .one (lc (.bool true))]) ∧ plainV x = true) := by
  refine call_of_reach entersP (by kernel_rfl) (Reach.run (imp := nimp) mixP noCall_ok 2000 ?_)
  refine Reach.range1 (s1 := (gRange d).2.2.1) (k := (gRange d).2.2.2.2) (l := 5) (secs_at hd hd') (by kernel_rfl) rfl (by kernel_rfl) ?_
  rintro x H' rfl
  by_cases h1 : d = 1
  · rw [if_pos h1, if_pos h1]
    refine ⟨none, ((overZ 5 { (gRange d).2.2.1 with zh := gH d }).getD (none, ⟨⟨0, .e⟩, [], 0, []⟩)).2, by kernel_rfl, go ?_⟩
    exact Reach.finV (.tup [.agg [zn 0, zn 0], .one (lc (.bool false))]) (by kernel_rfl) fun _ => ⟨rfl, rfl⟩
  · rw [if_neg h1, if_neg h1]
    refine ⟨none, ((overZ 5 { (gRange d).2.2.1 with zh := gM d (sS d (d.toNat - 1)).1 (sS d (d.toNat - 1)).2.1 }).getD (none, ⟨⟨0, .e⟩, [], 0, []⟩)).2, by kernel_rfl, go ?_⟩
    exact Reach.finV (.tup [.agg [sI (sS d (d.toNat - 1)).1, sI (sS d (d.toNat - 1)).2.1], .one (lc (.bool true))]) (by kernel_rfl) fun _ => ⟨rfl, rfl⟩
/-- nest.Strongest. -/
theorem nStr_bad {d : Int} (h : ¬ sizeE d = 0) : PureAt Tryz.prog 20 [symI d] (· = .tup [.one (zn 0), .one (zn 0), .one (sI (sizeE d))]) := by
  refine pure_of_call (call_of_reach entersP (by kernel_rfl) (goT t3 t3_ok ?_))
  refine Reach.bool 11 true (bne_t h) (by kernel_rfl) (goT t3 t3_ok ?_)
  exact Reach.finV (.tup [.one (zn 0), .one (zn 0), .one (sI (sizeE d))]) (by kernel_rfl) fun _ => ⟨rfl, rfl⟩
theorem size_ok {d : Int} (hd : 1 ≤ d) (hd' : d ≤ 10000) : sizeE d = 0 := by unfold sizeE rangeE; rw [if_neg (by omega)]
theorem size_no {d : Int} (h : ¬ sizeE d = 0) : sizeE d = 3 := by unfold sizeE rangeE at *; split <;> simp_all
theorem size_in {d : Int} (h : sizeE d = 0) : 1 ≤ d ∧ d ≤ 10000 := by unfold sizeE rangeE at h; split at h <;> omega
theorem nStr_one : PureAt Tryz.prog 20 [symI 1] (· = .tup [.one (zn 0), .one (zn 0), .one (zn 7)]) := by
  refine pure_of_call (call_of_reach entersP (by kernel_rfl) (goX t3 t3_ok ?_))
  refine Reach.bool 11 (t := sizeE 1 != 0) false (by rw [size_ok (by decide) (by decide)]; rfl) (by kernel_rfl) (goX t3 t3_ok ?_)
  refine Reach.askH (greatest_at (d := 1) (by decide) (by decide)) (by kernel_rfl) (by kernel_rfl) ?_
  rw [if_pos rfl]
  refine goX t3 t3_ok ?_
  exact Reach.finV (.tup [.one (zn 0), .one (zn 0), .one (zn 7)]) (by kernel_rfl) fun _ => ⟨rfl, rfl⟩
theorem nStr_ok {d : Int} (hd : 2 ≤ d) (hd' : d ≤ 10000) : PureAt Tryz.prog 20 [symI d] (· = .tup [.one (sI (sS d (d.toNat - 1)).1), .one (sI (sS d (d.toNat - 1)).2.1), .one (zn 0)]) := by
  refine pure_of_call (call_of_reach entersP (by kernel_rfl) (goX t3 t3_ok ?_))
  refine Reach.bool 11 (t := sizeE d != 0) false (by rw [size_ok (by omega) hd']; rfl) (by kernel_rfl) (goX t3 t3_ok ?_)
  refine Reach.askH (greatest_at (d := d) (by omega) hd') (by kernel_rfl) (by kernel_rfl) ?_
  rw [if_neg (by omega)]
  refine goX t3 t3_ok ?_
  exact Reach.finV (.tup [.one (sI (sS d (d.toNat - 1)).1), .one (sI (sS d (d.toNat - 1)).2.1), .one (zn 0)]) (by kernel_rfl) fun _ => ⟨rfl, rfl⟩
/-- The reference's errors of sizes. -/
theorem cs1_at (a : Int) : CallAt Tryz.prog [] (.fn 13) ([] ++ .f (.one (.b (.slc 0 0 1 1))) :: []) [.cells 3 [sI a]] 1 (fun x _ => x = symI (sizeE a) ∧ plainV x = true) := by
  refine call_of_reach entersP (by kernel_rfl) (go ?_)
  by_cases h1 : a < 1
  · refine Reach.bool 15 true (decide_eq_true h1) (by kernel_rfl) (go ?_)
    refine Reach.lit 2 (u := .int .i64 3) (by kernel_rfl) ?_
    exact Reach.finV (symI 3) (by kernel_rfl) fun _ => ⟨by rw [sizeE, rangeE, if_pos (.inl h1)], rfl⟩
  · refine Reach.bool 15 false (decide_eq_false h1) (by kernel_rfl) (go ?_)
    by_cases h2 : a > 10000
    · refine Reach.bool 21 true (decide_eq_true h2) (by kernel_rfl) (go ?_)
      refine Reach.lit 2 (u := .int .i64 3) (by kernel_rfl) ?_
      exact Reach.finV (symI 3) (by kernel_rfl) fun _ => ⟨by rw [sizeE, rangeE, if_pos (.inr h2)], rfl⟩
    · refine Reach.bool 21 false (decide_eq_false h2) (by kernel_rfl) (go ?_)
      refine Reach.lit 2 (u := .int .i64 0) (by kernel_rfl) ?_
      exact Reach.finV (symI 0) (by kernel_rfl) fun _ => ⟨by rw [sizeE, rangeE, if_neg (by omega)], rfl⟩
theorem cs3_at (a b c : Int) : CallAt Tryz.prog [] (.fn 13) ([] ++ .f (.one (.b (.slc 0 0 3 3))) :: []) [.cells 3 [sI a, sI b, sI c]] 1 (fun x _ => x = symI (or3 (sizeE a) (sizeE b) (sizeE c)) ∧ plainV x = true) := by
  have e3 : ∀ {n : Int}, n < 1 ∨ 10000 < n → sizeE n = 3 := fun h => by rw [sizeE, rangeE, if_pos h]
  have e0 : ∀ {n : Int}, ¬ n < 1 → ¬ n > 10000 → sizeE n = 0 := fun h h' => by rw [sizeE, rangeE, if_neg (by omega)]
  refine call_of_reach entersP (by kernel_rfl) (go ?_)
  by_cases h1 : a < 1
  · refine Reach.bool 15 true (decide_eq_true h1) (by kernel_rfl) (go (Reach.lit 2 (u := .int .i64 3) (by kernel_rfl) ?_))
    exact Reach.finV (symI 3) (by kernel_rfl) fun _ => ⟨by rw [e3 (.inl h1)]; rfl, rfl⟩
  refine Reach.bool 15 false (decide_eq_false h1) (by kernel_rfl) (go ?_)
  by_cases h2 : a > 10000
  · refine Reach.bool 21 true (decide_eq_true h2) (by kernel_rfl) (go (Reach.lit 2 (u := .int .i64 3) (by kernel_rfl) ?_))
    exact Reach.finV (symI 3) (by kernel_rfl) fun _ => ⟨by rw [e3 (.inr h2)]; rfl, rfl⟩
  refine Reach.bool 21 false (decide_eq_false h2) (by kernel_rfl) (go ?_)
  rw [e0 h1 h2, show or3 0 (sizeE b) (sizeE c) = or2 (sizeE b) (sizeE c) from rfl]
  by_cases h3 : b < 1
  · refine Reach.bool 15 true (decide_eq_true h3) (by kernel_rfl) (go (Reach.lit 2 (u := .int .i64 3) (by kernel_rfl) ?_))
    exact Reach.finV (symI 3) (by kernel_rfl) fun _ => ⟨by rw [e3 (.inl h3)]; rfl, rfl⟩
  refine Reach.bool 15 false (decide_eq_false h3) (by kernel_rfl) (go ?_)
  by_cases h4 : b > 10000
  · refine Reach.bool 21 true (decide_eq_true h4) (by kernel_rfl) (go (Reach.lit 2 (u := .int .i64 3) (by kernel_rfl) ?_))
    exact Reach.finV (symI 3) (by kernel_rfl) fun _ => ⟨by rw [e3 (.inr h4)]; rfl, rfl⟩
  refine Reach.bool 21 false (decide_eq_false h4) (by kernel_rfl) (go ?_)
  rw [e0 h3 h4, show or2 0 (sizeE c) = sizeE c from rfl]
  by_cases h5 : c < 1
  · refine Reach.bool 15 true (decide_eq_true h5) (by kernel_rfl) (go (Reach.lit 2 (u := .int .i64 3) (by kernel_rfl) ?_))
    exact Reach.finV (symI 3) (by kernel_rfl) fun _ => ⟨by rw [e3 (.inl h5)], rfl⟩
  refine Reach.bool 15 false (decide_eq_false h5) (by kernel_rfl) (go ?_)
  by_cases h6 : c > 10000
  · refine Reach.bool 21 true (decide_eq_true h6) (by kernel_rfl) (go (Reach.lit 2 (u := .int .i64 3) (by kernel_rfl) ?_))
    exact Reach.finV (symI 3) (by kernel_rfl) fun _ => ⟨by rw [e3 (.inr h6)], rfl⟩
  refine Reach.bool 21 false (decide_eq_false h6) (by kernel_rfl) (go (Reach.lit 2 (u := .int .i64 0) (by kernel_rfl) ?_))
  exact Reach.finV (symI 0) (by kernel_rfl) fun _ => ⟨by rw [e0 h5 h6], rfl⟩
/-- law.number, where it says yes. -/
theorem number_bad {h e b w : Int} (hb : ¬ b = 0) (h0 : h = 0) (he : e = b) : PureAt Tryz.prog 15 [symI h, symI e, symI b, symI w] (· = lv (.bool true)) := by
  refine pure_of_call (call_of_reach entersP (by kernel_rfl) (go ?_))
  refine Reach.bool 10 true (bne_t hb) (by kernel_rfl) (go ?_)
  refine Reach.bool 13 (t := h == 0) true (by simp [h0]) (by kernel_rfl) (go ?_)
  refine Reach.bool 8 (t := e == b) true (by simp [he]) (by kernel_rfl) ?_
  exact Reach.finV (lv (.bool true)) (by kernel_rfl) fun _ => ⟨rfl, rfl⟩
theorem number_badL {h e b : Int} (w : Int) (hb : ¬ b = 0) (h0 : h = 0) (he : e = b) : PureAt Tryz.prog 15 [symI h, symI e, symI b, litI w] (· = lv (.bool true)) :=
  (number_bad (w := w) hb h0 he).of fun _ ⟨v1, _, e1, h1, v2, _, e2, h2, v3, _, e3, h3, v4, _, e4, h4, h5⟩ => ⟨v1, _, e1, h1, v2, _, e2, h2, v3, _, e3, h3, v4, _, e4, h4, h5⟩
theorem number_ok {h e b w : Int} (hb : b = 0) (he : e = 0) (hw : h = w) : PureAt Tryz.prog 15 [symI h, symI e, symI b, symI w] (· = lv (.bool true)) := by
  refine pure_of_call (call_of_reach entersP (by kernel_rfl) (go ?_))
  refine Reach.bool 10 false (bne_f hb) (by kernel_rfl) (go ?_)
  refine Reach.bool 20 (t := e == 0) true (by simp [he]) (by kernel_rfl) (go ?_)
  refine Reach.bool 8 (t := h == w) true (by simp [hw]) (by kernel_rfl) ?_
  exact Reach.finV (lv (.bool true)) (by kernel_rfl) fun _ => ⟨rfl, rfl⟩

/-- The best stack of all, if there is one. -/
def topN (N : Nat) (d t k : Int) : Option (Int × Int) := match sawE d t k (lowE t k 1) 1 with
  | none => none
  | some ws => some (bestE d t k N 2 1 (sumE 0 ws))
def topE (d t k : Int) : Option (Int × Int) := topN 63 d t k
section
variable (e1 e2 e3 d t k : Int)
set_option maxRecDepth 100000 in
theorem greatB_at : CallAt Tryz.prog [] (.fn 54) [stacksV, lv (.func (.func 56) #[] #[])] (bH e1 e2 e3 d t k) 4
    (fun x _ => x = (match topE d t k with | none => .tup [.agg [zn 0, zn 0], .one (lc (.bool false))] | some y => .tup [.agg [sI y.1, sI y.2], .one (lc (.bool true))]) ∧ plainV x = true) := by
  refine call_of_reach entersP (by kernel_rfl) (Reach.run (imp := nimp) mixP noCall_ok 2000 ?_)
  refine Reach.range1 (s1 := (bRange e1 e2 e3 d t k).2.2.1) (k := (bRange e1 e2 e3 d t k).2.2.2.2) (l := 8) (stacks_at e1 e2 e3 d t k) (by kernel_rfl) rfl (by kernel_rfl) ?_
  rintro x H' rfl
  unfold stacksH topE topN
  cases sawE d t k (lowE t k 1) 1 with
  | none =>
    refine ⟨none, ((overZ 8 { (bRange e1 e2 e3 d t k).2.2.1 with zh := bG e1 e2 e3 d t k }).getD (none, ⟨⟨0, .e⟩, [], 0, []⟩)).2, by kernel_rfl, go ?_⟩
    exact Reach.finV (.tup [.agg [zn 0, zn 0], .one (lc (.bool false))]) (by kernel_rfl) fun _ => ⟨rfl, rfl⟩
  | some ws =>
    refine ⟨none, ((overZ 8 { (bRange e1 e2 e3 d t k).2.2.1 with zh := bM e1 e2 e3 d t k (bestE d t k 63 2 1 (sumE 0 ws)).1 (bestE d t k 63 2 1 (sumE 0 ws)).2 }).getD (none, ⟨⟨0, .e⟩, [], 0, []⟩)).2, by kernel_rfl, go ?_⟩
    exact Reach.finV (.tup [.agg [sI (bestE d t k 63 2 1 (sumE 0 ws)).1, sI (bestE d t k 63 2 1 (sumE 0 ws)).2], .one (lc (.bool true))]) (by kernel_rfl) fun _ => ⟨rfl, rfl⟩
end
/-- What nest.BestBoards yields. -/
def bestV (d t k : Int) : Int × Int :=
  if or3 (sizeE d) (sizeE t) (rangeE k 0 10000) = 0 then (match topE d t k with | none => (0, 7) | some y => (y.1, 0)) else (0, or3 (sizeE d) (sizeE t) (rangeE k 0 10000))
set_option maxRecDepth 100000 in
theorem nBest_any (d t k : Int) : PureAt Tryz.prog 11 [symI d, symI t, symI k] (· = .tup [.one (sI (bestV d t k).1), .one (sI (bestV d t k).2)]) := by
  refine pure_of_call (call_of_reach entersP (by kernel_rfl) (goT t3 t3_ok ?_))
  refine Reach.read1 0 (or3_at (sizeE d) (sizeE t) (rangeE k 0 10000)) (by kernel_rfl) (by kernel_rfl) (by kernel_rfl) rfl rfl (goT t3 t3_ok ?_)
  unfold bestV
  by_cases h : or3 (sizeE d) (sizeE t) (rangeE k 0 10000) = 0
  · rw [if_pos h]
    refine Reach.bool 20 false (bne_f h) (by kernel_rfl) (goX t3 t3_ok ?_)
    refine Reach.askH (greatB_at (sizeE d) (sizeE t) (rangeE k 0 10000) d t k) (by kernel_rfl) (by kernel_rfl) ?_
    cases topE d t k with
    | none =>
      refine goT t3 t3_ok (Reach.lit 6 (u := .int .i64 0) (by kernel_rfl) (Reach.lit 7 (u := .int .i64 7) (by kernel_rfl) ?_))
      exact Reach.finV (.tup [.one (sI 0), .one (sI 7)]) (by kernel_rfl) fun _ => ⟨rfl, rfl⟩
    | some y =>
      refine goT t3 t3_ok (Reach.lit 7 (u := .int .i64 0) (by kernel_rfl) ?_)
      exact Reach.finV (.tup [.one (sI y.1), .one (sI 0)]) (by kernel_rfl) fun _ => ⟨rfl, rfl⟩
  · rw [if_neg h]
    refine Reach.bool 20 true (bne_t h) (by kernel_rfl) (goT t3 t3_ok (Reach.lit 6 (u := .int .i64 0) (by kernel_rfl) ?_))
    exact Reach.finV (.tup [.one (sI 0), .one (sI (or3 (sizeE d) (sizeE t) (rangeE k 0 10000)))]) (by kernel_rfl) fun _ => ⟨rfl, rfl⟩

section
variable {d t k n : Int} (hd : 1 ≤ d) (hd' : d ≤ 10000) (D : Dom t k n)
section
include D
theorem Dom.fail (r : Nat) : ∀ (i : Nat), i + r ≤ 64 → sawE d t k (lowI t k n i) r = none → ∃ j : Nat, i ≤ j ∧ j < i + r ∧ wideE d t (lowI t k n j) < 1 := by
  induction r with
  | zero => intro i _ h; rw [sawE] at h; cases h
  | succ r ih =>
    intro i hi h
    rw [sawE] at h
    split at h
    · rename_i hw; exact ⟨i, Nat.le_refl _, by omega, hw⟩
    · rw [D.next (Int.natCast_nonneg _) (by omega)] at h
      cases hs : sawE d t k (lowI t k n ((i : Int) + 1)) r with
      | none =>
        obtain ⟨j, h1, h2, h3⟩ := ih (i + 1) (by omega) hs
        exact ⟨j, by omega, by omega, h3⟩
      | some us => rw [hs] at h; cases h
theorem Dom.y0 : yE t (lowI t k n 0) = n * t + (n - 1) * k := by
  obtain ⟨h1, h2, h3, h4⟩ := D.all
  obtain ⟨e, _, _⟩ := D.y (i := 0) (by decide) (by decide)
  have : lowI t k n 0 = - (n * t + (n - 1) * k) := by unfold lowI; omega
  rw [e, this]
  omega
theorem Dom.yle {j : Int} (h0 : 0 ≤ j) (hj : j < n) : yE t (lowI t k n j) ≤ n * t + (n - 1) * k := by
  obtain ⟨h1, h2, h3, h4⟩ := D.all
  obtain ⟨e, _, _⟩ := D.y (i := j) h0 (by have := D.n2; omega)
  obtain ⟨t1, t2, k1, k2, n1, n2⟩ := D
  have hm : j * (t + k) ≤ (n - 1) * (t + k) := Int.mul_le_mul_of_nonneg_right (by omega) (by omega)
  have hr : (n - 1) * (t + k) + t = n * t + (n - 1) * k := by
    rw [Int.mul_add, Int.sub_mul, Int.one_mul]
    omega
  have hp : 0 ≤ j * (t + k) := Int.mul_nonneg h0 (by omega)
  rw [e]
  unfold lowI
  omega
end
include hd hd'
theorem hh_zero {y y' : Int} (h1 : 1 ≤ y) (hle : y ≤ y') (h2 : y' ≤ 4000000) (h : hh d y = 0) : hh d y' = 0 := by
  obtain ⟨a1, a2, a3⟩ := hh_any (d := d) (y := y') hd hd' (by omega) h2
  rcases Int.lt_or_le d y' with hf | hf
  · exact a3 hf
  · obtain ⟨b1, b2, b3, b4⟩ := hh_is hd hd' h1 (by omega)
    obtain ⟨c1, c2, c3, c4⟩ := hh_is hd hd' (w := y') (by omega) (by omega)
    rcases Int.lt_or_le 0 (hh d y') with hp | hp
    · have e1 := c3 1 (by decide) hp
      have e2 := b4 1 (by omega) (by decide)
      have e3 := sq_le (show 0 ≤ y by omega) hle
      omega
    · omega
include D
theorem none_next (D' : Dom t k (n + 1)) (h : sawE d t k (lowE t k n) n.toNat = none) : sawE d t k (lowE t k (n + 1)) (n + 1).toNat = none := by
  have hn := D.n1; have hn2 := D.n2
  rw [D.low] at h
  obtain ⟨j, _, hj, hw⟩ := D.fail n.toNat 0 (by omega) h
  have hy := D.yle (j := j) (by omega) (by omega)
  obtain ⟨_, y1, _⟩ := D.y (i := j) (by omega) (by omega)
  have hz := (wide_hh (d := d) (t := t) (low := lowI t k n j)).1.1 hw
  have hy' := D'.y0
  obtain ⟨_, a2, a3, _⟩ := D'.all
  have hstep : (n + 1) * t + (n + 1 - 1) * k = n * t + (n - 1) * k + t + k := by
    rw [Int.add_mul, Int.one_mul, show n + 1 - 1 = (n - 1) + 1 by omega, Int.add_mul, Int.one_mul]
    omega
  have ht := D.t1; have hk := D.k1
  have hz' : hh d (yE t (lowI t k (n + 1) 0)) = 0 := hh_zero hd hd' y1 (by rw [hy', hstep]; omega) (by rw [hy']; omega) hz
  have hw' := (wide_hh (d := d) (t := t) (low := lowI t k (n + 1) 0)).1.2 hz'
  rw [D'.low, show (n + 1).toNat = n.toNat + 1 by omega, sawE, if_pos hw']
end
section
variable {d t k : Int} (hd : 1 ≤ d) (hd' : d ≤ 10000) (D : ∀ n, 1 ≤ n → n ≤ 64 → Dom t k n)
include hd hd' D
theorem bestF_stop : ∀ (m : Nat) (n b w : Int), n + m = 65 → 1 ≤ n → sawE d t k (lowE t k n) n.toNat = none → bestF d t k m n b w = b
  | 0, n, b, w, _, _, _ => rfl
  | 1, n, b, w, hn, h0, h => by rw [bestF, h]; rfl
  | m + 2, n, b, w, hn, h0, h => by
    rw [bestF, h]
    exact bestF_stop (m + 1) (n + 1) b w (by omega) (by omega) (none_next hd hd' (D n h0 (by omega)) (D (n + 1) (by omega) (by omega)) h)
theorem best_eq : ∀ (m : Nat) (n b w : Int), n + m = 65 → 1 ≤ n → 1 ≤ b → (bestE d t k m n b w).1 = bestF d t k m n b w ∧ 1 ≤ (bestE d t k m n b w).1
  | 0, n, b, w, _, _, hb => ⟨rfl, hb⟩
  | m + 1, n, b, w, hn, h0, hb => by
    cases hs : sawE d t k (lowE t k n) n.toNat with
    | none =>
      rw [bestF_stop hd hd' D (m + 1) n b w hn h0 hs, bestE, hs]
      exact ⟨rfl, hb⟩
    | some ws =>
      rw [bestE, bestF, hs]
      dsimp only
      by_cases hg : sumE 0 ws > w
      · rw [if_pos (cmp_pos.2 hg), if_pos (cmp_pos.2 hg), if_pos hg, if_pos hg]
        exact best_eq m (n + 1) n _ (by omega) (by omega) h0
      · rw [if_neg (fun h => hg (cmp_pos.1 h)), if_neg (fun h => hg (cmp_pos.1 h)), if_neg hg, if_neg hg]
        exact best_eq m (n + 1) b w (by omega) (by omega) hb
set_option maxRecDepth 100000 in
theorem best_topN {N M : Nat} (hN : N + 2 = 65) (hM : M = N + 1) : (topN N d t k = none → bestF d t k M 1 0 0 = 0) ∧ ∀ y, topN N d t k = some y → y.1 = bestF d t k M 1 0 0 ∧ 1 ≤ y.1 := by
  subst hM
  unfold topN
  cases hs : sawE d t k (lowE t k 1) 1 with
  | none => exact ⟨fun _ => bestF_stop hd hd' D (N + 1) 1 0 0 (by omega) (by decide) hs, fun y h => by cases h⟩
  | some ws =>
    refine ⟨fun h => (by cases h), fun y h => ?_⟩
    injection h with h
    subst h
    have D1 := D 1 (by decide) (by decide)
    have hsum : sumE 0 ws > 0 := by
      rw [sawE] at hs
      split at hs
      · cases hs
      · rename_i hw
        simp only [sawE, Option.map_some, Option.some.injEq] at hs
        rw [← hs]
        have e := (wide_hh (d := d) (t := t) (low := lowE t k 1)).2 hw
        rw [D1.low] at e hw ⊢
        obtain ⟨_, y1, y2⟩ := D1.y (i := 0) (by decide) (by decide)
        have := hh_any hd hd' y1 y2
        unfold sumE
        simp only [List.foldl_cons, List.foldl_nil]
        rw [W64_id (by omega) (by omega)]
        omega
    have h1 : bestF d t k (N + 1) 1 0 0 = bestF d t k N 2 1 (sumE 0 ws) := by
      rw [bestF, show (1 : Int).toNat = 1 from rfl, hs]
      dsimp only
      rw [if_pos hsum, if_pos hsum]
      rfl
    rw [h1]
    exact best_eq hd hd' D N 2 1 (sumE 0 ws) (by omega) (by decide) (by decide)
theorem best_top : (topE d t k = none → bestF d t k 64 1 0 0 = 0) ∧ ∀ y, topE d t k = some y → y.1 = bestF d t k 64 1 0 0 ∧ 1 ≤ y.1 := by
  unfold topE
  exact best_topN hd hd' D (N := 63) (M := 64) rfl rfl
end

/-- The numbers of cells. -/
def intsC : List C → Option (List Int)
  | [] => some []
  | .b (.sym (.int .i64 a)) :: l | .b (.lit (.int .i64 a)) :: l => match intsC l with | some r => some (a :: r) | none => none
  | _ => none
abbrev symC (a : Int) : C := .b (.sym (.int .i64 a))
/-- A function of a list of numbers, that is known as a function. -/
def tabL (f0 : FuncId) (T0 : TypeId) (g : List Int → V) : CallFn := fun t args H _ => match t, args with
  | .fn f, [.f (.one (.b (.slc k 0 n c)))] => match Nat.beq f f0, H[k]? with
    | true, some (.cells T l) => match Nat.beq T T0, intsC l with
      | true, some is => match Nat.beq n is.length && Nat.beq c is.length && Nat.ble n 1000 with
        | true => some (g is, H)
        | false => none
      | _, _ => none
    | _, _ => none
  | _, _ => none
def orC (a b : CallFn) : CallFn := fun t args H ro => match a t args H ro with | some r => some r | none => b t args H ro
section
variable {P : Program} {gl : List Nat} {H : Hp} {ro : Nat}
theorem intsC_holds {σ : Env} : ∀ {l : List C} {is : List Int} {vs : List Value}, intsC l = some is → holdsC σ l vs → holdsC σ (is.map symC) vs
  | [], is, vs, h, hv => by injection h with h; subst h; exact hv
  | .b (.sym (.int .i64 a)) :: l, is, vs, h, ⟨v, r, e, h1, h2⟩ => by
    simp only [intsC] at h
    split at h
    · rename_i r' hr
      injection h with h
      subst h
      exact ⟨v, r, e, h1, intsC_holds hr h2⟩
    · cases h
  | .b (.lit (.int .i64 a)) :: l, is, vs, h, ⟨v, r, e, h1, h2⟩ => by
    simp only [intsC] at h
    split at h
    · rename_i r' hr
      injection h with h
      subst h
      exact ⟨v, r, e, h1, intsC_holds hr h2⟩
    · cases h
theorem orC_ok {a b : CallFn} (ha : CallOk P gl a) (hb : CallOk P gl b) : CallOk P gl (orC a b) := fun t args H ro x H' h => by
  unfold orC at h
  split at h
  · rename_i r hr
    rw [h] at hr
    exact ha t args H ro x H' hr
  · exact hb t args H ro x H' h
/-- A call that reads one block, whatever is known of it. -/
theorem CallAt.readB {f : FuncId} {b b' : Blk} (k : Nat) {args args' : List V} {R : V → Prop} (h : CallAt P [] (.fn f) args [b] 1 (fun x _ => R x ∧ plainV x = true)) (hb : plainK b = true) (h0 : H[k]? = some b') (hl : b'.live = true) (hbb : ∀ σ w, b'.holds σ k w → b.holds σ k w)
    (ha : ∀ σ vs, holdsV σ args' vs → holdsV (fun j => if j = 0 then σ k else none) args vs) : CallAt P gl (.fn f) args' H ro (fun x H' => R x ∧ H' = H) := by
  intro σ w vs hro hm hgl hv
  have l0 : live H k := ⟨b', h0, hl⟩
  have ht : ∀ j x, (fun j => if j = 0 then σ k else none : Env) j = some x → j = 0 ∧ σ k = some x := fun j x e => by
    by_cases hj : j = 0
    · subst hj; exact ⟨rfl, by simpa using e⟩
    · simp [hj] at e
  have hR : HRep (fun j => if j = 0 then σ k else none) [b] w := by
    refine ⟨fun j b' hj => ?_, fun j j' g n n' h1 h2 _ _ => ?_, fun j g n h1 e => ?_, fun j x e => by rw [(ht j x e).1]; simp⟩
    · cases j with
      | zero => simp only [List.getElem?_cons_zero, Option.some.injEq] at hj; subst hj; exact plainK_any hb (by simp) (hbb _ _ (hm.blk k _ h0))
      | succ j => simp at hj
    · have := live_lt h1; have := live_lt h2; simp at *; omega
    · exact hm.lt k g n l0 (ht j _ e).2
  obtain ⟨h6, h7⟩ := h _ w vs (Nat.le_refl _) hR (fun k g e => by simp at e) (ha σ vs hv)
  refine ⟨h6, h7.mono ?_⟩
  rintro e w' ⟨u, e1, x, G, ⟨hx, hp⟩, υ, hlf, hxv⟩
  have hbel : Below w.heap.size w w' := (hlf.base.mono fun g ⟨k, n, h1, h2, _⟩ => by have := live_lt h2; simp at this; omega).below
  exact ⟨u, e1, x, H, ⟨hx, rfl⟩, σ, Left.below ro hm hbel, plainV_any hp hxv⟩
theorem tabL_ok {f0 : FuncId} {T0 : TypeId} {g : List Int → V} (h : ∀ l : List Int, l.length < 4611686018427387904 → CallAt P [] (.fn f0) [.f (.one (.b (.slc 0 0 l.length l.length)))] [.cells T0 (l.map symC)] 1 (fun x _ => x = g l ∧ plainV x = true)) : CallOk P gl (tabL f0 T0 g) := by
  intro t args H ro x H' hc σ w vs hro hm hgl ha
  unfold tabL at hc
  split at hc
  · rename_i f k n c
    split at hc
    · rename_i T l e1 e2
      split at hc
      · rename_i is e3 e4
        split at hc
        · rename_i e5
          rw [Bool.and_eq_true, Bool.and_eq_true] at e5
          have e7 := Nat.le_of_ble_eq_true e5.2
          obtain rfl := Nat.eq_of_beq_eq_true e1
          obtain rfl := Nat.eq_of_beq_eq_true e3
          obtain rfl := Nat.eq_of_beq_eq_true e5.1.1
          obtain rfl := Nat.eq_of_beq_eq_true e5.1.2
          simp only [Option.some.injEq, Prod.mk.injEq] at hc
          obtain ⟨rfl, rfl⟩ := hc
          obtain ⟨h1, h2⟩ := CallAt.readB (gl := gl) (ro := ro) k (h is (by omega)) (by simp [plainK, List.all_map, plainC, plainB]) e2 rfl (fun σ w ⟨g, cs, a1, a2, a3⟩ => ⟨g, cs, a1, a2, intsC_holds e4 a3⟩) (args' := [.f (.one (.b (.slc k 0 is.length is.length)))]) (fun σ vs ⟨v, r, e, ⟨g, N, e1, e2⟩, hr⟩ => ⟨v, r, e, ⟨g, N, by simpa using e1, e2⟩, hr⟩) σ w vs hro hm hgl ha
          refine ⟨h1, h2.mono ?_⟩
          rintro e w' ⟨v, e6, z, G, ⟨hz, hG⟩, hy⟩
          exact ⟨v, e6, by rw [hz, hG] at hy; exact hy⟩
        · cases hc
      · cases hc
    · cases hc
  · cases hc
end
noncomputable def dOps (c : Cf) : Array Oper := match drawnS c with | some (o, _) => o | none => #[]
noncomputable def dC (c : Cf) : Cf := match drawnS c with | some (_, c') => c' | none => c
section
variable {P : Program} {gl : List Nat} {fz : FuncId} {oz : Option Nat} {c : Cf} {Q : Cf → Prop} {cf : CallFn} {H : Hp}
theorem Reach.drawn1 (hmix : P.follows .mixedOrders = true) {imp : FuncId → Bool} (hC : CallOk P gl cf) (h1 : (drawnS c).isSome = true) (hty : tyZ (dOps c) (dC c).2.zs.n = true)
    (h : DrOk P gl cf imp (dOps c) (dC c).2.zh.length ((dOps c).toList, (dC c).2, []) (fun s' ks => (upZ ks s'.zh.length && ((ks.all fun k => mild k.1) || pairsZ (closZ (dOps c).toList) ks)) = true ∧ Reach P gl fz oz ((dC c).1, s') Q)) : Reach P gl fz oz c Q := by
  unfold dOps dC at *
  cases e : drawnS c with
  | none => rw [e] at h1; cases h1
  | some r => rw [e] at h hty; exact Reach.drawn hmix hC e hty h
/-- What was there before other blocks. -/
theorem HRep.pre {σ : Env} {w : World} {G : Hp} (hm : HRep σ (H ++ G) w) (hu : H.all (underK H.length) = true) : HRep (σ.cut H.length) H w := by
  have hlv : ∀ {j : Nat}, live H j → live (H ++ G) j := fun ⟨b, h1, h2⟩ => ⟨b, by rw [List.getElem?_append_left (List.getElem?_eq_some_iff.1 h1).1]; exact h1, h2⟩
  refine ⟨fun k b hk => ?_, fun k k' g n n' h1 h2 e1 e2 => ?_, fun k g n h1 e1 => ?_, fun k x e => (cut_some e).1⟩
  · have hlt := (List.getElem?_eq_some_iff.1 hk).1
    rw [List.all_eq_true] at hu
    exact Blk.cut hlt (underK_ok (hu b (List.mem_iff_getElem?.2 ⟨k, hk⟩))) (hm.blk k b (by rw [List.getElem?_append_left hlt]; exact hk))
  · exact hm.inj k k' g n n' (hlv h1) (hlv h2) (cut_some e1).2 (cut_some e2).2
  · exact hm.lt k g n (hlv h1) (cut_some e1).2
end
end Go.Proofs.YtgkpejlddgoalaaGreatDoor.Zm
namespace Go.Proofs.YtgkpejlddgoalaaGreatDoor.Zm
open Go.RowKit
open Go.Proofs.YtgkpejlddgoalaaGreatDoor.Ab (evalP)

/-- A remainder of machine integers: what is divided, by what. -/
noncomputable def remS (gl : List Nat) (c : Cf) : Option (IntKind × Int × Int) := match nextOp c with
  | some o => match o.op with
    | .binOp .rem _ x y _ => match evS gl c x, evS gl c y with
      | .f (.one (.b (.lit (.int k a)))), .f (.one (.b (.lit (.int k' b)))) => if k = k' then some (k, a, b) else none
      | _, _ => none
    | _ => none
  | none => none
section
variable {P : Program} {gl : List Nat} {fz : FuncId} {oz : Option Nat} {c : Cf} {Q : Cf → Prop}
theorem Reach.rem1 {k : IntKind} {a b : Int} (h1 : remS gl c = some (k, a, b)) (hb : b ≠ 0) (h : Reach P gl fz oz (afterCall c (.f (.one (.b (.sym (.int k (a.tmod b)))))) c.2.zh) Q) : Reach P gl fz oz c Q := by
  unfold remS at h1
  split at h1
  · rename_i o ho
    split at h1
    · rename_i T x y T' hop
      split at h1
      · rename_i k1 a1 k2 b1 e1 e2
        split at h1
        · rename_i hk
          subst hk
          simp only [Option.some.injEq, Prod.mk.injEq] at h1
          obtain ⟨rfl, rfl, rfl⟩ := h1
          refine Reach.opS (x := lv (.int k1 (a1.tmod b1))) (y := .f (.one (.b (.sym (.int k1 (a1.tmod b1)))))) ho ?_ (fun τ v hv => hv) h
          have hf : fastZ (evS gl c) o = none := by unfold fastZ; simp only [hop, e1, e2, if_true, fastB]
          have hval : valZ P (evS gl c) c.2.zh o = some (lv (.int k1 (a1.tmod b1))) := by
            unfold valZ
            simp only [hop, e1, e2, litZ]
            have : evalP P (do eqGuard .rem T x y (.int k1 a1) (.int k1 b1); binOp .rem T (.int k1 a1) (.int k1 b1)) = some (.int k1 (a1.tmod b1)) := by
              simp [eqGuard, binOp, Op.intDiv, hb, evalP, bind, pure]
              rfl
            unfold closedZ
            rw [this]
            rfl
          unfold doZ
          simp only [hop, valW, valY, hf, hval]
        · cases h1
      · cases h1
    · cases h1
  · cases h1
theorem PureAt.res {f : FuncId} {args : List V} {x y : V} (h : PureAt P f args (· = x)) (hxy : ∀ v, x.holds (fun _ => none) v → y.holds (fun _ => none) v) : PureAt P f args (· = y) := fun w vs hv => by
  obtain ⟨h1, h2⟩ := h w vs hv
  refine ⟨h1, h2.mono ?_⟩
  rintro e w' ⟨v, e1, hb, z, rfl, hz⟩
  exact ⟨v, e1, hb, _, rfl, hxy v hz⟩
end
end Go.Proofs.YtgkpejlddgoalaaGreatDoor.Zm
namespace Go.Proofs.YtgkpejlddgoalaaGreatDoor.Zm
open Go.RowKit

section
variable {d : Int} (hd : 1 ≤ d) (hd' : d ≤ 10000)
include hd hd'
omit hd hd' in
theorem sS_max : ∀ (m : Nat) (w : Int), (m : Int) ≤ d → 1 ≤ w → w ≤ m → w * hh d w * hh d w ≤ (sS d m).2.2
  | 0, w, _, h1, h2 => by omega
  | m + 1, w, hm, h1, h2 => by
    rw [sS]
    by_cases hw : w ≤ m
    · have := sS_max m w (by omega) h1 hw
      split
      · dsimp only; omega
      · exact this
    · obtain rfl : w = (m : Int) + 1 := by omega
      split
      · exact Int.le_refl _
      · omega
theorem sS_from : ∀ (m : Nat), 1 ≤ m → (m : Int) < d → ∃ x : Int, 1 ≤ x ∧ x ≤ m ∧ (sS d m).1 = x ∧ (sS d m).2.1 = hh d x ∧ (sS d m).2.2 = x * hh d x * hh d x
  | 0, h, _ => by omega
  | m + 1, _, hm => by
    rw [sS]
    by_cases hg : ((m : Int) + 1) * hh d (m + 1) * hh d (m + 1) > (sS d m).2.2
    · rw [if_pos hg]
      dsimp only
      exact ⟨(m : Int) + 1, by omega, by omega, rfl, rfl, rfl⟩
    · rw [if_neg hg]
      rcases Nat.eq_zero_or_pos m with h0 | h0
      · exfalso
        have hx := (not_congr (high_pos hd hd' (x := (m : Int) + 1) (by omega) (by omega))).2 (by omega)
        have hp : 1 ≤ hh d (m + 1) := by unfold hh; rw [if_neg hx]; omega
        subst h0
        have e : (sS d 0).2.2 = 0 := rfl
        have h1 : (1 : Int) * 1 ≤ hh d ((0 : Nat) + 1) * hh d ((0 : Nat) + 1) := sq_le (by decide) hp
        rw [e] at hg
        generalize hh d ((0 : Nat) + 1) = q at *
        rw [show ((0 : Nat) : Int) + 1 = 1 from rfl, Int.one_mul] at hg
        omega
      · obtain ⟨x, h1, h2, h3⟩ := sS_from m h0 (by omega)
        exact ⟨x, h1, by omega, h3⟩
theorem sS_fit (m : Nat) (h1 : 1 ≤ m) (hm : (m : Int) < d) : (sS d m).1 * (sS d m).1 + (sS d m).2.1 * (sS d m).2.1 ≤ d * d ∧ 1 ≤ (sS d m).1 ∧ (sS d m).1 ≤ d ∧ 1 ≤ (sS d m).2.1 ∧ (sS d m).2.1 ≤ d ∧ (sS d m).2.2 = (sS d m).1 * (sS d m).2.1 * (sS d m).2.1 := by
  obtain ⟨x, a1, a2, e1, e2, e3⟩ := sS_from hd hd' m h1 hm
  have hx := (not_congr (high_pos hd hd' (x := x) a1 (by omega))).2 (by omega)
  obtain ⟨g1, g2, g3, _⟩ := hh_is hd hd' (w := x) a1 (by omega)
  have hp : 1 ≤ hh d x := by unfold hh; rw [if_neg hx]; omega
  rw [e1, e2, e3]
  exact ⟨g3 _ hp (Int.le_refl _), a1, by omega, hp, g2, rfl⟩
end
/-- What the loop for the best number of boards knows. -/
structure BestP (d t k n b w : Int) : Prop where
  b1 : 1 ≤ b
  b2 : b < n
  bs : ∃ ws, sawE d t k (lowE t k b) b.toNat = some ws ∧ sumE 0 ws = w
  mx : ∀ n', 1 ≤ n' → n' < n → ∀ ws, sawE d t k (lowE t k n') n'.toNat = some ws → sumE 0 ws ≤ w ∧ (sumE 0 ws < w ∨ b ≤ n')
section
variable {d t k : Int} (hd : 1 ≤ d) (hd' : d ≤ 10000) (D : ∀ n, 1 ≤ n → n ≤ 64 → Dom t k n)
include hd hd' D
theorem none_all {n : Int} (h0 : 1 ≤ n) (h : sawE d t k (lowE t k n) n.toNat = none) : ∀ (m : Nat), n + m ≤ 64 → sawE d t k (lowE t k (n + m)) (n + m).toNat = none
  | 0, _ => by rw [show n + ((0 : Nat) : Int) = n by omega]; exact h
  | m + 1, hm => by
    have ih := none_all h0 h m (by omega)
    rw [show n + ((m + 1 : Nat) : Int) = n + (m : Int) + 1 by omega]
    exact none_next hd hd' (D _ (by omega) (by omega)) (D _ (by omega) (by omega)) ih
theorem best_prop : ∀ (m : Nat) (n b w : Int), n + m = 65 → 1 ≤ n → BestP d t k n b w → BestP d t k 65 (bestE d t k m n b w).1 (bestE d t k m n b w).2
  | 0, n, b, w, hn, h0, B => by
    obtain rfl : n = 65 := by omega
    exact B
  | m + 1, n, b, w, hn, h0, B => by
    rw [bestE]
    cases hs : sawE d t k (lowE t k n) n.toNat with
    | none =>
      refine ⟨B.b1, by have := B.b2; show b < 65; omega, B.bs, fun n' h1 h2 ws hw => ?_⟩
      by_cases hlt : n' < n
      · exact B.mx n' h1 hlt ws hw
      · have := none_all hd hd' D h0 hs (n' - n).toNat (by omega)
        rw [show n + ((n' - n).toNat : Int) = n' by omega, hw] at this
        cases this
    | some ws =>
      dsimp only
      by_cases hg : sumE 0 ws > w
      · rw [if_pos (cmp_pos.2 hg), if_pos (cmp_pos.2 hg)]
        refine best_prop m (n + 1) n _ (by omega) (by omega) ⟨h0, by omega, ⟨ws, hs, rfl⟩, fun n' h1 h2 us hu => ?_⟩
        by_cases hlt : n' < n
        · have := (B.mx n' h1 hlt us hu).1
          exact ⟨by omega, .inl (by omega)⟩
        · obtain rfl : n' = n := by omega
          rw [hs] at hu
          injection hu with hu
          subst hu
          exact ⟨Int.le_refl _, .inr (Int.le_refl _)⟩
      · rw [if_neg (fun h => hg (cmp_pos.1 h)), if_neg (fun h => hg (cmp_pos.1 h))]
        refine best_prop m (n + 1) b w (by omega) (by omega) ⟨B.b1, by have := B.b2; omega, B.bs, fun n' h1 h2 us hu => ?_⟩
        by_cases hlt : n' < n
        · exact B.mx n' h1 hlt us hu
        · obtain rfl : n' = n := by omega
          rw [hs] at hu
          injection hu with hu
          subst hu
          exact ⟨by omega, .inr (by have := B.b2; omega)⟩
set_option maxRecDepth 100000 in
theorem top_prop {N : Nat} (hN : N + 2 = 65) {y : Int × Int} (h : topN N d t k = some y) : BestP d t k 65 y.1 y.2 := by
  unfold topN at h
  cases hs : sawE d t k (lowE t k 1) 1 with
  | none => rw [hs] at h; cases h
  | some ws =>
    rw [hs] at h
    injection h with h
    subst h
    refine best_prop hd hd' D N 2 1 _ (by omega) (by decide) ⟨by decide, by decide, ⟨ws, hs, rfl⟩, fun n' h1 h2 us hu => ?_⟩
    obtain rfl : n' = 1 := by omega
    rw [show (1 : Int).toNat = 1 from rfl, hs] at hu
    injection hu with hu
    subst hu
    exact ⟨Int.le_refl _, .inr (Int.le_refl _)⟩
set_option maxRecDepth 100000 in
theorem top_none {N : Nat} (h : topN N d t k = none) : ∀ n, 1 ≤ n → n ≤ 64 → sawE d t k (lowE t k n) n.toNat = none := fun n h1 h2 => by
  unfold topN at h
  cases hs : sawE d t k (lowE t k 1) 1 with
  | none =>
    have := none_all hd hd' D (n := 1) (by decide) hs (n - 1).toNat (by omega)
    rw [show (1 : Int) + ((n - 1).toNat : Int) = n by omega] at this
    exact this
  | some ws => rw [hs] at h; cases h
end
section
variable {d t k n : Int} (D : Dom t k n)
include D
theorem Dom.get (r : Nat) : ∀ (i : Nat) (ws : List Int), i + r ≤ 64 → sawE d t k (lowI t k n i) r = some ws → ∀ j : Nat, j < r → ws[j]? = some (wideE d t (lowI t k n ((i + j : Nat) : Int))) ∧ ¬ wideE d t (lowI t k n ((i + j : Nat) : Int)) < 1 := by
  induction r with
  | zero => intro i ws _ _ j hj; omega
  | succ r ih =>
    intro i ws hi h j hj
    rw [sawE] at h
    split at h
    · cases h
    · rename_i hw
      rw [D.next (Int.natCast_nonneg _) (by omega)] at h
      rw [Option.map_eq_some_iff] at h
      obtain ⟨us, h1, h2⟩ := h
      subst h2
      cases j with
      | zero => exact ⟨by simp, by simpa using hw⟩
      | succ j =>
        obtain ⟨g1, g2⟩ := ih (i + 1) us (by omega) h1 j (by omega)
        rw [show i + (j + 1) = i + 1 + j by omega]
        exact ⟨by simpa using g1, g2⟩
theorem Dom.ysym {i : Int} (h0 : 0 ≤ i) (hi : i < n) : yE t (lowI t k n (n - 1 - i)) = yE t (lowI t k n i) := by
  have hn := D.n2
  obtain ⟨e1, _, _⟩ := D.y (i := i) h0 (by omega)
  obtain ⟨e2, _, _⟩ := D.y (i := n - 1 - i) (by omega) (by omega)
  rw [e1, e2]
  have hr : (n - 1) * (t + k) + t = n * t + (n - 1) * k := by
    rw [Int.mul_add, Int.sub_mul, Int.one_mul]
    omega
  have hs : (n - 1 - i) * (t + k) = (n - 1) * (t + k) - i * (t + k) := Int.sub_mul ..
  unfold lowI
  rw [hs]
  omega
end

abbrev slyI (k n : Nat) : V := .f (.one (.b (.sly k 0 n n)))
abbrev royI (k n : Nat) : V := .f (.one (.b (.roy k 0 n 1)))
/-- The error of a list of sizes. -/
def chkE : List Int → Int
  | [] => 0
  | a :: l => or2 (sizeE a) (chkE l)
/-- The first number of a list that isn't 0. -/
def firstE : List Int → Int
  | [] => 0
  | a :: l => or2 a (firstE l)
noncomputable def chI0 : Cf := intoLoop (runL Tryz.prog [] nimp noCall 13 none 2000 (startS Tryz.prog 13 [.f (.one (.b (.slc 0 0 1 1)))] [.cells 3 [sI 0]] 1))
noncomputable def headCh (l : List Int) (i : Int) : Cf := atC chI0.1 22 [(0, slyI 0 l.length), (3, symI i)] [.cells 3 (l.map sI)] 1
theorem size3 {a : Int} (h : a < 1 ∨ 10000 < a) : sizeE a = 3 := by unfold sizeE rangeE; rw [if_pos h]
theorem size0 {a : Int} (h : ¬ a < 1) (h' : ¬ a > 10000) : sizeE a = 0 := by unfold sizeE rangeE; rw [if_neg (by omega)]
theorem chk_loop (l : List Int) : ∀ (m i : Nat), l.length - i ≤ m → i ≤ l.length → l.length < 4611686018427387904 →
    Reach Tryz.prog [] 13 none (headCh l i) (Ends Tryz.prog 13 (fun x _ => x = symI (chkE (l.drop i)) ∧ plainV x = true)) := by
  intro m
  induction m with
  | zero =>
    intro i hm hi hl
    have : i = l.length := by omega
    subst this
    refine goL (Reach.len1 (n := l.length) (by kernel_rfl) (goL ?_))
    refine Reach.bool 7 (t := decide ((l.length : Int) < l.length)) false (decide_eq_false (Int.lt_irrefl _)) (by kernel_rfl) (go ?_)
    refine Reach.lit 2 (u := .int .i64 0) (by kernel_rfl) ?_
    exact Reach.finV (symI 0) (by kernel_rfl) fun _ => ⟨by rw [List.drop_length]; rfl, rfl⟩
  | succ m ih =>
    intro i hm hi hl
    refine goL (Reach.len1 (n := l.length) (by kernel_rfl) (goL ?_))
    by_cases h : i < l.length
    · have hd : l.drop i = l[i] :: l.drop (i + 1) := List.drop_eq_getElem_cons h
      refine Reach.bool 7 true (decide_eq_true (Int.ofNat_lt.2 h)) (by kernel_rfl) (goL ?_)
      refine Reach.idx (k := 0) (off := 0) (n := l.length) (i := i) (m := 1) (by kernel_rfl) (Int.natCast_nonneg i) (Int.ofNat_lt.2 h) (goL ?_)
      refine Reach.ld1 (k := 0) (off := 0 + (i : Int).toNat * 1) (l := l.map sI) (d := sI l[i]) (by kernel_rfl) (by kernel_rfl) (by simp [h]) (goL ?_)
      by_cases h1 : l[i] < 1
      · refine Reach.bool 15 (t := decide (l[i] < 1)) true (decide_eq_true h1) (by kernel_rfl) (go ?_)
        refine Reach.lit 2 (u := .int .i64 3) (by kernel_rfl) ?_
        exact Reach.finV (symI 3) (by kernel_rfl) fun _ => ⟨by rw [hd, chkE, size3 (.inl h1)]; rfl, rfl⟩
      · refine Reach.bool 15 (t := decide (l[i] < 1)) false (decide_eq_false h1) (by kernel_rfl) (goL ?_)
        refine Reach.idx (k := 0) (off := 0) (n := l.length) (i := i) (m := 1) (by kernel_rfl) (Int.natCast_nonneg i) (Int.ofNat_lt.2 h) (goL ?_)
        refine Reach.ld1 (k := 0) (off := 0 + (i : Int).toNat * 1) (l := l.map sI) (d := sI l[i]) (by kernel_rfl) (by kernel_rfl) (by simp [h]) (goL ?_)
        by_cases h2 : l[i] > 10000
        · refine Reach.bool 21 (t := decide (l[i] > 10000)) true (decide_eq_true h2) (by kernel_rfl) (go ?_)
          refine Reach.lit 2 (u := .int .i64 3) (by kernel_rfl) ?_
          exact Reach.finV (symI 3) (by kernel_rfl) fun _ => ⟨by rw [hd, chkE, size3 (.inr h2)]; rfl, rfl⟩
        · refine Reach.bool 21 (t := decide (l[i] > 10000)) false (decide_eq_false h2) (by kernel_rfl) (goL ?_)
          refine Reach.int 3 ((i + 1 : Nat) : Int) (W64_id (by omega) (by omega)) (by kernel_rfl) (Reach.into ?_)
          refine Reach.keep [0, 3] (Reach.cast (c' := headCh l (i + 1 : Nat)) (by kernel_rfl) ?_)
          have := ih (i + 1) (by omega) (by omega) hl
          rw [hd, chkE, size0 h1 h2]
          exact this
    · have : i = l.length := by omega
      subst this
      refine Reach.bool 7 (t := decide ((l.length : Int) < l.length)) false (decide_eq_false (Int.lt_irrefl _)) (by kernel_rfl) (go ?_)
      refine Reach.lit 2 (u := .int .i64 0) (by kernel_rfl) ?_
      exact Reach.finV (symI 0) (by kernel_rfl) fun _ => ⟨by rw [List.drop_length]; rfl, rfl⟩
theorem chk_at (l : List Int) (hl : l.length < 4611686018427387904) : CallAt Tryz.prog [] (.fn 13) [.f (.one (.b (.slc 0 0 l.length l.length)))] [.cells 3 (l.map sI)] 1 (fun x _ => x = symI (chkE l) ∧ plainV x = true) := by
  refine CallAt.args (args := [slyI 0 l.length]) ?_ fun σ vs h => h
  refine call_of_reach entersP (by kernel_rfl) (goL (Reach.into ?_))
  refine Reach.lit 3 (u := .int .i64 0) (by kernel_rfl) ?_
  refine Reach.keep [0, 3] (Reach.cast (c' := headCh l (0 : Nat)) (by kernel_rfl) ?_)
  exact chk_loop l l.length 0 (by omega) (by omega) hl
noncomputable def fiI0 : Cf := intoLoop (runL Tryz.prog [] nimp noCall 12 none 2000 (startS Tryz.prog 12 [.f (.one (.b (.slc 0 0 1 1)))] [.cells 3 [sI 0]] 1))
noncomputable def headFi (l : List Int) (i : Int) : Cf := atC fiI0.1 19 [(0, slyI 0 l.length), (3, symI i)] [.cells 3 (l.map sI)] 1
theorem first_loop (l : List Int) : ∀ (m i : Nat), l.length - i ≤ m → i ≤ l.length → l.length < 4611686018427387904 →
    Reach Tryz.prog [] 12 none (headFi l i) (Ends Tryz.prog 12 (fun x _ => x = symI (firstE (l.drop i)) ∧ plainV x = true)) := by
  intro m
  induction m with
  | zero =>
    intro i hm hi hl
    have : i = l.length := by omega
    subst this
    refine goL (Reach.len1 (n := l.length) (by kernel_rfl) (goL ?_))
    refine Reach.bool 7 (t := decide ((l.length : Int) < l.length)) false (decide_eq_false (Int.lt_irrefl _)) (by kernel_rfl) (go ?_)
    refine Reach.lit 2 (u := .int .i64 0) (by kernel_rfl) ?_
    exact Reach.finV (symI 0) (by kernel_rfl) fun _ => ⟨by rw [List.drop_length]; rfl, rfl⟩
  | succ m ih =>
    intro i hm hi hl
    refine goL (Reach.len1 (n := l.length) (by kernel_rfl) (goL ?_))
    by_cases h : i < l.length
    · have hd : l.drop i = l[i] :: l.drop (i + 1) := List.drop_eq_getElem_cons h
      refine Reach.bool 7 true (decide_eq_true (Int.ofNat_lt.2 h)) (by kernel_rfl) (goL ?_)
      refine Reach.idx (k := 0) (off := 0) (n := l.length) (i := i) (m := 1) (by kernel_rfl) (Int.natCast_nonneg i) (Int.ofNat_lt.2 h) (goL ?_)
      refine Reach.ld1 (k := 0) (off := 0 + (i : Int).toNat * 1) (l := l.map sI) (d := sI l[i]) (by kernel_rfl) (by kernel_rfl) (by simp [h]) (goL ?_)
      by_cases h1 : l[i] = 0
      · refine Reach.bool 14 (t := l[i] != 0) false (bne_f h1) (by kernel_rfl) (goL ?_)
        refine Reach.int 3 ((i + 1 : Nat) : Int) (W64_id (by omega) (by omega)) (by kernel_rfl) (Reach.into ?_)
        refine Reach.keep [0, 3] (Reach.cast (c' := headFi l (i + 1 : Nat)) (by kernel_rfl) ?_)
        have := ih (i + 1) (by omega) (by omega) hl
        rw [hd, firstE, h1]
        exact this
      · refine Reach.bool 14 (t := l[i] != 0) true (bne_t h1) (by kernel_rfl) (goL ?_)
        refine Reach.idx (k := 0) (off := 0) (n := l.length) (i := i) (m := 1) (by kernel_rfl) (Int.natCast_nonneg i) (Int.ofNat_lt.2 h) (goL ?_)
        refine Reach.ld1 (k := 0) (off := 0 + (i : Int).toNat * 1) (l := l.map sI) (d := sI l[i]) (by kernel_rfl) (by kernel_rfl) (by simp [h]) (go ?_)
        exact Reach.finV (symI l[i]) (by kernel_rfl) fun _ => ⟨by rw [hd, firstE, or2, if_neg h1], rfl⟩
    · have : i = l.length := by omega
      subst this
      refine Reach.bool 7 (t := decide ((l.length : Int) < l.length)) false (decide_eq_false (Int.lt_irrefl _)) (by kernel_rfl) (go ?_)
      refine Reach.lit 2 (u := .int .i64 0) (by kernel_rfl) ?_
      exact Reach.finV (symI 0) (by kernel_rfl) fun _ => ⟨by rw [List.drop_length]; rfl, rfl⟩
theorem first_at (l : List Int) (hl : l.length < 4611686018427387904) : CallAt Tryz.prog [] (.fn 12) [.f (.one (.b (.slc 0 0 l.length l.length)))] [.cells 3 (l.map sI)] 1 (fun x _ => x = symI (firstE l) ∧ plainV x = true) := by
  refine CallAt.args (args := [slyI 0 l.length]) ?_ fun σ vs h => h
  refine call_of_reach entersP (by kernel_rfl) (goL (Reach.into ?_))
  refine Reach.lit 3 (u := .int .i64 0) (by kernel_rfl) ?_
  refine Reach.keep [0, 3] (Reach.cast (c' := headFi l (0 : Nat)) (by kernel_rfl) ?_)
  exact first_loop l l.length 0 (by omega) (by omega) hl
/-- Two lists with the same numbers. -/
noncomputable def siI0 : Cf := intoLoop (runL Tryz.prog [] nimp noCall 18 none 2000 (startS Tryz.prog 18 [.f (.one (.b (.slc 0 0 1 1))), .f (.one (.b (.row 1 0 1 1)))] [.cells 3 [sI 0], .row 3 [sI 0]] 2))
noncomputable def headSi (l : List Int) (i : Int) : Cf := atC siI0.1 26 [(0, slyI 0 l.length), (1, royI 1 l.length), (5, symI i)] [.cells 3 (l.map sI), .row 3 (l.map sI)] 2
theorem same_loop (l : List Int) : ∀ (m i : Nat), l.length - i ≤ m → i ≤ l.length → l.length < 4611686018427387904 →
    Reach Tryz.prog [] 18 none (headSi l i) (Ends Tryz.prog 18 (fun x _ => x = lv (.bool true) ∧ plainV x = true)) := by
  intro m
  induction m with
  | zero =>
    intro i hm hi hl
    have : i = l.length := by omega
    subst this
    refine goL (Reach.len1 (n := l.length) (by kernel_rfl) (goL ?_))
    refine Reach.bool 14 (t := decide ((l.length : Int) < l.length)) false (decide_eq_false (Int.lt_irrefl _)) (by kernel_rfl) (go ?_)
    exact Reach.finV (lv (.bool true)) (by kernel_rfl) fun _ => ⟨rfl, rfl⟩
  | succ m ih =>
    intro i hm hi hl
    refine goL (Reach.len1 (n := l.length) (by kernel_rfl) (goL ?_))
    by_cases h : i < l.length
    · refine Reach.bool 14 true (decide_eq_true (Int.ofNat_lt.2 h)) (by kernel_rfl) (goL ?_)
      refine Reach.open' 0 (x := slyI 0 l.length) (.f (.one (.b (.slc 0 0 l.length l.length)))) (by kernel_rfl) (fun σ v h => h) ?_
      refine Reach.open' 1 (x := royI 1 l.length) (.f (.one (.b (.row 1 0 l.length 1)))) (by kernel_rfl) (fun σ v h => h) ?_
      refine Reach.unsym 5 (u := .int .i64 i) (by kernel_rfl) ?_
      refine Reach.drawn1 mixP (imp := nimp) noCall_ok (by kernel_rfl) (by kernel_rfl) (DrOk.run 2 ?_)
      refine DrOk.idx (k := 0) (off := 0) (n := l.length) (i := i) (m := 1) (by kernel_rfl) (Int.natCast_nonneg i) (Int.ofNat_lt.2 h) ?_
      refine DrOk.ld (k := 0) (off := 0 + (i : Int).toNat * 1) (l := l.map sI) (x := sI l[i]) (by kernel_rfl) (by kernel_rfl) (by simp [h]) (DrOk.run 2 ?_)
      refine DrOk.idx (k := 1) (off := 0) (n := l.length) (i := i) (m := 1) (by kernel_rfl) (Int.natCast_nonneg i) (Int.ofNat_lt.2 h) ?_
      refine DrOk.ld (k := 1) (off := 0 + (i : Int).toNat * 1) (l := l.map sI) (x := sI l[i]) (by kernel_rfl) (by kernel_rfl) (by simp [h]) (DrOk.run 1 ?_)
      refine DrOk.fin (by kernel_rfl) ⟨by kernel_rfl, ?_⟩
      refine Reach.bool 25 (t := l[i] != l[i]) false (by simp) (by kernel_rfl) ?_
      refine Reach.open' 0 (x := .f (.one (.b (.slc 0 0 l.length l.length)))) (slyI 0 l.length) (by kernel_rfl) (fun σ v h => h) ?_
      refine Reach.open' 1 (x := .f (.one (.b (.row 1 0 l.length 1)))) (royI 1 l.length) (by kernel_rfl) (fun σ v h => h) ?_
      refine Reach.lit 5 (u := .int .i64 i) (by kernel_rfl) (goL ?_)
      refine Reach.int 5 ((i + 1 : Nat) : Int) (W64_id (by omega) (by omega)) (by kernel_rfl) (Reach.into ?_)
      refine Reach.keep [0, 1, 5] (Reach.cast (c' := headSi l (i + 1 : Nat)) (by kernel_rfl) ?_)
      exact ih (i + 1) (by omega) (by omega) hl
    · have : i = l.length := by omega
      subst this
      refine Reach.bool 14 (t := decide ((l.length : Int) < l.length)) false (decide_eq_false (Int.lt_irrefl _)) (by kernel_rfl) (go ?_)
      exact Reach.finV (lv (.bool true)) (by kernel_rfl) fun _ => ⟨rfl, rfl⟩
theorem same_at (l : List Int) (hl : l.length < 4611686018427387904) : CallAt Tryz.prog [] (.fn 18) [slyI 0 l.length, royI 1 l.length] [.cells 3 (l.map sI), .row 3 (l.map sI)] 2 (fun x _ => x = lv (.bool true) ∧ plainV x = true) := by
  refine call_of_reach entersP (by kernel_rfl) (goL ?_)
  refine Reach.len1 (n := l.length) (by kernel_rfl) (goL ?_)
  refine Reach.len1 (n := l.length) (by kernel_rfl) (goL ?_)
  refine Reach.bool 10 (t := (l.length : Int) != l.length) false (by simp) (by kernel_rfl) (goL (Reach.into ?_))
  refine Reach.lit 5 (u := .int .i64 0) (by kernel_rfl) ?_
  refine Reach.keep [0, 1, 5] (Reach.cast (c' := headSi l (0 : Nat)) (by kernel_rfl) ?_)
  exact same_loop l l.length 0 (by omega) (by omega) hl
theorem whenL_any (b : Bool) (e : Int) : PureAt Tryz.prog 14 [symB b, symI e] (· = symI (if b = true then e else 0)) := by
  refine pure_of_call (call_of_reach entersP (by kernel_rfl) (go ?_))
  cases b with
  | true =>
    refine Reach.bool 5 true rfl (by kernel_rfl) (go ?_)
    exact Reach.finV (symI e) (by kernel_rfl) fun _ => ⟨rfl, rfl⟩
  | false =>
    refine Reach.bool 5 false rfl (by kernel_rfl) (go ?_)
    refine Reach.lit 4 (u := .int .i64 0) (by kernel_rfl) ?_
    exact Reach.finV (symI 0) (by kernel_rfl) fun _ => ⟨rfl, rfl⟩
theorem enters_has' {f : FuncId} {n : Nat} (h : hasB Tryz.prog f n = true) (args : Array Value) (w : World) : (callFunc f args).run Tryz.prog w = .ok (.enter f args) w := by
  unfold hasB at h
  split at h
  · rename_i fn hf
    rw [Bool.and_eq_true] at h
    obtain ⟨c, hb⟩ := Option.isSome_iff_exists.1 h.1
    exact enters_of entersP hf hb args w
  · cases h
/-- awake, whatever else there is. -/
theorem awakeG_at (G : Hp) (ro : Nat) : CallAt Tryz.prog gN (.fn 9) [] (h0 ++ G) ro (fun x H' => x = lv (.bool true) ∧ H' = h0 ++ G) := by
  intro σ w vs hro hm hgl ha
  rw [show vs = [] from ha]
  have hm' := HRep.pre hm (by kernel_rfl)
  have hgl' : GlOk gN (σ.cut h0.length) := fun k g e => by
    obtain ⟨n, e2⟩ := hgl k g e
    refine ⟨n, ?_⟩
    have : k < gN.length := (List.getElem?_eq_some_iff.1 e).1
    rw [cut_of (Nat.lt_of_lt_of_le this (by decide))]
    exact e2
  refine ⟨enters_has' (n := 0) (by kernel_rfl), (awake_run hm' hgl').mono ?_⟩
  rintro e w' ⟨rfl, hb⟩
  exact ⟨_, rfl, _, _, ⟨rfl, rfl⟩, σ, Left.below ro hm hb, rfl, rfl⟩

abbrev u8 (a : Int) : C := .b (.lit (.int .u8 a))
abbrev fR : FuncId := 4
abbrev nHi2 (d w : Int) : V := .tup [.one (sI (nHigh d w).1), .one (sI (nHigh d w).2)]
def tR : PureFn := orT (tab2 19 nHi2) (tab3 11 fun d t k => .tup [.one (sI (bestV d t k).1), .one (sI (bestV d t k).2)])
theorem tR_ok : TabOk Tryz.prog tR := orT_ok (tab2_ok nHighest_any) (tab3_ok nBest_any)
abbrev lawT : V → Hp → Prop := fun x _ => x = lv (.bool true) ∧ plainV x = true
noncomputable abbrev runT (c : Cf) : Cf := runS Tryz.prog gN nimp (pureCall fun f args => tR f (args.map symV1)) fR none 2000 c
abbrev gr {c : Cf} {Q : Cf → Prop} (h : Reach Tryz.prog gN fR none (runT c) Q) : Reach Tryz.prog gN fR none c Q := goT tR tR_ok h
abbrev grL {c : Cf} {Q : Cf → Prop} (h : Reach Tryz.prog gN fR none (runL Tryz.prog gN nimp (pureCall fun f args => tR f (args.map symV1)) fR none 2000 c) Q) : Reach Tryz.prog gN fR none c Q := Reach.runL mixP (pureCall_ok (pureOk_of tR_ok)) 2000 h
def dE (a : Int) : Int := W64 (1 + (W64 a).tmod 100)
def tE (a : Int) : Int := W64 (1 + (W64 a).tmod 40)
def kE (a : Int) : Int := (W64 a).tmod 10
def wE (p d : Int) : Int := W64 (1 + p.tmod d)
def nE (p : Int) : Int := W64 (1 + p.tmod 6)
theorem modE {a m : Int} (h0 : 0 ≤ a) (hm : 0 < m) : 0 ≤ a.tmod m ∧ a.tmod m < m := by
  rw [Int.tmod_eq_emod_of_nonneg h0]
  exact ⟨Int.emod_nonneg _ (by omega), Int.emod_lt_of_pos _ hm⟩
theorem dE_in {a : Int} (h0 : 0 ≤ a) (h1 : a ≤ 255) : 1 ≤ dE a ∧ dE a ≤ 100 := by
  unfold dE
  have := modE (m := 100) h0 (by decide)
  rw [W64_id (n := a) (by omega) (by omega), W64_id (by omega) (by omega)]
  omega
theorem tE_in {a : Int} (h0 : 0 ≤ a) (h1 : a ≤ 255) : 1 ≤ tE a ∧ tE a ≤ 40 := by
  unfold tE
  have := modE (m := 40) h0 (by decide)
  rw [W64_id (n := a) (by omega) (by omega), W64_id (by omega) (by omega)]
  omega
theorem kE_in {a : Int} (h0 : 0 ≤ a) (h1 : a ≤ 255) : 0 ≤ kE a ∧ kE a ≤ 9 := by
  unfold kE
  have := modE (m := 10) h0 (by decide)
  rw [W64_id (n := a) (by omega) (by omega)]
  omega
theorem wE_in {p d : Int} (h0 : 0 ≤ p) (hd : 1 ≤ d) (hd' : d ≤ 10000) : 1 ≤ wE p d ∧ wE p d ≤ d := by
  unfold wE
  have := modE (m := d) h0 (by omega)
  rw [W64_id (by omega) (by omega)]
  omega
theorem nE_in {p : Int} (h0 : 0 ≤ p) : 1 ≤ nE p ∧ nE p ≤ 6 := by
  unfold nE
  have := modE (m := 6) h0 (by decide)
  rw [W64_id (by omega) (by omega)]
  omega
def boxR (a b c p : Int) : Blk := .cells 40 [u8 a, u8 b, u8 c, u8 p]
noncomputable def itA : List Item := (runT (afterCall (runT (startS Tryz.prog fR [.f (.agg [u8 0, u8 0, u8 0, u8 0])] h0 1)) (lv (.bool true)) (h0 ++ [boxR 0 0 0 0]))).1
/-- The call of Strongest. -/
noncomputable def stA (bx : Blk) (d t k p w : Int) : Cf := atC itA 343 [(3, symI d), (4, symI t), (5, symI k), (6, symI p), (7, symI w), (8, symI (nHigh d w).1), (9, symI (nHigh d w).2), (60, symI d)] (h0 ++ [bx]) 1
theorem round_top {a b c p : Int} (ha : 0 ≤ a) (ha' : a ≤ 255) (h : Reach Tryz.prog gN fR none (stA (boxR a b c p) (dE a) (tE b) (kE c) (W64 p) (wE (W64 p) (dE a))) (Ends Tryz.prog fR lawT)) : CallAt Tryz.prog gN (.fn fR) [.f (.agg [u8 a, u8 b, u8 c, u8 p])] h0 1 lawT := by
  refine call_of_reach entersP (by kernel_rfl) (Reach.run (imp := nimp) mixP noCall_ok 7 ?_)
  refine Reach.num 3 (n := dE a) (dE a) rfl (by kernel_rfl) (Reach.num 4 (n := tE b) (tE b) rfl (by kernel_rfl) (Reach.num 5 (n := kE c) (kE c) rfl (by kernel_rfl) (gr ?_)))
  refine Reach.rem1 (k := .i64) (a := W64 p) (b := dE a) (by kernel_rfl) (by have := dE_in ha ha'; omega) (gr ?_)
  refine Reach.callH (awakeG_at [boxR a b c p] 1) (by kernel_rfl) (by kernel_rfl) (by kernel_rfl) (gr ?_)
  refine Reach.num 6 (n := W64 p) (W64 p) rfl (by kernel_rfl) ?_
  exact Reach.keep [3, 4, 5, 6, 7, 8, 9, 60] (Reach.cast (by kernel_rfl) h)

/-- Both fit, or not: two literals. -/
theorem fit_lit {w h d : Int} {b : Bool} (hw : 1 ≤ w) (hw' : w ≤ 10000) (hh : 1 ≤ h) (hh' : h ≤ 10000) (hd : 1 ≤ d) (hd' : d ≤ 10000) (hb : decide (w * w + h * h ≤ d * d) = b) :
    PureAt Tryz.prog 21 [symI w, symI h, symI d] (· = .tup [.one (lc (.bool b)), .one (lc (.int .i64 0))]) := by
  have h1 : or3 (sizeE w) (sizeE h) (sizeE d) = 0 := by
    have e : ∀ {x : Int}, 1 ≤ x → x ≤ 10000 → sizeE x = 0 := fun a b => by unfold sizeE rangeE; rw [if_neg (by omega)]
    rw [e hw hw', e hh hh', e hd hd']; rfl
  have h2 : fitsE w h d = b := by rw [fitsE_eq (by omega) (by omega) (by omega) (by omega) (by omega) (by omega), hb]
  refine PureAt.res (nFits_any w h d) ?_
  rw [h1, h2, show (decide ((0 : Int) = 0) && b) = b from by simp]
  exact fun v hv => hv
noncomputable def stB0 (bx : Blk) (d t k p w : Int) (s : V) : Cf := runT (afterCall (stA bx d t k p w) s (h0 ++ [bx]))
noncomputable def itB0 : List Item := (runT (knowS 152 (lv (.bool false)) (runT (knowS 143 (lv (.bool false)) (runT (knowS 66 (lv (.bool false)) (stB0 .dead 0 0 0 0 0 (.tup [.one (zn 0), .one (zn 0), .one (zn 7)])))))))).1
/-- Ahead of the boards. -/
noncomputable def stB (bx : Blk) (d t k p : Int) : Cf := atC itB0 343 [(3, symI d), (4, symI t), (5, symI k), (153, symI p)] (h0 ++ [bx]) 1
section
variable {bx : Blk} {d t k p w : Int} (hd : 1 ≤ d) (hd' : d ≤ 100) (hw : 1 ≤ w) (hw' : w ≤ d)
include hd hd' hw hw'
theorem nHigh_is : nHigh d w = if highE d w < 1 then (0, 7) else (highE d w, 0) := by
  unfold nHigh
  rw [size_ok (by omega) (by omega), size_ok (by omega) (by omega)]
  exact if_pos rfl
set_option maxRecDepth 100000 in
theorem sect_at {Q : Cf → Prop} (h : Reach Tryz.prog gN fR none (stB bx d t k p) Q) : Reach Tryz.prog gN fR none (stA bx d t k p w) Q := by
  have hn := nHigh_is hd hd' hw hw'
  by_cases hx : w = d
  · have hlt : highE d w < 1 := (high_pos hd (by omega) hw hw').2 hx
    rw [if_pos hlt] at hn
    have tail : ∀ x y z : C, Reach Tryz.prog gN fR none (stB0 bx d t k p w (.tup [.one x, .one y, .one z])) Q := fun x y z => by
      refine Reach.bool 66 (t := (nHigh d w).2 == 0) false (by rw [hn]; rfl) (by kernel_rfl) (gr ?_)
      refine Reach.bool 143 (t := (nHigh d w).2 != 7) false (by rw [hn]; rfl) (by kernel_rfl) (gr ?_)
      refine Reach.bool 152 (t := decide (W64 (W64 (w * w) + 1) ≤ W64 (d * d))) false ?_ (by kernel_rfl) (gr ?_)
      · rw [hx]
        have := sq_range (a := d) (by omega) (by omega)
        rw [W64_sq (by omega) (by omega), W64_id (by omega) (by omega)]
        exact decide_eq_false (by omega)
      exact Reach.keep [3, 4, 5, 153] (Reach.cast (by kernel_rfl) h)
    by_cases h1 : d = 1
    · subst h1
      exact Reach.pure1 (by kernel_rfl) rfl nStr_one (gr (tail _ _ _))
    · exact Reach.pure1 (by kernel_rfl) rfl (nStr_ok (d := d) (by omega) (by omega)) (gr (tail _ _ _))
  · have hlt : ¬ highE d w < 1 := fun e => hx ((high_pos hd (by omega) hw hw').1 e)
    rw [if_neg hlt] at hn
    have e0 : hh d w = highE d w := by unfold hh; rw [if_neg hlt]
    obtain ⟨g1, g2, g3, g4⟩ := hh_is hd (by omega) hw (by omega)
    rw [e0] at g1 g2 g3 g4
    obtain ⟨s1, s2, s3, s4, s5, s6⟩ := sS_fit hd (by omega) (d.toNat - 1) (by omega) (by omega)
    have s7 := sS_max (d := d) (d.toNat - 1) w (by omega) hw (by omega)
    rw [e0, s6] at s7
    generalize ha : (sS d (d.toNat - 1)).1 = a at *
    generalize hb : (sS d (d.toNat - 1)).2.1 = b at *
    have c1 := cube_range (x := w) (y := highE d w) (by omega) (by omega) (by omega) (by omega)
    have c2 := cube_range (x := a) (y := b) (by omega) (by omega) (by omega) (by omega)
    refine Reach.pure1 (by kernel_rfl) rfl (nStr_ok (d := d) (by omega) (by omega)) (gr ?_)
    rw [ha, hb]
    refine Reach.bool 66 (t := (nHigh d w).2 == 0) true (by rw [hn]; rfl) (by kernel_rfl) ?_
    refine Reach.int 8 (n := (nHigh d w).1) (highE d w) (by rw [hn]) (by kernel_rfl) (gr ?_)
    refine Reach.pure1 (by kernel_rfl) rfl (fit_lit (b := true) hw (by omega) (by omega) (by omega) hd (by omega) (decide_eq_true (g3 _ (by omega) (Int.le_refl _)))) (gr ?_)
    refine Reach.int 77 (n := W64 (highE d w + 1)) (highE d w + 1) (W64_id (by omega) (by omega)) (by kernel_rfl) ?_
    refine Reach.pure1 (by kernel_rfl) rfl (fit_lit (b := false) hw (by omega) (h := highE d w + 1) (by omega) (by omega) hd (by omega) (decide_eq_false (by have := g4 (highE d w + 1) (by omega) (by omega); omega))) (gr ?_)
    refine Reach.bool 101 (t := decide (a < 1)) false (decide_eq_false (by omega)) (by kernel_rfl) (gr ?_)
    refine Reach.bool 105 (t := decide (b < 1)) false (decide_eq_false (by omega)) (by kernel_rfl) (gr ?_)
    refine Reach.bool 110 (t := decide (a > d)) false (decide_eq_false (by omega)) (by kernel_rfl) (gr ?_)
    refine Reach.bool 115 (t := decide (b > d)) false (decide_eq_false (by omega)) (by kernel_rfl) (gr ?_)
    refine Reach.bool 128 (t := decide (W64 (W64 (a * a) + W64 (b * b)) > W64 (d * d))) false ?_ (by kernel_rfl) (gr ?_)
    · have q1 := sq_range (a := a) (by omega) (by omega); have q2 := sq_range (a := b) (by omega) (by omega)
      rw [W64_sq (by omega) (by omega), W64_sq (by omega) (by omega), W64_sq (by omega) (by omega), W64_id (by omega) (by omega)]
      exact decide_eq_false (by omega)
    refine Reach.bool 140 (t := decide (W64 (W64 (w * highE d w) * highE d w) > W64 (W64 (a * b) * b))) false ?_ (by kernel_rfl) (gr ?_)
    · rw [W64_id (n := w * highE d w) (by omega) (by omega), W64_id (n := a * b) (by omega) (by omega), W64_id (by omega) (by omega), W64_id (by omega) (by omega)]
      exact decide_eq_false (by omega)
    exact Reach.keep [3, 4, 5, 153] (Reach.cast (by kernel_rfl) h)
end

abbrev errsB (d t k n : Int) : Blk := .cells 26 [sI (sizeE d), sI (sizeE t), sI (rangeE k 0 10000), sI (rangeE n 1 64)]
abbrev intsB (l : List Int) : Blk := .cells 3 (l.map sI)
theorem boardsP (D T K n : Int) {x : V} {G : Hp} (h : boardsR D T K n x G) : plainV x = true ∨ (nfV x = true ∧ G.all plainK = true) := by
  unfold boardsR at h
  split at h
  · split at h
    · exact .inl (by rw [h]; rfl)
    · exact .inr ⟨by rw [h.1]; rfl, by rw [h.2]; simp [plainK, List.all_map, plainC, plainB]⟩
  · exact .inl (by rw [h]; rfl)
/-- nest.Boards in any memory, where all is in range. -/
theorem boardsH_at {gl : List Nat} {H : Hp} {ro : Nat} {d t k n : Int} (h : boardsE d t k n = 0) :
    CallAt Tryz.prog gl (.fn 10) [symI d, symI t, symI k, symI n] H ro (fun y K => match sawE d t k (lowE t k n) n.toNat with
      | none => y = .tup [.one (.b (.lit (.slice none 0 0))), .one (sI 7)] ∧ K = H
      | some ws => y = .tup [.one (.b (.sly (1 + H.length) 0 n.toNat n.toNat)), .one (sI 0)] ∧ K = H ++ [errsB d t k n, intsB ws]) := by
  intro σ w vs h1 h2 h3 h4
  obtain ⟨e1, e2⟩ := CallAt.fresh (gl := gl) (H := H) (ro := ro) (boards_at d t k n) rfl (fun x G hx => boardsP d t k n hx) σ w vs h1 h2 h3 h4
  refine ⟨e1, e2.mono ?_⟩
  rintro e w' ⟨v, he, y, K, ⟨x, G, hx, hy⟩, hv⟩
  refine ⟨v, he, y, K, ?_, hv⟩
  unfold boardsR at hx
  rw [if_pos h] at hx
  cases hs : sawE d t k (lowE t k n) n.toNat with
  | none =>
    rw [hs] at hx
    subst hx
    rcases hy with ⟨_, rfl, rfl⟩ | ⟨hp, rfl, rfl⟩
    · exact ⟨rfl, rfl⟩
    · cases hp
  | some ws =>
    rw [hs] at hx
    obtain ⟨rfl, rfl⟩ := hx
    rcases hy with ⟨hp, rfl, rfl⟩ | ⟨_, rfl, rfl⟩
    · cases hp
    · exact ⟨rfl, rfl⟩
section
variable {bx : Blk} {d t k p : Int} (hd : 1 ≤ d) (hd' : d ≤ 100) (ht : 1 ≤ t) (ht' : t ≤ 40) (hk : 0 ≤ k) (hk' : k ≤ 9) (hp : 0 ≤ p)
section
include ht ht' hk hk'
theorem dom_all : ∀ n, 1 ≤ n → n ≤ 64 → Dom t k n := fun n h1 h2 => ⟨ht, by omega, hk, by omega, h1, h2⟩
end
include hd hd' ht ht' hk hk'
theorem boardsE_z {n : Int} (h1 : 1 ≤ n) (h2 : n ≤ 64) : boardsE d t k n = 0 := by
  unfold boardsE
  rw [size_ok (by omega) (by omega), size_ok (by omega) (by omega), show rangeE k 0 10000 = 0 from by unfold rangeE; rw [if_neg (by omega)], show rangeE n 1 64 = 0 from by unfold rangeE; rw [if_neg (by omega)]]
  rfl
theorem or3_z : or3 (sizeE d) (sizeE t) (rangeE k 0 10000) = 0 := by
  rw [size_ok (by omega) (by omega), size_ok (by omega) (by omega), show rangeE k 0 10000 = 0 from by unfold rangeE; rw [if_neg (by omega)]]
  rfl
theorem best_none (h : topE d t k = none) : bestV d t k = (0, 7) := by
  unfold bestV
  rw [if_pos (or3_z hd hd' ht ht' hk hk'), h]
theorem best_some {y : Int × Int} (h : topE d t k = some y) : bestV d t k = (y.1, 0) := by
  unfold bestV
  rw [if_pos (or3_z hd hd' ht ht' hk hk'), h]
theorem top_p {y : Int × Int} (h : topE d t k = some y) : BestP d t k 65 y.1 y.2 := by
  unfold topE at h
  exact top_prop hd (by omega) (dom_all ht ht' hk hk') (N := 63) rfl h
theorem top_n (h : topE d t k = none) : ∀ n, 1 ≤ n → n ≤ 64 → sawE d t k (lowE t k n) n.toNat = none := by
  unfold topE at h
  exact top_none hd (by omega) (dom_all ht ht' hk hk') (N := 63) h
set_option maxRecDepth 100000 in
/-- The boards can't be sawn. -/
theorem boards_none (hp : 0 ≤ p) (hs : sawE d t k (lowE t k (nE p)) (nE p).toNat = none) : Reach Tryz.prog gN fR none (stB bx d t k p) (Ends Tryz.prog fR lawT) := by
  obtain ⟨n1, n2⟩ := nE_in hp
  refine Reach.rem1 (k := .i64) (a := p) (b := 6) (by kernel_rfl) (by decide) (gr ?_)
  refine Reach.callR (boardsH_at (gl := gN) (H := h0 ++ [bx]) (ro := 1) (n := nE p) (boardsE_z hd hd' ht ht' hk hk' n1 (by omega))) (by kernel_rfl) (by kernel_rfl) ?_
  intro y K hy
  simp only [hs] at hy
  obtain ⟨rfl, rfl⟩ := hy
  refine gr ?_
  refine Reach.bool 172 (t := (7 : Int) != 0) true (by decide) (by kernel_rfl) (gr ?_)
  refine Reach.bool 175 (t := (7 : Int) == 7) true (by decide) (by kernel_rfl) (gr ?_)
  cases htop : topE d t k with
  | none =>
    have hv := best_none hd hd' ht ht' hk hk' htop
    refine Reach.bool 178 (t := (bestV d t k).2 == 0) false (by rw [hv]; rfl) (by kernel_rfl) (gr ?_)
    refine Reach.bool 186 (t := (bestV d t k).2 == 7) true (by rw [hv]; rfl) (by kernel_rfl) (gr ?_)
    refine Reach.bool 2 (t := (bestV d t k).1 == 0) true (by rw [hv]; rfl) (by kernel_rfl) ?_
    exact Reach.finV (lv (.bool true)) (by kernel_rfl) fun _ => ⟨rfl, rfl⟩
  | some y =>
    have hv := best_some hd hd' ht ht' hk hk' htop
    obtain ⟨us, hu, _⟩ := (top_p hd hd' ht ht' hk hk' htop).bs
    have hne : y.1 ≠ nE p := fun e => by rw [e, hs] at hu; cases hu
    refine Reach.bool 178 (t := (bestV d t k).2 == 0) true (by rw [hv]; rfl) (by kernel_rfl) (gr ?_)
    refine Reach.bool 183 (t := (bestV d t k).1 != nE p) true (by rw [hv]; simpa using hne) (by kernel_rfl) (gr ?_)
    exact Reach.finV (lv (.bool true)) (by kernel_rfl) fun _ => ⟨rfl, rfl⟩
end

noncomputable abbrev runN (c : Cf) : Cf := runS Tryz.prog gN nimp noCall fR none 2000 c
noncomputable abbrev runNL (c : Cf) : Cf := runL Tryz.prog gN nimp noCall fR none 2000 c
/-- Behind the calls of the boards, as far as the first loop, with numbers in place of names. -/
noncomputable def dumC : Cf := intoLoop (runNL (afterCall (runN (afterCall (runN (afterCall (runN (atC itB0 343 [(3, zn0 10), (4, zn0 1), (5, zn0 0), (153, zn0 0)] (h0 ++ [.dead]) 1)) (.tup [.one (.b (.slc 3 0 1 1)), .one (zn 0)]) (h0 ++ [.dead, .dead, intsB [1]]))) (.tup [.one (zn 1), .one (zn 0)]) (h0 ++ [.dead, .dead, intsB [1]]))) (.tup [.one (.b (.slc 5 0 1 1)), .one (zn 0)]) (h0 ++ [.dead, .dead, intsB [1], .dead, intsB [1]])))
noncomputable def itC1 : List Item := dumC.1
noncomputable def itC2 : List Item := (intoLoop (runNL (knowS 26 (zn0 1) dumC))).1
section
variable (bx b1 b2 : Blk) (d t k n m : Int) (ws bs : List Int)
def memR : Hp := h0 ++ [bx, b1, intsB ws, b2, intsB bs]
noncomputable def headRP (a i : Int) : Cf := atC itC1 343 [(3, symI d), (4, symI t), (5, symI k), (17, symI n), (18, slyI 3 n.toNat), (20, symI m), (22, slyI 5 m.toNat), (24, symI 0), (25, symI a), (26, symI i)] (memR bx b1 b2 ws bs) 1
noncomputable def headRS (s a j : Int) : Cf := atC itC2 343 [(3, symI d), (4, symI t), (5, symI k), (17, symI n), (18, slyI 3 n.toNat), (20, symI m), (24, symI s), (25, symI a), (27, symI j)] (memR bx b1 b2 ws bs) 1
variable {Q : Cf → Prop} (hm : bs.length = m.toNat) (hm64 : m ≤ 64)
include hm hm64
theorem most_loop (a0 : Int) (h : Reach Tryz.prog gN fR none (headRS bx b1 b2 d t k n m ws bs 0 (sumE a0 bs) 0) Q) : ∀ (f i : Nat) (a : Int), bs.length - i ≤ f → i ≤ bs.length → sumE a (bs.drop i) = sumE a0 bs →
    Reach Tryz.prog gN fR none (headRP bx b1 b2 d t k n m ws bs a i) Q := by
  have last : ∀ a, sumE a ([] : List Int) = sumE a0 bs → Reach Tryz.prog gN fR none (headRP bx b1 b2 d t k n m ws bs a bs.length) Q := fun a ha => by
    refine grL (Reach.len1 (n := m.toNat) (by kernel_rfl) (grL ?_))
    refine Reach.bool 221 (t := decide ((bs.length : Int) < m.toNat)) false (decide_eq_false (by omega)) (by kernel_rfl) (grL (Reach.into ?_))
    refine Reach.lit 27 (u := .int .i64 0) (by kernel_rfl) ?_
    rw [← ha] at h
    exact Reach.keep [3, 4, 5, 17, 18, 20, 24, 25, 27] (Reach.cast (by kernel_rfl) h)
  intro f
  induction f with
  | zero =>
    intro i a hf hi ha
    have : i = bs.length := by omega
    subst this
    rw [List.drop_length] at ha
    exact last a ha
  | succ f ih =>
    intro i a hf hi ha
    by_cases hlt : i < bs.length
    · refine grL (Reach.len1 (n := m.toNat) (by kernel_rfl) (grL ?_))
      refine Reach.bool 221 (t := decide ((i : Int) < m.toNat)) true (decide_eq_true (by omega)) (by kernel_rfl) (grL ?_)
      refine Reach.idx (k := 5) (off := 0) (n := m.toNat) (i := i) (m := 1) (by kernel_rfl) (Int.natCast_nonneg i) (by omega) (grL ?_)
      refine Reach.ld1 (k := 5) (off := 0 + (i : Int).toNat * 1) (l := bs.map sI) (d := sI bs[i]) (by kernel_rfl) (by kernel_rfl) (by simp [hlt]) (grL ?_)
      refine Reach.int 26 ((i + 1 : Nat) : Int) (W64_id (by omega) (by omega)) (by kernel_rfl) (Reach.into ?_)
      refine Reach.keep [3, 4, 5, 17, 18, 20, 22, 24, 25, 26] (Reach.cast (c' := headRP bx b1 b2 d t k n m ws bs (W64 (a + bs[i])) (i + 1 : Nat)) (by kernel_rfl) ?_)
      refine ih (i + 1) (W64 (a + bs[i])) (by omega) (by omega) ?_
      rw [List.drop_eq_getElem_cons hlt] at ha
      exact ha
    · have : i = bs.length := by omega
      subst this
      rw [List.drop_length] at ha
      exact last a ha
end
end Go.Proofs.YtgkpejlddgoalaaGreatDoor.Zm
