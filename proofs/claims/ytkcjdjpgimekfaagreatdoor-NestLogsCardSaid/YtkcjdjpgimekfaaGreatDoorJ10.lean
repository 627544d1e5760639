/- Parts of the proof, joined. -/
import Derived.Test.YtkcjdjpgimekfaaGreatDoorJ9
set_option linter.unusedSimpArgs false
set_option linter.unusedVariables false
set_option linter.constructorNameAsVariable false
namespace Go.Proofs.YtkcjdjpgimekfaaGreatDoor.Zm
open Go.RowKit

abbrev goL {gl : List Nat} {fz : FuncId} {oz : Option Nat} {c : Cf} {Q : Cf → Prop} (h : Reach Tryz.prog gl fz oz (runL Tryz.prog gl nimp noCall fz oz 2000 c) Q) : Reach Tryz.prog gl fz oz c Q := Reach.runL mixP noCall_ok 2000 h
abbrev goN (n : Nat) {gl : List Nat} {fz : FuncId} {oz : Option Nat} {c : Cf} {Q : Cf → Prop} (h : Reach Tryz.prog gl fz oz (runS Tryz.prog gl nimp noCall fz oz n c) Q) : Reach Tryz.prog gl fz oz c Q := Reach.run mixP noCall_ok n h
theorem W64_id {n : Int} (h1 : -9223372036854775808 ≤ n) (h2 : n < 9223372036854775808) : W64 n = n := by
  show IntKind.i64.wrap n = n
  rw [IntKind.wrap_i64]; omega
/-- Of the first m squares, those that are at most n. -/
def cntS (n : Int) : Nat → Int
  | 0 => 0
  | m + 1 => cntS n m + (if (m : Int) * m ≤ n then 1 else 0)
def searchE (n : Int) : Int := cntS n 10001
/-- From r on squares are greater. -/
structure IsS (n r : Int) : Prop where
  lo : 0 ≤ r
  hi : r ≤ 10001
  below : ∀ k : Int, 0 ≤ k → k < r → k * k ≤ n
  above : ∀ k : Int, r ≤ k → k ≤ 10000 → n < k * k
theorem cnt_min {n r : Int} (h : IsS n r) : ∀ m : Nat, m ≤ 10001 → cntS n m = min (m : Int) r
  | 0, _ => by rw [cntS]; have := h.lo; omega
  | m + 1, hm => by
    rw [cntS, cnt_min h m (by omega)]
    by_cases hr : (m : Int) < r
    · rw [if_pos (h.below m (by omega) hr)]; omega
    · rw [if_neg (by have := h.above m (by omega) (by omega); omega)]; omega
theorem search_of {n r : Int} (h : IsS n r) : searchE n = r := by
  rw [searchE, cnt_min h 10001 (Nat.le_refl _)]; have := h.hi; omega
def gtE (r n : Int) : Bool := decide (W64 (r * r) > n)
theorem root1_at (r n : Int) : CallAt Tryz.prog [] (.fn 96) [symI r, .f (.one (.b (.ptr 0 0)))] [.cells 3 [sI n]] 1 (fun x _ => x = symB (gtE r n) ∧ plainV x = true) := by
  refine call_of_reach entersP (by kernel_rfl) (go ?_)
  exact Reach.finV (symB (gtE r n)) (by kernel_rfl) fun _ => ⟨rfl, rfl⟩
/-- The loop of Search. -/
noncomputable def headS (n i j : Int) : Cf := keepS [1, 5, 6] (knowS 6 (symI j) (knowS 5 (symI i) (intoLoop (runL Tryz.prog [] nimp noCall 95 none 2000 (startS Tryz.prog 95 [litI 10001, .f (.one (.fn 96 [] [(false, [.ptr 0 0])]))] [.cells 3 [sI n]] 1)))))
theorem sq_le {a b : Int} (h0 : 0 ≤ a) (h : a ≤ b) : a * a ≤ b * b := Int.mul_le_mul h h h0 (by omega)
theorem headS_ok (n : Int) : ∀ (m : Nat) (i j : Int), (j - i).toNat ≤ m → 0 ≤ i → i ≤ j → j ≤ 10001 → (∀ k : Int, 0 ≤ k → k < i → k * k ≤ n) → (∀ k : Int, j ≤ k → k ≤ 10000 → n < k * k) →
    Reach Tryz.prog [] 95 none (headS n i j) (Ends Tryz.prog 95 (fun x _ => x = symI (searchE n) ∧ plainV x = true)) := by
  intro m
  induction m with
  | zero =>
    intro i j hm h0 hij hj hb ha
    have : i = j := by omega
    subst this
    refine goL ?_
    refine Reach.bool 11 false (decide_eq_false (Int.lt_irrefl i)) (by kernel_rfl) (go ?_)
    exact Reach.finV (symI i) (by kernel_rfl) fun _ => ⟨by rw [search_of ⟨h0, hj, hb, ha⟩], rfl⟩
  | succ m ih =>
    intro i j hm h0 hij hj hb ha
    refine goL ?_
    by_cases hlt : i < j
    · refine Reach.bool 11 true (decide_eq_true hlt) (by kernel_rfl) (goL ?_)
      refine Reach.int 14 (i + j) (W64_id (by omega) (by omega)) (by kernel_rfl) ?_
      refine Reach.unsym 14 (u := .int .i64 (i + j)) (by kernel_rfl) (goN 4 ?_)
      refine Reach.num 7 (n := IntKind.i64.wrap ((IntKind.u64.wrap (i + j)).fdiv 2)) ((i + j) / 2) ?_ (by kernel_rfl) (goL ?_)
      · rw [IntKind.wrap_i64, IntKind.wrap_u64, Int.fdiv_eq_ediv_of_nonneg _ (by omega)]; omega
      refine Reach.askH (root1_at ((i + j) / 2) n) (by kernel_rfl) (by kernel_rfl) (goL ?_)
      have hsq : W64 ((i + j) / 2 * ((i + j) / 2)) = (i + j) / 2 * ((i + j) / 2) := by
        have h1 : (i + j) / 2 * ((i + j) / 2) ≤ 10001 * 10001 := sq_le (by omega) (by omega)
        have h2 : 0 ≤ (i + j) / 2 * ((i + j) / 2) := Int.mul_nonneg (by omega) (by omega)
        exact W64_id (by omega) (by omega)
      by_cases hg : n < (i + j) / 2 * ((i + j) / 2)
      · refine Reach.bool 20 (t := gtE ((i + j) / 2) n) true (by unfold gtE; rw [hsq]; exact decide_eq_true hg) (by kernel_rfl) (goL (Reach.into ?_))
        refine Reach.keep [1, 5, 6] (Reach.cast (c' := headS n i ((i + j) / 2)) (by kernel_rfl) ?_)
        exact ih i ((i + j) / 2) (by omega) h0 (by omega) (by omega) hb fun k h1 h2 => Int.lt_of_lt_of_le hg (sq_le (by omega) h1)
      · refine Reach.bool 20 (t := gtE ((i + j) / 2) n) false (by unfold gtE; rw [hsq]; exact decide_eq_false hg) (by kernel_rfl) (goL ?_)
        refine Reach.int 5 ((i + j) / 2 + 1) (W64_id (by omega) (by omega)) (by kernel_rfl) (Reach.into ?_)
        refine Reach.keep [1, 5, 6] (Reach.cast (c' := headS n ((i + j) / 2 + 1) j) (by kernel_rfl) ?_)
        exact ih ((i + j) / 2 + 1) j (by omega) (by omega) (by omega) hj (fun k h1 h2 => Int.le_trans (sq_le h1 (by omega)) (Int.not_lt.1 hg)) ha
    · have : i = j := by omega
      subst this
      refine Reach.bool 11 false (decide_eq_false (Int.lt_irrefl i)) (by kernel_rfl) (go ?_)
      exact Reach.finV (symI i) (by kernel_rfl) fun _ => ⟨by rw [search_of ⟨h0, hj, hb, ha⟩], rfl⟩
theorem search_at (n : Int) : CallAt Tryz.prog [] (.fn 95) [litI 10001, .f (.one (.fn 96 [] [(false, [.ptr 0 0])]))] [.cells 3 [sI n]] 1 (fun x _ => x = symI (searchE n) ∧ plainV x = true) := by
  refine call_of_reach entersP (by kernel_rfl) (goL (Reach.into ?_))
  refine Reach.lit 5 (u := .int .i64 0) (by kernel_rfl) (Reach.lit 6 (u := .int .i64 10001) (by kernel_rfl) ?_)
  refine Reach.keep [1, 5, 6] (Reach.cast (c' := headS n 0 10001) (by kernel_rfl) ?_)
  exact headS_ok n 10001 0 10001 (by decide) (by decide) (by decide) (by decide) (fun k h1 h2 => absurd h2 (Int.not_lt.2 h1)) (fun k h1 h2 => by omega)
def rootE (n : Int) : Int := searchE n - 1
theorem root_any (n : Int) : PureAt Tryz.prog 60 [symI n] (· = symI (W64 (searchE n - 1))) := by
  refine pure_of_call (call_of_reach entersP (by kernel_rfl) (go ?_))
  refine Reach.askH (search_at n) (by kernel_rfl) (by kernel_rfl) (go ?_)
  exact Reach.finV (symI (W64 (searchE n - 1))) (by kernel_rfl) fun _ => ⟨rfl, rfl⟩

abbrev goX (tab : PureFn) (ht : TabOk Tryz.prog tab) {gl : List Nat} {fz : FuncId} {oz : Option Nat} {c : Cf} {Q : Cf → Prop} (h : Reach Tryz.prog gl fz oz (runS Tryz.prog gl nimp (callX Tryz.prog gl nimp fun f args => tab f (args.map symV1)) fz oz 2000 c) Q) : Reach Tryz.prog gl fz oz c Q := Reach.run mixP (callX_ok mixP entersP (pureOk_of ht)) 2000 h
abbrev goXL (tab : PureFn) (ht : TabOk Tryz.prog tab) {gl : List Nat} {fz : FuncId} {oz : Option Nat} {c : Cf} {Q : Cf → Prop} (h : Reach Tryz.prog gl fz oz (runL Tryz.prog gl nimp (callX Tryz.prog gl nimp fun f args => tab f (args.map symV1)) fz oz 2000 c) Q) : Reach Tryz.prog gl fz oz c Q := Reach.runL mixP (callX_ok mixP entersP (pureOk_of ht)) 2000 h
def t2 : PureFn := orT t1 (tab1 60 fun n => symI (W64 (searchE n - 1)))
theorem t2_ok : TabOk Tryz.prog t2 := orT_ok t1_ok (tab1_ok root_any)
def highE (d w : Int) : Int := W64 (searchE (W64 (W64 (d * d) - W64 (w * w))) - 1)
theorem highest_any (d w : Int) : PureAt Tryz.prog 29 [symI d, symI w] (· = symI (highE d w)) := by
  refine pure_of_call (call_of_reach entersP (by kernel_rfl) (goT t2 t2_ok ?_))
  exact Reach.finV (symI (highE d w)) (by kernel_rfl) fun _ => ⟨rfl, rfl⟩
theorem or2z_at (a b : Int) : CallAt Tryz.prog [] (.fn 26) ([] ++ .f (.one (.b (.slc 0 0 2 2))) :: []) [.cells 23 [sI a, sI b]] 1 (fun x _ => x = symI (or2 a b) ∧ plainV x = true) := or2_at a b
theorem isNaN_any (a : Int) : PureAt Tryz.prog 62 [symI a] (· = symB (a != a)) := by
  refine pure_of_call (call_of_reach entersP (by kernel_rfl) (go ?_))
  exact Reach.finV (symB (a != a)) (by kernel_rfl) fun _ => ⟨rfl, rfl⟩
def cmpE (a b : Int) : Int := if a < b then -1 else if a > b then 1 else 0
def strE (a b : Int) : Int := W64 (W64 (a * b) * b)
theorem strength_any (a b : Int) : PureAt Tryz.prog 34 [.f (.agg [sI a, sI b])] (· = symI (strE a b)) := by
  refine pure_of_call (call_of_reach entersP (by kernel_rfl) (go ?_))
  exact Reach.finV (symI (strE a b)) (by kernel_rfl) fun _ => ⟨rfl, rfl⟩
theorem compare_any (a b : Int) : PureAt Tryz.prog 33 [symI a, symI b] (· = symI (cmpE a b)) := by
  refine pure_of_call (call_of_reach entersP (by kernel_rfl) (go ?_))
  refine Reach.pure1 (by kernel_rfl) rfl (isNaN_any a) (go ?_)
  refine Reach.pure1 (by kernel_rfl) rfl (isNaN_any b) (go ?_)
  refine Reach.bool 11 (t := a != a) false (by simp) (by kernel_rfl) (go ?_)
  refine Reach.bool 13 (t := b != b) false (by simp) (by kernel_rfl) (go ?_)
  by_cases h1 : a < b
  · refine Reach.bool 16 true (decide_eq_true h1) (by kernel_rfl) (go ?_)
    refine Reach.lit 4 (u := .int .i64 (-1)) (by kernel_rfl) ?_
    exact Reach.finV (symI (-1)) (by kernel_rfl) fun _ => ⟨by rw [cmpE, if_pos h1], rfl⟩
  · refine Reach.bool 16 false (decide_eq_false h1) (by kernel_rfl) (go ?_)
    by_cases h2 : a > b
    · refine Reach.bool 19 true (decide_eq_true h2) (by kernel_rfl) (go ?_)
      refine Reach.lit 4 (u := .int .i64 1) (by kernel_rfl) ?_
      exact Reach.finV (symI 1) (by kernel_rfl) fun _ => ⟨by rw [cmpE, if_neg h1, if_pos h2], rfl⟩
    · refine Reach.bool 19 false (decide_eq_false h2) (by kernel_rfl) (go ?_)
      refine Reach.lit 4 (u := .int .i64 0) (by kernel_rfl) ?_
      exact Reach.finV (symI 0) (by kernel_rfl) fun _ => ⟨by rw [cmpE, if_neg h1, if_neg h2], rfl⟩
def t3 : PureFn := orT t2 (orT (tab2 29 fun a b => symI (highE a b)) (orT (tab2 33 fun a b => symI (cmpE a b)) (tabA 34 fun a b => symI (strE a b))))
theorem t3_ok : TabOk Tryz.prog t3 := orT_ok t2_ok (orT_ok (tab2_ok highest_any) (orT_ok (tab2_ok compare_any) (tabA_ok strength_any)))
/-- nest.Highest. -/
def nHigh (d w : Int) : Int × Int := if or2 (sizeE d) (sizeE w) = 0 then (if highE d w < 1 then (0, 7) else (highE d w, 0)) else (0, or2 (sizeE d) (sizeE w))
theorem nHighest_any (d w : Int) : PureAt Tryz.prog 6 [symI d, symI w] (· = .tup [.one (sI (nHigh d w).1), .one (sI (nHigh d w).2)]) := by
  refine pure_of_call (call_of_reach entersP (by kernel_rfl) (goT t3 t3_ok ?_))
  refine Reach.read1 0 (or2_at (sizeE d) (sizeE w)) (by kernel_rfl) (by kernel_rfl) (by kernel_rfl) rfl rfl (goT t3 t3_ok ?_)
  by_cases h : or2 (sizeE d) (sizeE w) = 0
  · refine Reach.bool 15 false (bne_f h) (by kernel_rfl) (goT t3 t3_ok ?_)
    by_cases h1 : highE d w < 1
    · refine Reach.bool 21 true (decide_eq_true h1) (by kernel_rfl) (goT t3 t3_ok ?_)
      refine Reach.lit 4 (u := .int .i64 0) (by kernel_rfl) (Reach.lit 5 (u := .int .i64 7) (by kernel_rfl) ?_)
      exact Reach.finV (.tup [.one (sI 0), .one (sI 7)]) (by kernel_rfl) fun _ => ⟨by rw [nHigh, if_pos h, if_pos h1], rfl⟩
    · refine Reach.bool 21 false (decide_eq_false h1) (by kernel_rfl) (goT t3 t3_ok ?_)
      refine Reach.lit 5 (u := .int .i64 0) (by kernel_rfl) ?_
      exact Reach.finV (.tup [.one (sI (highE d w)), .one (sI 0)]) (by kernel_rfl) fun _ => ⟨by rw [nHigh, if_pos h, if_neg h1], rfl⟩
  · refine Reach.bool 15 true (bne_t h) (by kernel_rfl) (goT t3 t3_ok ?_)
    refine Reach.lit 4 (u := .int .i64 0) (by kernel_rfl) ?_
    exact Reach.finV (.tup [.one (sI 0), .one (sI (or2 (sizeE d) (sizeE w)))]) (by kernel_rfl) fun _ => ⟨by rw [nHigh, if_neg h], rfl⟩
/-- The comparison of strengths. -/
theorem cmpS_any (a b c d : Int) : PureAt Tryz.prog 32 [.f (.agg [sI a, sI b]), .f (.agg [sI c, sI d])] (· = symI (cmpE (strE a b) (strE c d))) := by
  refine pure_of_call (call_of_reach entersP (by kernel_rfl) (goT t3 t3_ok ?_))
  exact Reach.finV (symI (cmpE (strE a b) (strE c d))) (by kernel_rfl) fun _ => ⟨rfl, rfl⟩

theorem cnt_is {n : Int} : ∀ m : Nat, 0 ≤ cntS n m ∧ cntS n m ≤ m ∧ (∀ k : Int, 0 ≤ k → k < cntS n m → k * k ≤ n) ∧ (∀ k : Int, cntS n m ≤ k → k < m → n < k * k)
  | 0 => ⟨Int.le_refl _, Int.le_refl _, fun k h1 h2 => absurd h2 (Int.not_lt.2 h1), fun k h1 h2 => absurd h2 (Int.not_lt.2 h1)⟩
  | m + 1 => by
    obtain ⟨h1, h2, h3, h4⟩ := cnt_is (n := n) m
    by_cases h : (m : Int) * m ≤ n
    · have hm : cntS n m = m := by
        rcases Int.lt_or_le (cntS n m) m with hlt | hge
        · have := h4 (cntS n m) (Int.le_refl _) hlt
          have := sq_le h1 (Int.le_of_lt hlt)
          omega
        · omega
      rw [cntS, if_pos h, hm]
      refine ⟨by omega, by omega, fun k h5 h6 => Int.le_trans (sq_le h5 (show k ≤ m by omega)) h, fun k h5 h6 => by omega⟩
    · rw [cntS, if_neg h]
      refine ⟨by omega, by omega, fun k h5 h6 => h3 k h5 (by omega), fun k h5 h6 => ?_⟩
      rcases Int.lt_or_le k m with hlt | hge
      · exact h4 k (by omega) hlt
      · have : k = m := by omega
        subst this; omega
theorem isS (n : Int) : IsS n (searchE n) := by
  obtain ⟨h1, h2, h3, h4⟩ := cnt_is (n := n) 10001
  exact ⟨h1, h2, h3, fun k h5 h6 => h4 k h5 (by omega)⟩
theorem sq_range {a : Int} (h0 : 0 ≤ a) (h : a ≤ 10001) : 0 ≤ a * a ∧ a * a ≤ 100020001 := ⟨Int.mul_nonneg h0 h0, Int.le_trans (sq_le h0 h) (by decide)⟩
theorem W64_sq {a : Int} (h0 : 0 ≤ a) (h : a ≤ 10001) : W64 (a * a) = a * a := by have := sq_range h0 h; exact W64_id (by omega) (by omega)
theorem fitsE_eq {a b d : Int} (ha : 0 ≤ a) (ha' : a ≤ 10001) (hb : 0 ≤ b) (hb' : b ≤ 10001) (hd : 0 ≤ d) (hd' : d ≤ 10001) : fitsE a b d = decide (a * a + b * b ≤ d * d) := by
  have h1 := sq_range ha ha'; have h2 := sq_range hb hb'
  unfold fitsE
  rw [W64_sq ha ha', W64_sq hb hb', W64_sq hd hd', W64_id (by omega) (by omega)]
/-- What the greatest height is. -/
theorem high_is {d w : Int} (hd : 1 ≤ d) (hd' : d ≤ 10000) (hw : 1 ≤ w) (hw' : w ≤ 10000) :
    -1 ≤ highE d w ∧ highE d w ≤ 10000 ∧ (∀ k : Int, 0 ≤ k → k ≤ highE d w → w * w + k * k ≤ d * d) ∧ (∀ k : Int, highE d w < k → k ≤ 10000 → d * d < w * w + k * k) := by
  have h1 := sq_range (a := d) (by omega) (by omega); have h2 := sq_range (a := w) (by omega) (by omega)
  have h := isS (d * d - w * w)
  have hlo := h.lo; have hhi := h.hi
  have e : highE d w = searchE (d * d - w * w) - 1 := by
    unfold highE
    rw [W64_sq (by omega) (by omega), W64_sq (by omega) (by omega), W64_id (n := d * d - w * w) (by omega) (by omega), W64_id (by omega) (by omega)]
  rw [e]
  refine ⟨by omega, by omega, fun k h3 h4 => ?_, fun k h3 h4 => ?_⟩
  · have := h.below k h3 (by omega); omega
  · have := h.above k (by omega) h4; omega
def hh (d w : Int) : Int := if highE d w < 1 then 0 else highE d w
theorem hh_is {d w : Int} (hd : 1 ≤ d) (hd' : d ≤ 10000) (hw : 1 ≤ w) (hw' : w ≤ 10000) : 0 ≤ hh d w ∧ hh d w ≤ d ∧ (∀ k : Int, 1 ≤ k → k ≤ hh d w → w * w + k * k ≤ d * d) ∧ (∀ k : Int, hh d w < k → k ≤ 10001 → d * d < w * w + k * k) := by
  obtain ⟨h1, h2, h3, h4⟩ := high_is hd hd' hw hw'
  have hle : hh d w ≤ d := by
    unfold hh
    split
    · omega
    · rename_i h
      rcases Int.lt_or_le d (highE d w) with hlt | hge
      · have := h3 (highE d w) (by omega) (Int.le_refl _)
        have := sq_le (show (0 : Int) ≤ d by omega) (Int.le_of_lt hlt)
        have := sq_range (a := w) (by omega) (by omega)
        have : 1 * 1 ≤ w * w := sq_le (by decide) hw
        omega
      · exact hge
  refine ⟨by unfold hh; split <;> omega, hle, fun k h5 h6 => ?_, fun k h5 h6 => ?_⟩
  · unfold hh at h6
    split at h6
    · omega
    · exact h3 k (by omega) h6
  · rcases Int.lt_or_le 10000 k with hk | hk
    · have : k = 10001 := by omega
      subst this
      have := sq_le (show (0 : Int) ≤ d by omega) hd'
      have := sq_range (a := w) (by omega) (by omega)
      omega
    refine h4 k ?_ hk
    unfold hh at h5
    split at h5 <;> omega
/-- The reference's loop over heights. -/
noncomputable def headH (d w h : Int) : Cf := keepS [0, 1, 5] (knowS 5 (symI h) (intoLoop (runL Tryz.prog [] nimp noCall 12 none 2000 (startS Tryz.prog 12 [symI d, symI w] [] 0))))
theorem headH_ok {d w : Int} (hd : 1 ≤ d) (hd' : d ≤ 10000) (hw : 1 ≤ w) (hw' : w ≤ 10000) : ∀ (m : Nat) (h : Int), (hh d w - h).toNat ≤ m → 0 ≤ h → h ≤ hh d w →
    Reach Tryz.prog [] 12 none (headH d w h) (Ends Tryz.prog 12 (fun x _ => x = symI (hh d w) ∧ plainV x = true)) := by
  obtain ⟨g1, g2, g3, g4⟩ := hh_is hd hd' hw hw'
  intro m
  induction m with
  | zero =>
    intro h hm h0 hle
    have e : h = hh d w := by omega
    refine goL (Reach.int 8 (h + 1) (W64_id (by omega) (by omega)) (by kernel_rfl) ?_)
    refine Reach.pure1 (by kernel_rfl) rfl (refFits_any w (h + 1) d) ?_
    refine Reach.bool 10 (t := fitsE w (h + 1) d) false ?_ (by kernel_rfl) (go ?_)
    · rw [fitsE_eq (by omega) (by omega) (by omega) (by omega) (by omega) (by omega)]
      exact decide_eq_false (by have := g4 (h + 1) (by omega) (by omega); omega)
    exact Reach.finV (symI h) (by kernel_rfl) fun _ => ⟨by rw [e], rfl⟩
  | succ m ih =>
    intro h hm h0 hle
    refine goL (Reach.int 8 (h + 1) (W64_id (by omega) (by omega)) (by kernel_rfl) ?_)
    refine Reach.pure1 (by kernel_rfl) rfl (refFits_any w (h + 1) d) ?_
    by_cases hlt : h < hh d w
    · refine Reach.bool 10 (t := fitsE w (h + 1) d) true ?_ (by kernel_rfl) (goL ?_)
      · rw [fitsE_eq (by omega) (by omega) (by omega) (by omega) (by omega) (by omega)]
        exact decide_eq_true (g3 (h + 1) (by omega) (by omega))
      refine Reach.int 5 (h + 1) (W64_id (by omega) (by omega)) (by kernel_rfl) (Reach.into ?_)
      refine Reach.keep [0, 1, 5] (Reach.cast (c' := headH d w (h + 1)) (by kernel_rfl) ?_)
      exact ih (h + 1) (by omega) (by omega) (by omega)
    · have e : h = hh d w := by omega
      refine Reach.bool 10 (t := fitsE w (h + 1) d) false ?_ (by kernel_rfl) (go ?_)
      · rw [fitsE_eq (by omega) (by omega) (by omega) (by omega) (by omega) (by omega)]
        exact decide_eq_false (by have := g4 (h + 1) (by omega) (by omega); omega)
      exact Reach.finV (symI h) (by kernel_rfl) fun _ => ⟨by rw [e], rfl⟩
theorem refHighest_at {d w : Int} (hd : 1 ≤ d) (hd' : d ≤ 10000) (hw : 1 ≤ w) (hw' : w ≤ 10000) : PureAt Tryz.prog 12 [symI d, symI w] (· = symI (hh d w)) := by
  refine pure_of_call (call_of_reach entersP (by kernel_rfl) (goL (Reach.into ?_)))
  refine Reach.lit 5 (u := .int .i64 0) (by kernel_rfl) ?_
  refine Reach.keep [0, 1, 5] (Reach.cast (c' := headH d w 0) (by kernel_rfl) ?_)
  exact headH_ok hd hd' hw hw' _ 0 (Nat.le_refl _) (by decide) (hh_is hd hd' hw hw').1
/-- The strongest section among the first m widths. -/
def sS (d : Int) : Nat → Int × Int × Int
  | 0 => (0, 0, 0)
  | m + 1 => if ((m : Int) + 1) * hh d (m + 1) * hh d (m + 1) > (sS d m).2.2 then ((m : Int) + 1, hh d (m + 1), ((m : Int) + 1) * hh d (m + 1) * hh d (m + 1)) else sS d m
noncomputable def headT (d w h b x : Int) : Cf := keepS [0, 4, 5, 6, 7] (knowS 7 (symI x) (knowS 6 (symI b) (knowS 5 (symI h) (knowS 4 (symI w) (intoLoop (runL Tryz.prog [] nimp noCall 11 none 2000 (startS Tryz.prog 11 [symI d] [] 0)))))))
theorem cube_range {x y : Int} (hx : 0 ≤ x) (hx' : x ≤ 10000) (hy : 0 ≤ y) (hy' : y ≤ 10000) : 0 ≤ x * y ∧ x * y ≤ 100000000 ∧ 0 ≤ x * y * y ∧ x * y * y ≤ 1000000000000 := by
  have h1 : 0 ≤ x * y := Int.mul_nonneg hx hy
  have h2 : x * y ≤ 10000 * 10000 := Int.mul_le_mul hx' hy' hy (by decide)
  have h3 : x * y * y ≤ 100000000 * 10000 := Int.mul_le_mul h2 hy' hy (by decide)
  exact ⟨h1, h2, Int.mul_nonneg h1 hy, h3⟩
set_option maxRecDepth 100000 in
theorem headT_ok {d : Int} (hd : 1 ≤ d) (hd' : d ≤ 10000) : ∀ (n : Nat) (m : Nat), d.toNat - m ≤ n → (m : Int) ≤ d →
    Reach Tryz.prog [] 11 none (headT d (sS d m).1 (sS d m).2.1 (sS d m).2.2 (m + 1)) (Ends Tryz.prog 11 (fun x _ => x = .tup [.one (sI (sS d d.toNat).1), .one (sI (sS d d.toNat).2.1)] ∧ plainV x = true)) := by
  intro n
  induction n with
  | zero =>
    intro m hn hm
    have e : d.toNat = m := by omega
    refine goL (Reach.bool 11 false (decide_eq_false (show ¬ ((m : Int) + 1 ≤ d) by omega)) (by kernel_rfl) (go ?_))
    exact Reach.finV (.tup [.one (sI (sS d m).1), .one (sI (sS d m).2.1)]) (by kernel_rfl) fun _ => ⟨by rw [e], rfl⟩
  | succ n ih =>
    intro m hn hm
    by_cases hlt : (m : Int) + 1 ≤ d
    · obtain ⟨g1, g2, _, _⟩ := hh_is hd hd' (w := (m : Int) + 1) (by omega) (by omega)
      have hc := cube_range (x := (m : Int) + 1) (y := hh d (m + 1)) (by omega) (by omega) g1 (by omega)
      have hw : W64 (W64 (((m : Int) + 1) * hh d (m + 1)) * hh d (m + 1)) = ((m : Int) + 1) * hh d (m + 1) * hh d (m + 1) := by
        rw [W64_id (n := ((m : Int) + 1) * hh d (m + 1)) (by omega) (by omega), W64_id (by omega) (by omega)]
      refine goL (Reach.bool 11 true (decide_eq_true hlt) (by kernel_rfl) (goL ?_))
      refine Reach.pure1 (by kernel_rfl) rfl (refHighest_at hd hd' (w := (m : Int) + 1) (by omega) (by omega)) (goL ?_)
      by_cases hg : ((m : Int) + 1) * hh d (m + 1) * hh d (m + 1) > (sS d m).2.2
      · have hs : sS d (m + 1) = ((m : Int) + 1, hh d (m + 1), ((m : Int) + 1) * hh d (m + 1) * hh d (m + 1)) := by rw [sS, if_pos hg]
        refine Reach.bool 23 (t := decide (W64 (W64 (((m : Int) + 1) * hh d (m + 1)) * hh d (m + 1)) > (sS d m).2.2)) true (by rw [hw]; exact decide_eq_true hg) (by kernel_rfl) (goL ?_)
        refine Reach.int 6 _ hw (by kernel_rfl) (Reach.int 7 ((m : Int) + 1 + 1) (W64_id (by omega) (by omega)) (by kernel_rfl) (Reach.into ?_))
        refine Reach.keep [0, 4, 5, 6, 7] (Reach.cast (c' := headT d ((m : Int) + 1) (hh d (m + 1)) (((m : Int) + 1) * hh d (m + 1) * hh d (m + 1)) ((m : Int) + 1 + 1)) (by kernel_rfl) ?_)
        have := ih (m + 1) (by omega) (by omega)
        rw [hs, show ((m + 1 : Nat) : Int) = (m : Int) + 1 from by omega] at this
        dsimp only at this
        exact this
      · have hs : sS d (m + 1) = sS d m := by rw [sS, if_neg hg]
        refine Reach.bool 23 (t := decide (W64 (W64 (((m : Int) + 1) * hh d (m + 1)) * hh d (m + 1)) > (sS d m).2.2)) false (by rw [hw]; exact decide_eq_false hg) (by kernel_rfl) (goL ?_)
        refine Reach.int 7 ((m : Int) + 1 + 1) (W64_id (by omega) (by omega)) (by kernel_rfl) (Reach.into ?_)
        refine Reach.keep [0, 4, 5, 6, 7] (Reach.cast (c' := headT d (sS d m).1 (sS d m).2.1 (sS d m).2.2 ((m : Int) + 1 + 1)) (by kernel_rfl) ?_)
        have := ih (m + 1) (by omega) (by omega)
        rw [hs, show ((m + 1 : Nat) : Int) = (m : Int) + 1 from by omega] at this
        exact this
    · have e : d.toNat = m := by omega
      refine goL (Reach.bool 11 false (decide_eq_false hlt) (by kernel_rfl) (go ?_))
      exact Reach.finV (.tup [.one (sI (sS d m).1), .one (sI (sS d m).2.1)]) (by kernel_rfl) fun _ => ⟨by rw [e], rfl⟩
theorem refStrongest_at {d : Int} (hd : 1 ≤ d) (hd' : d ≤ 10000) : PureAt Tryz.prog 11 [symI d] (· = .tup [.one (sI (sS d d.toNat).1), .one (sI (sS d d.toNat).2.1)]) := by
  refine pure_of_call (call_of_reach entersP (by kernel_rfl) (goL (Reach.into ?_)))
  refine Reach.lit 4 (u := .int .i64 0) (by kernel_rfl) (Reach.lit 5 (u := .int .i64 0) (by kernel_rfl) (Reach.lit 6 (u := .int .i64 0) (by kernel_rfl) (Reach.lit 7 (u := .int .i64 1) (by kernel_rfl) ?_)))
  refine Reach.keep [0, 4, 5, 6, 7] (Reach.cast (c' := headT d 0 0 0 1) (by kernel_rfl) ?_)
  exact headT_ok hd hd' d.toNat 0 (by omega) (by omega)

def t4 : PureFn := orT t3 (tabC 32 fun a b c d => symI (cmpE (strE a b) (strE c d)))
theorem t4_ok : TabOk Tryz.prog t4 := orT_ok t3_ok (tabC_ok cmpS_any)
abbrev zn (n : Int) : C := lc (.int .i64 n)
/-- greatest, as far as its loop. -/
noncomputable def gStart (d : Int) : Cf := runS Tryz.prog [] nimp noCall 30 none 2000 (startS Tryz.prog 30 [.f (.one (.fn 61 [] [(false, [.ptr 0 0])])), lv (.func (.func 32) #[] #[])] [.cells 3 [sI d]] 1)
noncomputable def gRange (d : Int) : FuncId × List V × Sz × Nat × List Item := (rangeS [] 30 none (gStart d)).getD (0, [], ⟨⟨0, .e⟩, [], 0, []⟩, 0, [])
noncomputable def gH (d : Int) : Hp := (gRange d).2.2.1.zh
/-- Memory when there is a best section. -/
noncomputable def gM (d w h : Int) : Hp := ((gH d).set 2 (.cells 52 [sI w, sI h])).set 3 (.cells 4 [lc (.bool true)])
theorem round0 (d x y : Int) : CallAt Tryz.prog [] (.yl 5) [.f (.agg [sI x, sI y])] (gH d) 1 (fun v H' => v = lv (.bool true) ∧ H' = gM d x y) := by
  refine CallAt.cutY (n := 6) ?_ (Nat.le_of_ble_eq_true (by kernel_rfl)) rfl (by kernel_rfl)
  refine yield_of_reach (fn := 30) (c0 := ((startR (gH d) 5 [.f (.agg [sI x, sI y])] 1).getD (0, ([], ⟨⟨0, .e⟩, [], 0, []⟩))).2) (by kernel_rfl) (goX t4 t4_ok ?_)
  exact Reach.finC (by kernel_rfl)
theorem round1 (d w h x y : Int) : CallAt Tryz.prog [] (.yl 5) [.f (.agg [sI x, sI y])] (gM d w h) 1 (fun v H' => v = lv (.bool true) ∧ H' = gM d (if cmpE (strE x y) (strE w h) > 0 then x else w) (if cmpE (strE x y) (strE w h) > 0 then y else h)) := by
  refine CallAt.cutY (n := 6) ?_ (Nat.le_of_ble_eq_true (by kernel_rfl)) rfl (by kernel_rfl)
  refine yield_of_reach (fn := 30) (c0 := ((startR (gM d w h) 5 [.f (.agg [sI x, sI y])] 1).getD (0, ([], ⟨⟨0, .e⟩, [], 0, []⟩))).2) (by kernel_rfl) (goX t4 t4_ok ?_)
  by_cases hg : cmpE (strE x y) (strE w h) > 0
  · rw [if_pos hg, if_pos hg]
    refine Reach.bool 17 true (decide_eq_true hg) (by kernel_rfl) (goX t4 t4_ok ?_)
    exact Reach.finC (by kernel_rfl)
  · rw [if_neg hg, if_neg hg]
    refine Reach.bool 17 false (decide_eq_false hg) (by kernel_rfl) (goX t4 t4_ok ?_)
    exact Reach.finC (by kernel_rfl)
theorem high_pos {d x : Int} (hd : 1 ≤ d) (hd' : d ≤ 10000) (hx : 1 ≤ x) (hx' : x ≤ d) : (highE d x < 1 ↔ x = d) := by
  obtain ⟨h1, h2, h3, h4⟩ := high_is hd hd' hx (by omega)
  have s1 := sq_le (show (0 : Int) ≤ x by omega) hx'
  constructor
  · intro h
    rcases Int.lt_or_le x d with hlt | hge
    · have a := h4 1 h (by decide)
      have b : (x + 1) * (x + 1) ≤ d * d := sq_le (by omega) (by omega)
      have e : (x + 1) * (x + 1) = x * x + 2 * x + 1 := by rw [Int.add_mul, Int.mul_add, Int.mul_one, Int.one_mul]; omega
      omega
    · omega
  · intro h
    subst h
    rcases Int.lt_or_le (highE x x) 1 with hlt | hge
    · exact hlt
    · have := h3 1 (by decide) hge; omega
theorem sS_is {d : Int} (hd : 1 ≤ d) (hd' : d ≤ 10000) (m : Nat) : 1 ≤ m → (m : Int) < d → (sS d m).2.2 = (sS d m).1 * (sS d m).2.1 * (sS d m).2.1 ∧ 1 ≤ (sS d m).1 ∧ (sS d m).1 ≤ m ∧ 1 ≤ (sS d m).2.1 ∧ (sS d m).2.1 ≤ d := by
  induction m with
  | zero => intro h; exact absurd h (by decide)
  | succ m ih =>
    intro _ hm
    have hx := (not_congr (high_pos hd hd' (x := (m : Int) + 1) (by omega) (by omega))).2 (by omega)
    obtain ⟨g1, g2, _, _⟩ := hh_is hd hd' (w := (m : Int) + 1) (by omega) (by omega)
    have hp : 1 ≤ hh d (m + 1) := by unfold hh; rw [if_neg hx]; omega
    by_cases hg : ((m : Int) + 1) * hh d (m + 1) * hh d (m + 1) > (sS d m).2.2
    · have e : sS d (m + 1) = ((m : Int) + 1, hh d (m + 1), ((m : Int) + 1) * hh d (m + 1) * hh d (m + 1)) := by rw [sS, if_pos hg]
      rw [e]
      dsimp only
      exact ⟨rfl, by omega, by omega, hp, g2⟩
    · have e : sS d (m + 1) = sS d m := by rw [sS, if_neg hg]
      rw [e]
      rcases Nat.eq_zero_or_pos m with h0 | h0
      · exfalso
        apply hg
        subst h0
        have h1 : (1 : Int) * 1 ≤ hh d 1 * hh d 1 := sq_le (by decide) (by simpa using hp)
        simp only [Int.natCast_zero, Int.zero_add, Int.one_mul, sS]
        omega
      · obtain ⟨e1, e2, e3, e4, e5⟩ := ih h0 (by omega)
        exact ⟨e1, e2, by omega, e4, e5⟩
theorem sS_one {d : Int} (hd : 2 ≤ d) (hd' : d ≤ 10000) : sS d 1 = (1, highE d 1, 1 * highE d 1 * highE d 1) := by
  have hx := (not_congr (high_pos (by omega) hd' (x := 1) (by decide) (by omega))).2 (by omega)
  have e : hh d 1 = highE d 1 := by unfold hh; rw [if_neg hx]
  have : (1 : Int) * 1 ≤ highE d 1 * highE d 1 := sq_le (by decide) (by omega)
  rw [sS]
  simp only [Int.natCast_zero, Int.zero_add, e]
  rw [if_pos (by simp [sS]; omega)]
noncomputable def headQ (d x : Int) (H : Hp) : Cf := keepS [0, 1, 3] (knowS 3 (symI x) (heapS H (intoLoop (runL Tryz.prog [] nimp (callX Tryz.prog [] nimp fun f args => t3 f (args.map symV1)) 61 none 2000 (startS Tryz.prog 61 [.f (.one (.b (.yld 5))), .f (.one (.b (.ptr 0 0)))] (gH d) 1)))))
theorem cmp_pos {a b : Int} : cmpE a b > 0 ↔ a > b := by unfold cmpE; split <;> (try split) <;> omega
theorem strE_eq {x y : Int} (hx : 0 ≤ x) (hx' : x ≤ 10000) (hy : 0 ≤ y) (hy' : y ≤ 10000) : strE x y = x * y * y := by
  have hc := cube_range hx hx' hy hy'
  unfold strE
  rw [W64_id (n := x * y) (by omega) (by omega), W64_id (by omega) (by omega)]
set_option maxRecDepth 100000 in
theorem headQ_ok {d : Int} (hd : 1 ≤ d) (hd' : d ≤ 10000) : ∀ (n m : Nat), d.toNat - 1 - m ≤ n → 1 ≤ m → (m : Int) < d →
    Reach Tryz.prog [] 61 none (headQ d (m + 1) (gM d (sS d m).1 (sS d m).2.1)) (Ends Tryz.prog 61 (fun _ H' => H' = gM d (sS d (d.toNat - 1)).1 (sS d (d.toNat - 1)).2.1)) := by
  intro n
  induction n with
  | zero =>
    intro m hn hm hlt
    have e : d.toNat - 1 = m := by omega
    refine goXL t3 t3_ok (Reach.bool 12 (t := decide (highE d (m + 1) < 1)) true (decide_eq_true ((high_pos hd hd' (by omega) (by omega)).2 (by omega))) (by kernel_rfl) (goX t3 t3_ok ?_))
    exact Reach.fin (.tup []) (gM d (sS d m).1 (sS d m).2.1) (by kernel_rfl) (by rw [e])
  | succ n ih =>
    intro m hn hm hlt
    by_cases hx : (m : Int) + 1 = d
    · have e : d.toNat - 1 = m := by omega
      refine goXL t3 t3_ok (Reach.bool 12 (t := decide (highE d (m + 1) < 1)) true (decide_eq_true ((high_pos hd hd' (by omega) (by omega)).2 hx)) (by kernel_rfl) (goX t3 t3_ok ?_))
      exact Reach.fin (.tup []) (gM d (sS d m).1 (sS d m).2.1) (by kernel_rfl) (by rw [e])
    · have hng := (not_congr (high_pos hd hd' (x := (m : Int) + 1) (by omega) (by omega))).2 hx
      have eh : hh d (m + 1) = highE d (m + 1) := by unfold hh; rw [if_neg hng]
      obtain ⟨g1, g2, _, _⟩ := hh_is hd hd' (w := (m : Int) + 1) (by omega) (by omega)
      obtain ⟨f1, f2, f3, f4, f5⟩ := sS_is hd hd' m hm hlt
      refine goXL t3 t3_ok (Reach.bool 12 (t := decide (highE d (m + 1) < 1)) false (decide_eq_false hng) (by kernel_rfl) (goXL t3 t3_ok ?_))
      refine Reach.yield1 (round1 d (sS d m).1 (sS d m).2.1 (m + 1) (highE d (m + 1))) (by kernel_rfl) (by kernel_rfl) (by kernel_rfl) (goXL t3 t3_ok ?_)
      refine Reach.int 3 ((m : Int) + 1 + 1) (W64_id (by omega) (by omega)) (by kernel_rfl) (Reach.into ?_)
      have hc : cmpE (strE (m + 1) (highE d (m + 1))) (strE (sS d m).1 (sS d m).2.1) > 0 ↔ ((m : Int) + 1) * hh d (m + 1) * hh d (m + 1) > (sS d m).2.2 := by
        rw [cmp_pos, ← eh, strE_eq (by omega) (by omega) g1 (by omega), strE_eq (by omega) (by omega) (by omega) (by omega), f1]
      refine Reach.keep [0, 1, 3] (Reach.cast (c' := headQ d ((m : Int) + 1 + 1) (gM d (if cmpE (strE (m + 1) (highE d (m + 1))) (strE (sS d m).1 (sS d m).2.1) > 0 then (m : Int) + 1 else (sS d m).1) (if cmpE (strE (m + 1) (highE d (m + 1))) (strE (sS d m).1 (sS d m).2.1) > 0 then highE d (m + 1) else (sS d m).2.1))) (by kernel_rfl) ?_)
      have := ih (m + 1) (by omega) (by omega) (by omega)
      rw [show ((m + 1 : Nat) : Int) = (m : Int) + 1 from by omega] at this
      by_cases hg : ((m : Int) + 1) * hh d (m + 1) * hh d (m + 1) > (sS d m).2.2
      · rw [if_pos (hc.2 hg), if_pos (hc.2 hg)]
        rw [sS, if_pos hg] at this
        dsimp only at this
        rw [eh] at this
        exact this
      · rw [if_neg (fun h => hg (hc.1 h)), if_neg (fun h => hg (hc.1 h))]
        rw [sS, if_neg hg] at this
        exact this
/-- The sections of a log. -/
theorem secs_at {d : Int} (hd : 1 ≤ d) (hd' : d ≤ 10000) : CallAt Tryz.prog [] (.fn 61) [.f (.one (.b (.yld 5))), .f (.one (.b (.ptr 0 0)))] (gH d) 1 (fun _ H' => H' = if d = 1 then gH d else gM d (sS d (d.toNat - 1)).1 (sS d (d.toNat - 1)).2.1) := by
  refine call_of_reach entersP (by kernel_rfl) (goXL t3 t3_ok (Reach.into ?_))
  refine Reach.lit 3 (u := .int .i64 1) (by kernel_rfl) ?_
  refine Reach.keep [0, 1, 3] (Reach.cast (c' := headQ d 1 (gH d)) (by kernel_rfl) (goXL t3 t3_ok ?_))
  by_cases h1 : d = 1
  · rw [if_pos h1]
    refine Reach.bool 12 (t := decide (highE d 1 < 1)) true (decide_eq_true ((high_pos hd hd' (by omega) (by omega)).2 h1.symm)) (by kernel_rfl) (goX t3 t3_ok ?_)
    exact Reach.fin (.tup []) (gH d) (by kernel_rfl) rfl
  · rw [if_neg h1]
    have hng := (not_congr (high_pos hd hd' (x := 1) (by omega) (by omega))).2 (fun e => h1 e.symm)
    refine Reach.bool 12 (t := decide (highE d 1 < 1)) false (decide_eq_false hng) (by kernel_rfl) (goXL t3 t3_ok ?_)
    refine Reach.yield1 (round0 d 1 (highE d 1)) (by kernel_rfl) (by kernel_rfl) (by kernel_rfl) (goXL t3 t3_ok ?_)
    refine Reach.int 3 2 (W64_id (n := 1 + 1) (by decide) (by decide)) (by kernel_rfl) (Reach.into ?_)
    refine Reach.keep [0, 1, 3] (Reach.cast (c' := headQ d 2 (gM d 1 (highE d 1))) (by kernel_rfl) ?_)
    have := headQ_ok hd hd' d.toNat 1 (by omega) (Nat.le_refl _) (by omega)
    rw [sS_one (by omega) hd', show ((1 : Nat) : Int) + 1 = 2 from by decide] at this
    dsimp only at this
    exact this
end Go.Proofs.YtkcjdjpgimekfaaGreatDoor.Zm
