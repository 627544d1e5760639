/- Parts of the proof, joined. -/
import Derived.Test.YtkcjdjpgimekfaaGreatDoorJ10
import Derived.Test.YtkcjdjpgimekfaaGreatDoorJ11
set_option linter.unusedSimpArgs false
set_option linter.unusedVariables false
set_option linter.constructorNameAsVariable false
namespace Go.Proofs.YtkcjdjpgimekfaaGreatDoor.Zm
open Go.RowKit

set_option maxRecDepth 100000 in
theorem greatest_at {d : Int} (hd : 1 ≤ d) (hd' : d ≤ 10000) : CallAt Tryz.prog [] (.fn 30) [.f (.one (.fn 61 [] [(false, [.ptr 0 0])])), lv (.func (.func 32) #[] #[])] [.cells 3 [sI d]] 1
    (fun x _ => x = (if d = 1 then .tup [.agg [zn 0, zn 0], .one (lc (.bool false))] else .tup [.agg [sI (sS d (d.toNat - 1)).1, sI (sS d (d.toNat - 1)).2.1], .one (lc (.bool true))]) ∧ plainV x = true) := by
  refine call_of_reach entersP (by kernel_rfl) (Reach.run (imp := nimp) mixP noCall_ok 2000 ?_)
  refine Reach.range1 (s1 := (gRange d).2.2.1) (k := (gRange d).2.2.2.2) (l := 5) (secs_at hd hd') (by kernel_rfl) rfl (by kernel_rfl) ?_
  rintro x H' rfl
  by_cases h1 : d = 1
  · rw [if_pos h1, if_pos h1]
    refine ⟨none, ((overZ 5 { (gRange d).2.2.1 with zh := gH d }).getD (none, ⟨⟨0, .e⟩, [], 0, []⟩)).2, by kernel_rfl, go ?_⟩
    exact Reach.finV (.tup [.agg [zn 0, zn 0], .one (lc (.bool false))]) (by kernel_rfl) fun _ => ⟨rfl, rfl⟩
  · rw [if_neg h1, if_neg h1]
    refine ⟨none, ((overZ 5 { (gRange d).2.2.1 with zh := gM d (sS d (d.toNat - 1)).1 (sS d (d.toNat - 1)).2.1 }).getD (none, ⟨⟨0, .e⟩, [], 0, []⟩)).2, by kernel_rfl, go ?_⟩
    exact Reach.finV (.tup [.agg [sI (sS d (d.toNat - 1)).1, sI (sS d (d.toNat - 1)).2.1], .one (lc (.bool true))]) (by kernel_rfl) fun _ => ⟨rfl, rfl⟩
/-- nest.Strongest. -/
theorem nStr_bad {d : Int} (h : ¬ sizeE d = 0) : PureAt Tryz.prog 7 [symI d] (· = .tup [.one (zn 0), .one (zn 0), .one (sI (sizeE d))]) := by
  refine pure_of_call (call_of_reach entersP (by kernel_rfl) (goT t3 t3_ok ?_))
  refine Reach.bool 11 true (bne_t h) (by kernel_rfl) (goT t3 t3_ok ?_)
  exact Reach.finV (.tup [.one (zn 0), .one (zn 0), .one (sI (sizeE d))]) (by kernel_rfl) fun _ => ⟨rfl, rfl⟩
theorem size_ok {d : Int} (hd : 1 ≤ d) (hd' : d ≤ 10000) : sizeE d = 0 := by unfold sizeE rangeE; rw [if_neg (by omega)]
theorem size_no {d : Int} (h : ¬ sizeE d = 0) : sizeE d = 3 := by unfold sizeE rangeE at *; split <;> simp_all
theorem size_in {d : Int} (h : sizeE d = 0) : 1 ≤ d ∧ d ≤ 10000 := by unfold sizeE rangeE at h; split at h <;> omega
theorem nStr_one : PureAt Tryz.prog 7 [symI 1] (· = .tup [.one (zn 0), .one (zn 0), .one (zn 7)]) := by
  refine pure_of_call (call_of_reach entersP (by kernel_rfl) (goX t3 t3_ok ?_))
  refine Reach.bool 11 (t := sizeE 1 != 0) false (by rw [size_ok (by decide) (by decide)]; rfl) (by kernel_rfl) (goX t3 t3_ok ?_)
  refine Reach.askH (greatest_at (d := 1) (by decide) (by decide)) (by kernel_rfl) (by kernel_rfl) ?_
  rw [if_pos rfl]
  refine goX t3 t3_ok ?_
  exact Reach.finV (.tup [.one (zn 0), .one (zn 0), .one (zn 7)]) (by kernel_rfl) fun _ => ⟨rfl, rfl⟩
theorem nStr_ok {d : Int} (hd : 2 ≤ d) (hd' : d ≤ 10000) : PureAt Tryz.prog 7 [symI d] (· = .tup [.one (sI (sS d (d.toNat - 1)).1), .one (sI (sS d (d.toNat - 1)).2.1), .one (zn 0)]) := by
  refine pure_of_call (call_of_reach entersP (by kernel_rfl) (goX t3 t3_ok ?_))
  refine Reach.bool 11 (t := sizeE d != 0) false (by rw [size_ok (by omega) hd']; rfl) (by kernel_rfl) (goX t3 t3_ok ?_)
  refine Reach.askH (greatest_at (d := d) (by omega) hd') (by kernel_rfl) (by kernel_rfl) ?_
  rw [if_neg (by omega)]
  refine goX t3 t3_ok ?_
  exact Reach.finV (.tup [.one (sI (sS d (d.toNat - 1)).1), .one (sI (sS d (d.toNat - 1)).2.1), .one (zn 0)]) (by kernel_rfl) fun _ => ⟨rfl, rfl⟩
/-- The reference's errors of sizes. -/
theorem cs1_at (a : Int) : CallAt Tryz.prog [] (.fn 8) ([] ++ .f (.one (.b (.slc 0 0 1 1))) :: []) [.cells 3 [sI a]] 1 (fun x _ => x = symI (sizeE a) ∧ plainV x = true) := by
  refine call_of_reach entersP (by kernel_rfl) (go ?_)
  by_cases h1 : a < 1
  · refine Reach.bool 15 true (decide_eq_true h1) (by kernel_rfl) (go ?_)
    refine Reach.lit 2 (u := .int .i64 3) (by kernel_rfl) ?_
    exact Reach.finV (symI 3) (by kernel_rfl) fun _ => ⟨by rw [sizeE, rangeE, if_pos (.inl h1)], rfl⟩
  · refine Reach.bool 15 false (decide_eq_false h1) (by kernel_rfl) (go ?_)
    by_cases h2 : a > 10000
    · refine Reach.bool 21 true (decide_eq_true h2) (by kernel_rfl) (go ?_)
      refine Reach.lit 2 (u := .int .i64 3) (by kernel_rfl) ?_
      exact Reach.finV (symI 3) (by kernel_rfl) fun _ => ⟨by rw [sizeE, rangeE, if_pos (.inr h2)], rfl⟩
    · refine Reach.bool 21 false (decide_eq_false h2) (by kernel_rfl) (go ?_)
      refine Reach.lit 2 (u := .int .i64 0) (by kernel_rfl) ?_
      exact Reach.finV (symI 0) (by kernel_rfl) fun _ => ⟨by rw [sizeE, rangeE, if_neg (by omega)], rfl⟩
theorem cs3_at (a b c : Int) : CallAt Tryz.prog [] (.fn 8) ([] ++ .f (.one (.b (.slc 0 0 3 3))) :: []) [.cells 3 [sI a, sI b, sI c]] 1 (fun x _ => x = symI (or3 (sizeE a) (sizeE b) (sizeE c)) ∧ plainV x = true) := by
  have e3 : ∀ {n : Int}, n < 1 ∨ 10000 < n → sizeE n = 3 := fun h => by rw [sizeE, rangeE, if_pos h]
  have e0 : ∀ {n : Int}, ¬ n < 1 → ¬ n > 10000 → sizeE n = 0 := fun h h' => by rw [sizeE, rangeE, if_neg (by omega)]
  refine call_of_reach entersP (by kernel_rfl) (go ?_)
  by_cases h1 : a < 1
  · refine Reach.bool 15 true (decide_eq_true h1) (by kernel_rfl) (go (Reach.lit 2 (u := .int .i64 3) (by kernel_rfl) ?_))
    exact Reach.finV (symI 3) (by kernel_rfl) fun _ => ⟨by rw [e3 (.inl h1)]; rfl, rfl⟩
  refine Reach.bool 15 false (decide_eq_false h1) (by kernel_rfl) (go ?_)
  by_cases h2 : a > 10000
  · refine Reach.bool 21 true (decide_eq_true h2) (by kernel_rfl) (go (Reach.lit 2 (u := .int .i64 3) (by kernel_rfl) ?_))
    exact Reach.finV (symI 3) (by kernel_rfl) fun _ => ⟨by rw [e3 (.inr h2)]; rfl, rfl⟩
  refine Reach.bool 21 false (decide_eq_false h2) (by kernel_rfl) (go ?_)
  rw [e0 h1 h2, show or3 0 (sizeE b) (sizeE c) = or2 (sizeE b) (sizeE c) from rfl]
  by_cases h3 : b < 1
  · refine Reach.bool 15 true (decide_eq_true h3) (by kernel_rfl) (go (Reach.lit 2 (u := .int .i64 3) (by kernel_rfl) ?_))
    exact Reach.finV (symI 3) (by kernel_rfl) fun _ => ⟨by rw [e3 (.inl h3)]; rfl, rfl⟩
  refine Reach.bool 15 false (decide_eq_false h3) (by kernel_rfl) (go ?_)
  by_cases h4 : b > 10000
  · refine Reach.bool 21 true (decide_eq_true h4) (by kernel_rfl) (go (Reach.lit 2 (u := .int .i64 3) (by kernel_rfl) ?_))
    exact Reach.finV (symI 3) (by kernel_rfl) fun _ => ⟨by rw [e3 (.inr h4)]; rfl, rfl⟩
  refine Reach.bool 21 false (decide_eq_false h4) (by kernel_rfl) (go ?_)
  rw [e0 h3 h4, show or2 0 (sizeE c) = sizeE c from rfl]
  by_cases h5 : c < 1
  · refine Reach.bool 15 true (decide_eq_true h5) (by kernel_rfl) (go (Reach.lit 2 (u := .int .i64 3) (by kernel_rfl) ?_))
    exact Reach.finV (symI 3) (by kernel_rfl) fun _ => ⟨by rw [e3 (.inl h5)], rfl⟩
  refine Reach.bool 15 false (decide_eq_false h5) (by kernel_rfl) (go ?_)
  by_cases h6 : c > 10000
  · refine Reach.bool 21 true (decide_eq_true h6) (by kernel_rfl) (go (Reach.lit 2 (u := .int .i64 3) (by kernel_rfl) ?_))
    exact Reach.finV (symI 3) (by kernel_rfl) fun _ => ⟨by rw [e3 (.inr h6)], rfl⟩
  refine Reach.bool 21 false (decide_eq_false h6) (by kernel_rfl) (go (Reach.lit 2 (u := .int .i64 0) (by kernel_rfl) ?_))
  exact Reach.finV (symI 0) (by kernel_rfl) fun _ => ⟨by rw [e0 h5 h6], rfl⟩
/-- law.number, where it says yes. -/
theorem number_bad {h e b w : Int} (hb : ¬ b = 0) (h0 : h = 0) (he : e = b) : PureAt Tryz.prog 10 [symI h, symI e, symI b, symI w] (· = lv (.bool true)) := by
  refine pure_of_call (call_of_reach entersP (by kernel_rfl) (go ?_))
  refine Reach.bool 10 true (bne_t hb) (by kernel_rfl) (go ?_)
  refine Reach.bool 13 (t := h == 0) true (by simp [h0]) (by kernel_rfl) (go ?_)
  refine Reach.bool 8 (t := e == b) true (by simp [he]) (by kernel_rfl) ?_
  exact Reach.finV (lv (.bool true)) (by kernel_rfl) fun _ => ⟨rfl, rfl⟩
theorem number_badL {h e b : Int} (w : Int) (hb : ¬ b = 0) (h0 : h = 0) (he : e = b) : PureAt Tryz.prog 10 [symI h, symI e, symI b, litI w] (· = lv (.bool true)) :=
  (number_bad (w := w) hb h0 he).of fun _ ⟨v1, _, e1, h1, v2, _, e2, h2, v3, _, e3, h3, v4, _, e4, h4, h5⟩ => ⟨v1, _, e1, h1, v2, _, e2, h2, v3, _, e3, h3, v4, _, e4, h4, h5⟩
theorem number_ok {h e b w : Int} (hb : b = 0) (he : e = 0) (hw : h = w) : PureAt Tryz.prog 10 [symI h, symI e, symI b, symI w] (· = lv (.bool true)) := by
  refine pure_of_call (call_of_reach entersP (by kernel_rfl) (go ?_))
  refine Reach.bool 10 false (bne_f hb) (by kernel_rfl) (go ?_)
  refine Reach.bool 20 (t := e == 0) true (by simp [he]) (by kernel_rfl) (go ?_)
  refine Reach.bool 8 (t := h == w) true (by simp [hw]) (by kernel_rfl) ?_
  exact Reach.finV (lv (.bool true)) (by kernel_rfl) fun _ => ⟨rfl, rfl⟩

theorem enters_has {f : FuncId} {n : Nat} (h : hasB Tryz.prog f n = true) (args : Array Value) (w : World) : (callFunc f args).run Tryz.prog w = .ok (.enter f args) w := by
  unfold hasB at h
  split at h
  · rename_i fn hf
    rw [Bool.and_eq_true] at h
    obtain ⟨c, hb⟩ := Option.isSome_iff_exists.1 h.1
    exact enters_of entersP hf hb args w
  · cases h
theorem awake_at (ro : Nat) : CallAt Tryz.prog gN (.fn 4) [] h0 ro (fun x H' => x = lv (.bool true) ∧ H' = h0) := by
  intro σ w vs hro hm hgl ha
  rw [show vs = [] from ha]
  refine ⟨enters_has (n := 0) (by kernel_rfl), (awake_run hm hgl).mono ?_⟩
  rintro e w' ⟨rfl, hb⟩
  exact ⟨_, rfl, _, _, ⟨rfl, rfl⟩, σ, Left.below ro hm hb, rfl, rfl⟩
theorem when_any (b : Bool) : PureAt Tryz.prog 13 [symB b, litI 7] (· = symI (if b = true then 7 else 0)) := by
  refine pure_of_call (call_of_reach entersP (by kernel_rfl) (go ?_))
  cases b with
  | true =>
    refine Reach.bool 5 true rfl (by kernel_rfl) (go ?_)
    refine Reach.lit 4 (u := .int .i64 7) (by kernel_rfl) ?_
    exact Reach.finV (symI 7) (by kernel_rfl) fun _ => ⟨rfl, rfl⟩
  | false =>
    refine Reach.bool 5 false rfl (by kernel_rfl) (go ?_)
    refine Reach.lit 4 (u := .int .i64 0) (by kernel_rfl) ?_
    exact Reach.finV (symI 0) (by kernel_rfl) fun _ => ⟨rfl, rfl⟩
abbrev nFit (a b d : Int) : V := .tup [.one (.b (.sym (.bool (decide (or3 (sizeE a) (sizeE b) (sizeE d) = 0) && fitsE a b d)))), .one (sI (or3 (sizeE a) (sizeE b) (sizeE d)))]
abbrev nHi (d w : Int) : V := .tup [.one (sI (nHigh d w).1), .one (sI (nHigh d w).2)]
def t5 : PureFn := orT t3 (orT (tab3 5 nFit) (tab2 6 nHi))
theorem t5_ok : TabOk Tryz.prog t5 := orT_ok t3_ok (orT_ok (tab3_ok nFits_any) (tab2_ok nHighest_any))
theorem or3_z {a b c : Int} : or3 a b c = 0 ↔ a = 0 ∧ b = 0 ∧ c = 0 := by
  unfold or3 or2
  constructor
  · intro h
    split at h
    · split at h
      · exact ⟨by assumption, by assumption, h⟩
      · exact absurd h (by assumption)
    · exact absurd h (by assumption)
  · rintro ⟨rfl, rfl, rfl⟩; rfl
theorem sS_last {d : Int} (hd : 1 ≤ d) (hd' : d ≤ 10000) : sS d d.toNat = sS d (d.toNat - 1) := by
  obtain ⟨m, hm⟩ : ∃ m, d.toNat = m + 1 := ⟨d.toNat - 1, by omega⟩
  have e : (m : Int) + 1 = d := by omega
  have h0 : hh d (m + 1) = 0 := by unfold hh; rw [if_pos ((high_pos hd hd' (by omega) (by omega)).2 e)]
  have hb : 0 ≤ (sS d m).2.2 := by
    rcases Nat.eq_zero_or_pos m with h | h
    · subst h; exact Int.le_refl _
    · obtain ⟨f1, f2, f3, f4, f5⟩ := sS_is hd hd' m h (by omega)
      rw [f1]
      exact Int.mul_nonneg (Int.mul_nonneg (by omega) (by omega)) (by omega)
  rw [hm, Nat.add_sub_cancel, sS, h0, if_neg (by simp; exact hb)]
/-- The law, behind its first lines. -/
noncomputable def lawStart (W T D : Int) : Cf := afterCall (runS Tryz.prog gN nimp (pureCall fun f args => t5 f (args.map symV1)) 3 none 2000 (startS Tryz.prog 3 [symI W, symI T, symI D] h0 1)) (lv (.bool true)) h0
noncomputable def lawMain (W T D : Int) : Cf := keepS [0, 1, 2, 7, 8, 9, 10, 43] (runS Tryz.prog gN nimp (pureCall fun f args => t5 f (args.map symV1)) 3 none 2000 (knowS 23 (lv (.bool false)) (runS Tryz.prog gN nimp (pureCall fun f args => t5 f (args.map symV1)) 3 none 2000 (lawStart W T D))))
abbrev lawR : V → Hp → Prop := fun x _ => x = lv (.bool true) ∧ plainV x = true
abbrev gp {fz : FuncId} {oz : Option Nat} {c : Cf} {Q : Cf → Prop} (h : Reach Tryz.prog gN fz oz (runS Tryz.prog gN nimp (pureCall fun f args => t5 f (args.map symV1)) fz oz 2000 c) Q) : Reach Tryz.prog gN fz oz c Q := goT t5 t5_ok h
theorem main_bad {W T D : Int} (hD : ¬ sizeE D = 0) : Reach Tryz.prog gN 3 none (lawMain W T D) (Ends Tryz.prog 3 lawR) := by
  have hb : ¬ or3 (sizeE W) (sizeE T) (sizeE D) = 0 := fun h => hD (or3_z.1 h).2.2
  have hh1 : nHigh D W = (0, sizeE D) := by rw [nHigh, or2, if_neg (by rw [if_neg hD]; exact hD), if_neg hD]
  refine Reach.pure1 (by kernel_rfl) rfl (nStr_bad hD) (gp ?_)
  refine Reach.read1 1 (cs3_at W T D) (by kernel_rfl) (by kernel_rfl) (by kernel_rfl) rfl rfl (gp ?_)
  refine Reach.bool 55 true (bne_t hb) (by kernel_rfl) (gp ?_)
  refine Reach.bool 57 (t := decide (or3 (sizeE W) (sizeE T) (sizeE D) = 0) && fitsE W T D) false (by simp [hb]) (by kernel_rfl) (gp ?_)
  refine Reach.bool 63 (t := or3 (sizeE W) (sizeE T) (sizeE D) != or3 (sizeE W) (sizeE T) (sizeE D)) false (by simp) (by kernel_rfl) (gp ?_)
  refine Reach.bool 66 (t := or3 (sizeE W) (sizeE T) (sizeE D) == 0) false (by simp [hb]) (by kernel_rfl) (gp ?_)
  refine Reach.read1 2 (cs1_at D) (by kernel_rfl) (by kernel_rfl) (by kernel_rfl) rfl rfl (gp ?_)
  refine Reach.bool 83 true (bne_t hD) (by kernel_rfl) (gp ?_)
  refine Reach.pure1 (by kernel_rfl) rfl (number_badL (h := (nHigh D W).1) (e := (nHigh D W).2) 0 hD (by rw [hh1]) (by rw [hh1])) (gp ?_)
  refine Reach.bool 6 (t := sizeE D == sizeE D) true (by simp) (by kernel_rfl) ?_
  exact Reach.finV (lv (.bool true)) (by kernel_rfl) fun _ => ⟨rfl, rfl⟩
/-- The first comparison says no: the run goes on as if errors had been there. -/
noncomputable abbrev run5 (c : Cf) : Cf := runS Tryz.prog gN nimp (pureCall fun f args => t5 f (args.map symV1)) 3 none 2000 c
noncomputable def cmp7 (W T D : Int) (s : V) : Cf := run5 (afterCall (run5 (afterCall (lawMain W T D) s h0)) (symI (or3 (sizeE W) (sizeE T) (sizeE D))) (h0 ++ [.cells 3 [sI W, sI T, sI D]]))
noncomputable def next7 (W T D : Int) (s : V) : Cf := keepS [0, 1, 2, 9, 10, 11, 12, 13, 80] (run5 (knowS 66 (lv (.bool false)) (run5 (knowS 63 (lv (.bool false)) (run5 (knowS 57 (lv (.bool false)) (run5 (knowS 55 (lv (.bool true)) (cmp7 W T D s)))))))))
theorem law7 {W T D : Int} {x y z : C} {Q : Cf → Prop} (hD : sizeE D = 0) (h : Reach Tryz.prog gN 3 none (next7 W T D (.tup [.one x, .one y, .one z])) Q) :
    Reach Tryz.prog gN 3 none (cmp7 W T D (.tup [.one x, .one y, .one z])) Q := by
  by_cases hb : or3 (sizeE W) (sizeE T) (sizeE D) = 0
  · refine Reach.bool 55 false (bne_f hb) (by kernel_rfl) (gp ?_)
    refine Reach.bool 66 (t := or3 (sizeE W) (sizeE T) (sizeE D) == 0) true (by simp [hb]) (by kernel_rfl) (gp ?_)
    refine Reach.bool 69 false (bne_f hb) (by kernel_rfl) (gp ?_)
    cases hf : fitsE W T D with
    | true =>
      refine Reach.bool 70 (t := decide (or3 (sizeE W) (sizeE T) (sizeE D) = 0) && fitsE W T D) true (by simp [hb, hf]) (by kernel_rfl) ?_
      refine Reach.bool 74 (t := fitsE W T D) true hf (by kernel_rfl) (gp ?_)
      exact Reach.keep [0, 1, 2, 9, 10, 11, 12, 13, 80] (Reach.cast (c' := next7 W T D (.tup [.one x, .one y, .one z])) (by kernel_rfl) h)
    | false =>
      refine Reach.bool 70 (t := decide (or3 (sizeE W) (sizeE T) (sizeE D) = 0) && fitsE W T D) false (by simp [hf]) (by kernel_rfl) ?_
      refine Reach.bool 74 (t := fitsE W T D) false hf (by kernel_rfl) (gp ?_)
      exact Reach.keep [0, 1, 2, 9, 10, 11, 12, 13, 80] (Reach.cast (c' := next7 W T D (.tup [.one x, .one y, .one z])) (by kernel_rfl) h)
  · refine Reach.bool 55 true (bne_t hb) (by kernel_rfl) (gp ?_)
    refine Reach.bool 57 (t := decide (or3 (sizeE W) (sizeE T) (sizeE D) = 0) && fitsE W T D) false (by simp [hb]) (by kernel_rfl) (gp ?_)
    refine Reach.bool 63 (t := or3 (sizeE W) (sizeE T) (sizeE D) != or3 (sizeE W) (sizeE T) (sizeE D)) false (by simp) (by kernel_rfl) (gp ?_)
    refine Reach.bool 66 (t := or3 (sizeE W) (sizeE T) (sizeE D) == 0) false (by simp [hb]) (by kernel_rfl) (gp ?_)
    exact Reach.keep [0, 1, 2, 9, 10, 11, 12, 13, 80] h
/-- From the second list of sizes on. -/
noncomputable def next13 (W T D : Int) (s : V) (x y : Int) : Cf := run5 (afterCall (run5 (knowS 83 (lv (.bool false)) (run5 (afterCall (next7 W T D s) (symI (sizeE D)) (h0 ++ [.cells 3 [sI W, sI T, sI D], .cells 3 [sI D]]))))) (.tup [.one (sI x), .one (sI y)]) (h0 ++ [.cells 3 [sI W, sI T, sI D], .cells 3 [sI D]]))
theorem law9 {W T D : Int} {a b z : C} {Q : Cf → Prop} (hD : sizeE D = 0) (h : Reach Tryz.prog gN 3 none (next13 W T D (.tup [.one a, .one b, .one z]) (sS D (D.toNat - 1)).1 (sS D (D.toNat - 1)).2.1) Q) :
    Reach Tryz.prog gN 3 none (next7 W T D (.tup [.one a, .one b, .one z])) Q := by
  obtain ⟨h1, h2⟩ := size_in hD
  refine Reach.read1 2 (cs1_at D) (by kernel_rfl) (by kernel_rfl) (by kernel_rfl) rfl rfl (gp ?_)
  refine Reach.bool 83 (t := sizeE D != 0) false (bne_f hD) (by kernel_rfl) (gp ?_)
  refine Reach.pure1 (by kernel_rfl) rfl (refStrongest_at h1 h2) (gp ?_)
  rw [sS_last h1 h2]
  exact Reach.cast (c' := next13 W T D (.tup [.one a, .one b, .one z]) (sS D (D.toNat - 1)).1 (sS D (D.toNat - 1)).2.1) (by kernel_rfl) h
theorem main_one {W T : Int} : Reach Tryz.prog gN 3 none (lawMain W T 1) (Ends Tryz.prog 3 lawR) := by
  have hD : sizeE 1 = 0 := size_ok (by decide) (by decide)
  refine Reach.pure1 (by kernel_rfl) rfl nStr_one (gp ?_)
  refine Reach.read1 1 (cs3_at W T 1) (by kernel_rfl) (by kernel_rfl) (by kernel_rfl) rfl rfl (gp ?_)
  refine Reach.cast (c' := cmp7 W T 1 (.tup [.one (zn 0), .one (zn 0), .one (zn 7)])) (by kernel_rfl) (law7 hD (law9 hD ?_))
  refine Reach.bool 108 (t := (sS 1 ((1 : Int).toNat - 1)).1 == 0) true (by decide) (by kernel_rfl) (gp ?_)
  refine Reach.bool 123 (t := (sS 1 ((1 : Int).toNat - 1)).1 != 0) false (by decide) (by kernel_rfl) (gp ?_)
  refine Reach.read1 3 (cs1_at W) (by kernel_rfl) (by kernel_rfl) (by kernel_rfl) rfl rfl (gp ?_)
  by_cases hW : sizeE W = 0
  · obtain ⟨w1, w2⟩ := size_in hW
    refine Reach.bool 142 (t := sizeE W != 0) false (bne_f hW) (by kernel_rfl) (gp ?_)
    refine Reach.pure1 (by kernel_rfl) rfl (refHighest_at (d := 1) (w := W) (by decide) (by decide) w1 w2) (gp ?_)
    refine Reach.pure1 (by kernel_rfl) rfl (when_any (hh 1 W == 0)) (gp ?_)
    by_cases hg : highE 1 W < 1
    · have e : hh 1 W = 0 := by unfold hh; rw [if_pos hg]
      have e2 : nHigh 1 W = (0, 7) := by unfold nHigh; rw [hD, hW, if_pos (by rfl), if_pos hg]
      refine Reach.pure1 (by kernel_rfl) rfl (number_bad (h := (nHigh 1 W).1) (e := (nHigh 1 W).2) (b := if (hh 1 W == 0) = true then 7 else 0) (w := hh 1 W) (by rw [e]; decide) (by rw [e2]) (by rw [e2, e]; decide)) (gp ?_)
      exact Reach.finV (lv (.bool true)) (by kernel_rfl) fun _ => ⟨rfl, rfl⟩
    · have e : hh 1 W = highE 1 W := by unfold hh; rw [if_neg hg]
      have e3 : (hh 1 W == 0) = false := by rw [e, beq_eq_false_iff_ne]; omega
      have e2 : nHigh 1 W = (highE 1 W, 0) := by unfold nHigh; rw [hD, hW, if_pos (by rfl), if_neg hg]
      refine Reach.pure1 (by kernel_rfl) rfl (number_ok (h := (nHigh 1 W).1) (e := (nHigh 1 W).2) (b := if (hh 1 W == 0) = true then 7 else 0) (w := hh 1 W) (by rw [e3]; rfl) (by rw [e2]) (by rw [e2, e])) (gp ?_)
      exact Reach.finV (lv (.bool true)) (by kernel_rfl) fun _ => ⟨rfl, rfl⟩
  · refine Reach.bool 142 (t := sizeE W != 0) true (bne_t hW) (by kernel_rfl) (gp ?_)
    have e2 : nHigh 1 W = (0, sizeE W) := by unfold nHigh; rw [hD, show or2 0 (sizeE W) = sizeE W from rfl, if_neg hW]
    refine Reach.pure1 (by kernel_rfl) rfl (number_badL (h := (nHigh 1 W).1) (e := (nHigh 1 W).2) 0 hW (by rw [e2]) (by rw [e2])) (gp ?_)
    exact Reach.finV (lv (.bool true)) (by kernel_rfl) fun _ => ⟨rfl, rfl⟩
set_option maxRecDepth 100000 in
theorem main_many {W T D : Int} (h2 : 2 ≤ D) (h3 : D ≤ 10000) : Reach Tryz.prog gN 3 none (lawMain W T D) (Ends Tryz.prog 3 lawR) := by
  have hD : sizeE D = 0 := size_ok (by omega) h3
  obtain ⟨_, s2, _, _, _⟩ := sS_is (d := D) (by omega) h3 (D.toNat - 1) (by omega) (by omega)
  refine Reach.pure1 (by kernel_rfl) rfl (nStr_ok h2 h3) (gp ?_)
  refine Reach.read1 1 (cs3_at W T D) (by kernel_rfl) (by kernel_rfl) (by kernel_rfl) rfl rfl (gp ?_)
  refine Reach.cast (c' := cmp7 W T D (.tup [.one (sI (sS D (D.toNat - 1)).1), .one (sI (sS D (D.toNat - 1)).2.1), .one (zn 0)])) (by kernel_rfl) (law7 hD (law9 hD ?_))
  refine Reach.bool 108 (t := (sS D (D.toNat - 1)).1 == 0) false (by rw [beq_eq_false_iff_ne]; omega) (by kernel_rfl) (gp ?_)
  refine Reach.bool 123 (t := (sS D (D.toNat - 1)).1 != 0) true (bne_t (by omega)) (by kernel_rfl) (gp ?_)
  refine Reach.bool 131 (t := (sS D (D.toNat - 1)).1 != (sS D (D.toNat - 1)).1) false (by simp) (by kernel_rfl) (gp ?_)
  refine Reach.bool 137 (t := (sS D (D.toNat - 1)).2.1 != (sS D (D.toNat - 1)).2.1) false (by simp) (by kernel_rfl) (gp ?_)
  refine Reach.read1 3 (cs1_at W) (by kernel_rfl) (by kernel_rfl) (by kernel_rfl) rfl rfl (gp ?_)
  by_cases hW : sizeE W = 0
  · obtain ⟨w1, w2⟩ := size_in hW
    refine Reach.bool 142 (t := sizeE W != 0) false (bne_f hW) (by kernel_rfl) (gp ?_)
    refine Reach.pure1 (by kernel_rfl) rfl (refHighest_at (d := D) (w := W) (by omega) h3 w1 w2) (gp ?_)
    refine Reach.pure1 (by kernel_rfl) rfl (when_any (hh D W == 0)) (gp ?_)
    by_cases hg : highE D W < 1
    · have e : hh D W = 0 := by unfold hh; rw [if_pos hg]
      have e2 : nHigh D W = (0, 7) := by unfold nHigh; rw [hD, hW, if_pos (by rfl), if_pos hg]
      refine Reach.pure1 (by kernel_rfl) rfl (number_bad (h := (nHigh D W).1) (e := (nHigh D W).2) (b := if (hh D W == 0) = true then 7 else 0) (w := hh D W) (by rw [e]; decide) (by rw [e2]) (by rw [e2, e]; decide)) (gp ?_)
      exact Reach.finV (lv (.bool true)) (by kernel_rfl) fun _ => ⟨rfl, rfl⟩
    · have e : hh D W = highE D W := by unfold hh; rw [if_neg hg]
      have e3 : (hh D W == 0) = false := by rw [e, beq_eq_false_iff_ne]; omega
      have e2 : nHigh D W = (highE D W, 0) := by unfold nHigh; rw [hD, hW, if_pos (by rfl), if_neg hg]
      refine Reach.pure1 (by kernel_rfl) rfl (number_ok (h := (nHigh D W).1) (e := (nHigh D W).2) (b := if (hh D W == 0) = true then 7 else 0) (w := hh D W) (by rw [e3]; rfl) (by rw [e2]) (by rw [e2, e])) (gp ?_)
      exact Reach.finV (lv (.bool true)) (by kernel_rfl) fun _ => ⟨rfl, rfl⟩
  · refine Reach.bool 142 (t := sizeE W != 0) true (bne_t hW) (by kernel_rfl) (gp ?_)
    have e2 : nHigh D W = (0, sizeE W) := by unfold nHigh; rw [hD, show or2 0 (sizeE W) = sizeE W from rfl, if_neg hW]
    refine Reach.pure1 (by kernel_rfl) rfl (number_badL (h := (nHigh D W).1) (e := (nHigh D W).2) 0 hW (by rw [e2]) (by rw [e2])) (gp ?_)
    exact Reach.finV (lv (.bool true)) (by kernel_rfl) fun _ => ⟨rfl, rfl⟩

set_option maxRecDepth 100000 in
theorem law_at (W T D : Int) : CallAt Tryz.prog gN (.fn 3) [symI W, symI T, symI D] h0 1 lawR := by
  have hmain : ¬ (D > 80 ∧ D ≤ 10000) → Reach Tryz.prog gN 3 none (lawMain W T D) (Ends Tryz.prog 3 lawR) := fun h => by
    by_cases hD : sizeE D = 0
    · obtain ⟨h1, h2⟩ := size_in hD
      by_cases h3 : D = 1
      · subst h3; exact main_one
      · exact main_many (by omega) h2
    · exact main_bad hD
  refine call_of_reach entersP (by kernel_rfl) (gp ?_)
  refine Reach.callH (awake_at 1) (by kernel_rfl) (by kernel_rfl) (by kernel_rfl) (gp ?_)
  by_cases h1 : D > 80
  · refine Reach.bool 23 true (decide_eq_true h1) (by kernel_rfl) (gp ?_)
    by_cases h2 : D ≤ 10000
    · refine Reach.bool 27 true (decide_eq_true h2) (by kernel_rfl) (gp ?_)
      refine Reach.callH (awake_at 1) (by kernel_rfl) (by kernel_rfl) (by kernel_rfl) (gp ?_)
      exact Reach.finV (lv (.bool true)) (by kernel_rfl) fun _ => ⟨rfl, rfl⟩
    · refine Reach.bool 27 false (decide_eq_false h2) (by kernel_rfl) (gp ?_)
      exact Reach.keep [0, 1, 2, 7, 8, 9, 10, 43] (Reach.cast (c' := lawMain W T D) (by kernel_rfl) (hmain fun h => h2 h.2))
  · refine Reach.bool 23 false (decide_eq_false h1) (by kernel_rfl) (gp ?_)
    exact Reach.keep [0, 1, 2, 7, 8, 9, 10, 43] (Reach.cast (c' := lawMain W T D) (by kernel_rfl) (hmain fun h => h1 h.1))
end Go.Proofs.YtkcjdjpgimekfaaGreatDoor.Zm
