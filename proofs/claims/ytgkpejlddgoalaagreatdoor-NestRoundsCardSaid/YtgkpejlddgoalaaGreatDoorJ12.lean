/- Parts of the proof, joined. -/
import Derived.Test.YtgkpejlddgoalaaGreatDoorJ11
set_option linter.unusedSimpArgs false
set_option linter.unusedVariables false
set_option linter.constructorNameAsVariable false
namespace Go.Proofs.YtgkpejlddgoalaaGreatDoor.Zm
open Go.RowKit

def t4 : PureFn := orT t3 (tabC 62 fun a b c d => symI (cmpE (strE a b) (strE c d)))
theorem t4_ok : TabOk Tryz.prog t4 := orT_ok t3_ok (tabC_ok cmpS_any)
abbrev zn (n : Int) : C := lc (.int .i64 n)
/-- greatest, as far as its loop. -/
noncomputable def gStart (d : Int) : Cf := runS Tryz.prog [] nimp noCall 60 none 2000 (startS Tryz.prog 60 [.f (.one (.fn 100 [] [(false, [.ptr 0 0])])), lv (.func (.func 62) #[] #[])] [.cells 3 [sI d]] 1)
noncomputable def gRange (d : Int) : FuncId × List V × Sz × Nat × List Item := (rangeS [] 60 none (gStart d)).getD (0, [], ⟨⟨0, .e⟩, [], 0, []⟩, 0, [])
noncomputable def gH (d : Int) : Hp := (gRange d).2.2.1.zh
/-- Memory when there is a best section. -/
noncomputable def gM (d w h : Int) : Hp := ((gH d).set 2 (.cells 85 [sI w, sI h])).set 3 (.cells 4 [lc (.bool true)])
theorem round0 (d x y : Int) : CallAt Tryz.prog [] (.yl 5) [.f (.agg [sI x, sI y])] (gH d) 1 (fun v H' => v = lv (.bool true) ∧ H' = gM d x y) := by
  refine CallAt.cutY (n := 6) ?_ (Nat.le_of_ble_eq_true (by kernel_rfl)) rfl (by kernel_rfl)
  refine yield_of_reach (fn := 60) (c0 := ((startR (gH d) 5 [.f (.agg [sI x, sI y])] 1).getD (0, ([], ⟨⟨0, .e⟩, [], 0, []⟩))).2) (by kernel_rfl) (goX t4 t4_ok ?_)
  exact Reach.finC (by kernel_rfl)
theorem round1 (d w h x y : Int) : CallAt Tryz.prog [] (.yl 5) [.f (.agg [sI x, sI y])] (gM d w h) 1 (fun v H' => v = lv (.bool true) ∧ H' = gM d (if cmpE (strE x y) (strE w h) > 0 then x else w) (if cmpE (strE x y) (strE w h) > 0 then y else h)) := by
  refine CallAt.cutY (n := 6) ?_ (Nat.le_of_ble_eq_true (by kernel_rfl)) rfl (by kernel_rfl)
  refine yield_of_reach (fn := 60) (c0 := ((startR (gM d w h) 5 [.f (.agg [sI x, sI y])] 1).getD (0, ([], ⟨⟨0, .e⟩, [], 0, []⟩))).2) (by kernel_rfl) (goX t4 t4_ok ?_)
  by_cases hg : cmpE (strE x y) (strE w h) > 0
  · rw [if_pos hg, if_pos hg]
    refine Reach.bool 17 true (decide_eq_true hg) (by kernel_rfl) (goX t4 t4_ok ?_)
    exact Reach.finC (by kernel_rfl)
  · rw [if_neg hg, if_neg hg]
    refine Reach.bool 17 false (decide_eq_false hg) (by kernel_rfl) (goX t4 t4_ok ?_)
    exact Reach.finC (by kernel_rfl)
theorem high_pos {d x : Int} (hd : 1 ≤ d) (hd' : d ≤ 10000) (hx : 1 ≤ x) (hx' : x ≤ d) : (highE d x < 1 ↔ x = d) := by
  obtain ⟨h1, h2, h3, h4⟩ := high_is hd hd' hx (by omega)
  have s1 := sq_le (show (0 : Int) ≤ x by omega) hx'
  constructor
  · intro h
    rcases Int.lt_or_le x d with hlt | hge
    · have a := h4 1 h (by decide)
      have b : (x + 1) * (x + 1) ≤ d * d := sq_le (by omega) (by omega)
      have e : (x + 1) * (x + 1) = x * x + 2 * x + 1 := by rw [Int.add_mul, Int.mul_add, Int.mul_one, Int.one_mul]; omega
      omega
    · omega
  · intro h
    subst h
    rcases Int.lt_or_le (highE x x) 1 with hlt | hge
    · exact hlt
    · have := h3 1 (by decide) hge; omega
theorem sS_is {d : Int} (hd : 1 ≤ d) (hd' : d ≤ 10000) (m : Nat) : 1 ≤ m → (m : Int) < d → (sS d m).2.2 = (sS d m).1 * (sS d m).2.1 * (sS d m).2.1 ∧ 1 ≤ (sS d m).1 ∧ (sS d m).1 ≤ m ∧ 1 ≤ (sS d m).2.1 ∧ (sS d m).2.1 ≤ d := by
  induction m with
  | zero => intro h; exact absurd h (by decide)
  | succ m ih =>
    intro _ hm
    have hx := (not_congr (high_pos hd hd' (x := (m : Int) + 1) (by omega) (by omega))).2 (by omega)
    obtain ⟨g1, g2, _, _⟩ := hh_is hd hd' (w := (m : Int) + 1) (by omega) (by omega)
    have hp : 1 ≤ hh d (m + 1) := by unfold hh; rw [if_neg hx]; omega
    by_cases hg : ((m : Int) + 1) * hh d (m + 1) * hh d (m + 1) > (sS d m).2.2
    · have e : sS d (m + 1) = ((m : Int) + 1, hh d (m + 1), ((m : Int) + 1) * hh d (m + 1) * hh d (m + 1)) := by rw [sS, if_pos hg]
      rw [e]
      dsimp only
      exact ⟨rfl, by omega, by omega, hp, g2⟩
    · have e : sS d (m + 1) = sS d m := by rw [sS, if_neg hg]
      rw [e]
      rcases Nat.eq_zero_or_pos m with h0 | h0
      · exfalso
        apply hg
        subst h0
        have h1 : (1 : Int) * 1 ≤ hh d 1 * hh d 1 := sq_le (by decide) (by simpa using hp)
        simp only [Int.natCast_zero, Int.zero_add, Int.one_mul, sS]
        omega
      · obtain ⟨e1, e2, e3, e4, e5⟩ := ih h0 (by omega)
        exact ⟨e1, e2, by omega, e4, e5⟩
theorem sS_one {d : Int} (hd : 2 ≤ d) (hd' : d ≤ 10000) : sS d 1 = (1, highE d 1, 1 * highE d 1 * highE d 1) := by
  have hx := (not_congr (high_pos (by omega) hd' (x := 1) (by decide) (by omega))).2 (by omega)
  have e : hh d 1 = highE d 1 := by unfold hh; rw [if_neg hx]
  have : (1 : Int) * 1 ≤ highE d 1 * highE d 1 := sq_le (by decide) (by omega)
  rw [sS]
  simp only [Int.natCast_zero, Int.zero_add, e]
  rw [if_pos (by simp [sS]; omega)]
noncomputable def headQ (d x : Int) (H : Hp) : Cf := keepS [0, 1, 3] (knowS 3 (symI x) (heapS H (intoLoop (runL Tryz.prog [] nimp (callX Tryz.prog [] nimp fun f args => t3 f (args.map symV1)) 100 none 2000 (startS Tryz.prog 100 [.f (.one (.b (.yld 5))), .f (.one (.b (.ptr 0 0)))] (gH d) 1)))))
theorem cmp_pos {a b : Int} : cmpE a b > 0 ↔ a > b := by unfold cmpE; split <;> (try split) <;> omega
theorem strE_eq {x y : Int} (hx : 0 ≤ x) (hx' : x ≤ 10000) (hy : 0 ≤ y) (hy' : y ≤ 10000) : strE x y = x * y * y := by
  have hc := cube_range hx hx' hy hy'
  unfold strE
  rw [W64_id (n := x * y) (by omega) (by omega), W64_id (by omega) (by omega)]
set_option maxRecDepth 100000 in
theorem headQ_ok {d : Int} (hd : 1 ≤ d) (hd' : d ≤ 10000) : ∀ (n m : Nat), d.toNat - 1 - m ≤ n → 1 ≤ m → (m : Int) < d →
    Reach Tryz.prog [] 100 none (headQ d (m + 1) (gM d (sS d m).1 (sS d m).2.1)) (Ends Tryz.prog 100 (fun _ H' => H' = gM d (sS d (d.toNat - 1)).1 (sS d (d.toNat - 1)).2.1)) := by
  intro n
  induction n with
  | zero =>
    intro m hn hm hlt
    have e : d.toNat - 1 = m := by omega
    refine goXL t3 t3_ok (Reach.bool 12 (t := decide (highE d (m + 1) < 1)) true (decide_eq_true ((high_pos hd hd' (by omega) (by omega)).2 (by omega))) (by kernel_rfl) (goX t3 t3_ok ?_))
    exact Reach.fin (.tup []) (gM d (sS d m).1 (sS d m).2.1) (by kernel_rfl) (by rw [e])
  | succ n ih =>
    intro m hn hm hlt
    by_cases hx : (m : Int) + 1 = d
    · have e : d.toNat - 1 = m := by omega
      refine goXL t3 t3_ok (Reach.bool 12 (t := decide (highE d (m + 1) < 1)) true (decide_eq_true ((high_pos hd hd' (by omega) (by omega)).2 hx)) (by kernel_rfl) (goX t3 t3_ok ?_))
      exact Reach.fin (.tup []) (gM d (sS d m).1 (sS d m).2.1) (by kernel_rfl) (by rw [e])
    · have hng := (not_congr (high_pos hd hd' (x := (m : Int) + 1) (by omega) (by omega))).2 hx
      have eh : hh d (m + 1) = highE d (m + 1) := by unfold hh; rw [if_neg hng]
      obtain ⟨g1, g2, _, _⟩ := hh_is hd hd' (w := (m : Int) + 1) (by omega) (by omega)
      obtain ⟨f1, f2, f3, f4, f5⟩ := sS_is hd hd' m hm hlt
      refine goXL t3 t3_ok (Reach.bool 12 (t := decide (highE d (m + 1) < 1)) false (decide_eq_false hng) (by kernel_rfl) (goXL t3 t3_ok ?_))
      refine Reach.yield1 (round1 d (sS d m).1 (sS d m).2.1 (m + 1) (highE d (m + 1))) (by kernel_rfl) (by kernel_rfl) (by kernel_rfl) (goXL t3 t3_ok ?_)
      refine Reach.int 3 ((m : Int) + 1 + 1) (W64_id (by omega) (by omega)) (by kernel_rfl) (Reach.into ?_)
      have hc : cmpE (strE (m + 1) (highE d (m + 1))) (strE (sS d m).1 (sS d m).2.1) > 0 ↔ ((m : Int) + 1) * hh d (m + 1) * hh d (m + 1) > (sS d m).2.2 := by
        rw [cmp_pos, ← eh, strE_eq (by omega) (by omega) g1 (by omega), strE_eq (by omega) (by omega) (by omega) (by omega), f1]
      refine Reach.keep [0, 1, 3] (Reach.cast (c' := headQ d ((m : Int) + 1 + 1) (gM d (if cmpE (strE (m + 1) (highE d (m + 1))) (strE (sS d m).1 (sS d m).2.1) > 0 then (m : Int) + 1 else (sS d m).1) (if cmpE (strE (m + 1) (highE d (m + 1))) (strE (sS d m).1 (sS d m).2.1) > 0 then highE d (m + 1) else (sS d m).2.1))) (by kernel_rfl) ?_)
      have := ih (m + 1) (by omega) (by omega) (by omega)
      rw [show ((m + 1 : Nat) : Int) = (m : Int) + 1 from by omega] at this
      by_cases hg : ((m : Int) + 1) * hh d (m + 1) * hh d (m + 1) > (sS d m).2.2
      · rw [if_pos (hc.2 hg), if_pos (hc.2 hg)]
        rw [sS, if_pos hg] at this
        dsimp only at this
        rw [eh] at this
        exact this
      · rw [if_neg (fun h => hg (hc.1 h)), if_neg (fun h => hg (hc.1 h))]
        rw [sS, if_neg hg] at this
        exact this
/-- The sections of a log. -/
theorem secs_at {d : Int} (hd : 1 ≤ d) (hd' : d ≤ 10000) : CallAt Tryz.prog [] (.fn 100) [.f (.one (.b (.yld 5))), .f (.one (.b (.ptr 0 0)))] (gH d) 1 (fun _ H' => H' = if d = 1 then gH d else gM d (sS d (d.toNat - 1)).1 (sS d (d.toNat - 1)).2.1) := by
  refine call_of_reach entersP (by kernel_rfl) (goXL t3 t3_ok (Reach.into ?_))
  refine Reach.lit 3 (u := .int .i64 1) (by kernel_rfl) ?_
  refine Reach.keep [0, 1, 3] (Reach.cast (c' := headQ d 1 (gH d)) (by kernel_rfl) (goXL t3 t3_ok ?_))
  by_cases h1 : d = 1
  · rw [if_pos h1]
    refine Reach.bool 12 (t := decide (highE d 1 < 1)) true (decide_eq_true ((high_pos hd hd' (by omega) (by omega)).2 h1.symm)) (by kernel_rfl) (goX t3 t3_ok ?_)
    exact Reach.fin (.tup []) (gH d) (by kernel_rfl) rfl
  · rw [if_neg h1]
    have hng := (not_congr (high_pos hd hd' (x := 1) (by omega) (by omega))).2 (fun e => h1 e.symm)
    refine Reach.bool 12 (t := decide (highE d 1 < 1)) false (decide_eq_false hng) (by kernel_rfl) (goXL t3 t3_ok ?_)
    refine Reach.yield1 (round0 d 1 (highE d 1)) (by kernel_rfl) (by kernel_rfl) (by kernel_rfl) (goXL t3 t3_ok ?_)
    refine Reach.int 3 2 (W64_id (n := 1 + 1) (by decide) (by decide)) (by kernel_rfl) (Reach.into ?_)
    refine Reach.keep [0, 1, 3] (Reach.cast (c' := headQ d 2 (gM d 1 (highE d 1))) (by kernel_rfl) ?_)
    have := headQ_ok hd hd' d.toNat 1 (by omega) (Nat.le_refl _) (by omega)
    rw [sS_one (by omega) hd', show ((1 : Nat) : Int) + 1 = 2 from by decide] at this
    dsimp only at this
    exact this
end Go.Proofs.YtgkpejlddgoalaaGreatDoor.Zm
