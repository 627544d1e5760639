/- Parts of the proof, joined. -/
import Derived.Test.YtgkpejlddgoalaaGreatDoorJ14
import Derived.Test.YtgkpejlddgoalaaGreatDoorProg
import Derived.OpenShut
import Derived.ChangeArms
set_option linter.unusedSimpArgs false
set_option linter.unusedVariables false
set_option linter.constructorNameAsVariable false
namespace Go.Proofs.YtgkpejlddgoalaaGreatDoor.Zm
open Go.RowKit

theorem Tr.put_self : ∀ {p : List Bool} {t : Tr}, Tr.get p t ≠ .un → Tr.put (Tr.get p t) p t = t
  | [], .e, h => absurd rfl h
  | [], .n .., _ => rfl
  | _ :: _, .e, h => absurd Tr.get_e h
  | true :: p, .n v l r, h => by
    show Tr.n v l (Tr.put (Tr.get p r) p r) = _
    rw [Tr.put_self (p := p) (t := r) h]
  | false :: p, .n v l r, h => by
    show Tr.n v (Tr.put (Tr.get p l) p l) r = _
    rw [Tr.put_self (p := p) (t := l) h]
theorem Sl.put_self {s : Sl} {d : Nat} {x : V} (h : s.get d = x) (hx : x ≠ .un) : s.put d x = s := by
  unfold Sl.put
  split
  · have := Tr.put_self (p := path d) (t := s.t) (by show s.get d ≠ .un; rw [h]; exact hx)
    rw [← h]
    show (⟨s.n, Tr.put (Tr.get (path d) s.t) (path d) s.t⟩ : Sl) = s
    rw [this]
  · rfl
noncomputable def knowK (d : Nat) (y : V) (r : Dr) : Dr := (r.1, { r.2.1 with zs := r.2.1.zs.put d y }, r.2.2)
section
variable {P : Program} {gl : List Nat} {cf : CallFn} {imp : FuncId → Bool} {ops : Array Oper} {n0 : Nat} {r : Dr} {Q : Sz → List (Ki × Nat) → Prop}
/-- A test of literals, known by proof. -/
theorem DrOk.know (d : Nat) {t : Bool} (b : Bool) (hb : t = b) (e : r.2.1.zs.get d = lv (.bool t)) (h : DrOk P gl cf imp ops n0 (knowK d (lv (.bool b)) r) Q) : DrOk P gl cf imp ops n0 r Q := by
  subst hb
  have : knowK d (lv (.bool t)) r = r := by
    unfold knowK
    rw [Sl.put_self e (by intro h; cases h)]
  rw [this] at h
  exact h
/-- The same of a number. -/
theorem DrOk.num (d : Nat) {k : IntKind} {t : Int} (b : Int) (hb : t = b) (e : r.2.1.zs.get d = lv (.int k t)) (h : DrOk P gl cf imp ops n0 (knowK d (lv (.int k b)) r) Q) : DrOk P gl cf imp ops n0 r Q := by
  subst hb
  have : knowK d (lv (.int k t)) r = r := by
    unfold knowK
    rw [Sl.put_self e (by intro h; cases h)]
  rw [this] at h
  exact h
end
section
variable {P : Program} {gl : List Nat} {fz : FuncId} {oz : Option Nat} {c : Cf} {Q : Cf → Prop}
theorem Reach.boolL (d : Tmp) {t : Bool} (b : Bool) (hb : t = b) (e : c.2.zs.get d = lv (.bool t)) (h : Reach P gl fz oz (knowS d (lv (.bool b)) c) Q) : Reach P gl fz oz c Q :=
  Reach.know d _ (fun σ v hv => by rw [e] at hv; rw [← hb]; exact hv) h
/-- A block, said otherwise; by computation. -/
theorem Reach.block' (k : Nat) (b b' : Blk) (hro : Nat.ble c.2.zr k = true) (hk : c.2.zh[k]? = some b) (hb : ∀ σ w, b.holds σ k w → b'.holds σ k w) (hl : b'.live = true → b.live = true) (h : Reach P gl fz oz (heapS (c.2.zh.set k b') c) Q) : Reach P gl fz oz c Q :=
  Reach.block (Nat.le_of_ble_eq_true hro) hk hb hl h
end
abbrev lI (a : Int) : C := .b (.lit (.int .i64 a))
theorem lits_syms {σ : Env} : ∀ {l : List Int} {vs : List Value}, holdsC σ (l.map symC) vs → holdsC σ (l.map lI) vs
  | [], _, h => h
  | _ :: _, _, ⟨v, r, e, h1, h2⟩ => ⟨v, r, e, h1, lits_syms h2⟩
theorem syms_lits {σ : Env} : ∀ {l : List Int} {vs : List Value}, holdsC σ (l.map lI) vs → holdsC σ (l.map symC) vs
  | [], _, h => h
  | _ :: _, _, ⟨v, r, e, h1, h2⟩ => ⟨v, r, e, h1, syms_lits h2⟩
theorem cells_lits {σ : Env} {k : Nat} {w : World} {T : TypeId} {l : List Int} (h : (Blk.cells T (l.map symC)).holds σ k w) : (Blk.cells T (l.map lI)).holds σ k w := by
  obtain ⟨g, cs, h1, h2, h3⟩ := h
  exact ⟨g, cs, h1, h2, lits_syms h3⟩
theorem cells_syms {σ : Env} {k : Nat} {w : World} {T : TypeId} {l : List Int} (h : (Blk.cells T (l.map lI)).holds σ k w) : (Blk.cells T (l.map symC)).holds σ k w := by
  obtain ⟨g, cs, h1, h2, h3⟩ := h
  exact ⟨g, cs, h1, h2, syms_lits h3⟩

def low4 (t k n j : Int) : Int := W64 (W64 (W64 (W64 (2 * j) * W64 (t + k)) - W64 (n * t)) - W64 (W64 (n - 1) * k))
theorem Dom.low4 {t k n i : Int} (D : Dom t k n) (h0 : 0 ≤ i) (hi : i ≤ 64) : Zm.low4 t k n i = lowI t k n i := by
  obtain ⟨a1, a2, a3, a4⟩ := D.step h0 hi
  obtain ⟨h1, h2, h3, h4⟩ := D.all
  obtain ⟨t1, t2, k1, k2, n1, n2⟩ := D
  have e : 2 * i * (t + k) = 2 * (i * (t + k)) := Int.mul_assoc ..
  have a := mul_box (a := n) (b := t) (x := 64) (y := 10000) (by omega) n2 (by omega) t2
  have b := mul_box (a := n - 1) (b := k) (x := 64) (y := 10000) (by omega) (by omega) k1 k2
  unfold Zm.low4 lowI
  rw [W64_id (n := 2 * i) (by omega) (by omega), W64_id (n := t + k) (by omega) (by omega), e, W64_id (n := 2 * (i * (t + k))) (by omega) (by omega), W64_id (n := n * t) (by omega) (by omega), W64_id (n := n - 1) (by omega) (by omega), W64_id (n := (n - 1) * k) (by omega) (by omega), W64_id (n := 2 * (i * (t + k)) - n * t) (by omega) (by omega), W64_id (by omega) (by omega)]
  omega
theorem Dom.max2 {t k n i : Int} (D : Dom t k n) (h0 : 0 ≤ i) (hi : i ≤ 64) : maxE (W64 (Zm.low4 t k n i + W64 (2 * t))) (W64 (0 - Zm.low4 t k n i)) = yE t (lowI t k n i) := by
  rw [D.low4 h0 hi]
  unfold yE maxE
  split <;> split <;> omega
section
variable (bx b1 b2 : Blk) (d t k n m : Int) (ws bs : List Int)
variable (hd : 1 ≤ d) (hd' : d ≤ 100) (D : Dom t k n) (hws : sawE d t k (lowE t k n) n.toNat = some ws)
include hd hd' D hws
set_option maxRecDepth 100000 in
theorem sum_round {Q : Cf → Prop} {j : Nat} (hj : (j : Int) < n) (s a : Int) (hl : j < ws.length) (h : Reach Tryz.prog gN fR none (headRS bx b1 b2 d t k n m ws bs (W64 (s + ws[j])) a (j + 1 : Nat)) Q) :
    Reach Tryz.prog gN fR none (headRS bx b1 b2 d t k n m ws bs s a j) Q := by
  have hlen := sawE_len _ hws
  have hn1 := D.n1; have hn2 := D.n2
  rw [D.low] at hws
  have hg := D.get n.toNat 0 ws (by omega) hws
  obtain ⟨g1, g2⟩ := hg j (by omega)
  obtain ⟨g3, _⟩ := hg (n.toNat - 1 - j) (by omega)
  rw [show ((0 + j : Nat) : Int) = (j : Int) by omega] at g1 g2
  rw [show ((0 + (n.toNat - 1 - j) : Nat) : Int) = n - 1 - j by omega] at g3
  have hy := D.y (i := j) (by omega) (by omega)
  have hs := D.ysym (i := j) (by omega) hj
  have hw1 := (wide_hh (d := d) (t := t) (low := lowI t k n j)).2 g2
  have e3 : wideE d t (lowI t k n (n - 1 - j)) = wideE d t (lowI t k n j) := by rw [wide_yE, wide_yE, hs]
  rw [e3, ← hw1] at g3
  rw [← hw1] at g1
  have hwj : ws[j] = hh d (yE t (lowI t k n j)) := by
    rw [List.getElem?_eq_getElem hl] at g1
    injection g1
  have hpos : 1 ≤ hh d (yE t (lowI t k n j)) := by rw [hw1]; omega
  obtain ⟨c1, c2, c3⟩ := hh_any hd (by omega) hy.2.1 hy.2.2
  have hyd : yE t (lowI t k n j) ≤ d := by
    rcases Int.lt_or_le d (yE t (lowI t k n j)) with hf | hf
    · have := c3 hf; omega
    · exact hf
  obtain ⟨_, _, q1, q2⟩ := hh_is hd (by omega) hy.2.1 (by omega)
  have r1 := q1 _ hpos (Int.le_refl _)
  have r2 := q2 (hh d (yE t (lowI t k n j)) + 1) (by omega) (by omega)
  have hmax := D.max2 (i := j) (by omega) (by omega)
  have hy1 := hy.2.1
  rw [hwj] at h
  generalize hh d (yE t (lowI t k n j)) = x at *
  generalize yE t (lowI t k n j) = y at *
  have sx := sq_range (a := x) (by omega) (by omega)
  have sx1 := sq_range (a := x + 1) (by omega) (by omega)
  have sy := sq_range (a := y) (by omega) (by omega)
  have sd := sq_range (a := d) (by omega) (by omega)
  have hld : (ws.map sI)[0 + (j : Int).toNat * 1]? = some (sI x) := by simp [g1]
  have hld2 : (ws.map sI)[0 + (n - 1 - (j : Int)).toNat * 1]? = some (sI x) := by
    rw [show 0 + (n - 1 - (j : Int)).toNat * 1 = n.toNat - 1 - j by omega]
    simp [g3]
  refine grL (Reach.bool 232 (t := decide ((j : Int) < n)) true (decide_eq_true hj) (by kernel_rfl) (grL ?_))
  refine Reach.idx (k := 3) (off := 0) (n := n.toNat) (i := j) (m := 1) (by kernel_rfl) (by omega) (by omega) (grL ?_)
  refine Reach.ld1 (k := 3) (off := 0 + (j : Int).toNat * 1) (l := ws.map sI) (d := sI x) (by kernel_rfl) (by kernel_rfl) hld (grL ?_)
  refine Reach.lit1 (.int .i64 (W64 (0 - Zm.low4 t k n j))) (.int .i64 (W64 (0 - Zm.low4 t k n j))) (by kernel_rfl) rfl (grL ?_)
  refine Reach.lit1 (.int .i64 (maxE (W64 (Zm.low4 t k n j + W64 (2 * t))) (W64 (0 - Zm.low4 t k n j)))) (.int .i64 y) (by kernel_rfl) (by rw [hmax]) (grL ?_)
  have hldL : (ws.map lI)[0 + (j : Int).toNat * 1]? = some (lI x) := by simp [g1]
  have hldL2 : (ws.map lI)[0 + (W64 (W64 (n - 1) - j)).toNat * 1]? = some (lI x) := by
    rw [W64_id (n := n - 1) (by omega) (by omega), W64_id (by omega) (by omega), show 0 + (n - 1 - (j : Int)).toNat * 1 = n.toNat - 1 - j by omega]
    simp [g3]
  refine Reach.unsym 3 (u := .int .i64 d) (by kernel_rfl) (Reach.unsym 17 (u := .int .i64 n) (by kernel_rfl) (Reach.unsym 27 (u := .int .i64 j) (by kernel_rfl) (Reach.unsym 29 (u := .int .i64 y) (by kernel_rfl) ?_)))
  refine Reach.open' 18 (x := slyI 3 n.toNat) (.f (.one (.b (.slc 3 0 n.toNat n.toNat)))) (by kernel_rfl) (fun σ v h => h) ?_
  refine Reach.block' 3 (.cells 3 (ws.map symC)) (.cells 3 (ws.map lI)) (by kernel_rfl) (by kernel_rfl) (fun σ w h => cells_lits h) (fun _ => rfl) ?_
  refine Reach.drawn1 mixP (imp := nimp) noCall_ok (by kernel_rfl) (by kernel_rfl) (DrOk.run 2 ?_)
  refine DrOk.idx (k := 3) (off := 0) (n := n.toNat) (i := j) (m := 1) (by kernel_rfl) (by omega) (by omega) ?_
  refine DrOk.ld (k := 3) (off := 0 + (j : Int).toNat * 1) (l := ws.map lI) (x := lI x) (by kernel_rfl) (by kernel_rfl) hldL (DrOk.run 2 ?_)
  refine DrOk.know 268 (t := decide (x < 1)) false (decide_eq_false (by omega)) (by kernel_rfl) (DrOk.run 2 ?_)
  refine DrOk.idx (k := 3) (off := 0) (n := n.toNat) (i := j) (m := 1) (by kernel_rfl) (by omega) (by omega) ?_
  refine DrOk.ld (k := 3) (off := 0 + (j : Int).toNat * 1) (l := ws.map lI) (x := lI x) (by kernel_rfl) (by kernel_rfl) hldL (DrOk.run 4 ?_)
  refine DrOk.know 276 (t := decide (x > d)) false (decide_eq_false (by omega)) (by kernel_rfl) (DrOk.run 2 ?_)
  refine DrOk.idx (k := 3) (off := 0) (n := n.toNat) (i := j) (m := 1) (by kernel_rfl) (by omega) (by omega) ?_
  refine DrOk.ld (k := 3) (off := 0 + (j : Int).toNat * 1) (l := ws.map lI) (x := lI x) (by kernel_rfl) (by kernel_rfl) hldL (DrOk.run 5 ?_)
  refine DrOk.idx (k := 3) (off := 0) (n := n.toNat) (i := W64 (W64 (n - 1) - j)) (m := 1) (by kernel_rfl) ?_ ?_ ?_
  · rw [W64_id (n := n - 1) (by omega) (by omega), W64_id (by omega) (by omega)]; omega
  · rw [W64_id (n := n - 1) (by omega) (by omega), W64_id (by omega) (by omega)]; omega
  refine DrOk.ld (k := 3) (off := 0 + (W64 (W64 (n - 1) - j)).toNat * 1) (l := ws.map lI) (x := lI x) (by kernel_rfl) (by kernel_rfl) hldL2 (DrOk.run 3 ?_)
  refine DrOk.know 290 (t := x != x) false (by simp) (by kernel_rfl) (DrOk.run 2 ?_)
  refine DrOk.idx (k := 3) (off := 0) (n := n.toNat) (i := j) (m := 1) (by kernel_rfl) (by omega) (by omega) ?_
  refine DrOk.ld (k := 3) (off := 0 + (j : Int).toNat * 1) (l := ws.map lI) (x := lI x) (by kernel_rfl) (by kernel_rfl) hldL (DrOk.run 2 ?_)
  refine DrOk.idx (k := 3) (off := 0) (n := n.toNat) (i := j) (m := 1) (by kernel_rfl) (by omega) (by omega) ?_
  refine DrOk.ld (k := 3) (off := 0 + (j : Int).toNat * 1) (l := ws.map lI) (x := lI x) (by kernel_rfl) (by kernel_rfl) hldL (DrOk.run 11 ?_)
  refine DrOk.know 309 (t := decide (W64 (W64 (x * x) + W64 (y * y)) > W64 (d * d))) false ?_ (by kernel_rfl) (DrOk.run 2 ?_)
  · rw [W64_sq (a := x) (by omega) (by omega), W64_sq (a := y) (by omega) (by omega), W64_sq (a := d) (by omega) (by omega), W64_id (by omega) (by omega)]
    exact decide_eq_false (by omega)
  refine DrOk.idx (k := 3) (off := 0) (n := n.toNat) (i := j) (m := 1) (by kernel_rfl) (by omega) (by omega) ?_
  refine DrOk.ld (k := 3) (off := 0 + (j : Int).toNat * 1) (l := ws.map lI) (x := lI x) (by kernel_rfl) (by kernel_rfl) hldL (DrOk.run 3 ?_)
  refine DrOk.idx (k := 3) (off := 0) (n := n.toNat) (i := j) (m := 1) (by kernel_rfl) (by omega) (by omega) ?_
  refine DrOk.ld (k := 3) (off := 0 + (j : Int).toNat * 1) (l := ws.map lI) (x := lI x) (by kernel_rfl) (by kernel_rfl) hldL (DrOk.run 11 ?_)
  refine DrOk.fin (by kernel_rfl) ⟨by kernel_rfl, ?_⟩
  refine Reach.boolL 329 (t := decide (W64 (W64 (W64 (x + 1) * W64 (x + 1)) + W64 (y * y)) ≤ W64 (d * d))) false ?_ (by kernel_rfl) ?_
  · rw [W64_id (n := x + 1) (by omega) (by omega), W64_sq (a := x + 1) (by omega) (by omega), W64_sq (a := y) (by omega) (by omega), W64_sq (a := d) (by omega) (by omega), W64_id (by omega) (by omega)]
    exact decide_eq_false (by omega)
  refine Reach.block' 3 (.cells 3 (ws.map lI)) (.cells 3 (ws.map symC)) (by kernel_rfl) (by kernel_rfl) (fun σ w h => cells_syms h) (fun _ => rfl) ?_
  refine Reach.lit 3 (u := .int .i64 d) (by kernel_rfl) (Reach.lit 17 (u := .int .i64 n) (by kernel_rfl) (Reach.lit 27 (u := .int .i64 j) (by kernel_rfl) ?_))
  refine Reach.open' 18 (x := .f (.one (.b (.slc 3 0 n.toNat n.toNat)))) (slyI 3 n.toNat) (by kernel_rfl) (fun σ v h => h) (grL ?_)
  refine Reach.int 27 ((j + 1 : Nat) : Int) (W64_id (by omega) (by omega)) (by kernel_rfl) (Reach.into ?_)
  exact Reach.keep [3, 4, 5, 17, 18, 20, 24, 25, 27] (Reach.cast (by kernel_rfl) h)
set_option maxRecDepth 100000 in
theorem sum_loop {Q : Cf → Prop} (s0 a : Int) (h : Reach Tryz.prog gN fR none (headRS bx b1 b2 d t k n m ws bs (sumE s0 ws) a n) Q) : ∀ (f j : Nat) (s : Int), ws.length - j ≤ f → j ≤ ws.length → sumE s (ws.drop j) = sumE s0 ws →
    Reach Tryz.prog gN fR none (headRS bx b1 b2 d t k n m ws bs s a j) Q := by
  have hlen := sawE_len _ hws
  have hn1 := D.n1; have hn2 := D.n2
  intro f
  induction f with
  | zero =>
    intro j s hf hj hs
    have e : j = ws.length := by omega
    subst e
    rw [List.drop_length] at hs
    rw [show ((ws.length : Nat) : Int) = n by omega, show s = sumE s0 ws from hs]
    exact h
  | succ f ih =>
    intro j s hf hj hs
    by_cases hlt : j < ws.length
    · refine sum_round bx b1 b2 d t k n m ws bs hd hd' D hws (by omega) s a hlt (ih (j + 1) _ (by omega) (by omega) ?_)
      rw [List.drop_eq_getElem_cons hlt] at hs
      exact hs
    · have e : j = ws.length := by omega
      subst e
      rw [List.drop_length] at hs
      rw [show ((ws.length : Nat) : Int) = n by omega, show s = sumE s0 ws from hs]
      exact h
end

section
variable {bx : Blk} {d t k p : Int} (hd : 1 ≤ d) (hd' : d ≤ 100) (ht : 1 ≤ t) (ht' : t ≤ 40) (hk : 0 ≤ k) (hk' : k ≤ 9) (hp : 0 ≤ p)
include hd hd' ht ht' hk hk' hp
set_option maxRecDepth 100000 in
/-- The boards can be sawn. -/
theorem boards_some {ws : List Int} (hs : sawE d t k (lowE t k (nE p)) (nE p).toNat = some ws) : Reach Tryz.prog gN fR none (stB bx d t k p) (Ends Tryz.prog fR lawT) := by
  obtain ⟨n1, n2⟩ := nE_in hp
  have hlen := sawE_len _ hs
  refine Reach.rem1 (k := .i64) (a := p) (b := 6) (by kernel_rfl) (by decide) (gr ?_)
  refine Reach.callR (boardsH_at (gl := gN) (H := h0 ++ [bx]) (ro := 1) (n := nE p) (boardsE_z hd hd' ht ht' hk hk' n1 (by omega))) (by kernel_rfl) (by kernel_rfl) ?_
  intro y K hy
  simp only [hs] at hy
  obtain ⟨rfl, rfl⟩ := hy
  cases htop : topE d t k with
  | none => rw [top_n hd hd' ht ht' hk hk' htop (nE p) n1 (by omega)] at hs; cases hs
  | some z =>
    have hv := best_some hd hd' ht ht' hk hk' htop
    have B := top_p hd hd' ht ht' hk hk' htop
    obtain ⟨bs, hb, hw⟩ := B.bs
    have b1 := B.b1; have b2 := B.b2
    have hblen := sawE_len _ hb
    obtain ⟨x1, x2⟩ := B.mx (nE p) n1 (by omega) ws hs
    obtain ⟨m, W⟩ := z
    dsimp only at *
    subst hw
    refine gr (Reach.bool 172 (t := (0 : Int) != 0) false (by decide) (by kernel_rfl) ?_)
    refine Reach.int 20 (n := (bestV d t k).1) m (by rw [hv]) (by kernel_rfl) (Reach.int 21 (n := (bestV d t k).2) 0 (by rw [hv]) (by kernel_rfl) (gr ?_))
    refine Reach.bool 194 (t := (0 : Int) != 0) false (by decide) (by kernel_rfl) (gr ?_)
    refine Reach.bool 198 (t := decide (m < 1)) false (decide_eq_false (by omega)) (by kernel_rfl) (gr ?_)
    refine Reach.bool 202 (t := decide (m > 64)) false (decide_eq_false (by omega)) (by kernel_rfl) (gr ?_)
    refine Reach.len1 (n := (nE p).toNat) (by kernel_rfl) (gr ?_)
    refine Reach.bool 207 (t := ((nE p).toNat : Int) != nE p) false (by simp; omega) (by kernel_rfl) (gr ?_)
    refine Reach.callR (boardsH_at (gl := gN) (H := h0 ++ [bx, errsB d t k (nE p), intsB ws]) (ro := 1) (n := m) (boardsE_z hd hd' ht ht' hk hk' b1 (by omega))) (by kernel_rfl) (by kernel_rfl) ?_
    intro y K hy
    simp only [hb] at hy
    obtain ⟨rfl, rfl⟩ := hy
    refine grL (Reach.bool 217 (t := (0 : Int) != 0) false (by decide) (by kernel_rfl) (grL (Reach.into ?_)))
    refine Reach.lit 24 (u := .int .i64 0) (by kernel_rfl) (Reach.lit 25 (u := .int .i64 0) (by kernel_rfl) (Reach.lit 26 (u := .int .i64 0) (by kernel_rfl) ?_))
    refine Reach.keep [3, 4, 5, 17, 18, 20, 22, 24, 25, 26] (Reach.cast (c' := headRP bx (errsB d t k (nE p)) (errsB d t k m) d t k (nE p) m ws bs 0 (0 : Nat)) (by kernel_rfl) ?_)
    have D := dom_all ht ht' hk hk' (nE p) n1 (by omega)
    refine most_loop bx (errsB d t k (nE p)) (errsB d t k m) d t k (nE p) m ws bs hblen (by omega) 0 ?_ bs.length 0 0 (by omega) (by omega) rfl
    refine sum_loop bx (errsB d t k (nE p)) (errsB d t k m) d t k (nE p) m ws bs hd hd' D hs 0 (sumE 0 bs) ?_ ws.length 0 0 (by omega) (by omega) rfl
    generalize nE p = n at *
    refine grL (Reach.bool 232 (t := decide (n < n)) false (by simp) (by kernel_rfl) (gr ?_))
    refine Reach.bool 333 (t := decide (sumE 0 ws ≤ sumE 0 bs)) true (decide_eq_true x1) (by kernel_rfl) (gr ?_)
    by_cases hlt : sumE 0 ws < sumE 0 bs
    · refine Reach.bool 337 (t := decide (sumE 0 ws < sumE 0 bs)) true (decide_eq_true hlt) (by kernel_rfl) (gr ?_)
      exact Reach.finV (lv (.bool true)) (by kernel_rfl) fun _ => ⟨rfl, rfl⟩
    · refine Reach.bool 337 (t := decide (sumE 0 ws < sumE 0 bs)) false (decide_eq_false hlt) (by kernel_rfl) (gr ?_)
      refine Reach.bool 2 (t := decide (m ≤ n)) true (decide_eq_true (x2.resolve_left hlt)) (by kernel_rfl) ?_
      exact Reach.finV (lv (.bool true)) (by kernel_rfl) fun _ => ⟨rfl, rfl⟩
theorem boards_any : Reach Tryz.prog gN fR none (stB bx d t k p) (Ends Tryz.prog fR lawT) := by
  cases hs : sawE d t k (lowE t k (nE p)) (nE p).toNat with
  | none => exact boards_none hd hd' ht ht' hk hk' hp hs
  | some ws => exact boards_some hd hd' ht ht' hk hk' hp hs
end
theorem lawR_at {a b c p : Int} (ha : 0 ≤ a ∧ a ≤ 255) (hb : 0 ≤ b ∧ b ≤ 255) (hc : 0 ≤ c ∧ c ≤ 255) (hp : 0 ≤ p ∧ p ≤ 255) : CallAt Tryz.prog gN (.fn fR) [.f (.agg [u8 a, u8 b, u8 c, u8 p])] h0 1 lawT := by
  obtain ⟨d1, d2⟩ := dE_in ha.1 ha.2
  obtain ⟨t1, t2⟩ := tE_in hb.1 hb.2
  obtain ⟨k1, k2⟩ := kE_in hc.1 hc.2
  have hp0 : 0 ≤ W64 p := by rw [W64_id (by omega) (by omega)]; exact hp.1
  obtain ⟨w1, w2⟩ := wE_in hp0 d1 (by omega)
  exact round_top ha.1 ha.2 (sect_at d1 d2 w1 w2 (boards_any d1 d2 t1 t2 k1 k2 hp0))
end Go.Proofs.YtgkpejlddgoalaaGreatDoor.Zm
namespace Go.Proofs.YtgkpejlddgoalaaGreatDoor.Ab
open Go.ChangeShapes Go.WideShapes Go.RowKit

/-- What the i-th cell of a type is: a text, or a number. -/
def kindAt (P : Program) : Nat → TypeId → Nat → Option Bool
  | 0, _, _ => none
  | d + 1, T, i => match P.underlying T with
    | some (.int .i64) => if i = 0 then some false else none
    | some .string => if i = 0 then some true else none
    | some (.array n e) => if 0 < P.cellsOf e ∧ i / P.cellsOf e < n then kindAt P d e (i % P.cellsOf e) else none
    | some (.struct fs) => (fs.toList.find? fun f => decide (f.offset ≤ i ∧ i < f.offset + P.cellsOf f.type)).bind fun f => kindAt P d f.type (i - f.offset)
    | _ => none
def isKind : Bool → Value → Prop
  | true, c => ∃ s : ByteArray, c = .string s ∧ s.size ≤ maxLen
  | false, c => ∃ n : Int, c = .int .i64 n ∧ (Lit.int .i64 n).wf = true
section
variable {H : Type} {enc : TypeId × Value → H} {P : Program} {w : World} {base : Nat} {spare : Nat → Bool} {held : Bool}
theorem piece {cs : List Value} {o n r : Nat} {c : Value} (h : ((cs.drop o).take n)[r]? = some c) : cs[o + r]? = some c := by
  rw [List.getElem?_take] at h
  split at h
  · rw [List.getElem?_drop] at h; exact h
  · cases h
theorem trod_kind : ∀ (d : Nat) {T : TypeId} {fuel i : Nat} {cs : List Value} {x : DataW H × List MemPlace} {k : Bool}, DataW.trod enc P w base spare held fuel T cs = some x → kindAt P d T i = some k → ∃ c, cs[i]? = some c ∧ isKind k c := by
  intro d
  induction d with
  | zero => intro T fuel i cs x k _ hk; cases hk
  | succ d ih =>
    intro T fuel i cs x k h hk
    unfold kindAt at hk
    split at hk
    · rename_i hu
      split at hk <;> cases hk
      rename_i h0
      subst h0
      cases fuel with
      | zero => cases h
      | succ m =>
        unfold DataW.trod at h
        rw [hu] at h
        split at h <;> simp_all
        obtain ⟨⟨_, hw⟩, _⟩ := h
        cases ‹IntKind.i64 = _›
        exact ⟨_, rfl, hw⟩
    · rename_i hu
      split at hk <;> cases hk
      rename_i h0
      subst h0
      cases fuel with
      | zero => cases h
      | succ m =>
        unfold DataW.trod at h
        rw [hu] at h
        split at h <;> simp_all
        exact ⟨_, rfl, h.1⟩
    · rename_i n e hu
      split at hk
      · rename_i hi
        obtain ⟨xs, m, _, _, _, hlen, hat⟩ := DataW.trod_array hu h
        have hq := hat (i / P.cellsOf e) hi.2
        rw [List.getElem?_eq_getElem (by omega)] at hq
        obtain ⟨c, hc, hk'⟩ := ih hq hk
        refine ⟨c, ?_, hk'⟩
        have := piece hc
        rw [Nat.mul_comm, Nat.div_add_mod] at this
        exact this
      · cases hk
    · rename_i fs hu
      rw [Option.bind_eq_some_iff] at hk
      obtain ⟨f, hf, hk⟩ := hk
      have hp := List.find?_some hf
      simp only [decide_eq_true_eq] at hp
      obtain ⟨j, hj, hje⟩ := List.getElem_of_mem (List.mem_of_find?_eq_some hf)
      obtain ⟨xs, n, _, _, _, hlen, hat⟩ := DataW.trod_struct hu h
      have hq := hat j f (by rw [← hje]; simp)
      rw [List.getElem?_eq_getElem (by simp at hj; omega)] at hq
      obtain ⟨c, hc, hk'⟩ := ih hq hk
      refine ⟨c, ?_, hk'⟩
      have := piece hc
      rw [show f.offset + (i - f.offset) = i by omega] at this
      exact this
    · cases hk
/-- A type of numbers and texts alone. -/
def plainT (P : Program) : Nat → TypeId → Bool
  | 0, _ => false
  | d + 1, T => match P.underlying T with
    | some (.int _) | some .string => true
    | some (.array _ e) => plainT P d e
    | some (.struct fs) => fs.toList.all fun f => plainT P d f.type
    | _ => false
theorem mapM_same {α β : Type} {f g : α → Option (β × List MemPlace)} : ∀ {l : List α} {xs : List (β × List MemPlace)}, l.mapM f = some xs → (∀ a ∈ l, ∀ x, f a = some x → g a = some x ∧ x.2 = []) → l.mapM g = some xs ∧ xs.flatMap (·.2) = []
  | [], xs, h, _ => by simp at h; subst h; exact ⟨rfl, rfl⟩
  | a :: l, xs, h, hs => by
    rw [List.mapM_cons] at h
    simp only [bind, Option.bind_eq_some_iff, pure, Option.some.injEq] at h
    obtain ⟨y, hy, ys, hys, rfl⟩ := h
    obtain ⟨g1, g2⟩ := hs a (by simp) y hy
    obtain ⟨i1, i2⟩ := mapM_same hys fun b hb => hs b (by simp [hb])
    exact ⟨by rw [List.mapM_cons, g1, i1]; rfl, by simp [g2, i2]⟩
/-- The reading of a type of plain data asks no memory. -/
def SameRead (enc : TypeId × Value → H) (P : Program) (w : World) (base : Nat) (spare : Nat → Bool) (held : Bool) (w' : World) (base' : Nat) (spare' : Nat → Bool) (d : Nat) : Prop :=
  ∀ (T : TypeId) (fuel : Nat) (cs : List Value) (x : DataW H × List MemPlace), plainT P d T = true → DataW.trod enc P w base spare held fuel T cs = some x → DataW.trod enc P w' base' spare' held fuel T cs = some x ∧ x.2 = []
theorem trod_plain {w' : World} {base' : Nat} {spare' : Nat → Bool} : ∀ d : Nat, SameRead enc P w base spare held w' base' spare' d := by
  intro d
  induction d with
  | zero => intro T fuel cs x hp; cases hp
  | succ d ih =>
    intro T fuel cs x hp h
    cases fuel with
    | zero => cases h
    | succ m =>
      unfold plainT at hp
      unfold DataW.trod at h ⊢
      split at hp
      · rename_i hu
        rw [hu] at h ⊢
        split at h <;> simp_all <;> (obtain ⟨_, h⟩ := h; rw [← h])
      · rename_i hu
        rw [hu] at h ⊢
        split at h <;> simp_all <;> (obtain ⟨_, h⟩ := h; rw [← h])
      · rename_i hu
        rw [hu] at h ⊢
        split at h <;> simp_all
        obtain ⟨hl, xs, hxs, rfl⟩ := h
        obtain ⟨g1, g2⟩ := mapM_same hxs fun a _ x hx => ih _ _ _ _ hp hx
        exact ⟨⟨xs, g1, rfl⟩, g2⟩
      · rename_i hu
        rw [hu] at h ⊢
        split at h <;> simp_all
        obtain ⟨hl, xs, hxs, rfl⟩ := h
        obtain ⟨g1, g2⟩ := mapM_same hxs fun a ha x hx => ih _ _ _ _ (by obtain ⟨j, hj, rfl⟩ := List.getElem_of_mem ha; simpa using hp j (by simpa using hj)) hx
        exact ⟨⟨xs, g1, rfl⟩, g2⟩
      · cases hp
theorem Trod_plain {w' : World} {base' : Nat} {spare' : Nat → Bool} {T : TypeId} {v : Value} {D : DataW H} {p : List MemPlace} (hp : plainT P 10 T = true) (h : DataW.Trod enc P w base spare held T v D p) : p = [] ∧ DataW.Trod enc P w' base' spare' held T v D [] := by
  obtain ⟨fuel, hf⟩ := h
  obtain ⟨h1, h2⟩ := trod_plain (w' := w') (base' := base') (spare' := spare') 10 _ _ _ _ hp hf
  simp only at h2
  subst h2
  exact ⟨rfl, fuel, h1⟩
theorem agg_of {r : Reach} {b0 n : Nat} {T : TypeId} {v : Value} (hu : (match P.underlying T with | some (.struct _) | some (.array _ _) => true | _ => false) = true) (hC : P.cellsOf T = n) (hv : Value.okWide P w r b0 T v) : ∃ cs : Array Value, v = .agg cs ∧ cs.size = n := by
  split at hu
  · rename_i hs
    simp only [Value.okWide, hs] at hv
    obtain ⟨cs, h1, h2, _⟩ := hv
    exact ⟨cs, h1, h2.trans hC⟩
  · rename_i hs
    simp only [Value.okWide, hs] at hv
    obtain ⟨cs, h1, h2, _⟩ := hv
    exact ⟨cs, h1, h2.trans hC⟩
  · cases hu
theorem cell_at {T : TypeId} {cs : Array Value} {D : DataW H} {p : List MemPlace} {k : Bool} (i : Nat) (h : DataW.Trod enc P w base spare held T (.agg cs) D p) (hk : kindAt P 10 T i = some k) : ∃ c, cs[i]? = some c ∧ isKind k c := by
  obtain ⟨fuel, hf⟩ := h
  obtain ⟨c, h1, h2⟩ := trod_kind 10 hf hk
  exact ⟨c, by simpa [Value.cells] using h1, h2⟩
/-- Three texts. -/
theorem open_vec {r : Reach} {b0 : Nat} {T : TypeId} {v : Value} {D : DataW H} {p : List MemPlace} (hu : (match P.underlying T with | some (.struct _) | some (.array _ _) => true | _ => false) = true) (hC : P.cellsOf T = 3)
    (hk : (kindAt P 10 T 0, kindAt P 10 T 1, kindAt P 10 T 2) = (some true, some true, some true)) (hv : Value.okWide P w r b0 T v) (h : DataW.Trod enc P w base spare held T v D p) : ∃ a b c : ByteArray, v = .agg #[.string a, .string b, .string c] ∧ a.size ≤ maxLen ∧ b.size ≤ maxLen ∧ c.size ≤ maxLen := by
  simp only [Prod.mk.injEq] at hk
  obtain ⟨cs, rfl, hs⟩ := agg_of hu hC hv
  obtain ⟨c0, c1, c2, rfl⟩ : ∃ c0 c1 c2, cs = #[c0, c1, c2] := by
    obtain ⟨l⟩ := cs
    match l, hs with
    | [c0, c1, c2], _ => exact ⟨c0, c1, c2, rfl⟩
  obtain ⟨_, e0, a, rfl, ha⟩ := cell_at 0 h hk.1
  obtain ⟨_, e1, b, rfl, hb⟩ := cell_at 1 h hk.2.1
  obtain ⟨_, e2, c, rfl, hc⟩ := cell_at 2 h hk.2.2
  simp at e0 e1 e2
  subst e0 e1 e2
  exact ⟨a, b, c, rfl, ha, hb, hc⟩
/-- Texts alone. -/
theorem open_txts {r : Reach} {b0 n : Nat} {T : TypeId} {v : Value} {D : DataW H} {p : List MemPlace} (hu : (match P.underlying T with | some (.struct _) | some (.array _ _) => true | _ => false) = true) (hC : P.cellsOf T = n)
    (hk : ((List.range n).all fun i => kindAt P 10 T i == some true) = true) (hv : Value.okWide P w r b0 T v) (h : DataW.Trod enc P w base spare held T v D p) : ∃ l : List ByteArray, l.length = n ∧ v = .agg (l.map Value.string).toArray := by
  obtain ⟨cs, rfl, hs⟩ := agg_of hu hC hv
  refine ⟨cs.toList.map fun v => match v with | .string s => s | _ => default, by simp [hs], ?_⟩
  congr 1
  apply Array.toList_inj.1
  rw [List.map_map]
  apply List.ext_getElem
  · simp
  · intro i h1 h2
    have hi : i < n := by simpa [hs] using h1
    have hk' := List.all_eq_true.1 hk i (List.mem_range.2 hi)
    obtain ⟨c, e, s, rfl, _⟩ := cell_at i h (eq_of_beq hk')
    have e2 : cs.toList[i] = .string s := by
      have := Array.getElem?_eq_some_iff.1 e
      simpa using this.2
    simp [e2]
/-- Three numbers and a text. -/
theorem open_half {r : Reach} {b0 : Nat} {T : TypeId} {v : Value} {D : DataW H} {p : List MemPlace} (hu : (match P.underlying T with | some (.struct _) | some (.array _ _) => true | _ => false) = true) (hC : P.cellsOf T = 4)
    (hk : (kindAt P 10 T 0, kindAt P 10 T 1, kindAt P 10 T 2, kindAt P 10 T 3) = (some false, some false, some false, some true)) (hv : Value.okWide P w r b0 T v) (h : DataW.Trod enc P w base spare held T v D p) : ∃ (a b c : Int) (s : ByteArray), v = .agg #[.int .i64 a, .int .i64 b, .int .i64 c, .string s] ∧ s.size ≤ maxLen := by
  simp only [Prod.mk.injEq] at hk
  obtain ⟨cs, rfl, hs⟩ := agg_of hu hC hv
  obtain ⟨c0, c1, c2, c3, rfl⟩ : ∃ c0 c1 c2 c3, cs = #[c0, c1, c2, c3] := by
    obtain ⟨l⟩ := cs
    match l, hs with
    | [c0, c1, c2, c3], _ => exact ⟨c0, c1, c2, c3, rfl⟩
  obtain ⟨_, e0, a, rfl, ha⟩ := cell_at 0 h hk.1
  obtain ⟨_, e1, b, rfl, hb⟩ := cell_at 1 h hk.2.1
  obtain ⟨_, e2, c, rfl, hc⟩ := cell_at 2 h hk.2.2.1
  obtain ⟨_, e3, d, rfl, hd⟩ := cell_at 3 h hk.2.2.2
  simp at e0 e1 e2 e3
  subst e0 e1 e2 e3
  exact ⟨a, b, c, d, rfl, hd⟩
end
end Go.Proofs.YtgkpejlddgoalaaGreatDoor.Ab
