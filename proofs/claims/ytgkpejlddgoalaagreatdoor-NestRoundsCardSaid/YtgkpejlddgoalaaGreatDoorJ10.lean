/- Parts of the proof, joined. -/
import Derived.Test.YtgkpejlddgoalaaGreatDoorJ9
import Derived.Test.YtgkpejlddgoalaaGreatDoorJ8
import Derived.Test.YtgkpejlddgoalaaGreatDoorProg
set_option linter.unusedSimpArgs false
set_option linter.unusedVariables false
set_option linter.constructorNameAsVariable false
namespace Go.Proofs.YtgkpejlddgoalaaGreatDoor.Zm
open Go.RowKit

/-- The run comes to a place where Q holds; what is left is said of the frame's beginning. -/
def ReachF (P : Program) (gl : List Nat) (fz : FuncId) (σ0 : Env) (H0 : Hp) (ro : Nat) (w0 : World) (c : Cf) (Q : Cf → Prop) : Prop := ∀ b cs σ a w, b.fn = fz → AtLoop σ none b → FRep gl σ c.2 a w → c.2.zr = ro → Left σ0 H0 ro w0 c.2.zh σ w →
  ∃ τ a' w' c', Q c' ∧ Steps P (lone (b.atR a c.1) cs w) (lone (b.atR a' c'.1) cs w') ∧ FRep gl τ c'.2 a' w' ∧ Left σ0 H0 ro w0 c'.2.zh τ w' ∧ c'.2.zr = ro
/-- Names from n on are forgotten, but for that of one block, which is now n. -/
def Env.pack (σ : Env) (n k : Nat) : Env := fun j => if j < n then σ j else if j = n then σ k else none
noncomputable def packS (n : Nat) (b : Blk) (l : List Nat) (d : Tmp) (x : V) (c : Cf) : Cf := (c.1, { c.2 with zs := (Sl.mk c.2.zs.n (keepT c.2.zs l)).put d x, zh := c.2.zh.take n ++ [b] })
section
variable {P : Program} {gl : List Nat} {fz : FuncId} {c c' : Cf} {Q R : Cf → Prop} {σ σ0 τ : Env} {H H0 : Hp} {w w0 : World} {ro : Nat}
theorem ReachF.done (h : Q c) : ReachF P gl fz σ0 H0 ro w0 c Q := fun b cs σ a w _ _ hR hz hL => ⟨σ, a, w, c, h, Steps.refl _ _, hR, hL, hz⟩
theorem ReachF.bind (h : Reach P gl fz none c Q) (hq : ∀ c', Q c' → ReachF P gl fz σ0 H0 ro w0 c' R) : ReachF P gl fz σ0 H0 ro w0 c R := fun b cs σ a w hb hl hR hz hL => by
  obtain ⟨τ, a1, w1, c1, q1, s1, r1, l1, z1⟩ := h b cs σ a w hb hl hR
  obtain ⟨υ, a2, w2, c2, q2, s2, r2, l2, z2⟩ := hq c1 q1 b cs τ a1 w1 hb (hl.up l1.le) r1 (z1.trans hz) (hL.trans (hz ▸ l1))
  exact ⟨υ, a2, w2, c2, q2, Steps.trans s1 s2, r2, l2, z2⟩
/-- Each rule for Reach is one for ReachF. -/
theorem ReachF.step (h : ∀ Q, Reach P gl fz none c' Q → Reach P gl fz none c Q) (hr : ReachF P gl fz σ0 H0 ro w0 c' R) : ReachF P gl fz σ0 H0 ro w0 c R :=
  ReachF.bind (h (· = c') (.done rfl)) fun d e => by rw [e]; exact hr
theorem ReachF.chain (h : ReachF P gl fz σ0 H0 ro w0 c Q) (hq : ∀ c', Q c' → ReachF P gl fz σ0 H0 ro w0 c' R) : ReachF P gl fz σ0 H0 ro w0 c R := fun b cs σ a w hb hl hR hz hL => by
  obtain ⟨τ, a1, w1, c1, q1, s1, r1, l1, z1⟩ := h b cs σ a w hb hl hR hz hL
  obtain ⟨υ, a2, w2, c2, q2, s2, r2, l2, z2⟩ := hq c1 q1 b cs τ a1 w1 hb hl r1 z1 l1
  exact ⟨υ, a2, w2, c2, q2, Steps.trans s1 s2, r2, l2, z2⟩
theorem Reach.ofF (h : ∀ σ w, HRep σ c.2.zh w → c.2.zr ≤ c.2.zh.length → ReachF P gl fz σ c.2.zh c.2.zr w c Q) : Reach P gl fz none c Q := fun b cs σ a w hb hl hR =>
  h σ w hR.mem hR.ro b cs σ a w hb hl hR rfl (Left.refl _ hR.mem)
theorem pack_lt {n k j : Nat} (h : j < n) : (σ.pack n k) j = σ j := if_pos h
theorem pack_at {n k : Nat} : (σ.pack n k) n = σ k := by unfold Env.pack; simp
theorem pack_cases {n k j : Nat} {y : Nat × Nat} (h : (σ.pack n k) j = some y) : (j < n ∧ σ j = some y) ∨ (j = n ∧ σ k = some y) := by
  unfold Env.pack at h
  split at h
  · exact .inl ⟨‹_›, h⟩
  · split at h
    · exact .inr ⟨‹_›, h⟩
    · cases h
theorem cut_pack {n k : Nat} : (σ.cut n).le (σ.pack n k) := fun j x e => by
  unfold Env.cut at e
  split at e
  · rename_i hj; rw [pack_lt hj]; exact e
  · cases e
/-- The row's block, under its new name. -/
theorem row_pack {n k : Nat} {T : TypeId} {l : List C} (hu : l.all (C.under n) = true) (h : (Blk.row T l).holds σ k w) : (Blk.row T l).holds (σ.pack n k) n w := by
  obtain ⟨g, cs, js, e1, e2, e3⟩ := h
  exact ⟨g, cs, js, pack_at.trans e1, e2, upC cut_pack (cutC hu e3)⟩
/-- A row that grew, by the name that it had. -/
theorem ReachF.pack {n k m sz : Nat} {T : TypeId} {l : List C} {ks : List Nat} {d : Tmp} (hm0 : HRep σ0 H0 w0) (hgl : gl.length ≤ n) (hro : ro ≤ n) (hn : H0.length ≤ n) (hnk : n ≤ k) (hk : c.2.zh[k]? = some (.row T l)) (hz : c.2.zm = [])
    (hu : l.all (C.under n) = true) (hH : (c.2.zh.take n).all (underK n) = true) (hs : ∀ i ∈ ks, (c.2.zs.get i).under n = true) (hd : c.2.zs.get d = .f (.one (.b (.roy k 0 m sz))))
    (h : ReachF P gl fz σ0 H0 ro w0 (packS n (.row T l) ks d (.f (.one (.b (.roy n 0 m sz)))) c) Q) : ReachF P gl fz σ0 H0 ro w0 c Q := fun b cs σ a w hb hl hR hzr hL => by
  have hkH : k < c.2.zh.length := (List.getElem?_eq_some_iff.1 hk).1
  have hlen : (c.2.zh.take n).length = n := by rw [List.length_take]; omega
  have hlt : ∀ {j : Nat}, j < n → (c.2.zh.take n ++ [Blk.row T l])[j]? = c.2.zh[j]? := fun {j} hj => by
    rw [List.getElem?_append_left (by omega), List.getElem?_take_of_lt hj]
  have hat : (c.2.zh.take n ++ [Blk.row T l])[n]? = some (.row T l) := by
    rw [List.getElem?_append_right (by omega), hlen]; simp
  have hge : ∀ {j : Nat} {y : Blk}, (c.2.zh.take n ++ [Blk.row T l])[j]? = some y → j < n ∨ j = n := fun {j y} e => by
    have := (List.getElem?_eq_some_iff.1 e).1
    simp [hlen] at this
    omega
  have hlv : ∀ {j : Nat}, live (c.2.zh.take n ++ [Blk.row T l]) j → (j < n ∧ live c.2.zh j) ∨ j = n := fun {j} ⟨y, e, e'⟩ => by
    rcases hge e with hj | hj
    · exact .inl ⟨hj, y, by rw [← hlt hj]; exact e, e'⟩
    · exact .inr hj
  have hlk : live c.2.zh k := ⟨_, hk, rfl⟩
  have hm : HRep (σ.pack n k) (c.2.zh.take n ++ [.row T l]) w := by
    refine ⟨fun j y e => ?_, fun j j' g m m' h1 h2 e1 e2 => ?_, fun j g m h1 e1 => ?_, fun j y e => ?_⟩
    · rcases hge e with hj | rfl
      · rw [hlt hj] at e
        have hy : underK n y = true := by
          rw [List.all_eq_true] at hH
          exact hH y (List.mem_iff_getElem?.2 ⟨j, by rw [List.getElem?_take_of_lt hj]; exact e⟩)
        have hyl := Blk.cut hj (underK_ok hy) (hR.mem.blk j y e)
        have key : ∀ {y : Blk}, y.holds (σ.cut n) j w → y.holds (σ.pack n k) j w := fun {y} hh => by
          refine Blk.up (w := w) cut_pack (fun _ _ _ _ => rfl) hh
        exact key hyl
      · rw [hat] at e
        injection e with e
        subst e
        exact row_pack hu (hR.mem.blk k _ hk)
    · rcases pack_cases e1 with ⟨hj, f1⟩ | ⟨rfl, f1⟩ <;> rcases pack_cases e2 with ⟨hj', f2⟩ | ⟨rfl, f2⟩
      · exact hR.mem.inj j j' g m m' ((hlv h1).elim (·.2) (fun e => absurd hj (by omega))) ((hlv h2).elim (·.2) (fun e => absurd hj' (by omega))) f1 f2
      · exact absurd (hR.mem.inj j k g m m' ((hlv h1).elim (·.2) (fun e => absurd hj (by omega))) hlk f1 f2) (by omega)
      · exact absurd (hR.mem.inj k j' g m m' hlk ((hlv h2).elim (·.2) (fun e => absurd hj' (by omega))) f1 f2) (by omega)
      · rfl
    · rcases pack_cases e1 with ⟨hj, f1⟩ | ⟨rfl, f1⟩
      · exact hR.mem.lt j g m ((hlv h1).elim (·.2) (fun e => absurd hj (by omega))) f1
      · exact hR.mem.lt k g m hlk f1
    · rcases pack_cases e with ⟨hj, _⟩ | ⟨rfl, _⟩ <;> simp [hlen] <;> omega
  have h0n : ∀ {j y}, σ0 j = some y → j < n := fun {j y} e => Nat.lt_of_lt_of_le (hm0.dom j y e) hn
  have hL' : Left σ0 H0 ro w0 (c.2.zh.take n ++ [.row T l]) (σ.pack n k) w := by
    refine ⟨fun j y e => by rw [pack_lt (h0n e)]; exact hL.le j y e, hm, hL.base, fun g ⟨j, m, h1, h2, h3⟩ => ?_, by simp [hlen]; omega, fun j h1 h2 => by rw [hlt (by omega)]; exact hL.old j h1 h2, fun j y e => ?_⟩
    · rcases pack_cases h3 with ⟨hj, f1⟩ | ⟨rfl, f1⟩
      · exact hL.own g ⟨j, m, h1, (hlv h2).elim (·.2) (fun e => absurd hj (by omega)), f1⟩
      · exact hL.own g ⟨k, m, by omega, hlk, f1⟩
    · rcases pack_cases e with ⟨hj, f1⟩ | ⟨rfl, f1⟩
      · exact hL.new j y f1
      · exact .inr hn
  have hR' : FRep gl (σ.pack n k) (packS n (.row T l) ks d (.f (.one (.b (.roy n 0 m sz)))) c).2 a w := by
    refine ⟨fun j g e => ?_, ?_, ?_, fun t => ?_, hm, ?_⟩
    · obtain ⟨m, e2⟩ := hR.glob j g e
      have : j < gl.length := (List.getElem?_eq_some_iff.1 e).1
      exact ⟨m, by rw [pack_lt (by omega)]; exact e2⟩
    · obtain ⟨ds, e1, e2, e3⟩ := hR.defers
      exact ⟨ds, e1, e2, fun i k' hk' => by rw [show (packS n (.row T l) ks d (.f (.one (.b (.roy n 0 m sz)))) c).2.zm = c.2.zm from rfl, hz] at hk'; simp at hk'⟩
    · show a.tmps.size = ((Sl.mk c.2.zs.n (keepT c.2.zs ks)).put d _).n
      rw [Sl.put_n]; exact hR.size
    · show (((Sl.mk c.2.zs.n (keepT c.2.zs ks)).put d (.f (.one (.b (.roy n 0 m sz))))).get t).holds _ _
      have hkeep : ((Sl.mk c.2.zs.n (keepT c.2.zs ks)).get t).holds (σ.pack n k) (a.eval (.tmp t)) := by
        show ((keepT c.2.zs ks).get (path t)).holds _ _
        rw [keepT_get]
        split
        · rename_i ht
          exact V.up cut_pack (V.cut (hs t ht) (hR.slots t))
        · trivial
      by_cases e : d = t
      · subst e
        by_cases hdn : d < c.2.zs.n
        · rw [Sl.get_same (s := Sl.mk c.2.zs.n (keepT c.2.zs ks)) hdn]
          have := hR.slots d
          rw [hd] at this
          obtain ⟨g, N, cc, e1, e2⟩ := this
          exact ⟨g, N, cc, pack_at.trans e1, e2⟩
        · rw [Sl.put_ge (s := Sl.mk c.2.zs.n (keepT c.2.zs ks)) hdn]; exact hkeep
      · rw [Sl.get_ne e]; exact hkeep
    · show c.2.zr ≤ (c.2.zh.take n ++ [Blk.row T l]).length
      simp [hlen]; omega
  exact h b cs (σ.pack n k) a w hb hl hR' hzr hL'
end

section
variable {P : Program} {gl : List Nat} {imp : FuncId → Bool} {ext : ExtFn}
/-- The contract of a call that has been run. -/
theorem calls_of_run (hmix : P.follows .mixedOrders = true) (hN : EntersB P = true) (hE : ExtOk P gl ext) (n : Nat) {f : FuncId} {args : List V} {H : Hp} {ro : Nat} {x : V} (h : (callZ P ext (execZ P gl imp ext n) (.fn f) args H ro).map Prod.fst = some x)
    {σ : Env} {w : World} {vs : List Value} (hro : ro ≤ H.length) (hm : HRep σ H w) (hgl : GlOk gl σ) (ha : holdsV σ args vs) :
    Calls P f vs.toArray w fun e w' => ∃ v, e = .returned v ∧ ∃ τ, σ.le τ ∧ Base (Own σ H ro) w w' ∧ x.holds τ v := by
  rw [Option.map_eq_some_iff] at h
  obtain ⟨⟨y, H'⟩, h1, h2⟩ := h
  simp only at h2
  subst h2
  exact (runZ_ok hmix hN hE n (.fn f) args H ro y H' h1 σ w vs hro hm hgl ha).2.mono fun e w' ⟨v, e1, τ, e2, e3⟩ => ⟨v, e1, τ, e2.le, e2.base, e3⟩
/-- Nothing is known of memory. -/
theorem HRep.none (w : World) : HRep (fun _ => none) [] w := ⟨fun k b h => (by simp at h), fun k k' g n n' _ _ e => (by cases e), fun k g n _ e => (by cases e), fun k x e => (by cases e)⟩
theorem ExtOk.none : ExtOk P gl (fun _ _ _ => none) := fun f args H x h => by cases h
end
theorem entersP : EntersB Tryz.prog = true := by kernel_rfl
theorem mixP : Tryz.prog.follows .mixedOrders = true := by kernel_rfl
theorem root20 (w : World) : Calls Tryz.prog 99 #[.int .i64 20] w fun e w' => ∃ v, e = .returned v ∧ Below w.heap.size w w' ∧ v = .int .i64 4 := by
  refine (calls_of_run (imp := fun _ => false) (ext := fun _ _ _ => none) (gl := []) mixP entersP ExtOk.none 1000 (f := 99) (args := [lv (.int .i64 20)]) (H := []) (ro := 0) (x := lv (.int .i64 4)) (by kernel_rfl) (Nat.le_refl _) (HRep.none w) (fun k g e => by simp at e) (vs := [.int .i64 20]) ⟨_, _, rfl, ⟨rfl, rfl⟩, rfl⟩).mono ?_
  rintro e w' ⟨v, e1, τ, _, hb, hx⟩
  exact ⟨v, e1, (hb.mono fun g ⟨k, n, _, h, _⟩ => absurd h (by rintro ⟨b, hb, _⟩; simp at hb)).below, hold_lv hx⟩

abbrev symI (n : Int) : V := .f (.one (.b (.sym (.int .i64 n))))
abbrev litI (n : Int) : V := lv (.int .i64 n)
abbrev symB (b : Bool) : V := .f (.one (.b (.sym (.bool b))))
abbrev sI (n : Int) : C := .b (.sym (.int .i64 n))
def nimp (_ : FuncId) : Bool := false
abbrev go {gl : List Nat} {fz : FuncId} {oz : Option Nat} {c : Cf} {Q : Cf → Prop} (h : Reach Tryz.prog gl fz oz (runS Tryz.prog gl nimp noCall fz oz 2000 c) Q) : Reach Tryz.prog gl fz oz c Q := Reach.run mixP noCall_ok 2000 h

def rangeE (n lo hi : Int) : Int := if n < lo ∨ hi < n then 3 else 0
theorem checkRange_at (n lo hi : Int) : PureAt Tryz.prog 52 [symI n, litI lo, litI hi] (· = symI (rangeE n lo hi)) := by
  refine pure_of_call (call_of_reach entersP (by kernel_rfl) ?_)
  refine go ?_
  by_cases h1 : n < lo
  · refine Reach.bool 10 true (decide_eq_true h1) (by kernel_rfl) (go ?_)
    refine Reach.lit 6 (u := .int .i64 3) (by kernel_rfl) ?_
    exact Reach.fin (symI 3) [] (by kernel_rfl) ⟨by rw [rangeE, if_pos (.inl h1)], rfl⟩
  · refine Reach.bool 10 false (decide_eq_false h1) (by kernel_rfl) (go ?_)
    by_cases h2 : hi < n
    · refine Reach.bool 14 true (decide_eq_true h2) (by kernel_rfl) (go ?_)
      refine Reach.lit 6 (u := .int .i64 3) (by kernel_rfl) ?_
      exact Reach.fin (symI 3) [] (by kernel_rfl) ⟨by rw [rangeE, if_pos (.inr h2)], rfl⟩
    · refine Reach.bool 14 false (decide_eq_false h2) (by kernel_rfl) (go ?_)
      refine Reach.lit 6 (u := .int .i64 0) (by kernel_rfl) ?_
      exact Reach.fin (symI 0) [] (by kernel_rfl) ⟨by rw [rangeE, if_neg (fun h => h.elim h1 h2)], rfl⟩
theorem checkRange_any (n lo hi : Int) : PureAt Tryz.prog 52 [symI n, symI lo, symI hi] (· = symI (rangeE n lo hi)) := by
  refine pure_of_call (call_of_reach entersP (by kernel_rfl) ?_)
  refine go ?_
  by_cases h1 : n < lo
  · refine Reach.bool 10 true (decide_eq_true h1) (by kernel_rfl) (go ?_)
    refine Reach.lit 6 (u := .int .i64 3) (by kernel_rfl) ?_
    exact Reach.fin (symI 3) [] (by kernel_rfl) ⟨by rw [rangeE, if_pos (.inl h1)], rfl⟩
  · refine Reach.bool 10 false (decide_eq_false h1) (by kernel_rfl) (go ?_)
    by_cases h2 : hi < n
    · refine Reach.bool 14 true (decide_eq_true h2) (by kernel_rfl) (go ?_)
      refine Reach.lit 6 (u := .int .i64 3) (by kernel_rfl) ?_
      exact Reach.fin (symI 3) [] (by kernel_rfl) ⟨by rw [rangeE, if_pos (.inr h2)], rfl⟩
    · refine Reach.bool 14 false (decide_eq_false h2) (by kernel_rfl) (go ?_)
      refine Reach.lit 6 (u := .int .i64 0) (by kernel_rfl) ?_
      exact Reach.fin (symI 0) [] (by kernel_rfl) ⟨by rw [rangeE, if_neg (fun h => h.elim h1 h2)], rfl⟩
def t0 : PureFn := tab3 52 fun a b c => symI (rangeE a b c)
theorem t0_ok : TabOk Tryz.prog t0 := tab3_ok checkRange_any
abbrev goT (tab : PureFn) (ht : TabOk Tryz.prog tab) {gl : List Nat} {fz : FuncId} {oz : Option Nat} {c : Cf} {Q : Cf → Prop} (h : Reach Tryz.prog gl fz oz (runS Tryz.prog gl nimp (pureCall fun f args => tab f (args.map symV1)) fz oz 2000 c) Q) : Reach Tryz.prog gl fz oz c Q := Reach.run mixP (pureCall_ok (pureOk_of ht)) 2000 h
abbrev sizeE (n : Int) : Int := rangeE n 1 10000
theorem checkSize_any (n : Int) : PureAt Tryz.prog 51 [symI n] (· = symI (sizeE n)) := by
  refine pure_of_call (call_of_reach entersP (by kernel_rfl) (goT t0 t0_ok ?_))
  exact Reach.fin (symI (sizeE n)) [] (by kernel_rfl) ⟨rfl, rfl⟩
def or2 (a b : Int) : Int := if a = 0 then b else a
def or3 (a b c : Int) : Int := if a = 0 then or2 b c else a
def or4 (a b c d : Int) : Int := if a = 0 then or3 b c d else a
theorem bne_t {a : Int} (h : ¬ a = 0) : (a != 0) = true := by simp [h]
theorem bne_f {a : Int} (h : a = 0) : (a != 0) = false := by simp [h]
theorem or2_at (a b : Int) : CallAt Tryz.prog [] (.fn 50) ([] ++ .f (.one (.b (.slc 0 0 2 2))) :: []) [.cells 26 [sI a, sI b]] 1 (fun x _ => x = symI (or2 a b) ∧ plainV x = true) := by
  refine call_of_reach entersP (by kernel_rfl) (go ?_)
  by_cases h1 : a = 0
  · refine Reach.bool 14 false (bne_f h1) (by kernel_rfl) (go ?_)
    by_cases h2 : b = 0
    · refine Reach.bool 14 false (bne_f h2) (by kernel_rfl) (go ?_)
      refine Reach.lit 2 (u := .int .i64 0) (by kernel_rfl) ?_
      exact Reach.finV (symI 0) (by kernel_rfl) fun _ => ⟨by simp [or2, h1, h2], rfl⟩
    · refine Reach.bool 14 true (bne_t h2) (by kernel_rfl) (go ?_)
      exact Reach.finV (symI b) (by kernel_rfl) fun _ => ⟨by simp [or2, h1], rfl⟩
  · refine Reach.bool 14 true (bne_t h1) (by kernel_rfl) (go ?_)
    exact Reach.finV (symI a) (by kernel_rfl) fun _ => ⟨by simp [or2, h1], rfl⟩
theorem or3_at (a b c : Int) : CallAt Tryz.prog [] (.fn 50) ([] ++ .f (.one (.b (.slc 0 0 3 3))) :: []) [.cells 26 [sI a, sI b, sI c]] 1 (fun x _ => x = symI (or3 a b c) ∧ plainV x = true) := by
  refine call_of_reach entersP (by kernel_rfl) (go ?_)
  by_cases h1 : a = 0
  · refine Reach.bool 14 false (bne_f h1) (by kernel_rfl) (go ?_)
    by_cases h2 : b = 0
    · refine Reach.bool 14 false (bne_f h2) (by kernel_rfl) (go ?_)
      by_cases h3 : c = 0
      · refine Reach.bool 14 false (bne_f h3) (by kernel_rfl) (go ?_)
        refine Reach.lit 2 (u := .int .i64 0) (by kernel_rfl) ?_
        exact Reach.finV (symI 0) (by kernel_rfl) fun _ => ⟨by simp [or2, or3, h1, h2, h3], rfl⟩
      · refine Reach.bool 14 true (bne_t h3) (by kernel_rfl) (go ?_)
        exact Reach.finV (symI c) (by kernel_rfl) fun _ => ⟨by simp [or2, or3, h1, h2], rfl⟩
    · refine Reach.bool 14 true (bne_t h2) (by kernel_rfl) (go ?_)
      exact Reach.finV (symI b) (by kernel_rfl) fun _ => ⟨by simp [or2, or3, h1, h2], rfl⟩
  · refine Reach.bool 14 true (bne_t h1) (by kernel_rfl) (go ?_)
    exact Reach.finV (symI a) (by kernel_rfl) fun _ => ⟨by simp [or3, h1], rfl⟩
abbrev W64 (n : Int) : Int := IntKind.i64.wrap n
def fitsE (a b d : Int) : Bool := decide (W64 (W64 (a * a) + W64 (b * b)) ≤ W64 (d * d))
theorem fits_any (a b d : Int) : PureAt Tryz.prog 64 [.f (.agg [sI a, sI b]), symI d] (· = symB (fitsE a b d)) := by
  refine pure_of_call (call_of_reach entersP (by kernel_rfl) (go ?_))
  exact Reach.finV (symB (fitsE a b d)) (by kernel_rfl) fun _ => ⟨rfl, rfl⟩
theorem refFits_any (a b d : Int) : PureAt Tryz.prog 83 [symI a, symI b, symI d] (· = symB (fitsE a b d)) := by
  refine pure_of_call (call_of_reach entersP (by kernel_rfl) (go ?_))
  exact Reach.finV (symB (fitsE a b d)) (by kernel_rfl) fun _ => ⟨rfl, rfl⟩
/-- What is known of calls so far. -/
def t1 : PureFn := orT t0 (orT (tab1 51 fun a => symI (sizeE a)) (tabB 64 fun a b d => symB (fitsE a b d)))
theorem t1_ok : TabOk Tryz.prog t1 := orT_ok t0_ok (orT_ok (tab1_ok checkSize_any) (tabB_ok fits_any))
/-- nest.Fits. -/
theorem nFits_any (a b d : Int) : PureAt Tryz.prog 21 [symI a, symI b, symI d] (fun x => x = .tup [.one (.b (.sym (.bool (decide (or3 (sizeE a) (sizeE b) (sizeE d) = 0) && fitsE a b d)))), .one (sI (or3 (sizeE a) (sizeE b) (sizeE d)))]) := by
  refine pure_of_call (call_of_reach entersP (by kernel_rfl) (goT t1 t1_ok ?_))
  refine Reach.read1 0 (or3_at (sizeE a) (sizeE b) (sizeE d)) (by kernel_rfl) (by kernel_rfl) (by kernel_rfl) rfl rfl (goT t1 t1_ok ?_)
  by_cases h : or3 (sizeE a) (sizeE b) (sizeE d) = 0
  · refine Reach.bool 18 false (bne_f h) (by kernel_rfl) (goT t1 t1_ok ?_)
    refine Reach.lit 7 (u := .int .i64 0) (by kernel_rfl) ?_
    exact Reach.finV _ (by kernel_rfl : _ = some (.tup [.one (.b (.sym (.bool (fitsE a b d)))), .one (sI 0)])) fun _ => ⟨by rw [h]; simp, rfl⟩
  · refine Reach.bool 18 true (bne_t h) (by kernel_rfl) (goT t1 t1_ok ?_)
    refine Reach.lit 6 (u := .bool false) (by kernel_rfl) ?_
    exact Reach.finV _ (by kernel_rfl : _ = some (.tup [.one (.b (.sym (.bool false))), .one (sI (or3 (sizeE a) (sizeE b) (sizeE d)))])) fun _ => ⟨by simp [h], rfl⟩

abbrev goL {gl : List Nat} {fz : FuncId} {oz : Option Nat} {c : Cf} {Q : Cf → Prop} (h : Reach Tryz.prog gl fz oz (runL Tryz.prog gl nimp noCall fz oz 2000 c) Q) : Reach Tryz.prog gl fz oz c Q := Reach.runL mixP noCall_ok 2000 h
abbrev goN (n : Nat) {gl : List Nat} {fz : FuncId} {oz : Option Nat} {c : Cf} {Q : Cf → Prop} (h : Reach Tryz.prog gl fz oz (runS Tryz.prog gl nimp noCall fz oz n c) Q) : Reach Tryz.prog gl fz oz c Q := Reach.run mixP noCall_ok n h
theorem W64_id {n : Int} (h1 : -9223372036854775808 ≤ n) (h2 : n < 9223372036854775808) : W64 n = n := by
  show IntKind.i64.wrap n = n
  rw [IntKind.wrap_i64]; omega
/-- Of the first m squares, those that are at most n. -/
def cntS (n : Int) : Nat → Int
  | 0 => 0
  | m + 1 => cntS n m + (if (m : Int) * m ≤ n then 1 else 0)
def searchE (n : Int) : Int := cntS n 10001
/-- From r on squares are greater. -/
structure IsS (n r : Int) : Prop where
  lo : 0 ≤ r
  hi : r ≤ 10001
  below : ∀ k : Int, 0 ≤ k → k < r → k * k ≤ n
  above : ∀ k : Int, r ≤ k → k ≤ 10000 → n < k * k
theorem cnt_min {n r : Int} (h : IsS n r) : ∀ m : Nat, m ≤ 10001 → cntS n m = min (m : Int) r
  | 0, _ => by rw [cntS]; have := h.lo; omega
  | m + 1, hm => by
    rw [cntS, cnt_min h m (by omega)]
    by_cases hr : (m : Int) < r
    · rw [if_pos (h.below m (by omega) hr)]; omega
    · rw [if_neg (by have := h.above m (by omega) (by omega); omega)]; omega
theorem search_of {n r : Int} (h : IsS n r) : searchE n = r := by
  rw [searchE, cnt_min h 10001 (Nat.le_refl _)]; have := h.hi; omega
def gtE (r n : Int) : Bool := decide (W64 (r * r) > n)
theorem root1_at (r n : Int) : CallAt Tryz.prog [] (.fn 127) [symI r, .f (.one (.b (.ptr 0 0)))] [.cells 3 [sI n]] 1 (fun x _ => x = symB (gtE r n) ∧ plainV x = true) := by
  refine call_of_reach entersP (by kernel_rfl) (go ?_)
  exact Reach.finV (symB (gtE r n)) (by kernel_rfl) fun _ => ⟨rfl, rfl⟩
/-- The loop of Search. -/
noncomputable def headS (n i j : Int) : Cf := keepS [1, 5, 6] (knowS 6 (symI j) (knowS 5 (symI i) (intoLoop (runL Tryz.prog [] nimp noCall 126 none 2000 (startS Tryz.prog 126 [litI 10001, .f (.one (.fn 127 [] [(false, [.ptr 0 0])]))] [.cells 3 [sI n]] 1)))))
theorem sq_le {a b : Int} (h0 : 0 ≤ a) (h : a ≤ b) : a * a ≤ b * b := Int.mul_le_mul h h h0 (by omega)
theorem headS_ok (n : Int) : ∀ (m : Nat) (i j : Int), (j - i).toNat ≤ m → 0 ≤ i → i ≤ j → j ≤ 10001 → (∀ k : Int, 0 ≤ k → k < i → k * k ≤ n) → (∀ k : Int, j ≤ k → k ≤ 10000 → n < k * k) →
    Reach Tryz.prog [] 126 none (headS n i j) (Ends Tryz.prog 126 (fun x _ => x = symI (searchE n) ∧ plainV x = true)) := by
  intro m
  induction m with
  | zero =>
    intro i j hm h0 hij hj hb ha
    have : i = j := by omega
    subst this
    refine goL ?_
    refine Reach.bool 11 false (decide_eq_false (Int.lt_irrefl i)) (by kernel_rfl) (go ?_)
    exact Reach.finV (symI i) (by kernel_rfl) fun _ => ⟨by rw [search_of ⟨h0, hj, hb, ha⟩], rfl⟩
  | succ m ih =>
    intro i j hm h0 hij hj hb ha
    refine goL ?_
    by_cases hlt : i < j
    · refine Reach.bool 11 true (decide_eq_true hlt) (by kernel_rfl) (goL ?_)
      refine Reach.int 14 (i + j) (W64_id (by omega) (by omega)) (by kernel_rfl) ?_
      refine Reach.unsym 14 (u := .int .i64 (i + j)) (by kernel_rfl) (goN 4 ?_)
      refine Reach.num 7 (n := IntKind.i64.wrap ((IntKind.u64.wrap (i + j)).fdiv 2)) ((i + j) / 2) ?_ (by kernel_rfl) (goL ?_)
      · rw [IntKind.wrap_i64, IntKind.wrap_u64, Int.fdiv_eq_ediv_of_nonneg _ (by omega)]; omega
      refine Reach.askH (root1_at ((i + j) / 2) n) (by kernel_rfl) (by kernel_rfl) (goL ?_)
      have hsq : W64 ((i + j) / 2 * ((i + j) / 2)) = (i + j) / 2 * ((i + j) / 2) := by
        have h1 : (i + j) / 2 * ((i + j) / 2) ≤ 10001 * 10001 := sq_le (by omega) (by omega)
        have h2 : 0 ≤ (i + j) / 2 * ((i + j) / 2) := Int.mul_nonneg (by omega) (by omega)
        exact W64_id (by omega) (by omega)
      by_cases hg : n < (i + j) / 2 * ((i + j) / 2)
      · refine Reach.bool 20 (t := gtE ((i + j) / 2) n) true (by unfold gtE; rw [hsq]; exact decide_eq_true hg) (by kernel_rfl) (goL (Reach.into ?_))
        refine Reach.keep [1, 5, 6] (Reach.cast (c' := headS n i ((i + j) / 2)) (by kernel_rfl) ?_)
        exact ih i ((i + j) / 2) (by omega) h0 (by omega) (by omega) hb fun k h1 h2 => Int.lt_of_lt_of_le hg (sq_le (by omega) h1)
      · refine Reach.bool 20 (t := gtE ((i + j) / 2) n) false (by unfold gtE; rw [hsq]; exact decide_eq_false hg) (by kernel_rfl) (goL ?_)
        refine Reach.int 5 ((i + j) / 2 + 1) (W64_id (by omega) (by omega)) (by kernel_rfl) (Reach.into ?_)
        refine Reach.keep [1, 5, 6] (Reach.cast (c' := headS n ((i + j) / 2 + 1) j) (by kernel_rfl) ?_)
        exact ih ((i + j) / 2 + 1) j (by omega) (by omega) (by omega) hj (fun k h1 h2 => Int.le_trans (sq_le h1 (by omega)) (Int.not_lt.1 hg)) ha
    · have : i = j := by omega
      subst this
      refine Reach.bool 11 false (decide_eq_false (Int.lt_irrefl i)) (by kernel_rfl) (go ?_)
      exact Reach.finV (symI i) (by kernel_rfl) fun _ => ⟨by rw [search_of ⟨h0, hj, hb, ha⟩], rfl⟩
theorem search_at (n : Int) : CallAt Tryz.prog [] (.fn 126) [litI 10001, .f (.one (.fn 127 [] [(false, [.ptr 0 0])]))] [.cells 3 [sI n]] 1 (fun x _ => x = symI (searchE n) ∧ plainV x = true) := by
  refine call_of_reach entersP (by kernel_rfl) (goL (Reach.into ?_))
  refine Reach.lit 5 (u := .int .i64 0) (by kernel_rfl) (Reach.lit 6 (u := .int .i64 10001) (by kernel_rfl) ?_)
  refine Reach.keep [1, 5, 6] (Reach.cast (c' := headS n 0 10001) (by kernel_rfl) ?_)
  exact headS_ok n 10001 0 10001 (by decide) (by decide) (by decide) (by decide) (fun k h1 h2 => absurd h2 (Int.not_lt.2 h1)) (fun k h1 h2 => by omega)
def rootE (n : Int) : Int := searchE n - 1
theorem root_any (n : Int) : PureAt Tryz.prog 99 [symI n] (· = symI (W64 (searchE n - 1))) := by
  refine pure_of_call (call_of_reach entersP (by kernel_rfl) (go ?_))
  refine Reach.askH (search_at n) (by kernel_rfl) (by kernel_rfl) (go ?_)
  exact Reach.finV (symI (W64 (searchE n - 1))) (by kernel_rfl) fun _ => ⟨rfl, rfl⟩

abbrev goX (tab : PureFn) (ht : TabOk Tryz.prog tab) {gl : List Nat} {fz : FuncId} {oz : Option Nat} {c : Cf} {Q : Cf → Prop} (h : Reach Tryz.prog gl fz oz (runS Tryz.prog gl nimp (callX Tryz.prog gl nimp fun f args => tab f (args.map symV1)) fz oz 2000 c) Q) : Reach Tryz.prog gl fz oz c Q := Reach.run mixP (callX_ok mixP entersP (pureOk_of ht)) 2000 h
abbrev goXL (tab : PureFn) (ht : TabOk Tryz.prog tab) {gl : List Nat} {fz : FuncId} {oz : Option Nat} {c : Cf} {Q : Cf → Prop} (h : Reach Tryz.prog gl fz oz (runL Tryz.prog gl nimp (callX Tryz.prog gl nimp fun f args => tab f (args.map symV1)) fz oz 2000 c) Q) : Reach Tryz.prog gl fz oz c Q := Reach.runL mixP (callX_ok mixP entersP (pureOk_of ht)) 2000 h
def t2 : PureFn := orT t1 (tab1 99 fun n => symI (W64 (searchE n - 1)))
theorem t2_ok : TabOk Tryz.prog t2 := orT_ok t1_ok (tab1_ok root_any)
def highE (d w : Int) : Int := W64 (searchE (W64 (W64 (d * d) - W64 (w * w))) - 1)
theorem highest_any (d w : Int) : PureAt Tryz.prog 59 [symI d, symI w] (· = symI (highE d w)) := by
  refine pure_of_call (call_of_reach entersP (by kernel_rfl) (goT t2 t2_ok ?_))
  exact Reach.finV (symI (highE d w)) (by kernel_rfl) fun _ => ⟨rfl, rfl⟩
theorem or2z_at (a b : Int) : CallAt Tryz.prog [] (.fn 50) ([] ++ .f (.one (.b (.slc 0 0 2 2))) :: []) [.cells 26 [sI a, sI b]] 1 (fun x _ => x = symI (or2 a b) ∧ plainV x = true) := or2_at a b
theorem isNaN_any (a : Int) : PureAt Tryz.prog 98 [symI a] (· = symB (a != a)) := by
  refine pure_of_call (call_of_reach entersP (by kernel_rfl) (go ?_))
  exact Reach.finV (symB (a != a)) (by kernel_rfl) fun _ => ⟨rfl, rfl⟩
def cmpE (a b : Int) : Int := if a < b then -1 else if a > b then 1 else 0
def strE (a b : Int) : Int := W64 (W64 (a * b) * b)
theorem strength_any (a b : Int) : PureAt Tryz.prog 63 [.f (.agg [sI a, sI b])] (· = symI (strE a b)) := by
  refine pure_of_call (call_of_reach entersP (by kernel_rfl) (go ?_))
  exact Reach.finV (symI (strE a b)) (by kernel_rfl) fun _ => ⟨rfl, rfl⟩
theorem compare_any (a b : Int) : PureAt Tryz.prog 57 [symI a, symI b] (· = symI (cmpE a b)) := by
  refine pure_of_call (call_of_reach entersP (by kernel_rfl) (go ?_))
  refine Reach.pure1 (by kernel_rfl) rfl (isNaN_any a) (go ?_)
  refine Reach.pure1 (by kernel_rfl) rfl (isNaN_any b) (go ?_)
  refine Reach.bool 11 (t := a != a) false (by simp) (by kernel_rfl) (go ?_)
  refine Reach.bool 13 (t := b != b) false (by simp) (by kernel_rfl) (go ?_)
  by_cases h1 : a < b
  · refine Reach.bool 16 true (decide_eq_true h1) (by kernel_rfl) (go ?_)
    refine Reach.lit 4 (u := .int .i64 (-1)) (by kernel_rfl) ?_
    exact Reach.finV (symI (-1)) (by kernel_rfl) fun _ => ⟨by rw [cmpE, if_pos h1], rfl⟩
  · refine Reach.bool 16 false (decide_eq_false h1) (by kernel_rfl) (go ?_)
    by_cases h2 : a > b
    · refine Reach.bool 19 true (decide_eq_true h2) (by kernel_rfl) (go ?_)
      refine Reach.lit 4 (u := .int .i64 1) (by kernel_rfl) ?_
      exact Reach.finV (symI 1) (by kernel_rfl) fun _ => ⟨by rw [cmpE, if_neg h1, if_pos h2], rfl⟩
    · refine Reach.bool 19 false (decide_eq_false h2) (by kernel_rfl) (go ?_)
      refine Reach.lit 4 (u := .int .i64 0) (by kernel_rfl) ?_
      exact Reach.finV (symI 0) (by kernel_rfl) fun _ => ⟨by rw [cmpE, if_neg h1, if_neg h2], rfl⟩
def t3 : PureFn := orT t2 (orT (tab2 59 fun a b => symI (highE a b)) (orT (tab2 57 fun a b => symI (cmpE a b)) (tabA 63 fun a b => symI (strE a b))))
theorem t3_ok : TabOk Tryz.prog t3 := orT_ok t2_ok (orT_ok (tab2_ok highest_any) (orT_ok (tab2_ok compare_any) (tabA_ok strength_any)))
/-- nest.Highest. -/
def nHigh (d w : Int) : Int × Int := if or2 (sizeE d) (sizeE w) = 0 then (if highE d w < 1 then (0, 7) else (highE d w, 0)) else (0, or2 (sizeE d) (sizeE w))
theorem nHighest_any (d w : Int) : PureAt Tryz.prog 19 [symI d, symI w] (· = .tup [.one (sI (nHigh d w).1), .one (sI (nHigh d w).2)]) := by
  refine pure_of_call (call_of_reach entersP (by kernel_rfl) (goT t3 t3_ok ?_))
  refine Reach.read1 0 (or2_at (sizeE d) (sizeE w)) (by kernel_rfl) (by kernel_rfl) (by kernel_rfl) rfl rfl (goT t3 t3_ok ?_)
  by_cases h : or2 (sizeE d) (sizeE w) = 0
  · refine Reach.bool 15 false (bne_f h) (by kernel_rfl) (goT t3 t3_ok ?_)
    by_cases h1 : highE d w < 1
    · refine Reach.bool 21 true (decide_eq_true h1) (by kernel_rfl) (goT t3 t3_ok ?_)
      refine Reach.lit 4 (u := .int .i64 0) (by kernel_rfl) (Reach.lit 5 (u := .int .i64 7) (by kernel_rfl) ?_)
      exact Reach.finV (.tup [.one (sI 0), .one (sI 7)]) (by kernel_rfl) fun _ => ⟨by rw [nHigh, if_pos h, if_pos h1], rfl⟩
    · refine Reach.bool 21 false (decide_eq_false h1) (by kernel_rfl) (goT t3 t3_ok ?_)
      refine Reach.lit 5 (u := .int .i64 0) (by kernel_rfl) ?_
      exact Reach.finV (.tup [.one (sI (highE d w)), .one (sI 0)]) (by kernel_rfl) fun _ => ⟨by rw [nHigh, if_pos h, if_neg h1], rfl⟩
  · refine Reach.bool 15 true (bne_t h) (by kernel_rfl) (goT t3 t3_ok ?_)
    refine Reach.lit 4 (u := .int .i64 0) (by kernel_rfl) ?_
    exact Reach.finV (.tup [.one (sI 0), .one (sI (or2 (sizeE d) (sizeE w)))]) (by kernel_rfl) fun _ => ⟨by rw [nHigh, if_neg h], rfl⟩
/-- The comparison of strengths. -/
theorem cmpS_any (a b c d : Int) : PureAt Tryz.prog 62 [.f (.agg [sI a, sI b]), .f (.agg [sI c, sI d])] (· = symI (cmpE (strE a b) (strE c d))) := by
  refine pure_of_call (call_of_reach entersP (by kernel_rfl) (goT t3 t3_ok ?_))
  exact Reach.finV (symI (cmpE (strE a b) (strE c d))) (by kernel_rfl) fun _ => ⟨rfl, rfl⟩

def sumE (a : Int) (l : List Int) : Int := l.foldl (fun a b => W64 (a + b)) a
/-- The loop of sum: what was summed, where it stands. -/
noncomputable def headM (l : List Int) (a i : Int) : Cf := keepS [3, 6, 7, 8] (knowS 8 (symI i) (knowS 3 (symI a) (intoLoop (runL Tryz.prog [] nimp noCall 89 none 2000
  (afterCall (runL Tryz.prog [] nimp noCall 89 none 2000 (startS Tryz.prog 89 [.f (.one (.b (.sly 0 0 l.length l.length)))] [.cells 3 (l.map sI)] 1)) (symI l.length) [.cells 3 (l.map sI)])))))
theorem headM_ok (l : List Int) : ∀ (m i : Nat) (a : Int), l.length - i ≤ m → i ≤ l.length → l.length < 4611686018427387904 →
    Reach Tryz.prog [] 89 none (headM l a i) (Ends Tryz.prog 89 (fun x _ => x = symI (sumE a (l.drop i)) ∧ plainV x = true)) := by
  intro m
  induction m with
  | zero =>
    intro i a hm hi hl
    have : i = l.length := by omega
    subst this
    refine goL ?_
    refine Reach.bool 9 (t := decide ((l.length : Int) < l.length)) false (decide_eq_false (Int.lt_irrefl _)) (by kernel_rfl) (go ?_)
    exact Reach.finV (symI a) (by kernel_rfl) fun _ => ⟨by rw [List.drop_length]; rfl, rfl⟩
  | succ m ih =>
    intro i a hm hi hl
    refine goL ?_
    by_cases h : i < l.length
    · refine Reach.bool 9 true (decide_eq_true (Int.ofNat_lt.2 h)) (by kernel_rfl) (goL ?_)
      refine Reach.idx (k := 0) (off := 0) (n := l.length) (i := i) (m := 1) (by kernel_rfl) (Int.natCast_nonneg i) (Int.ofNat_lt.2 h) (goL ?_)
      refine Reach.ld1 (k := 0) (off := 0 + (i : Int).toNat * 1) (l := l.map sI) (d := sI l[i]) (by kernel_rfl) (by kernel_rfl) (by simp [h]) (goL ?_)
      refine Reach.int 8 ((i + 1 : Nat) : Int) (W64_id (by omega) (by omega)) (by kernel_rfl) (Reach.into ?_)
      refine Reach.keep [3, 6, 7, 8] (Reach.cast (c' := headM l (W64 (a + l[i])) (i + 1 : Nat)) (by kernel_rfl) ?_)
      have := ih (i + 1) (W64 (a + l[i])) (by omega) (by omega) hl
      rw [List.drop_eq_getElem_cons h]
      exact this
    · have : i = l.length := by omega
      subst this
      refine Reach.bool 9 (t := decide ((l.length : Int) < l.length)) false (decide_eq_false (Int.lt_irrefl _)) (by kernel_rfl) (go ?_)
      exact Reach.finV (symI a) (by kernel_rfl) fun _ => ⟨by rw [List.drop_length]; rfl, rfl⟩
theorem sum_at (l : List Int) (hl : l.length < 4611686018427387904) : CallAt Tryz.prog [] (.fn 89) [.f (.one (.b (.sly 0 0 l.length l.length)))] [.cells 3 (l.map sI)] 1 (fun x _ => x = symI (sumE 0 l) ∧ plainV x = true) := by
  refine call_of_reach entersP (by kernel_rfl) (goL ?_)
  refine Reach.len1 (n := l.length) (by kernel_rfl) (goL (Reach.into ?_))
  refine Reach.lit 3 (u := .int .i64 0) (by kernel_rfl) (Reach.lit 8 (u := .int .i64 0) (by kernel_rfl) ?_)
  refine Reach.keep [3, 6, 7, 8] (Reach.cast (c' := headM l 0 (0 : Nat)) (by kernel_rfl) ?_)
  exact headM_ok l l.length 0 0 (by omega) (by omega) hl

def maxE (a b : Int) : Int := if b > a then b else a
def wideE (d t low : Int) : Int := highE d (maxE (W64 (0 - low)) (W64 (low + W64 (2 * t))))
def nextE (t k low : Int) : Int := W64 (W64 (low + W64 (2 * t)) + W64 (2 * k))
/-- The widths of boards, from a low side on. -/
def sawE (d t k : Int) : Int → Nat → Option (List Int)
  | _, 0 => some []
  | low, m + 1 => if wideE d t low < 1 then none else (sawE d t k (nextE t k low) m).map (wideE d t low :: ·)
def lowE (t k n : Int) : Int := W64 (0 - (W64 (W64 (n * t) + W64 (W64 (n - 1) * k))))
abbrev slyV (n : Nat) : V := .f (.one (.b (.sly 0 0 n n)))
noncomputable def baseW (d t k n : Int) : Cf := intoLoop (runL Tryz.prog [] nimp noCall 53 none 2000
  (afterCall (runS Tryz.prog [] nimp (pureCall fun f args => t3 f (args.map symV1)) 53 none 2000
    (afterCall (runS Tryz.prog [] nimp (pureCall fun f args => t3 f (args.map symV1)) 53 none 2000
      (afterCall (runS Tryz.prog [] nimp (pureCall fun f args => t3 f (args.map symV1)) 53 none 2000 (startS Tryz.prog 53 [symI d, symI t, symI k, symI n] [] 0))
        (slyV n.toNat) [.cells 3 (List.replicate n.toNat (lc (.int .i64 0)))])) (symI (lowE t k n)) [.cells 3 (List.replicate n.toNat (lc (.int .i64 0)))])) (symI n.toNat) [.cells 3 (List.replicate n.toNat (lc (.int .i64 0)))]))
/-- The loop's head: so many boards lie there, the next one's low side. -/
noncomputable def headW (d t k n : Int) (ws : List Int) (low : Int) (r : Nat) (i : Int) : Cf :=
  heapS [.cells 3 (ws.map sI ++ List.replicate r (lc (.int .i64 0)))] (keepS [0, 1, 2, 10, 11, 26, 27] (knowS 27 (symI i) (knowS 11 (symI low) (baseW d t k n))))
def sawR (n : Nat) (ws : List Int) : Option (List Int) → V → Hp → Prop
  | none, x, _ => x = .tup [.one (.b (.lit (.slice none 0 0))), .one (sI 7)]
  | some us, x, H' => x = .tup [.one (.b (.sly 0 0 n n)), .one (sI 0)] ∧ H' = [.cells 3 ((ws ++ us).map sI)]
theorem set_next {ws : List Int} {r : Nat} {v : Int} : (ws.map sI ++ List.replicate (r + 1) (lc (.int .i64 0))).set (0 + (ws.length : Int).toNat * 1) (sI v) = (ws ++ [v]).map sI ++ List.replicate r (lc (.int .i64 0)) := by
  rw [show 0 + (ws.length : Int).toNat * 1 = (ws.map sI).length + 0 by simp, List.set_append_right _ _ (by omega)]
  simp [List.replicate_succ]
theorem headW_ok (d t k n : Int) (h64 : n ≤ 64) : ∀ (r : Nat) (ws : List Int) (low : Int), ws.length + r = n.toNat →
    Reach Tryz.prog [] 53 none (headW d t k n ws low r ws.length) (Ends Tryz.prog 53 (sawR n.toNat ws (sawE d t k low r)))
  | 0, ws, low, hn => by
    have e : ws.length = n.toNat := by omega
    refine goL ?_
    refine Reach.bool 28 (t := decide ((ws.length : Int) < n.toNat)) false (decide_eq_false (by omega)) (by kernel_rfl) (go ?_)
    refine Reach.lit 9 (u := .int .i64 0) (by kernel_rfl) ?_
    refine Reach.fin (.tup [.one (.b (.sly 0 0 n.toNat n.toNat)), .one (sI 0)]) [.cells 3 (ws.map sI ++ List.replicate 0 (lc (.int .i64 0)))] (by kernel_rfl) ?_
    exact ⟨rfl, by simp [sawE]⟩
  | r + 1, ws, low, hn => by
    refine goL ?_
    refine Reach.bool 28 (t := decide ((ws.length : Int) < n.toNat)) true (decide_eq_true (by omega)) (by kernel_rfl) (goT t3 t3_ok ?_)
    refine Reach.lit1 (.int .i64 (W64 (0 - low))) _ (by kernel_rfl) rfl (goT t3 t3_ok ?_)
    refine Reach.lit1 (.int .i64 (maxE (W64 (0 - low)) (W64 (low + W64 (2 * t))))) _ (by kernel_rfl) rfl (goT t3 t3_ok ?_)
    refine Reach.idx (k := 0) (off := 0) (n := n.toNat) (i := ws.length) (m := 1) (by kernel_rfl) (by omega) (by omega) (goT t3 t3_ok ?_)
    refine Reach.st2 (k := 0) (off := 0 + (ws.length : Int).toNat * 1) (T := 3) (l := ws.map sI ++ List.replicate (r + 1) (lc (.int .i64 0))) (d := sI (wideE d t low)) [.cells 3 (ws.map sI ++ List.replicate (r + 1) (lc (.int .i64 0)))] [.cells 3 ((ws ++ [wideE d t low]).map sI ++ List.replicate r (lc (.int .i64 0)))] (by kernel_rfl) (by kernel_rfl) rfl (by simp) (by rw [set_next]; rfl) (goT t3 t3_ok ?_)
    refine Reach.idx (k := 0) (off := 0) (n := n.toNat) (i := ws.length) (m := 1) (by kernel_rfl) (by omega) (by omega) (goT t3 t3_ok ?_)
    refine Reach.ld1 (k := 0) (off := 0 + (ws.length : Int).toNat * 1) (l := (ws ++ [wideE d t low]).map sI ++ List.replicate r (lc (.int .i64 0))) (d := sI (wideE d t low)) (by kernel_rfl) (by kernel_rfl) (by simp) (goT t3 t3_ok ?_)
    by_cases h : wideE d t low < 1
    · refine Reach.bool 47 (t := decide (wideE d t low < 1)) true (decide_eq_true h) (by kernel_rfl) (go ?_)
      refine Reach.lit 9 (u := .int .i64 7) (by kernel_rfl) ?_
      refine Reach.finV (.tup [.one (.b (.lit (.slice none 0 0))), .one (sI 7)]) (by kernel_rfl) fun H' => ?_
      rw [sawE, if_pos h]
      rfl
    · refine Reach.bool 47 (t := decide (wideE d t low < 1)) false (decide_eq_false h) (by kernel_rfl) (goL ?_)
      refine Reach.int 27 (n := W64 ((ws.length : Int) + 1)) (((ws ++ [wideE d t low]).length : Nat) : Int) (by rw [W64_id (by omega) (by omega)]; simp) (by kernel_rfl) (Reach.into ?_)
      refine Reach.keep [0, 1, 2, 10, 11, 26, 27] (Reach.cast (c' := headW d t k n (ws ++ [wideE d t low]) (nextE t k low) r (ws ++ [wideE d t low]).length) (by kernel_rfl) ?_)
      have := headW_ok d t k n h64 r (ws ++ [wideE d t low]) (nextE t k low) (by simp; omega)
      refine this.mono fun c ⟨x, H', e, hx⟩ => ⟨x, H', e, ?_⟩
      rw [sawE, if_neg h]
      cases hs : sawE d t k (nextE t k low) r with
      | none => rw [hs] at hx; exact hx
      | some us => rw [hs] at hx; obtain ⟨h1, h2⟩ := hx; exact ⟨h1, by rw [h2]; simp⟩
theorem saw_at (d t k n : Int) (h0 : 1 ≤ n) (h1 : n ≤ 64) : CallAt Tryz.prog [] (.fn 53) [symI d, symI t, symI k, symI n] [] 0 (sawR n.toNat [] (sawE d t k (lowE t k n) n.toNat)) := by
  refine call_of_reach entersP (by kernel_rfl) (goT t3 t3_ok ?_)
  refine Reach.mk1 (e := 3) (u := .int .i64 0) (bs := 8) (l := n) (m := n) (by kernel_rfl) rfl (by omega) (by omega) (by omega) (goT t3 t3_ok ?_)
  refine Reach.lit1 (.int .i64 (lowE t k n)) _ (by kernel_rfl) rfl (goT t3 t3_ok ?_)
  refine Reach.len1 (n := n.toNat) (by kernel_rfl) (goL (Reach.into ?_))
  refine Reach.lit 27 (u := .int .i64 0) (by kernel_rfl) ?_
  refine Reach.keep [0, 1, 2, 10, 11, 26, 27] (Reach.cast (c' := headW d t k n [] (lowE t k n) n.toNat (0 : Nat)) (by kernel_rfl) ?_)
  exact headW_ok d t k n h1 n.toNat [] (lowE t k n) (by simp)

def shB (n : Nat) : B → B
  | .ptr k o => .ptr (k + n) o
  | .slc k o m c => .slc (k + n) o m c
  | .row k o m z => .row (k + n) o m z
  | .yld k => .yld (k + n)
  | .pty k o => .pty (k + n) o
  | .sly k o m c => .sly (k + n) o m c
  | .roy k o m z => .roy (k + n) o m z
  | x => x
def shC (n : Nat) : C → C
  | .b x => .b (shB n x)
  | c => c
def shF (n : Nat) : F → F
  | .one c => .one (shC n c)
  | .agg l => .agg (l.map (shC n))
def shV (n : Nat) : V → V
  | .f x => .f (shF n x)
  | .tup l => .tup (l.map (shF n))
  | .un => .un
def nfC : C → Bool
  | .b _ => true
  | c => plainC c
def nfF : F → Bool
  | .one c => nfC c
  | .agg l => l.all nfC
def nfV : V → Bool
  | .f x => nfF x
  | .tup l => l.all nfF
  | .un => true
section
variable {P : Program} {gl : List Nat} {σ τ : Env} {H : Hp} {n ro : Nat}
theorem sh_B (h : ∀ j y, σ j = some y → τ (j + n) = some y) : ∀ {x : B} {v : Value}, x.holds σ v → (shB n x).holds τ v
  | .lit _, _, k | .sym _, _, k => k
  | .ptr .., _, ⟨g, m, e, k⟩ | .slc .., _, ⟨g, m, e, k⟩ | .yld _, _, ⟨g, m, e, k⟩ | .pty .., _, ⟨g, m, e, k⟩ | .sly .., _, ⟨g, m, e, k⟩ => ⟨g, m, h _ _ e, k⟩
  | .row .., _, ⟨g, m, c, e, k⟩ | .roy .., _, ⟨g, m, c, e, k⟩ => ⟨g, m, c, h _ _ e, k⟩
theorem sh_C (h : ∀ j y, σ j = some y → τ (j + n) = some y) : ∀ {x : C} {v : Value}, nfC x = true → x.holds σ v → (shC n x).holds τ v
  | .b _, _, _, k => sh_B h k
  | .fn .., _, hp, k => plainC_any hp k
theorem sh_Cs (h : ∀ j y, σ j = some y → τ (j + n) = some y) : ∀ {l : List C} {vs : List Value}, l.all nfC = true → holdsC σ l vs → holdsC τ (l.map (shC n)) vs
  | [], _, _, k => k
  | _ :: _, _, hp, ⟨v, r, e, k, k'⟩ => by
    rw [List.all_cons, Bool.and_eq_true] at hp
    exact ⟨v, r, e, sh_C h hp.1 k, sh_Cs h hp.2 k'⟩
theorem sh_F (h : ∀ j y, σ j = some y → τ (j + n) = some y) : ∀ {x : F} {v : Value}, nfF x = true → x.holds σ v → (shF n x).holds τ v
  | .one _, _, hp, k => sh_C h hp k
  | .agg _, _, hp, ⟨cs, e, k⟩ => ⟨cs, e, sh_Cs h hp k⟩
theorem sh_Fs (h : ∀ j y, σ j = some y → τ (j + n) = some y) : ∀ {l : List F} {vs : List Value}, l.all nfF = true → holdsF σ l vs → holdsF τ (l.map (shF n)) vs
  | [], _, _, k => k
  | _ :: _, _, hp, ⟨v, r, e, k, k'⟩ => by
    rw [List.all_cons, Bool.and_eq_true] at hp
    exact ⟨v, r, e, sh_F h hp.1 k, sh_Fs h hp.2 k'⟩
theorem sh_V (h : ∀ j y, σ j = some y → τ (j + n) = some y) : ∀ {x : V} {v : Value}, nfV x = true → x.holds σ v → (shV n x).holds τ v
  | .f _, _, hp, k => sh_F h hp k
  | .tup _, _, hp, ⟨vs, e, k⟩ => ⟨vs, e, sh_Fs h hp k⟩
  | .un, _, _, _ => trivial
/-- Names of another memory, behind those that are there. -/
def Env.seam (σ τ : Env) (n : Nat) : Env := fun j => if j < n then σ j else τ (j - n)
theorem seam_lt {j : Nat} (h : j < n) : (σ.seam τ n) j = σ j := if_pos h
theorem seam_ge {j : Nat} : (σ.seam τ n) (j + n) = τ j := by
  unfold Env.seam
  rw [if_neg (by omega), Nat.add_sub_cancel]
theorem seam_cases {j : Nat} {y : Nat × Nat} (h : (σ.seam τ n) j = some y) : (j < n ∧ σ j = some y) ∨ (n ≤ j ∧ τ (j - n) = some y) := by
  unfold Env.seam at h
  split at h
  · exact .inl ⟨‹_›, h⟩
  · exact .inr ⟨by omega, h⟩
theorem CallAt.fresh {f : FuncId} {args : List V} {R : V → Hp → Prop} (h : CallAt P [] (.fn f) args [] 0 R) (hp : args.all plainV = true) (hR : ∀ x G, R x G → plainV x = true ∨ (nfV x = true ∧ G.all plainK = true)) :
    CallAt P gl (.fn f) args H ro (fun y K => ∃ x G, R x G ∧ ((plainV x = true ∧ y = x ∧ K = H) ∨ (plainV x = false ∧ y = shV H.length x ∧ K = H ++ G))) := by
  intro σ w vs hro hm hgl ha
  obtain ⟨h1, h2⟩ := h (fun _ => none) w vs (Nat.le_refl _) ⟨fun k b h => (by simp at h), fun k k' g n n' _ _ e => (by cases e), fun k g n _ e => (by cases e), fun k x e => (by cases e)⟩ (fun k g e => (by simp at e)) (plainVs_any hp ha)
  refine ⟨h1, h2.mono ?_⟩
  rintro e w' ⟨v, e1, x, G, hx, τ, hl, hxv⟩
  have hbel : Below w.heap.size w w' := (hl.base.mono fun g ⟨k, n, _, ⟨b, h, _⟩, _⟩ => by simp at h).below
  by_cases hpx : plainV x = true
  · exact ⟨v, e1, x, H, ⟨x, G, hx, .inl ⟨hpx, rfl, rfl⟩⟩, σ, Left.below ro hm hbel, plainV_any hpx hxv⟩
  · obtain ⟨hnf, hG⟩ := (hR x G hx).resolve_left hpx
    have hnew : ∀ g, Own τ G 0 g → w.heap.size ≤ g := fun g hg => (hl.own g hg).elim (fun ⟨k, n, _, ⟨b, h, _⟩, _⟩ => by simp at h) id
    have hle : σ.le (σ.seam τ H.length) := fun k y e => by rw [seam_lt (hm.dom k y e)]; exact e
    have hlv : ∀ {j : Nat}, live (H ++ G) j → (j < H.length ∧ live H j) ∨ (H.length ≤ j ∧ live G (j - H.length)) := fun {j} ⟨b, hb, hbl⟩ => by
      rw [List.getElem?_append] at hb
      split at hb
      · exact .inl ⟨‹_›, b, hb, hbl⟩
      · exact .inr ⟨by omega, b, hb, hbl⟩
    have hold : ∀ {j g m}, live H j → σ j = some (g, m) → g < w.heap.size := fun {j g m} hj e => hm.lt j g m hj e
    have hge : ∀ {j g m}, live G j → τ j = some (g, m) → w.heap.size ≤ g := fun {j g m} hj e => hnew g ⟨j, m, Nat.zero_le _, hj, e⟩
    have hrep : HRep (σ.seam τ H.length) (H ++ G) w' := by
      refine ⟨fun j b hb => ?_, fun j j' g m m' h3 h4 e3 e4 => ?_, fun j g m h3 e3 => ?_, fun j y e => ?_⟩
      · rw [List.getElem?_append] at hb
        split at hb
        · rename_i hj
          exact Blk.up hle (fun hbl g m e => hbel.block g (hold ⟨b, hb, hbl⟩ e)) (hm.blk j b hb)
        · rename_i hj
          have hb0 := hl.rep.blk _ b hb
          rw [List.all_eq_true] at hG
          exact plainK_any (hG b (List.mem_iff_getElem?.2 ⟨_, hb⟩)) (by unfold Env.seam; rw [if_neg hj]) hb0
      · rcases seam_cases e3 with ⟨a1, f1⟩ | ⟨a1, f1⟩ <;> rcases seam_cases e4 with ⟨a2, f2⟩ | ⟨a2, f2⟩
        · exact hm.inj j j' g m m' ((hlv h3).elim (·.2) fun q => absurd a1 (by omega)) ((hlv h4).elim (·.2) fun q => absurd a2 (by omega)) f1 f2
        · have q1 := hold ((hlv h3).elim (·.2) fun q => absurd a1 (by omega)) f1
          have q2 := hge ((hlv h4).elim (fun q => absurd a2 (by omega)) (·.2)) f2
          omega
        · have q1 := hold ((hlv h4).elim (·.2) fun q => absurd a2 (by omega)) f2
          have q2 := hge ((hlv h3).elim (fun q => absurd a1 (by omega)) (·.2)) f1
          omega
        · have := hl.rep.inj _ _ g m m' ((hlv h3).elim (fun q => absurd a1 (by omega)) (·.2)) ((hlv h4).elim (fun q => absurd a2 (by omega)) (·.2)) f1 f2
          omega
      · rcases seam_cases e3 with ⟨a1, f1⟩ | ⟨a1, f1⟩
        · exact Nat.lt_of_lt_of_le (hold ((hlv h3).elim (·.2) fun q => absurd a1 (by omega)) f1) hbel.size
        · exact hl.rep.lt _ g m ((hlv h3).elim (fun q => absurd a1 (by omega)) (·.2)) f1
      · rw [List.length_append]
        rcases seam_cases e with ⟨a1, f1⟩ | ⟨a1, f1⟩
        · omega
        · have := hl.rep.dom _ _ f1; omega
    refine ⟨v, e1, shV H.length x, H ++ G, ⟨x, G, hx, .inr ⟨by simpa using hpx, rfl, rfl⟩⟩, σ.seam τ H.length, ⟨hle, hrep, Base.of_below hbel, fun g ⟨j, m, h3, h4, e3⟩ => ?_, by simp, fun j h3 h4 => List.getElem?_append_left h4, fun j y e => ?_⟩, sh_V (fun j y e => by rw [seam_ge]; exact e) hnf hxv⟩
    · rcases seam_cases e3 with ⟨a1, f1⟩ | ⟨a1, f1⟩
      · exact .inl ⟨j, m, h3, (hlv h4).elim (·.2) fun q => absurd a1 (by omega), f1⟩
      · exact .inr (hge ((hlv h4).elim (fun q => absurd a1 (by omega)) (·.2)) f1)
    · rcases seam_cases e with ⟨a1, f1⟩ | ⟨a1, f1⟩
      · exact .inl f1
      · exact .inr a1
theorem CallAt.args {t : Tg} {args args' : List V} {R : V → Hp → Prop} (h : CallAt P gl t args H ro R) (ha : ∀ σ vs, holdsV σ args' vs → holdsV σ args vs) : CallAt P gl t args' H ro R := fun σ w vs a b c d => h σ w vs a b c (ha σ vs d)
theorem mid_holds {x y : V} {m : List V} (h : ∀ v, x.holds σ v → y.holds σ v) : ∀ {l : List V} {vs : List Value}, holdsV σ (l ++ x :: m) vs → holdsV σ (l ++ y :: m) vs
  | [], _, ⟨v, r, e, h1, h2⟩ => ⟨v, r, e, h v h1, h2⟩
  | _ :: _, _, ⟨v, r, e, h1, h2⟩ => ⟨v, r, e, h1, mid_holds h h2⟩
/-- A call that reads one slice of a length known by name. -/
theorem CallAt.readY {f : FuncId} {b : Blk} {k off n c : Nat} {l m : List V} {R : V → Prop} (h : CallAt P [] (.fn f) (l ++ .f (.one (.b (.sly 0 off n c))) :: m) [b] 1 (fun x _ => R x ∧ plainV x = true)) (hb : plainK b = true) (hl : l.all plainV = true) (hm' : m.all plainV = true) (hk : H[k]? = some b) :
    CallAt P gl (.fn f) (l ++ .f (.one (.b (.sly k off n c))) :: m) H ro (fun x H' => R x ∧ H' = H) :=
  (CallAt.read (off := off) (n := n) (c := c) (l := l) (m := m) (h.args fun σ vs hv => mid_holds (x := .f (.one (.b (.slc 0 off n c)))) (y := .f (.one (.b (.sly 0 off n c)))) (fun v h => h) hv) hb hl hm' hk).args fun σ vs hv => mid_holds (x := .f (.one (.b (.sly k off n c)))) (y := .f (.one (.b (.slc k off n c)))) (fun v h => h) hv
/-- Blocks from n on are forgotten, names and all. -/
noncomputable def dropS (n : Nat) (l : List Nat) (c : Cf) : Cf := (c.1, { c.2 with zs := Sl.mk c.2.zs.n (keepT c.2.zs l), zh := c.2.zh.take n })
theorem ReachF.drop {fz : FuncId} {σ0 : Env} {H0 : Hp} {w0 : World} {c : Cf} {Q : Cf → Prop} {n : Nat} {ks : List Nat} (hm0 : HRep σ0 H0 w0) (hgl : gl.length ≤ n) (hro : ro ≤ n) (hn : H0.length ≤ n) (hnk : n ≤ c.2.zh.length) (hz : c.2.zm = [])
    (hH : (c.2.zh.take n).all (underK n) = true) (hs : ∀ i ∈ ks, (c.2.zs.get i).under n = true)
    (h : ReachF P gl fz σ0 H0 ro w0 (dropS n ks c) Q) : ReachF P gl fz σ0 H0 ro w0 c Q := fun b cs σ a w hb hl hR hzr hL => by
  have hlen : (c.2.zh.take n).length = n := by rw [List.length_take]; omega
  have hlt : ∀ {j : Nat}, j < n → (c.2.zh.take n)[j]? = c.2.zh[j]? := fun {j} hj => List.getElem?_take_of_lt hj
  have hge : ∀ {j : Nat} {y : Blk}, (c.2.zh.take n)[j]? = some y → j < n := fun {j y} e => by
    have := (List.getElem?_eq_some_iff.1 e).1
    omega
  have hlv : ∀ {j : Nat}, live (c.2.zh.take n) j → j < n ∧ live c.2.zh j := fun {j} ⟨y, e, e'⟩ => ⟨hge e, y, by rw [← hlt (hge e)]; exact e, e'⟩
  have hcs : ∀ {j : Nat} {y}, (σ.cut n) j = some y → j < n ∧ σ j = some y := fun {j y} e => by
    unfold Env.cut at e
    split at e
    · exact ⟨‹_›, e⟩
    · cases e
  have hm : HRep (σ.cut n) (c.2.zh.take n) w := by
    refine ⟨fun j y e => ?_, fun j j' g m m' h1 h2 e1 e2 => hR.mem.inj j j' g m m' (hlv h1).2 (hlv h2).2 (hcs e1).2 (hcs e2).2, fun j g m h1 e1 => hR.mem.lt j g m (hlv h1).2 (hcs e1).2, fun j y e => by rw [hlen]; exact (hcs e).1⟩
    have hj := hge e
    rw [hlt hj] at e
    have hy : underK n y = true := by
      rw [List.all_eq_true] at hH
      exact hH y (List.mem_iff_getElem?.2 ⟨j, by rw [hlt hj]; exact e⟩)
    exact Blk.cut hj (underK_ok hy) (hR.mem.blk j y e)
  have h0n : ∀ {j y}, σ0 j = some y → j < n := fun {j y} e => Nat.lt_of_lt_of_le (hm0.dom j y e) hn
  have hL' : Left σ0 H0 ro w0 (c.2.zh.take n) (σ.cut n) w := by
    refine ⟨fun j y e => by rw [cut_of (h0n e)]; exact hL.le j y e, hm, hL.base, fun g ⟨j, m, h1, h2, h3⟩ => hL.own g ⟨j, m, h1, (hlv h2).2, (hcs h3).2⟩, by rw [hlen]; exact hn, fun j h1 h2 => by rw [hlt (by omega)]; exact hL.old j h1 h2, fun j y e => hL.new j y (hcs e).2⟩
  have hR' : FRep gl (σ.cut n) (dropS n ks c).2 a w := by
    refine ⟨fun j g e => ?_, ?_, hR.size, fun t => ?_, hm, ?_⟩
    · obtain ⟨m, e2⟩ := hR.glob j g e
      have : j < gl.length := (List.getElem?_eq_some_iff.1 e).1
      exact ⟨m, by rw [cut_of (by omega)]; exact e2⟩
    · obtain ⟨ds, e1, e2, e3⟩ := hR.defers
      exact ⟨ds, e1, e2, fun i k' hk' => by rw [show (dropS n ks c).2.zm = c.2.zm from rfl, hz] at hk'; simp at hk'⟩
    · show ((keepT c.2.zs ks).get (path t)).holds _ _
      rw [keepT_get]
      split
      · rename_i ht
        exact V.cut (hs t ht) (hR.slots t)
      · trivial
    · show c.2.zr ≤ (c.2.zh.take n).length
      rw [hlen]; omega
  exact h b cs (σ.cut n) a w hb hl hR' hzr hL'
/-- A call in a memory that is written out, whose result is said by a relation. -/
theorem Reach.callR {fz : FuncId} {oz : Option Nat} {c : Cf} {Q : Cf → Prop} {f : FuncId} {args : List V} {G : Hp} {R : V → Hp → Prop} (hc : CallAt P gl (.fn f) args G ro R) (h1 : nextCall gl c = some (.fn f, args)) (hG : (c.2.zh, c.2.zr) = (G, ro)) (h : ∀ x H', R x H' → Reach P gl fz oz (afterCall c x H') Q) : Reach P gl fz oz c Q := by
  injection hG with h2 h3
  subst h2 h3
  exact Reach.call h1 hc h
end

theorem or4_at (a b c d : Int) : CallAt Tryz.prog [] (.fn 50) ([] ++ .f (.one (.b (.slc 0 0 4 4))) :: []) [.cells 26 [sI a, sI b, sI c, sI d]] 1 (fun x _ => x = symI (or4 a b c d) ∧ plainV x = true) := by
  refine call_of_reach entersP (by kernel_rfl) (go ?_)
  by_cases h1 : a = 0
  · refine Reach.bool 14 false (bne_f h1) (by kernel_rfl) (go ?_)
    by_cases h2 : b = 0
    · refine Reach.bool 14 false (bne_f h2) (by kernel_rfl) (go ?_)
      by_cases h3 : c = 0
      · refine Reach.bool 14 false (bne_f h3) (by kernel_rfl) (go ?_)
        by_cases h4 : d = 0
        · refine Reach.bool 14 false (bne_f h4) (by kernel_rfl) (go ?_)
          refine Reach.lit 2 (u := .int .i64 0) (by kernel_rfl) ?_
          exact Reach.finV (symI 0) (by kernel_rfl) fun _ => ⟨by simp [or2, or3, or4, h1, h2, h3, h4], rfl⟩
        · refine Reach.bool 14 true (bne_t h4) (by kernel_rfl) (go ?_)
          exact Reach.finV (symI d) (by kernel_rfl) fun _ => ⟨by simp [or2, or3, or4, h1, h2, h3], rfl⟩
      · refine Reach.bool 14 true (bne_t h3) (by kernel_rfl) (go ?_)
        exact Reach.finV (symI c) (by kernel_rfl) fun _ => ⟨by simp [or2, or3, or4, h1, h2, h3], rfl⟩
    · refine Reach.bool 14 true (bne_t h2) (by kernel_rfl) (go ?_)
      exact Reach.finV (symI b) (by kernel_rfl) fun _ => ⟨by simp [or3, or4, h1, h2], rfl⟩
  · refine Reach.bool 14 true (bne_t h1) (by kernel_rfl) (go ?_)
    exact Reach.finV (symI a) (by kernel_rfl) fun _ => ⟨by simp [or4, h1], rfl⟩
theorem saw_plain {n : Nat} {ws : List Int} : ∀ {o : Option (List Int)} {x : V} {G : Hp}, sawR n ws o x G → plainV x = true ∨ (nfV x = true ∧ G.all plainK = true)
  | none, x, G, h => .inl (by rw [show x = _ from h]; rfl)
  | some us, x, G, ⟨h1, h2⟩ => .inr ⟨by rw [h1]; rfl, by rw [h2]; simp [plainK, List.all_map, plainC, plainB]⟩
/-- What nest.Boards yields: an error, or widths. -/
def boardsE (d t k n : Int) : Int := or4 (sizeE d) (sizeE t) (rangeE k 0 10000) (rangeE n 1 64)
def boardsR (d t k n : Int) (x : V) (G : Hp) : Prop :=
  if boardsE d t k n = 0 then match sawE d t k (lowE t k n) n.toNat with
    | none => x = .tup [.one (.b (.lit (.slice none 0 0))), .one (sI 7)]
    | some ws => x = .tup [.one (.b (.sly 1 0 n.toNat n.toNat)), .one (sI 0)] ∧ G = [.cells 26 [sI (sizeE d), sI (sizeE t), sI (rangeE k 0 10000), sI (rangeE n 1 64)], .cells 3 (ws.map sI)]
  else x = .tup [.one (.b (.lit (.slice none 0 0))), .one (sI (boardsE d t k n))]
theorem range_in {n lo hi : Int} (h : rangeE n lo hi = 0) : lo ≤ n ∧ n ≤ hi := by
  unfold rangeE at h
  split at h
  · cases h
  · omega
theorem or4_zero {a b c d : Int} (h : or4 a b c d = 0) : a = 0 ∧ b = 0 ∧ c = 0 ∧ d = 0 := by
  unfold or4 or3 or2 at h
  split at h
  · split at h
    · split at h
      · exact ⟨‹_›, ‹_›, ‹_›, h⟩
      · exact absurd h ‹_›
    · exact absurd h ‹_›
  · exact absurd h ‹_›
theorem boards_at (d t k n : Int) : CallAt Tryz.prog [] (.fn 10) [symI d, symI t, symI k, symI n] [] 0 (boardsR d t k n) := by
  refine call_of_reach entersP (by kernel_rfl) (goT t3 t3_ok ?_)
  refine Reach.read1 0 (or4_at (sizeE d) (sizeE t) (rangeE k 0 10000) (rangeE n 1 64)) (by kernel_rfl) (by kernel_rfl) (by kernel_rfl) rfl rfl (goT t3 t3_ok ?_)
  by_cases h : boardsE d t k n = 0
  · refine Reach.bool 22 (t := boardsE d t k n != 0) false (bne_f h) (by kernel_rfl) (goT t3 t3_ok ?_)
    obtain ⟨_, _, _, h4⟩ := or4_zero h
    obtain ⟨h5, h6⟩ := range_in h4
    refine Reach.callR (CallAt.fresh (gl := []) (H := [.cells 26 [sI (sizeE d), sI (sizeE t), sI (rangeE k 0 10000), sI (rangeE n 1 64)]]) (ro := 0) (saw_at d t k n h5 h6) rfl fun x G hx => saw_plain hx) (by kernel_rfl) (by kernel_rfl) ?_
    rintro y K ⟨x, G, hx, hy⟩
    cases hs : sawE d t k (lowE t k n) n.toNat with
    | none =>
      rw [hs] at hx
      obtain rfl : x = _ := hx
      rcases hy with ⟨_, rfl, rfl⟩ | ⟨hp, rfl, rfl⟩
      · refine goT t3 t3_ok ?_
        refine Reach.finV (.tup [.one (.b (.lit (.slice none 0 0))), .one (sI 7)]) (by kernel_rfl) fun H' => ?_
        rw [boardsR, if_pos h, hs]
      · cases hp
    | some ws =>
      rw [hs] at hx
      obtain ⟨rfl, rfl⟩ := hx
      rcases hy with ⟨hp, _, _⟩ | ⟨_, rfl, rfl⟩
      · cases hp
      · refine goT t3 t3_ok ?_
        refine Reach.fin (.tup [.one (.b (.sly 1 0 n.toNat n.toNat)), .one (sI 0)]) [.cells 26 [sI (sizeE d), sI (sizeE t), sI (rangeE k 0 10000), sI (rangeE n 1 64)], .cells 3 (([] ++ ws).map sI)] (by kernel_rfl) ?_
        rw [boardsR, if_pos h, hs]
        exact ⟨rfl, rfl⟩
  · refine Reach.bool 22 (t := boardsE d t k n != 0) true (bne_t h) (by kernel_rfl) (goT t3 t3_ok ?_)
    refine Reach.finV (.tup [.one (.b (.lit (.slice none 0 0))), .one (sI (boardsE d t k n))]) (by kernel_rfl) fun H' => ?_
    rw [boardsR, if_neg h]

/-- The comparison of stacks. -/
theorem cmpW_any (a b c d : Int) : PureAt Tryz.prog 56 [.f (.agg [sI a, sI b]), .f (.agg [sI c, sI d])] (· = symI (cmpE b d)) := by
  refine pure_of_call (call_of_reach entersP (by kernel_rfl) (goT t3 t3_ok ?_))
  exact Reach.finV (symI (cmpE b d)) (by kernel_rfl) fun _ => ⟨rfl, rfl⟩
def t5 : PureFn := orT t3 (tabC 56 fun a b c d => symI (cmpE b d))
theorem t5_ok : TabOk Tryz.prog t5 := orT_ok t3_ok (tabC_ok cmpW_any)
/-- Memory when greatest is called: the errors, the boxes of what was given. -/
def bH (e1 e2 e3 d t k : Int) : Hp := [.cells 26 [sI e1, sI e2, sI e3], .cells 3 [sI d], .cells 3 [sI t], .cells 3 [sI k]]
abbrev stacksV : V := .f (.one (.fn 97 [] [(false, [.ptr 1 0]), (false, [.ptr 2 0]), (false, [.ptr 3 0])]))
noncomputable def bStart (e1 e2 e3 d t k : Int) : Cf := runS Tryz.prog [] nimp noCall 54 none 2000 (startS Tryz.prog 54 [stacksV, lv (.func (.func 56) #[] #[])] (bH e1 e2 e3 d t k) 4)
noncomputable def bRange (e1 e2 e3 d t k : Int) : FuncId × List V × Sz × Nat × List Item := (rangeS [] 54 none (bStart e1 e2 e3 d t k)).getD (0, [], ⟨⟨0, .e⟩, [], 0, []⟩, 0, [])
noncomputable def bG (e1 e2 e3 d t k : Int) : Hp := (bRange e1 e2 e3 d t k).2.2.1.zh
/-- Memory when there is a best stack. -/
noncomputable def bM (e1 e2 e3 d t k n w : Int) : Hp := ((bG e1 e2 e3 d t k).set 5 (.cells 93 [sI n, sI w])).set 6 (.cells 4 [lc (.bool true)])
section
variable (e1 e2 e3 d t k : Int)
theorem roundB0 (x y : Int) : CallAt Tryz.prog [] (.yl 8) [.f (.agg [sI x, sI y])] (bG e1 e2 e3 d t k) 4 (fun v H' => v = lv (.bool true) ∧ H' = bM e1 e2 e3 d t k x y) := by
  refine CallAt.cutY (n := 9) ?_ (Nat.le_of_ble_eq_true (by kernel_rfl)) rfl (by kernel_rfl)
  refine yield_of_reach (fn := 54) (c0 := ((startR (bG e1 e2 e3 d t k) 8 [.f (.agg [sI x, sI y])] 4).getD (0, ([], ⟨⟨0, .e⟩, [], 0, []⟩))).2) (by kernel_rfl) (goX t5 t5_ok ?_)
  exact Reach.finC (by kernel_rfl)
theorem roundB1 (n w x y : Int) : CallAt Tryz.prog [] (.yl 8) [.f (.agg [sI x, sI y])] (bM e1 e2 e3 d t k n w) 4 (fun v H' => v = lv (.bool true) ∧ H' = bM e1 e2 e3 d t k (if cmpE y w > 0 then x else n) (if cmpE y w > 0 then y else w)) := by
  refine CallAt.cutY (n := 9) ?_ (Nat.le_of_ble_eq_true (by kernel_rfl)) rfl (by kernel_rfl)
  refine yield_of_reach (fn := 54) (c0 := ((startR (bM e1 e2 e3 d t k n w) 8 [.f (.agg [sI x, sI y])] 4).getD (0, ([], ⟨⟨0, .e⟩, [], 0, []⟩))).2) (by kernel_rfl) (goX t5 t5_ok ?_)
  by_cases hg : cmpE y w > 0
  · rw [if_pos hg, if_pos hg]
    refine Reach.bool 17 true (decide_eq_true hg) (by kernel_rfl) (goX t5 t5_ok ?_)
    exact Reach.finC (by kernel_rfl)
  · rw [if_neg hg, if_neg hg]
    refine Reach.bool 17 false (decide_eq_false hg) (by kernel_rfl) (goX t5 t5_ok ?_)
    exact Reach.finC (by kernel_rfl)
end

section
variable (e1 e2 e3 d t k : Int)
noncomputable def headK (n : Int) (H : Hp) : Cf := keepS [0, 1, 2, 3, 5] (knowS 5 (symI n) (heapS H (intoLoop (runL Tryz.prog [] nimp (pureCall fun f args => t3 f (args.map symV1)) 97 none 2000 (startS Tryz.prog 97 [.f (.one (.b (.yld 8))), .f (.one (.b (.ptr 1 0))), .f (.one (.b (.ptr 2 0))), .f (.one (.b (.ptr 3 0)))] (bG e1 e2 e3 d t k) 4)))))
set_option maxRecDepth 100000 in
/-- A round of the loop whose boards can't be sawn: the end. -/
theorem stop_at {n : Int} {H : Hp} {b w : Int} (hH : H = bM e1 e2 e3 d t k b w) (h0 : 1 ≤ n) (h64 : n ≤ 64) (hs : sawE d t k (lowE t k n) n.toNat = none) :
    Reach Tryz.prog [] 97 none (headK e1 e2 e3 d t k n H) (Ends Tryz.prog 97 (fun _ H' => H' = H)) := by
  subst hH
  refine goT t3 t3_ok ?_
  refine Reach.bool 9 (t := decide (n ≤ 64)) true (decide_eq_true h64) (by kernel_rfl) (goT t3 t3_ok ?_)
  refine Reach.callR (CallAt.fresh (gl := []) (H := bM e1 e2 e3 d t k b w) (ro := 4) (saw_at d t k n h0 h64) rfl fun x G hx => saw_plain hx) (by kernel_rfl) (by kernel_rfl) ?_
  rintro y K ⟨x, G, hx, hy⟩
  rw [hs] at hx
  obtain rfl : x = _ := hx
  rcases hy with ⟨_, rfl, rfl⟩ | ⟨hp, rfl, rfl⟩
  · refine goT t3 t3_ok (Reach.bool 22 (t := (7 : Int) != 0) true (by decide) (by kernel_rfl) (goT t3 t3_ok ?_))
    exact Reach.fin (.tup []) (bM e1 e2 e3 d t k b w) (by kernel_rfl) rfl
  · cases hp
end
end Go.Proofs.YtgkpejlddgoalaaGreatDoor.Zm
