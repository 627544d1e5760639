/- Parts of the proof, joined. -/
import Derived.Test.YtgkpejlddgoalaaGreatDoorJ7
import Derived.Scope
set_option linter.unusedSimpArgs false
set_option linter.unusedVariables false
set_option linter.constructorNameAsVariable false
namespace Go.Proofs.YtgkpejlddgoalaaGreatDoor.Zm
open Go.RowKit

section
variable {P : Program} {gl : List Nat} {imp : FuncId → Bool} {call : CallFn} {fz : FuncId} {oz : Option Nat} {s s' s1 : Sz} {a : Act} {b : Frame} {σ τ : Env} {w w' : World} {k : List Item} {cs : List Frame} {H' : Hp}
theorem fnOfZ_ok {l G n : Nat} {g : Operand} {f : FuncId} {args : List V} {y : V} (hl : σ l = some (G, n)) (hv : y.holds σ (a.eval g)) (h : fnOfZ (.f (.one (.b (.yld l)))) y = some (f, args)) :
    ∃ (vs : List Value) (d : Deferred), holdsV σ args vs ∧ (resolve a.eval (rangeCall g G) 0).run P w = .ok d w ∧ (invoke d.target d.args).run P w = (callFunc f vs.toArray).run P w := by
  have hcv : ∀ v, a.eval (.const v) = v := fun _ => rfl
  have hy : (V.f (.one (.b (.yld l)))).holds σ (.func (.yield G) #[] #[]) := ⟨G, n, hl, rfl⟩
  unfold fnOfZ at h
  split at h
  · rename_i g' xs ys
    have hv := hold_lv hv
    split at h
    · rename_i hab
      simp only [Option.some.injEq, Prod.mk.injEq] at h
      obtain ⟨rfl, rfl⟩ := h
      have ha : xs = #[] := Array.eq_empty_of_size_eq_zero hab.1
      have hb : ys = #[] := Array.eq_empty_of_size_eq_zero hab.2
      subst ha hb
      refine ⟨[.func (.yield G) #[] #[]], { target := .fn (.func g') #[], args := #[] ++ #[.func (.yield G) #[] #[]] }, ⟨_, [], rfl, hy, rfl⟩, ?_, rfl⟩
      simp [resolve, rangeCall, Sem.run_bind, Sem.run_pure, Result.andThen, hv, Deferred.ofValue, hcv]
    · cases h
  · rename_i g' A B
    obtain ⟨xs, ys, hv, h1, h2⟩ := hv
    simp only [Option.some.injEq, Prod.mk.injEq] at h
    obtain ⟨rfl, rfl⟩ := h
    refine ⟨xs ++ [.func (.yield G) #[] #[]] ++ ys, { target := .fn (.func g') ys.toArray, args := xs.toArray ++ #[.func (.yield G) #[] #[]] }, appV (appV (ofCap_holds h1) ⟨_, [], rfl, hy, rfl⟩) (ofCap_holds h2), ?_, ?_⟩
    · simp [resolve, rangeCall, Sem.run_bind, Sem.run_pure, Result.andThen, hv, Deferred.ofValue, hcv]
    · simp only [invoke]
      congr 2
      apply Array.toList_inj.1
      simp
  · cases h
theorem range_ok {g : Operand} {ps : Array Tmp} {as bd : Code} {todo' : List Item} (hC : CallOk P gl call) (hb : b.fn = fz) (hl : AtLoop σ oz b) (hR : FRep gl σ s a w) (h : rangeZ gl call fz oz g ps as bd k s = .more todo' s') :
    ∃ τ a' w', Steps P (lone (b.atR a (.code (.rangeFunc g ps as bd) :: k)) cs w) (lone (b.atR a' todo') cs w') ∧ FRep gl τ s' a' w' ∧ Left σ s.zh s.zr w s'.zh τ w' ∧ s'.zr = s.zr := by
  unfold rangeZ at h
  split at h
  · rename_i s1 l he
    split at h
    · rename_i f args hf
      split at h
      · rename_i x H hcall
        split at h
        · rename_i pd s2 ho
          simp only [ZR.more.injEq] at h
          obtain ⟨rfl, rfl⟩ := h
          obtain ⟨σ1, w1, G, n, mark, hen, hG, r1, l1, z1⟩ := enter_ok hb hl hR he
          obtain ⟨vs, d, hargs, hres, hinv⟩ := fnOfZ_ok (P := P) (w := w1) (a := { a with defers := mark ++ a.defers }) (g := g) hG (V.up l1.le (show (evZ gl s.zs g).holds σ (Act.eval { a with defers := mark ++ a.defers } g) from evZ_holds hR.glob (a := { a with defers := mark ++ a.defers }) hR.slots g)) hf
          obtain ⟨c1, c2⟩ := hC (.fn f) args s1.zh s1.zr x H hcall σ1 w1 vs r1.ro r1.mem r1.glob hargs
          have hst := stepR_rangeFunc (b := b) (a := a) (k := k) (cs := cs) hen hres (hinv.trans (c1 _ _))
          obtain ⟨e, w2, fr, ⟨v, hv, σ2, l2, _⟩, hsteps, _, hleave⟩ := c2 (b.atR { a with defers := mark ++ a.defers } (.inRangeFunc G :: k) :: cs)
          subst hv
          have r2 := r1.left l2
          obtain ⟨w3, hend, r3, l3, z3⟩ := over_ok r2 (l2.le _ _ hG) ho
          refine ⟨σ2, _, w3, Steps.head hst (Steps.trans hsteps (Steps.head (step_leave_returned hleave) ?_)), r3, (l1.trans (z1 ▸ l2)).trans (z1 ▸ l3), z3.trans z1⟩
          rw [finish_atR_inRangeFunc]
          exact Steps.one (stepR_endRangeFunc hend)
        · cases h
      · cases h
    · cases h
  · cases h
theorem stepR_scope {c : Code} : step P (lone (b.atR a (.code (.scope c) :: k)) cs w) = .next (lone (b.atR a (.code c :: .inScope c :: k)) cs w) :=
  step_lone_go (by simp [stepG, stepG.exec, Frame.atR])
theorem stepR_inScope {c : Code} : step P (lone (b.atR a (.inScope c :: k)) cs w) = .next (lone (b.atR a k) cs w) :=
  step_lone_go (by simp [stepG, stepG.exec, Frame.atR])
theorem range_map {ops : Array Oper} : ((List.range ops.size).map fun i => ops[i]?) = ops.toList.map some := by
  apply List.ext_getElem?
  intro i
  simp only [List.getElem?_map]
  by_cases h : i < ops.size
  · rw [List.getElem?_range h]
    simp [h]
  · rw [List.getElem?_eq_none (by simpa using h), List.getElem?_eq_none (by simpa using h)]
    rfl
theorem stepZ_ok {todo todo' : List Item} (hmix : P.follows .mixedOrders = true) (hC : CallOk P gl call) (hb : b.fn = fz) (hl : AtLoop σ oz b) (hR : FRep gl σ s a w) (h : stepZ P gl imp call fz oz todo s = .more todo' s') :
    ∃ τ a' w', Steps P (lone (b.atR a todo) cs w) (lone (b.atR a' todo') cs w') ∧ FRep gl τ s' a' w' ∧ Left σ s.zh s.zr w s'.zh τ w' ∧ s'.zr = s.zr := by
  have one : ∀ {t t' : List Item}, step P (lone (b.atR a t) cs w) = .next (lone (b.atR a t') cs w) → ∃ τ a' w', Steps P (lone (b.atR a t) cs w) (lone (b.atR a' t') cs w') ∧ FRep gl τ s a' w' ∧ Left σ s.zh s.zr w s.zh τ w' ∧ s.zr = s.zr :=
    fun hs => ⟨σ, a, w, Steps.one hs, hR, Left.refl _ hR.mem, rfl⟩
  unfold stepZ at h
  split at h
  · cases h
  · simp only [ZR.more.injEq] at h; obtain ⟨rfl, rfl⟩ := h; exact one stepR_skip
  · simp only [ZR.more.injEq] at h; obtain ⟨rfl, rfl⟩ := h; exact one stepR_label
  · cases h
  · split at h
    · rename_i hx
      simp only [ZR.more.injEq] at h; obtain ⟨rfl, rfl⟩ := h; exact one (stepR_exit hx)
    · cases h
  · split at h
    · rename_i hx
      simp only [ZR.more.injEq] at h; obtain ⟨rfl, rfl⟩ := h; exact one (stepR_goto hx)
    · cases h
  · simp only [ZR.more.injEq] at h; obtain ⟨rfl, rfl⟩ := h; exact one stepR_seq
  · rename_i c x y k
    have hv := evZ_holds hR.glob hR.slots c
    unfold condZ at h
    split at h
    · rename_i t ht
      rw [ht] at hv
      simp only [ZR.more.injEq] at h; obtain ⟨rfl, rfl⟩ := h
      exact one (stepR_cond (hold_lv hv))
    · cases h
  · simp only [ZR.more.injEq] at h; obtain ⟨rfl, rfl⟩ := h; exact one stepR_block
  · simp only [ZR.more.injEq] at h; obtain ⟨rfl, rfl⟩ := h; exact one stepR_scope
  · simp only [ZR.more.injEq] at h; obtain ⟨rfl, rfl⟩ := h; exact one stepR_loop
  · rename_i ops k
    split at h
    · rename_i s2 ho
      simp only [ZR.more.injEq] at h; obtain ⟨rfl, rfl⟩ := h
      obtain ⟨τ, a', w', r, l, z, m, st⟩ := opsZ_ok (b := b) (k := k) (cs := cs) hC ho range_map hR
      exact ⟨τ, a', w', Steps.head stepR_region st, r, l, z⟩
    · cases h
  · rename_i ops k
    split at h
    · rename_i s2 ho
      simp only [ZR.more.injEq] at h; obtain ⟨rfl, rfl⟩ := h
      obtain ⟨τ, a', w', r, l, z, m, st⟩ := drawn_ok (b := b) (k := k) (cs := cs) hmix hC hR ho
      exact ⟨τ, a', w', st, r, l, z⟩
    · cases h
  · exact range_ok hC hb hl hR h
  · simp only [ZR.more.injEq] at h; obtain ⟨rfl, rfl⟩ := h; exact one stepR_inBlock
  · simp only [ZR.more.injEq] at h; obtain ⟨rfl, rfl⟩ := h; exact one stepR_inScope
  · simp only [ZR.more.injEq] at h; obtain ⟨rfl, rfl⟩ := h; exact one stepR_inLoop
  · split at h
    · rename_i l
      split at h
      · rename_i s2 hbz
        simp only [ZR.more.injEq] at h; obtain ⟨rfl, rfl⟩ := h
        obtain ⟨G, n, hG, hro⟩ := hl
        obtain ⟨w', e, r, l, z⟩ := begin_ok hR hG hbz
        exact ⟨σ, a, w', Steps.one (stepR_beginRound hro e), r, l, z⟩
      · cases h
    · cases h
  · cases h
theorem stepZ_stop {todo : List Item} {j : Option Code} (h : stepZ P gl imp call fz oz todo s = .stop j) : EndsIn j todo := by
  unfold stepZ at h
  split at h <;> first | (simp only [ZR.stop.injEq] at h; subst h; exact rfl) | (cases h; done) | skip
  · simp only [ZR.stop.injEq] at h; subst h; exact ⟨_, rfl⟩
  · split at h
    · cases h
    · rename_i hx
      simp only [ZR.stop.injEq] at h; subst h; exact ⟨_, rfl, hx⟩
  · split at h <;> cases h
  · unfold condZ at h
    split at h <;> cases h
  · split at h <;> cases h
  · split at h <;> cases h
  · unfold rangeZ at h
    repeat' (first | (cases h; done) | split at h)
  · split at h
    · split at h <;> cases h
    · cases h
end

noncomputable def resZ (P : Program) (l : Sl) (H : Hp) : List ResultVar → Option (List F)
  | [] => some []
  | .tmp t :: r => match l.get t with
    | .f x => (match resZ P l H r with | some m => some (x :: m) | none => none)
    | _ => none
  | .cell t T :: r => match l.get t with
    | .f (.one (.b (.ptr k off))) => match cellsOf H k with
      | some m => match partZ P T m off with
        | some (.f x) => (match resZ P l H r with | some m => some (x :: m) | none => none)
        | _ => none
      | none => none
    | _ => none
/-- The slots of a frame that begins. -/
noncomputable def argsT : List V → Nat → Tr → Tr
  | [], _, t => t
  | x :: l, i, t => argsT l (i + 1) (t.put x (path i))
noncomputable def argsS (n : Nat) (args : List V) : Sl := ⟨n, argsT args 0 .e⟩
def oneV : List F → V
  | [x] => .f x
  | l => .tup l
/-- The marks of loops are taken up. -/
def shutZ (ro : Nat) : List Nat → Hp → Option Hp
  | [], H => some H
  | k :: l, H => match H[k]? with
    | some .dfr => if ro ≤ k then shutZ ro l (H.set k .dead) else none
    | _ => none
noncomputable def leaveZ (P : Program) (fn : Func) (s : Sz) : Option (V × Hp) :=
  match shutZ s.zr s.zm s.zh with
  | some H => match resZ P s.zs H fn.results.toList with | some l => some (oneV l, H) | none => none
  | none => none
def retZ : Option Code → Bool
  | none => true
  | some .ret => true
  | _ => false
def endRoundZ (k : Nat) (j : Option Code) (s : Sz) : Option (V × Hp) :=
  match s.zh[k]? with
  | some (.loop _ _ fn tmps ps as bd d) => if s.zr ≤ k then some (lv (.bool j.isNone), s.zh.set k (.loop (if j.isNone then .ready else .done) j fn tmps ps as bd d)) else none
  | _ => none
abbrev ExecFn := FuncId → Option Nat → List Item → Sz → Option (Option Code × Sz)
/-- Calls of which it is known what they yield. -/
abbrev ExtFn := FuncId → List V → Hp → Option V
noncomputable def bodyZ (P : Program) (ex : ExecFn) (f : FuncId) (args : List V) (H : Hp) (ro : Nat) : Option (V × Hp) := match P.funcs[f]? with
  | some fn => match fn.body, Nat.ble args.length fn.ntmps with
    | some c, true => match ex f none [.code c] ⟨argsS fn.ntmps args, H, ro, []⟩ with
      | some (j, s) => if retZ j then leaveZ P fn s else none
      | none => none
    | _, _ => none
  | none => none
noncomputable def callZ (P : Program) (ext : ExtFn) (ex : ExecFn) : CallFn := fun t args H ro => match t with
  | .fn f => match ext f args H with
    | some x => some (x, H)
    | none => bodyZ P ex f args H ro
  | .yl k => match H[k]? with
    | some (.loop _ _ fn tmps ps as bd _) => if args.length = ps.size then
        match ex fn (some k) [.code as, .beginRound, .code bd] ⟨(ps.toList.zip args).foldl (fun l p => l.put p.1 p.2) tmps, H, ro, []⟩ with
        | some (j, s) => endRoundZ k j s
        | none => none
      else none
    | _ => none
noncomputable def nextZ (P : Program) (gl : List Nat) (imp : FuncId → Bool) (ext : ExtFn) (ex : ExecFn) (fz : FuncId) (oz : Option Nat) (todo : List Item) (s : Sz) : Option (Option Code × Sz) :=
  match stepZ P gl imp (callZ P ext ex) fz oz todo s with
  | .more t s' => ex fz oz t s'
  | .stop j => some (j, s)
  | .bad => none
noncomputable def execZ (P : Program) (gl : List Nat) (imp : FuncId → Bool) (ext : ExtFn) : Nat → ExecFn
  | 0 => fun _ _ _ _ => none
  | n + 1 => nextZ P gl imp ext (execZ P gl imp ext n)

/-- A walk of a frame does what is said of it. -/
def ExecOk (P : Program) (gl : List Nat) (ex : ExecFn) : Prop := ∀ fz oz todo s j s', ex fz oz todo s = some (j, s') → ∀ b cs σ a w, b.fn = fz → AtLoop σ oz b → FRep gl σ s a w →
  ∃ τ a' w' todo', Steps P (lone (b.atR a todo) cs w) (lone (b.atR a' todo') cs w') ∧ EndsIn j todo' ∧ FRep gl τ s' a' w' ∧ Left σ s.zh s.zr w s'.zh τ w' ∧ s'.zr = s.zr
/-- What is known of them is so: they yield values without names, and leave what was there. -/
def ExtOk (P : Program) (gl : List Nat) (ext : ExtFn) : Prop := ∀ f args H x, ext f args H = some x → ∀ (σ : Env) (w : World) (vs : List Value), HRep σ H w → GlOk gl σ → holdsV σ args vs →
  (∀ (args : Array Value) (w : World), (callFunc f args).run P w = .ok (.enter f args) w) ∧ Calls P f vs.toArray w fun e w' => ∃ v, e = .returned v ∧ Below w.heap.size w w' ∧ x.holds (fun _ => none) v
/-- No function of the program is one that the machine knows by name. -/
def EntersB (P : Program) : Bool := P.funcs.all fun fn => !(fn.name == "runtime.NumGoroutine")

section
variable {P : Program} {gl : List Nat} {imp : FuncId → Bool} {ext : ExtFn} {ex : ExecFn} {s s' : Sz} {a : Act} {b : Frame} {σ τ : Env} {w w' : World} {cs : List Frame} {H H' : Hp}
theorem enters_of (h : EntersB P = true) {f : FuncId} {fn : Func} {c : Code} (hf : P.funcs[f]? = some fn) (hb : fn.body = some c) (args : Array Value) (w : World) : (callFunc f args).run P w = .ok (.enter f args) w := by
  have h1 : (fn.name == "runtime.NumGoroutine") = false := by
    unfold EntersB at h
    rw [Array.all_eq_true] at h
    obtain ⟨hlt, e⟩ := Array.getElem?_eq_some_iff.1 hf
    have := h f hlt
    rw [e] at this
    simpa using this
  unfold callFunc
  rw [Sem.run_bind]
  have h2 : (program).run P w = .ok P w := rfl
  rw [h2]
  simp only [Result.andThen, hf, h1, hb, Option.isNone_some, Bool.false_eq_true, if_false, Sem.run_pure]
def resM (tmps : Array Value) : ResultVar → Sem Value
  | .tmp t => pure (tmps.getD t undef)
  | .cell t T => do loadVar T (← asAddr (tmps.getD t undef))
theorem results_run {fn : Func} {vs : List Value} (h : (fn.results.toList.mapM (resM a.tmps)).run P w = .ok vs w) :
    (results fn a.tmps).run P w = .ok (if h : vs.toArray.size = 1 then vs.toArray[0] else .tuple vs.toArray) w := by
  have h0 : (fn.results.mapM (resM a.tmps)).run P w = .ok vs.toArray w := by
    rw [Array.mapM_eq_mapM_toList]
    simp [h]
  have h1 : results fn a.tmps = (do let vs ← fn.results.mapM (resM a.tmps); pure (if h : vs.size = 1 then vs[0] else .tuple vs)) := rfl
  rw [h1, Sem.run_bind, h0]
  rfl
theorem resZ_run {l : Sl} (hs : ∀ t, (l.get t).holds σ (a.eval (.tmp t))) (hm : HRep σ H w) : ∀ {r : List ResultVar} {fs : List F}, resZ P l H r = some fs → ∃ vs : List Value, (r.mapM (resM a.tmps)).run P w = .ok vs w ∧ holdsF σ fs vs
  | [], fs, h => by
    injection h with h
    subst h
    exact ⟨[], rfl, rfl⟩
  | .tmp t :: r, fs, h => by
    simp only [resZ] at h
    split at h
    · rename_i y hy
      split at h
      · rename_i m hr
        injection h with h
        subst h
        obtain ⟨vs, e, hv⟩ := resZ_run hs hm hr
        have h1 := hs t
        rw [hy] at h1
        refine ⟨a.eval (.tmp t) :: vs, ?_, ⟨_, _, rfl, h1, hv⟩⟩
        have h0 : (resM a.tmps (.tmp t)).run P w = .ok (a.eval (.tmp t)) w := rfl
        rw [List.mapM_cons, Sem.run_bind, h0]
        simp only [Result.andThen, Sem.run_bind, e, Sem.run_pure]
      · cases h
    · cases h
  | .cell t T :: r, fs, h => by
    simp only [resZ] at h
    split at h
    · rename_i k off hy
      split at h
      · rename_i m hm2
        split at h
        · rename_i y hp
          split at h
          · rename_i m' hr
            injection h with h
            subst h
            obtain ⟨vs, e, hv⟩ := resZ_run hs hm hr
            have h1 := hs t
            rw [hy] at h1
            obtain ⟨g, n, hg, hv1⟩ := hold_ptr h1
            obtain ⟨g', T', fr, cs, js, e1, e2, e3⟩ := cellsOf_at hm2 hm
            rw [hg] at e1
            simp only [Option.some.injEq, Prod.mk.injEq] at e1
            obtain ⟨rfl, _⟩ := e1
            obtain ⟨v, hlv, hx⟩ := part_load hp e2 e3
            refine ⟨v :: vs, ?_, ⟨_, _, rfl, hx, hv⟩⟩
            have hev : a.tmps.getD t undef = .pointer (some ⟨g, off, none⟩) := hv1
            have h0 : (resM a.tmps (.cell t T)).run P w = .ok v w := by
              simp only [resM, hev, asAddr, Sem.run_bind, Sem.run_pure, Result.andThen, hlv]
            rw [List.mapM_cons, Sem.run_bind, h0]
            simp only [Result.andThen, Sem.run_bind, e, Sem.run_pure]
          · cases h
        · cases h
      · cases h
    · cases h
theorem shut_ok {ro : Nat} : ∀ {l : List Nat} {ds : List Nat} {H H' : Hp} {w : World}, shutZ ro l H = some H' → HRep σ H w → ds.length = l.length → (∀ (i : Nat) k, l[i]? = some k → ∃ r n, ds[i]? = some r ∧ σ k = some (r, n)) →
    ∀ {fr : Frame}, fr.mode = .returning → fr.defers = ds.map (fun r => { target := .collected r, args := #[] }) → ∃ w', Steps P (lone fr cs w) (lone { fr with defers := [] } cs w') ∧ Left σ H ro w H' σ w'
  | [], ds, H, H', w, h, hm, hl, _, fr, _, hd => by
    injection h with h
    subst h
    have : ds = [] := List.eq_nil_of_length_eq_zero hl
    subst this
    refine ⟨w, ?_, Left.refl _ hm⟩
    have : fr = { fr with defers := [] } := by cases fr; simp_all
    rw [← this]
    exact Steps.refl _ _
  | k :: l, ds, H, H', w, h, hm, hl, hk, fr, hmode, hd => by
    match ds, hl with
    | r :: ds, hl =>
      simp only [shutZ] at h
      split at h
      · rename_i hb
        split at h
        · rename_i hro
          obtain ⟨r', n, e1, e2⟩ := hk 0 k rfl
          simp only [List.getElem?_cons_zero, Option.some.injEq] at e1
          subst e1
          obtain ⟨g, n', e3, e4⟩ := hm.blk _ _ hb
          rw [e2] at e3
          simp only [Option.some.injEq, Prod.mk.injEq] at e3
          obtain ⟨rfl, rfl⟩ := e3
          have l1 : Left σ H ro w (H.set k .dead) σ _ := Left.turn hm hb rfl hro e2 (putObj_turned (o := .deferred none) e4) trivial
          have s1 := step_collected (P := P) (cs := cs) (by rw [hmode]; simp) (by rw [hd]; rfl) rfl (run_takeDeferred (P := P) e4)
          obtain ⟨w', s2, l2⟩ := shut_ok (ds := ds) (fr := { fr with defers := [] ++ ds.map (fun r => { target := .collected r, args := #[] }) }) h l1.rep (by simpa using hl) (fun i k' hi => by
            obtain ⟨r', n', h1, h2⟩ := hk (i + 1) k' (by simpa using hi)
            exact ⟨r', n', by simpa using h1, h2⟩) hmode (by simp)
          exact ⟨w', Steps.head s1 s2, l1.trans l2⟩
        · cases h
      · cases h
theorem getV : ∀ {l : List V} {us : List Value} (t : Nat), holdsV σ l us → (l.getD t .un).holds σ (us.getD t undef)
  | [], us, t, h => by simp; trivial
  | x :: l, _, 0, ⟨v, r, e, h1, h2⟩ => by subst e; exact h1
  | x :: l, _, t + 1, ⟨v, r, e, h1, h2⟩ => by subst e; exact getV t h2
theorem argsT_get : ∀ {l : List V} {i : Nat} {t : Tr} (j : Nat), (argsT l i t).get (path j) = if i ≤ j ∧ j < i + l.length then l.getD (j - i) .un else t.get (path j)
  | [], i, t, j => by rw [if_neg (by simp)]; rfl
  | x :: l, i, t, j => by
    rw [argsT, argsT_get]
    by_cases h1 : j = i
    · subst h1
      rw [if_neg (by omega), Tr.get_put, if_pos rfl, if_pos (by simp)]; simp
    · by_cases h2 : i + 1 ≤ j ∧ j < i + 1 + l.length
      · rw [if_pos h2, if_pos (by simp; omega)]
        rw [show j - i = (j - (i + 1)) + 1 by omega]; simp
      · rw [if_neg h2, Tr.get_put, if_neg (fun e => h1 (path_inj e)), if_neg (by simp; omega)]
theorem argsS_holds {args : List V} {vs : List Value} {n : Nat} (ha : holdsV σ args vs) (hn : args.length ≤ n) : holdsS σ (argsS n args) (vs ++ List.replicate (n - vs.length) undef).toArray := by
  have hlen := lenV ha
  refine ⟨by simp [argsS]; omega, fun t => ?_⟩
  have h1 : (argsS n args).get t = if t < args.length then args.getD t .un else .un := by
    show (argsT args 0 .e).get (path t) = _
    rw [argsT_get, Tr.get_e]; simp
  rw [h1]
  by_cases ht : t < args.length
  · rw [if_pos ht]
    have := getV t ha
    rw [Array.getD_eq_getD_getElem?, List.getElem?_toArray, List.getElem?_append_left (by omega), ← List.getD_eq_getElem?_getD]
    exact this
  · rw [if_neg ht]; trivial
theorem slots_of {l : Sl} {us : Array Value} {ds : List Deferred} (h : holdsS σ l us) (t : Tmp) : (l.get t).holds σ ((Act.mk us ds).eval (.tmp t)) := h.2 t
theorem oneV_holds : ∀ {fs : List F} {vs : List Value}, holdsF σ fs vs → (oneV fs).holds σ (if h : vs.toArray.size = 1 then vs.toArray[0] else .tuple vs.toArray)
  | [], vs, h => by
    rw [show vs = [] from h]
    exact ⟨[], rfl, rfl⟩
  | [y], _, ⟨v, r, e, h1, h2⟩ => by
    subst e
    rw [show r = [] from h2]
    exact h1
  | y :: z :: l, vs, h => by
    have h5 := lenF h
    rw [dif_neg (by simp at h5 ⊢; omega)]
    exact ⟨vs, rfl, h⟩
theorem leave_ok {fn : Func} {x : V} {todo : List Item} {cs : List Frame} (hk : b.kind = .normal) (hf : P.funcs[b.fn]? = some fn) (hR : FRep gl σ s a w) (h : leaveZ P fn s = some (x, H')) :
    ∃ w' fr v, Steps P (lone { b.atR a todo with mode := .returning } cs w) (lone fr cs w') ∧ fr.fn = b.fn ∧ fr.leaving P w' (.returned v) ∧ Left σ s.zh s.zr w H' σ w' ∧ x.holds σ v := by
  unfold leaveZ at h
  split at h
  · rename_i H1 hs
    split at h
    · rename_i l hr
      simp only [Option.some.injEq, Prod.mk.injEq] at h
      obtain ⟨rfl, rfl⟩ := h
      obtain ⟨ds, h1, h2, h3⟩ := hR.defers
      obtain ⟨w', st, lf⟩ := shut_ok (P := P) (cs := cs) (fr := { b.atR a todo with mode := .returning }) hs hR.mem h2 h3 rfl h1
      obtain ⟨vs, e, hv⟩ := resZ_run (a := a) hR.slots lf.rep hr
      exact ⟨w', _, _, st, rfl, ⟨rfl, rfl, hk, fn, hf, results_run e⟩, lf, oneV_holds hv⟩
    · cases h
  · cases h
theorem put_holdsS {l : Sl} {us : Array Value} {x : V} {v : Value} (i : Nat) (h : holdsS σ l us) (hx : x.holds σ v) : holdsS σ (l.put i x) (us.setIfInBounds i v) := by
  refine ⟨by rw [Sl.put_n, Array.size_setIfInBounds]; exact h.1, fun t => ?_⟩
  by_cases hi : i < l.n
  · by_cases e : i = t
    · subst e
      rw [Sl.get_same hi, Array.getD_eq_getD_getElem?, Array.getElem?_setIfInBounds_self, if_pos (by rw [h.1]; exact hi)]
      exact hx
    · rw [Sl.get_ne e, Array.getD_eq_getD_getElem?, Array.getElem?_setIfInBounds_ne e, ← Array.getD_eq_getD_getElem?]
      exact h.2 t
  · rw [Sl.put_ge hi, Array.setIfInBounds_eq_of_size_le (by rw [h.1]; omega)]
    exact h.2 t
theorem fold_ok : ∀ {ps : List Tmp} {args : List V} {vs : List Value} {l : Sl} {T : Array Value}, holdsV σ args vs → holdsS σ l T →
    holdsS σ ((ps.zip args).foldl (fun l p => l.put p.1 p.2) l) ((ps.zip vs).foldl (fun T p => T.setIfInBounds p.1 p.2) T)
  | [], _, _, _, _, _, h => h
  | p :: ps, [], vs, _, _, h, h' => by rw [show vs = [] from h]; exact h'
  | p :: ps, x :: args, _, l, T, ⟨v, r, e, h1, h2⟩, h' => by
    subst e
    exact fold_ok (ps := ps) h2 (put_holdsS p h' h1)
theorem body_ok (hN : EntersB P = true) (hX : ExecOk P gl ex) {f : FuncId} {args : List V} {ro : Nat} {x : V} (h : bodyZ P ex f args H ro = some (x, H')) {vs : List Value} (hro : ro ≤ H.length) (hm : HRep σ H w) (hgl : GlOk gl σ) (ha : holdsV σ args vs) :
    (∀ (args : Array Value) (w : World), (callFunc f args).run P w = .ok (.enter f args) w) ∧ Calls P f vs.toArray w fun e w' => ∃ v, e = .returned v ∧ Yields σ H ro w x H' v w' := by
  unfold bodyZ at h
  split at h
  · rename_i fn hf
    split at h
    · rename_i c hb hble
      split at h
      · rename_i j s hx
        split at h
        · rename_i hj
          refine ⟨fun args w => enters_of hN hf hb args w, fun cs => ?_⟩
          let b : Frame := { (default : Frame) with fn := f, kind := .normal, roundOf := none }
          have henter : Frame.enter P f vs.toArray .normal = b.atR { tmps := (vs ++ List.replicate (fn.ntmps - vs.length) undef).toArray, defers := [] } [.code c] := by
            simp [Frame.enter, Frame.atR, hf, hb, b]
          have hvals : holdsS σ (argsS fn.ntmps args) (vs ++ List.replicate (fn.ntmps - vs.length) undef).toArray := argsS_holds ha (Nat.le_of_ble_eq_true hble)
          obtain ⟨τ, a', w1, todo', st, hend, hR, hl, hz⟩ := hX f none [.code c] _ j s hx b cs σ { tmps := (vs ++ List.replicate (fn.ntmps - vs.length) undef).toArray, defers := [] } w rfl rfl
            ⟨hgl, ⟨[], rfl, rfl, fun i k hk => by simp at hk⟩, hvals.1, slots_of hvals, hm, hro⟩
          rw [← henter] at st
          have hret : Steps P (lone (b.atR a' todo') cs w1) (lone { b.atR a' todo' with mode := .returning } cs w1) := by
            match j, hj, hend with
            | none, _, hend => rw [show todo' = [] from hend]; exact Steps.one (stepR_end rfl)
            | some .ret, _, ⟨k, hend⟩ => rw [hend]; exact Steps.one (stepR_ret rfl)
          obtain ⟨w2, fr, v, st2, hfn, hleave, hl2, hx2⟩ := leave_ok (b := b) (cs := cs) (todo := todo') rfl hf hR h
          have hz : s.zr = ro := hz
          rw [hz] at hl2
          exact ⟨.returned v, w2, fr, ⟨v, rfl, τ, hl.trans hl2, hx2⟩, Steps.trans st (Steps.trans hret st2), hfn, hleave⟩
        · cases h
      · cases h
    · cases h
  · cases h
theorem Left.below (ro : Nat) (hm : HRep σ H w) (hb : Below w.heap.size w w') : Left σ H ro w H σ w' :=
  ⟨Env.le_refl _, ⟨fun k b hk => Blk.up (Env.le_refl _) (fun hl g n e => hb.block g (hm.lt k g n ⟨b, hk, hl⟩ e)) (hm.blk k b hk), hm.inj, fun k g n hl e => Nat.lt_of_lt_of_le (hm.lt k g n hl e) hb.size, hm.dom⟩, Base.of_below hb, fun _ hg => .inl hg, Nat.le_refl _, fun _ _ _ => rfl, fun _ _ e => .inl e⟩
theorem call_fn_ok (hN : EntersB P = true) (hE : ExtOk P gl ext) (hX : ExecOk P gl ex) {f : FuncId} {args : List V} {ro : Nat} {x : V} (h : callZ P ext ex (.fn f) args H ro = some (x, H')) {vs : List Value} (hro : ro ≤ H.length) (hm : HRep σ H w) (hgl : GlOk gl σ) (ha : holdsV σ args vs) :
    (∀ (args : Array Value) (w : World), (callFunc f args).run P w = .ok (.enter f args) w) ∧ Calls P f vs.toArray w fun e w' => ∃ v, e = .returned v ∧ Yields σ H ro w x H' v w' := by
  simp only [callZ] at h
  split at h
  · rename_i y he
    simp only [Option.some.injEq, Prod.mk.injEq] at h
    obtain ⟨rfl, rfl⟩ := h
    obtain ⟨h1, h2⟩ := hE f args H y he σ w vs hm hgl ha
    exact ⟨h1, h2.mono fun e w' ⟨v, e1, e2, e3⟩ => ⟨v, e1, σ, Left.below ro hm e2, V.up (fun k y e => by cases e) e3⟩⟩
  · exact body_ok hN hX h hro hm hgl ha
theorem call_yl_ok (hX : ExecOk P gl ex) {k : Nat} {args : List V} {ro : Nat} {x : V} (h : callZ P ext ex (.yl k) args H ro = some (x, H')) {vs : List Value} (hro : ro ≤ H.length) (hm : HRep σ H w) (hgl : GlOk gl σ) (ha : holdsV σ args vs) :
    ∃ g n, σ k = some (g, n) ∧ ∃ fn tmps as bd, (Instr.yield g vs.toArray).run P w = .ok (.round g fn tmps as bd) w ∧ Rounds P g fn tmps as bd w (Yields σ H ro w x H') := by
  simp only [callZ] at h
  split at h
  · rename_i st0 pd0 fn tmps ps as bd d hk
    split at h
    · rename_i hlen
      split at h
      · rename_i j s hx
        obtain ⟨g, n, D, m, us, e1, e2, e3, e4⟩ := hm.blk _ _ hk
        have hl := lenV ha
        refine ⟨g, n, e1, _, _, _, _, run_yield e4 (by simp [hl, hlen]), fun c cs => ?_⟩
        let b : Frame := { (default : Frame) with fn := fn, kind := .normal, roundOf := some g }
        have hT : ((ps.zip vs.toArray).foldl (fun tmps (t, a) => tmps.setIfInBounds t a) us) = ((ps.toList.zip vs).foldl (fun T p => T.setIfInBounds p.1 p.2) us) := by
          rw [← Array.foldl_toList, Array.toList_zip]
        have hb0 : Frame.round g fn ((ps.zip vs.toArray).foldl (fun tmps (t, a) => tmps.setIfInBounds t a) us) as bd .normal = b.atR { tmps := ((ps.toList.zip vs).foldl (fun T p => T.setIfInBounds p.1 p.2) us), defers := [] } [.code as, .beginRound, .code bd] := by
          rw [hT]; rfl
        have hvals : holdsS σ ((ps.toList.zip args).foldl (fun l p => l.put p.1 p.2) tmps) ((ps.toList.zip vs).foldl (fun T p => T.setIfInBounds p.1 p.2) us) := fold_ok ha e3
        obtain ⟨τ, a', w1, todo', st, hend, hR, hlf, hz⟩ := hX fn (some k) [.code as, .beginRound, .code bd] _ j s hx b (c :: cs) σ _ w rfl ⟨g, n, e1, rfl⟩
          ⟨hgl, ⟨[], rfl, rfl, fun i k hk => by simp at hk⟩, hvals.1, slots_of hvals, hm, hro⟩
        rw [← hb0] at st
        have hz : s.zr = ro := hz
        unfold endRoundZ at h
        split at h
        · rename_i st1 pd1 fn1 tmps1 ps1 as1 bd1 d1 hk1
          split at h
          · rename_i hro'
            simp only [Option.some.injEq, Prod.mk.injEq] at h
            obtain ⟨rfl, rfl⟩ := h
            obtain ⟨g', n', D', m', us', f1, f2, f3, f4⟩ := hR.mem.blk _ _ hk1
            have hg := hlf.le _ _ e1
            rw [hg] at f1
            simp only [Option.some.injEq, Prod.mk.injEq] at f1
            obtain ⟨rfl, rfl⟩ := f1
            have ht := putObj_turned (o := .loop { state := if j.isNone then .ready else .done, pending := j, fn := fn1, tmps := us', params := ps1, assign := as1, body := bd1, defers := D' }) f4
            have l2 : Left τ s.zh s.zr w1 (s.zh.set k (.loop (if j.isNone then .ready else .done) j fn1 tmps1 ps1 as1 bd1 d1)) τ _ := Left.turn hR.mem hk1 rfl hro' hg ht ⟨g, _, D', m', us', hg, f2, f3, ht.at_⟩
            refine ⟨.bool j.isNone, _, ⟨τ, hlf.trans (hz ▸ l2), ⟨rfl, rfl⟩⟩, Steps.trans st (Steps.one ?_)⟩
            match j, hend with
            | none, hend => rw [show todo' = [] from hend]; exact stepR_round_end rfl rfl (run_endRound none f4)
            | some .ret, ⟨k, hend⟩ => rw [hend]; exact stepR_round_ret rfl rfl (run_endRound (some .ret) f4)
            | some (.exit id), ⟨k, hend, hx⟩ => rw [hend]; exact stepR_round_exit rfl rfl hx (run_endRound (some (.exit id)) f4)
          · cases h
        · cases h
      · cases h
    · cases h
  · cases h
theorem callZ_ok (hN : EntersB P = true) (hE : ExtOk P gl ext) (hX : ExecOk P gl ex) : CallOk P gl (callZ P ext ex) := fun t args H ro x H' h σ w vs hro hm hgl ha => by
  cases t with
  | fn f => exact call_fn_ok hN hE hX h hro hm hgl ha
  | yl k => exact call_yl_ok hX h hro hm hgl ha
theorem execZ_ok (hmix : P.follows .mixedOrders = true) (hN : EntersB P = true) (hE : ExtOk P gl ext) : ∀ n, ExecOk P gl (execZ P gl imp ext n)
  | 0 => fun fz oz todo s j s' h => by cases h
  | n + 1 => fun fz oz todo s j s' h b cs σ a w hb hl hR => by
    have ih : ExecOk P gl (execZ P gl imp ext n) := execZ_ok hmix hN hE n
    simp only [execZ, nextZ] at h
    split at h
    · rename_i t s1 hs
      obtain ⟨τ, a1, w1, st1, r1, l1, z1⟩ := stepZ_ok (cs := cs) hmix (callZ_ok hN hE ih) hb hl hR hs
      obtain ⟨υ, a2, w2, t2, st2, e2, r2, l2, z2⟩ := ih fz oz t s1 j s' h b cs τ a1 w1 hb (hl.up l1.le) r1
      exact ⟨υ, a2, w2, t2, Steps.trans st1 st2, e2, r2, l1.trans (z1 ▸ l2), z2.trans z1⟩
    · rename_i j' hs
      simp only [Option.some.injEq, Prod.mk.injEq] at h
      obtain ⟨rfl, rfl⟩ := h
      exact ⟨σ, a, w, todo, Steps.refl _ _, stepZ_stop hs, hR, Left.refl _ hR.mem, rfl⟩
    · cases h
/-- A call, run by computation. -/
theorem runZ_ok (hmix : P.follows .mixedOrders = true) (hN : EntersB P = true) (hE : ExtOk P gl ext) (n : Nat) : CallOk P gl (callZ P ext (execZ P gl imp ext n)) := callZ_ok hN hE (execZ_ok hmix hN hE n)
end
end Go.Proofs.YtgkpejlddgoalaaGreatDoor.Zm
namespace Go.Proofs.YtgkpejlddgoalaaGreatDoor.Zm
open Go.RowKit
open Go.Proofs.YtgkpejlddgoalaaGreatDoor.Ab (sizeT rowB)

noncomputable def nthR {α : Type} (l : List α) : Nat → Option α := List.rec (motive := fun _ => Nat → Option α) (fun _ => none) (fun x _ ih n => Nat.rec (motive := fun _ => Option α) (some x) (fun m _ => ih m) n) l
theorem nthR_eq {α : Type} : ∀ {l : List α} {n : Nat}, nthR l n = l[n]?
  | [], _ => rfl
  | x :: l, 0 => rfl
  | x :: l, n + 1 => by
    rw [List.getElem?_cons_succ]
    exact nthR_eq (l := l) (n := n)
noncomputable def setR {α : Type} (x : α) (l : List α) : Nat → List α := List.rec (motive := fun _ => Nat → List α) (fun _ => []) (fun y t ih n => Nat.rec (motive := fun _ => List α) (x :: t) (fun m _ => y :: ih m) n) l
theorem setR_eq {α : Type} {x : α} : ∀ {l : List α} {n : Nat}, setR x l n = l.set n x
  | [], _ => rfl
  | y :: l, 0 => rfl
  | y :: l, n + 1 => by
    rw [List.set_cons_succ, ← setR_eq (l := l) (n := n)]
    rfl
def sameK (a b : IntKind) : Bool := Nat.beq a.ctorIdx b.ctorIdx
theorem sameK_eq {a b : IntKind} : sameK a b = decide (a = b) := by cases a <;> cases b <;> rfl
/-- The wrap of a number that is mostly in its range. -/
def wrapR (k : IntKind) (r : Int) : Int := match k with
  | .i64 => (match r with
    | .ofNat m => (match Nat.ble m 9223372036854775807 with | true => .ofNat m | false => IntKind.i64.wrap (.ofNat m))
    | .negSucc m => (match Nat.ble m 9223372036854775807 with | true => .negSucc m | false => IntKind.i64.wrap (.negSucc m)))
  | k => k.wrap r
theorem wrapR_eq {k : IntKind} {r : Int} : wrapR k r = k.wrap r := by
  unfold wrapR
  split
  · split
    · rename_i m
      split
      · rename_i h
        have := Nat.le_of_ble_eq_true h
        rw [IntKind.wrap_i64]
        simp only [Int.ofNat_eq_natCast]
        omega
      · rfl
    · rename_i m
      split
      · rename_i h
        have := Nat.le_of_ble_eq_true h
        rw [IntKind.wrap_i64]
        omega
      · rfl
  · rfl
def intB : BinOp → Bool
  | .add | .sub | .mul | .eql | .neq | .lss | .leq | .gtr | .geq => true
  | _ => false
def ltI : Int → Int → Bool
  | .ofNat a, .ofNat b => Nat.ble (a + 1) b
  | .ofNat _, .negSucc _ => false
  | .negSucc _, .ofNat _ => true
  | .negSucc a, .negSucc b => Nat.ble (b + 1) a
theorem ltI_eq {a b : Int} : ltI a b = decide (a < b) := by
  rw [Bool.eq_iff_iff, decide_eq_true_iff]
  cases a <;> cases b <;> simp only [ltI, Nat.ble_eq, Bool.false_eq_true, Int.ofNat_eq_natCast, Int.negSucc_eq, false_iff, true_iff] <;> omega
def eqI : Int → Int → Bool
  | .ofNat a, .ofNat b => Nat.beq a b
  | .negSucc a, .negSucc b => Nat.beq a b
  | _, _ => false
theorem eqI_eq {a b : Int} : eqI a b = (a == b) := by
  rw [Bool.eq_iff_iff, beq_iff_eq]
  cases a <;> cases b <;> simp only [eqI, Nat.beq_eq, Bool.false_eq_true, Int.ofNat_eq_natCast, Int.negSucc_eq, false_iff, true_iff] <;> omega
def quickB (op : BinOp) (k : IntKind) (a b : Int) : V := match op with
  | .add => lv (.int k (wrapR k (a + b)))
  | .sub => lv (.int k (wrapR k (a - b)))
  | .mul => lv (.int k (wrapR k (a * b)))
  | .eql => lv (.bool (eqI a b))
  | .neq => lv (.bool (!eqI a b))
  | .lss => lv (.bool (ltI a b))
  | .leq => lv (.bool (!ltI b a))
  | .gtr => lv (.bool (ltI b a))
  | _ => lv (.bool (!ltI a b))
theorem quickB_eq {op : BinOp} {k : IntKind} {a b : Int} (h : intB op = true) : fastB op k a b = some (quickB op k a b) := by
  have n : ∀ {x y : Int}, decide (x ≤ y) = !ltI y x := fun {x y} => by
    rw [ltI_eq, ← decide_not]; exact decide_eq_decide.2 (by omega)
  have d : ∀ {x y : Int}, decide (x > y) = ltI y x := fun {x y} => by rw [ltI_eq]
  have e : ∀ {x y : Int}, decide (x ≥ y) = !ltI x y := fun {x y} => by
    rw [ltI_eq, ← decide_not]; exact decide_eq_decide.2 (by omega)
  cases op <;> first | (cases h; done) | (simp only [fastB, quickB, wrapR_eq, eqI_eq, n, d, e, bne]; done) | (simp only [fastB, quickB, ltI_eq]; done) | rfl

/-- An operand, looked up once. -/
inductive Ac where
  | tmp (t : Tmp)
  | val (x : V)
noncomputable def acc (gl : List Nat) : Operand → Ac
  | .tmp t => .tmp t
  | .const v => .val (constZ v)
  | .func f => .val (lv (.func (.func f) #[] #[]))
  | .global g => match gl.findIdx? (· == g) with | some k => .val (.f (.one (.b (.ptr k 0)))) | none => .val .un
noncomputable def Ac.get (a : Ac) (s : Sl) : V := match a with | .tmp t => s.get t | .val x => x
theorem acc_get {gl : List Nat} {s : Sl} {y : Operand} : (acc gl y).get s = evZ gl s y := by
  cases y <;> try rfl
  rename_i g
  cases h : gl.findIdx? (· == g) <;> simp only [acc, evZ, h, Ac.get]
abbrev RunFn := CallFn → Sz → Option Sz
/-- An operation, made ready. -/
inductive Cop where
  | mk (f : RunFn)
noncomputable def Cop.run : Cop → RunFn
  | .mk f => f
noncomputable def cellsR (H : Hp) (k : Nat) : Option (List C) := match nthR H k with | some (.cells _ l) => some l | some (.row _ l) => some l | some (.ro _ l) => some l | _ => none
theorem cellsR_eq {H : Hp} {k : Nat} : cellsR H k = cellsOf H k := by unfold cellsR cellsOf; rw [nthR_eq]; rfl
noncomputable def outS (s : Sz) (d : Option Tmp) (x : V) : Option Sz := some ⟨putS s.zs d x, s.zh, s.zr, s.zm⟩
noncomputable def comp (P : Program) (gl : List Nat) (imp : FuncId → Bool) (ops : Array Oper) (o : Oper) : Cop :=
  match o.guard with
  | some _ => .mk fun call s => opZ P gl call imp ops o s
  | none => match o.op with
    | .move x | .assign x => match acc gl x with
      | .tmp t => .mk fun _ s => outS s o.dst (s.zs.get t)
      | .val y => .mk fun _ s => outS s o.dst y
    | .binOp op T x y U => match intB op, acc gl x, acc gl y with
      | true, a, b => .mk fun call s => match a.get s.zs, b.get s.zs with
        | .f (.one (.b (.lit (.int k i)))), .f (.one (.b (.lit (.int k' j)))) => (match sameK k k' with | true => outS s o.dst (quickB op k i j) | false => opZ P gl call imp ops o s)
        | _, _ => opZ P gl call imp ops o s
      | _, _, _ => .mk fun call s => opZ P gl call imp ops o s
    | .load T x => match sizeT P T, rowB P T, acc gl x with
      | some 1, some false, a => .mk fun call s => match a.get s.zs with
        | .f (.one (.b (.ptr k off))) => (match cellsR s.zh k with
          | some l => (match nthR l off with | some c => outS s o.dst (.f (.one c)) | none => opZ P gl call imp ops o s)
          | none => opZ P gl call imp ops o s)
        | _ => opZ P gl call imp ops o s
      | some n, some true, a => .mk fun call s => match a.get s.zs with
        | .f (.one (.b (.ptr k off))) => (match cellsR s.zh k with
          | some l => (match Nat.ble (off + n) l.length with | true => outS s o.dst (.f (.agg ((l.drop off).take n))) | false => opZ P gl call imp ops o s)
          | none => opZ P gl call imp ops o s)
        | _ => opZ P gl call imp ops o s
      | _, _, _ => .mk fun call s => opZ P gl call imp ops o s
    | .fieldAddr T x i => match P.underlying T with
      | some (.struct fs) => match fs[i]? with
        | some f => match sizeT P f.type, acc gl x, f.offset with
          | some (_ + 1), a, fo => .mk fun call s => match a.get s.zs with
            | .f (.one (.b (.ptr k off))) => outS s o.dst (.f (.one (.b (.ptr k (off + fo)))))
            | _ => opZ P gl call imp ops o s
          | _, _, _ => .mk fun call s => opZ P gl call imp ops o s
        | none => .mk fun call s => opZ P gl call imp ops o s
      | _ => .mk fun call s => opZ P gl call imp ops o s
    | .extract x i => match acc gl x with
      | a => .mk fun call s => match a.get s.zs with
        | .tup l => (match nthR l i with | some f => outS s o.dst (.f f) | none => opZ P gl call imp ops o s)
        | _ => opZ P gl call imp ops o s
    | _ => .mk fun call s => opZ P gl call imp ops o s
theorem opZ_of {P : Program} {gl : List Nat} {call : CallFn} {imp : FuncId → Bool} {ops : Array Oper} {o : Oper} {s : Sz} {x : V} (hg : o.guard = none) (h : doZ P call imp (evZ gl s.zs) s.zh s.zr o = some (x, s.zh)) : opZ P gl call imp ops o s = outS s o.dst x := by
  unfold opZ outS
  rw [show wantZ s.zs ops o = some true by unfold wantZ; rw [hg]]
  simp only [h]
theorem doZ_val {P : Program} {call : CallFn} {imp : FuncId → Bool} {ev : Operand → V} {H : Hp} {ro : Nat} {o : Oper} {x : V} (hd : doZ P call imp ev H ro o = (match valW P ev H o with | some x => some (x, H) | none => none)) (h : valW P ev H o = some x) : doZ P call imp ev H ro o = some (x, H) := by rw [hd, h]
theorem comp_ok {P : Program} {gl : List Nat} {imp : FuncId → Bool} {ops : Array Oper} {o : Oper} {call : CallFn} {s : Sz} : (comp P gl imp ops o).run call s = opZ P gl call imp ops o s := by
  unfold comp
  split
  · rfl
  · rename_i hg
    split
    · rename_i x hop
      have h : opZ P gl call imp ops o s = outS s o.dst (evZ gl s.zs x) := opZ_of hg (doZ_val (by unfold doZ; simp only [hop] <;> rfl) (by simp only [valW, valY, fastZ, valZ, hop]))
      rw [h, ← acc_get]
      split <;> (rename_i e; rw [e]; rfl)
    · rename_i x hop
      have h : opZ P gl call imp ops o s = outS s o.dst (evZ gl s.zs x) := opZ_of hg (doZ_val (by unfold doZ; simp only [hop] <;> rfl) (by simp only [valW, valY, fastZ, valZ, hop]))
      rw [h, ← acc_get]
      split <;> (rename_i e; rw [e]; rfl)
    · rename_i op T x y U hop
      split
      · rename_i hb
        simp only [Cop.run, acc_get]
        split
        · rename_i k i k' j e1 e2
          split
          · rename_i hk
            rw [sameK_eq, decide_eq_true_eq] at hk
            refine (opZ_of hg (doZ_val (by unfold doZ; simp only [hop] <;> rfl) ?_)).symm
            simp only [valW, valY, fastZ, hop, e1, e2, if_pos hk, quickB_eq hb]
          · rfl
        · rfl
      · rfl
    · rename_i T x hop
      split
      · rename_i h1 h2
        simp only [Cop.run, acc_get]
        split
        · rename_i k off e1
          split
          · rename_i l hl
            split
            · rename_i c hc
              rw [cellsR_eq] at hl
              rw [nthR_eq] at hc
              refine (opZ_of hg (doZ_val (by unfold doZ; simp only [hop] <;> rfl) ?_)).symm
              simp only [valW, valY, fastZ, valZ, hop, e1, hl, partZ, h1, h2, hc]
            · rfl
          · rfl
        · rfl
      · rename_i n _ _ h1 h2
        simp only [Cop.run, acc_get]
        split
        · rename_i k off e1
          split
          · rename_i l hl
            split
            · rename_i hc
              rw [cellsR_eq] at hl
              have hc := Nat.le_of_ble_eq_true hc
              refine (opZ_of hg (doZ_val (by unfold doZ; simp only [hop] <;> rfl) ?_)).symm
              simp only [valW, valY, fastZ, valZ, hop, e1, hl, partZ, h1, h2, if_pos hc]
            · rfl
          · rfl
        · rfl
      · rfl
    · rename_i T x i hop
      split
      · rename_i fs hu
        split
        · rename_i f hf
          split
          · rename_i m hs
            simp only [Cop.run, acc_get]
            split
            · rename_i k off e1
              refine (opZ_of hg (doZ_val (by unfold doZ; simp only [hop] <;> rfl) ?_)).symm
              simp only [valW, valY, fastZ, valZ, hop, e1, hu, hf, hs]
            · rfl
          · rfl
        · rfl
      · rfl
    · rename_i x i hop
      simp only [Cop.run, acc_get]
      split
      · rename_i l e1
        split
        · rename_i f hf
          rw [nthR_eq] at hf
          refine (opZ_of hg (doZ_val (by unfold doZ; simp only [hop] <;> rfl) ?_)).symm
          simp only [valW, valY, fastZ, valZ, hop, e1, hf]
        · rfl
      · rfl
    · rfl
end Go.Proofs.YtgkpejlddgoalaaGreatDoor.Zm
namespace Go.Proofs.YtgkpejlddgoalaaGreatDoor.Zm
open Go.RowKit

noncomputable def compL (P : Program) (gl : List Nat) (imp : FuncId → Bool) (ops : Array Oper) (l : List Oper) : List Cop := List.rec (motive := fun _ => List Cop) [] (fun o _ ih => comp P gl imp ops o :: ih) l
noncomputable def runC (call : CallFn) (l : List Cop) : Sz → Option Sz := List.rec (motive := fun _ => Sz → Option Sz) (fun s => some s) (fun c _ ih s => match c with | .mk f => match f call s with | some s' => ih s' | none => none) l
def mildO (o : Oper) : Bool := match o.op with
  | .move _ | .assign _ | .pick .. | .load .. | .fieldAddr .. | .field .. | .indexAddr .. | .index .. | .nilCheck _ | .extract .. | .build .. | .binOp .. | .unOp .. | .slice .. | .makeFunc .. => true
  | _ => false
noncomputable def drawnB (P : Program) (gl : List Nat) (call : CallFn) (imp : FuncId → Bool) (ops : Array Oper) (s : Sz) : Option Sz := match opsK P gl call imp ops s.zh.length ops.toList s with
  | some (s', ks) => if upZ ks s'.zh.length = true ∧ ((ks.all fun k => mild k.1) || pairsZ (closZ ops.toList) ks) = true then some s' else none
  | none => none
noncomputable def drawnQ (P : Program) (gl : List Nat) (call : CallFn) (imp : FuncId → Bool) (ops : Array Oper) (s : Sz) : Option Sz := match s with
  | ⟨⟨n, t⟩, zh, zr, zm⟩ => match tyZ ops n, ops.toList.all mildO with
    | true, true => runC call (compL P gl imp ops ops.toList) ⟨⟨n, t⟩, zh, zr, zm⟩
    | true, false => drawnB P gl call imp ops ⟨⟨n, t⟩, zh, zr, zm⟩
    | false, _ => none
noncomputable def stepQ (P : Program) (gl : List Nat) (imp : FuncId → Bool) (call : CallFn) (fz : FuncId) (oz : Option Nat) : List Item → Sz → ZR
  | [], _ => .stop none
  | .code .skip :: k, s => .more k s
  | .code (.label _) :: k, s => .more k s
  | .code .ret :: _, _ => .stop (some .ret)
  | .code (.exit id) :: k, s => match exitTo id k with | some k' => .more k' s | none => .stop (some (.exit id))
  | .code (.goto l) :: k, s => match gotoIn l k with | some k' => .more k' s | none => .bad
  | .code (.seq x y) :: k, s => .more (.code x :: .code y :: k) s
  | .code (.cond c x y) :: k, s => condZ k s x y (evZ gl s.zs c)
  | .code (.block id c) :: k, s => .more (.code c :: .inBlock id :: k) s
  | .code (.scope c) :: k, s => .more (.code c :: .inScope c :: k) s
  | .code (.loop c) :: k, s => .more (.code c :: .inLoop c :: k) s
  | .code (.region _ ops false) :: k, s => match runC call (compL P gl imp ops ops.toList) s with | some s' => .more k s' | none => .bad
  | .code (.region _ ops true) :: k, s => match drawnQ P gl call imp ops s with | some s' => .more k s' | none => .bad
  | .code (.rangeFunc g ps as bd) :: k, s => rangeZ gl call fz oz g ps as bd k s
  | .inBlock _ :: k, s => .more k s
  | .inScope _ :: k, s => .more k s
  | .inLoop c :: k, s => .more (.code c :: .inLoop c :: k) s
  | .beginRound :: k, s => match oz with
    | some l => match beginZ l s with | some s' => .more k s' | none => .bad
    | none => .bad
  | _, _ => .bad
noncomputable def nextQ (P : Program) (gl : List Nat) (imp : FuncId → Bool) (call : CallFn) (ex : ExecFn) (fz : FuncId) (oz : Option Nat) (todo : List Item) (s : Sz) : Option (Option Code × Sz) :=
  match stepQ P gl imp call fz oz todo s with
  | .more t s' => ex fz oz t s'
  | .stop j => some (j, s)
  | .bad => none
noncomputable def execQ (P : Program) (gl : List Nat) (imp : FuncId → Bool) (ext : ExtFn) (n : Nat) : ExecFn := Nat.rec (motive := fun _ => ExecFn) (fun _ _ _ _ => none) (fun _ ih => nextQ P gl imp (callZ P ext ih) ih) n

section
variable {P : Program} {gl : List Nat} {call : CallFn} {imp : FuncId → Bool} {ops : Array Oper} {o : Oper} {s s' : Sz} {n : Nat}
theorem runC_eq : ∀ {l : List Oper} {s : Sz}, runC call (compL P gl imp ops l) s = opsZ P gl call imp ops l s
  | [], _ => rfl
  | o :: l, s => by
    show (match comp P gl imp ops o with | .mk f => match f call s with | some s' => runC call (compL P gl imp ops l) s' | none => none) = _
    have h : (comp P gl imp ops o).run call s = opZ P gl call imp ops o s := comp_ok
    cases hc : comp P gl imp ops o with
    | mk f =>
      rw [hc] at h
      have h : f call s = opZ P gl call imp ops o s := h
      simp only [h, opsZ]
      cases opZ P gl call imp ops o s with
      | none => rfl
      | some s' => exact runC_eq
theorem mild_do {ev : Operand → V} {H : Hp} {ro : Nat} (hm : mildO o = true) : doZ P call imp ev H ro o = (match valW P ev H o with | some x => some (x, H) | none => none) ∧ (∀ x, valW P ev H o = some x → mild (kindZ imp ev H o x) = true) ∧ soft imp ev o n = false := by
  obtain ⟨dst, op, type, pos, after, guard⟩ := o
  cases op
  case load T y =>
    refine ⟨by unfold doZ; rfl, fun x hx => ?_, rfl⟩
    simp only [valW, valY, fastZ, valZ, subZ, strZ] at hx
    simp only [kindZ]
    generalize ev y = z at hx ⊢
    match z, hx with
    | .f (.one (.b (.ptr k off))), _ => rfl
    | .f (.one (.b (.lit _))), hx => cases hx
    | .f (.one (.b (.sym _))), hx => cases hx
    | .f (.one (.b (.slc ..))), hx => cases hx
    | .f (.one (.b (.row ..))), hx => cases hx
    | .f (.one (.b (.yld _))), hx => cases hx
    | .f (.one (.b (.pty ..))), hx => cases hx
    | .f (.one (.b (.sly ..))), hx => cases hx
    | .f (.one (.b (.roy ..))), hx => cases hx
    | .f (.one (.fn ..)), hx => cases hx
    | .f (.agg _), hx => cases hx
    | .tup _, hx => cases hx
    | .un, hx => cases hx
  all_goals first
    | (cases hm; done)
    | exact ⟨by unfold doZ; rfl, fun x _ => rfl, rfl⟩
theorem opK_mild (hm : mildO o = true) : (∃ s' ki x, opZ P gl call imp ops o s = some s' ∧ opK P gl call imp ops n o s = some (ki, x, s.zh) ∧ mild ki = true ∧ s' = { s with zs := putS s.zs o.dst x, zh := s.zh }) ∨ (opZ P gl call imp ops o s = none ∧ opK P gl call imp ops n o s = none) := by
  obtain ⟨h1, h2, h3⟩ := mild_do (P := P) (call := call) (imp := imp) (ev := evZ gl s.zs) (H := s.zh) (ro := s.zr) (n := n) hm
  unfold opZ opK
  cases hw : wantZ s.zs ops o with
  | none => exact .inr ⟨rfl, rfl⟩
  | some b =>
    cases b with
    | false => exact .inl ⟨_, _, _, rfl, rfl, rfl, rfl⟩
    | true =>
      simp only [h1, h3, Bool.false_eq_true, if_false]
      cases hv : valW P (evZ gl s.zs) s.zh o with
      | none => exact .inr ⟨rfl, rfl⟩
      | some x => exact .inl ⟨_, _, x, rfl, rfl, h2 x hv, rfl⟩
theorem opsK_mild : ∀ {l : List Oper} {s : Sz}, l.all mildO = true → (∃ s' ks, opsZ P gl call imp ops l s = some s' ∧ opsK P gl call imp ops n l s = some (s', ks) ∧ (ks.all fun k => mild k.1) = true ∧ s'.zh = s.zh ∧ ∀ a ∈ ks, a.2 = s.zh.length) ∨ (opsZ P gl call imp ops l s = none ∧ opsK P gl call imp ops n l s = none)
  | [], s, _ => .inl ⟨s, [], rfl, rfl, rfl, rfl, fun a h => by cases h⟩
  | o :: l, s, h => by
    rw [List.all_cons, Bool.and_eq_true] at h
    rcases opK_mild (P := P) (gl := gl) (call := call) (imp := imp) (ops := ops) (s := s) (n := n) h.1 with ⟨s1, ki, x, e1, e2, e3, e4⟩ | ⟨e1, e2⟩
    · subst e4
      simp only [opsZ, opsK, e1, e2]
      rcases opsK_mild (l := l) (s := { s with zs := putS s.zs o.dst x, zh := s.zh }) h.2 with ⟨s2, ks, f1, f2, f3, f4, f5⟩ | ⟨f1, f2⟩
      · simp only [f1, f2]
        refine .inl ⟨_, _, rfl, rfl, by rw [List.all_cons, e3, f3]; rfl, f4, fun a ha => ?_⟩
        rcases List.mem_cons.1 ha with rfl | ha
        · rfl
        · exact f5 a ha
      · simp only [f1, f2]
        exact .inr ⟨trivial, trivial⟩
    · simp only [opsZ, opsK, e1, e2]
      exact .inr ⟨trivial, trivial⟩
theorem upZ_same {N : Nat} : ∀ {ks : List (Ki × Nat)}, (∀ a ∈ ks, a.2 = N) → upZ ks N = true
  | [], _ => rfl
  | [(k, m)], h => by
    have := h (k, m) (by simp)
    simp only at this
    simp [upZ, this]
  | (k, m) :: (k', m') :: l, h => by
    have h1 := h (k, m) (by simp)
    have h2 := h (k', m') (by simp)
    simp only at h1 h2
    simp only [upZ, Bool.and_eq_true, decide_eq_true_eq]
    exact ⟨by omega, upZ_same fun a ha => h a (by simp at ha ⊢; exact .inr ha)⟩
theorem drawnQ_eq : drawnQ P gl call imp ops s = drawnZ P gl call imp ops s := by
  obtain ⟨⟨n, t⟩, zh, zr, zm⟩ := s
  unfold drawnQ drawnZ
  simp only
  cases hty : tyZ ops n with
  | false => rfl
  | true =>
    cases hm : ops.toList.all mildO with
    | false => rfl
    | true =>
      simp only [if_true, runC_eq]
      rcases opsK_mild (P := P) (gl := gl) (call := call) (imp := imp) (ops := ops) (s := ⟨⟨n, t⟩, zh, zr, zm⟩) (n := zh.length) hm with ⟨s', ks, e1, e2, e3, e4, e5⟩ | ⟨e1, e2⟩
      · simp only [e1, e2, e3, Bool.true_or, and_true]
        rw [if_pos]
        rw [e4]
        exact upZ_same e5
      · simp only [e1, e2]
theorem stepQ_eq {fz : FuncId} {oz : Option Nat} {todo : List Item} : stepQ P gl imp call fz oz todo s = stepZ P gl imp call fz oz todo s := by
  unfold stepQ stepZ
  split <;> first | rfl | (rw [runC_eq]; rfl) | (rw [drawnQ_eq]; rfl) | simp_all
theorem execQ_eq {ext : ExtFn} : ∀ n, execQ P gl imp ext n = execZ P gl imp ext n
  | 0 => rfl
  | n + 1 => by
    have ih := execQ_eq (ext := ext) n
    show nextQ P gl imp (callZ P ext (execQ P gl imp ext n)) (execQ P gl imp ext n) = _
    rw [ih]
    funext fz oz todo s
    simp only [execZ, nextQ, nextZ, stepQ_eq] <;> rfl
end

/-- A call in a known memory, what it yields and leaves. -/
structure Ent where
  f : FuncId
  args : List V
  H : Hp
  ro : Nat
  x : V
  H' : Hp
def eqVal : Value → Value → Bool
  | .bool a, .bool b => a == b
  | .int k a, .int k' b => sameK k k' && eqI a b
  | .string s, .string t => decide (s = t)
  | .pointer none, .pointer none => true
  | .slice none a b, .slice none c d => Nat.beq a c && Nat.beq b d
  | .nilFunc, .nilFunc => true
  | .nilIface, .nilIface => true
  | _, _ => false
def eqB : B → B → Bool
  | .lit a, .lit b => eqVal a b
  | .ptr a b, .ptr c d => Nat.beq a c && Nat.beq b d
  | .slc a b c d, .slc a' b' c' d' => Nat.beq a a' && Nat.beq b b' && Nat.beq c c' && Nat.beq d d'
  | .row a b c d, .row a' b' c' d' => Nat.beq a a' && Nat.beq b b' && Nat.beq c c' && Nat.beq d d'
  | _, _ => false
def eqC : C → C → Bool
  | .b x, .b y => eqB x y
  | _, _ => false
def eqCs : List C → List C → Bool
  | [], [] => true
  | a :: l, b :: m => eqC a b && eqCs l m
  | _, _ => false
def eqF : F → F → Bool
  | .one a, .one b => eqC a b
  | .agg a, .agg b => eqCs a b
  | _, _ => false
def eqV : V → V → Bool
  | .f a, .f b => eqF a b
  | _, _ => false
def eqVs : List V → List V → Bool
  | [], [] => true
  | a :: l, b :: m => eqV a b && eqVs l m
  | _, _ => false
def eqK : Blk → Blk → Bool
  | .cells T l, .cells U m => Nat.beq T U && eqCs l m
  | .row T l, .row U m => Nat.beq T U && eqCs l m
  | .ro T l, .ro U m => Nat.beq T U && eqCs l m
  | .dead, .dead => true
  | _, _ => false
def eqH : Hp → Hp → Bool
  | [], [] => true
  | a :: l, b :: m => eqK a b && eqH l m
  | _, _ => false
theorem beqN {a b : Nat} (h : Nat.beq a b = true) : a = b := Nat.eq_of_beq_eq_true h
theorem eqVal_ok {a b : Value} (h : eqVal a b = true) : a = b := by
  unfold eqVal at h
  split at h
  · rw [eq_of_beq h]
  · rw [Bool.and_eq_true, sameK_eq, decide_eq_true_eq, eqI_eq, beq_iff_eq] at h; rw [h.1, h.2]
  · rw [of_decide_eq_true h]
  · rfl
  · rw [Bool.and_eq_true] at h; rw [beqN h.1, beqN h.2]
  · rfl
  · rfl
  · cases h
theorem eqB_ok {a b : B} (h : eqB a b = true) : a = b := by
  unfold eqB at h
  split at h
  · rw [eqVal_ok h]
  · rw [Bool.and_eq_true] at h; rw [beqN h.1, beqN h.2]
  · simp only [Bool.and_eq_true] at h; rw [beqN h.1.1.1, beqN h.1.1.2, beqN h.1.2, beqN h.2]
  · simp only [Bool.and_eq_true] at h; rw [beqN h.1.1.1, beqN h.1.1.2, beqN h.1.2, beqN h.2]
  · cases h
theorem eqC_ok {a b : C} (h : eqC a b = true) : a = b := by
  unfold eqC at h
  split at h
  · rw [eqB_ok h]
  · cases h
theorem eqCs_ok : ∀ {a b : List C}, eqCs a b = true → a = b
  | [], [], _ => rfl
  | a :: l, b :: m, h => by
    simp only [eqCs, Bool.and_eq_true] at h
    rw [eqC_ok h.1, eqCs_ok h.2]
  | [], _ :: _, h | _ :: _, [], h => by cases h
theorem eqF_ok {a b : F} (h : eqF a b = true) : a = b := by
  unfold eqF at h
  split at h
  · rw [eqC_ok h]
  · rw [eqCs_ok h]
  · cases h
theorem eqV_ok {a b : V} (h : eqV a b = true) : a = b := by
  unfold eqV at h
  split at h
  · rw [eqF_ok h]
  · cases h
theorem eqVs_ok : ∀ {a b : List V}, eqVs a b = true → a = b
  | [], [], _ => rfl
  | a :: l, b :: m, h => by
    simp only [eqVs, Bool.and_eq_true] at h
    rw [eqV_ok h.1, eqVs_ok h.2]
  | [], _ :: _, h | _ :: _, [], h => by cases h
theorem eqK_ok {a b : Blk} (h : eqK a b = true) : a = b := by
  unfold eqK at h
  split at h
  · rw [Bool.and_eq_true] at h; rw [beqN h.1, eqCs_ok h.2]
  · rw [Bool.and_eq_true] at h; rw [beqN h.1, eqCs_ok h.2]
  · rw [Bool.and_eq_true] at h; rw [beqN h.1, eqCs_ok h.2]
  · rfl
  · cases h
theorem eqH_ok : ∀ {a b : Hp}, eqH a b = true → a = b
  | [], [], _ => rfl
  | a :: l, b :: m, h => by
    simp only [eqH, Bool.and_eq_true] at h
    rw [eqK_ok h.1, eqH_ok h.2]
  | [], _ :: _, h | _ :: _, [], h => by cases h
/-- The entry for a call, if there is one. -/
def findE : List Ent → FuncId → List V → Hp → Nat → Option Ent
  | [], _, _, _, _ => none
  | e :: l, f, args, H, ro => match Nat.beq e.f f with
    | true => match Nat.beq e.ro ro && (eqVs e.args args && eqH e.H H) with
      | true => some e
      | false => findE l f args H ro
    | false => findE l f args H ro
theorem findE_ok : ∀ {l : List Ent} {f : FuncId} {args : List V} {H : Hp} {ro : Nat} {e : Ent}, findE l f args H ro = some e → e ∈ l ∧ e.f = f ∧ e.args = args ∧ e.H = H ∧ e.ro = ro
  | e' :: l, f, args, H, ro, e, h => by
    simp only [findE] at h
    split at h
    · rename_i h1
      split at h
      · rename_i h2
        simp only [Bool.and_eq_true] at h2
        injection h with h
        subst h
        exact ⟨List.mem_cons_self .., beqN h1, eqVs_ok h2.2.1, eqH_ok h2.2.2, beqN h2.1⟩
      · obtain ⟨h3, h4⟩ := findE_ok h
        exact ⟨List.mem_cons_of_mem _ h3, h4⟩
    · obtain ⟨h3, h4⟩ := findE_ok h
      exact ⟨List.mem_cons_of_mem _ h3, h4⟩
def tabZ (tab : List Ent) (call : CallFn) : CallFn := fun t args H ro => match t with
  | .fn f => match findE tab f args H ro with | some e => some (e.x, e.H') | none => call t args H ro
  | .yl _ => call t args H ro
/-- An entry says what is so. -/
def EntOk (P : Program) (gl : List Nat) (e : Ent) : Prop := ∀ σ w vs, e.ro ≤ e.H.length → HRep σ e.H w → GlOk gl σ → holdsV σ e.args vs →
  (∀ (args : Array Value) (w : World), (callFunc e.f args).run P w = .ok (.enter e.f args) w) ∧ Calls P e.f vs.toArray w fun u w' => ∃ v, u = .returned v ∧ Yields σ e.H e.ro w e.x e.H' v w'
/-- What nobody asks any more is forgotten. -/
def pruneZ (keep : List Nat) (n : Nat) : Nat → Hp → Hp
  | _, [] => []
  | i, b :: H => (match Nat.ble (i + 1) n || keep.contains i with | true => b | false => .dead) :: pruneZ keep n (i + 1) H
/-- A walk of a frame whose calls are given. -/
noncomputable def execT (P : Program) (gl : List Nat) (imp : FuncId → Bool) (call : CallFn) (n : Nat) : ExecFn := Nat.rec (motive := fun _ => ExecFn) (fun _ _ _ _ => none) (fun _ ih => nextQ P gl imp call ih) n

section
variable {P : Program} {gl : List Nat} {call : CallFn} {imp : FuncId → Bool} {ext : ExtFn} {σ τ : Env} {H H' : Hp} {w w' : World} {ro : Nat}
theorem prune_len {keep : List Nat} {n : Nat} : ∀ {H : Hp} {i : Nat}, (pruneZ keep n i H).length = H.length
  | [], _ => rfl
  | b :: H, i => by simp only [pruneZ, List.length_cons, prune_len]
theorem prune_at {keep : List Nat} {n : Nat} : ∀ {H : Hp} {i k : Nat} {b : Blk}, (pruneZ keep n i H)[k]? = some b → b.live = true → H[k]? = some b
  | [], _, k, b, h, _ => by simp [pruneZ] at h
  | c :: H, i, 0, b, h, hl => by
    simp only [pruneZ, List.getElem?_cons_zero, Option.some.injEq] at h
    split at h
    · rw [← h]; rfl
    · rw [← h] at hl; cases hl
  | c :: H, i, k + 1, b, h, hl => by
    simp only [pruneZ, List.getElem?_cons_succ] at h ⊢
    exact prune_at h hl
theorem prune_old {keep : List Nat} {n : Nat} : ∀ {H : Hp} {i k : Nat}, i + k < n → (pruneZ keep n i H)[k]? = H[k]?
  | [], _, k, h => rfl
  | c :: H, i, 0, h => by
    simp only [pruneZ, List.getElem?_cons_zero]
    rw [show Nat.ble (i + 1) n = true from Nat.ble_eq_true_of_le (by omega)]
    rfl
  | c :: H, i, k + 1, h => by
    simp only [pruneZ, List.getElem?_cons_succ]
    exact prune_old (by omega)
theorem Left.prune {keep : List Nat} (h : Left σ H ro w H' τ w') (hro : ro ≤ H.length) : Left σ H ro w (pruneZ keep H.length 0 H') τ w' := by
  have hlv : ∀ k, live (pruneZ keep H.length 0 H') k → live H' k := fun k ⟨b, hb, hl⟩ => ⟨b, prune_at hb hl, hl⟩
  refine ⟨h.le, ⟨fun k b hb => ?_, fun k k' g n n' h1 h2 => h.rep.inj k k' g n n' (hlv k h1) (hlv k' h2), fun k g n h1 => h.rep.lt k g n (hlv k h1), fun k x e => by rw [prune_len]; exact h.rep.dom k x e⟩, h.base, fun g ⟨k, n, h1, h2, h3⟩ => h.own g ⟨k, n, h1, hlv k h2, h3⟩, by rw [prune_len]; exact h.grow, fun k h1 h2 => by rw [prune_old (by omega)]; exact h.old k h1 h2, h.new⟩
  cases hl : b.live with
  | true => exact h.rep.blk k b (prune_at hb hl)
  | false => cases b <;> first | trivial | cases hl
theorem ent_of_run (hmix : P.follows .mixedOrders = true) (hN : EntersB P = true) (hE : ExtOk P gl ext) (n : Nat) (keep : List Nat) {e : Ent}
    (h : (callZ P ext (execQ P gl imp ext n) (.fn e.f) e.args e.H e.ro).map (fun r => (r.1, pruneZ keep e.H.length 0 r.2)) = some (e.x, e.H')) : EntOk P gl e := by
  intro σ w vs hro hm hgl ha
  rw [Option.map_eq_some_iff] at h
  obtain ⟨⟨y, G⟩, h1, h2⟩ := h
  simp only [Prod.mk.injEq] at h2
  rw [execQ_eq] at h1
  obtain ⟨h3, h4⟩ := runZ_ok hmix hN hE n (.fn e.f) e.args e.H e.ro y G h1 σ w vs hro hm hgl ha
  exact ⟨h3, h4.mono fun u w' ⟨v, e1, τ, e2, e3⟩ => ⟨v, e1, τ, by rw [← h2.2]; exact Left.prune e2 hro, by rw [← h2.1]; exact e3⟩⟩
theorem tabZ_ok {tab : List Ent} (hC : CallOk P gl call) (hT : ∀ e ∈ tab, EntOk P gl e) : CallOk P gl (tabZ tab call) := by
  intro t args H ro x H' h σ w vs hro hm hgl ha
  cases t with
  | yl k => exact hC (.yl k) args H ro x H' h σ w vs hro hm hgl ha
  | fn f =>
    simp only [tabZ] at h
    split at h
    · rename_i e he
      obtain ⟨h1, h2, h3, h4, h5⟩ := findE_ok he
      simp only [Option.some.injEq, Prod.mk.injEq] at h
      obtain ⟨rfl, rfl⟩ := h
      subst h2 h3 h4 h5
      exact hT e h1 σ w vs hro hm hgl ha
    · exact hC (.fn f) args H ro x H' h σ w vs hro hm hgl ha
theorem execT_ok (hmix : P.follows .mixedOrders = true) (hC : CallOk P gl call) : ∀ n, ExecOk P gl (execT P gl imp call n)
  | 0 => fun fz oz todo s j s' h => by cases h
  | n + 1 => fun fz oz todo s j s' h b cs σ a w hb hl hR => by
    have ih : ExecOk P gl (execT P gl imp call n) := execT_ok hmix hC n
    have h : nextQ P gl imp call (execT P gl imp call n) fz oz todo s = some (j, s') := h
    simp only [nextQ, stepQ_eq] at h
    split at h
    · rename_i t s1 hs
      obtain ⟨τ, a1, w1, st1, r1, l1, z1⟩ := stepZ_ok (cs := cs) hmix hC hb hl hR hs
      obtain ⟨υ, a2, w2, t2, st2, e2, r2, l2, z2⟩ := ih fz oz t s1 j s' h b cs τ a1 w1 hb (hl.up l1.le) r1
      exact ⟨υ, a2, w2, t2, Steps.trans st1 st2, e2, r2, l1.trans (z1 ▸ l2), z2.trans z1⟩
    · rename_i j' hs
      simp only [Option.some.injEq, Prod.mk.injEq] at h
      obtain ⟨rfl, rfl⟩ := h
      exact ⟨σ, a, w, todo, Steps.refl _ _, stepZ_stop hs, hR, Left.refl _ hR.mem, rfl⟩
    · cases h
/-- A call whose own calls are in the table, or are run. -/
theorem calls_of_tab (hmix : P.follows .mixedOrders = true) (hN : EntersB P = true) (hE : ExtOk P gl ext) (n m : Nat) {tab : List Ent} (hT : ∀ e ∈ tab, EntOk P gl e) {f : FuncId} {args : List V} {x : V}
    (h : (bodyZ P (execT P gl imp (tabZ tab (callZ P ext (execQ P gl imp ext n))) m) f args H ro).map Prod.fst = some x) {vs : List Value} (hro : ro ≤ H.length) (hm : HRep σ H w) (hgl : GlOk gl σ) (ha : holdsV σ args vs) :
    Calls P f vs.toArray w fun e w' => ∃ v, e = .returned v ∧ ∃ τ, σ.le τ ∧ Base (Own σ H ro) w w' ∧ x.holds τ v := by
  rw [Option.map_eq_some_iff] at h
  obtain ⟨⟨y, H'⟩, h1, h2⟩ := h
  simp only at h2
  subst h2
  have hC : CallOk P gl (tabZ tab (callZ P ext (execQ P gl imp ext n))) := tabZ_ok (by rw [execQ_eq]; exact runZ_ok hmix hN hE n) hT
  exact (body_ok hN (execT_ok hmix hC m) h1 hro hm hgl ha).2.mono fun e w' ⟨v, e1, τ, e2, e3⟩ => ⟨v, e1, τ, e2.le, e2.base, e3⟩
end
end Go.Proofs.YtgkpejlddgoalaaGreatDoor.Zm
