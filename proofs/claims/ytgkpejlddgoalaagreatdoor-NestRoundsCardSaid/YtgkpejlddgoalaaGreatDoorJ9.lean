/- Parts of the proof, joined. -/
import Derived.Test.YtgkpejlddgoalaaGreatDoorJ8
set_option linter.unusedSimpArgs false
set_option linter.unusedVariables false
set_option linter.constructorNameAsVariable false
namespace Go.Proofs.YtgkpejlddgoalaaGreatDoor.Zm
open Go.RowKit

/-- A call does what is said of it. -/
def CallAt (P : Program) (gl : List Nat) (t : Tg) (args : List V) (H : Hp) (ro : Nat) (R : V → Hp → Prop) : Prop := ∀ σ w vs, ro ≤ H.length → HRep σ H w → GlOk gl σ → holdsV σ args vs → match t with
  | .fn f => (∀ (args : Array Value) (w : World), (callFunc f args).run P w = .ok (.enter f args) w) ∧ Calls P f vs.toArray w fun e w' => ∃ v, e = .returned v ∧ ∃ x H', R x H' ∧ Yields σ H ro w x H' v w'
  | .yl k => ∃ g n, σ k = some (g, n) ∧ ∃ fn tmps aso bd, (Instr.yield g vs.toArray).run P w = .ok (.round g fn tmps aso bd) w ∧ Rounds P g fn tmps aso bd w (fun v w' => ∃ x H', R x H' ∧ Yields σ H ro w x H' v w')
abbrev Cf := List Item × Sz
/-- The run of such a frame comes to a place where Q holds. -/
def Reach (P : Program) (gl : List Nat) (fz : FuncId) (oz : Option Nat) (c : Cf) (Q : Cf → Prop) : Prop := ∀ b cs σ a w, b.fn = fz → AtLoop σ oz b → FRep gl σ c.2 a w →
  ∃ τ a' w' c', Q c' ∧ Steps P (lone (b.atR a c.1) cs w) (lone (b.atR a' c'.1) cs w') ∧ FRep gl τ c'.2 a' w' ∧ Left σ c.2.zh c.2.zr w c'.2.zh τ w' ∧ c'.2.zr = c.2.zr
def noCall : CallFn := fun _ _ _ _ => none
noncomputable def stepS (P : Program) (gl : List Nat) (imp : FuncId → Bool) (call : CallFn) (fz : FuncId) (oz : Option Nat) : List Item → Sz → ZR
  | .code (.region _ ops false) :: k, s => .more (.inRegion ops (List.range ops.size) :: k) s
  | .inRegion _ [] :: k, s => .more k s
  | .inRegion ops (i :: rest) :: k, s => match ops[i]? with
    | some o => (match comp P gl imp ops o with | .mk f => match f call s with | some s' => .more (.inRegion ops rest :: k) s' | none => .bad)
    | none => .bad
  | todo, s => stepQ P gl imp call fz oz todo s
noncomputable def runS (P : Program) (gl : List Nat) (imp : FuncId → Bool) (call : CallFn) (fz : FuncId) (oz : Option Nat) (n : Nat) : Cf → Cf := Nat.rec (motive := fun _ => Cf → Cf) (fun c => c) (fun _ ih c => match c with | (t, s) => match stepS P gl imp call fz oz t s with | .more t' s' => ih (t', s') | .stop _ => (t, s) | .bad => (t, s)) n
/-- What is called next. -/
noncomputable def nextCall (gl : List Nat) (c : Cf) : Option (Tg × List V) := match c with
  | (.inRegion ops (i :: _) :: _, s) => match ops[i]? with
    | some o => match wantZ s.zs ops o with
      | some true => calleeZ (evZ gl s.zs) o
      | _ => none
    | none => none
  | _ => none
noncomputable def afterCall (c : Cf) (x : V) (H' : Hp) : Cf := match c with
  | (.inRegion ops (i :: rest) :: k, s) => match ops[i]? with
    | some o => (.inRegion ops rest :: k, { s with zs := putS s.zs o.dst x, zh := H' })
    | none => c
  | _ => c
noncomputable def knowS (d : Tmp) (y : V) (c : Cf) : Cf := (c.1, { c.2 with zs := c.2.zs.put d y })
noncomputable def keepT (s : Sl) : List Nat → Tr
  | [] => .e
  | i :: l => (keepT s l).put (s.get i) (path i)
noncomputable def keepS (l : List Nat) (c : Cf) : Cf := (c.1, { c.2 with zs := ⟨c.2.zs.n, keepT c.2.zs l⟩ })
def heapS (H : Hp) (c : Cf) : Cf := (c.1, { c.2 with zh := H })

section
variable {P : Program} {gl : List Nat} {imp : FuncId → Bool} {fz : FuncId} {oz : Option Nat} {c : Cf} {Q R : Cf → Prop} {σ τ : Env} {H H' : Hp} {w w' : World} {ro : Nat} {x : V} {cf : CallFn}
theorem noCall_ok : CallOk P gl noCall := fun _ _ _ _ _ _ h => by cases h
theorem Reach.done (h : Q c) : Reach P gl fz oz c Q := fun b cs σ a w _ _ hR => ⟨σ, a, w, c, h, Steps.refl _ _, hR, Left.refl _ hR.mem, rfl⟩
theorem Reach.bind (h : Reach P gl fz oz c Q) (hq : ∀ c', Q c' → Reach P gl fz oz c' R) : Reach P gl fz oz c R := fun b cs σ a w hb hl hR => by
  obtain ⟨τ, a1, w1, c1, q1, s1, r1, l1, z1⟩ := h b cs σ a w hb hl hR
  obtain ⟨υ, a2, w2, c2, q2, s2, r2, l2, z2⟩ := hq c1 q1 b cs τ a1 w1 hb (hl.up l1.le) r1
  exact ⟨υ, a2, w2, c2, q2, Steps.trans s1 s2, r2, l1.trans (z1 ▸ l2), z2.trans z1⟩
theorem Reach.mono (h : Reach P gl fz oz c Q) (hq : ∀ c', Q c' → R c') : Reach P gl fz oz c R := h.bind fun c' q => .done (hq c' q)
/-- One step. -/
theorem Reach.one {c1 : Cf} (hs : ∀ b cs σ a w, b.fn = fz → AtLoop σ oz b → FRep gl σ c.2 a w → ∃ τ a' w', Steps P (lone (b.atR a c.1) cs w) (lone (b.atR a' c1.1) cs w') ∧ FRep gl τ c1.2 a' w' ∧ Left σ c.2.zh c.2.zr w c1.2.zh τ w' ∧ c1.2.zr = c.2.zr)
    (h : Reach P gl fz oz c1 Q) : Reach P gl fz oz c Q := fun b cs σ a w hb hl hR => by
  obtain ⟨τ, a1, w1, s1, r1, l1, z1⟩ := hs b cs σ a w hb hl hR
  obtain ⟨υ, a2, w2, c2, q2, s2, r2, l2, z2⟩ := h b cs τ a1 w1 hb (hl.up l1.le) r1
  exact ⟨υ, a2, w2, c2, q2, Steps.trans s1 s2, r2, l1.trans (z1 ▸ l2), z2.trans z1⟩
/-- What is known of a frame may be said otherwise. -/
theorem Reach.turn {s' : Sz} (hs : ∀ σ a w, FRep gl σ c.2 a w → FRep gl σ s' a w ∧ Left σ c.2.zh c.2.zr w s'.zh σ w ∧ s'.zr = c.2.zr) (h : Reach P gl fz oz (c.1, s') Q) : Reach P gl fz oz c Q :=
  Reach.one (c1 := (c.1, s')) (fun b cs σ a w _ _ hR => by
    obtain ⟨r, l, z⟩ := hs σ a w hR
    exact ⟨σ, a, w, Steps.refl _ _, r, l, z⟩) h
theorem stepS_ok {t t' : List Item} {s s' : Sz} (hmix : P.follows .mixedOrders = true) (hC : CallOk P gl cf) (h : stepS P gl imp cf fz oz t s = .more t' s') {b : Frame} {cs : List Frame} {a : Act} (hb : b.fn = fz) (hl : AtLoop σ oz b) (hR : FRep gl σ s a w) :
    ∃ τ a' w', Steps P (lone (b.atR a t) cs w) (lone (b.atR a' t') cs w') ∧ FRep gl τ s' a' w' ∧ Left σ s.zh s.zr w s'.zh τ w' ∧ s'.zr = s.zr := by
  unfold stepS at h
  split at h
  · simp only [ZR.more.injEq] at h; obtain ⟨rfl, rfl⟩ := h
    exact ⟨σ, a, w, Steps.one stepR_region, hR, Left.refl _ hR.mem, rfl⟩
  · simp only [ZR.more.injEq] at h; obtain ⟨rfl, rfl⟩ := h
    exact ⟨σ, a, w, Steps.one stepR_region_end, hR, Left.refl _ hR.mem, rfl⟩
  · rename_i ops i rest k
    split at h
    · rename_i o ho
      have hc : (comp P gl imp ops o).run cf s = opZ P gl cf imp ops o s := comp_ok
      split at h
      · rename_i f hf
        rw [hf] at hc
        have hc : f cf s = opZ P gl cf imp ops o s := hc
        split at h
        · rename_i s2 hs2
          simp only [ZR.more.injEq] at h; obtain ⟨rfl, rfl⟩ := h
          rw [hs2] at hc
          obtain ⟨τ, a', w', r, l, z, m, st⟩ := opZ_ok (b := b) (cs := cs) hC ho hc.symm hR
          exact ⟨τ, a', w', st, r, l, z⟩
        · cases h
    · cases h
  · rw [stepQ_eq] at h
    exact stepZ_ok hmix hC hb hl hR h
/-- The machine goes on. -/
theorem Reach.run (hmix : P.follows .mixedOrders = true) (hC : CallOk P gl cf) : ∀ (n : Nat) {c : Cf}, Reach P gl fz oz (runS P gl imp cf fz oz n c) Q → Reach P gl fz oz c Q
  | 0, _, h => h
  | n + 1, (t, s), h => by
    have h : Reach P gl fz oz (match stepS P gl imp cf fz oz t s with | .more t' s' => runS P gl imp cf fz oz n (t', s') | .stop _ => (t, s) | .bad => (t, s)) Q := h
    cases hs : stepS P gl imp cf fz oz t s with
    | more t' s' =>
      rw [hs] at h
      exact Reach.one (c1 := (t', s')) (fun b cs σ a w hb hl hR => stepS_ok hmix hC hs hb hl hR) (Reach.run hmix hC n h)
    | stop j => rw [hs] at h; exact h
    | bad => rw [hs] at h; exact h
theorem Yields.weaken_of {v : Value} {H2 : Hp} (h : Left σ H ro w H2 τ w') (hx : x.holds τ v) : Yields σ H ro w x H2 v w' := ⟨τ, h, hx⟩
/-- A call whose contract is known. -/
theorem Reach.call {f : FuncId} {args : List V} {R : V → Hp → Prop} (h1 : nextCall gl c = some (.fn f, args)) (hc : CallAt P gl (.fn f) args c.2.zh c.2.zr R) (h : ∀ x H', R x H' → Reach P gl fz oz (afterCall c x H') Q) : Reach P gl fz oz c Q := by
  obtain ⟨t, s⟩ := c
  unfold nextCall at h1
  split at h1
  · rename_i ops i rest k s' heq
    simp only [Prod.mk.injEq] at heq
    obtain ⟨rfl, rfl⟩ := heq
    split at h1
    · rename_i o ho
      split at h1
      · rename_i hw
        intro b cs σ a w hb hl hR
        obtain ⟨vs, hargs, hrun⟩ := calleeZ_ok (P := P) (w := w) h1 (fun y _ => evZ_holds hR.glob hR.slots y)
        obtain ⟨h2, h3⟩ := hc σ w vs hR.ro hR.mem hR.glob hargs
        have hd : noDefer o = true := by
          unfold noDefer
          split
          · rename_i hop; rw [calleeZ, hop] at h1; cases h1
          · rfl
        obtain ⟨v, w', ⟨x, H', hRx, τ, hlf, hx⟩, hst⟩ := does_step (b := b) (rest := rest) (k := k) (cs := cs) (R := fun v w' => ∃ x H', R x H' ∧ Yields σ s.zh s.zr w x H' v w') ho (hR.wants hw) hd (.inr (.inr (.inl ⟨f, vs.toArray, hrun.trans (h2 _ _), h3⟩)))
        have h4 := h x H' hRx
        simp only [afterCall, ho] at h4
        obtain ⟨υ, a2, w2, c2, q2, s2, r2, l2, z2⟩ := h4 b cs τ _ w' hb (hl.up hlf.le) (hR.put hlf hx)
        exact ⟨υ, a2, w2, c2, q2, Steps.trans hst s2, r2, hlf.trans l2, z2⟩
      · cases h1
    · cases h1
  · cases h1
/-- A call of a loop's yield. -/
theorem Reach.yield {k : Nat} {args : List V} {R : V → Hp → Prop} (h1 : nextCall gl c = some (.yl k, args)) (hc : CallAt P gl (.yl k) args c.2.zh c.2.zr R) (h : ∀ x H', R x H' → Reach P gl fz oz (afterCall c x H') Q) : Reach P gl fz oz c Q := by
  obtain ⟨t, s⟩ := c
  unfold nextCall at h1
  split at h1
  · rename_i ops i rest k2 s' heq
    simp only [Prod.mk.injEq] at heq
    obtain ⟨rfl, rfl⟩ := heq
    split at h1
    · rename_i o ho
      split at h1
      · rename_i hw
        intro b cs σ a w hb hl hR
        obtain ⟨vs, hargs, g, n, e, hrun⟩ := calleeZ_ok (P := P) (w := w) h1 (fun y _ => evZ_holds hR.glob hR.slots y)
        obtain ⟨g', n', e', fn, tmps, aso, bd, h2, h3⟩ := hc σ w vs hR.ro hR.mem hR.glob hargs
        rw [e] at e'
        simp only [Option.some.injEq, Prod.mk.injEq] at e'
        obtain ⟨rfl, rfl⟩ := e'
        have hd : noDefer o = true := by
          unfold noDefer
          split
          · rename_i hop; rw [calleeZ, hop] at h1; cases h1
          · rfl
        obtain ⟨v, w', ⟨x, H', hRx, τ, hlf, hx⟩, hst⟩ := does_step (b := b) (rest := rest) (k := k2) (cs := cs) (R := fun v w' => ∃ x H', R x H' ∧ Yields σ s.zh s.zr w x H' v w') ho (hR.wants hw) hd (.inr (.inr (.inr ⟨g, fn, tmps, aso, bd, hrun.trans h2, h3⟩)))
        have h4 := h x H' hRx
        simp only [afterCall, ho] at h4
        obtain ⟨υ, a2, w2, c2, q2, s2, r2, l2, z2⟩ := h4 b cs τ _ w' hb (hl.up hlf.le) (hR.put hlf hx)
        exact ⟨υ, a2, w2, c2, q2, Steps.trans hst s2, r2, hlf.trans l2, z2⟩
      · cases h1
    · cases h1
  · cases h1
/-- A slot's value, said otherwise. -/
theorem Reach.know (d : Tmp) (y : V) (hy : ∀ σ v, (c.2.zs.get d).holds σ v → y.holds σ v) (h : Reach P gl fz oz (knowS d y c) Q) : Reach P gl fz oz c Q :=
  Reach.turn (s' := { c.2 with zs := c.2.zs.put d y }) (fun σ a w hR => by
    refine ⟨⟨hR.glob, hR.defers, by rw [Sl.put_n]; exact hR.size, fun t => ?_, hR.mem, hR.ro⟩, Left.refl _ hR.mem, rfl⟩
    by_cases hd : d < c.2.zs.n
    · by_cases e : d = t
      · subst e; rw [Sl.get_same hd]; exact hy _ _ (hR.slots d)
      · rw [Sl.get_ne e]; exact hR.slots t
    · rw [Sl.put_ge hd]; exact hR.slots t) h
theorem Reach.bool (d : Tmp) {t : Bool} (b : Bool) (hb : t = b) (e : c.2.zs.get d = .f (.one (.b (.sym (.bool t))))) (h : Reach P gl fz oz (knowS d (lv (.bool b)) c) Q) : Reach P gl fz oz c Q :=
  Reach.know d _ (fun σ v hv => by rw [e] at hv; rw [← hb]; exact hv) h
theorem Reach.int (d : Tmp) {n : Int} (m : Int) (hm : n = m) (e : c.2.zs.get d = .f (.one (.b (.sym (.int .i64 n))))) (h : Reach P gl fz oz (knowS d (.f (.one (.b (.sym (.int .i64 m))))) c) Q) : Reach P gl fz oz c Q :=
  Reach.know d _ (fun σ v hv => by rw [e] at hv; rw [← hm]; exact hv) h
theorem Reach.lit (d : Tmp) {u : Value} (e : c.2.zs.get d = lv u) (h : Reach P gl fz oz (knowS d (.f (.one (.b (.sym u)))) c) Q) : Reach P gl fz oz c Q :=
  Reach.know d _ (fun σ v hv => by rw [e] at hv; exact hv) h
theorem keepT_get {s : Sl} : ∀ {l : List Nat} {t : Nat}, (keepT s l).get (path t) = if t ∈ l then s.get t else .un
  | [], t => by rw [keepT, Tr.get_e]; simp
  | i :: l, t => by
    rw [keepT, Tr.get_put, keepT_get]
    by_cases e : t = i
    · subst e; simp
    · rw [if_neg (fun h => e (path_inj h))]; simp [e]
/-- Slots are forgotten. -/
theorem Reach.keep (l : List Nat) (h : Reach P gl fz oz (keepS l c) Q) : Reach P gl fz oz c Q :=
  Reach.turn (s' := { c.2 with zs := ⟨c.2.zs.n, keepT c.2.zs l⟩ }) (fun σ a w hR => by
    refine ⟨⟨hR.glob, hR.defers, hR.size, fun t => ?_, hR.mem, hR.ro⟩, Left.refl _ hR.mem, rfl⟩
    show ((keepT c.2.zs l).get (path t)).holds σ _
    rw [keepT_get]
    split
    · exact hR.slots t
    · trivial) h
/-- Memory, said otherwise: a block known in another way, or forgotten. -/
theorem HRep.swap {k : Nat} {b b' : Blk} (hm : HRep σ H w) (hk : H[k]? = some b) (hb : b.holds σ k w → b'.holds σ k w) (hl : b'.live = true → b.live = true) : HRep σ (H.set k b') w := by
  have hlv : ∀ j, live (H.set k b') j → live H j := fun j ⟨c, hc, hcl⟩ => by
    by_cases e : k = j
    · subst e
      rw [List.getElem?_set_self (List.getElem?_eq_some_iff.1 hk).1] at hc
      injection hc with hc
      subst hc
      exact ⟨b, hk, hl hcl⟩
    · rw [List.getElem?_set_ne e] at hc
      exact ⟨c, hc, hcl⟩
  refine ⟨fun j c hc => ?_, fun j j' g n n' h1 h2 => hm.inj j j' g n n' (hlv j h1) (hlv j' h2), fun j g n h1 => hm.lt j g n (hlv j h1), fun j y e => by rw [List.length_set]; exact hm.dom j y e⟩
  by_cases e : k = j
  · subst e
    rw [List.getElem?_set_self (List.getElem?_eq_some_iff.1 hk).1] at hc
    injection hc with hc
    subst hc
    exact hb (hm.blk k b hk)
  · rw [List.getElem?_set_ne e] at hc
    exact hm.blk j c hc
theorem Reach.block {k : Nat} {b b' : Blk} (hro : c.2.zr ≤ k) (hk : c.2.zh[k]? = some b) (hb : ∀ σ w, b.holds σ k w → b'.holds σ k w) (hl : b'.live = true → b.live = true) (h : Reach P gl fz oz (heapS (c.2.zh.set k b') c) Q) : Reach P gl fz oz c Q :=
  Reach.turn (s' := { c.2 with zh := c.2.zh.set k b' }) (fun σ a w hR => by
    have hm : HRep σ (c.2.zh.set k b') w := hR.mem.swap hk (hb σ w) hl
    refine ⟨⟨hR.glob, hR.defers, hR.size, hR.slots, hm, by rw [List.length_set]; exact hR.ro⟩, ⟨Env.le_refl _, hm, Base.refl _ _, fun g ⟨j, n, h1, ⟨d, h2, h2'⟩, h3⟩ => .inl ⟨j, n, h1, ?_, h3⟩, by rw [List.length_set]; exact Nat.le_refl _, fun j h1 h2 => by rw [List.getElem?_set_ne (by omega)], fun _ _ e => .inl e⟩, rfl⟩
    by_cases e : k = j
    · subst e
      rw [List.getElem?_set_self (List.getElem?_eq_some_iff.1 hk).1] at h2
      injection h2 with h2
      subst h2
      exact ⟨b, hk, hl h2'⟩
    · rw [List.getElem?_set_ne e] at h2
      exact ⟨d, h2, h2'⟩) h
end

/-- A value without names. -/
def plainB : B → Bool
  | .lit _ | .sym _ => true
  | _ => false
def plainC : C → Bool
  | .b x => plainB x
  | .fn _ a c => (a.all fun p => p.2.all plainB) && (c.all fun p => p.2.all plainB)
def plainF : F → Bool
  | .one c => plainC c
  | .agg l => l.all plainC
def plainV : V → Bool
  | .f x => plainF x
  | .tup l => l.all plainF
  | .un => true
section
variable {σ τ : Env}
theorem plainB_any : ∀ {x : B} {v : Value}, plainB x = true → x.holds σ v → x.holds τ v
  | .lit _, _, _, k | .sym _, _, _, k => k
theorem plainBs_any : ∀ {l : List B} {vs : List Value}, l.all plainB = true → holdsB σ l vs → holdsB τ l vs
  | [], _, _, k => k
  | _ :: _, _, hl, ⟨v, r, e, k, k'⟩ => by
    rw [List.all_cons, Bool.and_eq_true] at hl
    exact ⟨v, r, e, plainB_any hl.1 k, plainBs_any hl.2 k'⟩
theorem plainCaps_any : ∀ {l : List (Bool × List B)} {vs : List Value}, (l.all fun p => p.2.all plainB) = true → capsHold σ l vs → capsHold τ l vs
  | [], _, _, k => k
  | (b, m) :: _, _, hl, ⟨v, r, e, k, k'⟩ => by
    rw [List.all_cons, Bool.and_eq_true] at hl
    refine ⟨v, r, e, ?_, plainCaps_any hl.2 k'⟩
    cases b with
    | true => obtain ⟨cs, e, k⟩ := k; exact ⟨cs, e, plainBs_any hl.1 k⟩
    | false => exact plainBs_any (l := m) hl.1 k
theorem plainC_any : ∀ {x : C} {v : Value}, plainC x = true → x.holds σ v → x.holds τ v
  | .b _, _, hl, k => plainB_any hl k
  | .fn .., _, hl, ⟨xs, ys, e, k, k'⟩ => by
    simp only [plainC, Bool.and_eq_true] at hl
    exact ⟨xs, ys, e, plainCaps_any hl.1 k, plainCaps_any hl.2 k'⟩
theorem plainCs_any : ∀ {l : List C} {vs : List Value}, l.all plainC = true → holdsC σ l vs → holdsC τ l vs
  | [], _, _, k => k
  | _ :: _, _, hl, ⟨v, r, e, k, k'⟩ => by
    rw [List.all_cons, Bool.and_eq_true] at hl
    exact ⟨v, r, e, plainC_any hl.1 k, plainCs_any hl.2 k'⟩
theorem plainF_any : ∀ {x : F} {v : Value}, plainF x = true → x.holds σ v → x.holds τ v
  | .one _, _, hl, k => plainC_any hl k
  | .agg _, _, hl, ⟨cs, e, k⟩ => ⟨cs, e, plainCs_any hl k⟩
theorem plainFs_any : ∀ {l : List F} {vs : List Value}, l.all plainF = true → holdsF σ l vs → holdsF τ l vs
  | [], _, _, k => k
  | _ :: _, _, hl, ⟨v, r, e, k, k'⟩ => by
    rw [List.all_cons, Bool.and_eq_true] at hl
    exact ⟨v, r, e, plainF_any hl.1 k, plainFs_any hl.2 k'⟩
theorem plainV_any : ∀ {x : V} {v : Value}, plainV x = true → x.holds σ v → x.holds τ v
  | .f _, _, hl, k => plainF_any hl k
  | .tup _, _, hl, ⟨vs, e, k⟩ => ⟨vs, e, plainFs_any hl k⟩
  | .un, _, _, _ => trivial
theorem plainVs_any : ∀ {l : List V} {vs : List Value}, l.all plainV = true → holdsV σ l vs → holdsV τ l vs
  | [], _, _, k => k
  | _ :: _, _, hl, ⟨v, r, e, k, k'⟩ => by
    rw [List.all_cons, Bool.and_eq_true] at hl
    exact ⟨v, r, e, plainV_any hl.1 k, plainVs_any hl.2 k'⟩
end
/-- How a function's frame begins. -/
def bodyOf (P : Program) (f : FuncId) : Code := match P.funcs[f]? with | some fn => fn.body.getD .skip | none => .skip
def ntOf (P : Program) (f : FuncId) : Nat := match P.funcs[f]? with | some fn => fn.ntmps | none => 0
noncomputable def startS (P : Program) (f : FuncId) (args : List V) (H : Hp) (ro : Nat) : Cf := ([.code (bodyOf P f)], ⟨argsS (ntOf P f) args, H, ro, []⟩)
def hasB (P : Program) (f : FuncId) (n : Nat) : Bool := match P.funcs[f]? with | some fn => fn.body.isSome && Nat.ble n fn.ntmps | none => false
/-- What it yields at its end. -/
noncomputable def endF (P : Program) (f : FuncId) (c : Cf) : Option (V × Hp) := match P.funcs[f]? with
  | some fn => match c.1 with
    | [] => leaveZ P fn c.2
    | .code .ret :: _ => leaveZ P fn c.2
    | _ => none
  | none => none
def Ends (P : Program) (f : FuncId) (R : V → Hp → Prop) (c : Cf) : Prop := ∃ x H', endF P f c = some (x, H') ∧ R x H'
/-- How a round begins, and ends. -/
noncomputable def startR (H : Hp) (k : Nat) (args : List V) (ro : Nat) : Option (FuncId × Cf) := match H[k]? with
  | some (.loop _ _ fn tmps ps aso bd _) => if args.length = ps.size then some (fn, ([.code aso, .beginRound, .code bd], ⟨(ps.toList.zip args).foldl (fun l p => l.put p.1 p.2) tmps, H, ro, []⟩)) else none
  | _ => none
def endR (k : Nat) (c : Cf) : Option (V × Hp) := match c.1 with
  | [] => endRoundZ k none c.2
  | .code .ret :: _ => endRoundZ k (some .ret) c.2
  | .code (.exit id) :: r => match exitTo id r with | none => endRoundZ k (some (.exit id)) c.2 | some _ => none
  | _ => none
def EndsR (k : Nat) (R : V → Hp → Prop) (c : Cf) : Prop := ∃ x H', endR k c = some (x, H') ∧ R x H'
/-- The call of a loop over a function. -/
noncomputable def rangeS (gl : List Nat) (fz : FuncId) (oz : Option Nat) (c : Cf) : Option (FuncId × List V × Sz × Nat × List Item) := match c with
  | (.code (.rangeFunc g ps aso bd) :: k, s) => match enterZ fz oz ps aso bd s with
    | some (s1, l) => match fnOfZ (.f (.one (.b (.yld l)))) (evZ gl s.zs g) with
      | some (f, args) => some (f, args, s1, l, k)
      | none => none
    | none => none
  | _ => none
/-- A call that leaves memory alone, of values without names. -/
def PureAt (P : Program) (f : FuncId) (args : List V) (R : V → Prop) : Prop := ∀ (w : World) (vs : List Value), holdsV (fun _ => none) args vs →
  (∀ (args : Array Value) (w : World), (callFunc f args).run P w = .ok (.enter f args) w) ∧ Calls P f vs.toArray w fun e w' => ∃ v, e = .returned v ∧ Below w.heap.size w w' ∧ ∃ x, R x ∧ x.holds (fun _ => none) v

/-- Calls of values without names whose results are known. -/
abbrev PureFn := FuncId → List V → Option V
def pureCall (tab : PureFn) : CallFn := fun t args H _ => match t with
  | .fn f => match args.all plainV, tab f args with | true, some x => some (x, H) | _, _ => none
  | .yl _ => none
def PureOk (P : Program) (tab : PureFn) : Prop := ∀ f args x, tab f args = some x → PureAt P f args (· = x)
section
variable {P : Program} {gl : List Nat} {imp : FuncId → Bool} {fz : FuncId} {oz : Option Nat} {c : Cf} {Q : Cf → Prop} {R : V → Hp → Prop} {σ τ : Env} {H H' : Hp} {w w' : World} {ro : Nat} {x : V}
theorem Reach.fin {f : FuncId} (x : V) (H' : Hp) (h : endF P f c = some (x, H')) (hR : R x H') : Reach P gl fz oz c (Ends P f R) := .done ⟨x, H', h, hR⟩
theorem Reach.finV {f : FuncId} (x : V) (h : (endF P f c).map Prod.fst = some x) (hR : ∀ H', R x H') : Reach P gl fz oz c (Ends P f R) := by
  rw [Option.map_eq_some_iff] at h
  obtain ⟨⟨y, H'⟩, h1, h2⟩ := h
  simp only at h2
  subst h2
  exact .done ⟨y, H', h1, hR H'⟩
theorem Reach.finR {k : Nat} (x : V) (H' : Hp) (h : endR k c = some (x, H')) (hR : R x H') : Reach P gl fz oz c (EndsR k R) := .done ⟨x, H', h, hR⟩
theorem call_of_reach (hN : EntersB P = true) {f : FuncId} {args : List V} (hf : hasB P f args.length = true) (h : Reach P gl f none (startS P f args H ro) (Ends P f R)) : CallAt P gl (.fn f) args H ro R := by
  intro σ w vs hro hm hgl ha
  unfold hasB at hf
  split at hf
  · rename_i fn hfn
    rw [Bool.and_eq_true] at hf
    obtain ⟨c, hb⟩ := Option.isSome_iff_exists.1 hf.1
    have hble := Nat.le_of_ble_eq_true hf.2
    refine ⟨fun args w => enters_of hN hfn hb args w, fun cs => ?_⟩
    let b : Frame := { (default : Frame) with fn := f, kind := .normal, roundOf := none }
    have henter : Frame.enter P f vs.toArray .normal = b.atR { tmps := (vs ++ List.replicate (fn.ntmps - vs.length) undef).toArray, defers := [] } [.code c] := by
      simp [Frame.enter, Frame.atR, hfn, hb, b]
    have hvals : holdsS σ (argsS fn.ntmps args) (vs ++ List.replicate (fn.ntmps - vs.length) undef).toArray := argsS_holds ha hble
    have hst : startS P f args H ro = ([.code c], ⟨argsS fn.ntmps args, H, ro, []⟩) := by
      unfold startS bodyOf ntOf
      simp only [hfn, hb, Option.getD_some]
    rw [hst] at h
    obtain ⟨τ, a', w1, c', ⟨x, H', he, hRx⟩, st, hR, hl, hz⟩ := h b cs σ { tmps := (vs ++ List.replicate (fn.ntmps - vs.length) undef).toArray, defers := [] } w rfl rfl
      ⟨hgl, ⟨[], rfl, rfl, fun i k hk => by simp at hk⟩, hvals.1, slots_of hvals, hm, hro⟩
    rw [← henter] at st
    unfold endF at he
    simp only [hfn] at he
    have fin : leaveZ P fn c'.2 = some (x, H') ∧ Steps P (lone (b.atR a' c'.1) cs w1) (lone { b.atR a' c'.1 with mode := .returning } cs w1) := by
      split at he
      · rename_i e
        exact ⟨he, by rw [e]; exact Steps.one (stepR_end rfl)⟩
      · rename_i e
        exact ⟨he, by rw [e]; exact Steps.one (stepR_ret rfl)⟩
      · cases he
    obtain ⟨w2, fr, v, st2, hfn2, hleave, hl2, hx2⟩ := leave_ok (b := b) (cs := cs) (todo := c'.1) rfl hfn hR fin.1
    have hz : c'.2.zr = ro := hz
    rw [hz] at hl2
    exact ⟨.returned v, w2, fr, ⟨v, rfl, x, H', hRx, τ, hl.trans hl2, hx2⟩, Steps.trans st (Steps.trans fin.2 st2), hfn2, hleave⟩
  · cases hf
theorem yield_of_reach {k : Nat} {args : List V} {fn : FuncId} {c0 : Cf} (hs : startR H k args ro = some (fn, c0)) (h : Reach P gl fn (some k) c0 (EndsR k R)) : CallAt P gl (.yl k) args H ro R := by
  intro σ w vs hro hm hgl ha
  unfold startR at hs
  split at hs
  · rename_i st0 pd0 fn' tmps ps aso bd d hk
    split at hs
    · rename_i hlen
      simp only [Option.some.injEq, Prod.mk.injEq] at hs
      obtain ⟨rfl, rfl⟩ := hs
      obtain ⟨g, n, D, m, us, e1, e2, e3, e4⟩ := hm.blk _ _ hk
      have hl := lenV ha
      refine ⟨g, n, e1, _, _, _, _, run_yield e4 (by simp [hl, hlen]), fun c cs => ?_⟩
      let b : Frame := { (default : Frame) with fn := fn', kind := .normal, roundOf := some g }
      have hT : ((ps.zip vs.toArray).foldl (fun tmps (t, a) => tmps.setIfInBounds t a) us) = ((ps.toList.zip vs).foldl (fun T p => T.setIfInBounds p.1 p.2) us) := by
        rw [← Array.foldl_toList, Array.toList_zip]
      have hb0 : Frame.round g fn' ((ps.zip vs.toArray).foldl (fun tmps (t, a) => tmps.setIfInBounds t a) us) aso bd .normal = b.atR { tmps := ((ps.toList.zip vs).foldl (fun T p => T.setIfInBounds p.1 p.2) us), defers := [] } [.code aso, .beginRound, .code bd] := by
        rw [hT]; rfl
      have hvals : holdsS σ ((ps.toList.zip args).foldl (fun l p => l.put p.1 p.2) tmps) ((ps.toList.zip vs).foldl (fun T p => T.setIfInBounds p.1 p.2) us) := fold_ok ha e3
      obtain ⟨τ, a', w1, c', ⟨x, H', he, hRx⟩, st, hR, hlf, hz⟩ := h b (c :: cs) σ { tmps := ((ps.toList.zip vs).foldl (fun T p => T.setIfInBounds p.1 p.2) us), defers := [] } w rfl ⟨g, n, e1, rfl⟩
        ⟨hgl, ⟨[], rfl, rfl, fun i k hk => by simp at hk⟩, hvals.1, slots_of hvals, hm, hro⟩
      rw [← hb0] at st
      have hz : c'.2.zr = ro := hz
      have fin : ∃ j, EndsIn j c'.1 ∧ endRoundZ k j c'.2 = some (x, H') := by
        unfold endR at he
        split at he
        · rename_i e; exact ⟨none, e, he⟩
        · rename_i e; exact ⟨some .ret, ⟨_, e⟩, he⟩
        · rename_i e
          split at he
          · rename_i hx; exact ⟨some (.exit _), ⟨_, e, hx⟩, he⟩
          · cases he
        · cases he
      obtain ⟨j, hend, he⟩ := fin
      unfold endRoundZ at he
      split at he
      · rename_i st1 pd1 fn1 tmps1 ps1 as1 bd1 d1 hk1
        split at he
        · rename_i hro'
          simp only [Option.some.injEq, Prod.mk.injEq] at he
          obtain ⟨rfl, rfl⟩ := he
          obtain ⟨g', n', D', m', us', f1, f2, f3, f4⟩ := hR.mem.blk _ _ hk1
          have hg := hlf.le _ _ e1
          rw [hg] at f1
          simp only [Option.some.injEq, Prod.mk.injEq] at f1
          obtain ⟨rfl, rfl⟩ := f1
          have ht := putObj_turned (o := .loop { state := if j.isNone then .ready else .done, pending := j, fn := fn1, tmps := us', params := ps1, assign := as1, body := bd1, defers := D' }) f4
          have l2 : Left τ c'.2.zh c'.2.zr w1 (c'.2.zh.set k (.loop (if j.isNone then .ready else .done) j fn1 tmps1 ps1 as1 bd1 d1)) τ _ := Left.turn hR.mem hk1 rfl hro' hg ht ⟨g, _, D', m', us', hg, f2, f3, ht.at_⟩
          refine ⟨.bool j.isNone, _, ⟨_, _, hRx, τ, hlf.trans (hz ▸ l2), ⟨rfl, rfl⟩⟩, Steps.trans st (Steps.one ?_)⟩
          obtain ⟨ct, cz⟩ := c'
          match j, hend with
          | none, hend => rw [show ct = [] from hend]; exact stepR_round_end rfl rfl (run_endRound none f4)
          | some .ret, ⟨k, hend⟩ => simp only at hend; rw [hend]; exact stepR_round_ret rfl rfl (run_endRound (some .ret) f4)
          | some (.exit id), ⟨k, hend, hx⟩ => simp only at hend; rw [hend]; exact stepR_round_exit rfl rfl hx (run_endRound (some (.exit id)) f4)
        · cases he
      · cases he
    · cases hs
  · cases hs
/-- A loop over a function whose contract is known. -/
theorem Reach.range {f : FuncId} {args : List V} {s1 : Sz} {l : Nat} {k : List Item} (h1 : rangeS gl fz oz c = some (f, args, s1, l, k)) (hc : CallAt P gl (.fn f) args s1.zh s1.zr R)
    (h : ∀ x H', R x H' → ∃ pd s2, overZ l { s1 with zh := H' } = some (pd, s2) ∧ Reach P gl fz oz ((pd.map Item.code).toList ++ k, s2) Q) : Reach P gl fz oz c Q := by
  obtain ⟨t, s⟩ := c
  unfold rangeS at h1
  split at h1
  · rename_i g ps aso bd k' s' heq
    simp only [Prod.mk.injEq] at heq
    obtain ⟨rfl, rfl⟩ := heq
    split at h1
    · rename_i s1' l' he
      split at h1
      · rename_i f' args' hf
        simp only [Option.some.injEq, Prod.mk.injEq] at h1
        obtain ⟨rfl, rfl, rfl, rfl, rfl⟩ := h1
        intro b cs σ a w hb hl hR
        obtain ⟨σ1, w1, G, n, mark, hen, hG, r1, l1, z1⟩ := enter_ok hb hl hR he
        obtain ⟨vs, d, hargs, hres, hinv⟩ := fnOfZ_ok (P := P) (w := w1) (a := { a with defers := mark ++ a.defers }) (g := g) hG (V.up l1.le (show (evZ gl s.zs g).holds σ (Act.eval { a with defers := mark ++ a.defers } g) from evZ_holds hR.glob (a := { a with defers := mark ++ a.defers }) hR.slots g)) hf
        obtain ⟨c1, c2⟩ := hc σ1 w1 vs r1.ro r1.mem r1.glob hargs
        have hst := stepR_rangeFunc (b := b) (a := a) (k := k') (cs := cs) hen hres (hinv.trans (c1 _ _))
        obtain ⟨e, w2, fr, ⟨v, hv, x, H', hRx, σ2, l2, _⟩, hsteps, _, hleave⟩ := c2 (b.atR { a with defers := mark ++ a.defers } (.inRangeFunc G :: k') :: cs)
        subst hv
        obtain ⟨pd, s2, ho, hrest⟩ := h x H' hRx
        have r2 := r1.left l2
        obtain ⟨w3, hend, r3, l3, z3⟩ := over_ok r2 (l2.le _ _ hG) ho
        obtain ⟨υ, a4, w4, c4, q4, s4, r4, l4, z4⟩ := hrest b cs σ2 _ w3 hb (hl.up (Env.le_trans l1.le l2.le)) r3
        refine ⟨υ, a4, w4, c4, q4, Steps.head hst (Steps.trans hsteps (Steps.head (step_leave_returned hleave) ?_)), r4, (l1.trans (z1 ▸ l2)).trans ((z1 ▸ l3).trans ((z3.trans z1) ▸ l4)), z4.trans (z3.trans z1)⟩
        rw [finish_atR_inRangeFunc]
        exact Steps.head (stepR_endRangeFunc hend) s4
      · cases h1
    · cases h1
  · cases h1
/-- A call that leaves memory alone, and whose result bears no names: what it made is forgotten. -/
theorem Reach.ask {f : FuncId} {args : List V} {R : V → Prop} (h1 : nextCall gl c = some (.fn f, args)) (hc : CallAt P gl (.fn f) args c.2.zh c.2.zh.length (fun x _ => R x ∧ plainV x = true)) (h : ∀ x, R x → Reach P gl fz oz (afterCall c x c.2.zh) Q) : Reach P gl fz oz c Q := by
  refine Reach.call (R := fun x H' => R x ∧ H' = c.2.zh) h1 ?_ fun x H' ⟨hx, e⟩ => by rw [e]; exact h x hx
  intro σ w vs hro hm hgl ha
  obtain ⟨h2, h3⟩ := hc σ w vs (Nat.le_refl _) hm hgl ha
  refine ⟨h2, h3.mono ?_⟩
  rintro e w' ⟨v, e1, x, H', ⟨hx, hp⟩, τ, hl, hxv⟩
  exact ⟨v, e1, x, _, ⟨hx, rfl⟩, σ, Left.forget hm hl, plainV_any hp hxv⟩
theorem Reach.ask1 {f : FuncId} {args : List V} {y : V} (h1 : nextCall gl c = some (.fn f, args)) (hc : CallAt P gl (.fn f) args c.2.zh c.2.zh.length (fun x _ => x = y ∧ plainV x = true)) (h : Reach P gl fz oz (afterCall c y c.2.zh) Q) : Reach P gl fz oz c Q :=
  Reach.ask h1 hc fun x e => by rw [e]; exact h
theorem pure_of_call {f : FuncId} {args : List V} {R : V → Prop} (h : CallAt P [] (.fn f) args [] 0 (fun x _ => R x ∧ plainV x = true)) : PureAt P f args R := by
  intro w vs ha
  obtain ⟨h1, h2⟩ := h (fun _ => none) w vs (Nat.le_refl _) ⟨fun k b h => (by simp at h), fun k k' g n n' _ _ e => (by cases e), fun k g n _ e => (by cases e), fun k x e => (by cases e)⟩ (fun k g e => (by simp at e)) ha
  refine ⟨h1, h2.mono ?_⟩
  rintro e w' ⟨v, e1, x, H', ⟨hx, hp⟩, τ, hl, hxv⟩
  exact ⟨v, e1, (hl.base.mono fun g ⟨k, n, _, ⟨b, h, _⟩, _⟩ => by simp at h).below, x, hx, plainV_any hp hxv⟩
theorem PureAt.at {f : FuncId} {args : List V} {R : V → Prop} (h : PureAt P f args R) (hp : args.all plainV = true) : CallAt P gl (.fn f) args H ro (fun x H' => R x ∧ H' = H) := by
  intro σ w vs hro hm hgl ha
  obtain ⟨h1, h2⟩ := h w vs (plainVs_any hp ha)
  refine ⟨h1, h2.mono ?_⟩
  rintro e w' ⟨v, e1, hb, x, hx, hxv⟩
  exact ⟨v, e1, x, H, ⟨hx, rfl⟩, σ, Left.below ro hm hb, V.up (fun k y e => by cases e) hxv⟩
theorem pureCall_ok {tab : PureFn} (h : PureOk P tab) : CallOk P gl (pureCall tab) := by
  intro t args H ro x H' hc σ w vs hro hm hgl ha
  cases t with
  | yl k => cases hc
  | fn f =>
    simp only [pureCall] at hc
    split at hc
    · rename_i y hp ht
      simp only [Option.some.injEq, Prod.mk.injEq] at hc
      obtain ⟨rfl, rfl⟩ := hc
      obtain ⟨h1, h2⟩ := PureAt.at (gl := gl) (H := H) (ro := ro) (h f args y ht) hp σ w vs hro hm hgl ha
      refine ⟨h1, h2.mono ?_⟩
      rintro e w' ⟨v, e1, z, G, ⟨hz, hG⟩, hy⟩
      exact ⟨v, e1, by rw [hz, hG] at hy; exact hy⟩
    · cases hc
theorem PureAt.of {f : FuncId} {args args' : List V} {R : V → Prop} (h : PureAt P f args R) (ha : ∀ vs, holdsV (fun _ => none) args' vs → holdsV (fun _ => none) args vs) : PureAt P f args' R := fun w vs hv => h w vs (ha vs hv)
/-- A call of values without names. -/
theorem Reach.pure {f : FuncId} {args : List V} {R : V → Prop} (h1 : nextCall gl c = some (.fn f, args)) (hp : args.all plainV = true) (hc : PureAt P f args R) (h : ∀ x, R x → Reach P gl fz oz (afterCall c x c.2.zh) Q) : Reach P gl fz oz c Q :=
  Reach.call h1 (hc.at hp) fun x H' ⟨hx, e⟩ => by rw [e]; exact h x hx
/-- The same, where there is one result. -/
theorem Reach.pure1 {f : FuncId} {args : List V} {y : V} (h1 : nextCall gl c = some (.fn f, args)) (hp : args.all plainV = true) (hc : PureAt P f args (· = y)) (h : Reach P gl fz oz (afterCall c y c.2.zh) Q) : Reach P gl fz oz c Q :=
  Reach.pure h1 hp hc fun x e => by rw [e]; exact h
end

def atLoop : List Item → Bool
  | .code (.loop _) :: _ => true
  | .inLoop _ :: _ => true
  | _ => false
/-- As far as the head of a loop. -/
noncomputable def runL (P : Program) (gl : List Nat) (imp : FuncId → Bool) (call : CallFn) (fz : FuncId) (oz : Option Nat) (n : Nat) : Cf → Cf := Nat.rec (motive := fun _ => Cf → Cf) (fun c => c) (fun _ ih c => match c with | (t, s) => match atLoop t with | true => (t, s) | false => match stepS P gl imp call fz oz t s with | .more t' s' => ih (t', s') | .stop _ => (t, s) | .bad => (t, s)) n
def intoLoop (c : Cf) : Cf := match c with
  | (.code (.loop b) :: k, s) => (.code b :: .inLoop b :: k, s)
  | (.inLoop b :: k, s) => (.code b :: .inLoop b :: k, s)
  | c => c
def symB1 : B → B
  | .lit v => .sym v
  | x => x
def symC1 : C → C
  | .b x => .b (symB1 x)
  | x => x
def symF1 : F → F
  | .one c => .one (symC1 c)
  | .agg l => .agg (l.map symC1)
def symV1 : V → V
  | .f x => .f (symF1 x)
  | .tup l => .tup (l.map symF1)
  | .un => .un
/-- Tables of results by names. -/
def TabOk (P : Program) (tab : PureFn) : Prop := ∀ f args x, tab f args = some x → PureAt P f args (· = x)
def tab0 : PureFn := fun _ _ => none
def orT (a b : PureFn) : PureFn := fun f args => match a f args with | some x => some x | none => b f args
def tab1 (f0 : FuncId) (g : Int → V) : PureFn := fun f args => match Nat.beq f f0 with
  | true => (match args with | [.f (.one (.b (.sym (.int .i64 a))))] => some (g a) | _ => none)
  | false => none
def tab2 (f0 : FuncId) (g : Int → Int → V) : PureFn := fun f args => match Nat.beq f f0 with
  | true => (match args with | [.f (.one (.b (.sym (.int .i64 a)))), .f (.one (.b (.sym (.int .i64 b))))] => some (g a b) | _ => none)
  | false => none
def tab3 (f0 : FuncId) (g : Int → Int → Int → V) : PureFn := fun f args => match Nat.beq f f0 with
  | true => (match args with | [.f (.one (.b (.sym (.int .i64 a)))), .f (.one (.b (.sym (.int .i64 b)))), .f (.one (.b (.sym (.int .i64 c))))] => some (g a b c) | _ => none)
  | false => none
def tab4 (f0 : FuncId) (g : Int → Int → Int → Int → V) : PureFn := fun f args => match Nat.beq f f0 with
  | true => (match args with | [.f (.one (.b (.sym (.int .i64 a)))), .f (.one (.b (.sym (.int .i64 b)))), .f (.one (.b (.sym (.int .i64 c)))), .f (.one (.b (.sym (.int .i64 d))))] => some (g a b c d) | _ => none)
  | false => none
def tabA (f0 : FuncId) (g : Int → Int → V) : PureFn := fun f args => match Nat.beq f f0 with
  | true => (match args with | [.f (.agg [.b (.sym (.int .i64 a)), .b (.sym (.int .i64 b))])] => some (g a b) | _ => none)
  | false => none
def tabB (f0 : FuncId) (g : Int → Int → Int → V) : PureFn := fun f args => match Nat.beq f f0 with
  | true => (match args with | [.f (.agg [.b (.sym (.int .i64 a)), .b (.sym (.int .i64 b))]), .f (.one (.b (.sym (.int .i64 c))))] => some (g a b c) | _ => none)
  | false => none
def tabC (f0 : FuncId) (g : Int → Int → Int → Int → V) : PureFn := fun f args => match Nat.beq f f0 with
  | true => (match args with | [.f (.agg [.b (.sym (.int .i64 a)), .b (.sym (.int .i64 b))]), .f (.agg [.b (.sym (.int .i64 c)), .b (.sym (.int .i64 d))])] => some (g a b c d) | _ => none)
  | false => none
noncomputable def callX (P : Program) (gl : List Nat) (imp : FuncId → Bool) (tab : PureFn) : CallFn := fun t args H ro => match pureCall tab t args H ro with
  | some r => some r
  | none => match t with
    | .fn _ => callZ P (fun _ _ _ => none) (execQ P gl imp (fun _ _ _ => none) 100000) t args H ro
    | .yl _ => none
def trU (n : Nat) : Tr → Bool
  | .e => true
  | .n v l r => v.under n && trU n l && trU n r
/-- It bears no names from n on. -/
def underK (n : Nat) : Blk → Bool
  | .cells _ l | .row _ l | .ro _ l => l.all (C.under n)
  | .dead | .dfr | .iter .. => true
  | .loop _ _ _ tmps _ _ _ d => trU n tmps.t && decide (d < n)
section
variable {P : Program} {gl : List Nat} {imp : FuncId → Bool} {fz : FuncId} {oz : Option Nat} {c : Cf} {Q : Cf → Prop} {R : V → Hp → Prop} {σ τ : Env} {H H' : Hp} {w w' : World} {ro : Nat} {x : V} {cf : CallFn}
theorem Reach.cast {c' : Cf} (h : c = c') (hr : Reach P gl fz oz c' Q) : Reach P gl fz oz c Q := by rw [h]; exact hr
theorem Reach.runL (hmix : P.follows .mixedOrders = true) (hC : CallOk P gl cf) : ∀ (n : Nat) {c : Cf}, Reach P gl fz oz (runL P gl imp cf fz oz n c) Q → Reach P gl fz oz c Q
  | 0, _, h => h
  | n + 1, (t, s), h => by
    have h : Reach P gl fz oz (match atLoop t with | true => (t, s) | false => match stepS P gl imp cf fz oz t s with | .more t' s' => Zm.runL P gl imp cf fz oz n (t', s') | .stop _ => (t, s) | .bad => (t, s)) Q := h
    cases ha : atLoop t with
    | true => rw [ha] at h; exact h
    | false =>
      rw [ha] at h
      cases hs : stepS P gl imp cf fz oz t s with
      | more t' s' =>
        rw [hs] at h
        exact Reach.one (c1 := (t', s')) (fun b cs σ a w hb hl hR => stepS_ok hmix hC hs hb hl hR) (Reach.runL hmix hC n h)
      | stop j => rw [hs] at h; exact h
      | bad => rw [hs] at h; exact h
theorem Reach.into (h : Reach P gl fz oz (intoLoop c) Q) : Reach P gl fz oz c Q := by
  obtain ⟨t, s⟩ := c
  unfold intoLoop at h
  split at h
  · rename_i b k s' heq
    simp only [Prod.mk.injEq] at heq
    obtain ⟨rfl, rfl⟩ := heq
    exact Reach.one (c1 := (_, s)) (fun b cs σ a w hb hl hR => ⟨σ, a, w, Steps.one stepR_loop, hR, Left.refl _ hR.mem, rfl⟩) h
  · rename_i b k s' heq
    simp only [Prod.mk.injEq] at heq
    obtain ⟨rfl, rfl⟩ := heq
    exact Reach.one (c1 := (_, s)) (fun b cs σ a w hb hl hR => ⟨σ, a, w, Steps.one stepR_inLoop, hR, Left.refl _ hR.mem, rfl⟩) h
  · exact h
theorem symB1_holds {x : B} {v : Value} (h : x.holds σ v) : (symB1 x).holds σ v := by cases x <;> exact h
theorem symC1_holds {x : C} {v : Value} (h : x.holds σ v) : (symC1 x).holds σ v := by
  cases x with
  | b x => exact symB1_holds (x := x) h
  | fn f a c => exact h
theorem symCs_holds : ∀ {l : List C} {vs : List Value}, holdsC σ l vs → holdsC σ (l.map symC1) vs
  | [], _, h => h
  | _ :: _, _, ⟨v, r, e, h1, h2⟩ => ⟨v, r, e, symC1_holds h1, symCs_holds h2⟩
theorem symF1_holds {x : F} {v : Value} (h : x.holds σ v) : (symF1 x).holds σ v := by
  cases x with
  | one c => exact symC1_holds (x := c) h
  | agg l => obtain ⟨cs, e, h⟩ := h; exact ⟨cs, e, symCs_holds h⟩
theorem symFs_holds : ∀ {l : List F} {vs : List Value}, holdsF σ l vs → holdsF σ (l.map symF1) vs
  | [], _, h => h
  | _ :: _, _, ⟨v, r, e, h1, h2⟩ => ⟨v, r, e, symF1_holds h1, symFs_holds h2⟩
theorem symV1_holds {x : V} {v : Value} (h : x.holds σ v) : (symV1 x).holds σ v := by
  cases x with
  | f x => exact symF1_holds (x := x) h
  | tup l => obtain ⟨vs, e, h⟩ := h; exact ⟨vs, e, symFs_holds h⟩
  | un => trivial
theorem symVs_holds : ∀ {l : List V} {vs : List Value}, holdsV σ l vs → holdsV σ (l.map symV1) vs
  | [], _, h => h
  | _ :: _, _, ⟨v, r, e, h1, h2⟩ => ⟨v, r, e, symV1_holds h1, symVs_holds h2⟩
/-- A table of results by names. -/
theorem pureOk_of {tab : PureFn} (h : ∀ f args x, tab f args = some x → PureAt P f args (· = x)) : PureOk P (fun f args => tab f (args.map symV1)) := fun f args x ht => (h f _ x ht).of fun _ hv => symVs_holds hv
/-- A call that reads one block of values without names. -/
def plainK : Blk → Bool
  | .cells _ l | .row _ l | .ro _ l => l.all plainC
  | _ => false
theorem plainK_any {k k' : Nat} {b : Blk} (hp : plainK b = true) (he : σ k = τ k') (h : b.holds σ k w) : b.holds τ k' w := by
  cases b with
  | cells T l => obtain ⟨g, cs, h1, h2, h3⟩ := h; exact ⟨g, cs, by rw [← he]; exact h1, h2, plainCs_any hp h3⟩
  | row T l => obtain ⟨g, cs, js, h1, h2, h3⟩ := h; exact ⟨g, cs, js, by rw [← he]; exact h1, h2, plainCs_any hp h3⟩
  | ro T l => obtain ⟨g, cs, js, U, fr, h1, h2, h3⟩ := h; exact ⟨g, cs, js, U, fr, by rw [← he]; exact h1, h2, plainCs_any hp h3⟩
  | _ => cases hp
/-- Its arguments: the slice of the block, and others. -/
theorem CallAt.read {f : FuncId} {b : Blk} {k off n c : Nat} {l m : List V} {R : V → Prop} (h : CallAt P [] (.fn f) (l ++ .f (.one (.b (.slc 0 off n c))) :: m) [b] 1 (fun x _ => R x ∧ plainV x = true)) (hb : plainK b = true) (hl : l.all plainV = true) (hm' : m.all plainV = true) (hk : H[k]? = some b) :
    CallAt P gl (.fn f) (l ++ .f (.one (.b (.slc k off n c))) :: m) H ro (fun x H' => R x ∧ H' = H) := by
  intro σ w vs hro hm hgl ha
  have hbk := hm.blk k b hk
  have hlv : live H k := ⟨b, hk, by cases b <;> first | rfl | cases hb⟩
  let τ : Env := fun j => if j = 0 then σ k else none
  have hb0 : b.holds τ 0 w := plainK_any hb (by simp [τ]) hbk
  have ht : ∀ j x, τ j = some x → j = 0 ∧ σ k = some x := fun j x e => by
    by_cases hj : j = 0
    · subst hj; exact ⟨rfl, by simpa [τ] using e⟩
    · simp [τ, hj] at e
  have h1 : HRep τ [b] w := by
    refine ⟨fun j b' hj => ?_, fun j j' g n n' h1 h2 _ _ => ?_, fun j g n h1 e => ?_, fun j x e => by rw [(ht j x e).1]; simp⟩
    · cases j with
      | zero => simp only [List.getElem?_cons_zero, Option.some.injEq] at hj; subst hj; exact hb0
      | succ j => simp at hj
    · have := live_lt h1; have := live_lt h2; simp at *; omega
    · exact hm.lt k g n hlv (ht j _ e).2
  have split : ∀ {l : List V} {x : V} {m : List V} {vs : List Value}, holdsV σ (l ++ x :: m) vs → ∃ a v c, vs = a ++ v :: c ∧ holdsV σ l a ∧ x.holds σ v ∧ holdsV σ m c := fun {l} => by
    induction l with
    | nil => rintro x m vs ⟨v, r, e, h1, h2⟩; exact ⟨[], v, r, e, rfl, h1, h2⟩
    | cons y l ih =>
      rintro x m vs ⟨v, r, e, h1, h2⟩
      obtain ⟨a, u, c, e2, h3, h4, h5⟩ := ih h2
      exact ⟨v :: a, u, c, by rw [e, e2]; rfl, ⟨v, a, rfl, h1, h3⟩, h4, h5⟩
  obtain ⟨a, v, c', rfl, h3, ⟨g, z, e1, e2⟩, h5⟩ := split ha
  obtain ⟨h6, h7⟩ := h τ w (a ++ v :: c') (Nat.le_refl _) h1 (fun k g e => by simp at e) (appV (plainVs_any hl h3) ⟨v, c', rfl, ⟨g, z, by simpa [τ] using e1, e2⟩, plainVs_any hm' h5⟩)
  refine ⟨h6, h7.mono ?_⟩
  rintro e w' ⟨u, e1, x, G, ⟨hx, hp⟩, υ, hlf, hxv⟩
  have hbel : Below w.heap.size w w' := (hlf.base.mono fun g ⟨k, n, h1, h2, _⟩ => by have := live_lt h2; simp at this; omega).below
  exact ⟨u, e1, x, H, ⟨hx, rfl⟩, σ, Left.below ro hm hbel, plainV_any hp hxv⟩
/-- The call of a function that reads one slice. -/
theorem Reach.read {f : FuncId} {b : Blk} {off n c0 : Nat} {l m : List V} {R : V → Prop} (k : Nat) (hc : CallAt P [] (.fn f) (l ++ .f (.one (.b (.slc 0 off n c0))) :: m) [b] 1 (fun x _ => R x ∧ plainV x = true)) (h1 : nextCall gl c = some (.fn f, l ++ .f (.one (.b (.slc k off n c0))) :: m)) (hk : c.2.zh[k]? = some b)
    (hb : plainK b = true) (hl : l.all plainV = true) (hm : m.all plainV = true) (h : ∀ x, R x → Reach P gl fz oz (afterCall c x c.2.zh) Q) : Reach P gl fz oz c Q :=
  Reach.call h1 (CallAt.read hc hb hl hm hk) fun x H' ⟨hx, e⟩ => by rw [e]; exact h x hx
theorem Reach.read1 {f : FuncId} {b : Blk} {off n c0 : Nat} {l m : List V} {y : V} (k : Nat) (hc : CallAt P [] (.fn f) (l ++ .f (.one (.b (.slc 0 off n c0))) :: m) [b] 1 (fun x _ => x = y ∧ plainV x = true)) (h1 : nextCall gl c = some (.fn f, l ++ .f (.one (.b (.slc k off n c0))) :: m)) (hk : c.2.zh[k]? = some b)
    (hb : plainK b = true) (hl : l.all plainV = true) (hm : m.all plainV = true) (h : Reach P gl fz oz (afterCall c y c.2.zh) Q) : Reach P gl fz oz c Q :=
  Reach.read k hc h1 hk hb hl hm fun x e => by rw [e]; exact h
/-- A call in a memory that is written out. -/
theorem Reach.askH {f : FuncId} {args : List V} {y : V} {G : Hp} (hc : CallAt P gl (.fn f) args G G.length (fun x _ => x = y ∧ plainV x = true)) (h1 : nextCall gl c = some (.fn f, args)) (hG : c.2.zh = G) (h : Reach P gl fz oz (afterCall c y G) Q) : Reach P gl fz oz c Q := by
  subst hG
  exact Reach.ask1 h1 hc h
theorem Reach.unsym (d : Tmp) {u : Value} (e : c.2.zs.get d = .f (.one (.b (.sym u)))) (h : Reach P gl fz oz (knowS d (lv u) c) Q) : Reach P gl fz oz c Q :=
  Reach.know d _ (fun σ v hv => by rw [e] at hv; exact hv) h
/-- A number that was reckoned with, said otherwise, and by name. -/
theorem Reach.num (d : Tmp) {n : Int} (m : Int) (hm : n = m) (e : c.2.zs.get d = lv (.int .i64 n)) (h : Reach P gl fz oz (knowS d (.f (.one (.b (.sym (.int .i64 m))))) c) Q) : Reach P gl fz oz c Q :=
  Reach.know d _ (fun σ v hv => by rw [e] at hv; rw [← hm]; exact hv) h
theorem callX_ok (hmix : P.follows .mixedOrders = true) (hN : EntersB P = true) {tab : PureFn} (h : PureOk P tab) : CallOk P gl (callX P gl imp tab) := by
  intro t args H ro x H' hc
  unfold callX at hc
  split at hc
  · rename_i r hr
    rw [hc] at hr
    exact pureCall_ok h t args H ro x H' hr
  · split at hc
    all_goals first | (cases hc; done) | skip
    rw [execQ_eq] at hc
    exact runZ_ok hmix hN (fun f args H x h => by cases h) 100000 _ args H ro x H' hc
/-- A tree's values bear no names from n on. -/
theorem trU_get {n : Nat} : ∀ {t : Tr} {p : List Bool}, trU n t = true → (Tr.get p t).under n = true
  | .e, p, _ => by rw [Tr.get_e]; rfl
  | .n v l r, [], h => by
    simp only [trU, Bool.and_eq_true] at h
    exact h.1.1
  | .n v l r, false :: p, h => by
    simp only [trU, Bool.and_eq_true] at h
    exact trU_get (t := l) (p := p) h.1.2
  | .n v l r, true :: p, h => by
    simp only [trU, Bool.and_eq_true] at h
    exact trU_get (t := r) (p := p) h.2
theorem underK_ok {n : Nat} {b : Blk} (h : underK n b = true) : b.under n = true := by
  cases b with
  | loop st pd fn tmps ps aso bd d =>
    simp only [underK, Bool.and_eq_true, decide_eq_true_eq] at h
    simp only [Blk.under, Bool.and_eq_true, decide_eq_true_eq]
    exact ⟨fun t => trU_get h.1, h.2⟩
  | _ => exact h
/-- The last blocks are forgotten, names and all. -/
theorem Yields.cut {v : Value} {G : Hp} {n : Nat} (hm : HRep σ H w) (h : Yields σ H ro w x G v w') (hn : H.length ≤ n) (hg : n ≤ G.length) (hx : x.under n = true) (hu : (G.take n).all (underK n) = true) : Yields σ H ro w x (G.take n) v w' := by
  obtain ⟨τ, hl, hxv⟩ := h
  have hle : (G.take n).length = n := by rw [List.length_take]; omega
  have hat : ∀ {k : Nat} {b : Blk}, (G.take n)[k]? = some b → k < n ∧ G[k]? = some b := fun {k b} e => by
    have hk : k < n := by have := (List.getElem?_eq_some_iff.1 e).1; omega
    rw [List.getElem?_take_of_lt hk] at e
    exact ⟨hk, e⟩
  have hlv : ∀ k, live (G.take n) k → live G k ∧ k < n := fun k ⟨b, hb, hbl⟩ => ⟨⟨b, (hat hb).2, hbl⟩, (hat hb).1⟩
  have hcs : ∀ {k : Nat} {y}, (τ.cut n) k = some y → τ k = some y ∧ k < n := fun {k y} e => by
    unfold Env.cut at e
    split at e
    · rename_i hk; exact ⟨e, hk⟩
    · cases e
  refine ⟨τ.cut n, ⟨fun k y e => ?_, ⟨fun k b hb => ?_, fun k k' g m m' h1 h2 e1 e2 => hl.rep.inj k k' g m m' (hlv k h1).1 (hlv k' h2).1 (hcs e1).1 (hcs e2).1, fun k g m h1 e => hl.rep.lt k g m (hlv k h1).1 (hcs e).1, fun k y e => by rw [hle]; exact (hcs e).2⟩, hl.base, fun g ⟨k, m, h1, h2, h3⟩ => hl.own g ⟨k, m, h1, (hlv k h2).1, (hcs h3).1⟩, by rw [hle]; exact hn, fun k h1 h2 => by rw [List.getElem?_take_of_lt (by omega)]; exact hl.old k h1 h2, fun k y e => hl.new k y (hcs e).1⟩, V.cut hx hxv⟩
  · have hk : k < n := Nat.lt_of_lt_of_le (hm.dom k y e) hn
    exact (cut_of hk).trans (hl.le k y e)
  · obtain ⟨hk, hb'⟩ := hat hb
    have hub : b.under n = true := underK_ok (List.all_eq_true.1 hu b (List.mem_of_getElem? hb))
    exact Blk.cut hk hub (hl.rep.blk k b hb')
theorem tab0_ok : TabOk P tab0 := fun f args x h => by cases h
theorem orT_ok {a b : PureFn} (ha : TabOk P a) (hb : TabOk P b) : TabOk P (orT a b) := fun f args x h => by
  unfold orT at h
  split at h
  · rename_i y hy
    injection h with h
    exact ha f args x (by rw [hy, h])
  · exact hb f args x h
theorem tab1_ok {f0 : FuncId} {g : Int → V} (h : ∀ a, PureAt P f0 [.f (.one (.b (.sym (.int .i64 a))))] (· = g a)) : TabOk P (tab1 f0 g) := fun f args x ht => by
  unfold tab1 at ht
  split at ht
  · rename_i hf
    have hf := Nat.eq_of_beq_eq_true hf
    subst hf
    split at ht
    · injection ht with ht
      rw [← ht]; exact h _
    · cases ht
  · cases ht
theorem tab2_ok {f0 : FuncId} {g : Int → Int → V} (h : ∀ a b, PureAt P f0 [.f (.one (.b (.sym (.int .i64 a)))), .f (.one (.b (.sym (.int .i64 b))))] (· = g a b)) : TabOk P (tab2 f0 g) := fun f args x ht => by
  unfold tab2 at ht
  split at ht
  · rename_i hf
    have hf := Nat.eq_of_beq_eq_true hf
    subst hf
    split at ht
    · injection ht with ht
      rw [← ht]; exact h _ _
    · cases ht
  · cases ht
theorem tab3_ok {f0 : FuncId} {g : Int → Int → Int → V} (h : ∀ a b c, PureAt P f0 [.f (.one (.b (.sym (.int .i64 a)))), .f (.one (.b (.sym (.int .i64 b)))), .f (.one (.b (.sym (.int .i64 c))))] (· = g a b c)) : TabOk P (tab3 f0 g) := fun f args x ht => by
  unfold tab3 at ht
  split at ht
  · rename_i hf
    have hf := Nat.eq_of_beq_eq_true hf
    subst hf
    split at ht
    · injection ht with ht
      rw [← ht]; exact h _ _ _
    · cases ht
  · cases ht
theorem tab4_ok {f0 : FuncId} {g : Int → Int → Int → Int → V} (h : ∀ a b c d, PureAt P f0 [.f (.one (.b (.sym (.int .i64 a)))), .f (.one (.b (.sym (.int .i64 b)))), .f (.one (.b (.sym (.int .i64 c)))), .f (.one (.b (.sym (.int .i64 d))))] (· = g a b c d)) : TabOk P (tab4 f0 g) := fun f args x ht => by
  unfold tab4 at ht
  split at ht
  · rename_i hf
    have hf := Nat.eq_of_beq_eq_true hf
    subst hf
    split at ht
    · injection ht with ht
      rw [← ht]; exact h _ _ _ _
    · cases ht
  · cases ht
theorem tabA_ok {f0 : FuncId} {g : Int → Int → V} (h : ∀ a b, PureAt P f0 [.f (.agg [.b (.sym (.int .i64 a)), .b (.sym (.int .i64 b))])] (· = g a b)) : TabOk P (tabA f0 g) := fun f args x ht => by
  unfold tabA at ht
  split at ht
  · rename_i hf
    have hf := Nat.eq_of_beq_eq_true hf
    subst hf
    split at ht
    · injection ht with ht
      rw [← ht]; exact h _ _
    · cases ht
  · cases ht
theorem tabB_ok {f0 : FuncId} {g : Int → Int → Int → V} (h : ∀ a b c, PureAt P f0 [.f (.agg [.b (.sym (.int .i64 a)), .b (.sym (.int .i64 b))]), .f (.one (.b (.sym (.int .i64 c))))] (· = g a b c)) : TabOk P (tabB f0 g) := fun f args x ht => by
  unfold tabB at ht
  split at ht
  · rename_i hf
    have hf := Nat.eq_of_beq_eq_true hf
    subst hf
    split at ht
    · injection ht with ht
      rw [← ht]; exact h _ _ _
    · cases ht
  · cases ht
theorem tabC_ok {f0 : FuncId} {g : Int → Int → Int → Int → V} (h : ∀ a b c d, PureAt P f0 [.f (.agg [.b (.sym (.int .i64 a)), .b (.sym (.int .i64 b))]), .f (.agg [.b (.sym (.int .i64 c)), .b (.sym (.int .i64 d))])] (· = g a b c d)) : TabOk P (tabC f0 g) := fun f args x ht => by
  unfold tabC at ht
  split at ht
  · rename_i hf
    have hf := Nat.eq_of_beq_eq_true hf
    subst hf
    split at ht
    · injection ht with ht
      rw [← ht]; exact h _ _ _ _
    · cases ht
  · cases ht
/-- A round's end, as far as the first n blocks go. -/
theorem Reach.finC {k n : Nat} {y : V} {G : Hp} (h : (endR k c).map (fun r => (r.1, r.2.take n, Nat.ble n r.2.length)) = some (y, G, true)) : Reach P gl fz oz c (EndsR k (fun x H' => x = y ∧ H'.take n = G ∧ n ≤ H'.length)) := by
  rw [Option.map_eq_some_iff] at h
  obtain ⟨⟨x, H'⟩, h1, h2⟩ := h
  simp only [Prod.mk.injEq] at h2
  exact .done ⟨x, H', h1, h2.1, h2.2.1, Nat.le_of_ble_eq_true h2.2.2⟩
theorem CallAt.cutY {k n : Nat} {args : List V} {y : V} {G : Hp} (h : CallAt P gl (.yl k) args H ro (fun x H' => x = y ∧ H'.take n = G ∧ n ≤ H'.length)) (hn : H.length ≤ n) (hy : y.under n = true) (hG : G.all (underK n) = true) : CallAt P gl (.yl k) args H ro (fun x H' => x = y ∧ H' = G) := by
  intro σ w vs hro hm hgl ha
  obtain ⟨g, m, e, fn, tmps, aso, bd, h1, h2⟩ := h σ w vs hro hm hgl ha
  refine ⟨g, m, e, fn, tmps, aso, bd, h1, h2.mono ?_⟩
  rintro v w' ⟨x, H', ⟨rfl, rfl, hle⟩, hY⟩
  exact ⟨x, _, ⟨rfl, rfl⟩, Yields.cut hm hY hn hle hy hG⟩
/-- The call of a yield. -/
theorem Reach.yield1 {k : Nat} {args : List V} {y : V} {G : Hp} (hc : CallAt P gl (.yl k) args H ro (fun x H' => x = y ∧ H' = G)) (h1 : nextCall gl c = some (.yl k, args)) (hH : c.2.zh = H) (hz : c.2.zr = ro) (h : Reach P gl fz oz (afterCall c y G) Q) : Reach P gl fz oz c Q := by
  subst hH hz
  exact Reach.yield h1 hc fun x H' ⟨e1, e2⟩ => by rw [e1, e2]; exact h
/-- A loop over a function, in a memory that is written out. -/
theorem Reach.range1 {f : FuncId} {args : List V} {s1 : Sz} {l : Nat} {k : List Item} (hc : CallAt P gl (.fn f) args H ro R) (h1 : rangeS gl fz oz c = some (f, args, s1, l, k)) (hH : s1.zh = H) (hz : s1.zr = ro)
    (h : ∀ x H', R x H' → ∃ pd s2, overZ l { s1 with zh := H' } = some (pd, s2) ∧ Reach P gl fz oz ((pd.map Item.code).toList ++ k, s2) Q) : Reach P gl fz oz c Q := by
  subst hH hz
  exact Reach.range h1 hc h
theorem Reach.callH {f : FuncId} {args : List V} {y : V} {G G' : Hp} (hc : CallAt P gl (.fn f) args G ro (fun x H' => x = y ∧ H' = G')) (h1 : nextCall gl c = some (.fn f, args)) (hG : c.2.zh = G) (hz : c.2.zr = ro) (h : Reach P gl fz oz (afterCall c y G') Q) : Reach P gl fz oz c Q := by
  subst hG hz
  exact Reach.call h1 hc fun x H' ⟨e1, e2⟩ => by rw [e1, e2]; exact h
end
end Go.Proofs.YtgkpejlddgoalaaGreatDoor.Zm
namespace Go.Proofs.YtgkpejlddgoalaaGreatDoor.Zm
open Go.RowKit
open Go.Proofs.YtgkpejlddgoalaaGreatDoor.Ab (sizeT rowB zerosN)

/-- What the machine does not look into, open. -/
def sharpB : B → B
  | .sym v => .lit v
  | .pty k o => .ptr k o
  | .sly k o n c => .slc k o n c
  | .roy k o n z => .row k o n z
  | x => x
def sharp : V → V
  | .f (.one (.b x)) => .f (.one (.b (sharpB x)))
  | x => x
theorem sharpB_iff {σ : Env} {x : B} {v : Value} : (sharpB x).holds σ v ↔ x.holds σ v := by cases x <;> exact Iff.rfl
theorem sharp_iff {σ : Env} : ∀ {x : V} {v : Value}, (sharp x).holds σ v ↔ x.holds σ v
  | .f (.one (.b _)), _ => sharpB_iff
  | .f (.one (.fn ..)), _ | .f (.agg _), _ | .tup _, _ | .un, _ => Iff.rfl
/-- The same for places only. -/
def sharpP : V → V
  | .f (.one (.b (.pty k o))) => .f (.one (.b (.ptr k o)))
  | .f (.one (.b (.sly k o n c))) => .f (.one (.b (.slc k o n c)))
  | .f (.one (.b (.roy k o n z))) => .f (.one (.b (.row k o n z)))
  | x => x
theorem sharpP_iff {σ : Env} {x : V} {v : Value} : (sharpP x).holds σ v ↔ x.holds σ v := by
  unfold sharpP
  split <;> exact Iff.rfl
/-- What is done next. -/
noncomputable def nextOp (c : Cf) : Option Oper := match c with
  | (.inRegion ops (i :: _) :: _, s) => match ops[i]? with
    | some o => match wantZ s.zs ops o with
      | some true => some o
      | _ => none
    | none => none
  | _ => none
noncomputable def evS (gl : List Nat) (c : Cf) (y : Operand) : V := sharp (evZ gl c.2.zs y)
noncomputable def evP (gl : List Nat) (c : Cf) (y : Operand) : V := sharpP (evZ gl c.2.zs y)
section
variable {P : Program} {gl : List Nat} {fz : FuncId} {oz : Option Nat} {c : Cf} {Q : Cf → Prop} {H' : Hp} {x y : V}
/-- One operation, its operands opened. -/
theorem Reach.opE {ev : Operand → V} (he : ∀ z σ v, (evZ gl c.2.zs z).holds σ v → (ev z).holds σ v) {o : Oper} (h1 : nextOp c = some o) (hdo : doZ P noCall (fun _ => false) ev c.2.zh c.2.zr o = some (x, H')) (hxy : ∀ τ v, x.holds τ v → y.holds τ v) (h : Reach P gl fz oz (afterCall c y H') Q) : Reach P gl fz oz c Q := by
  obtain ⟨t, s⟩ := c
  unfold nextOp at h1
  split at h1
  · rename_i ops i rest k s' heq
    simp only [Prod.mk.injEq] at heq
    obtain ⟨rfl, rfl⟩ := heq
    split at h1
    · rename_i o' ho
      split at h1
      · rename_i hw
        injection h1 with h1
        subst h1
        intro b cs σ a w hb hl hR
        obtain ⟨v, w', ⟨τ, hlf, hx⟩, hst⟩ := does_step (b := b) (rest := rest) (k := k) (cs := cs) ho (hR.wants hw) (doZ_noDefer hdo) (doZ_ok (noCall_ok.at _) hR.ro hR.glob hdo (fun z _ => he _ _ _ (evZ_holds hR.glob hR.slots z)) hR.mem)
        simp only [afterCall, ho] at h
        obtain ⟨υ, a2, w2, c2, q2, s2, r2, l2, z2⟩ := h b cs τ _ w' hb (hl.up hlf.le) (hR.put hlf (hxy _ _ hx))
        exact ⟨υ, a2, w2, c2, q2, Steps.trans hst s2, r2, hlf.trans l2, z2⟩
      · cases h1
    · cases h1
  · cases h1
theorem Reach.opS {o : Oper} (h1 : nextOp c = some o) (hdo : doZ P noCall (fun _ => false) (evS gl c) c.2.zh c.2.zr o = some (x, H')) (hxy : ∀ τ v, x.holds τ v → y.holds τ v) (h : Reach P gl fz oz (afterCall c y H') Q) : Reach P gl fz oz c Q := Reach.opE (fun _ _ _ h => sharp_iff.2 h) h1 hdo hxy h
end
/-- The place of an element: the block, where the slice begins in it, its length, the index, an element's size. -/
noncomputable def idxS (P : Program) (gl : List Nat) (c : Cf) : Option (Nat × Nat × Nat × Int × Nat) := match nextOp c with
  | some o => match o.op with
    | .indexAddr T x ix => match evS gl c x, evS gl c ix, P.underlying T with
      | .f (.one (.b (.slc k off n _))), .f (.one (.b (.lit (.int _ i)))), some (.slice e) => match sizeT P e with | some m => some (k, off, n, i, m) | none => none
      | .f (.one (.b (.row k off n _))), .f (.one (.b (.lit (.int _ i)))), some (.slice e) => match sizeT P e with | some m => some (k, off, n, i, m) | none => none
      | _, _, _ => none
    | _ => none
  | none => none
/-- What is loaded: a type of one cell, the place. -/
noncomputable def ldS (P : Program) (gl : List Nat) (c : Cf) : Option (Nat × Nat) := match nextOp c with
  | some o => match o.op with
    | .load T x => match evS gl c x, sizeT P T, rowB P T with
      | .f (.one (.b (.ptr k off))), some 1, some false => some (k, off)
      | _, _, _ => none
    | _ => none
  | none => none
/-- What is stored: one cell. -/
noncomputable def stS (P : Program) (gl : List Nat) (c : Cf) : Option (Nat × Nat × C) := match nextOp c with
  | some o => match o.op with
    | .store T x y => match evP gl c x, sizeT P T, evP gl c y with
      | .f (.one (.b (.ptr k off))), some 1, .f (.one d) => some (k, off, d)
      | _, _, _ => none
    | _ => none
  | none => none
noncomputable def lenS (P : Program) (gl : List Nat) (c : Cf) : Option Nat := match nextOp c with
  | some o => match o.op with
    | .call ⟨.builtin .len, args, ts⟩ => match ts[0]?, args.toList with
      | some T, [x] => match P.underlying T, evS gl c x with
        | some (.slice _), .f (.one (.b (.slc _ _ n _))) => some n
        | some (.slice _), .f (.one (.b (.row _ _ n _))) => some n
        | _, _ => none
      | _, _ => none
    | _ => none
  | none => none
/-- A slice that is made: an element's type, of one cell, its zero, its bytes, the length and the capacity. -/
noncomputable def mkS (P : Program) (gl : List Nat) (c : Cf) : Option (TypeId × Value × Nat × Int × Int) := match nextOp c with
  | some o => match o.op with
    | .makeSlice t len cap => match P.underlying t with
      | some (.slice e) => match sizeT P e, P.info? e, intZ (evS gl c len), intZ (evS gl c cap) with
        | some 1, some i, some l, some m => match i.zero with
          | some z => match z.cells with
            | ⟨[u]⟩ => match u.oneCell' with | true => some (e, u, i.bytes, l, m) | false => none
            | _ => none
          | none => none
        | _, _, _, _ => none
      | _ => none
    | _ => none
  | none => none
/-- What an operation yields, its operands opened. -/
noncomputable def gives (P : Program) (gl : List Nat) (c : Cf) : Option (V × Hp) := match nextOp c with
  | some o => doZ P noCall (fun _ => false) (evS gl c) c.2.zh c.2.zr o
  | none => none
theorem zeros_one {z u : Value} (h : z.cells = ⟨[u]⟩) (n : Nat) : zerosN z n = List.replicate n u := by
  unfold zerosN
  rw [h]
  apply List.ext_getElem
  · simp
  · intro i h1 h2
    simp [Nat.mod_one]
section
variable {P : Program} {gl : List Nat} {fz : FuncId} {oz : Option Nat} {c : Cf} {Q : Cf → Prop} {H' : Hp} {x y : V}
theorem Reach.idx {k off n m : Nat} {i : Int} (h1 : idxS P gl c = some (k, off, n, i, m)) (h0 : 0 ≤ i) (hn : i < n) (h : Reach P gl fz oz (afterCall c (.f (.one (.b (.pty k (off + i.toNat * m))))) c.2.zh) Q) : Reach P gl fz oz c Q := by
  unfold idxS at h1
  split at h1
  · rename_i o ho
    split at h1
    · rename_i T x' ix hop
      refine Reach.opS (x := .f (.one (.b (.ptr k (off + i.toNat * m))))) (y := .f (.one (.b (.pty k (off + i.toNat * m))))) ho ?_ (fun τ v hv => hv) h
      unfold doZ
      split <;> rename_i heq <;> rw [hop] at heq <;> first | (cases heq; done) | skip
      have hval : valZ P (evS gl c) c.2.zh o = some (.f (.one (.b (.ptr k (off + i.toNat * m))))) := by
        unfold valZ
        split at h1
        · rename_i e1 e2 e3
          split at h1
          · rename_i e4
            simp only [Option.some.injEq, Prod.mk.injEq] at h1
            obtain ⟨rfl, rfl, rfl, rfl, rfl⟩ := h1
            simp only [hop, e1, e2, e3, e4, intZ]
            rw [if_pos ⟨h0, hn⟩]
          · cases h1
        · rename_i e1 e2 e3
          split at h1
          · rename_i e4
            simp only [Option.some.injEq, Prod.mk.injEq] at h1
            obtain ⟨rfl, rfl, rfl, rfl, rfl⟩ := h1
            simp only [hop, e1, e2, e3, e4, intZ]
            rw [if_pos ⟨h0, hn⟩]
          · cases h1
        · cases h1
      have hf : fastZ (evS gl c) o = none := by unfold fastZ; simp only [hop]
      simp only [valW, valY, hf, hval]
    · cases h1
  · cases h1
theorem Reach.out1 {x y : V} (H' : Hp) (h1 : gives P gl c = some (x, H')) (hxy : ∀ τ v, x.holds τ v → y.holds τ v) (h : Reach P gl fz oz (afterCall c y H') Q) : Reach P gl fz oz c Q := by
  unfold gives at h1
  split at h1
  · rename_i o ho
    exact Reach.opS ho h1 hxy h
  · cases h1
/-- An operation of numbers and the like. -/
theorem Reach.lit1 (u v : Value) (h1 : gives P gl c = some (lv u, c.2.zh)) (e : u = v) (h : Reach P gl fz oz (afterCall c (.f (.one (.b (.sym v)))) c.2.zh) Q) : Reach P gl fz oz c Q := Reach.out1 _ h1 (fun τ w hw => by rw [← e]; exact hw) h
theorem Reach.len1 {n : Nat} (h1 : lenS P gl c = some n) (h : Reach P gl fz oz (afterCall c (.f (.one (.b (.sym (.int .i64 n))))) c.2.zh) Q) : Reach P gl fz oz c Q := by
  unfold lenS at h1
  split at h1
  · rename_i o ho
    split at h1
    · rename_i args ts hop
      refine Reach.opS (x := lv (.int .i64 n)) (y := .f (.one (.b (.sym (.int .i64 n))))) ho ?_ (fun τ v hv => hv) h
      have hval : valZ P (evS gl c) c.2.zh o = some (lv (.int .i64 n)) := by
        unfold valZ
        split at h1
        · rename_i e0 e1
          split at h1
          · rename_i e2 e3
            injection h1 with h1
            subst h1
            simp only [hop, e0, e1, e2, e3]
          · rename_i e2 e3
            injection h1 with h1
            subst h1
            simp only [hop, e0, e1, e2, e3]
          · cases h1
        · cases h1
      have hf : fastZ (evS gl c) o = none := by unfold fastZ; simp only [hop]
      unfold doZ
      simp only [hop, valW, valY, hf, hval]
    · cases h1
  · cases h1
theorem Reach.mk1 {e : TypeId} {u : Value} {bs : Nat} {l m : Int} (h1 : mkS P gl c = some (e, u, bs, l, m)) (hm : m = l) (h0 : 0 ≤ l) (hb : l * bs ≤ 1048576) (hc : l ≤ 65536)
    (h : Reach P gl fz oz (afterCall c (.f (.one (.b (.sly c.2.zh.length 0 l.toNat l.toNat)))) (c.2.zh ++ [.cells e (List.replicate l.toNat (lc u))])) Q) : Reach P gl fz oz c Q := by
  subst hm
  unfold mkS at h1
  split at h1
  · rename_i o ho
    split at h1
    · rename_i T len cap hop
      split at h1
      · rename_i e' e0
        split at h1
        · rename_i i l' m' e1 e2 e3 e4
          split at h1
          · rename_i z e5
            split at h1
            · rename_i u' e6
              split at h1
              · rename_i e7
                simp only [Option.some.injEq, Prod.mk.injEq] at h1
                obtain ⟨rfl, rfl, rfl, rfl, rfl⟩ := h1
                refine Reach.opS (x := .f (.one (.b (.slc c.2.zh.length 0 m'.toNat m'.toNat)))) (y := .f (.one (.b (.sly c.2.zh.length 0 m'.toNat m'.toNat)))) ho ?_ (fun τ v hv => hv) h
                have hg : growZ P (evS gl c) c.2.zh c.2.zr o = some (.f (.one (.b (.slc c.2.zh.length 0 m'.toNat m'.toNat))), c.2.zh ++ [.cells e' (List.replicate m'.toNat (lc u'))]) := by
                  unfold growZ
                  simp only [hop, e0, e1, e2, e3, e4, e5]
                  rw [if_pos ⟨h0, Int.le_refl _, hb, hc, by rw [zeros_one e6]; simp [e7], by rw [e6]; rfl⟩, zeros_one e6, Nat.mul_one, List.map_replicate]
                unfold doZ
                simp only [hop, hg]
              · cases h1
            · cases h1
          · cases h1
        · cases h1
      · cases h1
    · cases h1
  · cases h1
theorem Reach.ld1 {k off : Nat} {l : List C} {d : C} (h1 : ldS P gl c = some (k, off)) (hl : cellsOf c.2.zh k = some l) (hd : l[off]? = some d) (h : Reach P gl fz oz (afterCall c (.f (.one d)) c.2.zh) Q) : Reach P gl fz oz c Q := by
  unfold ldS at h1
  split at h1
  · rename_i o ho
    split at h1
    · rename_i T x' hop
      split at h1
      · rename_i e1 e2 e3
        simp only [Option.some.injEq, Prod.mk.injEq] at h1
        obtain ⟨rfl, rfl⟩ := h1
        refine Reach.opS (x := .f (.one d)) (y := .f (.one d)) ho ?_ (fun τ v hv => hv) h
        have hval : valZ P (evS gl c) c.2.zh o = some (.f (.one d)) := by
          unfold valZ
          simp only [hop, e1, hl]
          unfold partZ
          simp only [e2, e3, hd]
        have hf : fastZ (evS gl c) o = none := by unfold fastZ; simp only [hop]
        unfold doZ
        simp only [hop, valW, valY, hf, hval]
      · cases h1
    · cases h1
  · cases h1
theorem put_set {l : List C} {off : Nat} {d : C} (h : off < l.length) : putZ l off [d] = some (l.set off d) := by
  unfold putZ
  rw [if_pos (show off + [d].length ≤ l.length from h), List.set_eq_take_append_cons_drop, if_pos h]
  simp
theorem Reach.st1 {k off : Nat} {T : TypeId} {l : List C} {d : C} (h1 : stS P gl c = some (k, off, d)) (hro : c.2.zr ≤ k) (hl : c.2.zh[k]? = some (.cells T l)) (hd : off < l.length) (h : Reach P gl fz oz (afterCall c .un (c.2.zh.set k (.cells T (l.set off d)))) Q) : Reach P gl fz oz c Q := by
  unfold stS at h1
  split at h1
  · rename_i o ho
    split at h1
    · rename_i T' x' y' hop
      split at h1
      · rename_i k2 off2 d2 e1 e2 e3
        simp only [Option.some.injEq, Prod.mk.injEq] at h1
        obtain ⟨rfl, rfl, rfl⟩ := h1
        have hst : storeZ P (evP gl c) c.2.zh c.2.zr o = some (c.2.zh.set k2 (.cells T (l.set off2 d2))) := by
          unfold storeZ
          simp only [hop, e1, e2, e3, hl, put_set hd]
          simp [hro]
        refine Reach.opE (ev := evP gl c) (x := .un) (y := .un) (fun _ _ _ h => sharpP_iff.2 h) ho ?_ (fun τ v hv => hv) h
        unfold doZ
        simp only [hop, hst]
      · cases h1
    · cases h1
  · cases h1
/-- A store, memory written out. -/
theorem Reach.st2 {k off : Nat} {T : TypeId} {l : List C} {d : C} (G H' : Hp) (h1 : stS P gl c = some (k, off, d)) (hG : (c.2.zh, Nat.ble c.2.zr k) = (G, true)) (hl : G[k]? = some (.cells T l)) (hd : off < l.length) (hH : G.set k (.cells T (l.set off d)) = H') (h : Reach P gl fz oz (afterCall c .un H') Q) : Reach P gl fz oz c Q := by
  injection hG with h2 h3
  subst h2
  exact Reach.st1 h1 (Nat.le_of_ble_eq_true h3) hl hd (by rw [hH]; exact h)
end
end Go.Proofs.YtgkpejlddgoalaaGreatDoor.Zm
