/- Parts of the proof, joined. -/
import Derived.Test.YtgkpejlddgoalaaGreatDoorJ4
import Derived.Lib.Bytealg
import Derived.Test.YtgkpejlddgoalaaGreatDoorJ1
import Derived.Test.YtgkpejlddgoalaaGreatDoorJ2
set_option linter.unusedSimpArgs false
set_option linter.unusedVariables false
set_option linter.constructorNameAsVariable false
namespace Go.Proofs.YtgkpejlddgoalaaGreatDoor.Zm
open Go.RowKit
open Go.Proofs.YtgkpejlddgoalaaGreatDoor.Ab (evalP evalP_run sizeT rowB placesA zerosN run_v run_isAgg run_sizeT sizeT_info rowB_some add_off take_one cells_at range_at)

/-- What a frame's walk knows: its slots, memory, the number of blocks that it may not change, its marks. -/
structure Sz where
  zs : Sl
  zh : Hp
  zr : Nat
  zm : List Nat
noncomputable def evZ (gl : List Nat) (l : Sl) : Operand → V
  | .tmp t => l.get t
  | .const v => constZ v
  | .func f => lv (.func (.func f) #[] #[])
  | .global g => match gl.findIdx? (· == g) with | some k => .f (.one (.b (.ptr k 0))) | none => .un
/-- The first names are those of global variables. -/
def GlOk (gl : List Nat) (σ : Env) : Prop := ∀ k g, gl[k]? = some g → ∃ n, σ k = some (g, n)
theorem GlOk.up {gl : List Nat} {σ τ : Env} (h : GlOk gl σ) (hl : σ.le τ) : GlOk gl τ := fun k g e => by obtain ⟨n, e2⟩ := h k g e; exact ⟨n, hl _ _ e2⟩
/-- Does the guard want the operation? -/
noncomputable def wantZ (l : Sl) (ops : Array Oper) (o : Oper) : Option Bool :=
  match o.guard with
  | none => some true
  | some (j, want) => match (ops[j]?).bind (·.dst) with
    | some d => match l.get d with | .f (.one (.b (.lit (.bool b)))) => some (b == want) | .tup [] => some false | _ => none
    | none => none
/-- All names that a value bears are those of live blocks. -/
def liveB (H : Hp) (k : Nat) : Bool := match H[k]? with | some b => b.live | none => false
def B.inL (H : Hp) : B → Bool
  | .lit _ | .sym _ => true
  | .ptr k _ | .slc k _ _ _ | .row k _ _ _ | .yld k | .pty k _ | .sly k _ _ _ | .roy k _ _ _ => liveB H k
def C.inL (H : Hp) : C → Bool
  | .b x => x.inL H
  | .fn _ a c => (a.all fun p => p.2.all (B.inL H)) && (c.all fun p => p.2.all (B.inL H))
def F.inL (H : Hp) : F → Bool
  | .one c => c.inL H
  | .agg l => l.all (C.inL H)
def V.inL (H : Hp) : V → Bool
  | .f x => x.inL H
  | .tup l => l.all (F.inL H)
  | .un => true
/-- A function, or the yield of a loop. -/
inductive Tg where
  | fn (f : FuncId)
  | yl (k : Nat)
/-- What an operation calls, and its arguments. -/
def calleeZ (ev : Operand → V) (o : Oper) : Option (Tg × List V) :=
  match o.op with
  | .call c => match c.callee with
    | .value f => match ev f with
      | .f (.one (.b (.lit (.func (.func g) a b)))) => if a.size = 0 ∧ b.size = 0 then some (.fn g, c.args.toList.map ev) else none
      | .f (.one (.fn g a b)) => some (.fn g, a.map ofCap ++ c.args.toList.map ev ++ b.map ofCap)
      | .f (.one (.b (.yld k))) => some (.yl k, c.args.toList.map ev)
      | _ => none
    | _ => none
  | _ => none
abbrev CallFn := Tg → List V → Hp → Nat → Option (V × Hp)
def Tg.imp (imp : FuncId → Bool) : Tg → Bool
  | .fn f => imp f
  | .yl _ => true
/-- Ranges over texts. -/
def iterZ (P : Program) (ev : Operand → V) (H : Hp) (ro : Nat) (o : Oper) : Option (V × Hp) :=
  match o.op with
  | .range T x => match ev x, P.underlying T with
    | .f (.one (.b (.lit (.string s)))), some .string => some (.f (.one (.b (.ptr H.length 0))), H ++ [.iter s 0])
    | _, _ => none
  | .next x true => match ev x with
    | .f (.one (.b (.ptr k 0))) => match H[k]? with
      | some (.iter s pos) => if ro ≤ k then (if pos < s.size then some (.tup [.one (lc (.bool true)), .one (lc (.int .i64 pos)), .one (lc (.int .i32 (Utf8.decode s pos).1))], H.set k (.iter s (pos + (Utf8.decode s pos).2))) else some (.tup [.one (lc (.bool false))], H)) else none
      | _ => none
    | _ => none
  | _ => none
/-- The bytes of a text. -/
def rowZ (P : Program) (ev : Operand → V) (H : Hp) (o : Oper) : Option (V × Hp) :=
  match o.op with
  | .convert s d y => match ev y, P.underlying s, P.underlying d with
    | .f (.one (.b (.lit (.string t)))), some .string, some (.slice e) => match P.underlying e with
      | some (.int .u8) => if t.size ≤ 65536 then some (.f (.one (.b (.row H.length 0 t.size 1))), H ++ [.ro e (t.data.toList.map fun b => lc (.int .u8 b.toNat))]) else none
      | _ => none
    | _, _, _ => none
  | _ => none
/-- A value without addresses, a tuple of them. -/
def constT : Value → V
  | .tuple cs => if cs.toList.all (·.oneCell') then .tup (cs.toList.map fun v => .one (lc v)) else .un
  | v => constZ v
/-- Functions without a body, at values without addresses. -/
def exnZ (P : Program) : Tg → List V → Option V
  | .fn f, args => match P.funcs[f]? with
    | some fn => if fn.body.isNone then (match litsV args, Extern.findNext fn, Extern.find fn with
      | some vs, none, some e => if fn.name == "runtime.NumGoroutine" then none else (match evalP P (e vs.toArray) with | some v => some (constT v) | none => none)
      | _, _, _ => none) else none
    | none => none
  | _, _ => none
def doZ (P : Program) (call : CallFn) (imp : FuncId → Bool) (ev : Operand → V) (H : Hp) (ro : Nat) (o : Oper) : Option (V × Hp) :=
  match o.op with
  | .store .. => match storeZ P ev H ro o with | some H' => some (.un, H') | none => none
  | .alloc _ | .box .. | .buildSlice .. => match newZ P ev H o with | some (x, b) => some (x, H ++ [b]) | none => none
  | .makeSlice .. => growZ P ev H ro o
  | .range .. | .next .. => iterZ P ev H ro o
  | .convert .. => match rowZ P ev H o with | some r => some r | none => match valW P ev H o with | some x => some (x, H) | none => none
  | .call c => match c.callee with
    | .builtin .append => growZ P ev H ro o
    | .value _ => match calleeZ ev o with
      | some (g, args) => match exnZ P g args with
        | some x => some (x, H)
        | none => if g.imp imp then call g args H ro else match call g args H H.length with
          | some (x, H') => if x.inL H then some (x, H) else some (x, H ++ H'.drop H.length)
          | none => none
      | none => none
    | _ => match valW P ev H o with | some x => some (x, H) | none => none
  | _ => match valW P ev H o with | some x => some (x, H) | none => none
noncomputable def putS (l : Sl) (dst : Option Tmp) (x : V) : Sl := match dst with | some d => l.put d x | none => l
/-- One operation of a region. -/
noncomputable def opZ (P : Program) (gl : List Nat) (call : CallFn) (imp : FuncId → Bool) (ops : Array Oper) (o : Oper) (s : Sz) : Option Sz :=
  match wantZ s.zs ops o with
  | some true => match doZ P call imp (evZ gl s.zs) s.zh s.zr o with
    | some (x, H') => some { s with zs := putS s.zs o.dst x, zh := H' }
    | none => none
  | some false => some { s with zs := putS s.zs o.dst (.tup []) }
  | none => none
noncomputable def opsZ (P : Program) (gl : List Nat) (call : CallFn) (imp : FuncId → Bool) (ops : Array Oper) : List Oper → Sz → Option Sz
  | [], s => some s
  | o :: l, s => match opZ P gl call imp ops o s with | some s' => opsZ P gl call imp ops l s' | none => none

/-- A call does what is said of it. -/
def CallOk (P : Program) (gl : List Nat) (call : CallFn) : Prop := ∀ t args H ro x H', call t args H ro = some (x, H') → ∀ σ w vs, ro ≤ H.length → HRep σ H w → GlOk gl σ → holdsV σ args vs → match t with
  | .fn f => (∀ (args : Array Value) (w : World), (callFunc f args).run P w = .ok (.enter f args) w) ∧ Calls P f vs.toArray w fun e w' => ∃ v, e = .returned v ∧ Yields σ H ro w x H' v w'
  | .yl k => ∃ g n, σ k = some (g, n) ∧ ∃ fn tmps as bd, (Instr.yield g vs.toArray).run P w = .ok (.round g fn tmps as bd) w ∧ Rounds P g fn tmps as bd w (Yields σ H ro w x H')

/-- The same in one memory. -/
def CallOkAt (P : Program) (gl : List Nat) (call : CallFn) (w : World) : Prop := ∀ t args H ro x H', call t args H ro = some (x, H') → ∀ σ vs, ro ≤ H.length → HRep σ H w → GlOk gl σ → holdsV σ args vs → match t with
  | .fn f => (∀ (args : Array Value) (w : World), (callFunc f args).run P w = .ok (.enter f args) w) ∧ Calls P f vs.toArray w fun e w' => ∃ v, e = .returned v ∧ Yields σ H ro w x H' v w'
  | .yl k => ∃ g n, σ k = some (g, n) ∧ ∃ fn tmps as bd, (Instr.yield g vs.toArray).run P w = .ok (.round g fn tmps as bd) w ∧ Rounds P g fn tmps as bd w (Yields σ H ro w x H')
theorem CallOk.at {P : Program} {gl : List Nat} {call : CallFn} (h : CallOk P gl call) (w : World) : CallOkAt P gl call w := fun t args H ro x H' hc σ vs => h t args H ro x H' hc σ w vs

section
variable {P : Program} {call : CallFn} {imp : FuncId → Bool} {ev : Operand → V} {H : Hp} {σ τ : Env} {w w' : World} {ρ : Operand → Value} {o : Oper} {x : V}
theorem liveB_iff {k : Nat} : liveB H k = true ↔ live H k := by
  unfold liveB live
  cases H[k]? with
  | none => simp
  | some b => simp
theorem B.down (hk : ∀ k, live H k → ∃ y, σ k = some y) (h : σ.le τ) : ∀ {x : B} {v : Value}, x.inL H = true → x.holds τ v → x.holds σ v
  | .lit _, _, _, k | .sym _, _, _, k => k
  | .ptr k _, _, hl, ⟨g, n, e, e2⟩ => by obtain ⟨y, hy⟩ := hk k (liveB_iff.1 hl); exact ⟨g, n, by rw [hy, ← h _ _ hy, e], e2⟩
  | .slc k .., _, hl, ⟨g, n, e, e2⟩ => by obtain ⟨y, hy⟩ := hk k (liveB_iff.1 hl); exact ⟨g, n, by rw [hy, ← h _ _ hy, e], e2⟩
  | .row k .., _, hl, ⟨g, n, c, e, e2⟩ => by obtain ⟨y, hy⟩ := hk k (liveB_iff.1 hl); exact ⟨g, n, c, by rw [hy, ← h _ _ hy, e], e2⟩
  | .yld k, _, hl, ⟨g, n, e, e2⟩ => by obtain ⟨y, hy⟩ := hk k (liveB_iff.1 hl); exact ⟨g, n, by rw [hy, ← h _ _ hy, e], e2⟩
  | .pty k _, _, hl, ⟨g, n, e, e2⟩ => by obtain ⟨y, hy⟩ := hk k (liveB_iff.1 hl); exact ⟨g, n, by rw [hy, ← h _ _ hy, e], e2⟩
  | .sly k .., _, hl, ⟨g, n, e, e2⟩ => by obtain ⟨y, hy⟩ := hk k (liveB_iff.1 hl); exact ⟨g, n, by rw [hy, ← h _ _ hy, e], e2⟩
  | .roy k .., _, hl, ⟨g, n, c, e, e2⟩ => by obtain ⟨y, hy⟩ := hk k (liveB_iff.1 hl); exact ⟨g, n, c, by rw [hy, ← h _ _ hy, e], e2⟩
theorem downB (hk : ∀ k, live H k → ∃ y, σ k = some y) (h : σ.le τ) : ∀ {l : List B} {vs : List Value}, l.all (B.inL H) = true → holdsB τ l vs → holdsB σ l vs
  | [], _, _, k => k
  | _ :: _, _, hl, ⟨v, r, e, k, k'⟩ => by
    rw [List.all_cons, Bool.and_eq_true] at hl
    exact ⟨v, r, e, B.down hk h hl.1 k, downB hk h hl.2 k'⟩
theorem downCaps (hk : ∀ k, live H k → ∃ y, σ k = some y) (h : σ.le τ) : ∀ {l : List (Bool × List B)} {vs : List Value}, (l.all fun p => p.2.all (B.inL H)) = true → capsHold τ l vs → capsHold σ l vs
  | [], _, _, k => k
  | (b, m) :: _, _, hl, ⟨v, r, e, k, k'⟩ => by
    rw [List.all_cons, Bool.and_eq_true] at hl
    refine ⟨v, r, e, ?_, downCaps hk h hl.2 k'⟩
    cases b with
    | true => obtain ⟨cs, e, k⟩ := k; exact ⟨cs, e, downB hk h hl.1 k⟩
    | false => exact downB (l := m) hk h hl.1 k
theorem C.down (hk : ∀ k, live H k → ∃ y, σ k = some y) (h : σ.le τ) : ∀ {x : C} {v : Value}, x.inL H = true → x.holds τ v → x.holds σ v
  | .b _, _, hl, k => B.down hk h hl k
  | .fn .., _, hl, ⟨xs, ys, e, k, k'⟩ => by
    simp only [C.inL, Bool.and_eq_true] at hl
    exact ⟨xs, ys, e, downCaps hk h hl.1 k, downCaps hk h hl.2 k'⟩
theorem downC (hk : ∀ k, live H k → ∃ y, σ k = some y) (h : σ.le τ) : ∀ {l : List C} {vs : List Value}, l.all (C.inL H) = true → holdsC τ l vs → holdsC σ l vs
  | [], _, _, k => k
  | _ :: _, _, hl, ⟨v, r, e, k, k'⟩ => by
    rw [List.all_cons, Bool.and_eq_true] at hl
    exact ⟨v, r, e, C.down hk h hl.1 k, downC hk h hl.2 k'⟩
theorem F.down (hk : ∀ k, live H k → ∃ y, σ k = some y) (h : σ.le τ) : ∀ {x : F} {v : Value}, x.inL H = true → x.holds τ v → x.holds σ v
  | .one _, _, hl, k => C.down hk h hl k
  | .agg _, _, hl, ⟨cs, e, k⟩ => ⟨cs, e, downC hk h hl k⟩
theorem downF (hk : ∀ k, live H k → ∃ y, σ k = some y) (h : σ.le τ) : ∀ {l : List F} {vs : List Value}, l.all (F.inL H) = true → holdsF τ l vs → holdsF σ l vs
  | [], _, _, k => k
  | _ :: _, _, hl, ⟨v, r, e, k, k'⟩ => by
    rw [List.all_cons, Bool.and_eq_true] at hl
    exact ⟨v, r, e, F.down hk h hl.1 k, downF hk h hl.2 k'⟩
theorem V.down (hk : ∀ k, live H k → ∃ y, σ k = some y) (h : σ.le τ) : ∀ {x : V} {v : Value}, x.inL H = true → x.holds τ v → x.holds σ v
  | .f _, _, hl, k => F.down hk h hl k
  | .tup _, _, hl, ⟨vs, e, k⟩ => ⟨vs, e, downF hk h hl k⟩
  | .un, _, _, _ => trivial
theorem HRep.known (hm : HRep σ H w) (k : Nat) (h : live H k) : ∃ y, σ k = some y := by
  obtain ⟨b, hb, hl⟩ := h
  obtain ⟨g, n, e⟩ := Blk.known hl (hm.blk k b hb)
  exact ⟨_, e⟩
/-- New blocks are forgotten if nothing leads to them, and nothing that was there has turned. -/
theorem Left.forget {ro : Nat} {H' : Hp} (hm : HRep σ H w) (h : Left σ H H.length w H' τ w') : Left σ H ro w H σ w' := by
  have hno : ∀ g, ¬ Own σ H H.length g := fun g ⟨k, n, h1, h2, _⟩ => absurd (live_lt h2) (by omega)
  have hblk : ∀ g, g < w.heap.size → w'.heap[g]? = w.heap[g]? := fun g hg => h.base.block g hg (hno g)
  refine ⟨Env.le_refl _, ⟨fun k b hb => Blk.up (Env.le_refl _) (fun hl g n e => hblk g (hm.lt k g n ⟨b, hb, hl⟩ e)) (hm.blk k b hb), hm.inj, fun k g n hl e => Nat.lt_of_lt_of_le (hm.lt k g n hl e) h.base.size, hm.dom⟩,
    ⟨h.base.os, h.base.tape, h.base.output, h.base.size, fun g hg _ => hblk g hg⟩, fun g hg => .inl hg, Nat.le_refl _, fun _ _ _ => rfl, fun _ _ e => .inl e⟩
/-- Fewer blocks may be changed. -/
theorem Left.weaken {ro : Nat} {H' : Hp} (hm : HRep σ H w) (h : Left σ H H.length w H' τ w') : Left σ H ro w H' τ w' := by
  have hno : ∀ g, ¬ Own σ H H.length g := fun g ⟨k, n, h1, h2, _⟩ => absurd (live_lt h2) (by omega)
  refine ⟨h.le, h.rep, ⟨h.base.os, h.base.tape, h.base.output, h.base.size, fun g hg _ => h.base.block g hg (hno g)⟩, fun g hg => ?_, h.grow, fun k _ hk => h.old k hk hk, h.new⟩
  obtain ⟨k, n, h1, h2, h3⟩ := hg
  by_cases hk : H.length ≤ k
  · rcases h.own g ⟨k, n, hk, h2, h3⟩ with h4 | h4
    · exact absurd h4 (hno g)
    · exact .inr h4
  · left
    obtain ⟨b, hb, hlv⟩ := h2
    rw [h.old k (by omega) (by omega)] at hb
    obtain ⟨y, hy⟩ := hm.known k ⟨b, hb, hlv⟩
    have := h.le k y hy
    rw [h3] at this
    injection this with this
    exact ⟨k, n, h1, ⟨b, hb, hlv⟩, by rw [hy, this]⟩
theorem evZ_holds {gl : List Nat} {l : Sl} {a : Act} (hgl : GlOk gl σ) (h : ∀ t, (l.get t).holds σ (a.eval (.tmp t))) (y : Operand) : (evZ gl l y).holds σ (a.eval y) := by
  cases y with
  | tmp t => exact h t
  | const v => exact constZ_holds v
  | func f => exact ⟨rfl, rfl⟩
  | global g =>
    simp only [evZ]
    split
    · rename_i k hk
      rw [List.findIdx?_eq_some_iff_getElem] at hk
      obtain ⟨hlt, h1, _⟩ := hk
      simp only [beq_iff_eq] at h1
      obtain ⟨n, e⟩ := hgl k g (by rw [List.getElem?_eq_getElem hlt, h1])
      exact ⟨g, n, e, rfl⟩
    · trivial
theorem ofCap_holds : ∀ {l : List (Bool × List B)} {vs : List Value}, capsHold σ l vs → holdsV σ (l.map ofCap) vs
  | [], _, h => h
  | (b, m) :: l, _, ⟨v, r, e, h1, h2⟩ => by
    refine ⟨v, r, e, ?_, ofCap_holds h2⟩
    cases b with
    | true =>
      obtain ⟨cs, e, h1⟩ := h1
      refine ⟨cs, e, ?_⟩
      have key : ∀ {m : List B} {cs : List Value}, holdsB σ m cs → holdsC σ (m.map .b) cs := fun {m} => by
        induction m with
        | nil => intro cs h; exact h
        | cons x m ih => rintro cs ⟨v, r, e, h1, h2⟩; exact ⟨v, r, e, h1, ih h2⟩
      exact key h1
    | false =>
      match m, h1 with
      | [], _ => trivial
      | [y], ⟨v', r', e', h3, h4⟩ =>
        injection e' with e1 e2
        subst e1
        exact h3
      | _ :: _ :: _, _ => trivial
theorem calleeZ_ok {t : Tg} {args : List V} (h : calleeZ ev o = some (t, args)) (hs : ∀ y ∈ o.op.operands, (ev y).holds σ (ρ y)) :
    ∃ vs : List Value, holdsV σ args vs ∧ match t with
      | .fn f => (execOp ρ o).run P w = (callFunc f vs.toArray).run P w
      | .yl k => ∃ g n, σ k = some (g, n) ∧ (execOp ρ o).run P w = (Instr.yield g vs.toArray).run P w := by
  obtain ⟨dst, op, type, pos, after, guard⟩ := o
  cases op <;> simp only [calleeZ] at h
  case call c =>
    split at h
    · rename_i y hc
      have hB : ∀ (l : List Operand), (∀ y ∈ l, (ev y).holds σ (ρ y)) → holdsV σ (l.map ev) (l.map ρ) := fun l => by
        induction l with
        | nil => intro _; rfl
        | cons v l ih => intro hm; exact ⟨ρ v, l.map ρ, rfl, hm v (by simp), ih (fun y hy => hm y (by simp [hy]))⟩
      have hE : holdsV σ (c.args.toList.map ev) (c.args.toList.map ρ) := hB _ (fun y hm => hs y (by
        simp only [Op.operands, Call.operands, hc, Array.mem_append]
        exact .inr (by simpa using hm)))
      have hv := hs y (by simp [Op.operands, Call.operands, hc])
      split at h
      · rename_i g a b hy
        rw [hy] at hv
        have hv := hold_lv hv
        split at h
        · rename_i hab
          simp only [Option.some.injEq, Prod.mk.injEq] at h
          obtain ⟨rfl, rfl⟩ := h
          have ha : a = #[] := Array.eq_empty_of_size_eq_zero hab.1
          have hb : b = #[] := Array.eq_empty_of_size_eq_zero hab.2
          refine ⟨c.args.toList.map ρ, hE, ?_⟩
          simp only [execOp, resolve, hc, Sem.run_bind, Sem.run_pure, Result.andThen, hv, Deferred.ofValue, invoke, ha, hb]
          congr 2
          apply Array.toList_inj.1
          simp
        · cases h
      · rename_i g a b hy
        simp only [Option.some.injEq, Prod.mk.injEq] at h
        obtain ⟨rfl, rfl⟩ := h
        rw [hy] at hv
        obtain ⟨xs, ys, hv, hx, hyy⟩ := hv
        refine ⟨xs ++ (c.args.toList.map ρ) ++ ys, appV (appV (ofCap_holds hx) hE) (ofCap_holds hyy), ?_⟩
        simp only [execOp, resolve, hc, Sem.run_bind, Sem.run_pure, Result.andThen, hv, Deferred.ofValue, invoke]
        congr 2
        apply Array.toList_inj.1
        simp
      · rename_i k hy
        simp only [Option.some.injEq, Prod.mk.injEq] at h
        obtain ⟨rfl, rfl⟩ := h
        rw [hy] at hv
        obtain ⟨g, n, e, hv⟩ := hv
        refine ⟨c.args.toList.map ρ, hE, g, n, e, ?_⟩
        simp only [execOp, resolve, hc, Sem.run_bind, Sem.run_pure, Result.andThen, hv, Deferred.ofValue, invoke]
        congr 2
        apply Array.toList_inj.1
        simp
      · cases h
    · cases h
  all_goals (cases h)
end
end Go.Proofs.YtgkpejlddgoalaaGreatDoor.Zm
namespace Go.Proofs.YtgkpejlddgoalaaGreatDoor
open Go.RowKit

section
variable {P : Program} {ops : Array Oper} {K : Value → Bool} {T : List Nat} {w0 : World} {a0 : Act} {Q : Act → World → Prop} {o : Oper} {rest : List Oper} {g : List Ent}

theorem wanted_is {A : Act} {j : Nat} {want b : Bool} {d : Tmp} (hg : o.guard = some (j, want)) (hd : (ops[j]?).bind (·.dst) = some d) (h : A.eval (.tmp d) = .bool b) :
    Region.wanted o (yielded ops A.tmps) = (b == want) := by
  have hy : yielded ops A.tmps j = some b := by
    unfold yielded
    rw [hd]
    have h2 : A.tmps[d]?.getD undef = .bool b := by simpa [Act.eval] using h
    cases h3 : A.tmps[d]? with
    | none => rw [h3] at h2; cases h2
    | some v =>
      rw [h3] at h2
      have h4 : v = .bool b := h2
      subst h4
      simp [h3]
  unfold Region.wanted
  rw [hg]
  simp [hy]
theorem guard_looks {j : Nat} {want : Bool} {d : Tmp} (hg : o.guard = some (j, want)) (hd : (ops[j]?).bind (·.dst) = some d) : d ∈ o.looksAt ops := by
  unfold Oper.looksAt
  rw [hg]
  simp only [List.mem_append]
  exact .inr (by rw [hd]; simp)
theorem wants_as {j : Nat} {want b : Bool} (d : Tmp) (hg : o.guard = some (j, want)) (hd : (ops[j]?).bind (·.dst) = some d) (hs : specOf a0 w0.heap.size d g = Sp.is (.bool b)) (A : Act) (w : World)
    (hk : known a0 w0.heap.size g A w (o.looksAt ops)) : Region.wanted o (yielded ops A.tmps) = (b == want) := by
  have h := known_iff.1 hk d (guard_looks hg hd)
  rw [hs] at h
  exact wanted_is hg hd h
theorem ty_isg {j : Nat} {want : Bool} (d : Tmp) (u : Value) (hg : o.guard = some (j, want)) (hd : (ops[j]?).bind (·.dst) = some d) (hs : specOf a0 w0.heap.size d g = Sp.is (.bool want))
    (h : ∀ A w, Base T w0 w → known a0 w0.heap.size g A w (o.looksAt ops) → (execOp A.eval o).run P w = .ok (.value u) w)
    (hr : wpTy P ops K T w0 a0 Q rest (⟨o.dst, .val (Sp.is u)⟩ :: g)) : wpTy P ops K T w0 a0 Q (o :: rest) g :=
  ⟨.val (Sp.is u), ⟨Sp.is_stable K u, fun A w hB hk => .inl ⟨by rw [wants_as d hg hd hs A w hk]; simp, by rw [h A w hB hk]; exact ⟨Below.refl _ _, rfl⟩⟩⟩, hr⟩
theorem ty_callg {j : Nat} {want : Bool} (d : Tmp) (S : Sp) (hS : Stable K S) (hg : o.guard = some (j, want)) (hd : (ops[j]?).bind (·.dst) = some d) (hs : specOf a0 w0.heap.size d g = Sp.is (.bool want))
    (h : ∀ A w, Base T w0 w → known a0 w0.heap.size g A w (o.looksAt ops) → tyUpon P w S ((execOp A.eval o).run P w))
    (hr : wpTy P ops K T w0 a0 Q rest (⟨o.dst, .val S⟩ :: g)) : wpTy P ops K T w0 a0 Q (o :: rest) g :=
  ⟨.val S, ⟨hS, fun A w hB hk => .inl ⟨by rw [wants_as d hg hd hs A w hk]; simp, h A w hB hk⟩⟩, hr⟩
/-- The guard says no: the slot holds nothing. -/
theorem ty_skip {j : Nat} {want b : Bool} (d : Tmp) (hn : (b == want) = false) (hg : o.guard = some (j, want)) (hd : (ops[j]?).bind (·.dst) = some d) (hs : specOf a0 w0.heap.size d g = Sp.is (.bool b))
    (hr : wpTy P ops K T w0 a0 Q rest (⟨o.dst, .val (Sp.is undef)⟩ :: g)) : wpTy P ops K T w0 a0 Q (o :: rest) g :=
  ⟨.val (Sp.is undef), ⟨Sp.is_stable K undef, fun A w _ hk => .inr ⟨by rw [wants_as d hg hd hs A w hk]; exact hn, rfl⟩⟩, hr⟩
end
end Go.Proofs.YtgkpejlddgoalaaGreatDoor
namespace Go.Proofs.YtgkpejlddgoalaaGreatDoor.Ab
open Go.RowKit

variable {Kc : Value → Bool}

structure St (Kc : Value → Bool) where
  slots : List (AV Kc)
  blocks : List (TypeId × List (Seg Kc))
  ro : Nat
/-- What an operation of a drawn region has done. -/
inductive AKd (Kc : Value → Bool) where
  | val (x : AV Kc)
  | new (T : TypeId) (vs : List Value)
  | put (d : Tmp) (T : TypeId) (l : List (Seg Kc))
  | old (k : Nat) (T : TypeId) (l : List (Seg Kc))
abbrev AE (Kc : Value → Bool) := Option Tmp × AKd Kc
inductive Cfg (Kc : Value → Bool) where
  | items (todo : List Item) (st : St Kc)
  | plain (ops : Array Oper) (rest : List Oper) (k : List Item) (st : St Kc)
  | drawn (ops : Array Oper) (rest : List Oper) (k : List Item) (st : St Kc) (Ty : List TypeId) (es : List (AE Kc))

def evL (sl : Tmp → AV Kc) : Operand → AV Kc
  | .tmp t => sl t
  | .const v => constA v
  | .func f => .fv (.sc (.lit (.func (.func f) #[] #[])))
  | .global _ => .un
def St.slot (st : St Kc) (t : Tmp) : AV Kc := st.slots.getD t .un
def FV.kill : FV Kc → FV Kc
  | .nsl .. => .un
  | f => f
def AV.kill : AV Kc → AV Kc
  | .fv f => .fv f.kill
  | .tup l => .tup (l.map FV.kill)
def slotD (st : St Kc) : List (AE Kc) → Tmp → AV Kc
  | [], t => (st.slot t).kill
  | (dst, kd) :: es, t => if dst == some t then (match kd with | .val x => x | _ => .un) else slotD st es t
def AV.killT (T : TypeId) (x : AV Kc) : AV Kc := match x with
  | .fv (.nsl n T' l) => if T == T' then .un else .fv (.nsl n T' l)
  | .fv f => .fv f
  | .tup l => .tup (l.map FV.kill)
def setS (sl : List (AV Kc)) (dst : Option Tmp) (x : AV Kc) : List (AV Kc) := match dst with | some d => sl.set d x | none => sl
def St.put (st : St Kc) (dst : Option Tmp) (x : AV Kc) : St Kc := { st with slots := setS st.slots dst x }
/-- Does the guard want the operation? -/
def wantA (sl : Tmp → AV Kc) (ops : Array Oper) (o : Oper) : Option Bool :=
  match o.guard with
  | none => some true
  | some (j, want) => match (ops[j]?).bind (·.dst) with
    | some d => match sl d with | .fv (.sc (.lit (.bool b))) => some (b == want) | .tup [] => some false | _ => none
    | none => none
def coldL (l : List (Seg Kc)) : Bool := l.all Seg.cold
/-- A step of a plain region's operation that is no call. -/
def plainA (P : Program) (st : St Kc) (o : Oper) : OR Kc → Option (St Kc)
  | .val x => some (st.put o.dst x)
  | .new T l => match o.dst with
    | some d => some { st with slots := st.slots.set d (.fv (.sc (.ptr st.blocks.length 0))), blocks := st.blocks ++ [(T, l)] }
    | none => none
  | .nsl n T l => some (st.put o.dst (.fv (.nsl n T l)))
  | .put k off m => match st.blocks[k]?, o.dst with
    | some (T, l), none => match repl l off m with
      | some l' => if st.ro ≤ k ∧ coldL l = true then some { st with slots := st.slots.map (AV.killT T), blocks := st.blocks.set k (T, l') } else none
      | none => none
    | _, _ => none
  | _ => none
/-- May the operation store into block k? -/
def confl (st : St Kc) (ops : Array Oper) (o : Oper) (k : Nat) : Bool :=
  match o.op with
  | .store _ (.tmp t) _ => match ops.toList.find? (fun o' => o'.dst == some t) with
    | some o' => (match o'.op with | .alloc _ => false | _ => true)
    | none => match st.slot t with | .fv (.sc (.ptr k' _)) => k' == k | _ => true
  | .store .. => true
  | _ => false
/-- No operation that may store into block k is ahead of operation i, or beside it. -/
def earlyOp (st : St Kc) (ops : Array Oper) (i k : Nat) : Bool :=
  (List.range ops.size).all fun j => match ops[j]? with
    | some o => !confl st ops o k || j == i || o.after.any fun e => Region.binds .any e && e.on == i
    | none => true
def newOf (es : List (AE Kc)) (d : Tmp) : Option (TypeId × List Value) := (es.find? fun e => e.1 == some d).bind fun e => match e.2 with | .new T vs => some (T, vs) | _ => none
def viewA (ops : Array Oper) (st : St Kc) (i : Nat) : List (Option (TypeId × List (Seg Kc))) := st.blocks.zipIdx.map fun p => if earlyOp st ops i p.2 then some p.1 else none
/-- A step of a drawn region's operation that is no call. -/
def drawnA (P : Program) (ops : Array Oper) (st : St Kc) (Ty : List TypeId) (es : List (AE Kc)) (o : Oper) : OR Kc → Option (AE Kc)
  | .val x => if x.okT Ty then some (o.dst, .val x) else none
  | .new T l => match litsOf l, o.op with
    | some vs, .alloc _ => if hotT Kc Ty (.cells vs.toArray T (0, 0)) = false ∧ o.guard = none ∧ o.dst.isSome = true then some (o.dst, .new T vs) else none
    | _, _ => none
  | .nsl n T l => if Ty.contains T then some (o.dst, .val (.fv (.nsl n T l))) else none
  | .put k off m => match st.blocks[k]?, o.dst, o.guard with
    | some (T, l), none, none => match repl l off m with
      | some l' => if st.ro ≤ k ∧ coldL l = true ∧ Ty.contains T = false then some (none, .old k T l') else none
      | none => none
    | _, _, _ => none
  | _ => none
/-- A store into a variable that the region has made. -/
def putNew (P : Program) (st : St Kc) (es : List (AE Kc)) (o : Oper) : Option (AE Kc) :=
  match o.op, o.dst, o.guard with
  | .store T (.tmp d) y, none, none => match newOf es d, sizeT P T, evL (slotD st es) y with
    | some (T', vs), some n, .fv (.sc s) => if n == 1 && s.size == 1 && vs.all (·.oneCell') then (repl (vs.map .lit) 0 [s]).map fun l' => (none, .put d T' l') else none
    | some (T', vs), some n, .fv (.ag m) => if sizeL m == n && vs.all (·.oneCell') then (repl (vs.map .lit) 0 m).map fun l' => (none, .put d T' l') else none
    | _, _, _ => none
  | _, _, _ => none
def newsOf (es : List (AE Kc)) : List (Tmp × TypeId × List Value) := es.reverse.filterMap fun e => match e with | (some d, .new T vs) => some (d, T, vs) | _ => none
def putOfA (es : List (AE Kc)) (d : Tmp) : Option (TypeId × List (Seg Kc)) := es.findSome? fun e => match e with | (none, .put d' T l) => if d' == d then some (T, l) else none | _ => none
def oldOfA (es : List (AE Kc)) (k : Nat) : Option (TypeId × List (Seg Kc)) := es.findSome? fun e => match e with | (none, .old k' T l) => if k' == k then some (T, l) else none | _ => none
def slotE (st : St Kc) (es : List (AE Kc)) (t : Tmp) : AV Kc :=
  match es.find? fun e => e.1 == some t with
  | some (_, .val x) => x.kill
  | some (_, .new _ _) => match (newsOf es).findIdx? fun n => n.1 == t with | some j => .fv (.sc (.ptr (st.blocks.length + j) 0)) | none => .un
  | some _ => .un
  | none => (st.slot t).kill
def finishD (st : St Kc) (es : List (AE Kc)) : St Kc :=
  { slots := (List.range st.slots.length).map (slotE st es)
    blocks := (st.blocks.zipIdx.map fun p => (oldOfA es p.2).getD p.1) ++ (newsOf es).map fun n => (putOfA es n.1).getD (n.2.1, n.2.2.map .lit)
    ro := st.ro }
def earlyA (st : St Kc) (ops : Array Oper) (es : List (AE Kc)) : Bool :=
  let G := es.reverse
  (List.range ops.size).all fun j => match G[j]? with
    | some (none, .old k _ _) => (List.range ops.size).all fun i => !earlyOp st ops i k || i == j || (ops[j]?).any fun o => o.after.any fun e => Region.binds .any e && e.on == i
    | _ => true
def roA (st : St Kc) (es : List (AE Kc)) : Bool := es.all fun e => match e.2 with | .old k _ _ => decide (st.ro ≤ k) | _ => true
def onceA (es : List (AE Kc)) : Bool :=
  decide ((es.filterMap fun e => match e with | (none, .put d _ _) => some d | _ => none).Nodup) && decide ((es.filterMap fun e => match e with | (none, .old k _ _) => some k | _ => none).Nodup)
  && decide (((newsOf es).map (·.1)).Nodup) && (newsOf es).all fun n => n.2.2.all (·.oneCell')
def tysOf (P : Program) (ops : List Oper) : List TypeId := ops.filterMap fun o => match o.op with | .buildSlice T _ _ => (match P.underlying T with | some (.slice e) => some e | _ => none) | _ => none
def St.kill (st : St Kc) : St Kc := { st with slots := st.slots.map AV.kill }

def notSlot (y : Operand) (d : Tmp) : Bool := match y with | .tmp t => t != d | _ => true
/-- A variable that is made and stored into at once. -/
def fuseA (P : Program) (st : St Kc) (o : Oper) (rest : List Oper) : Option (St Kc × List Oper) :=
  match o.op, o.dst, o.guard, rest with
  | .alloc T, some d, none, o2 :: rest' => match o2.op, o2.dst, o2.guard with
    | .store T' (.tmp d') y, none, none => if d' == d && notSlot y d && decide (d < st.slots.length) then
        match zerosA (Kc := Kc) P T, sizeT P T', evL st.slot y with
        | some z, some n, .fv (.sc s) => if n == 1 && s.size == 1 && sizeL z == 1 then some ({ st with slots := st.slots.set d (.fv (.sc (.ptr st.blocks.length 0))), blocks := st.blocks ++ [(T, [s])] }, rest') else none
        | some z, some n, .fv (.ag m) => if sizeL m == n && sizeL z == n then some ({ st with slots := st.slots.set d (.fv (.sc (.ptr st.blocks.length 0))), blocks := st.blocks ++ [(T, m)] }, rest') else none
        | _, _, _ => none
      else none
    | _, _, _ => none
  | _, _, _, _ => none
/-- A step that asks nothing. -/
def stepA (P : Program) : Cfg Kc → Option (Cfg Kc)
  | .items todo st => match todo with
    | .code .skip :: k => some (.items k st)
    | .code (.label _) :: k => some (.items k st)
    | .inBlock _ :: k => some (.items k st)
    | .inScope _ :: k => some (.items k st)
    | .code (.seq x y) :: k => some (.items (.code x :: .code y :: k) st)
    | .code (.cond c x y) :: k => match evL st.slot c with
      | .fv (.sc (.lit (.bool t))) => some (.items (.code (if t then x else y) :: k) st)
      | _ => none
    | .code (.block id c) :: k => some (.items (.code c :: .inBlock id :: k) st)
    | .code (.scope c) :: k => some (.items (.code c :: .inScope c :: k) st)
    | .code (.loop c) :: k => some (.items (.code c :: .inLoop c :: k) st)
    | .inLoop c :: k => some (.items (.code c :: .inLoop c :: k) st)
    | .code (.exit id) :: k => (exitTo id k).map fun k' => .items k' st
    | .code (.region _ ops false) :: k => some (.plain ops ops.toList k st)
    | .code (.region _ ops true) :: k => if Region.tyB .any ops st.slots.length then some (.drawn ops ops.toList k st (tysOf P ops.toList) []) else none
    | _ => none
  | .plain ops rest k st => match rest with
    | [] => some (.items k st.kill)
    | o :: rest => match fuseA P st o rest with
     | some (st', rest') => some (.plain ops rest' k st')
     | none => match wantA st.slot ops o with
      | some true => (plainA P st o (opA P (evL st.slot) (st.blocks.map some) o)).map fun st' => .plain ops rest k st'
      | some false => some (.plain ops rest k (st.put o.dst (.tup [])))
      | none => none
  | .drawn ops rest k st Ty es => match rest with
    | [] => if onceA es && earlyA st ops es && roA st es then some (.items k (finishD st es)) else none
    | o :: rest => match putNew P st es o with
      | some e => some (.drawn ops rest k st Ty (e :: es))
      | none => match wantA (slotD st es) ops o with
        | some true => (drawnA P ops st Ty es o (opA P (evL (slotD st es)) (viewA ops st es.length) o)).map fun e => .drawn ops rest k st Ty (e :: es)
        | some false => some (.drawn ops rest k st Ty ((o.dst, .val (.tup [])) :: es))
        | none => none
def runA (P : Program) : Nat → Cfg Kc → Cfg Kc
  | 0, c => c
  | n + 1, c => match stepA P c with | some c' => runA P n c' | none => c
/-- The operation at which the walk stands; what is known there. -/
def Cfg.op : Cfg Kc → Option Oper
  | .plain ops (o :: _) _ st => if wantA st.slot ops o = some true then some o else none
  | .drawn ops (o :: _) _ st _ es => if wantA (slotD st es) ops o = some true then some o else none
  | _ => none
def Cfg.ev : Cfg Kc → Operand → AV Kc
  | .items _ st => evL st.slot
  | .plain _ _ _ st => evL st.slot
  | .drawn _ _ _ st _ es => evL (slotD st es)
def Cfg.mem : Cfg Kc → List (Option (TypeId × List (Seg Kc)))
  | .items _ st => st.blocks.map some
  | .plain _ _ _ st => st.blocks.map some
  | .drawn ops _ _ st _ es => viewA ops st es.length
def Cfg.okT (c : Cfg Kc) (x : AV Kc) : Bool := match c with
  | .drawn _ _ _ _ Ty _ => x.okT Ty
  | _ => true
/-- It goes on with this value. -/
def Cfg.give (c : Cfg Kc) (x : AV Kc) : Cfg Kc := match c with
  | .plain ops (o :: rest) k st => .plain ops rest k (st.put o.dst x)
  | .drawn ops (o :: rest) k st Ty es => .drawn ops rest k st Ty ((o.dst, .val x) :: es)
  | c => c
/-- The call at which the walk stands. -/
def Cfg.callee (P : Program) (c : Cfg Kc) : Option FuncId := match c.op with
  | some o => match opA P c.ev c.mem o with | .call f _ => some f | _ => none
  | none => none
def Cfg.args (P : Program) (c : Cfg Kc) : List (AV Kc) := match c.op with
  | some o => match opA P c.ev c.mem o with | .call _ l => l | _ => []
  | none => []
/-- The results. -/
def resA (P : Program) (st : St Kc) : List ResultVar → Option (List (FV Kc))
  | [] => some []
  | .tmp t :: l => match st.slot t with | .fv f => (resA P st l).map (f :: ·) | _ => none
  | .cell t T :: l => match st.slot t with
    | .fv (.sc (.ptr k off)) => match st.blocks[k]? with
      | some (_, m) => match partA P T m off with | .val (.fv f) => (resA P st l).map (f :: ·) | _ => none
      | none => none
    | _ => none
def Cfg.res (P : Program) (fn : Func) : Cfg Kc → Option (AV Kc)
  | .items todo st => match todo with
    | [] | .code .ret :: _ => match resA P st fn.results.toList with
      | some [f] => some (.fv f)
      | some l => some (.tup l)
      | none => none
    | _ => none
  | _ => none
end Go.Proofs.YtgkpejlddgoalaaGreatDoor.Ab
namespace Go.Proofs.YtgkpejlddgoalaaGreatDoor.Ab
open Go.RowKit

variable {Kc : Value → Bool}

section
variable (P : Program) (f : FuncId) (w00 : World) (Out : Value → World → Prop)
def Rets (e : Ending) (w' : World) : Prop := ∃ v, e = .returned v ∧ Below w00.heap.size w00 w' ∧ Out v w'
def baseF : Frame := { (default : Frame) with fn := f, kind := .normal }
/-- From here the call ends well. -/
def Runs (todo : List Item) (a : Act) (w : World) : Prop :=
  ∀ cs, ∃ e w' fr, Rets w00 Out e w' ∧ Comes P (lone ((baseF f).at a todo) cs w) (lone fr cs w') e ∧ fr.fn = f ∧ fr.leaving P w' e
def QN (k : List Item) : Exit → Act → World → Prop := fun e a w => e = .normal ∧ Runs P f w00 Out k a w
/-- What is known holds. -/
structure Rep (st : St Kc) (β : List Nat) (a : Act) (w : World) : Prop where
  defers : a.defers = []
  size : a.tmps.size = st.slots.length
  slots : ∀ t, (st.slot t).holds β (a.eval (.tmp t)) w
  len : β.length = st.blocks.length
  nodup : β.Nodup
  mem : Mem β (st.blocks.map some) w
  lt : ∀ g ∈ β, g < w.heap.size
  own : ∀ (k g : Nat), β[k]? = some g → k < st.ro ∨ w00.heap.size ≤ g
  below : Below w00.heap.size w00 w
end

section
variable {P : Program} {f : FuncId} {w00 : World} {Out : Value → World → Prop} {st : St Kc} {β : List Nat} {a : Act} {w : World}
theorem Runs.step {todo todo' : List Item} {a' : Act} {w' : World} (h : ∀ cs, step P (lone ((baseF f).at a todo) cs w) = .next (lone ((baseF f).at a' todo') cs w')) (hr : Runs P f w00 Out todo' a' w') : Runs P f w00 Out todo a w := by
  intro cs
  obtain ⟨e, w2, fr, h1, h2, h3⟩ := hr cs
  exact ⟨e, w2, fr, h1, Comes.of_steps (.one (h cs)) h2, h3⟩
theorem Runs.of_wp {c : Code} {k : List Item} (h : c.wp P (QN P f w00 Out k) a w) : Runs P f w00 Out (.code c :: k) a w := by
  intro cs
  obtain ⟨e, a', w', ⟨he, hr⟩, harr⟩ := h (baseF f) k cs
  subst he
  obtain ⟨e, w2, fr, h1, h2, h3⟩ := hr cs
  exact ⟨e, w2, fr, h1, Comes.of_steps harr h2, h3⟩
theorem Rep.ev (h : Rep w00 st β a w) (y : Operand) : (evL st.slot y).holds β (a.eval y) w := by
  cases y with
  | tmp t => exact h.slots t
  | const v => exact constA_holds v
  | func f => exact ⟨rfl, rfl⟩
  | global g => trivial
theorem setS_slot {sl : List (AV Kc)} {bl ro} {dst : Option Tmp} {x : AV Kc} {v : Value} {a : Act} (hs : a.tmps.size = sl.length) (h : ∀ t, (sl.getD t .un).holds β (a.eval (.tmp t)) w) (hx : x.holds β v w) (t : Tmp) :
    (({ slots := setS sl dst x, blocks := bl, ro := ro } : St Kc).slot t).holds β ((a.put dst v).eval (.tmp t)) w := by
  unfold St.slot
  cases dst with
  | none => exact h t
  | some d =>
    simp only [setS]
    by_cases hd : d = t
    · subst hd
      by_cases hlt : d < sl.length
      · rw [Go.Proofs.YtgkpejlddgoalaaGreatDoor.Act.eval_put_hit (show d < a.tmps.size by rw [hs]; exact hlt)]
        simp only [List.getD_eq_getElem?_getD, List.getElem?_set_self hlt, Option.getD_some]
        exact hx
      · rw [List.getD_eq_getElem?_getD, List.getElem?_eq_none (show (sl.set d x).length ≤ d by rw [List.length_set]; exact Nat.le_of_not_lt hlt)]
        trivial
    · rw [Go.Proofs.YtgkpejlddgoalaaGreatDoor.Act.eval_put_miss (by simpa using hd)]
      have := h t
      rw [List.getD_eq_getElem?_getD] at this ⊢
      rw [List.getElem?_set_ne hd]
      exact this
theorem setS_len {sl : List (AV Kc)} {dst : Option Tmp} {x : AV Kc} : (setS sl dst x).length = sl.length := by
  cases dst <;> simp [setS]
/-- A slot is written. -/
theorem Rep.put (h : Rep w00 st β a w) {x : AV Kc} {v : Value} {dst : Option Tmp} (hx : x.holds β v w) : Rep w00 (st.put dst x) β (a.put dst v) w :=
  ⟨by rw [Go.Proofs.YtgkpejlddgoalaaGreatDoor.Act.put_defers]; exact h.defers, by rw [Go.Proofs.YtgkpejlddgoalaaGreatDoor.Act.put_size]; simp only [St.put]; rw [setS_len]; exact h.size, setS_slot h.size h.slots hx, h.len, h.nodup, h.mem, h.lt, h.own, h.below⟩
/-- Memory has grown. -/
theorem Rep.grow (h : Rep w00 st β a w) {w' : World} (hb : Below w.heap.size w w') : Rep w00 st β a w' := by
  refine ⟨h.defers, h.size, fun t => AV.below (h.slots t) hb, h.len, h.nodup, fun k T l hk => ?_, fun g hg => Nat.lt_of_lt_of_le (h.lt g hg) hb.size, h.own, ?_⟩
  · obtain ⟨g, cs, h1, h2, h3⟩ := h.mem k T l hk
    exact ⟨g, cs, h1, (hb.block g (lt_of_block h2)).trans h2, h3.ext (Go.Proofs.YtgkpejlddgoalaaGreatDoor.Ext.of_below hb)⟩
  · exact h.below.trans (hb.mono h.below.size)
theorem grow_alloc (w : World) (o : Obj) : Below w.heap.size w (w.alloc o) := (Below.refl _ _).alloc (Nat.le_refl _) _
theorem Mem.more {bl : List (Option (TypeId × List (Seg Kc)))} {γ : List Nat} (h : Mem β bl w) : Mem (β ++ γ) bl w := by
  intro k T l hk
  obtain ⟨g, cs, h1, h2, h3⟩ := h k T l hk
  exact ⟨g, cs, by rw [List.getElem?_append_left (List.getElem?_eq_some_iff.1 h1).1]; exact h1, h2, h3.more⟩
/-- A new block. -/
theorem Rep.new (h : Rep w00 st β a w) {T : TypeId} {l : List (Seg Kc)} {cs : List Value} {d : Tmp} (hl : holdsL β l cs w) :
    Rep w00 { st with slots := st.slots.set d (.fv (.sc (.ptr st.blocks.length 0))), blocks := st.blocks ++ [(T, l)] } (β ++ [w.heap.size]) (a.put (some d) (.pointer (some ⟨w.heap.size, 0, none⟩))) (w.alloc (.cells cs.toArray T)) := by
  have hb := grow_alloc w (.cells cs.toArray T)
  have h' := h.grow hb
  have hnew : (β ++ [w.heap.size])[st.blocks.length]? = some w.heap.size := by rw [← h.len]; simp
  refine ⟨by rw [Go.Proofs.YtgkpejlddgoalaaGreatDoor.Act.put_defers]; exact h.defers, by rw [Go.Proofs.YtgkpejlddgoalaaGreatDoor.Act.put_size]; simp; exact h.size, ?_, by simp [h.len], ?_, ?_, ?_, ?_, h'.below⟩
  · exact setS_slot (dst := some d) h.size (fun t => AV.more (h'.slots t)) (ptr_hold hnew)
  · rw [List.nodup_append]
    exact ⟨h.nodup, by simp, fun x hx y hy e => by
      rw [List.mem_singleton] at hy
      have := h.lt x hx
      omega⟩
  · intro k T' l' hk
    rw [List.map_append, List.getElem?_append] at hk
    split at hk
    · exact Mem.more h'.mem k T' l' hk
    · rename_i hge
      rw [List.length_map] at hge hk
      rw [List.map_singleton] at hk
      have hk0 : k - st.blocks.length = 0 := by
        rcases Nat.eq_zero_or_pos (k - st.blocks.length) with e | e
        · exact e
        · rw [List.getElem?_eq_none (by simp; omega)] at hk; cases hk
      rw [hk0] at hk
      simp only [List.getElem?_cons_zero, Option.some.injEq, Prod.mk.injEq] at hk
      obtain ⟨rfl, rfl⟩ := hk
      have hke : k = st.blocks.length := by omega
      subst hke
      exact ⟨w.heap.size, cs, hnew, heap_alloc_new w _, (hl.ext (Go.Proofs.YtgkpejlddgoalaaGreatDoor.Ext.of_below hb)).more⟩
  · intro g hg
    rw [show (w.alloc (.cells cs.toArray T)).heap.size = w.heap.size + 1 by simp]
    rcases List.mem_append.1 hg with hg | hg
    · have := h.lt g hg; omega
    · rw [List.mem_singleton] at hg; omega
  · intro k g hk
    rw [List.getElem?_append] at hk
    split at hk
    · exact h.own k g hk
    · have := List.mem_of_getElem? hk
      rw [List.mem_singleton] at this
      subst this
      exact .inr h.below.size
/-- A block that was made and stored into. -/
theorem Rep.own_new (h : Rep w00 st β a w) {T : TypeId} {l : List (Seg Kc)} {cs : List Value} {d : Tmp} {g : Nat} (hg : g ∉ β) (hge : w00.heap.size ≤ g) (hlt : g < w.heap.size) (hh : w.heap[g]? = some (.cells cs.toArray T (0, 0))) (hl : holdsL β l cs w) :
    Rep w00 { st with slots := st.slots.set d (.fv (.sc (.ptr st.blocks.length 0))), blocks := st.blocks ++ [(T, l)] } (β ++ [g]) (a.put (some d) (.pointer (some ⟨g, 0, none⟩))) w := by
  have hnew : (β ++ [g])[st.blocks.length]? = some g := by rw [← h.len]; simp
  refine ⟨by rw [Go.Proofs.YtgkpejlddgoalaaGreatDoor.Act.put_defers]; exact h.defers, by rw [Go.Proofs.YtgkpejlddgoalaaGreatDoor.Act.put_size]; simp; exact h.size, ?_, by simp [h.len], ?_, ?_, ?_, ?_, h.below⟩
  · exact setS_slot (dst := some d) h.size (fun t => AV.more (h.slots t)) (ptr_hold hnew)
  · rw [List.nodup_append]
    exact ⟨h.nodup, by simp, fun x hx y hy e => by
      rw [List.mem_singleton] at hy
      subst hy
      subst e
      exact hg hx⟩
  · intro k T' l' hk
    rw [List.map_append, List.getElem?_append] at hk
    split at hk
    · exact Mem.more h.mem k T' l' hk
    · rename_i hge'
      rw [List.length_map] at hge' hk
      rw [List.map_singleton] at hk
      have hk0 : k - st.blocks.length = 0 := by
        rcases Nat.eq_zero_or_pos (k - st.blocks.length) with e | e
        · exact e
        · rw [List.getElem?_eq_none (by simp; omega)] at hk; cases hk
      rw [hk0] at hk
      simp only [List.getElem?_cons_zero, Option.some.injEq, Prod.mk.injEq] at hk
      obtain ⟨rfl, rfl⟩ := hk
      have hke : k = st.blocks.length := by omega
      subst hke
      exact ⟨g, cs, hnew, hh, hl.more⟩
  · intro g' hg'
    rcases List.mem_append.1 hg' with hg' | hg'
    · exact h.lt g' hg'
    · rw [List.mem_singleton] at hg'; omega
  · intro k g' hk
    rw [List.getElem?_append] at hk
    split at hk
    · exact h.own k g' hk
    · have := List.mem_of_getElem? hk
      rw [List.mem_singleton] at this
      subst this
      exact .inr hge
theorem killT_holds {T : TypeId} {x : AV Kc} {v : Value} {w w' : World} {g : Nat} {o : Obj} {cs0 : Array Value} (ht : Turned g o w w') (h0 : w.heap[g]? = some (.cells cs0 T (0, 0))) (hx : Go.Proofs.YtgkpejlddgoalaaGreatDoor.Ext Kc w w') (h : x.holds β v w) : (x.killT T).holds β v w' := by
  have hF : ∀ {y : FV Kc} {u : Value}, y.holds β u w → y.kill.holds β u w' := fun {y u} hy => by
    cases y with
    | sc s => exact Seg.ext hy hx
    | ag l => obtain ⟨cs, e, hl⟩ := hy; exact ⟨cs, e, hl.ext hx⟩
    | nsl n T l => trivial
    | clo F a b => obtain ⟨xs, ys, e, h1, h2⟩ := hy; exact ⟨xs, ys, e, h1.ext hx, h2.ext hx⟩
    | un => trivial
  cases x with
  | fv y =>
    cases y with
    | clo F a b => exact hF (y := .clo F a b) h
    | nsl n T' l =>
      simp only [AV.killT]
      split
      · trivial
      · rename_i hne
        obtain ⟨g', cs, e, hg, hl⟩ := h
        refine ⟨g', cs, e, ?_, hl.ext hx⟩
        have : g' ≠ g := fun e => by
          subst e
          rw [h0] at hg
          injection hg with hg
          injection hg with _ hg
          exact hne (by simpa using hg)
        rw [ht.block g' this]; exact hg
    | sc s => exact hF (y := .sc s) h
    | ag l => exact hF (y := .ag l) h
    | un => trivial
  | tup l =>
    obtain ⟨vs, e, hl⟩ := h
    refine ⟨vs, e, ?_⟩
    clear e
    induction l generalizing vs with
    | nil => exact hl
    | cons y l ih =>
      obtain ⟨v, r, e, h1, h2⟩ := hl
      exact ⟨v, r, e, hF h1, ih _ h2⟩
theorem getElem?_ptr_ne {i j g : Nat} {l : List Nat} (hn : l.Nodup) (hi : l[i]? = some g) (hj : l[j]? = some g) : i = j := nodup_get hn hi hj
/-- A store. -/
theorem Rep.store (hK : KOk Kc) (h : Rep w00 st β a w) {k g : Nat} {T : TypeId} {l l' : List (Seg Kc)} {cs ds : List Value} {w' : World} (hk : st.blocks[k]? = some (T, l)) (hg : β[k]? = some g)
    (hh : w.heap[g]? = some (.cells cs.toArray T (0, 0))) (hl : holdsL β l cs w) (hc : coldL l = true) (hro : st.ro ≤ k) (ht : Turned g (.cells ds.toArray T (0, 0)) w w') (hd : holdsL β l' ds w) :
    Rep w00 { st with slots := st.slots.map (AV.killT T), blocks := st.blocks.set k (T, l') } β a w' := by
  have hcold : Go.Proofs.YtgkpejlddgoalaaGreatDoor.hotObj Kc (.cells cs.toArray T (0, 0)) = false := by
    simp only [Go.Proofs.YtgkpejlddgoalaaGreatDoor.hotObj]
    rw [Array.any_eq_false']
    intro c hm
    simpa using holdsL.iscold hK hl hc c (by simpa using hm)
  have hx : Go.Proofs.YtgkpejlddgoalaaGreatDoor.Ext Kc w w' := by
    refine ⟨by rw [ht.size]; exact Nat.le_refl _, fun g' o hg' ho => ?_⟩
    by_cases e : g' = g
    · subst e
      rw [hh] at hg'
      injection hg' with hg'
      subst hg'
      rw [hcold] at ho
      cases ho
    · rw [ht.block g' e]; exact hg'
  have hge : w00.heap.size ≤ g := (h.own k g hg).resolve_left (by omega)
  refine ⟨h.defers, by simp; exact h.size, fun t => ?_, by simp [h.len], h.nodup, ?_, fun g' hg' => by rw [ht.size]; exact h.lt g' hg', h.own, ?_⟩
  · have := killT_holds (β := β) ht hh hx (h.slots t)
    unfold St.slot at this ⊢
    simp only [List.getD_eq_getElem?_getD, List.getElem?_map] at this ⊢
    cases he : st.slots[t]? with
    | none => trivial
    | some y => rw [he] at this; exact this
  · intro k' T' m hk'
    rw [List.getElem?_map] at hk'
    by_cases e : k' = k
    · subst e
      rw [List.getElem?_set_self (List.getElem?_eq_some_iff.1 hk).1] at hk'
      simp only [Option.map_some, Option.some.injEq, Prod.mk.injEq] at hk'
      obtain ⟨rfl, rfl⟩ := hk'
      exact ⟨g, ds, hg, ht.at_, hd.ext hx⟩
    · rw [List.getElem?_set_ne (Ne.symm e), ← List.getElem?_map] at hk'
      obtain ⟨g', cs', h1, h2, h3⟩ := h.mem k' T' m hk'
      have : g' ≠ g := fun e' => by subst e'; exact e (nodup_get h.nodup h1 hg)
      exact ⟨g', cs', h1, by rw [ht.block g' this]; exact h2, h3.ext hx⟩
  · refine ⟨ht.os.trans h.below.os, ht.tape.trans h.below.tape, ht.output.trans h.below.output, by rw [ht.size]; exact h.below.size, fun k' hk' => ?_⟩
    rw [ht.block k' (by omega)]
    exact h.below.block k' hk'
theorem kill_holds {x : AV Kc} {v : Value} (h : x.holds β v w) : x.kill.holds β v w := by
  have hF : ∀ {y : FV Kc} {u : Value}, y.holds β u w → y.kill.holds β u w := fun {y u} hy => by
    cases y <;> first | exact hy | trivial
  cases x with
  | fv y => exact hF h
  | tup l =>
    obtain ⟨vs, e, hl⟩ := h
    refine ⟨vs, e, ?_⟩
    clear e
    induction l generalizing vs with
    | nil => exact hl
    | cons y l ih =>
      obtain ⟨v, r, e, h1, h2⟩ := hl
      exact ⟨v, r, e, hF h1, ih _ h2⟩
theorem Rep.kill (h : Rep w00 st β a w) : Rep w00 st.kill β a w := by
  refine ⟨h.defers, by simp [St.kill]; exact h.size, fun t => ?_, h.len, h.nodup, h.mem, h.lt, h.own, h.below⟩
  have := kill_holds (h.slots t)
  unfold St.slot St.kill at *
  simp only [List.getD_eq_getElem?_getD, List.getElem?_map] at this ⊢
  cases he : st.slots[t]? with
  | none => trivial
  | some y => rw [he] at this; exact this
theorem wanted_un {ops : Array Oper} {o : Oper} {A : Act} {j : Nat} {want : Bool} {d : Tmp} (hg : o.guard = some (j, want)) (hd : (ops[j]?).bind (·.dst) = some d) (h : A.eval (.tmp d) = .tuple #[]) :
    Region.wanted o (yielded ops A.tmps) = false := by
  have hy : yielded ops A.tmps j = none := by
    unfold yielded
    rw [hd]
    have h2 : A.tmps[d]?.getD undef = .tuple #[] := by simpa [Act.eval] using h
    cases h3 : A.tmps[d]? with
    | none => simp [h3]
    | some v =>
      rw [h3] at h2
      have h4 : v = .tuple #[] := h2
      subst h4
      simp [h3]
  unfold Region.wanted
  rw [hg]
  simp [hy]
theorem Rep.wants (h : Rep w00 st β a w) {ops : Array Oper} {o : Oper} {b : Bool} (hw : wantA st.slot ops o = some b) : Region.wanted o (yielded ops a.tmps) = b := by
  unfold wantA at hw
  split at hw
  · rename_i hg
    injection hw with hw
    subst hw
    simp [Region.wanted, hg]
  · rename_i j want hg
    split at hw
    · rename_i d hd
      split at hw
      · rename_i b' hb
        injection hw with hw
        have := h.slots d
        rw [hb] at this
        have hv := hold_lit this
        rw [Go.Proofs.YtgkpejlddgoalaaGreatDoor.wanted_is hg hd hv]
        exact hw
      · rename_i hb
        injection hw with hw
        subst hw
        have := h.slots d
        rw [hb] at this
        obtain ⟨vs, e, e2⟩ := this
        rw [show vs = [] from e2] at e
        exact wanted_un hg hd e
      · cases hw
    · cases hw
end
end Go.Proofs.YtgkpejlddgoalaaGreatDoor.Ab
