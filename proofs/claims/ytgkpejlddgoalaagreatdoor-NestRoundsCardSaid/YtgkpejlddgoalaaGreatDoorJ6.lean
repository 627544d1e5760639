/- Parts of the proof, joined. -/
import Derived.Test.YtgkpejlddgoalaaGreatDoorJ5
import Derived.RangeFuncNested
import Derived.Laws.IdiomStrings
set_option linter.unusedSimpArgs false
set_option linter.unusedVariables false
set_option linter.constructorNameAsVariable false
namespace Go.Proofs.YtgkpejlddgoalaaGreatDoor.Zm
open Go.RowKit
open Go.Proofs.YtgkpejlddgoalaaGreatDoor.Ab (evalP evalP_run)

section
variable {P : Program} {gl : List Nat} {call : CallFn} {imp : FuncId → Bool} {ev : Operand → V} {H H' : Hp} {σ τ : Env} {w w' : World} {ρ : Operand → Value} {o : Oper} {x : V} {ro : Nat}
theorem Does.of_val (h : valW P ev H o = some x) (hs : ∀ y ∈ o.op.operands, (ev y).holds σ (ρ y)) (hm : HRep σ H w) : Does P ρ o w (Yields σ H ro w x H) := by
  obtain ⟨v, h1, h2⟩ := valW_ok h hs hm
  exact .inl ⟨v, w, h1, σ, Left.refl ro hm, h2⟩
theorem putObj_turned {g : Nat} {o ob : Obj} (h : w.heap[g]? = some ob) : Ab.Turned g o w (w.putObj g o) :=
  ⟨rfl, rfl, rfl, World.putObj_size, World.putObj_heap_same (lt_of_at h), fun k hk => World.putObj_heap_other hk⟩
theorem Left.split (h : Left σ H H.length w H' τ w') : H' = H ++ H'.drop H.length := by
  apply List.ext_getElem?
  intro k
  by_cases hk : k < H.length
  · rw [List.getElem?_append_left hk]; exact h.old k hk hk
  · rw [List.getElem?_append_right (by omega), List.getElem?_drop]; congr 1; omega
theorem HRep.same (hm : HRep σ H w) (he : w'.heap = w.heap) : HRep σ H w' :=
  ⟨fun k b hb => Blk.up (Env.le_refl _) (fun _ g n _ => by rw [he]) (hm.blk k b hb), hm.inj, fun k g n hl e => by rw [he]; exact hm.lt k g n hl e, hm.dom⟩
theorem Left.same {w1 : World} (h : Left σ H ro w.drew H' τ w1) : Left σ H ro w H' τ w1 :=
  ⟨h.le, h.rep, ⟨h.base.os, h.base.tape, h.base.output, h.base.size, h.base.block⟩, h.own, h.grow, h.old, h.new⟩
theorem iterZ_ok (h : iterZ P ev H ro o = some (x, H')) (hs : ∀ y ∈ o.op.operands, (ev y).holds σ (ρ y)) (hm : HRep σ H w) : Does P ρ o w (Yields σ H ro w x H') := by
  obtain ⟨dst, op, type, pos, after, guard⟩ := o
  cases op <;> simp only [iterZ] at h
  case range T y =>
    have hv := hs y (by simp [Op.operands])
    split at h
    · rename_i s hy hu
      simp only [Option.some.injEq, Prod.mk.injEq] at h
      obtain ⟨rfl, rfl⟩ := h
      rw [hy] at hv
      have hv := hold_lv hv
      refine .inl ⟨.pointer (some ⟨w.heap.size, 0, none⟩), w.alloc (.stringIter s 0), ?_, _, Left.push (n := 0) ro hm ⟨w.heap.size, 0, Env.new_at, World.alloc_heap_new _ _⟩, ⟨w.heap.size, _, Env.new_at, rfl⟩⟩
      simp only [execOp]
      refine Ab.run_v ?_
      simp [Instr.range, Sem.run_bind, run_underlying hu, Result.andThen, hv]
    · cases h
  case next y b =>
    have hv := hs y (by simp [Op.operands])
    cases b with
    | false => cases h
    | true =>
      simp only at h
      split at h
      · rename_i k hy
        rw [hy] at hv
        obtain ⟨g, n, e, hv⟩ := hv
        split at h
        · rename_i s p hk
          obtain ⟨g', n', e', h4⟩ := hm.blk _ _ hk
          rw [e] at e'
          simp only [Option.some.injEq, Prod.mk.injEq] at e'
          obtain ⟨rfl, rfl⟩ := e'
          split at h
          · rename_i hro
            split at h
            · rename_i hp
              simp only [Option.some.injEq, Prod.mk.injEq] at h
              obtain ⟨rfl, rfl⟩ := h
              have ht := putObj_turned (o := .stringIter s (p + (Utf8.decode s p).2)) h4
              refine .inl ⟨.tuple #[.bool true, .int .i64 p, .int .i32 (Utf8.decode s p).1], w.putObj g (.stringIter s (p + (Utf8.decode s p).2)), ?_, σ, Left.turn hm hk rfl hro e ht ⟨g, n, e, ht.at_⟩, _, rfl, _, _, rfl, ⟨rfl, rfl⟩, _, _, rfl, ⟨rfl, rfl⟩, _, _, rfl, ⟨rfl, rfl⟩, rfl⟩
              simp only [execOp]
              refine Ab.run_v ?_
              rw [hv]
              simp only [Instr.next, getObj, setObj, Sem.run_bind, Sem.run, h4, Result.andThen, hp, if_true]
              simp [goInt, World.putObj]
            · rename_i hp
              simp only [Option.some.injEq, Prod.mk.injEq] at h
              obtain ⟨rfl, rfl⟩ := h
              refine .inl ⟨.tuple #[.bool false], w, ?_, σ, Left.refl ro hm, _, rfl, _, _, rfl, ⟨rfl, rfl⟩, rfl⟩
              simp only [execOp]
              refine Ab.run_v ?_
              rw [hv]
              simp [Instr.next, getObj, Sem.run, h4, hp]
          · cases h
        · cases h
      · cases h
  all_goals (cases h)
theorem rowZ_ok (h : rowZ P ev H o = some (x, H')) (hs : ∀ y ∈ o.op.operands, (ev y).holds σ (ρ y)) (hm : HRep σ H w) : Does P ρ o w (Yields σ H ro w x H') := by
  obtain ⟨dst, op, type, pos, after, guard⟩ := o
  cases op <;> simp only [rowZ] at h
  case convert s d y =>
    have hv := hs y (by simp [Op.operands])
    split at h
    · rename_i t e hy hs1 hd1
      split at h
      · rename_i he
        split at h
        · rename_i ht
          simp only [Option.some.injEq, Prod.mk.injEq] at h
          obtain ⟨rfl, rfl⟩ := h
          rw [hy] at hv
          have hv := hold_lv hv
          have hrun := run_bytes_of_string (P := P) w s d e t hs1 hd1 he
          generalize hcap : grownCap w t.size 0 e = cap at hrun
          have hc1 : t.size ≤ cap ∧ cap ≤ maxLen := by
            rw [← hcap]
            unfold grownCap
            simp only [Question.cut]
            have : w.tape w.drawn (.appendCap t.size 0 e) % (2 ^ 63 - t.size) < 2 ^ 63 - t.size := Nat.mod_lt _ (by omega)
            unfold maxLen
            omega
          have hsz : (bytesRow t cap).toList = (t.data.toList.map fun b => Value.int .u8 b.toNat) ++ List.replicate (cap - t.size) (.int .u8 0) := by simp [bytesRow]
          have hlen : (t.data.toList.map fun b => Value.int .u8 b.toNat).length = t.size := by simp
          have hl : holdsC (σ.new H.length (w.heap.size, cap)) (t.data.toList.map fun b => lc (.int .u8 b.toNat)) (t.data.toList.map fun b => Value.int .u8 b.toNat) := by
            have := litsC (σ := σ.new H.length (w.heap.size, cap)) (vs := t.data.toList.map fun b => Value.int .u8 b.toNat) (List.all_eq_true.2 fun v hv => by obtain ⟨b, _, rfl⟩ := List.mem_map.1 hv; rfl)
            rw [List.map_map] at this
            exact this
          have hpush := Left.push (ob := .cells (bytesRow t cap) e ((bytesRow t cap).size, (bytesRow t cap).size + 1)) (n := cap) (b := .ro e (t.data.toList.map fun b => lc (.int .u8 b.toNat))) ro (w := w.drew) (HRep.same hm rfl) ⟨w.heap.size, (t.data.toList.map fun b => Value.int .u8 b.toNat), List.replicate (cap - t.size) (.int .u8 0), _, _, by
            rw [show w.drew.heap.size = w.heap.size from rfl, Env.new_at, List.length_append, hlen, List.length_replicate]; congr 2; omega, by
            rw [← hsz]; exact World.alloc_heap_new _ _, hl⟩
          refine .inl ⟨_, _, ?_, _, Left.same hpush, ⟨w.heap.size, cap, cap, Env.new_at, by omega, hc1.1, hc1.2, rfl⟩⟩
          simp only [execOp]
          refine Ab.run_v ?_
          rw [hv]
          exact hrun
        · cases h
      · cases h
    · cases h
  all_goals (cases h)
theorem litsW_holds : ∀ {l : List V} {us vs : List Value}, litsV l = some us → holdsV σ l vs → vs = us
  | [], _, _, h, h' => by injection h with h; rw [show _ = _ from h', h]
  | y :: l, us, _, h, ⟨v, r, e, h1, h2⟩ => by
    simp only [litsV] at h
    split at h
    · rename_i u r' hu hr
      injection h with h
      rw [e, ← h, litZ_holds hu h1, litsW_holds hr h2]
    · cases h
theorem constT_holds (v : Value) : (constT v).holds σ v := by
  have key : ∀ {cs : List Value}, cs.all (·.oneCell') = true → holdsF σ (cs.map fun v => .one (lc v)) cs := fun {cs} => by
    induction cs with
    | nil => intro _; rfl
    | cons c cs ih =>
      intro h
      rw [List.all_cons, Bool.and_eq_true] at h
      exact ⟨c, cs, rfl, ⟨rfl, h.1⟩, ih h.2⟩
  unfold constT
  split
  · split
    · rename_i h
      exact ⟨_, rfl, key h⟩
    · trivial
  · exact constZ_holds _
theorem exnZ_ok {t : Tg} {args : List V} {vs : List Value} (h : exnZ P t args = some x) (ha : holdsV σ args vs) : ∃ f v, t = .fn f ∧ (callFunc f vs.toArray).run P w = .ok (.value v) w ∧ x.holds σ v := by
  cases t with
  | yl k => cases h
  | fn f =>
    unfold exnZ at h
    simp only at h
    split at h
    · rename_i fn hf
      split at h
      · rename_i hb
        split at h
        · rename_i us e hl h3 h4
          split at h
          · cases h
          · rename_i hn
            split at h
            · rename_i v hv
              injection h with h
              subst h
              have e1 := litsW_holds hl ha
              subst e1
              refine ⟨f, v, rfl, ?_, constT_holds v⟩
              have h5 : (fn.name == "runtime.NumGoroutine") = false := by simpa using hn
              unfold callFunc
              rw [Sem.run_bind]
              have h2 : (program).run P w = .ok P w := rfl
              rw [h2]
              have h6 := evalP_run hv w
              simp only [Result.andThen, hf, h5, hb, h3, h4, Bool.false_eq_true, if_false, if_true, Sem.run_bind]
              simp [mark, Sem.run, Result.andThen, h6]
            · cases h
        · cases h
      · cases h
    · cases h
theorem doZ_ok (hC : CallOkAt P gl call w) (hro : ro ≤ H.length) (hgl : GlOk gl σ) (h : doZ P call imp ev H ro o = some (x, H')) (hs : ∀ y ∈ o.op.operands, (ev y).holds σ (ρ y)) (hm : HRep σ H w) : Does P ρ o w (Yields σ H ro w x H') := by
  have hval : ∀ {y : V} {G : Hp}, (match valW P ev H o with | some x => some (x, H) | none => none) = some (y, G) → Does P ρ o w (Yields σ H ro w y G) := fun {y G} h => by
    split at h
    · rename_i x' hx
      simp only [Option.some.injEq, Prod.mk.injEq] at h
      obtain ⟨rfl, rfl⟩ := h
      exact Does.of_val hx hs hm
    · cases h
  have hnew : ∀ {y : V} {G : Hp}, (match newZ P ev H o with | some (x, b) => some (x, H ++ [b]) | none => none) = some (y, G) → Does P ρ o w (Yields σ H ro w y G) := fun {y G} h => by
    split at h
    · rename_i x' b hx
      simp only [Option.some.injEq, Prod.mk.injEq] at h
      obtain ⟨rfl, rfl⟩ := h
      exact newZ_ok ro hx hs hm
    · cases h
  unfold doZ at h
  split at h
  · split at h
    · rename_i G hst
      simp only [Option.some.injEq, Prod.mk.injEq] at h
      obtain ⟨rfl, rfl⟩ := h
      exact storeZ_ok hst hs hm
    · cases h
  · exact hnew h
  · exact hnew h
  · exact hnew h
  · exact growZ_ok h hs hm
  · exact iterZ_ok h hs hm
  · exact iterZ_ok h hs hm
  · split at h
    · rename_i r hr
      injection h with h
      subst h
      exact rowZ_ok hr hs hm
    · exact hval h
  · split at h
    · exact growZ_ok h hs hm
    · split at h
      · rename_i t args hcal
        obtain ⟨vs, hargs, hrun⟩ := calleeZ_ok (P := P) (w := w) hcal hs
        split at h
        · rename_i y hex
          simp only [Option.some.injEq, Prod.mk.injEq] at h
          obtain ⟨rfl, rfl⟩ := h
          obtain ⟨f, v, rfl, h1, h2⟩ := exnZ_ok (P := P) (w := w) hex hargs
          exact .inl ⟨v, w, hrun.trans h1, σ, Left.refl ro hm, h2⟩
        have fin : ∀ {H1 : Hp} {r : Nat} {y : V}, r ≤ H.length → call t args H r = some (y, H1) → ∀ {R : Value → World → Prop}, (∀ v w', Yields σ H r w y H1 v w' → R v w') → Does P ρ o w R := fun {H1 r y} hr hcall {R} hR => by
          have := hC t args H r y H1 hcall σ vs hr hm hgl hargs
          cases t with
          | fn g =>
            obtain ⟨h1, h2⟩ := this
            exact .inr (.inr (.inl ⟨g, vs.toArray, hrun.trans (h1 _ _), h2.mono fun e w' ⟨v, e1, e2⟩ => ⟨v, e1, hR v w' e2⟩⟩))
          | yl k =>
            obtain ⟨g, n, e, fn, tmps, as, bd, h1, h2⟩ := this
            obtain ⟨g', n', e', h3⟩ := hrun
            rw [e] at e'
            simp only [Option.some.injEq, Prod.mk.injEq] at e'
            obtain ⟨rfl, rfl⟩ := e'
            exact .inr (.inr (.inr ⟨g, fn, tmps, as, bd, h3.trans h1, h2.mono hR⟩))
        split at h
        · exact fin hro h fun v w' e => e
        · split at h
          · rename_i x' G hcall
            split at h
            · rename_i hin
              simp only [Option.some.injEq, Prod.mk.injEq] at h
              obtain ⟨rfl, rfl⟩ := h
              exact fin (Nat.le_refl _) hcall fun v w' ⟨τ, e2, e3⟩ => ⟨σ, Left.forget hm e2, V.down hm.known e2.le hin e3⟩
            · simp only [Option.some.injEq, Prod.mk.injEq] at h
              obtain ⟨rfl, rfl⟩ := h
              exact fin (Nat.le_refl _) hcall fun v w' ⟨τ, e2, e3⟩ => ⟨τ, by rw [← e2.split]; exact Left.weaken hm e2, e3⟩
          · cases h
      · cases h
    · exact hval h
  · exact hval h
end

/-- What a walk knows of a frame holds. -/
structure FRep (gl : List Nat) (σ : Env) (s : Sz) (a : Act) (w : World) : Prop where
  glob : GlOk gl σ
  defers : ∃ ds : List Nat, a.defers = ds.map (fun r => { target := .collected r, args := #[] }) ∧ ds.length = s.zm.length ∧ ∀ (i : Nat) k, s.zm[i]? = some k → ∃ r n, ds[i]? = some r ∧ σ k = some (r, n)
  size : a.tmps.size = s.zs.n
  slots : ∀ t, (s.zs.get t).holds σ (a.eval (.tmp t))
  mem : HRep σ s.zh w
  ro : s.zr ≤ s.zh.length
section
variable {P : Program} {gl : List Nat} {call : CallFn} {imp : FuncId → Bool} {s s' : Sz} {a : Act} {σ τ : Env} {w w' : World} {x : V} {v : Value} {H' : Hp} {dst : Option Tmp}
theorem putS_holds {l : Sl} (hs : a.tmps.size = l.n) (h : ∀ t, (l.get t).holds σ (a.eval (.tmp t))) (hx : x.holds σ v) (t : Tmp) : ((putS l dst x).get t).holds σ ((a.put dst v).eval (.tmp t)) := by
  cases dst with
  | none => exact h t
  | some d =>
    simp only [putS]
    by_cases hd : d = t
    · subst hd
      by_cases hlt : d < l.n
      · rw [Go.Proofs.YtgkpejlddgoalaaGreatDoor.Act.eval_put_hit (show d < a.tmps.size by rw [hs]; exact hlt), Sl.get_same hlt]
        exact hx
      · rw [Sl.put_ge hlt]
        have h1 := h d
        have : (a.put (some d) v).eval (.tmp d) = a.eval (.tmp d) := by
          have : ¬ d < a.tmps.size := by rw [hs]; exact hlt
          simp [Act.put, Act.eval, this]
        rw [this]; exact h1
    · rw [Go.Proofs.YtgkpejlddgoalaaGreatDoor.Act.eval_put_miss (by simpa using hd), Sl.get_ne hd]
      exact h t
theorem putS_len {l : Sl} : (putS l dst x).n = l.n := by cases dst <;> simp [putS, Sl.put_n]
theorem FRep.put (h : FRep gl σ s a w) (hl : Left σ s.zh s.zr w H' τ w') (hx : x.holds τ v) : FRep gl τ { s with zs := putS s.zs dst x, zh := H' } (a.put dst v) w' := by
  obtain ⟨ds, h1, h2, h3⟩ := h.defers
  refine ⟨h.glob.up hl.le, ⟨ds, by rw [Go.Proofs.YtgkpejlddgoalaaGreatDoor.Act.put_defers]; exact h1, h2, fun i k hk => ?_⟩, by rw [Go.Proofs.YtgkpejlddgoalaaGreatDoor.Act.put_size]; simp only [putS_len]; exact h.size, putS_holds h.size (fun t => V.up hl.le (h.slots t)) hx, hl.rep, Nat.le_trans h.ro hl.grow⟩
  obtain ⟨r, n, e1, e2⟩ := h3 i k hk
  exact ⟨r, n, e1, hl.le _ _ e2⟩
theorem wanted_unZ {ops : Array Oper} {o : Oper} {A : Act} {j : Nat} {want : Bool} {d : Tmp} (hg : o.guard = some (j, want)) (hd : (ops[j]?).bind (·.dst) = some d) (h : A.eval (.tmp d) = .tuple #[]) :
    Region.wanted o (yielded ops A.tmps) = false := Go.Proofs.YtgkpejlddgoalaaGreatDoor.Ab.wanted_un hg hd h
theorem FRep.wants (h : FRep gl σ s a w) {ops : Array Oper} {o : Oper} {b : Bool} (hw : wantZ s.zs ops o = some b) : Region.wanted o (yielded ops a.tmps) = b := by
  unfold wantZ at hw
  split at hw
  · rename_i hg
    injection hw with hw
    subst hw
    simp [Region.wanted, hg]
  · rename_i j want hg
    split at hw
    · rename_i d hd
      have hsl := h.slots d
      split at hw
      · rename_i b' hb
        injection hw with hw
        rw [hb] at hsl
        rw [Go.Proofs.YtgkpejlddgoalaaGreatDoor.wanted_is hg hd (hold_lv hsl)]
        exact hw
      · rename_i hb
        injection hw with hw
        subst hw
        rw [hb] at hsl
        obtain ⟨vs, e, e2⟩ := hsl
        rw [show vs = [] from e2] at e
        exact wanted_unZ hg hd e
      · cases hw
    · cases hw
/-- No operation of these is a defer statement. -/
def noDefer (o : Oper) : Bool := match o.op with | .defer _ => false | _ => true
theorem does_step {ops : Array Oper} {i : Nat} {rest : List Nat} {o : Oper} {b : Frame} {k : List Item} {cs : List Frame} {R : Value → World → Prop} (ho : ops[i]? = some o) (hw : Region.wanted o (yielded ops a.tmps) = true) (hd : noDefer o = true)
    (h : Does P a.eval o w R) : ∃ v w', R v w' ∧ Steps P (lone (b.atR a (.inRegion ops (i :: rest) :: k)) cs w) (lone (b.atR (a.put o.dst v) (.inRegion ops rest :: k)) cs w') := by
  have hg := stepGR_op (P := P) (b := b) (k := k) (cs := cs) (w := w) (rest := rest) ho hw
  rw [Oper.semAt_eq _ _ _ (fun c hc => by rw [noDefer, hc] at hd; cases hd)] at hg
  have hfin : ∀ v, (b.atR a (.inRegion ops (i :: rest) :: k)).finish v = b.atR (a.put o.dst v) (.inRegion ops rest :: k) := by
    intro v; rw [Frame.finish_atR, ho]; rfl
  rcases h with ⟨v, w', hr, hR⟩ | ⟨w', hr, hR⟩ | ⟨f, args, hr, hC⟩ | ⟨l, f, tmps, as, bd, hr, hC⟩
  · refine ⟨v, w', hR, Steps.one (step_lone_go ?_)⟩
    rw [hg, ← hfin]; simp [stepG.apply, hr]
  · refine ⟨undef, w', hR, Steps.one (step_lone_go ?_)⟩
    rw [hg, ← hfin]; simp [stepG.apply, hr]
  · obtain ⟨e, w'', fr, ⟨v, he, hR⟩, hsteps, _, hleave⟩ := hC (b.atR a (.inRegion ops (i :: rest) :: k) :: cs)
    subst he
    have henter : step P (lone (b.atR a (.inRegion ops (i :: rest) :: k)) cs w) =
        .next (lone (Frame.enter P f args .normal) (b.atR a (.inRegion ops (i :: rest) :: k) :: cs) w) :=
      step_lone_go (by rw [hg]; simp [stepG.apply, hr, Frame.atR])
    refine ⟨v, w'', hR, Steps.head henter (Steps.trans hsteps (Steps.one ?_))⟩
    rw [← hfin]; exact step_leave_returned hleave
  · obtain ⟨v, w', hR, hsteps⟩ := hC (b.atR a (.inRegion ops (i :: rest) :: k)) cs
    have henter : step P (lone (b.atR a (.inRegion ops (i :: rest) :: k)) cs w) =
        .next (lone (Frame.round l f tmps as bd .normal) (b.atR a (.inRegion ops (i :: rest) :: k) :: cs) w) :=
      step_lone_go (by rw [hg]; simp [stepG.apply, hr, Frame.atR])
    refine ⟨v, w', hR, Steps.head henter ?_⟩
    rw [← hfin]; exact hsteps
theorem doZ_noDefer {ev : Operand → V} {H : Hp} {ro : Nat} {o : Oper} {r : V × Hp} (h : doZ P call imp ev H ro o = some r) : noDefer o = true := by
  obtain ⟨dst, op, type, pos, after, guard⟩ := o
  cases op <;> first | rfl | (exfalso; simp [doZ, iterZ, valW, valY, fastZ, valZ, subZ, strZ] at h)
/-- An operation of a region, as the walk does it. -/
theorem opZ_ok {ops : Array Oper} {i : Nat} {rest : List Nat} {o : Oper} {b : Frame} {k : List Item} {cs : List Frame} (hC : CallOk P gl call) (ho : ops[i]? = some o) (h : opZ P gl call imp ops o s = some s') (hR : FRep gl σ s a w) :
    ∃ τ a' w', FRep gl τ s' a' w' ∧ Left σ s.zh s.zr w s'.zh τ w' ∧ s'.zr = s.zr ∧ s'.zm = s.zm ∧ Steps P (lone (b.atR a (.inRegion ops (i :: rest) :: k)) cs w) (lone (b.atR a' (.inRegion ops rest :: k)) cs w') := by
  unfold opZ at h
  split at h
  · rename_i hw
    split at h
    · rename_i x H' hdo
      injection h with h
      subst h
      obtain ⟨v, w', ⟨τ, hl, hx⟩, hs⟩ := does_step (b := b) (rest := rest) (k := k) (cs := cs) ho (hR.wants hw) (doZ_noDefer hdo) (doZ_ok (hC.at _) hR.ro hR.glob hdo (fun y _ => evZ_holds hR.glob hR.slots y) hR.mem)
      exact ⟨τ, _, w', hR.put hl hx, hl, rfl, rfl, hs⟩
    · cases h
  · rename_i hw
    injection h with h
    subst h
    refine ⟨σ, _, w, hR.put (Left.refl _ hR.mem) (x := .tup []) (v := undef) ⟨[], rfl, rfl⟩, Left.refl _ hR.mem, rfl, rfl, Steps.one ?_⟩
    have := stepR_op_skip (P := P) (b := b) (a := a) (k := k) (cs := cs) (w := w) (ops := ops) (i := i) (rest := rest) (by simp [ho, hR.wants hw])
    rw [ho] at this
    exact this
  · cases h
theorem opsZ_ok {ops : Array Oper} {b : Frame} {k : List Item} {cs : List Frame} (hC : CallOk P gl call) : ∀ {l : List Oper} {is : List Nat} {s s' : Sz} {σ : Env} {a : Act} {w : World}, opsZ P gl call imp ops l s = some s' → (is.map fun i => ops[i]?) = l.map some → FRep gl σ s a w →
    ∃ τ a' w', FRep gl τ s' a' w' ∧ Left σ s.zh s.zr w s'.zh τ w' ∧ s'.zr = s.zr ∧ s'.zm = s.zm ∧ Steps P (lone (b.atR a (.inRegion ops is :: k)) cs w) (lone (b.atR a' k) cs w')
  | [], is, s, s', σ, a, w, h, hi, hR => by
    injection h with h
    subst h
    have : is = [] := by cases is with | nil => rfl | cons => cases hi
    subst this
    exact ⟨σ, a, w, hR, Left.refl _ hR.mem, rfl, rfl, Steps.one stepR_region_end⟩
  | o :: l, is, s, s', σ, a, w, h, hi, hR => by
    match is, hi with
    | i :: is, hi =>
      simp only [List.map_cons, List.cons.injEq] at hi
      simp only [opsZ] at h
      split at h
      · rename_i s1 h1
        obtain ⟨τ, a1, w1, r1, l1, z1, m1, st1⟩ := opZ_ok (b := b) (rest := is) (k := k) (cs := cs) hC hi.1 h1 hR
        obtain ⟨υ, a2, w2, r2, l2, z2, m2, st2⟩ := opsZ_ok hC h hi.2 r1
        rw [z1] at l2
        exact ⟨υ, a2, w2, r2, l1.trans l2, z2.trans z1, m2.trans m1, Steps.trans st1 st2⟩
      · cases h
end
end Go.Proofs.YtgkpejlddgoalaaGreatDoor.Zm
namespace Go.Proofs.YtgkpejlddgoalaaGreatDoor.Zm
open Go.RowKit

/-- No name from n on. -/
def B.under (n : Nat) : B → Bool
  | .lit _ | .sym _ => true
  | .ptr k _ | .slc k _ _ _ | .row k _ _ _ | .yld k | .pty k _ | .sly k _ _ _ | .roy k _ _ _ => decide (k < n)
def C.under (n : Nat) : C → Bool
  | .b x => x.under n
  | .fn _ a c => (a.all fun p => p.2.all (B.under n)) && (c.all fun p => p.2.all (B.under n))
def F.under (n : Nat) : F → Bool
  | .one c => c.under n
  | .agg l => l.all (C.under n)
def V.under (n : Nat) : V → Bool
  | .f x => x.under n
  | .tup l => l.all (F.under n)
  | .un => true
open Classical in
noncomputable def Blk.under (n : Nat) : Blk → Bool
  | .cells _ l | .row _ l | .ro _ l => l.all (C.under n)
  | .dead | .dfr | .iter .. => true
  | .loop _ _ _ tmps _ _ _ d => decide (∀ t, (tmps.get t).under n = true) && decide (d < n)
/-- The names below n. -/
def Env.cut (σ : Env) (n : Nat) : Env := fun k => if k < n then σ k else none
/-- Memory as a function of names. -/
abbrev Hf := Nat → Option Blk
def liveF (h : Hf) (k : Nat) : Prop := ∃ b, h k = some b ∧ b.live = true
structure HF (σ : Env) (h : Hf) (N : Nat) (w : World) : Prop where
  blk : ∀ (k : Nat) b, h k = some b → b.live = true → b.holds σ k w
  inj : ∀ k k' g n n', liveF h k → liveF h k' → σ k = some (g, n) → σ k' = some (g, n') → k = k'
  lt : ∀ k g n, liveF h k → σ k = some (g, n) → g < w.heap.size
  dom : ∀ k x, σ k = some x → k < N
def OwnF (σ : Env) (h : Hf) (ro : Nat) (g : Nat) : Prop := ∃ k n, ro ≤ k ∧ liveF h k ∧ σ k = some (g, n)
/-- What an operation leaves of it. -/
structure LeftF (σ : Env) (h : Hf) (N ro : Nat) (w : World) (h' : Hf) (τ : Env) (w' : World) : Prop where
  le : σ.le τ
  rep : HF τ h' N w'
  base : Base (OwnF σ h ro) w w'
  own : ∀ g, OwnF τ h' ro g → OwnF σ h ro g ∨ w.heap.size ≤ g
def Env.join (σ τ : Env) : Env := fun k => match σ k with | some y => some y | none => τ k

section
variable {σ τ : Env} {h h' : Hf} {N ro n : Nat} {w w' : World} {M M' : Hp} {x : V} {v : Value}
theorem cut_some {k : Nat} {y : Nat × Nat} (e : (σ.cut n) k = some y) : k < n ∧ σ k = some y := by
  unfold Env.cut at e
  split at e
  · exact ⟨by assumption, e⟩
  · cases e
theorem cut_of {k : Nat} (hk : k < n) : (σ.cut n) k = σ k := if_pos hk
theorem B.cut : ∀ {x : B} {v : Value}, x.under n = true → x.holds σ v → x.holds (σ.cut n) v
  | .lit _, _, _, k | .sym _, _, _, k => k
  | .ptr k _, _, hl, ⟨g, m, e, e2⟩ => ⟨g, m, (cut_of (of_decide_eq_true hl)).trans e, e2⟩
  | .slc k .., _, hl, ⟨g, m, e, e2⟩ => ⟨g, m, (cut_of (of_decide_eq_true hl)).trans e, e2⟩
  | .row k .., _, hl, ⟨g, m, c, e, e2⟩ => ⟨g, m, c, (cut_of (of_decide_eq_true hl)).trans e, e2⟩
  | .yld k, _, hl, ⟨g, m, e, e2⟩ => ⟨g, m, (cut_of (of_decide_eq_true hl)).trans e, e2⟩
  | .pty k _, _, hl, ⟨g, m, e, e2⟩ => ⟨g, m, (cut_of (of_decide_eq_true hl)).trans e, e2⟩
  | .sly k .., _, hl, ⟨g, m, e, e2⟩ => ⟨g, m, (cut_of (of_decide_eq_true hl)).trans e, e2⟩
  | .roy k .., _, hl, ⟨g, m, c, e, e2⟩ => ⟨g, m, c, (cut_of (of_decide_eq_true hl)).trans e, e2⟩
theorem cutB : ∀ {l : List B} {vs : List Value}, l.all (B.under n) = true → holdsB σ l vs → holdsB (σ.cut n) l vs
  | [], _, _, k => k
  | _ :: _, _, hl, ⟨v, r, e, k, k'⟩ => by
    rw [List.all_cons, Bool.and_eq_true] at hl
    exact ⟨v, r, e, B.cut hl.1 k, cutB hl.2 k'⟩
theorem cutCaps : ∀ {l : List (Bool × List B)} {vs : List Value}, (l.all fun p => p.2.all (B.under n)) = true → capsHold σ l vs → capsHold (σ.cut n) l vs
  | [], _, _, k => k
  | (b, m) :: _, _, hl, ⟨v, r, e, k, k'⟩ => by
    rw [List.all_cons, Bool.and_eq_true] at hl
    refine ⟨v, r, e, ?_, cutCaps hl.2 k'⟩
    cases b with
    | true => obtain ⟨cs, e, k⟩ := k; exact ⟨cs, e, cutB hl.1 k⟩
    | false => exact cutB (l := m) hl.1 k
theorem C.cut : ∀ {x : C} {v : Value}, x.under n = true → x.holds σ v → x.holds (σ.cut n) v
  | .b _, _, hl, k => B.cut hl k
  | .fn .., _, hl, ⟨xs, ys, e, k, k'⟩ => by
    simp only [C.under, Bool.and_eq_true] at hl
    exact ⟨xs, ys, e, cutCaps hl.1 k, cutCaps hl.2 k'⟩
theorem cutC : ∀ {l : List C} {vs : List Value}, l.all (C.under n) = true → holdsC σ l vs → holdsC (σ.cut n) l vs
  | [], _, _, k => k
  | _ :: _, _, hl, ⟨v, r, e, k, k'⟩ => by
    rw [List.all_cons, Bool.and_eq_true] at hl
    exact ⟨v, r, e, C.cut hl.1 k, cutC hl.2 k'⟩
theorem F.cut : ∀ {x : F} {v : Value}, x.under n = true → x.holds σ v → x.holds (σ.cut n) v
  | .one _, _, hl, k => C.cut hl k
  | .agg _, _, hl, ⟨cs, e, k⟩ => ⟨cs, e, cutC hl k⟩
theorem cutF : ∀ {l : List F} {vs : List Value}, l.all (F.under n) = true → holdsF σ l vs → holdsF (σ.cut n) l vs
  | [], _, _, k => k
  | _ :: _, _, hl, ⟨v, r, e, k, k'⟩ => by
    rw [List.all_cons, Bool.and_eq_true] at hl
    exact ⟨v, r, e, F.cut hl.1 k, cutF hl.2 k'⟩
theorem V.cut : ∀ {x : V} {v : Value}, x.under n = true → x.holds σ v → x.holds (σ.cut n) v
  | .f _, _, hl, k => F.cut hl k
  | .tup _, _, hl, ⟨vs, e, k⟩ => ⟨vs, e, cutF hl k⟩
  | .un, _, _, _ => trivial
theorem cutV : ∀ {l : List V} {vs : List Value}, l.all (V.under n) = true → holdsV σ l vs → holdsV (σ.cut n) l vs
  | [], _, _, k => k
  | _ :: _, _, hl, ⟨v, r, e, k, k'⟩ => by
    rw [List.all_cons, Bool.and_eq_true] at hl
    exact ⟨v, r, e, V.cut hl.1 k, cutV hl.2 k'⟩
theorem Blk.cut {k : Nat} (hk : k < n) : ∀ {b : Blk}, b.under n = true → b.holds σ k w → b.holds (σ.cut n) k w
  | .cells T l, hu, ⟨g, cs, e, e2, e3⟩ => ⟨g, cs, (cut_of hk).trans e, e2, cutC hu e3⟩
  | .row T l, hu, ⟨g, cs, js, e, e2, e3⟩ => ⟨g, cs, js, (cut_of hk).trans e, e2, cutC hu e3⟩
  | .ro T l, hu, ⟨g, cs, js, U, fr, e, e2, e3⟩ => ⟨g, cs, js, U, fr, (cut_of hk).trans e, e2, cutC hu e3⟩
  | .dead, _, _ => trivial
  | .loop .., hu, ⟨g, m, D, m', vs, e, e2, e3, e4⟩ => by
    simp only [Blk.under, Bool.and_eq_true, decide_eq_true_eq] at hu
    exact ⟨g, m, D, m', vs, (cut_of hk).trans e, (cut_of hu.2).trans e2, ⟨e3.1, fun t => V.cut (hu.1 t) (e3.2 t)⟩, e4⟩
  | .dfr, _, ⟨g, m, e, e2⟩ => ⟨g, m, (cut_of hk).trans e, e2⟩
  | .iter .., _, ⟨g, m, e, e2⟩ => ⟨g, m, (cut_of hk).trans e, e2⟩
-- what holds bears no other names
theorem B.un_of (hd : ∀ k y, σ k = some y → k < n) : ∀ {x : B} {v : Value}, x.holds σ v → x.under n = true
  | .lit _, _, _ | .sym _, _, _ => rfl
  | .ptr k _, _, ⟨g, m, e, _⟩ => decide_eq_true (hd k _ e)
  | .slc k .., _, ⟨g, m, e, _⟩ => decide_eq_true (hd k _ e)
  | .row k .., _, ⟨g, m, c, e, _⟩ => decide_eq_true (hd k _ e)
  | .yld k, _, ⟨g, m, e, _⟩ => decide_eq_true (hd k _ e)
  | .pty k _, _, ⟨g, m, e, _⟩ => decide_eq_true (hd k _ e)
  | .sly k .., _, ⟨g, m, e, _⟩ => decide_eq_true (hd k _ e)
  | .roy k .., _, ⟨g, m, c, e, _⟩ => decide_eq_true (hd k _ e)
theorem un_ofB (hd : ∀ k y, σ k = some y → k < n) : ∀ {l : List B} {vs : List Value}, holdsB σ l vs → l.all (B.under n) = true
  | [], _, _ => rfl
  | _ :: _, _, ⟨v, r, e, k, k'⟩ => by rw [List.all_cons, B.un_of hd k, un_ofB hd k']; rfl
theorem un_ofCaps (hd : ∀ k y, σ k = some y → k < n) : ∀ {l : List (Bool × List B)} {vs : List Value}, capsHold σ l vs → (l.all fun p => p.2.all (B.under n)) = true
  | [], _, _ => rfl
  | (true, m) :: _, _, ⟨v, r, e, ⟨cs, e2, k⟩, k'⟩ => by rw [List.all_cons, un_ofB hd k, un_ofCaps hd k']; rfl
  | (false, m) :: _, _, ⟨v, r, e, k, k'⟩ => by rw [List.all_cons, un_ofB (l := m) hd k, un_ofCaps hd k']; rfl
theorem C.un_of (hd : ∀ k y, σ k = some y → k < n) : ∀ {x : C} {v : Value}, x.holds σ v → x.under n = true
  | .b _, _, k => B.un_of hd k
  | .fn .., _, ⟨xs, ys, e, k, k'⟩ => by simp only [C.under, un_ofCaps hd k, un_ofCaps hd k', Bool.and_self]
theorem un_ofC (hd : ∀ k y, σ k = some y → k < n) : ∀ {l : List C} {vs : List Value}, holdsC σ l vs → l.all (C.under n) = true
  | [], _, _ => rfl
  | _ :: _, _, ⟨v, r, e, k, k'⟩ => by rw [List.all_cons, C.un_of hd k, un_ofC hd k']; rfl
theorem F.un_of (hd : ∀ k y, σ k = some y → k < n) : ∀ {x : F} {v : Value}, x.holds σ v → x.under n = true
  | .one _, _, k => C.un_of hd k
  | .agg _, _, ⟨cs, e, k⟩ => un_ofC hd k
theorem un_ofF (hd : ∀ k y, σ k = some y → k < n) : ∀ {l : List F} {vs : List Value}, holdsF σ l vs → l.all (F.under n) = true
  | [], _, _ => rfl
  | _ :: _, _, ⟨v, r, e, k, k'⟩ => by rw [List.all_cons, F.un_of hd k, un_ofF hd k']; rfl
theorem V.un_of (hd : ∀ k y, σ k = some y → k < n) : ∀ {x : V} {v : Value}, x.holds σ v → x.under n = true
  | .f _, _, k => F.un_of hd k
  | .tup _, _, ⟨vs, e, k⟩ => un_ofF hd k
  | .un, _, _ => rfl
theorem un_ofV (hd : ∀ k y, σ k = some y → k < n) : ∀ {l : List V} {vs : List Value}, holdsV σ l vs → l.all (V.under n) = true
  | [], _, _ => rfl
  | _ :: _, _, ⟨v, r, e, k, k'⟩ => by rw [List.all_cons, V.un_of hd k, un_ofV hd k']; rfl
theorem Blk.un_of (hd : ∀ k y, σ k = some y → k < n) {k : Nat} : ∀ {b : Blk}, b.holds σ k w → b.under n = true
  | .cells T l, ⟨g, cs, e, e2, e3⟩ => un_ofC hd e3
  | .row T l, ⟨g, cs, js, e, e2, e3⟩ => un_ofC hd e3
  | .ro T l, ⟨g, cs, js, U, fr, e, e2, e3⟩ => un_ofC hd e3
  | .dead, _ => rfl
  | .loop .., ⟨g, m, D, m', vs, e, e2, e3, e4⟩ => by simp only [Blk.under, Bool.and_eq_true, decide_eq_true_eq]; exact ⟨fun t => V.un_of hd (e3.2 t), hd _ _ e2⟩
  | .dfr, _ => rfl
  | .iter .., _ => rfl
theorem Base.mono {T T' : Nat → Prop} {w0 w : World} (hb : Base T w0 w) (ht : ∀ g, T g → T' g) : Base T' w0 w :=
  ⟨hb.os, hb.tape, hb.output, hb.size, fun g hg hn => hb.block g hg fun hT => hn (ht g hT)⟩
theorem HF.known (hF : HF σ h N w) {k : Nat} (hk : liveF h k) : ∃ g m, σ k = some (g, m) := by
  obtain ⟨b, hb, hl⟩ := hk
  exact Blk.known hl (hF.blk k b hb hl)
/-- A part of memory, as a list. -/
theorem HF.part (hF : HF σ h N w) (hM : ∀ (k : Nat) b, M[k]? = some b → b.live = true → h k = some b) (hU : ∀ (k : Nat) b, M[k]? = some b → b.under M.length = true) : HRep (σ.cut M.length) M w := by
  have hlv : ∀ k, live M k → liveF h k := fun k ⟨b, hb, hl⟩ => ⟨b, hM k b hb hl, hl⟩
  refine ⟨fun k b hb => ?_, fun k k' g n n' h1 h2 e1 e2 => hF.inj k k' g n n' (hlv k h1) (hlv k' h2) (cut_some e1).2 (cut_some e2).2, fun k g n h1 e1 => hF.lt k g n (hlv k h1) (cut_some e1).2, fun k y e => (cut_some e).1⟩
  cases hl : b.live with
  | false => cases b <;> first | trivial | cases hl
  | true => exact Blk.cut (List.getElem?_eq_some_iff.1 hb).1 (hU k b hb) (hF.blk k b (hM k b hb hl) hl)
/-- What is done to a part is done to the whole. -/
theorem HF.merge (hF : HF σ h N w) (hM : ∀ (k : Nat) b, M[k]? = some b → b.live = true → h k = some b) (hro : ro ≤ M.length) (hN : M'.length ≤ N) (hl : Left (σ.cut M.length) M ro w M' τ w')
    (hfree : ∀ k, M.length ≤ k → k < M'.length → σ k = none)
    (h1 : ∀ (k : Nat) b, M'[k]? = some b → b.live = true → h' k = some b) (h2 : ∀ k, ¬ live M' k → (h' k = h k ∧ ¬ live M k) ∨ ¬ liveF h' k) :
    LeftF σ h N ro w h' (σ.join τ) w' ∧ τ.le (σ.join τ) := by
  have hlv : ∀ k, live M k → liveF h k := fun k ⟨b, hb, hl⟩ => ⟨b, hM k b hb hl, hl⟩
  have le1 : σ.le (σ.join τ) := fun k y e => by unfold Env.join; rw [e]
  have le2 : τ.le (σ.join τ) := fun k y e => by
    unfold Env.join
    cases e2 : σ k with
    | none => exact e
    | some y' =>
      by_cases hk : k < M.length
      · have := hl.le k y' ((cut_of hk).trans e2)
        rw [e] at this
        exact this.symm
      · have := hfree k (Nat.le_of_not_lt hk) (hl.rep.dom k y e)
        rw [this] at e2
        cases e2
  have hown : ∀ g, Own (σ.cut M.length) M ro g → OwnF σ h ro g := fun g ⟨k, m, a, b, c⟩ => ⟨k, m, a, hlv k b, (cut_some c).2⟩
  -- a live name of the new memory: it is one of M', or one that the operation hasn't looked at
  have cases' : ∀ k, liveF h' k → live M' k ∨ (¬ live M' k ∧ ¬ live M k ∧ liveF h k ∧ h' k = h k) := fun k hk => by
    by_cases hlk : live M' k
    · exact .inl hlk
    · rcases h2 k hlk with ⟨e, hn⟩ | hn
      · exact .inr ⟨hlk, hn, by obtain ⟨b, hb, hbl⟩ := hk; exact ⟨b, e ▸ hb, hbl⟩, e⟩
      · exact absurd hk hn
  have inM : ∀ k g m, live M' k → (σ.join τ) k = some (g, m) → τ k = some (g, m) := fun k g m hk e => by
    obtain ⟨y, hy⟩ := hl.rep.known k hk
    have := le2 k y hy
    rw [e] at this
    injection this with this
    rw [hy, this]
  have inh : ∀ k g m, liveF h k → (σ.join τ) k = some (g, m) → σ k = some (g, m) := fun k g m hk e => by
    obtain ⟨g', m', hy⟩ := hF.known hk
    have := le1 k _ hy
    rw [e] at this
    injection this with this
    rw [hy, this]
  have apart : ∀ k k' g m m', live M' k → τ k = some (g, m) → liveF h k' → ¬ live M k' → σ k' = some (g, m') → False := fun k k' g m m' a1 a2 a3 a4 a5 => by
    have hlt := hF.lt k' g m' a3 a5
    have same : ∀ k2 m2, live M k2 → (σ.cut M.length) k2 = some (g, m2) → False := fun k2 m2 b1 b2 => a4 (hF.inj k2 k' g m2 m' (hlv k2 b1) a3 (cut_some b2).2 a5 ▸ b1)
    by_cases hk : ro ≤ k
    · rcases hl.own g ⟨k, m, hk, a1, a2⟩ with ⟨k2, m2, _, b2, b3⟩ | b
      · exact same k2 m2 b2 b3
      · omega
    · have hkM : k < M.length := by omega
      have ho := hl.old k (by omega) hkM
      obtain ⟨b, hb, hbl⟩ := a1
      rw [ho] at hb
      have hlk : live M k := ⟨b, hb, hbl⟩
      obtain ⟨g', m'', e⟩ := hF.known (hlv k hlk)
      have e3 := (cut_of hkM).trans e
      have := hl.le k _ e3
      rw [a2] at this
      injection this with this
      exact same k m'' hlk (by rw [e3, ← this, (show m'' = m by injection this with p q; exact q.symm)])
  refine ⟨⟨le1, ⟨fun k b hb hbl => ?_, fun k k' g m m' a1 a2 e1 e2 => ?_, fun k g m a1 e1 => ?_, fun k y e => ?_⟩, hl.base.mono hown, fun g hg => ?_⟩, le2⟩
  · rcases cases' k ⟨b, hb, hbl⟩ with hk | ⟨_, hn, hk, e⟩
    · obtain ⟨b', hb', hbl'⟩ := hk
      have := h1 k b' hb' hbl'
      rw [hb] at this
      injection this with this
      subst this
      exact Blk.up le2 (fun _ _ _ _ => rfl) (hl.rep.blk k b hb')
    · rw [e] at hb
      refine Blk.up le1 (fun _ g m e2 => ?_) (hF.blk k b hb hbl)
      refine hl.base.block g (hF.lt k g m hk e2) fun ⟨k2, m2, _, b2, b3⟩ => hn ?_
      exact hF.inj k2 k g m2 m (hlv k2 b2) hk (cut_some b3).2 e2 ▸ b2
  · rcases cases' k a1 with hk | ⟨_, hn, hk, _⟩ <;> rcases cases' k' a2 with hk' | ⟨_, hn', hk', _⟩
    · exact hl.rep.inj k k' g m m' hk hk' (inM k g m hk e1) (inM k' g m' hk' e2)
    · exact absurd (apart k k' g m m' hk (inM k g m hk e1) hk' hn' (inh k' g m' hk' e2)) id
    · exact absurd (apart k' k g m' m hk' (inM k' g m' hk' e2) hk hn (inh k g m hk e1)) id
    · exact hF.inj k k' g m m' hk hk' (inh k g m hk e1) (inh k' g m' hk' e2)
  · rcases cases' k a1 with hk | ⟨_, hn, hk, _⟩
    · exact hl.rep.lt k g m hk (inM k g m hk e1)
    · exact Nat.lt_of_lt_of_le (hF.lt k g m hk (inh k g m hk e1)) hl.base.size
  · unfold Env.join at e
    split at e
    · rename_i y' e2
      exact hF.dom k y' e2
    · exact Nat.lt_of_lt_of_le (hl.rep.dom k y e) hN
  · obtain ⟨k, m, b1, b2, b3⟩ := hg
    rcases cases' k b2 with hk | ⟨_, hn, hk, _⟩
    · exact (hl.own g ⟨k, m, b1, hk, inM k g m hk b3⟩).imp (hown g) id
    · exact .inl ⟨k, m, b1, hk, inh k g m hk b3⟩
theorem LeftF.trans {h'' : Hf} {υ : Env} {w'' : World} (a : LeftF σ h N ro w h' τ w') (b : LeftF τ h' N ro w' h'' υ w'') : LeftF σ h N ro w h'' υ w'' :=
  ⟨Env.le_trans a.le b.le, b.rep, a.base.trans b.base a.own, fun g hg => (b.own g hg).elim (a.own g) fun k => .inr (Nat.le_trans a.base.size k)⟩
end

/-- What an operation looks at, and what it changes: nothing; one block; one block, which it changes; it makes a block; it may look at all; it looks at the first n blocks alone, and makes new ones; it may change all. -/
inductive Ki where
  | quiet
  | load (k : Nat)
  | store (k : Nat)
  | fresh
  | read
  | grow (n : Nat)
  | loud
def kindZ (imp : FuncId → Bool) (ev : Operand → V) (H : Hp) (o : Oper) (x : V) : Ki := match o.op with
  | .load _ y => match ev y with | .f (.one (.b (.ptr k _))) => .load k | _ => .loud
  | .store _ y _ => match ev y with | .f (.one (.b (.ptr k _))) => .store k | _ => .loud
  | .alloc _ | .box .. | .buildSlice .. => .fresh
  | .makeSlice .. | .range .. | .next .. => .loud
  | .convert _ _ y => if isSlcZ (ev y) || isSlcZ x then .loud else .quiet
  | .call c => match c.callee with
    | .builtin .append => .loud
    | .value _ => match calleeZ ev o with
      | some (g, _) => if g.imp imp then .loud else if x.inL H then .read else .loud
      | none => .loud
    | _ => .quiet
  | _ => .quiet
def deads (n : Nat) : Hp := List.replicate n .dead
def maskK (H : Hp) : Ki → Hp
  | .quiet | .fresh => deads H.length
  | .load k | .store k => match H[k]? with | some b => (deads H.length).set k b | none => deads H.length
  | .grow n => H.take n ++ deads (H.length - n)
  | .read | .loud => H
/-- What it has changed. -/
def ovK (H H' : Hp) : Ki → Nat → Option Blk
  | .quiet, _ | .load _, _ | .read, _ => none
  | .store k0, k => if k = k0 then H'[k]? else none
  | .fresh, k => if H.length ≤ k then H'[k]? else none
  | .grow _, k => if H.length ≤ k then H'[k]? else none
  | .loud, k => H'[k]?
def updF (h : Hf) (u : Nat → Option Blk) : Hf := fun k => match u k with | some b => some b | none => h k
/-- It looks at this block. -/
def Tch (n : Nat) : Ki → Nat → Prop
  | .quiet, _ | .fresh, _ => False
  | .load k0, k | .store k0, k => k = k0
  | .read, k => k < n
  | .grow m, k => k < m
  | .loud, _ => True

section
variable {P : Program} {gl : List Nat} {call : CallFn} {imp : FuncId → Bool} {ev : Operand → V} {H H' : Hp} {σ τ : Env} {w w' : World} {ρ : Operand → Value} {o : Oper} {x : V} {ro N : Nat} {h : Hf} {ki : Ki}
theorem valW_any (hl : ∀ T y, o.op ≠ .load T y) (hc : ∀ a d y, o.op = .convert a d y → isSlcZ (ev y) = false) (H2 : Hp) : valW P ev H o = valW P ev H2 o := by
  obtain ⟨dst, op, type, pos, after, guard⟩ := o
  cases op
  case load T y => exact absurd rfl (hl T y)
  case makeFunc fn first cap => cases fn <;> rfl
  case slice T y lo hi mx => cases lo <;> cases hi <;> cases mx <;> rfl
  case convert a d y =>
    have := hc a d y rfl
    simp only [valW, valY, fastZ, valZ, subZ, strZ, this, Bool.false_and, Bool.false_eq_true, if_false]
  all_goals rfl
theorem valW_load {T : TypeId} {y : Operand} {k off : Nat} (he : o.op = .load T y) (hy : ev y = .f (.one (.b (.ptr k off)))) {H2 : Hp} (hk : H2[k]? = H[k]?) : valW P ev H2 o = valW P ev H o := by
  obtain ⟨dst, op, type, pos, after, guard⟩ := o
  simp only at he
  subst he
  simp only [valW, valY, fastZ, valZ, subZ, strZ, hy, cellsOf, hk]
theorem storeZ_at (hst : storeZ P ev H ro o = some H') : ∃ T y z k off b b', o.op = .store T y z ∧ ev y = .f (.one (.b (.ptr k off))) ∧ ro ≤ k ∧ H[k]? = some b ∧ H' = H.set k b' ∧ ∀ H2 : Hp, H2[k]? = some b → storeZ P ev H2 ro o = some (H2.set k b') := by
  obtain ⟨dst, op, type, pos, after, guard⟩ := o
  cases op <;> simp only [storeZ] at hst
  case store T a c =>
    split at hst
    · rename_i k off n h1 hn
      split at hst
      · rename_i m hmm
        split at hst
        · rename_i hc
          have hro := hc
          simp only [Bool.and_eq_true, decide_eq_true_eq] at hro
          split at hst
          · rename_i T' l hk
            split at hst
            · rename_i l' hp
              injection hst with hst
              subst hst
              refine ⟨T, a, c, k, off, _, _, rfl, h1, hro.2, hk, rfl, fun H2 h2 => ?_⟩
              simp only [storeZ, h1, hn, hmm, if_pos hc, h2, hp]
            · cases hst
          · rename_i T' l hk
            split at hst
            · rename_i l' hp
              injection hst with hst
              subst hst
              refine ⟨T, a, c, k, off, _, _, rfl, h1, hro.2, hk, rfl, fun H2 h2 => ?_⟩
              simp only [storeZ, h1, hn, hmm, if_pos hc, h2, hp]
            · cases hst
          · cases hst
        · cases hst
      · cases hst
    · cases hst
  all_goals (cases hst)
theorem newZ_any {H2 : Hp} (hlen : H2.length = H.length) : newZ P ev H2 o = newZ P ev H o := by
  simp only [newZ, hlen]
theorem deads_at {n k : Nat} {b : Blk} (h : (deads n)[k]? = some b) : b = .dead := by
  unfold deads at h
  rw [List.getElem?_replicate] at h
  split at h
  · injection h with h; exact h.symm
  · cases h
theorem maskK_len : (maskK H ki).length = H.length := by
  cases ki <;> simp only [maskK, deads, List.length_replicate, List.length_append, List.length_take] <;> first | omega | (split <;> simp)
theorem mask_one {k : Nat} {b : Blk} (hb : H[k]? = some b) {j : Nat} {c : Blk} (h : ((deads H.length).set k b)[j]? = some c) (hl : c.live = true) : j = k ∧ c = b := by
  by_cases e : k = j
  · subst e
    rw [List.getElem?_set_self (by simpa [deads] using (List.getElem?_eq_some_iff.1 hb).1)] at h
    injection h with h
    exact ⟨rfl, h.symm⟩
  · rw [List.getElem?_set_ne e] at h
    rw [deads_at h] at hl
    cases hl
/-- The same on the part that it looks at. -/
theorem kind_do (hdo : doZ P call imp ev H ro o = some (x, H')) (hk : kindZ imp ev H o x = ki) : ∃ M', doZ P call imp ev (maskK H ki) ro o = some (x, M') ∧
    match ki with
    | .quiet | .load _ | .read => H' = H ∧ M' = maskK H ki
    | .store k => ∃ b b', H[k]? = some b ∧ H' = H.set k b' ∧ M' = ((deads H.length).set k b).set k b' ∧ ro ≤ k
    | .fresh => ∃ b, H' = H ++ [b] ∧ M' = deads H.length ++ [b]
    | .grow _ => False
    | .loud => M' = H' := by
  have hval : ∀ {H2 : Hp} {y : V} {G : Hp}, (match valW P ev H2 o with | some x => some (x, H2) | none => none) = some (y, G) → valW P ev H2 o = some y ∧ G = H2 := fun {H2 y G} h => by
    split at h
    · rename_i x' hx
      simp only [Option.some.injEq, Prod.mk.injEq] at h
      exact ⟨hx.trans (by rw [h.1]), h.2.symm⟩
    · cases h
  have hquiet : (∀ H2, doZ P call imp ev H2 ro o = (match valW P ev H2 o with | some x => some (x, H2) | none => none)) → (∀ T y, o.op ≠ .load T y) → (∀ a d y, o.op = .convert a d y → isSlcZ (ev y) = false) → ∃ M', doZ P call imp ev (deads H.length) ro o = some (x, M') ∧ H' = H ∧ M' = deads H.length := fun hd hl hcv => by
    rw [hd] at hdo
    obtain ⟨h1, h2⟩ := hval hdo
    exact ⟨_, by rw [hd, valW_any hl hcv H, h1], h2, rfl⟩
  have hfresh : (∀ H2, doZ P call imp ev H2 ro o = (match newZ P ev H2 o with | some (x, b) => some (x, H2 ++ [b]) | none => none)) → ∃ M', doZ P call imp ev (deads H.length) ro o = some (x, M') ∧ ∃ b, H' = H ++ [b] ∧ M' = deads H.length ++ [b] := fun hd => by
    rw [hd] at hdo
    split at hdo
    · rename_i x' b hn
      simp only [Option.some.injEq, Prod.mk.injEq] at hdo
      obtain ⟨rfl, rfl⟩ := hdo
      exact ⟨_, by rw [hd, newZ_any (H := H) (by simp [deads]), hn], b, rfl, rfl⟩
    · cases hdo
  cases hop : o.op
  case store T y z =>
    have hd : ∀ H2, doZ P call imp ev H2 ro o = (match storeZ P ev H2 ro o with | some H' => some (.un, H') | none => none) := fun H2 => by unfold doZ; simp only [hop] <;> rfl
    rw [hd] at hdo
    split at hdo
    · rename_i G hst
      simp only [Option.some.injEq, Prod.mk.injEq] at hdo
      obtain ⟨rfl, rfl⟩ := hdo
      obtain ⟨T', y', z', k, off, b, b', e1, e2, e3, e4, e5, e6⟩ := storeZ_at hst
      rw [hop] at e1
      injection e1 with _ e1 _
      subst e1
      have : ki = .store k := by rw [← hk]; simp only [kindZ, hop, e2]
      subst this
      have hm : (maskK H (.store k))[k]? = some b := by
        simp only [maskK, e4]
        exact List.getElem?_set_self (by simpa [deads] using (List.getElem?_eq_some_iff.1 e4).1)
      refine ⟨_, by rw [hd, e6 _ hm], b, b', e4, e5, ?_, e3⟩
      simp only [maskK, e4]
    · cases hdo
  case load T y =>
    have hd : ∀ H2, doZ P call imp ev H2 ro o = (match valW P ev H2 o with | some x => some (x, H2) | none => none) := fun H2 => by unfold doZ; simp only [hop] <;> rfl
    have hdo' := hdo
    rw [hd] at hdo'
    obtain ⟨h1, h2⟩ := hval hdo'
    simp only [kindZ, hop] at hk
    split at hk
    · rename_i k off hy
      subst hk
      have hm : (maskK H (.load k))[k]? = H[k]? := by
        simp only [maskK]
        split
        · rename_i b hb
          rw [List.getElem?_set_self (by simpa [deads] using (List.getElem?_eq_some_iff.1 hb).1), hb]
        · rename_i hb
          rw [hb, List.getElem?_eq_none]
          have := List.getElem?_eq_none_iff.1 hb
          simpa [deads] using this
      exact ⟨_, by rw [hd, valW_load hop hy hm, h1], h2, rfl⟩
    · subst hk
      exact ⟨H', hdo, rfl⟩
  case alloc T =>
    have : ki = .fresh := by rw [← hk]; simp only [kindZ, hop]
    subst this
    exact hfresh fun H2 => by unfold doZ; simp only [hop] <;> rfl
  case box T y =>
    have : ki = .fresh := by rw [← hk]; simp only [kindZ, hop]
    subst this
    exact hfresh fun H2 => by unfold doZ; simp only [hop] <;> rfl
  case buildSlice T n parts =>
    have : ki = .fresh := by rw [← hk]; simp only [kindZ, hop]
    subst this
    exact hfresh fun H2 => by unfold doZ; simp only [hop] <;> rfl
  case convert a d y =>
    simp only [kindZ, hop] at hk
    split at hk
    · subst hk
      exact ⟨H', hdo, rfl⟩
    · rename_i hn
      subst hk
      simp only [Bool.or_eq_true, not_or, Bool.not_eq_true] at hn
      have hr : ∀ H2, rowZ P ev H2 o = none := by
        intro H2
        have h0 : rowZ P ev H o = none := by
          cases hr : rowZ P ev H o with
          | none => rfl
          | some r =>
            exfalso
            have hdo' := hdo
            unfold doZ at hdo'
            simp only [hop, hr] at hdo'
            simp only [rowZ, hop] at hr
            split at hr
            · split at hr
              · split at hr
                · injection hr with hr
                  subst hr
                  injection hdo' with hdo'
                  injection hdo' with e1 e2
                  rw [← e1] at hn
                  exact absurd hn.2 (by simp [isSlcZ])
                · cases hr
              · cases hr
            · cases hr
        simp only [rowZ, hop] at h0 ⊢
        split <;> simp_all
        split <;> simp_all
      exact hquiet (fun H2 => by have := hr H2; unfold doZ; simp only [hop, this] <;> rfl) (fun T y e => by rw [hop] at e; cases e) (fun a' d' y' e => by
        rw [hop] at e
        injection e with _ _ e
        subst e
        exact hn.1)
  case makeSlice T a b =>
    have : ki = .loud := by rw [← hk]; simp only [kindZ, hop]
    subst this
    exact ⟨H', hdo, rfl⟩
  case range T y =>
    have : ki = .loud := by rw [← hk]; simp only [kindZ, hop]
    subst this
    exact ⟨H', hdo, rfl⟩
  case next y b =>
    have : ki = .loud := by rw [← hk]; simp only [kindZ, hop]
    subst this
    exact ⟨H', hdo, rfl⟩
  case call c =>
    cases hcal : c.callee
    case value f =>
      simp only [kindZ, hop, hcal] at hk
      split at hk
      · rename_i g args hc
        split at hk
        · subst hk
          exact ⟨H', hdo, rfl⟩
        · rename_i hg
          split at hk
          · rename_i hin
            subst hk
            refine ⟨H', hdo, ?_⟩
            have hdo' := hdo
            unfold doZ at hdo'
            simp only [hop, hcal, hc] at hdo'
            split at hdo'
            · simp only [Option.some.injEq, Prod.mk.injEq] at hdo'
              exact ⟨hdo'.2.symm, hdo'.2.symm⟩
            rw [if_neg hg] at hdo'
            split at hdo'
            · split at hdo'
              · simp only [Option.some.injEq, Prod.mk.injEq] at hdo'
                exact ⟨hdo'.2.symm, hdo'.2.symm⟩
              · rename_i hn
                simp only [Option.some.injEq, Prod.mk.injEq] at hdo'
                rw [hdo'.1] at hn
                exact absurd hin hn
            · cases hdo'
          · subst hk
            exact ⟨H', hdo, rfl⟩
      · subst hk
        exact ⟨H', hdo, rfl⟩
    case builtin b =>
      by_cases hb : b = .append
      · subst hb
        have : ki = .loud := by rw [← hk]; simp only [kindZ, hop, hcal]
        subst this
        exact ⟨H', hdo, rfl⟩
      · have : ki = .quiet := by rw [← hk]; simp only [kindZ, hop, hcal]; cases b <;> first | rfl | exact absurd rfl hb
        subst this
        exact hquiet (fun H2 => by unfold doZ; simp only [hop, hcal]; cases b <;> first | rfl | exact absurd rfl hb) (fun T y e => by rw [hop] at e; cases e) (fun a d y e => by rw [hop] at e; cases e)
    all_goals
      have : ki = .quiet := by rw [← hk]; simp only [kindZ, hop, hcal]
      subst this
      exact hquiet (fun H2 => by unfold doZ; simp only [hop, hcal] <;> rfl) (fun T y e => by rw [hop] at e; cases e) (fun a d y e => by rw [hop] at e; cases e)
  all_goals
    have : ki = .quiet := by rw [← hk]; simp only [kindZ, hop]
    subst this
    exact hquiet (fun H2 => by unfold doZ; simp only [hop] <;> rfl) (fun T y e => by rw [hop] at e; cases e) (fun a d y e => by rw [hop] at e; cases e)
end

section
variable {P : Program} {gl : List Nat} {call : CallFn} {imp : FuncId → Bool} {ev : Operand → V} {H H' M' : Hp} {σ τ : Env} {w w' : World} {ρ : Operand → Value} {o : Oper} {x : V} {ro N : Nat} {h : Hf} {ki : Ki}
theorem Does.mono {R R' : Value → World → Prop} (hd : Does P ρ o w R) (hm : ∀ v w', R v w' → R' v w') : Does P ρ o w R' := by
  rcases hd with ⟨v, w', hr, hR⟩ | ⟨w', hr, hR⟩ | ⟨f, args, hr, hC⟩ | ⟨l, f, tmps, as, bd, hr, hC⟩
  · exact .inl ⟨v, w', hr, hm v w' hR⟩
  · exact .inr (.inl ⟨w', hr, hm _ w' hR⟩)
  · exact .inr (.inr (.inl ⟨f, args, hr, hC.mono fun e w' ⟨v, e1, e2⟩ => ⟨v, e1, hm v w' e2⟩⟩))
  · exact .inr (.inr (.inr ⟨l, f, tmps, as, bd, hr, hC.mono hm⟩))
/-- How the mask's end goes with the memory's. -/
def RelK (H H' M' : Hp) (ro : Nat) : Ki → Prop
  | .quiet => H' = H ∧ M' = maskK H .quiet
  | .load k => H' = H ∧ M' = maskK H (.load k)
  | .read => H' = H ∧ M' = maskK H .read
  | .store k => ∃ b b', H[k]? = some b ∧ H' = H.set k b' ∧ M' = ((deads H.length).set k b).set k b' ∧ ro ≤ k
  | .fresh => ∃ b, H' = H ++ [b] ∧ M' = deads H.length ++ [b]
  | .grow n => ∃ l, H' = H ++ l ∧ M' = maskK H (.grow n) ++ l
  | .loud => M' = H'
theorem kind_rel (hdo : doZ P call imp ev H ro o = some (x, H')) (hk : kindZ imp ev H o x = ki) : ∃ M', doZ P call imp ev (maskK H ki) ro o = some (x, M') ∧ RelK H H' M' ro ki := by
  obtain ⟨M', h1, h2⟩ := kind_do hdo hk
  refine ⟨M', h1, ?_⟩
  cases ki <;> first | exact h2 | exact h2.elim
theorem deads_len {n : Nat} : (deads n).length = n := by simp [deads]
theorem rel_len (hr : RelK H H' M' ro ki) : M'.length = H'.length := by
  cases ki with
  | quiet => obtain ⟨rfl, rfl⟩ := hr; exact maskK_len
  | load k => obtain ⟨rfl, rfl⟩ := hr; exact maskK_len
  | read => rw [hr.2, hr.1]; exact maskK_len
  | store k => obtain ⟨b, b', _, rfl, rfl, _⟩ := hr; simp [deads]
  | fresh => obtain ⟨b, rfl, rfl⟩ := hr; simp [deads]
  | grow n => obtain ⟨l, rfl, rfl⟩ := hr; rw [List.length_append, List.length_append, maskK_len]
  | loud => rw [show M' = H' from hr]
theorem set_self' {l : Hp} {k : Nat} {b c : Blk} (h : l[k]? = some c) : (l.set k b)[k]? = some b := List.getElem?_set_self (List.getElem?_eq_some_iff.1 h).1
theorem ov_at (hr : RelK H H' M' ro ki) {k : Nat} {b : Blk} (ho : ovK H H' ki k = some b) : M'[k]? = some b := by
  cases ki with
  | quiet => cases ho
  | load k => cases ho
  | read => cases ho
  | store k0 =>
    obtain ⟨c, b', hc, rfl, rfl, _⟩ := hr
    simp only [ovK] at ho
    split at ho
    · rename_i e
      subst e
      rw [set_self' hc] at ho
      rw [← ho]
      exact List.getElem?_set_self (by rw [List.length_set, deads_len]; exact (List.getElem?_eq_some_iff.1 hc).1)
    · cases ho
  | fresh =>
    obtain ⟨c, rfl, rfl⟩ := hr
    simp only [ovK] at ho
    split at ho
    · rename_i e
      rw [List.getElem?_append_right e] at ho
      rw [List.getElem?_append_right (by rw [deads_len]; exact e), deads_len]
      exact ho
    · cases ho
  | grow n =>
    obtain ⟨l, rfl, rfl⟩ := hr
    simp only [ovK] at ho
    split at ho
    · rename_i e
      rw [List.getElem?_append_right e] at ho
      rw [List.getElem?_append_right (by rw [maskK_len]; exact e), maskK_len]
      exact ho
    · cases ho
  | loud => rw [show M' = H' from hr]; exact ho
theorem mask_at (hag : ∀ k, Tch H.length ki k → h k = H[k]?) {k : Nat} {b : Blk} (hb : (maskK H ki)[k]? = some b) (hl : b.live = true) : Tch H.length ki k ∧ H[k]? = some b := by
  cases ki with
  | quiet => rw [deads_at hb] at hl; cases hl
  | fresh => rw [deads_at hb] at hl; cases hl
  | load k0 =>
    simp only [maskK] at hb
    split at hb
    · rename_i c hc
      obtain ⟨rfl, rfl⟩ := mask_one hc hb hl
      exact ⟨rfl, hc⟩
    · rw [deads_at hb] at hl; cases hl
  | store k0 =>
    simp only [maskK] at hb
    split at hb
    · rename_i c hc
      obtain ⟨rfl, rfl⟩ := mask_one hc hb hl
      exact ⟨rfl, hc⟩
    · rw [deads_at hb] at hl; cases hl
  | read => exact ⟨(List.getElem?_eq_some_iff.1 hb).1, hb⟩
  | grow n =>
    simp only [maskK] at hb
    by_cases e : k < n ∧ k < H.length
    · rw [List.getElem?_append_left (by rw [List.length_take]; omega), List.getElem?_take_of_lt e.1] at hb
      exact ⟨e.1, hb⟩
    · rw [List.getElem?_append_right (by rw [List.length_take]; omega)] at hb
      rw [deads_at hb] at hl; cases hl
  | loud => exact ⟨trivial, hb⟩
theorem eff_ok (hC : CallOkAt P gl call w) (hgl : GlOk gl σ) (hglen : gl.length ≤ H.length) (hdo' : doZ P call imp ev (maskK H ki) ro o = some (x, M')) (hr : RelK H H' M' ro ki)
    (hs : ∀ y ∈ o.op.operands, (ev y).holds σ (ρ y) ∧ (ev y).under H.length = true) (hF : HF σ h N w) (hag : ∀ k, Tch H.length ki k → h k = H[k]?)
    (hU : ∀ (k : Nat) b, Tch H.length ki k → H[k]? = some b → b.under H.length = true) (hro : ro ≤ H.length) (hN : H'.length ≤ N) (hfree : ∀ k, H.length ≤ k → k < H'.length → σ k = none) :
    Does P ρ o w fun v w' => ∃ τ, LeftF σ h N ro w (updF h (ovK H H' ki)) τ w' ∧ x.holds τ v ∧ x.under H'.length = true ∧ (∀ k b, ovK H H' ki k = some b → b.under H'.length = true) ∧ (∀ k y, τ k = some y → (∃ y', σ k = some y') ∨ H.length ≤ k ∧ k < H'.length) ∧ ∀ k, k < ro → updF h (ovK H H' ki) k = h k := by
  have hlen : (maskK H ki).length = H.length := maskK_len
  have hM : ∀ (k : Nat) b, (maskK H ki)[k]? = some b → b.live = true → h k = some b := fun k b hb hl => by
    obtain ⟨h1, h2⟩ := mask_at hag hb hl
    rw [hag k h1, h2]
  have hU' : ∀ (k : Nat) b, (maskK H ki)[k]? = some b → b.under (maskK H ki).length = true := fun k b hb => by
    cases hl : b.live with
    | false => cases b <;> first | rfl | cases hl
    | true =>
      obtain ⟨h1, h2⟩ := mask_at hag hb hl
      rw [hlen]
      exact hU k b h1 h2
  have hgl' : GlOk gl (σ.cut (maskK H ki).length) := fun k g e => by
    obtain ⟨n, e2⟩ := hgl k g e
    exact ⟨n, (cut_of (by rw [hlen]; exact Nat.lt_of_lt_of_le (List.getElem?_eq_some_iff.1 e).1 hglen)).trans e2⟩
  have D := doZ_ok hC (by rw [hlen]; exact hro) hgl' hdo' (fun y hy => V.cut (by rw [hlen]; exact (hs y hy).2) (hs y hy).1) (hF.part hM hU')
  refine D.mono fun v w' ⟨τ, hl, hx⟩ => ?_
  have hgrow := hl.grow
  have hML := rel_len hr
  have h1 : ∀ (k : Nat) b, M'[k]? = some b → b.live = true → updF h (ovK H H' ki) k = some b := fun k b hb hbl => by
    cases ki with
    | quiet => obtain ⟨_, rfl⟩ := hr; exact hM k b hb hbl
    | load k0 => obtain ⟨_, rfl⟩ := hr; exact hM k b hb hbl
    | read => obtain ⟨_, rfl⟩ := hr; exact hM k b hb hbl
    | store k0 =>
      obtain ⟨c, b', hc, rfl, rfl, _⟩ := hr
      by_cases e : k = k0
      · subst e
        rw [List.getElem?_set_self (by rw [List.length_set, deads_len]; exact (List.getElem?_eq_some_iff.1 hc).1)] at hb
        simp only [updF, ovK, if_true, set_self' hc]
        exact hb
      · rw [List.getElem?_set_ne (Ne.symm e), List.getElem?_set_ne (Ne.symm e)] at hb
        rw [deads_at hb] at hbl
        cases hbl
    | fresh =>
      obtain ⟨c, rfl, rfl⟩ := hr
      by_cases e : H.length ≤ k
      · rw [List.getElem?_append_right (by rw [deads_len]; exact e), deads_len] at hb
        simp only [updF, ovK, if_pos e, List.getElem?_append_right e, hb]
      · rw [List.getElem?_append_left (by rw [deads_len]; omega)] at hb
        rw [deads_at hb] at hbl
        cases hbl
    | grow n =>
      obtain ⟨l, rfl, rfl⟩ := hr
      by_cases e : H.length ≤ k
      · rw [List.getElem?_append_right (by rw [maskK_len]; exact e), maskK_len] at hb
        simp only [updF, ovK, if_pos e, List.getElem?_append_right e, hb]
      · rw [List.getElem?_append_left (by rw [maskK_len]; omega)] at hb
        simp only [updF, ovK, if_neg e]
        exact hM k b hb hbl
    | loud =>
      have hr : M' = H' := hr
      subst hr
      simp only [updF, ovK, hb]
  have h2 : ∀ k, ¬ live M' k → (updF h (ovK H H' ki) k = h k ∧ ¬ live (maskK H ki) k) ∨ ¬ liveF (updF h (ovK H H' ki)) k := fun k hn => by
    cases ki with
    | quiet => obtain ⟨_, rfl⟩ := hr; exact .inl ⟨rfl, hn⟩
    | load k0 => obtain ⟨_, rfl⟩ := hr; exact .inl ⟨rfl, hn⟩
    | read => obtain ⟨_, rfl⟩ := hr; exact .inl ⟨rfl, hn⟩
    | store k0 =>
      obtain ⟨c, b', hc, rfl, rfl, _⟩ := hr
      by_cases e : k = k0
      · subst e
        refine .inr fun ⟨b, hb, hbl⟩ => hn ⟨b, ?_, hbl⟩
        simp only [updF, ovK, if_true, set_self' hc] at hb
        rw [← hb]
        exact List.getElem?_set_self (by rw [List.length_set, deads_len]; exact (List.getElem?_eq_some_iff.1 hc).1)
      · refine .inl ⟨by simp only [updF, ovK, if_neg e], fun ⟨b, hb, hbl⟩ => ?_⟩
        simp only [maskK, hc] at hb
        exact e (mask_one hc hb hbl).1
    | fresh =>
      obtain ⟨c, rfl, rfl⟩ := hr
      by_cases e : H.length ≤ k
      · by_cases e2 : k = H.length
        · subst e2
          refine .inr fun ⟨b, hb, hbl⟩ => hn ⟨b, ?_, hbl⟩
          simp only [updF, ovK, if_pos e, List.getElem?_append_right e, Nat.sub_self, List.getElem?_cons_zero] at hb
          rw [List.getElem?_append_right (by rw [deads_len]; exact e), deads_len, Nat.sub_self]
          exact hb
        · refine .inl ⟨?_, fun ⟨b, hb, hbl⟩ => ?_⟩
          · simp only [updF, ovK, if_pos e, List.getElem?_append_right e]
            rw [List.getElem?_eq_none (by simp; omega)]
          · rw [deads_at hb] at hbl
            cases hbl
      · exact .inl ⟨by simp only [updF, ovK, if_neg e], fun ⟨b, hb, hbl⟩ => by rw [deads_at hb] at hbl; cases hbl⟩
    | grow n =>
      obtain ⟨l, rfl, rfl⟩ := hr
      by_cases e : H.length ≤ k
      · have hmk : (maskK H (.grow n) ++ l)[k]? = (H ++ l)[k]? := by
          rw [List.getElem?_append_right (by rw [maskK_len]; exact e), maskK_len, List.getElem?_append_right e]
        cases hk' : (H ++ l)[k]? with
        | some c =>
          refine .inr fun ⟨b, hb, hbl⟩ => hn ⟨b, ?_, hbl⟩
          simp only [updF, ovK, if_pos e, hk'] at hb
          rw [hmk, hk']; exact hb
        | none =>
          refine .inl ⟨by simp only [updF, ovK, if_pos e, hk'], fun ⟨b, hb, hbl⟩ => ?_⟩
          have := (List.getElem?_eq_some_iff.1 hb).1
          rw [maskK_len] at this
          omega
      · refine .inl ⟨by simp only [updF, ovK, if_neg e], fun ⟨b, hb, hbl⟩ => hn ⟨b, ?_, hbl⟩⟩
        rw [List.getElem?_append_left (by rw [maskK_len]; omega)]
        exact hb
    | loud =>
      have hr : M' = H' := hr
      subst hr
      refine .inr fun ⟨b, hb, hbl⟩ => ?_
      cases hk' : M'[k]? with
      | some c =>
        simp only [updF, ovK, hk'] at hb
        injection hb with hb
        subst hb
        exact hn ⟨c, hk', hbl⟩
      | none =>
        simp only [updF, ovK, hk'] at hb
        rw [hag k trivial] at hb
        have := (List.getElem?_eq_some_iff.1 hb).1
        have := List.getElem?_eq_none_iff.1 hk'
        omega
  obtain ⟨lf, le2⟩ := hF.merge (h' := updF h (ovK H H' ki)) hM (by rw [hlen]; exact hro) (by rw [hML]; exact hN) hl (fun k a b => hfree k (by rw [← hlen]; exact a) (by rw [← hML]; exact b)) h1 h2
  have hd : ∀ k y, τ k = some y → k < H'.length := fun k y e => by rw [← hML]; exact hl.rep.dom k y e
  have hold : ∀ k, k < ro → updF h (ovK H H' ki) k = h k := fun k hk => by
    cases ki with
    | quiet => rfl
    | load k0 => rfl
    | read => rfl
    | store k0 =>
      obtain ⟨c, b', hc, _, _, hr0⟩ := hr
      simp only [updF, ovK, if_neg (show ¬ k = k0 by omega)]
    | fresh => simp only [updF, ovK, if_neg (show ¬ H.length ≤ k by omega)]
    | grow n => simp only [updF, ovK, if_neg (show ¬ H.length ≤ k by omega)]
    | loud =>
      have ho : H'[k]? = H[k]? := by
        have := hl.old k hk (by rw [hlen]; omega)
        rw [show M' = H' from hr] at this
        exact this
      simp only [updF, ovK, ho, hag k trivial]
      cases H[k]? <;> rfl
  refine ⟨_, lf, V.up le2 hx, V.un_of hd hx, fun k b ho => Blk.un_of hd (hl.rep.blk k b (ov_at hr ho)), fun k y e => ?_, hold⟩
  unfold Env.join at e
  split at e
  · rename_i y' e2
    exact .inl ⟨y', e2⟩
  · rename_i e2
    rcases hl.new k y e with e3 | hk
    · exact .inl ⟨y, (cut_some e3).2⟩
    · rw [hlen] at hk
      exact .inr ⟨hk, hd k y e⟩
end
end Go.Proofs.YtgkpejlddgoalaaGreatDoor.Zm
