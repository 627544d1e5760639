/- Parts of the proof, joined. -/
import Derived.Test.YtgkpejlddgoalaaGreatDoorJ3
import Derived.Maps.AppendAt
import Derived.ArgAppend
import Derived.WalkKit
import Derived.Laws.Slices
import Derived.Laws.IdiomStrings
set_option linter.unusedSimpArgs false
set_option linter.unusedVariables false
set_option linter.constructorNameAsVariable false
namespace Go.Proofs.YtgkpejlddgoalaaGreatDoor.Zm
open Go.RowKit
open Go.Proofs.YtgkpejlddgoalaaGreatDoor.Ab (evalP evalP_run sizeT rowB placesA zerosN run_v run_isAgg run_sizeT sizeT_info rowB_some add_off take_one cells_at range_at fill_foldl fill_step store_run Turned)

variable {P : Program} {ev : Operand → V} {H : Hp} {σ τ : Env} {w w' : World} {ρ : Operand → Value} {o : Oper} {x : V}

theorem lt_of_at {g : Nat} {ob : Obj} (h : w.heap[g]? = some ob) : g < w.heap.size := by
  rcases Nat.lt_or_ge g w.heap.size with hlt | hge
  · exact hlt
  · rw [Array.getElem?_eq_none hge] at h; cases h
theorem Blk.up {k : Nat} : ∀ {b : Blk}, σ.le τ → (b.live = true → ∀ g n, σ k = some (g, n) → w'.heap[g]? = w.heap[g]?) → b.holds σ k w → b.holds τ k w'
  | .cells T l, h, hw, ⟨g, cs, h1, h2, h3⟩ => ⟨g, cs, h _ _ h1, (hw rfl _ _ h1).trans h2, upC h h3⟩
  | .row T l, h, hw, ⟨g, cs, js, h1, h2, h3⟩ => ⟨g, cs, js, h _ _ h1, (hw rfl _ _ h1).trans h2, upC h h3⟩
  | .ro T l, h, hw, ⟨g, cs, js, U, fr, h1, h2, h3⟩ => ⟨g, cs, js, U, fr, h _ _ h1, (hw rfl _ _ h1).trans h2, upC h h3⟩
  | .dead, _, _, _ => trivial
  | .loop .., h, hw, ⟨g, n, D, m, vs, h1, h2, h3, h4⟩ => ⟨g, n, D, m, vs, h _ _ h1, h _ _ h2, upS h h3, (hw rfl _ _ h1).trans h4⟩
  | .dfr, h, hw, ⟨g, n, h1, h2⟩ => ⟨g, n, h _ _ h1, (hw rfl _ _ h1).trans h2⟩
  | .iter .., h, hw, ⟨g, n, h1, h2⟩ => ⟨g, n, h _ _ h1, (hw rfl _ _ h1).trans h2⟩
theorem Blk.known {k : Nat} : ∀ {b : Blk}, b.live = true → b.holds σ k w → ∃ g n, σ k = some (g, n)
  | .cells T l, _, ⟨g, cs, h1, _⟩ => ⟨g, _, h1⟩
  | .row T l, _, ⟨g, cs, js, h1, _⟩ => ⟨g, _, h1⟩
  | .ro T l, _, ⟨g, cs, js, U, fr, h1, _⟩ => ⟨g, _, h1⟩
  | .dead, h, _ => by cases h
  | .loop .., _, ⟨g, n, D, m, vs, h1, _⟩ => ⟨g, n, h1⟩
  | .dfr, _, ⟨g, n, h1, _⟩ => ⟨g, n, h1⟩
  | .iter .., _, ⟨g, n, h1, _⟩ => ⟨g, n, h1⟩
/-- A name for a new block. -/
def Env.new (σ : Env) (k : Nat) (x : Nat × Nat) : Env := fun j => if j = k then some x else σ j
theorem Env.new_le {k : Nat} {x : Nat × Nat} (h : σ k = none) : σ.le (σ.new k x) := fun j y e => by
  unfold Env.new
  split
  · rename_i hj; rw [hj, h] at e; cases e
  · exact e
theorem Env.new_cases {k j : Nat} {x y : Nat × Nat} (h : (σ.new k x) j = some y) : σ j = some y ∨ k ≤ j := by
  unfold Env.new at h
  split at h
  · rename_i e; exact .inr (by omega)
  · exact .inl h
theorem Env.new_at {k : Nat} {x : Nat × Nat} : (σ.new k x) k = some x := if_pos rfl
theorem HRep.free (h : HRep σ H w) {k : Nat} (hk : H.length ≤ k) : σ k = none := by
  cases e : σ k with
  | none => rfl
  | some x => exact absurd (h.dom k x e) (Nat.not_lt_of_le hk)
theorem live_lt {k : Nat} (h : live H k) : k < H.length := by
  obtain ⟨b, hb, _⟩ := h
  exact (List.getElem?_eq_some_iff.1 hb).1
theorem live_push {b : Blk} {k : Nat} (h : live (H ++ [b]) k) : live H k ∨ k = H.length := by
  obtain ⟨c, hc, hl⟩ := h
  rw [List.getElem?_append] at hc
  split at hc
  · exact .inl ⟨c, hc, hl⟩
  · have := (List.getElem?_eq_some_iff.1 hc).1
    simp at this
    exact .inr (by omega)
theorem live_set {b : Blk} {j k : Nat} (h : live (H.set j b) k) (hj : live H j) : live H k := by
  obtain ⟨c, hc, hl⟩ := h
  by_cases e : j = k
  · subst e; exact hj
  · rw [List.getElem?_set_ne e] at hc
    exact ⟨c, hc, hl⟩
/-- A new block. -/
theorem Left.push (ro : Nat) (hm : HRep σ H w) {ob : Obj} {n : Nat} {b : Blk} (hb : b.holds (σ.new H.length (w.heap.size, n)) H.length (w.alloc ob)) :
    Left σ H ro w (H ++ [b]) (σ.new H.length (w.heap.size, n)) (w.alloc ob) := by
  have hle : σ.le (σ.new H.length (w.heap.size, n)) := Env.new_le (hm.free (Nat.le_refl _))
  have hbel : Below w.heap.size w (w.alloc ob) := (Below.refl _ _).alloc (Nat.le_refl _) _
  have hold : ∀ k, k < H.length → (σ.new H.length (w.heap.size, n)) k = σ k := fun k hk => by
    unfold Env.new; rw [if_neg (by omega)]
  refine ⟨hle, ⟨fun k b' hk => ?_, fun k k' g m m' h1 h2 e1 e2 => ?_, fun k g m h1 e1 => ?_, fun k y e => ?_⟩, Base.of_below hbel, fun g hg => ?_, by simp, fun k _ hk => List.getElem?_append_left hk, fun k y e => Env.new_cases e⟩
  · rw [List.getElem?_append] at hk
    split at hk
    · refine Blk.up hle (fun hl g m e => hbel.block g (hm.lt k g m ⟨b', hk, hl⟩ e)) (hm.blk k b' hk)
    · have := (List.getElem?_eq_some_iff.1 hk).1
      simp at this
      have e : k = H.length := by omega
      subst e
      simp at hk
      subst hk
      exact hb
  · rcases live_push h1 with h1 | rfl <;> rcases live_push h2 with h2 | rfl
    · rw [hold k (live_lt h1)] at e1
      rw [hold k' (live_lt h2)] at e2
      exact hm.inj k k' g m m' h1 h2 e1 e2
    · rw [hold k (live_lt h1)] at e1
      rw [Env.new_at] at e2
      have := hm.lt k g m h1 e1
      simp only [Option.some.injEq, Prod.mk.injEq] at e2
      omega
    · rw [hold k' (live_lt h2)] at e2
      rw [Env.new_at] at e1
      have := hm.lt k' g m' h2 e2
      simp only [Option.some.injEq, Prod.mk.injEq] at e1
      omega
    · rfl
  · have hsz : (w.alloc ob).heap.size = w.heap.size + 1 := by simp
    rcases live_push h1 with h1 | rfl
    · rw [hold k (live_lt h1)] at e1
      have := hm.lt k g m h1 e1
      omega
    · rw [Env.new_at] at e1
      simp only [Option.some.injEq, Prod.mk.injEq] at e1
      omega
  · simp only [List.length_append, List.length_singleton]
    by_cases e2 : k = H.length
    · omega
    · have : σ k = some y := by unfold Env.new at e; rwa [if_neg e2] at e
      have := hm.dom k y this
      omega
  · obtain ⟨k, m, h1, h2, h3⟩ := hg
    rcases live_push h2 with h2 | rfl
    · rw [hold k (live_lt h2)] at h3
      exact .inl ⟨k, m, h1, h2, h3⟩
    · rw [Env.new_at] at h3
      simp only [Option.some.injEq, Prod.mk.injEq] at h3
      exact .inr (by omega)
/-- One block turns. -/
theorem Left.turn {ro k g n : Nat} (hm : HRep σ H w) {ob : Obj} {b b' : Blk} (hk : H[k]? = some b) (hl : b.live = true) (hro : ro ≤ k) (hg : σ k = some (g, n)) (ht : Ab.Turned g ob w w') (hb : b'.holds σ k w') :
    Left σ H ro w (H.set k b') σ w' := by
  have hlk : live H k := ⟨b, hk, hl⟩
  have hne : ∀ j g', j ≠ k → live H j → ∀ m, σ j = some (g', m) → g' ≠ g := fun j g' hj h1 m e e2 => by
    subst e2
    exact hj (hm.inj j k g' m n h1 hlk e hg)
  refine ⟨Env.le_refl _, ⟨fun j b2 hj => ?_, fun j j' g m m' h1 h2 => hm.inj j j' g m m' (live_set h1 hlk) (live_set h2 hlk), fun j g' m h1 e => by rw [ht.size]; exact hm.lt j g' m (live_set h1 hlk) e, fun j y e => by rw [List.length_set]; exact hm.dom j y e⟩,
    ⟨ht.os, ht.tape, ht.output, by rw [ht.size]; exact Nat.le_refl _, fun g' hg' hT => ht.block g' (fun e => hT (e ▸ ⟨k, n, hro, hlk, hg⟩))⟩, fun g' hg' => ?_, by simp, fun j hj _ => List.getElem?_set_ne (by omega), fun _ _ e => .inl e⟩
  · by_cases e : k = j
    · subst e
      rw [List.getElem?_set_self (List.getElem?_eq_some_iff.1 hk).1] at hj
      injection hj with hj
      subst hj
      exact hb
    · rw [List.getElem?_set_ne e] at hj
      exact Blk.up (Env.le_refl _) (fun h1 g' m e2 => ht.block g' (hne j g' (Ne.symm e) ⟨b2, hj, h1⟩ m e2)) (hm.blk j b2 hj)
  · obtain ⟨j, m, h1, h2, h3⟩ := hg'
    exact .inl ⟨j, m, h1, live_set h2 hlk, h3⟩

/-- A round of a loop over a function, from the call of yield to its return. -/
def Rounds (P : Program) (l : Nat) (f : FuncId) (tmps : Array Value) (as bd : Code) (w : World) (R : Value → World → Prop) : Prop :=
  ∀ c cs, ∃ v w', R v w' ∧ Steps P (lone (Frame.round l f tmps as bd .normal) (c :: cs) w) (lone (c.finish v) cs w')
theorem Rounds.mono {l : Nat} {f : FuncId} {tmps : Array Value} {as bd : Code} {R R' : Value → World → Prop} (h : Rounds P l f tmps as bd w R) (hm : ∀ v w', R v w' → R' v w') : Rounds P l f tmps as bd w R' :=
  fun c cs => by obtain ⟨v, w', h1, h2⟩ := h c cs; exact ⟨v, w', hm v w' h1, h2⟩
/-- What an operation does, and how memory is then. -/
def Does (P : Program) (ρ : Operand → Value) (o : Oper) (w : World) (R : Value → World → Prop) : Prop :=
  (∃ v w', (execOp ρ o).run P w = .ok (.value v) w' ∧ R v w') ∨ (∃ w', (execOp ρ o).run P w = .ok .skip w' ∧ R undef w') ∨
  (∃ fn vs, (execOp ρ o).run P w = .ok (.enter fn vs) w ∧ Calls P fn vs w fun e w' => ∃ v, e = .returned v ∧ R v w') ∨
  (∃ l fn tmps as bd, (execOp ρ o).run P w = .ok (.round l fn tmps as bd) w ∧ Rounds P l fn tmps as bd w R)
/-- It yields x and leaves H'. -/
abbrev Yields (σ : Env) (H : Hp) (ro : Nat) (w : World) (x : V) (H' : Hp) (v : Value) (w' : World) : Prop := ∃ τ, Left σ H ro w H' τ w' ∧ x.holds τ v

/-- The new block of an operation that makes one, and the value that leads to it. -/
def newZ (P : Program) (ev : Operand → V) (H : Hp) (o : Oper) : Option (V × Blk) :=
  match o.op with
  | .alloc T => match zerosZ P T with | some l => some (.f (.one (.b (.ptr H.length 0))), .cells T l) | none => none
  | .box T x => match ev x with
    | .f (.one c) => some (.f (.one (.b (.ptr H.length 0))), .cells T [c])
    | .f (.agg l) => some (.f (.one (.b (.ptr H.length 0))), .cells T l)
    | _ => none
  | .buildSlice T len parts => match P.underlying T with
    | some (.slice e) => match sizeT P e, (P.info? e).bind (·.zero) with
      | some n, some z => if 0 < n ∧ 0 < len ∧ len * n ≤ 16777216 ∧ (zerosN z (len * n)).all (·.oneCell') = true then (match fillZ (fun i => some (i * n, n)) (parts.toList.map fun p => (p.1, ev p.2)) ((zerosN z (len * n)).map lc) with
        | some l => some (.f (.one (.b (.slc H.length 0 len len))), .cells e l) | none => none) else if len = 0 ∧ parts = #[] then some (.f (.one (.b (.slc H.length 0 0 0))), .cells e []) else none
      | _, _ => none
    | _ => none
  | _ => none
theorem newZ_ok {b : Blk} (ro : Nat) (h : newZ P ev H o = some (x, b)) (hs : ∀ y ∈ o.op.operands, (ev y).holds σ (ρ y)) (hm : HRep σ H w) : Does P ρ o w (Yields σ H ro w x (H ++ [b])) := by
  have hnew : ∀ {T : TypeId} {l : List C} {cs : List Value}, holdsC σ l cs → Left σ H ro w (H ++ [.cells T l]) (σ.new H.length (w.heap.size, cs.length)) (w.alloc (.cells cs.toArray T)) := fun {T l cs} hl =>
    Left.push ro hm ⟨w.heap.size, cs, Env.new_at, heap_alloc_new w _, upC (Env.new_le (hm.free (Nat.le_refl _))) hl⟩
  obtain ⟨dst, op, type, pos, after, guard⟩ := o
  cases op <;> simp only [newZ] at h
  case alloc T =>
    split at h
    · rename_i l hz
      simp only [Option.some.injEq, Prod.mk.injEq] at h
      obtain ⟨rfl, rfl⟩ := h
      obtain ⟨z, _, hz2, rfl, hone⟩ := zerosZ_run hz
      refine .inl ⟨.pointer (some ⟨w.heap.size, 0, none⟩), _, ?_, _, hnew (litsC hone), ⟨w.heap.size, _, Env.new_at, rfl⟩⟩
      simp only [execOp]
      refine run_v ?_
      simp [Instr.alloc, Sem.run_bind, hz2, Result.andThen, newVar, newRow]
    · cases h
  case box T y =>
    have hv := hs y (by simp [Op.operands])
    split at h
    · rename_i c hy
      simp only [Option.some.injEq, Prod.mk.injEq] at h
      obtain ⟨rfl, rfl⟩ := h
      rw [hy] at hv
      refine .inl ⟨.pointer (some ⟨w.heap.size, 0, none⟩), _, ?_, _, hnew (cs := [ρ y]) ⟨ρ y, [], rfl, hv, rfl⟩, ⟨w.heap.size, _, Env.new_at, rfl⟩⟩
      simp only [execOp]
      refine run_v ?_
      simp [Instr.box, Sem.run_bind, Result.andThen, newVar, newRow, cells_one (C.one hv)]
    · rename_i l hy
      simp only [Option.some.injEq, Prod.mk.injEq] at h
      obtain ⟨rfl, rfl⟩ := h
      rw [hy] at hv
      obtain ⟨cs, hv, hl⟩ := hv
      refine .inl ⟨.pointer (some ⟨w.heap.size, 0, none⟩), _, ?_, _, hnew hl, ⟨w.heap.size, _, Env.new_at, rfl⟩⟩
      simp only [execOp]
      refine run_v ?_
      simp [Instr.box, Sem.run_bind, Result.andThen, newVar, newRow, hv, Value.cells]
    · cases h
  case buildSlice T len parts =>
    have hp : ∀ p ∈ parts.toList, (ev p.2).holds σ (ρ p.2) := fun p hm => hs p.2 (by
      simp only [Op.operands]
      exact List.mem_toArray.2 (List.mem_map.2 ⟨p, hm, rfl⟩))
    split at h
    · rename_i e hu
      split at h
      · rename_i m zv hm2 hzi
        split at h
        · rename_i hc
          split at h
          · rename_i l' hl
            simp only [Option.some.injEq, Prod.mk.injEq] at h
            obtain ⟨rfl, rfl⟩ := h
            obtain ⟨hc1, hc2, hc3, hone⟩ := hc
            have harr : ((Array.range (len * m)).map (fun i => zv.cells[i % zv.cells.size]!)).toList = zerosN zv (len * m) := by
              rw [Array.toList_map, Array.toList_range]; rfl
            obtain ⟨ds, hd, hd2⟩ := fillZ_run (cs := (Array.range (len * m)).map (fun i => zv.cells[i % zv.cells.size]!)) hl (by rw [harr]; exact litsC hone) hp
            refine .inl ⟨.slice (some ⟨w.heap.size, 0, none⟩) len len, _, ?_, _, hnew hd2, ⟨w.heap.size, _, Env.new_at, rfl⟩⟩
            simp only [execOp]
            refine run_v ?_
            have h0 : len * m ≠ 0 := Nat.mul_ne_zero (by omega) (by omega)
            have h1 : ¬ (len * m > 2 ^ 24) := by omega
            have hzr : (zeroValue e).run P w = .ok zv w := by
              rw [Option.bind_eq_some_iff] at hzi
              obtain ⟨i, hi, hz⟩ := hzi
              simp [zeroValue, typeInfo, hi, hz]
            have hd' : Instr.fill (fun i => some (i * m, m)) ((Array.range (len * m)).map (fun i => zv.cells[i % zv.cells.size]!)) (parts.map fun (i, x) => (i, ρ x)).toList = some ds := by simpa using hd
            unfold Instr.buildSlice
            simp only [Sem.run_bind, run_underlying hu, Result.andThen, run_sizeT hm2, if_neg h1, if_neg h0, hzr, Sem.run_pure, hd']
            simp [Sem.run_bind, newRow, Result.andThen]
          · cases h
        · split at h
          · rename_i hc
            obtain ⟨rfl, rfl⟩ := hc
            simp only [Option.some.injEq, Prod.mk.injEq] at h
            obtain ⟨rfl, rfl⟩ := h
            refine .inl ⟨.slice (some ⟨w.heap.size, 0, none⟩) 0 0, _, ?_, _, hnew (l := []) (cs := []) rfl, ⟨w.heap.size, _, Env.new_at, rfl⟩⟩
            simp only [execOp]
            refine run_v ?_
            unfold Instr.buildSlice
            simp [Sem.run_bind, run_underlying hu, Result.andThen, run_sizeT hm2, Sem.run_pure, newRow, Instr.fill]
            congr 2
            apply Array.toList_inj.1
            simp
          · cases h
      · cases h
    · cases h
  all_goals (cases h)
/-- A store. -/
def storeZ (P : Program) (ev : Operand → V) (H : Hp) (ro : Nat) (o : Oper) : Option Hp :=
  match o.op with
  | .store T x y => match ev x, sizeT P T with
    | .f (.one (.b (.ptr k off))), some n => match (match ev y with | .f (.one c) => some [c] | .f (.agg l) => some l | _ => none) with
      | some m => if m.length == n && decide (ro ≤ k) then (match H[k]? with
        | some (.cells T' l) => match putZ l off m with | some l' => some (H.set k (.cells T' l')) | none => none
        | some (.row T' l) => match putZ l off m with | some l' => some (H.set k (.row T' l')) | none => none
        | _ => none) else none
      | none => none
    | _, _ => none
  | _ => none
theorem storeZ_ok {ro : Nat} {H' : Hp} (h : storeZ P ev H ro o = some H') (hs : ∀ y ∈ o.op.operands, (ev y).holds σ (ρ y)) (hm : HRep σ H w) : Does P ρ o w (Yields σ H ro w .un H') := by
  obtain ⟨dst, op, type, pos, after, guard⟩ := o
  cases op <;> simp only [storeZ] at h
  case store T a b =>
    have ha := hs a (by simp [Op.operands])
    have hb := hs b (by simp [Op.operands])
    split at h
    · rename_i k off n h1 hn
      rw [h1] at ha
      obtain ⟨g, N, hg, hv⟩ := hold_ptr ha
      split at h
      · rename_i m hmm
        have hes : ∃ es : List Value, (ρ b).cells.toList = es ∧ holdsC σ m es := by
          split at hmm
          · rename_i c hy
            injection hmm with hmm
            subst hmm
            rw [hy] at hb
            exact ⟨[ρ b], by rw [cells_one (C.one hb)], ρ b, [], rfl, hb, rfl⟩
          · rename_i l hy
            injection hmm with hmm
            subst hmm
            rw [hy] at hb
            obtain ⟨es, e, hl⟩ := hb
            exact ⟨es, by rw [e]; rfl, hl⟩
          · cases hmm
        obtain ⟨es, he, hes⟩ := hes
        split at h
        · rename_i hc
          simp only [Bool.and_eq_true, beq_iff_eq, decide_eq_true_eq] at hc
          split at h
          · rename_i T' l hk
            split at h
            · rename_i l' hp
              injection h with h
              subst h
              obtain ⟨g', cs, e1, e2, e3⟩ := hm.blk k _ hk
              rw [hg] at e1
              simp only [Option.some.injEq, Prod.mk.injEq] at e1
              obtain ⟨rfl, hN⟩ := e1
              obtain ⟨h4, h5⟩ := putZ_holds hp e3 hes
              obtain ⟨h6, h7⟩ := store_run (P := P) (o := ⟨dst, .store T a b, type, pos, after, guard⟩) rfl hv he hn (by rw [lenC hes]; exact hc.1) (oneC hes) e2 h5
              refine .inr (.inl ⟨_, h6, σ, Left.turn hm hk rfl hc.2 hg h7 ⟨g, _, ?_, h7.at_, h4⟩, trivial⟩)
              rw [hg, hN]
              simp
              omega
            · cases h
          · rename_i T' l hk
            split at h
            · rename_i l' hp
              injection h with h
              subst h
              obtain ⟨g', cs, js, e1, e2, e3⟩ := hm.blk k _ hk
              rw [hg] at e1
              simp only [Option.some.injEq, Prod.mk.injEq] at e1
              obtain ⟨rfl, hN⟩ := e1
              obtain ⟨h4, h5⟩ := putZ_holds hp e3 hes
              obtain ⟨h6, h7⟩ := store_run (P := P) (o := ⟨dst, .store T a b, type, pos, after, guard⟩) rfl hv he hn (by rw [lenC hes]; exact hc.1) (oneC hes) e2 (by rw [List.length_append]; omega)
              have hsplit : (cs ++ js).take off ++ es ++ (cs ++ js).drop (off + es.length) = (cs.take off ++ es ++ cs.drop (off + es.length)) ++ js := by
                rw [List.take_append_of_le_length (by omega), List.drop_append_of_le_length (by omega)]
                simp
              rw [hsplit] at h7
              refine .inr (.inl ⟨_, h6, σ, Left.turn hm hk rfl hc.2 hg h7 ⟨g, _, js, ?_, h7.at_, h4⟩, trivial⟩)
              rw [hg, hN]
              simp
              omega
            · cases h
          · cases h
        · cases h
      · cases h
    · cases h
  all_goals (cases h)
end Go.Proofs.YtgkpejlddgoalaaGreatDoor.Zm
namespace Go.Proofs.YtgkpejlddgoalaaGreatDoor.Zm
open Go.RowKit
open Go.Proofs.YtgkpejlddgoalaaGreatDoor.Ab (evalP evalP_run sizeT rowB placesA zerosN run_v run_isAgg run_sizeT sizeT_info rowB_some add_off take_one cells_at range_at fill_foldl fill_step setCells_turned)

variable {P : Program} {ev : Operand → V} {H : Hp} {σ τ : Env} {w w' : World} {ρ : Operand → Value} {o : Oper} {x : V}

/-- A new name, for a block that is new, or that had another name. -/
theorem Left.row {ro g n : Nat} {H1 : Hp} {b : Blk} (hm : HRep σ H w) (hlen : H1.length = H.length) (hsub : ∀ (j : Nat) b, H1[j]? = some b → b.live = true → H[j]? = some b) (hold1 : ∀ k, k < ro → H1[k]? = H[k]?) (hg : ∀ j m, live H1 j → σ j ≠ some (g, m))
    (hblk : ∀ j g' m, live H1 j → σ j = some (g', m) → w'.heap[g']? = w.heap[g']?) (hlt : g < w'.heap.size) (hbase : Base (Own σ H ro) w w') (hown : Own σ H ro g ∨ w.heap.size ≤ g) (hb : b.holds (σ.new H.length (g, n)) H.length w') :
    Left σ H ro w (H1 ++ [b]) (σ.new H.length (g, n)) w' := by
  have hle : σ.le (σ.new H.length (g, n)) := Env.new_le (hm.free (Nat.le_refl _))
  have hold : ∀ k, k < H.length → (σ.new H.length (g, n)) k = σ k := fun k hk => by
    unfold Env.new; rw [if_neg (by omega)]
  have up : ∀ {k}, live H1 k → live H k := fun ⟨b, h1, h2⟩ => ⟨b, hsub _ _ h1 h2, h2⟩
  have push : ∀ {k}, live (H1 ++ [b]) k → live H1 k ∨ k = H.length := fun h => by rw [← hlen]; exact live_push h
  refine ⟨hle, ⟨fun k b' hk => ?_, fun k k' g' m m' h1 h2 e1 e2 => ?_, fun k g' m h1 e1 => ?_, fun k y e => ?_⟩, hbase, fun g' hg' => ?_, by simp [hlen], fun k h1 h2 => by rw [List.getElem?_append_left (by omega)]; exact hold1 k h1, fun k y e => Env.new_cases e⟩
  · rw [List.getElem?_append] at hk
    split at hk
    · cases hl : b'.live with
      | true => exact Blk.up hle (fun _ g' m e => hblk k g' m ⟨b', hk, hl⟩ e) (hm.blk k b' (hsub k b' hk hl))
      | false =>
        cases b' with
        | dead => trivial
        | _ => cases hl
    · have := (List.getElem?_eq_some_iff.1 hk).1
      simp at this
      have e : k = H.length := by omega
      subst e
      rw [hlen] at hk
      simp at hk
      subst hk
      exact hb
  · rcases push h1 with h1 | rfl <;> rcases push h2 with h2 | rfl
    · rw [hold k (live_lt (up h1))] at e1
      rw [hold k' (live_lt (up h2))] at e2
      exact hm.inj k k' g' m m' (up h1) (up h2) e1 e2
    · rw [hold k (live_lt (up h1))] at e1
      rw [Env.new_at] at e2
      simp only [Option.some.injEq, Prod.mk.injEq] at e2
      obtain ⟨rfl, _⟩ := e2
      exact absurd e1 (hg k m h1)
    · rw [hold k' (live_lt (up h2))] at e2
      rw [Env.new_at] at e1
      simp only [Option.some.injEq, Prod.mk.injEq] at e1
      obtain ⟨rfl, _⟩ := e1
      exact absurd e2 (hg k' m' h2)
    · rfl
  · rcases push h1 with h1 | rfl
    · rw [hold k (live_lt (up h1))] at e1
      exact Nat.lt_of_lt_of_le (hm.lt k g' m (up h1) e1) hbase.size
    · rw [Env.new_at] at e1
      simp only [Option.some.injEq, Prod.mk.injEq] at e1
      rw [← e1.1]; exact hlt
  · simp only [List.length_append, List.length_singleton]
    by_cases e2 : k = H.length
    · omega
    · have : σ k = some y := by unfold Env.new at e; rwa [if_neg e2] at e
      have := hm.dom k y this
      omega
  · obtain ⟨k, m, h1, h2, h3⟩ := hg'
    rcases push h2 with h2 | rfl
    · rw [hold k (live_lt (up h2))] at h3
      exact .inl ⟨k, m, h1, up h2, h3⟩
    · rw [Env.new_at] at h3
      simp only [Option.some.injEq, Prod.mk.injEq] at h3
      rw [← h3.1]; exact hown
theorem dead_live {k j : Nat} (h : live (H.set k .dead) j) : j ≠ k ∧ live H j := by
  obtain ⟨b, hb, hl⟩ := h
  by_cases e : k = j
  · subst e
    rw [List.getElem?_set] at hb
    simp only [if_true] at hb
    split at hb
    · injection hb with hb
      subst hb
      cases hl
    · cases hb
  · rw [List.getElem?_set_ne e] at hb
    exact ⟨fun h => e h.symm, b, hb, hl⟩
theorem dead_sub (k : Nat) (j : Nat) (b : Blk) (hb : (H.set k .dead)[j]? = some b) (hl : b.live = true) : H[j]? = some b := by
  by_cases e : k = j
  · subst e
    rw [List.getElem?_set] at hb
    simp only [if_true] at hb
    split at hb
    · injection hb with hb
      subst hb
      cases hl
    · cases hb
  · rw [List.getElem?_set_ne e] at hb
    exact hb
/-- The cells that are appended, and how many elements these are. -/
def newsZ (H : Hp) (size : Nat) : V → Option (List C × Nat)
  | .f (.one (.b (.slc k off n _))) => match cellsOf H k with | some l => if off + n * size ≤ l.length then some ((l.drop off).take (n * size), n) else none | none => none
  | .f (.one (.b (.row k off n _))) => match cellsOf H k with | some l => if off + n * size ≤ l.length then some ((l.drop off).take (n * size), n) else none | none => none
  | _ => none
theorem newsZ_holds {size n : Nat} {l : List C} {v : Value} (h : newsZ H size x = some (l, n)) (hx : x.holds σ v) (hm : HRep σ H w) :
    ∃ a c, ∃ news : List Value, v = .slice (some a) n c ∧ news.length = n * size ∧ (∀ (j : Nat) u, news[j]? = some u → w.cell? (a.add j) = some u) ∧ holdsC σ l news := by
  have key : ∀ (k off n' c : Nat) (l' : List C) (g N : Nat), cellsOf H k = some l' → off + n' * size ≤ l'.length → σ k = some (g, N) → v = .slice (some ⟨g, off, none⟩) n' c → l = (l'.drop off).take (n' * size) → n = n' →
      ∃ a c, ∃ news : List Value, v = .slice (some a) n c ∧ news.length = n * size ∧ (∀ (j : Nat) u, news[j]? = some u → w.cell? (a.add j) = some u) ∧ holdsC σ l news := by
    rintro k off n' c l' g N hc hle hg hv rfl rfl
    obtain ⟨g', T, fr, cs, js, h1, h2, h3⟩ := cellsOf_at hc hm
    rw [hg] at h1
    simp only [Option.some.injEq, Prod.mk.injEq] at h1
    obtain ⟨rfl, _⟩ := h1
    have hl := lenC h3
    refine ⟨_, c, (cs.drop off).take (n * size), hv, by rw [List.length_take, List.length_drop]; omega, fun j u hj => ?_, takeC _ (dropC _ h3)⟩
    have := range_at h2 off (n * size) j u (by rw [take_eq (by omega)]; exact hj)
    rw [add_off]
    exact this
  unfold newsZ at h
  split at h
  · rename_i k off n' c
    obtain ⟨g, N, hg, hv⟩ := hx
    split at h
    · rename_i l' hc
      split at h
      · rename_i hle
        simp only [Option.some.injEq, Prod.mk.injEq] at h
        exact key k off n' c l' g N hc hle hg hv h.1.symm h.2.symm
      · cases h
    · cases h
  · rename_i k off n' sz
    obtain ⟨g, N, c, hg, _, _, _, hv⟩ := hx
    split at h
    · rename_i l' hc
      split at h
      · rename_i hle
        simp only [Option.some.injEq, Prod.mk.injEq] at h
        exact key k off n' c l' g N hc hle hg hv h.1.symm h.2.symm
      · cases h
    · cases h
  · cases h
/-- Append, and make. -/
def growZ (P : Program) (ev : Operand → V) (H : Hp) (ro : Nat) (o : Oper) : Option (V × Hp) :=
  match o.op with
  | .call ⟨.builtin .append, args, argTypes⟩ => match args.toList, argTypes.toList with
    | [s, y], [t, t'] => if t == t' then (match P.underlying t with
      | some (.slice e) => match sizeT P e, P.info? e with
        | some size, some i => match i.zero, newsZ H size (ev y) with
          | some z, some (news, m) => if z.cells.size == size && decide (0 < size) then (match ev s with
            | .f (.one (.b (.lit (.slice none 0 0)))) => if 0 < m ∧ m ≤ maxLen ∧ m * i.bytes ≤ 140737488355328 then some (.f (.one (.b (.row H.length 0 m size))), H ++ [.row e news]) else none
            | .f (.one (.b (.row k 0 n sz))) => match H[k]? with
              | some (.row T l) => if T = e ∧ sz = size ∧ l.length = n * size ∧ ro ≤ k ∧ n + m ≤ maxLen ∧ (n + m) * i.bytes ≤ 140737488355328 then some (.f (.one (.b (.row H.length 0 (n + m) size))), H.set k .dead ++ [.row e (l ++ news)]) else none
              | _ => none
            | .f (.one (.b (.slc k off n c))) => match H[k]? with
              | some (.cells T l) => if n + m ≤ c then (if off + n * size + news.length ≤ l.length ∧ ro ≤ k then (match putZ l (off + n * size) news with
                  | some l' => some (.f (.one (.b (.slc k off (n + m) c))), H.set k (.cells T l')) | none => none) else none)
                else if off + n * size ≤ l.length ∧ n + m ≤ maxLen ∧ (n + m) * i.bytes ≤ 140737488355328 then some (.f (.one (.b (.row H.length 0 (n + m) size))), H ++ [.row e ((l.drop off).take (n * size) ++ news)]) else none
              | _ => none
            | _ => none) else none
          | _, _ => none
        | _, _ => none
      | _ => none) else none
    | _, _ => none
  | .makeSlice t len cap => match P.underlying t with
    | some (.slice e) => match sizeT P e, P.info? e, intZ (ev len), intZ (ev cap) with
      | some size, some i, some l, some c => match i.zero with
        | some z => if 0 ≤ l ∧ l ≤ c ∧ c * i.bytes ≤ 1048576 ∧ c ≤ 65536 ∧ (zerosN z (c.toNat * size)).all (·.oneCell') = true ∧ z.cells.size = size then some (.f (.one (.b (.slc H.length 0 l.toNat c.toNat))), H ++ [.cells e ((zerosN z (c.toNat * size)).map lc)]) else none
        | none => none
      | _, _, _, _ => none
    | _ => none
  | _ => none
theorem own_row {ro : Nat} {H1 : Hp} {e : TypeId} {size n : Nat} {l : List C} {v v' : Value} {xs : List Value} (hm : HRep σ H w) (hlen : H1.length = H.length) (hsub : ∀ (j : Nat) b, H1[j]? = some b → b.live = true → H[j]? = some b) (hold1 : ∀ k, k < ro → H1[k]? = H[k]?)
    (hrow : w'.ownsRow 0 e size v' n xs) (hne : v' ≠ .slice none 0 0) (hgr : w.grownBy w' v.ownBlock) (hl : holdsC σ l xs)
    (hv : ∀ g, v.ownBlock = some g → Own σ H ro g ∧ ∀ j m, live H1 j → σ j ≠ some (g, m)) (hv' : v'.ownBlock = v.ownBlock ∨ v'.ownBlock = some w.heap.size) :
    Yields σ H ro w (.f (.one (.b (.row H.length 0 n size)))) (H1 ++ [.row e l]) v' w' := by
  obtain ⟨h1, h2⟩ := hrow
  rcases h2 with ⟨h2, _⟩ | ⟨g, cap, cur, rfl, _, hh, hnc, hcm, hcs, htake⟩
  · exact absurd h2 hne
  have hgo : (∃ g0, v.ownBlock = some g0 ∧ g = g0) ∨ g = w.heap.size := by
    rcases hv' with h | h
    · exact .inl ⟨g, h.symm, rfl⟩
    · right
      have : some g = some w.heap.size := h
      injection this
  have hbase : Base (Own σ H ro) w w' := ⟨hgr.os, hgr.tape, hgr.output, hgr.size, fun g' hg' hT => hgr.block g' hg' (fun e => hT (hv g' e.symm).1)⟩
  have hl2 := lenC hl
  have hsplit : cur.toList = xs ++ cur.toList.drop (n * size) := by rw [← htake, List.take_append_drop]
  have hcl : cur.toList.length = cap * size := by simpa using hcs
  refine ⟨_, Left.row (g := g) (n := cap * size) hm hlen hsub hold1 (fun j m hj e => ?_) (fun j g' m hj e => ?_) (lt_of_at hh) hbase ?_ ?_, ⟨g, cap * size, cap, Env.new_at, by rw [Nat.zero_add], hnc, hcm, rfl⟩⟩
  · rcases hgo with ⟨g0, e1, rfl⟩ | rfl
    · exact (hv g e1).2 j m hj e
    · obtain ⟨b, hb, hlv⟩ := hj
      have := hm.lt j _ m ⟨b, hsub _ _ hb hlv, hlv⟩ e
      omega
  · refine hgr.block g' (by obtain ⟨b, hb, hlv⟩ := hj; exact hm.lt j g' m ⟨b, hsub _ _ hb hlv, hlv⟩ e) (fun e2 => (hv g' e2.symm).2 j m hj e)
  · rcases hgo with ⟨g0, e1, rfl⟩ | rfl
    · exact .inl (hv g e1).1
    · exact .inr (Nat.le_refl _)
  · refine ⟨g, xs, cur.toList.drop (n * size), ?_, ?_, upC (Env.new_le (hm.free (Nat.le_refl _))) hl⟩
    · rw [Env.new_at, ← hsplit, hcl]
    · rw [← hsplit]; simpa using hh
set_option maxHeartbeats 1000000 in
theorem growZ_ok {ro : Nat} {H' : Hp} (h : growZ P ev H ro o = some (x, H')) (hs : ∀ y ∈ o.op.operands, (ev y).holds σ (ρ y)) (hm : HRep σ H w) : Does P ρ o w (Yields σ H ro w x H') := by
  obtain ⟨dst, op, type, pos, after, guard⟩ := o
  cases op <;> simp only [growZ] at h
  case call c =>
    obtain ⟨callee, args, argTypes⟩ := c
    split at h
    · rename_i _ args' argTypes' hcall
      injection hcall with hcall
      injection hcall with hca hcb hcc
      subst hca hcb hcc
      split at h
      · rename_i s y t t' ha ht
        split at h
        · rename_i htt
          have htt : t = t' := by simpa using htt
          subst htt
          split at h
          · rename_i e hu
            split at h
            · rename_i size i hsz hi
              split at h
              · rename_i z news m hz hn
                split at h
                · rename_i hc
                  simp only [Bool.and_eq_true, beq_iff_eq, decide_eq_true_eq] at hc
                  obtain ⟨hzs, hpos⟩ := hc
                  have hsi : i.size = size := by
                    obtain ⟨i', e1, e2⟩ := sizeT_info hsz
                    rw [hi] at e1
                    injection e1 with e1
                    rw [e1]; exact e2
                  have hops : ∀ y' ∈ args.toList, (ev y').holds σ (ρ y') := fun y' hy' => hs y' (by
                    simp only [Op.operands, Call.operands, Array.mem_append]
                    exact .inr (by simpa using hy'))
                  have hsv := hops s (by rw [ha]; simp)
                  have hyv := hops y (by rw [ha]; simp)
                  obtain ⟨ad, c2, ns, hyv, hnl, hnc, hnh⟩ := newsZ_holds hn hyv hm
                  have harg : args.map ρ = #[ρ s, .slice (some ad) m c2] := by
                    apply Array.toList_inj.1
                    rw [Array.toList_map, ha]
                    simp [hyv]
                  have hat : argTypes = #[t, t] := by
                    apply Array.toList_inj.1
                    rw [ht]
                  have hrun : ∀ {v' : Value} {w' : World}, (Builtin.append_ #[t, t] type #[ρ s, .slice (some ad) m c2]).run P w = .ok v' w' → (execOp ρ ⟨dst, .call ⟨.builtin .append, args, argTypes⟩, type, pos, after, guard⟩).run P w = .ok (.value v') w' := by
                    intro v' w' hb
                    simp only [execOp, resolve, Sem.run_bind, Sem.run_pure, Result.andThen, invoke, builtin, harg, hat]
                    rw [hb]
                  have hn1 : ∀ u ∈ ns, u.oneCell' = true := oneC hnh
                  split at h
                  · rename_i hes
                    rw [hes] at hsv
                    have hsv := hold_lv hsv
                    split at h
                    · rename_i hcond
                      simp only [Option.some.injEq, Prod.mk.injEq] at h
                      obtain ⟨rfl, rfl⟩ := h
                      rw [hsv] at hrun
                      obtain ⟨v', w', hr, hrow, hgr, hnil, hob⟩ := run_append_own_at (P := P) (w := w) 0 t type e i z size i.bytes hu hi hz hsi rfl hzs hpos (.slice none 0 0) 0 [] ⟨by simp, .inl ⟨rfl, rfl⟩⟩ ad m c2 ns hnl hnc hn1 (by omega) (by simpa using hcond.2.2) (Nat.zero_le _)
                      simp only [Nat.zero_add, List.nil_append] at hrow
                      exact .inl ⟨v', w', hrun hr, own_row hm rfl (fun _ _ h _ => h) (fun _ _ => rfl) hrow (fun e => by have := (hnil.1 e).2; omega) hgr hnh (fun g hg => by cases hg) hob⟩
                    · cases h
                  · rename_i k n sz hes
                    rw [hes] at hsv
                    obtain ⟨g, N, cap, hg, hcapN, hncap, hcapm, hsv⟩ := hsv
                    split at h
                    · rename_i T l hk
                      split at h
                      · rename_i hcond
                        obtain ⟨rfl, rfl, hll, hro, hmax, hby⟩ := hcond
                        simp only [Option.some.injEq, Prod.mk.injEq] at h
                        obtain ⟨rfl, rfl⟩ := h
                        rw [hsv] at hrun
                        obtain ⟨g', cs, js, e1, e2, e3⟩ := hm.blk k _ hk
                        rw [hg] at e1
                        simp only [Option.some.injEq, Prod.mk.injEq] at e1
                        obtain ⟨rfl, hN⟩ := e1
                        have hlc := lenC e3
                        obtain ⟨v', w', hr, hrow, hgr, hnil, hob⟩ := run_append_own_at (P := P) (w := w) 0 t type T i z sz i.bytes hu hi hz hsi rfl hzs hpos (.slice (some ⟨g, 0, none⟩) n cap) n cs
                          ⟨by omega, .inr ⟨g, cap, (cs ++ js).toArray, rfl, Nat.zero_le _, e2, hncap, hcapm, by simp at hN ⊢; omega, by simp; rw [List.take_append_of_le_length (by omega), List.take_of_length_le (by omega)]⟩⟩ ad m c2 ns hnl hnc hn1 hmax hby (Nat.zero_le _)
                        have hlk : live H k := ⟨_, hk, rfl⟩
                        refine .inl ⟨v', w', hrun hr, own_row hm (by simp) (dead_sub k) (fun j hj => List.getElem?_set_ne (by omega)) hrow (fun e => by have := (hnil.1 e).1; cases this) hgr (appC e3 hnh) (fun g2 hg2 => ?_) hob⟩
                        have : g = g2 := by injection hg2
                        subst this
                        refine ⟨⟨k, N, hro, hlk, hg⟩, fun j m2 hj e => ?_⟩
                        obtain ⟨hj1, hj2⟩ := dead_live hj
                        exact hj1 (hm.inj j k g m2 N hj2 hlk e hg)
                      · cases h
                    · cases h
                  · rename_i k off n cap hes
                    rw [hes] at hsv
                    obtain ⟨g, N, hg, hsv⟩ := hsv
                    split at h
                    · rename_i T l hk
                      obtain ⟨g', cs, e1, e2, e3⟩ := hm.blk k _ hk
                      rw [hg] at e1
                      simp only [Option.some.injEq, Prod.mk.injEq] at e1
                      obtain ⟨rfl, hN⟩ := e1
                      have hlc := lenC e3
                      rw [hsv] at hrun
                      split at h
                      · rename_i hroom
                        split at h
                        · rename_i hcond
                          split at h
                          · rename_i l' hp
                            simp only [Option.some.injEq, Prod.mk.injEq] at h
                            obtain ⟨rfl, rfl⟩ := h
                            obtain ⟨h4, h5⟩ := putZ_holds hp e3 hnh
                            subst hsi
                            have hcell : ∀ j, j < ns.length → (w.cell? ⟨g, off + n * i.size + j, none⟩).isSome = true := fun j hj => by
                              rw [cells_at e2, List.getElem?_eq_getElem (by omega)]; rfl
                            have hfr : ∀ j, j < ns.length → w.frozen? ⟨g, off + n * i.size + j, none⟩ = false := fun j _ => by simp [World.frozen?, e2]
                            have hr := run_append_room_cells (P := P) (w := w) t type e i hu hi g off n cap ad m c2 ns hnl hnc hn1 hroom hcell hfr
                            have ht2 := setCells_turned (T := T) ns (off + n * i.size) w cs e2 h5
                            refine .inl ⟨_, _, hrun hr, σ, Left.turn hm hk rfl hcond.2 hg ht2 ⟨g, _, ?_, ht2.at_, h4⟩, ⟨g, N, hg, rfl⟩⟩
                            rw [hg, hN]
                            simp
                            omega
                          · cases h
                        · cases h
                      · rename_i hroom
                        split at h
                        · rename_i hcond
                          simp only [Option.some.injEq, Prod.mk.injEq] at h
                          obtain ⟨rfl, rfl⟩ := h
                          obtain ⟨v', w', hr, hrow, hgr⟩ := run_append_arg_grows (P := P) (w := w) t type e i z size i.bytes hu hi hz hsi rfl hzs hpos ⟨g, off, none⟩ n cap ((cs.drop off).take (n * size))
                            (by rw [List.length_take, List.length_drop]; omega) (fun j u hj => by rw [add_off]; exact range_at e2 off (n * size) j u hj) ad m c2 ns hnl hnc (by omega) hcond.2.1 hcond.2.2
                          have hge : ∃ g2, v'.ownBlock = some g2 ∧ w.heap.size ≤ g2 := by
                            rcases hrow.2 with ⟨_, h2⟩ | ⟨g2, cp, cur, rfl, hb, _⟩
                            · omega
                            · exact ⟨g2, rfl, hb⟩
                          obtain ⟨hrl, hr2⟩ := hrow
                          rcases hr2 with ⟨_, h2⟩ | ⟨g2, cp, cur, rfl, hb, hh, hnc2, hcm, hcs, htake⟩
                          · omega
                          have hbase : Base (Own σ H ro) w w' := ⟨hgr.os, hgr.tape, hgr.output, hgr.size, fun g' hg' hT => hgr.block g' hg' (fun e => by cases e)⟩
                          have hsplit : cur.toList = ((cs.drop off).take (n * size) ++ ns) ++ cur.toList.drop ((n + m) * size) := by rw [← htake, List.take_append_drop]
                          have hcl : cur.toList.length = cp * size := by simpa using hcs
                          refine .inl ⟨_, w', hrun hr, _, Left.row (g := g2) (n := cp * size) hm rfl (fun _ _ h _ => h) (fun _ _ => rfl) (fun j m2 hj e => ?_) (fun j g' m2 hj e => hgr.block g' (hm.lt j g' m2 hj e) (fun e => by cases e)) (lt_of_at hh) hbase (.inr hb) ?_, ⟨g2, cp * size, cp, Env.new_at, by rw [Nat.zero_add], hnc2, hcm, rfl⟩⟩
                          · have := hm.lt j _ m2 hj e
                            omega
                          · refine ⟨g2, (cs.drop off).take (n * size) ++ ns, cur.toList.drop ((n + m) * size), ?_, ?_, upC (Env.new_le (hm.free (Nat.le_refl _))) (appC (takeC _ (dropC _ e3)) hnh)⟩
                            · rw [Env.new_at, ← hsplit, hcl]
                            · rw [← hsplit]; simpa using hh
                        · cases h
                    · cases h
                  · cases h
                · cases h
              · cases h
            · cases h
          · cases h
        · cases h
      · cases h
    · rename_i hcall
      cases hcall
    · cases h
  case makeSlice t len cap =>
    split at h
    · rename_i e hu
      split at h
      · rename_i size i l c hsz hi hl hc
        split at h
        · rename_i z hz
          split at h
          · rename_i hcond
            obtain ⟨h0, h1, h2, h3, hone, hzs⟩ := hcond
            simp only [Option.some.injEq, Prod.mk.injEq] at h
            obtain ⟨rfl, rfl⟩ := h
            obtain ⟨k1, hv1⟩ := intZ_holds hl (hs len (by simp [Op.operands]))
            obtain ⟨k2, hv2⟩ := intZ_holds hc (hs cap (by simp [Op.operands]))
            have hsi : i.size = size := by
              obtain ⟨i', e1, e2⟩ := sizeT_info hsz
              rw [hi] at e1
              injection e1 with e1
              rw [e1]; exact e2
            have w1 : IntKind.i64.wrap l = l := by rw [IntWalk.i64_left, IntWalk.wrap64_in _ ⟨by omega, by omega⟩]
            have w2 : IntKind.i64.wrap c = c := by rw [IntWalk.i64_left, IntWalk.wrap64_in _ ⟨by omega, by omega⟩]
            have hb1 : (i.bytes : Int) * c ≤ 1048576 := by rw [Int.mul_comm]; exact h2
            have hb2 : ¬ (i.bytes : Int) * c > 2 ^ 48 := by omega
            have hcn : ¬ c < 0 := by omega
            have harr : ∀ zero : Array Value, (c.toNat * size ≠ 0 → zero = z.cells) → ((Array.range (c.toNat * size)).map (fun i => zero[i % zero.size]!)) = (zerosN z (c.toNat * size)).toArray := by
              intro zero hzero
              by_cases h00 : c.toNat * size = 0
              · rw [h00]; simp [zerosN]
              · rw [hzero h00]
                apply Array.toList_inj.1
                rw [Array.toList_map, Array.toList_range]; rfl
            refine .inl ⟨.slice (some ⟨w.heap.size, 0, none⟩) l.toNat c.toNat, w.alloc (.cells (zerosN z (c.toNat * size)).toArray e), ?_, _, Left.push (n := (zerosN z (c.toNat * size)).length) ro hm ⟨w.heap.size, zerosN z (c.toNat * size), Env.new_at, heap_alloc_new w _, litsC hone⟩, ⟨w.heap.size, _, Env.new_at, rfl⟩⟩
            simp only [execOp]
            refine run_v ?_
            have hroomr : ∀ b : Nat, (askRoom b).run P w = .ok () w := fun b => by
              unfold askRoom
              split <;> rfl
            unfold Instr.makeSlice
            simp only [Sem.run_bind, run_underlying hu, Result.andThen, hv1, hv2, asInt, Sem.run_pure, typeInfo, hi, w1, w2, hsi]
            have t1 : (decide (c < 0) || decide ((i.bytes : Int) * c > 2 ^ 48)) = false := by
              rw [decide_eq_false hcn, decide_eq_false hb2]; rfl
            have t2 : (decide (l < 0)) = false := decide_eq_false (by omega)
            have t3 : (decide (l > c)) = false := decide_eq_false (by omega)
            have hzr : (zeroValue e).run P w = .ok z w := by simp [zeroValue, typeInfo, hi, hz]
            have e1 : (asIntOf (Value.int k1 l)).run P w = .ok (k1, l) w := rfl
            have e2 : (asIntOf (Value.int k2 c)).run P w = .ok (k2, c) w := rfl
            have e3 : (program).run P w = .ok P w := rfl
            have t4 : (decide (c < 0) || decide ((i.bytes : Int) * c > 2 ^ 48) || decide (l < 0) || decide (l > c)) = false := by rw [t1, t2, t3]; rfl
            simp only [e1, e2, e3, hi, Sem.run_pure, w1, w2, t4, Bool.false_eq_true, if_false, Sem.run_bind, hroomr, Result.andThen, run_sizeT hsz]
            by_cases h00 : c.toNat * size = 0
            · simp only [if_pos h00, Sem.run_bind, Sem.run_pure, Result.andThen, newRow, harr #[] (fun h => absurd h00 h)]
              simp [Sem.run_bind, Result.andThen]
            · simp only [if_neg h00, Sem.run_bind, Sem.run_pure, Result.andThen, hzr, newRow, harr z.cells (fun _ => rfl)]
              simp [Sem.run_bind, Result.andThen]
          · cases h
        · cases h
      · cases h
    · cases h
  all_goals (cases h)
end Go.Proofs.YtgkpejlddgoalaaGreatDoor.Zm
namespace Go.Proofs.YtgkpejlddgoalaaGreatDoor.Zm
open Go.RowKit
open Go.Proofs.YtgkpejlddgoalaaGreatDoor.Ab (evalP evalP_run sizeT rowB run_v run_sizeT sizeT_info add_off)

def boundZ (ev : Operand → V) (d : Nat) : Option Operand → Option Nat
  | none => some d
  | some o => match intZ (ev o) with | some i => if 0 ≤ i then some i.toNat else none | none => none
/-- A pointer or a slice that is surely not nil, compared with nil. -/
def cmpNil (P : Program) (T : TypeId) : V → V → Bool
  | .f (.one (.b (.ptr _ _))), .f (.one (.b (.lit (.pointer none)))) => match P.underlying T with | some (.pointer _) => true | _ => false
  | .f (.one (.b (.slc _ _ _ _))), .f (.one (.b (.lit (.slice none _ _)))) => match P.underlying T with | some (.slice _) => true | _ => false
  | .f (.one (.b (.row _ _ _ _))), .f (.one (.b (.lit (.slice none _ _)))) => match P.underlying T with | some (.slice _) => true | _ => false
  | _, _ => false
def subZ (P : Program) (ev : Operand → V) (o : Oper) : Option V :=
  match o.op with
  | .slice T x lo hi none => match ev x, P.underlying T with
    | .f (.one (.b (.lit (.string s)))), some .string => match boundZ ev 0 lo, boundZ ev s.size hi with
      | some l, some h => if l ≤ h ∧ h ≤ s.size then some (lv (.string (s.extract l h))) else none
      | _, _ => none
    | .f (.one (.b (.slc k off n c))), some (.slice e) => match sizeT P e, boundZ ev 0 lo, boundZ ev n hi with
      | some z, some l, some h => if l ≤ h ∧ h ≤ c then some (.f (.one (.b (.slc k (if c = l then off else off + l * z) (h - l) (c - l))))) else none
      | _, _, _ => none
    | .f (.one (.b (.ptr k off))), some (.array n e) => match sizeT P e, boundZ ev 0 lo, boundZ ev n hi with
      | some z, some l, some h => if l ≤ h ∧ h ≤ n then some (.f (.one (.b (.slc k (if n = l then off else off + l * z) (h - l) (n - l))))) else none
      | _, _, _ => none
    | .f (.one (.b (.row k off n sz))), some (.slice e) => match sizeT P e, boundZ ev 0 lo, boundZ ev n hi with
      | some z, some l, some h => if l ≤ h ∧ h ≤ n ∧ (l = 0 ∨ l < n) ∧ z = sz then some (.f (.one (.b (.row k (off + l * sz) (h - l) sz)))) else none
      | _, _, _ => none
    | .f (.one (.b (.lit (.slice none 0 0)))), some (.slice e) => match sizeT P e, boundZ ev 0 lo, boundZ ev 0 hi with
      | some _, some 0, some 0 => some (lv (.slice none 0 0))
      | _, _, _ => none
    | _, _ => none
  | .binOp .eql T x y _ => if cmpNil P T (ev x) (ev y) then some (lv (.bool false)) else none
  | .binOp .neq T x y _ => if cmpNil P T (ev x) (ev y) then some (lv (.bool true)) else none
  | _ => none

/-- Arithmetic of machine integers at once. -/
def fastB : BinOp → IntKind → Int → Int → Option V
  | .add, k, a, b => some (lv (.int k (k.wrap (a + b))))
  | .sub, k, a, b => some (lv (.int k (k.wrap (a - b))))
  | .mul, k, a, b => some (lv (.int k (k.wrap (a * b))))
  | .eql, _, a, b => some (lv (.bool (a == b)))
  | .neq, _, a, b => some (lv (.bool (a != b)))
  | .lss, _, a, b => some (lv (.bool (decide (a < b))))
  | .leq, _, a, b => some (lv (.bool (decide (a ≤ b))))
  | .gtr, _, a, b => some (lv (.bool (decide (a > b))))
  | .geq, _, a, b => some (lv (.bool (decide (a ≥ b))))
  | _, _, _, _ => none
def numZ : V → Option (IntKind × Int)
  | .f (.one (.b (.lit (.int k a)))) => some (k, a)
  | .f (.one (.b (.sym (.int k a)))) => some (k, a)
  | _ => none
def symZ : V → V
  | .f (.one (.b (.lit v))) => .f (.one (.b (.sym v)))
  | x => x
def fastZ (ev : Operand → V) (o : Oper) : Option V :=
  match o.op with
  | .binOp op _ x y _ => match ev x, ev y with
    | .f (.one (.b (.lit (.int k a)))), .f (.one (.b (.lit (.int k' b)))) => if k = k' then fastB op k a b else none
    | p, q => match numZ p, numZ q with
      | some (k, a), some (k', b) => if k = k' then (match fastB op k a b with | some x => some (symZ x) | none => none) else none
      | _, _ => none
  | _ => none
/-- The value of an operation that leaves memory alone. -/
def valY (P : Program) (ev : Operand → V) (H : Hp) (o : Oper) : Option V := match fastZ ev o with | some x => some x | none => match valZ P ev H o with | some x => some x | none => subZ P ev o

section
variable {P : Program} {ev : Operand → V} {H : Hp} {σ : Env} {w : World} {ρ : Operand → Value} {o : Oper} {x : V}
theorem boundZ_val {d l : Nat} {p : Option Operand} (h : boundZ ev d p = some l) (hs : ∀ y, p = some y → (ev y).holds σ (ρ y)) : (p = none ∧ l = d) ∨ ∃ y k i, p = some y ∧ ρ y = .int k i ∧ 0 ≤ i ∧ l = i.toNat := by
  cases p with
  | none => injection h with h; exact .inl ⟨rfl, h.symm⟩
  | some y =>
    simp only [boundZ] at h
    split at h
    · rename_i i hi
      split at h
      · rename_i h0
        injection h with h
        obtain ⟨k, e⟩ := intZ_holds hi (hs y rfl)
        exact .inr ⟨y, k, i, rfl, e, h0, h.symm⟩
      · cases h
    · cases h
theorem bounds_run {b : Bool} {n c l h : Nat} {lo hi : Option Operand} (hl : boundZ ev 0 lo = some l) (hh : boundZ ev n hi = some h) (h1 : l ≤ h) (h2 : h ≤ c) (hslo : ∀ y, lo = some y → (ev y).holds σ (ρ y)) (hshi : ∀ y, hi = some y → (ev y).holds σ (ρ y)) :
    (Instr.sliceBounds b n c (lo.map ρ) (hi.map ρ) none).run P w = .ok (l, h, c) w := by
  rcases boundZ_val hl hslo with ⟨rfl, rfl⟩ | ⟨y, k, i, rfl, e, h0, rfl⟩ <;> rcases boundZ_val hh hshi with ⟨rfl, rfl⟩ | ⟨y', k', i', rfl, e', h0', rfl⟩
  · simp [Instr.sliceBounds]
  · have : (i' : Int) ≤ c := by omega
    simp [Instr.sliceBounds, e', run_sliceBound, h0', this]
  · have : (i : Int) ≤ h := by omega
    simp [Instr.sliceBounds, e, run_sliceBound, h0, this]
  · have h3 : (i' : Int) ≤ c := by omega
    have h4 : i ≤ (i'.toNat : Int) := by omega
    simp only [Instr.sliceBounds, Option.map_some, e, e', Sem.run_bind, Sem.run_pure, Result.andThen, run_sliceBound _ _ _ _ _ h0' h3, run_sliceBound _ _ _ _ _ h0 h4]
theorem equal_ptr_nil {T e : TypeId} {a : Addr} (ht : P.underlying T = some (.pointer e)) : (Op.equal T (.pointer (some a)) (.pointer none)).run P w = .ok false w := by
  show (Op.equalIn (9999 + 1) T (.pointer (some a)) (.pointer none)).run P w = .ok false w
  generalize 9999 = d
  rw [Op.equalIn]
  simp only [Sem.run_bind, run_underlying ht, Result.andThen, Sem.run_pure]
theorem equal_slice_nil {T e : TypeId} {a : Addr} {n c n' c' : Nat} (ht : P.underlying T = some (.slice e)) : (Op.equal T (.slice (some a) n c) (.slice none n' c')).run P w = .ok false w := by
  show (Op.equalIn (9999 + 1) T (.slice (some a) n c) (.slice none n' c')).run P w = .ok false w
  generalize 9999 = d
  rw [Op.equalIn]
  simp only [Sem.run_bind, run_underlying ht, Result.andThen, Sem.run_pure]
theorem cmpNil_ok {T : TypeId} {x y : V} {p q : Operand} {u v : Value} (h : cmpNil P T x y = true) (hu : x.holds σ u) (hv : y.holds σ v) :
    (do eqGuard .eql T p q u v; binOp .eql T u v).run P w = .ok (.bool false) w ∧ (do eqGuard .neq T p q u v; binOp .neq T u v).run P w = .ok (.bool true) w := by
  unfold cmpNil at h
  split at h
  · obtain ⟨g, n, _, hu⟩ := hold_ptr hu
    have hv := hold_lv hv
    split at h
    · rename_i e ht
      subst hu hv
      constructor <;> simp only [eqGuard, binOp, Sem.run_bind, equal_ptr_nil ht, Result.andThen, Sem.run_pure] <;> rfl
    · cases h
  · obtain ⟨g, n, _, hu⟩ := hu
    have hv := hold_lv hv
    split at h
    · rename_i e ht
      subst hu hv
      constructor <;> simp only [eqGuard, binOp, Sem.run_bind, equal_slice_nil ht, Result.andThen, Sem.run_pure] <;> rfl
    · cases h
  · obtain ⟨g, n, c, _, _, _, _, hu⟩ := hu
    have hv := hold_lv hv
    split at h
    · rename_i e ht
      subst hu hv
      constructor <;> simp only [eqGuard, binOp, Sem.run_bind, equal_slice_nil ht, Result.andThen, Sem.run_pure] <;> rfl
    · cases h
  · cases h
theorem subZ_ok (h : subZ P ev o = some x) (hs : ∀ y ∈ o.op.operands, (ev y).holds σ (ρ y)) : ∃ v, (execOp ρ o).run P w = .ok (.value v) w ∧ x.holds σ v := by
  obtain ⟨dst, op, type, pos, after, guard⟩ := o
  cases op <;> simp only [subZ] at h <;> try (cases h; done)
  case slice T y lo hi mx =>
    cases mx with
    | some m => cases h
    | none =>
      have hy := hs y (by simp [Op.operands])
      have hlo : ∀ z, lo = some z → (ev z).holds σ (ρ z) := fun z e => hs z (by simp [Op.operands, e])
      have hhi : ∀ z, hi = some z → (ev z).holds σ (ρ z) := fun z e => hs z (by simp [Op.operands, e])
      simp only at h
      split at h
      · rename_i s hys hu
        split at h
        · rename_i l h' hl hh
          split at h
          · rename_i hc
            injection h with h
            subst h
            rw [hys] at hy
            refine ⟨.string (s.extract l h'), ?_, ⟨rfl, rfl⟩⟩
            simp only [execOp, Option.map_none]
            refine run_v ?_
            simp [Instr.sliceAt, Instr.slice, Sem.run_bind, run_underlying hu, Result.andThen, hold_lv hy, bounds_run hl hh hc.1 hc.2 hlo hhi]
          · cases h
        · cases h
      · rename_i k off n c e hys hu
        split at h
        · rename_i z l h' hz hl hh
          split at h
          · rename_i hc
            injection h with h
            subst h
            rw [hys] at hy
            obtain ⟨g, m, hg, hv⟩ := hy
            refine ⟨.slice (some ⟨g, (if c = l then off else off + l * z), none⟩) (h' - l) (c - l), ?_, ⟨g, m, hg, rfl⟩⟩
            simp only [execOp, Option.map_none]
            refine run_v ?_
            simp [Instr.sliceAt, Instr.slice, Sem.run_bind, run_underlying hu, Result.andThen, hv, bounds_run hl hh hc.1 hc.2 hlo hhi, run_sizeT hz]
            split <;> simp [add_off]
          · cases h
        · cases h
      · rename_i k off n e hys hu
        split at h
        · rename_i z l h' hz hl hh
          split at h
          · rename_i hc
            injection h with h
            subst h
            rw [hys] at hy
            obtain ⟨g, m, hg, hv⟩ := hold_ptr hy
            refine ⟨.slice (some ⟨g, (if n = l then off else off + l * z), none⟩) (h' - l) (n - l), ?_, ⟨g, m, hg, rfl⟩⟩
            simp only [execOp, Option.map_none]
            refine run_v ?_
            simp [Instr.sliceAt, Instr.sureAddr, Sem.run_bind, run_underlying hu, Result.andThen, hv, bounds_run hl hh hc.1 hc.2 hlo hhi, run_sizeT hz]
            split <;> simp [add_off]
          · cases h
        · cases h
      · rename_i k off n sz e hys hu
        split at h
        · rename_i z l h' hz hl hh
          split at h
          · rename_i hc
            injection h with h
            subst h
            rw [hys] at hy
            obtain ⟨g, m, c, hg, k1, k2, k3, hv⟩ := hy
            obtain ⟨c1, c2, c3, rfl⟩ := hc
            refine ⟨.slice (some ⟨g, off + l * z, none⟩) (h' - l) (c - l), ?_, ⟨g, m, c - l, hg, ?_, by omega, by omega, rfl⟩⟩
            · simp only [execOp, Option.map_none]
              refine run_v ?_
              simp [Instr.sliceAt, Instr.slice, Sem.run_bind, run_underlying hu, Result.andThen, hv, bounds_run hl hh c1 (Nat.le_trans c2 k2) hlo hhi, run_sizeT hz]
              split
              · rename_i hcl
                have : l = 0 := by omega
                simp [this]
              · simp [add_off]
            · rw [← k1, Nat.add_assoc, ← Nat.add_mul]
              congr 2
              omega
          · cases h
        · cases h
      · rename_i e hys hu
        split at h
        · rename_i hz hl hh
          injection h with h
          subst h
          rw [hys] at hy
          refine ⟨.slice none 0 0, ?_, ⟨rfl, rfl⟩⟩
          simp only [execOp, Option.map_none]
          refine run_v ?_
          simp [Instr.sliceAt, Instr.slice, Sem.run_bind, run_underlying hu, Result.andThen, hold_lv hy, bounds_run hl hh (Nat.le_refl 0) (Nat.le_refl 0) hlo hhi, run_sizeT hz]
        · cases h
      · cases h
  case binOp op T a b yt =>
    have ha := hs a (by simp [Op.operands])
    have hb := hs b (by simp [Op.operands])
    cases op <;> simp only at h <;> try (cases h; done)
    all_goals
      split at h
      · rename_i hc
        injection h with h
        subst h
        refine ⟨_, ?_, ⟨rfl, rfl⟩⟩
        simp only [execOp]
        first | exact run_v (cmpNil_ok hc ha hb).1 | exact run_v (cmpNil_ok hc ha hb).2
      · cases h
theorem numZ_holds {y : V} {k : IntKind} {a : Int} {v : Value} (h : numZ y = some (k, a)) (hv : y.holds σ v) : v = .int k a := by
  unfold numZ at h
  split at h
  · simp only [Option.some.injEq, Prod.mk.injEq] at h
    rw [← h.1, ← h.2]; exact hv.1
  · simp only [Option.some.injEq, Prod.mk.injEq] at h
    rw [← h.1, ← h.2]; exact hv.1
  · cases h
theorem fastB_run {op : BinOp} {k : IntKind} {a b : Int} {dst : Option Tmp} {T yt type : TypeId} {y z : Operand} {pos : String} {after : Array Edge} {guard : Option (Nat × Bool)} (h : fastB op k a b = some x) (h1 : ρ y = .int k a) (h2 : ρ z = .int k b) :
    ∃ v, (execOp ρ ⟨dst, .binOp op T y z yt, type, pos, after, guard⟩).run P w = .ok (.value v) w ∧ x = lv v ∧ v.oneCell' = true := by
  simp only [execOp, h1, h2]
  cases op <;> simp only [fastB] at h <;> try (cases h; done)
  all_goals
    injection h with h
    subst h
    refine ⟨_, run_v ?_, rfl, rfl⟩
    simp [eqGuard, binOp, Op.intArith, Op.intCmp, Sem.run_bind, Result.andThen]
theorem fastZ_ok (h : fastZ ev o = some x) (hs : ∀ y ∈ o.op.operands, (ev y).holds σ (ρ y)) : ∃ v, (execOp ρ o).run P w = .ok (.value v) w ∧ x.holds σ v := by
  obtain ⟨dst, op, type, pos, after, guard⟩ := o
  cases op <;> simp only [fastZ] at h <;> try (cases h; done)
  case binOp op T y z yt =>
    have h1 := hs y (by simp [Op.operands])
    have h2 := hs z (by simp [Op.operands])
    split at h
    · rename_i k a k' b hy hz
      rw [hy] at h1
      rw [hz] at h2
      split at h
      · rename_i hk
        subst hk
        obtain ⟨v, hr, rfl, ho⟩ := fastB_run (P := P) (w := w) (dst := dst) (T := T) (yt := yt) (type := type) (pos := pos) (after := after) (guard := guard) h (hold_lv h1) (hold_lv h2)
        exact ⟨v, hr, rfl, ho⟩
      · cases h
    · split at h
      · rename_i k a k' b hy hz
        split at h
        · rename_i hk
          subst hk
          split at h
          · rename_i y' hf
            injection h with h
            subst h
            obtain ⟨v, hr, rfl, ho⟩ := fastB_run (P := P) (w := w) (dst := dst) (T := T) (yt := yt) (type := type) (pos := pos) (after := after) (guard := guard) hf (numZ_holds hy h1) (numZ_holds hz h2)
            exact ⟨v, hr, rfl, ho⟩
          · cases h
        · cases h
      · cases h
theorem valY_ok (h : valY P ev H o = some x) (hs : ∀ y ∈ o.op.operands, (ev y).holds σ (ρ y)) (hm : HRep σ H w) : ∃ v, (execOp ρ o).run P w = .ok (.value v) w ∧ x.holds σ v := by
  unfold valY at h
  split at h
  · rename_i x' hx
    injection h with h
    subst h
    exact fastZ_ok hx hs
  · split at h
    · rename_i x' hx
      injection h with h
      subst h
      exact valZ_ok hx hs hm
    · exact subZ_ok h hs
end
end Go.Proofs.YtgkpejlddgoalaaGreatDoor.Zm
namespace Go.Proofs.YtgkpejlddgoalaaGreatDoor.Zm
open Go.RowKit
open Go.Proofs.YtgkpejlddgoalaaGreatDoor.Ab (run_v)

def bytesZ : List C → Option (List UInt8)
  | [] => some []
  | .b (.lit (.int .u8 n)) :: r => if 0 ≤ n ∧ n < 256 then (match bytesZ r with | some l => some (UInt8.ofNat n.toNat :: l) | none => none) else none
  | _ => none
def isSlcZ : V → Bool
  | .f (.one (.b (.slc _ _ _ _))) => true
  | .f (.one (.b (.row _ _ _ _))) => true
  | _ => false
def isBytesZ (P : Program) (s d : TypeId) : Bool := match P.underlying s, P.underlying d with
  | some (.slice e), some .string => (match P.underlying e with | some (.int .u8) => true | _ => false)
  | _, _ => false
/-- A text out of bytes that lie in memory. -/
def strZ (P : Program) (ev : Operand → V) (H : Hp) (o : Oper) : Option V :=
  match o.op with
  | .convert s d y => if isSlcZ (ev y) && isBytesZ P s d then (match newsZ H 1 (ev y) with
    | some (l, _) => match bytesZ l with | some bs => some (lv (.string ⟨bs.toArray⟩)) | none => none
    | none => none) else none
  | _ => none
/-- The value of an operation that leaves memory alone. -/
def valW (P : Program) (ev : Operand → V) (H : Hp) (o : Oper) : Option V := match valY P ev H o with | some x => some x | none => strZ P ev H o

section
variable {P : Program} {ev : Operand → V} {H : Hp} {σ : Env} {w : World} {ρ : Operand → Value} {o : Oper} {x : V}
theorem bytesZ_at {l : List C} : ∀ {bs : List UInt8} {cs : List Value}, bytesZ l = some bs → holdsC σ l cs → cs.length = bs.length ∧ ∀ j (hj : j < bs.length), cs[j]? = some (.int .u8 (bs[j].toNat : Int)) := by
  induction l with
  | nil =>
    intro bs cs h hl
    injection h with h
    subst h
    rw [show cs = [] from hl]
    exact ⟨rfl, fun j hj => absurd hj (Nat.not_lt_zero j)⟩
  | cons y r ih =>
    rintro bs cs h ⟨v, vs, e, h1, h2⟩
    subst e
    unfold bytesZ at h
    split at h
    · rename_i heq
      cases heq
    · rename_i n r' heq
      injection heq with e1 e2
      subst e1 e2
      split at h
      · rename_i hn
        split at h
        · rename_i l hr
          injection h with h
          subst h
          obtain ⟨h3, h4⟩ := ih hr h2
          refine ⟨by simp [h3], fun j hj => ?_⟩
          cases j with
          | zero =>
            simp only [List.getElem?_cons_zero, List.getElem_cons_zero, Option.some.injEq]
            rw [h1.1]
            congr 1
            have : (UInt8.ofNat n.toNat).toNat = n.toNat := by
              rw [UInt8.toNat_ofNat']
              omega
            rw [this]
            omega
          | succ j => simpa using h4 j (by simpa using hj)
        · cases h
      · cases h
    · cases h
theorem strZ_ok (h : strZ P ev H o = some x) (hs : ∀ y ∈ o.op.operands, (ev y).holds σ (ρ y)) (hm : HRep σ H w) : ∃ v, (execOp ρ o).run P w = .ok (.value v) w ∧ x.holds σ v := by
  obtain ⟨dst, op, type, pos, after, guard⟩ := o
  cases op <;> simp only [strZ] at h <;> try (cases h; done)
  case convert s d y =>
    split at h
    · rename_i hc
      rw [Bool.and_eq_true] at hc
      split at h
      · rename_i l n hn
        split at h
        · rename_i bs hb
          injection h with h
          subst h
          obtain ⟨a, c, news, hv, hlen, hat, hl⟩ := newsZ_holds hn (hs y (by simp [Op.operands])) hm
          obtain ⟨h1, h2⟩ := bytesZ_at hb hl
          have ht := hc.2
          unfold isBytesZ at ht
          split at ht
          · rename_i e hs1 hd1
            split at ht
            · rename_i he
              refine ⟨.string ⟨bs.toArray⟩, ?_, ⟨rfl, rfl⟩⟩
              simp only [execOp]
              refine run_v ?_
              have hn' : n = bs.length := by omega
              rw [hv, hn']
              exact run_convert_bytes_back w s d e a c bs hs1 he hd1 fun j hj => hat j _ (h2 j hj)
            · cases ht
          · cases ht
        · cases h
      · cases h
    · cases h
theorem valW_ok (h : valW P ev H o = some x) (hs : ∀ y ∈ o.op.operands, (ev y).holds σ (ρ y)) (hm : HRep σ H w) : ∃ v, (execOp ρ o).run P w = .ok (.value v) w ∧ x.holds σ v := by
  unfold valW at h
  split at h
  · rename_i x' hx
    injection h with h
    subst h
    exact valY_ok hx hs hm
  · exact strZ_ok h hs hm
end
end Go.Proofs.YtgkpejlddgoalaaGreatDoor.Zm
