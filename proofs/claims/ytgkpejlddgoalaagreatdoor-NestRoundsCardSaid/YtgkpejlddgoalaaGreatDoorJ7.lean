/- Parts of the proof, joined. -/
import Derived.Test.YtgkpejlddgoalaaGreatDoorJ6
import Derived.Test.YtgkpejlddgoalaaGreatDoorJ0
import Derived.RangeFuncNested
set_option linter.unusedSimpArgs false
set_option linter.unusedVariables false
set_option linter.constructorNameAsVariable false
namespace Go.Proofs.YtgkpejlddgoalaaGreatDoor.Zm
open Go.RowKit

/-- A call that does not change what was there, at arguments that lead to the first n blocks alone. -/
def soft (imp : FuncId → Bool) (ev : Operand → V) (o : Oper) (n : Nat) : Bool := match o.op with
  | .call c => match c.callee with
    | .value _ => match calleeZ ev o with | some (g, args) => !g.imp imp && args.all (V.under n) | none => false
    | _ => false
  | _ => false
noncomputable def opK (P : Program) (gl : List Nat) (call : CallFn) (imp : FuncId → Bool) (ops : Array Oper) (n : Nat) (o : Oper) (s : Sz) : Option (Ki × V × Hp) :=
  match wantZ s.zs ops o with
  | some true => if soft imp (evZ gl s.zs) o n = true then (match doZ P call imp (evZ gl s.zs) (maskK s.zh (.grow n)) s.zr o with
      | some (x, M') => some (.grow n, x, s.zh ++ M'.drop s.zh.length)
      | none => none) else (match doZ P call imp (evZ gl s.zs) s.zh s.zr o with
      | some (x, H') => some (kindZ imp (evZ gl s.zs) s.zh o x, x, H')
      | none => none)
  | some false => some (.quiet, .tup [], s.zh)
  | none => none
/-- The kinds of the operations, and the number of blocks ahead of each. -/
noncomputable def opsK (P : Program) (gl : List Nat) (call : CallFn) (imp : FuncId → Bool) (ops : Array Oper) (n : Nat) : List Oper → Sz → Option (Sz × List (Ki × Nat))
  | [], s => some (s, [])
  | o :: l, s => match opK P gl call imp ops n o s with
    | some (ki, x, H') => match opsK P gl call imp ops n l { s with zs := putS s.zs o.dst x, zh := H' } with
      | some (s', ks) => some (s', (ki, s.zh.length) :: ks)
      | none => none
    | none => none
theorem soft_do {P : Program} {call : CallFn} {imp : FuncId → Bool} {ev : Operand → V} {H M' : Hp} {o : Oper} {x : V} {ro n : Nat} (hs : soft imp ev o n = true) (h : doZ P call imp ev H ro o = some (x, M')) : M' = H ++ M'.drop H.length := by
  have hid : H = H ++ H.drop H.length := by simp
  obtain ⟨dst, op, type, pos, after, guard⟩ := o
  cases op <;> simp only [soft] at hs <;> try cases hs
  case call c =>
    split at hs
    · rename_i f hc
      split at hs
      · rename_i g args hcal
        simp only [Bool.and_eq_true, Bool.not_eq_true'] at hs
        simp only [doZ, hc, hcal] at h
        split at h
        · simp only [Option.some.injEq, Prod.mk.injEq] at h
          rw [← h.2]; exact hid
        · rw [if_neg (by rw [hs.1]; simp)] at h
          split at h
          · split at h
            · simp only [Option.some.injEq, Prod.mk.injEq] at h
              rw [← h.2]; exact hid
            · simp only [Option.some.injEq, Prod.mk.injEq] at h
              rw [← h.2]; simp
          · cases h
      · cases hs
    · cases hs
/-- What an operation of a region does, on the part that it looks at. -/
theorem opK_do {P : Program} {gl : List Nat} {call : CallFn} {imp : FuncId → Bool} {ops : Array Oper} {n : Nat} {o : Oper} {s : Sz} {ki : Ki} {x : V} {H' : Hp} (h : opK P gl call imp ops n o s = some (ki, x, H')) :
    (wantZ s.zs ops o = some true ∧ ∃ M', doZ P call imp (evZ gl s.zs) (maskK s.zh ki) s.zr o = some (x, M') ∧ RelK s.zh H' M' s.zr ki) ∨ (wantZ s.zs ops o = some false ∧ ki = .quiet ∧ x = .tup [] ∧ H' = s.zh) := by
  unfold opK at h
  split at h
  · rename_i hw
    split at h
    · rename_i hs
      split at h
      · rename_i x' M' hdo
        simp only [Option.some.injEq, Prod.mk.injEq] at h
        obtain ⟨rfl, rfl, rfl⟩ := h
        have := soft_do hs hdo
        rw [maskK_len] at this
        exact .inl ⟨hw, M', hdo, _, rfl, this⟩
      · cases h
    · split at h
      · rename_i x' G hdo
        simp only [Option.some.injEq, Prod.mk.injEq] at h
        obtain ⟨rfl, rfl, rfl⟩ := h
        exact .inl ⟨hw, kind_rel hdo rfl⟩
      · cases h
  · rename_i hw
    simp only [Option.some.injEq, Prod.mk.injEq] at h
    exact .inr ⟨hw, h.1.symm, h.2.1.symm, h.2.2.symm⟩
  · cases h
/-- The region's form: what an operation looks at has been written by one that it waits for, or will be by one that waits for it; each slot is written once. -/
def tyZ (ops : Array Oper) (n : Nat) : Bool :=
  (List.range ops.size).all fun i => (ops[i]?).all fun o =>
    (o.after.all fun e => !Region.binds .any e || decide (e.on < i)) &&
    (match o.dst with | some d => decide (d < n) && (List.range ops.size).all (fun j => j == i || (ops[j]?).all fun o' => o'.dst != some d) | none => true) &&
    (o.looksAt ops).all fun t => (List.range ops.size).all fun j => (ops[j]?).all fun o' => o'.dst != some t || (decide (j < i) && o.after.any fun e => Region.binds .any e && e.on == j) || (decide (i < j) && o'.after.any fun e => Region.binds .any e && e.on == i)
theorem tyZ_spec {ops : Array Oper} {n : Nat} (h : tyZ ops n = true) {i : Nat} {o : Oper} (ho : ops[i]? = some o) :
    (∀ e ∈ o.after, Region.binds .any e = true → e.on < i) ∧ (∀ d, o.dst = some d → d < n ∧ ∀ (j : Nat) (o' : Oper), ops[j]? = some o' → o'.dst = some d → j = i) ∧
    (∀ t ∈ o.looksAt ops, ∀ (j : Nat) (o' : Oper), ops[j]? = some o' → o'.dst = some t → (j < i ∧ ∃ e ∈ o.after, Region.binds .any e = true ∧ e.on = j) ∨ (i < j ∧ ∃ e ∈ o'.after, Region.binds .any e = true ∧ e.on = i)) := by
  have lt : ∀ {j : Nat} {o' : Oper}, ops[j]? = some o' → j < ops.size := fun h => by
    rcases Nat.lt_or_ge _ ops.size with h' | h'
    · exact h'
    · rw [Array.getElem?_eq_none h'] at h; cases h
  simp only [tyZ, List.all_eq_true, List.mem_range] at h
  have h2 := h i (lt ho)
  simp only [ho, Option.all_some, Bool.and_eq_true] at h2
  obtain ⟨⟨h3, h4⟩, h5⟩ := h2
  refine ⟨fun e he hb => ?_, fun d hd => ?_, fun t ht j o' hj hdt => ?_⟩
  · have := Array.all_eq_true'.1 h3 e he
    simp only [hb, Bool.not_true, Bool.false_or, decide_eq_true_eq] at this
    exact this
  · rw [hd] at h4
    simp only [Bool.and_eq_true, decide_eq_true_eq, List.all_eq_true, List.mem_range] at h4
    refine ⟨h4.1, fun j o' hj hd' => ?_⟩
    have := h4.2 j (lt hj)
    simp only [hj, Option.all_some, Bool.or_eq_true, beq_iff_eq, bne_iff_ne] at this
    rcases this with h | h
    · exact h
    · exact absurd hd' h
  · have := List.all_eq_true.1 h5 t ht
    have := List.all_eq_true.1 this j (List.mem_range.2 (lt hj))
    simp only [hj, Option.all_some, Bool.or_eq_true, bne_iff_ne, Bool.and_eq_true, decide_eq_true_eq] at this
    rcases this with (h | ⟨h, h'⟩) | ⟨h, h'⟩
    · exact absurd hdt h
    · obtain ⟨e, he, hb⟩ := Array.any_eq_true'.1 h'
      simp only [Bool.and_eq_true, beq_iff_eq] at hb
      exact .inl ⟨h, e, he, hb.1, hb.2⟩
    · obtain ⟨e, he, hb⟩ := Array.any_eq_true'.1 h'
      simp only [Bool.and_eq_true, beq_iff_eq] at hb
      exact .inr ⟨h, e, he, hb.1, hb.2⟩
theorem ready_nilZ {ops : Array Oper} {n : Nat} {listed : Array Bool} (hf : tyZ ops n = true) (hs : listed.size = ops.size) (h : Region.ready .any ops listed = []) : ∀ i, i < ops.size → Go.Proofs.YtgkpejlddgoalaaGreatDoor.lst listed i := by
  intro i
  induction i using Nat.strongRecOn with
  | ind i ih =>
    intro hi
    apply Classical.byContradiction
    intro hn
    have : i ∈ Region.ready .any ops listed := by
      rw [mem_ready]
      refine ⟨by unfold Go.Proofs.YtgkpejlddgoalaaGreatDoor.lst at hn; simpa using hn, ops[i], Array.getElem?_eq_getElem hi, fun e he hb => ?_⟩
      have hlt := (tyZ_spec hf (Array.getElem?_eq_getElem hi)).1 e he hb
      have := ih e.on hlt (by omega)
      unfold Go.Proofs.YtgkpejlddgoalaaGreatDoor.lst at this
      rw [Array.getD_eq_getD_getElem?, Array.getElem?_eq_getElem (by omega)] at this ⊢
      exact this
    rw [h] at this
    cases this
def mild : Ki → Bool
  | .quiet | .load _ | .read => true
  | _ => false
/-- May the two come in any order (the first stands ahead in the text)? -/
def okPair : Ki × Nat → Ki × Nat → Bool
  | (.quiet, _), _ => true
  | _, (.quiet, _) => true
  | (.load a, _), (.store b, _) => a != b
  | (.load a, _), (.fresh, n) => decide (a < n)
  | (.load _, _), (.load _, _) => true
  | (.load _, _), (.read, _) => true
  | (.store a, _), (.load b, _) => a != b
  | (.store a, _), (.store b, _) => a != b
  | (.store a, _), (.fresh, n) => decide (a < n)
  | (.fresh, m), (.load b, _) => b != m
  | (.fresh, m), (.store b, _) => b != m
  | (.fresh, m), (.fresh, n) => decide (m < n)
  | (.read, _), (.load _, _) => true
  | (.read, _), (.read, _) => true
  | (.read, m), (.fresh, n) => decide (m ≤ n)
  | (.load a, _), (.grow _, n) => decide (a < n)
  | (.grow _, m), (.load b, _) => decide (b < m)
  | (.store a, _), (.grow k, n) => decide (k ≤ a ∧ a < n)
  | (.grow k, m), (.store b, _) => decide (k ≤ b ∧ b < m)
  | (.fresh, m), (.grow k, n) => decide (k ≤ m ∧ m < n)
  | (.grow k, m), (.fresh, n) => decide (k ≤ n ∧ m ≤ n)
  | (.grow k, m), (.grow k', n) => decide (k ≤ n ∧ k' ≤ m ∧ m ≤ n)
  | (.read, m), (.grow _, n) => decide (m ≤ n)
  | _, _ => false
/-- For each operation those that come ahead of it in any order. -/
def closZ (ops : List Oper) : List (List Nat) := ops.foldl (fun acc o => acc ++ [o.after.toList.foldl (fun r e => if Region.binds .any e then (e.on :: acc.getD e.on []) ++ r else r) []]) []
def pairsZ (cl : List (List Nat)) (ks : List (Ki × Nat)) : Bool :=
  (List.range ks.length).all fun j => (List.range j).all fun i => (match ks[i]?, ks[j]? with | some a, some b => okPair a b | _, _ => true) || (cl.getD j []).contains i
def upZ : List (Ki × Nat) → Nat → Bool
  | [], _ => true
  | [(_, m)], n => decide (m ≤ n)
  | (_, m) :: (k, m') :: l, n => decide (m ≤ m') && upZ ((k, m') :: l) n
noncomputable def drawnZ (P : Program) (gl : List Nat) (call : CallFn) (imp : FuncId → Bool) (ops : Array Oper) (s : Sz) : Option Sz :=
  if tyZ ops s.zs.n = true then match opsK P gl call imp ops s.zh.length ops.toList s with
    | some (s', ks) => if upZ ks s'.zh.length = true ∧ ((ks.all fun k => mild k.1) || pairsZ (closZ ops.toList) ks) = true then some s' else none
    | none => none
  else none

/-- Memory when some operations have come up: what they have changed, in the order of the text. -/
def hlF (ov : Nat → Nat → Option Blk) (h0 : Hf) (L : Nat → Bool) : Nat → Hf
  | 0 => h0
  | m + 1 => fun k => if L m = true then (match ov m k with | some b => some b | none => hlF ov h0 L m k) else hlF ov h0 L m k
section
variable {ov : Nat → Nat → Option Blk} {h0 : Hf} {L L' : Nat → Bool} {k : Nat}
theorem hl_later {i : Nat} : ∀ {n : Nat}, i ≤ n → (∀ j, i ≤ j → j < n → L j = true → ov j k = none) → hlF ov h0 L n k = hlF ov h0 L i k
  | 0, hi, _ => by rw [Nat.le_zero.1 hi]
  | n + 1, hi, h => by
    rcases Nat.eq_or_lt_of_le hi with e | hlt
    · rw [e]
    · have ih := hl_later (i := i) (n := n) (by omega) fun j a b c => h j a (by omega) c
      simp only [hlF]
      split
      · rename_i hL
        rw [h n (by omega) (by omega) hL]
        exact ih
      · exact ih
theorem hl_same : ∀ {n : Nat}, (∀ j, j < n → L j = L' j ∨ ov j k = none) → hlF ov h0 L n k = hlF ov h0 L' n k
  | 0, _ => rfl
  | n + 1, h => by
    have ih : hlF ov h0 L n k = hlF ov h0 L' n k := hl_same fun j a => h j (by omega)
    simp only [hlF]
    rcases h n (by omega) with e | e
    · rw [e, ih]
    · simp only [e, ite_self]
      exact ih
theorem hl_cases : ∀ {n : Nat} {b : Blk}, hlF ov h0 L n k = some b → h0 k = some b ∨ ∃ j, j < n ∧ L j = true ∧ ov j k = some b
  | 0, b, h => .inl h
  | n + 1, b, h => by
    simp only [hlF] at h
    split at h
    · rename_i hL
      split at h
      · rename_i c hc
        injection h with h
        subst h
        exact .inr ⟨n, by omega, hL, hc⟩
      · exact (hl_cases h).imp id fun ⟨j, a, b, c⟩ => ⟨j, by omega, b, c⟩
    · exact (hl_cases h).imp id fun ⟨j, a, b, c⟩ => ⟨j, by omega, b, c⟩
/-- One more operation. -/
theorem hl_add {i n : Nat} (hi : i < n) (hL : L i = false) (hL' : ∀ j, L' j = true ↔ (j = i ∨ L j = true)) (hA : ∀ b, ov i k = some b → ∀ j, i < j → j < n → L j = true → ov j k = none) :
    hlF ov h0 L' n k = updF (hlF ov h0 L n) (ov i) k := by
  have hne : ∀ j, j ≠ i → L' j = L j := fun j hj => by
    have := hL' j
    cases h1 : L' j <;> cases h2 : L j <;> simp_all
  cases ho : ov i k with
  | none =>
    simp only [updF, ho]
    refine hl_same fun j hj => ?_
    by_cases e : j = i
    · subst e; exact .inr ho
    · exact .inl (hne j e)
  | some b =>
    simp only [updF, ho]
    rw [hl_later (i := i + 1) (by omega) (fun j a c d => by
      rw [hne j (by omega)] at d
      exact hA b ho j (by omega) c d)]
    simp only [hlF, (hL' i).2 (.inl rfl), if_true, ho]
end
/-- What comes ahead in any order has come up. -/
theorem clos_ok {ops : List Oper} {L : Nat → Prop} (hcl : ∀ (j : Nat) (o : Oper), ops[j]? = some o → L j → ∀ e ∈ o.after, Region.binds .any e = true → L e.on) :
    ∀ {j : Nat} {o : Oper}, ops[j]? = some o → (∀ e ∈ o.after, Region.binds .any e = true → L e.on) → ∀ i, ((closZ ops).getD j []).contains i = true → L i := by
  have key : ∀ (rest done : List Oper) (acc : List (List Nat)), done ++ rest = ops → acc.length = done.length →
      (∀ (j : Nat) (o : Oper), done[j]? = some o → (∀ e ∈ o.after, Region.binds .any e = true → L e.on) → ∀ i ∈ acc.getD j [], L i) →
      ∀ (j : Nat) (o : Oper), ops[j]? = some o → (∀ e ∈ o.after, Region.binds .any e = true → L e.on) →
        ∀ i ∈ (rest.foldl (fun acc o => acc ++ [o.after.toList.foldl (fun r e => if Region.binds .any e then (e.on :: acc.getD e.on []) ++ r else r) []]) acc).getD j [], L i := by
    intro rest
    induction rest with
    | nil =>
      intro done acc hd _ ha j o ho
      rw [List.append_nil] at hd
      subst hd
      exact ha j o ho
    | cons o' rest ih =>
      intro done acc hd hlen ha
      simp only [List.foldl_cons]
      refine ih (done ++ [o']) _ (by rw [← hd]; simp) (by simp [hlen]) fun j o ho he i hi => ?_
      by_cases hj : j < done.length
      · rw [List.getElem?_append_left hj] at ho
        rw [List.getD_eq_getElem?_getD, List.getElem?_append_left (by omega), ← List.getD_eq_getElem?_getD] at hi
        exact ha j o ho he i hi
      · have hj2 : j = done.length := by
          have := (List.getElem?_eq_some_iff.1 ho).1
          simp at this
          omega
        subst hj2
        rw [List.getElem?_append_right (Nat.le_refl _), Nat.sub_self] at ho
        simp only [List.getElem?_cons_zero, Option.some.injEq] at ho
        subst ho
        rw [List.getD_eq_getElem?_getD, List.getElem?_append_right (by omega), hlen, Nat.sub_self] at hi
        simp only [List.getElem?_cons_zero, Option.getD_some] at hi
        have fold : ∀ (es : List Edge) (r : List Nat), (∀ e ∈ es, Region.binds .any e = true → L e.on) → (∀ i ∈ r, L i) →
            ∀ i ∈ es.foldl (fun r e => if Region.binds .any e then (e.on :: acc.getD e.on []) ++ r else r) r, L i := by
          intro es
          induction es with
          | nil => intro r _ hr; exact hr
          | cons e es ih2 =>
            intro r hes hr
            simp only [List.foldl_cons]
            refine ih2 _ (fun e' he' => hes e' (by simp [he'])) fun i hi => ?_
            split at hi
            · rename_i hb
              have hon := hes e (by simp) hb
              rcases List.mem_append.1 hi with hi | hi
              · rcases List.mem_cons.1 hi with rfl | hi
                · exact hon
                · by_cases hm : e.on < done.length
                  · have hget : done[e.on]? = some done[e.on] := List.getElem?_eq_getElem hm
                    exact ha e.on _ hget (hcl e.on _ (by rw [← hd, List.getElem?_append_left hm]; exact hget) hon) i hi
                  · rw [List.getD_eq_getElem?_getD, List.getElem?_eq_none (by omega)] at hi
                    cases hi
              · exact hr i hi
            · exact hr i hi
        exact fold _ [] (fun e he' hb => he e (by simpa using he') hb) (fun i hi => by cases hi) i hi
  intro j o ho he i hi
  refine key ops [] [] rfl rfl (fun j o h => by simp at h) j o ho he i ?_
  unfold closZ at hi
  simpa using hi

section
variable {P : Program} {gl : List Nat} {call : CallFn} {imp : FuncId → Bool} {ops : Array Oper}
/-- The run in the order of the text. -/
structure Trace (P : Program) (gl : List Nat) (call : CallFn) (imp : FuncId → Bool) (ops : Array Oper) (S : Nat → Sz) (X : Nat → V) (K : Nat → Ki) : Prop where
  op : ∀ (i : Nat) o, ops[i]? = some o → opK P gl call imp ops (S 0).zh.length o (S i) = some (K i, X i, (S (i + 1)).zh)
  zs : ∀ (i : Nat) o, ops[i]? = some o → (S (i + 1)).zs = putS (S i).zs o.dst (X i)
  zr : ∀ (i : Nat) o, ops[i]? = some o → (S (i + 1)).zr = (S i).zr
  zm : ∀ (i : Nat) o, ops[i]? = some o → (S (i + 1)).zm = (S i).zm
theorem opsK_trace {n : Nat} : ∀ {l : List Oper} {s s' : Sz} {ks : List (Ki × Nat)}, opsK P gl call imp ops n l s = some (s', ks) → ∃ (S : Nat → Sz) (X : Nat → V) (K : Nat → Ki), S 0 = s ∧ S l.length = s' ∧ ks.length = l.length ∧ (∀ i, i < l.length → ks[i]? = some (K i, (S i).zh.length)) ∧
    ∀ (i : Nat) o, l[i]? = some o → opK P gl call imp ops n o (S i) = some (K i, X i, (S (i + 1)).zh) ∧ (S (i + 1)).zs = putS (S i).zs o.dst (X i) ∧ (S (i + 1)).zr = (S i).zr ∧ (S (i + 1)).zm = (S i).zm
  | [], s, s', ks, h => by
    simp only [opsK, Option.some.injEq, Prod.mk.injEq] at h
    obtain ⟨rfl, rfl⟩ := h
    exact ⟨fun _ => s, fun _ => .un, fun _ => .quiet, rfl, rfl, rfl, fun i hi => by simp at hi, fun i o h => by simp at h⟩
  | o :: l, s, s', ks, h => by
    simp only [opsK] at h
    split at h
    · rename_i ki x H' hop
      split at h
      · rename_i s2 ks2 hr
        simp only [Option.some.injEq, Prod.mk.injEq] at h
        obtain ⟨rfl, rfl⟩ := h
        obtain ⟨S, X, K, e0, e1, e2, e3, e4⟩ := opsK_trace hr
        refine ⟨fun i => match i with | 0 => s | i + 1 => S i, fun i => match i with | 0 => x | i + 1 => X i, fun i => match i with | 0 => ki | i + 1 => K i, rfl, e1, by simp [e2], fun i hi => ?_, fun i o' ho => ?_⟩
        · cases i with
          | zero => rfl
          | succ i => simpa using e3 i (by simpa using hi)
        · cases i with
          | zero =>
            simp only [List.getElem?_cons_zero, Option.some.injEq] at ho
            subst ho
            simp only [e0]
            exact ⟨hop, trivial, trivial, trivial⟩
          | succ i => exact e4 i o' (by simpa using ho)
      · cases h
    · cases h
theorem up_all : ∀ {ks : List (Ki × Nat)} {N : Nat}, upZ ks N = true → (∀ a ∈ ks, a.2 ≤ N) ∧ ks.Pairwise fun a b => a.2 ≤ b.2
  | [], N, _ => ⟨fun a h => (by cases h), List.Pairwise.nil⟩
  | [(k, m)], N, h => by
    simp only [upZ, decide_eq_true_eq] at h
    exact ⟨fun a ha => by rw [List.mem_singleton.1 ha]; exact h, List.pairwise_singleton _ _⟩
  | (k, m) :: (k', m') :: l, N, h => by
    simp only [upZ, Bool.and_eq_true, decide_eq_true_eq] at h
    obtain ⟨h1, h2⟩ := up_all h.2
    have h3 : ∀ a ∈ (k', m') :: l, m ≤ a.2 := fun a ha => by
      rcases List.mem_cons.1 ha with rfl | ha
      · exact h.1
      · exact Nat.le_trans h.1 ((List.pairwise_cons.1 h2).1 a ha)
    refine ⟨fun a ha => ?_, List.pairwise_cons.2 ⟨h3, h2⟩⟩
    rcases List.mem_cons.1 ha with rfl | ha
    · exact Nat.le_trans h.1 (h1 (k', m') (by simp))
    · exact h1 a ha
variable {S : Nat → Sz} {X : Nat → V} {K : Nat → Ki}
theorem mono_of {ks : List (Ki × Nat)} {n N : Nat} (hu : upZ ks N = true) (hlen : ks.length = n) (hk : ∀ i, i < n → ks[i]? = some (K i, (S i).zh.length)) (hN : (S n).zh.length = N) {i j : Nat} (hij : i ≤ j) (hj : j ≤ n) : (S i).zh.length ≤ (S j).zh.length := by
  obtain ⟨h1, h2⟩ := up_all hu
  rcases Nat.eq_or_lt_of_le hij with rfl | hlt
  · exact Nat.le_refl _
  · have a := hk i (by omega)
    rcases Nat.eq_or_lt_of_le hj with rfl | hjn
    · rw [hN]
      exact h1 _ (List.mem_of_getElem? a)
    · have b := hk j hjn
      obtain ⟨ia, ea⟩ := List.getElem?_eq_some_iff.1 a
      obtain ⟨ib, eb⟩ := List.getElem?_eq_some_iff.1 b
      have := List.pairwise_iff_getElem.1 h2 i j ia ib hlt
      rw [ea, eb] at this
      exact this
theorem mild_pair {a b : Ki × Nat} (ha : mild a.1 = true) (hb : mild b.1 = true) : okPair a b = true := by
  obtain ⟨a, m⟩ := a
  obtain ⟨b, n⟩ := b
  cases a <;> cases b <;> first | rfl | (cases ha; done) | (cases hb; done)
theorem pair_of {ks : List (Ki × Nat)} {cl : List (List Nat)} (h : ((ks.all fun k => mild k.1) || pairsZ cl ks) = true) {i j : Nat} {a b : Ki × Nat} (hij : i < j) (hi : ks[i]? = some a) (hj : ks[j]? = some b) : okPair a b = true ∨ (cl.getD j []).contains i = true := by
  rw [Bool.or_eq_true] at h
  rcases h with h | h
  · rw [List.all_eq_true] at h
    exact .inl (mild_pair (h a (List.mem_of_getElem? hi)) (h b (List.mem_of_getElem? hj)))
  · unfold pairsZ at h
    rw [List.all_eq_true] at h
    have h1 := h j (List.mem_range.2 (List.getElem?_eq_some_iff.1 hj).1)
    rw [List.all_eq_true] at h1
    have h2 := h1 i (List.mem_range.2 hij)
    simp only [hi, hj, Bool.or_eq_true] at h2
    exact h2
/-- How memory goes from one operation to the next. -/
theorem op_rel {n : Nat} {s : Sz} {o : Oper} {ki : Ki} {x : V} {H' : Hp} (h : opK P gl call imp ops n o s = some (ki, x, H')) : ∃ M', RelK s.zh H' M' s.zr ki := by
  rcases opK_do h with ⟨_, M', _, hr⟩ | ⟨_, rfl, rfl, rfl⟩
  · exact ⟨M', hr⟩
  · exact ⟨_, rfl, rfl⟩
variable {H H' H2 H2' M' M2' : Hp} {ro ro2 k : Nat} {ki kj : Ki}
/-- A later operation leaves alone what an earlier one looks at. -/
theorem pair_later (h : okPair (ki, H.length) (kj, H2.length) = true) (ht : Tch H.length ki k) : ovK H2 H2' kj k = none := by
  cases ki <;> cases kj <;> simp_all [okPair, Tch, ovK] <;> omega
theorem fresh_at (hr : RelK H H' M' ro .fresh) (hk : H.length < k) : H'[k]? = none := by
  obtain ⟨b, rfl, _⟩ := hr
  exact List.getElem?_eq_none (by simp; omega)
/-- An earlier operation leaves alone what a later one looks at. -/
theorem pair_earlier (hr : RelK H H' M' ro ki) (h : okPair (ki, H.length) (kj, H2.length) = true) (ht : Tch H2.length kj k) : ovK H H' ki k = none := by
  cases ki with
  | quiet => rfl
  | load a => rfl
  | read => rfl
  | store a => cases kj <;> simp_all [okPair, Tch, ovK] <;> (intro e; omega)
  | fresh =>
    simp only [ovK]
    split
    · rename_i hle
      refine fresh_at hr ?_
      cases kj <;> simp_all [okPair, Tch] <;> omega
    · rfl
  | grow n =>
    obtain ⟨l, rfl, _⟩ := hr
    simp only [ovK]
    split
    · rename_i hle
      cases kj <;> simp_all [okPair, Tch] <;> omega
    · rfl
  | loud => cases kj <;> simp_all [okPair, Tch]
/-- A later operation leaves alone what an earlier one changes. -/
theorem pair_over {b : Blk} (hr : RelK H H' M' ro ki) (hn : H'.length ≤ H2.length) (h : okPair (ki, H.length) (kj, H2.length) = true) (ho : ovK H H' ki k = some b) : ovK H2 H2' kj k = none := by
  cases ki with
  | quiet => cases ho
  | load a => cases ho
  | read => cases ho
  | store a =>
    simp only [ovK] at ho
    split at ho
    · exact pair_later (ki := .store a) h (by assumption)
    · cases ho
  | fresh =>
    simp only [ovK] at ho
    split at ho
    · rename_i hle
      have hk : k = H.length := by
        rcases Nat.eq_or_lt_of_le hle with e | e
        · exact e.symm
        · rw [fresh_at hr e] at ho; cases ho
      subst hk
      cases kj <;> simp_all [okPair, ovK] <;> omega
    · cases ho
  | grow n =>
    have hk : k < H'.length := by
      simp only [ovK] at ho
      split at ho
      · exact (List.getElem?_eq_some_iff.1 ho).1
      · cases ho
    have hk2 : H.length ≤ k := by
      simp only [ovK] at ho
      split at ho
      · assumption
      · cases ho
    cases kj <;> simp_all [okPair, ovK] <;> omega
  | loud => cases kj <;> simp_all [okPair, ovK]
theorem rel_upd (hr : RelK H H' M' ro ki) (hle : H.length ≤ H'.length) : updF (fun k => H[k]?) (ovK H H' ki) k = H'[k]? := by
  cases ki with
  | quiet => rw [hr.1]; rfl
  | load a => rw [hr.1]; rfl
  | read => rw [hr.1]; rfl
  | store a =>
    obtain ⟨c, b', hc, rfl, _, _⟩ := hr
    by_cases e : k = a
    · subst e
      simp only [updF, ovK, if_true, set_self' hc]
    · simp only [updF, ovK, if_neg e, List.getElem?_set_ne (Ne.symm e)]
  | fresh =>
    obtain ⟨b, rfl, _⟩ := hr
    by_cases e : H.length ≤ k
    · simp only [updF, ovK, if_pos e]
      cases h2 : (H ++ [b])[k]? with
      | some c => rfl
      | none => exact List.getElem?_eq_none e
    · simp only [updF, ovK, if_neg e, List.getElem?_append_left (Nat.lt_of_not_le e)]
  | grow n =>
    obtain ⟨l, rfl, _⟩ := hr
    by_cases e : H.length ≤ k
    · simp only [updF, ovK, if_pos e]
      cases h2 : (H ++ l)[k]? with
      | some c => rfl
      | none => exact List.getElem?_eq_none e
    · simp only [updF, ovK, if_neg e, List.getElem?_append_left (Nat.lt_of_not_le e)]
  | loud =>
    simp only [updF, ovK]
    cases h2 : H'[k]? with
    | some c => rfl
    | none =>
      have := List.getElem?_eq_none_iff.1 h2
      exact List.getElem?_eq_none (by omega)
/-- What a slot holds in the order of the text. -/
theorem slot_text (T : Trace P gl call imp ops S X K) (hd : ∀ (i : Nat) o d, ops[i]? = some o → o.dst = some d → d < (S 0).zs.n ∧ ∀ (j : Nat) o', ops[j]? = some o' → o'.dst = some d → j = i) :
    ∀ (i : Nat), i ≤ ops.size → (S i).zs.n = (S 0).zs.n ∧ ∀ t, (∃ j o, j < i ∧ ops[j]? = some o ∧ o.dst = some t ∧ (S i).zs.get t = X j) ∨ ((∀ (j : Nat) o, j < i → ops[j]? = some o → o.dst ≠ some t) ∧ (S i).zs.get t = (S 0).zs.get t)
  | 0, _ => ⟨rfl, fun t => .inr ⟨fun j o hj => absurd hj (Nat.not_lt_zero j), rfl⟩⟩
  | i + 1, hi => by
    obtain ⟨h1, h2⟩ := slot_text T hd i (by omega)
    have ho : ops[i]? = some ops[i] := Array.getElem?_eq_getElem (by omega)
    rw [T.zs i _ ho]
    refine ⟨by rw [putS_len, h1], fun t => ?_⟩
    by_cases hdt : ops[i].dst = some t
    · refine .inl ⟨i, _, by omega, ho, hdt, ?_⟩
      rw [hdt]
      have := (hd i _ t ho hdt).1
      exact Sl.get_same (by rw [h1]; exact this)
    · have hput : (putS (S i).zs ops[i].dst (X i)).get t = (S i).zs.get t := by
        cases e : ops[i].dst with
        | none => rfl
        | some d =>
          have : d ≠ t := fun h => hdt (by rw [e, h])
          exact Sl.get_ne this
      rw [hput]
      rcases h2 t with ⟨j, o, a, b, c, d⟩ | ⟨a, b⟩
      · exact .inl ⟨j, o, by omega, b, c, d⟩
      · refine .inr ⟨fun j o hj hjo => ?_, b⟩
        rcases Nat.eq_or_lt_of_le (Nat.le_of_lt_succ hj) with e | hlt
        · subst e
          rw [ho] at hjo
          injection hjo with hjo
          rw [← hjo]; exact hdt
        · exact a j o hlt hjo
end
end Go.Proofs.YtgkpejlddgoalaaGreatDoor.Zm
namespace Go.Proofs.YtgkpejlddgoalaaGreatDoor.Zm
open Go.RowKit
open Go.Proofs.YtgkpejlddgoalaaGreatDoor (lst lst_set ready_nil left_set left_zero)

section
variable {n m : Nat}
theorem B.un_le (h : n ≤ m) : ∀ {x : B}, x.under n = true → x.under m = true
  | .lit _, _ | .sym _, _ => rfl
  | .ptr _ _, k | .slc _ _ _ _, k | .row _ _ _ _, k | .yld _, k | .pty .., k | .sly .., k | .roy .., k => decide_eq_true (Nat.lt_of_lt_of_le (of_decide_eq_true k) h)
theorem all_le {α : Type} {f g : α → Bool} (h : ∀ x, f x = true → g x = true) {l : List α} (hl : l.all f = true) : l.all g = true := by
  rw [List.all_eq_true] at hl ⊢
  exact fun x hx => h x (hl x hx)
theorem C.un_le (h : n ≤ m) : ∀ {x : C}, x.under n = true → x.under m = true
  | .b _, k => B.un_le h k
  | .fn _ a c, k => by
    simp only [C.under, Bool.and_eq_true] at k ⊢
    exact ⟨all_le (fun p hp => all_le (fun x hx => B.un_le h hx) hp) k.1, all_le (fun p hp => all_le (fun x hx => B.un_le h hx) hp) k.2⟩
theorem F.un_le (h : n ≤ m) : ∀ {x : F}, x.under n = true → x.under m = true
  | .one _, k => C.un_le h k
  | .agg _, k => all_le (fun x hx => C.un_le h hx) k
theorem V.un_le (h : n ≤ m) : ∀ {x : V}, x.under n = true → x.under m = true
  | .f _, k => F.un_le h k
  | .tup _, k => all_le (fun x hx => F.un_le h hx) k
  | .un, _ => rfl
theorem Blk.un_le (h : n ≤ m) : ∀ {x : Blk}, x.under n = true → x.under m = true
  | .cells _ _, k | .row _ _, k | .ro _ _, k => all_le (fun x hx => C.un_le h hx) k
  | .dead, _ | .dfr, _ | .iter .., _ => rfl
  | .loop .., k => by
    simp only [Blk.under, Bool.and_eq_true, decide_eq_true_eq] at k ⊢
    exact ⟨fun t => V.un_le h (k.1 t), Nat.lt_of_lt_of_le k.2 h⟩
end

abbrev ovS (S : Nat → Sz) (K : Nat → Ki) (i : Nat) : Nat → Option Blk := ovK (S i).zh (S (i + 1)).zh (K i)
abbrev hS (ops : Array Oper) (S : Nat → Sz) (K : Nat → Ki) (listed : Array Bool) : Hf := hlF (ovS S K) (fun k => (S 0).zh[k]?) (fun i => listed.getD i true) ops.size
/-- What is known of the run in the order of the text. -/
structure Okay (P : Program) (gl : List Nat) (call : CallFn) (imp : FuncId → Bool) (ops : Array Oper) (S : Nat → Sz) (X : Nat → V) (K : Nat → Ki) (σ0 : Env) : Prop where
  tr : Trace P gl call imp ops S X K
  form : tyZ ops (S 0).zs.n = true
  mono : ∀ {i j : Nat}, i ≤ j → j ≤ ops.size → (S i).zh.length ≤ (S j).zh.length
  pair : ∀ {i j : Nat}, i < j → j < ops.size → okPair (K i, (S i).zh.length) (K j, (S j).zh.length) = true ∨ ((closZ ops.toList).getD j []).contains i = true
  ro : (S 0).zr ≤ (S 0).zh.length
  glen : gl.length ≤ (S 0).zh.length
  und : ∀ (k : Nat) b, (S 0).zh[k]? = some b → b.under (S 0).zh.length = true
  unds : ∀ t, ((S 0).zs.get t).under (S 0).zh.length = true
  glob : GlOk gl σ0
  zr : ∀ i, i ≤ ops.size → (S i).zr = (S 0).zr
/-- What holds when some operations have come up. -/
structure IV (ops : Array Oper) (S : Nat → Sz) (X : Nat → V) (K : Nat → Ki) (σ0 : Env) (w0 : World) (a0 : Act) (σ : Env) (listed : Array Bool) (a : Act) (w : World) : Prop where
  lsize : listed.size = ops.size
  closed : ∀ (j : Nat) o, ops[j]? = some o → lst listed j → ∀ e ∈ o.after, Region.binds .any e = true → lst listed e.on
  left : LeftF σ0 (fun k => (S 0).zh[k]?) (S ops.size).zh.length (S 0).zr w0 (hS ops S K listed) σ w
  dom : ∀ k y, σ k = some y → k < (S 0).zh.length ∨ ∃ j, j < ops.size ∧ lst listed j ∧ (S j).zh.length ≤ k ∧ k < (S (j + 1)).zh.length
  und : ∀ j, j < ops.size → lst listed j → (∀ k b, ovS S K j k = some b → b.under (S (j + 1)).zh.length = true) ∧ (X j).under (S (j + 1)).zh.length = true
  hit : ∀ (i : Nat) o d, ops[i]? = some o → lst listed i → o.dst = some d → (X i).holds σ (a.eval (.tmp d))
  miss : ∀ t, (∀ (i : Nat) o, ops[i]? = some o → lst listed i → o.dst ≠ some t) → ((S 0).zs.get t).holds σ (a.eval (.tmp t))
  size : a.tmps.size = (S 0).zs.n
  defers : a.defers = a0.defers
  old : ∀ k, k < (S 0).zr → hS ops S K listed k = (S 0).zh[k]?
  new : ∀ k y, σ k = some y → σ0 k = some y ∨ (S 0).zh.length ≤ k

section
variable {P : Program} {gl : List Nat} {call : CallFn} {imp : FuncId → Bool} {ops : Array Oper} {S : Nat → Sz} {X : Nat → V} {K : Nat → Ki} {σ0 σ τ : Env} {w0 w w' : World} {a0 a : Act} {listed : Array Bool} {i : Nat} {o : Oper} {v : Value} {N : Nat}
theorem Okay.rel (O : Okay P gl call imp ops S X K σ0) {i : Nat} (hi : i < ops.size) : ∃ M' ro, RelK (S i).zh (S (i + 1)).zh M' ro (K i) := by
  obtain ⟨M', h⟩ := op_rel (O.tr.op i _ (Array.getElem?_eq_getElem hi))
  exact ⟨M', _, h⟩
theorem Okay.top (O : Okay P gl call imp ops S X K σ0) {k : Nat} : ∀ {i : Nat}, i ≤ ops.size → hlF (ovS S K) (fun k => (S 0).zh[k]?) (fun _ => true) i k = (S i).zh[k]?
  | 0, _ => rfl
  | i + 1, hi => by
    obtain ⟨M', ro, hr⟩ := O.rel (i := i) (by omega)
    have := rel_upd (k := k) hr (O.mono (Nat.le_succ i) hi)
    simp only [hlF, if_true, O.top (i := i) (by omega)]
    exact this
theorem IV.befores (I : IV ops S X K σ0 w0 a0 σ listed a w) {j : Nat} {o : Oper} (ho : ops[j]? = some o) (hr : ∀ e ∈ o.after, Region.binds .any e = true → lst listed e.on) {i : Nat} (hc : ((closZ ops.toList).getD j []).contains i = true) : lst listed i := by
  refine clos_ok (ops := ops.toList) (L := lst listed) (fun j o hj hl => I.closed j o (by simpa using hj) hl) (o := o) (by simpa using ho) hr i hc
theorem lst_iff {listed : Array Bool} {j : Nat} : lst listed j ↔ listed.getD j true = true := Iff.rfl
theorem IV.agree (I : IV ops S X K σ0 w0 a0 σ listed a w) (O : Okay P gl call imp ops S X K σ0) (ho : ops[i]? = some o) (hi : i < ops.size) (hun : ¬ lst listed i) (hr : ∀ e ∈ o.after, Region.binds .any e = true → lst listed e.on) {k : Nat} (ht : Tch (S i).zh.length (K i) k) :
    hS ops S K listed k = hlF (ovS S K) (fun k => (S 0).zh[k]?) (fun i => listed.getD i true) i k ∧ hlF (ovS S K) (fun k => (S 0).zh[k]?) (fun i => listed.getD i true) i k = (S i).zh[k]? := by
  constructor
  · refine hl_later (by omega) fun j a b c => ?_
    rcases Nat.eq_or_lt_of_le a with e | hlt
    · subst e; exact absurd c hun
    · rcases O.pair hlt b with h | h
      · exact pair_later h ht
      · exact absurd (I.befores (Array.getElem?_eq_getElem b) (I.closed j _ (Array.getElem?_eq_getElem b) c) h) hun
  · rw [← O.top (i := i) (by omega)]
    refine hl_same fun j hj => ?_
    by_cases hl : lst listed j
    · exact .inl hl
    · rcases O.pair hj hi with h | h
      · obtain ⟨M', ro, hrel⟩ := O.rel (i := j) (by omega)
        exact .inr (pair_earlier hrel h ht)
      · exact absurd (I.befores ho hr h) hl
theorem IV.grown (I : IV ops S X K σ0 w0 a0 σ listed a w) (O : Okay P gl call imp ops S X K σ0) (hi : i < ops.size) (hun : ¬ lst listed i) : hS ops S K (listed.setIfInBounds i true) = updF (hS ops S K listed) (ovS S K i) := by
  funext k
  refine hl_add hi (by unfold lst at hun; simpa using hun) (fun j => lst_set (by rw [I.lsize]; exact hi)) fun b hb j a c d => ?_
  rcases O.pair a c with h | h
  · obtain ⟨M', ro, hrel⟩ := O.rel hi
    exact pair_over hrel (O.mono (show i + 1 ≤ j by omega) (by omega)) h hb
  · exact absurd (I.befores (Array.getElem?_eq_getElem c) (I.closed j _ (Array.getElem?_eq_getElem c) d) h) hun
theorem IV.add (I : IV ops S X K σ0 w0 a0 σ listed a w) (O : Okay P gl call imp ops S X K σ0) (ho : ops[i]? = some o) (hi : i < ops.size) (hun : ¬ lst listed i) (hr : ∀ e ∈ o.after, Region.binds .any e = true → lst listed e.on)
    (lf : LeftF σ (hS ops S K listed) (S ops.size).zh.length (S 0).zr w (updF (hS ops S K listed) (ovS S K i)) τ w') (hx : (X i).holds τ v) (hxu : (X i).under (S (i + 1)).zh.length = true)
    (hou : ∀ k b, ovS S K i k = some b → b.under (S (i + 1)).zh.length = true) (hnew : ∀ k y, τ k = some y → (∃ y', σ k = some y') ∨ (S i).zh.length ≤ k ∧ k < (S (i + 1)).zh.length) (hold : ∀ k, k < (S 0).zr → updF (hS ops S K listed) (ovS S K i) k = hS ops S K listed k) :
    IV ops S X K σ0 w0 a0 τ (listed.setIfInBounds i true) (a.put o.dst v) w' := by
  have hgr := I.grown O hi hun
  have hls : ∀ j, lst (listed.setIfInBounds i true) j ↔ (j = i ∨ lst listed j) := fun j => lst_set (by rw [I.lsize]; exact hi)
  obtain ⟨t1, t2, t3⟩ := tyZ_spec O.form ho
  refine ⟨by simp [I.lsize], fun j o' hj hl e he hb => ?_, by rw [hgr]; exact I.left.trans lf, fun k y e => ?_, fun j hj hl => ?_, fun j o' d hj hl hd => ?_, fun t ht => ?_, by rw [Go.Proofs.YtgkpejlddgoalaaGreatDoor.Act.put_size]; exact I.size, by rw [Go.Proofs.YtgkpejlddgoalaaGreatDoor.Act.put_defers]; exact I.defers, fun k hk => by rw [hgr, hold k hk]; exact I.old k hk, fun k y e => ?_⟩
  · rw [hls]
    rcases (hls j).1 hl with rfl | hl
    · rw [ho] at hj
      injection hj with hj
      subst hj
      exact .inr (hr e he hb)
    · exact .inr (I.closed j o' hj hl e he hb)
  · rcases hnew k y e with ⟨y', h⟩ | ⟨h1, h2⟩
    · exact (I.dom k y' h).imp id fun ⟨j, a, b, c⟩ => ⟨j, a, (hls j).2 (.inr b), c⟩
    · exact .inr ⟨i, hi, (hls i).2 (.inl rfl), h1, h2⟩
  · rcases (hls j).1 hl with rfl | hl
    · exact ⟨hou, hxu⟩
    · exact I.und j hj hl
  · rcases (hls j).1 hl with rfl | hl
    · rw [ho] at hj
      injection hj with hj
      subst hj
      rw [hd, Go.Proofs.YtgkpejlddgoalaaGreatDoor.Act.eval_put_hit (by rw [I.size]; exact (t2 d hd).1)]
      exact hx
    · have hne : o.dst ≠ some d := fun e => by
        have e2 := (t2 d e).2 j o' hj hd
        exact hun (e2 ▸ hl)
      rw [Go.Proofs.YtgkpejlddgoalaaGreatDoor.Act.eval_put_miss hne]
      exact V.up lf.le (I.hit j o' d hj hl hd)
  · rw [Go.Proofs.YtgkpejlddgoalaaGreatDoor.Act.eval_put_miss (ht i o ho ((hls i).2 (.inl rfl)))]
    exact V.up lf.le (I.miss t fun j o' hj hl => ht j o' hj ((hls j).2 (.inr hl)))
  · rcases hnew k y e with ⟨y', h⟩ | ⟨h1, _⟩
    · have := lf.le k y' h
      rw [e] at this
      injection this with this
      subst this
      exact I.new k y h
    · exact .inr (Nat.le_trans (O.mono (Nat.zero_le i) (by omega)) h1)
theorem LeftF.refl {h : Hf} {ro : Nat} (hF : HF σ h N w) : LeftF σ h N ro w h σ w := ⟨Env.le_refl _, hF, Base.refl _ _, fun _ k => .inl k⟩
theorem wants_of {l : Sl} {b : Bool} (hsl : ∀ j want d, o.guard = some (j, want) → (ops[j]?).bind (·.dst) = some d → (l.get d).holds σ (a.eval (.tmp d))) (hw : wantZ l ops o = some b) : Region.wanted o (yielded ops a.tmps) = b := by
  unfold wantZ at hw
  split at hw
  · rename_i hg
    injection hw with hw
    subst hw
    simp [Region.wanted, hg]
  · rename_i j want hg
    split at hw
    · rename_i d hd
      have hsl := hsl j want d hg hd
      split at hw
      · rename_i b' hb
        injection hw with hw
        rw [hb] at hsl
        rw [Go.Proofs.YtgkpejlddgoalaaGreatDoor.wanted_is hg hd (hold_lv hsl)]
        exact hw
      · rename_i hb
        injection hw with hw
        subst hw
        rw [hb] at hsl
        obtain ⟨vs, e, e2⟩ := hsl
        rw [show vs = [] from e2] at e
        exact wanted_unZ hg hd e
      · cases hw
    · cases hw
end

section
variable {P : Program} {gl : List Nat} {call : CallFn} {imp : FuncId → Bool} {ops : Array Oper} {S : Nat → Sz} {X : Nat → V} {K : Nat → Ki} {σ0 σ τ : Env} {w0 w w' : World} {a0 a : Act} {listed : Array Bool} {i : Nat} {o : Oper} {v : Value} {N : Nat} {b : Frame} {k : List Item} {cs : List Frame} {rest : List Nat}
theorem IV.slot (I : IV ops S X K σ0 w0 a0 σ listed a w) (O : Okay P gl call imp ops S X K σ0) (ho : ops[i]? = some o) (hi : i < ops.size) (hun : ¬ lst listed i) (hr : ∀ e ∈ o.after, Region.binds .any e = true → lst listed e.on) {t : Tmp} (ht : t ∈ o.looksAt ops) :
    ((S i).zs.get t).holds σ (a.eval (.tmp t)) ∧ ((S i).zs.get t).under (S i).zh.length = true := by
  obtain ⟨t1, t2, t3⟩ := tyZ_spec O.form ho
  rcases (slot_text O.tr (fun j o' d hj hd => (tyZ_spec O.form hj).2.1 d hd) i (by omega)).2 t with ⟨j, o', hj, hjo, hd, e⟩ | ⟨hn, e⟩
  · obtain ⟨_, e', he, hb, hon⟩ : j < i ∧ ∃ e ∈ o.after, Region.binds .any e = true ∧ e.on = j := by
      rcases t3 t ht j o' hjo hd with h | ⟨h, _⟩
      · exact h
      · omega
    have hl : lst listed j := hon ▸ hr e' he hb
    rw [e]
    exact ⟨I.hit j o' t hjo hl hd, V.un_le (O.mono hj (by omega)) (I.und j (by omega) hl).2⟩
  · rw [e]
    refine ⟨I.miss t fun j o' hj hl hd => ?_, V.un_le (O.mono (Nat.zero_le i) (by omega)) (O.unds t)⟩
    rcases t3 t ht j o' hj hd with ⟨h, _⟩ | ⟨_, e', he, hb, hon⟩
    · exact hn j o' h hj hd
    · exact hun (hon ▸ I.closed j o' hj hl e' he hb)
theorem IV.operand (I : IV ops S X K σ0 w0 a0 σ listed a w) (O : Okay P gl call imp ops S X K σ0) (ho : ops[i]? = some o) (hi : i < ops.size) (hun : ¬ lst listed i) (hr : ∀ e ∈ o.after, Region.binds .any e = true → lst listed e.on) {y : Operand} (hy : y ∈ o.op.operands) :
    (evZ gl (S i).zs y).holds σ (a.eval y) ∧ (evZ gl (S i).zs y).under (S i).zh.length = true := by
  cases y with
  | tmp t =>
    refine I.slot O ho hi hun hr ?_
    unfold Oper.looksAt
    rw [List.mem_append, List.mem_filterMap]
    exact .inl ⟨.tmp t, by simpa using hy, rfl⟩
  | const c => exact ⟨constZ_holds c, V.un_of (σ := fun _ => none) (fun k y e => by cases e) (constZ_holds c)⟩
  | func f => exact ⟨⟨rfl, rfl⟩, rfl⟩
  | global g =>
    simp only [evZ]
    split
    · rename_i k hk
      rw [List.findIdx?_eq_some_iff_getElem] at hk
      obtain ⟨hlt, h1, _⟩ := hk
      simp only [beq_iff_eq] at h1
      obtain ⟨n, e⟩ := O.glob k g (by rw [List.getElem?_eq_getElem hlt, h1])
      have := O.mono (Nat.zero_le i) (by omega)
      have := O.glen
      exact ⟨⟨g, n, I.left.le _ _ e, rfl⟩, decide_eq_true (show k < (S i).zh.length by omega)⟩
    · exact ⟨trivial, rfl⟩
/-- An operation comes up. -/
theorem IV.step (I : IV ops S X K σ0 w0 a0 σ listed a w) (O : Okay P gl call imp ops S X K σ0) (hC : CallOkAt P gl call w) (hmem : i ∈ Region.ready .any ops listed) :
    ∃ τ a' w', IV ops S X K σ0 w0 a0 τ (listed.setIfInBounds i true) a' w' ∧ Steps P (lone (b.atR a (.inRegion ops (i :: rest) :: k)) cs w) (lone (b.atR a' (.inRegion ops rest :: k)) cs w') := by
  obtain ⟨hun0, o, ho, hr0⟩ := mem_ready.1 hmem
  have hi : i < ops.size := by
    rcases Nat.lt_or_ge i ops.size with h | h
    · exact h
    · rw [Array.getElem?_eq_none h] at ho; cases ho
  have hun : ¬ lst listed i := fun h => by unfold lst at h; rw [h] at hun0; cases hun0
  have hr : ∀ e ∈ o.after, Region.binds .any e = true → lst listed e.on := fun e he hb => by
    have := hr0 e he hb
    unfold lst
    rw [Array.getD_eq_getD_getElem?] at this ⊢
    cases h : listed[e.on]? with
    | none => rfl
    | some v => rw [h] at this; exact this
  have hop := O.tr.op i o ho
  have hwants : ∀ {bb : Bool}, wantZ (S i).zs ops o = some bb → Region.wanted o (yielded ops a.tmps) = bb := fun hw =>
    wants_of (fun j want d hg hd => (I.slot O ho hi hun hr (by
      unfold Oper.looksAt
      rw [List.mem_append]
      exact .inr (by simp [hg, hd]))).1) hw
  rcases opK_do hop with ⟨hw, M', hdo, hrel⟩ | ⟨hw, hki, hx, hH⟩
  · · have hzr := O.zr i (by omega)
      have hlen0 := O.mono (Nat.zero_le i) (by omega)
      have D := eff_ok (h := hS ops S K listed) (N := (S ops.size).zh.length) hC (fun k g e => by obtain ⟨n, e2⟩ := O.glob k g e; exact ⟨n, I.left.le _ _ e2⟩) (Nat.le_trans O.glen hlen0) hdo hrel
        (fun y hy => I.operand O ho hi hun hr hy) I.left.rep (fun k ht => by obtain ⟨h1, h2⟩ := I.agree O ho hi hun hr ht; exact h1.trans h2)
        (fun k bb ht hb => by
          obtain ⟨_, h2⟩ := I.agree O ho hi hun hr ht
          rw [hb] at h2
          rcases hl_cases h2 with h3 | ⟨j, hj, hl, h3⟩
          · exact Blk.un_le hlen0 (O.und k bb h3)
          · exact Blk.un_le (O.mono hj (by omega)) ((I.und j (by omega) hl).1 k bb h3))
        (by rw [hzr]; exact Nat.le_trans O.ro hlen0) (O.mono (by omega) (Nat.le_refl _))
        (fun k h1 h2 => by
          cases e : σ k with
          | none => rfl
          | some y =>
            rcases I.dom k y e with h3 | ⟨j, hj, hl, h3, h4⟩
            · omega
            · exfalso
              rcases Nat.lt_trichotomy j i with h5 | h5 | h5
              · have := O.mono (show j + 1 ≤ i by omega) (by omega)
                omega
              · subst h5; exact hun hl
              · have := O.mono (show i + 1 ≤ j by omega) (by omega)
                omega)
      obtain ⟨v, w', ⟨τ, lf, hxv, hxu, hou, hnew, hold⟩, hs⟩ := does_step (b := b) (rest := rest) (k := k) (cs := cs) ho (hwants hw) (doZ_noDefer hdo) D
      rw [hzr] at lf hold
      exact ⟨τ, _, w', I.add O ho hi hun hr lf hxv hxu hou hnew hold, hs⟩
  · have hov : ovS S K i = fun _ => none := by
      funext k
      unfold ovS
      rw [hki]
      rfl
    have hupd : updF (hS ops S K listed) (ovS S K i) = hS ops S K listed := by rw [hov]; rfl
    refine ⟨σ, _, w, I.add (v := undef) O ho hi hun hr (by rw [hupd]; exact LeftF.refl I.left.rep) (by rw [hx]; exact ⟨[], rfl, rfl⟩) (by rw [hx]; rfl) (fun k bb e => by rw [hov] at e; cases e) (fun k y e => .inl ⟨y, e⟩) (fun k hk => by rw [hupd]), Steps.one ?_⟩
    have := stepR_op_skip (P := P) (b := b) (a := a) (k := k) (cs := cs) (w := w) (ops := ops) (i := i) (rest := rest) (by simp [ho, hwants hw])
    rw [ho] at this
    exact this
theorem IV.go (O : Okay P gl call imp ops S X K σ0) (hC : ∀ w, Base (OwnF σ0 (fun k => (S 0).zh[k]?) (S 0).zr) w0 w → CallOkAt P gl call w) : ∀ (fuel t : Nat) {listed : Array Bool} {σ : Env} {a : Act} {w : World}, IV ops S X K σ0 w0 a0 σ listed a w → Go.Proofs.YtgkpejlddgoalaaGreatDoor.left listed ≤ fuel →
    ∃ τ a' w' listed', (∀ j, j < ops.size → lst listed' j) ∧ IV ops S X K σ0 w0 a0 τ listed' a' w' ∧ Steps P (lone (b.atR a (.inRegion ops (Region.linearise.go .any ops fuel t listed []) :: k)) cs w) (lone (b.atR a' k) cs w')
  | 0, t, listed, σ, a, w, I, hl => by
    refine ⟨σ, a, w, listed, fun j _ => left_zero (Nat.le_zero.1 hl) j, I, ?_⟩
    exact Steps.one stepR_region_end
  | fuel + 1, t, listed, σ, a, w, I, hl => by
    simp only [Region.linearise.go]
    change ∃ τ a' w' listed', _ ∧ _ ∧ Steps P (lone (b.atR a (.inRegion ops (match (Region.ready .any ops listed)[t % (Region.ready .any ops listed).length]? with
      | some i => Region.linearise.go .any ops fuel (t / (Region.ready .any ops listed).length) (listed.setIfInBounds i true) [i]
      | none => [].reverse) :: k)) cs w) _
    cases hi : (Region.ready .any ops listed)[t % (Region.ready .any ops listed).length]? with
    | none =>
      have hnil : Region.ready .any ops listed = [] := by
        cases hr : Region.ready .any ops listed with
        | nil => rfl
        | cons x xs =>
          rw [hr] at hi
          have hlt : t % (x :: xs).length < (x :: xs).length := Nat.mod_lt _ (by simp)
          simp at hi
          simp at hlt
          omega
      refine ⟨σ, a, w, listed, ready_nilZ O.form I.lsize hnil, I, ?_⟩
      exact Steps.one stepR_region_end
    | some i =>
      simp only []
      rw [linearise_go_acc, List.reverse_singleton, List.singleton_append]
      have hmem := List.mem_of_getElem? hi
      obtain ⟨τ, a1, w1, I1, s1⟩ := I.step (b := b) (k := k) (cs := cs) (rest := Region.linearise.go .any ops fuel (t / (Region.ready .any ops listed).length) (listed.setIfInBounds i true) []) O (hC _ I.left.base) hmem
      have hls := left_set (listed := listed) (i := i) (fun h => by
        have h1 := (mem_ready.1 hmem).1
        unfold lst at h
        rw [h] at h1
        cases h1)
      obtain ⟨υ, a2, w2, l2, h2, I2, s2⟩ := IV.go O hC fuel (t / (Region.ready .any ops listed).length) I1 (by omega)
      exact ⟨υ, a2, w2, l2, h2, I2, Steps.trans s1 s2⟩
end

section
variable {P : Program} {gl : List Nat} {call : CallFn} {imp : FuncId → Bool} {ops : Array Oper} {s s' : Sz} {σ : Env} {w : World} {a : Act} {b : Frame} {k : List Item} {cs : List Frame}
theorem lst_none {n j : Nat} : lst (Array.replicate n false) j ↔ n ≤ j := by
  unfold lst
  rw [Array.getD_eq_getD_getElem?, Array.getElem?_replicate]
  by_cases h : j < n
  · simp [h]
  · simp [h]; omega
theorem HRep.toF {H : Hp} (hm : HRep σ H w) {N : Nat} (hN : H.length ≤ N) {w' : World} (hw : w'.heap = w.heap) : HF σ (fun k => H[k]?) N w' :=
  ⟨fun k b hb _ => Blk.up (Env.le_refl _) (fun _ _ _ _ => by rw [hw]) (hm.blk k b hb), fun k k' g n n' h1 h2 => hm.inj k k' g n n' h1 h2, fun k g n h1 e => by rw [hw]; exact hm.lt k g n h1 e, fun k x e => Nat.lt_of_lt_of_le (hm.dom k x e) hN⟩
theorem HRep.glen {H : Hp} (hm : HRep σ H w) (hg : GlOk gl σ) : gl.length ≤ H.length := by
  rcases Nat.lt_or_ge H.length gl.length with h | h
  · obtain ⟨n, e⟩ := hg H.length gl[H.length] (List.getElem?_eq_getElem h)
    exact absurd (hm.dom _ _ e) (Nat.lt_irrefl _)
  · exact h
theorem drawn_okW {id : Nat} (hmix : P.follows .mixedOrders = true) (hC : ∀ w', Base (Own σ s.zh s.zr) w w' → CallOkAt P gl call w') (hR : FRep gl σ s a w) (h : drawnZ P gl call imp ops s = some s') :
    ∃ τ a' w', FRep gl τ s' a' w' ∧ Left σ s.zh s.zr w s'.zh τ w' ∧ s'.zr = s.zr ∧ s'.zm = s.zm ∧ Steps P (lone (b.atR a (.code (.region id ops true) :: k)) cs w) (lone (b.atR a' k) cs w') := by
  unfold drawnZ at h
  split at h
  · rename_i hc
    split at h
    · rename_i s2 ks hk
      split at h
      · rename_i hp
        injection h with h
        subst h
        obtain ⟨S, X, K, e0, e1, e2, e3, e4⟩ := opsK_trace hk
        have hsz : ops.toList.length = ops.size := by simp
        rw [hsz] at e1 e2 e3
        have T : Trace P gl call imp ops S X K :=
          ⟨fun i o ho => by rw [e0]; exact (e4 i o (by simpa using ho)).1, fun i o ho => (e4 i o (by simpa using ho)).2.1, fun i o ho => (e4 i o (by simpa using ho)).2.2.1, fun i o ho => (e4 i o (by simpa using ho)).2.2.2⟩
        have keep : ∀ i, i ≤ ops.size → (S i).zr = (S 0).zr ∧ (S i).zm = (S 0).zm := fun i => by
          induction i with
          | zero => intro _; exact ⟨rfl, rfl⟩
          | succ i ih =>
            intro hi
            obtain ⟨h1, h2⟩ := ih (by omega)
            exact ⟨(T.zr i _ (Array.getElem?_eq_getElem (by omega))).trans h1, (T.zm i _ (Array.getElem?_eq_getElem (by omega))).trans h2⟩
        have O : Okay P gl call imp ops S X K σ := {
          tr := T
          form := by rw [e0]; exact hc
          mono := fun hij hj => mono_of hp.1 e2 e3 (by rw [e1]) hij hj
          pair := fun hij hj => pair_of hp.2 hij (e3 _ (by omega)) (e3 _ hj)
          ro := by rw [e0]; exact hR.ro
          glen := by rw [e0]; exact hR.mem.glen hR.glob
          und := fun k bb hb => by rw [e0] at hb ⊢; exact Blk.un_of hR.mem.dom (hR.mem.blk k bb hb)
          unds := fun t => by rw [e0]; exact V.un_of hR.mem.dom (hR.slots t)
          glob := hR.glob
          zr := fun i hi => (keep i hi).1 }
        have h0 : hS ops S K (Array.replicate ops.size false) = fun k => (S 0).zh[k]? := by
          funext k
          exact hl_later (i := 0) (n := ops.size) (L := fun i => (Array.replicate ops.size false).getD i true) (Nat.zero_le _) fun j _ hj hl => absurd (lst_none.1 hl) (by omega)
        have I0 : IV ops S X K σ w a σ (Array.replicate ops.size false) a { w with drawn := w.drawn + 1 } := {
          lsize := by simp
          closed := fun j o ho hl => by
            have h1 := lst_none.1 hl
            rw [Array.getElem?_eq_none h1] at ho
            cases ho
          left := by
            rw [h0, e0]
            exact ⟨Env.le_refl _, hR.mem.toF (by rw [← e0]; exact O.mono (Nat.zero_le _) (Nat.le_refl _)) rfl, ⟨rfl, rfl, rfl, Nat.le_refl _, fun _ _ _ => rfl⟩, fun g hg => .inl hg⟩
          dom := fun k y e => .inl (by rw [e0]; exact hR.mem.dom k y e)
          und := fun j hj hl => absurd (lst_none.1 hl) (by omega)
          hit := fun j o d ho hl _ => by
            have h1 := lst_none.1 hl
            rw [Array.getElem?_eq_none h1] at ho
            cases ho
          miss := fun t _ => by rw [e0]; exact hR.slots t
          size := by rw [e0]; exact hR.size
          defers := rfl
          old := fun k _ => by rw [h0]
          new := fun k y e => .inl e }
        obtain ⟨τ, a', w', l', hall, I, hs⟩ := IV.go (b := b) (k := k) (cs := cs) O (fun w' hb => hC w' (by rw [e0] at hb; exact ⟨hb.os, hb.tape, hb.output, hb.size, hb.block⟩)) ops.size (w.tape w.drawn (.order b.fn id)) I0 (by
          unfold Go.Proofs.YtgkpejlddgoalaaGreatDoor.left
          refine Nat.le_trans (List.length_filter_le _ _) ?_
          simp)
        have hend : hS ops S K l' = fun k => s2.zh[k]? := by
          funext k
          rw [← e1, ← O.top (i := ops.size) (Nat.le_refl _)]
          exact hl_same fun j hj => .inl (hall j hj)
        have hlf := I.left
        rw [hend, e0, e1] at hlf
        have hgrow : s.zh.length ≤ s2.zh.length := by
          have := O.mono (Nat.zero_le ops.size) (Nat.le_refl _)
          rwa [e0, e1] at this
        have hrep : HRep τ s2.zh w' := by
          refine ⟨fun k bb hb => ?_, hlf.rep.inj, hlf.rep.lt, hlf.rep.dom⟩
          cases hbl : bb.live with
          | true => exact hlf.rep.blk k bb hb hbl
          | false => cases bb <;> first | trivial | cases hbl
        have hslots := slot_text T (fun j o d hj hd => (tyZ_spec O.form hj).2.1 d hd) ops.size (Nat.le_refl _)
        rw [e1, e0] at hslots
        obtain ⟨ds, d1, d2, d3⟩ := hR.defers
        obtain ⟨k1, k2⟩ := keep ops.size (Nat.le_refl _)
        rw [e1, e0] at k1 k2
        refine ⟨τ, a', w', ⟨hR.glob.up hlf.le, ⟨ds, by rw [I.defers]; exact d1, by rw [k2]; exact d2, fun i m hm => ?_⟩, by rw [I.size, e0, hslots.1], fun t => ?_, hrep, by rw [k1]; exact Nat.le_trans hR.ro hgrow⟩,
          ⟨hlf.le, hrep, hlf.base, hlf.own, hgrow, fun j h1 h2 => ?_, fun j y e => ?_⟩, k1, k2, Steps.head stepR_region_draw ?_⟩
        · obtain ⟨r, n, f1, f2⟩ := d3 i m (by rw [← k2]; exact hm)
          exact ⟨r, n, f1, hlf.le _ _ f2⟩
        · rcases hslots.2 t with ⟨j, o, hj, ho, hd, e⟩ | ⟨hn, e⟩
          · rw [e]
            exact I.hit j o t ho (hall j hj) hd
          · rw [e, ← e0]
            refine I.miss t fun j o ho _ => hn j o ?_ ho
            rcases Nat.lt_or_ge j ops.size with h | h
            · exact h
            · rw [Array.getElem?_eq_none h] at ho; cases ho
        · have := I.old j (by rw [e0]; exact h1)
          rw [hend, e0] at this
          exact this
        · have := I.new j y e
          rwa [e0] at this
        · simp only [Region.schedule, hmix, Bool.true_or, if_true]
          exact hs
      · cases h
    · cases h
  · cases h
theorem drawn_ok {id : Nat} (hmix : P.follows .mixedOrders = true) (hC : CallOk P gl call) (hR : FRep gl σ s a w) (h : drawnZ P gl call imp ops s = some s') :
    ∃ τ a' w', FRep gl τ s' a' w' ∧ Left σ s.zh s.zr w s'.zh τ w' ∧ s'.zr = s.zr ∧ s'.zm = s.zm ∧ Steps P (lone (b.atR a (.code (.region id ops true) :: k)) cs w) (lone (b.atR a' k) cs w') := drawn_okW hmix (fun w' _ => hC.at w') hR h
end
end Go.Proofs.YtgkpejlddgoalaaGreatDoor.Zm
namespace Go.Proofs.YtgkpejlddgoalaaGreatDoor.Zm
open Go.RowKit

/-- The record of a loop over a function is laid; its name. -/
def enterZ (fz : FuncId) (oz : Option Nat) (ps : Array Tmp) (as bd : Code) (s : Sz) : Option (Sz × Nat) :=
  match oz with
  | none => some ({ s with zh := (s.zh ++ [.dfr]) ++ [.loop .ready none fz s.zs ps as bd s.zh.length], zm := s.zh.length :: s.zm }, s.zh.length + 1)
  | some l => match s.zh[l]? with
    | some (.loop _ _ _ _ _ _ _ d) => some ({ s with zh := s.zh ++ [.loop .ready none fz s.zs ps as bd d] }, s.zh.length)
    | _ => none
def notBusy : LoopState → Bool
  | .busy => false
  | _ => true
/-- The loop is over. -/
def overZ (l : Nat) (s : Sz) : Option (Option Code × Sz) :=
  match s.zh[l]? with
  | some (.loop st pd _ _ _ _ _ _) => if notBusy st = true ∧ s.zr ≤ l then some (pd, { s with zh := s.zh.set l .dead }) else none
  | _ => none
/-- A round begins. -/
def beginZ (l : Nat) (s : Sz) : Option Sz :=
  match s.zh[l]? with
  | some (.loop .ready pd fn tmps ps as bd d) => if s.zr ≤ l then some { s with zh := s.zh.set l (.loop .busy pd fn tmps ps as bd d) } else none
  | _ => none
/-- A function value at one more argument. -/
def fnOfZ (y : V) : V → Option (FuncId × List V)
  | .f (.one (.b (.lit (.func (.func g) a b)))) => if a.size = 0 ∧ b.size = 0 then some (g, [y]) else none
  | .f (.one (.fn g a b)) => some (g, a.map ofCap ++ [y] ++ b.map ofCap)
  | _ => none
inductive ZR where
  | more (todo : List Item) (s : Sz)
  | stop (j : Option Code)
  | bad
def condZ (k : List Item) (s : Sz) (x y : Code) : V → ZR
  | .f (.one (.b (.lit (.bool t)))) => .more (.code (if t then x else y) :: k) s
  | _ => .bad
noncomputable def rangeZ (gl : List Nat) (call : CallFn) (fz : FuncId) (oz : Option Nat) (g : Operand) (ps : Array Tmp) (as bd : Code) (k : List Item) (s : Sz) : ZR :=
  match enterZ fz oz ps as bd s with
  | some (s1, l) => match fnOfZ (.f (.one (.b (.yld l)))) (evZ gl s.zs g) with
    | some (f, args) => match call (.fn f) args s1.zh s1.zr with
      | some (_, H) => match overZ l { s1 with zh := H } with
        | some (pd, s2) => .more ((pd.map Item.code).toList ++ k) s2
        | none => .bad
      | none => .bad
    | none => .bad
  | none => .bad
/-- What a frame does next. -/
noncomputable def stepZ (P : Program) (gl : List Nat) (imp : FuncId → Bool) (call : CallFn) (fz : FuncId) (oz : Option Nat) : List Item → Sz → ZR
  | [], _ => .stop none
  | .code .skip :: k, s => .more k s
  | .code (.label _) :: k, s => .more k s
  | .code .ret :: _, _ => .stop (some .ret)
  | .code (.exit id) :: k, s => match exitTo id k with | some k' => .more k' s | none => .stop (some (.exit id))
  | .code (.goto l) :: k, s => match gotoIn l k with | some k' => .more k' s | none => .bad
  | .code (.seq x y) :: k, s => .more (.code x :: .code y :: k) s
  | .code (.cond c x y) :: k, s => condZ k s x y (evZ gl s.zs c)
  | .code (.block id c) :: k, s => .more (.code c :: .inBlock id :: k) s
  | .code (.scope c) :: k, s => .more (.code c :: .inScope c :: k) s
  | .code (.loop c) :: k, s => .more (.code c :: .inLoop c :: k) s
  | .code (.region _ ops false) :: k, s => match opsZ P gl call imp ops ops.toList s with | some s' => .more k s' | none => .bad
  | .code (.region _ ops true) :: k, s => match drawnZ P gl call imp ops s with | some s' => .more k s' | none => .bad
  | .code (.rangeFunc g ps as bd) :: k, s => rangeZ gl call fz oz g ps as bd k s
  | .inBlock _ :: k, s => .more k s
  | .inScope _ :: k, s => .more k s
  | .inLoop c :: k, s => .more (.code c :: .inLoop c :: k) s
  | .beginRound :: k, s => match oz with
    | some l => match beginZ l s with | some s' => .more k s' | none => .bad
    | none => .bad
  | _, _ => .bad
/-- How a frame's walk has ended. -/
def EndsIn (j : Option Code) (todo : List Item) : Prop := match j with
  | none => todo = []
  | some .ret => ∃ k, todo = .code .ret :: k
  | some (.exit id) => ∃ k, todo = .code (.exit id) :: k ∧ exitTo id k = none
  | _ => False
/-- The frame is a round of the loop of that name, or a function's own. -/
def AtLoop (σ : Env) (oz : Option Nat) (b : Frame) : Prop := match oz with
  | none => b.roundOf = none
  | some l => ∃ g n, σ l = some (g, n) ∧ b.roundOf = some g
theorem AtLoop.up {σ τ : Env} {oz : Option Nat} {b : Frame} (h : AtLoop σ oz b) (hl : σ.le τ) : AtLoop τ oz b := by
  cases oz with
  | none => exact h
  | some l => obtain ⟨g, n, e, h⟩ := h; exact ⟨g, n, hl _ _ e, h⟩

section
variable {P : Program} {gl : List Nat} {imp : FuncId → Bool} {call : CallFn} {fz : FuncId} {oz : Option Nat} {s s' s1 : Sz} {a : Act} {b : Frame} {σ τ : Env} {w w' : World} {k : List Item} {cs : List Frame} {H' : Hp}
theorem FRep.left (h : FRep gl σ s a w) (hl : Left σ s.zh s.zr w H' τ w') : FRep gl τ { s with zh := H' } a w' := by
  obtain ⟨ds, h1, h2, h3⟩ := h.defers
  exact ⟨h.glob.up hl.le, ⟨ds, h1, h2, fun i k hk => by obtain ⟨r, n, e1, e2⟩ := h3 i k hk; exact ⟨r, n, e1, hl.le _ _ e2⟩⟩, h.size, fun t => V.up hl.le (h.slots t), hl.rep, Nat.le_trans h.ro hl.grow⟩
theorem FRep.vals (h : FRep gl σ s a w) : holdsS σ s.zs a.tmps := ⟨h.size, h.slots⟩
theorem over_ok {l G n : Nat} {pd : Option Code} (hR : FRep gl σ s a w) (hg : σ l = some (G, n)) (h : overZ l s = some (pd, s')) :
    ∃ w', (Instr.endLoop G).run P w = .ok pd w' ∧ FRep gl σ s' a w' ∧ Left σ s.zh s.zr w s'.zh σ w' ∧ s'.zr = s.zr := by
  unfold overZ at h
  split at h
  · rename_i st pd' fn tmps ps as bd d hk
    split at h
    · rename_i hc
      simp only [Option.some.injEq, Prod.mk.injEq] at h
      obtain ⟨rfl, rfl⟩ := h
      obtain ⟨g, m, D, m', vs, e1, e2, e3, e4⟩ := hR.mem.blk _ _ hk
      rw [hg] at e1
      simp only [Option.some.injEq, Prod.mk.injEq] at e1
      obtain ⟨rfl, rfl⟩ := e1
      have hl : Left σ s.zh s.zr w (s.zh.set l .dead) σ _ := Left.turn hR.mem hk rfl hc.2 hg (putObj_turned (o := .loop { state := .exhausted, pending := pd', fn := fn, tmps := vs, params := ps, assign := as, body := bd, defers := D }) e4) trivial
      exact ⟨_, run_endLoop e4 (by intro e; simp only at e; rw [e] at hc; exact absurd hc.1 (by simp [notBusy])), hR.left hl, hl, rfl⟩
    · cases h
  · cases h
theorem begin_ok {l G n : Nat} (hR : FRep gl σ s a w) (hg : σ l = some (G, n)) (h : beginZ l s = some s') :
    ∃ w', (Instr.beginRound G).run P w = .ok () w' ∧ FRep gl σ s' a w' ∧ Left σ s.zh s.zr w s'.zh σ w' ∧ s'.zr = s.zr := by
  unfold beginZ at h
  split at h
  · rename_i pd fn tmps ps as bd d hk
    split at h
    · rename_i hc
      injection h with h
      subst h
      obtain ⟨g, m, D, m', vs, e1, e2, e3, e4⟩ := hR.mem.blk _ _ hk
      rw [hg] at e1
      simp only [Option.some.injEq, Prod.mk.injEq] at e1
      obtain ⟨rfl, rfl⟩ := e1
      have ht := putObj_turned (o := .loop { state := .busy, pending := pd, fn := fn, tmps := vs, params := ps, assign := as, body := bd, defers := D }) e4
      have hl : Left σ s.zh s.zr w (s.zh.set l (.loop .busy pd fn tmps ps as bd d)) σ _ := Left.turn hR.mem hk rfl hc hg ht ⟨_, _, D, m', vs, hg, e2, e3, ht.at_⟩
      exact ⟨_, run_beginRound e4 rfl, hR.left hl, hl, rfl⟩
    · cases h
  · cases h
theorem enter_ok {ps : Array Tmp} {as bd : Code} {l : Nat} (hb : b.fn = fz) (hl : AtLoop σ oz b) (hR : FRep gl σ s a w) (h : enterZ fz oz ps as bd s = some (s1, l)) :
    ∃ σ1 w1 G n mark, (Instr.enterLoop b.fn a.tmps ps as bd b.roundOf).run P w = .ok (G, mark) w1 ∧ σ1 l = some (G, n) ∧ FRep gl σ1 s1 { a with defers := mark ++ a.defers } w1 ∧ Left σ s.zh s.zr w s1.zh σ1 w1 ∧ s1.zr = s.zr := by
  unfold enterZ at h
  split at h
  · simp only [Option.some.injEq, Prod.mk.injEq] at h
    obtain ⟨rfl, rfl⟩ := h
    have hr : b.roundOf = none := hl
    have p1 : Left σ s.zh s.zr w (s.zh ++ [.dfr]) _ (w.alloc (.deferred (some []))) := Left.push (n := 0) s.zr hR.mem ⟨w.heap.size, 0, Env.new_at, World.alloc_heap_new _ _⟩
    have r1 := hR.left p1
    have p2 : Left (σ.new s.zh.length (w.heap.size, 0)) (s.zh ++ [.dfr]) s.zr (w.alloc (.deferred (some []))) ((s.zh ++ [.dfr]) ++ [.loop .ready none fz s.zs ps as bd s.zh.length]) _ _ :=
      Left.push (n := 0) (ob := .loop { state := .ready, pending := none, fn := fz, tmps := a.tmps, params := ps, assign := as, body := bd, defers := w.heap.size }) s.zr p1.rep
        ⟨_, 0, w.heap.size, 0, a.tmps, Env.new_at, Env.new_le (p1.rep.free (Nat.le_refl _)) _ _ Env.new_at, upS (Env.new_le (p1.rep.free (Nat.le_refl _))) r1.vals, World.alloc_heap_new _ _⟩
    have r2 := r1.left p2
    refine ⟨_, _, _, _, _, (by rw [hr, hb]; exact run_enterLoop_outer _ _ _ _ _), by rw [← World.size_alloc w (.deferred (some [])), show s.zh.length + 1 = (s.zh ++ [Blk.dfr]).length by simp]; exact Env.new_at, ?_, p1.trans p2, rfl⟩
    obtain ⟨ds, h1, h2, h3⟩ := r2.defers
    refine ⟨r2.glob, ⟨w.heap.size :: ds, by rw [h1]; rfl, by simpa using h2, fun i k hk => ?_⟩, r2.size, r2.slots, r2.mem, r2.ro⟩
    cases i with
    | zero =>
      simp only [List.getElem?_cons_zero, Option.some.injEq] at hk
      subst hk
      exact ⟨_, 0, rfl, p2.le _ _ Env.new_at⟩
    | succ i => exact h3 i k (by simpa using hk)
  · rename_i l0
    obtain ⟨G0, n0, hG0, hr⟩ := hl
    split at h
    · rename_i st pd fn tmps ps' as' bd' d hk
      simp only [Option.some.injEq, Prod.mk.injEq] at h
      obtain ⟨rfl, rfl⟩ := h
      obtain ⟨g, m, D, m', vs, e1, e2, e3, e4⟩ := hR.mem.blk _ _ hk
      rw [hG0] at e1
      simp only [Option.some.injEq, Prod.mk.injEq] at e1
      obtain ⟨rfl, rfl⟩ := e1
      have hle := Env.new_le (x := (w.heap.size, 0)) (hR.mem.free (Nat.le_refl _))
      have p1 : Left σ s.zh s.zr w (s.zh ++ [.loop .ready none fz s.zs ps as bd d]) _ _ :=
        Left.push (n := 0) (ob := .loop { state := .ready, pending := none, fn := fz, tmps := a.tmps, params := ps, assign := as, body := bd, defers := D }) s.zr hR.mem
          ⟨_, 0, D, m', a.tmps, Env.new_at, hle _ _ e2, upS hle hR.vals, World.alloc_heap_new _ _⟩
      exact ⟨_, _, _, _, _, (by rw [hr, hb]; exact run_enterLoop_inner e4 _ _ _ _ _), Env.new_at, hR.left p1, p1, rfl⟩
    · cases h
end
end Go.Proofs.YtgkpejlddgoalaaGreatDoor.Zm
