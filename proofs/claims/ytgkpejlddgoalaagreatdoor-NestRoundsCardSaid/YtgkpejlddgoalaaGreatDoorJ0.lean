/- Parts of the proof, joined. -/
import Derived.Deep.Quiet
import Derived.Below
import Derived.Lib.Hide
set_option linter.unusedSimpArgs false
set_option linter.unusedVariables false
set_option linter.constructorNameAsVariable false
namespace Go.Proofs.YtgkpejlddgoalaaGreatDoor.Ab
open Go.RowKit

/-- The block holds a cell of a kind that other values may lead to. -/
def hotObj (K : Obj → Bool) (o : Obj) : Bool := K o

/-- Memory has grown; blocks with hot cells have stayed. -/
structure Ext (K : Obj → Bool) (w w' : World) : Prop where
  size : w.heap.size ≤ w'.heap.size
  block : ∀ (g : Nat) (o : Obj), w.heap[g]? = some o → hotObj K o = true → w'.heap[g]? = some o

theorem lt_of_block {w : World} {g : Nat} {o : Obj} (h : w.heap[g]? = some o) : g < w.heap.size := by
  rcases Nat.lt_or_ge g w.heap.size with hlt | hge
  · exact hlt
  · rw [Array.getElem?_eq_none hge] at h; cases h
theorem Ext.refl (K : Obj → Bool) (w : World) : Ext K w w := ⟨Nat.le_refl _, fun _ _ h _ => h⟩
theorem Ext.trans {K : Obj → Bool} {a b c : World} (h : Ext K a b) (h' : Ext K b c) : Ext K a c := ⟨Nat.le_trans h.size h'.size, fun g o hg ho => h'.block g o (h.block g o hg ho) ho⟩
theorem Ext.of_below {K : Obj → Bool} {w w' : World} (h : Below w.heap.size w w') : Ext K w w' := ⟨h.size, fun g _ hg _ => (h.block g (lt_of_block hg)).trans hg⟩

/-- What is said of a value in a world, and of a block's content. -/
abbrev Sp := Value → World → Prop
def Stable (K : Obj → Bool) (S : Sp) : Prop := ∀ v w w', S v w → Ext K w w' → S v w'
def StableO (K : Obj → Bool) (S : Obj → World → Prop) : Prop := ∀ v w w', S v w → Ext K w w' → S v w'
/-- The value is this one. -/
def Sp.is (u : Value) : Sp := fun v _ => v = u
theorem Sp.is_stable (K : Obj → Bool) (u : Value) : Stable K (Sp.is u) := fun _ _ _ h _ => h

/-- What an operation does: it yields a value; it makes a variable with this content; it stores into the variable whose pointer lies in slot d; it stores into block g, which was there. -/
inductive Kd where
  | val (S : Sp)
  | new (o : Obj)
  | put (d : Tmp) (S : Obj → World → Prop)
  | old (g : Nat) (S : Obj → World → Prop)
structure Ent where
  dst : Option Tmp
  kd : Kd

/-- A pointer to a variable from block B on. -/
def isVar (B : Nat) : Sp := fun v w => ∃ g, v = .pointer (some ⟨g, 0, none⟩) ∧ B ≤ g ∧ g < w.heap.size
def Kd.spec (B : Nat) : Kd → Sp
  | .val S => S
  | .new _ => isVar B
  | _ => fun _ _ => True
/-- What is known of slot t behind the operations g, the last one first. -/
def specOf (a0 : Act) (B : Nat) (t : Tmp) : List Ent → Sp
  | [] => fun v _ => v = a0.eval (.tmp t)
  | e :: g => if e.dst = some t then e.kd.spec B else specOf a0 B t g
def known (a0 : Act) (B : Nat) (g : List Ent) (A : Act) (w : World) : List Tmp → Prop
  | [] => True
  | t :: l => specOf a0 B t g (A.eval (.tmp t)) w ∧ known a0 B g A w l
theorem known_iff {a0 : Act} {B : Nat} {g : List Ent} {A : Act} {w : World} {l : List Tmp} : known a0 B g A w l ↔ ∀ t ∈ l, specOf a0 B t g (A.eval (.tmp t)) w := by
  induction l with
  | nil => simp [known]
  | cons t l ih => simp [known, ih]

/-- What was there has stayed, but for the blocks T. -/
structure Base (T : List Nat) (w0 w : World) : Prop where
  os : w.os = w0.os
  tape : w.tape = w0.tape
  output : w.output = w0.output
  size : w0.heap.size ≤ w.heap.size
  block : ∀ k, k < w0.heap.size → k ∉ T → w.heap[k]? = w0.heap[k]?
theorem Base.below {w0 w : World} (h : Base [] w0 w) : Below w0.heap.size w0 w := ⟨h.os, h.tape, h.output, h.size, fun k hk => h.block k hk (by simp)⟩
theorem Base.step {T : List Nat} {w0 w w' : World} (h : Base T w0 w) (h' : Below w.heap.size w w') : Base T w0 w' :=
  ⟨h'.os.trans h.os, h'.tape.trans h.tape, h'.output.trans h.output, Nat.le_trans h.size h'.size, fun k hk hT => (h'.block k (Nat.lt_of_lt_of_le hk h.size)).trans (h.block k hk hT)⟩

/-- Block g alone has turned. -/
structure Turned (g : Nat) (o : Obj) (w w' : World) : Prop where
  os : w'.os = w.os
  tape : w'.tape = w.tape
  output : w'.output = w.output
  size : w'.heap.size = w.heap.size
  at_ : w'.heap[g]? = some o
  block : ∀ k, k ≠ g → w'.heap[k]? = w.heap[k]?
theorem Turned.ext {K : Obj → Bool} {g : Nat} {o o0 : Obj} {w w' : World} (h : Turned g o w w') (h0 : w.heap[g]? = some o0) (hc : hotObj K o0 = false) : Ext K w w' := by
  refine ⟨by rw [h.size]; exact Nat.le_refl _, fun k o' hk ho => ?_⟩
  by_cases e : k = g
  · subst e
    rw [h0] at hk
    injection hk with hk
    subst hk
    rw [hc] at ho
    cases ho
  · rw [h.block k e]; exact hk

/-- What a call gives to an operation. -/
def TyPost (w : World) (S : Sp) (e : Ending) (w'' : World) : Prop := ∃ v, e = .returned v ∧ Below w.heap.size w w'' ∧ S v w''
/-- It yields a value as specified, and what was there stays. -/
def tyUpon (P : Program) (w : World) (S : Sp) : Result Next → Prop
  | .ok (.value u) w' => Below w.heap.size w w' ∧ S u w'
  | .ok .skip w' => Below w.heap.size w w' ∧ S undef w'
  | .ok (.enter f args) w' => w' = w ∧ Calls P f args w (TyPost w S)
  | _ => False
/-- It stores: block g alone turns. -/
def putUpon (g : Nat) (w : World) (S : Obj → World → Prop) : Result Next → Prop
  | .ok (.value _) w' => ∃ o, Turned g o w w' ∧ S o w
  | .ok .skip w' => ∃ o, Turned g o w w' ∧ S o w
  | _ => False

/-- Each variable is stored into once; of those that were there, one at most. -/
def putOf (e : Ent) : Option Tmp := match e.dst, e.kd with | none, .put d _ => some d | _, _ => none
def oldOf (e : Ent) : Option Nat := match e.dst, e.kd with | none, .old k _ => some k | _, _ => none
def onceB (G : List Ent) : Bool := decide ((G.filterMap putOf).Nodup) && decide ((G.filterMap oldOf).Nodup)
/-- What operation i sees of the blocks T: those that are marked are as they were. -/
structure View (K : Obj → Bool) (T : List Nat) (E : Nat → Nat → Bool) (w0 : World) (i : Nat) (w : World) : Prop where
  base : Base T w0 w
  ext : Ext K w0 w
  early : ∀ (k b : Nat), E i k = true → T[k]? = some b → w.heap[b]? = w0.heap[b]?
/-- A store into block k waits for each operation that takes it to be as it was. -/
def earlyB (md : Region.Mode) (ops : Array Oper) (E : Nat → Nat → Bool) (G : List Ent) : Bool :=
  (List.range ops.size).all fun j => match (G[j]?).bind oldOf with
    | some k => (List.range ops.size).all fun i => !E i k || i == j || (ops[j]?).any fun o => o.after.any fun e => Region.binds md e && e.on == i
    | none => true

section
variable (P : Program) (ops : Array Oper) (K : Obj → Bool) (T : List Nat) (E : Nat → Nat → Bool) (w0 : World) (a0 : Act)
/-- What is asked of an operation, behind g. -/
def Oblig (g : List Ent) (o : Oper) : Kd → Prop
  | .val S => Stable K S ∧ ∀ (A : Act) (w : World), View K T E w0 g.length w → known a0 w0.heap.size g A w (o.looksAt ops) →
      (Region.wanted o (yielded ops A.tmps) = true ∧ tyUpon P w S ((execOp A.eval o).run P w)) ∨ (Region.wanted o (yielded ops A.tmps) = false ∧ S undef w)
  | .new o0 => hotObj K o0 = false ∧ o.guard = none ∧ o.dst.isSome = true ∧ ∀ (A : Act) (w : World), (execOp A.eval o).run P w = .ok (.value (.pointer (some ⟨w.heap.size, 0, none⟩))) (w.alloc o0)
  | .put d S => o.dst = none ∧ o.guard = none ∧ d ∈ o.looksAt ops ∧ StableO K S ∧ ∃ o0, (⟨some d, .new o0⟩ : Ent) ∈ g ∧
      ∀ (A : Act) (w : World) (b : Nat), View K T E w0 g.length w → known a0 w0.heap.size g A w (o.looksAt ops) → A.eval (.tmp d) = .pointer (some ⟨b, 0, none⟩) → w.heap[b]? = some o0 → putUpon b w S ((execOp A.eval o).run P w)
  | .old k S => o.dst = none ∧ o.guard = none ∧ StableO K S ∧ ∃ b o0, T[k]? = some b ∧ w0.heap[b]? = some o0 ∧ hotObj K o0 = false ∧
      ∀ (A : Act) (w : World), View K T E w0 g.length w → known a0 w0.heap.size g A w (o.looksAt ops) → w.heap[b]? = some o0 → putUpon b w S ((execOp A.eval o).run P w)

/-- The frame, with values in the slots that were written. -/
def frameOf : List Ent → (Tmp → Value) → Act
  | [], _ => a0
  | e :: g, f => match e.dst with
    | some d => (frameOf g f).put (some d) (f d)
    | none => frameOf g f

/-- What is known behind the region. G: all of its operations. -/
def Final1 (G : List Ent) (f : Tmp → Value) (w : World) (e : Ent) : Prop :=
  match e.dst, e.kd with
  | some d, .val S => S (f d) w
  | some d, .new o0 => ∃ b, f d = .pointer (some ⟨b, 0, none⟩) ∧ w0.heap.size ≤ b ∧ b < w.heap.size ∧ ((∀ S, (⟨none, .put d S⟩ : Ent) ∉ G) → w.heap[b]? = some o0) ∧ (∀ S, (⟨none, .put d S⟩ : Ent) ∈ G → ∃ o, S o w ∧ w.heap[b]? = some o)
  | _, .old k S => ∃ b o, T[k]? = some b ∧ S o w ∧ w.heap[b]? = some o
  | _, _ => True
/-- A block that nothing was stored into is as it was. -/
def Still (G : List Ent) (w : World) : Prop := ∀ (k b : Nat), T[k]? = some b → (∀ S, (⟨none, .old k S⟩ : Ent) ∉ G) → w.heap[b]? = w0.heap[b]?
/-- Variables that were made lie apart. -/
def Apart (G : List Ent) (f : Tmp → Value) : Prop := ∀ d d' o o', (⟨some d, .new o⟩ : Ent) ∈ G → (⟨some d', .new o'⟩ : Ent) ∈ G → d ≠ d' → f d ≠ f d'

/-- The walk in the order of the text. g: the operations so far, the last one first. -/
def wpTy (Q : Act → World → Prop) : List Oper → List Ent → Prop
  | [], g => onceB g = true ∧ earlyB .any ops E g.reverse = true ∧ ∀ (f : Tmp → Value) (w : World), Base T w0 w → Ext K w0 w → (∀ e ∈ g, Final1 T w0 g f w e) → Still T w0 g w → Apart g f → Q (frameOf a0 g f) w
  | o :: rest, g => ∃ k, Oblig P ops K T E w0 a0 g o k ∧ wpTy Q rest (⟨o.dst, k⟩ :: g)
end

/-- The region's form: what an operation looks at has been written by an operation that it waits for; each slot is written once, each variable stored into once. -/
def Region.tyB (md : Region.Mode) (ops : Array Oper) (n : Nat) : Bool :=
  Region.noSelect ops && (List.range ops.size).all fun i => (ops[i]?).all fun o =>
    (o.after.all fun e => !Region.binds md e || decide (e.on < i)) &&
    (match o.dst with | some d => decide (d < n) && (List.range ops.size).all (fun j => j == i || (ops[j]?).all fun o' => o'.dst != some d) | none => true) &&
    (o.looksAt ops).all fun t => (List.range ops.size).all fun j => (ops[j]?).all fun o' => o'.dst != some t || (decide (j < i) && o.after.any fun e => Region.binds md e && e.on == j)


section
variable {P : Program} {ops : Array Oper} {K : Obj → Bool} {T : List Nat} {E : Nat → Nat → Bool} {w0 : World} {a0 : Act} {md : Region.Mode}

theorem specOf_of {B : Nat} {t : Tmp} {v : Value} {w : World} {g : List Ent} (h1 : ∀ e ∈ g, e.dst = some t → e.kd.spec B v w) (h2 : (∀ e ∈ g, e.dst ≠ some t) → v = a0.eval (.tmp t)) : specOf a0 B t g v w := by
  induction g with
  | nil => exact h2 (fun _ h => by cases h)
  | cons e g ih =>
    simp only [specOf]
    split
    · rename_i he
      exact h1 e (by simp) he
    · rename_i he
      refine ih (fun e' he' => h1 e' (by simp [he'])) (fun hn => h2 (fun e' he' => ?_))
      rcases List.mem_cons.1 he' with rfl | he'
      · exact he
      · exact hn e' he'

def lst (listed : Array Bool) (i : Nat) : Prop := listed.getD i true = true

theorem lst_set {listed : Array Bool} {i j : Nat} (hi : i < listed.size) : lst (listed.setIfInBounds i true) j ↔ (j = i ∨ lst listed j) := by
  unfold lst
  simp only [Array.getD_eq_getD_getElem?, Array.getElem?_setIfInBounds]
  by_cases h : i = j
  · subst h; simp [hi]
  · simp only [h, if_false]
    constructor
    · intro h'; exact .inr h'
    · rintro (rfl | h')
      · exact absurd rfl h
      · exact h'

/-- What holds while some operations have come up. -/
structure Inv (ops : Array Oper) (K : Obj → Bool) (T : List Nat) (w0 : World) (a0 : Act) (md : Region.Mode) (G : List Ent) (listed : Array Bool) (f : Tmp → Value) (a : Act) (w : World) : Prop where
  lsize : listed.size = ops.size
  defers : a.defers = a0.defers
  tsize : a.tmps.size = a0.tmps.size
  hit : ∀ (i : Nat) (o : Oper) d, ops[i]? = some o → lst listed i → o.dst = some d → a.eval (.tmp d) = f d
  miss : ∀ t, (∀ (i : Nat) (o : Oper), ops[i]? = some o → o.dst ≠ some t) → a.eval (.tmp t) = a0.eval (.tmp t)
  closed : ∀ (i : Nat) (o : Oper), ops[i]? = some o → lst listed i → ∀ e ∈ o.after, Region.binds md e = true → lst listed e.on
  base : Base T w0 w
  ext : Ext K w0 w
  vals : ∀ (i : Nat) d S, G[i]? = some ⟨some d, .val S⟩ → lst listed i → S (f d) w
  news : ∀ (i : Nat) d o0, G[i]? = some ⟨some d, .new o0⟩ → lst listed i → ∃ b, f d = .pointer (some ⟨b, 0, none⟩) ∧ w0.heap.size ≤ b ∧ b < w.heap.size ∧
    ((∀ (j : Nat) S, G[j]? = some ⟨none, .put d S⟩ → ¬ lst listed j) → w.heap[b]? = some o0) ∧ (∀ (j : Nat) S, G[j]? = some ⟨none, .put d S⟩ → lst listed j → ∃ o, S o w ∧ w.heap[b]? = some o)
  olds : ∀ (j k b : Nat) S, G[j]? = some ⟨none, .old k S⟩ → T[k]? = some b → lst listed j → ∃ o, S o w ∧ w.heap[b]? = some o
  still : ∀ (k b : Nat), T[k]? = some b → (∀ (j : Nat) S, G[j]? = some ⟨none, .old k S⟩ → ¬ lst listed j) → w.heap[b]? = w0.heap[b]?
  apart : ∀ (i i' : Nat) d d' o o', G[i]? = some ⟨some d, .new o⟩ → G[i']? = some ⟨some d', .new o'⟩ → lst listed i → lst listed i' → d ≠ d' → f d ≠ f d'

/-- The walk has been through: each operation has its word. -/
structure Walked (P : Program) (ops : Array Oper) (K : Obj → Bool) (T : List Nat) (E : Nat → Nat → Bool) (w0 : World) (a0 : Act) (md : Region.Mode) (G : List Ent) : Prop where
  len : G.length = ops.size
  each : ∀ (i : Nat) (o : Oper), ops[i]? = some o → ∃ k, G[i]? = some ⟨o.dst, k⟩ ∧ Oblig P ops K T E w0 a0 (G.take i).reverse o k
  form : Region.tyB md ops a0.tmps.size = true
  once : onceB G = true
  early : earlyB md ops E G = true
  tnd : T.Nodup
  tlt : ∀ b ∈ T, b < w0.heap.size

theorem tyB_spec {n : Nat} (h : Region.tyB md ops n = true) {i : Nat} {o : Oper} (ho : ops[i]? = some o) :
    (∀ e ∈ o.after, Region.binds md e = true → e.on < i) ∧ (∀ d, o.dst = some d → d < n ∧ ∀ (j : Nat) (o' : Oper), ops[j]? = some o' → o'.dst = some d → j = i) ∧
    (∀ t ∈ o.looksAt ops, ∀ (j : Nat) (o' : Oper), ops[j]? = some o' → o'.dst = some t → j < i ∧ ∃ e ∈ o.after, Region.binds md e = true ∧ e.on = j) := by
  have lt : ∀ {j : Nat} {o' : Oper}, ops[j]? = some o' → j < ops.size := fun h => by
    rcases Nat.lt_or_ge _ ops.size with h' | h'
    · exact h'
    · rw [Array.getElem?_eq_none h'] at h; cases h
  simp only [Region.tyB, Bool.and_eq_true, List.all_eq_true, List.mem_range] at h
  have h2 := h.2 i (lt ho)
  simp only [ho, Option.all_some, Bool.and_eq_true] at h2
  obtain ⟨⟨h3, h4⟩, h5⟩ := h2
  refine ⟨fun e he hb => ?_, fun d hd => ?_, fun t ht j o' hj hdt => ?_⟩
  · have := Array.all_eq_true'.1 h3 e he
    simp only [hb, Bool.not_true, Bool.false_or, decide_eq_true_eq] at this
    exact this
  · rw [hd] at h4
    simp only [Bool.and_eq_true, decide_eq_true_eq, List.all_eq_true, List.mem_range] at h4
    refine ⟨h4.1, fun j o' hj hd' => ?_⟩
    have := h4.2 j (lt hj)
    simp only [hj, Option.all_some, Bool.or_eq_true, beq_iff_eq, bne_iff_ne] at this
    rcases this with h | h
    · exact h
    · exact absurd hd' h
  · have := List.all_eq_true.1 h5 t ht
    have := List.all_eq_true.1 this j (List.mem_range.2 (lt hj))
    simp only [hj, Option.all_some, Bool.or_eq_true, bne_iff_ne, Bool.and_eq_true, decide_eq_true_eq] at this
    rcases this with h | ⟨h, h'⟩
    · exact absurd hdt h
    · obtain ⟨e, he, hb⟩ := Array.any_eq_true'.1 h'
      simp only [Bool.and_eq_true, beq_iff_eq] at hb
      exact ⟨h, e, he, hb.1, hb.2⟩

end

section
variable {P : Program} {ops : Array Oper} {K : Obj → Bool} {T : List Nat} {E : Nat → Nat → Bool} {w0 : World} {a0 : Act} {md : Region.Mode} {G : List Ent}

theorem Walked.ent (W : Walked P ops K T E w0 a0 md G) {i : Nat} {e : Ent} (h : G[i]? = some e) : ∃ o, ops[i]? = some o ∧ e.dst = o.dst ∧ Oblig P ops K T E w0 a0 (G.take i).reverse o e.kd := by
  obtain ⟨hlt, _⟩ := List.getElem?_eq_some_iff.1 h
  have hlt' : i < ops.size := by rw [← W.len]; exact hlt
  obtain ⟨k, hk, ho⟩ := W.each i ops[i] (Array.getElem?_eq_getElem hlt')
  rw [h] at hk
  injection hk with hk
  subst hk
  exact ⟨_, Array.getElem?_eq_getElem hlt', rfl, ho⟩
theorem Walked.dst (W : Walked P ops K T E w0 a0 md G) {i j d : Nat} {k k' : Kd} (h : G[i]? = some ⟨some d, k⟩) (h' : G[j]? = some ⟨some d, k'⟩) : i = j := by
  obtain ⟨o, ho, hd, _⟩ := W.ent h
  obtain ⟨o', ho', hd', _⟩ := W.ent h'
  exact (tyB_spec W.form ho').2.1 d hd'.symm |>.2 i o ho hd.symm
theorem filterMap_once {α β : Type} [DecidableEq β] (f : α → Option β) : ∀ (l : List α) (i j : Nat) (a b : α) (x : β), (l.filterMap f).Nodup → l[i]? = some a → l[j]? = some b → f a = some x → f b = some x → i = j
  | [], i, _, _, _, _, _, h, _, _, _ => by simp at h
  | c :: l, i, j, a, b, x, hn, hi, hj, ha, hb => by
    have tail : (l.filterMap f).Nodup := by
      rw [List.filterMap_cons] at hn
      split at hn
      · exact hn
      · exact (List.nodup_cons.1 hn).2
    have mem : ∀ (k : Nat) (y : α), l[k]? = some y → f y = some x → f c = some x → False := fun k y hk hy hc => by
      rw [List.filterMap_cons, hc] at hn
      exact (List.nodup_cons.1 hn).1 (List.mem_filterMap.2 ⟨y, List.mem_of_getElem? hk, hy⟩)
    match i, j with
    | 0, 0 => rfl
    | 0, j + 1 =>
      simp only [List.getElem?_cons_zero, Option.some.injEq] at hi
      subst hi
      exact (mem j b (by simpa using hj) hb ha).elim
    | i + 1, 0 =>
      simp only [List.getElem?_cons_zero, Option.some.injEq] at hj
      subst hj
      exact (mem i a (by simpa using hi) ha hb).elim
    | i + 1, j + 1 => exact congrArg (· + 1) (filterMap_once f l i j a b x tail (by simpa using hi) (by simpa using hj) ha hb)
theorem Walked.put (W : Walked P ops K T E w0 a0 md G) {i j d : Nat} {S S' : Obj → World → Prop} (h : G[i]? = some ⟨none, .put d S⟩) (h' : G[j]? = some ⟨none, .put d S'⟩) : i = j := by
  have := W.once
  simp only [onceB, Bool.and_eq_true, decide_eq_true_eq] at this
  exact filterMap_once putOf G i j _ _ d this.1 h h' rfl rfl
theorem Walked.old (W : Walked P ops K T E w0 a0 md G) {i j k : Nat} {S S' : Obj → World → Prop} (h : G[i]? = some ⟨none, .old k S⟩) (h' : G[j]? = some ⟨none, .old k S'⟩) : i = j := by
  have := W.once
  simp only [onceB, Bool.and_eq_true, decide_eq_true_eq] at this
  exact filterMap_once oldOf G i j _ _ k this.2 h h' rfl rfl
theorem Walked.blk_lt (W : Walked P ops K T E w0 a0 md G) {k b : Nat} (h : T[k]? = some b) : b < w0.heap.size := W.tlt b (List.mem_of_getElem? h)
theorem nodup_get {α : Type} : ∀ {l : List α} {i j : Nat} {x : α}, l.Nodup → l[i]? = some x → l[j]? = some x → i = j
  | [], _, _, _, _, h, _ => by simp at h
  | a :: l, i, j, x, hn, hi, hj => by
    rw [List.nodup_cons] at hn
    match i, j with
    | 0, 0 => rfl
    | 0, j + 1 =>
      simp only [List.getElem?_cons_zero, Option.some.injEq] at hi
      subst hi
      exact absurd (List.mem_of_getElem? (by simpa using hj)) hn.1
    | i + 1, 0 =>
      simp only [List.getElem?_cons_zero, Option.some.injEq] at hj
      subst hj
      exact absurd (List.mem_of_getElem? (by simpa using hi)) hn.1
    | i + 1, j + 1 => exact congrArg (· + 1) (nodup_get hn.2 (by simpa using hi) (by simpa using hj))
theorem Walked.blk_eq (W : Walked P ops K T E w0 a0 md G) {k k' b : Nat} (h : T[k]? = some b) (h' : T[k']? = some b) : k = k' := nodup_get W.tnd h h'
theorem Walked.waits (W : Walked P ops K T E w0 a0 md G) {i j k : Nat} {S : Obj → World → Prop} {oj : Oper} (h : G[j]? = some ⟨none, .old k S⟩) (hj : ops[j]? = some oj) (hi : i < ops.size) (hE : E i k = true) :
    i = j ∨ ∃ e ∈ oj.after, Region.binds md e = true ∧ e.on = i := by
  have hjlt : j < ops.size := by
    rcases Nat.lt_or_ge j ops.size with h' | h'
    · exact h'
    · rw [Array.getElem?_eq_none h'] at hj; cases hj
  have := W.early
  simp only [earlyB, List.all_eq_true, List.mem_range] at this
  have := this j hjlt
  simp only [h, Option.bind_some, oldOf, List.all_eq_true, List.mem_range] at this
  have := this i hi
  rw [hE, hj] at this
  simp only [Bool.not_true, Bool.false_or, Bool.or_eq_true, beq_iff_eq, Option.any_some] at this
  rcases this with e | e
  · exact .inl e
  · obtain ⟨e, he, h1⟩ := Array.any_eq_true'.1 e
    simp only [Bool.and_eq_true, beq_iff_eq] at h1
    exact .inr ⟨e, he, h1.1, h1.2⟩
theorem Walked.stable (W : Walked P ops K T E w0 a0 md G) {i d : Nat} {S : Sp} (h : G[i]? = some ⟨some d, .val S⟩) : Stable K S := by
  obtain ⟨o, _, _, ho⟩ := W.ent h; exact ho.1
theorem Walked.stable_put (W : Walked P ops K T E w0 a0 md G) {i d : Nat} {S : Obj → World → Prop} (h : G[i]? = some ⟨none, .put d S⟩) : StableO K S := by
  obtain ⟨o, _, _, ho⟩ := W.ent h; exact ho.2.2.2.1
theorem Walked.stable_old (W : Walked P ops K T E w0 a0 md G) {i b : Nat} {S : Obj → World → Prop} (h : G[i]? = some ⟨none, .old b S⟩) : StableO K S := by
  obtain ⟨o, _, _, ho⟩ := W.ent h; exact ho.2.2.1

variable {listed : Array Bool} {f : Tmp → Value} {a : Act} {w : World}

/-- What an operation sees of memory. -/
theorem Inv.view (I : Inv ops K T w0 a0 md G listed f a w) (W : Walked P ops K T E w0 a0 md G) {i : Nat} {o : Oper} (ho : ops[i]? = some o) (hun : ¬ lst listed i) : View K T E w0 (G.take i).reverse.length w := by
  have hi : i < ops.size := by
    rcases Nat.lt_or_ge i ops.size with h | h
    · exact h
    · rw [Array.getElem?_eq_none h] at ho; cases ho
  have hl : (G.take i).reverse.length = i := by
    rw [List.length_reverse, List.length_take, W.len]
    omega
  rw [hl]
  refine ⟨I.base, I.ext, fun k b hE hT => I.still k b hT (fun j S hj hlj => ?_)⟩
  obtain ⟨oj, hoj, _, _⟩ := W.ent hj
  rcases W.waits hj hoj hi hE with e | ⟨e, he, hb, hon⟩
  · subst e
    exact hun hlj
  · have := I.closed j oj hoj hlj e he hb
    rw [hon] at this
    exact hun this

/-- What an operation looks at is known. -/
theorem Inv.known (I : Inv ops K T w0 a0 md G listed f a w) (W : Walked P ops K T E w0 a0 md G) {i : Nat} {o : Oper} (ho : ops[i]? = some o) (hr : ∀ e ∈ o.after, Region.binds md e = true → lst listed e.on) :
    known a0 w0.heap.size (G.take i).reverse a w (o.looksAt ops) := by
  rw [known_iff]
  intro t ht
  have hf := (tyB_spec W.form ho).2.2 t ht
  refine specOf_of (fun e he hd => ?_) (fun hn => I.miss t (fun j oj hj hdj => ?_))
  · obtain ⟨j, hj⟩ := List.getElem?_of_mem (List.mem_reverse.1 he)
    have hjG : G[j]? = some e := by
      rw [List.getElem?_take] at hj
      split at hj
      · exact hj
      · cases hj
    obtain ⟨oj, hoj, hdj, _⟩ := W.ent hjG
    obtain ⟨_, ed, hed, hb, hon⟩ := hf j oj hoj (by rw [← hdj]; exact hd)
    have hl : lst listed j := by rw [← hon]; exact hr ed hed hb
    have hv : a.eval (.tmp t) = f t := I.hit j oj t hoj hl (by rw [← hdj]; exact hd)
    rw [hv]
    obtain ⟨dst, kd⟩ := e
    simp only at hd
    subst hd
    match kd, hjG with
    | .val S, hjG => exact I.vals j t S hjG hl
    | .new o0, hjG =>
      obtain ⟨b, h1, h2, h3, _⟩ := I.news j t o0 hjG hl
      exact ⟨b, h1, h2, h3⟩
    | .put _ _, _ => trivial
    | .old _ _, _ => trivial
  · obtain ⟨hlt, _⟩ := hf j oj hj hdj
    obtain ⟨k, hk, _⟩ := W.each j oj hj
    refine hn ⟨oj.dst, k⟩ (List.mem_reverse.2 (List.mem_of_getElem? (i := j) ?_)) hdj
    rw [List.getElem?_take, if_pos hlt]
    exact hk

theorem Act.eval_put_hit {a : Act} {d : Tmp} {v : Value} (h : d < a.tmps.size) : (a.put (some d) v).eval (.tmp d) = v := by
  simp [Act.put, Act.eval, h]
theorem Act.eval_put_miss {a : Act} {dst : Option Tmp} {t : Tmp} {v : Value} (h : dst ≠ some t) : (a.put dst v).eval (.tmp t) = a.eval (.tmp t) := by
  cases dst with
  | none => rfl
  | some d =>
    have : d ≠ t := fun e => h (by rw [e])
    simp [Act.put, Act.eval, Array.getElem?_setIfInBounds_ne this]
theorem Act.put_size {a : Act} {dst : Option Tmp} {v : Value} : (a.put dst v).tmps.size = a.tmps.size := by
  cases dst <;> simp [Act.put]
theorem Act.put_defers {a : Act} {dst : Option Tmp} {v : Value} : (a.put dst v).defers = a.defers := by
  cases dst <;> rfl

/-- The slots' values, one more. -/
def upd (f : Tmp → Value) (dst : Option Tmp) (v : Value) : Tmp → Value := fun t => if dst = some t then v else f t
theorem upd_hit {f : Tmp → Value} {d : Tmp} {v : Value} : upd f (some d) v d = v := by simp [upd]
theorem upd_miss {f : Tmp → Value} {dst : Option Tmp} {t : Tmp} {v : Value} (h : dst ≠ some t) : upd f dst v t = f t := by simp [upd, h]

/-- What stands of the frame and of the order when an operation has come up. -/
theorem Inv.frame (I : Inv ops K T w0 a0 md G listed f a w) (W : Walked P ops K T E w0 a0 md G) {i : Nat} {o : Oper} (ho : ops[i]? = some o) (hr : ∀ e ∈ o.after, Region.binds md e = true → lst listed e.on) (v : Value) :
    (∀ (j : Nat) (o' : Oper) d, ops[j]? = some o' → lst (listed.setIfInBounds i true) j → o'.dst = some d → (a.put o.dst v).eval (.tmp d) = upd f o.dst v d) ∧
    (∀ t, (∀ (j : Nat) (o' : Oper), ops[j]? = some o' → o'.dst ≠ some t) → (a.put o.dst v).eval (.tmp t) = a0.eval (.tmp t)) ∧
    (∀ (j : Nat) (o' : Oper), ops[j]? = some o' → lst (listed.setIfInBounds i true) j → ∀ e ∈ o'.after, Region.binds md e = true → lst (listed.setIfInBounds i true) e.on) ∧ i < listed.size := by
  have hi : i < listed.size := by
    rw [I.lsize]
    rcases Nat.lt_or_ge i ops.size with h | h
    · exact h
    · rw [Array.getElem?_eq_none h] at ho; cases ho
  refine ⟨fun j o' d hj hl hd => ?_, fun t ht => ?_, fun j o' hj hl e he hb => ?_, hi⟩
  · by_cases hji : j = i
    · subst hji
      rw [ho] at hj
      injection hj with hj
      subst hj
      have hlt := ((tyB_spec W.form ho).2.1 d hd).1
      rw [hd, Act.eval_put_hit (by rw [I.tsize]; exact hlt), upd_hit]
    · have hl' : lst listed j := ((lst_set hi).1 hl).resolve_left hji
      have hne : o.dst ≠ some d := fun e => hji (((tyB_spec W.form ho).2.1 d e).2 j o' hj hd)
      rw [Act.eval_put_miss hne, upd_miss hne]
      exact I.hit j o' d hj hl' hd
  · rw [Act.eval_put_miss (ht i o ho)]
    exact I.miss t ht
  · rw [lst_set hi]
    by_cases hji : j = i
    · subst hji
      rw [ho] at hj
      injection hj with hj
      subst hj
      exact .inr (hr e he hb)
    · exact .inr (I.closed j o' hj (((lst_set hi).1 hl).resolve_left hji) e he hb)

/-- An operation has yielded a value; what was there has stayed. -/
theorem Inv.val (I : Inv ops K T w0 a0 md G listed f a w) (W : Walked P ops K T E w0 a0 md G) {i : Nat} {o : Oper} {S : Sp} (ho : ops[i]? = some o) (hG : G[i]? = some ⟨o.dst, .val S⟩) (hun : ¬ lst listed i)
    (hr : ∀ e ∈ o.after, Region.binds md e = true → lst listed e.on) {v : Value} {w' : World} (hb : Below w.heap.size w w') (hS : S v w') :
    Inv ops K T w0 a0 md G (listed.setIfInBounds i true) (upd f o.dst v) (a.put o.dst v) w' := by
  obtain ⟨h1, h2, h3, hi⟩ := I.frame W ho hr v
  have hx : Ext K w w' := Ext.of_below hb
  have keep : ∀ (j d : Nat) k, G[j]? = some ⟨some d, k⟩ → j ≠ i → o.dst ≠ some d := fun j d k hj hji e => by
    rw [e] at hG
    exact hji (W.dst hj hG)
  have other : ∀ {j : Nat}, j ≠ i → (lst (listed.setIfInBounds i true) j ↔ lst listed j) := fun h => by
    rw [lst_set hi]; exact ⟨fun h' => h'.resolve_left h, .inr⟩
  refine ⟨by rw [Array.size_setIfInBounds]; exact I.lsize, by rw [Act.put_defers]; exact I.defers, by rw [Act.put_size]; exact I.tsize, h1, h2, h3, I.base.step hb, I.ext.trans hx, ?_, ?_, ?_, ?_, ?_⟩
  · intro j d S' hj hl
    by_cases hji : j = i
    · subst hji
      rw [hG] at hj
      injection hj with hj
      injection hj with e1 e2
      injection e2 with e2
      subst e2
      rw [e1, upd_hit]
      exact hS
    · rw [upd_miss (keep j d _ hj hji)]
      exact W.stable hj _ _ _ (I.vals j d S' hj ((other hji).1 hl)) hx
  · intro j d o0 hj hl
    have hji : j ≠ i := fun e => by subst e; rw [hG] at hj; injection hj with hj; injection hj with _ hj; cases hj
    rw [upd_miss (keep j d _ hj hji)]
    obtain ⟨b, e1, e2, e3, e4, e5⟩ := I.news j d o0 hj ((other hji).1 hl)
    refine ⟨b, e1, e2, Nat.lt_of_lt_of_le e3 hb.size, fun h => ?_, fun k S' hk hlk => ?_⟩
    · rw [hb.block b e3]
      refine e4 (fun k S' hk hlk => h k S' hk ?_)
      rw [lst_set hi]; exact .inr hlk
    · have hki : k ≠ i := fun e => by subst e; rw [hG] at hk; injection hk with hk; injection hk with _ hk; cases hk
      obtain ⟨o', h1', h2'⟩ := e5 k S' hk ((other hki).1 hlk)
      exact ⟨o', W.stable_put hk _ _ _ h1' hx, by rw [hb.block b e3]; exact h2'⟩
  · intro j k b S' hj hT hl
    have hji : j ≠ i := fun e => by subst e; rw [hG] at hj; injection hj with hj; injection hj with _ hj; cases hj
    have hlt : b < w.heap.size := Nat.lt_of_lt_of_le (W.blk_lt hT) I.base.size
    obtain ⟨o', h1', h2'⟩ := I.olds j k b S' hj hT ((other hji).1 hl)
    exact ⟨o', W.stable_old hj _ _ _ h1' hx, by rw [hb.block b hlt]; exact h2'⟩
  · intro k b hT hn
    have hlt : b < w.heap.size := Nat.lt_of_lt_of_le (W.blk_lt hT) I.base.size
    rw [hb.block b hlt]
    exact I.still k b hT (fun j S' hj hl => hn j S' hj ((lst_set hi).2 (.inr hl)))
  · intro j j' d d' o1 o2 hj hj' hl hl' hne
    have hji : j ≠ i := fun e => by subst e; rw [hG] at hj; injection hj with hj; injection hj with _ hj; cases hj
    have hji' : j' ≠ i := fun e => by subst e; rw [hG] at hj'; injection hj' with hj'; injection hj' with _ hj'; cases hj'
    rw [upd_miss (keep j d _ hj hji), upd_miss (keep j' d' _ hj' hji')]
    exact I.apart j j' d d' o1 o2 hj hj' ((other hji).1 hl) ((other hji').1 hl') hne
end

section
variable {P : Program} {ops : Array Oper} {K : Obj → Bool} {T : List Nat} {E : Nat → Nat → Bool} {w0 : World} {a0 : Act} {md : Region.Mode} {G : List Ent} {listed : Array Bool} {f : Tmp → Value} {a : Act} {w : World}

/-- An operation has made a variable. -/
theorem Inv.new (I : Inv ops K T w0 a0 md G listed f a w) (W : Walked P ops K T E w0 a0 md G) {i : Nat} {o : Oper} {o0 : Obj} (ho : ops[i]? = some o) (hG : G[i]? = some ⟨o.dst, .new o0⟩) (hun : ¬ lst listed i)
    (hr : ∀ e ∈ o.after, Region.binds md e = true → lst listed e.on) :
    Inv ops K T w0 a0 md G (listed.setIfInBounds i true) (upd f o.dst (.pointer (some ⟨w.heap.size, 0, none⟩))) (a.put o.dst (.pointer (some ⟨w.heap.size, 0, none⟩))) (w.alloc o0) := by
  obtain ⟨h1, h2, h3, hi⟩ := I.frame W ho hr (.pointer (some ⟨w.heap.size, 0, none⟩))
  have hb : Below w.heap.size w (w.alloc o0) := (Below.refl _ _).alloc (Nat.le_refl _) _
  have hx : Ext K w (w.alloc o0) := Ext.of_below hb
  have keep : ∀ (j d : Nat) k, G[j]? = some ⟨some d, k⟩ → j ≠ i → o.dst ≠ some d := fun j d k hj hji e => by
    rw [e] at hG
    exact hji (W.dst hj hG)
  have other : ∀ {j : Nat}, j ≠ i → (lst (listed.setIfInBounds i true) j ↔ lst listed j) := fun h => by
    rw [lst_set hi]; exact ⟨fun h' => h'.resolve_left h, .inr⟩
  have hsz : (w.alloc o0).heap.size = w.heap.size + 1 := by simp
  refine ⟨by rw [Array.size_setIfInBounds]; exact I.lsize, by rw [Act.put_defers]; exact I.defers, by rw [Act.put_size]; exact I.tsize, h1, h2, h3, I.base.step hb, I.ext.trans hx, ?_, ?_, ?_, ?_, ?_⟩
  · intro j d S' hj hl
    have hji : j ≠ i := fun e => by subst e; rw [hG] at hj; injection hj with hj; injection hj with _ hj; cases hj
    rw [upd_miss (keep j d _ hj hji)]
    exact W.stable hj _ _ _ (I.vals j d S' hj ((other hji).1 hl)) hx
  · intro j d o1 hj hl
    by_cases hji : j = i
    · subst hji
      rw [hG] at hj
      injection hj with hj
      injection hj with e1 e2
      injection e2 with e2
      subst e2
      rw [e1, upd_hit]
      refine ⟨w.heap.size, rfl, I.base.size, by rw [hsz]; omega, fun _ => heap_alloc_new w _, fun k S' hk hlk => ?_⟩
      exfalso
      have hki : k ≠ j := fun e => by subst e; rw [hG] at hk; injection hk with hk; injection hk with _ hk; cases hk
      have hlk' := (other hki).1 hlk
      obtain ⟨ok, hok, _, hob⟩ := W.ent hk
      obtain ⟨_, e, he, hbd, hon⟩ := (tyB_spec W.form hok).2.2 d hob.2.2.1 j o ho e1
      have := I.closed k ok hok hlk' e he hbd
      rw [hon] at this
      exact hun this
    · rw [upd_miss (keep j d _ hj hji)]
      obtain ⟨b, e1, e2, e3, e4, e5⟩ := I.news j d o1 hj ((other hji).1 hl)
      refine ⟨b, e1, e2, Nat.lt_of_lt_of_le e3 hb.size, fun h => ?_, fun k S' hk hlk => ?_⟩
      · rw [hb.block b e3]
        refine e4 (fun k S' hk hlk => h k S' hk ?_)
        rw [lst_set hi]; exact .inr hlk
      · have hki : k ≠ i := fun e => by subst e; rw [hG] at hk; injection hk with hk; injection hk with _ hk; cases hk
        obtain ⟨o', h1', h2'⟩ := e5 k S' hk ((other hki).1 hlk)
        exact ⟨o', W.stable_put hk _ _ _ h1' hx, by rw [hb.block b e3]; exact h2'⟩
  · intro j k b S' hj hT hl
    have hji : j ≠ i := fun e => by subst e; rw [hG] at hj; injection hj with hj; injection hj with _ hj; cases hj
    have hlt : b < w.heap.size := Nat.lt_of_lt_of_le (W.blk_lt hT) I.base.size
    obtain ⟨o', h1', h2'⟩ := I.olds j k b S' hj hT ((other hji).1 hl)
    exact ⟨o', W.stable_old hj _ _ _ h1' hx, by rw [hb.block b hlt]; exact h2'⟩
  · intro k b hT hn
    have hlt : b < w.heap.size := Nat.lt_of_lt_of_le (W.blk_lt hT) I.base.size
    rw [hb.block b hlt]
    exact I.still k b hT (fun j S' hj hl => hn j S' hj ((lst_set hi).2 (.inr hl)))
  · intro j j' d d' o1 o2 hj hj' hl hl' hne
    by_cases hji : j = i
    · subst hji
      have hji' : j' ≠ j := fun e => by subst e; rw [hj] at hj'; injection hj' with hj'; injection hj' with e1 _; injection e1 with e1; exact hne e1
      obtain ⟨b, e1, _, e3, _⟩ := I.news j' d' o2 hj' ((other hji').1 hl')
      have hd : o.dst = some d := by rw [hG] at hj; injection hj with hj; injection hj
      rw [upd_miss (keep j' d' _ hj' hji'), e1, hd, upd_hit]
      intro e
      injection e with e; injection e with e; injection e with e
      omega
    · by_cases hji' : j' = i
      · subst hji'
        obtain ⟨b, e1, _, e3, _⟩ := I.news j d o1 hj ((other hji).1 hl)
        have hd : o.dst = some d' := by rw [hG] at hj'; injection hj' with hj'; injection hj'
        rw [upd_miss (keep j d _ hj hji), e1, hd, upd_hit]
        intro e
        injection e with e; injection e with e; injection e with e
        omega
      · rw [upd_miss (keep j d _ hj hji), upd_miss (keep j' d' _ hj' hji')]
        exact I.apart j j' d d' o1 o2 hj hj' ((other hji).1 hl) ((other hji').1 hl') hne

theorem upd_none {f : Tmp → Value} {v : Value} : upd f none v = f := by funext t; simp [upd]
theorem Turned.base {b : Nat} {o' : Obj} {w' : World} (h : Turned b o' w w') (hB : Base T w0 w) (hT : w0.heap.size ≤ b ∨ b ∈ T) : Base T w0 w' := by
  refine ⟨h.os.trans hB.os, h.tape.trans hB.tape, h.output.trans hB.output, by rw [h.size]; exact hB.size, fun k hk hkT => ?_⟩
  rw [h.block k (fun e => by subst e; rcases hT with hT | hT; · omega
                             · exact hkT hT)]
  exact hB.block k hk hkT

/-- An operation has stored into a variable that the region made. -/
theorem Inv.put (I : Inv ops K T w0 a0 md G listed f a w) (W : Walked P ops K T E w0 a0 md G) {i : Nat} {o : Oper} {d0 : Tmp} {S0 : Obj → World → Prop} (ho : ops[i]? = some o) (hG : G[i]? = some ⟨o.dst, .put d0 S0⟩) (hun : ¬ lst listed i)
    (hr : ∀ e ∈ o.after, Region.binds md e = true → lst listed e.on) :
    o.dst = none ∧ o.guard = none ∧ ∃ b, (∀ w' o', Turned b o' w w' → S0 o' w → Inv ops K T w0 a0 md G (listed.setIfInBounds i true) f a w') ∧ putUpon b w S0 ((execOp a.eval o).run P w) := by
  obtain ⟨o1, ho1, hd1, hob⟩ := W.ent hG
  rw [ho] at ho1
  injection ho1 with ho1
  subst ho1
  obtain ⟨hdn, hgn, hlook, hst, o0, hmem, hex⟩ := hob
  obtain ⟨j0, hj0⟩ := List.getElem?_of_mem (List.mem_reverse.1 hmem)
  have hjG : G[j0]? = some ⟨some d0, .new o0⟩ := by
    rw [List.getElem?_take] at hj0
    split at hj0
    · exact hj0
    · cases hj0
  obtain ⟨oj, hoj, hdj, hobj⟩ := W.ent hjG
  obtain ⟨_, ed, hed, hbd, hon⟩ := (tyB_spec W.form ho).2.2 d0 hlook j0 oj hoj hdj.symm
  have hl0 : lst listed j0 := by rw [← hon]; exact hr ed hed hbd
  obtain ⟨b, e1, e2, e3, e4, _⟩ := I.news j0 d0 o0 hjG hl0
  rw [hdn] at hG
  have hblk : w.heap[b]? = some o0 := e4 (fun k S' hk hlk => hun (by rw [W.put hG hk]; exact hlk))
  have hval : a.eval (.tmp d0) = .pointer (some ⟨b, 0, none⟩) := (I.hit j0 oj d0 hoj hl0 hdj.symm).trans e1
  refine ⟨hdn, hgn, b, fun w' o' ht hS => ?_, hex a w b (I.view W ho hun) (I.known W ho hr) hval hblk⟩
  have hx : Ext K w w' := ht.ext hblk hobj.1
  obtain ⟨h1, h2, h3, hi⟩ := I.frame W ho hr undef
  rw [hdn, upd_none] at h1
  rw [hdn] at h2
  have other : ∀ {j : Nat}, j ≠ i → (lst (listed.setIfInBounds i true) j ↔ lst listed j) := fun h => by
    rw [lst_set hi]; exact ⟨fun h' => h'.resolve_left h, .inr⟩
  refine ⟨by rw [Array.size_setIfInBounds]; exact I.lsize, I.defers, I.tsize, h1, h2, h3, ht.base I.base (.inl e2), I.ext.trans hx, ?_, ?_, ?_, ?_, ?_⟩
  · intro j d S' hj hl
    have hji : j ≠ i := fun e => by subst e; rw [hG] at hj; injection hj with hj; injection hj with _ hj; cases hj
    exact W.stable hj _ _ _ (I.vals j d S' hj ((other hji).1 hl)) hx
  · intro j d o2 hj hl
    have hji : j ≠ i := fun e => by subst e; rw [hG] at hj; injection hj with hj; injection hj with _ hj; cases hj
    obtain ⟨b', f1, f2, f3, f4, f5⟩ := I.news j d o2 hj ((other hji).1 hl)
    by_cases hd : d = d0
    · subst hd
      have hbb : b' = b := by rw [e1] at f1; injection f1 with f1; injection f1 with f1; injection f1 with f1; exact f1.symm
      subst hbb
      refine ⟨b', f1, f2, by rw [ht.size]; exact f3, fun h => ?_, fun k S' hk hlk => ?_⟩
      · exact absurd ((lst_set hi).2 (.inl rfl)) (h i S0 hG)
      · have hki := W.put hk hG
        subst hki
        rw [hG] at hk
        injection hk with hk
        injection hk with _ hk
        injection hk with _ hk
        subst hk
        exact ⟨o', hst _ _ _ hS hx, ht.at_⟩
    · have hne : b' ≠ b := by
        have := I.apart j j0 d d0 o2 o0 hj hjG ((other hji).1 hl) hl0 hd
        rw [f1, e1] at this
        exact fun e => this (by rw [e])
      refine ⟨b', f1, f2, by rw [ht.size]; exact f3, fun h => ?_, fun k S' hk hlk => ?_⟩
      · rw [ht.block b' hne]
        refine f4 (fun k S' hk hlk => h k S' hk ?_)
        rw [lst_set hi]; exact .inr hlk
      · have hki : k ≠ i := fun e => by
          subst e; rw [hG] at hk; injection hk with hk; injection hk with _ hk; injection hk with hk _; exact hd hk.symm
        obtain ⟨o'', h1', h2'⟩ := f5 k S' hk ((other hki).1 hlk)
        exact ⟨o'', W.stable_put hk _ _ _ h1' hx, by rw [ht.block b' hne]; exact h2'⟩
  · intro j k b' S' hj hT hl
    have hji : j ≠ i := fun e => by subst e; rw [hG] at hj; injection hj with hj; injection hj with _ hj; cases hj
    have hne : b' ≠ b := by have := W.blk_lt hT; omega
    obtain ⟨o'', h1', h2'⟩ := I.olds j k b' S' hj hT ((other hji).1 hl)
    exact ⟨o'', W.stable_old hj _ _ _ h1' hx, by rw [ht.block b' hne]; exact h2'⟩
  · intro k b' hT hn
    have hne : b' ≠ b := by have := W.blk_lt hT; omega
    rw [ht.block b' hne]
    exact I.still k b' hT (fun j S' hj hl => hn j S' hj ((lst_set hi).2 (.inr hl)))
  · intro j j' d d' o2 o3 hj hj' hl hl' hne
    have hji : j ≠ i := fun e => by subst e; rw [hG] at hj; injection hj with hj; injection hj with _ hj; cases hj
    have hji' : j' ≠ i := fun e => by subst e; rw [hG] at hj'; injection hj' with hj'; injection hj' with _ hj'; cases hj'
    exact I.apart j j' d d' o2 o3 hj hj' ((other hji).1 hl) ((other hji').1 hl') hne

/-- An operation has stored into a variable that was there. -/
theorem Inv.old (I : Inv ops K T w0 a0 md G listed f a w) (W : Walked P ops K T E w0 a0 md G) {i : Nat} {o : Oper} {k : Nat} {S0 : Obj → World → Prop} (ho : ops[i]? = some o) (hG : G[i]? = some ⟨o.dst, .old k S0⟩) (hun : ¬ lst listed i)
    (hr : ∀ e ∈ o.after, Region.binds md e = true → lst listed e.on) :
    o.dst = none ∧ o.guard = none ∧ ∃ b, (∀ w' o', Turned b o' w w' → S0 o' w → Inv ops K T w0 a0 md G (listed.setIfInBounds i true) f a w') ∧ putUpon b w S0 ((execOp a.eval o).run P w) := by
  obtain ⟨o1, ho1, hd1, hob⟩ := W.ent hG
  rw [ho] at ho1
  injection ho1 with ho1
  subst ho1
  obtain ⟨hdn, hgn, hst, b, o0, hTb, hb0, hcold, hex⟩ := hob
  rw [hdn] at hG
  have hblt : b < w0.heap.size := lt_of_block hb0
  have hblk : w.heap[b]? = some o0 := (I.still k b hTb (fun j S' hj hl => by have := W.old hj hG; subst this; exact hun hl)).trans hb0
  refine ⟨hdn, hgn, b, fun w' o' ht hS => ?_, hex a w (I.view W ho hun) (I.known W ho hr) hblk⟩
  have hx : Ext K w w' := ht.ext hblk hcold
  obtain ⟨h1, h2, h3, hi⟩ := I.frame W ho hr undef
  rw [hdn, upd_none] at h1
  rw [hdn] at h2
  have other : ∀ {j : Nat}, j ≠ i → (lst (listed.setIfInBounds i true) j ↔ lst listed j) := fun h => by
    rw [lst_set hi]; exact ⟨fun h' => h'.resolve_left h, .inr⟩
  refine ⟨by rw [Array.size_setIfInBounds]; exact I.lsize, I.defers, I.tsize, h1, h2, h3, ht.base I.base (.inr (List.mem_of_getElem? hTb)), I.ext.trans hx, ?_, ?_, ?_, ?_, ?_⟩
  · intro j d S' hj hl
    have hji : j ≠ i := fun e => by subst e; rw [hG] at hj; injection hj with hj; injection hj with _ hj; cases hj
    exact W.stable hj _ _ _ (I.vals j d S' hj ((other hji).1 hl)) hx
  · intro j d o2 hj hl
    have hji : j ≠ i := fun e => by subst e; rw [hG] at hj; injection hj with hj; injection hj with _ hj; cases hj
    obtain ⟨b', f1, f2, f3, f4, f5⟩ := I.news j d o2 hj ((other hji).1 hl)
    have hne : b' ≠ b := by omega
    refine ⟨b', f1, f2, by rw [ht.size]; exact f3, fun h => ?_, fun k S' hk hlk => ?_⟩
    · rw [ht.block b' hne]
      refine f4 (fun k S' hk hlk => h k S' hk ?_)
      rw [lst_set hi]; exact .inr hlk
    · have hki : k ≠ i := fun e => by subst e; rw [hG] at hk; injection hk with hk; injection hk with _ hk; cases hk
      obtain ⟨o'', h1', h2'⟩ := f5 k S' hk ((other hki).1 hlk)
      exact ⟨o'', W.stable_put hk _ _ _ h1' hx, by rw [ht.block b' hne]; exact h2'⟩
  · intro j k' b' S' hj hT' hl
    by_cases hji : j = i
    · subst hji
      rw [hG] at hj
      injection hj with hj
      injection hj with _ hj
      injection hj with hj1 hj2
      subst hj1
      subst hj2
      rw [hTb] at hT'
      injection hT' with hT'
      subst hT'
      exact ⟨o', hst _ _ _ hS hx, ht.at_⟩
    · have hne : b' ≠ b := fun e => by
        subst e
        have := W.blk_eq hT' hTb
        subst this
        exact hji (W.old hj hG)
      obtain ⟨o'', h1', h2'⟩ := I.olds j k' b' S' hj hT' ((other hji).1 hl)
      exact ⟨o'', W.stable_old hj _ _ _ h1' hx, by rw [ht.block b' hne]; exact h2'⟩
  · intro k' b' hT' hn
    have hne : b' ≠ b := fun e => by
      subst e
      have := W.blk_eq hT' hTb
      subst this
      exact hn i S0 hG ((lst_set hi).2 (.inl rfl))
    rw [ht.block b' hne]
    exact I.still k' b' hT' (fun j S' hj hl => hn j S' hj ((lst_set hi).2 (.inr hl)))
  · intro j j' d d' o2 o3 hj hj' hl hl' hne
    have hji : j ≠ i := fun e => by subst e; rw [hG] at hj; injection hj with hj; injection hj with _ hj; cases hj
    have hji' : j' ≠ i := fun e => by subst e; rw [hG] at hj'; injection hj' with hj'; injection hj' with _ hj'; cases hj'
    exact I.apart j j' d d' o2 o3 hj hj' ((other hji).1 hl) ((other hji').1 hl') hne

/-- Whichever operation comes up: what holds goes on to hold. -/
theorem Inv.step {Q : Exit → Act → World → Prop} (I : Inv ops K T w0 a0 md G listed f a w) (W : Walked P ops K T E w0 a0 md G) {i : Nat} (hi : i ∈ Region.ready md ops listed) {N : Act → World → Prop}
    (hN : ∀ f a w, Inv ops K T w0 a0 md G (listed.setIfInBounds i true) f a w → N a w) : wpOp P ops Q i N a w := by
  obtain ⟨hun, o, ho, hr⟩ := mem_ready.1 hi
  have hun' : ¬ lst listed i := fun h => by unfold lst at h; rw [h] at hun; cases hun
  have hr' : ∀ e ∈ o.after, Region.binds md e = true → lst listed e.on := fun e he hb => by
    have := hr e he hb
    unfold lst
    rw [Array.getD_eq_getD_getElem?] at this ⊢
    cases h : listed[e.on]? with
    | none => rfl
    | some v => rw [h] at this; exact this
  obtain ⟨k, hG, hob⟩ := W.each i o ho
  have hwp : ∀ (hg : o.guard = none), o.wp P a w N Q → wpOp P ops Q i N a w := fun hg h => by
    unfold wpOp
    simp only [ho]
    rw [if_pos (by simp [Region.wanted, hg])]
    exact .inl h
  match k, hG, hob with
  | .val S, hG, hob =>
    unfold wpOp
    simp only [ho]
    rcases hob.2 a w (I.view W ho hun') (I.known W ho hr') with ⟨hw, hu⟩ | ⟨hw, hu⟩
    · rw [if_pos hw]
      refine .inl ?_
      unfold Oper.wp
      generalize (execOp a.eval o).run P w = r at *
      cases r with
      | ok n w' =>
        cases n <;> simp only [tyUpon] at hu <;> simp only [Oper.upon]
        case value u => exact hN _ _ _ (I.val W ho hG hun' hr' hu.1 hu.2)
        case skip => exact hN _ _ _ (I.val W ho hG hun' hr' hu.1 hu.2)
        case enter fn args =>
          obtain ⟨e1, hc⟩ := hu
          rw [e1]
          exact hc.mono fun e w'' ⟨v, he, h1, h2⟩ => by subst he; exact hN _ _ _ (I.val W ho hG hun' hr' h1 h2)
      | halt x w' => simp only [tyUpon] at hu
    · rw [if_neg (by rw [hw]; simp)]
      exact hN _ _ _ (I.val W ho hG hun' hr' (Below.refl _ _) hu)
  | .new o0, hG, hob =>
    refine hwp hob.2.1 ?_
    unfold Oper.wp
    rw [hob.2.2.2 a w]
    exact hN _ _ _ (I.new W ho hG hun' hr')
  | .put d S, hG, hob =>
    obtain ⟨hd, hg, b, hK, hu⟩ := I.put W ho hG hun' hr'
    refine hwp hg ?_
    unfold Oper.wp
    generalize (execOp a.eval o).run P w = r at *
    cases r with
    | ok n w' =>
      cases n <;> simp only [putUpon] at hu <;> simp only [Oper.upon, hd, Act.put]
      case value u => obtain ⟨o', h1, h2⟩ := hu; exact hN _ _ _ (hK _ _ h1 h2)
      case skip => obtain ⟨o', h1, h2⟩ := hu; exact hN _ _ _ (hK _ _ h1 h2)
    | halt x w' => simp only [putUpon] at hu
  | .old b S, hG, hob =>
    obtain ⟨hd, hg, b, hK, hu⟩ := I.old W ho hG hun' hr'
    refine hwp hg ?_
    unfold Oper.wp
    generalize (execOp a.eval o).run P w = r at *
    cases r with
    | ok n w' =>
      cases n <;> simp only [putUpon] at hu <;> simp only [Oper.upon, hd, Act.put]
      case value u => obtain ⟨o', h1, h2⟩ := hu; exact hN _ _ _ (hK _ _ h1 h2)
      case skip => obtain ⟨o', h1, h2⟩ := hu; exact hN _ _ _ (hK _ _ h1 h2)
    | halt x w' => simp only [putUpon] at hu
end

section
variable {P : Program} {ops : Array Oper} {K : Obj → Bool} {T : List Nat} {E : Nat → Nat → Bool} {w0 : World} {a0 : Act} {md : Region.Mode} {G : List Ent} {listed : Array Bool} {f : Tmp → Value} {a : Act} {w : World}

theorem ready_nil (hf : Region.tyB md ops a0.tmps.size = true) (hs : listed.size = ops.size) (h : Region.ready md ops listed = []) : ∀ i, i < ops.size → lst listed i := by
  intro i
  induction i using Nat.strongRecOn with
  | ind i ih =>
    intro hi
    apply Classical.byContradiction
    intro hn
    have : i ∈ Region.ready md ops listed := by
      rw [mem_ready]
      refine ⟨by unfold lst at hn; simpa using hn, ops[i], Array.getElem?_eq_getElem hi, fun e he hb => ?_⟩
      have hlt := (tyB_spec hf (Array.getElem?_eq_getElem hi)).1 e he hb
      have := ih e.on hlt (by omega)
      unfold lst at this
      rw [Array.getD_eq_getD_getElem?, Array.getElem?_eq_getElem (by omega)] at this ⊢
      exact this
    rw [h] at this
    cases this

/-- How many have not come up yet. -/
def left (listed : Array Bool) : Nat := (listed.toList.filter (!·)).length
theorem left_set {i : Nat} (h : ¬ lst listed i) : left listed = left (listed.setIfInBounds i true) + 1 := by
  unfold lst at h
  have hi : i < listed.size := by
    rcases Nat.lt_or_ge i listed.size with h' | h'
    · exact h'
    · exact absurd (by rw [Array.getD_eq_getD_getElem?, Array.getElem?_eq_none h']; rfl) h
  have hv : listed[i] = false := by
    rw [Array.getD_eq_getD_getElem?, Array.getElem?_eq_getElem hi] at h
    simpa using h
  unfold left
  have key : ∀ (l : List Bool) (i : Nat) (h : i < l.length), l[i] = false → (l.filter (!·)).length = ((l.set i true).filter (!·)).length + 1 := by
    intro l
    induction l with
    | nil => intro i h; simp at h
    | cons b l ih =>
      intro i h hb
      match i with
      | 0 => simp only [List.getElem_cons_zero] at hb; subst hb; simp
      | i + 1 =>
        have := ih i (by simpa using h) (by simpa using hb)
        rw [List.set_cons_succ]
        cases b <;> simp <;> omega
  have := key listed.toList i (by rw [Array.length_toList]; exact hi) (by rw [Array.getElem_toList]; exact hv)
  rw [Array.toList_setIfInBounds]
  exact this
theorem left_zero (h : left listed = 0) : ∀ i, lst listed i := by
  intro i
  unfold lst
  rw [Array.getD_eq_getD_getElem?]
  cases hv : listed[i]? with
  | none => rfl
  | some b =>
    cases b with
    | true => rfl
    | false =>
      unfold left at h
      have := List.length_eq_zero_iff.1 h
      rw [List.filter_eq_nil_iff] at this
      have hm : false ∈ listed.toList := by
        rw [Array.mem_toList_iff]
        exact Array.mem_of_getElem? hv
      exact absurd rfl (this false hm)

theorem any_of_inv {Q : Exit → Act → World → Prop} (W : Walked P ops K T E w0 a0 md G) (hQ : ∀ listed f a w, (∀ i, i < ops.size → lst listed i) → Inv ops K T w0 a0 md G listed f a w → Q .normal a w) :
    ∀ (n : Nat) (listed : Array Bool) (f : Tmp → Value) (a : Act) (w : World), left listed = n → Inv ops K T w0 a0 md G listed f a w → wpAny P md ops Q n listed a w
  | 0, listed, f, a, w, hn, I => by
    have hall := left_zero hn
    refine ⟨?_, hQ _ _ _ _ (fun i _ => hall i) I⟩
    apply List.eq_nil_iff_forall_not_mem.2
    intro i hi
    have := (mem_ready.1 hi).1
    have h2 := hall i
    unfold lst at h2
    rw [h2] at this
    cases this
  | n + 1, listed, f, a, w, hn, I =>
    ⟨fun h => hQ _ _ _ _ (ready_nil W.form I.lsize h) I, fun i hi => by
      refine I.step W hi (fun f' a' w' I' => any_of_inv W hQ n _ f' a' w' ?_ I')
      have := left_set (listed := listed) (i := i) (fun h => by
        have h1 := (mem_ready.1 hi).1
        unfold lst at h
        rw [h] at h1
        cases h1)
      omega⟩

theorem frameOf_size (g : List Ent) : (frameOf a0 g f).tmps.size = a0.tmps.size := by
  induction g with
  | nil => rfl
  | cons e g ih => simp only [frameOf]; split <;> simp [Act.put_size, ih]
theorem frameOf_defers (g : List Ent) : (frameOf a0 g f).defers = a0.defers := by
  induction g with
  | nil => rfl
  | cons e g ih => simp only [frameOf]; split <;> simp [Act.put_defers, ih]
theorem frameOf_hit {g : List Ent} {t : Tmp} (h : ∃ e ∈ g, e.dst = some t) (ht : t < a0.tmps.size) : (frameOf a0 g f).eval (.tmp t) = f t := by
  induction g with
  | nil => obtain ⟨_, h, _⟩ := h; cases h
  | cons e g ih =>
    simp only [frameOf]
    by_cases hd : e.dst = some t
    · rw [hd]
      exact Act.eval_put_hit (by rw [frameOf_size]; exact ht)
    · have hg : ∃ e ∈ g, e.dst = some t := by
        obtain ⟨e', he', hd'⟩ := h
        rcases List.mem_cons.1 he' with rfl | he'
        · exact absurd hd' hd
        · exact ⟨e', he', hd'⟩
      split
      · rename_i d he
        rw [Act.eval_put_miss (by rw [← he]; exact hd)]
        exact ih hg
      · exact ih hg
theorem frameOf_miss {g : List Ent} {t : Tmp} (h : ∀ e ∈ g, e.dst ≠ some t) : (frameOf a0 g f).eval (.tmp t) = a0.eval (.tmp t) := by
  induction g with
  | nil => rfl
  | cons e g ih =>
    simp only [frameOf]
    have hg := ih (fun e' he' => h e' (by simp [he']))
    split
    · rename_i d he
      rw [Act.eval_put_miss (by rw [← he]; exact h e (by simp))]
      exact hg
    · exact hg

theorem Act.ext_eval {a b : Act} (hs : a.tmps.size = b.tmps.size) (hd : a.defers = b.defers) (h : ∀ t, t < a.tmps.size → a.eval (.tmp t) = b.eval (.tmp t)) : a = b := by
  obtain ⟨x, y⟩ := a
  obtain ⟨x', y'⟩ := b
  simp only at hs hd
  subst hd
  congr 1
  apply Array.ext hs
  intro i h1 h2
  have := h i h1
  simp only [Act.eval, Array.getD_eq_getD_getElem?, Array.getElem?_eq_getElem h1, Array.getElem?_eq_getElem h2, Option.getD_some] at this
  exact this

/-- The walk's obligations, of each operation. -/
theorem walked_of {Q : Act → World → Prop} : ∀ (rest : List Oper) (g : List Ent), wpTy P ops K T E w0 a0 Q rest g → ∃ H : List Ent, H.length = rest.length ∧
    (∀ (i : Nat) (o : Oper), rest[i]? = some o → ∃ k, H[i]? = some ⟨o.dst, k⟩ ∧ Oblig P ops K T E w0 a0 ((H.take i).reverse ++ g) o k) ∧ wpTy P ops K T E w0 a0 Q [] (H.reverse ++ g)
  | [], g, h => ⟨[], rfl, fun i o h' => by simp at h', by simpa using h⟩
  | o :: rest, g, h => by
    obtain ⟨k, hk, hr⟩ := h
    obtain ⟨H, h1, h2, h3⟩ := walked_of rest _ hr
    refine ⟨⟨o.dst, k⟩ :: H, by simp [h1], fun i o' h' => ?_, by simpa using h3⟩
    match i with
    | 0 =>
      simp only [List.getElem?_cons_zero, Option.some.injEq] at h'
      subst h'
      exact ⟨k, rfl, by simpa using hk⟩
    | i + 1 =>
      obtain ⟨k', e1, e2⟩ := h2 i o' (by simpa using h')
      exact ⟨k', by simpa using e1, by simpa using e2⟩

/-- **One walk in the order of the text serves every order.** -/
theorem wp_region_ty {id : Nat} {Q : Exit → Act → World → Prop} {l : List Oper} (K : Obj → Bool) (T : List Nat) (E : Nat → Nat → Bool) (hT : T.Nodup) (hlt : ∀ b ∈ T, b < w0.heap.size) (hm : P.follows .mixedOrders = true) (hf : Region.tyB .any l.toArray a0.tmps.size = true)
    (h : wpTy P l.toArray K T E w0 a0 (fun a w => Q .normal a w) l []) : (Code.region id l.toArray true).wp P Q a0 w0 := by
  obtain ⟨H, h1, h2, h3⟩ := walked_of l [] h
  simp only [List.append_nil] at h2 h3
  obtain ⟨honce, hearly, hfin⟩ := h3
  rw [List.reverse_reverse] at hearly
  have honce' : onceB H = true := by
    simp only [onceB, Bool.and_eq_true, decide_eq_true_eq, List.filterMap_reverse] at honce ⊢
    exact ⟨(List.reverse_perm _).nodup_iff.1 honce.1, (List.reverse_perm _).nodup_iff.1 honce.2⟩
  have W : Walked P l.toArray K T E w0 a0 .any H := ⟨by simpa using h1, fun i o ho => h2 i o (by simpa using ho), hf, honce', hearly, hT, hlt⟩
  refine wp_region_any hm ?_
  have hlst : ∀ i, i < l.toArray.size → ¬ lst (Array.replicate l.toArray.size false) i := fun i hi h => by
    unfold lst at h
    rw [Array.getD_eq_getD_getElem?, Array.getElem?_replicate, if_pos hi] at h
    cases h
  have hop : ∀ {i : Nat} {o : Oper}, l.toArray[i]? = some o → i < l.toArray.size := fun h => by
    rcases Nat.lt_or_ge _ l.toArray.size with h' | h'
    · exact h'
    · rw [Array.getElem?_eq_none h'] at h; cases h
  have hent : ∀ {i : Nat} {e : Ent}, H[i]? = some e → i < l.toArray.size := fun h => by
    obtain ⟨hlt, _⟩ := List.getElem?_eq_some_iff.1 h
    rw [← W.len]; exact hlt
  refine any_of_inv W (fun listed f a w hall I => ?_) _ _ (fun _ => undef) _ _ (by simp [left]) ?_
  · have hmem : ∀ {e : Ent}, e ∈ H.reverse → ∃ i, H[i]? = some e ∧ lst listed i := fun he => by
      obtain ⟨i, hi⟩ := List.getElem?_of_mem (List.mem_reverse.1 he)
      exact ⟨i, hi, hall i (hent hi)⟩
    have hfr : a = frameOf a0 H.reverse f := by
      refine Act.ext_eval (by rw [frameOf_size]; exact I.tsize) (by rw [frameOf_defers]; exact I.defers) (fun t ht => ?_)
      by_cases hd : ∃ e ∈ H.reverse, e.dst = some t
      · rw [frameOf_hit hd (by rw [← I.tsize]; exact ht)]
        obtain ⟨e, he, hde⟩ := hd
        obtain ⟨i, hi, hl⟩ := hmem he
        obtain ⟨o, ho, hd', _⟩ := W.ent hi
        exact I.hit i o t ho hl (by rw [← hd']; exact hde)
      · rw [frameOf_miss (fun e he hde => hd ⟨e, he, hde⟩)]
        refine I.miss t (fun i o ho hdo => hd ?_)
        obtain ⟨k, hk, _⟩ := W.each i o ho
        exact ⟨_, List.mem_reverse.2 (List.mem_of_getElem? hk), hdo⟩
    rw [hfr]
    refine hfin f w I.base I.ext (fun e he => ?_) (fun k b hk hn => I.still k b hk (fun j S hj _ => hn S (List.mem_reverse.2 (List.mem_of_getElem? hj)))) (fun d d' o o' hd hd' hne => ?_)
    · obtain ⟨i, hi, hl⟩ := hmem he
      obtain ⟨dst, kd⟩ := e
      unfold Final1
      match dst, kd, hi with
      | some d, .val S, hi => exact I.vals i d S hi hl
      | some d, .new o0, hi =>
        obtain ⟨b, e1, e2, e3, e4, e5⟩ := I.news i d o0 hi hl
        refine ⟨b, e1, e2, e3, fun hn => e4 (fun j S hj _ => hn S (List.mem_reverse.2 (List.mem_of_getElem? hj))), fun S hS => ?_⟩
        obtain ⟨j, hj, hlj⟩ := hmem hS
        exact e5 j S hj hlj
      | none, .old k S, hi =>
        obtain ⟨_, _, _, hob⟩ := W.ent hi
        obtain ⟨_, _, _, b, o0, hb, _⟩ := hob
        obtain ⟨o, h1, h2⟩ := I.olds i k b S hi hb hl
        exact ⟨b, o, hb, h1, h2⟩
      | some d, .old b S, hi =>
        obtain ⟨o, _, hd, hob⟩ := W.ent hi
        have := hob.1
        rw [← hd] at this
        cases this
      | none, .val S, _ => trivial
      | none, .new o0, _ => trivial
      | none, .put d S, _ => trivial
      | some d', .put d S, _ => trivial
    · obtain ⟨i, hi, hl⟩ := hmem hd
      obtain ⟨i', hi', hl'⟩ := hmem hd'
      exact I.apart i i' d d' o o' hi hi' hl hl' hne
  · refine ⟨by simp, rfl, rfl, fun i o d ho hl _ => absurd hl (hlst i (hop ho)), fun _ _ => rfl, fun i o ho hl => absurd hl (hlst i (hop ho)), ⟨rfl, rfl, rfl, Nat.le_refl _, fun _ _ _ => rfl⟩, ⟨Nat.le_refl _, fun _ _ h _ => h⟩,
      fun i d S hi hl => absurd hl (hlst i (hent hi)), fun i d o hi hl => absurd hl (hlst i (hent hi)), fun i k b S hi _ hl => absurd hl (hlst i (hent hi)), fun _ _ _ _ => rfl,
      fun i i' d d' o o' hi _ hl => absurd hl (hlst i (hent hi))⟩

end
end Go.Proofs.YtgkpejlddgoalaaGreatDoor.Ab
