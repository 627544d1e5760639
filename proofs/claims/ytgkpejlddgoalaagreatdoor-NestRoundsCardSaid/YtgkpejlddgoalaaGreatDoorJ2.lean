/- Parts of the proof, joined. -/
import Derived.Test.YtgkpejlddgoalaaGreatDoorJ0
import Derived.Test.YtgkpejlddgoalaaGreatDoorJ1
import Derived.Deep.MidRow
set_option linter.unusedSimpArgs false
set_option linter.unusedVariables false
set_option linter.constructorNameAsVariable false
namespace Go.Proofs.YtgkpejlddgoalaaGreatDoor.Ab
open Go.RowKit

/-- Blocks that a walk keeps: those with cells of some kinds, and those of some types. -/
def hotT (Kc : Value → Bool) (Ty : List TypeId) : Obj → Bool
  | .cells cs T _ => cs.any Kc || Ty.contains T
  | _ => true
theorem Ext.down {Kc : Value → Bool} {Ty : List TypeId} {w w' : World} (h : Ext (hotT Kc Ty) w w') : Go.Proofs.YtgkpejlddgoalaaGreatDoor.Ext Kc w w' := by
  refine ⟨h.size, fun g o hg ho => h.block g o hg ?_⟩
  cases o <;> simp_all [Go.Proofs.YtgkpejlddgoalaaGreatDoor.hotObj, hotObj, hotT]

/-- What is known of some cells: a predicate that lasts. -/
structure CS (Kc : Value → Bool) where
  size : Nat
  cold : Bool
  pred : List Value → World → Prop
  stable : ∀ cs w w', pred cs w → Go.Proofs.YtgkpejlddgoalaaGreatDoor.Ext Kc w w' → pred cs w'
  len : ∀ cs w, pred cs w → cs.length = size
  one : ∀ cs w, pred cs w → ∀ c ∈ cs, c.oneCell' = true
  iscold : cold = true → ∀ cs w, pred cs w → ∀ c ∈ cs, Kc c = false

variable {Kc : Value → Bool}

inductive Seg (Kc : Value → Bool) where
  | lit (v : Value)
  | ptr (k off : Nat)
  | slc (k off n c : Nat)
  | sp (s : CS Kc)
def Seg.size : Seg Kc → Nat
  | .sp s => s.size
  | _ => 1
def Seg.cold : Seg Kc → Bool
  | .lit v => !Kc v
  | .sp s => s.cold
  | _ => true
def Seg.holds (β : List Nat) : Seg Kc → List Value → World → Prop
  | .lit v, cs, _ => cs = [v] ∧ v.oneCell' = true
  | .ptr k off, cs, _ => ∃ g, β[k]? = some g ∧ cs = [.pointer (some ⟨g, off, none⟩)]
  | .slc k off n c, cs, _ => ∃ g, β[k]? = some g ∧ cs = [.slice (some ⟨g, off, none⟩) n c]
  | .sp s, cs, w => s.pred cs w
def holdsL (β : List Nat) : List (Seg Kc) → List Value → World → Prop
  | [], cs, _ => cs = []
  | s :: l, cs, w => ∃ a b, cs = a ++ b ∧ s.holds β a w ∧ holdsL β l b w
def sizeL : List (Seg Kc) → Nat
  | [] => 0
  | s :: l => s.size + sizeL l

/-- The kinds that are never hot. -/
structure KOk (Kc : Value → Bool) : Prop where
  ptr : ∀ a, Kc (.pointer a) = false
  slc : ∀ a n c, Kc (.slice a n c) = false

theorem Seg.len {β : List Nat} {s : Seg Kc} {cs : List Value} {w : World} (h : s.holds β cs w) : cs.length = s.size := by
  cases s with
  | lit v => rw [h.1]; rfl
  | ptr k off => obtain ⟨g, _, e⟩ := h; rw [e]; rfl
  | slc k off n c => obtain ⟨g, _, e⟩ := h; rw [e]; rfl
  | sp s => exact s.len _ _ h
theorem Seg.one {β : List Nat} {s : Seg Kc} {cs : List Value} {w : World} (h : s.holds β cs w) : ∀ c ∈ cs, c.oneCell' = true := by
  cases s with
  | lit v => obtain ⟨rfl, h⟩ := h; intro c hc; rw [List.mem_singleton] at hc; subst hc; exact h
  | ptr k off => obtain ⟨g, _, e⟩ := h; subst e; intro c hc; rw [List.mem_singleton] at hc; subst hc; rfl
  | slc k off n c => obtain ⟨g, _, e⟩ := h; subst e; intro c hc; rw [List.mem_singleton] at hc; subst hc; rfl
  | sp s => exact s.one _ _ h
theorem Seg.iscold (hK : KOk Kc) {β : List Nat} {s : Seg Kc} {cs : List Value} {w : World} (h : s.holds β cs w) (hc : s.cold = true) : ∀ c ∈ cs, Kc c = false := by
  cases s with
  | lit v => obtain ⟨rfl, _⟩ := h; intro c hm; rw [List.mem_singleton] at hm; subst hm; simpa [Seg.cold] using hc
  | ptr k off => obtain ⟨g, _, e⟩ := h; subst e; intro c hm; rw [List.mem_singleton] at hm; subst hm; exact hK.ptr _
  | slc k off n c => obtain ⟨g, _, e⟩ := h; subst e; intro c hm; rw [List.mem_singleton] at hm; subst hm; exact hK.slc _ _ _
  | sp s => exact s.iscold hc _ _ h
theorem Seg.ext {β : List Nat} {s : Seg Kc} {cs : List Value} {w w' : World} (h : s.holds β cs w) (hx : Go.Proofs.YtgkpejlddgoalaaGreatDoor.Ext Kc w w') : s.holds β cs w' := by
  cases s with
  | sp s => exact s.stable _ _ _ h hx
  | _ => exact h
theorem Seg.more {β γ : List Nat} {s : Seg Kc} {cs : List Value} {w : World} (h : s.holds β cs w) : s.holds (β ++ γ) cs w := by
  have key : ∀ {k g : Nat}, β[k]? = some g → (β ++ γ)[k]? = some g := fun h => by
    rw [List.getElem?_append_left (List.getElem?_eq_some_iff.1 h).1]; exact h
  cases s with
  | lit v => exact h
  | ptr k off => obtain ⟨g, h1, e⟩ := h; exact ⟨g, key h1, e⟩
  | slc k off n c => obtain ⟨g, h1, e⟩ := h; exact ⟨g, key h1, e⟩
  | sp s => exact h
theorem holdsL.len {β : List Nat} : ∀ {l : List (Seg Kc)} {cs : List Value} {w : World}, holdsL β l cs w → cs.length = sizeL l
  | [], _, _, h => by rw [h]; rfl
  | s :: l, _, _, ⟨a, b, e, h1, h2⟩ => by rw [e, List.length_append, Seg.len h1, holdsL.len h2]; rfl
theorem holdsL.one {β : List Nat} : ∀ {l : List (Seg Kc)} {cs : List Value} {w : World}, holdsL β l cs w → ∀ c ∈ cs, c.oneCell' = true
  | [], _, _, h => by rw [h]; intro c hc; cases hc
  | s :: l, _, _, ⟨a, b, e, h1, h2⟩ => by
    subst e
    intro c hc
    rcases List.mem_append.1 hc with hc | hc
    · exact Seg.one h1 c hc
    · exact holdsL.one h2 c hc
theorem holdsL.iscold (hK : KOk Kc) {β : List Nat} : ∀ {l : List (Seg Kc)} {cs : List Value} {w : World}, holdsL β l cs w → l.all Seg.cold = true → ∀ c ∈ cs, Kc c = false
  | [], _, _, h, _ => by rw [h]; intro c hc; cases hc
  | s :: l, _, _, ⟨a, b, e, h1, h2⟩, hc => by
    subst e
    rw [List.all_cons, Bool.and_eq_true] at hc
    intro c hm
    rcases List.mem_append.1 hm with hm | hm
    · exact Seg.iscold hK h1 hc.1 c hm
    · exact holdsL.iscold hK h2 hc.2 c hm
theorem holdsL.ext {β : List Nat} : ∀ {l : List (Seg Kc)} {cs : List Value} {w w' : World}, holdsL β l cs w → Go.Proofs.YtgkpejlddgoalaaGreatDoor.Ext Kc w w' → holdsL β l cs w'
  | [], _, _, _, h, _ => h
  | _ :: _, _, _, _, ⟨a, b, e, h1, h2⟩, hx => ⟨a, b, e, Seg.ext h1 hx, holdsL.ext h2 hx⟩
theorem holdsL.more {β γ : List Nat} : ∀ {l : List (Seg Kc)} {cs : List Value} {w : World}, holdsL β l cs w → holdsL (β ++ γ) l cs w
  | [], _, _, h => h
  | _ :: _, _, _, ⟨a, b, e, h1, h2⟩ => ⟨a, b, e, Seg.more h1, holdsL.more h2⟩
theorem holdsL.append {β : List Nat} : ∀ {l l' : List (Seg Kc)} {cs cs' : List Value} {w : World}, holdsL β l cs w → holdsL β l' cs' w → holdsL β (l ++ l') (cs ++ cs') w
  | [], _, _, _, _, h, h' => by rw [h]; exact h'
  | _ :: _, _, _, cs', _, ⟨a, b, e, h1, h2⟩, h' => ⟨a, b ++ cs', by rw [e, List.append_assoc], h1, holdsL.append h2 h'⟩
theorem holdsL.single {β : List Nat} {s : Seg Kc} {c : Value} {w : World} (h : s.holds β [c] w) : holdsL β [s] [c] w := ⟨[c], [], rfl, h, rfl⟩
theorem holdsL.lits {β : List Nat} {w : World} : ∀ {cs : List Value}, cs.all (·.oneCell') = true → holdsL β (cs.map (Seg.lit (Kc := Kc))) cs w
  | [], _ => rfl
  | c :: cs, h => by
    rw [List.all_cons, Bool.and_eq_true] at h
    exact ⟨[c], cs, rfl, ⟨rfl, h.1⟩, holdsL.lits h.2⟩

/-- A piece of a row of segments. -/
def cut : List (Seg Kc) → Nat → Nat → Option (List (Seg Kc))
  | _, 0, 0 => some []
  | [], _, _ => none
  | s :: l, 0, n + 1 => if s.size ≤ n + 1 then (cut l 0 (n + 1 - s.size)).map (s :: ·) else none
  | s :: l, off + 1, n => if s.size ≤ off + 1 then cut l (off + 1 - s.size) n else none
theorem cut_holds {β : List Nat} : ∀ {l : List (Seg Kc)} {off n : Nat} {l' : List (Seg Kc)} {cs : List Value} {w : World}, cut l off n = some l' → holdsL β l cs w →
    holdsL β l' ((cs.drop off).take n) w ∧ off + n ≤ cs.length
  | l, 0, 0, l', cs, w, hc, h => by
    have : l' = [] := by cases l <;> simp [cut] at hc <;> exact hc
    subst this
    exact ⟨by simp [holdsL], by omega⟩
  | [], 0, n + 1, _, _, _, hc, _ => by simp [cut] at hc
  | [], off + 1, n, _, _, _, hc, _ => by simp [cut] at hc
  | s :: l, 0, n + 1, l', cs, w, hc, ⟨a, b, e, h1, h2⟩ => by
    simp only [cut] at hc
    split at hc
    · rename_i hle
      rw [Option.map_eq_some_iff] at hc
      obtain ⟨l2, hc, rfl⟩ := hc
      obtain ⟨h3, h4⟩ := cut_holds hc h2
      have hl := Seg.len h1
      subst e
      simp only [List.drop_zero, List.length_append] at *
      refine ⟨⟨a, b.take (n + 1 - s.size), ?_, h1, h3⟩, by omega⟩
      rw [List.take_append, hl, List.take_of_length_le (by omega)]
    · cases hc
  | s :: l, off + 1, n, l', cs, w, hc, ⟨a, b, e, h1, h2⟩ => by
    simp only [cut] at hc
    split at hc
    · rename_i hle
      obtain ⟨h3, h4⟩ := cut_holds hc h2
      have hl := Seg.len h1
      subst e
      simp only [List.length_append] at *
      refine ⟨?_, by omega⟩
      rw [List.drop_append, hl, List.drop_of_length_le (by omega), List.nil_append]
      exact h3
    · cases hc
/-- A row of segments with a piece put in its place. -/
def repl (l : List (Seg Kc)) (off : Nat) (m : List (Seg Kc)) : Option (List (Seg Kc)) :=
  match cut l 0 off, cut l (off + sizeL m) (sizeL l - (off + sizeL m)) with
  | some a, some b => if off + sizeL m ≤ sizeL l then some (a ++ m ++ b) else none
  | _, _ => none
theorem repl_holds {β : List Nat} {l m l' : List (Seg Kc)} {off : Nat} {cs ds : List Value} {w : World} (hr : repl l off m = some l') (h : holdsL β l cs w) (h' : holdsL β m ds w) :
    holdsL β l' (cs.take off ++ ds ++ cs.drop (off + ds.length)) w ∧ off + ds.length ≤ cs.length := by
  unfold repl at hr
  split at hr
  · rename_i a b ha hb
    split at hr
    · rename_i hle
      injection hr with hr
      subst hr
      have h1 := (cut_holds ha h).1
      have h2 := (cut_holds hb h).1
      have hl := holdsL.len h
      have hm := holdsL.len h'
      rw [List.drop_zero] at h1
      rw [← hm, ← hl] at h2
      rw [List.take_of_length_le (by rw [List.length_drop]; omega)] at h2
      exact ⟨holdsL.append (holdsL.append h1 h') h2, by omega⟩
    · cases hr
  · cases hr

/-- A value: of one cell, of several ones, or a slice of a block of its own. -/
inductive FV (Kc : Value → Bool) where
  | clo (F : FuncId) (first cap : List (Bool × List (Seg Kc)))
  | sc (s : Seg Kc)
  | ag (l : List (Seg Kc))
  | nsl (n : Nat) (T : TypeId) (l : List (Seg Kc))
  | un
/-- What a function value bears along: one cell, or several ones. -/
def caHolds (β : List Nat) : Bool × List (Seg Kc) → Value → World → Prop
  | (true, l), v, w => ∃ cs, v = .agg cs.toArray ∧ holdsL β l cs w
  | (false, l), v, w => holdsL β l [v] w
def holdsC (β : List Nat) : List (Bool × List (Seg Kc)) → List Value → World → Prop
  | [], vs, _ => vs = []
  | c :: l, vs, w => ∃ v r, vs = v :: r ∧ caHolds β c v w ∧ holdsC β l r w
theorem caHolds.ext {β : List Nat} {c : Bool × List (Seg Kc)} {v : Value} {w w' : World} (h : caHolds β c v w) (hx : Go.Proofs.YtgkpejlddgoalaaGreatDoor.Ext Kc w w') : caHolds β c v w' := by
  obtain ⟨b, l⟩ := c
  cases b with
  | true => obtain ⟨cs, e, h⟩ := h; exact ⟨cs, e, h.ext hx⟩
  | false => exact holdsL.ext h hx
theorem caHolds.more {β γ : List Nat} {c : Bool × List (Seg Kc)} {v : Value} {w : World} (h : caHolds β c v w) : caHolds (β ++ γ) c v w := by
  obtain ⟨b, l⟩ := c
  cases b with
  | true => obtain ⟨cs, e, h⟩ := h; exact ⟨cs, e, h.more⟩
  | false => exact holdsL.more h
theorem holdsC.ext {β : List Nat} : ∀ {l : List (Bool × List (Seg Kc))} {vs : List Value} {w w' : World}, holdsC β l vs w → Go.Proofs.YtgkpejlddgoalaaGreatDoor.Ext Kc w w' → holdsC β l vs w'
  | [], _, _, _, h, _ => h
  | _ :: _, _, _, _, ⟨v, r, e, h1, h2⟩, hx => ⟨v, r, e, caHolds.ext h1 hx, holdsC.ext h2 hx⟩
theorem holdsC.more {β γ : List Nat} : ∀ {l : List (Bool × List (Seg Kc))} {vs : List Value} {w : World}, holdsC β l vs w → holdsC (β ++ γ) l vs w
  | [], _, _, h => h
  | _ :: _, _, _, ⟨v, r, e, h1, h2⟩ => ⟨v, r, e, caHolds.more h1, holdsC.more h2⟩
def FV.holds (β : List Nat) : FV Kc → Value → World → Prop
  | .clo F a b, v, w => ∃ xs ys : List Value, v = .func (.func F) xs.toArray ys.toArray ∧ holdsC β a xs w ∧ holdsC β b ys w
  | .sc s, v, w => s.holds β [v] w
  | .ag l, v, w => ∃ cs, v = .agg cs.toArray ∧ holdsL β l cs w
  | .nsl n T l, v, w => ∃ g cs, v = .slice (some ⟨g, 0, none⟩) n n ∧ w.heap[g]? = some (.cells cs.toArray T (0, 0)) ∧ holdsL β l cs w
  | .un, _, _ => True
def FV.okT (Ty : List TypeId) : FV Kc → Bool
  | .nsl _ T _ => Ty.contains T
  | _ => true
inductive AV (Kc : Value → Bool) where
  | fv (f : FV Kc)
  | tup (l : List (FV Kc))
def holdsF (β : List Nat) : List (FV Kc) → List Value → World → Prop
  | [], vs, _ => vs = []
  | f :: l, vs, w => ∃ v r, vs = v :: r ∧ f.holds β v w ∧ holdsF β l r w
def AV.holds (β : List Nat) : AV Kc → Value → World → Prop
  | .fv f, v, w => f.holds β v w
  | .tup l, v, w => ∃ vs, v = .tuple vs.toArray ∧ holdsF β l vs w
def AV.okT (Ty : List TypeId) : AV Kc → Bool
  | .fv f => f.okT Ty
  | .tup l => l.all (FV.okT Ty)
abbrev AV.un : AV Kc := .fv .un
theorem FV.ext {Ty : List TypeId} {β : List Nat} {f : FV Kc} {v : Value} {w w' : World} (h : f.holds β v w) (hx : Ext (hotT Kc Ty) w w') (ht : f.okT Ty = true) : f.holds β v w' := by
  cases f with
  | clo F a b => obtain ⟨xs, ys, e, h1, h2⟩ := h; exact ⟨xs, ys, e, h1.ext hx.down, h2.ext hx.down⟩
  | sc s => exact Seg.ext h hx.down
  | ag l => obtain ⟨cs, e, h⟩ := h; exact ⟨cs, e, h.ext hx.down⟩
  | nsl n T l => obtain ⟨g, cs, e, hg, h⟩ := h; exact ⟨g, cs, e, hx.block g _ hg (by simp [hotObj, hotT]; exact .inr (by simpa [FV.okT] using ht)), h.ext hx.down⟩
  | un => trivial
theorem FV.below {β : List Nat} {f : FV Kc} {v : Value} {w w' : World} (h : f.holds β v w) (hb : Below w.heap.size w w') : f.holds β v w' := by
  cases f with
  | clo F a b => obtain ⟨xs, ys, e, h1, h2⟩ := h; exact ⟨xs, ys, e, h1.ext (Go.Proofs.YtgkpejlddgoalaaGreatDoor.Ext.of_below hb), h2.ext (Go.Proofs.YtgkpejlddgoalaaGreatDoor.Ext.of_below hb)⟩
  | sc s => exact Seg.ext h (Go.Proofs.YtgkpejlddgoalaaGreatDoor.Ext.of_below hb)
  | ag l => obtain ⟨cs, e, h⟩ := h; exact ⟨cs, e, h.ext (Go.Proofs.YtgkpejlddgoalaaGreatDoor.Ext.of_below hb)⟩
  | nsl n T l => obtain ⟨g, cs, e, hg, h⟩ := h; exact ⟨g, cs, e, (hb.block g (lt_of_block hg)).trans hg, h.ext (Go.Proofs.YtgkpejlddgoalaaGreatDoor.Ext.of_below hb)⟩
  | un => trivial
theorem FV.more {β γ : List Nat} {f : FV Kc} {v : Value} {w : World} (h : f.holds β v w) : f.holds (β ++ γ) v w := by
  cases f with
  | clo F a b => obtain ⟨xs, ys, e, h1, h2⟩ := h; exact ⟨xs, ys, e, h1.more, h2.more⟩
  | sc s => exact Seg.more h
  | ag l => obtain ⟨cs, e, h⟩ := h; exact ⟨cs, e, h.more⟩
  | nsl n T l => obtain ⟨g, cs, e, hg, h⟩ := h; exact ⟨g, cs, e, hg, h.more⟩
  | un => trivial
theorem holdsF.ext {Ty : List TypeId} {β : List Nat} : ∀ {l : List (FV Kc)} {vs : List Value} {w w' : World}, holdsF β l vs w → Ext (hotT Kc Ty) w w' → l.all (FV.okT Ty) = true → holdsF β l vs w'
  | [], _, _, _, h, _, _ => h
  | _ :: _, _, _, _, ⟨v, r, e, h1, h2⟩, hx, ht => by
    rw [List.all_cons, Bool.and_eq_true] at ht
    exact ⟨v, r, e, FV.ext h1 hx ht.1, holdsF.ext h2 hx ht.2⟩
theorem holdsF.below {β : List Nat} : ∀ {l : List (FV Kc)} {vs : List Value} {w w' : World}, holdsF β l vs w → Below w.heap.size w w' → holdsF β l vs w'
  | [], _, _, _, h, _ => h
  | _ :: _, _, _, _, ⟨v, r, e, h1, h2⟩, hb => ⟨v, r, e, FV.below h1 hb, holdsF.below h2 hb⟩
theorem holdsF.more {β γ : List Nat} : ∀ {l : List (FV Kc)} {vs : List Value} {w : World}, holdsF β l vs w → holdsF (β ++ γ) l vs w
  | [], _, _, h => h
  | _ :: _, _, _, ⟨v, r, e, h1, h2⟩ => ⟨v, r, e, FV.more h1, holdsF.more h2⟩
theorem holdsF.get {β : List Nat} : ∀ {l : List (FV Kc)} {vs : List Value} {w : World} {i : Nat} {f : FV Kc}, holdsF β l vs w → l[i]? = some f → ∃ v, vs[i]? = some v ∧ f.holds β v w
  | [], _, _, _, _, _, hi => by simp at hi
  | _ :: _, _, _, 0, _, ⟨v, r, e, h1, h2⟩, hi => by
    simp only [List.getElem?_cons_zero, Option.some.injEq] at hi
    subst hi
    exact ⟨v, by rw [e]; rfl, h1⟩
  | _ :: _, _, _, i + 1, _, ⟨v, r, e, h1, h2⟩, hi => by
    obtain ⟨v', h3, h4⟩ := holdsF.get h2 (by simpa using hi)
    exact ⟨v', by rw [e]; simpa using h3, h4⟩
theorem AV.ext {Ty : List TypeId} {β : List Nat} {x : AV Kc} {v : Value} {w w' : World} (h : x.holds β v w) (hx : Ext (hotT Kc Ty) w w') (ht : x.okT Ty = true) : x.holds β v w' := by
  cases x with
  | fv f => exact FV.ext h hx ht
  | tup l => obtain ⟨vs, e, h⟩ := h; exact ⟨vs, e, h.ext hx ht⟩
theorem AV.below {β : List Nat} {x : AV Kc} {v : Value} {w w' : World} (h : x.holds β v w) (hb : Below w.heap.size w w') : x.holds β v w' := by
  cases x with
  | fv f => exact FV.below h hb
  | tup l => obtain ⟨vs, e, h⟩ := h; exact ⟨vs, e, h.below hb⟩
theorem AV.more {β γ : List Nat} {x : AV Kc} {v : Value} {w : World} (h : x.holds β v w) : x.holds (β ++ γ) v w := by
  cases x with
  | fv f => exact FV.more h
  | tup l => obtain ⟨vs, e, h⟩ := h; exact ⟨vs, e, h.more⟩
/-- Arguments. -/
def holdsA (β : List Nat) : List (AV Kc) → List Value → World → Prop
  | [], vs, _ => vs = []
  | x :: l, vs, w => ∃ v r, vs = v :: r ∧ x.holds β v w ∧ holdsA β l r w
end Go.Proofs.YtgkpejlddgoalaaGreatDoor.Ab
namespace Go.Proofs.YtgkpejlddgoalaaGreatDoor.Ab
open Go.RowKit

variable {Kc : Value → Bool}

/-- An action that only looks at the program. -/
def evalP (P : Program) {α : Type} : Sem α → Option α
  | .pure a => some a
  | .program k => evalP P (k P)
  | _ => none
theorem evalP_run {P : Program} {α : Type} : ∀ {s : Sem α} {a : α}, evalP P s = some a → ∀ w, s.run P w = .ok a w
  | .pure _, _, h, w => by injection h with h; subst h; rfl
  | .program k, _, h, w => by
    have : (Sem.program k).run P w = (k P).run P w := rfl
    rw [this]
    exact evalP_run (s := k P) h w
  | .load .., _, h, _ | .store .., _, h, _ | .new .., _, h, _ | .shape .., _, h, _ | .freeze .., _, h, _ | .frozen .., _, h, _ | .getObj .., _, h, _ | .setObj .., _, h, _ | .choose .., _, h, _ | .sys .., _, h, _ | .mark .., _, h, _ | .halt .., _, h, _ => by cases h

/-- What an operation gives. -/
inductive OR (Kc : Value → Bool) where
  | val (x : AV Kc)
  | new (T : TypeId) (l : List (Seg Kc))
  | nsl (n : Nat) (T : TypeId) (l : List (Seg Kc))
  | put (k off : Nat) (l : List (Seg Kc))
  | call (f : FuncId) (args : List (AV Kc))
  | stop

def rowB (P : Program) (t : TypeId) : Option Bool := (P.underlying t).map TypeDesc.isRow
def sizeT (P : Program) (t : TypeId) : Option Nat := (P.info? t).map (·.size)
def litsOf : List (Seg Kc) → Option (List Value)
  | [] => some []
  | .lit v :: l => (litsOf l).map (v :: ·)
  | _ => none
def litOf : AV Kc → Option Value
  | .fv (.sc (.lit v)) => some v
  | .fv (.ag l) => (litsOf l).map fun cs => .agg cs.toArray
  | _ => none
def constA : Value → AV Kc
  | .agg cs => if cs.toList.all (·.oneCell') then .fv (.ag (cs.toList.map .lit)) else .un
  | .tuple _ => .un
  | v => .fv (.sc (.lit v))
theorem litsOf_holds {β : List Nat} {w : World} : ∀ {l : List (Seg Kc)} {vs cs : List Value}, litsOf l = some vs → holdsL β l cs w → cs = vs
  | [], _, _, h, h' => by injection h with h; rw [h', h]
  | .lit v :: l, _, _, h, ⟨a, b, e, h1, h2⟩ => by
    simp only [litsOf, Option.map_eq_some_iff] at h
    obtain ⟨r, hr, rfl⟩ := h
    rw [e, h1.1, litsOf_holds hr h2]; rfl
  | .ptr .. :: _, _, _, h, _ | .slc .. :: _, _, _, h, _ | .sp _ :: _, _, _, h, _ => by cases h
theorem litOf_holds {β : List Nat} {w : World} {x : AV Kc} {u v : Value} (h : litOf x = some u) (hv : x.holds β v w) : v = u := by
  cases x with
  | tup l => cases h
  | fv f =>
    cases f with
    | sc s =>
      cases s with
      | lit c => injection h with h; subst h; have := hv.1; injection this
      | _ => cases h
    | ag l =>
      simp only [litOf, Option.map_eq_some_iff] at h
      obtain ⟨cs, hc, rfl⟩ := h
      obtain ⟨ds, rfl, hd⟩ := hv
      rw [litsOf_holds hc hd]
    | _ => cases h
theorem constA_holds {β : List Nat} {w : World} (v : Value) : (constA v : AV Kc).holds β v w := by
  unfold constA
  split
  · split
    · rename_i h
      exact ⟨_, rfl, holdsL.lits h⟩
    · trivial
  · trivial
  · rename_i h1 h2
    refine ⟨rfl, ?_⟩
    cases v <;> simp_all [Value.oneCell']

/-- A part of an aggregate, as a value of type T. -/
def partA (P : Program) (T : TypeId) (l : List (Seg Kc)) (off : Nat) : OR Kc :=
  match sizeT P T with
  | some n => match cut l off n with
    | some m => match rowB P T, m with
      | some true, m => .val (.fv (.ag m))
      | some false, [s] => if n == 1 then .val (.fv (.sc s)) else .stop
      | _, _ => .stop
    | none => .stop
  | none => .stop
def fillA (place : Nat → Option (Nat × Nat)) : List (Nat × AV Kc) → List (Seg Kc) → Option (List (Seg Kc))
  | [], l => some l
  | (i, x) :: r, l => match place i, x with
    | some (off, n), .fv (.sc s) => if n == 1 && s.size == 1 then (repl l off [s]).bind (fillA place r) else none
    | some (off, n), .fv (.ag m) => if sizeL m == n then (repl l off m).bind (fillA place r) else none
    | _, _ => none
def zerosA (P : Program) (T : TypeId) : Option (List (Seg Kc)) :=
  match (P.info? T).bind (·.zero) with
  | some z => if z.cells.toList.all (·.oneCell') then some (z.cells.toList.map .lit) else none
  | none => none
/-- The cells of elements that are zero. -/
def zerosN (z : Value) (k : Nat) : List Value := (List.range k).map fun i => z.cells[i % z.cells.size]!
/-- The places of the fields. -/
def placesA (P : Program) (fs : Array Field) : Option (List (Nat × Nat)) :=
  fs.toList.mapM fun f => (P.info? f.type).map fun i => (f.offset, i.size)
/-- What a function value bears along, as an argument. -/
def caA : Bool × List (Seg Kc) → AV Kc
  | (true, l) => .fv (.ag l)
  | (false, [s]) => .fv (.sc s)
  | _ => .un
def toCA : List (AV Kc) → Option (List (Bool × List (Seg Kc)))
  | [] => some []
  | .fv (.sc s) :: l => (toCA l).map ((false, [s]) :: ·)
  | .fv (.ag m) :: l => (toCA l).map ((true, m) :: ·)
  | _ => none
def litsA : List (AV Kc) → Option (List Value)
  | [] => some []
  | x :: l => match litOf x, litsA l with | some v, some r => some (v :: r) | _, _ => none
def closedA (P : Program) (s : Sem Value) : OR Kc := match evalP P s with | some v => .val (constA v) | none => .stop

variable (P : Program) (ev : Operand → AV Kc) (bl : List (Option (TypeId × List (Seg Kc))))
def opA (o : Oper) : OR Kc :=
  match o.op with
  | .move x | .assign x => .val (ev x)
  | .pick c a b => match ev c with
    | .fv (.sc (.lit (.bool t))) => .val (if t then ev a else ev b)
    | _ => .stop
  | .alloc T => match zerosA P T with | some l => .new T l | none => .stop
  | .box T x => match ev x with | .fv (.sc s) => .new T [s] | .fv (.ag l) => .new T l | _ => .stop
  | .load T x => match ev x with
    | .fv (.sc (.ptr k off)) => match bl[k]? with | some (some (_, l)) => partA P T l off | _ => .stop
    | _ => .stop
  | .store T x y => match ev x, ev y, sizeT P T with
    | .fv (.sc (.ptr k off)), .fv (.sc s), some n => if n == 1 && s.size == 1 then .put k off [s] else .stop
    | .fv (.sc (.ptr k off)), .fv (.ag m), some n => if sizeL m == n then .put k off m else .stop
    | _, _, _ => .stop
  | .fieldAddr T x i => match ev x, P.underlying T with
    | .fv (.sc (.ptr k off)), some (.struct fs) => match fs[i]? with
      | some f => match sizeT P f.type with | some (_ + 1) => .val (.fv (.sc (.ptr k (off + f.offset)))) | _ => .stop
      | none => .stop
    | _, _ => .stop
  | .field T x i => match ev x, P.underlying T with
    | .fv (.ag l), some (.struct fs) => match fs[i]? with | some f => partA P f.type l f.offset | none => .stop
    | _, _ => .stop
  | .indexAddr T x ix => match ev x, ev ix, P.underlying T with
    | .fv (.sc (.ptr k off)), .fv (.sc (.lit (.int _ i))), some (.array len e) => if 0 ≤ i ∧ i < len then match sizeT P e with | some n => .val (.fv (.sc (.ptr k (off + i.toNat * n)))) | none => .stop else .stop
    | .fv (.sc (.slc k off n _)), .fv (.sc (.lit (.int _ i))), some (.slice e) => if 0 ≤ i ∧ i < n then match sizeT P e with | some m => .val (.fv (.sc (.ptr k (off + i.toNat * m)))) | none => .stop else .stop
    | _, _, _ => .stop
  | .index T x ix => match ev x, ev ix, P.underlying T with
    | .fv (.ag l), .fv (.sc (.lit (.int _ i))), some (.array len e) => if 0 ≤ i ∧ i < len then match sizeT P e with | some n => partA P e l (i.toNat * n) | none => .stop else .stop
    | _, _, _ => .stop
  | .nilCheck x => match ev x with | .fv (.sc (.ptr k off)) => .val (.fv (.sc (.ptr k off))) | _ => .stop
  | .extract x i => match ev x with
    | .tup l => match l[i]? with | some f => .val (.fv f) | none => .stop
    | _ => .stop
  | .build T parts => match zerosA P T, P.underlying T with
    | some z, some (.struct fs) => match placesA P fs with
      | some pl => match fillA (fun i => pl[i]?) (parts.toList.map fun p => (p.1, ev p.2)) z with | some l => .val (.fv (.ag l)) | none => .stop
      | none => .stop
    | some z, some (.array _ e) => match sizeT P e with
      | some n => match fillA (fun i => some (i * n, n)) (parts.toList.map fun p => (p.1, ev p.2)) z with | some l => .val (.fv (.ag l)) | none => .stop
      | none => .stop
    | _, _ => .stop
  | .buildSlice T len parts => match P.underlying T with
    | some (.slice e) => match sizeT P e, (P.info? e).bind (·.zero) with
      | some n, some z => if 0 < n ∧ 0 < len ∧ len * n ≤ 16777216 ∧ (zerosN z (len * n)).all (·.oneCell') = true then match fillA (fun i => some (i * n, n)) (parts.toList.map fun p => (p.1, ev p.2)) ((zerosN z (len * n)).map .lit) with | some l => .nsl len e l | none => .stop else .stop
      | _, _ => .stop
    | _ => .stop
  | .slice T x none none none => match ev x, P.underlying T with
    | .fv (.sc (.ptr k off)), some (.array n e) => match sizeT P e with | some _ => .val (.fv (.sc (.slc k off n n))) | none => .stop
    | _, _ => .stop
  | .binOp op T x y _ => match litOf (ev x), litOf (ev y) with
    | some a, some b => closedA P (do eqGuard op T x y a b; binOp op T a b)
    | _, _ => .stop
  | .makeFunc (.func F) first cap => match toCA (first.toList.map ev), toCA (cap.toList.map ev) with
    | some a, some b => .val (.fv (.clo F a b))
    | _, _ => .stop
  | .unOp op _ x => match litOf (ev x) with | some a => closedA P (Op.unary op a) | none => .stop
  | .convert s d x => match litOf (ev x) with | some a => closedA P (convert s d a) | none => .stop
  | .call c => match c.callee with
    | .value f => match litOf (ev f), ev f with
      | some (.func (.func g) a b), _ => .call g (a.toList.map constA ++ c.args.toList.map ev ++ b.toList.map constA)
      | none, .fv (.clo g a b) => .call g (a.map caA ++ c.args.toList.map ev ++ b.map caA)
      | _, _ => .stop
    | .builtin .len => match c.argTypes[0]?, c.args.toList with
      | some T, [x] => match P.underlying T, ev x with
        | some (.slice _), .fv (.sc (.slc _ _ n _)) => .val (.fv (.sc (.lit (.int .i64 n))))
        | _, _ => .stop
      | _, _ => .stop
    | .builtin b => match litsA (c.args.toList.map ev) with
      | some vs => match evalP P (builtin b c.argTypes o.type (c.args.map fun | .const _ => true | _ => false) vs.toArray) with
        | some (.value v) => .val (constA v)
        | _ => .stop
      | none => .stop
    | _ => .stop
  | _ => .stop
end Go.Proofs.YtgkpejlddgoalaaGreatDoor.Ab
namespace Go.Proofs.YtgkpejlddgoalaaGreatDoor.Ab
open Go.RowKit

variable {Kc : Value → Bool} {P : Program} {ev : Operand → AV Kc} {bl : List (Option (TypeId × List (Seg Kc)))} {β : List Nat} {w : World} {ρ : Operand → Value} {o : Oper} {x : AV Kc}

/-- What is known of blocks. -/
def Mem (β : List Nat) (bl : List (Option (TypeId × List (Seg Kc)))) (w : World) : Prop :=
  ∀ (k : Nat) T l, bl[k]? = some (some (T, l)) → ∃ g cs, β[k]? = some g ∧ w.heap[g]? = some (.cells cs.toArray T (0, 0)) ∧ holdsL β l cs w
theorem cells_at {g : Nat} {cs : List Value} {T : TypeId} {fr : Nat × Nat} (h : w.heap[g]? = some (.cells cs.toArray T fr)) (i : Nat) : w.cell? ⟨g, i, none⟩ = cs[i]? := by
  unfold World.cell?
  rw [h]
  simp
theorem range_at {g : Nat} {cs : List Value} {T : TypeId} {fr : Nat × Nat} (h : w.heap[g]? = some (.cells cs.toArray T fr)) (off n : Nat) : w.rangeAt g off ((cs.drop off).take n) := by
  intro j v hj
  rw [cells_at h]
  rw [List.getElem?_take] at hj
  split at hj
  · rw [List.getElem?_drop] at hj; exact hj
  · cases hj
theorem partA_val {T : TypeId} {l : List (Seg Kc)} {off : Nat} (h : partA P T l off = .val x) : ∃ n m, sizeT P T = some n ∧ cut l off n = some m ∧ ((rowB P T = some true ∧ x = .fv (.ag m)) ∨ (rowB P T = some false ∧ n = 1 ∧ ∃ s, m = [s] ∧ x = .fv (.sc s))) := by
  unfold partA at h
  split at h
  · rename_i n hn
    split at h
    · rename_i m hm
      split at h
      · rename_i hr
        injection h with h
        exact ⟨n, _, hn, hm, .inl ⟨hr, h.symm⟩⟩
      · rename_i s hr
        split at h
        · rename_i h1
          injection h with h
          exact ⟨n, _, hn, hm, .inr ⟨hr, by simpa using h1, s, rfl, h.symm⟩⟩
        · cases h
      · cases h
    · cases h
  · cases h
theorem rowB_some {T : TypeId} {b : Bool} (h : rowB P T = some b) : ∃ d, P.underlying T = some d ∧ d.isRow = b := by
  unfold rowB at h
  rw [Option.map_eq_some_iff] at h
  exact h
theorem sizeT_info {T : TypeId} {n : Nat} (h : sizeT P T = some n) : ∃ i, P.info? T = some i ∧ i.size = n := by
  unfold sizeT at h
  rw [Option.map_eq_some_iff] at h
  exact h
theorem run_isAgg {T : TypeId} {d : TypeDesc} (h : P.underlying T = some d) (w : World) : (isAgg T).run P w = .ok d.isRow w := by
  unfold isAgg
  rw [Sem.run_bind, run_underlying h w]
  cases d <;> rfl
theorem run_sizeT {T : TypeId} {n : Nat} (h : sizeT P T = some n) (w : World) : (Go.sizeOf T).run P w = .ok n w := by
  obtain ⟨i, h1, h2⟩ := sizeT_info h
  simp [Go.sizeOf, typeInfo, h1, h2]
theorem holdsL_one {s : Seg Kc} {cs : List Value} (h : holdsL β [s] cs w) : s.holds β cs w := by
  obtain ⟨a, b, e, h1, h2⟩ := h
  rw [show b = [] from h2, List.append_nil] at e
  rw [e]; exact h1
theorem take_one {cs : List Value} {off : Nat} (h : off + 1 ≤ cs.length) : ∃ v, (cs.drop off).take 1 = [v] ∧ cs[off]? = some v := by
  refine ⟨cs[off], ?_, List.getElem?_eq_getElem (by omega)⟩
  rw [List.drop_eq_getElem_cons (by omega)]
  rfl
/-- The load of a part of a block. -/
theorem run_load_part {T T' : TypeId} {l : List (Seg Kc)} {off g : Nat} {cs : List Value} (h : partA P T l off = .val x) (hg : w.heap[g]? = some (.cells cs.toArray T' (0, 0))) (hl : holdsL β l cs w) :
    ∃ v, (loadVar T ⟨g, off, none⟩).run P w = .ok v w ∧ x.holds β v w := by
  obtain ⟨n, m, hn, hm, hc⟩ := partA_val h
  obtain ⟨h1, h2⟩ := cut_holds hm hl
  rcases hc with ⟨hr, rfl⟩ | ⟨hr, rfl, s, rfl, rfl⟩
  · obtain ⟨d, hd, hd2⟩ := rowB_some hr
    obtain ⟨i, hi, hi2⟩ := sizeT_info hn
    refine ⟨_, run_loadVar_mid w g off T ((cs.drop off).take n) d (range_at hg off n) hd hd2 ?_, _, rfl, h1⟩
    rw [hi, Option.map_some, hi2, List.length_take, List.length_drop, Nat.min_eq_left (by omega)]
  · obtain ⟨d, hd, hd2⟩ := rowB_some hr
    obtain ⟨v, hv, hv2⟩ := take_one h2
    rw [hv] at h1
    refine ⟨v, ?_, holdsL_one h1⟩
    unfold loadVar
    rw [Sem.run_bind, run_isAgg hd w, hd2]
    have hcell : w.cell? ⟨g, off, none⟩ = some v := by rw [cells_at hg]; exact hv2
    simp [Result.andThen, hcell]
/-- A part of an aggregate. -/
theorem run_part {T : TypeId} {l : List (Seg Kc)} {off : Nat} {cs : List Value} (h : partA P T l off = .val x) (hl : holdsL β l cs w) :
    ∃ v, (part T cs.toArray off).run P w = .ok v w ∧ x.holds β v w := by
  obtain ⟨n, m, hn, hm, hc⟩ := partA_val h
  obtain ⟨h1, h2⟩ := cut_holds hm hl
  rcases hc with ⟨hr, rfl⟩ | ⟨hr, rfl, s, rfl, rfl⟩
  · obtain ⟨d, hd, hd2⟩ := rowB_some hr
    refine ⟨.agg ((cs.drop off).take n).toArray, ?_, _, rfl, h1⟩
    unfold part
    rw [Sem.run_bind, run_isAgg hd w, hd2]
    simp only [Result.andThen, if_true, Sem.run_bind, run_sizeT hn w, Sem.run_pure]
    congr 2
    apply Array.toList_inj.1
    simp [Array.toList_extract]
  · obtain ⟨d, hd, hd2⟩ := rowB_some hr
    obtain ⟨v, hv, hv2⟩ := take_one h2
    rw [hv] at h1
    refine ⟨v, ?_, holdsL_one h1⟩
    unfold part
    rw [Sem.run_bind, run_isAgg hd w, hd2]
    simp [Result.andThen, hv2]
theorem zerosA_run {T : TypeId} {l : List (Seg Kc)} (h : zerosA P T = some l) : ∃ z, (P.info? T).bind (·.zero) = some z ∧ (∀ w, (zeroValue T).run P w = .ok z w) ∧ l = z.cells.toList.map .lit ∧ z.cells.toList.all (·.oneCell') = true := by
  unfold zerosA at h
  split at h
  · rename_i z hz
    split at h
    · rename_i h1
      injection h with h
      refine ⟨z, hz, fun w => ?_, h.symm, h1⟩
      rw [Option.bind_eq_some_iff] at hz
      obtain ⟨i, hi, hz⟩ := hz
      simp [zeroValue, typeInfo, hi, hz]
    · cases h
  · cases h
theorem closedA_val {s : Sem Value} (h : closedA (Kc := Kc) P s = .val x) (β : List Nat) (w : World) : ∃ v, s.run P w = .ok v w ∧ x.holds β v w := by
  unfold closedA at h
  split at h
  · rename_i v hv
    injection h with h
    subst h
    exact ⟨v, evalP_run hv w, constA_holds v⟩
  · cases h

/-- An aggregate that is built out of parts. -/
theorem fill_foldl (cs : Array Value) (ds : List Value) (off : Nat) (h : off + ds.length ≤ cs.size) :
    (ds.toArray.zipIdx.foldl (fun cs (c, j) => cs.setIfInBounds (off + j) c) cs).toList = cs.toList.take off ++ ds ++ cs.toList.drop (off + ds.length) := by
  rw [← Array.foldl_toList]
  have key : ∀ (es : List Value) (k : Nat) (a : Array Value), off + k + es.length ≤ a.size →
      ((es.zipIdx k).foldl (fun cs (c, j) => cs.setIfInBounds (off + j) c) a).toList = a.toList.take (off + k) ++ es ++ a.toList.drop (off + k + es.length) := by
    intro es
    induction es with
    | nil => intro k a _; simp
    | cons e es ih =>
      intro k a hk
      simp only [List.length_cons] at hk
      rw [List.zipIdx_cons, List.foldl_cons, ih (k + 1) _ (by simp; omega)]
      simp only [Array.toList_setIfInBounds, List.length_cons]
      rw [show off + (k + 1) = (off + k) + 1 from by omega]
      rw [List.take_set, List.drop_set]
      have hlt : off + k < a.toList.length := by simp; omega
      have hlt2 : off + k + 1 + es.length > off + k := by omega
      rw [if_pos (by omega)]
      have e1 : (a.toList.take (off + k + 1)).set (off + k) e = a.toList.take (off + k) ++ [e] := by
        rw [List.take_succ_eq_append_getElem hlt]
        rw [List.set_append_right _ _ (by simp; omega)]
        simp [Nat.min_eq_left (show off + k ≤ a.size by omega)]
      rw [e1]
      rw [show off + k + (es.length + 1) = off + k + 1 + es.length from by omega]
      simp
  have := key ds 0 cs (by simpa using h)
  simpa using this
theorem cells_sc {s : Seg Kc} {v : Value} (h : s.holds β [v] w) : v.cells = #[v] := by
  have := Seg.one h v (by simp)
  cases v <;> simp_all [Value.cells, Value.oneCell']
theorem fill_step {place : Nat → Option (Nat × Nat)} {cs : Array Value} {i off n : Nat} {v : Value} {rest : List (Nat × Value)} (hp : place i = some (off, n)) (hn : v.cells.size = n) (hle : off + v.cells.size ≤ cs.size) :
    Instr.fill place cs ((i, v) :: rest) = Instr.fill place (v.cells.zipIdx.foldl (fun cs (c, j) => cs.setIfInBounds (off + j) c) cs) rest := by
  have h2 : (decide (v.cells.size ≠ n) || decide (off + v.cells.size > cs.size)) = false := by simp; omega
  rw [Instr.fill, hp]
  simp only [h2, Bool.false_eq_true, if_false]
theorem fillA_run {place : Nat → Option (Nat × Nat)} : ∀ {parts : List (Nat × Operand)} {l l' : List (Seg Kc)} {cs : Array Value}, fillA place (parts.map fun p => (p.1, ev p.2)) l = some l' → holdsL β l cs.toList w →
    (∀ p ∈ parts, (ev p.2).holds β (ρ p.2) w) → ∃ ds : Array Value, Instr.fill place cs (parts.map fun p => (p.1, ρ p.2)) = some ds ∧ holdsL β l' ds.toList w
  | [], l, l', cs, h, hl, _ => by injection h with h; subst h; exact ⟨cs, rfl, hl⟩
  | (i, y) :: parts, l, l', cs, h, hl, hp => by
    have hy := hp (i, y) (by simp)
    have hp' : ∀ p ∈ parts, (ev p.2).holds β (ρ p.2) w := fun p hm => hp p (by simp [hm])
    simp only [List.map_cons, fillA] at h
    simp only at hy
    split at h
    · rename_i off n s hpl hev
      rw [hev] at hy
      split at h
      · rename_i hn
        simp only [Bool.and_eq_true, beq_iff_eq] at hn
        rw [Option.bind_eq_some_iff] at h
        obtain ⟨l2, hr, h⟩ := h
        obtain ⟨h1, h2⟩ := repl_holds hr hl (holdsL.single hy)
        have hc := cells_sc hy
        simp only [List.length_singleton] at h2
        rw [Array.length_toList] at h2
        obtain ⟨ds, hd, hd2⟩ := fillA_run (cs := [ρ y].toArray.zipIdx.foldl (fun cs (c, j) => cs.setIfInBounds (off + j) c) cs) h (by
          rw [fill_foldl cs [ρ y] off (by simpa using h2)]
          exact h1) hp'
        refine ⟨ds, ?_, hd2⟩
        rw [List.map_cons, fill_step hpl (by rw [hc]; simp; omega) (by rw [hc]; simp; omega), hc]
        exact hd
      · cases h
    · rename_i off n m hpl hev
      rw [hev] at hy
      obtain ⟨es, he, hm⟩ := hy
      split at h
      · rename_i hn
        simp only [beq_iff_eq] at hn
        rw [Option.bind_eq_some_iff] at h
        obtain ⟨l2, hr, h⟩ := h
        obtain ⟨h1, h2⟩ := repl_holds hr hl hm
        have hlen := holdsL.len hm
        simp only [Array.length_toList] at h2
        obtain ⟨ds, hd, hd2⟩ := fillA_run (cs := es.toArray.zipIdx.foldl (fun cs (c, j) => cs.setIfInBounds (off + j) c) cs) h (by
          rw [fill_foldl cs es off (by omega)]
          exact h1) hp'
        refine ⟨ds, ?_, hd2⟩
        have hc : (ρ y).cells = es.toArray := by rw [he]; rfl
        rw [List.map_cons, fill_step hpl (by rw [hc]; simp; omega) (by rw [hc]; simp; omega), hc]
        exact hd
      · cases h
    · cases h
end Go.Proofs.YtgkpejlddgoalaaGreatDoor.Ab
namespace Go.Proofs.YtgkpejlddgoalaaGreatDoor.Ab
open Go.RowKit

variable {Kc : Value → Bool} {P : Program} {ev : Operand → AV Kc} {bl : List (Option (TypeId × List (Seg Kc)))} {β : List Nat} {w : World} {ρ : Operand → Value} {o : Oper} {x : AV Kc}

theorem run_v {s : Sem Value} {v : Value} {w w' : World} (h : s.run P w = .ok v w') : (do pure (Next.value (← s)) : Sem Next).run P w = .ok (.value v) w' := by
  rw [Sem.run_bind, h]; rfl
theorem add_off (g off n : Nat) : (⟨g, off, none⟩ : Addr).add n = ⟨g, off + n, none⟩ := Addr.add_mid g off n
theorem hold_ptr {k off : Nat} {v : Value} (h : (AV.fv (.sc (.ptr k off)) : AV Kc).holds β v w) : ∃ g, β[k]? = some g ∧ v = .pointer (some ⟨g, off, none⟩) := by
  obtain ⟨g, h1, h2⟩ := h
  injection h2 with h2
  exact ⟨g, h1, h2⟩
theorem hold_slc {k off n c : Nat} {v : Value} (h : (AV.fv (.sc (.slc k off n c)) : AV Kc).holds β v w) : ∃ g, β[k]? = some g ∧ v = .slice (some ⟨g, off, none⟩) n c := by
  obtain ⟨g, h1, h2⟩ := h
  injection h2 with h2
  exact ⟨g, h1, h2⟩
theorem hold_lit {u v : Value} (h : (AV.fv (.sc (.lit u)) : AV Kc).holds β v w) : v = u := by
  have := h.1
  injection this
theorem ptr_hold {k off g : Nat} (h : β[k]? = some g) : (AV.fv (.sc (.ptr k off)) : AV Kc).holds β (.pointer (some ⟨g, off, none⟩)) w := ⟨g, h, rfl⟩

theorem toCA_holds : ∀ {l : List Operand} {m : List (Bool × List (Seg Kc))}, toCA (l.map ev) = some m → (∀ y ∈ l, (ev y).holds β (ρ y) w) → holdsC β m (l.map ρ) w
  | [], m, h, _ => by injection h with h; subst h; rfl
  | y :: l, m, h, hs => by
    have hy := hs y (by simp)
    have hl : ∀ z ∈ l, (ev z).holds β (ρ z) w := fun z hz => hs z (by simp [hz])
    rw [List.map_cons] at h
    generalize ev y = x at h hy
    cases x with
    | tup l => cases h
    | fv f =>
      cases f with
      | sc s =>
        simp only [toCA, Option.map_eq_some_iff] at h
        obtain ⟨r, hr, rfl⟩ := h
        exact ⟨ρ y, l.map ρ, rfl, holdsL.single hy, toCA_holds hr hl⟩
      | ag m =>
        simp only [toCA, Option.map_eq_some_iff] at h
        obtain ⟨r, hr, rfl⟩ := h
        exact ⟨ρ y, l.map ρ, rfl, hy, toCA_holds hr hl⟩
      | clo F a b => cases h
      | nsl n T l => cases h
      | un => cases h
theorem litsA_holds : ∀ {l : List Operand} {vs : List Value}, litsA (l.map ev) = some vs → (∀ y ∈ l, (ev y).holds β (ρ y) w) → l.map ρ = vs
  | [], vs, h, _ => by simpa [litsA] using h
  | y :: l, vs, h, hs => by
    simp only [List.map_cons, litsA] at h
    split at h
    · rename_i v r hv hr
      injection h with h
      subst h
      rw [List.map_cons, litOf_holds hv (hs y (by simp)), litsA_holds hr (fun z hz => hs z (by simp [hz]))]
    · cases h
theorem opA_val (h : opA P ev bl o = .val x) (hs : ∀ y ∈ o.op.operands, (ev y).holds β (ρ y) w) (hm : Mem β bl w) : ∃ v, (execOp ρ o).run P w = .ok (.value v) w ∧ x.holds β v w := by
  obtain ⟨dst, op, type, pos, after, guard⟩ := o
  cases op <;> simp only [opA] at h
  case move y => injection h with h; subst h; exact ⟨_, rfl, hs y (by simp [Op.operands])⟩
  case assign y => injection h with h; subst h; exact ⟨_, rfl, hs y (by simp [Op.operands])⟩
  case pick c a b =>
    split at h
    · rename_i t hc
      injection h with h
      have h1 := hs c (by simp [Op.operands])
      rw [hc] at h1
      have h2 := hold_lit h1
      refine ⟨if t then ρ a else ρ b, ?_, ?_⟩
      · simp [execOp, h2, asBool]
      · subst h
        cases t
        · exact hs b (by simp [Op.operands])
        · exact hs a (by simp [Op.operands])
    · cases h
  case alloc T => split at h <;> cases h
  case box T y => split at h <;> cases h
  case load T y =>
    split at h
    · rename_i k off hy
      split at h
      · rename_i T' l hb
        have h1 := hs y (by simp [Op.operands])
        rw [hy] at h1
        obtain ⟨g, hg, hv⟩ := hold_ptr h1
        obtain ⟨g', cs, hg', hh, hl⟩ := hm k T' l hb
        rw [hg] at hg'
        injection hg' with hg'
        subst hg'
        obtain ⟨v, hr, hx⟩ := run_load_part h hh hl
        refine ⟨v, ?_, hx⟩
        simp only [execOp, Instr.loadAt, hv, Instr.sureAddr]
        exact run_v (by simpa [Sem.run_bind] using hr)
      · cases h
    · cases h
  case store T a b => repeat' (first | (cases h; done) | split at h)
  case fieldAddr T y i =>
    split at h
    · rename_i k off fs hy hu
      split at h
      · rename_i f hf
        split at h
        · rename_i n hn
          injection h with h
          subst h
          have h1 := hs y (by simp [Op.operands])
          rw [hy] at h1
          obtain ⟨g, hg, hv⟩ := hold_ptr h1
          refine ⟨_, ?_, ptr_hold hg⟩
          simp only [execOp]
          refine run_v ?_
          simp only [Instr.fieldAt, Sem.run_bind, run_underlying hu, Result.andThen, hf, hv, Instr.sureAddr, Sem.run_pure, fieldPlace, run_sizeT hn, add_off]
          rfl
        · cases h
      · cases h
    · cases h
  case field T y i =>
    split at h
    · rename_i l fs hy hu
      split at h
      · rename_i f hf
        have h1 := hs y (by simp [Op.operands])
        rw [hy] at h1
        obtain ⟨cs, hv, hl⟩ := h1
        obtain ⟨v, hr, hx⟩ := run_part h hl
        refine ⟨v, ?_, hx⟩
        simp only [execOp]
        refine run_v ?_
        simp only [Instr.field, Sem.run_bind, run_underlying hu, Result.andThen, hf, hv, asAgg, Sem.run_pure, hr]
      · cases h
    · cases h
  case indexAddr T y ix =>
    split at h
    · rename_i k off kd i len e hy hi hu
      split at h
      · rename_i hb
        split at h
        · rename_i n hn
          injection h with h
          subst h
          have h1 := hs y (by simp [Op.operands])
          rw [hy] at h1
          obtain ⟨g, hg, hv⟩ := hold_ptr h1
          have h2 := hs ix (by simp [Op.operands])
          rw [hi] at h2
          have hv2 := hold_lit h2
          refine ⟨_, ?_, ptr_hold hg⟩
          simp only [execOp]
          refine run_v ?_
          simp [Instr.indexAt, Sem.run_bind, run_underlying hu, Result.andThen, hv, hv2, asIntOf, Instr.sureAddr, run_sizeT hn, add_off, hb.1, hb.2]
        · cases h
      · cases h
    · rename_i k off n c kd i e hy hi hu
      split at h
      · rename_i hb
        split at h
        · rename_i m hm2
          injection h with h
          subst h
          have h1 := hs y (by simp [Op.operands])
          rw [hy] at h1
          obtain ⟨g, hg, hv⟩ := hold_slc h1
          have h2 := hs ix (by simp [Op.operands])
          rw [hi] at h2
          have hv2 := hold_lit h2
          refine ⟨_, ?_, ptr_hold hg⟩
          simp only [execOp]
          refine run_v ?_
          simp [Instr.indexAt, Sem.run_bind, run_underlying hu, Result.andThen, hv, hv2, asIntOf, run_sizeT hm2, add_off, hb.1, hb.2]
        · cases h
      · cases h
    · cases h
  case index T y ix =>
    split at h
    · rename_i l kd i len e hy hi hu
      split at h
      · rename_i hb
        split at h
        · rename_i n hn
          have h1 := hs y (by simp [Op.operands])
          rw [hy] at h1
          obtain ⟨cs, hv, hl⟩ := h1
          have h2 := hs ix (by simp [Op.operands])
          rw [hi] at h2
          have hv2 := hold_lit h2
          obtain ⟨v, hr, hx⟩ := run_part h hl
          refine ⟨v, ?_, hx⟩
          simp only [execOp]
          refine run_v ?_
          simp [Instr.index, Sem.run_bind, run_underlying hu, Result.andThen, hv, hv2, asIntOf, run_sizeT hn, hb.1, hb.2, hr]
        · cases h
      · cases h
    · cases h
  case nilCheck y =>
    split at h
    · rename_i k off hy
      injection h with h
      subst h
      have h1 := hs y (by simp [Op.operands])
      rw [hy] at h1
      obtain ⟨g, hg, hv⟩ := hold_ptr h1
      refine ⟨_, ?_, ptr_hold hg⟩
      simp only [execOp, hv]
      rfl
    · cases h
  case extract y i =>
    split at h
    · rename_i l hy
      split at h
      · rename_i f hf
        injection h with h
        subst h
        have h1 := hs y (by simp [Op.operands])
        rw [hy] at h1
        obtain ⟨vs, hv, hl⟩ := h1
        obtain ⟨v, hv2, hx⟩ := holdsF.get hl hf
        refine ⟨v, ?_, hx⟩
        simp only [execOp]
        refine run_v ?_
        simp [Instr.extract, hv, hv2]
      · cases h
    · cases h
  case build T parts =>
    have hp : ∀ p ∈ parts.toList, (ev p.2).holds β (ρ p.2) w := fun p hm => hs p.2 (by
      simp only [Op.operands]
      exact List.mem_toArray.2 (List.mem_map.2 ⟨p, hm, rfl⟩))
    split at h
    · rename_i z fs hz hu
      split at h
      · rename_i pl hpl
        split at h
        · rename_i l hl
          injection h with h
          subst h
          obtain ⟨zv, hzi, _, rfl, hone⟩ := zerosA_run hz
          obtain ⟨ds, hd, hd2⟩ := fillA_run (cs := zv.cells) hl (holdsL.lits hone) hp
          refine ⟨.agg ds, ?_, ⟨ds.toList, by simp, hd2⟩⟩
          simp only [execOp]
          refine run_v (run_build w T _ ds ?_)
          rw [Option.bind_eq_some_iff] at hzi
          obtain ⟨i, hi, hz2⟩ := hzi
          have hpl' : fs.toList.mapM (fun f => (P.info? f.type).map fun i => (f.offset, i.size)) = some pl := hpl
          simp only [Program.built, hi, hu, hz2, hpl']
          simpa using hd
        · cases h
      · cases h
    · rename_i z n e hz hu
      split at h
      · rename_i m hn
        split at h
        · rename_i l hl
          injection h with h
          subst h
          obtain ⟨zv, hzi, _, rfl, hone⟩ := zerosA_run hz
          obtain ⟨ds, hd, hd2⟩ := fillA_run (cs := zv.cells) hl (holdsL.lits hone) hp
          refine ⟨.agg ds, ?_, ⟨ds.toList, by simp, hd2⟩⟩
          simp only [execOp]
          refine run_v (run_build w T _ ds ?_)
          rw [Option.bind_eq_some_iff] at hzi
          obtain ⟨i, hi, hz2⟩ := hzi
          obtain ⟨ie, hie, hie2⟩ := sizeT_info hn
          simp only [Program.built, hi, hu, hz2, hie, hie2]
          simpa using hd
        · cases h
      · cases h
    · cases h
  case buildSlice T len parts => repeat' (first | (cases h; done) | split at h)
  case slice T y lo hi mx =>
    cases lo <;> cases hi <;> cases mx <;> simp only at h <;> try (cases h; done)
    split at h
    · rename_i k off n e hy hu
      split at h
      · rename_i m hn
        injection h with h
        subst h
        have h1 := hs y (by simp [Op.operands])
        rw [hy] at h1
        obtain ⟨g, hg, hv⟩ := hold_ptr h1
        refine ⟨.slice (some ⟨g, off, none⟩) n n, ?_, ⟨g, hg, rfl⟩⟩
        simp only [execOp, Option.map_none]
        refine run_v ?_
        have h0 : ∀ c : Prop, [Decidable c] → (if c then (⟨g, off, none⟩ : Addr) else (⟨g, off, none⟩ : Addr).add (0 * m)) = ⟨g, off, none⟩ := fun c _ => by split <;> simp [add_off]
        simp [Instr.sliceAt, Sem.run_bind, run_underlying hu, Result.andThen, hv, Instr.sureAddr, Instr.sliceBounds, run_sizeT hn]
        have := h0 (n = 0)
        simpa using this
      · cases h
    · cases h
  case binOp op T a b yt =>
    split at h
    · rename_i u v hu hv
      have h1 := litOf_holds hu (hs a (by simp [Op.operands]))
      have h2 := litOf_holds hv (hs b (by simp [Op.operands]))
      obtain ⟨r, hr, hx⟩ := closedA_val h β w
      refine ⟨r, ?_, hx⟩
      simp only [execOp, h1, h2]
      exact run_v hr
    · cases h
  case makeFunc fn first cap =>
    cases fn with
    | func F =>
      simp only at h
      split at h
      · rename_i a b ha hb
        injection h with h
        subst h
        refine ⟨.func (.func F) (first.map ρ) (cap.map ρ), rfl, first.toList.map ρ, cap.toList.map ρ, ?_, ?_, ?_⟩
        · congr 1 <;> (apply Array.toList_inj.1; simp)
        · exact toCA_holds ha (fun y hy => hs y (by simp only [Op.operands, Array.mem_append]; exact .inl (by simpa using hy)))
        · exact toCA_holds hb (fun y hy => hs y (by simp only [Op.operands, Array.mem_append]; exact .inr (by simpa using hy)))
      · cases h
    | _ => cases h
  case unOp op T a =>
    split at h
    · rename_i u hu
      have h1 := litOf_holds hu (hs a (by simp [Op.operands]))
      obtain ⟨r, hr, hx⟩ := closedA_val h β w
      refine ⟨r, ?_, hx⟩
      simp only [execOp, h1]
      exact run_v hr
    · cases h
  case convert s d a =>
    split at h
    · rename_i u hu
      have h1 := litOf_holds hu (hs a (by simp [Op.operands]))
      obtain ⟨r, hr, hx⟩ := closedA_val h β w
      refine ⟨r, ?_, hx⟩
      simp only [execOp, h1]
      exact run_v hr
    · cases h
  case call c =>
    split at h
    · split at h <;> cases h
    · rename_i hc
      split at h
      · rename_i T y ht ha
        split at h
        · rename_i e k off n c' hu hy
          injection h with h
          subst h
          have hmem : y ∈ c.operands := by
            simp only [Call.operands, hc, Array.mem_append]
            exact .inr (by rw [← Array.mem_toList_iff, ha]; simp)
          have h1 := hs y (by simpa [Op.operands] using hmem)
          rw [hy] at h1
          obtain ⟨g, hg, hv⟩ := hold_slc h1
          refine ⟨.int .i64 n, ?_, ⟨rfl, rfl⟩⟩
          have harg : c.args.map ρ = #[.slice (some ⟨g, off, none⟩) n c'] := by
            apply Array.toList_inj.1
            rw [Array.toList_map, ha, List.map_singleton, hv]
          simp only [execOp, resolve, hc, Sem.run_bind, Sem.run_pure, Result.andThen, invoke, builtin, harg, Builtin.len_, ht]
          simp [Sem.run_bind, run_underlying hu, Result.andThen, goInt]
        · cases h
      · cases h
    · rename_i b _ hc
      split at h
      · rename_i vs hvs
        split at h
        · rename_i v hv
          injection h with h
          subst h
          have he := litsA_holds hvs (fun y hm => hs y (by
            simp only [Op.operands, Call.operands, hc, Array.mem_append]
            exact .inr (by simpa using hm)))
          have harg : c.args.map ρ = vs.toArray := by
            apply Array.toList_inj.1
            rw [Array.toList_map, he]
          refine ⟨v, ?_, constA_holds v⟩
          simp only [execOp, resolve, hc, Sem.run_bind, Sem.run_pure, Result.andThen, invoke, harg]
          exact evalP_run hv w
        · cases h
      · cases h
    · cases h
  all_goals (cases h)

/-- A new block. -/
theorem opA_new {T : TypeId} {l : List (Seg Kc)} (h : opA P ev bl o = .new T l) (hs : ∀ y ∈ o.op.operands, (ev y).holds β (ρ y) w) :
    ∃ cs : List Value, (execOp ρ o).run P w = .ok (.value (.pointer (some ⟨w.heap.size, 0, none⟩))) (w.alloc (.cells cs.toArray T)) ∧ holdsL β l cs w := by
  obtain ⟨dst, op, type, pos, after, guard⟩ := o
  cases op <;> simp only [opA] at h
  case alloc T' =>
    split at h
    · rename_i l' hz
      injection h with h1 h2
      subst h1
      subst h2
      obtain ⟨z, _, hz2, rfl, hone⟩ := zerosA_run hz
      refine ⟨z.cells.toList, ?_, holdsL.lits hone⟩
      simp only [execOp]
      refine run_v ?_
      simp [Instr.alloc, Sem.run_bind, hz2, Result.andThen, newVar, newRow]
    · cases h
  case box T' y =>
    split at h
    · rename_i s hy
      injection h with h1 h2
      subst h1
      subst h2
      have hv := hs y (by simp [Op.operands])
      rw [hy] at hv
      refine ⟨[ρ y], ?_, holdsL.single hv⟩
      simp only [execOp]
      refine run_v ?_
      simp [Instr.box, Sem.run_bind, Result.andThen, newVar, newRow, cells_sc hv]
    · rename_i l' hy
      injection h with h1 h2
      subst h1
      subst h2
      have hv := hs y (by simp [Op.operands])
      rw [hy] at hv
      obtain ⟨cs, hv, hl⟩ := hv
      refine ⟨cs, ?_, hl⟩
      simp only [execOp]
      refine run_v ?_
      simp [Instr.box, Sem.run_bind, Result.andThen, newVar, newRow, hv, Value.cells]
    · cases h
  case slice T' y lo hi mx => cases lo <;> cases hi <;> cases mx <;> simp only at h <;> (repeat' (first | (cases h; done) | split at h))
  case makeFunc fn first cap => cases fn <;> simp only at h <;> (repeat' (first | (cases h; done) | split at h))
  all_goals (repeat' (first | (cases h; done) | (unfold partA at h) | (unfold closedA at h) | split at h))
/-- A slice of a new block. -/
theorem opA_nsl {T : TypeId} {n : Nat} {l : List (Seg Kc)} (h : opA P ev bl o = .nsl n T l) (hs : ∀ y ∈ o.op.operands, (ev y).holds β (ρ y) w) :
    ∃ cs : List Value, (execOp ρ o).run P w = .ok (.value (.slice (some ⟨w.heap.size, 0, none⟩) n n)) (w.alloc (.cells cs.toArray T)) ∧ holdsL β l cs w := by
  obtain ⟨dst, op, type, pos, after, guard⟩ := o
  cases op <;> simp only [opA] at h
  case buildSlice T' len parts =>
    have hp : ∀ p ∈ parts.toList, (ev p.2).holds β (ρ p.2) w := fun p hm => hs p.2 (by
      simp only [Op.operands]
      exact List.mem_toArray.2 (List.mem_map.2 ⟨p, hm, rfl⟩))
    split at h
    · rename_i e hu
      split at h
      · rename_i m zv hm hzi
        split at h
        · rename_i hc
          split at h
          · rename_i l' hl
            injection h with h1 h2 h3
            subst h1
            subst h2
            subst h3
            obtain ⟨hc1, hc2, hc3, hone⟩ := hc
            have harr : ((Array.range (len * m)).map (fun i => zv.cells[i % zv.cells.size]!)).toList = zerosN zv (len * m) := by
              rw [Array.toList_map, Array.toList_range]; rfl
            obtain ⟨ds, hd, hd2⟩ := fillA_run (cs := (Array.range (len * m)).map (fun i => zv.cells[i % zv.cells.size]!)) hl (by rw [harr]; exact holdsL.lits hone) hp
            refine ⟨ds.toList, ?_, hd2⟩
            simp only [execOp]
            refine run_v ?_
            have h0 : len * m ≠ 0 := Nat.mul_ne_zero (by omega) (by omega)
            have h1 : ¬ (len * m > 2 ^ 24) := by omega
            have hzr : (zeroValue e).run P w = .ok zv w := by
              rw [Option.bind_eq_some_iff] at hzi
              obtain ⟨i, hi, hz⟩ := hzi
              simp [zeroValue, typeInfo, hi, hz]
            have hd' : Instr.fill (fun i => some (i * m, m)) ((Array.range (len * m)).map (fun i => zv.cells[i % zv.cells.size]!)) (parts.map fun (i, x) => (i, ρ x)).toList = some ds := by simpa using hd
            unfold Instr.buildSlice
            simp only [Sem.run_bind, run_underlying hu, Result.andThen, run_sizeT hm, if_neg h1, if_neg h0, hzr, Sem.run_pure, hd']
            simp [Sem.run_bind, newRow, Result.andThen]
          · cases h
        · cases h
      · cases h
    · cases h
  case slice T' y lo hi mx => cases lo <;> cases hi <;> cases mx <;> simp only at h <;> (repeat' (first | (cases h; done) | split at h))
  case makeFunc fn first cap => cases fn <;> simp only at h <;> (repeat' (first | (cases h; done) | split at h))
  all_goals (repeat' (first | (cases h; done) | (unfold partA at h) | (unfold closedA at h) | split at h))
/-- A call. -/
theorem opA_call {f : FuncId} {args : List (AV Kc)} (h : opA P ev bl o = .call f args) (hs : ∀ y ∈ o.op.operands, (ev y).holds β (ρ y) w) :
    ∃ vs : List Value, (execOp ρ o).run P w = (callFunc f vs.toArray).run P w ∧ holdsA β args vs w := by
  obtain ⟨dst, op, type, pos, after, guard⟩ := o
  cases op <;> simp only [opA] at h
  case call c =>
    split at h
    · rename_i y hc
      have hA : ∀ (l : List Value), holdsA β (l.map (constA (Kc := Kc))) l w := fun l => by
        induction l with
        | nil => rfl
        | cons v l ih => exact ⟨v, l, rfl, constA_holds v, ih⟩
      have hB : ∀ (l : List Operand), (∀ y ∈ l, (ev y).holds β (ρ y) w) → holdsA β (l.map ev) (l.map ρ) w := fun l => by
        induction l with
        | nil => intro _; rfl
        | cons v l ih => intro hm; exact ⟨ρ v, l.map ρ, rfl, hm v (by simp), ih (fun y hy => hm y (by simp [hy]))⟩
      have hC : ∀ {l l' : List (AV Kc)} {vs vs' : List Value}, holdsA β l vs w → holdsA β l' vs' w → holdsA β (l ++ l') (vs ++ vs') w := fun {l} => by
        induction l with
        | nil => intro l' vs vs' h h'; rw [show vs = [] from h]; exact h'
        | cons x l ih => rintro l' vs vs' ⟨v, r, rfl, h1, h2⟩ h'; exact ⟨v, r ++ vs', rfl, h1, ih h2 h'⟩
      have hD : ∀ (l : List (Bool × List (Seg Kc))) (vs : List Value), holdsC β l vs w → holdsA β (l.map caA) vs w := fun l => by
        induction l with
        | nil => intro vs h; exact h
        | cons c l ih =>
          rintro vs ⟨v, r, rfl, h1, h2⟩
          refine ⟨v, r, rfl, ?_, ih r h2⟩
          obtain ⟨b, m⟩ := c
          cases b with
          | true => exact h1
          | false =>
            match m, h1 with
            | [], _ => trivial
            | [s], h1 => exact holdsL_one h1
            | _ :: _ :: _, _ => trivial
      have hE : holdsA β (c.args.toList.map ev) (c.args.toList.map ρ) w := hB _ (fun y hm => hs y (by
        simp only [Op.operands, Call.operands, hc, Array.mem_append]
        exact .inr (by simpa using hm)))
      split at h
      · rename_i g a b hy
        injection h with h1 h2
        subst h1
        subst h2
        have hv := litOf_holds hy (hs y (by simp [Op.operands, Call.operands, hc]))
        refine ⟨a.toList ++ (c.args.toList.map ρ) ++ b.toList, ?_, ?_⟩
        · simp only [execOp, resolve, hc, Sem.run_bind, Sem.run_pure, Result.andThen, hv, Deferred.ofValue, invoke]
          congr 2
          apply Array.toList_inj.1
          simp
        · exact hC (hC (hA _) hE) (hA _)
      · rename_i g a b _ hy
        injection h with h1 h2
        subst h1
        subst h2
        have hv := hs y (by simp [Op.operands, Call.operands, hc])
        rw [hy] at hv
        obtain ⟨xs, ys, hv, hx, hyy⟩ := hv
        refine ⟨xs ++ (c.args.toList.map ρ) ++ ys, ?_, hC (hC (hD _ _ hx) hE) (hD _ _ hyy)⟩
        simp only [execOp, resolve, hc, Sem.run_bind, Sem.run_pure, Result.andThen, hv, Deferred.ofValue, invoke]
        congr 2
        apply Array.toList_inj.1
        simp
      · cases h
    · split at h <;> (try split at h) <;> cases h
    · split at h <;> (try split at h) <;> cases h
    · cases h
  case slice T' y lo hi mx => cases lo <;> cases hi <;> cases mx <;> simp only at h <;> (repeat' (first | (cases h; done) | split at h))
  case makeFunc fn first cap => cases fn <;> simp only at h <;> (repeat' (first | (cases h; done) | split at h))
  all_goals (repeat' (first | (cases h; done) | (unfold partA at h) | (unfold closedA at h) | split at h))
theorem Turned.self {g : Nat} {ob : Obj} (h : w.heap[g]? = some ob) : Turned g ob w w := ⟨rfl, rfl, rfl, rfl, h, fun _ _ => rfl⟩
theorem Turned.next {g : Nat} {ob ob' : Obj} {w1 w2 w3 : World} (h : Turned g ob w1 w2) (h' : Turned g ob' w2 w3) : Turned g ob' w1 w3 :=
  ⟨h'.os.trans h.os, h'.tape.trans h.tape, h'.output.trans h.output, h'.size.trans h.size, h'.at_, fun k hk => (h'.block k hk).trans (h.block k hk)⟩
theorem setCells_turned {g : Nat} {T : TypeId} : ∀ (es : List Value) (off : Nat) (w : World) (cs : List Value), w.heap[g]? = some (.cells cs.toArray T (0, 0)) → off + es.length ≤ cs.length →
    Turned g (.cells (cs.take off ++ es ++ cs.drop (off + es.length)).toArray T (0, 0)) w (w.setCells g off es)
  | [], off, w, cs, h, _ => by
    simpa [World.setCells] using Turned.self h
  | e :: es, off, w, cs, h, hl => by
    simp only [List.length_cons] at hl
    have h1 : Turned g (.cells (cs.set off e).toArray T (0, 0)) w (w.setCell ⟨g, off, none⟩ e) := by
      refine ⟨rfl, rfl, rfl, by simp [World.setCell], ?_, fun k hk => Below.heap_setCell w ⟨g, off, none⟩ e k hk⟩
      simp only [World.setCell, Array.getElem?_modify, h]
      simp
    have h2 := setCells_turned es (off + 1) _ (cs.set off e) h1.at_ (by simp; omega)
    have e1 : (cs.set off e).take (off + 1) ++ es ++ (cs.set off e).drop (off + 1 + es.length) = cs.take off ++ (e :: es) ++ cs.drop (off + (e :: es).length) := by
      rw [List.drop_set, if_pos (by omega)]
      have hlt : off < cs.length := by omega
      rw [List.take_set, List.take_succ_eq_append_getElem hlt, List.set_append_right _ _ (by simp; omega)]
      simp [Nat.min_eq_left (show off ≤ cs.length by omega), show off + 1 + es.length = off + (es.length + 1) by omega]
    rw [e1] at h2
    exact h1.next h2
/-- A store of some cells into a block. -/
theorem store_run {T T' : TypeId} {a b : Operand} {g off n : Nat} {cs es : List Value} (ho : o.op = .store T' a b) (ha : ρ a = .pointer (some ⟨g, off, none⟩)) (hb : (ρ b).cells.toList = es) (hn : sizeT P T' = some n) (hlen : es.length = n)
    (h1 : ∀ c ∈ es, c.oneCell' = true) (hg : w.heap[g]? = some (.cells cs.toArray T (0, 0))) (h2 : off + es.length ≤ cs.length) :
    (execOp ρ o).run P w = .ok .skip (w.setCells g off es) ∧ Turned g (.cells (cs.take off ++ es ++ cs.drop (off + es.length)).toArray T (0, 0)) w (w.setCells g off es) := by
  have hcell : ∀ j, j < es.length → (w.cell? ⟨g, off + 0 + j, none⟩).isSome = true := fun j hj => by
    rw [cells_at hg, List.getElem?_eq_getElem (by omega)]; rfl
  have hfr : ∀ j, j < es.length → w.frozen? ⟨g, off + 0 + j, none⟩ = false := fun j _ => by simp [World.frozen?, hg]
  have hst := run_storeCells_cells (P := P) g off es 0 w hcell hfr h1
  refine ⟨?_, setCells_turned es off w cs hg h2⟩
  simp only [execOp, ho, ha, Instr.storeAt, Instr.sureAddr, Sem.run_bind, Sem.run_pure, Result.andThen, storeVar, run_sizeT hn]
  have hsz : (ρ b).cells.size = n := by rw [← hlen, ← hb]; simp
  simp only [hsz, ne_eq, not_true_eq_false, if_false, hb, Sem.run_bind, Sem.run_pure, Result.andThen]
  have hst' : (storeCells ⟨g, off, none⟩ es).run P w = .ok () (w.setCells g off es) := by simpa using hst
  rw [hst']
/-- A store. -/
theorem opA_put {k off : Nat} {m l l' : List (Seg Kc)} {g : Nat} {cs : List Value} {T : TypeId} (h : opA P ev bl o = .put k off m) (hs : ∀ y ∈ o.op.operands, (ev y).holds β (ρ y) w)
    (hk : β[k]? = some g) (hg : w.heap[g]? = some (.cells cs.toArray T (0, 0))) (hl : holdsL β l cs w) (hr : repl l off m = some l') :
    ∃ ds w', (execOp ρ o).run P w = .ok .skip w' ∧ Turned g (.cells ds.toArray T (0, 0)) w w' ∧ holdsL β l' ds w := by
  have key : ∀ (T' : TypeId) (a b : Operand) (n : Nat) (v : Value) (es : List Value), o.op = .store T' a b → ρ a = .pointer (some ⟨g, off, none⟩) → ρ b = v → v.cells.toList = es → sizeT P T' = some n → es.length = n → holdsL β m es w →
      ∃ ds w', (execOp ρ o).run P w = .ok .skip w' ∧ Turned g (.cells ds.toArray T (0, 0)) w w' ∧ holdsL β l' ds w := by
    intro T' a b n v es ho ha hb hv hn hlen hm
    obtain ⟨h1, h2⟩ := repl_holds hr hl hm
    obtain ⟨h3, h4⟩ := store_run (P := P) ho ha (by rw [hb]; exact hv) hn hlen (holdsL.one hm) hg h2
    exact ⟨_, _, h3, h4, h1⟩
  obtain ⟨dst, op, type, pos, after, guard⟩ := o
  cases op <;> simp only [opA] at h
  case store T' a b =>
    have ha := hs a (by simp [Op.operands])
    have hb := hs b (by simp [Op.operands])
    split at h
    · rename_i k' off' s n h1 h2 h3
      split at h
      · rename_i hc
        injection h with e1 e2 e3
        subst e1
        subst e2
        subst e3
        simp only [Bool.and_eq_true, beq_iff_eq] at hc
        rw [h1] at ha
        rw [h2] at hb
        obtain ⟨g', hg', hv⟩ := hold_ptr ha
        rw [hk] at hg'
        injection hg' with hg'
        subst hg'
        exact key T' a b n _ [ρ b] rfl hv rfl (by rw [cells_sc hb]) h3 (by simp; omega) (holdsL.single hb)
      · cases h
    · rename_i k' off' mm n h1 h2 h3
      split at h
      · rename_i hc
        injection h with e1 e2 e3
        subst e1
        subst e2
        subst e3
        simp only [beq_iff_eq] at hc
        rw [h1] at ha
        rw [h2] at hb
        obtain ⟨g', hg', hv⟩ := hold_ptr ha
        rw [hk] at hg'
        injection hg' with hg'
        subst hg'
        obtain ⟨es, he, hm⟩ := hb
        exact key T' a b n _ es rfl hv rfl (by rw [he]; rfl) h3 (by rw [hm.len]; exact hc) hm
      · cases h
    · cases h
  case slice T' y lo hi mx => cases lo <;> cases hi <;> cases mx <;> simp only at h <;> (repeat' (first | (cases h; done) | split at h))
  case makeFunc fn first cap => cases fn <;> simp only at h <;> (repeat' (first | (cases h; done) | split at h))
  all_goals (repeat' (first | (cases h; done) | (unfold partA at h) | (unfold closedA at h) | split at h))
end Go.Proofs.YtgkpejlddgoalaaGreatDoor.Ab
