/- Parts of the proof, joined. -/
import Derived.Test.YtgkpejlddgoalaaGreatDoorJ2
import Derived.AtR
set_option linter.unusedSimpArgs false
set_option linter.unusedVariables false
set_option linter.constructorNameAsVariable false
namespace Go.Proofs.YtgkpejlddgoalaaGreatDoor.Zm
open Go.RowKit

/-- Where the named blocks lie, and how many cells they have. -/
abbrev Env := Nat → Option (Nat × Nat)
def Env.le (σ τ : Env) : Prop := ∀ k x, σ k = some x → τ k = some x
theorem Env.le_refl (σ : Env) : σ.le σ := fun _ _ h => h
theorem Env.le_trans {a b c : Env} (h : a.le b) (h' : b.le c) : a.le c := fun k x e => h' k x (h k x e)

/-- A cell that is no closure: a value without addresses; one that the machine does not look into; a pointer into a named block; a slice of it; a slice of a row, whose capacity nobody knows; the yield of a loop. -/
inductive B where
  | lit (v : Value)
  | sym (v : Value)
  | ptr (k off : Nat)
  | slc (k off n c : Nat)
  | row (k off n sz : Nat)
  | yld (k : Nat)
  | pty (k off : Nat)
  | sly (k off n c : Nat)
  | roy (k off n sz : Nat)
inductive C where
  | b (x : B)
  | fn (F : FuncId) (first cap : List (Bool × List B))
/-- What a slot holds, but for results of several values. -/
inductive F where
  | one (c : C)
  | agg (l : List C)
inductive V where
  | f (x : F)
  | tup (l : List F)
  | un

/-- Slots as a tree; a slot's path are the digits of its number. -/
inductive Tr where
  | e
  | n (v : V) (l r : Tr)
noncomputable def Tr.get (p : List Bool) : Tr → V :=
  List.rec (motive := fun _ => Tr → V) (fun t => Tr.rec (motive := fun _ => V) .un (fun v _ _ _ _ => v) t)
   (fun b _ ih t => Tr.rec (motive := fun _ => V) .un (fun _ l r _ _ => Bool.rec (motive := fun _ => V) (ih l) (ih r) b) t) p
noncomputable def Tr.put (x : V) (p : List Bool) : Tr → Tr :=
  List.rec (motive := fun _ => Tr → Tr) (fun t => Tr.rec (motive := fun _ => Tr) (.n x .e .e) (fun _ l r _ _ => .n x l r) t)
   (fun b _ ih t => Bool.rec (motive := fun _ => Tr) (Tr.rec (motive := fun _ => Tr) (.n .un (ih .e) .e) (fun v l r _ _ => .n v (ih l) r) t) (Tr.rec (motive := fun _ => Tr) (.n .un .e (ih .e)) (fun v l r _ _ => .n v l (ih r)) t) b) p
def pathF : Nat → Nat → List Bool
  | 0, _ => []
  | f + 1, n => if n = 0 then [] else (n % 2 == 0) :: pathF f ((n - 1) / 2)
def path (n : Nat) : List Bool := pathF n n
def unpath : List Bool → Nat
  | [] => 0
  | false :: p => 2 * unpath p + 1
  | true :: p => 2 * unpath p + 2
/-- The slots of a frame. -/
structure Sl where
  n : Nat
  t : Tr
noncomputable def Sl.get (s : Sl) (i : Nat) : V := s.t.get (path i)
noncomputable def Sl.put (s : Sl) (i : Nat) (x : V) : Sl := match Nat.ble (i + 1) s.n with | true => ⟨s.n, s.t.put x (path i)⟩ | false => s
theorem unpath_pathF : ∀ {f n : Nat}, n ≤ f → unpath (pathF f n) = n
  | 0, n, h => by rw [Nat.le_zero.1 h]; rfl
  | f + 1, n, h => by
    unfold pathF
    by_cases h0 : n = 0
    · rw [if_pos h0, h0]; rfl
    · rw [if_neg h0]
      have ih := unpath_pathF (f := f) (n := (n - 1) / 2) (by omega)
      cases hb : n % 2 == 0 with
      | true =>
        simp only [beq_iff_eq] at hb
        simp only [unpath, ih]; omega
      | false =>
        simp only [beq_eq_false_iff_ne, ne_eq] at hb
        simp only [unpath, ih]; omega
theorem path_inj {a b : Nat} (h : path a = path b) : a = b := by
  have := congrArg unpath h
  rwa [path, path, unpath_pathF (Nat.le_refl _), unpath_pathF (Nat.le_refl _)] at this
theorem Tr.get_e : ∀ {p : List Bool}, Tr.get p .e = .un
  | [] => rfl
  | _ :: _ => rfl
theorem Tr.get_put {x : V} : ∀ {q p : List Bool} {t : Tr}, Tr.get p (Tr.put x q t) = if p = q then x else Tr.get p t
  | [], [], .e => rfl
  | [], [], .n .. => rfl
  | [], b :: p, .e => by cases b <;> exact Tr.get_e
  | [], b :: p, .n .. => by cases b <;> rfl
  | c :: q, [], .e => by cases c <;> rfl
  | c :: q, [], .n .. => by cases c <;> rfl
  | c :: q, b :: p, .e => by
    cases c <;> cases b
    · show Tr.get p (Tr.put x q .e) = _
      rw [Tr.get_put, Tr.get_e]; simp; rw [Tr.get_e]
    · show Tr.get p .e = _
      rw [Tr.get_e, if_neg (by simp)]; rfl
    · show Tr.get p .e = _
      rw [Tr.get_e, if_neg (by simp)]; rfl
    · show Tr.get p (Tr.put x q .e) = _
      rw [Tr.get_put, Tr.get_e]; simp; rw [Tr.get_e]
  | c :: q, b :: p, .n v l r => by
    cases c <;> cases b
    · show Tr.get p (Tr.put x q l) = _
      rw [Tr.get_put]; simp; rfl
    · rw [if_neg (by simp)]; rfl
    · rw [if_neg (by simp)]; rfl
    · show Tr.get p (Tr.put x q r) = _
      rw [Tr.get_put]; simp; rfl
theorem Sl.put_lt {s : Sl} {i : Nat} {x : V} (h : i < s.n) : s.put i x = ⟨s.n, s.t.put x (path i)⟩ := by
  unfold Sl.put
  rw [show Nat.ble (i + 1) s.n = true from Nat.ble_eq_true_of_le h]
theorem Sl.put_ge {s : Sl} {i : Nat} {x : V} (h : ¬ i < s.n) : s.put i x = s := by
  unfold Sl.put
  cases hb : Nat.ble (i + 1) s.n with
  | true => exact absurd (Nat.le_of_ble_eq_true hb) h
  | false => rfl
theorem Sl.get_same {s : Sl} {i : Nat} {x : V} (h : i < s.n) : (s.put i x).get i = x := by
  rw [Sl.put_lt h, Sl.get, Tr.get_put, if_pos rfl]
theorem Sl.get_ne {s : Sl} {i j : Nat} {x : V} (h : i ≠ j) : (s.put i x).get j = s.get j := by
  by_cases hi : i < s.n
  · rw [Sl.put_lt hi, Sl.get, Tr.get_put, if_neg (fun e => h (path_inj e).symm)]; rfl
  · rw [Sl.put_ge hi]
theorem Sl.put_n {s : Sl} {i : Nat} {x : V} : (s.put i x).n = s.n := by
  by_cases hi : i < s.n
  · rw [Sl.put_lt hi]
  · rw [Sl.put_ge hi]
def B.holds (σ : Env) : B → Value → Prop
  | .lit v, u | .sym v, u => u = v ∧ v.oneCell' = true
  | .ptr k off, u => ∃ g n, σ k = some (g, n) ∧ u = .pointer (some ⟨g, off, none⟩)
  | .slc k off n c, u => ∃ g m, σ k = some (g, m) ∧ u = .slice (some ⟨g, off, none⟩) n c
  | .row k off n sz, u => ∃ g m c, σ k = some (g, m) ∧ off + c * sz = m ∧ n ≤ c ∧ c ≤ maxLen ∧ u = .slice (some ⟨g, off, none⟩) n c
  | .yld k, u => ∃ g n, σ k = some (g, n) ∧ u = .func (.yield g) #[] #[]
  | .pty k off, u => ∃ g n, σ k = some (g, n) ∧ u = .pointer (some ⟨g, off, none⟩)
  | .sly k off n c, u => ∃ g m, σ k = some (g, m) ∧ u = .slice (some ⟨g, off, none⟩) n c
  | .roy k off n sz, u => ∃ g m c, σ k = some (g, m) ∧ off + c * sz = m ∧ n ≤ c ∧ c ≤ maxLen ∧ u = .slice (some ⟨g, off, none⟩) n c
def holdsB (σ : Env) : List B → List Value → Prop
  | [], vs => vs = []
  | x :: l, vs => ∃ v r, vs = v :: r ∧ x.holds σ v ∧ holdsB σ l r
/-- What a closure bears along: one value, or an aggregate. -/
def capHolds (σ : Env) : Bool × List B → Value → Prop
  | (true, l), v => ∃ cs : List Value, v = .agg cs.toArray ∧ holdsB σ l cs
  | (false, l), v => holdsB σ l [v]
def capsHold (σ : Env) : List (Bool × List B) → List Value → Prop
  | [], vs => vs = []
  | x :: l, vs => ∃ v r, vs = v :: r ∧ capHolds σ x v ∧ capsHold σ l r
def C.holds (σ : Env) : C → Value → Prop
  | .b x, v => x.holds σ v
  | .fn f a c, v => ∃ xs ys : List Value, v = .func (.func f) xs.toArray ys.toArray ∧ capsHold σ a xs ∧ capsHold σ c ys
def holdsC (σ : Env) : List C → List Value → Prop
  | [], vs => vs = []
  | x :: l, vs => ∃ v r, vs = v :: r ∧ x.holds σ v ∧ holdsC σ l r
def F.holds (σ : Env) : F → Value → Prop
  | .one c, v => c.holds σ v
  | .agg l, v => ∃ cs : List Value, v = .agg cs.toArray ∧ holdsC σ l cs
def holdsF (σ : Env) : List F → List Value → Prop
  | [], vs => vs = []
  | x :: l, vs => ∃ v r, vs = v :: r ∧ x.holds σ v ∧ holdsF σ l r
def V.holds (σ : Env) : V → Value → Prop
  | .f x, v => x.holds σ v
  | .tup l, v => ∃ vs : List Value, v = .tuple vs.toArray ∧ holdsF σ l vs
  | .un, _ => True
def holdsV (σ : Env) : List V → List Value → Prop
  | [], vs => vs = []
  | x :: l, vs => ∃ v r, vs = v :: r ∧ x.holds σ v ∧ holdsV σ l r

section
variable {σ τ : Env}
theorem B.up (h : σ.le τ) : ∀ {x : B} {v : Value}, x.holds σ v → x.holds τ v
  | .lit _, _, k | .sym _, _, k => k
  | .ptr .., _, ⟨g, n, e, k⟩ => ⟨g, n, h _ _ e, k⟩
  | .slc .., _, ⟨g, n, e, k⟩ => ⟨g, n, h _ _ e, k⟩
  | .row .., _, ⟨g, n, c, e, k⟩ => ⟨g, n, c, h _ _ e, k⟩
  | .yld _, _, ⟨g, n, e, k⟩ | .pty .., _, ⟨g, n, e, k⟩ | .sly .., _, ⟨g, n, e, k⟩ => ⟨g, n, h _ _ e, k⟩
  | .roy .., _, ⟨g, n, c, e, k⟩ => ⟨g, n, c, h _ _ e, k⟩
theorem upB (h : σ.le τ) : ∀ {l : List B} {vs : List Value}, holdsB σ l vs → holdsB τ l vs
  | [], _, k => k
  | _ :: _, _, ⟨v, r, e, k, k'⟩ => ⟨v, r, e, B.up h k, upB h k'⟩
theorem upCap (h : σ.le τ) : ∀ {x : Bool × List B} {v : Value}, capHolds σ x v → capHolds τ x v
  | (true, _), _, ⟨cs, e, k⟩ => ⟨cs, e, upB h k⟩
  | (false, _), _, k => upB (l := _) h k
theorem upCaps (h : σ.le τ) : ∀ {l : List (Bool × List B)} {vs : List Value}, capsHold σ l vs → capsHold τ l vs
  | [], _, k => k
  | _ :: _, _, ⟨v, r, e, k, k'⟩ => ⟨v, r, e, upCap h k, upCaps h k'⟩
theorem C.up (h : σ.le τ) : ∀ {x : C} {v : Value}, x.holds σ v → x.holds τ v
  | .b _, _, k => B.up h k
  | .fn .., _, ⟨xs, ys, e, k, k'⟩ => ⟨xs, ys, e, upCaps h k, upCaps h k'⟩
theorem upC (h : σ.le τ) : ∀ {l : List C} {vs : List Value}, holdsC σ l vs → holdsC τ l vs
  | [], _, k => k
  | _ :: _, _, ⟨v, r, e, k, k'⟩ => ⟨v, r, e, C.up h k, upC h k'⟩
theorem F.up (h : σ.le τ) : ∀ {x : F} {v : Value}, x.holds σ v → x.holds τ v
  | .one _, _, k => C.up h k
  | .agg _, _, ⟨cs, e, k⟩ => ⟨cs, e, upC h k⟩
theorem upF (h : σ.le τ) : ∀ {l : List F} {vs : List Value}, holdsF σ l vs → holdsF τ l vs
  | [], _, k => k
  | _ :: _, _, ⟨v, r, e, k, k'⟩ => ⟨v, r, e, F.up h k, upF h k'⟩
theorem V.up (h : σ.le τ) : ∀ {x : V} {v : Value}, x.holds σ v → x.holds τ v
  | .f _, _, k => F.up h k
  | .tup _, _, ⟨vs, e, k⟩ => ⟨vs, e, upF h k⟩
  | .un, _, _ => trivial
theorem upV (h : σ.le τ) : ∀ {l : List V} {vs : List Value}, holdsV σ l vs → holdsV τ l vs
  | [], _, k => k
  | _ :: _, _, ⟨v, r, e, k, k'⟩ => ⟨v, r, e, V.up h k, upV h k'⟩
/-- What is known of a frame's slots holds. -/
def holdsS (σ : Env) (s : Sl) (us : Array Value) : Prop := us.size = s.n ∧ ∀ t, (s.get t).holds σ (us.getD t undef)
theorem upS (h : σ.le τ) {s : Sl} {us : Array Value} (k : holdsS σ s us) : holdsS τ s us := ⟨k.1, fun t => V.up h (k.2 t)⟩

theorem B.one : ∀ {x : B} {v : Value}, x.holds σ v → v.oneCell' = true
  | .lit _, _, ⟨e, k⟩ => by rw [e]; exact k
  | .sym _, _, ⟨e, k⟩ => by rw [e]; exact k
  | .ptr .., _, ⟨g, n, e, k⟩ => by rw [k]; rfl
  | .slc .., _, ⟨g, n, e, k⟩ => by rw [k]; rfl
  | .row .., _, ⟨g, n, c, _, _, _, _, k⟩ => by rw [k]; rfl
  | .yld _, _, ⟨g, n, e, k⟩ | .pty .., _, ⟨g, n, e, k⟩ | .sly .., _, ⟨g, n, e, k⟩ => by rw [k]; rfl
  | .roy .., _, ⟨g, n, c, _, _, _, _, k⟩ => by rw [k]; rfl
theorem C.one : ∀ {x : C} {v : Value}, x.holds σ v → v.oneCell' = true
  | .b _, _, k => B.one k
  | .fn .., _, ⟨xs, ys, e, _⟩ => by rw [e]; rfl
theorem oneC : ∀ {l : List C} {vs : List Value}, holdsC σ l vs → ∀ c ∈ vs, c.oneCell' = true
  | [], _, h => by rw [show _ = _ from h]; intro c hc; cases hc
  | x :: l, _, ⟨v, r, e, h1, h2⟩ => by
    subst e
    intro c hc
    rcases List.mem_cons.1 hc with rfl | hc
    · exact C.one h1
    · exact oneC h2 c hc
theorem lenC : ∀ {l : List C} {vs : List Value}, holdsC σ l vs → vs.length = l.length
  | [], _, h => by rw [show _ = _ from h]; rfl
  | x :: l, _, ⟨v, r, e, h1, h2⟩ => by rw [e, List.length_cons, List.length_cons, lenC h2]
theorem appC : ∀ {l m : List C} {vs us : List Value}, holdsC σ l vs → holdsC σ m us → holdsC σ (l ++ m) (vs ++ us)
  | [], _, _, _, h, h' => by rw [show _ = _ from h]; exact h'
  | _ :: _, _, _, us, ⟨v, r, e, h1, h2⟩, h' => ⟨v, r ++ us, by rw [e]; rfl, h1, appC h2 h'⟩
theorem takeC : ∀ {l : List C} {vs : List Value} (n : Nat), holdsC σ l vs → holdsC σ (l.take n) (vs.take n)
  | _, _, 0, _ => by rw [List.take_zero, List.take_zero]; rfl
  | [], _, n + 1, h => by rw [show _ = _ from h]; rfl
  | x :: l, _, n + 1, ⟨v, r, e, h1, h2⟩ => by rw [e]; exact ⟨v, r.take n, rfl, h1, takeC n h2⟩
theorem dropC : ∀ {l : List C} {vs : List Value} (n : Nat), holdsC σ l vs → holdsC σ (l.drop n) (vs.drop n)
  | _, _, 0, h => h
  | [], _, n + 1, h => by rw [show _ = _ from h]; rfl
  | x :: l, _, n + 1, ⟨v, r, e, h1, h2⟩ => by rw [e]; exact dropC n h2
theorem getC : ∀ {l : List C} {vs : List Value} {i : Nat} {c : C}, holdsC σ l vs → l[i]? = some c → ∃ v, vs[i]? = some v ∧ c.holds σ v
  | [], _, _, _, _, hi => by simp at hi
  | _ :: _, _, 0, _, ⟨v, r, e, h1, h2⟩, hi => by
    simp only [List.getElem?_cons_zero, Option.some.injEq] at hi
    subst hi
    exact ⟨v, by rw [e]; rfl, h1⟩
  | _ :: _, _, i + 1, _, ⟨v, r, e, h1, h2⟩, hi => by
    obtain ⟨v', h3, h4⟩ := getC h2 (by simpa using hi)
    exact ⟨v', by rw [e]; simpa using h3, h4⟩
theorem getF : ∀ {l : List F} {vs : List Value} {i : Nat} {c : F}, holdsF σ l vs → l[i]? = some c → ∃ v, vs[i]? = some v ∧ c.holds σ v
  | [], _, _, _, _, hi => by simp at hi
  | _ :: _, _, 0, _, ⟨v, r, e, h1, h2⟩, hi => by
    simp only [List.getElem?_cons_zero, Option.some.injEq] at hi
    subst hi
    exact ⟨v, by rw [e]; rfl, h1⟩
  | _ :: _, _, i + 1, _, ⟨v, r, e, h1, h2⟩, hi => by
    obtain ⟨v', h3, h4⟩ := getF h2 (by simpa using hi)
    exact ⟨v', by rw [e]; simpa using h3, h4⟩
theorem lenF : ∀ {l : List F} {vs : List Value}, holdsF σ l vs → vs.length = l.length
  | [], _, h => by rw [show _ = _ from h]; rfl
  | x :: l, _, ⟨v, r, e, h1, h2⟩ => by rw [e, List.length_cons, List.length_cons, lenF h2]
theorem lenV : ∀ {l : List V} {vs : List Value}, holdsV σ l vs → vs.length = l.length
  | [], _, h => by rw [show _ = _ from h]; rfl
  | x :: l, _, ⟨v, r, e, h1, h2⟩ => by rw [e, List.length_cons, List.length_cons, lenV h2]
theorem appV : ∀ {l m : List V} {vs us : List Value}, holdsV σ l vs → holdsV σ m us → holdsV σ (l ++ m) (vs ++ us)
  | [], _, _, _, h, h' => by rw [show _ = _ from h]; exact h'
  | _ :: _, _, _, us, ⟨v, r, e, h1, h2⟩, h' => ⟨v, r ++ us, by rw [e]; rfl, h1, appV h2 h'⟩
theorem litsC : ∀ {vs : List Value}, vs.all (·.oneCell') = true → holdsC σ (vs.map fun v => .b (.lit v)) vs
  | [], _ => rfl
  | v :: vs, h => by
    rw [List.all_cons, Bool.and_eq_true] at h
    exact ⟨v, vs, rfl, ⟨rfl, h.1⟩, litsC h.2⟩
end

/-- What is known of a named block: its cells; its first cells (the second time: it is only read); nothing any more; the record of a loop over a function, the block of its deferred calls; how far a range over a text has come. -/
inductive Blk where
  | cells (T : TypeId) (l : List C)
  | row (T : TypeId) (l : List C)
  | dead
  | loop (st : LoopState) (pend : Option Code) (fn : FuncId) (tmps : Sl) (params : Array Tmp) (assign body : Code) (d : Nat)
  | ro (T : TypeId) (l : List C)
  | dfr
  | iter (s : ByteArray) (pos : Nat)
def Blk.live : Blk → Bool
  | .dead => false
  | _ => true
def Blk.holds (σ : Env) (k : Nat) (w : World) : Blk → Prop
  | .cells T l => ∃ g, ∃ cs : List Value, σ k = some (g, cs.length) ∧ w.heap[g]? = some (.cells cs.toArray T (0, 0)) ∧ holdsC σ l cs
  | .row T l => ∃ g, ∃ cs js : List Value, σ k = some (g, (cs ++ js).length) ∧ w.heap[g]? = some (.cells (cs ++ js).toArray T (0, 0)) ∧ holdsC σ l cs
  | .ro _ l => ∃ g, ∃ cs js : List Value, ∃ T fr, σ k = some (g, (cs ++ js).length) ∧ w.heap[g]? = some (.cells (cs ++ js).toArray T fr) ∧ holdsC σ l cs
  | .dead => True
  | .loop st pend fn tmps params assign body d => ∃ g n D m, ∃ vs : Array Value, σ k = some (g, n) ∧ σ d = some (D, m) ∧ holdsS σ tmps vs ∧
      w.heap[g]? = some (.loop { state := st, pending := pend, fn := fn, tmps := vs, params := params, assign := assign, body := body, defers := D })
  | .dfr => ∃ g n, σ k = some (g, n) ∧ w.heap[g]? = some (.deferred (some []))
  | .iter s pos => ∃ g n, σ k = some (g, n) ∧ w.heap[g]? = some (.stringIter s pos)
abbrev Hp := List Blk
def live (H : Hp) (k : Nat) : Prop := ∃ b, H[k]? = some b ∧ b.live = true
/-- What is known of memory. -/
structure HRep (σ : Env) (H : Hp) (w : World) : Prop where
  blk : ∀ (k : Nat) b, H[k]? = some b → b.holds σ k w
  inj : ∀ k k' g n n', live H k → live H k' → σ k = some (g, n) → σ k' = some (g, n') → k = k'
  lt : ∀ k g n, live H k → σ k = some (g, n) → g < w.heap.size
  dom : ∀ k x, σ k = some x → k < H.length
/-- The addresses of blocks that may be changed. -/
def Own (σ : Env) (H : Hp) (ro : Nat) (g : Nat) : Prop := ∃ k n, ro ≤ k ∧ live H k ∧ σ k = some (g, n)
/-- What was there has stayed, but for some blocks. -/
structure Base (T : Nat → Prop) (w0 w : World) : Prop where
  os : w.os = w0.os
  tape : w.tape = w0.tape
  output : w.output = w0.output
  size : w0.heap.size ≤ w.heap.size
  block : ∀ g, g < w0.heap.size → ¬ T g → w.heap[g]? = w0.heap[g]?
theorem Base.refl (T : Nat → Prop) (w : World) : Base T w w := ⟨rfl, rfl, rfl, Nat.le_refl _, fun _ _ _ => rfl⟩
theorem Base.trans {T T' : Nat → Prop} {a b c : World} (h : Base T a b) (h' : Base T' b c) (ht : ∀ g, T' g → T g ∨ a.heap.size ≤ g) : Base T a c :=
  ⟨h'.os.trans h.os, h'.tape.trans h.tape, h'.output.trans h.output, Nat.le_trans h.size h'.size, fun g hg hT =>
    (h'.block g (Nat.lt_of_lt_of_le hg h.size) (fun k => (ht g k).elim hT (fun k => absurd hg (Nat.not_lt_of_le k)))).trans (h.block g hg hT)⟩
theorem Base.below {w0 w : World} (h : Base (fun _ => False) w0 w) : Below w0.heap.size w0 w := ⟨h.os, h.tape, h.output, h.size, fun k hk => h.block k hk fun h => h⟩
theorem Base.of_below {T : Nat → Prop} {w0 w : World} (h : Below w0.heap.size w0 w) : Base T w0 w := ⟨h.os, h.tape, h.output, h.size, fun g hg _ => h.block g hg⟩
/-- What an operation, or a call, leaves. -/
structure Left (σ : Env) (H : Hp) (ro : Nat) (w : World) (H' : Hp) (τ : Env) (w' : World) : Prop where
  le : σ.le τ
  rep : HRep τ H' w'
  base : Base (Own σ H ro) w w'
  own : ∀ g, Own τ H' ro g → Own σ H ro g ∨ w.heap.size ≤ g
  grow : H.length ≤ H'.length
  old : ∀ k, k < ro → k < H.length → H'[k]? = H[k]?
  new : ∀ k y, τ k = some y → σ k = some y ∨ H.length ≤ k
theorem Left.trans {σ τ υ : Env} {H H' H'' : Hp} {ro : Nat} {w w' w'' : World} (h : Left σ H ro w H' τ w') (h' : Left τ H' ro w' H'' υ w'') : Left σ H ro w H'' υ w'' :=
  ⟨Env.le_trans h.le h'.le, h'.rep, h.base.trans h'.base h.own, fun g hg => (h'.own g hg).elim (h.own g) (fun k => .inr (Nat.le_trans h.base.size k)), Nat.le_trans h.grow h'.grow, fun k h1 h2 => (h'.old k h1 (Nat.lt_of_lt_of_le h2 h.grow)).trans (h.old k h1 h2), fun k y e => (h'.new k y e).elim (h.new k y) fun hk => .inr (Nat.le_trans h.grow hk)⟩
theorem Left.refl {σ : Env} {H : Hp} {w : World} (ro : Nat) (h : HRep σ H w) : Left σ H ro w H σ w := ⟨Env.le_refl _, h, Base.refl _ _, fun _ k => .inl k, Nat.le_refl _, fun _ _ _ => rfl, fun _ _ e => .inl e⟩
end Go.Proofs.YtgkpejlddgoalaaGreatDoor.Zm
namespace Go.Proofs.YtgkpejlddgoalaaGreatDoor.Zm
open Go.RowKit
open Go.Proofs.YtgkpejlddgoalaaGreatDoor.Ab (evalP evalP_run sizeT rowB placesA zerosN run_v run_isAgg run_sizeT sizeT_info rowB_some add_off take_one cells_at range_at fill_foldl fill_step)

abbrev lv (v : Value) : V := .f (.one (.b (.lit v)))
abbrev lc (v : Value) : C := .b (.lit v)
def litsZ : List C → Option (List Value)
  | [] => some []
  | .b (.lit v) :: l => match litsZ l with | some r => some (v :: r) | none => none
  | _ => none
def litZ : V → Option Value
  | .f (.one (.b (.lit v))) => some v
  | .f (.agg l) => match litsZ l with | some cs => some (.agg cs.toArray) | none => none
  | _ => none
def constZ : Value → V
  | .agg cs => if cs.toList.all (·.oneCell') then .f (.agg (cs.toList.map lc)) else .un
  | .tuple _ => .un
  | v => lv v
section
variable {σ : Env}
theorem litsZ_holds : ∀ {l : List C} {vs cs : List Value}, litsZ l = some vs → holdsC σ l cs → cs = vs
  | [], _, _, h, h' => by injection h with h; rw [show _ = _ from h', h]
  | .b (.lit v) :: l, _, _, h, ⟨a, r, e, h1, h2⟩ => by
    simp only [litsZ] at h
    split at h
    · rename_i r' hr
      injection h with h
      rw [e, ← h, h1.1, litsZ_holds hr h2]
    · cases h
  | .b (.ptr ..) :: _, _, _, h, _ | .b (.slc ..) :: _, _, _, h, _ | .b (.row ..) :: _, _, _, h, _ | .b (.yld _) :: _, _, _, h, _ | .b (.pty ..) :: _, _, _, h, _ | .b (.sly ..) :: _, _, _, h, _ | .b (.roy ..) :: _, _, _, h, _ | .fn .. :: _, _, _, h, _ => by cases h
theorem litZ_holds {x : V} {u v : Value} (h : litZ x = some u) (hv : x.holds σ v) : v = u := by
  unfold litZ at h
  split at h
  · injection h with h; subst h; exact hv.1
  · rename_i l
    split at h
    · rename_i cs hc
      injection h with h
      obtain ⟨ds, e, hd⟩ := hv
      rw [e, ← h, litsZ_holds hc hd]
    · cases h
  · cases h
theorem constZ_holds (v : Value) : (constZ v).holds σ v := by
  unfold constZ
  split
  · split
    · rename_i h
      exact ⟨_, rfl, litsC h⟩
    · trivial
  · trivial
  · rename_i h1 h2
    refine ⟨rfl, ?_⟩
    cases v <;> simp_all [Value.oneCell']
end
/-- A part of some cells, as a value of type T. -/
def partZ (P : Program) (T : TypeId) (l : List C) (off : Nat) : Option V :=
  match sizeT P T, rowB P T with
  | some n, some true => if off + n ≤ l.length then some (.f (.agg ((l.drop off).take n))) else none
  | some 1, some false => match l[off]? with | some c => some (.f (.one c)) | none => none
  | _, _ => none
def zerosZ (P : Program) (T : TypeId) : Option (List C) :=
  match (P.info? T).bind (·.zero) with
  | some z => if z.cells.toList.all (·.oneCell') then some (z.cells.toList.map lc) else none
  | none => none
/-- Some cells with others put in their place. -/
def putZ (l : List C) (off : Nat) (m : List C) : Option (List C) := if off + m.length ≤ l.length then some (l.take off ++ m ++ l.drop (off + m.length)) else none
def fillZ (place : Nat → Option (Nat × Nat)) : List (Nat × V) → List C → Option (List C)
  | [], l => some l
  | (i, x) :: r, l => match place i, x with
    | some (off, n), .f (.one c) => if n == 1 then (match putZ l off [c] with | some l' => fillZ place r l' | none => none) else none
    | some (off, n), .f (.agg m) => if m.length == n then (match putZ l off m with | some l' => fillZ place r l' | none => none) else none
    | _, _ => none
def basicZ : List C → Option (List B)
  | [] => some []
  | .b x :: l => match basicZ l with | some r => some (x :: r) | none => none
  | _ => none
def capZ : List V → Option (List (Bool × List B))
  | [] => some []
  | .f (.one (.b x)) :: l => match capZ l with | some r => some ((false, [x]) :: r) | none => none
  | .f (.agg m) :: l => match basicZ m, capZ l with | some m', some r => some ((true, m') :: r) | _, _ => none
  | _ => none
/-- What a closure bears along, as an argument. -/
def ofCap : Bool × List B → V
  | (true, l) => .f (.agg (l.map .b))
  | (false, [x]) => .f (.one (.b x))
  | _ => .un
def litsV : List V → Option (List Value)
  | [] => some []
  | x :: l => match litZ x, litsV l with | some v, some r => some (v :: r) | _, _ => none
def closedZ (P : Program) (s : Sem Value) : Option V := match evalP P s with | some v => some (constZ v) | none => none
def cellsOf (H : Hp) (k : Nat) : Option (List C) := match H[k]? with | some (.cells _ l) => some l | some (.row _ l) => some l | some (.ro _ l) => some l | _ => none
def intZ : V → Option Int
  | .f (.one (.b (.lit (.int _ i)))) => some i
  | _ => none

variable (P : Program) (ev : Operand → V) (H : Hp)
/-- The value of an operation that leaves memory alone. -/
def valZ (o : Oper) : Option V :=
  match o.op with
  | .move x | .assign x => some (ev x)
  | .pick c a b => match ev c with
    | .f (.one (.b (.lit (.bool true)))) => some (ev a)
    | .f (.one (.b (.lit (.bool false)))) => some (ev b)
    | _ => none
  | .load T x => match ev x with
    | .f (.one (.b (.ptr k off))) => match cellsOf H k with | some l => partZ P T l off | none => none
    | _ => none
  | .fieldAddr T x i => match ev x, P.underlying T with
    | .f (.one (.b (.ptr k off))), some (.struct fs) => match fs[i]? with
      | some f => match sizeT P f.type with | some (_ + 1) => some (.f (.one (.b (.ptr k (off + f.offset))))) | _ => none
      | none => none
    | _, _ => none
  | .field T x i => match ev x, P.underlying T with
    | .f (.agg l), some (.struct fs) => match fs[i]? with | some f => partZ P f.type l f.offset | none => none
    | _, _ => none
  | .indexAddr T x ix => match ev x, intZ (ev ix), P.underlying T with
    | .f (.one (.b (.ptr k off))), some i, some (.array len e) => if 0 ≤ i ∧ i < len then (match sizeT P e with | some n => some (.f (.one (.b (.ptr k (off + i.toNat * n))))) | none => none) else none
    | .f (.one (.b (.slc k off n _))), some i, some (.slice e) => if 0 ≤ i ∧ i < n then (match sizeT P e with | some m => some (.f (.one (.b (.ptr k (off + i.toNat * m))))) | none => none) else none
    | .f (.one (.b (.row k off n _))), some i, some (.slice e) => if 0 ≤ i ∧ i < n then (match sizeT P e with | some m => some (.f (.one (.b (.ptr k (off + i.toNat * m))))) | none => none) else none
    | _, _, _ => none
  | .index T x ix => match ev x, intZ (ev ix), P.underlying T with
    | .f (.agg l), some i, some (.array len e) => if 0 ≤ i ∧ i < len then (match sizeT P e with | some n => partZ P e l (i.toNat * n) | none => none) else none
    | .f (.one (.b (.lit (.string s)))), some i, some .string => if 0 ≤ i then (match s[i.toNat]? with | some c => some (lv (.int .u8 c.toNat)) | none => none) else none
    | _, _, _ => none
  | .nilCheck x => match ev x with | .f (.one (.b (.ptr k off))) => some (.f (.one (.b (.ptr k off)))) | _ => none
  | .extract x i => match ev x with
    | .tup l => match l[i]? with | some f => some (.f f) | none => none
    | _ => none
  | .build T parts => match zerosZ P T, P.underlying T with
    | some z, some (.struct fs) => match placesA P fs with
      | some pl => match fillZ (fun i => pl[i]?) (parts.toList.map fun p => (p.1, ev p.2)) z with | some l => some (.f (.agg l)) | none => none
      | none => none
    | some z, some (.array _ e) => match sizeT P e with
      | some n => match fillZ (fun i => some (i * n, n)) (parts.toList.map fun p => (p.1, ev p.2)) z with | some l => some (.f (.agg l)) | none => none
      | none => none
    | _, _ => none
  | .binOp op T x y _ => match litZ (ev x), litZ (ev y) with
    | some a, some b => closedZ P (do eqGuard op T x y a b; binOp op T a b)
    | _, _ => none
  | .makeFunc (.func F) first cap => match capZ (first.toList.map ev), capZ (cap.toList.map ev) with
    | some a, some b => some (.f (.one (.fn F a b)))
    | _, _ => none
  | .unOp op _ x => match litZ (ev x) with | some a => closedZ P (Op.unary op a) | none => none
  | .convert s d x => match litZ (ev x) with | some a => closedZ P (convert s d a) | none => none
  | .slice T x none none none => match ev x, P.underlying T with
    | .f (.one (.b (.ptr k off))), some (.array n e) => match sizeT P e with | some _ => some (.f (.one (.b (.slc k off n n)))) | none => none
    | .f (.one (.b (.slc k off n c))), some (.slice e) => match sizeT P e with | some _ => some (.f (.one (.b (.slc k off n c)))) | none => none
    | .f (.one (.b (.row k off n z))), some (.slice e) => match sizeT P e with | some _ => some (.f (.one (.b (.row k off n z)))) | none => none
    | _, _ => none
  | .call c => match c.callee with
    | .builtin .len => match c.argTypes[0]?, c.args.toList with
      | some T, [x] => match P.underlying T, ev x with
        | some (.slice _), .f (.one (.b (.slc _ _ n _))) => some (lv (.int .i64 n))
        | some (.slice _), .f (.one (.b (.row _ _ n _))) => some (lv (.int .i64 n))
        | some (.slice _), .f (.one (.b (.lit (.slice none 0 0)))) => some (lv (.int .i64 0))
        | some .string, .f (.one (.b (.lit (.string s)))) => some (lv (.int .i64 s.size))
        | _, _ => none
      | _, _ => none
    | .builtin b => match litsV (c.args.toList.map ev) with
      | some vs => match evalP P (builtin b c.argTypes o.type (c.args.map fun | .const _ => true | _ => false) vs.toArray) with
        | some (.value v) => some (constZ v)
        | _ => none
      | none => none
    | _ => none
  | _ => none
end Go.Proofs.YtgkpejlddgoalaaGreatDoor.Zm
namespace Go.Proofs.YtgkpejlddgoalaaGreatDoor.Zm
open Go.RowKit
open Go.Proofs.YtgkpejlddgoalaaGreatDoor.Ab (evalP evalP_run sizeT rowB placesA zerosN run_v run_isAgg run_sizeT sizeT_info rowB_some add_off take_one cells_at range_at fill_foldl fill_step)

variable {P : Program} {ev : Operand → V} {H : Hp} {σ : Env} {w : World} {ρ : Operand → Value} {o : Oper} {x : V}

theorem hold_ptr {k off : Nat} {v : Value} (h : (V.f (.one (.b (.ptr k off)))).holds σ v) : ∃ g n, σ k = some (g, n) ∧ v = .pointer (some ⟨g, off, none⟩) := h
theorem hold_lv {u v : Value} (h : (lv u).holds σ v) : v = u := h.1
theorem intZ_holds {y : V} {i : Int} {v : Value} (h : intZ y = some i) (hv : y.holds σ v) : ∃ k, v = .int k i := by
  unfold intZ at h
  split at h
  · injection h with h
    subst h
    exact ⟨_, hv.1⟩
  · cases h
theorem take_eq {cs js : List Value} {off n : Nat} (h : off + n ≤ cs.length) : ((cs ++ js).drop off).take n = (cs.drop off).take n := by
  rw [List.drop_append_of_le_length (by omega), List.take_append_of_le_length (by rw [List.length_drop]; omega)]
theorem partZ_cases {T : TypeId} {l : List C} {off : Nat} (h : partZ P T l off = some x) :
    (∃ n, sizeT P T = some n ∧ rowB P T = some true ∧ off + n ≤ l.length ∧ x = .f (.agg ((l.drop off).take n))) ∨ (sizeT P T = some 1 ∧ rowB P T = some false ∧ ∃ c, l[off]? = some c ∧ x = .f (.one c)) := by
  unfold partZ at h
  split at h
  · rename_i n h1 h2
    split at h
    · rename_i h3
      injection h with h
      exact .inl ⟨n, h1, h2, h3, h.symm⟩
    · cases h
  · rename_i h1 h2
    split at h
    · rename_i c h3
      injection h with h
      exact .inr ⟨h1, h2, c, h3, h.symm⟩
    · cases h
  · cases h
theorem part_load {T T' : TypeId} {l : List C} {off g : Nat} {cs js : List Value} {fr : Nat × Nat} (h : partZ P T l off = some x) (hg : w.heap[g]? = some (.cells (cs ++ js).toArray T' fr)) (hl : holdsC σ l cs) :
    ∃ v, (loadVar T ⟨g, off, none⟩).run P w = .ok v w ∧ x.holds σ v := by
  have hlen := lenC hl
  rcases partZ_cases h with ⟨n, hn, hr, hle, rfl⟩ | ⟨hn, hr, c, hc, rfl⟩
  · obtain ⟨d, hd, hd2⟩ := rowB_some hr
    obtain ⟨i, hi, hi2⟩ := sizeT_info hn
    refine ⟨_, run_loadVar_mid w g off T ((cs.drop off).take n) d (by have := range_at hg off n; rwa [take_eq (by omega)] at this) hd hd2 ?_, _, rfl, takeC n (dropC off hl)⟩
    rw [hi, Option.map_some, hi2, List.length_take, List.length_drop, Nat.min_eq_left (by omega)]
  · obtain ⟨d, hd, hd2⟩ := rowB_some hr
    obtain ⟨v, hv, hx⟩ := getC hl hc
    refine ⟨v, ?_, hx⟩
    unfold loadVar
    rw [Sem.run_bind, run_isAgg hd w, hd2]
    have hcell : w.cell? ⟨g, off, none⟩ = some v := by
      rw [cells_at hg, List.getElem?_append_left (List.getElem?_eq_some_iff.1 hv).1]; exact hv
    simp [Result.andThen, hcell]
theorem cellsOf_at {k : Nat} {l : List C} (h : cellsOf H k = some l) (hm : HRep σ H w) : ∃ g T fr, ∃ cs js : List Value, σ k = some (g, (cs ++ js).length) ∧ w.heap[g]? = some (.cells (cs ++ js).toArray T fr) ∧ holdsC σ l cs := by
  unfold cellsOf at h
  split at h
  · rename_i T l' hk
    injection h with h
    subst h
    obtain ⟨g, cs, h1, h2, h3⟩ := hm.blk _ _ hk
    exact ⟨g, T, _, cs, [], by rw [List.append_nil]; exact h1, by rw [List.append_nil]; exact h2, h3⟩
  · rename_i T l' hk
    injection h with h
    subst h
    obtain ⟨g, cs, js, h1, h2, h3⟩ := hm.blk _ _ hk
    exact ⟨g, T, _, cs, js, h1, h2, h3⟩
  · rename_i T l' hk
    injection h with h
    subst h
    obtain ⟨g, cs, js, U, fr, h1, h2, h3⟩ := hm.blk _ _ hk
    exact ⟨g, U, fr, cs, js, h1, h2, h3⟩
  · cases h
theorem part_run {T : TypeId} {l : List C} {off : Nat} {cs : List Value} (h : partZ P T l off = some x) (hl : holdsC σ l cs) :
    ∃ v, (part T cs.toArray off).run P w = .ok v w ∧ x.holds σ v := by
  have hlen := lenC hl
  rcases partZ_cases h with ⟨n, hn, hr, hle, rfl⟩ | ⟨hn, hr, c, hc, rfl⟩
  · obtain ⟨d, hd, hd2⟩ := rowB_some hr
    refine ⟨.agg ((cs.drop off).take n).toArray, ?_, _, rfl, takeC n (dropC off hl)⟩
    unfold part
    rw [Sem.run_bind, run_isAgg hd w, hd2]
    simp only [Result.andThen, if_true, Sem.run_bind, run_sizeT hn w, Sem.run_pure]
    congr 2
    apply Array.toList_inj.1
    simp [Array.toList_extract]
  · obtain ⟨d, hd, hd2⟩ := rowB_some hr
    obtain ⟨v, hv, hx⟩ := getC hl hc
    refine ⟨v, ?_, hx⟩
    unfold part
    rw [Sem.run_bind, run_isAgg hd w, hd2]
    simp [Result.andThen, hv]
theorem zerosZ_run {T : TypeId} {l : List C} (h : zerosZ P T = some l) : ∃ z, (P.info? T).bind (·.zero) = some z ∧ (∀ w, (zeroValue T).run P w = .ok z w) ∧ l = z.cells.toList.map lc ∧ z.cells.toList.all (·.oneCell') = true := by
  unfold zerosZ at h
  split at h
  · rename_i z hz
    split at h
    · rename_i h1
      injection h with h
      refine ⟨z, hz, fun w => ?_, h.symm, h1⟩
      rw [Option.bind_eq_some_iff] at hz
      obtain ⟨i, hi, hz⟩ := hz
      simp [zeroValue, typeInfo, hi, hz]
    · cases h
  · cases h
theorem closedZ_val {s : Sem Value} (h : closedZ P s = some x) (σ : Env) (w : World) : ∃ v, s.run P w = .ok v w ∧ x.holds σ v := by
  unfold closedZ at h
  split at h
  · rename_i v hv
    injection h with h
    subst h
    exact ⟨v, evalP_run hv w, constZ_holds v⟩
  · cases h
theorem putZ_holds {l m l' : List C} {off : Nat} {cs ds : List Value} (h : putZ l off m = some l') (hl : holdsC σ l cs) (hm : holdsC σ m ds) : holdsC σ l' (cs.take off ++ ds ++ cs.drop (off + ds.length)) ∧ off + ds.length ≤ cs.length := by
  unfold putZ at h
  split at h
  · rename_i hle
    injection h with h
    subst h
    rw [lenC hm, lenC hl]
    exact ⟨appC (appC (takeC _ hl) hm) (dropC _ hl), hle⟩
  · cases h
theorem cells_one {v : Value} (h : v.oneCell' = true) : v.cells = #[v] := by cases v <;> simp_all [Value.cells, Value.oneCell']
theorem fillZ_run {place : Nat → Option (Nat × Nat)} : ∀ {parts : List (Nat × Operand)} {l l' : List C} {cs : Array Value}, fillZ place (parts.map fun p => (p.1, ev p.2)) l = some l' → holdsC σ l cs.toList →
    (∀ p ∈ parts, (ev p.2).holds σ (ρ p.2)) → ∃ ds : Array Value, Instr.fill place cs (parts.map fun p => (p.1, ρ p.2)) = some ds ∧ holdsC σ l' ds.toList
  | [], l, l', cs, h, hl, _ => by injection h with h; subst h; exact ⟨cs, rfl, hl⟩
  | (i, y) :: parts, l, l', cs, h, hl, hp => by
    have hy := hp (i, y) (by simp)
    have hp' : ∀ p ∈ parts, (ev p.2).holds σ (ρ p.2) := fun p hm => hp p (by simp [hm])
    simp only [List.map_cons, fillZ] at h
    simp only at hy
    split at h
    · rename_i off n c hpl hev
      rw [hev] at hy
      split at h
      · rename_i hn
        simp only [beq_iff_eq] at hn
        split at h
        · rename_i l2 hr
          obtain ⟨h1, h2⟩ := putZ_holds (ds := [ρ y]) hr hl ⟨ρ y, [], rfl, hy, rfl⟩
          have hc := cells_one (C.one hy)
          simp only [List.length_singleton] at h2
          rw [Array.length_toList] at h2
          obtain ⟨ds, hd, hd2⟩ := fillZ_run (cs := [ρ y].toArray.zipIdx.foldl (fun cs (c, j) => cs.setIfInBounds (off + j) c) cs) h (by
            rw [fill_foldl cs [ρ y] off (by simpa using h2)]
            exact h1) hp'
          refine ⟨ds, ?_, hd2⟩
          rw [List.map_cons, fill_step hpl (by rw [hc]; simp; omega) (by rw [hc]; simp; omega), hc]
          exact hd
        · cases h
      · cases h
    · rename_i off n m hpl hev
      rw [hev] at hy
      obtain ⟨es, he, hm⟩ := hy
      split at h
      · rename_i hn
        simp only [beq_iff_eq] at hn
        split at h
        · rename_i l2 hr
          obtain ⟨h1, h2⟩ := putZ_holds hr hl hm
          have hlen := lenC hm
          simp only [Array.length_toList] at h2
          obtain ⟨ds, hd, hd2⟩ := fillZ_run (cs := es.toArray.zipIdx.foldl (fun cs (c, j) => cs.setIfInBounds (off + j) c) cs) h (by
            rw [fill_foldl cs es off (by omega)]
            exact h1) hp'
          refine ⟨ds, ?_, hd2⟩
          have hc : (ρ y).cells = es.toArray := by rw [he]; rfl
          rw [List.map_cons, fill_step hpl (by rw [hc]; simp; omega) (by rw [hc]; simp; omega), hc]
          exact hd
        · cases h
      · cases h
    · cases h
theorem basicZ_holds : ∀ {l : List C} {m : List B} {vs : List Value}, basicZ l = some m → holdsC σ l vs → holdsB σ m vs
  | [], _, _, h, h' => by injection h with h; subst h; exact h'
  | .b x :: l, _, _, h, ⟨v, r, e, h1, h2⟩ => by
    simp only [basicZ] at h
    split at h
    · rename_i r' hr
      injection h with h
      subst h
      exact ⟨v, r, e, h1, basicZ_holds hr h2⟩
    · cases h
  | .fn .. :: _, _, _, h, _ => by cases h
theorem capZ_holds : ∀ {l : List Operand} {m : List (Bool × List B)}, capZ (l.map ev) = some m → (∀ y ∈ l, (ev y).holds σ (ρ y)) → capsHold σ m (l.map ρ)
  | [], m, h, _ => by injection h with h; subst h; rfl
  | y :: l, m, h, hs => by
    have hy := hs y (by simp)
    have hl : ∀ z ∈ l, (ev z).holds σ (ρ z) := fun z hz => hs z (by simp [hz])
    rw [List.map_cons] at h
    generalize ev y = x at h hy
    unfold capZ at h
    split at h
    · rename_i e; cases e
    · rename_i b l' e
      injection e with e1 e2
      subst e1 e2
      split at h
      · rename_i r hr
        injection h with h
        subst h
        exact ⟨ρ y, l.map ρ, rfl, ⟨ρ y, [], rfl, hy, rfl⟩, capZ_holds hr hl⟩
      · cases h
    · rename_i b l' e
      injection e with e1 e2
      subst e1 e2
      split at h
      · rename_i m' r hm hr
        injection h with h
        subst h
        obtain ⟨cs, e, hc⟩ := hy
        exact ⟨ρ y, l.map ρ, rfl, ⟨cs, e, basicZ_holds hm hc⟩, capZ_holds hr hl⟩
      · cases h
    · cases h
theorem litsV_holds : ∀ {l : List Operand} {vs : List Value}, litsV (l.map ev) = some vs → (∀ y ∈ l, (ev y).holds σ (ρ y)) → l.map ρ = vs
  | [], vs, h, _ => by simpa [litsV] using h
  | y :: l, vs, h, hs => by
    simp only [List.map_cons, litsV] at h
    split at h
    · rename_i v r hv hr
      injection h with h
      subst h
      rw [List.map_cons, litZ_holds hv (hs y (by simp)), litsV_holds hr (fun z hz => hs z (by simp [hz]))]
    · cases h
set_option maxHeartbeats 1000000 in
theorem valZ_ok (h : valZ P ev H o = some x) (hs : ∀ y ∈ o.op.operands, (ev y).holds σ (ρ y)) (hm : HRep σ H w) : ∃ v, (execOp ρ o).run P w = .ok (.value v) w ∧ x.holds σ v := by
  obtain ⟨dst, op, type, pos, after, guard⟩ := o
  cases op <;> simp only [valZ] at h
  case move y => injection h with h; subst h; exact ⟨_, rfl, hs y (by simp [Op.operands])⟩
  case assign y => injection h with h; subst h; exact ⟨_, rfl, hs y (by simp [Op.operands])⟩
  case pick c a b =>
    split at h
    · rename_i hc
      injection h with h
      have h1 := hs c (by simp [Op.operands])
      rw [hc] at h1
      have h2 := hold_lv h1
      refine ⟨ρ a, ?_, by subst h; exact hs a (by simp [Op.operands])⟩
      simp [execOp, h2, asBool]
    · rename_i hc
      injection h with h
      have h1 := hs c (by simp [Op.operands])
      rw [hc] at h1
      have h2 := hold_lv h1
      refine ⟨ρ b, ?_, by subst h; exact hs b (by simp [Op.operands])⟩
      simp [execOp, h2, asBool]
    · cases h
  case load T y =>
    split at h
    · rename_i k off hy
      split at h
      · rename_i l hb
        have h1 := hs y (by simp [Op.operands])
        rw [hy] at h1
        obtain ⟨g, n, hg, hv⟩ := hold_ptr h1
        obtain ⟨g', T', fr, cs, js, hg', hh, hl⟩ := cellsOf_at hb hm
        rw [hg] at hg'
        simp only [Option.some.injEq, Prod.mk.injEq] at hg'
        obtain ⟨rfl, _⟩ := hg'
        obtain ⟨v, hr, hx⟩ := part_load h hh hl
        refine ⟨v, ?_, hx⟩
        simp only [execOp, Instr.loadAt, hv, Instr.sureAddr]
        exact run_v (by simpa [Sem.run_bind] using hr)
      · cases h
    · cases h
  case fieldAddr T y i =>
    split at h
    · rename_i k off fs hy hu
      split at h
      · rename_i f hf
        split at h
        · rename_i n hn
          injection h with h
          subst h
          have h1 := hs y (by simp [Op.operands])
          rw [hy] at h1
          obtain ⟨g, n', hg, hv⟩ := hold_ptr h1
          refine ⟨.pointer (some ⟨g, off + f.offset, none⟩), ?_, ⟨g, n', hg, rfl⟩⟩
          simp only [execOp]
          refine run_v ?_
          simp only [Instr.fieldAt, Sem.run_bind, run_underlying hu, Result.andThen, hf, hv, Instr.sureAddr, Sem.run_pure, fieldPlace, run_sizeT hn, add_off]
          rfl
        · cases h
      · cases h
    · cases h
  case field T y i =>
    split at h
    · rename_i l fs hy hu
      split at h
      · rename_i f hf
        have h1 := hs y (by simp [Op.operands])
        rw [hy] at h1
        obtain ⟨cs, hv, hl⟩ := h1
        obtain ⟨v, hr, hx⟩ := part_run (w := w) h hl
        refine ⟨v, ?_, hx⟩
        simp only [execOp]
        refine run_v ?_
        simp only [Instr.field, Sem.run_bind, run_underlying hu, Result.andThen, hf, hv, asAgg, Sem.run_pure, hr]
      · cases h
    · cases h
  case indexAddr T y ix =>
    split at h
    · rename_i k off i len e hy hi hu
      split at h
      · rename_i hb
        split at h
        · rename_i n hn
          injection h with h
          subst h
          have h1 := hs y (by simp [Op.operands])
          rw [hy] at h1
          obtain ⟨g, n', hg, hv⟩ := hold_ptr h1
          obtain ⟨kd, hv2⟩ := intZ_holds hi (hs ix (by simp [Op.operands]))
          refine ⟨.pointer (some ⟨g, off + i.toNat * n, none⟩), ?_, ⟨g, n', hg, rfl⟩⟩
          simp only [execOp]
          refine run_v ?_
          simp [Instr.indexAt, Sem.run_bind, run_underlying hu, Result.andThen, hv, hv2, asIntOf, Instr.sureAddr, run_sizeT hn, add_off, hb.1, hb.2]
        · cases h
      · cases h
    · rename_i k off n c i e hy hi hu
      split at h
      · rename_i hb
        split at h
        · rename_i m hm2
          injection h with h
          subst h
          have h1 := hs y (by simp [Op.operands])
          rw [hy] at h1
          obtain ⟨g, n', hg, hv⟩ := h1
          obtain ⟨kd, hv2⟩ := intZ_holds hi (hs ix (by simp [Op.operands]))
          refine ⟨.pointer (some ⟨g, off + i.toNat * m, none⟩), ?_, ⟨g, n', hg, rfl⟩⟩
          simp only [execOp]
          refine run_v ?_
          simp [Instr.indexAt, Sem.run_bind, run_underlying hu, Result.andThen, hv, hv2, asIntOf, run_sizeT hm2, add_off, hb.1, hb.2]
        · cases h
      · cases h
    · rename_i k off n sz i e hy hi hu
      split at h
      · rename_i hb
        split at h
        · rename_i m hm2
          injection h with h
          subst h
          have h1 := hs y (by simp [Op.operands])
          rw [hy] at h1
          obtain ⟨g, n', c, hg, _, _, _, hv⟩ := h1
          obtain ⟨kd, hv2⟩ := intZ_holds hi (hs ix (by simp [Op.operands]))
          refine ⟨.pointer (some ⟨g, off + i.toNat * m, none⟩), ?_, ⟨g, n', hg, rfl⟩⟩
          simp only [execOp]
          refine run_v ?_
          simp [Instr.indexAt, Sem.run_bind, run_underlying hu, Result.andThen, hv, hv2, asIntOf, run_sizeT hm2, add_off, hb.1, hb.2]
        · cases h
      · cases h
    · cases h
  case index T y ix =>
    split at h
    · rename_i l i len e hy hi hu
      split at h
      · rename_i hb
        split at h
        · rename_i n hn
          have h1 := hs y (by simp [Op.operands])
          rw [hy] at h1
          obtain ⟨cs, hv, hl⟩ := h1
          obtain ⟨kd, hv2⟩ := intZ_holds hi (hs ix (by simp [Op.operands]))
          obtain ⟨v, hr, hx⟩ := part_run (w := w) h hl
          refine ⟨v, ?_, hx⟩
          simp only [execOp]
          refine run_v ?_
          simp [Instr.index, Sem.run_bind, run_underlying hu, Result.andThen, hv, hv2, asIntOf, run_sizeT hn, hb.1, hb.2, hr]
        · cases h
      · cases h
    · rename_i s i hy hi hu
      split at h
      · rename_i h0
        split at h
        · rename_i c hc
          injection h with h
          subst h
          have h1 := hs y (by simp [Op.operands])
          rw [hy] at h1
          have hv := hold_lv h1
          obtain ⟨kd, hv2⟩ := intZ_holds hi (hs ix (by simp [Op.operands]))
          refine ⟨.int .u8 c.toNat, ?_, ⟨rfl, rfl⟩⟩
          simp only [execOp]
          refine run_v ?_
          have hlt : i.toNat < s.size := by
            rcases Nat.lt_or_ge i.toNat s.size with hh | hh
            · exact hh
            · rw [getElem?_neg s i.toNat (by omega)] at hc; cases hc
          have he : s[i.toNat]'hlt = c := by rw [getElem?_pos s i.toNat hlt] at hc; injection hc
          have hlt2 : i < (s.size : Int) := by omega
          simp [Instr.index, Sem.run_bind, run_underlying hu, Result.andThen, hv, hv2, asIntOf, h0, hlt, hlt2, he]
        · cases h
      · cases h
    · cases h
  case nilCheck y =>
    split at h
    · rename_i k off hy
      injection h with h
      subst h
      have h1 := hs y (by simp [Op.operands])
      rw [hy] at h1
      obtain ⟨g, n, hg, hv⟩ := hold_ptr h1
      refine ⟨.pointer (some ⟨g, off, none⟩), ?_, ⟨g, n, hg, rfl⟩⟩
      simp only [execOp, hv]
      rfl
    · cases h
  case extract y i =>
    split at h
    · rename_i l hy
      split at h
      · rename_i f hf
        injection h with h
        subst h
        have h1 := hs y (by simp [Op.operands])
        rw [hy] at h1
        obtain ⟨vs, hv, hl⟩ := h1
        obtain ⟨v, hv2, hx⟩ := getF hl hf
        refine ⟨v, ?_, hx⟩
        simp only [execOp]
        refine run_v ?_
        simp [Instr.extract, hv, hv2]
      · cases h
    · cases h
  case build T parts =>
    have hp : ∀ p ∈ parts.toList, (ev p.2).holds σ (ρ p.2) := fun p hm => hs p.2 (by
      simp only [Op.operands]
      exact List.mem_toArray.2 (List.mem_map.2 ⟨p, hm, rfl⟩))
    split at h
    · rename_i z fs hz hu
      split at h
      · rename_i pl hpl
        split at h
        · rename_i l hl
          injection h with h
          subst h
          obtain ⟨zv, hzi, _, rfl, hone⟩ := zerosZ_run hz
          obtain ⟨ds, hd, hd2⟩ := fillZ_run (cs := zv.cells) hl (litsC hone) hp
          refine ⟨.agg ds, ?_, ⟨ds.toList, by simp, hd2⟩⟩
          simp only [execOp]
          refine run_v (run_build w T _ ds ?_)
          rw [Option.bind_eq_some_iff] at hzi
          obtain ⟨i, hi, hz2⟩ := hzi
          have hpl' : fs.toList.mapM (fun f => (P.info? f.type).map fun i => (f.offset, i.size)) = some pl := hpl
          simp only [Program.built, hi, hu, hz2, hpl']
          simpa using hd
        · cases h
      · cases h
    · rename_i z n e hz hu
      split at h
      · rename_i m hn
        split at h
        · rename_i l hl
          injection h with h
          subst h
          obtain ⟨zv, hzi, _, rfl, hone⟩ := zerosZ_run hz
          obtain ⟨ds, hd, hd2⟩ := fillZ_run (cs := zv.cells) hl (litsC hone) hp
          refine ⟨.agg ds, ?_, ⟨ds.toList, by simp, hd2⟩⟩
          simp only [execOp]
          refine run_v (run_build w T _ ds ?_)
          rw [Option.bind_eq_some_iff] at hzi
          obtain ⟨i, hi, hz2⟩ := hzi
          obtain ⟨ie, hie, hie2⟩ := sizeT_info hn
          simp only [Program.built, hi, hu, hz2, hie, hie2]
          simpa using hd
        · cases h
      · cases h
    · cases h
  case slice T y lo hi mx =>
    cases lo <;> cases hi <;> cases mx <;> simp only at h <;> try (cases h; done)
    split at h
    · rename_i k off n e hy hu
      split at h
      · rename_i m hn
        injection h with h
        subst h
        have h1 := hs y (by simp [Op.operands])
        rw [hy] at h1
        obtain ⟨g, n', hg, hv⟩ := hold_ptr h1
        refine ⟨.slice (some ⟨g, off, none⟩) n n, ?_, ⟨g, n', hg, rfl⟩⟩
        simp only [execOp, Option.map_none]
        refine run_v ?_
        have h0 : ∀ c : Prop, [Decidable c] → (if c then (⟨g, off, none⟩ : Addr) else (⟨g, off, none⟩ : Addr).add (0 * m)) = ⟨g, off, none⟩ := fun c _ => by split <;> simp [add_off]
        simp [Instr.sliceAt, Sem.run_bind, run_underlying hu, Result.andThen, hv, Instr.sureAddr, Instr.sliceBounds, run_sizeT hn]
        have := h0 (n = 0)
        simpa using this
      · cases h
    · rename_i k off n c e hy hu
      split at h
      · rename_i m hn
        injection h with h
        subst h
        have h1 := hs y (by simp [Op.operands])
        rw [hy] at h1
        obtain ⟨g, n', hg, hv⟩ := h1
        refine ⟨.slice (some ⟨g, off, none⟩) n c, ?_, ⟨g, n', hg, rfl⟩⟩
        simp only [execOp, Option.map_none]
        refine run_v ?_
        simp [Instr.sliceAt, Instr.slice, Sem.run_bind, run_underlying hu, Result.andThen, hv, Instr.sureAddr, Instr.sliceBounds, run_sizeT hn, add_off]
      · cases h
    · rename_i k off n z e hy hu
      split at h
      · rename_i m hn
        injection h with h
        subst h
        have h1 := hs y (by simp [Op.operands])
        rw [hy] at h1
        obtain ⟨g, n', c, hg, hx1, hx2, hx3, hv⟩ := h1
        refine ⟨.slice (some ⟨g, off, none⟩) n c, ?_, ⟨g, n', c, hg, hx1, hx2, hx3, rfl⟩⟩
        simp only [execOp, Option.map_none]
        refine run_v ?_
        simp [Instr.sliceAt, Instr.slice, Sem.run_bind, run_underlying hu, Result.andThen, hv, Instr.sureAddr, Instr.sliceBounds, run_sizeT hn, add_off]
      · cases h
    · cases h
  case binOp op T a b yt =>
    split at h
    · rename_i u v hu hv
      have h1 := litZ_holds hu (hs a (by simp [Op.operands]))
      have h2 := litZ_holds hv (hs b (by simp [Op.operands]))
      obtain ⟨r, hr, hx⟩ := closedZ_val h σ w
      refine ⟨r, ?_, hx⟩
      simp only [execOp, h1, h2]
      exact run_v hr
    · cases h
  case makeFunc fn first cap =>
    cases fn with
    | func F =>
      simp only at h
      split at h
      · rename_i a b ha hb
        injection h with h
        subst h
        refine ⟨.func (.func F) (first.map ρ) (cap.map ρ), rfl, first.toList.map ρ, cap.toList.map ρ, ?_, ?_, ?_⟩
        · congr 1 <;> (apply Array.toList_inj.1; simp)
        · exact capZ_holds ha (fun y hy => hs y (by simp only [Op.operands, Array.mem_append]; exact .inl (by simpa using hy)))
        · exact capZ_holds hb (fun y hy => hs y (by simp only [Op.operands, Array.mem_append]; exact .inr (by simpa using hy)))
      · cases h
    | _ => cases h
  case unOp op T a =>
    split at h
    · rename_i u hu
      have h1 := litZ_holds hu (hs a (by simp [Op.operands]))
      obtain ⟨r, hr, hx⟩ := closedZ_val h σ w
      refine ⟨r, ?_, hx⟩
      simp only [execOp, h1]
      exact run_v hr
    · cases h
  case convert s d a =>
    split at h
    · rename_i u hu
      have h1 := litZ_holds hu (hs a (by simp [Op.operands]))
      obtain ⟨r, hr, hx⟩ := closedZ_val h σ w
      refine ⟨r, ?_, hx⟩
      simp only [execOp, h1]
      exact run_v hr
    · cases h
  case call c =>
    split at h
    · rename_i hc
      split at h
      · rename_i T y ht ha
        have hmem : y ∈ c.operands := by
          simp only [Call.operands, hc, Array.mem_append]
          exact .inr (by rw [← Array.mem_toList_iff, ha]; simp)
        have h1 := hs y (by simpa [Op.operands] using hmem)
        have hlen : ∀ {u : Value} {m : Nat}, ρ y = u → (Builtin.len_ c.argTypes type #[u]).run P w = Result.ok (.int .i64 (m : Int)) w → (execOp ρ ⟨dst, .call c, type, pos, after, guard⟩).run P w = .ok (.value (.int .i64 (m : Int))) w := by
          intro u m hu hb
          have harg : c.args.map ρ = #[u] := by
            apply Array.toList_inj.1
            rw [Array.toList_map, ha, List.map_singleton, hu]
          simp only [execOp, resolve, hc, Sem.run_bind, Sem.run_pure, Result.andThen, invoke, builtin, harg]
          rw [hb]
        split at h
        · rename_i e k off n c' hu hy
          injection h with h
          subst h
          rw [hy] at h1
          obtain ⟨g, _, hg, hv⟩ := h1
          exact ⟨.int .i64 n, hlen hv (by simp [Builtin.len_, ht, Sem.run_bind, run_underlying hu, Result.andThen, goInt]), ⟨rfl, rfl⟩⟩
        · rename_i e k off n c' hu hy
          injection h with h
          subst h
          rw [hy] at h1
          obtain ⟨g, _, _, hg, _, _, _, hv⟩ := h1
          exact ⟨.int .i64 n, hlen hv (by simp [Builtin.len_, ht, Sem.run_bind, run_underlying hu, Result.andThen, goInt]), ⟨rfl, rfl⟩⟩
        · rename_i e hu hy
          injection h with h
          subst h
          rw [hy] at h1
          exact ⟨.int .i64 0, hlen (m := 0) (hold_lv h1) (by simp [Builtin.len_, ht, Sem.run_bind, run_underlying hu, Result.andThen, goInt]), ⟨rfl, rfl⟩⟩
        · rename_i s hu hy
          injection h with h
          subst h
          rw [hy] at h1
          exact ⟨.int .i64 s.size, hlen (hold_lv h1) (by simp [Builtin.len_, ht, Sem.run_bind, run_underlying hu, Result.andThen, goInt]), ⟨rfl, rfl⟩⟩
        · cases h
      · cases h
    · rename_i b _ hc
      split at h
      · rename_i vs hvs
        split at h
        · rename_i v hv
          injection h with h
          subst h
          have he := litsV_holds hvs (fun y hm => hs y (by
            simp only [Op.operands, Call.operands, hc, Array.mem_append]
            exact .inr (by simpa using hm)))
          have harg : c.args.map ρ = vs.toArray := by
            apply Array.toList_inj.1
            rw [Array.toList_map, he]
          refine ⟨v, ?_, constZ_holds v⟩
          simp only [execOp, resolve, hc, Sem.run_bind, Sem.run_pure, Result.andThen, invoke, harg]
          exact evalP_run hv w
        · cases h
      · cases h
    · cases h
  all_goals (cases h)
end Go.Proofs.YtgkpejlddgoalaaGreatDoor.Zm
