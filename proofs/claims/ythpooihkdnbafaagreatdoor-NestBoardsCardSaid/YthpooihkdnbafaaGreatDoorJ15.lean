/- Parts of the proof, joined. -/
import Derived.Test.YthpooihkdnbafaaGreatDoorProg
import Derived.OpenShut
import Derived.ChangeArms
set_option linter.unusedSimpArgs false
set_option linter.unusedVariables false
set_option linter.constructorNameAsVariable false
namespace Go.Proofs.YthpooihkdnbafaaGreatDoor.Ab
open Go.ChangeShapes Go.WideShapes Go.RowKit

/-- What the i-th cell of a type is: a text, or a number. -/
def kindAt (P : Program) : Nat → TypeId → Nat → Option Bool
  | 0, _, _ => none
  | d + 1, T, i => match P.underlying T with
    | some (.int .i64) => if i = 0 then some false else none
    | some .string => if i = 0 then some true else none
    | some (.array n e) => if 0 < P.cellsOf e ∧ i / P.cellsOf e < n then kindAt P d e (i % P.cellsOf e) else none
    | some (.struct fs) => (fs.toList.find? fun f => decide (f.offset ≤ i ∧ i < f.offset + P.cellsOf f.type)).bind fun f => kindAt P d f.type (i - f.offset)
    | _ => none
def isKind : Bool → Value → Prop
  | true, c => ∃ s : ByteArray, c = .string s ∧ s.size ≤ maxLen
  | false, c => ∃ n : Int, c = .int .i64 n ∧ (Lit.int .i64 n).wf = true
section
variable {H : Type} {enc : TypeId × Value → H} {P : Program} {w : World} {base : Nat} {spare : Nat → Bool} {held : Bool}
theorem piece {cs : List Value} {o n r : Nat} {c : Value} (h : ((cs.drop o).take n)[r]? = some c) : cs[o + r]? = some c := by
  rw [List.getElem?_take] at h
  split at h
  · rw [List.getElem?_drop] at h; exact h
  · cases h
theorem trod_kind : ∀ (d : Nat) {T : TypeId} {fuel i : Nat} {cs : List Value} {x : DataW H × List MemPlace} {k : Bool}, DataW.trod enc P w base spare held fuel T cs = some x → kindAt P d T i = some k → ∃ c, cs[i]? = some c ∧ isKind k c := by
  intro d
  induction d with
  | zero => intro T fuel i cs x k _ hk; cases hk
  | succ d ih =>
    intro T fuel i cs x k h hk
    unfold kindAt at hk
    split at hk
    · rename_i hu
      split at hk <;> cases hk
      rename_i h0
      subst h0
      cases fuel with
      | zero => cases h
      | succ m =>
        unfold DataW.trod at h
        rw [hu] at h
        split at h <;> simp_all
        obtain ⟨⟨_, hw⟩, _⟩ := h
        cases ‹IntKind.i64 = _›
        exact ⟨_, rfl, hw⟩
    · rename_i hu
      split at hk <;> cases hk
      rename_i h0
      subst h0
      cases fuel with
      | zero => cases h
      | succ m =>
        unfold DataW.trod at h
        rw [hu] at h
        split at h <;> simp_all
        exact ⟨_, rfl, h.1⟩
    · rename_i n e hu
      split at hk
      · rename_i hi
        obtain ⟨xs, m, _, _, _, hlen, hat⟩ := DataW.trod_array hu h
        have hq := hat (i / P.cellsOf e) hi.2
        rw [List.getElem?_eq_getElem (by omega)] at hq
        obtain ⟨c, hc, hk'⟩ := ih hq hk
        refine ⟨c, ?_, hk'⟩
        have := piece hc
        rw [Nat.mul_comm, Nat.div_add_mod] at this
        exact this
      · cases hk
    · rename_i fs hu
      rw [Option.bind_eq_some_iff] at hk
      obtain ⟨f, hf, hk⟩ := hk
      have hp := List.find?_some hf
      simp only [decide_eq_true_eq] at hp
      obtain ⟨j, hj, hje⟩ := List.getElem_of_mem (List.mem_of_find?_eq_some hf)
      obtain ⟨xs, n, _, _, _, hlen, hat⟩ := DataW.trod_struct hu h
      have hq := hat j f (by rw [← hje]; simp)
      rw [List.getElem?_eq_getElem (by simp at hj; omega)] at hq
      obtain ⟨c, hc, hk'⟩ := ih hq hk
      refine ⟨c, ?_, hk'⟩
      have := piece hc
      rw [show f.offset + (i - f.offset) = i by omega] at this
      exact this
    · cases hk
/-- A type of numbers and texts alone. -/
def plainT (P : Program) : Nat → TypeId → Bool
  | 0, _ => false
  | d + 1, T => match P.underlying T with
    | some (.int _) | some .string => true
    | some (.array _ e) => plainT P d e
    | some (.struct fs) => fs.toList.all fun f => plainT P d f.type
    | _ => false
theorem mapM_same {α β : Type} {f g : α → Option (β × List MemPlace)} : ∀ {l : List α} {xs : List (β × List MemPlace)}, l.mapM f = some xs → (∀ a ∈ l, ∀ x, f a = some x → g a = some x ∧ x.2 = []) → l.mapM g = some xs ∧ xs.flatMap (·.2) = []
  | [], xs, h, _ => by simp at h; subst h; exact ⟨rfl, rfl⟩
  | a :: l, xs, h, hs => by
    rw [List.mapM_cons] at h
    simp only [bind, Option.bind_eq_some_iff, pure, Option.some.injEq] at h
    obtain ⟨y, hy, ys, hys, rfl⟩ := h
    obtain ⟨g1, g2⟩ := hs a (by simp) y hy
    obtain ⟨i1, i2⟩ := mapM_same hys fun b hb => hs b (by simp [hb])
    exact ⟨by rw [List.mapM_cons, g1, i1]; rfl, by simp [g2, i2]⟩
/-- The reading of a type of plain data asks no memory. -/
def SameRead (enc : TypeId × Value → H) (P : Program) (w : World) (base : Nat) (spare : Nat → Bool) (held : Bool) (w' : World) (base' : Nat) (spare' : Nat → Bool) (d : Nat) : Prop :=
  ∀ (T : TypeId) (fuel : Nat) (cs : List Value) (x : DataW H × List MemPlace), plainT P d T = true → DataW.trod enc P w base spare held fuel T cs = some x → DataW.trod enc P w' base' spare' held fuel T cs = some x ∧ x.2 = []
theorem trod_plain {w' : World} {base' : Nat} {spare' : Nat → Bool} : ∀ d : Nat, SameRead enc P w base spare held w' base' spare' d := by
  intro d
  induction d with
  | zero => intro T fuel cs x hp; cases hp
  | succ d ih =>
    intro T fuel cs x hp h
    cases fuel with
    | zero => cases h
    | succ m =>
      unfold plainT at hp
      unfold DataW.trod at h ⊢
      split at hp
      · rename_i hu
        rw [hu] at h ⊢
        split at h <;> simp_all <;> (obtain ⟨_, h⟩ := h; rw [← h])
      · rename_i hu
        rw [hu] at h ⊢
        split at h <;> simp_all <;> (obtain ⟨_, h⟩ := h; rw [← h])
      · rename_i hu
        rw [hu] at h ⊢
        split at h <;> simp_all
        obtain ⟨hl, xs, hxs, rfl⟩ := h
        obtain ⟨g1, g2⟩ := mapM_same hxs fun a _ x hx => ih _ _ _ _ hp hx
        exact ⟨⟨xs, g1, rfl⟩, g2⟩
      · rename_i hu
        rw [hu] at h ⊢
        split at h <;> simp_all
        obtain ⟨hl, xs, hxs, rfl⟩ := h
        obtain ⟨g1, g2⟩ := mapM_same hxs fun a ha x hx => ih _ _ _ _ (by obtain ⟨j, hj, rfl⟩ := List.getElem_of_mem ha; simpa using hp j (by simpa using hj)) hx
        exact ⟨⟨xs, g1, rfl⟩, g2⟩
      · cases hp
theorem Trod_plain {w' : World} {base' : Nat} {spare' : Nat → Bool} {T : TypeId} {v : Value} {D : DataW H} {p : List MemPlace} (hp : plainT P 10 T = true) (h : DataW.Trod enc P w base spare held T v D p) : p = [] ∧ DataW.Trod enc P w' base' spare' held T v D [] := by
  obtain ⟨fuel, hf⟩ := h
  obtain ⟨h1, h2⟩ := trod_plain (w' := w') (base' := base') (spare' := spare') 10 _ _ _ _ hp hf
  simp only at h2
  subst h2
  exact ⟨rfl, fuel, h1⟩
theorem agg_of {r : Reach} {b0 n : Nat} {T : TypeId} {v : Value} (hu : (match P.underlying T with | some (.struct _) | some (.array _ _) => true | _ => false) = true) (hC : P.cellsOf T = n) (hv : Value.okWide P w r b0 T v) : ∃ cs : Array Value, v = .agg cs ∧ cs.size = n := by
  split at hu
  · rename_i hs
    simp only [Value.okWide, hs] at hv
    obtain ⟨cs, h1, h2, _⟩ := hv
    exact ⟨cs, h1, h2.trans hC⟩
  · rename_i hs
    simp only [Value.okWide, hs] at hv
    obtain ⟨cs, h1, h2, _⟩ := hv
    exact ⟨cs, h1, h2.trans hC⟩
  · cases hu
theorem cell_at {T : TypeId} {cs : Array Value} {D : DataW H} {p : List MemPlace} {k : Bool} (i : Nat) (h : DataW.Trod enc P w base spare held T (.agg cs) D p) (hk : kindAt P 10 T i = some k) : ∃ c, cs[i]? = some c ∧ isKind k c := by
  obtain ⟨fuel, hf⟩ := h
  obtain ⟨c, h1, h2⟩ := trod_kind 10 hf hk
  exact ⟨c, by simpa [Value.cells] using h1, h2⟩
/-- Three texts. -/
theorem open_vec {r : Reach} {b0 : Nat} {T : TypeId} {v : Value} {D : DataW H} {p : List MemPlace} (hu : (match P.underlying T with | some (.struct _) | some (.array _ _) => true | _ => false) = true) (hC : P.cellsOf T = 3)
    (hk : (kindAt P 10 T 0, kindAt P 10 T 1, kindAt P 10 T 2) = (some true, some true, some true)) (hv : Value.okWide P w r b0 T v) (h : DataW.Trod enc P w base spare held T v D p) : ∃ a b c : ByteArray, v = .agg #[.string a, .string b, .string c] ∧ a.size ≤ maxLen ∧ b.size ≤ maxLen ∧ c.size ≤ maxLen := by
  simp only [Prod.mk.injEq] at hk
  obtain ⟨cs, rfl, hs⟩ := agg_of hu hC hv
  obtain ⟨c0, c1, c2, rfl⟩ : ∃ c0 c1 c2, cs = #[c0, c1, c2] := by
    obtain ⟨l⟩ := cs
    match l, hs with
    | [c0, c1, c2], _ => exact ⟨c0, c1, c2, rfl⟩
  obtain ⟨_, e0, a, rfl, ha⟩ := cell_at 0 h hk.1
  obtain ⟨_, e1, b, rfl, hb⟩ := cell_at 1 h hk.2.1
  obtain ⟨_, e2, c, rfl, hc⟩ := cell_at 2 h hk.2.2
  simp at e0 e1 e2
  subst e0 e1 e2
  exact ⟨a, b, c, rfl, ha, hb, hc⟩
/-- Texts alone. -/
theorem open_txts {r : Reach} {b0 n : Nat} {T : TypeId} {v : Value} {D : DataW H} {p : List MemPlace} (hu : (match P.underlying T with | some (.struct _) | some (.array _ _) => true | _ => false) = true) (hC : P.cellsOf T = n)
    (hk : ((List.range n).all fun i => kindAt P 10 T i == some true) = true) (hv : Value.okWide P w r b0 T v) (h : DataW.Trod enc P w base spare held T v D p) : ∃ l : List ByteArray, l.length = n ∧ v = .agg (l.map Value.string).toArray := by
  obtain ⟨cs, rfl, hs⟩ := agg_of hu hC hv
  refine ⟨cs.toList.map fun v => match v with | .string s => s | _ => default, by simp [hs], ?_⟩
  congr 1
  apply Array.toList_inj.1
  rw [List.map_map]
  apply List.ext_getElem
  · simp
  · intro i h1 h2
    have hi : i < n := by simpa [hs] using h1
    have hk' := List.all_eq_true.1 hk i (List.mem_range.2 hi)
    obtain ⟨c, e, s, rfl, _⟩ := cell_at i h (eq_of_beq hk')
    have e2 : cs.toList[i] = .string s := by
      have := Array.getElem?_eq_some_iff.1 e
      simpa using this.2
    simp [e2]
/-- Three numbers and a text. -/
theorem open_half {r : Reach} {b0 : Nat} {T : TypeId} {v : Value} {D : DataW H} {p : List MemPlace} (hu : (match P.underlying T with | some (.struct _) | some (.array _ _) => true | _ => false) = true) (hC : P.cellsOf T = 4)
    (hk : (kindAt P 10 T 0, kindAt P 10 T 1, kindAt P 10 T 2, kindAt P 10 T 3) = (some false, some false, some false, some true)) (hv : Value.okWide P w r b0 T v) (h : DataW.Trod enc P w base spare held T v D p) : ∃ (a b c : Int) (s : ByteArray), v = .agg #[.int .i64 a, .int .i64 b, .int .i64 c, .string s] ∧ s.size ≤ maxLen := by
  simp only [Prod.mk.injEq] at hk
  obtain ⟨cs, rfl, hs⟩ := agg_of hu hC hv
  obtain ⟨c0, c1, c2, c3, rfl⟩ : ∃ c0 c1 c2 c3, cs = #[c0, c1, c2, c3] := by
    obtain ⟨l⟩ := cs
    match l, hs with
    | [c0, c1, c2, c3], _ => exact ⟨c0, c1, c2, c3, rfl⟩
  obtain ⟨_, e0, a, rfl, ha⟩ := cell_at 0 h hk.1
  obtain ⟨_, e1, b, rfl, hb⟩ := cell_at 1 h hk.2.1
  obtain ⟨_, e2, c, rfl, hc⟩ := cell_at 2 h hk.2.2.1
  obtain ⟨_, e3, d, rfl, hd⟩ := cell_at 3 h hk.2.2.2
  simp at e0 e1 e2 e3
  subst e0 e1 e2 e3
  exact ⟨a, b, c, d, rfl, hd⟩
end
end Go.Proofs.YthpooihkdnbafaaGreatDoor.Ab
