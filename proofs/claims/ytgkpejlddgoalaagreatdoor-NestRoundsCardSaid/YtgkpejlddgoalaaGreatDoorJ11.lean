/- Parts of the proof, joined. -/
import Derived.Test.YtgkpejlddgoalaaGreatDoorJ10
set_option linter.unusedSimpArgs false
set_option linter.unusedVariables false
set_option linter.constructorNameAsVariable false
namespace Go.Proofs.YtgkpejlddgoalaaGreatDoor.Zm
open Go.RowKit
open Go.Proofs.YtgkpejlddgoalaaGreatDoor.Ab (sizeT rowB zerosN)

section
variable {P : Program} {gl : List Nat} {fz : FuncId} {c c' : Cf} {Q R : Cf → Prop} {σ σ0 τ : Env} {H H0 : Hp} {w w0 : World} {ro : Nat}
/-- The rules, for what is said of the frame's beginning. -/
theorem ReachF.callR {f : FuncId} {args : List V} {G : Hp} {ro' : Nat} {R : V → Hp → Prop} (hc : CallAt P gl (.fn f) args G ro' R) (h1 : nextCall gl c = some (.fn f, args)) (hG : (c.2.zh, c.2.zr) = (G, ro')) (h : ∀ x H', R x H' → ReachF P gl fz σ0 H0 ro w0 (afterCall c x H') Q) : ReachF P gl fz σ0 H0 ro w0 c Q := by
  refine ReachF.bind (Reach.callR hc h1 hG (Q := fun c' => ∃ x H', R x H' ∧ c' = afterCall c x H') fun x H' hx => .done ⟨x, H', hx, rfl⟩) ?_
  rintro c' ⟨x, H', hx, rfl⟩
  exact h x H' hx
theorem ReachF.fin {f : FuncId} {R : V → Hp → Prop} (x : V) (H' : Hp) (h : endF P f c = some (x, H')) (hR : R x H') : ReachF P gl fz σ0 H0 ro w0 c (Ends P f R) := .done ⟨x, H', h, hR⟩
theorem ReachF.cast (h : c = c') (hr : ReachF P gl fz σ0 H0 ro w0 c' Q) : ReachF P gl fz σ0 H0 ro w0 c Q := by rw [h]; exact hr
theorem ReachF.mono (h : ReachF P gl fz σ0 H0 ro w0 c Q) (hq : ∀ c', Q c' → R c') : ReachF P gl fz σ0 H0 ro w0 c R := h.chain fun c' q => .done (hq c' q)
/-- Blocks from n on are forgotten; tests by computation. -/
theorem ReachF.drop1 (n : Nat) (ks : List Nat) (hm0 : HRep σ0 H0 w0) (hgl : Nat.ble gl.length n = true) (hro : Nat.ble ro n = true) (hn : Nat.ble H0.length n = true) (hnk : Nat.ble n c.2.zh.length = true) (hz : c.2.zm = [])
    (hH : (c.2.zh.take n).all (underK n) = true) (hs : (ks.all fun i => (c.2.zs.get i).under n) = true)
    (h : ReachF P gl fz σ0 H0 ro w0 (dropS n ks c) Q) : ReachF P gl fz σ0 H0 ro w0 c Q :=
  ReachF.drop hm0 (Nat.le_of_ble_eq_true hgl) (Nat.le_of_ble_eq_true hro) (Nat.le_of_ble_eq_true hn) (Nat.le_of_ble_eq_true hnk) hz hH (List.all_eq_true.1 hs) h
end
/-- An append to a row: an element's type, its size and bytes, the row's block and length, what is appended. -/
noncomputable def apS (P : Program) (gl : List Nat) (c : Cf) : Option (TypeId × Nat × Nat × Nat × Nat × List C × Nat) := match nextOp c with
  | some o => match o.op with
    | .call ⟨.builtin .append, args, ts⟩ => match args.toList, ts.toList with
      | [s, y], [t, t'] => match t == t' with
        | true => match P.underlying t with
          | some (.slice e) => match sizeT P e, P.info? e with
            | some size, some i => match i.zero, newsZ c.2.zh size (evS gl c y), evS gl c s with
              | some z, some (news, m), .f (.one (.b (.row k 0 n sz))) => match z.cells.size == size && decide (0 < size) && (sz == size) with
                | true => some (e, size, i.bytes, k, n, news, m)
                | false => none
              | _, _, _ => none
            | _, _ => none
          | _ => none
        | false => none
      | _, _ => none
    | _ => none
  | none => none
section
variable {P : Program} {gl : List Nat} {fz : FuncId} {oz : Option Nat} {c : Cf} {Q : Cf → Prop}
theorem Reach.app1 {e : TypeId} {size bs k n m : Nat} {news l : List C} (h1 : apS P gl c = some (e, size, bs, k, n, news, m)) (hk : c.2.zh[k]? = some (.row e l)) (hl : l.length = n * size) (hro : c.2.zr ≤ k) (hn : n + m ≤ maxLen) (hb : (n + m) * bs ≤ 140737488355328)
    (h : Reach P gl fz oz (afterCall c (.f (.one (.b (.roy c.2.zh.length 0 (n + m) size)))) (c.2.zh.set k .dead ++ [.row e (l ++ news)])) Q) : Reach P gl fz oz c Q := by
  unfold apS at h1
  split at h1
  · rename_i o ho
    split at h1
    · rename_i args ts hop
      split at h1
      · rename_i s y t t' ha ht
        split at h1
        · rename_i htt
          split at h1
          · rename_i e' hu
            split at h1
            · rename_i size' i e1 e2
              split at h1
              · rename_i z news' m' k' n' sz e3 e4 e5
                split at h1
                · rename_i e6
                  simp only [Option.some.injEq, Prod.mk.injEq] at h1
                  obtain ⟨rfl, rfl, rfl, rfl, rfl, rfl, rfl⟩ := h1
                  simp only [Bool.and_eq_true, beq_iff_eq, decide_eq_true_eq] at e6
                  obtain ⟨⟨e7, e8⟩, rfl⟩ := e6
                  refine Reach.opS (x := .f (.one (.b (.row c.2.zh.length 0 (n' + m') sz)))) (y := .f (.one (.b (.roy c.2.zh.length 0 (n' + m') sz)))) ho ?_ (fun τ v hv => hv) h
                  have hg : growZ P (evS gl c) c.2.zh c.2.zr o = some (.f (.one (.b (.row c.2.zh.length 0 (n' + m') sz))), c.2.zh.set k' .dead ++ [.row e' (l ++ news')]) := by
                    unfold growZ
                    simp only [hop, ha, ht, htt, if_true, hu, e1, e2, e3, e4, e5, e7, hk]
                    simp [e8, hl, hro, hn, hb]
                  unfold doZ
                  simp only [hop, hg]
                · cases h1
              · cases h1
            · cases h1
          · cases h1
        · cases h1
      · cases h1
    · cases h1
  · cases h1
/-- The same, memory written out. -/
theorem Reach.app2 {e : TypeId} {size bs k n m j : Nat} {news l : List C} (G H' : Hp) (h1 : apS P gl c = some (e, size, bs, k, n, news, m)) (hG : (c.2.zh, Nat.ble c.2.zr k, c.2.zh.length) = (G, true, j)) (hk : G[k]? = some (.row e l)) (hl : l.length = n * size) (hn : n + m ≤ maxLen) (hb : (n + m) * bs ≤ 140737488355328)
    (hH : G.set k .dead ++ [.row e (l ++ news)] = H') (h : Reach P gl fz oz (afterCall c (.f (.one (.b (.roy j 0 (n + m) size)))) H') Q) : Reach P gl fz oz c Q := by
  simp only [Prod.mk.injEq] at hG
  obtain ⟨rfl, h3, rfl⟩ := hG
  exact Reach.app1 h1 hk hl (Nat.le_of_ble_eq_true h3) hn hb (by rw [hH]; exact h)
end
/-- Two names of another memory. -/
def Env.two (σ : Env) (k0 k1 : Nat) : Env := fun j => if j = 0 then σ k0 else if j = 1 then σ k1 else none
section
variable {P : Program} {gl : List Nat} {H : Hp} {ro : Nat}
theorem plainK_live {k : Nat} {b : Blk} (h : H[k]? = some b) (hb : plainK b = true) : live H k := ⟨b, h, by cases b <;> first | rfl | cases hb⟩
theorem two_cases {σ : Env} {k0 k1 j : Nat} {x : Nat × Nat} (h : (σ.two k0 k1) j = some x) : (j = 0 ∧ σ k0 = some x) ∨ (j = 1 ∧ σ k1 = some x) := by
  unfold Env.two at h
  split at h
  · exact .inl ⟨‹_›, h⟩
  · split at h
    · exact .inr ⟨‹_›, h⟩
    · cases h
/-- A call that reads two blocks. -/
theorem CallAt.read2 {f : FuncId} {b0 b1 : Blk} (k0 k1 : Nat) {args args' : List V} {R : V → Prop} (h : CallAt P [] (.fn f) args [b0, b1] 2 (fun x _ => R x ∧ plainV x = true)) (hb0 : plainK b0 = true) (hb1 : plainK b1 = true) (h0 : H[k0]? = some b0) (h1 : H[k1]? = some b1) (hne : k0 ≠ k1)
    (ha : ∀ σ vs, holdsV σ args' vs → holdsV (σ.two k0 k1) args vs) : CallAt P gl (.fn f) args' H ro (fun x H' => R x ∧ H' = H) := by
  intro σ w vs hro hm hgl hv
  have l0 := plainK_live h0 hb0
  have l1 := plainK_live h1 hb1
  have hR : HRep (σ.two k0 k1) [b0, b1] w := by
    refine ⟨fun j b' hj => ?_, fun j j' g n n' _ _ e1 e2 => ?_, fun j g n _ e => ?_, fun j x e => ?_⟩
    · rcases j with _ | _ | j
      · simp only [List.getElem?_cons_zero, Option.some.injEq] at hj; subst hj; exact plainK_any hb0 (by simp [Env.two]) (hm.blk k0 _ h0)
      · simp only [List.getElem?_cons_succ, List.getElem?_cons_zero, Option.some.injEq] at hj; subst hj; exact plainK_any hb1 (by simp [Env.two]) (hm.blk k1 _ h1)
      · simp at hj
    · rcases two_cases e1 with ⟨rfl, f1⟩ | ⟨rfl, f1⟩ <;> rcases two_cases e2 with ⟨rfl, f2⟩ | ⟨rfl, f2⟩
      · rfl
      · exact absurd (hm.inj k0 k1 g n n' l0 l1 f1 f2) hne
      · exact absurd (hm.inj k1 k0 g n n' l1 l0 f1 f2) (fun e => hne e.symm)
      · rfl
    · rcases two_cases e with ⟨_, f1⟩ | ⟨_, f1⟩
      · exact hm.lt k0 g n l0 f1
      · exact hm.lt k1 g n l1 f1
    · rcases two_cases e with ⟨rfl, _⟩ | ⟨rfl, _⟩ <;> simp
  obtain ⟨h6, h7⟩ := h (σ.two k0 k1) w vs (Nat.le_refl _) hR (fun k g e => by simp at e) (ha σ vs hv)
  refine ⟨h6, h7.mono ?_⟩
  rintro e w' ⟨u, e1, x, G, ⟨hx, hp⟩, υ, hlf, hxv⟩
  have hbel : Below w.heap.size w w' := (hlf.base.mono fun g ⟨k, n, h1, h2, _⟩ => by have := live_lt h2; simp at this; omega).below
  exact ⟨u, e1, x, H, ⟨hx, rfl⟩, σ, Left.below ro hm hbel, plainV_any hp hxv⟩
/-- A call that reads one block. -/
theorem CallAt.readA {f : FuncId} {b : Blk} (k : Nat) {args args' : List V} {R : V → Prop} (h : CallAt P [] (.fn f) args [b] 1 (fun x _ => R x ∧ plainV x = true)) (hb : plainK b = true) (h0 : H[k]? = some b)
    (ha : ∀ σ vs, holdsV σ args' vs → holdsV (fun j => if j = 0 then σ k else none) args vs) : CallAt P gl (.fn f) args' H ro (fun x H' => R x ∧ H' = H) := by
  intro σ w vs hro hm hgl hv
  have l0 := plainK_live h0 hb
  have ht : ∀ j x, (fun j => if j = 0 then σ k else none : Env) j = some x → j = 0 ∧ σ k = some x := fun j x e => by
    by_cases hj : j = 0
    · subst hj; exact ⟨rfl, by simpa using e⟩
    · simp [hj] at e
  have hR : HRep (fun j => if j = 0 then σ k else none) [b] w := by
    refine ⟨fun j b' hj => ?_, fun j j' g n n' h1 h2 _ _ => ?_, fun j g n h1 e => ?_, fun j x e => by rw [(ht j x e).1]; simp⟩
    · cases j with
      | zero => simp only [List.getElem?_cons_zero, Option.some.injEq] at hj; subst hj; exact plainK_any hb (by simp) (hm.blk k _ h0)
      | succ j => simp at hj
    · have := live_lt h1; have := live_lt h2; simp at *; omega
    · exact hm.lt k g n l0 (ht j _ e).2
  obtain ⟨h6, h7⟩ := h _ w vs (Nat.le_refl _) hR (fun k g e => by simp at e) (ha σ vs hv)
  refine ⟨h6, h7.mono ?_⟩
  rintro e w' ⟨u, e1, x, G, ⟨hx, hp⟩, υ, hlf, hxv⟩
  have hbel : Below w.heap.size w w' := (hlf.base.mono fun g ⟨k, n, h1, h2, _⟩ => by have := live_lt h2; simp at this; omega).below
  exact ⟨u, e1, x, H, ⟨hx, rfl⟩, σ, Left.below ro hm hbel, plainV_any hp hxv⟩
end

/-- A region's run in the order of the text: what is left, what is known, the kinds of what was done. -/
abbrev Dr := List Oper × Sz × List (Ki × Nat)
noncomputable def runK (P : Program) (gl : List Nat) (call : CallFn) (imp : FuncId → Bool) (ops : Array Oper) (n : Nat) : Nat → List Oper → Sz → List (Ki × Nat) → Dr
  | 0, l, s, acc => (l, s, acc)
  | _ + 1, [], s, acc => ([], s, acc)
  | m + 1, o :: l, s, acc => match opK P gl call imp ops n o s with
    | some (ki, x, H') => runK P gl call imp ops n m l { s with zs := putS s.zs o.dst x, zh := H' } (acc ++ [(ki, s.zh.length)])
    | none => (o :: l, s, acc)
def DrOk (P : Program) (gl : List Nat) (call : CallFn) (imp : FuncId → Bool) (ops : Array Oper) (n : Nat) (d : Dr) (Q : Sz → List (Ki × Nat) → Prop) : Prop := ∃ s' ks, opsK P gl call imp ops n d.1 d.2.1 = some (s', ks) ∧ Q s' (d.2.2 ++ ks)
/-- The next operation, if it is wanted. -/
noncomputable def nextK (ops : Array Oper) (d : Dr) : Option Oper := match d with
  | (o :: _, s, _) => match wantZ s.zs ops o with
    | some true => some o
    | _ => none
  | _ => none
noncomputable def afterK (d : Dr) (ki : Ki) (x : V) : Dr := match d with
  | (o :: l, s, acc) => (l, { s with zs := putS s.zs o.dst x }, acc ++ [(ki, s.zh.length)])
  | _ => d
noncomputable def idxK (P : Program) (gl : List Nat) (ops : Array Oper) (d : Dr) : Option (Nat × Nat × Nat × Int × Nat) := match nextK ops d with
  | some o => match o.op with
    | .indexAddr T x ix => match evZ gl d.2.1.zs x, evZ gl d.2.1.zs ix, P.underlying T with
      | .f (.one (.b (.slc k off n _))), .f (.one (.b (.lit (.int _ i)))), some (.slice e) => match sizeT P e with | some m => some (k, off, n, i, m) | none => none
      | .f (.one (.b (.row k off n _))), .f (.one (.b (.lit (.int _ i)))), some (.slice e) => match sizeT P e with | some m => some (k, off, n, i, m) | none => none
      | _, _, _ => none
    | _ => none
  | none => none
noncomputable def ldK (P : Program) (gl : List Nat) (ops : Array Oper) (d : Dr) : Option (Nat × Nat) := match nextK ops d with
  | some o => match o.op with
    | .load T x => match evZ gl d.2.1.zs x, sizeT P T, rowB P T with
      | .f (.one (.b (.ptr k off))), some 1, some false => some (k, off)
      | _, _, _ => none
    | _ => none
  | none => none
noncomputable def drawnS (c : Cf) : Option (Array Oper × Cf) := match c with
  | (.code (.region _ ops true) :: k, s) => some (ops, k, s)
  | _ => none
section
variable {P : Program} {gl : List Nat} {cf : CallFn} {imp : FuncId → Bool} {ops : Array Oper} {n0 : Nat} {d : Dr} {Q : Sz → List (Ki × Nat) → Prop}
theorem DrOk.one {o : Oper} {l : List Oper} {s : Sz} {acc : List (Ki × Nat)} {ki : Ki} {x : V} {H' : Hp} (h1 : opK P gl cf imp ops n0 o s = some (ki, x, H')) (h : DrOk P gl cf imp ops n0 (l, { s with zs := putS s.zs o.dst x, zh := H' }, acc ++ [(ki, s.zh.length)]) Q) : DrOk P gl cf imp ops n0 (o :: l, s, acc) Q := by
  obtain ⟨s', ks, e, hq⟩ := h
  dsimp only at e hq
  refine ⟨s', (ki, s.zh.length) :: ks, ?_, by simpa using hq⟩
  dsimp only
  rw [opsK, h1]
  dsimp only
  rw [e]
theorem runK_ok : ∀ {m : Nat} {l : List Oper} {s : Sz} {acc : List (Ki × Nat)}, DrOk P gl cf imp ops n0 (runK P gl cf imp ops n0 m l s acc) Q → DrOk P gl cf imp ops n0 (l, s, acc) Q
  | 0, l, s, acc, h => h
  | _ + 1, [], s, acc, h => h
  | m + 1, o :: l, s, acc, h => by
    rw [runK] at h
    split at h
    · rename_i e
      exact DrOk.one e (runK_ok h)
    · exact h
/-- So many operations that the machine can do. -/
theorem DrOk.run (m : Nat) (h : DrOk P gl cf imp ops n0 (runK P gl cf imp ops n0 m d.1 d.2.1 d.2.2) Q) : DrOk P gl cf imp ops n0 d Q := runK_ok h
theorem DrOk.fin (h1 : d.1.isEmpty = true) (h : Q d.2.1 d.2.2) : DrOk P gl cf imp ops n0 d Q := by
  obtain ⟨l, s, acc⟩ := d
  cases l with
  | nil => exact ⟨s, [], rfl, by simpa using h⟩
  | cons o l => cases h1
/-- A wanted operation that leaves memory alone. -/
theorem DrOk.val {o : Oper} {ki : Ki} {x : V} (h1 : nextK ops d = some o) (hsoft : soft imp (evZ gl d.2.1.zs) o n0 = false) (hdo : doZ P cf imp (evZ gl d.2.1.zs) d.2.1.zh d.2.1.zr o = some (x, d.2.1.zh)) (hk : kindZ imp (evZ gl d.2.1.zs) d.2.1.zh o x = ki) (h : DrOk P gl cf imp ops n0 (afterK d ki x) Q) : DrOk P gl cf imp ops n0 d Q := by
  obtain ⟨l, s, acc⟩ := d
  unfold nextK at h1
  split at h1
  · rename_i o' l' s' acc' heq
    simp only [Prod.mk.injEq] at heq
    obtain ⟨rfl, rfl, rfl⟩ := heq
    split at h1
    · rename_i hw
      injection h1 with h1
      subst h1
      dsimp only at hsoft hdo hk
      refine DrOk.one (ki := ki) (x := x) (H' := s.zh) ?_ h
      unfold opK
      rw [hw]
      dsimp only
      rw [if_neg (by rw [hsoft]; decide), hdo]
      dsimp only
      rw [hk]
    · cases h1
  · cases h1
theorem DrOk.idx {k off n m : Nat} {i : Int} (h1 : idxK P gl ops d = some (k, off, n, i, m)) (h0 : 0 ≤ i) (hn : i < n) (h : DrOk P gl cf imp ops n0 (afterK d .quiet (.f (.one (.b (.ptr k (off + i.toNat * m)))))) Q) : DrOk P gl cf imp ops n0 d Q := by
  unfold idxK at h1
  split at h1
  · rename_i o ho
    split at h1
    · rename_i T x' ix hop
      have hval : valZ P (evZ gl d.2.1.zs) d.2.1.zh o = some (.f (.one (.b (.ptr k (off + i.toNat * m))))) := by
        unfold valZ
        split at h1
        · rename_i e1 e2 e3
          split at h1
          · rename_i e4
            simp only [Option.some.injEq, Prod.mk.injEq] at h1
            obtain ⟨rfl, rfl, rfl, rfl, rfl⟩ := h1
            simp only [hop, e1, e2, e3, e4, intZ]
            rw [if_pos ⟨h0, hn⟩]
          · cases h1
        · rename_i e1 e2 e3
          split at h1
          · rename_i e4
            simp only [Option.some.injEq, Prod.mk.injEq] at h1
            obtain ⟨rfl, rfl, rfl, rfl, rfl⟩ := h1
            simp only [hop, e1, e2, e3, e4, intZ]
            rw [if_pos ⟨h0, hn⟩]
          · cases h1
        · cases h1
      have hf : fastZ (evZ gl d.2.1.zs) o = none := by unfold fastZ; simp only [hop]
      refine DrOk.val (x := .f (.one (.b (.ptr k (off + i.toNat * m))))) ho (by unfold soft; simp only [hop]) ?_ (by unfold kindZ; simp only [hop]) h
      unfold doZ
      simp only [hop, valW, valY, hf, hval]
    · cases h1
  · cases h1
theorem DrOk.ld {k off : Nat} {l : List C} {x : C} (h1 : ldK P gl ops d = some (k, off)) (hl : cellsOf d.2.1.zh k = some l) (hd : l[off]? = some x) (h : DrOk P gl cf imp ops n0 (afterK d (.load k) (.f (.one x))) Q) : DrOk P gl cf imp ops n0 d Q := by
  unfold ldK at h1
  split at h1
  · rename_i o ho
    split at h1
    · rename_i T x' hop
      split at h1
      · rename_i e1 e2 e3
        simp only [Option.some.injEq, Prod.mk.injEq] at h1
        obtain ⟨rfl, rfl⟩ := h1
        have hval : valZ P (evZ gl d.2.1.zs) d.2.1.zh o = some (.f (.one x)) := by
          unfold valZ
          simp only [hop, e1, hl]
          unfold partZ
          simp only [e2, e3, hd]
        have hf : fastZ (evZ gl d.2.1.zs) o = none := by unfold fastZ; simp only [hop]
        refine DrOk.val (x := .f (.one x)) ho (by unfold soft; simp only [hop]) ?_ (by unfold kindZ; simp only [hop, e1]) h
        unfold doZ
        simp only [hop, valW, valY, hf, hval]
      · cases h1
    · cases h1
  · cases h1
end
section
variable {P : Program} {gl : List Nat} {fz : FuncId} {oz : Option Nat} {c c' : Cf} {Q : Cf → Prop} {cf : CallFn} {ops : Array Oper}
/-- A region that draws its order. -/
theorem Reach.drawn (hmix : P.follows .mixedOrders = true) {imp : FuncId → Bool} (hC : CallOk P gl cf) (h1 : drawnS c = some (ops, c')) (hty : tyZ ops c'.2.zs.n = true)
    (h : DrOk P gl cf imp ops c'.2.zh.length (ops.toList, c'.2, []) (fun s' ks => (upZ ks s'.zh.length && ((ks.all fun k => mild k.1) || pairsZ (closZ ops.toList) ks)) = true ∧ Reach P gl fz oz (c'.1, s') Q)) : Reach P gl fz oz c Q := by
  obtain ⟨t, s⟩ := c
  unfold drawnS at h1
  split at h1
  · rename_i id ops' k s2 heq
    simp only [Prod.mk.injEq] at heq
    obtain ⟨rfl, rfl⟩ := heq
    simp only [Option.some.injEq, Prod.mk.injEq] at h1
    obtain ⟨rfl, rfl⟩ := h1
    obtain ⟨s', ks, e, hq, hr⟩ := h
    dsimp only at e hty hq hr
    simp only [List.nil_append] at hq
    rw [Bool.and_eq_true] at hq
    have hdr : drawnZ P gl cf imp ops' s = some s' := by
      unfold drawnZ
      rw [if_pos hty, e]
      dsimp only
      rw [if_pos hq]
    refine Reach.one (c1 := (k, s')) (fun b cs σ a w _ _ hR => ?_) hr
    obtain ⟨τ, a', w', r1, l1, z1, _, s1⟩ := drawn_ok (b := b) (cs := cs) (k := k) (id := id) hmix hC hR hdr
    exact ⟨τ, a', w', s1, r1, l1, z1⟩
  · cases h1
/-- A slot's value, said otherwise. -/
theorem Reach.open' (d : Tmp) {x : V} (y : V) (e : c.2.zs.get d = x) (hxy : ∀ σ v, x.holds σ v → y.holds σ v) (h : Reach P gl fz oz (knowS d y c) Q) : Reach P gl fz oz c Q :=
  Reach.know d y (fun σ v hv => hxy σ v (by rw [← e]; exact hv)) h
end
end Go.Proofs.YtgkpejlddgoalaaGreatDoor.Zm
namespace Go.Proofs.YtgkpejlddgoalaaGreatDoor.Zm
open Go.RowKit

noncomputable def putsT : List (Nat × V) → Tr
  | [] => .e
  | p :: l => (putsT l).put p.2 (path p.1)
/-- A place in a frame of n slots: what is still to be done, what some slots hold, memory. -/
noncomputable def atC (k : List Item) (n : Nat) (l : List (Nat × V)) (H : Hp) (ro : Nat) : Cf := (k, ⟨⟨n, putsT l⟩, H, ro, []⟩)
section
variable {P : Program} {gl : List Nat} {fz : FuncId} {c : Cf} {Q : Cf → Prop}
theorem Reach.ofG {G : Hp} {ro : Nat} (hG : (c.2.zh, c.2.zr) = (G, ro)) (h : ∀ σ w, HRep σ G w → ReachF P gl fz σ G ro w c Q) : Reach P gl fz none c Q := by
  injection hG with h1 h2
  subst h1 h2
  exact Reach.ofF fun σ w hm _ => h σ w hm
end

theorem sawE_len {d t k : Int} (m : Nat) : ∀ {low : Int} {ws : List Int}, sawE d t k low m = some ws → ws.length = m := by
  induction m with
  | zero => intro low ws h; rw [sawE] at h; injection h with h; rw [← h]; rfl
  | succ m ih =>
    intro low ws h
    rw [sawE] at h
    split at h
    · cases h
    · rw [Option.map_eq_some_iff] at h
      obtain ⟨us, h1, h2⟩ := h
      rw [← h2, List.length_cons, ih h1]
/-- The best stack, from one number of boards on. -/
def bestE (d t k : Int) : Nat → Int → Int → Int → Int × Int
  | 0, _, b, w => (b, w)
  | m + 1, n, b, w => match sawE d t k (lowE t k n) n.toNat with
    | none => (b, w)
    | some ws => bestE d t k m (n + 1) (if cmpE (sumE 0 ws) w > 0 then n else b) (if cmpE (sumE 0 ws) w > 0 then sumE 0 ws else w)
section
variable (e1 e2 e3 d t k : Int)
section
variable {σ0 : Env} {w0 : World} (hm0 : HRep σ0 (bG e1 e2 e3 d t k) w0)
include hm0
set_option maxRecDepth 100000 in
/-- A round of the loop whose boards can be sawn. -/
theorem go_at {n b w : Int} {ws : List Int} {Q : Cf → Prop} (h0 : 1 ≤ n) (h64 : n ≤ 64) (hs : sawE d t k (lowE t k n) n.toNat = some ws)
    (h : ReachF Tryz.prog [] 97 σ0 (bG e1 e2 e3 d t k) 4 w0 (headK e1 e2 e3 d t k (n + 1) (bM e1 e2 e3 d t k (if cmpE (sumE 0 ws) w > 0 then n else b) (if cmpE (sumE 0 ws) w > 0 then sumE 0 ws else w))) Q) :
    ReachF Tryz.prog [] 97 σ0 (bG e1 e2 e3 d t k) 4 w0 (headK e1 e2 e3 d t k n (bM e1 e2 e3 d t k b w)) Q := by
  refine ReachF.step (fun _ => goT t3 t3_ok) ?_
  refine ReachF.step (fun _ => Reach.bool 9 (t := decide (n ≤ 64)) true (decide_eq_true h64) (by kernel_rfl)) ?_
  refine ReachF.step (fun _ => goT t3 t3_ok) ?_
  refine ReachF.callR (CallAt.fresh (gl := []) (H := bM e1 e2 e3 d t k b w) (ro := 4) (saw_at d t k n h0 h64) rfl fun x G hx => saw_plain hx) (by kernel_rfl) (by kernel_rfl) ?_
  rintro y K ⟨x, G, hx, hy⟩
  rw [hs] at hx
  obtain ⟨rfl, rfl⟩ := hx
  have hl := sawE_len _ hs
  rcases hy with ⟨hp, _, _⟩ | ⟨_, rfl, rfl⟩
  · cases hp
  · refine ReachF.step (fun _ => goT t3 t3_ok) ?_
    refine ReachF.step (fun _ => Reach.bool 22 (t := (0 : Int) != 0) false (by decide) (by kernel_rfl)) ?_
    refine ReachF.step (fun _ => goT t3 t3_ok) ?_
    refine ReachF.callR (CallAt.readY (gl := []) (H := bM e1 e2 e3 d t k b w ++ [.cells 3 (([] ++ ws).map sI)]) (ro := 4) (k := 9) (off := 0) (n := n.toNat) (c := n.toNat) (l := []) (m := []) (by rw [← hl]; exact sum_at ws (by omega)) (by simp [plainK, List.all_map, plainC, plainB]) rfl rfl (by kernel_rfl)) (by kernel_rfl) (by kernel_rfl) ?_
    rintro y K ⟨rfl, rfl⟩
    refine ReachF.drop1 9 [0, 1, 2, 3, 5, 22, 23, 24, 26] hm0 (by kernel_rfl) (by kernel_rfl) (by kernel_rfl) (by kernel_rfl) (by kernel_rfl) (by kernel_rfl) (by kernel_rfl) ?_
    refine ReachF.step (fun _ => goT t3 t3_ok) ?_
    refine ReachF.step (fun _ => Reach.yield1 (roundB1 e1 e2 e3 d t k b w n (sumE 0 ws)) (by kernel_rfl) (by kernel_rfl) (by kernel_rfl)) ?_
    refine ReachF.step (fun _ => goL) ?_
    refine ReachF.step (fun _ h => Reach.int 5 (n + 1) (W64_id (by omega) (by omega)) (by kernel_rfl) (Reach.into (Reach.keep [0, 1, 2, 3, 5] h))) ?_
    exact ReachF.cast (by kernel_rfl) h
set_option maxRecDepth 100000 in
/-- The first one. -/
theorem go_first {n : Int} {ws : List Int} {Q : Cf → Prop} (h0 : 1 ≤ n) (h64 : n ≤ 64) (hs : sawE d t k (lowE t k n) n.toNat = some ws)
    (h : ReachF Tryz.prog [] 97 σ0 (bG e1 e2 e3 d t k) 4 w0 (headK e1 e2 e3 d t k (n + 1) (bM e1 e2 e3 d t k n (sumE 0 ws))) Q) :
    ReachF Tryz.prog [] 97 σ0 (bG e1 e2 e3 d t k) 4 w0 (headK e1 e2 e3 d t k n (bG e1 e2 e3 d t k)) Q := by
  refine ReachF.step (fun _ => goT t3 t3_ok) ?_
  refine ReachF.step (fun _ => Reach.bool 9 (t := decide (n ≤ 64)) true (decide_eq_true h64) (by kernel_rfl)) ?_
  refine ReachF.step (fun _ => goT t3 t3_ok) ?_
  refine ReachF.callR (CallAt.fresh (gl := []) (H := bG e1 e2 e3 d t k) (ro := 4) (saw_at d t k n h0 h64) rfl fun x G hx => saw_plain hx) (by kernel_rfl) (by kernel_rfl) ?_
  rintro y K ⟨x, G, hx, hy⟩
  rw [hs] at hx
  obtain ⟨rfl, rfl⟩ := hx
  have hl := sawE_len _ hs
  rcases hy with ⟨hp, _, _⟩ | ⟨_, rfl, rfl⟩
  · cases hp
  · refine ReachF.step (fun _ => goT t3 t3_ok) ?_
    refine ReachF.step (fun _ => Reach.bool 22 (t := (0 : Int) != 0) false (by decide) (by kernel_rfl)) ?_
    refine ReachF.step (fun _ => goT t3 t3_ok) ?_
    refine ReachF.callR (CallAt.readY (gl := []) (H := bG e1 e2 e3 d t k ++ [.cells 3 (([] ++ ws).map sI)]) (ro := 4) (k := 9) (off := 0) (n := n.toNat) (c := n.toNat) (l := []) (m := []) (by rw [← hl]; exact sum_at ws (by omega)) (by simp [plainK, List.all_map, plainC, plainB]) rfl rfl (by kernel_rfl)) (by kernel_rfl) (by kernel_rfl) ?_
    rintro y K ⟨rfl, rfl⟩
    refine ReachF.drop1 9 [0, 1, 2, 3, 5, 22, 23, 24, 26] hm0 (by kernel_rfl) (by kernel_rfl) (by kernel_rfl) (by kernel_rfl) (by kernel_rfl) (by kernel_rfl) (by kernel_rfl) ?_
    refine ReachF.step (fun _ => goT t3 t3_ok) ?_
    refine ReachF.step (fun _ => Reach.yield1 (roundB0 e1 e2 e3 d t k n (sumE 0 ws)) (by kernel_rfl) (by kernel_rfl) (by kernel_rfl)) ?_
    refine ReachF.step (fun _ => goL) ?_
    refine ReachF.step (fun _ h => Reach.int 5 (n + 1) (W64_id (by omega) (by omega)) (by kernel_rfl) (Reach.into (Reach.keep [0, 1, 2, 3, 5] h))) ?_
    exact ReachF.cast (by kernel_rfl) h
end
set_option maxRecDepth 100000 in
/-- The end, where not even one can be sawn. -/
theorem stop_first {n : Int} (h0 : 1 ≤ n) (h64 : n ≤ 64) (hs : sawE d t k (lowE t k n) n.toNat = none) :
    Reach Tryz.prog [] 97 none (headK e1 e2 e3 d t k n (bG e1 e2 e3 d t k)) (Ends Tryz.prog 97 (fun _ H' => H' = bG e1 e2 e3 d t k)) := by
  refine goT t3 t3_ok ?_
  refine Reach.bool 9 (t := decide (n ≤ 64)) true (decide_eq_true h64) (by kernel_rfl) (goT t3 t3_ok ?_)
  refine Reach.callR (CallAt.fresh (gl := []) (H := bG e1 e2 e3 d t k) (ro := 4) (saw_at d t k n h0 h64) rfl fun x G hx => saw_plain hx) (by kernel_rfl) (by kernel_rfl) ?_
  rintro y K ⟨x, G, hx, hy⟩
  rw [hs] at hx
  obtain rfl : x = _ := hx
  rcases hy with ⟨_, rfl, rfl⟩ | ⟨hp, rfl, rfl⟩
  · refine goT t3 t3_ok (Reach.bool 22 (t := (7 : Int) != 0) true (by decide) (by kernel_rfl) (goT t3 t3_ok ?_))
    exact Reach.fin (.tup []) (bG e1 e2 e3 d t k) (by kernel_rfl) rfl
  · cases hp
set_option maxRecDepth 100000 in
theorem over_at {b w : Int} : Reach Tryz.prog [] 97 none (headK e1 e2 e3 d t k 65 (bM e1 e2 e3 d t k b w)) (Ends Tryz.prog 97 (fun _ H' => H' = bM e1 e2 e3 d t k b w)) := by
  refine goT t3 t3_ok ?_
  refine Reach.bool 9 (t := decide ((65 : Int) ≤ 64)) false (by decide) (by kernel_rfl) (goT t3 t3_ok ?_)
  exact Reach.fin (.tup []) (bM e1 e2 e3 d t k b w) (by kernel_rfl) rfl
theorem loop_at {σ0 : Env} {w0 : World} (hm0 : HRep σ0 (bG e1 e2 e3 d t k) w0) : ∀ (m : Nat) (n b w : Int), n + m = 65 → 1 ≤ n →
    ReachF Tryz.prog [] 97 σ0 (bG e1 e2 e3 d t k) 4 w0 (headK e1 e2 e3 d t k n (bM e1 e2 e3 d t k b w)) (Ends Tryz.prog 97 (fun _ H' => H' = bM e1 e2 e3 d t k (bestE d t k m n b w).1 (bestE d t k m n b w).2))
  | 0, n, b, w, hn, h0 => by
    obtain rfl : n = 65 := by omega
    exact ReachF.bind (over_at e1 e2 e3 d t k) fun c' q => .done q
  | m + 1, n, b, w, hn, h0 => by
    rw [bestE]
    cases hs : sawE d t k (lowE t k n) n.toNat with
    | none => exact ReachF.bind (stop_at e1 e2 e3 d t k rfl h0 (by omega) hs) fun c' q => .done q
    | some ws => exact go_at e1 e2 e3 d t k hm0 h0 (by omega) hs (loop_at hm0 m (n + 1) _ _ (by omega) (by omega))
noncomputable def stacksH : Hp := match sawE d t k (lowE t k 1) 1 with
  | none => bG e1 e2 e3 d t k
  | some ws => bM e1 e2 e3 d t k (bestE d t k 63 2 1 (sumE 0 ws)).1 (bestE d t k 63 2 1 (sumE 0 ws)).2
set_option maxRecDepth 100000 in
/-- The stacks of a log. -/
theorem stacks_at : CallAt Tryz.prog [] (.fn 97) [.f (.one (.b (.yld 8))), .f (.one (.b (.ptr 1 0))), .f (.one (.b (.ptr 2 0))), .f (.one (.b (.ptr 3 0)))] (bG e1 e2 e3 d t k) 4 (fun _ H' => H' = stacksH e1 e2 e3 d t k) := by
  refine call_of_reach entersP (by kernel_rfl) (goL (Reach.into ?_))
  refine Reach.lit 5 (u := .int .i64 1) (by kernel_rfl) ?_
  refine Reach.keep [0, 1, 2, 3, 5] (Reach.cast (c' := headK e1 e2 e3 d t k 1 (bG e1 e2 e3 d t k)) (by kernel_rfl) ?_)
  refine Reach.ofG (G := bG e1 e2 e3 d t k) (ro := 4) (by kernel_rfl) fun σ w hm => ?_
  unfold stacksH
  cases hs : sawE d t k (lowE t k 1) 1 with
  | none => exact ReachF.bind (stop_first e1 e2 e3 d t k (by decide) (by decide) hs) fun c' q => .done q
  | some ws => exact go_first e1 e2 e3 d t k hm (by decide) (by decide) hs (loop_at e1 e2 e3 d t k hm 63 2 _ _ (by decide) (by decide))
end

theorem cnt_is {n : Int} : ∀ m : Nat, 0 ≤ cntS n m ∧ cntS n m ≤ m ∧ (∀ k : Int, 0 ≤ k → k < cntS n m → k * k ≤ n) ∧ (∀ k : Int, cntS n m ≤ k → k < m → n < k * k)
  | 0 => ⟨Int.le_refl _, Int.le_refl _, fun k h1 h2 => absurd h2 (Int.not_lt.2 h1), fun k h1 h2 => absurd h2 (Int.not_lt.2 h1)⟩
  | m + 1 => by
    obtain ⟨h1, h2, h3, h4⟩ := cnt_is (n := n) m
    by_cases h : (m : Int) * m ≤ n
    · have hm : cntS n m = m := by
        rcases Int.lt_or_le (cntS n m) m with hlt | hge
        · have := h4 (cntS n m) (Int.le_refl _) hlt
          have := sq_le h1 (Int.le_of_lt hlt)
          omega
        · omega
      rw [cntS, if_pos h, hm]
      refine ⟨by omega, by omega, fun k h5 h6 => Int.le_trans (sq_le h5 (show k ≤ m by omega)) h, fun k h5 h6 => by omega⟩
    · rw [cntS, if_neg h]
      refine ⟨by omega, by omega, fun k h5 h6 => h3 k h5 (by omega), fun k h5 h6 => ?_⟩
      rcases Int.lt_or_le k m with hlt | hge
      · exact h4 k (by omega) hlt
      · have : k = m := by omega
        subst this; omega
theorem isS (n : Int) : IsS n (searchE n) := by
  obtain ⟨h1, h2, h3, h4⟩ := cnt_is (n := n) 10001
  exact ⟨h1, h2, h3, fun k h5 h6 => h4 k h5 (by omega)⟩
theorem sq_range {a : Int} (h0 : 0 ≤ a) (h : a ≤ 10001) : 0 ≤ a * a ∧ a * a ≤ 100020001 := ⟨Int.mul_nonneg h0 h0, Int.le_trans (sq_le h0 h) (by decide)⟩
theorem W64_sq {a : Int} (h0 : 0 ≤ a) (h : a ≤ 10001) : W64 (a * a) = a * a := by have := sq_range h0 h; exact W64_id (by omega) (by omega)
theorem fitsE_eq {a b d : Int} (ha : 0 ≤ a) (ha' : a ≤ 10001) (hb : 0 ≤ b) (hb' : b ≤ 10001) (hd : 0 ≤ d) (hd' : d ≤ 10001) : fitsE a b d = decide (a * a + b * b ≤ d * d) := by
  have h1 := sq_range ha ha'; have h2 := sq_range hb hb'
  unfold fitsE
  rw [W64_sq ha ha', W64_sq hb hb', W64_sq hd hd', W64_id (by omega) (by omega)]
/-- What the greatest height is. -/
theorem high_is {d w : Int} (hd : 1 ≤ d) (hd' : d ≤ 10000) (hw : 1 ≤ w) (hw' : w ≤ 10000) :
    -1 ≤ highE d w ∧ highE d w ≤ 10000 ∧ (∀ k : Int, 0 ≤ k → k ≤ highE d w → w * w + k * k ≤ d * d) ∧ (∀ k : Int, highE d w < k → k ≤ 10000 → d * d < w * w + k * k) := by
  have h1 := sq_range (a := d) (by omega) (by omega); have h2 := sq_range (a := w) (by omega) (by omega)
  have h := isS (d * d - w * w)
  have hlo := h.lo; have hhi := h.hi
  have e : highE d w = searchE (d * d - w * w) - 1 := by
    unfold highE
    rw [W64_sq (by omega) (by omega), W64_sq (by omega) (by omega), W64_id (n := d * d - w * w) (by omega) (by omega), W64_id (by omega) (by omega)]
  rw [e]
  refine ⟨by omega, by omega, fun k h3 h4 => ?_, fun k h3 h4 => ?_⟩
  · have := h.below k h3 (by omega); omega
  · have := h.above k (by omega) h4; omega
def hh (d w : Int) : Int := if highE d w < 1 then 0 else highE d w
theorem hh_is {d w : Int} (hd : 1 ≤ d) (hd' : d ≤ 10000) (hw : 1 ≤ w) (hw' : w ≤ 10000) : 0 ≤ hh d w ∧ hh d w ≤ d ∧ (∀ k : Int, 1 ≤ k → k ≤ hh d w → w * w + k * k ≤ d * d) ∧ (∀ k : Int, hh d w < k → k ≤ 10001 → d * d < w * w + k * k) := by
  obtain ⟨h1, h2, h3, h4⟩ := high_is hd hd' hw hw'
  have hle : hh d w ≤ d := by
    unfold hh
    split
    · omega
    · rename_i h
      rcases Int.lt_or_le d (highE d w) with hlt | hge
      · have := h3 (highE d w) (by omega) (Int.le_refl _)
        have := sq_le (show (0 : Int) ≤ d by omega) (Int.le_of_lt hlt)
        have := sq_range (a := w) (by omega) (by omega)
        have : 1 * 1 ≤ w * w := sq_le (by decide) hw
        omega
      · exact hge
  refine ⟨by unfold hh; split <;> omega, hle, fun k h5 h6 => ?_, fun k h5 h6 => ?_⟩
  · unfold hh at h6
    split at h6
    · omega
    · exact h3 k (by omega) h6
  · rcases Int.lt_or_le 10000 k with hk | hk
    · have : k = 10001 := by omega
      subst this
      have := sq_le (show (0 : Int) ≤ d by omega) hd'
      have := sq_range (a := w) (by omega) (by omega)
      omega
    refine h4 k ?_ hk
    unfold hh at h5
    split at h5 <;> omega
/-- The strongest section among the first m widths. -/
def sS (d : Int) : Nat → Int × Int × Int
  | 0 => (0, 0, 0)
  | m + 1 => if ((m : Int) + 1) * hh d (m + 1) * hh d (m + 1) > (sS d m).2.2 then ((m : Int) + 1, hh d (m + 1), ((m : Int) + 1) * hh d (m + 1) * hh d (m + 1)) else sS d m
theorem cube_range {x y : Int} (hx : 0 ≤ x) (hx' : x ≤ 10000) (hy : 0 ≤ y) (hy' : y ≤ 10000) : 0 ≤ x * y ∧ x * y ≤ 100000000 ∧ 0 ≤ x * y * y ∧ x * y * y ≤ 1000000000000 := by
  have h1 : 0 ≤ x * y := Int.mul_nonneg hx hy
  have h2 : x * y ≤ 10000 * 10000 := Int.mul_le_mul hx' hy' hy (by decide)
  have h3 : x * y * y ≤ 100000000 * 10000 := Int.mul_le_mul h2 hy' hy (by decide)
  exact ⟨h1, h2, Int.mul_nonneg h1 hy, h3⟩

abbrev zn0 (n : Int) : V := lv (.int .i64 n)
noncomputable def bdI0 : Cf := intoLoop (runL Tryz.prog [] nimp noCall 17 none 2000 (startS Tryz.prog 17 [zn0 5, zn0 1, zn0 0, zn0 1] [] 0))
noncomputable def bdI1 : Cf := intoLoop (runL Tryz.prog [] nimp noCall 17 none 2000 bdI0)
def allE (t k n : Int) : Int := W64 (W64 (n * t) + W64 (W64 (n - 1) * k))
/-- The outer loop's head. -/
noncomputable def headO (d t k n : Int) (o : V) (H : Hp) (i : Int) : Cf := atC bdI0.1 78 [(0, symI d), (1, symI t), (2, symI k), (3, symI n), (10, symI (allE t k n)), (11, o), (12, symI i)] H 0
/-- The inner loop's head. -/
noncomputable def headI (d t k n : Int) (o : V) (H : Hp) (i y w : Int) : Cf := atC bdI1.1 78 [(0, symI d), (1, symI t), (2, symI k), (3, symI n), (10, symI (allE t k n)), (11, o), (12, symI i), (15, symI y), (16, symI w)] H 0
noncomputable def exitI0 : Cf := runL Tryz.prog [] nimp noCall 17 none 2000 (knowS 54 (lv (.bool false)) (runL Tryz.prog [] nimp noCall 17 none 2000 (headI 0 0 0 0 (zn0 0) [] 0 0 0)))
/-- Behind the inner loop. -/
noncomputable def exitI (d t k n : Int) (o : V) (H : Hp) (i w : Int) : Cf := atC exitI0.1 78 [(0, symI d), (1, symI t), (2, symI k), (3, symI n), (10, symI (allE t k n)), (11, o), (12, symI i), (16, symI w), (72, symB (w == 0))] H 0
theorem high_far {d y : Int} (hd : 1 ≤ d) (hd' : d ≤ 10000) (hy : d < y) (hy' : y ≤ 4000000) : highE d y < 1 := by
  have h1 := sq_range (a := d) (by omega) (by omega)
  have h2 : y * y ≤ 4000000 * 4000000 := Int.mul_le_mul hy' hy' (by omega) (by decide)
  have h3 : d * d < y * y := by
    have : (d + 1) * (d + 1) ≤ y * y := sq_le (by omega) (by omega)
    have e : (d + 1) * (d + 1) = d * d + 2 * d + 1 := by rw [Int.add_mul, Int.mul_add, Int.mul_one, Int.one_mul]; omega
    omega
  have h := isS (d * d - y * y)
  have hlo := h.lo; have hhi := h.hi
  have e : highE d y = searchE (d * d - y * y) - 1 := by
    unfold highE
    rw [W64_sq (by omega) (by omega), W64_id (n := y * y) (by omega) (by omega), W64_id (n := d * d - y * y) (by omega) (by omega), W64_id (by omega) (by omega)]
  rw [e]
  rcases Int.lt_or_le 0 (searchE (d * d - y * y)) with hlt | hge
  · have := h.below 0 (by decide) hlt
    omega
  · omega
section
variable {d y : Int} (hd : 1 ≤ d) (hd' : d ≤ 10000) (hy : 1 ≤ y) (hy' : y ≤ 4000000)
include hd hd' hy hy'
theorem hh_any : 0 ≤ hh d y ∧ hh d y ≤ d ∧ (d < y → hh d y = 0) := by
  rcases Int.lt_or_le d y with h | h
  · have e : hh d y = 0 := by unfold hh; rw [if_pos (high_far hd hd' h hy')]
    rw [e]
    exact ⟨by decide, by omega, fun _ => rfl⟩
  · obtain ⟨h1, h2, _, _⟩ := hh_is hd hd' hy (by omega)
    exact ⟨h1, h2, fun h' => absurd h' (by omega)⟩
set_option maxRecDepth 100000 in
/-- The width is counted up. -/
theorem count_up {t k n i : Int} {o : V} {H : Hp} {Q : Cf → Prop} (h : Reach Tryz.prog [] 17 none (headI d t k n o H i y (hh d y)) Q) : ∀ (m : Nat) (w : Int), (hh d y - w).toNat ≤ m → 0 ≤ w → w ≤ hh d y →
    Reach Tryz.prog [] 17 none (headI d t k n o H i y w) Q := by
  obtain ⟨g1, g2, g3⟩ := hh_any hd hd' hy hy'
  intro m
  induction m with
  | zero =>
    intro w hm h0 hle
    have e : w = hh d y := by omega
    rw [e]; exact h
  | succ m ih =>
    intro w hm h0 hle
    by_cases hlt : w < hh d y
    · have hyd : y ≤ d := by
        rcases Int.lt_or_le d y with hf | hf
        · have := g3 hf; omega
        · exact hf
      obtain ⟨_, _, g4, _⟩ := hh_is hd hd' hy (by omega)
      refine goL (Reach.bool 54 (t := decide (y ≤ d)) true (decide_eq_true hyd) (by kernel_rfl) (goL ?_))
      refine Reach.bool 68 (t := decide (W64 (W64 (W64 (w + 1) * W64 (w + 1)) + W64 (y * y)) ≤ W64 (d * d))) true ?_ (by kernel_rfl) (goL ?_)
      · have s1 := sq_range (a := w + 1) (by omega) (by omega)
        have s2 := sq_range (a := y) (by omega) (by omega)
        rw [W64_id (n := w + 1) (by omega) (by omega), W64_sq (a := w + 1) (by omega) (by omega), W64_sq (a := y) (by omega) (by omega), W64_sq (a := d) (by omega) (by omega), W64_id (by omega) (by omega)]
        exact decide_eq_true (by have := g4 (w + 1) (by omega) (by omega); omega)
      refine Reach.int 16 (w + 1) (W64_id (by omega) (by omega)) (by kernel_rfl) (Reach.into ?_)
      refine Reach.keep [0, 1, 2, 3, 10, 11, 12, 15, 16] (Reach.cast (c' := headI d t k n o H i y (w + 1)) (by kernel_rfl) ?_)
      exact ih (w + 1) (by omega) (by omega) (by omega)
    · have e : w = hh d y := by omega
      rw [e]; exact h
set_option maxRecDepth 100000 in
theorem count_end {t k n i : Int} {o : V} {H : Hp} {Q : Cf → Prop} (h : Reach Tryz.prog [] 17 none (exitI d t k n o H i (hh d y)) Q) :
    Reach Tryz.prog [] 17 none (headI d t k n o H i y (hh d y)) Q := by
  obtain ⟨g1, g2, g3⟩ := hh_any hd hd' hy hy'
  by_cases hyd : y ≤ d
  · obtain ⟨_, _, _, g5⟩ := hh_is hd hd' hy (by omega)
    refine goL (Reach.bool 54 (t := decide (y ≤ d)) true (decide_eq_true hyd) (by kernel_rfl) (goL ?_))
    refine Reach.bool 68 (t := decide (W64 (W64 (W64 (hh d y + 1) * W64 (hh d y + 1)) + W64 (y * y)) ≤ W64 (d * d))) false ?_ (by kernel_rfl) (goL ?_)
    · have s1 := sq_range (a := hh d y + 1) (by omega) (by omega)
      have s2 := sq_range (a := y) (by omega) (by omega)
      rw [W64_id (n := hh d y + 1) (by omega) (by omega), W64_sq (a := hh d y + 1) (by omega) (by omega), W64_sq (a := y) (by omega) (by omega), W64_sq (a := d) (by omega) (by omega), W64_id (by omega) (by omega)]
      exact decide_eq_false (by have := g5 (hh d y + 1) (by omega) (by omega); omega)
    exact Reach.keep [0, 1, 2, 3, 10, 11, 12, 16, 72] (Reach.cast (c' := exitI d t k n o H i (hh d y)) (by kernel_rfl) h)
  · refine goL (Reach.bool 54 (t := decide (y ≤ d)) false (decide_eq_false hyd) (by kernel_rfl) (goL ?_))
    exact Reach.keep [0, 1, 2, 3, 10, 11, 12, 16, 72] (Reach.cast (c' := exitI d t k n o H i (hh d y)) (by kernel_rfl) h)
end

/-- The low side of a board. -/
def lowI (t k n i : Int) : Int := 2 * (i * (t + k)) - (n * t + (n - 1) * k)
structure Dom (t k n : Int) : Prop where
  t1 : 1 ≤ t
  t2 : t ≤ 10000
  k1 : 0 ≤ k
  k2 : k ≤ 10000
  n1 : 1 ≤ n
  n2 : n ≤ 64
theorem mul_box {a b x y : Int} (h1 : 0 ≤ a) (h2 : a ≤ x) (h3 : 0 ≤ b) (h4 : b ≤ y) : 0 ≤ a * b ∧ a * b ≤ x * y := ⟨Int.mul_nonneg h1 h3, Int.mul_le_mul h2 h4 h3 (by omega)⟩
section
variable {t k n : Int} (D : Dom t k n)
include D
theorem Dom.all : allE t k n = n * t + (n - 1) * k ∧ 1 ≤ n * t + (n - 1) * k ∧ n * t + (n - 1) * k ≤ 1280000 ∧ t ≤ n * t + (n - 1) * k := by
  obtain ⟨t1, t2, k1, k2, n1, n2⟩ := D
  have a := mul_box (a := n) (b := t) (x := 64) (y := 10000) (by omega) n2 (by omega) t2
  have b := mul_box (a := n - 1) (b := k) (x := 64) (y := 10000) (by omega) (by omega) k1 k2
  have c : 1 * t ≤ n * t := Int.mul_le_mul_of_nonneg_right n1 (by omega)
  unfold allE
  rw [W64_id (n := n * t) (by omega) (by omega), W64_id (n := n - 1) (by omega) (by omega), W64_id (n := (n - 1) * k) (by omega) (by omega), W64_id (by omega) (by omega)]
  refine ⟨rfl, ?_, ?_, ?_⟩ <;> omega
theorem Dom.low : lowE t k n = lowI t k n 0 := by
  obtain ⟨h1, h2, h3, h4⟩ := D.all
  have : lowE t k n = W64 (0 - allE t k n) := rfl
  rw [this, h1, lowI, W64_id (by omega) (by omega)]
  omega
theorem Dom.step {i : Int} (h0 : 0 ≤ i) (hi : i ≤ 64) : -1280000 ≤ lowI t k n i ∧ lowI t k n i ≤ 2560000 ∧ 0 ≤ i * (t + k) ∧ i * (t + k) ≤ 1280000 := by
  obtain ⟨h1, h2, h3, h4⟩ := D.all
  obtain ⟨t1, t2, k1, k2, n1, n2⟩ := D
  have b := mul_box (a := i) (b := t + k) (x := 64) (y := 20000) h0 hi (by omega) (by omega)
  unfold lowI
  omega
theorem Dom.next {i : Int} (h0 : 0 ≤ i) (hi : i < 64) : nextE t k (lowI t k n i) = lowI t k n (i + 1) := by
  obtain ⟨a1, a2, a3, a4⟩ := D.step h0 (by omega)
  obtain ⟨b1, b2, b3, b4⟩ := D.step (i := i + 1) (by omega) (by omega)
  obtain ⟨t1, t2, k1, k2, n1, n2⟩ := D
  have e : lowI t k n (i + 1) = lowI t k n i + 2 * t + 2 * k := by
    unfold lowI
    rw [Int.add_mul]
    omega
  unfold nextE
  rw [W64_id (n := 2 * t) (by omega) (by omega), W64_id (n := 2 * k) (by omega) (by omega), W64_id (n := lowI t k n i + 2 * t) (by omega) (by omega), W64_id (by omega) (by omega), e]
/-- How high a board lies at most. -/
def yE (t low : Int) : Int := maxE (W64 (0 - low)) (W64 (low + W64 (2 * t)))
omit D in
theorem wide_yE {d low : Int} : wideE d t low = highE d (yE t low) := rfl
theorem Dom.y {i : Int} (h0 : 0 ≤ i) (hi : i ≤ 64) : yE t (lowI t k n i) = max (- lowI t k n i) (lowI t k n i + 2 * t) ∧ 1 ≤ yE t (lowI t k n i) ∧ yE t (lowI t k n i) ≤ 4000000 := by
  obtain ⟨a1, a2, a3, a4⟩ := D.step h0 hi
  obtain ⟨t1, t2, k1, k2, n1, n2⟩ := D
  unfold yE maxE
  rw [W64_id (n := 0 - lowI t k n i) (by omega) (by omega), W64_id (n := 2 * t) (by omega) (by omega), W64_id (n := lowI t k n i + 2 * t) (by omega) (by omega)]
  split <;> omega
/-- The reference's four numbers have the same maximum. -/
theorem Dom.max4 {i : Int} (h0 : 0 ≤ i) (hi : i ≤ 64) :
    maxE (maxE (lowI t k n i) (W64 (0 - lowI t k n i))) (maxE (W64 (lowI t k n i + W64 (2 * t))) (W64 (0 - W64 (lowI t k n i + W64 (2 * t))))) = yE t (lowI t k n i) := by
  obtain ⟨a1, a2, a3, a4⟩ := D.step h0 hi
  obtain ⟨t1, t2, k1, k2, n1, n2⟩ := D
  unfold yE maxE
  rw [W64_id (n := 0 - lowI t k n i) (by omega) (by omega), W64_id (n := 2 * t) (by omega) (by omega), W64_id (n := lowI t k n i + 2 * t) (by omega) (by omega), W64_id (n := 0 - (lowI t k n i + 2 * t)) (by omega) (by omega)]
  repeat' split <;> omega
theorem Dom.lowR {i : Int} (h0 : 0 ≤ i) (hi : i ≤ 64) : W64 (W64 (W64 (2 * i) * W64 (t + k)) - allE t k n) = lowI t k n i := by
  obtain ⟨a1, a2, a3, a4⟩ := D.step h0 hi
  obtain ⟨h1, h2, h3, h4⟩ := D.all
  obtain ⟨t1, t2, k1, k2, n1, n2⟩ := D
  have e : 2 * i * (t + k) = 2 * (i * (t + k)) := Int.mul_assoc ..
  rw [W64_id (n := 2 * i) (by omega) (by omega), W64_id (n := t + k) (by omega) (by omega), e, W64_id (n := 2 * (i * (t + k))) (by omega) (by omega), h1, W64_id (by omega) (by omega), lowI]
end
/-- The list, as far as it is. -/
def outV : List Int → V
  | [] => lv (.slice none 0 0)
  | _ :: l => .f (.one (.b (.roy 0 0 (l.length + 1) 1)))
def outH : List Int → Hp
  | [] => []
  | v :: l => [.row 3 (sI v :: l.map sI)]
def refR (n : Nat) (ws : List Int) : Option (List Int) → V → Hp → Prop
  | none, x, _ => x = .tup [.one (.b (.lit (.slice none 0 0))), .one (lc (.bool false))]
  | some us, x, H' => x = .tup [.one (.b (.roy 0 0 n 1)), .one (lc (.bool true))] ∧ H' = [.row 3 ((ws ++ us).map sI)]
section
variable {d t k n : Int} (hd : 1 ≤ d) (hd' : d ≤ 10000) (D : Dom t k n)
include hd hd' D
set_option maxRecDepth 100000 in
/-- From the outer loop's head to the place behind the inner loop. -/
theorem board_at {i : Int} (h0 : 0 ≤ i) (hi : i < n) {o : V} {H : Hp} {Q : Cf → Prop}
    (h : Reach Tryz.prog [] 17 none (exitI d t k n o H i (hh d (yE t (lowI t k n i)))) Q) : Reach Tryz.prog [] 17 none (headO d t k n o H i) Q := by
  have hn := D.n2
  obtain ⟨y1, y2, y3⟩ := D.y h0 (by omega)
  have hc := hh_any hd hd' y2 y3
  refine goL (Reach.bool 27 (t := decide (i < n)) true (decide_eq_true hi) (by kernel_rfl) (goL ?_))
  refine Reach.lit1 (.int .i64 (maxE (W64 (W64 (W64 (2 * i) * W64 (t + k)) - allE t k n)) (W64 (0 - W64 (W64 (W64 (2 * i) * W64 (t + k)) - allE t k n))))) (.int .i64 (maxE (lowI t k n i) (W64 (0 - lowI t k n i)))) (by kernel_rfl) (by rw [D.lowR h0 (by omega)]) (goL ?_)
  refine Reach.lit1 (.int .i64 (maxE (W64 (W64 (W64 (W64 (2 * i) * W64 (t + k)) - allE t k n) + W64 (2 * t))) (W64 (0 - W64 (W64 (W64 (W64 (2 * i) * W64 (t + k)) - allE t k n) + W64 (2 * t)))))) (.int .i64 (maxE (W64 (lowI t k n i + W64 (2 * t))) (W64 (0 - W64 (lowI t k n i + W64 (2 * t)))))) (by kernel_rfl) (by rw [D.lowR h0 (by omega)]) (goL ?_)
  refine Reach.lit1 (.int .i64 (maxE (maxE (lowI t k n i) (W64 (0 - lowI t k n i))) (maxE (W64 (lowI t k n i + W64 (2 * t))) (W64 (0 - W64 (lowI t k n i + W64 (2 * t))))))) (.int .i64 (yE t (lowI t k n i))) (by kernel_rfl) (by rw [D.max4 h0 (by omega)]) (goL (Reach.into ?_))
  refine Reach.lit 16 (u := .int .i64 0) (by kernel_rfl) ?_
  refine Reach.keep [0, 1, 2, 3, 10, 11, 12, 15, 16] (Reach.cast (c' := headI d t k n o H i (yE t (lowI t k n i)) 0) (by kernel_rfl) ?_)
  exact count_up hd hd' y2 y3 (count_end hd hd' y2 y3 h) _ 0 (Nat.le_refl _) (by decide) hc.1
omit hd hd' D in
theorem wide_hh {d t low : Int} : (wideE d t low < 1 ↔ hh d (yE t low) = 0) ∧ (¬ wideE d t low < 1 → hh d (yE t low) = wideE d t low) := by
  unfold hh
  rw [← wide_yE]
  split <;> omega
set_option maxRecDepth 100000 in
/-- The outer loop. -/
theorem boards_loop {σ0 : Env} {w0 : World} (hm0 : HRep σ0 [] w0) : ∀ (r : Nat) (ws : List Int), ws.length + r = n.toNat → (ws = [] → 0 < r) →
    ReachF Tryz.prog [] 17 σ0 [] 0 w0 (headO d t k n (outV ws) (outH ws) ws.length) (Ends Tryz.prog 17 (refR n.toNat ws (sawE d t k (lowI t k n ws.length) r)))
  | 0, [], hn, hw => absurd (hw rfl) (by decide)
  | 0, v :: l, hn, hw => by
    have e : l.length + 1 = n.toNat := by simpa using hn
    refine ReachF.bind (Q := Ends Tryz.prog 17 (refR n.toNat (v :: l) (sawE d t k (lowI t k n ((v :: l).length : Nat)) 0))) ?_ fun c' q => .done q
    refine goL (Reach.bool 27 (t := decide ((((v :: l).length : Nat) : Int) < n)) false (decide_eq_false (by have := D.n1; simp only [List.length_cons]; omega)) (by kernel_rfl) (go ?_))
    refine Reach.fin (.tup [.one (.b (.roy 0 0 (l.length + 1) 1)), .one (lc (.bool true))]) [.row 3 (sI v :: l.map sI)] (by kernel_rfl) ?_
    rw [sawE]
    exact ⟨by rw [e], by simp⟩
  | r + 1, ws, hn, hw => by
    have hi : (ws.length : Int) < n := by have := D.n1; omega
    have h64 : (ws.length : Int) < 64 := by have := D.n2; omega
    refine ReachF.step (fun _ => board_at hd hd' D (Int.natCast_nonneg _) hi) ?_
    have hw1 := wide_hh (d := d) (t := t) (low := lowI t k n ws.length)
    by_cases hz : wideE d t (lowI t k n ws.length) < 1
    · refine ReachF.bind (Q := Ends Tryz.prog 17 (refR n.toNat ws (sawE d t k (lowI t k n ws.length) (r + 1)))) ?_ fun c' q => .done q
      refine Reach.bool 72 (t := hh d (yE t (lowI t k n ws.length)) == 0) true (by simp [hw1.1.1 hz]) (by kernel_rfl) (go ?_)
      refine Reach.finV (.tup [.one (.b (.lit (.slice none 0 0))), .one (lc (.bool false))]) (by kernel_rfl) fun H' => ?_
      rw [sawE, if_pos hz]
      rfl
    · have hnz : ¬ hh d (yE t (lowI t k n ws.length)) = 0 := fun e => hz (hw1.1.2 e)
      refine ReachF.step (fun _ => Reach.bool 72 (t := hh d (yE t (lowI t k n ws.length)) == 0) false (by simp [hnz]) (by kernel_rfl)) ?_
      have hlen : ∀ x : Int, (((ws ++ [x]).length : Nat) : Int) = (ws.length : Int) + 1 := fun x => by simp
      have key : ReachF Tryz.prog [] 17 σ0 [] 0 w0 (headO d t k n (outV (ws ++ [hh d (yE t (lowI t k n ws.length))])) (outH (ws ++ [hh d (yE t (lowI t k n ws.length))])) ((ws.length : Int) + 1)) (Ends Tryz.prog 17 (refR n.toNat ws (sawE d t k (lowI t k n ws.length) (r + 1)))) := by
        have ih := boards_loop hm0 r (ws ++ [hh d (yE t (lowI t k n ws.length))]) (by simp; omega) (fun e => by simp at e)
        rw [hlen] at ih
        refine ih.mono fun c' ⟨x, H', e, hx⟩ => ⟨x, H', e, ?_⟩
        rw [sawE, if_neg hz, D.next (Int.natCast_nonneg _) h64]
        rw [hw1.2 hz] at hx
        cases hs : sawE d t k (lowI t k n ((ws.length : Int) + 1)) r with
        | none => rw [hs] at hx; exact hx
        | some us => rw [hs] at hx; obtain ⟨h1, h2⟩ := hx; exact ⟨h1, by rw [h2]; simp⟩
      cases ws with
      | nil =>
        refine ReachF.step (fun _ h => goL (Reach.int 12 (((([] : List Int).length : Nat) : Int) + 1) (W64_id (by omega) (by omega)) (by kernel_rfl) (Reach.into h))) ?_
        refine ReachF.step (fun _ => Reach.open' 11 (x := .f (.one (.b (.row 1 0 1 1)))) (.f (.one (.b (.roy 1 0 1 1)))) (by kernel_rfl) (fun σ v h => h)) ?_
        refine ReachF.pack (n := 0) (k := 1) (m := 1) (sz := 1) (T := 3) (l := [sI (hh d (yE t (lowI t k n (([] : List Int).length : Nat))))]) (ks := [0, 1, 2, 3, 10, 12]) (d := 11) hm0 (Nat.le_refl _) (Nat.le_refl _) (Nat.le_refl _) (Nat.zero_le _) (by kernel_rfl) (by kernel_rfl) (by kernel_rfl) (by kernel_rfl) (List.all_eq_true.1 (by kernel_rfl)) (by kernel_rfl) ?_
        exact ReachF.cast (by kernel_rfl) key
      | cons v l =>
        refine ReachF.step (fun _ => goL) ?_
        refine ReachF.step (fun _ => Reach.app2 (e := 3) (size := 1) (bs := 8) (k := 0) (n := l.length + 1) (m := 1) (j := 2) (news := [sI (hh d (yE t (lowI t k n ((v :: l).length : Nat))))]) (l := sI v :: l.map sI) [.row 3 (sI v :: l.map sI), .cells 3 [sI (hh d (yE t (lowI t k n ((v :: l).length : Nat))))]] [.dead, .cells 3 [sI (hh d (yE t (lowI t k n ((v :: l).length : Nat))))], .row 3 (sI v :: (l ++ [hh d (yE t (lowI t k n ((v :: l).length : Nat)))]).map sI)] (by kernel_rfl) (by kernel_rfl) rfl (by simp) (by simp only [List.length_cons] at h64; unfold maxLen; omega) (by simp only [List.length_cons] at h64; omega) (by simp)) ?_
        refine ReachF.step (fun _ h => goL (Reach.int 12 ((((v :: l).length : Nat) : Int) + 1) (W64_id (by omega) (by omega)) (by kernel_rfl) (Reach.into h))) ?_
        refine ReachF.pack (n := 0) (k := 2) (m := l.length + 1 + 1) (sz := 1) (T := 3) (l := sI v :: (l ++ [hh d (yE t (lowI t k n ((v :: l).length : Nat)))]).map sI) (ks := [0, 1, 2, 3, 10, 12]) (d := 11) hm0 (Nat.le_refl _) (Nat.le_refl _) (Nat.le_refl _) (Nat.zero_le _) (by kernel_rfl) (by kernel_rfl) (by simp [List.all_map, C.under, B.under]) (by kernel_rfl) (List.all_eq_true.1 (by kernel_rfl)) (by kernel_rfl) ?_
        have e1 : outV ((v :: l) ++ [hh d (yE t (lowI t k n ((v :: l).length : Nat)))]) = .f (.one (.b (.roy 0 0 (l.length + 1 + 1) 1))) := by simp [outV]
        have e2 : outH ((v :: l) ++ [hh d (yE t (lowI t k n ((v :: l).length : Nat)))]) = [.row 3 (sI v :: (l ++ [hh d (yE t (lowI t k n ((v :: l).length : Nat)))]).map sI)] := rfl
        rw [e1, e2] at key
        exact ReachF.cast (by kernel_rfl) key
end

section
variable {d t k n : Int} (hd : 1 ≤ d) (hd' : d ≤ 10000) (D : Dom t k n)
include hd hd' D
set_option maxRecDepth 100000 in
theorem refBoards_at : CallAt Tryz.prog [] (.fn 17) [symI d, symI t, symI k, symI n] [] 0 (refR n.toNat [] (sawE d t k (lowE t k n) n.toNat)) := by
  refine call_of_reach entersP (by kernel_rfl) (goL (Reach.into ?_))
  refine Reach.lit 12 (u := .int .i64 0) (by kernel_rfl) ?_
  refine Reach.keep [0, 1, 2, 3, 10, 11, 12] (Reach.cast (c' := headO d t k n (outV []) (outH []) (([] : List Int).length : Nat)) (by kernel_rfl) ?_)
  refine Reach.ofG (G := []) (ro := 0) (by kernel_rfl) fun σ w hm => ?_
  rw [D.low]
  exact boards_loop hd hd' D hm n.toNat [] (by simp) fun _ => by have := D.n1; omega
end
theorem refR_plain {n : Nat} {ws : List Int} : ∀ {o : Option (List Int)} {x : V} {G : Hp}, refR n ws o x G → plainV x = true ∨ (nfV x = true ∧ G.all plainK = true)
  | none, x, G, h => .inl (by rw [show x = _ from h]; rfl)
  | some us, x, G, ⟨h1, h2⟩ => .inr ⟨by rw [h1]; rfl, by rw [h2]; simp [plainK, List.all_map, plainC, plainB]⟩
/-- The reference's sum. -/
noncomputable def suI0 : Cf := intoLoop (runL Tryz.prog [] nimp noCall 58 none 2000 (startS Tryz.prog 58 [.f (.one (.b (.row 0 0 1 1)))] [.row 3 [sI 0]] 1))
noncomputable def headU (l : List Int) (a i : Int) : Cf := atC suI0.1 18 [(0, .f (.one (.b (.roy 0 0 l.length 1)))), (3, symI a), (4, symI i)] [.row 3 (l.map sI)] 1
theorem sumU_loop (l : List Int) : ∀ (m i : Nat) (a : Int), l.length - i ≤ m → i ≤ l.length → l.length < 4611686018427387904 →
    Reach Tryz.prog [] 58 none (headU l a i) (Ends Tryz.prog 58 (fun x _ => x = symI (sumE a (l.drop i)) ∧ plainV x = true)) := by
  intro m
  induction m with
  | zero =>
    intro i a hm hi hl
    have : i = l.length := by omega
    subst this
    refine goL (Reach.len1 (n := l.length) (by kernel_rfl) (goL ?_))
    refine Reach.bool 8 (t := decide ((l.length : Int) < l.length)) false (decide_eq_false (Int.lt_irrefl _)) (by kernel_rfl) (go ?_)
    exact Reach.finV (symI a) (by kernel_rfl) fun _ => ⟨by rw [List.drop_length]; rfl, rfl⟩
  | succ m ih =>
    intro i a hm hi hl
    refine goL (Reach.len1 (n := l.length) (by kernel_rfl) (goL ?_))
    by_cases h : i < l.length
    · refine Reach.bool 8 true (decide_eq_true (Int.ofNat_lt.2 h)) (by kernel_rfl) (goL ?_)
      refine Reach.idx (k := 0) (off := 0) (n := l.length) (i := i) (m := 1) (by kernel_rfl) (Int.natCast_nonneg i) (Int.ofNat_lt.2 h) (goL ?_)
      refine Reach.ld1 (k := 0) (off := 0 + (i : Int).toNat * 1) (l := l.map sI) (d := sI l[i]) (by kernel_rfl) (by kernel_rfl) (by simp [h]) (goL ?_)
      refine Reach.int 4 ((i + 1 : Nat) : Int) (W64_id (by omega) (by omega)) (by kernel_rfl) (Reach.into ?_)
      refine Reach.keep [0, 3, 4] (Reach.cast (c' := headU l (W64 (a + l[i])) (i + 1 : Nat)) (by kernel_rfl) ?_)
      have := ih (i + 1) (W64 (a + l[i])) (by omega) (by omega) hl
      rw [List.drop_eq_getElem_cons h]
      exact this
    · have : i = l.length := by omega
      subst this
      refine Reach.bool 8 (t := decide ((l.length : Int) < l.length)) false (decide_eq_false (Int.lt_irrefl _)) (by kernel_rfl) (go ?_)
      exact Reach.finV (symI a) (by kernel_rfl) fun _ => ⟨by rw [List.drop_length]; rfl, rfl⟩
theorem sumU_at (l : List Int) (hl : l.length < 4611686018427387904) : CallAt Tryz.prog [] (.fn 58) [.f (.one (.b (.roy 0 0 l.length 1)))] [.row 3 (l.map sI)] 1 (fun x _ => x = symI (sumE 0 l) ∧ plainV x = true) := by
  refine call_of_reach entersP (by kernel_rfl) (goL (Reach.into ?_))
  refine Reach.lit 3 (u := .int .i64 0) (by kernel_rfl) (Reach.lit 4 (u := .int .i64 0) (by kernel_rfl) ?_)
  refine Reach.keep [0, 3, 4] (Reach.cast (c' := headU l 0 (0 : Nat)) (by kernel_rfl) ?_)
  exact sumU_loop l l.length 0 0 (by omega) (by omega) hl
/-- The best of the reference, which does not stop where boards can't be sawn. -/
def bestF (d t k : Int) : Nat → Int → Int → Int → Int
  | 0, _, b, _ => b
  | m + 1, n, b, w => match sawE d t k (lowE t k n) n.toNat with
    | none => bestF d t k m (n + 1) b w
    | some ws => bestF d t k m (n + 1) (if sumE 0 ws > w then n else b) (if sumE 0 ws > w then sumE 0 ws else w)
noncomputable def bbI0 : Cf := intoLoop (runL Tryz.prog [] nimp noCall 16 none 2000 (startS Tryz.prog 16 [zn0 5, zn0 1, zn0 0] [] 0))
noncomputable def headF (d t k b w n : Int) : Cf := atC bbI0.1 35 [(0, symI d), (1, symI t), (2, symI k), (7, symI b), (8, symI w), (9, symI n)] [] 0
section
variable {d t k : Int} (hd : 1 ≤ d) (hd' : d ≤ 10000) (D : ∀ n, 1 ≤ n → n ≤ 64 → Dom t k n)
include hd hd' D
set_option maxRecDepth 100000 in
theorem best_loop {σ0 : Env} {w0 : World} (hm0 : HRep σ0 [] w0) : ∀ (m : Nat) (n b w : Int), n + m = 65 → 1 ≤ n →
    ReachF Tryz.prog [] 16 σ0 [] 0 w0 (headF d t k b w n) (Ends Tryz.prog 16 (fun x _ => x = symI (bestF d t k m n b w) ∧ plainV x = true))
  | 0, n, b, w, hn, h0 => by
    obtain rfl : n = 65 := by omega
    refine ReachF.bind (Q := Ends Tryz.prog 16 (fun x _ => x = symI (bestF d t k 0 65 b w) ∧ plainV x = true)) ?_ fun c' q => .done q
    refine goL (Reach.bool 13 (t := decide ((65 : Int) ≤ 64)) false (by decide) (by kernel_rfl) (go ?_))
    exact Reach.finV (symI b) (by kernel_rfl) fun _ => ⟨rfl, rfl⟩
  | m + 1, n, b, w, hn, h0 => by
    have h64 : n ≤ 64 := by omega
    refine ReachF.step (fun _ => goL) ?_
    refine ReachF.step (fun _ => Reach.bool 13 (t := decide (n ≤ 64)) true (decide_eq_true h64) (by kernel_rfl)) ?_
    refine ReachF.step (fun _ => goL) ?_
    refine ReachF.callR (CallAt.fresh (gl := []) (H := []) (ro := 0) (refBoards_at hd hd' (D n h0 h64)) rfl fun x G hx => refR_plain hx) (by kernel_rfl) (by kernel_rfl) ?_
    rintro y K ⟨x, G, hx, hy⟩
    rw [bestF]
    cases hs : sawE d t k (lowE t k n) n.toNat with
    | none =>
      rw [hs] at hx
      obtain rfl : x = _ := hx
      rcases hy with ⟨_, rfl, rfl⟩ | ⟨hp, rfl, rfl⟩
      · refine ReachF.step (fun _ h => goL (Reach.int 9 (n + 1) (W64_id (by omega) (by omega)) (by kernel_rfl) (Reach.into (Reach.keep [0, 1, 2, 7, 8, 9] h)))) ?_
        exact ReachF.cast (by kernel_rfl) (best_loop hm0 m (n + 1) b w (by omega) (by omega))
      · cases hp
    | some ws =>
      rw [hs] at hx
      obtain ⟨rfl, rfl⟩ := hx
      have hl := sawE_len _ hs
      rcases hy with ⟨hp, _, _⟩ | ⟨_, rfl, rfl⟩
      · cases hp
      · have hsum : ∀ ro, CallAt Tryz.prog [] (.fn 58) [.f (.one (.b (.roy 0 0 n.toNat 1)))] [.row 3 (([] ++ ws).map sI)] ro (fun x H' => x = symI (sumE 0 ws) ∧ H' = [.row 3 (([] ++ ws).map sI)]) := fun ro => by
          rw [← hl]
          exact CallAt.readA 0 (sumU_at ws (by omega)) (by simp [plainK, List.all_map, plainC, plainB]) rfl fun σ vs h => h
        refine ReachF.step (fun _ => goL) ?_
        refine ReachF.callR (hsum 0) (by kernel_rfl) (by kernel_rfl) ?_
        rintro y K ⟨rfl, rfl⟩
        refine ReachF.step (fun _ => goL) ?_
        by_cases hg : sumE 0 ws > w
        · refine ReachF.step (fun _ => Reach.bool 30 (t := decide (sumE 0 ws > w)) true (decide_eq_true hg) (by kernel_rfl)) ?_
          refine ReachF.step (fun _ => goL) ?_
          refine ReachF.callR (hsum 0) (by kernel_rfl) (by kernel_rfl) ?_
          rintro y K ⟨rfl, rfl⟩
          refine ReachF.step (fun _ h => goL (Reach.int 9 (n + 1) (W64_id (by omega) (by omega)) (by kernel_rfl) (Reach.into h))) ?_
          refine ReachF.drop1 0 [0, 1, 2, 7, 8, 9] hm0 (by kernel_rfl) (by kernel_rfl) (by kernel_rfl) (by kernel_rfl) (by kernel_rfl) (by kernel_rfl) (by kernel_rfl) ?_
          dsimp only
          rw [if_pos hg, if_pos hg]
          exact ReachF.cast (by kernel_rfl) (best_loop hm0 m (n + 1) n (sumE 0 ws) (by omega) (by omega))
        · refine ReachF.step (fun _ => Reach.bool 30 (t := decide (sumE 0 ws > w)) false (decide_eq_false hg) (by kernel_rfl)) ?_
          refine ReachF.step (fun _ h => goL (Reach.int 9 (n + 1) (W64_id (by omega) (by omega)) (by kernel_rfl) (Reach.into h))) ?_
          refine ReachF.drop1 0 [0, 1, 2, 7, 8, 9] hm0 (by kernel_rfl) (by kernel_rfl) (by kernel_rfl) (by kernel_rfl) (by kernel_rfl) (by kernel_rfl) (by kernel_rfl) ?_
          dsimp only
          rw [if_neg hg, if_neg hg]
          exact ReachF.cast (by kernel_rfl) (best_loop hm0 m (n + 1) b w (by omega) (by omega))
set_option maxRecDepth 100000 in
theorem refBest_any : PureAt Tryz.prog 16 [symI d, symI t, symI k] (· = symI (bestF d t k 64 1 0 0)) := by
  refine pure_of_call (call_of_reach entersP (by kernel_rfl) (goL (Reach.into ?_)))
  refine Reach.lit 7 (u := .int .i64 0) (by kernel_rfl) (Reach.lit 8 (u := .int .i64 0) (by kernel_rfl) (Reach.lit 9 (u := .int .i64 1) (by kernel_rfl) ?_))
  refine Reach.keep [0, 1, 2, 7, 8, 9] (Reach.cast (c' := headF d t k 0 0 1) (by kernel_rfl) ?_)
  refine Reach.ofG (G := []) (ro := 0) (by kernel_rfl) fun σ w hm => ?_
  exact best_loop hd hd' D hm 64 1 0 0 (by decide) (by decide)
end
end Go.Proofs.YtgkpejlddgoalaaGreatDoor.Zm
