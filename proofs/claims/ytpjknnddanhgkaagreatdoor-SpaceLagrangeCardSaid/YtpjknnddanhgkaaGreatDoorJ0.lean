/- Parts of the proof, joined. -/
import Derived.Deep.Quiet
import Derived.Below
import Derived.Lib.Hide
import Derived.Deep.MidRow
import Derived.Scope
set_option linter.unusedSimpArgs false
set_option linter.unusedVariables false
set_option linter.constructorNameAsVariable false
namespace Go.Proofs.YtpjknnddanhgkaaGreatDoor
section
theorem aI{a b:Prop}(h:a)(k:b):a∧b:=⟨h,k⟩
theorem aH{p:Prop}(h:p):Go.RowKit.Hid p:=Go.Lib.hid h
theorem aR(n:Nat):n≤n:=Nat.le_refl n
theorem aB(n:Nat)(w:World):Go.RowKit.Below n w w:=Go.RowKit.Below.refl n w
end
namespace Ab
open Go.RowKit
def hotObj (K:Obj→Bool) (o:Obj):Bool:=K o
structure Ext (K:Obj→Bool) (w w' : World):Prop where
 size:w.heap.size≤w'.heap.size
 block:∀ (g:Nat) (o:Obj),w.heap[g]?=some o→hotObj K o=true→w'.heap[g]?=some o
theorem lt_of_block {w:World} {g:Nat} {o:Obj} (h:w.heap[g]?=some o):g<w.heap.size:=by
 rcases Nat.lt_or_ge g w.heap.size with hlt|hge
 ·exact hlt
 ·rw [Array.getElem?_eq_none hge] at h;cases h
theorem Ext.trans {K:Obj→Bool} {a b c:World} (h:Ext K a b) (h' : Ext K b c):Ext K a c:=⟨Nat.le_trans h.size h'.size,fun g o hg ho=>h'.block g o (h.block g o hg ho) ho⟩
theorem Ext.of_below {K:Obj→Bool} {w w' : World} (h:Below w.heap.size w w'):Ext K w w':=⟨h.size,fun g _ hg _=>(h.block g (lt_of_block hg)).trans hg⟩
abbrev Sp:=Value→World→Prop
def Stable (K:Obj→Bool) (S:Sp):Prop := ∀ v w w',S v w→Ext K w w'→S v w'
def StableO (K:Obj→Bool) (S:Obj→World→Prop):Prop := ∀ v w w',S v w→Ext K w w'→S v w'
def Sp.is (u:Value):Sp:=fun v _=>v=u
theorem Sp.is_stable (K:Obj→Bool) (u:Value):Stable K (Sp.is u):=fun _ _ _ h _=>h
inductive Kd where
 | val (S:Sp)
 | new (o:Obj)
 | put (d:Tmp) (S:Obj→World→Prop)
 | old (g:Nat) (S:Obj→World→Prop)
structure Ent where
 dst:Option Tmp
 kd:Kd
def isVar (B:Nat):Sp:=fun v w => ∃ g,v = .pointer (some ⟨g,0,none⟩)∧B≤g∧g<w.heap.size
def Kd.spec (B:Nat):Kd→Sp
 | .val S=>S
 | .new _=>isVar B
 | _=>fun _ _=>True
def specOf (a0:Act) (B:Nat) (t:Tmp):List Ent→Sp
 | []=>fun v _=>v=a0.eval (.tmp t)
 | e::g=>if e.dst=some t then e.kd.spec B else specOf a0 B t g
def known (a0:Act) (B:Nat) (g:List Ent) (A:Act) (w:World):List Tmp→Prop
 | []=>True
 | t::l=>specOf a0 B t g (A.eval (.tmp t)) w∧known a0 B g A w l
theorem known_iff {a0:Act} {B:Nat} {g:List Ent} {A:Act} {w:World} {l:List Tmp}:known a0 B g A w l↔∀ t∈l,specOf a0 B t g (A.eval (.tmp t)) w:=by
 induction l with
 | nil=>simp [known]
 | cons t l ih=>simp [known,ih]
structure Base (T:List Nat) (w0 w:World):Prop where
 os:w.os=w0.os
 tape:w.tape=w0.tape
 output:w.output=w0.output
 size:w0.heap.size≤w.heap.size
 block:∀ k,k<w0.heap.size→k∉T→w.heap[k]?=w0.heap[k]?
theorem Base.below {w0 w:World} (h:Base [] w0 w):Below w0.heap.size w0 w:=⟨h.os,h.tape,h.output,h.size,fun k hk=>h.block k hk (by simp)⟩
theorem Base.step {T:List Nat} {w0 w w' : World} (h:Base T w0 w) (h' : Below w.heap.size w w'):Base T w0 w' :=
 ⟨h'.os.trans h.os,h'.tape.trans h.tape,h'.output.trans h.output,Nat.le_trans h.size h'.size,fun k hk hT=>(h'.block k (Nat.lt_of_lt_of_le hk h.size)).trans (h.block k hk hT)⟩
structure Turned (g:Nat) (o:Obj) (w w' : World):Prop where
 os:w'.os=w.os
 tape:w'.tape=w.tape
 output:w'.output=w.output
 size:w'.heap.size=w.heap.size
 at_:w'.heap[g]?=some o
 block:∀ k,k≠g→w'.heap[k]?=w.heap[k]?
theorem Turned.ext {K:Obj→Bool} {g:Nat} {o o0:Obj} {w w' : World} (h:Turned g o w w') (h0:w.heap[g]?=some o0) (hc:hotObj K o0=false):Ext K w w':=by
 refine ⟨by rw [h.size];exact aR _,fun k o' hk ho=>?_⟩
 by_cases e:k=g
 ·subst e
  rw [h0] at hk
  injection hk with hk
  subst hk
  rw [hc] at ho
  cases ho
 ·rw [h.block k e];exact hk
def TyPost (w:World) (S:Sp) (e:Ending) (w'' : World):Prop := ∃ v,e = .returned v∧Below w.heap.size w w''∧S v w''
def tyUpon (P:Program) (w:World) (S:Sp):Result Next→Prop
 | .ok (.value u) w'=>Below w.heap.size w w'∧S u w'
 | .ok .skip w'=>Below w.heap.size w w'∧S undef w'
 | .ok (.enter f args) w'=>w'=w∧Calls P f args w (TyPost w S)
 | _=>False
def putUpon (g:Nat) (w:World) (S:Obj→World→Prop):Result Next→Prop
 | .ok (.value _) w' => ∃ o,Turned g o w w'∧S o w
 | .ok .skip w' => ∃ o,Turned g o w w'∧S o w
 | _=>False
def putOf (e:Ent):Option Tmp:=match e.dst,e.kd with|none,.put d _=>some d|_,_=>none
def oldOf (e:Ent):Option Nat:=match e.dst,e.kd with|none,.old k _=>some k|_,_=>none
def onceB (G:List Ent):Bool:=decide ((G.filterMap putOf).Nodup)&&decide ((G.filterMap oldOf).Nodup)
structure View (K:Obj→Bool) (T:List Nat) (E:Nat→Nat→Bool) (w0:World) (i:Nat) (w:World):Prop where
 base:Base T w0 w
 ext:Ext K w0 w
 early:∀ (k b:Nat),E i k=true→T[k]?=some b→w.heap[b]?=w0.heap[b]?
def uF (md:Region.Mode) (ops:Array Oper) (E:Nat→Nat→Bool) (G:List Ent):Bool :=
 (List.range ops.size).all fun j=>match (G[j]?).bind oldOf with
  | some k=>(List.range ops.size).all fun i => !E i k || i==j || (ops[j]?).any fun o=>o.after.any fun e=>Region.binds md e&&e.on==i
  | none=>true
section
variable (P:Program) (ops:Array Oper) (K:Obj→Bool) (T:List Nat) (E:Nat→Nat→Bool) (w0:World) (a0:Act)
def Oblig (g:List Ent) (o:Oper):Kd→Prop
 | .val S=>Stable K S∧∀ (A:Act) (w:World),View K T E w0 g.length w→known a0 w0.heap.size g A w (o.looksAt ops) →
  (Region.wanted o (yielded ops A.tmps)=true∧tyUpon P w S ((execOp A.eval o).run P w))∨(Region.wanted o (yielded ops A.tmps)=false∧S undef w)
 | .new o0=>hotObj K o0=false∧o.guard=none∧o.dst.isSome=true∧∀ (A:Act) (w:World),(execOp A.eval o).run P w = .ok (.value (.pointer (some ⟨w.heap.size,0,none⟩))) (w.alloc o0)
 | .put d S=>o.dst=none∧o.guard=none∧d∈o.looksAt ops∧StableO K S∧∃ o0,(⟨some d,.new o0⟩:Ent)∈g ∧
  ∀ (A:Act) (w:World) (b:Nat),View K T E w0 g.length w→known a0 w0.heap.size g A w (o.looksAt ops)→A.eval (.tmp d) = .pointer (some ⟨b,0,none⟩)→w.heap[b]?=some o0→putUpon b w S ((execOp A.eval o).run P w)
 | .old k S=>o.dst=none∧o.guard=none∧StableO K S∧∃ b o0,T[k]?=some b∧w0.heap[b]?=some o0∧hotObj K o0=false ∧
  ∀ (A:Act) (w:World),View K T E w0 g.length w→known a0 w0.heap.size g A w (o.looksAt ops)→w.heap[b]?=some o0→putUpon b w S ((execOp A.eval o).run P w)
def frameOf:List Ent→(Tmp→Value)→Act
 | [],_=>a0
 | e::g,f=>match e.dst with
   | some d=>(frameOf g f).put (some d) (f d)
   | none=>frameOf g f
def Final1 (G:List Ent) (f:Tmp→Value) (w:World) (e:Ent):Prop :=
 match e.dst,e.kd with
 | some d,.val S=>S (f d) w
 | some d,.new o0 => ∃ b,f d = .pointer (some ⟨b,0,none⟩)∧w0.heap.size≤b∧b<w.heap.size∧((∀ S,(⟨none,.put d S⟩:Ent)∉G)→w.heap[b]?=some o0)∧(∀ S,(⟨none,.put d S⟩:Ent)∈G→∃ o,S o w∧w.heap[b]?=some o)
 | _,.old k S => ∃ b o,T[k]?=some b∧S o w∧w.heap[b]?=some o
 | _,_=>True
def Still (G:List Ent) (w:World):Prop := ∀ (k b:Nat),T[k]?=some b→(∀ S,(⟨none,.old k S⟩:Ent)∉G)→w.heap[b]?=w0.heap[b]?
def Apart (G:List Ent) (f:Tmp→Value):Prop := ∀ d d' o o',(⟨some d,.new o⟩:Ent)∈G→(⟨some d',.new o'⟩:Ent)∈G→d≠d'→f d≠f d'
def wpTy (Q:Act→World→Prop):List Oper→List Ent→Prop
 | [],g=>onceB g=true∧uF .any ops E g.reverse=true∧∀ (f:Tmp→Value) (w:World),Base T w0 w→Ext K w0 w→(∀ e∈g,Final1 T w0 g f w e)→Still T w0 g w→Apart g f→Q (frameOf a0 g f) w
 | o::rest,g => ∃ k,Oblig P ops K T E w0 a0 g o k∧wpTy Q rest (⟨o.dst,k⟩::g)
end
def Region.tyB (md:Region.Mode) (ops:Array Oper) (n:Nat):Bool :=
 Region.noSelect ops&&(List.range ops.size).all fun i=>(ops[i]?).all fun o =>
  (o.after.all fun e => !Region.binds md e || decide (e.on<i)) &&
  (match o.dst with|some d=>decide (d<n)&&(List.range ops.size).all (fun j=>j==i || (ops[j]?).all fun o'=>o'.dst != some d)|none=>true) &&
  (o.looksAt ops).all fun t=>(List.range ops.size).all fun j=>(ops[j]?).all fun o'=>o'.dst != some t || (decide (j<i)&&o.after.any fun e=>Region.binds md e&&e.on==j)
section
variable {P:Program} {ops:Array Oper} {K:Obj→Bool} {T:List Nat} {E:Nat→Nat→Bool} {w0:World} {a0:Act} {md:Region.Mode}
theorem specOf_of {B:Nat} {t:Tmp} {v:Value} {w:World} {g:List Ent} (h1:∀ e∈g,e.dst=some t→e.kd.spec B v w) (h2:(∀ e∈g,e.dst≠some t)→v=a0.eval (.tmp t)):specOf a0 B t g v w:=by
 induction g with
 | nil=>exact h2 (fun _ h=>by cases h)
 | cons e g ih =>
   simp only [specOf]
   split
   ·rename_i he
    exact h1 e (by simp) he
   ·rename_i he
    refine ih (fun e' he'=>h1 e' (by simp [he'])) (fun hn=>h2 (fun e' he'=>?_))
    rcases List.mem_cons.1 he' with rfl|he'
    ·exact he
    ·exact hn e' he'
def lst (listed:Array Bool) (i:Nat):Prop:=listed.getD i true=true
theorem lst_set {listed:Array Bool} {i j:Nat} (hi:i<listed.size):lst (listed.setIfInBounds i true) j↔(j=i∨lst listed j):=by
 unfold lst
 simp only [Array.getD_eq_getD_getElem?,Array.getElem?_setIfInBounds]
 by_cases h:i=j
 ·subst h;simp [hi]
 ·simp only [h,if_false]
  constructor
  ·intro h';exact .inr h'
  ·rintro (rfl|h')
   ·exact absurd rfl h
   ·exact h'
structure Inv (ops:Array Oper) (K:Obj→Bool) (T:List Nat) (w0:World) (a0:Act) (md:Region.Mode) (G:List Ent) (listed:Array Bool) (f:Tmp→Value) (a:Act) (w:World):Prop where
 lsize:listed.size=ops.size
 defers:a.defers=a0.defers
 tsize:a.tmps.size=a0.tmps.size
 hit:∀ (i:Nat) (o:Oper) d,ops[i]?=some o→lst listed i→o.dst=some d→a.eval (.tmp d)=f d
 miss:∀ t,(∀ (i:Nat) (o:Oper),ops[i]?=some o→o.dst≠some t)→a.eval (.tmp t)=a0.eval (.tmp t)
 closed:∀ (i:Nat) (o:Oper),ops[i]?=some o→lst listed i→∀ e∈o.after,Region.binds md e=true→lst listed e.on
 base:Base T w0 w
 ext:Ext K w0 w
 vals:∀ (i:Nat) d S,G[i]?=some ⟨some d,.val S⟩→lst listed i→S (f d) w
 news:∀ (i:Nat) d o0,G[i]?=some ⟨some d,.new o0⟩→lst listed i→∃ b,f d = .pointer (some ⟨b,0,none⟩)∧w0.heap.size≤b∧b<w.heap.size ∧
  ((∀ (j:Nat) S,G[j]?=some ⟨none,.put d S⟩→¬ lst listed j)→w.heap[b]?=some o0)∧(∀ (j:Nat) S,G[j]?=some ⟨none,.put d S⟩→lst listed j→∃ o,S o w∧w.heap[b]?=some o)
 olds:∀ (j k b:Nat) S,G[j]?=some ⟨none,.old k S⟩→T[k]?=some b→lst listed j→∃ o,S o w∧w.heap[b]?=some o
 still:∀ (k b:Nat),T[k]?=some b→(∀ (j:Nat) S,G[j]?=some ⟨none,.old k S⟩→¬ lst listed j)→w.heap[b]?=w0.heap[b]?
 apart:∀ (i i' : Nat) d d' o o',G[i]?=some ⟨some d,.new o⟩→G[i']?=some ⟨some d',.new o'⟩→lst listed i→lst listed i'→d≠d'→f d≠f d'
structure Walked (P:Program) (ops:Array Oper) (K:Obj→Bool) (T:List Nat) (E:Nat→Nat→Bool) (w0:World) (a0:Act) (md:Region.Mode) (G:List Ent):Prop where
 len:G.length=ops.size
 each:∀ (i:Nat) (o:Oper),ops[i]?=some o→∃ k,G[i]?=some ⟨o.dst,k⟩∧Oblig P ops K T E w0 a0 (G.take i).reverse o k
 form:Region.tyB md ops a0.tmps.size=true
 once:onceB G=true
 early:uF md ops E G=true
 tnd:T.Nodup
 tlt:∀ b∈T,b<w0.heap.size
theorem tyB_spec {n:Nat} (h:Region.tyB md ops n=true) {i:Nat} {o:Oper} (ho:ops[i]?=some o) :
 (∀ e∈o.after,Region.binds md e=true→e.on<i)∧(∀ d,o.dst=some d→d<n∧∀ (j:Nat) (o' : Oper),ops[j]?=some o'→o'.dst=some d→j=i) ∧
 (∀ t∈o.looksAt ops,∀ (j:Nat) (o' : Oper),ops[j]?=some o'→o'.dst=some t→j<i∧∃ e∈o.after,Region.binds md e=true∧e.on=j):=by
 have lt:∀ {j:Nat} {o' : Oper},ops[j]?=some o'→j<ops.size:=fun h=>by
  rcases Nat.lt_or_ge _ ops.size with h'|h'
  ·exact h'
  ·rw [Array.getElem?_eq_none h'] at h;cases h
 simp only [Region.tyB,Bool.and_eq_true,List.all_eq_true,List.mem_range] at h
 have h2:=h.2 i (lt ho)
 simp only [ho,Option.all_some,Bool.and_eq_true] at h2
 obtain ⟨⟨h3,h4⟩,h5⟩:=h2
 refine ⟨fun e he hb=>?_,fun d hd=>?_,fun t ht j o' hj hdt=>?_⟩
 ·have:=Array.all_eq_true'.1 h3 e he
  simp only [hb,Bool.not_true,Bool.false_or,decide_eq_true_eq] at this
  exact this
 ·rw [hd] at h4
  simp only [Bool.and_eq_true,decide_eq_true_eq,List.all_eq_true,List.mem_range] at h4
  refine ⟨h4.1,fun j o' hj hd'=>?_⟩
  have:=h4.2 j (lt hj)
  simp only [hj,Option.all_some,Bool.or_eq_true,beq_iff_eq,bne_iff_ne] at this
  rcases this with h|h
  ·exact h
  ·exact absurd hd' h
 ·have:=List.all_eq_true.1 h5 t ht
  have:=List.all_eq_true.1 this j (List.mem_range.2 (lt hj))
  simp only [hj,Option.all_some,Bool.or_eq_true,bne_iff_ne,Bool.and_eq_true,decide_eq_true_eq] at this
  rcases this with h|⟨h,h'⟩
  ·exact absurd hdt h
  ·obtain ⟨e,he,hb⟩:=Array.any_eq_true'.1 h'
   simp only [Bool.and_eq_true,beq_iff_eq] at hb
   exact ⟨h,e,he,hb.1,hb.2⟩
end
section
variable {P:Program} {ops:Array Oper} {K:Obj→Bool} {T:List Nat} {E:Nat→Nat→Bool} {w0:World} {a0:Act} {md:Region.Mode} {G:List Ent}
theorem Walked.ent (W:Walked P ops K T E w0 a0 md G) {i:Nat} {e:Ent} (h:G[i]?=some e):∃ o,ops[i]?=some o∧e.dst=o.dst∧Oblig P ops K T E w0 a0 (G.take i).reverse o e.kd:=by
 obtain ⟨hlt,_⟩:=List.getElem?_eq_some_iff.1 h
 have hlt' : i<ops.size:=by rw [← W.len];exact hlt
 obtain ⟨k,hk,ho⟩:=W.each i ops[i] (Array.getElem?_eq_getElem hlt')
 rw [h] at hk
 injection hk with hk
 subst hk
 exact ⟨_,Array.getElem?_eq_getElem hlt',rfl,ho⟩
theorem Walked.dst (W:Walked P ops K T E w0 a0 md G) {i j d:Nat} {k k' : Kd} (h:G[i]?=some ⟨some d,k⟩) (h' : G[j]?=some ⟨some d,k'⟩):i=j:=by
 obtain ⟨o,ho,hd,_⟩:=W.ent h
 obtain ⟨o',ho',hd',_⟩:=W.ent h'
 exact (tyB_spec W.form ho').2.1 d hd'.symm |>.2 i o ho hd.symm
theorem filterMap_once {α β:Type} [DecidableEq β] (f:α→Option β):∀ (l:List α) (i j:Nat) (a b:α) (x:β),(l.filterMap f).Nodup→l[i]?=some a→l[j]?=some b→f a=some x→f b=some x→i=j
 | [],i,_,_,_,_,_,h,_,_,_=>by simp at h
 | c :: l,i,j,a,b,x,hn,hi,hj,ha,hb=>by
   have tail:(l.filterMap f).Nodup:=by
    rw [List.filterMap_cons] at hn
    split at hn
    ·exact hn
    ·exact (List.nodup_cons.1 hn).2
   have mem:∀ (k:Nat) (y:α),l[k]?=some y→f y=some x→f c=some x→False:=fun k y hk hy hc=>by
    rw [List.filterMap_cons,hc] at hn
    exact (List.nodup_cons.1 hn).1 (List.mem_filterMap.2 ⟨y,List.mem_of_getElem? hk,hy⟩)
   match i,j with
   | 0,0=>rfl
   | 0,j+1 =>
     simp only [List.getElem?_cons_zero,Option.some.injEq] at hi
     subst hi
     exact (mem j b (by simpa using hj) hb ha).elim
   | i+1,0 =>
     simp only [List.getElem?_cons_zero,Option.some.injEq] at hj
     subst hj
     exact (mem i a (by simpa using hi) ha hb).elim
   | i+1,j+1=>exact congrArg (· + 1) (filterMap_once f l i j a b x tail (by simpa using hi) (by simpa using hj) ha hb)
theorem Walked.put (W:Walked P ops K T E w0 a0 md G) {i j d:Nat} {S S' : Obj→World→Prop} (h:G[i]?=some ⟨none,.put d S⟩) (h' : G[j]?=some ⟨none,.put d S'⟩):i=j:=by
 have:=W.once
 simp only [onceB,Bool.and_eq_true,decide_eq_true_eq] at this
 exact filterMap_once putOf G i j _ _ d this.1 h h' rfl rfl
theorem Walked.old (W:Walked P ops K T E w0 a0 md G) {i j k:Nat} {S S' : Obj→World→Prop} (h:G[i]?=some ⟨none,.old k S⟩) (h' : G[j]?=some ⟨none,.old k S'⟩):i=j:=by
 have:=W.once
 simp only [onceB,Bool.and_eq_true,decide_eq_true_eq] at this
 exact filterMap_once oldOf G i j _ _ k this.2 h h' rfl rfl
theorem Walked.blk_lt (W:Walked P ops K T E w0 a0 md G) {k b:Nat} (h:T[k]?=some b):b<w0.heap.size:=W.tlt b (List.mem_of_getElem? h)
theorem rJ {α:Type}:∀ {l:List α} {i j:Nat} {x:α},l.Nodup→l[i]?=some x→l[j]?=some x→i=j
 | [],_,_,_,_,h,_=>by simp at h
 | a :: l,i,j,x,hn,hi,hj=>by
   rw [List.nodup_cons] at hn
   match i,j with
   | 0,0=>rfl
   | 0,j+1 =>
     simp only [List.getElem?_cons_zero,Option.some.injEq] at hi
     subst hi
     exact absurd (List.mem_of_getElem? (by simpa using hj)) hn.1
   | i+1,0 =>
     simp only [List.getElem?_cons_zero,Option.some.injEq] at hj
     subst hj
     exact absurd (List.mem_of_getElem? (by simpa using hi)) hn.1
   | i+1,j+1=>exact congrArg (· + 1) (rJ hn.2 (by simpa using hi) (by simpa using hj))
theorem Walked.blk_eq (W:Walked P ops K T E w0 a0 md G) {k k' b:Nat} (h:T[k]?=some b) (h' : T[k']?=some b):k=k':=rJ W.tnd h h'
theorem Walked.waits (W:Walked P ops K T E w0 a0 md G) {i j k:Nat} {S:Obj→World→Prop} {oj:Oper} (h:G[j]?=some ⟨none,.old k S⟩) (hj:ops[j]?=some oj) (hi:i<ops.size) (hE:E i k=true) :
 i=j∨∃ e∈oj.after,Region.binds md e=true∧e.on=i:=by
 have hjlt:j<ops.size:=by
  rcases Nat.lt_or_ge j ops.size with h'|h'
  ·exact h'
  ·rw [Array.getElem?_eq_none h'] at hj;cases hj
 have:=W.early
 simp only [uF,List.all_eq_true,List.mem_range] at this
 have:=this j hjlt
 simp only [h,Option.bind_some,oldOf,List.all_eq_true,List.mem_range] at this
 have:=this i hi
 rw [hE,hj] at this
 simp only [Bool.not_true,Bool.false_or,Bool.or_eq_true,beq_iff_eq,Option.any_some] at this
 rcases this with e|e
 ·exact .inl e
 ·obtain ⟨e,he,h1⟩:=Array.any_eq_true'.1 e
  simp only [Bool.and_eq_true,beq_iff_eq] at h1
  exact .inr ⟨e,he,h1.1,h1.2⟩
theorem Walked.stable (W:Walked P ops K T E w0 a0 md G) {i d:Nat} {S:Sp} (h:G[i]?=some ⟨some d,.val S⟩):Stable K S:=by
 obtain ⟨o,_,_,ho⟩:=W.ent h;exact ho.1
theorem Walked.stable_put (W:Walked P ops K T E w0 a0 md G) {i d:Nat} {S:Obj→World→Prop} (h:G[i]?=some ⟨none,.put d S⟩):StableO K S:=by
 obtain ⟨o,_,_,ho⟩:=W.ent h;exact ho.2.2.2.1
theorem Walked.stable_old (W:Walked P ops K T E w0 a0 md G) {i b:Nat} {S:Obj→World→Prop} (h:G[i]?=some ⟨none,.old b S⟩):StableO K S:=by
 obtain ⟨o,_,_,ho⟩:=W.ent h;exact ho.2.2.1
variable {listed:Array Bool} {f:Tmp→Value} {a:Act} {w:World}
theorem Inv.view (I:Inv ops K T w0 a0 md G listed f a w) (W:Walked P ops K T E w0 a0 md G) {i:Nat} {o:Oper} (ho:ops[i]?=some o) (hun:¬ lst listed i):View K T E w0 (G.take i).reverse.length w:=by
 have hi:i<ops.size:=by
  rcases Nat.lt_or_ge i ops.size with h|h
  ·exact h
  ·rw [Array.getElem?_eq_none h] at ho;cases ho
 have hl:(G.take i).reverse.length=i:=by
  rw [List.length_reverse,List.length_take,W.len]
  omega
 rw [hl]
 refine ⟨I.base,I.ext,fun k b hE hT=>I.still k b hT (fun j S hj hlj=>?_)⟩
 obtain ⟨oj,hoj,_,_⟩:=W.ent hj
 rcases W.waits hj hoj hi hE with e|⟨e,he,hb,hon⟩
 ·subst e
  exact hun hlj
 ·have:=I.closed j oj hoj hlj e he hb
  rw [hon] at this
  exact hun this
theorem Inv.known (I:Inv ops K T w0 a0 md G listed f a w) (W:Walked P ops K T E w0 a0 md G) {i:Nat} {o:Oper} (ho:ops[i]?=some o) (hr:∀ e∈o.after,Region.binds md e=true→lst listed e.on) :
 known a0 w0.heap.size (G.take i).reverse a w (o.looksAt ops):=by
 rw [known_iff]
 intro t ht
 have hf:=(tyB_spec W.form ho).2.2 t ht
 refine specOf_of (fun e he hd=>?_) (fun hn=>I.miss t (fun j oj hj hdj=>?_))
 ·obtain ⟨j,hj⟩:=List.getElem?_of_mem (List.mem_reverse.1 he)
  have hjG:G[j]?=some e:=by
   rw [List.getElem?_take] at hj
   split at hj
   ·exact hj
   ·cases hj
  obtain ⟨oj,hoj,hdj,_⟩:=W.ent hjG
  obtain ⟨_,ed,hed,hb,hon⟩:=hf j oj hoj (by rw [← hdj];exact hd)
  have hl:lst listed j:=by rw [← hon];exact hr ed hed hb
  have hv:a.eval (.tmp t)=f t:=I.hit j oj t hoj hl (by rw [← hdj];exact hd)
  rw [hv]
  obtain ⟨dst,kd⟩:=e
  simp only at hd
  subst hd
  match kd,hjG with
  | .val S,hjG=>exact I.vals j t S hjG hl
  | .new o0,hjG =>
    obtain ⟨b,h1,h2,h3,_⟩:=I.news j t o0 hjG hl
    exact ⟨b,h1,h2,h3⟩
  | .put _ _,_=>trivial
  | .old _ _,_=>trivial
 ·obtain ⟨hlt,_⟩:=hf j oj hj hdj
  obtain ⟨k,hk,_⟩:=W.each j oj hj
  refine hn ⟨oj.dst,k⟩ (List.mem_reverse.2 (List.mem_of_getElem? (i:=j) ?_)) hdj
  rw [List.getElem?_take,if_pos hlt]
  exact hk
theorem Act.eval_put_hit {a:Act} {d:Tmp} {v:Value} (h:d<a.tmps.size):(a.put (some d) v).eval (.tmp d)=v:=by
 simp [Act.put,Act.eval,h]
theorem Act.eval_put_miss {a:Act} {dst:Option Tmp} {t:Tmp} {v:Value} (h:dst≠some t):(a.put dst v).eval (.tmp t)=a.eval (.tmp t):=by
 cases dst with
 | none=>rfl
 | some d =>
   have:d≠t:=fun e=>h (by rw [e])
   simp [Act.put,Act.eval,Array.getElem?_setIfInBounds_ne this]
theorem Act.put_size {a:Act} {dst:Option Tmp} {v:Value}:(a.put dst v).tmps.size=a.tmps.size:=by
 cases dst <;> simp [Act.put]
theorem Act.put_defers {a:Act} {dst:Option Tmp} {v:Value}:(a.put dst v).defers=a.defers:=by
 cases dst <;> rfl
def upd (f:Tmp→Value) (dst:Option Tmp) (v:Value):Tmp→Value:=fun t=>if dst=some t then v else f t
theorem upd_hit {f:Tmp→Value} {d:Tmp} {v:Value}:upd f (some d) v d=v:=by simp [upd]
theorem upd_miss {f:Tmp→Value} {dst:Option Tmp} {t:Tmp} {v:Value} (h:dst≠some t):upd f dst v t=f t:=by simp [upd,h]
theorem Inv.frame (I:Inv ops K T w0 a0 md G listed f a w) (W:Walked P ops K T E w0 a0 md G) {i:Nat} {o:Oper} (ho:ops[i]?=some o) (hr:∀ e∈o.after,Region.binds md e=true→lst listed e.on) (v:Value) :
 (∀ (j:Nat) (o' : Oper) d,ops[j]?=some o'→lst (listed.setIfInBounds i true) j→o'.dst=some d→(a.put o.dst v).eval (.tmp d)=upd f o.dst v d) ∧
 (∀ t,(∀ (j:Nat) (o' : Oper),ops[j]?=some o'→o'.dst≠some t)→(a.put o.dst v).eval (.tmp t)=a0.eval (.tmp t)) ∧
 (∀ (j:Nat) (o' : Oper),ops[j]?=some o'→lst (listed.setIfInBounds i true) j→∀ e∈o'.after,Region.binds md e=true→lst (listed.setIfInBounds i true) e.on)∧i<listed.size:=by
 have hi:i<listed.size:=by
  rw [I.lsize]
  rcases Nat.lt_or_ge i ops.size with h|h
  ·exact h
  ·rw [Array.getElem?_eq_none h] at ho;cases ho
 refine ⟨fun j o' d hj hl hd=>?_,fun t ht=>?_,fun j o' hj hl e he hb=>?_,hi⟩
 ·by_cases hji:j=i
  ·subst hji
   rw [ho] at hj
   injection hj with hj
   subst hj
   have hlt:=((tyB_spec W.form ho).2.1 d hd).1
   rw [hd,Act.eval_put_hit (by rw [I.tsize];exact hlt),upd_hit]
  ·have hl' : lst listed j:=((lst_set hi).1 hl).resolve_left hji
   have hne:o.dst≠some d:=fun e=>hji (((tyB_spec W.form ho).2.1 d e).2 j o' hj hd)
   rw [Act.eval_put_miss hne,upd_miss hne]
   exact I.hit j o' d hj hl' hd
 ·rw [Act.eval_put_miss (ht i o ho)]
  exact I.miss t ht
 ·rw [lst_set hi]
  by_cases hji:j=i
  ·subst hji
   rw [ho] at hj
   injection hj with hj
   subst hj
   exact .inr (hr e he hb)
  ·exact .inr (I.closed j o' hj (((lst_set hi).1 hl).resolve_left hji) e he hb)
theorem Inv.val (I:Inv ops K T w0 a0 md G listed f a w) (W:Walked P ops K T E w0 a0 md G) {i:Nat} {o:Oper} {S:Sp} (ho:ops[i]?=some o) (hG:G[i]?=some ⟨o.dst,.val S⟩) (hun:¬ lst listed i)
 (hr:∀ e∈o.after,Region.binds md e=true→lst listed e.on) {v:Value} {w' : World} (hb:Below w.heap.size w w') (hS:S v w') :
 Inv ops K T w0 a0 md G (listed.setIfInBounds i true) (upd f o.dst v) (a.put o.dst v) w':=by
 obtain ⟨h1,h2,h3,hi⟩:=I.frame W ho hr v
 have hx:Ext K w w':=Ext.of_below hb
 have keep:∀ (j d:Nat) k,G[j]?=some ⟨some d,k⟩→j≠i→o.dst≠some d:=fun j d k hj hji e=>by
  rw [e] at hG
  exact hji (W.dst hj hG)
 have other:∀ {j:Nat},j≠i→(lst (listed.setIfInBounds i true) j↔lst listed j):=fun h=>by
  rw [lst_set hi];exact ⟨fun h'=>h'.resolve_left h,.inr⟩
 refine ⟨by rw [Array.size_setIfInBounds];exact I.lsize,by rw [Act.put_defers];exact I.defers,by rw [Act.put_size];exact I.tsize,h1,h2,h3,I.base.step hb,I.ext.trans hx,?_,?_,?_,?_,?_⟩
 ·intro j d S' hj hl
  by_cases hji:j=i
  ·subst hji
   rw [hG] at hj
   injection hj with hj
   injection hj with e1 e2
   injection e2 with e2
   subst e2
   rw [e1,upd_hit]
   exact hS
  ·rw [upd_miss (keep j d _ hj hji)]
   exact W.stable hj _ _ _ (I.vals j d S' hj ((other hji).1 hl)) hx
 ·intro j d o0 hj hl
  have hji:j≠i:=fun e=>by subst e;rw [hG] at hj;injection hj with hj;injection hj with _ hj;cases hj
  rw [upd_miss (keep j d _ hj hji)]
  obtain ⟨b,e1,e2,e3,e4,e5⟩:=I.news j d o0 hj ((other hji).1 hl)
  refine ⟨b,e1,e2,Nat.lt_of_lt_of_le e3 hb.size,fun h=>?_,fun k S' hk hlk=>?_⟩
  ·rw [hb.block b e3]
   refine e4 (fun k S' hk hlk=>h k S' hk ?_)
   rw [lst_set hi];exact .inr hlk
  ·have hki:k≠i:=fun e=>by subst e;rw [hG] at hk;injection hk with hk;injection hk with _ hk;cases hk
   obtain ⟨o',h1',h2'⟩:=e5 k S' hk ((other hki).1 hlk)
   exact ⟨o',W.stable_put hk _ _ _ h1' hx,by rw [hb.block b e3];exact h2'⟩
 ·intro j k b S' hj hT hl
  have hji:j≠i:=fun e=>by subst e;rw [hG] at hj;injection hj with hj;injection hj with _ hj;cases hj
  have hlt:b<w.heap.size:=Nat.lt_of_lt_of_le (W.blk_lt hT) I.base.size
  obtain ⟨o',h1',h2'⟩:=I.olds j k b S' hj hT ((other hji).1 hl)
  exact ⟨o',W.stable_old hj _ _ _ h1' hx,by rw [hb.block b hlt];exact h2'⟩
 ·intro k b hT hn
  have hlt:b<w.heap.size:=Nat.lt_of_lt_of_le (W.blk_lt hT) I.base.size
  rw [hb.block b hlt]
  exact I.still k b hT (fun j S' hj hl=>hn j S' hj ((lst_set hi).2 (.inr hl)))
 ·intro j j' d d' o1 o2 hj hj' hl hl' hne
  have hji:j≠i:=fun e=>by subst e;rw [hG] at hj;injection hj with hj;injection hj with _ hj;cases hj
  have hji' : j'≠i:=fun e=>by subst e;rw [hG] at hj';injection hj' with hj';injection hj' with _ hj';cases hj'
  rw [upd_miss (keep j d _ hj hji),upd_miss (keep j' d' _ hj' hji')]
  exact I.apart j j' d d' o1 o2 hj hj' ((other hji).1 hl) ((other hji').1 hl') hne
end
section
variable {P:Program} {ops:Array Oper} {K:Obj→Bool} {T:List Nat} {E:Nat→Nat→Bool} {w0:World} {a0:Act} {md:Region.Mode} {G:List Ent} {listed:Array Bool} {f:Tmp→Value} {a:Act} {w:World}
theorem Inv.new (I:Inv ops K T w0 a0 md G listed f a w) (W:Walked P ops K T E w0 a0 md G) {i:Nat} {o:Oper} {o0:Obj} (ho:ops[i]?=some o) (hG:G[i]?=some ⟨o.dst,.new o0⟩) (hun:¬ lst listed i)
 (hr:∀ e∈o.after,Region.binds md e=true→lst listed e.on) :
 Inv ops K T w0 a0 md G (listed.setIfInBounds i true) (upd f o.dst (.pointer (some ⟨w.heap.size,0,none⟩))) (a.put o.dst (.pointer (some ⟨w.heap.size,0,none⟩))) (w.alloc o0):=by
 obtain ⟨h1,h2,h3,hi⟩:=I.frame W ho hr (.pointer (some ⟨w.heap.size,0,none⟩))
 have hb:Below w.heap.size w (w.alloc o0):=(aB _ _).alloc (aR _) _
 have hx:Ext K w (w.alloc o0):=Ext.of_below hb
 have keep:∀ (j d:Nat) k,G[j]?=some ⟨some d,k⟩→j≠i→o.dst≠some d:=fun j d k hj hji e=>by
  rw [e] at hG
  exact hji (W.dst hj hG)
 have other:∀ {j:Nat},j≠i→(lst (listed.setIfInBounds i true) j↔lst listed j):=fun h=>by
  rw [lst_set hi];exact ⟨fun h'=>h'.resolve_left h,.inr⟩
 have hsz:(w.alloc o0).heap.size=w.heap.size+1:=by simp
 refine ⟨by rw [Array.size_setIfInBounds];exact I.lsize,by rw [Act.put_defers];exact I.defers,by rw [Act.put_size];exact I.tsize,h1,h2,h3,I.base.step hb,I.ext.trans hx,?_,?_,?_,?_,?_⟩
 ·intro j d S' hj hl
  have hji:j≠i:=fun e=>by subst e;rw [hG] at hj;injection hj with hj;injection hj with _ hj;cases hj
  rw [upd_miss (keep j d _ hj hji)]
  exact W.stable hj _ _ _ (I.vals j d S' hj ((other hji).1 hl)) hx
 ·intro j d o1 hj hl
  by_cases hji:j=i
  ·subst hji
   rw [hG] at hj
   injection hj with hj
   injection hj with e1 e2
   injection e2 with e2
   subst e2
   rw [e1,upd_hit]
   refine ⟨w.heap.size,rfl,I.base.size,by rw [hsz];omega,fun _=>heap_alloc_new w _,fun k S' hk hlk=>?_⟩
   exfalso
   have hki:k≠j:=fun e=>by subst e;rw [hG] at hk;injection hk with hk;injection hk with _ hk;cases hk
   have hlk':=(other hki).1 hlk
   obtain ⟨ok,hok,_,hob⟩:=W.ent hk
   obtain ⟨_,e,he,hbd,hon⟩:=(tyB_spec W.form hok).2.2 d hob.2.2.1 j o ho e1
   have:=I.closed k ok hok hlk' e he hbd
   rw [hon] at this
   exact hun this
  ·rw [upd_miss (keep j d _ hj hji)]
   obtain ⟨b,e1,e2,e3,e4,e5⟩:=I.news j d o1 hj ((other hji).1 hl)
   refine ⟨b,e1,e2,Nat.lt_of_lt_of_le e3 hb.size,fun h=>?_,fun k S' hk hlk=>?_⟩
   ·rw [hb.block b e3]
    refine e4 (fun k S' hk hlk=>h k S' hk ?_)
    rw [lst_set hi];exact .inr hlk
   ·have hki:k≠i:=fun e=>by subst e;rw [hG] at hk;injection hk with hk;injection hk with _ hk;cases hk
    obtain ⟨o',h1',h2'⟩:=e5 k S' hk ((other hki).1 hlk)
    exact ⟨o',W.stable_put hk _ _ _ h1' hx,by rw [hb.block b e3];exact h2'⟩
 ·intro j k b S' hj hT hl
  have hji:j≠i:=fun e=>by subst e;rw [hG] at hj;injection hj with hj;injection hj with _ hj;cases hj
  have hlt:b<w.heap.size:=Nat.lt_of_lt_of_le (W.blk_lt hT) I.base.size
  obtain ⟨o',h1',h2'⟩:=I.olds j k b S' hj hT ((other hji).1 hl)
  exact ⟨o',W.stable_old hj _ _ _ h1' hx,by rw [hb.block b hlt];exact h2'⟩
 ·intro k b hT hn
  have hlt:b<w.heap.size:=Nat.lt_of_lt_of_le (W.blk_lt hT) I.base.size
  rw [hb.block b hlt]
  exact I.still k b hT (fun j S' hj hl=>hn j S' hj ((lst_set hi).2 (.inr hl)))
 ·intro j j' d d' o1 o2 hj hj' hl hl' hne
  by_cases hji:j=i
  ·subst hji
   have hji' : j'≠j:=fun e=>by subst e;rw [hj] at hj';injection hj' with hj';injection hj' with e1 _;injection e1 with e1;exact hne e1
   obtain ⟨b,e1,_,e3,_⟩:=I.news j' d' o2 hj' ((other hji').1 hl')
   have hd:o.dst=some d:=by rw [hG] at hj;injection hj with hj;injection hj
   rw [upd_miss (keep j' d' _ hj' hji'),e1,hd,upd_hit]
   intro e
   injection e with e;injection e with e;injection e with e
   omega
  ·by_cases hji' : j'=i
   ·subst hji'
    obtain ⟨b,e1,_,e3,_⟩:=I.news j d o1 hj ((other hji).1 hl)
    have hd:o.dst=some d':=by rw [hG] at hj';injection hj' with hj';injection hj'
    rw [upd_miss (keep j d _ hj hji),e1,hd,upd_hit]
    intro e
    injection e with e;injection e with e;injection e with e
    omega
   ·rw [upd_miss (keep j d _ hj hji),upd_miss (keep j' d' _ hj' hji')]
    exact I.apart j j' d d' o1 o2 hj hj' ((other hji).1 hl) ((other hji').1 hl') hne
theorem upd_none {f:Tmp→Value} {v:Value}:upd f none v=f:=by funext t;simp [upd]
theorem Turned.base {b:Nat} {o' : Obj} {w' : World} (h:Turned b o' w w') (hB:Base T w0 w) (hT:w0.heap.size≤b∨b∈T):Base T w0 w':=by
 refine ⟨h.os.trans hB.os,h.tape.trans hB.tape,h.output.trans hB.output,by rw [h.size];exact hB.size,fun k hk hkT=>?_⟩
 rw [h.block k (fun e => by subst e;rcases hT with hT|hT;· omega
                            ·exact hkT hT)]
 exact hB.block k hk hkT
theorem Inv.put (I:Inv ops K T w0 a0 md G listed f a w) (W:Walked P ops K T E w0 a0 md G) {i:Nat} {o:Oper} {d0:Tmp} {S0:Obj→World→Prop} (ho:ops[i]?=some o) (hG:G[i]?=some ⟨o.dst,.put d0 S0⟩) (hun:¬ lst listed i)
 (hr:∀ e∈o.after,Region.binds md e=true→lst listed e.on) :
 o.dst=none∧o.guard=none∧∃ b,(∀ w' o',Turned b o' w w'→S0 o' w→Inv ops K T w0 a0 md G (listed.setIfInBounds i true) f a w')∧putUpon b w S0 ((execOp a.eval o).run P w):=by
 obtain ⟨o1,ho1,hd1,hob⟩:=W.ent hG
 rw [ho] at ho1
 injection ho1 with ho1
 subst ho1
 obtain ⟨hdn,hgn,hlook,hst,o0,hmem,hex⟩:=hob
 obtain ⟨j0,hj0⟩:=List.getElem?_of_mem (List.mem_reverse.1 hmem)
 have hjG:G[j0]?=some ⟨some d0,.new o0⟩:=by
  rw [List.getElem?_take] at hj0
  split at hj0
  ·exact hj0
  ·cases hj0
 obtain ⟨oj,hoj,hdj,hobj⟩:=W.ent hjG
 obtain ⟨_,ed,hed,hbd,hon⟩:=(tyB_spec W.form ho).2.2 d0 hlook j0 oj hoj hdj.symm
 have hl0:lst listed j0:=by rw [← hon];exact hr ed hed hbd
 obtain ⟨b,e1,e2,e3,e4,_⟩:=I.news j0 d0 o0 hjG hl0
 rw [hdn] at hG
 have hblk:w.heap[b]?=some o0:=e4 (fun k S' hk hlk=>hun (by rw [W.put hG hk];exact hlk))
 have hval:a.eval (.tmp d0) = .pointer (some ⟨b,0,none⟩):=(I.hit j0 oj d0 hoj hl0 hdj.symm).trans e1
 refine ⟨hdn,hgn,b,fun w' o' ht hS=>?_,hex a w b (I.view W ho hun) (I.known W ho hr) hval hblk⟩
 have hx:Ext K w w':=ht.ext hblk hobj.1
 obtain ⟨h1,h2,h3,hi⟩:=I.frame W ho hr undef
 rw [hdn,upd_none] at h1
 rw [hdn] at h2
 have other:∀ {j:Nat},j≠i→(lst (listed.setIfInBounds i true) j↔lst listed j):=fun h=>by
  rw [lst_set hi];exact ⟨fun h'=>h'.resolve_left h,.inr⟩
 refine ⟨by rw [Array.size_setIfInBounds];exact I.lsize,I.defers,I.tsize,h1,h2,h3,ht.base I.base (.inl e2),I.ext.trans hx,?_,?_,?_,?_,?_⟩
 ·intro j d S' hj hl
  have hji:j≠i:=fun e=>by subst e;rw [hG] at hj;injection hj with hj;injection hj with _ hj;cases hj
  exact W.stable hj _ _ _ (I.vals j d S' hj ((other hji).1 hl)) hx
 ·intro j d o2 hj hl
  have hji:j≠i:=fun e=>by subst e;rw [hG] at hj;injection hj with hj;injection hj with _ hj;cases hj
  obtain ⟨b',f1,f2,f3,f4,f5⟩:=I.news j d o2 hj ((other hji).1 hl)
  by_cases hd:d=d0
  ·subst hd
   have hbb:b'=b:=by rw [e1] at f1;injection f1 with f1;injection f1 with f1;injection f1 with f1;exact f1.symm
   subst hbb
   refine ⟨b',f1,f2,by rw [ht.size];exact f3,fun h=>?_,fun k S' hk hlk=>?_⟩
   ·exact absurd ((lst_set hi).2 (.inl rfl)) (h i S0 hG)
   ·have hki:=W.put hk hG
    subst hki
    rw [hG] at hk
    injection hk with hk
    injection hk with _ hk
    injection hk with _ hk
    subst hk
    exact ⟨o',hst _ _ _ hS hx,ht.at_⟩
  ·have hne:b'≠b:=by
    have:=I.apart j j0 d d0 o2 o0 hj hjG ((other hji).1 hl) hl0 hd
    rw [f1,e1] at this
    exact fun e=>this (by rw [e])
   refine ⟨b',f1,f2,by rw [ht.size];exact f3,fun h=>?_,fun k S' hk hlk=>?_⟩
   ·rw [ht.block b' hne]
    refine f4 (fun k S' hk hlk=>h k S' hk ?_)
    rw [lst_set hi];exact .inr hlk
   ·have hki:k≠i:=fun e=>by
     subst e;rw [hG] at hk;injection hk with hk;injection hk with _ hk;injection hk with hk _;exact hd hk.symm
    obtain ⟨o'',h1',h2'⟩:=f5 k S' hk ((other hki).1 hlk)
    exact ⟨o'',W.stable_put hk _ _ _ h1' hx,by rw [ht.block b' hne];exact h2'⟩
 ·intro j k b' S' hj hT hl
  have hji:j≠i:=fun e=>by subst e;rw [hG] at hj;injection hj with hj;injection hj with _ hj;cases hj
  have hne:b'≠b:=by have:=W.blk_lt hT;omega
  obtain ⟨o'',h1',h2'⟩:=I.olds j k b' S' hj hT ((other hji).1 hl)
  exact ⟨o'',W.stable_old hj _ _ _ h1' hx,by rw [ht.block b' hne];exact h2'⟩
 ·intro k b' hT hn
  have hne:b'≠b:=by have:=W.blk_lt hT;omega
  rw [ht.block b' hne]
  exact I.still k b' hT (fun j S' hj hl=>hn j S' hj ((lst_set hi).2 (.inr hl)))
 ·intro j j' d d' o2 o3 hj hj' hl hl' hne
  have hji:j≠i:=fun e=>by subst e;rw [hG] at hj;injection hj with hj;injection hj with _ hj;cases hj
  have hji' : j'≠i:=fun e=>by subst e;rw [hG] at hj';injection hj' with hj';injection hj' with _ hj';cases hj'
  exact I.apart j j' d d' o2 o3 hj hj' ((other hji).1 hl) ((other hji').1 hl') hne
theorem Inv.old (I:Inv ops K T w0 a0 md G listed f a w) (W:Walked P ops K T E w0 a0 md G) {i:Nat} {o:Oper} {k:Nat} {S0:Obj→World→Prop} (ho:ops[i]?=some o) (hG:G[i]?=some ⟨o.dst,.old k S0⟩) (hun:¬ lst listed i)
 (hr:∀ e∈o.after,Region.binds md e=true→lst listed e.on) :
 o.dst=none∧o.guard=none∧∃ b,(∀ w' o',Turned b o' w w'→S0 o' w→Inv ops K T w0 a0 md G (listed.setIfInBounds i true) f a w')∧putUpon b w S0 ((execOp a.eval o).run P w):=by
 obtain ⟨o1,ho1,hd1,hob⟩:=W.ent hG
 rw [ho] at ho1
 injection ho1 with ho1
 subst ho1
 obtain ⟨hdn,hgn,hst,b,o0,hTb,hb0,hcold,hex⟩:=hob
 rw [hdn] at hG
 have hblt:b<w0.heap.size:=lt_of_block hb0
 have hblk:w.heap[b]?=some o0:=(I.still k b hTb (fun j S' hj hl=>by have:=W.old hj hG;subst this;exact hun hl)).trans hb0
 refine ⟨hdn,hgn,b,fun w' o' ht hS=>?_,hex a w (I.view W ho hun) (I.known W ho hr) hblk⟩
 have hx:Ext K w w':=ht.ext hblk hcold
 obtain ⟨h1,h2,h3,hi⟩:=I.frame W ho hr undef
 rw [hdn,upd_none] at h1
 rw [hdn] at h2
 have other:∀ {j:Nat},j≠i→(lst (listed.setIfInBounds i true) j↔lst listed j):=fun h=>by
  rw [lst_set hi];exact ⟨fun h'=>h'.resolve_left h,.inr⟩
 refine ⟨by rw [Array.size_setIfInBounds];exact I.lsize,I.defers,I.tsize,h1,h2,h3,ht.base I.base (.inr (List.mem_of_getElem? hTb)),I.ext.trans hx,?_,?_,?_,?_,?_⟩
 ·intro j d S' hj hl
  have hji:j≠i:=fun e=>by subst e;rw [hG] at hj;injection hj with hj;injection hj with _ hj;cases hj
  exact W.stable hj _ _ _ (I.vals j d S' hj ((other hji).1 hl)) hx
 ·intro j d o2 hj hl
  have hji:j≠i:=fun e=>by subst e;rw [hG] at hj;injection hj with hj;injection hj with _ hj;cases hj
  obtain ⟨b',f1,f2,f3,f4,f5⟩:=I.news j d o2 hj ((other hji).1 hl)
  have hne:b'≠b:=by omega
  refine ⟨b',f1,f2,by rw [ht.size];exact f3,fun h=>?_,fun k S' hk hlk=>?_⟩
  ·rw [ht.block b' hne]
   refine f4 (fun k S' hk hlk=>h k S' hk ?_)
   rw [lst_set hi];exact .inr hlk
  ·have hki:k≠i:=fun e=>by subst e;rw [hG] at hk;injection hk with hk;injection hk with _ hk;cases hk
   obtain ⟨o'',h1',h2'⟩:=f5 k S' hk ((other hki).1 hlk)
   exact ⟨o'',W.stable_put hk _ _ _ h1' hx,by rw [ht.block b' hne];exact h2'⟩
 ·intro j k' b' S' hj hT' hl
  by_cases hji:j=i
  ·subst hji
   rw [hG] at hj
   injection hj with hj
   injection hj with _ hj
   injection hj with hj1 hj2
   subst hj1
   subst hj2
   rw [hTb] at hT'
   injection hT' with hT'
   subst hT'
   exact ⟨o',hst _ _ _ hS hx,ht.at_⟩
  ·have hne:b'≠b:=fun e=>by
    subst e
    have:=W.blk_eq hT' hTb
    subst this
    exact hji (W.old hj hG)
   obtain ⟨o'',h1',h2'⟩:=I.olds j k' b' S' hj hT' ((other hji).1 hl)
   exact ⟨o'',W.stable_old hj _ _ _ h1' hx,by rw [ht.block b' hne];exact h2'⟩
 ·intro k' b' hT' hn
  have hne:b'≠b:=fun e=>by
   subst e
   have:=W.blk_eq hT' hTb
   subst this
   exact hn i S0 hG ((lst_set hi).2 (.inl rfl))
  rw [ht.block b' hne]
  exact I.still k' b' hT' (fun j S' hj hl=>hn j S' hj ((lst_set hi).2 (.inr hl)))
 ·intro j j' d d' o2 o3 hj hj' hl hl' hne
  have hji:j≠i:=fun e=>by subst e;rw [hG] at hj;injection hj with hj;injection hj with _ hj;cases hj
  have hji' : j'≠i:=fun e=>by subst e;rw [hG] at hj';injection hj' with hj';injection hj' with _ hj';cases hj'
  exact I.apart j j' d d' o2 o3 hj hj' ((other hji).1 hl) ((other hji').1 hl') hne
theorem Inv.step {Q:Exit→Act→World→Prop} (I:Inv ops K T w0 a0 md G listed f a w) (W:Walked P ops K T E w0 a0 md G) {i:Nat} (hi:i∈Region.ready md ops listed) {N:Act→World→Prop}
 (hN:∀ f a w,Inv ops K T w0 a0 md G (listed.setIfInBounds i true) f a w→N a w):wpOp P ops Q i N a w:=by
 obtain ⟨hun,o,ho,hr⟩:=mem_ready.1 hi
 have hun' : ¬ lst listed i:=fun h=>by unfold lst at h;rw [h] at hun;cases hun
 have hr' : ∀ e∈o.after,Region.binds md e=true→lst listed e.on:=fun e he hb=>by
  have:=hr e he hb
  unfold lst
  rw [Array.getD_eq_getD_getElem?] at this ⊢
  cases h:listed[e.on]? with
  | none=>rfl
  | some v=>rw [h] at this;exact this
 obtain ⟨k,hG,hob⟩:=W.each i o ho
 have hwp:∀ (hg:o.guard=none),o.wp P a w N Q→wpOp P ops Q i N a w:=fun hg h=>by
  unfold wpOp
  simp only [ho]
  rw [if_pos (by simp [Region.wanted,hg])]
  exact .inl h
 match k,hG,hob with
 | .val S,hG,hob =>
   unfold wpOp
   simp only [ho]
   rcases hob.2 a w (I.view W ho hun') (I.known W ho hr') with ⟨hw,hu⟩|⟨hw,hu⟩
   ·rw [if_pos hw]
    refine .inl ?_
    unfold Oper.wp
    generalize (execOp a.eval o).run P w=r at *
    cases r with
    | ok n w' =>
      cases n <;> simp only [tyUpon] at hu <;> simp only [Oper.upon]
      case value u=>exact hN _ _ _ (I.val W ho hG hun' hr' hu.1 hu.2)
      case skip=>exact hN _ _ _ (I.val W ho hG hun' hr' hu.1 hu.2)
      case enter fn args =>
       obtain ⟨e1,hc⟩:=hu
       rw [e1]
       exact hc.mono fun e w'' ⟨v,he,h1,h2⟩=>by subst he;exact hN _ _ _ (I.val W ho hG hun' hr' h1 h2)
    | halt x w'=>simp only [tyUpon] at hu
   ·rw [if_neg (by rw [hw];simp)]
    exact hN _ _ _ (I.val W ho hG hun' hr' (aB _ _) hu)
 | .new o0,hG,hob =>
   refine hwp hob.2.1 ?_
   unfold Oper.wp
   rw [hob.2.2.2 a w]
   exact hN _ _ _ (I.new W ho hG hun' hr')
 | .put d S,hG,hob =>
   obtain ⟨hd,hg,b,hK,hu⟩:=I.put W ho hG hun' hr'
   refine hwp hg ?_
   unfold Oper.wp
   generalize (execOp a.eval o).run P w=r at *
   cases r with
   | ok n w' =>
     cases n <;> simp only [putUpon] at hu <;> simp only [Oper.upon,hd,Act.put]
     case value u=>obtain ⟨o',h1,h2⟩:=hu;exact hN _ _ _ (hK _ _ h1 h2)
     case skip=>obtain ⟨o',h1,h2⟩:=hu;exact hN _ _ _ (hK _ _ h1 h2)
   | halt x w'=>simp only [putUpon] at hu
 | .old b S,hG,hob =>
   obtain ⟨hd,hg,b,hK,hu⟩:=I.old W ho hG hun' hr'
   refine hwp hg ?_
   unfold Oper.wp
   generalize (execOp a.eval o).run P w=r at *
   cases r with
   | ok n w' =>
     cases n <;> simp only [putUpon] at hu <;> simp only [Oper.upon,hd,Act.put]
     case value u=>obtain ⟨o',h1,h2⟩:=hu;exact hN _ _ _ (hK _ _ h1 h2)
     case skip=>obtain ⟨o',h1,h2⟩:=hu;exact hN _ _ _ (hK _ _ h1 h2)
   | halt x w'=>simp only [putUpon] at hu
end
section
variable {P:Program} {ops:Array Oper} {K:Obj→Bool} {T:List Nat} {E:Nat→Nat→Bool} {w0:World} {a0:Act} {md:Region.Mode} {G:List Ent} {listed:Array Bool} {f:Tmp→Value} {a:Act} {w:World}
theorem ready_nil (hf:Region.tyB md ops a0.tmps.size=true) (hs:listed.size=ops.size) (h:Region.ready md ops listed = []):∀ i,i<ops.size→lst listed i:=by
 intro i
 induction i using Nat.strongRecOn with
 | ind i ih =>
   intro hi
   apply Classical.byContradiction
   intro hn
   have:i∈Region.ready md ops listed:=by
    rw [mem_ready]
    refine ⟨by unfold lst at hn;simpa using hn,ops[i],Array.getElem?_eq_getElem hi,fun e he hb=>?_⟩
    have hlt:=(tyB_spec hf (Array.getElem?_eq_getElem hi)).1 e he hb
    have:=ih e.on hlt (by omega)
    unfold lst at this
    rw [Array.getD_eq_getD_getElem?,Array.getElem?_eq_getElem (by omega)] at this ⊢
    exact this
   rw [h] at this
   cases this
def left (listed:Array Bool):Nat:=(listed.toList.filter (!·)).length
theorem left_set {i:Nat} (h:¬ lst listed i):left listed=left (listed.setIfInBounds i true)+1:=by
 unfold lst at h
 have hi:i<listed.size:=by
  rcases Nat.lt_or_ge i listed.size with h'|h'
  ·exact h'
  ·exact absurd (by rw [Array.getD_eq_getD_getElem?,Array.getElem?_eq_none h'];rfl) h
 have hv:listed[i]=false:=by
  rw [Array.getD_eq_getD_getElem?,Array.getElem?_eq_getElem hi] at h
  simpa using h
 unfold left
 have key:∀ (l:List Bool) (i:Nat) (h:i<l.length),l[i]=false→(l.filter (!·)).length=((l.set i true).filter (!·)).length+1:=by
  intro l
  induction l with
  | nil=>intro i h;simp at h
  | cons b l ih =>
    intro i h hb
    match i with
    | 0=>simp only [List.getElem_cons_zero] at hb;subst hb;simp
    | i+1 =>
      have:=ih i (by simpa using h) (by simpa using hb)
      rw [List.set_cons_succ]
      cases b <;> simp <;> omega
 have:=key listed.toList i (by rw [Array.length_toList];exact hi) (by rw [Array.getElem_toList];exact hv)
 rw [Array.toList_setIfInBounds]
 exact this
theorem left_zero (h:left listed=0):∀ i,lst listed i:=by
 intro i
 unfold lst
 rw [Array.getD_eq_getD_getElem?]
 cases hv:listed[i]? with
 | none=>rfl
 | some b =>
   cases b with
   | true=>rfl
   | false =>
     unfold left at h
     have:=List.length_eq_zero_iff.1 h
     rw [List.filter_eq_nil_iff] at this
     have hm:false∈listed.toList:=by
      rw [Array.mem_toList_iff]
      exact Array.mem_of_getElem? hv
     exact absurd rfl (this false hm)
theorem any_of_inv {Q:Exit→Act→World→Prop} (W:Walked P ops K T E w0 a0 md G) (hQ:∀ listed f a w,(∀ i,i<ops.size→lst listed i)→Inv ops K T w0 a0 md G listed f a w→Q .normal a w) :
 ∀ (n:Nat) (listed:Array Bool) (f:Tmp→Value) (a:Act) (w:World),left listed=n→Inv ops K T w0 a0 md G listed f a w→wpAny P md ops Q n listed a w
 | 0,listed,f,a,w,hn,I=>by
   have hall:=left_zero hn
   refine ⟨?_,hQ _ _ _ _ (fun i _=>hall i) I⟩
   apply List.eq_nil_iff_forall_not_mem.2
   intro i hi
   have:=(mem_ready.1 hi).1
   have h2:=hall i
   unfold lst at h2
   rw [h2] at this
   cases this
 | n + 1,listed,f,a,w,hn,I =>
   ⟨fun h=>hQ _ _ _ _ (ready_nil W.form I.lsize h) I,fun i hi=>by
    refine I.step W hi (fun f' a' w' I'=>any_of_inv W hQ n _ f' a' w' ?_ I')
    have:=left_set (listed:=listed) (i:=i) (fun h=>by
     have h1:=(mem_ready.1 hi).1
     unfold lst at h
     rw [h] at h1
     cases h1)
    omega⟩
theorem frameOf_size (g:List Ent):(frameOf a0 g f).tmps.size=a0.tmps.size:=by
 induction g with
 | nil=>rfl
 | cons e g ih=>simp only [frameOf];split <;> simp [Act.put_size,ih]
theorem frameOf_defers (g:List Ent):(frameOf a0 g f).defers=a0.defers:=by
 induction g with
 | nil=>rfl
 | cons e g ih=>simp only [frameOf];split <;> simp [Act.put_defers,ih]
theorem frameOf_hit {g:List Ent} {t:Tmp} (h:∃ e∈g,e.dst=some t) (ht:t<a0.tmps.size):(frameOf a0 g f).eval (.tmp t)=f t:=by
 induction g with
 | nil=>obtain ⟨_,h,_⟩:=h;cases h
 | cons e g ih =>
   simp only [frameOf]
   by_cases hd:e.dst=some t
   ·rw [hd]
    exact Act.eval_put_hit (by rw [frameOf_size];exact ht)
   ·have hg:∃ e∈g,e.dst=some t:=by
     obtain ⟨e',he',hd'⟩:=h
     rcases List.mem_cons.1 he' with rfl|he'
     ·exact absurd hd' hd
     ·exact ⟨e',he',hd'⟩
    split
    ·rename_i d he
     rw [Act.eval_put_miss (by rw [← he];exact hd)]
     exact ih hg
    ·exact ih hg
theorem frameOf_miss {g:List Ent} {t:Tmp} (h:∀ e∈g,e.dst≠some t):(frameOf a0 g f).eval (.tmp t)=a0.eval (.tmp t):=by
 induction g with
 | nil=>rfl
 | cons e g ih =>
   simp only [frameOf]
   have hg:=ih (fun e' he'=>h e' (by simp [he']))
   split
   ·rename_i d he
    rw [Act.eval_put_miss (by rw [← he];exact h e (by simp))]
    exact hg
   ·exact hg
theorem Act.ext_eval {a b:Act} (hs:a.tmps.size=b.tmps.size) (hd:a.defers=b.defers) (h:∀ t,t<a.tmps.size→a.eval (.tmp t)=b.eval (.tmp t)):a=b:=by
 obtain ⟨x,y⟩:=a
 obtain ⟨x',y'⟩:=b
 simp only at hs hd
 subst hd
 congr 1
 apply Array.ext hs
 intro i h1 h2
 have:=h i h1
 simp only [Act.eval,Array.getD_eq_getD_getElem?,Array.getElem?_eq_getElem h1,Array.getElem?_eq_getElem h2,Option.getD_some] at this
 exact this
theorem walked_of {Q:Act→World→Prop}:∀ (rest:List Oper) (g:List Ent),wpTy P ops K T E w0 a0 Q rest g→∃ H:List Ent,H.length=rest.length ∧
 (∀ (i:Nat) (o:Oper),rest[i]?=some o→∃ k,H[i]?=some ⟨o.dst,k⟩∧Oblig P ops K T E w0 a0 ((H.take i).reverse++g) o k)∧wpTy P ops K T E w0 a0 Q [] (H.reverse++g)
 | [],g,h=>⟨[],rfl,fun i o h'=>by simp at h',by simpa using h⟩
 | o :: rest,g,h=>by
   obtain ⟨k,hk,hr⟩:=h
   obtain ⟨H,h1,h2,h3⟩:=walked_of rest _ hr
   refine ⟨⟨o.dst,k⟩::H,by simp [h1],fun i o' h'=>?_,by simpa using h3⟩
   match i with
   | 0 =>
     simp only [List.getElem?_cons_zero,Option.some.injEq] at h'
     subst h'
     exact ⟨k,rfl,by simpa using hk⟩
   | i+1 =>
     obtain ⟨k',e1,e2⟩:=h2 i o' (by simpa using h')
     exact ⟨k',by simpa using e1,by simpa using e2⟩
theorem wp_region_ty {id:Nat} {Q:Exit→Act→World→Prop} {l:List Oper} (K:Obj→Bool) (T:List Nat) (E:Nat→Nat→Bool) (hT:T.Nodup) (hlt:∀ b∈T,b<w0.heap.size) (hm:P.follows .mixedOrders=true) (hf:Region.tyB .any l.toArray a0.tmps.size=true)
 (h:wpTy P l.toArray K T E w0 a0 (fun a w=>Q .normal a w) l []):(Code.region id l.toArray true).wp P Q a0 w0:=by
 obtain ⟨H,h1,h2,h3⟩:=walked_of l [] h
 simp only [List.append_nil] at h2 h3
 obtain ⟨honce,hearly,hfin⟩:=h3
 rw [List.reverse_reverse] at hearly
 have honce' : onceB H=true:=by
  simp only [onceB,Bool.and_eq_true,decide_eq_true_eq,List.filterMap_reverse] at honce ⊢
  exact ⟨(List.reverse_perm _).nodup_iff.1 honce.1,(List.reverse_perm _).nodup_iff.1 honce.2⟩
 have W:Walked P l.toArray K T E w0 a0 .any H:=⟨by simpa using h1,fun i o ho=>h2 i o (by simpa using ho),hf,honce',hearly,hT,hlt⟩
 refine wp_region_any hm ?_
 have hlst:∀ i,i<l.toArray.size→¬ lst (Array.replicate l.toArray.size false) i:=fun i hi h=>by
  unfold lst at h
  rw [Array.getD_eq_getD_getElem?,Array.getElem?_replicate,if_pos hi] at h
  cases h
 have hop:∀ {i:Nat} {o:Oper},l.toArray[i]?=some o→i<l.toArray.size:=fun h=>by
  rcases Nat.lt_or_ge _ l.toArray.size with h'|h'
  ·exact h'
  ·rw [Array.getElem?_eq_none h'] at h;cases h
 have hent:∀ {i:Nat} {e:Ent},H[i]?=some e→i<l.toArray.size:=fun h=>by
  obtain ⟨hlt,_⟩:=List.getElem?_eq_some_iff.1 h
  rw [← W.len];exact hlt
 refine any_of_inv W (fun listed f a w hall I=>?_) _ _ (fun _=>undef) _ _ (by simp [left]) ?_
 ·have hmem:∀ {e:Ent},e∈H.reverse→∃ i,H[i]?=some e∧lst listed i:=fun he=>by
   obtain ⟨i,hi⟩:=List.getElem?_of_mem (List.mem_reverse.1 he)
   exact ⟨i,hi,hall i (hent hi)⟩
  have hfr:a=frameOf a0 H.reverse f:=by
   refine Act.ext_eval (by rw [frameOf_size];exact I.tsize) (by rw [frameOf_defers];exact I.defers) (fun t ht=>?_)
   by_cases hd:∃ e∈H.reverse,e.dst=some t
   ·rw [frameOf_hit hd (by rw [← I.tsize];exact ht)]
    obtain ⟨e,he,hde⟩:=hd
    obtain ⟨i,hi,hl⟩:=hmem he
    obtain ⟨o,ho,hd',_⟩:=W.ent hi
    exact I.hit i o t ho hl (by rw [← hd'];exact hde)
   ·rw [frameOf_miss (fun e he hde=>hd ⟨e,he,hde⟩)]
    refine I.miss t (fun i o ho hdo=>hd ?_)
    obtain ⟨k,hk,_⟩:=W.each i o ho
    exact ⟨_,List.mem_reverse.2 (List.mem_of_getElem? hk),hdo⟩
  rw [hfr]
  refine hfin f w I.base I.ext (fun e he=>?_) (fun k b hk hn=>I.still k b hk (fun j S hj _=>hn S (List.mem_reverse.2 (List.mem_of_getElem? hj)))) (fun d d' o o' hd hd' hne=>?_)
  ·obtain ⟨i,hi,hl⟩:=hmem he
   obtain ⟨dst,kd⟩:=e
   unfold Final1
   match dst,kd,hi with
   | some d,.val S,hi=>exact I.vals i d S hi hl
   | some d,.new o0,hi =>
     obtain ⟨b,e1,e2,e3,e4,e5⟩:=I.news i d o0 hi hl
     refine ⟨b,e1,e2,e3,fun hn=>e4 (fun j S hj _=>hn S (List.mem_reverse.2 (List.mem_of_getElem? hj))),fun S hS=>?_⟩
     obtain ⟨j,hj,hlj⟩:=hmem hS
     exact e5 j S hj hlj
   | none,.old k S,hi =>
     obtain ⟨_,_,_,hob⟩:=W.ent hi
     obtain ⟨_,_,_,b,o0,hb,_⟩:=hob
     obtain ⟨o,h1,h2⟩:=I.olds i k b S hi hb hl
     exact ⟨b,o,hb,h1,h2⟩
   | some d,.old b S,hi =>
     obtain ⟨o,_,hd,hob⟩:=W.ent hi
     have:=hob.1
     rw [← hd] at this
     cases this
   | none,.val S,_=>trivial
   | none,.new o0,_=>trivial
   | none,.put d S,_=>trivial
   | some d',.put d S,_=>trivial
  ·obtain ⟨i,hi,hl⟩:=hmem hd
   obtain ⟨i',hi',hl'⟩:=hmem hd'
   exact I.apart i i' d d' o o' hi hi' hl hl' hne
 ·refine ⟨by simp,rfl,rfl,fun i o d ho hl _=>absurd hl (hlst i (hop ho)),fun _ _=>rfl,fun i o ho hl=>absurd hl (hlst i (hop ho)),⟨rfl,rfl,rfl,aR _,fun _ _ _=>rfl⟩,⟨aR _,fun _ _ h _=>h⟩,
   fun i d S hi hl=>absurd hl (hlst i (hent hi)),fun i d o hi hl=>absurd hl (hlst i (hent hi)),fun i k b S hi _ hl=>absurd hl (hlst i (hent hi)),fun _ _ _ _=>rfl,
   fun i i' d d' o o' hi _ hl=>absurd hl (hlst i (hent hi))⟩
end
end Ab
section
open Go.RowKit
def hotObj (K:Value→Bool):Obj→Bool
 | .cells cs _ _=>cs.any K
 | _=>false
structure Ext (K:Value→Bool) (w w' : World):Prop where
 size:w.heap.size≤w'.heap.size
 block:∀ (g:Nat) (o:Obj),w.heap[g]?=some o→hotObj K o=true→w'.heap[g]?=some o
theorem lt_of_block {w:World} {g:Nat} {o:Obj} (h:w.heap[g]?=some o):g<w.heap.size:=by
 rcases Nat.lt_or_ge g w.heap.size with hlt|hge
 ·exact hlt
 ·rw [Array.getElem?_eq_none hge] at h;cases h
theorem Ext.trans {K:Value→Bool} {a b c:World} (h:Ext K a b) (h' : Ext K b c):Ext K a c:=⟨Nat.le_trans h.size h'.size,fun g o hg ho=>h'.block g o (h.block g o hg ho) ho⟩
theorem Ext.of_below {K:Value→Bool} {w w' : World} (h:Below w.heap.size w w'):Ext K w w':=⟨h.size,fun g _ hg _=>(h.block g (lt_of_block hg)).trans hg⟩
abbrev Sp:=Value→World→Prop
def Stable (K:Value→Bool) (S:Sp):Prop := ∀ v w w',S v w→Ext K w w'→S v w'
def StableO (K:Value→Bool) (S:Obj→World→Prop):Prop := ∀ v w w',S v w→Ext K w w'→S v w'
def Sp.is (u:Value):Sp:=fun v _=>v=u
theorem Sp.is_stable (K:Value→Bool) (u:Value):Stable K (Sp.is u):=fun _ _ _ h _=>h
inductive Kd where
 | val (S:Sp)
 | new (o:Obj)
 | put (d:Tmp) (S:Obj→World→Prop)
 | old (g:Nat) (S:Obj→World→Prop)
structure Ent where
 dst:Option Tmp
 kd:Kd
def isVar (B:Nat):Sp:=fun v w => ∃ g,v = .pointer (some ⟨g,0,none⟩)∧B≤g∧g<w.heap.size
def Kd.spec (B:Nat):Kd→Sp
 | .val S=>S
 | .new _=>isVar B
 | _=>fun _ _=>True
def specOf (a0:Act) (B:Nat) (t:Tmp):List Ent→Sp
 | []=>fun v _=>v=a0.eval (.tmp t)
 | e::g=>if e.dst=some t then e.kd.spec B else specOf a0 B t g
def known (a0:Act) (B:Nat) (g:List Ent) (A:Act) (w:World):List Tmp→Prop
 | []=>True
 | t::l=>specOf a0 B t g (A.eval (.tmp t)) w∧known a0 B g A w l
theorem known_iff {a0:Act} {B:Nat} {g:List Ent} {A:Act} {w:World} {l:List Tmp}:known a0 B g A w l↔∀ t∈l,specOf a0 B t g (A.eval (.tmp t)) w:=by
 induction l with
 | nil=>simp [known]
 | cons t l ih=>simp [known,ih]
structure Base (T:List Nat) (w0 w:World):Prop where
 os:w.os=w0.os
 tape:w.tape=w0.tape
 output:w.output=w0.output
 size:w0.heap.size≤w.heap.size
 block:∀ k,k<w0.heap.size→k∉T→w.heap[k]?=w0.heap[k]?
theorem Base.below {w0 w:World} (h:Base [] w0 w):Below w0.heap.size w0 w:=⟨h.os,h.tape,h.output,h.size,fun k hk=>h.block k hk (by simp)⟩
theorem Base.step {T:List Nat} {w0 w w' : World} (h:Base T w0 w) (h' : Below w.heap.size w w'):Base T w0 w' :=
 ⟨h'.os.trans h.os,h'.tape.trans h.tape,h'.output.trans h.output,Nat.le_trans h.size h'.size,fun k hk hT=>(h'.block k (Nat.lt_of_lt_of_le hk h.size)).trans (h.block k hk hT)⟩
structure Turned (g:Nat) (o:Obj) (w w' : World):Prop where
 os:w'.os=w.os
 tape:w'.tape=w.tape
 output:w'.output=w.output
 size:w'.heap.size=w.heap.size
 at_:w'.heap[g]?=some o
 block:∀ k,k≠g→w'.heap[k]?=w.heap[k]?
theorem Turned.ext {K:Value→Bool} {g:Nat} {o o0:Obj} {w w' : World} (h:Turned g o w w') (h0:w.heap[g]?=some o0) (hc:hotObj K o0=false):Ext K w w':=by
 refine ⟨by rw [h.size];exact aR _,fun k o' hk ho=>?_⟩
 by_cases e:k=g
 ·subst e
  rw [h0] at hk
  injection hk with hk
  subst hk
  rw [hc] at ho
  cases ho
 ·rw [h.block k e];exact hk
def TyPost (w:World) (S:Sp) (e:Ending) (w'' : World):Prop := ∃ v,e = .returned v∧Below w.heap.size w w''∧S v w''
def tyUpon (P:Program) (w:World) (S:Sp):Result Next→Prop
 | .ok (.value u) w'=>Below w.heap.size w w'∧S u w'
 | .ok .skip w'=>Below w.heap.size w w'∧S undef w'
 | .ok (.enter f args) w'=>w'=w∧Calls P f args w (TyPost w S)
 | _=>False
def putUpon (g:Nat) (w:World) (S:Obj→World→Prop):Result Next→Prop
 | .ok (.value _) w' => ∃ o,Turned g o w w'∧S o w
 | .ok .skip w' => ∃ o,Turned g o w w'∧S o w
 | _=>False
def putOf (e:Ent):Option Tmp:=match e.dst,e.kd with|none,.put d _=>some d|_,_=>none
def isOld (e:Ent):Bool:=match e.kd with | .old _ _=>true|_=>false
def onceB (G:List Ent):Bool:=decide ((G.filterMap putOf).Nodup)&&decide ((G.filter isOld).length≤1)
section
variable (P:Program) (ops:Array Oper) (K:Value→Bool) (T:List Nat) (w0:World) (a0:Act)
def Oblig (g:List Ent) (o:Oper):Kd→Prop
 | .val S=>Stable K S∧∀ (A:Act) (w:World),Base T w0 w→known a0 w0.heap.size g A w (o.looksAt ops) →
  (Region.wanted o (yielded ops A.tmps)=true∧tyUpon P w S ((execOp A.eval o).run P w))∨(Region.wanted o (yielded ops A.tmps)=false∧S undef w)
 | .new o0=>hotObj K o0=false∧o.guard=none∧o.dst.isSome=true∧∀ (A:Act) (w:World),(execOp A.eval o).run P w = .ok (.value (.pointer (some ⟨w.heap.size,0,none⟩))) (w.alloc o0)
 | .put d S=>o.dst=none∧o.guard=none∧d∈o.looksAt ops∧StableO K S∧∃ o0,(⟨some d,.new o0⟩:Ent)∈g ∧
  ∀ (A:Act) (w:World) (b:Nat),Base T w0 w→known a0 w0.heap.size g A w (o.looksAt ops)→A.eval (.tmp d) = .pointer (some ⟨b,0,none⟩)→w.heap[b]?=some o0→putUpon b w S ((execOp A.eval o).run P w)
 | .old b S=>o.dst=none∧o.guard=none∧b∈T∧b<w0.heap.size∧StableO K S∧∃ o0,w0.heap[b]?=some o0∧hotObj K o0=false ∧
  ∀ (A:Act) (w:World),Base T w0 w→known a0 w0.heap.size g A w (o.looksAt ops)→w.heap[b]?=some o0→putUpon b w S ((execOp A.eval o).run P w)
def frameOf:List Ent→(Tmp→Value)→Act
 | [],_=>a0
 | e::g,f=>match e.dst with
   | some d=>(frameOf g f).put (some d) (f d)
   | none=>frameOf g f
def Final1 (G:List Ent) (f:Tmp→Value) (w:World) (e:Ent):Prop :=
 match e.dst,e.kd with
 | some d,.val S=>S (f d) w
 | some d,.new o0 => ∃ b,f d = .pointer (some ⟨b,0,none⟩)∧w0.heap.size≤b∧b<w.heap.size∧((∀ S,(⟨none,.put d S⟩:Ent)∉G)→w.heap[b]?=some o0)∧(∀ S,(⟨none,.put d S⟩:Ent)∈G→∃ o,S o w∧w.heap[b]?=some o)
 | _,.old b S => ∃ o,S o w∧w.heap[b]?=some o
 | _,_=>True
def Apart (G:List Ent) (f:Tmp→Value):Prop := ∀ d d' o o',(⟨some d,.new o⟩:Ent)∈G→(⟨some d',.new o'⟩:Ent)∈G→d≠d'→f d≠f d'
def wpTy (Q:Act→World→Prop):List Oper→List Ent→Prop
 | [],g=>onceB g=true∧∀ (f:Tmp→Value) (w:World),Base T w0 w→(∀ e∈g,Final1 w0 g f w e)→Apart g f→Q (frameOf a0 g f) w
 | o::rest,g => ∃ k,Oblig P ops K T w0 a0 g o k∧wpTy Q rest (⟨o.dst,k⟩::g)
end
def Region.tyB (md:Region.Mode) (ops:Array Oper) (n:Nat):Bool :=
 Region.noSelect ops&&(List.range ops.size).all fun i=>(ops[i]?).all fun o =>
  (o.after.all fun e => !Region.binds md e || decide (e.on<i)) &&
  (match o.dst with|some d=>decide (d<n)&&(List.range ops.size).all (fun j=>j==i || (ops[j]?).all fun o'=>o'.dst != some d)|none=>true) &&
  (o.looksAt ops).all fun t=>(List.range ops.size).all fun j=>(ops[j]?).all fun o'=>o'.dst != some t || (decide (j<i)&&o.after.any fun e=>Region.binds md e&&e.on==j)
section
variable {P:Program} {ops:Array Oper} {K:Value→Bool} {T:List Nat} {w0:World} {a0:Act} {md:Region.Mode}
theorem specOf_of {B:Nat} {t:Tmp} {v:Value} {w:World} {g:List Ent} (h1:∀ e∈g,e.dst=some t→e.kd.spec B v w) (h2:(∀ e∈g,e.dst≠some t)→v=a0.eval (.tmp t)):specOf a0 B t g v w:=by
 induction g with
 | nil=>exact h2 (fun _ h=>by cases h)
 | cons e g ih =>
   simp only [specOf]
   split
   ·rename_i he
    exact h1 e (by simp) he
   ·rename_i he
    refine ih (fun e' he'=>h1 e' (by simp [he'])) (fun hn=>h2 (fun e' he'=>?_))
    rcases List.mem_cons.1 he' with rfl|he'
    ·exact he
    ·exact hn e' he'
def lst (listed:Array Bool) (i:Nat):Prop:=listed.getD i true=true
theorem lst_set {listed:Array Bool} {i j:Nat} (hi:i<listed.size):lst (listed.setIfInBounds i true) j↔(j=i∨lst listed j):=by
 unfold lst
 simp only [Array.getD_eq_getD_getElem?,Array.getElem?_setIfInBounds]
 by_cases h:i=j
 ·subst h;simp [hi]
 ·simp only [h,if_false]
  constructor
  ·intro h';exact .inr h'
  ·rintro (rfl|h')
   ·exact absurd rfl h
   ·exact h'
structure Inv (ops:Array Oper) (T:List Nat) (w0:World) (a0:Act) (md:Region.Mode) (G:List Ent) (listed:Array Bool) (f:Tmp→Value) (a:Act) (w:World):Prop where
 lsize:listed.size=ops.size
 defers:a.defers=a0.defers
 tsize:a.tmps.size=a0.tmps.size
 hit:∀ (i:Nat) (o:Oper) d,ops[i]?=some o→lst listed i→o.dst=some d→a.eval (.tmp d)=f d
 miss:∀ t,(∀ (i:Nat) (o:Oper),ops[i]?=some o→o.dst≠some t)→a.eval (.tmp t)=a0.eval (.tmp t)
 closed:∀ (i:Nat) (o:Oper),ops[i]?=some o→lst listed i→∀ e∈o.after,Region.binds md e=true→lst listed e.on
 base:Base T w0 w
 vals:∀ (i:Nat) d S,G[i]?=some ⟨some d,.val S⟩→lst listed i→S (f d) w
 news:∀ (i:Nat) d o0,G[i]?=some ⟨some d,.new o0⟩→lst listed i→∃ b,f d = .pointer (some ⟨b,0,none⟩)∧w0.heap.size≤b∧b<w.heap.size ∧
  ((∀ (j:Nat) S,G[j]?=some ⟨none,.put d S⟩→¬ lst listed j)→w.heap[b]?=some o0)∧(∀ (j:Nat) S,G[j]?=some ⟨none,.put d S⟩→lst listed j→∃ o,S o w∧w.heap[b]?=some o)
 olds:∀ (j:Nat) b S,G[j]?=some ⟨none,.old b S⟩→(¬ lst listed j→w.heap[b]?=w0.heap[b]?)∧(lst listed j→∃ o,S o w∧w.heap[b]?=some o)
 apart:∀ (i i' : Nat) d d' o o',G[i]?=some ⟨some d,.new o⟩→G[i']?=some ⟨some d',.new o'⟩→lst listed i→lst listed i'→d≠d'→f d≠f d'
structure Walked (P:Program) (ops:Array Oper) (K:Value→Bool) (T:List Nat) (w0:World) (a0:Act) (md:Region.Mode) (G:List Ent):Prop where
 len:G.length=ops.size
 each:∀ (i:Nat) (o:Oper),ops[i]?=some o→∃ k,G[i]?=some ⟨o.dst,k⟩∧Oblig P ops K T w0 a0 (G.take i).reverse o k
 form:Region.tyB md ops a0.tmps.size=true
 once:onceB G=true
theorem tyB_spec {n:Nat} (h:Region.tyB md ops n=true) {i:Nat} {o:Oper} (ho:ops[i]?=some o) :
 (∀ e∈o.after,Region.binds md e=true→e.on<i)∧(∀ d,o.dst=some d→d<n∧∀ (j:Nat) (o' : Oper),ops[j]?=some o'→o'.dst=some d→j=i) ∧
 (∀ t∈o.looksAt ops,∀ (j:Nat) (o' : Oper),ops[j]?=some o'→o'.dst=some t→j<i∧∃ e∈o.after,Region.binds md e=true∧e.on=j):=by
 have lt:∀ {j:Nat} {o' : Oper},ops[j]?=some o'→j<ops.size:=fun h=>by
  rcases Nat.lt_or_ge _ ops.size with h'|h'
  ·exact h'
  ·rw [Array.getElem?_eq_none h'] at h;cases h
 simp only [Region.tyB,Bool.and_eq_true,List.all_eq_true,List.mem_range] at h
 have h2:=h.2 i (lt ho)
 simp only [ho,Option.all_some,Bool.and_eq_true] at h2
 obtain ⟨⟨h3,h4⟩,h5⟩:=h2
 refine ⟨fun e he hb=>?_,fun d hd=>?_,fun t ht j o' hj hdt=>?_⟩
 ·have:=Array.all_eq_true'.1 h3 e he
  simp only [hb,Bool.not_true,Bool.false_or,decide_eq_true_eq] at this
  exact this
 ·rw [hd] at h4
  simp only [Bool.and_eq_true,decide_eq_true_eq,List.all_eq_true,List.mem_range] at h4
  refine ⟨h4.1,fun j o' hj hd'=>?_⟩
  have:=h4.2 j (lt hj)
  simp only [hj,Option.all_some,Bool.or_eq_true,beq_iff_eq,bne_iff_ne] at this
  rcases this with h|h
  ·exact h
  ·exact absurd hd' h
 ·have:=List.all_eq_true.1 h5 t ht
  have:=List.all_eq_true.1 this j (List.mem_range.2 (lt hj))
  simp only [hj,Option.all_some,Bool.or_eq_true,bne_iff_ne,Bool.and_eq_true,decide_eq_true_eq] at this
  rcases this with h|⟨h,h'⟩
  ·exact absurd hdt h
  ·obtain ⟨e,he,hb⟩:=Array.any_eq_true'.1 h'
   simp only [Bool.and_eq_true,beq_iff_eq] at hb
   exact ⟨h,e,he,hb.1,hb.2⟩
end
section
variable {P:Program} {ops:Array Oper} {K:Value→Bool} {T:List Nat} {w0:World} {a0:Act} {md:Region.Mode} {G:List Ent}
theorem Walked.ent (W:Walked P ops K T w0 a0 md G) {i:Nat} {e:Ent} (h:G[i]?=some e):∃ o,ops[i]?=some o∧e.dst=o.dst∧Oblig P ops K T w0 a0 (G.take i).reverse o e.kd:=by
 obtain ⟨hlt,_⟩:=List.getElem?_eq_some_iff.1 h
 have hlt' : i<ops.size:=by rw [← W.len];exact hlt
 obtain ⟨k,hk,ho⟩:=W.each i ops[i] (Array.getElem?_eq_getElem hlt')
 rw [h] at hk
 injection hk with hk
 subst hk
 exact ⟨_,Array.getElem?_eq_getElem hlt',rfl,ho⟩
theorem Walked.dst (W:Walked P ops K T w0 a0 md G) {i j d:Nat} {k k' : Kd} (h:G[i]?=some ⟨some d,k⟩) (h' : G[j]?=some ⟨some d,k'⟩):i=j:=by
 obtain ⟨o,ho,hd,_⟩:=W.ent h
 obtain ⟨o',ho',hd',_⟩:=W.ent h'
 exact (tyB_spec W.form ho').2.1 d hd'.symm |>.2 i o ho hd.symm
theorem filterMap_once {α β:Type} [DecidableEq β] (f:α→Option β):∀ (l:List α) (i j:Nat) (a b:α) (x:β),(l.filterMap f).Nodup→l[i]?=some a→l[j]?=some b→f a=some x→f b=some x→i=j
 | [],i,_,_,_,_,_,h,_,_,_=>by simp at h
 | c :: l,i,j,a,b,x,hn,hi,hj,ha,hb=>by
   have tail:(l.filterMap f).Nodup:=by
    rw [List.filterMap_cons] at hn
    split at hn
    ·exact hn
    ·exact (List.nodup_cons.1 hn).2
   have mem:∀ (k:Nat) (y:α),l[k]?=some y→f y=some x→f c=some x→False:=fun k y hk hy hc=>by
    rw [List.filterMap_cons,hc] at hn
    exact (List.nodup_cons.1 hn).1 (List.mem_filterMap.2 ⟨y,List.mem_of_getElem? hk,hy⟩)
   match i,j with
   | 0,0=>rfl
   | 0,j+1 =>
     simp only [List.getElem?_cons_zero,Option.some.injEq] at hi
     subst hi
     exact (mem j b (by simpa using hj) hb ha).elim
   | i+1,0 =>
     simp only [List.getElem?_cons_zero,Option.some.injEq] at hj
     subst hj
     exact (mem i a (by simpa using hi) ha hb).elim
   | i+1,j+1=>exact congrArg (· + 1) (filterMap_once f l i j a b x tail (by simpa using hi) (by simpa using hj) ha hb)
theorem Walked.put (W:Walked P ops K T w0 a0 md G) {i j d:Nat} {S S' : Obj→World→Prop} (h:G[i]?=some ⟨none,.put d S⟩) (h' : G[j]?=some ⟨none,.put d S'⟩):i=j:=by
 have:=W.once
 simp only [onceB,Bool.and_eq_true,decide_eq_true_eq] at this
 exact filterMap_once putOf G i j _ _ d this.1 h h' rfl rfl
theorem sS {α:Type} (f:α→Bool):∀ (l:List α) (i j:Nat) (a b:α),(l.filter f).length≤1→l[i]?=some a→l[j]?=some b→f a=true→f b=true→i=j
 | [],i,_,_,_,_,h,_,_,_=>by simp at h
 | c :: l,i,j,a,b,hn,hi,hj,ha,hb=>by
   have tail:(l.filter f).length≤1:=by
    rw [List.filter_cons] at hn
    split at hn
    ·simp only [List.length_cons] at hn;omega
    ·exact hn
   have mem:∀ (k:Nat) (y:α),l[k]?=some y→f y=true→f c=true→False:=fun k y hk hy hc=>by
    rw [List.filter_cons,if_pos hc] at hn
    have:y∈l.filter f:=List.mem_filter.2 ⟨List.mem_of_getElem? hk,hy⟩
    have:=List.length_pos_of_mem this
    simp only [List.length_cons] at hn
    omega
   match i,j with
   | 0,0=>rfl
   | 0,j+1 =>
     simp only [List.getElem?_cons_zero,Option.some.injEq] at hi
     subst hi
     exact (mem j b (by simpa using hj) hb ha).elim
   | i+1,0 =>
     simp only [List.getElem?_cons_zero,Option.some.injEq] at hj
     subst hj
     exact (mem i a (by simpa using hi) ha hb).elim
   | i+1,j+1=>exact congrArg (· + 1) (sS f l i j a b tail (by simpa using hi) (by simpa using hj) ha hb)
theorem Walked.old (W:Walked P ops K T w0 a0 md G) {i j b b' : Nat} {S S' : Obj→World→Prop} (h:G[i]?=some ⟨none,.old b S⟩) (h' : G[j]?=some ⟨none,.old b' S'⟩):i=j:=by
 have:=W.once
 simp only [onceB,Bool.and_eq_true,decide_eq_true_eq] at this
 exact sS isOld G i j _ _ this.2 h h' rfl rfl
theorem Walked.stable (W:Walked P ops K T w0 a0 md G) {i d:Nat} {S:Sp} (h:G[i]?=some ⟨some d,.val S⟩):Stable K S:=by
 obtain ⟨o,_,_,ho⟩:=W.ent h;exact ho.1
theorem Walked.stable_put (W:Walked P ops K T w0 a0 md G) {i d:Nat} {S:Obj→World→Prop} (h:G[i]?=some ⟨none,.put d S⟩):StableO K S:=by
 obtain ⟨o,_,_,ho⟩:=W.ent h;exact ho.2.2.2.1
theorem Walked.stable_old (W:Walked P ops K T w0 a0 md G) {i b:Nat} {S:Obj→World→Prop} (h:G[i]?=some ⟨none,.old b S⟩):StableO K S:=by
 obtain ⟨o,_,_,ho⟩:=W.ent h;exact ho.2.2.2.2.1
variable {listed:Array Bool} {f:Tmp→Value} {a:Act} {w:World}
theorem Inv.known (I:Inv ops T w0 a0 md G listed f a w) (W:Walked P ops K T w0 a0 md G) {i:Nat} {o:Oper} (ho:ops[i]?=some o) (hr:∀ e∈o.after,Region.binds md e=true→lst listed e.on) :
 known a0 w0.heap.size (G.take i).reverse a w (o.looksAt ops):=by
 rw [known_iff]
 intro t ht
 have hf:=(tyB_spec W.form ho).2.2 t ht
 refine specOf_of (fun e he hd=>?_) (fun hn=>I.miss t (fun j oj hj hdj=>?_))
 ·obtain ⟨j,hj⟩:=List.getElem?_of_mem (List.mem_reverse.1 he)
  have hjG:G[j]?=some e:=by
   rw [List.getElem?_take] at hj
   split at hj
   ·exact hj
   ·cases hj
  obtain ⟨oj,hoj,hdj,_⟩:=W.ent hjG
  obtain ⟨_,ed,hed,hb,hon⟩:=hf j oj hoj (by rw [← hdj];exact hd)
  have hl:lst listed j:=by rw [← hon];exact hr ed hed hb
  have hv:a.eval (.tmp t)=f t:=I.hit j oj t hoj hl (by rw [← hdj];exact hd)
  rw [hv]
  obtain ⟨dst,kd⟩:=e
  simp only at hd
  subst hd
  match kd,hjG with
  | .val S,hjG=>exact I.vals j t S hjG hl
  | .new o0,hjG =>
    obtain ⟨b,h1,h2,h3,_⟩:=I.news j t o0 hjG hl
    exact ⟨b,h1,h2,h3⟩
  | .put _ _,_=>trivial
  | .old _ _,_=>trivial
 ·obtain ⟨hlt,_⟩:=hf j oj hj hdj
  obtain ⟨k,hk,_⟩:=W.each j oj hj
  refine hn ⟨oj.dst,k⟩ (List.mem_reverse.2 (List.mem_of_getElem? (i:=j) ?_)) hdj
  rw [List.getElem?_take,if_pos hlt]
  exact hk
theorem Act.eval_put_hit {a:Act} {d:Tmp} {v:Value} (h:d<a.tmps.size):(a.put (some d) v).eval (.tmp d)=v:=by
 simp [Act.put,Act.eval,h]
theorem Act.eval_put_miss {a:Act} {dst:Option Tmp} {t:Tmp} {v:Value} (h:dst≠some t):(a.put dst v).eval (.tmp t)=a.eval (.tmp t):=by
 cases dst with
 | none=>rfl
 | some d =>
   have:d≠t:=fun e=>h (by rw [e])
   simp [Act.put,Act.eval,Array.getElem?_setIfInBounds_ne this]
theorem Act.put_size {a:Act} {dst:Option Tmp} {v:Value}:(a.put dst v).tmps.size=a.tmps.size:=by
 cases dst <;> simp [Act.put]
theorem Act.put_defers {a:Act} {dst:Option Tmp} {v:Value}:(a.put dst v).defers=a.defers:=by
 cases dst <;> rfl
def upd (f:Tmp→Value) (dst:Option Tmp) (v:Value):Tmp→Value:=fun t=>if dst=some t then v else f t
theorem upd_hit {f:Tmp→Value} {d:Tmp} {v:Value}:upd f (some d) v d=v:=by simp [upd]
theorem upd_miss {f:Tmp→Value} {dst:Option Tmp} {t:Tmp} {v:Value} (h:dst≠some t):upd f dst v t=f t:=by simp [upd,h]
theorem Inv.frame (I:Inv ops T w0 a0 md G listed f a w) (W:Walked P ops K T w0 a0 md G) {i:Nat} {o:Oper} (ho:ops[i]?=some o) (hr:∀ e∈o.after,Region.binds md e=true→lst listed e.on) (v:Value) :
 (∀ (j:Nat) (o' : Oper) d,ops[j]?=some o'→lst (listed.setIfInBounds i true) j→o'.dst=some d→(a.put o.dst v).eval (.tmp d)=upd f o.dst v d) ∧
 (∀ t,(∀ (j:Nat) (o' : Oper),ops[j]?=some o'→o'.dst≠some t)→(a.put o.dst v).eval (.tmp t)=a0.eval (.tmp t)) ∧
 (∀ (j:Nat) (o' : Oper),ops[j]?=some o'→lst (listed.setIfInBounds i true) j→∀ e∈o'.after,Region.binds md e=true→lst (listed.setIfInBounds i true) e.on)∧i<listed.size:=by
 have hi:i<listed.size:=by
  rw [I.lsize]
  rcases Nat.lt_or_ge i ops.size with h|h
  ·exact h
  ·rw [Array.getElem?_eq_none h] at ho;cases ho
 refine ⟨fun j o' d hj hl hd=>?_,fun t ht=>?_,fun j o' hj hl e he hb=>?_,hi⟩
 ·by_cases hji:j=i
  ·subst hji
   rw [ho] at hj
   injection hj with hj
   subst hj
   have hlt:=((tyB_spec W.form ho).2.1 d hd).1
   rw [hd,Act.eval_put_hit (by rw [I.tsize];exact hlt),upd_hit]
  ·have hl' : lst listed j:=((lst_set hi).1 hl).resolve_left hji
   have hne:o.dst≠some d:=fun e=>hji (((tyB_spec W.form ho).2.1 d e).2 j o' hj hd)
   rw [Act.eval_put_miss hne,upd_miss hne]
   exact I.hit j o' d hj hl' hd
 ·rw [Act.eval_put_miss (ht i o ho)]
  exact I.miss t ht
 ·rw [lst_set hi]
  by_cases hji:j=i
  ·subst hji
   rw [ho] at hj
   injection hj with hj
   subst hj
   exact .inr (hr e he hb)
  ·exact .inr (I.closed j o' hj (((lst_set hi).1 hl).resolve_left hji) e he hb)
theorem Inv.val (I:Inv ops T w0 a0 md G listed f a w) (W:Walked P ops K T w0 a0 md G) {i:Nat} {o:Oper} {S:Sp} (ho:ops[i]?=some o) (hG:G[i]?=some ⟨o.dst,.val S⟩) (hun:¬ lst listed i)
 (hr:∀ e∈o.after,Region.binds md e=true→lst listed e.on) {v:Value} {w' : World} (hb:Below w.heap.size w w') (hS:S v w') :
 Inv ops T w0 a0 md G (listed.setIfInBounds i true) (upd f o.dst v) (a.put o.dst v) w':=by
 obtain ⟨h1,h2,h3,hi⟩:=I.frame W ho hr v
 have hx:Ext K w w':=Ext.of_below hb
 have keep:∀ (j d:Nat) k,G[j]?=some ⟨some d,k⟩→j≠i→o.dst≠some d:=fun j d k hj hji e=>by
  rw [e] at hG
  exact hji (W.dst hj hG)
 have other:∀ {j:Nat},j≠i→(lst (listed.setIfInBounds i true) j↔lst listed j):=fun h=>by
  rw [lst_set hi];exact ⟨fun h'=>h'.resolve_left h,.inr⟩
 refine ⟨by rw [Array.size_setIfInBounds];exact I.lsize,by rw [Act.put_defers];exact I.defers,by rw [Act.put_size];exact I.tsize,h1,h2,h3,I.base.step hb,?_,?_,?_,?_⟩
 ·intro j d S' hj hl
  by_cases hji:j=i
  ·subst hji
   rw [hG] at hj
   injection hj with hj
   injection hj with e1 e2
   injection e2 with e2
   subst e2
   rw [e1,upd_hit]
   exact hS
  ·rw [upd_miss (keep j d _ hj hji)]
   exact W.stable hj _ _ _ (I.vals j d S' hj ((other hji).1 hl)) hx
 ·intro j d o0 hj hl
  have hji:j≠i:=fun e=>by subst e;rw [hG] at hj;injection hj with hj;injection hj with _ hj;cases hj
  rw [upd_miss (keep j d _ hj hji)]
  obtain ⟨b,e1,e2,e3,e4,e5⟩:=I.news j d o0 hj ((other hji).1 hl)
  refine ⟨b,e1,e2,Nat.lt_of_lt_of_le e3 hb.size,fun h=>?_,fun k S' hk hlk=>?_⟩
  ·rw [hb.block b e3]
   refine e4 (fun k S' hk hlk=>h k S' hk ?_)
   rw [lst_set hi];exact .inr hlk
  ·have hki:k≠i:=fun e=>by subst e;rw [hG] at hk;injection hk with hk;injection hk with _ hk;cases hk
   obtain ⟨o',h1',h2'⟩:=e5 k S' hk ((other hki).1 hlk)
   exact ⟨o',W.stable_put hk _ _ _ h1' hx,by rw [hb.block b e3];exact h2'⟩
 ·intro j b S' hj
  have hji:j≠i:=fun e=>by subst e;rw [hG] at hj;injection hj with hj;injection hj with _ hj;cases hj
  obtain ⟨oj,_,_,hob⟩:=W.ent hj
  have hlt:b<w.heap.size:=Nat.lt_of_lt_of_le hob.2.2.2.1 I.base.size
  rw [other hji,hb.block b hlt]
  obtain ⟨e1,e2⟩:=I.olds j b S' hj
  exact ⟨e1,fun hl=>by obtain ⟨o',h1',h2'⟩:=e2 hl;exact ⟨o',W.stable_old hj _ _ _ h1' hx,h2'⟩⟩
 ·intro j j' d d' o1 o2 hj hj' hl hl' hne
  have hji:j≠i:=fun e=>by subst e;rw [hG] at hj;injection hj with hj;injection hj with _ hj;cases hj
  have hji' : j'≠i:=fun e=>by subst e;rw [hG] at hj';injection hj' with hj';injection hj' with _ hj';cases hj'
  rw [upd_miss (keep j d _ hj hji),upd_miss (keep j' d' _ hj' hji')]
  exact I.apart j j' d d' o1 o2 hj hj' ((other hji).1 hl) ((other hji').1 hl') hne
end
section
variable {P:Program} {ops:Array Oper} {K:Value→Bool} {T:List Nat} {w0:World} {a0:Act} {md:Region.Mode} {G:List Ent} {listed:Array Bool} {f:Tmp→Value} {a:Act} {w:World}
theorem Inv.new (I:Inv ops T w0 a0 md G listed f a w) (W:Walked P ops K T w0 a0 md G) {i:Nat} {o:Oper} {o0:Obj} (ho:ops[i]?=some o) (hG:G[i]?=some ⟨o.dst,.new o0⟩) (hun:¬ lst listed i)
 (hr:∀ e∈o.after,Region.binds md e=true→lst listed e.on) :
 Inv ops T w0 a0 md G (listed.setIfInBounds i true) (upd f o.dst (.pointer (some ⟨w.heap.size,0,none⟩))) (a.put o.dst (.pointer (some ⟨w.heap.size,0,none⟩))) (w.alloc o0):=by
 obtain ⟨h1,h2,h3,hi⟩:=I.frame W ho hr (.pointer (some ⟨w.heap.size,0,none⟩))
 have hb:Below w.heap.size w (w.alloc o0):=(aB _ _).alloc (aR _) _
 have hx:Ext K w (w.alloc o0):=Ext.of_below hb
 have keep:∀ (j d:Nat) k,G[j]?=some ⟨some d,k⟩→j≠i→o.dst≠some d:=fun j d k hj hji e=>by
  rw [e] at hG
  exact hji (W.dst hj hG)
 have other:∀ {j:Nat},j≠i→(lst (listed.setIfInBounds i true) j↔lst listed j):=fun h=>by
  rw [lst_set hi];exact ⟨fun h'=>h'.resolve_left h,.inr⟩
 have hsz:(w.alloc o0).heap.size=w.heap.size+1:=by simp
 refine ⟨by rw [Array.size_setIfInBounds];exact I.lsize,by rw [Act.put_defers];exact I.defers,by rw [Act.put_size];exact I.tsize,h1,h2,h3,I.base.step hb,?_,?_,?_,?_⟩
 ·intro j d S' hj hl
  have hji:j≠i:=fun e=>by subst e;rw [hG] at hj;injection hj with hj;injection hj with _ hj;cases hj
  rw [upd_miss (keep j d _ hj hji)]
  exact W.stable hj _ _ _ (I.vals j d S' hj ((other hji).1 hl)) hx
 ·intro j d o1 hj hl
  by_cases hji:j=i
  ·subst hji
   rw [hG] at hj
   injection hj with hj
   injection hj with e1 e2
   injection e2 with e2
   subst e2
   rw [e1,upd_hit]
   refine ⟨w.heap.size,rfl,I.base.size,by rw [hsz];omega,fun _=>heap_alloc_new w _,fun k S' hk hlk=>?_⟩
   exfalso
   have hki:k≠j:=fun e=>by subst e;rw [hG] at hk;injection hk with hk;injection hk with _ hk;cases hk
   have hlk':=(other hki).1 hlk
   obtain ⟨ok,hok,_,hob⟩:=W.ent hk
   obtain ⟨_,e,he,hbd,hon⟩:=(tyB_spec W.form hok).2.2 d hob.2.2.1 j o ho e1
   have:=I.closed k ok hok hlk' e he hbd
   rw [hon] at this
   exact hun this
  ·rw [upd_miss (keep j d _ hj hji)]
   obtain ⟨b,e1,e2,e3,e4,e5⟩:=I.news j d o1 hj ((other hji).1 hl)
   refine ⟨b,e1,e2,Nat.lt_of_lt_of_le e3 hb.size,fun h=>?_,fun k S' hk hlk=>?_⟩
   ·rw [hb.block b e3]
    refine e4 (fun k S' hk hlk=>h k S' hk ?_)
    rw [lst_set hi];exact .inr hlk
   ·have hki:k≠i:=fun e=>by subst e;rw [hG] at hk;injection hk with hk;injection hk with _ hk;cases hk
    obtain ⟨o',h1',h2'⟩:=e5 k S' hk ((other hki).1 hlk)
    exact ⟨o',W.stable_put hk _ _ _ h1' hx,by rw [hb.block b e3];exact h2'⟩
 ·intro j b S' hj
  have hji:j≠i:=fun e=>by subst e;rw [hG] at hj;injection hj with hj;injection hj with _ hj;cases hj
  obtain ⟨oj,_,_,hob⟩:=W.ent hj
  have hlt:b<w.heap.size:=Nat.lt_of_lt_of_le hob.2.2.2.1 I.base.size
  rw [other hji,hb.block b hlt]
  obtain ⟨e1,e2⟩:=I.olds j b S' hj
  exact ⟨e1,fun hl=>by obtain ⟨o',h1',h2'⟩:=e2 hl;exact ⟨o',W.stable_old hj _ _ _ h1' hx,h2'⟩⟩
 ·intro j j' d d' o1 o2 hj hj' hl hl' hne
  by_cases hji:j=i
  ·subst hji
   have hji' : j'≠j:=fun e=>by subst e;rw [hj] at hj';injection hj' with hj';injection hj' with e1 _;injection e1 with e1;exact hne e1
   obtain ⟨b,e1,_,e3,_⟩:=I.news j' d' o2 hj' ((other hji').1 hl')
   have hd:o.dst=some d:=by rw [hG] at hj;injection hj with hj;injection hj
   rw [upd_miss (keep j' d' _ hj' hji'),e1,hd,upd_hit]
   intro e
   injection e with e;injection e with e;injection e with e
   omega
  ·by_cases hji' : j'=i
   ·subst hji'
    obtain ⟨b,e1,_,e3,_⟩:=I.news j d o1 hj ((other hji).1 hl)
    have hd:o.dst=some d':=by rw [hG] at hj';injection hj' with hj';injection hj'
    rw [upd_miss (keep j d _ hj hji),e1,hd,upd_hit]
    intro e
    injection e with e;injection e with e;injection e with e
    omega
   ·rw [upd_miss (keep j d _ hj hji),upd_miss (keep j' d' _ hj' hji')]
    exact I.apart j j' d d' o1 o2 hj hj' ((other hji).1 hl) ((other hji').1 hl') hne
theorem upd_none {f:Tmp→Value} {v:Value}:upd f none v=f:=by funext t;simp [upd]
theorem Turned.base {b:Nat} {o' : Obj} {w' : World} (h:Turned b o' w w') (hB:Base T w0 w) (hT:w0.heap.size≤b∨b∈T):Base T w0 w':=by
 refine ⟨h.os.trans hB.os,h.tape.trans hB.tape,h.output.trans hB.output,by rw [h.size];exact hB.size,fun k hk hkT=>?_⟩
 rw [h.block k (fun e => by subst e;rcases hT with hT|hT;· omega
                            ·exact hkT hT)]
 exact hB.block k hk hkT
theorem Inv.put (I:Inv ops T w0 a0 md G listed f a w) (W:Walked P ops K T w0 a0 md G) {i:Nat} {o:Oper} {d0:Tmp} {S0:Obj→World→Prop} (ho:ops[i]?=some o) (hG:G[i]?=some ⟨o.dst,.put d0 S0⟩) (hun:¬ lst listed i)
 (hr:∀ e∈o.after,Region.binds md e=true→lst listed e.on) :
 o.dst=none∧o.guard=none∧∃ b,(∀ w' o',Turned b o' w w'→S0 o' w→Inv ops T w0 a0 md G (listed.setIfInBounds i true) f a w')∧putUpon b w S0 ((execOp a.eval o).run P w):=by
 obtain ⟨o1,ho1,hd1,hob⟩:=W.ent hG
 rw [ho] at ho1
 injection ho1 with ho1
 subst ho1
 obtain ⟨hdn,hgn,hlook,hst,o0,hmem,hex⟩:=hob
 obtain ⟨j0,hj0⟩:=List.getElem?_of_mem (List.mem_reverse.1 hmem)
 have hjG:G[j0]?=some ⟨some d0,.new o0⟩:=by
  rw [List.getElem?_take] at hj0
  split at hj0
  ·exact hj0
  ·cases hj0
 obtain ⟨oj,hoj,hdj,hobj⟩:=W.ent hjG
 obtain ⟨_,ed,hed,hbd,hon⟩:=(tyB_spec W.form ho).2.2 d0 hlook j0 oj hoj hdj.symm
 have hl0:lst listed j0:=by rw [← hon];exact hr ed hed hbd
 obtain ⟨b,e1,e2,e3,e4,_⟩:=I.news j0 d0 o0 hjG hl0
 rw [hdn] at hG
 have hblk:w.heap[b]?=some o0:=e4 (fun k S' hk hlk=>hun (by rw [W.put hG hk];exact hlk))
 have hval:a.eval (.tmp d0) = .pointer (some ⟨b,0,none⟩):=(I.hit j0 oj d0 hoj hl0 hdj.symm).trans e1
 refine ⟨hdn,hgn,b,fun w' o' ht hS=>?_,hex a w b I.base (I.known W ho hr) hval hblk⟩
 have hx:Ext K w w':=ht.ext hblk hobj.1
 obtain ⟨h1,h2,h3,hi⟩:=I.frame W ho hr undef
 rw [hdn,upd_none] at h1
 rw [hdn] at h2
 have other:∀ {j:Nat},j≠i→(lst (listed.setIfInBounds i true) j↔lst listed j):=fun h=>by
  rw [lst_set hi];exact ⟨fun h'=>h'.resolve_left h,.inr⟩
 refine ⟨by rw [Array.size_setIfInBounds];exact I.lsize,I.defers,I.tsize,h1,h2,h3,ht.base I.base (.inl e2),?_,?_,?_,?_⟩
 ·intro j d S' hj hl
  have hji:j≠i:=fun e=>by subst e;rw [hG] at hj;injection hj with hj;injection hj with _ hj;cases hj
  exact W.stable hj _ _ _ (I.vals j d S' hj ((other hji).1 hl)) hx
 ·intro j d o2 hj hl
  have hji:j≠i:=fun e=>by subst e;rw [hG] at hj;injection hj with hj;injection hj with _ hj;cases hj
  obtain ⟨b',f1,f2,f3,f4,f5⟩:=I.news j d o2 hj ((other hji).1 hl)
  by_cases hd:d=d0
  ·subst hd
   have hbb:b'=b:=by rw [e1] at f1;injection f1 with f1;injection f1 with f1;injection f1 with f1;exact f1.symm
   subst hbb
   refine ⟨b',f1,f2,by rw [ht.size];exact f3,fun h=>?_,fun k S' hk hlk=>?_⟩
   ·exact absurd ((lst_set hi).2 (.inl rfl)) (h i S0 hG)
   ·have hki:=W.put hk hG
    subst hki
    rw [hG] at hk
    injection hk with hk
    injection hk with _ hk
    injection hk with _ hk
    subst hk
    exact ⟨o',hst _ _ _ hS hx,ht.at_⟩
  ·have hne:b'≠b:=by
    have:=I.apart j j0 d d0 o2 o0 hj hjG ((other hji).1 hl) hl0 hd
    rw [f1,e1] at this
    exact fun e=>this (by rw [e])
   refine ⟨b',f1,f2,by rw [ht.size];exact f3,fun h=>?_,fun k S' hk hlk=>?_⟩
   ·rw [ht.block b' hne]
    refine f4 (fun k S' hk hlk=>h k S' hk ?_)
    rw [lst_set hi];exact .inr hlk
   ·have hki:k≠i:=fun e=>by
     subst e;rw [hG] at hk;injection hk with hk;injection hk with _ hk;injection hk with hk _;exact hd hk.symm
    obtain ⟨o'',h1',h2'⟩:=f5 k S' hk ((other hki).1 hlk)
    exact ⟨o'',W.stable_put hk _ _ _ h1' hx,by rw [ht.block b' hne];exact h2'⟩
 ·intro j b' S' hj
  have hji:j≠i:=fun e=>by subst e;rw [hG] at hj;injection hj with hj;injection hj with _ hj;cases hj
  obtain ⟨oj',_,_,hob'⟩:=W.ent hj
  have hne:b'≠b:=by have:=hob'.2.2.2.1;omega
  rw [other hji,ht.block b' hne]
  obtain ⟨g1,g2⟩:=I.olds j b' S' hj
  exact ⟨g1,fun hl=>by obtain ⟨o'',h1',h2'⟩:=g2 hl;exact ⟨o'',W.stable_old hj _ _ _ h1' hx,h2'⟩⟩
 ·intro j j' d d' o2 o3 hj hj' hl hl' hne
  have hji:j≠i:=fun e=>by subst e;rw [hG] at hj;injection hj with hj;injection hj with _ hj;cases hj
  have hji' : j'≠i:=fun e=>by subst e;rw [hG] at hj';injection hj' with hj';injection hj' with _ hj';cases hj'
  exact I.apart j j' d d' o2 o3 hj hj' ((other hji).1 hl) ((other hji').1 hl') hne
theorem Inv.old (I:Inv ops T w0 a0 md G listed f a w) (W:Walked P ops K T w0 a0 md G) {i:Nat} {o:Oper} {b:Nat} {S0:Obj→World→Prop} (ho:ops[i]?=some o) (hG:G[i]?=some ⟨o.dst,.old b S0⟩) (hun:¬ lst listed i)
 (hr:∀ e∈o.after,Region.binds md e=true→lst listed e.on) :
 o.dst=none∧o.guard=none∧(∀ w' o',Turned b o' w w'→S0 o' w→Inv ops T w0 a0 md G (listed.setIfInBounds i true) f a w')∧putUpon b w S0 ((execOp a.eval o).run P w):=by
 obtain ⟨o1,ho1,hd1,hob⟩:=W.ent hG
 rw [ho] at ho1
 injection ho1 with ho1
 subst ho1
 obtain ⟨hdn,hgn,hbT,hblt,hst,o0,hb0,hcold,hex⟩:=hob
 rw [hdn] at hG
 have hblk:w.heap[b]?=some o0:=((I.olds i b S0 hG).1 hun).trans hb0
 refine ⟨hdn,hgn,fun w' o' ht hS=>?_,hex a w I.base (I.known W ho hr) hblk⟩
 have hx:Ext K w w':=ht.ext hblk hcold
 obtain ⟨h1,h2,h3,hi⟩:=I.frame W ho hr undef
 rw [hdn,upd_none] at h1
 rw [hdn] at h2
 have other:∀ {j:Nat},j≠i→(lst (listed.setIfInBounds i true) j↔lst listed j):=fun h=>by
  rw [lst_set hi];exact ⟨fun h'=>h'.resolve_left h,.inr⟩
 refine ⟨by rw [Array.size_setIfInBounds];exact I.lsize,I.defers,I.tsize,h1,h2,h3,ht.base I.base (.inr hbT),?_,?_,?_,?_⟩
 ·intro j d S' hj hl
  have hji:j≠i:=fun e=>by subst e;rw [hG] at hj;injection hj with hj;injection hj with _ hj;cases hj
  exact W.stable hj _ _ _ (I.vals j d S' hj ((other hji).1 hl)) hx
 ·intro j d o2 hj hl
  have hji:j≠i:=fun e=>by subst e;rw [hG] at hj;injection hj with hj;injection hj with _ hj;cases hj
  obtain ⟨b',f1,f2,f3,f4,f5⟩:=I.news j d o2 hj ((other hji).1 hl)
  have hne:b'≠b:=by omega
  refine ⟨b',f1,f2,by rw [ht.size];exact f3,fun h=>?_,fun k S' hk hlk=>?_⟩
  ·rw [ht.block b' hne]
   refine f4 (fun k S' hk hlk=>h k S' hk ?_)
   rw [lst_set hi];exact .inr hlk
  ·have hki:k≠i:=fun e=>by subst e;rw [hG] at hk;injection hk with hk;injection hk with _ hk;cases hk
   obtain ⟨o'',h1',h2'⟩:=f5 k S' hk ((other hki).1 hlk)
   exact ⟨o'',W.stable_put hk _ _ _ h1' hx,by rw [ht.block b' hne];exact h2'⟩
 ·intro j b' S' hj
  have hji:=W.old hj hG
  subst hji
  rw [hG] at hj
  injection hj with hj
  injection hj with _ hj
  injection hj with hj1 hj2
  subst hj1
  subst hj2
  exact ⟨fun h=>absurd ((lst_set hi).2 (.inl rfl)) h,fun _=>⟨o',hst _ _ _ hS hx,ht.at_⟩⟩
 ·intro j j' d d' o2 o3 hj hj' hl hl' hne
  have hji:j≠i:=fun e=>by subst e;rw [hG] at hj;injection hj with hj;injection hj with _ hj;cases hj
  have hji' : j'≠i:=fun e=>by subst e;rw [hG] at hj';injection hj' with hj';injection hj' with _ hj';cases hj'
  exact I.apart j j' d d' o2 o3 hj hj' ((other hji).1 hl) ((other hji').1 hl') hne
theorem Inv.step {Q:Exit→Act→World→Prop} (I:Inv ops T w0 a0 md G listed f a w) (W:Walked P ops K T w0 a0 md G) {i:Nat} (hi:i∈Region.ready md ops listed) {N:Act→World→Prop}
 (hN:∀ f a w,Inv ops T w0 a0 md G (listed.setIfInBounds i true) f a w→N a w):wpOp P ops Q i N a w:=by
 obtain ⟨hun,o,ho,hr⟩:=mem_ready.1 hi
 have hun' : ¬ lst listed i:=fun h=>by unfold lst at h;rw [h] at hun;cases hun
 have hr' : ∀ e∈o.after,Region.binds md e=true→lst listed e.on:=fun e he hb=>by
  have:=hr e he hb
  unfold lst
  rw [Array.getD_eq_getD_getElem?] at this ⊢
  cases h:listed[e.on]? with
  | none=>rfl
  | some v=>rw [h] at this;exact this
 obtain ⟨k,hG,hob⟩:=W.each i o ho
 have hwp:∀ (hg:o.guard=none),o.wp P a w N Q→wpOp P ops Q i N a w:=fun hg h=>by
  unfold wpOp
  simp only [ho]
  rw [if_pos (by simp [Region.wanted,hg])]
  exact .inl h
 match k,hG,hob with
 | .val S,hG,hob =>
   unfold wpOp
   simp only [ho]
   rcases hob.2 a w I.base (I.known W ho hr') with ⟨hw,hu⟩|⟨hw,hu⟩
   ·rw [if_pos hw]
    refine .inl ?_
    unfold Oper.wp
    generalize (execOp a.eval o).run P w=r at *
    cases r with
    | ok n w' =>
      cases n <;> simp only [tyUpon] at hu <;> simp only [Oper.upon]
      case value u=>exact hN _ _ _ (I.val W ho hG hun' hr' hu.1 hu.2)
      case skip=>exact hN _ _ _ (I.val W ho hG hun' hr' hu.1 hu.2)
      case enter fn args =>
       obtain ⟨e1,hc⟩:=hu
       rw [e1]
       exact hc.mono fun e w'' ⟨v,he,h1,h2⟩=>by subst he;exact hN _ _ _ (I.val W ho hG hun' hr' h1 h2)
    | halt x w'=>simp only [tyUpon] at hu
   ·rw [if_neg (by rw [hw];simp)]
    exact hN _ _ _ (I.val W ho hG hun' hr' (aB _ _) hu)
 | .new o0,hG,hob =>
   refine hwp hob.2.1 ?_
   unfold Oper.wp
   rw [hob.2.2.2 a w]
   exact hN _ _ _ (I.new W ho hG hun' hr')
 | .put d S,hG,hob =>
   obtain ⟨hd,hg,b,hK,hu⟩:=I.put W ho hG hun' hr'
   refine hwp hg ?_
   unfold Oper.wp
   generalize (execOp a.eval o).run P w=r at *
   cases r with
   | ok n w' =>
     cases n <;> simp only [putUpon] at hu <;> simp only [Oper.upon,hd,Act.put]
     case value u=>obtain ⟨o',h1,h2⟩:=hu;exact hN _ _ _ (hK _ _ h1 h2)
     case skip=>obtain ⟨o',h1,h2⟩:=hu;exact hN _ _ _ (hK _ _ h1 h2)
   | halt x w'=>simp only [putUpon] at hu
 | .old b S,hG,hob =>
   obtain ⟨hd,hg,hK,hu⟩:=I.old W ho hG hun' hr'
   refine hwp hg ?_
   unfold Oper.wp
   generalize (execOp a.eval o).run P w=r at *
   cases r with
   | ok n w' =>
     cases n <;> simp only [putUpon] at hu <;> simp only [Oper.upon,hd,Act.put]
     case value u=>obtain ⟨o',h1,h2⟩:=hu;exact hN _ _ _ (hK _ _ h1 h2)
     case skip=>obtain ⟨o',h1,h2⟩:=hu;exact hN _ _ _ (hK _ _ h1 h2)
   | halt x w'=>simp only [putUpon] at hu
end
section
variable {P:Program} {ops:Array Oper} {K:Value→Bool} {T:List Nat} {w0:World} {a0:Act} {md:Region.Mode} {G:List Ent} {listed:Array Bool} {f:Tmp→Value} {a:Act} {w:World}
theorem ready_nil (hf:Region.tyB md ops a0.tmps.size=true) (hs:listed.size=ops.size) (h:Region.ready md ops listed = []):∀ i,i<ops.size→lst listed i:=by
 intro i
 induction i using Nat.strongRecOn with
 | ind i ih =>
   intro hi
   apply Classical.byContradiction
   intro hn
   have:i∈Region.ready md ops listed:=by
    rw [mem_ready]
    refine ⟨by unfold lst at hn;simpa using hn,ops[i],Array.getElem?_eq_getElem hi,fun e he hb=>?_⟩
    have hlt:=(tyB_spec hf (Array.getElem?_eq_getElem hi)).1 e he hb
    have:=ih e.on hlt (by omega)
    unfold lst at this
    rw [Array.getD_eq_getD_getElem?,Array.getElem?_eq_getElem (by omega)] at this ⊢
    exact this
   rw [h] at this
   cases this
def left (listed:Array Bool):Nat:=(listed.toList.filter (!·)).length
theorem left_set {i:Nat} (h:¬ lst listed i):left listed=left (listed.setIfInBounds i true)+1:=by
 unfold lst at h
 have hi:i<listed.size:=by
  rcases Nat.lt_or_ge i listed.size with h'|h'
  ·exact h'
  ·exact absurd (by rw [Array.getD_eq_getD_getElem?,Array.getElem?_eq_none h'];rfl) h
 have hv:listed[i]=false:=by
  rw [Array.getD_eq_getD_getElem?,Array.getElem?_eq_getElem hi] at h
  simpa using h
 unfold left
 have key:∀ (l:List Bool) (i:Nat) (h:i<l.length),l[i]=false→(l.filter (!·)).length=((l.set i true).filter (!·)).length+1:=by
  intro l
  induction l with
  | nil=>intro i h;simp at h
  | cons b l ih =>
    intro i h hb
    match i with
    | 0=>simp only [List.getElem_cons_zero] at hb;subst hb;simp
    | i+1 =>
      have:=ih i (by simpa using h) (by simpa using hb)
      rw [List.set_cons_succ]
      cases b <;> simp <;> omega
 have:=key listed.toList i (by rw [Array.length_toList];exact hi) (by rw [Array.getElem_toList];exact hv)
 rw [Array.toList_setIfInBounds]
 exact this
theorem left_zero (h:left listed=0):∀ i,lst listed i:=by
 intro i
 unfold lst
 rw [Array.getD_eq_getD_getElem?]
 cases hv:listed[i]? with
 | none=>rfl
 | some b =>
   cases b with
   | true=>rfl
   | false =>
     unfold left at h
     have:=List.length_eq_zero_iff.1 h
     rw [List.filter_eq_nil_iff] at this
     have hm:false∈listed.toList:=by
      rw [Array.mem_toList_iff]
      exact Array.mem_of_getElem? hv
     exact absurd rfl (this false hm)
theorem any_of_inv {Q:Exit→Act→World→Prop} (W:Walked P ops K T w0 a0 md G) (hQ:∀ listed f a w,(∀ i,i<ops.size→lst listed i)→Inv ops T w0 a0 md G listed f a w→Q .normal a w) :
 ∀ (n:Nat) (listed:Array Bool) (f:Tmp→Value) (a:Act) (w:World),left listed=n→Inv ops T w0 a0 md G listed f a w→wpAny P md ops Q n listed a w
 | 0,listed,f,a,w,hn,I=>by
   have hall:=left_zero hn
   refine ⟨?_,hQ _ _ _ _ (fun i _=>hall i) I⟩
   apply List.eq_nil_iff_forall_not_mem.2
   intro i hi
   have:=(mem_ready.1 hi).1
   have h2:=hall i
   unfold lst at h2
   rw [h2] at this
   cases this
 | n + 1,listed,f,a,w,hn,I =>
   ⟨fun h=>hQ _ _ _ _ (ready_nil W.form I.lsize h) I,fun i hi=>by
    refine I.step W hi (fun f' a' w' I'=>any_of_inv W hQ n _ f' a' w' ?_ I')
    have:=left_set (listed:=listed) (i:=i) (fun h=>by
     have h1:=(mem_ready.1 hi).1
     unfold lst at h
     rw [h] at h1
     cases h1)
    omega⟩
theorem frameOf_size (g:List Ent):(frameOf a0 g f).tmps.size=a0.tmps.size:=by
 induction g with
 | nil=>rfl
 | cons e g ih=>simp only [frameOf];split <;> simp [Act.put_size,ih]
theorem frameOf_defers (g:List Ent):(frameOf a0 g f).defers=a0.defers:=by
 induction g with
 | nil=>rfl
 | cons e g ih=>simp only [frameOf];split <;> simp [Act.put_defers,ih]
theorem frameOf_hit {g:List Ent} {t:Tmp} (h:∃ e∈g,e.dst=some t) (ht:t<a0.tmps.size):(frameOf a0 g f).eval (.tmp t)=f t:=by
 induction g with
 | nil=>obtain ⟨_,h,_⟩:=h;cases h
 | cons e g ih =>
   simp only [frameOf]
   by_cases hd:e.dst=some t
   ·rw [hd]
    exact Act.eval_put_hit (by rw [frameOf_size];exact ht)
   ·have hg:∃ e∈g,e.dst=some t:=by
     obtain ⟨e',he',hd'⟩:=h
     rcases List.mem_cons.1 he' with rfl|he'
     ·exact absurd hd' hd
     ·exact ⟨e',he',hd'⟩
    split
    ·rename_i d he
     rw [Act.eval_put_miss (by rw [← he];exact hd)]
     exact ih hg
    ·exact ih hg
theorem frameOf_miss {g:List Ent} {t:Tmp} (h:∀ e∈g,e.dst≠some t):(frameOf a0 g f).eval (.tmp t)=a0.eval (.tmp t):=by
 induction g with
 | nil=>rfl
 | cons e g ih =>
   simp only [frameOf]
   have hg:=ih (fun e' he'=>h e' (by simp [he']))
   split
   ·rename_i d he
    rw [Act.eval_put_miss (by rw [← he];exact h e (by simp))]
    exact hg
   ·exact hg
theorem Act.ext_eval {a b:Act} (hs:a.tmps.size=b.tmps.size) (hd:a.defers=b.defers) (h:∀ t,t<a.tmps.size→a.eval (.tmp t)=b.eval (.tmp t)):a=b:=by
 obtain ⟨x,y⟩:=a
 obtain ⟨x',y'⟩:=b
 simp only at hs hd
 subst hd
 congr 1
 apply Array.ext hs
 intro i h1 h2
 have:=h i h1
 simp only [Act.eval,Array.getD_eq_getD_getElem?,Array.getElem?_eq_getElem h1,Array.getElem?_eq_getElem h2,Option.getD_some] at this
 exact this
theorem walked_of {Q:Act→World→Prop}:∀ (rest:List Oper) (g:List Ent),wpTy P ops K T w0 a0 Q rest g→∃ H:List Ent,H.length=rest.length ∧
 (∀ (i:Nat) (o:Oper),rest[i]?=some o→∃ k,H[i]?=some ⟨o.dst,k⟩∧Oblig P ops K T w0 a0 ((H.take i).reverse++g) o k)∧wpTy P ops K T w0 a0 Q [] (H.reverse++g)
 | [],g,h=>⟨[],rfl,fun i o h'=>by simp at h',by simpa using h⟩
 | o :: rest,g,h=>by
   obtain ⟨k,hk,hr⟩:=h
   obtain ⟨H,h1,h2,h3⟩:=walked_of rest _ hr
   refine ⟨⟨o.dst,k⟩::H,by simp [h1],fun i o' h'=>?_,by simpa using h3⟩
   match i with
   | 0 =>
     simp only [List.getElem?_cons_zero,Option.some.injEq] at h'
     subst h'
     exact ⟨k,rfl,by simpa using hk⟩
   | i+1 =>
     obtain ⟨k',e1,e2⟩:=h2 i o' (by simpa using h')
     exact ⟨k',by simpa using e1,by simpa using e2⟩
theorem wp_region_ty {id:Nat} {Q:Exit→Act→World→Prop} {l:List Oper} (K:Value→Bool) (T:List Nat) (hm:P.follows .mixedOrders=true) (hf:Region.tyB .any l.toArray a0.tmps.size=true)
 (h:wpTy P l.toArray K T w0 a0 (fun a w=>Q .normal a w) l []):(Code.region id l.toArray true).wp P Q a0 w0:=by
 obtain ⟨H,h1,h2,h3⟩:=walked_of l [] h
 simp only [List.append_nil] at h2 h3
 obtain ⟨honce,hfin⟩:=h3
 have honce' : onceB H=true:=by
  simp only [onceB,Bool.and_eq_true,decide_eq_true_eq,List.filterMap_reverse,List.filter_reverse,List.length_reverse] at honce ⊢
  exact ⟨(List.reverse_perm _).nodup_iff.1 honce.1,honce.2⟩
 have W:Walked P l.toArray K T w0 a0 .any H:=⟨by simpa using h1,fun i o ho=>h2 i o (by simpa using ho),hf,honce'⟩
 refine wp_region_any hm ?_
 have hlst:∀ i,i<l.toArray.size→¬ lst (Array.replicate l.toArray.size false) i:=fun i hi h=>by
  unfold lst at h
  rw [Array.getD_eq_getD_getElem?,Array.getElem?_replicate,if_pos hi] at h
  cases h
 have hop:∀ {i:Nat} {o:Oper},l.toArray[i]?=some o→i<l.toArray.size:=fun h=>by
  rcases Nat.lt_or_ge _ l.toArray.size with h'|h'
  ·exact h'
  ·rw [Array.getElem?_eq_none h'] at h;cases h
 have hent:∀ {i:Nat} {e:Ent},H[i]?=some e→i<l.toArray.size:=fun h=>by
  obtain ⟨hlt,_⟩:=List.getElem?_eq_some_iff.1 h
  rw [← W.len];exact hlt
 refine any_of_inv W (fun listed f a w hall I=>?_) _ _ (fun _=>undef) _ _ (by simp [left]) ?_
 ·have hmem:∀ {e:Ent},e∈H.reverse→∃ i,H[i]?=some e∧lst listed i:=fun he=>by
   obtain ⟨i,hi⟩:=List.getElem?_of_mem (List.mem_reverse.1 he)
   exact ⟨i,hi,hall i (hent hi)⟩
  have hfr:a=frameOf a0 H.reverse f:=by
   refine Act.ext_eval (by rw [frameOf_size];exact I.tsize) (by rw [frameOf_defers];exact I.defers) (fun t ht=>?_)
   by_cases hd:∃ e∈H.reverse,e.dst=some t
   ·rw [frameOf_hit hd (by rw [← I.tsize];exact ht)]
    obtain ⟨e,he,hde⟩:=hd
    obtain ⟨i,hi,hl⟩:=hmem he
    obtain ⟨o,ho,hd',_⟩:=W.ent hi
    exact I.hit i o t ho hl (by rw [← hd'];exact hde)
   ·rw [frameOf_miss (fun e he hde=>hd ⟨e,he,hde⟩)]
    refine I.miss t (fun i o ho hdo=>hd ?_)
    obtain ⟨k,hk,_⟩:=W.each i o ho
    exact ⟨_,List.mem_reverse.2 (List.mem_of_getElem? hk),hdo⟩
  rw [hfr]
  refine hfin f w I.base (fun e he=>?_) (fun d d' o o' hd hd' hne=>?_)
  ·obtain ⟨i,hi,hl⟩:=hmem he
   obtain ⟨dst,kd⟩:=e
   unfold Final1
   match dst,kd,hi with
   | some d,.val S,hi=>exact I.vals i d S hi hl
   | some d,.new o0,hi =>
     obtain ⟨b,e1,e2,e3,e4,e5⟩:=I.news i d o0 hi hl
     refine ⟨b,e1,e2,e3,fun hn=>e4 (fun j S hj _=>hn S (List.mem_reverse.2 (List.mem_of_getElem? hj))),fun S hS=>?_⟩
     obtain ⟨j,hj,hlj⟩:=hmem hS
     exact e5 j S hj hlj
   | none,.old b S,hi=>exact (I.olds i b S hi).2 hl
   | some d,.old b S,hi =>
     obtain ⟨o,_,hd,hob⟩:=W.ent hi
     have:=hob.1
     rw [← hd] at this
     cases this
   | none,.val S,_=>trivial
   | none,.new o0,_=>trivial
   | none,.put d S,_=>trivial
   | some d',.put d S,_=>trivial
  ·obtain ⟨i,hi,hl⟩:=hmem hd
   obtain ⟨i',hi',hl'⟩:=hmem hd'
   exact I.apart i i' d d' o o' hi hi' hl hl' hne
 ·refine ⟨by simp,rfl,rfl,fun i o d ho hl _=>absurd hl (hlst i (hop ho)),fun _ _=>rfl,fun i o ho hl=>absurd hl (hlst i (hop ho)),⟨rfl,rfl,rfl,aR _,fun _ _ _=>rfl⟩,
   fun i d S hi hl=>absurd hl (hlst i (hent hi)),fun i d o hi hl=>absurd hl (hlst i (hent hi)),fun i b S hi=>⟨fun _=>rfl,fun hl=>absurd hl (hlst i (hent hi))⟩,
   fun i i' d d' o o' hi _ hl=>absurd hl (hlst i (hent hi))⟩
/-! ### Steps of the walk -/
variable {Q:Act→World→Prop} {o:Oper} {rest:List Oper} {g:List Ent}
theorem bI (u:Value) (hg:o.guard=none) (h:∀ A w,Base T w0 w→known a0 w0.heap.size g A w (o.looksAt ops)→(execOp A.eval o).run P w = .ok (.value u) w)
 (hr:wpTy P ops K T w0 a0 Q rest (⟨o.dst,.val (Sp.is u)⟩::g)):wpTy P ops K T w0 a0 Q (o::rest) g :=
 ⟨.val (Sp.is u),⟨Sp.is_stable K u,fun A w hB hk => .inl ⟨by simp [Region.wanted,hg],by rw [h A w hB hk];exact ⟨aB _ _,rfl⟩⟩⟩,hr⟩
theorem aF {w:World} {S:Sp} {fn:FuncId} {args:Array Value} (h:Calls P fn args w (TyPost w S)):tyUpon P w S (.ok (.enter fn args) w):=⟨rfl,h⟩
theorem iJ {w:World} {S:Sp} {u:Value} (h:S u w):tyUpon P w S (.ok (.value u) w):=⟨aB _ _,h⟩
theorem aW (t:Tmp) (S:Sp) (hop:o.op = .move (.tmp t)∨o.op = .assign (.tmp t)) (hl:o.looksAt ops = [t]) (hs:specOf a0 w0.heap.size t g=S) (hS:Stable K S) (hg:o.guard=none)
 (hr:wpTy P ops K T w0 a0 Q rest (⟨o.dst,.val S⟩::g)):wpTy P ops K T w0 a0 Q (o::rest) g:=by
 refine ⟨.val S,⟨hS,fun A w hB hk => .inl ⟨by simp [Region.wanted,hg],?_⟩⟩,hr⟩
 have hrun:(execOp A.eval o).run P w = .ok (.value (A.eval (.tmp t))) w:=by
  rcases hop with h|h <;> (simp only [execOp,h];rfl)
 rw [hrun]
 rw [hl] at hk
 refine ⟨aB _ _,?_⟩
 rw [← hs]
 exact hk.1
theorem aN (S:Sp) (hS:Stable K S) (hg:o.guard=none) (h:∀ A w,Base T w0 w→known a0 w0.heap.size g A w (o.looksAt ops)→tyUpon P w S ((execOp A.eval o).run P w))
 (hr:wpTy P ops K T w0 a0 Q rest (⟨o.dst,.val S⟩::g)):wpTy P ops K T w0 a0 Q (o::rest) g :=
 ⟨.val S,⟨hS,fun A w hB hk => .inl ⟨by simp [Region.wanted,hg],h A w hB hk⟩⟩,hr⟩
theorem yM (o0:Obj) (hc:hotObj K o0=false) (hg:o.guard=none) (hd:o.dst.isSome=true) (h:∀ (A:Act) (w:World),(execOp A.eval o).run P w = .ok (.value (.pointer (some ⟨w.heap.size,0,none⟩))) (w.alloc o0))
 (hr:wpTy P ops K T w0 a0 Q rest (⟨o.dst,.new o0⟩::g)):wpTy P ops K T w0 a0 Q (o::rest) g :=
 ⟨.new o0,⟨hc,hg,hd,h⟩,hr⟩
theorem yN (d:Tmp) (o0:Obj) (S:Obj→World→Prop) (hS:StableO K S) (hd:o.dst=none) (hg:o.guard=none) (hl:d∈o.looksAt ops) (hn:(⟨some d,.new o0⟩:Ent)∈g)
 (h:∀ (A:Act) (w:World) (b:Nat),Base T w0 w→known a0 w0.heap.size g A w (o.looksAt ops)→A.eval (.tmp d) = .pointer (some ⟨b,0,none⟩)→w.heap[b]?=some o0→putUpon b w S ((execOp A.eval o).run P w))
 (hr:wpTy P ops K T w0 a0 Q rest (⟨o.dst,.put d S⟩::g)):wpTy P ops K T w0 a0 Q (o::rest) g :=
 ⟨.put d S,⟨hd,hg,hl,hS,o0,hn,h⟩,hr⟩
theorem gM (b:Nat) (o0:Obj) (S:Obj→World→Prop) (hS:StableO K S) (hd:o.dst=none) (hg:o.guard=none) (hT:b∈T) (h0:w0.heap[b]?=some o0) (hc:hotObj K o0=false)
 (h:∀ (A:Act) (w:World),Base T w0 w→known a0 w0.heap.size g A w (o.looksAt ops)→w.heap[b]?=some o0→putUpon b w S ((execOp A.eval o).run P w))
 (hr:wpTy P ops K T w0 a0 Q rest (⟨o.dst,.old b S⟩::g)):wpTy P ops K T w0 a0 Q (o::rest) g :=
 ⟨.old b S,⟨hd,hg,hT,lt_of_block h0,hS,o0,h0,hc,h⟩,hr⟩
end
end
namespace Ab
open Go.RowKit
def kT (Kc:Value→Bool) (Ty:List TypeId):Obj→Bool
 | .cells cs T _=>cs.any Kc || Ty.contains T
 | _=>true
theorem Ext.down {Kc:Value→Bool} {Ty:List TypeId} {w w' : World} (h:Ext (kT Kc Ty) w w'):Go.Proofs.YtpjknnddanhgkaaGreatDoor.Ext Kc w w':=by
 refine ⟨h.size,fun g o hg ho=>h.block g o hg ?_⟩
 cases o <;> simp_all [Go.Proofs.YtpjknnddanhgkaaGreatDoor.hotObj,hotObj,kT]
structure CS (Kc:Value→Bool) where
 size:Nat
 cold:Bool
 pred:List Value→World→Prop
 stable:∀ cs w w',pred cs w→Go.Proofs.YtpjknnddanhgkaaGreatDoor.Ext Kc w w'→pred cs w'
 len:∀ cs w,pred cs w→cs.length=size
 one:∀ cs w,pred cs w→∀ c∈cs,c.oneCell'=true
 iscold:cold=true→∀ cs w,pred cs w→∀ c∈cs,Kc c=false
variable {Kc:Value→Bool}
inductive Seg (Kc:Value→Bool) where
 | lit (v:Value)
 | ptr (k off:Nat)
 | slc (k off n c:Nat)
 | sp (s:CS Kc)
def Seg.size:Seg Kc→Nat
 | .sp s=>s.size
 | _=>1
def Seg.cold:Seg Kc→Bool
 | .lit v => !Kc v
 | .sp s=>s.cold
 | _=>true
def Seg.holds (β:List Nat):Seg Kc→List Value→World→Prop
 | .lit v,cs,_=>cs = [v]∧v.oneCell'=true
 | .ptr k off,cs,_ => ∃ g,β[k]?=some g∧cs = [.pointer (some ⟨g,off,none⟩)]
 | .slc k off n c,cs,_ => ∃ g,β[k]?=some g∧cs = [.slice (some ⟨g,off,none⟩) n c]
 | .sp s,cs,w=>s.pred cs w
def holdsL (β:List Nat):List (Seg Kc)→List Value→World→Prop
 | [],cs,_=>cs = []
 | s::l,cs,w => ∃ a b,cs=a++b∧s.holds β a w∧holdsL β l b w
def gK:List (Seg Kc)→Nat
 | []=>0
 | s::l=>s.size+gK l
structure KOk (Kc:Value→Bool):Prop where
 ptr:∀ a,Kc (.pointer a)=false
 slc:∀ a n c,Kc (.slice a n c)=false
theorem Seg.len {β:List Nat} {s:Seg Kc} {cs:List Value} {w:World} (h:s.holds β cs w):cs.length=s.size:=by
 cases s with
 | lit v=>rw [h.1];rfl
 | ptr k off=>obtain ⟨g,_,e⟩:=h;rw [e];rfl
 | slc k off n c=>obtain ⟨g,_,e⟩:=h;rw [e];rfl
 | sp s=>exact s.len _ _ h
theorem Seg.one {β:List Nat} {s:Seg Kc} {cs:List Value} {w:World} (h:s.holds β cs w):∀ c∈cs,c.oneCell'=true:=by
 cases s with
 | lit v=>obtain ⟨rfl,h⟩:=h;intro c hc;rw [List.mem_singleton] at hc;subst hc;exact h
 | ptr k off=>obtain ⟨g,_,e⟩:=h;subst e;intro c hc;rw [List.mem_singleton] at hc;subst hc;rfl
 | slc k off n c=>obtain ⟨g,_,e⟩:=h;subst e;intro c hc;rw [List.mem_singleton] at hc;subst hc;rfl
 | sp s=>exact s.one _ _ h
theorem Seg.iscold (hK:KOk Kc) {β:List Nat} {s:Seg Kc} {cs:List Value} {w:World} (h:s.holds β cs w) (hc:s.cold=true):∀ c∈cs,Kc c=false:=by
 cases s with
 | lit v=>obtain ⟨rfl,_⟩:=h;intro c hm;rw [List.mem_singleton] at hm;subst hm;simpa [Seg.cold] using hc
 | ptr k off=>obtain ⟨g,_,e⟩:=h;subst e;intro c hm;rw [List.mem_singleton] at hm;subst hm;exact hK.ptr _
 | slc k off n c=>obtain ⟨g,_,e⟩:=h;subst e;intro c hm;rw [List.mem_singleton] at hm;subst hm;exact hK.slc _ _ _
 | sp s=>exact s.iscold hc _ _ h
theorem Seg.ext {β:List Nat} {s:Seg Kc} {cs:List Value} {w w' : World} (h:s.holds β cs w) (hx:Go.Proofs.YtpjknnddanhgkaaGreatDoor.Ext Kc w w'):s.holds β cs w':=by
 cases s with
 | sp s=>exact s.stable _ _ _ h hx
 | _=>exact h
theorem Seg.more {β γ:List Nat} {s:Seg Kc} {cs:List Value} {w:World} (h:s.holds β cs w):s.holds (β++γ) cs w:=by
 have key:∀ {k g:Nat},β[k]?=some g→(β++γ)[k]?=some g:=fun h=>by
  rw [List.getElem?_append_left (List.getElem?_eq_some_iff.1 h).1];exact h
 cases s with
 | lit v=>exact h
 | ptr k off=>obtain ⟨g,h1,e⟩:=h;exact ⟨g,key h1,e⟩
 | slc k off n c=>obtain ⟨g,h1,e⟩:=h;exact ⟨g,key h1,e⟩
 | sp s=>exact h
theorem holdsL.len {β:List Nat}:∀ {l:List (Seg Kc)} {cs:List Value} {w:World},holdsL β l cs w→cs.length=gK l
 | [],_,_,h=>by rw [h];rfl
 | s::l,_,_,⟨a,b,e,h1,h2⟩=>by rw [e,List.length_append,Seg.len h1,holdsL.len h2];rfl
theorem holdsL.one {β:List Nat}:∀ {l:List (Seg Kc)} {cs:List Value} {w:World},holdsL β l cs w→∀ c∈cs,c.oneCell'=true
 | [],_,_,h=>by rw [h];intro c hc;cases hc
 | s::l,_,_,⟨a,b,e,h1,h2⟩=>by
   subst e
   intro c hc
   rcases List.mem_append.1 hc with hc|hc
   ·exact Seg.one h1 c hc
   ·exact holdsL.one h2 c hc
theorem holdsL.iscold (hK:KOk Kc) {β:List Nat}:∀ {l:List (Seg Kc)} {cs:List Value} {w:World},holdsL β l cs w→l.all Seg.cold=true→∀ c∈cs,Kc c=false
 | [],_,_,h,_=>by rw [h];intro c hc;cases hc
 | s::l,_,_,⟨a,b,e,h1,h2⟩,hc=>by
   subst e
   rw [List.all_cons,Bool.and_eq_true] at hc
   intro c hm
   rcases List.mem_append.1 hm with hm|hm
   ·exact Seg.iscold hK h1 hc.1 c hm
   ·exact holdsL.iscold hK h2 hc.2 c hm
theorem holdsL.ext {β:List Nat}:∀ {l:List (Seg Kc)} {cs:List Value} {w w' : World},holdsL β l cs w→Go.Proofs.YtpjknnddanhgkaaGreatDoor.Ext Kc w w'→holdsL β l cs w'
 | [],_,_,_,h,_=>h
 | _::_,_,_,_,⟨a,b,e,h1,h2⟩,hx=>⟨a,b,e,Seg.ext h1 hx,holdsL.ext h2 hx⟩
theorem holdsL.more {β γ:List Nat}:∀ {l:List (Seg Kc)} {cs:List Value} {w:World},holdsL β l cs w→holdsL (β++γ) l cs w
 | [],_,_,h=>h
 | _::_,_,_,⟨a,b,e,h1,h2⟩=>⟨a,b,e,Seg.more h1,holdsL.more h2⟩
theorem holdsL.append {β:List Nat}:∀ {l l' : List (Seg Kc)} {cs cs' : List Value} {w:World},holdsL β l cs w→holdsL β l' cs' w→holdsL β (l++l') (cs++cs') w
 | [],_,_,_,_,h,h'=>by rw [h];exact h'
 | _::_,_,_,cs',_,⟨a,b,e,h1,h2⟩,h'=>⟨a,b++cs',by rw [e,List.append_assoc],h1,holdsL.append h2 h'⟩
theorem holdsL.single {β:List Nat} {s:Seg Kc} {c:Value} {w:World} (h:s.holds β [c] w):holdsL β [s] [c] w:=⟨[c],[],rfl,h,rfl⟩
theorem holdsL.lits {β:List Nat} {w:World}:∀ {cs:List Value},cs.all (·.oneCell')=true→holdsL β (cs.map (Seg.lit (Kc:=Kc))) cs w
 | [],_=>rfl
 | c::cs,h=>by
   rw [List.all_cons,Bool.and_eq_true] at h
   exact ⟨[c],cs,rfl,⟨rfl,h.1⟩,holdsL.lits h.2⟩
def cut:List (Seg Kc)→Nat→Nat→Option (List (Seg Kc))
 | _,0,0=>some []
 | [],_,_=>none
 | s::l,0,n+1=>if s.size≤n+1 then (cut l 0 (n+1-s.size)).map (s :: ·) else none
 | s::l,off+1,n=>if s.size≤off+1 then cut l (off+1-s.size) n else none
theorem iQ {β:List Nat}:∀ {l:List (Seg Kc)} {off n:Nat} {l' : List (Seg Kc)} {cs:List Value} {w:World},cut l off n=some l'→holdsL β l cs w →
 holdsL β l' ((cs.drop off).take n) w∧off+n≤cs.length
 | l,0,0,l',cs,w,hc,h=>by
   have:l' = []:=by cases l <;> simp [cut] at hc <;> exact hc
   subst this
   exact ⟨by simp [holdsL],by omega⟩
 | [],0,n+1,_,_,_,hc,_=>by simp [cut] at hc
 | [],off+1,n,_,_,_,hc,_=>by simp [cut] at hc
 | s :: l,0,n+1,l',cs,w,hc,⟨a,b,e,h1,h2⟩=>by
   simp only [cut] at hc
   split at hc
   ·rename_i hle
    rw [Option.map_eq_some_iff] at hc
    obtain ⟨l2,hc,rfl⟩:=hc
    obtain ⟨h3,h4⟩:=iQ hc h2
    have hl:=Seg.len h1
    subst e
    simp only [List.drop_zero,List.length_append] at *
    refine ⟨⟨a,b.take (n+1-s.size),?_,h1,h3⟩,by omega⟩
    rw [List.take_append,hl,List.take_of_length_le (by omega)]
   ·cases hc
 | s :: l,off+1,n,l',cs,w,hc,⟨a,b,e,h1,h2⟩=>by
   simp only [cut] at hc
   split at hc
   ·rename_i hle
    obtain ⟨h3,h4⟩:=iQ hc h2
    have hl:=Seg.len h1
    subst e
    simp only [List.length_append] at *
    refine ⟨?_,by omega⟩
    rw [List.drop_append,hl,List.drop_of_length_le (by omega),List.nil_append]
    exact h3
   ·cases hc
def wI (l:List (Seg Kc)) (off:Nat) (m:List (Seg Kc)):Option (List (Seg Kc)) :=
 match cut l 0 off,cut l (off+gK m) (gK l-(off+gK m)) with
 | some a,some b=>if off+gK m≤gK l then some (a++m++b) else none
 | _,_=>none
theorem lY {β:List Nat} {l m l' : List (Seg Kc)} {off:Nat} {cs ds:List Value} {w:World} (hr:wI l off m=some l') (h:holdsL β l cs w) (h' : holdsL β m ds w) :
 holdsL β l' (cs.take off++ds++cs.drop (off+ds.length)) w∧off+ds.length≤cs.length:=by
 unfold wI at hr
 split at hr
 ·rename_i a b ha hb
  split at hr
  ·rename_i hle
   injection hr with hr
   subst hr
   have h1:=(iQ ha h).1
   have h2:=(iQ hb h).1
   have hl:=holdsL.len h
   have hm:=holdsL.len h'
   rw [List.drop_zero] at h1
   rw [← hm,← hl] at h2
   rw [List.take_of_length_le (by rw [List.length_drop];omega)] at h2
   exact ⟨holdsL.append (holdsL.append h1 h') h2,by omega⟩
  ·cases hr
 ·cases hr
inductive FV (Kc:Value→Bool) where
 | clo (F:FuncId) (first cap:List (Bool×List (Seg Kc)))
 | sc (s:Seg Kc)
 | ag (l:List (Seg Kc))
 | nsl (n:Nat) (T:TypeId) (l:List (Seg Kc))
 | un
def caHolds (β:List Nat):Bool×List (Seg Kc)→Value→World→Prop
 | (true,l),v,w => ∃ cs,v = .agg cs.toArray∧holdsL β l cs w
 | (false,l),v,w=>holdsL β l [v] w
def holdsC (β:List Nat):List (Bool×List (Seg Kc))→List Value→World→Prop
 | [],vs,_=>vs = []
 | c::l,vs,w => ∃ v r,vs=v::r∧caHolds β c v w∧holdsC β l r w
theorem caHolds.ext {β:List Nat} {c:Bool×List (Seg Kc)} {v:Value} {w w' : World} (h:caHolds β c v w) (hx:Go.Proofs.YtpjknnddanhgkaaGreatDoor.Ext Kc w w'):caHolds β c v w':=by
 obtain ⟨b,l⟩:=c
 cases b with
 | true=>obtain ⟨cs,e,h⟩:=h;exact ⟨cs,e,h.ext hx⟩
 | false=>exact holdsL.ext h hx
theorem caHolds.more {β γ:List Nat} {c:Bool×List (Seg Kc)} {v:Value} {w:World} (h:caHolds β c v w):caHolds (β++γ) c v w:=by
 obtain ⟨b,l⟩:=c
 cases b with
 | true=>obtain ⟨cs,e,h⟩:=h;exact ⟨cs,e,h.more⟩
 | false=>exact holdsL.more h
theorem holdsC.ext {β:List Nat}:∀ {l:List (Bool×List (Seg Kc))} {vs:List Value} {w w' : World},holdsC β l vs w→Go.Proofs.YtpjknnddanhgkaaGreatDoor.Ext Kc w w'→holdsC β l vs w'
 | [],_,_,_,h,_=>h
 | _::_,_,_,_,⟨v,r,e,h1,h2⟩,hx=>⟨v,r,e,caHolds.ext h1 hx,holdsC.ext h2 hx⟩
theorem holdsC.more {β γ:List Nat}:∀ {l:List (Bool×List (Seg Kc))} {vs:List Value} {w:World},holdsC β l vs w→holdsC (β++γ) l vs w
 | [],_,_,h=>h
 | _::_,_,_,⟨v,r,e,h1,h2⟩=>⟨v,r,e,caHolds.more h1,holdsC.more h2⟩
def FV.holds (β:List Nat):FV Kc→Value→World→Prop
 | .clo F a b,v,w => ∃ xs ys:List Value,v = .func (.func F) xs.toArray ys.toArray∧holdsC β a xs w∧holdsC β b ys w
 | .sc s,v,w=>s.holds β [v] w
 | .ag l,v,w => ∃ cs,v = .agg cs.toArray∧holdsL β l cs w
 | .nsl n T l,v,w => ∃ g cs,v = .slice (some ⟨g,0,none⟩) n n∧w.heap[g]?=some (.cells cs.toArray T (0,0))∧holdsL β l cs w
 | .un,_,_=>True
def FV.okT (Ty:List TypeId):FV Kc→Bool
 | .nsl _ T _=>Ty.contains T
 | _=>true
inductive AV (Kc:Value→Bool) where
 | fv (f:FV Kc)
 | tup (l:List (FV Kc))
def holdsF (β:List Nat):List (FV Kc)→List Value→World→Prop
 | [],vs,_=>vs = []
 | f::l,vs,w => ∃ v r,vs=v::r∧f.holds β v w∧holdsF β l r w
def AV.holds (β:List Nat):AV Kc→Value→World→Prop
 | .fv f,v,w=>f.holds β v w
 | .tup l,v,w => ∃ vs,v = .tuple vs.toArray∧holdsF β l vs w
def AV.okT (Ty:List TypeId):AV Kc→Bool
 | .fv f=>f.okT Ty
 | .tup l=>l.all (FV.okT Ty)
abbrev AV.un:AV Kc := .fv .un
theorem FV.ext {Ty:List TypeId} {β:List Nat} {f:FV Kc} {v:Value} {w w' : World} (h:f.holds β v w) (hx:Ext (kT Kc Ty) w w') (ht:f.okT Ty=true):f.holds β v w':=by
 cases f with
 | clo F a b=>obtain ⟨xs,ys,e,h1,h2⟩:=h;exact ⟨xs,ys,e,h1.ext hx.down,h2.ext hx.down⟩
 | sc s=>exact Seg.ext h hx.down
 | ag l=>obtain ⟨cs,e,h⟩:=h;exact ⟨cs,e,h.ext hx.down⟩
 | nsl n T l=>obtain ⟨g,cs,e,hg,h⟩:=h;exact ⟨g,cs,e,hx.block g _ hg (by simp [hotObj,kT];exact .inr (by simpa [FV.okT] using ht)),h.ext hx.down⟩
 | un=>trivial
theorem FV.below {β:List Nat} {f:FV Kc} {v:Value} {w w' : World} (h:f.holds β v w) (hb:Below w.heap.size w w'):f.holds β v w':=by
 cases f with
 | clo F a b=>obtain ⟨xs,ys,e,h1,h2⟩:=h;exact ⟨xs,ys,e,h1.ext (Go.Proofs.YtpjknnddanhgkaaGreatDoor.Ext.of_below hb),h2.ext (Go.Proofs.YtpjknnddanhgkaaGreatDoor.Ext.of_below hb)⟩
 | sc s=>exact Seg.ext h (Go.Proofs.YtpjknnddanhgkaaGreatDoor.Ext.of_below hb)
 | ag l=>obtain ⟨cs,e,h⟩:=h;exact ⟨cs,e,h.ext (Go.Proofs.YtpjknnddanhgkaaGreatDoor.Ext.of_below hb)⟩
 | nsl n T l=>obtain ⟨g,cs,e,hg,h⟩:=h;exact ⟨g,cs,e,(hb.block g (lt_of_block hg)).trans hg,h.ext (Go.Proofs.YtpjknnddanhgkaaGreatDoor.Ext.of_below hb)⟩
 | un=>trivial
theorem FV.more {β γ:List Nat} {f:FV Kc} {v:Value} {w:World} (h:f.holds β v w):f.holds (β++γ) v w:=by
 cases f with
 | clo F a b=>obtain ⟨xs,ys,e,h1,h2⟩:=h;exact ⟨xs,ys,e,h1.more,h2.more⟩
 | sc s=>exact Seg.more h
 | ag l=>obtain ⟨cs,e,h⟩:=h;exact ⟨cs,e,h.more⟩
 | nsl n T l=>obtain ⟨g,cs,e,hg,h⟩:=h;exact ⟨g,cs,e,hg,h.more⟩
 | un=>trivial
theorem holdsF.ext {Ty:List TypeId} {β:List Nat}:∀ {l:List (FV Kc)} {vs:List Value} {w w' : World},holdsF β l vs w→Ext (kT Kc Ty) w w'→l.all (FV.okT Ty)=true→holdsF β l vs w'
 | [],_,_,_,h,_,_=>h
 | _::_,_,_,_,⟨v,r,e,h1,h2⟩,hx,ht=>by
   rw [List.all_cons,Bool.and_eq_true] at ht
   exact ⟨v,r,e,FV.ext h1 hx ht.1,holdsF.ext h2 hx ht.2⟩
theorem holdsF.below {β:List Nat}:∀ {l:List (FV Kc)} {vs:List Value} {w w' : World},holdsF β l vs w→Below w.heap.size w w'→holdsF β l vs w'
 | [],_,_,_,h,_=>h
 | _::_,_,_,_,⟨v,r,e,h1,h2⟩,hb=>⟨v,r,e,FV.below h1 hb,holdsF.below h2 hb⟩
theorem holdsF.more {β γ:List Nat}:∀ {l:List (FV Kc)} {vs:List Value} {w:World},holdsF β l vs w→holdsF (β++γ) l vs w
 | [],_,_,h=>h
 | _::_,_,_,⟨v,r,e,h1,h2⟩=>⟨v,r,e,FV.more h1,holdsF.more h2⟩
theorem holdsF.get {β:List Nat}:∀ {l:List (FV Kc)} {vs:List Value} {w:World} {i:Nat} {f:FV Kc},holdsF β l vs w→l[i]?=some f→∃ v,vs[i]?=some v∧f.holds β v w
 | [],_,_,_,_,_,hi=>by simp at hi
 | _::_,_,_,0,_,⟨v,r,e,h1,h2⟩,hi=>by
   simp only [List.getElem?_cons_zero,Option.some.injEq] at hi
   subst hi
   exact ⟨v,by rw [e];rfl,h1⟩
 | _::_,_,_,i+1,_,⟨v,r,e,h1,h2⟩,hi=>by
   obtain ⟨v',h3,h4⟩:=holdsF.get h2 (by simpa using hi)
   exact ⟨v',by rw [e];simpa using h3,h4⟩
theorem AV.ext {Ty:List TypeId} {β:List Nat} {x:AV Kc} {v:Value} {w w' : World} (h:x.holds β v w) (hx:Ext (kT Kc Ty) w w') (ht:x.okT Ty=true):x.holds β v w':=by
 cases x with
 | fv f=>exact FV.ext h hx ht
 | tup l=>obtain ⟨vs,e,h⟩:=h;exact ⟨vs,e,h.ext hx ht⟩
theorem AV.below {β:List Nat} {x:AV Kc} {v:Value} {w w' : World} (h:x.holds β v w) (hb:Below w.heap.size w w'):x.holds β v w':=by
 cases x with
 | fv f=>exact FV.below h hb
 | tup l=>obtain ⟨vs,e,h⟩:=h;exact ⟨vs,e,h.below hb⟩
theorem AV.more {β γ:List Nat} {x:AV Kc} {v:Value} {w:World} (h:x.holds β v w):x.holds (β++γ) v w:=by
 cases x with
 | fv f=>exact FV.more h
 | tup l=>obtain ⟨vs,e,h⟩:=h;exact ⟨vs,e,h.more⟩
def holdsA (β:List Nat):List (AV Kc)→List Value→World→Prop
 | [],vs,_=>vs = []
 | x::l,vs,w => ∃ v r,vs=v::r∧x.holds β v w∧holdsA β l r w
end Ab
namespace Ab
open Go.RowKit
variable {Kc:Value→Bool}
def evalP (P:Program) {α:Type}:Sem α→Option α
 | .pure a=>some a
 | .program k=>evalP P (k P)
 | _=>none
theorem bL {P:Program} {α:Type}:∀ {s:Sem α} {a:α},evalP P s=some a→∀ w,s.run P w = .ok a w
 | .pure _,_,h,w=>by injection h with h;subst h;rfl
 | .program k,_,h,w=>by
   have:(Sem.program k).run P w=(k P).run P w:=rfl
   rw [this]
   exact bL (s:=k P) h w
 | .load ..,_,h,_ | .store ..,_,h,_ | .new ..,_,h,_ | .shape ..,_,h,_ | .freeze ..,_,h,_ | .frozen ..,_,h,_ | .getObj ..,_,h,_ | .setObj ..,_,h,_ | .choose ..,_,h,_ | .sys ..,_,h,_ | .mark ..,_,h,_ | .halt ..,_,h,_=>by cases h
inductive OR (Kc:Value→Bool) where
 | val (x:AV Kc)
 | new (T:TypeId) (l:List (Seg Kc))
 | nsl (n:Nat) (T:TypeId) (l:List (Seg Kc))
 | put (k off:Nat) (l:List (Seg Kc))
 | call (f:FuncId) (args:List (AV Kc))
 | stop
def rowB (P:Program) (t:TypeId):Option Bool:=(P.underlying t).map TypeDesc.isRow
def fV (P:Program) (t:TypeId):Option Nat:=(P.info? t).map (·.size)
def uG:List (Seg Kc)→Option (List Value)
 | []=>some []
 | .lit v::l=>(uG l).map (v :: ·)
 | _=>none
def sT:AV Kc→Option Value
 | .fv (.sc (.lit v))=>some v
 | .fv (.ag l)=>(uG l).map fun cs => .agg cs.toArray
 | _=>none
def mY:Value→AV Kc
 | .agg cs=>if cs.toList.all (·.oneCell') then .fv (.ag (cs.toList.map .lit)) else .un
 | .tuple _ => .un
 | v => .fv (.sc (.lit v))
theorem lZ {β:List Nat} {w:World}:∀ {l:List (Seg Kc)} {vs cs:List Value},uG l=some vs→holdsL β l cs w→cs=vs
 | [],_,_,h,h'=>by injection h with h;rw [h',h]
 | .lit v::l,_,_,h,⟨a,b,e,h1,h2⟩=>by
   simp only [uG,Option.map_eq_some_iff] at h
   obtain ⟨r,hr,rfl⟩:=h
   rw [e,h1.1,lZ hr h2];rfl
 | .ptr .. :: _,_,_,h,_ | .slc .. :: _,_,_,h,_ | .sp _::_,_,_,h,_=>by cases h
theorem fR {β:List Nat} {w:World} {x:AV Kc} {u v:Value} (h:sT x=some u) (hv:x.holds β v w):v=u:=by
 cases x with
 | tup l=>cases h
 | fv f =>
   cases f with
   | sc s =>
     cases s with
     | lit c=>injection h with h;subst h;have:=hv.1;injection this
     | _=>cases h
   | ag l =>
     simp only [sT,Option.map_eq_some_iff] at h
     obtain ⟨cs,hc,rfl⟩:=h
     obtain ⟨ds,rfl,hd⟩:=hv
     rw [lZ hc hd]
   | _=>cases h
theorem fW {β:List Nat} {w:World} (v:Value):(mY v:AV Kc).holds β v w:=by
 unfold mY
 split
 ·split
  ·rename_i h
   exact ⟨_,rfl,holdsL.lits h⟩
  ·trivial
 ·trivial
 ·rename_i h1 h2
  refine ⟨rfl,?_⟩
  cases v <;> simp_all [Value.oneCell']
def mV (P:Program) (T:TypeId) (l:List (Seg Kc)) (off:Nat):OR Kc :=
 match fV P T with
 | some n=>match cut l off n with
   | some m=>match rowB P T,m with
     | some true,m => .val (.fv (.ag m))
     | some false,[s]=>if n==1 then .val (.fv (.sc s)) else .stop
     | _,_ => .stop
   | none => .stop
 | none => .stop
def uH (place:Nat→Option (Nat×Nat)):List (Nat×AV Kc)→List (Seg Kc)→Option (List (Seg Kc))
 | [],l=>some l
 | (i,x)::r,l=>match place i,x with
   | some (off,n),.fv (.sc s)=>if n==1&&s.size==1 then (wI l off [s]).bind (uH place r) else none
   | some (off,n),.fv (.ag m)=>if gK m==n then (wI l off m).bind (uH place r) else none
   | _,_=>none
def rK (P:Program) (T:TypeId):Option (List (Seg Kc)) :=
 match (P.info? T).bind (·.zero) with
 | some z=>if z.cells.toList.all (·.oneCell') then some (z.cells.toList.map .lit) else none
 | none=>none
def zerosN (z:Value) (k:Nat):List Value:=(List.range k).map fun i=>z.cells[i%z.cells.size]!
def placesA (P:Program) (fs:Array Field):Option (List (Nat×Nat)) :=
 fs.toList.mapM fun f=>(P.info? f.type).map fun i=>(f.offset,i.size)
def caA:Bool×List (Seg Kc)→AV Kc
 | (true,l) => .fv (.ag l)
 | (false,[s]) => .fv (.sc s)
 | _ => .un
def toCA:List (AV Kc)→Option (List (Bool×List (Seg Kc)))
 | []=>some []
 | .fv (.sc s)::l=>(toCA l).map ((false,[s]) :: ·)
 | .fv (.ag m)::l=>(toCA l).map ((true,m) :: ·)
 | _=>none
def litsA:List (AV Kc)→Option (List Value)
 | []=>some []
 | x::l=>match sT x,litsA l with|some v,some r=>some (v::r)|_,_=>none
def iK (P:Program) (s:Sem Value):OR Kc:=match evalP P s with|some v => .val (mY v)|none => .stop
variable (P:Program) (ev:Operand→AV Kc) (bl:List (Option (TypeId×List (Seg Kc))))
def opA (o:Oper):OR Kc :=
 match o.op with
 | .move x | .assign x => .val (ev x)
 | .pick c a b=>match ev c with
   | .fv (.sc (.lit (.bool t))) => .val (if t then ev a else ev b)
   | _ => .stop
 | .alloc T=>match rK P T with|some l => .new T l|none => .stop
 | .box T x=>match ev x with | .fv (.sc s) => .new T [s] | .fv (.ag l) => .new T l|_ => .stop
 | .load T x=>match ev x with
   | .fv (.sc (.ptr k off))=>match bl[k]? with|some (some (_,l))=>mV P T l off|_ => .stop
   | _ => .stop
 | .store T x y=>match ev x,ev y,fV P T with
   | .fv (.sc (.ptr k off)),.fv (.sc s),some n=>if n==1&&s.size==1 then .put k off [s] else .stop
   | .fv (.sc (.ptr k off)),.fv (.ag m),some n=>if gK m==n then .put k off m else .stop
   | _,_,_ => .stop
 | .fieldAddr T x i=>match ev x,P.underlying T with
   | .fv (.sc (.ptr k off)),some (.struct fs)=>match fs[i]? with
     | some f=>match fV P f.type with|some (_+1) => .val (.fv (.sc (.ptr k (off+f.offset))))|_ => .stop
     | none => .stop
   | _,_ => .stop
 | .field T x i=>match ev x,P.underlying T with
   | .fv (.ag l),some (.struct fs)=>match fs[i]? with|some f=>mV P f.type l f.offset|none => .stop
   | _,_ => .stop
 | .indexAddr T x ix=>match ev x,ev ix,P.underlying T with
   | .fv (.sc (.ptr k off)),.fv (.sc (.lit (.int _ i))),some (.array len e)=>if 0≤i∧i<len then match fV P e with|some n => .val (.fv (.sc (.ptr k (off+i.toNat*n))))|none => .stop else .stop
   | .fv (.sc (.slc k off n _)),.fv (.sc (.lit (.int _ i))),some (.slice e)=>if 0≤i∧i<n then match fV P e with|some m => .val (.fv (.sc (.ptr k (off+i.toNat*m))))|none => .stop else .stop
   | _,_,_ => .stop
 | .index T x ix=>match ev x,ev ix,P.underlying T with
   | .fv (.ag l),.fv (.sc (.lit (.int _ i))),some (.array len e)=>if 0≤i∧i<len then match fV P e with|some n=>mV P e l (i.toNat*n)|none => .stop else .stop
   | _,_,_ => .stop
 | .nilCheck x=>match ev x with | .fv (.sc (.ptr k off)) => .val (.fv (.sc (.ptr k off)))|_ => .stop
 | .extract x i=>match ev x with
   | .tup l=>match l[i]? with|some f => .val (.fv f)|none => .stop
   | _ => .stop
 | .build T parts=>match rK P T,P.underlying T with
   | some z,some (.struct fs)=>match placesA P fs with
     | some pl=>match uH (fun i=>pl[i]?) (parts.toList.map fun p=>(p.1,ev p.2)) z with|some l => .val (.fv (.ag l))|none => .stop
     | none => .stop
   | some z,some (.array _ e)=>match fV P e with
     | some n=>match uH (fun i=>some (i*n,n)) (parts.toList.map fun p=>(p.1,ev p.2)) z with|some l => .val (.fv (.ag l))|none => .stop
     | none => .stop
   | _,_ => .stop
 | .buildSlice T len parts=>match P.underlying T with
   | some (.slice e)=>match fV P e,(P.info? e).bind (·.zero) with
     | some n,some z=>if 0<n∧0<len∧len*n≤16777216∧(zerosN z (len*n)).all (·.oneCell')=true then match uH (fun i=>some (i*n,n)) (parts.toList.map fun p=>(p.1,ev p.2)) ((zerosN z (len*n)).map .lit) with|some l => .nsl len e l|none => .stop else .stop
     | _,_ => .stop
   | _ => .stop
 | .slice T x none none none=>match ev x,P.underlying T with
   | .fv (.sc (.ptr k off)),some (.array n e)=>match fV P e with|some _ => .val (.fv (.sc (.slc k off n n)))|none => .stop
   | _,_ => .stop
 | .binOp op T x y _=>match sT (ev x),sT (ev y) with
   | some a,some b=>iK P (do eqGuard op T x y a b;binOp op T a b)
   | _,_ => .stop
 | .makeFunc (.func F) first cap=>match toCA (first.toList.map ev),toCA (cap.toList.map ev) with
   | some a,some b => .val (.fv (.clo F a b))
   | _,_ => .stop
 | .unOp op _ x=>match sT (ev x) with|some a=>iK P (Op.unary op a)|none => .stop
 | .convert s d x=>match sT (ev x) with|some a=>iK P (convert s d a)|none => .stop
 | .call c=>match c.callee with
   | .value f=>match sT (ev f),ev f with
     | some (.func (.func g) a b),_ => .call g (a.toList.map mY++c.args.toList.map ev++b.toList.map mY)
     | none,.fv (.clo g a b) => .call g (a.map caA++c.args.toList.map ev++b.map caA)
     | _,_ => .stop
   | .builtin .len=>match c.argTypes[0]?,c.args.toList with
     | some T,[x]=>match P.underlying T,ev x with
       | some (.slice _),.fv (.sc (.slc _ _ n _)) => .val (.fv (.sc (.lit (.int .i64 n))))
       | _,_ => .stop
     | _,_ => .stop
   | .builtin b=>match litsA (c.args.toList.map ev) with
     | some vs=>match evalP P (builtin b c.argTypes o.type (c.args.map fun | .const _=>true|_=>false) vs.toArray) with
       | some (.value v) => .val (mY v)
       | _ => .stop
     | none => .stop
   | _ => .stop
 | _ => .stop
end Ab
namespace Ab
open Go.RowKit
variable {Kc:Value→Bool} {P:Program} {ev:Operand→AV Kc} {bl:List (Option (TypeId×List (Seg Kc)))} {β:List Nat} {w:World} {ρ:Operand→Value} {o:Oper} {x:AV Kc}
def Mem (β:List Nat) (bl:List (Option (TypeId×List (Seg Kc)))) (w:World):Prop :=
 ∀ (k:Nat) T l,bl[k]?=some (some (T,l))→∃ g cs,β[k]?=some g∧w.heap[g]?=some (.cells cs.toArray T (0,0))∧holdsL β l cs w
theorem uI {g:Nat} {cs:List Value} {T:TypeId} {fr:Nat×Nat} (h:w.heap[g]?=some (.cells cs.toArray T fr)) (i:Nat):w.cell? ⟨g,i,none⟩=cs[i]?:=by
 unfold World.cell?
 rw [h]
 simp
theorem pU {g:Nat} {cs:List Value} {T:TypeId} {fr:Nat×Nat} (h:w.heap[g]?=some (.cells cs.toArray T fr)) (off n:Nat):w.rangeAt g off ((cs.drop off).take n):=by
 intro j v hj
 rw [uI h]
 rw [List.getElem?_take] at hj
 split at hj
 ·rw [List.getElem?_drop] at hj;exact hj
 ·cases hj
theorem xA {T:TypeId} {l:List (Seg Kc)} {off:Nat} (h:mV P T l off = .val x):∃ n m,fV P T=some n∧cut l off n=some m∧((rowB P T=some true∧x = .fv (.ag m))∨(rowB P T=some false∧n=1∧∃ s,m = [s]∧x = .fv (.sc s))):=by
 unfold mV at h
 split at h
 ·rename_i n hn
  split at h
  ·rename_i m hm
   split at h
   ·rename_i hr
    injection h with h
    exact ⟨n,_,hn,hm,.inl ⟨hr,h.symm⟩⟩
   ·rename_i s hr
    split at h
    ·rename_i h1
     injection h with h
     exact ⟨n,_,hn,hm,.inr ⟨hr,by simpa using h1,s,rfl,h.symm⟩⟩
    ·cases h
   ·cases h
  ·cases h
 ·cases h
theorem oC {T:TypeId} {b:Bool} (h:rowB P T=some b):∃ d,P.underlying T=some d∧d.isRow=b:=by
 unfold rowB at h
 rw [Option.map_eq_some_iff] at h
 exact h
theorem pA {T:TypeId} {n:Nat} (h:fV P T=some n):∃ i,P.info? T=some i∧i.size=n:=by
 unfold fV at h
 rw [Option.map_eq_some_iff] at h
 exact h
theorem rL {T:TypeId} {d:TypeDesc} (h:P.underlying T=some d) (w:World):(isAgg T).run P w = .ok d.isRow w:=by
 unfold isAgg
 rw [Sem.run_bind,run_underlying h w]
 cases d <;> rfl
theorem fS {T:TypeId} {n:Nat} (h:fV P T=some n) (w:World):(Go.sizeOf T).run P w = .ok n w:=by
 obtain ⟨i,h1,h2⟩:=pA h
 simp [Go.sizeOf,typeInfo,h1,h2]
theorem mA {s:Seg Kc} {cs:List Value} (h:holdsL β [s] cs w):s.holds β cs w:=by
 obtain ⟨a,b,e,h1,h2⟩:=h
 rw [show b = [] from h2,List.append_nil] at e
 rw [e];exact h1
theorem take_one {cs:List Value} {off:Nat} (h:off+1≤cs.length):∃ v,(cs.drop off).take 1 = [v]∧cs[off]?=some v:=by
 refine ⟨cs[off],?_,List.getElem?_eq_getElem (by omega)⟩
 rw [List.drop_eq_getElem_cons (by omega)]
 rfl
theorem oN {T T' : TypeId} {l:List (Seg Kc)} {off g:Nat} {cs:List Value} (h:mV P T l off = .val x) (hg:w.heap[g]?=some (.cells cs.toArray T' (0,0))) (hl:holdsL β l cs w) :
 ∃ v,(loadVar T ⟨g,off,none⟩).run P w = .ok v w∧x.holds β v w:=by
 obtain ⟨n,m,hn,hm,hc⟩:=xA h
 obtain ⟨h1,h2⟩:=iQ hm hl
 rcases hc with ⟨hr,rfl⟩|⟨hr,rfl,s,rfl,rfl⟩
 ·obtain ⟨d,hd,hd2⟩:=oC hr
  obtain ⟨i,hi,hi2⟩:=pA hn
  refine ⟨_,run_loadVar_mid w g off T ((cs.drop off).take n) d (pU hg off n) hd hd2 ?_,_,rfl,h1⟩
  rw [hi,Option.map_some,hi2,List.length_take,List.length_drop,Nat.min_eq_left (by omega)]
 ·obtain ⟨d,hd,hd2⟩:=oC hr
  obtain ⟨v,hv,hv2⟩:=take_one h2
  rw [hv] at h1
  refine ⟨v,?_,mA h1⟩
  unfold loadVar
  rw [Sem.run_bind,rL hd w,hd2]
  have hcell:w.cell? ⟨g,off,none⟩=some v:=by rw [uI hg];exact hv2
  simp [Result.andThen,hcell]
theorem run_part {T:TypeId} {l:List (Seg Kc)} {off:Nat} {cs:List Value} (h:mV P T l off = .val x) (hl:holdsL β l cs w) :
 ∃ v,(part T cs.toArray off).run P w = .ok v w∧x.holds β v w:=by
 obtain ⟨n,m,hn,hm,hc⟩:=xA h
 obtain ⟨h1,h2⟩:=iQ hm hl
 rcases hc with ⟨hr,rfl⟩|⟨hr,rfl,s,rfl,rfl⟩
 ·obtain ⟨d,hd,hd2⟩:=oC hr
  refine ⟨.agg ((cs.drop off).take n).toArray,?_,_,rfl,h1⟩
  unfold part
  rw [Sem.run_bind,rL hd w,hd2]
  simp only [Result.andThen,if_true,Sem.run_bind,fS hn w,Sem.run_pure]
  congr 2
  apply Array.toList_inj.1
  simp [Array.toList_extract]
 ·obtain ⟨d,hd,hd2⟩:=oC hr
  obtain ⟨v,hv,hv2⟩:=take_one h2
  rw [hv] at h1
  refine ⟨v,?_,mA h1⟩
  unfold part
  rw [Sem.run_bind,rL hd w,hd2]
  simp [Result.andThen,hv2]
theorem pB {T:TypeId} {l:List (Seg Kc)} (h:rK P T=some l):∃ z,(P.info? T).bind (·.zero)=some z∧(∀ w,(zeroValue T).run P w = .ok z w)∧l=z.cells.toList.map .lit∧z.cells.toList.all (·.oneCell')=true:=by
 unfold rK at h
 split at h
 ·rename_i z hz
  split at h
  ·rename_i h1
   injection h with h
   refine ⟨z,hz,fun w=>?_,h.symm,h1⟩
   rw [Option.bind_eq_some_iff] at hz
   obtain ⟨i,hi,hz⟩:=hz
   simp [zeroValue,typeInfo,hi,hz]
  ·cases h
 ·cases h
theorem mZ {s:Sem Value} (h:iK (Kc:=Kc) P s = .val x) (β:List Nat) (w:World):∃ v,s.run P w = .ok v w∧x.holds β v w:=by
 unfold iK at h
 split at h
 ·rename_i v hv
  injection h with h
  subst h
  exact ⟨v,bL hv w,fW v⟩
 ·cases h
theorem uJ (cs:Array Value) (ds:List Value) (off:Nat) (h:off+ds.length≤cs.size) :
 (ds.toArray.zipIdx.foldl (fun cs (c,j)=>cs.setIfInBounds (off+j) c) cs).toList=cs.toList.take off++ds++cs.toList.drop (off+ds.length):=by
 rw [← Array.foldl_toList]
 have key:∀ (es:List Value) (k:Nat) (a:Array Value),off+k+es.length≤a.size →
  ((es.zipIdx k).foldl (fun cs (c,j)=>cs.setIfInBounds (off+j) c) a).toList=a.toList.take (off+k)++es++a.toList.drop (off+k+es.length):=by
  intro es
  induction es with
  | nil=>intro k a _;simp
  | cons e es ih =>
    intro k a hk
    simp only [List.length_cons] at hk
    rw [List.zipIdx_cons,List.foldl_cons,ih (k+1) _ (by simp;omega)]
    simp only [Array.toList_setIfInBounds,List.length_cons]
    rw [show off+(k+1)=(off+k)+1 from by omega]
    rw [List.take_set,List.drop_set]
    have hlt:off+k<a.toList.length:=by simp;omega
    have hlt2:off+k+1+es.length > off+k:=by omega
    rw [if_pos (by omega)]
    have e1:(a.toList.take (off+k+1)).set (off+k) e=a.toList.take (off+k) ++ [e]:=by
     rw [List.take_succ_eq_append_getElem hlt]
     rw [List.set_append_right _ _ (by simp;omega)]
     simp [Nat.min_eq_left (show off+k≤a.size by omega)]
    rw [e1]
    rw [show off+k+(es.length+1)=off+k+1+es.length from by omega]
    simp
 have:=key ds 0 cs (by simpa using h)
 simpa using this
theorem nA {s:Seg Kc} {v:Value} (h:s.holds β [v] w):v.cells = #[v]:=by
 have:=Seg.one h v (by simp)
 cases v <;> simp_all [Value.cells,Value.oneCell']
theorem xB {place:Nat→Option (Nat×Nat)} {cs:Array Value} {i off n:Nat} {v:Value} {rest:List (Nat×Value)} (hp:place i=some (off,n)) (hn:v.cells.size=n) (hle:off+v.cells.size≤cs.size) :
 Instr.fill place cs ((i,v)::rest)=Instr.fill place (v.cells.zipIdx.foldl (fun cs (c,j)=>cs.setIfInBounds (off+j) c) cs) rest:=by
 have h2:(decide (v.cells.size≠n) || decide (off+v.cells.size > cs.size))=false:=by simp;omega
 rw [Instr.fill,hp]
 simp only [h2,Bool.false_eq_true,if_false]
theorem kU {place:Nat→Option (Nat×Nat)}:∀ {parts:List (Nat×Operand)} {l l' : List (Seg Kc)} {cs:Array Value},uH place (parts.map fun p=>(p.1,ev p.2)) l=some l'→holdsL β l cs.toList w →
 (∀ p∈parts,(ev p.2).holds β (ρ p.2) w)→∃ ds:Array Value,Instr.fill place cs (parts.map fun p=>(p.1,ρ p.2))=some ds∧holdsL β l' ds.toList w
 | [],l,l',cs,h,hl,_=>by injection h with h;subst h;exact ⟨cs,rfl,hl⟩
 | (i, y)::parts,l,l',cs,h,hl,hp=>by
   have hy:=hp (i,y) (by simp)
   have hp' : ∀ p∈parts,(ev p.2).holds β (ρ p.2) w:=fun p hm=>hp p (by simp [hm])
   simp only [List.map_cons,uH] at h
   simp only at hy
   split at h
   ·rename_i off n s hpl hev
    rw [hev] at hy
    split at h
    ·rename_i hn
     simp only [Bool.and_eq_true,beq_iff_eq] at hn
     rw [Option.bind_eq_some_iff] at h
     obtain ⟨l2,hr,h⟩:=h
     obtain ⟨h1,h2⟩:=lY hr hl (holdsL.single hy)
     have hc:=nA hy
     simp only [List.length_singleton] at h2
     rw [Array.length_toList] at h2
     obtain ⟨ds,hd,hd2⟩:=kU (cs := [ρ y].toArray.zipIdx.foldl (fun cs (c,j)=>cs.setIfInBounds (off+j) c) cs) h (by
      rw [uJ cs [ρ y] off (by simpa using h2)]
      exact h1) hp'
     refine ⟨ds,?_,hd2⟩
     rw [List.map_cons,xB hpl (by rw [hc];simp;omega) (by rw [hc];simp;omega),hc]
     exact hd
    ·cases h
   ·rename_i off n m hpl hev
    rw [hev] at hy
    obtain ⟨es,he,hm⟩:=hy
    split at h
    ·rename_i hn
     simp only [beq_iff_eq] at hn
     rw [Option.bind_eq_some_iff] at h
     obtain ⟨l2,hr,h⟩:=h
     obtain ⟨h1,h2⟩:=lY hr hl hm
     have hlen:=holdsL.len hm
     simp only [Array.length_toList] at h2
     obtain ⟨ds,hd,hd2⟩:=kU (cs:=es.toArray.zipIdx.foldl (fun cs (c,j)=>cs.setIfInBounds (off+j) c) cs) h (by
      rw [uJ cs es off (by omega)]
      exact h1) hp'
     refine ⟨ds,?_,hd2⟩
     have hc:(ρ y).cells=es.toArray:=by rw [he];rfl
     rw [List.map_cons,xB hpl (by rw [hc];simp;omega) (by rw [hc];simp;omega),hc]
     exact hd
    ·cases h
   ·cases h
end Ab
namespace Ab
open Go.RowKit
variable {Kc:Value→Bool} {P:Program} {ev:Operand→AV Kc} {bl:List (Option (TypeId×List (Seg Kc)))} {β:List Nat} {w:World} {ρ:Operand→Value} {o:Oper} {x:AV Kc}
theorem bJ {s:Sem Value} {v:Value} {w w' : World} (h:s.run P w = .ok v w'):(do pure (Next.value (← s)):Sem Next).run P w = .ok (.value v) w':=by
 rw [Sem.run_bind,h];rfl
theorem tU (g off n:Nat):(⟨g,off,none⟩:Addr).add n=⟨g,off+n,none⟩:=Addr.add_mid g off n
theorem fX {k off:Nat} {v:Value} (h:(AV.fv (.sc (.ptr k off)):AV Kc).holds β v w):∃ g,β[k]?=some g∧v = .pointer (some ⟨g,off,none⟩):=by
 obtain ⟨g,h1,h2⟩:=h
 injection h2 with h2
 exact ⟨g,h1,h2⟩
theorem uK {k off n c:Nat} {v:Value} (h:(AV.fv (.sc (.slc k off n c)):AV Kc).holds β v w):∃ g,β[k]?=some g∧v = .slice (some ⟨g,off,none⟩) n c:=by
 obtain ⟨g,h1,h2⟩:=h
 injection h2 with h2
 exact ⟨g,h1,h2⟩
theorem aO {u v:Value} (h:(AV.fv (.sc (.lit u)):AV Kc).holds β v w):v=u:=by
 have:=h.1
 injection this
theorem iV {k off g:Nat} (h:β[k]?=some g):(AV.fv (.sc (.ptr k off)):AV Kc).holds β (.pointer (some ⟨g,off,none⟩)) w:=⟨g,h,rfl⟩
theorem mB:∀ {l:List Operand} {m:List (Bool×List (Seg Kc))},toCA (l.map ev)=some m→(∀ y∈l,(ev y).holds β (ρ y) w)→holdsC β m (l.map ρ) w
 | [],m,h,_=>by injection h with h;subst h;rfl
 | y :: l,m,h,hs=>by
   have hy:=hs y (by simp)
   have hl:∀ z∈l,(ev z).holds β (ρ z) w:=fun z hz=>hs z (by simp [hz])
   rw [List.map_cons] at h
   generalize ev y=x at h hy
   cases x with
   | tup l=>cases h
   | fv f =>
     cases f with
     | sc s =>
       simp only [toCA,Option.map_eq_some_iff] at h
       obtain ⟨r,hr,rfl⟩:=h
       exact ⟨ρ y,l.map ρ,rfl,holdsL.single hy,mB hr hl⟩
     | ag m =>
       simp only [toCA,Option.map_eq_some_iff] at h
       obtain ⟨r,hr,rfl⟩:=h
       exact ⟨ρ y,l.map ρ,rfl,hy,mB hr hl⟩
     | clo F a b=>cases h
     | nsl n T l=>cases h
     | un=>cases h
theorem sU:∀ {l:List Operand} {vs:List Value},litsA (l.map ev)=some vs→(∀ y∈l,(ev y).holds β (ρ y) w)→l.map ρ=vs
 | [],vs,h,_=>by simpa [litsA] using h
 | y :: l,vs,h,hs=>by
   simp only [List.map_cons,litsA] at h
   split at h
   ·rename_i v r hv hr
    injection h with h
    subst h
    rw [List.map_cons,fR hv (hs y (by simp)),sU hr (fun z hz=>hs z (by simp [hz]))]
   ·cases h
theorem opA_val (h:opA P ev bl o = .val x) (hs:∀ y∈o.op.operands,(ev y).holds β (ρ y) w) (hm:Mem β bl w):∃ v,(execOp ρ o).run P w = .ok (.value v) w∧x.holds β v w:=by
 obtain ⟨dst,op,type,pos,after,guard⟩:=o
 cases op <;> simp only [opA] at h
 case move y=>injection h with h;subst h;exact ⟨_,rfl,hs y (by simp [Op.operands])⟩
 case assign y=>injection h with h;subst h;exact ⟨_,rfl,hs y (by simp [Op.operands])⟩
 case pick c a b =>
  split at h
  ·rename_i t hc
   injection h with h
   have h1:=hs c (by simp [Op.operands])
   rw [hc] at h1
   have h2:=aO h1
   refine ⟨if t then ρ a else ρ b,?_,?_⟩
   ·simp [execOp,h2,asBool]
   ·subst h
    cases t
    ·exact hs b (by simp [Op.operands])
    ·exact hs a (by simp [Op.operands])
  ·cases h
 case alloc T=>split at h <;> cases h
 case box T y=>split at h <;> cases h
 case load T y =>
  split at h
  ·rename_i k off hy
   split at h
   ·rename_i T' l hb
    have h1:=hs y (by simp [Op.operands])
    rw [hy] at h1
    obtain ⟨g,hg,hv⟩:=fX h1
    obtain ⟨g',cs,hg',hh,hl⟩:=hm k T' l hb
    rw [hg] at hg'
    injection hg' with hg'
    subst hg'
    obtain ⟨v,hr,hx⟩:=oN h hh hl
    refine ⟨v,?_,hx⟩
    simp only [execOp,Instr.loadAt,hv,Instr.sureAddr]
    exact bJ (by simpa [Sem.run_bind] using hr)
   ·cases h
  ·cases h
 case store T a b=>repeat' (first|(cases h;done)|split at h)
 case fieldAddr T y i =>
  split at h
  ·rename_i k off fs hy hu
   split at h
   ·rename_i f hf
    split at h
    ·rename_i n hn
     injection h with h
     subst h
     have h1:=hs y (by simp [Op.operands])
     rw [hy] at h1
     obtain ⟨g,hg,hv⟩:=fX h1
     refine ⟨_,?_,iV hg⟩
     simp only [execOp]
     refine bJ ?_
     simp only [Instr.fieldAt,Sem.run_bind,run_underlying hu,Result.andThen,hf,hv,Instr.sureAddr,Sem.run_pure,fieldPlace,fS hn,tU]
     rfl
    ·cases h
   ·cases h
  ·cases h
 case field T y i =>
  split at h
  ·rename_i l fs hy hu
   split at h
   ·rename_i f hf
    have h1:=hs y (by simp [Op.operands])
    rw [hy] at h1
    obtain ⟨cs,hv,hl⟩:=h1
    obtain ⟨v,hr,hx⟩:=run_part h hl
    refine ⟨v,?_,hx⟩
    simp only [execOp]
    refine bJ ?_
    simp only [Instr.field,Sem.run_bind,run_underlying hu,Result.andThen,hf,hv,asAgg,Sem.run_pure,hr]
   ·cases h
  ·cases h
 case indexAddr T y ix =>
  split at h
  ·rename_i k off kd i len e hy hi hu
   split at h
   ·rename_i hb
    split at h
    ·rename_i n hn
     injection h with h
     subst h
     have h1:=hs y (by simp [Op.operands])
     rw [hy] at h1
     obtain ⟨g,hg,hv⟩:=fX h1
     have h2:=hs ix (by simp [Op.operands])
     rw [hi] at h2
     have hv2:=aO h2
     refine ⟨_,?_,iV hg⟩
     simp only [execOp]
     refine bJ ?_
     simp [Instr.indexAt,Sem.run_bind,run_underlying hu,Result.andThen,hv,hv2,asIntOf,Instr.sureAddr,fS hn,tU,hb.1,hb.2]
    ·cases h
   ·cases h
  ·rename_i k off n c kd i e hy hi hu
   split at h
   ·rename_i hb
    split at h
    ·rename_i m hm2
     injection h with h
     subst h
     have h1:=hs y (by simp [Op.operands])
     rw [hy] at h1
     obtain ⟨g,hg,hv⟩:=uK h1
     have h2:=hs ix (by simp [Op.operands])
     rw [hi] at h2
     have hv2:=aO h2
     refine ⟨_,?_,iV hg⟩
     simp only [execOp]
     refine bJ ?_
     simp [Instr.indexAt,Sem.run_bind,run_underlying hu,Result.andThen,hv,hv2,asIntOf,fS hm2,tU,hb.1,hb.2]
    ·cases h
   ·cases h
  ·cases h
 case index T y ix =>
  split at h
  ·rename_i l kd i len e hy hi hu
   split at h
   ·rename_i hb
    split at h
    ·rename_i n hn
     have h1:=hs y (by simp [Op.operands])
     rw [hy] at h1
     obtain ⟨cs,hv,hl⟩:=h1
     have h2:=hs ix (by simp [Op.operands])
     rw [hi] at h2
     have hv2:=aO h2
     obtain ⟨v,hr,hx⟩:=run_part h hl
     refine ⟨v,?_,hx⟩
     simp only [execOp]
     refine bJ ?_
     simp [Instr.index,Sem.run_bind,run_underlying hu,Result.andThen,hv,hv2,asIntOf,fS hn,hb.1,hb.2,hr]
    ·cases h
   ·cases h
  ·cases h
 case nilCheck y =>
  split at h
  ·rename_i k off hy
   injection h with h
   subst h
   have h1:=hs y (by simp [Op.operands])
   rw [hy] at h1
   obtain ⟨g,hg,hv⟩:=fX h1
   refine ⟨_,?_,iV hg⟩
   simp only [execOp,hv]
   rfl
  ·cases h
 case extract y i =>
  split at h
  ·rename_i l hy
   split at h
   ·rename_i f hf
    injection h with h
    subst h
    have h1:=hs y (by simp [Op.operands])
    rw [hy] at h1
    obtain ⟨vs,hv,hl⟩:=h1
    obtain ⟨v,hv2,hx⟩:=holdsF.get hl hf
    refine ⟨v,?_,hx⟩
    simp only [execOp]
    refine bJ ?_
    simp [Instr.extract,hv,hv2]
   ·cases h
  ·cases h
 case build T parts =>
  have hp:∀ p∈parts.toList,(ev p.2).holds β (ρ p.2) w:=fun p hm=>hs p.2 (by
   simp only [Op.operands]
   exact List.mem_toArray.2 (List.mem_map.2 ⟨p,hm,rfl⟩))
  split at h
  ·rename_i z fs hz hu
   split at h
   ·rename_i pl hpl
    split at h
    ·rename_i l hl
     injection h with h
     subst h
     obtain ⟨zv,hzi,_,rfl,hone⟩:=pB hz
     obtain ⟨ds,hd,hd2⟩:=kU (cs:=zv.cells) hl (holdsL.lits hone) hp
     refine ⟨.agg ds,?_,⟨ds.toList,by simp,hd2⟩⟩
     simp only [execOp]
     refine bJ (run_build w T _ ds ?_)
     rw [Option.bind_eq_some_iff] at hzi
     obtain ⟨i,hi,hz2⟩:=hzi
     have hpl' : fs.toList.mapM (fun f=>(P.info? f.type).map fun i=>(f.offset,i.size))=some pl:=hpl
     simp only [Program.built,hi,hu,hz2,hpl']
     simpa using hd
    ·cases h
   ·cases h
  ·rename_i z n e hz hu
   split at h
   ·rename_i m hn
    split at h
    ·rename_i l hl
     injection h with h
     subst h
     obtain ⟨zv,hzi,_,rfl,hone⟩:=pB hz
     obtain ⟨ds,hd,hd2⟩:=kU (cs:=zv.cells) hl (holdsL.lits hone) hp
     refine ⟨.agg ds,?_,⟨ds.toList,by simp,hd2⟩⟩
     simp only [execOp]
     refine bJ (run_build w T _ ds ?_)
     rw [Option.bind_eq_some_iff] at hzi
     obtain ⟨i,hi,hz2⟩:=hzi
     obtain ⟨ie,hie,hie2⟩:=pA hn
     simp only [Program.built,hi,hu,hz2,hie,hie2]
     simpa using hd
    ·cases h
   ·cases h
  ·cases h
 case buildSlice T len parts=>repeat' (first|(cases h;done)|split at h)
 case slice T y lo hi mx =>
  cases lo <;> cases hi <;> cases mx <;> simp only at h <;> try (cases h;done)
  split at h
  ·rename_i k off n e hy hu
   split at h
   ·rename_i m hn
    injection h with h
    subst h
    have h1:=hs y (by simp [Op.operands])
    rw [hy] at h1
    obtain ⟨g,hg,hv⟩:=fX h1
    refine ⟨.slice (some ⟨g,off,none⟩) n n,?_,⟨g,hg,rfl⟩⟩
    simp only [execOp,Option.map_none]
    refine bJ ?_
    have h0:∀ c:Prop,[Decidable c]→(if c then (⟨g,off,none⟩:Addr) else (⟨g,off,none⟩:Addr).add (0*m))=⟨g,off,none⟩:=fun c _=>by split <;> simp [tU]
    simp [Instr.sliceAt,Sem.run_bind,run_underlying hu,Result.andThen,hv,Instr.sureAddr,Instr.sliceBounds,fS hn]
    have:=h0 (n=0)
    simpa using this
   ·cases h
  ·cases h
 case binOp op T a b yt =>
  split at h
  ·rename_i u v hu hv
   have h1:=fR hu (hs a (by simp [Op.operands]))
   have h2:=fR hv (hs b (by simp [Op.operands]))
   obtain ⟨r,hr,hx⟩:=mZ h β w
   refine ⟨r,?_,hx⟩
   simp only [execOp,h1,h2]
   exact bJ hr
  ·cases h
 case makeFunc fn first cap =>
  cases fn with
  | func F =>
    simp only at h
    split at h
    ·rename_i a b ha hb
     injection h with h
     subst h
     refine ⟨.func (.func F) (first.map ρ) (cap.map ρ),rfl,first.toList.map ρ,cap.toList.map ρ,?_,?_,?_⟩
     ·congr 1 <;> (apply Array.toList_inj.1;simp)
     ·exact mB ha (fun y hy=>hs y (by simp only [Op.operands,Array.mem_append];exact .inl (by simpa using hy)))
     ·exact mB hb (fun y hy=>hs y (by simp only [Op.operands,Array.mem_append];exact .inr (by simpa using hy)))
    ·cases h
  | _=>cases h
 case unOp op T a =>
  split at h
  ·rename_i u hu
   have h1:=fR hu (hs a (by simp [Op.operands]))
   obtain ⟨r,hr,hx⟩:=mZ h β w
   refine ⟨r,?_,hx⟩
   simp only [execOp,h1]
   exact bJ hr
  ·cases h
 case convert s d a =>
  split at h
  ·rename_i u hu
   have h1:=fR hu (hs a (by simp [Op.operands]))
   obtain ⟨r,hr,hx⟩:=mZ h β w
   refine ⟨r,?_,hx⟩
   simp only [execOp,h1]
   exact bJ hr
  ·cases h
 case call c =>
  split at h
  ·split at h <;> cases h
  ·rename_i hc
   split at h
   ·rename_i T y ht ha
    split at h
    ·rename_i e k off n c' hu hy
     injection h with h
     subst h
     have hmem:y∈c.operands:=by
      simp only [Call.operands,hc,Array.mem_append]
      exact .inr (by rw [← Array.mem_toList_iff,ha];simp)
     have h1:=hs y (by simpa [Op.operands] using hmem)
     rw [hy] at h1
     obtain ⟨g,hg,hv⟩:=uK h1
     refine ⟨.int .i64 n,?_,⟨rfl,rfl⟩⟩
     have harg:c.args.map ρ = #[.slice (some ⟨g,off,none⟩) n c']:=by
      apply Array.toList_inj.1
      rw [Array.toList_map,ha,List.map_singleton,hv]
     simp only [execOp,resolve,hc,Sem.run_bind,Sem.run_pure,Result.andThen,invoke,builtin,harg,Builtin.len_,ht]
     simp [Sem.run_bind,run_underlying hu,Result.andThen,goInt]
    ·cases h
   ·cases h
  ·rename_i b _ hc
   split at h
   ·rename_i vs hvs
    split at h
    ·rename_i v hv
     injection h with h
     subst h
     have he:=sU hvs (fun y hm=>hs y (by
      simp only [Op.operands,Call.operands,hc,Array.mem_append]
      exact .inr (by simpa using hm)))
     have harg:c.args.map ρ=vs.toArray:=by
      apply Array.toList_inj.1
      rw [Array.toList_map,he]
     refine ⟨v,?_,fW v⟩
     simp only [execOp,resolve,hc,Sem.run_bind,Sem.run_pure,Result.andThen,invoke,harg]
     exact bL hv w
    ·cases h
   ·cases h
  ·cases h
 all_goals (cases h)
theorem yO {T:TypeId} {l:List (Seg Kc)} (h:opA P ev bl o = .new T l) (hs:∀ y∈o.op.operands,(ev y).holds β (ρ y) w) :
 ∃ cs:List Value,(execOp ρ o).run P w = .ok (.value (.pointer (some ⟨w.heap.size,0,none⟩))) (w.alloc (.cells cs.toArray T))∧holdsL β l cs w:=by
 obtain ⟨dst,op,type,pos,after,guard⟩:=o
 cases op <;> simp only [opA] at h
 case alloc T' =>
  split at h
  ·rename_i l' hz
   injection h with h1 h2
   subst h1
   subst h2
   obtain ⟨z,_,hz2,rfl,hone⟩:=pB hz
   refine ⟨z.cells.toList,?_,holdsL.lits hone⟩
   simp only [execOp]
   refine bJ ?_
   simp [Instr.alloc,Sem.run_bind,hz2,Result.andThen,newVar,newRow]
  ·cases h
 case box T' y =>
  split at h
  ·rename_i s hy
   injection h with h1 h2
   subst h1
   subst h2
   have hv:=hs y (by simp [Op.operands])
   rw [hy] at hv
   refine ⟨[ρ y],?_,holdsL.single hv⟩
   simp only [execOp]
   refine bJ ?_
   simp [Instr.box,Sem.run_bind,Result.andThen,newVar,newRow,nA hv]
  ·rename_i l' hy
   injection h with h1 h2
   subst h1
   subst h2
   have hv:=hs y (by simp [Op.operands])
   rw [hy] at hv
   obtain ⟨cs,hv,hl⟩:=hv
   refine ⟨cs,?_,hl⟩
   simp only [execOp]
   refine bJ ?_
   simp [Instr.box,Sem.run_bind,Result.andThen,newVar,newRow,hv,Value.cells]
  ·cases h
 case slice T' y lo hi mx=>cases lo <;> cases hi <;> cases mx <;> simp only at h <;> (repeat' (first|(cases h;done)|split at h))
 case makeFunc fn first cap=>cases fn <;> simp only at h <;> (repeat' (first|(cases h;done)|split at h))
 all_goals (repeat' (first|(cases h;done)|(unfold mV at h)|(unfold iK at h)|split at h))
theorem opA_nsl {T:TypeId} {n:Nat} {l:List (Seg Kc)} (h:opA P ev bl o = .nsl n T l) (hs:∀ y∈o.op.operands,(ev y).holds β (ρ y) w) :
 ∃ cs:List Value,(execOp ρ o).run P w = .ok (.value (.slice (some ⟨w.heap.size,0,none⟩) n n)) (w.alloc (.cells cs.toArray T))∧holdsL β l cs w:=by
 obtain ⟨dst,op,type,pos,after,guard⟩:=o
 cases op <;> simp only [opA] at h
 case buildSlice T' len parts =>
  have hp:∀ p∈parts.toList,(ev p.2).holds β (ρ p.2) w:=fun p hm=>hs p.2 (by
   simp only [Op.operands]
   exact List.mem_toArray.2 (List.mem_map.2 ⟨p,hm,rfl⟩))
  split at h
  ·rename_i e hu
   split at h
   ·rename_i m zv hm hzi
    split at h
    ·rename_i hc
     split at h
     ·rename_i l' hl
      injection h with h1 h2 h3
      subst h1
      subst h2
      subst h3
      obtain ⟨hc1,hc2,hc3,hone⟩:=hc
      have harr:((Array.range (len*m)).map (fun i=>zv.cells[i%zv.cells.size]!)).toList=zerosN zv (len*m):=by
       rw [Array.toList_map,Array.toList_range];rfl
      obtain ⟨ds,hd,hd2⟩:=kU (cs:=(Array.range (len*m)).map (fun i=>zv.cells[i%zv.cells.size]!)) hl (by rw [harr];exact holdsL.lits hone) hp
      refine ⟨ds.toList,?_,hd2⟩
      simp only [execOp]
      refine bJ ?_
      have h0:len*m≠0:=Nat.mul_ne_zero (by omega) (by omega)
      have h1:¬ (len*m > 2^24):=by omega
      have hzr:(zeroValue e).run P w = .ok zv w:=by
       rw [Option.bind_eq_some_iff] at hzi
       obtain ⟨i,hi,hz⟩:=hzi
       simp [zeroValue,typeInfo,hi,hz]
      have hd' : Instr.fill (fun i=>some (i*m,m)) ((Array.range (len*m)).map (fun i=>zv.cells[i%zv.cells.size]!)) (parts.map fun (i,x)=>(i,ρ x)).toList=some ds:=by simpa using hd
      unfold Instr.buildSlice
      simp only [Sem.run_bind,run_underlying hu,Result.andThen,fS hm,if_neg h1,if_neg h0,hzr,Sem.run_pure,hd']
      simp [Sem.run_bind,newRow,Result.andThen]
     ·cases h
    ·cases h
   ·cases h
  ·cases h
 case slice T' y lo hi mx=>cases lo <;> cases hi <;> cases mx <;> simp only at h <;> (repeat' (first|(cases h;done)|split at h))
 case makeFunc fn first cap=>cases fn <;> simp only at h <;> (repeat' (first|(cases h;done)|split at h))
 all_goals (repeat' (first|(cases h;done)|(unfold mV at h)|(unfold iK at h)|split at h))
theorem opA_call {f:FuncId} {args:List (AV Kc)} (h:opA P ev bl o = .call f args) (hs:∀ y∈o.op.operands,(ev y).holds β (ρ y) w) :
 ∃ vs:List Value,(execOp ρ o).run P w=(callFunc f vs.toArray).run P w∧holdsA β args vs w:=by
 obtain ⟨dst,op,type,pos,after,guard⟩:=o
 cases op <;> simp only [opA] at h
 case call c =>
  split at h
  ·rename_i y hc
   have hA:∀ (l:List Value),holdsA β (l.map (mY (Kc:=Kc))) l w:=fun l=>by
    induction l with
    | nil=>rfl
    | cons v l ih=>exact ⟨v,l,rfl,fW v,ih⟩
   have hB:∀ (l:List Operand),(∀ y∈l,(ev y).holds β (ρ y) w)→holdsA β (l.map ev) (l.map ρ) w:=fun l=>by
    induction l with
    | nil=>intro _;rfl
    | cons v l ih=>intro hm;exact ⟨ρ v,l.map ρ,rfl,hm v (by simp),ih (fun y hy=>hm y (by simp [hy]))⟩
   have hC:∀ {l l' : List (AV Kc)} {vs vs' : List Value},holdsA β l vs w→holdsA β l' vs' w→holdsA β (l++l') (vs++vs') w:=fun {l}=>by
    induction l with
    | nil=>intro l' vs vs' h h';rw [show vs = [] from h];exact h'
    | cons x l ih=>rintro l' vs vs' ⟨v,r,rfl,h1,h2⟩ h';exact ⟨v,r++vs',rfl,h1,ih h2 h'⟩
   have hD:∀ (l:List (Bool×List (Seg Kc))) (vs:List Value),holdsC β l vs w→holdsA β (l.map caA) vs w:=fun l=>by
    induction l with
    | nil=>intro vs h;exact h
    | cons c l ih =>
      rintro vs ⟨v,r,rfl,h1,h2⟩
      refine ⟨v,r,rfl,?_,ih r h2⟩
      obtain ⟨b,m⟩:=c
      cases b with
      | true=>exact h1
      | false =>
        match m,h1 with
        | [],_=>trivial
        | [s],h1=>exact mA h1
        | _::_::_,_=>trivial
   have hE:holdsA β (c.args.toList.map ev) (c.args.toList.map ρ) w:=hB _ (fun y hm=>hs y (by
    simp only [Op.operands,Call.operands,hc,Array.mem_append]
    exact .inr (by simpa using hm)))
   split at h
   ·rename_i g a b hy
    injection h with h1 h2
    subst h1
    subst h2
    have hv:=fR hy (hs y (by simp [Op.operands,Call.operands,hc]))
    refine ⟨a.toList++(c.args.toList.map ρ)++b.toList,?_,?_⟩
    ·simp only [execOp,resolve,hc,Sem.run_bind,Sem.run_pure,Result.andThen,hv,Deferred.ofValue,invoke]
     congr 2
     apply Array.toList_inj.1
     simp
    ·exact hC (hC (hA _) hE) (hA _)
   ·rename_i g a b _ hy
    injection h with h1 h2
    subst h1
    subst h2
    have hv:=hs y (by simp [Op.operands,Call.operands,hc])
    rw [hy] at hv
    obtain ⟨xs,ys,hv,hx,hyy⟩:=hv
    refine ⟨xs++(c.args.toList.map ρ)++ys,?_,hC (hC (hD _ _ hx) hE) (hD _ _ hyy)⟩
    simp only [execOp,resolve,hc,Sem.run_bind,Sem.run_pure,Result.andThen,hv,Deferred.ofValue,invoke]
    congr 2
    apply Array.toList_inj.1
    simp
   ·cases h
  ·split at h <;> (try split at h) <;> cases h
  ·split at h <;> (try split at h) <;> cases h
  ·cases h
 case slice T' y lo hi mx=>cases lo <;> cases hi <;> cases mx <;> simp only at h <;> (repeat' (first|(cases h;done)|split at h))
 case makeFunc fn first cap=>cases fn <;> simp only at h <;> (repeat' (first|(cases h;done)|split at h))
 all_goals (repeat' (first|(cases h;done)|(unfold mV at h)|(unfold iK at h)|split at h))
theorem Turned.self {g:Nat} {ob:Obj} (h:w.heap[g]?=some ob):Turned g ob w w:=⟨rfl,rfl,rfl,rfl,h,fun _ _=>rfl⟩
theorem Turned.next {g:Nat} {ob ob' : Obj} {w1 w2 w3:World} (h:Turned g ob w1 w2) (h' : Turned g ob' w2 w3):Turned g ob' w1 w3 :=
 ⟨h'.os.trans h.os,h'.tape.trans h.tape,h'.output.trans h.output,h'.size.trans h.size,h'.at_,fun k hk=>(h'.block k hk).trans (h.block k hk)⟩
theorem mW {g:Nat} {T:TypeId}:∀ (es:List Value) (off:Nat) (w:World) (cs:List Value),w.heap[g]?=some (.cells cs.toArray T (0,0))→off+es.length≤cs.length →
 Turned g (.cells (cs.take off++es++cs.drop (off+es.length)).toArray T (0,0)) w (w.setCells g off es)
 | [],off,w,cs,h,_=>by
   simpa [World.setCells] using Turned.self h
 | e :: es,off,w,cs,h,hl=>by
   simp only [List.length_cons] at hl
   have h1:Turned g (.cells (cs.set off e).toArray T (0,0)) w (w.setCell ⟨g,off,none⟩ e):=by
    refine ⟨rfl,rfl,rfl,by simp [World.setCell],?_,fun k hk=>Below.heap_setCell w ⟨g,off,none⟩ e k hk⟩
    simp only [World.setCell,Array.getElem?_modify,h]
    simp
   have h2:=mW es (off+1) _ (cs.set off e) h1.at_ (by simp;omega)
   have e1:(cs.set off e).take (off+1)++es++(cs.set off e).drop (off+1+es.length)=cs.take off++(e::es)++cs.drop (off+(e::es).length):=by
    rw [List.drop_set,if_pos (by omega)]
    have hlt:off<cs.length:=by omega
    rw [List.take_set,List.take_succ_eq_append_getElem hlt,List.set_append_right _ _ (by simp;omega)]
    simp [Nat.min_eq_left (show off≤cs.length by omega),show off+1+es.length=off+(es.length+1) by omega]
   rw [e1] at h2
   exact h1.next h2
theorem kV {T T' : TypeId} {a b:Operand} {g off n:Nat} {cs es:List Value} (ho:o.op = .store T' a b) (ha:ρ a = .pointer (some ⟨g,off,none⟩)) (hb:(ρ b).cells.toList=es) (hn:fV P T'=some n) (hlen:es.length=n)
 (h1:∀ c∈es,c.oneCell'=true) (hg:w.heap[g]?=some (.cells cs.toArray T (0,0))) (h2:off+es.length≤cs.length) :
 (execOp ρ o).run P w = .ok .skip (w.setCells g off es)∧Turned g (.cells (cs.take off++es++cs.drop (off+es.length)).toArray T (0,0)) w (w.setCells g off es):=by
 have hcell:∀ j,j<es.length→(w.cell? ⟨g,off+0+j,none⟩).isSome=true:=fun j hj=>by
  rw [uI hg,List.getElem?_eq_getElem (by omega)];rfl
 have hfr:∀ j,j<es.length→w.frozen? ⟨g,off+0+j,none⟩=false:=fun j _=>by simp [World.frozen?,hg]
 have hst:=run_storeCells_cells (P:=P) g off es 0 w hcell hfr h1
 refine ⟨?_,mW es off w cs hg h2⟩
 simp only [execOp,ho,ha,Instr.storeAt,Instr.sureAddr,Sem.run_bind,Sem.run_pure,Result.andThen,storeVar,fS hn]
 have hsz:(ρ b).cells.size=n:=by rw [← hlen,← hb];simp
 simp only [hsz,ne_eq,not_true_eq_false,if_false,hb,Sem.run_bind,Sem.run_pure,Result.andThen]
 have hst' : (storeCells ⟨g,off,none⟩ es).run P w = .ok () (w.setCells g off es):=by simpa using hst
 rw [hst']
theorem opA_put {k off:Nat} {m l l' : List (Seg Kc)} {g:Nat} {cs:List Value} {T:TypeId} (h:opA P ev bl o = .put k off m) (hs:∀ y∈o.op.operands,(ev y).holds β (ρ y) w)
 (hk:β[k]?=some g) (hg:w.heap[g]?=some (.cells cs.toArray T (0,0))) (hl:holdsL β l cs w) (hr:wI l off m=some l') :
 ∃ ds w',(execOp ρ o).run P w = .ok .skip w'∧Turned g (.cells ds.toArray T (0,0)) w w'∧holdsL β l' ds w:=by
 have key:∀ (T' : TypeId) (a b:Operand) (n:Nat) (v:Value) (es:List Value),o.op = .store T' a b→ρ a = .pointer (some ⟨g,off,none⟩)→ρ b=v→v.cells.toList=es→fV P T'=some n→es.length=n→holdsL β m es w →
  ∃ ds w',(execOp ρ o).run P w = .ok .skip w'∧Turned g (.cells ds.toArray T (0,0)) w w'∧holdsL β l' ds w:=by
  intro T' a b n v es ho ha hb hv hn hlen hm
  obtain ⟨h1,h2⟩:=lY hr hl hm
  obtain ⟨h3,h4⟩:=kV (P:=P) ho ha (by rw [hb];exact hv) hn hlen (holdsL.one hm) hg h2
  exact ⟨_,_,h3,h4,h1⟩
 obtain ⟨dst,op,type,pos,after,guard⟩:=o
 cases op <;> simp only [opA] at h
 case store T' a b =>
  have ha:=hs a (by simp [Op.operands])
  have hb:=hs b (by simp [Op.operands])
  split at h
  ·rename_i k' off' s n h1 h2 h3
   split at h
   ·rename_i hc
    injection h with e1 e2 e3
    subst e1
    subst e2
    subst e3
    simp only [Bool.and_eq_true,beq_iff_eq] at hc
    rw [h1] at ha
    rw [h2] at hb
    obtain ⟨g',hg',hv⟩:=fX ha
    rw [hk] at hg'
    injection hg' with hg'
    subst hg'
    exact key T' a b n _ [ρ b] rfl hv rfl (by rw [nA hb]) h3 (by simp;omega) (holdsL.single hb)
   ·cases h
  ·rename_i k' off' mm n h1 h2 h3
   split at h
   ·rename_i hc
    injection h with e1 e2 e3
    subst e1
    subst e2
    subst e3
    simp only [beq_iff_eq] at hc
    rw [h1] at ha
    rw [h2] at hb
    obtain ⟨g',hg',hv⟩:=fX ha
    rw [hk] at hg'
    injection hg' with hg'
    subst hg'
    obtain ⟨es,he,hm⟩:=hb
    exact key T' a b n _ es rfl hv rfl (by rw [he];rfl) h3 (by rw [hm.len];exact hc) hm
   ·cases h
  ·cases h
 case slice T' y lo hi mx=>cases lo <;> cases hi <;> cases mx <;> simp only at h <;> (repeat' (first|(cases h;done)|split at h))
 case makeFunc fn first cap=>cases fn <;> simp only at h <;> (repeat' (first|(cases h;done)|split at h))
 all_goals (repeat' (first|(cases h;done)|(unfold mV at h)|(unfold iK at h)|split at h))
end Ab
section
open Go.RowKit
section
variable {P:Program} {ops:Array Oper} {K:Value→Bool} {T:List Nat} {w0:World} {a0:Act} {Q:Act→World→Prop} {o:Oper} {rest:List Oper} {g:List Ent}
theorem wanted_is {A:Act} {j:Nat} {want b:Bool} {d:Tmp} (hg:o.guard=some (j,want)) (hd:(ops[j]?).bind (·.dst)=some d) (h:A.eval (.tmp d) = .bool b) :
 Region.wanted o (yielded ops A.tmps)=(b==want):=by
 have hy:yielded ops A.tmps j=some b:=by
  unfold yielded
  rw [hd]
  have h2:A.tmps[d]?.getD undef = .bool b:=by simpa [Act.eval] using h
  cases h3:A.tmps[d]? with
  | none=>rw [h3] at h2;cases h2
  | some v =>
    rw [h3] at h2
    have h4:v = .bool b:=h2
    subst h4
    simp [h3]
 unfold Region.wanted
 rw [hg]
 simp [hy]
theorem guard_looks {j:Nat} {want:Bool} {d:Tmp} (hg:o.guard=some (j,want)) (hd:(ops[j]?).bind (·.dst)=some d):d∈o.looksAt ops:=by
 unfold Oper.looksAt
 rw [hg]
 simp only [List.mem_append]
 exact .inr (by rw [hd];simp)
end
end
namespace Ab
open Go.RowKit
variable {Kc:Value→Bool}
structure St (Kc:Value→Bool) where
 slots:List (AV Kc)
 blocks:List (TypeId×List (Seg Kc))
 ro:Nat
inductive AKd (Kc:Value→Bool) where
 | val (x:AV Kc)
 | new (T:TypeId) (vs:List Value)
 | put (d:Tmp) (T:TypeId) (l:List (Seg Kc))
 | old (k:Nat) (T:TypeId) (l:List (Seg Kc))
abbrev AE (Kc:Value→Bool):=Option Tmp×AKd Kc
inductive Cfg (Kc:Value→Bool) where
 | items (todo:List Item) (st:St Kc)
 | plain (ops:Array Oper) (rest:List Oper) (k:List Item) (st:St Kc)
 | drawn (ops:Array Oper) (rest:List Oper) (k:List Item) (st:St Kc) (Ty:List TypeId) (es:List (AE Kc))
def evL (sl:Tmp→AV Kc):Operand→AV Kc
 | .tmp t=>sl t
 | .const v=>mY v
 | .func f => .fv (.sc (.lit (.func (.func f) #[] #[])))
 | .global _ => .un
def St.slot (st:St Kc) (t:Tmp):AV Kc:=st.slots.getD t .un
def FV.kill:FV Kc→FV Kc
 | .nsl .. => .un
 | f=>f
def AV.kill:AV Kc→AV Kc
 | .fv f => .fv f.kill
 | .tup l => .tup (l.map FV.kill)
def kW (st:St Kc):List (AE Kc)→Tmp→AV Kc
 | [],t=>(st.slot t).kill
 | (dst,kd)::es,t=>if dst==some t then (match kd with | .val x=>x|_ => .un) else kW st es t
def AV.killT (T:TypeId) (x:AV Kc):AV Kc:=match x with
 | .fv (.nsl n T' l)=>if T==T' then .un else .fv (.nsl n T' l)
 | .fv f => .fv f
 | .tup l => .tup (l.map FV.kill)
def setS (sl:List (AV Kc)) (dst:Option Tmp) (x:AV Kc):List (AV Kc):=match dst with|some d=>sl.set d x|none=>sl
def St.put (st:St Kc) (dst:Option Tmp) (x:AV Kc):St Kc := { st with slots:=setS st.slots dst x }
def sV (sl:Tmp→AV Kc) (ops:Array Oper) (o:Oper):Option Bool :=
 match o.guard with
 | none=>some true
 | some (j,want)=>match (ops[j]?).bind (·.dst) with
   | some d=>match sl d with | .fv (.sc (.lit (.bool b)))=>some (b==want) | .tup []=>some false|_=>none
   | none=>none
def coldL (l:List (Seg Kc)):Bool:=l.all Seg.cold
def uL (P:Program) (st:St Kc) (o:Oper):OR Kc→Option (St Kc)
 | .val x=>some (st.put o.dst x)
 | .new T l=>match o.dst with
   | some d=>some { st with slots:=st.slots.set d (.fv (.sc (.ptr st.blocks.length 0))),blocks:=st.blocks ++ [(T,l)] }
   | none=>none
 | .nsl n T l=>some (st.put o.dst (.fv (.nsl n T l)))
 | .put k off m=>match st.blocks[k]?,o.dst with
   | some (T,l),none=>match wI l off m with
     | some l'=>if st.ro≤k∧coldL l=true then some { st with slots:=st.slots.map (AV.killT T),blocks:=st.blocks.set k (T,l') } else none
     | none=>none
   | _,_=>none
 | _=>none
def confl (st:St Kc) (ops:Array Oper) (o:Oper) (k:Nat):Bool :=
 match o.op with
 | .store _ (.tmp t) _=>match ops.toList.find? (fun o'=>o'.dst==some t) with
   | some o'=>(match o'.op with | .alloc _=>false|_=>true)
   | none=>match st.slot t with | .fv (.sc (.ptr k' _))=>k'==k|_=>true
 | .store .. => true
 | _=>false
def iL (st:St Kc) (ops:Array Oper) (i k:Nat):Bool :=
 (List.range ops.size).all fun j=>match ops[j]? with
  | some o => !confl st ops o k || j==i || o.after.any fun e=>Region.binds .any e&&e.on==i
  | none=>true
def newOf (es:List (AE Kc)) (d:Tmp):Option (TypeId×List Value):=(es.find? fun e=>e.1==some d).bind fun e=>match e.2 with | .new T vs=>some (T,vs)|_=>none
def uM (ops:Array Oper) (st:St Kc) (i:Nat):List (Option (TypeId×List (Seg Kc))):=st.blocks.zipIdx.map fun p=>if iL st ops i p.2 then some p.1 else none
def uN (P:Program) (ops:Array Oper) (st:St Kc) (Ty:List TypeId) (es:List (AE Kc)) (o:Oper):OR Kc→Option (AE Kc)
 | .val x=>if x.okT Ty then some (o.dst,.val x) else none
 | .new T l=>match uG l,o.op with
   | some vs,.alloc _=>if kT Kc Ty (.cells vs.toArray T (0,0))=false∧o.guard=none∧o.dst.isSome=true then some (o.dst,.new T vs) else none
   | _,_=>none
 | .nsl n T l=>if Ty.contains T then some (o.dst,.val (.fv (.nsl n T l))) else none
 | .put k off m=>match st.blocks[k]?,o.dst,o.guard with
   | some (T,l),none,none=>match wI l off m with
     | some l'=>if st.ro≤k∧coldL l=true∧Ty.contains T=false then some (none,.old k T l') else none
     | none=>none
   | _,_,_=>none
 | _=>none
def putNew (P:Program) (st:St Kc) (es:List (AE Kc)) (o:Oper):Option (AE Kc) :=
 match o.op,o.dst,o.guard with
 | .store T (.tmp d) y,none,none=>match newOf es d,fV P T,evL (kW st es) y with
   | some (T',vs),some n,.fv (.sc s)=>if n==1&&s.size==1&&vs.all (·.oneCell') then (wI (vs.map .lit) 0 [s]).map fun l'=>(none,.put d T' l') else none
   | some (T',vs),some n,.fv (.ag m)=>if gK m==n&&vs.all (·.oneCell') then (wI (vs.map .lit) 0 m).map fun l'=>(none,.put d T' l') else none
   | _,_,_=>none
 | _,_,_=>none
def iW (es:List (AE Kc)):List (Tmp×TypeId×List Value):=es.reverse.filterMap fun e=>match e with|(some d,.new T vs)=>some (d,T,vs)|_=>none
def nB (es:List (AE Kc)) (d:Tmp):Option (TypeId×List (Seg Kc)):=es.findSome? fun e=>match e with|(none,.put d' T l)=>if d'==d then some (T,l) else none|_=>none
def rM (es:List (AE Kc)) (k:Nat):Option (TypeId×List (Seg Kc)):=es.findSome? fun e=>match e with|(none,.old k' T l)=>if k'==k then some (T,l) else none|_=>none
def slotE (st:St Kc) (es:List (AE Kc)) (t:Tmp):AV Kc :=
 match es.find? fun e=>e.1==some t with
 | some (_,.val x)=>x.kill
 | some (_,.new _ _)=>match (iW es).findIdx? fun n=>n.1==t with|some j => .fv (.sc (.ptr (st.blocks.length+j) 0))|none => .un
 | some _ => .un
 | none=>(st.slot t).kill
def pV (st:St Kc) (es:List (AE Kc)):St Kc :=
 { slots:=(List.range st.slots.length).map (slotE st es)
   blocks:=(st.blocks.zipIdx.map fun p=>(rM es p.2).getD p.1)++(iW es).map fun n=>(nB es n.1).getD (n.2.1,n.2.2.map .lit)
   ro:=st.ro }
def earlyA (st:St Kc) (ops:Array Oper) (es:List (AE Kc)):Bool :=
 let G:=es.reverse
 (List.range ops.size).all fun j=>match G[j]? with
  | some (none,.old k _ _)=>(List.range ops.size).all fun i => !iL st ops i k || i==j || (ops[j]?).any fun o=>o.after.any fun e=>Region.binds .any e&&e.on==i
  | _=>true
def roA (st:St Kc) (es:List (AE Kc)):Bool:=es.all fun e=>match e.2 with | .old k _ _=>decide (st.ro≤k)|_=>true
def onceA (es:List (AE Kc)):Bool :=
 decide ((es.filterMap fun e=>match e with|(none,.put d _ _)=>some d|_=>none).Nodup)&&decide ((es.filterMap fun e=>match e with|(none,.old k _ _)=>some k|_=>none).Nodup)
 && decide (((iW es).map (·.1)).Nodup)&&(iW es).all fun n=>n.2.2.all (·.oneCell')
def tysOf (P:Program) (ops:List Oper):List TypeId:=ops.filterMap fun o=>match o.op with | .buildSlice T _ _=>(match P.underlying T with|some (.slice e)=>some e|_=>none)|_=>none
def St.kill (st:St Kc):St Kc := { st with slots:=st.slots.map AV.kill }
def notSlot (y:Operand) (d:Tmp):Bool:=match y with | .tmp t=>t != d|_=>true
def fuseA (P:Program) (st:St Kc) (o:Oper) (rest:List Oper):Option (St Kc×List Oper) :=
 match o.op,o.dst,o.guard,rest with
 | .alloc T,some d,none,o2::rest'=>match o2.op,o2.dst,o2.guard with
   | .store T' (.tmp d') y,none,none=>if d'==d&&notSlot y d&&decide (d<st.slots.length) then
      match rK (Kc:=Kc) P T,fV P T',evL st.slot y with
      | some z,some n,.fv (.sc s)=>if n==1&&s.size==1&&gK z==1 then some ({ st with slots:=st.slots.set d (.fv (.sc (.ptr st.blocks.length 0))),blocks:=st.blocks ++ [(T,[s])] },rest') else none
      | some z,some n,.fv (.ag m)=>if gK m==n&&gK z==n then some ({ st with slots:=st.slots.set d (.fv (.sc (.ptr st.blocks.length 0))),blocks:=st.blocks ++ [(T,m)] },rest') else none
      | _,_,_=>none
     else none
   | _,_,_=>none
 | _,_,_,_=>none
def oO (P:Program):Cfg Kc→Option (Cfg Kc)
 | .items todo st=>match todo with
   | .code .skip::k=>some (.items k st)
   | .code (.label _)::k=>some (.items k st)
   | .inBlock _::k=>some (.items k st)
   | .inScope _::k=>some (.items k st)
   | .code (.seq x y)::k=>some (.items (.code x :: .code y::k) st)
   | .code (.cond c x y)::k=>match evL st.slot c with
     | .fv (.sc (.lit (.bool t)))=>some (.items (.code (if t then x else y)::k) st)
     | _=>none
   | .code (.block id c)::k=>some (.items (.code c :: .inBlock id::k) st)
   | .code (.scope c)::k=>some (.items (.code c :: .inScope c::k) st)
   | .code (.loop c)::k=>some (.items (.code c :: .inLoop c::k) st)
   | .inLoop c::k=>some (.items (.code c :: .inLoop c::k) st)
   | .code (.exit id)::k=>(exitTo id k).map fun k' => .items k' st
   | .code (.region _ ops false)::k=>some (.plain ops ops.toList k st)
   | .code (.region _ ops true)::k=>if Region.tyB .any ops st.slots.length then some (.drawn ops ops.toList k st (tysOf P ops.toList) []) else none
   | _=>none
 | .plain ops rest k st=>match rest with
   | []=>some (.items k st.kill)
   | o::rest=>match fuseA P st o rest with
    | some (st',rest')=>some (.plain ops rest' k st')
    | none=>match sV st.slot ops o with
     | some true=>(uL P st o (opA P (evL st.slot) (st.blocks.map some) o)).map fun st' => .plain ops rest k st'
     | some false=>some (.plain ops rest k (st.put o.dst (.tup [])))
     | none=>none
 | .drawn ops rest k st Ty es=>match rest with
   | []=>if onceA es&&earlyA st ops es&&roA st es then some (.items k (pV st es)) else none
   | o :: rest=>match putNew P st es o with
     | some e=>some (.drawn ops rest k st Ty (e::es))
     | none=>match sV (kW st es) ops o with
       | some true=>(uN P ops st Ty es o (opA P (evL (kW st es)) (uM ops st es.length) o)).map fun e => .drawn ops rest k st Ty (e::es)
       | some false=>some (.drawn ops rest k st Ty ((o.dst,.val (.tup []))::es))
       | none=>none
def dB (P:Program):Nat→Cfg Kc→Cfg Kc
 | 0,c=>c
 | n+1,c=>match oO P c with|some c'=>dB P n c'|none=>c
def Cfg.op:Cfg Kc→Option Oper
 | .plain ops (o::_) _ st=>if sV st.slot ops o=some true then some o else none
 | .drawn ops (o::_) _ st _ es=>if sV (kW st es) ops o=some true then some o else none
 | _=>none
def Cfg.ev:Cfg Kc→Operand→AV Kc
 | .items _ st=>evL st.slot
 | .plain _ _ _ st=>evL st.slot
 | .drawn _ _ _ st _ es=>evL (kW st es)
def Cfg.mem:Cfg Kc→List (Option (TypeId×List (Seg Kc)))
 | .items _ st=>st.blocks.map some
 | .plain _ _ _ st=>st.blocks.map some
 | .drawn ops _ _ st _ es=>uM ops st es.length
def Cfg.okT (c:Cfg Kc) (x:AV Kc):Bool:=match c with
 | .drawn _ _ _ _ Ty _=>x.okT Ty
 | _=>true
def Cfg.give (c:Cfg Kc) (x:AV Kc):Cfg Kc:=match c with
 | .plain ops (o::rest) k st => .plain ops rest k (st.put o.dst x)
 | .drawn ops (o::rest) k st Ty es => .drawn ops rest k st Ty ((o.dst,.val x)::es)
 | c=>c
def Cfg.callee (P:Program) (c:Cfg Kc):Option FuncId:=match c.op with
 | some o=>match opA P c.ev c.mem o with | .call f _=>some f|_=>none
 | none=>none
def Cfg.args (P:Program) (c:Cfg Kc):List (AV Kc):=match c.op with
 | some o=>match opA P c.ev c.mem o with | .call _ l=>l|_ => []
 | none => []
def resA (P:Program) (st:St Kc):List ResultVar→Option (List (FV Kc))
 | []=>some []
 | .tmp t::l=>match st.slot t with | .fv f=>(resA P st l).map (f :: ·)|_=>none
 | .cell t T::l=>match st.slot t with
   | .fv (.sc (.ptr k off))=>match st.blocks[k]? with
     | some (_,m)=>match mV P T m off with | .val (.fv f)=>(resA P st l).map (f :: ·)|_=>none
     | none=>none
   | _=>none
def Cfg.res (P:Program) (fn:Func):Cfg Kc→Option (AV Kc)
 | .items todo st=>match todo with
   | [] | .code .ret::_=>match resA P st fn.results.toList with
     | some [f]=>some (.fv f)
     | some l=>some (.tup l)
     | none=>none
   | _=>none
 | _=>none
end Ab
namespace Ab
open Go.RowKit
variable {Kc:Value→Bool}
section
variable (P:Program) (f:FuncId) (w00:World) (Out:Value→World→Prop)
def Rets (e:Ending) (w' : World):Prop := ∃ v,e = .returned v∧Below w00.heap.size w00 w'∧Out v w'
def xC:Frame := { (default:Frame) with fn:=f,kind := .normal }
def Runs (todo:List Item) (a:Act) (w:World):Prop :=
 ∀ cs,∃ e w' fr,Rets w00 Out e w'∧Comes P (lone ((xC f).at a todo) cs w) (lone fr cs w') e∧fr.fn=f∧fr.leaving P w' e
def QN (k:List Item):Exit→Act→World→Prop:=fun e a w=>e = .normal∧Runs P f w00 Out k a w
structure Rep (st:St Kc) (β:List Nat) (a:Act) (w:World):Prop where
 defers:a.defers = []
 size:a.tmps.size=st.slots.length
 slots:∀ t,(st.slot t).holds β (a.eval (.tmp t)) w
 len:β.length=st.blocks.length
 nodup:β.Nodup
 mem:Mem β (st.blocks.map some) w
 lt:∀ g∈β,g<w.heap.size
 own:∀ (k g:Nat),β[k]?=some g→k<st.ro∨w00.heap.size≤g
 below:Below w00.heap.size w00 w
end
section
variable {P:Program} {f:FuncId} {w00:World} {Out:Value→World→Prop} {st:St Kc} {β:List Nat} {a:Act} {w:World}
theorem Runs.step {todo todo' : List Item} {a' : Act} {w' : World} (h:∀ cs,step P (lone ((xC f).at a todo) cs w) = .next (lone ((xC f).at a' todo') cs w')) (hr:Runs P f w00 Out todo' a' w'):Runs P f w00 Out todo a w:=by
 intro cs
 obtain ⟨e,w2,fr,h1,h2,h3⟩:=hr cs
 exact ⟨e,w2,fr,h1,Comes.of_steps (.one (h cs)) h2,h3⟩
theorem Runs.of_wp {c:Code} {k:List Item} (h:c.wp P (QN P f w00 Out k) a w):Runs P f w00 Out (.code c::k) a w:=by
 intro cs
 obtain ⟨e,a',w',⟨he,hr⟩,harr⟩:=h (xC f) k cs
 subst he
 obtain ⟨e,w2,fr,h1,h2,h3⟩:=hr cs
 exact ⟨e,w2,fr,h1,Comes.of_steps harr h2,h3⟩
theorem Rep.ev (h:Rep w00 st β a w) (y:Operand):(evL st.slot y).holds β (a.eval y) w:=by
 cases y with
 | tmp t=>exact h.slots t
 | const v=>exact fW v
 | func f=>exact ⟨rfl,rfl⟩
 | global g=>trivial
theorem rN {sl:List (AV Kc)} {bl ro} {dst:Option Tmp} {x:AV Kc} {v:Value} {a:Act} (hs:a.tmps.size=sl.length) (h:∀ t,(sl.getD t .un).holds β (a.eval (.tmp t)) w) (hx:x.holds β v w) (t:Tmp) :
 (({ slots:=setS sl dst x,blocks:=bl,ro:=ro }:St Kc).slot t).holds β ((a.put dst v).eval (.tmp t)) w:=by
 unfold St.slot
 cases dst with
 | none=>exact h t
 | some d =>
   simp only [setS]
   by_cases hd:d=t
   ·subst hd
    by_cases hlt:d<sl.length
    ·rw [Go.Proofs.YtpjknnddanhgkaaGreatDoor.Act.eval_put_hit (show d<a.tmps.size by rw [hs];exact hlt)]
     simp only [List.getD_eq_getElem?_getD,List.getElem?_set_self hlt,Option.getD_some]
     exact hx
    ·rw [List.getD_eq_getElem?_getD,List.getElem?_eq_none (show (sl.set d x).length≤d by rw [List.length_set];exact Nat.le_of_not_lt hlt)]
     trivial
   ·rw [Go.Proofs.YtpjknnddanhgkaaGreatDoor.Act.eval_put_miss (by simpa using hd)]
    have:=h t
    rw [List.getD_eq_getElem?_getD] at this ⊢
    rw [List.getElem?_set_ne hd]
    exact this
theorem setS_len {sl:List (AV Kc)} {dst:Option Tmp} {x:AV Kc}:(setS sl dst x).length=sl.length:=by
 cases dst <;> simp [setS]
theorem Rep.put (h:Rep w00 st β a w) {x:AV Kc} {v:Value} {dst:Option Tmp} (hx:x.holds β v w):Rep w00 (st.put dst x) β (a.put dst v) w :=
 ⟨by rw [Go.Proofs.YtpjknnddanhgkaaGreatDoor.Act.put_defers];exact h.defers,by rw [Go.Proofs.YtpjknnddanhgkaaGreatDoor.Act.put_size];simp only [St.put];rw [setS_len];exact h.size,rN h.size h.slots hx,h.len,h.nodup,h.mem,h.lt,h.own,h.below⟩
theorem Rep.grow (h:Rep w00 st β a w) {w' : World} (hb:Below w.heap.size w w'):Rep w00 st β a w':=by
 refine ⟨h.defers,h.size,fun t=>AV.below (h.slots t) hb,h.len,h.nodup,fun k T l hk=>?_,fun g hg=>Nat.lt_of_lt_of_le (h.lt g hg) hb.size,h.own,?_⟩
 ·obtain ⟨g,cs,h1,h2,h3⟩:=h.mem k T l hk
  exact ⟨g,cs,h1,(hb.block g (lt_of_block h2)).trans h2,h3.ext (Go.Proofs.YtpjknnddanhgkaaGreatDoor.Ext.of_below hb)⟩
 ·exact h.below.trans (hb.mono h.below.size)
theorem gN (w:World) (o:Obj):Below w.heap.size w (w.alloc o):=(aB _ _).alloc (aR _) _
theorem Mem.more {bl:List (Option (TypeId×List (Seg Kc)))} {γ:List Nat} (h:Mem β bl w):Mem (β++γ) bl w:=by
 intro k T l hk
 obtain ⟨g,cs,h1,h2,h3⟩:=h k T l hk
 exact ⟨g,cs,by rw [List.getElem?_append_left (List.getElem?_eq_some_iff.1 h1).1];exact h1,h2,h3.more⟩
theorem Rep.new (h:Rep w00 st β a w) {T:TypeId} {l:List (Seg Kc)} {cs:List Value} {d:Tmp} (hl:holdsL β l cs w) :
 Rep w00 { st with slots:=st.slots.set d (.fv (.sc (.ptr st.blocks.length 0))),blocks:=st.blocks ++ [(T,l)] } (β ++ [w.heap.size]) (a.put (some d) (.pointer (some ⟨w.heap.size,0,none⟩))) (w.alloc (.cells cs.toArray T)):=by
 have hb:=gN w (.cells cs.toArray T)
 have h':=h.grow hb
 have hnew:(β ++ [w.heap.size])[st.blocks.length]?=some w.heap.size:=by rw [← h.len];simp
 refine ⟨by rw [Go.Proofs.YtpjknnddanhgkaaGreatDoor.Act.put_defers];exact h.defers,by rw [Go.Proofs.YtpjknnddanhgkaaGreatDoor.Act.put_size];simp;exact h.size,?_,by simp [h.len],?_,?_,?_,?_,h'.below⟩
 ·exact rN (dst:=some d) h.size (fun t=>AV.more (h'.slots t)) (iV hnew)
 ·rw [List.nodup_append]
  exact ⟨h.nodup,by simp,fun x hx y hy e=>by
   rw [List.mem_singleton] at hy
   have:=h.lt x hx
   omega⟩
 ·intro k T' l' hk
  rw [List.map_append,List.getElem?_append] at hk
  split at hk
  ·exact Mem.more h'.mem k T' l' hk
  ·rename_i hge
   rw [List.length_map] at hge hk
   rw [List.map_singleton] at hk
   have hk0:k-st.blocks.length=0:=by
    rcases Nat.eq_zero_or_pos (k-st.blocks.length) with e|e
    ·exact e
    ·rw [List.getElem?_eq_none (by simp;omega)] at hk;cases hk
   rw [hk0] at hk
   simp only [List.getElem?_cons_zero,Option.some.injEq,Prod.mk.injEq] at hk
   obtain ⟨rfl,rfl⟩:=hk
   have hke:k=st.blocks.length:=by omega
   subst hke
   exact ⟨w.heap.size,cs,hnew,heap_alloc_new w _,(hl.ext (Go.Proofs.YtpjknnddanhgkaaGreatDoor.Ext.of_below hb)).more⟩
 ·intro g hg
  rw [show (w.alloc (.cells cs.toArray T)).heap.size=w.heap.size+1 by simp]
  rcases List.mem_append.1 hg with hg|hg
  ·have:=h.lt g hg;omega
  ·rw [List.mem_singleton] at hg;omega
 ·intro k g hk
  rw [List.getElem?_append] at hk
  split at hk
  ·exact h.own k g hk
  ·have:=List.mem_of_getElem? hk
   rw [List.mem_singleton] at this
   subst this
   exact .inr h.below.size
theorem Rep.own_new (h:Rep w00 st β a w) {T:TypeId} {l:List (Seg Kc)} {cs:List Value} {d:Tmp} {g:Nat} (hg:g∉β) (hge:w00.heap.size≤g) (hlt:g<w.heap.size) (hh:w.heap[g]?=some (.cells cs.toArray T (0,0))) (hl:holdsL β l cs w) :
 Rep w00 { st with slots:=st.slots.set d (.fv (.sc (.ptr st.blocks.length 0))),blocks:=st.blocks ++ [(T,l)] } (β ++ [g]) (a.put (some d) (.pointer (some ⟨g,0,none⟩))) w:=by
 have hnew:(β ++ [g])[st.blocks.length]?=some g:=by rw [← h.len];simp
 refine ⟨by rw [Go.Proofs.YtpjknnddanhgkaaGreatDoor.Act.put_defers];exact h.defers,by rw [Go.Proofs.YtpjknnddanhgkaaGreatDoor.Act.put_size];simp;exact h.size,?_,by simp [h.len],?_,?_,?_,?_,h.below⟩
 ·exact rN (dst:=some d) h.size (fun t=>AV.more (h.slots t)) (iV hnew)
 ·rw [List.nodup_append]
  exact ⟨h.nodup,by simp,fun x hx y hy e=>by
   rw [List.mem_singleton] at hy
   subst hy
   subst e
   exact hg hx⟩
 ·intro k T' l' hk
  rw [List.map_append,List.getElem?_append] at hk
  split at hk
  ·exact Mem.more h.mem k T' l' hk
  ·rename_i hge'
   rw [List.length_map] at hge' hk
   rw [List.map_singleton] at hk
   have hk0:k-st.blocks.length=0:=by
    rcases Nat.eq_zero_or_pos (k-st.blocks.length) with e|e
    ·exact e
    ·rw [List.getElem?_eq_none (by simp;omega)] at hk;cases hk
   rw [hk0] at hk
   simp only [List.getElem?_cons_zero,Option.some.injEq,Prod.mk.injEq] at hk
   obtain ⟨rfl,rfl⟩:=hk
   have hke:k=st.blocks.length:=by omega
   subst hke
   exact ⟨g,cs,hnew,hh,hl.more⟩
 ·intro g' hg'
  rcases List.mem_append.1 hg' with hg'|hg'
  ·exact h.lt g' hg'
  ·rw [List.mem_singleton] at hg';omega
 ·intro k g' hk
  rw [List.getElem?_append] at hk
  split at hk
  ·exact h.own k g' hk
  ·have:=List.mem_of_getElem? hk
   rw [List.mem_singleton] at this
   subst this
   exact .inr hge
theorem killT_holds {T:TypeId} {x:AV Kc} {v:Value} {w w' : World} {g:Nat} {o:Obj} {cs0:Array Value} (ht:Turned g o w w') (h0:w.heap[g]?=some (.cells cs0 T (0,0))) (hx:Go.Proofs.YtpjknnddanhgkaaGreatDoor.Ext Kc w w') (h:x.holds β v w):(x.killT T).holds β v w':=by
 have hF:∀ {y:FV Kc} {u:Value},y.holds β u w→y.kill.holds β u w':=fun {y u} hy=>by
  cases y with
  | sc s=>exact Seg.ext hy hx
  | ag l=>obtain ⟨cs,e,hl⟩:=hy;exact ⟨cs,e,hl.ext hx⟩
  | nsl n T l=>trivial
  | clo F a b=>obtain ⟨xs,ys,e,h1,h2⟩:=hy;exact ⟨xs,ys,e,h1.ext hx,h2.ext hx⟩
  | un=>trivial
 cases x with
 | fv y =>
   cases y with
   | clo F a b=>exact hF (y := .clo F a b) h
   | nsl n T' l =>
     simp only [AV.killT]
     split
     ·trivial
     ·rename_i hne
      obtain ⟨g',cs,e,hg,hl⟩:=h
      refine ⟨g',cs,e,?_,hl.ext hx⟩
      have:g'≠g:=fun e=>by
       subst e
       rw [h0] at hg
       injection hg with hg
       injection hg with _ hg
       exact hne (by simpa using hg)
      rw [ht.block g' this];exact hg
   | sc s=>exact hF (y := .sc s) h
   | ag l=>exact hF (y := .ag l) h
   | un=>trivial
 | tup l =>
   obtain ⟨vs,e,hl⟩:=h
   refine ⟨vs,e,?_⟩
   clear e
   induction l generalizing vs with
   | nil=>exact hl
   | cons y l ih =>
     obtain ⟨v,r,e,h1,h2⟩:=hl
     exact ⟨v,r,e,hF h1,ih _ h2⟩
theorem Rep.store (hK:KOk Kc) (h:Rep w00 st β a w) {k g:Nat} {T:TypeId} {l l' : List (Seg Kc)} {cs ds:List Value} {w' : World} (hk:st.blocks[k]?=some (T,l)) (hg:β[k]?=some g)
 (hh:w.heap[g]?=some (.cells cs.toArray T (0,0))) (hl:holdsL β l cs w) (hc:coldL l=true) (hro:st.ro≤k) (ht:Turned g (.cells ds.toArray T (0,0)) w w') (hd:holdsL β l' ds w) :
 Rep w00 { st with slots:=st.slots.map (AV.killT T),blocks:=st.blocks.set k (T,l') } β a w':=by
 have hcold:Go.Proofs.YtpjknnddanhgkaaGreatDoor.hotObj Kc (.cells cs.toArray T (0,0))=false:=by
  simp only [Go.Proofs.YtpjknnddanhgkaaGreatDoor.hotObj]
  rw [Array.any_eq_false']
  intro c hm
  simpa using holdsL.iscold hK hl hc c (by simpa using hm)
 have hx:Go.Proofs.YtpjknnddanhgkaaGreatDoor.Ext Kc w w':=by
  refine ⟨by rw [ht.size];exact aR _,fun g' o hg' ho=>?_⟩
  by_cases e:g'=g
  ·subst e
   rw [hh] at hg'
   injection hg' with hg'
   subst hg'
   rw [hcold] at ho
   cases ho
  ·rw [ht.block g' e];exact hg'
 have hge:w00.heap.size≤g:=(h.own k g hg).resolve_left (by omega)
 refine ⟨h.defers,by simp;exact h.size,fun t=>?_,by simp [h.len],h.nodup,?_,fun g' hg'=>by rw [ht.size];exact h.lt g' hg',h.own,?_⟩
 ·have:=killT_holds (β:=β) ht hh hx (h.slots t)
  unfold St.slot at this ⊢
  simp only [List.getD_eq_getElem?_getD,List.getElem?_map] at this ⊢
  cases he:st.slots[t]? with
  | none=>trivial
  | some y=>rw [he] at this;exact this
 ·intro k' T' m hk'
  rw [List.getElem?_map] at hk'
  by_cases e:k'=k
  ·subst e
   rw [List.getElem?_set_self (List.getElem?_eq_some_iff.1 hk).1] at hk'
   simp only [Option.map_some,Option.some.injEq,Prod.mk.injEq] at hk'
   obtain ⟨rfl,rfl⟩:=hk'
   exact ⟨g,ds,hg,ht.at_,hd.ext hx⟩
  ·rw [List.getElem?_set_ne (Ne.symm e),← List.getElem?_map] at hk'
   obtain ⟨g',cs',h1,h2,h3⟩:=h.mem k' T' m hk'
   have:g'≠g:=fun e'=>by subst e';exact e (rJ h.nodup h1 hg)
   exact ⟨g',cs',h1,by rw [ht.block g' this];exact h2,h3.ext hx⟩
 ·refine ⟨ht.os.trans h.below.os,ht.tape.trans h.below.tape,ht.output.trans h.below.output,by rw [ht.size];exact h.below.size,fun k' hk'=>?_⟩
  rw [ht.block k' (by omega)]
  exact h.below.block k' hk'
theorem mC {x:AV Kc} {v:Value} (h:x.holds β v w):x.kill.holds β v w:=by
 have hF:∀ {y:FV Kc} {u:Value},y.holds β u w→y.kill.holds β u w:=fun {y u} hy=>by
  cases y <;> first|exact hy|trivial
 cases x with
 | fv y=>exact hF h
 | tup l =>
   obtain ⟨vs,e,hl⟩:=h
   refine ⟨vs,e,?_⟩
   clear e
   induction l generalizing vs with
   | nil=>exact hl
   | cons y l ih =>
     obtain ⟨v,r,e,h1,h2⟩:=hl
     exact ⟨v,r,e,hF h1,ih _ h2⟩
theorem Rep.kill (h:Rep w00 st β a w):Rep w00 st.kill β a w:=by
 refine ⟨h.defers,by simp [St.kill];exact h.size,fun t=>?_,h.len,h.nodup,h.mem,h.lt,h.own,h.below⟩
 have:=mC (h.slots t)
 unfold St.slot St.kill at *
 simp only [List.getD_eq_getElem?_getD,List.getElem?_map] at this ⊢
 cases he:st.slots[t]? with
 | none=>trivial
 | some y=>rw [he] at this;exact this
theorem xD {ops:Array Oper} {o:Oper} {A:Act} {j:Nat} {want:Bool} {d:Tmp} (hg:o.guard=some (j,want)) (hd:(ops[j]?).bind (·.dst)=some d) (h:A.eval (.tmp d) = .tuple #[]) :
 Region.wanted o (yielded ops A.tmps)=false:=by
 have hy:yielded ops A.tmps j=none:=by
  unfold yielded
  rw [hd]
  have h2:A.tmps[d]?.getD undef = .tuple #[]:=by simpa [Act.eval] using h
  cases h3:A.tmps[d]? with
  | none=>simp [h3]
  | some v =>
    rw [h3] at h2
    have h4:v = .tuple #[]:=h2
    subst h4
    simp [h3]
 unfold Region.wanted
 rw [hg]
 simp [hy]
theorem Rep.wants (h:Rep w00 st β a w) {ops:Array Oper} {o:Oper} {b:Bool} (hw:sV st.slot ops o=some b):Region.wanted o (yielded ops a.tmps)=b:=by
 unfold sV at hw
 split at hw
 ·rename_i hg
  injection hw with hw
  subst hw
  simp [Region.wanted,hg]
 ·rename_i j want hg
  split at hw
  ·rename_i d hd
   split at hw
   ·rename_i b' hb
    injection hw with hw
    have:=h.slots d
    rw [hb] at this
    have hv:=aO this
    rw [Go.Proofs.YtpjknnddanhgkaaGreatDoor.wanted_is hg hd hv]
    exact hw
   ·rename_i hb
    injection hw with hw
    subst hw
    have:=h.slots d
    rw [hb] at this
    obtain ⟨vs,e,e2⟩:=this
    rw [show vs = [] from e2] at e
    exact xD hg hd e
   ·cases hw
  ·cases hw
end
end Ab
namespace Ab
open Go.RowKit
variable {Kc:Value→Bool}
def kZ (β:List Nat):AKd Kc→Kd
 | .val x => .val fun v w=>x.holds β v w
 | .new T vs => .new (.cells vs.toArray T (0,0))
 | .put d T l => .put d fun o w => ∃ cs:List Value,o = .cells cs.toArray T (0,0)∧holdsL β l cs w
 | .old k T l => .old k fun o w => ∃ cs:List Value,o = .cells cs.toArray T (0,0)∧holdsL β l cs w
def iX (β:List Nat) (e:AE Kc):Ent:=⟨e.1,kZ β e.2⟩
section
variable (P:Program) (f:FuncId) (w00:World) (Out:Value→World→Prop)
def iY:Cfg Kc→Prop
 | .items todo st => ∀ β a w,Rep w00 st β a w→Runs P f w00 Out todo a w
 | .plain ops rest k st => ∀ β a w,Rep w00 st β a w→wpList P ops (QN P f w00 Out k) rest a w
 | .drawn ops rest k st Ty es => ∀ β a w,Rep w00 st β a w→wpTy P ops (kT Kc Ty) β (fun i k=>iL st ops i k) w a (fun a w=>Runs P f w00 Out k a w) rest (es.map (iX β))
end
section
variable {P:Program} {f:FuncId} {w00:World} {Out:Value→World→Prop}
theorem good_items (hm:P.follows .mixedOrders=true) {todo:List Item} {st:St Kc} {c' : Cfg Kc} (h:oO P (.items todo st)=some c') (hg:iY P f w00 Out c'):iY P f w00 Out (.items todo st):=by
 intro β a w hR
 simp only [oO] at h
 split at h
 ·injection h with h;subst h;exact Runs.step (fun cs=>step_skip) (hg β a w hR)
 ·injection h with h;subst h;exact Runs.step (fun cs=>step_label) (hg β a w hR)
 ·injection h with h;subst h;exact Runs.step (fun cs=>step_inBlock) (hg β a w hR)
 ·injection h with h;subst h;exact Runs.step (fun cs=>step_inScope) (hg β a w hR)
 ·injection h with h;subst h;exact Runs.step (fun cs=>step_seq) (hg β a w hR)
 ·rename_i c x y k
  split at h
  ·rename_i t hc
   injection h with h
   subst h
   have hv:=hR.ev c
   rw [hc] at hv
   exact Runs.step (fun cs=>step_cond (aO hv)) (hg β a w hR)
  ·cases h
 ·injection h with h;subst h;exact Runs.step (fun cs=>step_block) (hg β a w hR)
 ·injection h with h;subst h;exact Runs.step (fun cs=>step_scope) (hg β a w hR)
 ·injection h with h;subst h;exact Runs.step (fun cs=>step_loop) (hg β a w hR)
 ·injection h with h;subst h;exact Runs.step (fun cs=>step_inLoop) (hg β a w hR)
 ·rename_i id k
  rw [Option.map_eq_some_iff] at h
  obtain ⟨k',hk,h⟩:=h
  subst h
  exact Runs.step (fun cs=>step_exit hk) (hg β a w hR)
 ·injection h with h
  subst h
  exact Runs.of_wp (wp_region_list (hg β a w hR))
 ·rename_i id ops k
  split at h
  ·rename_i hty
   injection h with h
   subst h
   have:=hg β a w hR
   refine Runs.of_wp (wp_mono (Q:=fun e a w=>e = .normal∧Runs P f w00 Out k a w) ?_ (fun _ _ _ h=>h))
   obtain ⟨l⟩:=ops
   refine wp_region_ty (kT Kc (tysOf P l)) β (fun i k=>iL st l.toArray i k) hR.nodup hR.lt hm (by rw [hR.size];exact hty) ?_
   simpa [Exit,true_and] using this
  ·cases h
 ·cases h
theorem wpList_skip {ops:Array Oper} {Q:Exit→Act→World→Prop} {o:Oper} {rest:List Oper} {a:Act} {w:World} (hw:Region.wanted o (yielded ops a.tmps)=false) (h:wpList P ops Q rest (a.put o.dst undef) w):wpList P ops Q (o::rest) a w:=by
 unfold wpList
 rw [if_neg (by rw [hw];simp)]
 exact h
theorem jZ {ops:Array Oper} {Q:Exit→Act→World→Prop} {o:Oper} {rest:List Oper} {a:Act} {w:World} (hw:Region.wanted o (yielded ops a.tmps)=true) (h:o.wp P a w (wpList P ops Q rest) Q):wpList P ops Q (o::rest) a w:=by
 unfold wpList
 rw [if_pos hw]
 exact .inl h
theorem good_fuse {ops:Array Oper} {o:Oper} {rest rest' : List Oper} {k:List Item} {st st' : St Kc} (h:fuseA P st o rest=some (st',rest')) (hg:iY P f w00 Out (.plain ops rest' k st')):iY P f w00 Out (.plain ops (o::rest) k st):=by
 intro β a w hR
 unfold fuseA at h
 split at h
 ·rename_i T d o2 rest2 hop hdst hgd
  split at h
  ·rename_i T' d' y hop2 hdst2 hgd2
   split at h
   ·rename_i hc
    simp only [Bool.and_eq_true,beq_iff_eq,decide_eq_true_eq] at hc
    obtain ⟨⟨hc1,hc2⟩,hc3⟩:=hc
    subst hc1
    have core:∀ (z m:List (Seg Kc)) (n:Nat) (es:List Value),rK (Kc:=Kc) P T=some z→fV P T'=some n→gK m=n→gK z=n→(a.eval y).cells.toList=es→holdsL β m es w →
     iY P f w00 Out (.plain ops rest2 k { st with slots:=st.slots.set d' (.fv (.sc (.ptr st.blocks.length 0))),blocks:=st.blocks ++ [(T,m)] })→wpList P ops (QN P f w00 Out k) (o::o2::rest2) a w:=by
     intro z m n es hz hn hm hzn hes hl hgood
     have hal:opA (Kc:=Kc) P (evL st.slot) (st.blocks.map some) o = .new T z:=by simp only [opA,hop,hz]
     obtain ⟨cs,e,hcs⟩:=yO (β:=β) (ρ:=a.eval) (w:=w) hal (fun y hy=>by rw [hop] at hy;simp [Op.operands] at hy)
     refine jZ (by simp [Region.wanted,hgd]) ?_
     unfold Oper.wp
     rw [e]
     simp only [Oper.upon,hdst]
     have hds:d'<a.tmps.size:=by rw [hR.size];exact hc3
     refine jZ (by simp [Region.wanted,hgd2]) ?_
     unfold Oper.wp
     have hyv:(a.put (some d') (.pointer (some ⟨w.heap.size,0,none⟩))).eval y=a.eval y:=by
      cases y with
      | tmp t =>
        have:t≠d':=by simpa [notSlot] using hc2
        exact Go.Proofs.YtpjknnddanhgkaaGreatDoor.Act.eval_put_miss (by simp;exact fun e=>this e.symm)
      | _=>rfl
     ·have hb:=gN w (.cells cs.toArray T)
      have h0:=heap_alloc_new w (.cells cs.toArray T)
      obtain ⟨h3,h4⟩:=kV (P:=P) (o:=o2) (ρ:=(a.put (some d') (.pointer (some ⟨w.heap.size,0,none⟩))).eval) (off:=0) hop2 (Go.Proofs.YtpjknnddanhgkaaGreatDoor.Act.eval_put_hit hds) (by rw [hyv];exact hes) hn (by rw [hl.len];exact hm) hl.one h0 (by rw [hl.len,hcs.len];omega)
      rw [h3]
      simp only [Oper.upon,hdst2,Act.put]
      have hfull:cs.take 0++es++cs.drop (0+es.length)=es:=by
       rw [List.take_zero,List.nil_append,List.drop_of_length_le (by rw [hl.len,hcs.len];omega),List.append_nil]
      rw [hfull] at h4
      have hbel:Below w.heap.size w ((w.alloc (.cells cs.toArray T)).setCells w.heap.size 0 es):=by
       refine ⟨h4.os.trans hb.os,h4.tape.trans hb.tape,h4.output.trans hb.output,by rw [h4.size];exact hb.size,fun k' hk'=>?_⟩
       rw [h4.block k' (by omega)]
       exact hb.block k' hk'
      have hsz:((w.alloc (.cells cs.toArray T)).setCells w.heap.size 0 es).heap.size=w.heap.size+1:=by rw [h4.size];simp
      exact hgood _ _ _ ((hR.grow hbel).own_new (fun hm=>by have:=hR.lt _ hm;omega) hR.below.size (by rw [hsz];omega) h4.at_ (hl.ext (Go.Proofs.YtpjknnddanhgkaaGreatDoor.Ext.of_below hbel)))
    split at h
    ·rename_i z n s hz hn hy
     split at h
     ·rename_i hcc
      simp only [Bool.and_eq_true,beq_iff_eq] at hcc
      injection h with h
      injection h with h1 h2
      subst h1
      subst h2
      have hv:=hR.ev y
      rw [hy] at hv
      exact core z [s] n [a.eval y] hz hn (by simp [gK];omega) (by omega) (by rw [nA hv]) (holdsL.single hv) hg
     ·cases h
    ·rename_i z n m hz hn hy
     split at h
     ·rename_i hcc
      simp only [Bool.and_eq_true,beq_iff_eq] at hcc
      injection h with h
      injection h with h1 h2
      subst h1
      subst h2
      have hv:=hR.ev y
      rw [hy] at hv
      obtain ⟨es,he,hl⟩:=hv
      exact core z m n es hz hn hcc.1 hcc.2 (by rw [he];rfl) hl hg
     ·cases h
    ·cases h
   ·cases h
  ·cases h
 ·cases h
theorem good_plain (hK:KOk Kc) {ops:Array Oper} {rest:List Oper} {k:List Item} {st:St Kc} {c' : Cfg Kc} (h:oO P (.plain ops rest k st)=some c') (hg:iY P f w00 Out c'):iY P f w00 Out (.plain ops rest k st):=by
 intro β a w hR
 simp only [oO] at h
 split at h
 ·injection h with h
  subst h
  exact wpList_nil ⟨rfl,hg β a w hR.kill⟩
 ·rename_i o rest
  split at h
  ·rename_i st' rest' hfu
   injection h with h
   subst h
   exact good_fuse hfu hg β a w hR
  split at h
  ·rename_i hw
   refine jZ (hR.wants hw) ?_
   rw [Option.map_eq_some_iff] at h
   obtain ⟨st',h,e⟩:=h
   subst e
   have hs:∀ y∈o.op.operands,(evL st.slot y).holds β (a.eval y) w:=fun y _=>hR.ev y
   unfold Oper.wp
   generalize hr:opA P (evL st.slot) (st.blocks.map some) o=r at h
   cases r with
   | val x =>
     obtain ⟨v,e,hx⟩:=opA_val hr hs hR.mem
     simp only [uL,Option.some.injEq] at h
     subst h
     rw [e]
     exact hg β _ _ (hR.put hx)
   | new T l =>
     obtain ⟨cs,e,hl⟩:=yO hr hs
     simp only [uL] at h
     split at h
     ·rename_i d hd
      injection h with h
      subst h
      rw [e]
      simp only [Oper.upon,hd]
      exact hg _ _ _ (hR.new hl)
     ·cases h
   | nsl n T l =>
     obtain ⟨cs,e,hl⟩:=opA_nsl hr hs
     simp only [uL,Option.some.injEq] at h
     subst h
     rw [e]
     refine hg β _ _ ((hR.grow (gN w _)).put ⟨_,cs,rfl,heap_alloc_new w _,hl.ext (Go.Proofs.YtpjknnddanhgkaaGreatDoor.Ext.of_below (gN w _))⟩)
   | put k' off m =>
     simp only [uL] at h
     split at h
     ·rename_i T l hk hd
      split at h
      ·rename_i l' hrep
       split at h
       ·rename_i hc
        injection h with h
        subst h
        obtain ⟨g,cs,hg1,hg2,hg3⟩:=hR.mem k' T l (by rw [List.getElem?_map,hk];rfl)
        obtain ⟨ds,w',e,ht,hl⟩:=opA_put hr hs hg1 hg2 hg3 hrep
        rw [e]
        simp only [Oper.upon,hd,Act.put]
        exact hg β _ _ (hR.store hK hk hg1 hg2 hg3 hc.2 hc.1 ht hl)
       ·cases h
      ·cases h
     ·cases h
   | call g args=>cases h
   | stop=>cases h
  ·rename_i hw
   injection h with h
   subst h
   exact wpList_skip (hR.wants hw) (hg β _ _ (hR.put (x := .tup []) ⟨[],rfl,rfl⟩))
  ·cases h
end
end Ab
end Go.Proofs.YtpjknnddanhgkaaGreatDoor
