/- Parts of the proof, joined. -/
import Derived.Test.YtejbgingjeedaaaGreatDoorJ0
import Derived.Deep.MidRow
set_option linter.unusedSimpArgs false
set_option linter.unusedVariables false
namespace Go.Proofs.YtejbgingjeedaaaGreatDoor
open Go.RowKit
section
variable {P:Program} {ops:Array Oper} {K:Value→Bool} {T:List Nat} {w0:World} {a0:Act} {md:Region.Mode} {G:List Ent} {listed:Array Bool} {f:Tmp→Value} {a:Act} {w:World}
theorem ready_nil (hf:Region.tyB md ops a0.tmps.size=true) (hs:listed.size=ops.size) (h:Region.ready md ops listed = []):∀ i,i<ops.size→lst listed i:=by
 intro i
 induction i using Nat.strongRecOn with
 | ind i ih =>
   intro hi
   apply Classical.byContradiction
   intro hn
   have:i∈Region.ready md ops listed:=by
    rw [mem_ready]
    refine ⟨by unfold lst at hn;simpa using hn,ops[i],Array.getElem?_eq_getElem hi,fun e he hb=>?_⟩
    have hlt:=(tyB_spec hf (Array.getElem?_eq_getElem hi)).1 e he hb
    have:=ih e.on hlt (by omega)
    unfold lst at this
    rw [Array.getD_eq_getD_getElem?,Array.getElem?_eq_getElem (by omega)] at this ⊢
    exact this
   rw [h] at this
   cases this
def left (listed:Array Bool):Nat:=(listed.toList.filter (!·)).length
theorem left_set {i:Nat} (h:¬ lst listed i):left listed=left (listed.setIfInBounds i true)+1:=by
 unfold lst at h
 have hi:i<listed.size:=by
  rcases Nat.lt_or_ge i listed.size with h'|h'
  ·exact h'
  ·exact absurd (by rw [Array.getD_eq_getD_getElem?,Array.getElem?_eq_none h'];rfl) h
 have hv:listed[i]=false:=by
  rw [Array.getD_eq_getD_getElem?,Array.getElem?_eq_getElem hi] at h
  simpa using h
 unfold left
 have key:∀ (l:List Bool) (i:Nat) (h:i<l.length),l[i]=false→(l.filter (!·)).length=((l.set i true).filter (!·)).length+1:=by
  intro l
  induction l with
  | nil=>intro i h;simp at h
  | cons b l ih =>
    intro i h hb
    match i with
    | 0=>simp only [List.getElem_cons_zero] at hb;subst hb;simp
    | i+1 =>
      have:=ih i (by simpa using h) (by simpa using hb)
      rw [List.set_cons_succ]
      cases b <;> simp <;> omega
 have:=key listed.toList i (by rw [Array.length_toList];exact hi) (by rw [Array.getElem_toList];exact hv)
 rw [Array.toList_setIfInBounds]
 exact this
theorem left_zero (h:left listed=0):∀ i,lst listed i:=by
 intro i
 unfold lst
 rw [Array.getD_eq_getD_getElem?]
 cases hv:listed[i]? with
 | none=>rfl
 | some b =>
   cases b with
   | true=>rfl
   | false =>
     unfold left at h
     have:=List.length_eq_zero_iff.1 h
     rw [List.filter_eq_nil_iff] at this
     have hm:false∈listed.toList:=by
      rw [Array.mem_toList_iff]
      exact Array.mem_of_getElem? hv
     exact absurd rfl (this false hm)
theorem any_of_inv {Q:Exit→Act→World→Prop} (W:Walked P ops K T w0 a0 md G) (hQ:∀ listed f a w,(∀ i,i<ops.size→lst listed i)→Inv ops T w0 a0 md G listed f a w→Q .normal a w) :
 ∀ (n:Nat) (listed:Array Bool) (f:Tmp→Value) (a:Act) (w:World),left listed=n→Inv ops T w0 a0 md G listed f a w→wpAny P md ops Q n listed a w
 | 0,listed,f,a,w,hn,I=>by
   have hall:=left_zero hn
   refine ⟨?_,hQ _ _ _ _ (fun i _=>hall i) I⟩
   apply List.eq_nil_iff_forall_not_mem.2
   intro i hi
   have:=(mem_ready.1 hi).1
   have h2:=hall i
   unfold lst at h2
   rw [h2] at this
   cases this
 | n + 1,listed,f,a,w,hn,I =>
   ⟨fun h=>hQ _ _ _ _ (ready_nil W.form I.lsize h) I,fun i hi=>by
    refine I.step W hi (fun f' a' w' I'=>any_of_inv W hQ n _ f' a' w' ?_ I')
    have:=left_set (listed:=listed) (i:=i) (fun h=>by
     have h1:=(mem_ready.1 hi).1
     unfold lst at h
     rw [h] at h1
     cases h1)
    omega⟩
theorem frameOf_size (g:List Ent):(frameOf a0 g f).tmps.size=a0.tmps.size:=by
 induction g with
 | nil=>rfl
 | cons e g ih=>simp only [frameOf];split <;> simp [Act.put_size,ih]
theorem frameOf_defers (g:List Ent):(frameOf a0 g f).defers=a0.defers:=by
 induction g with
 | nil=>rfl
 | cons e g ih=>simp only [frameOf];split <;> simp [Act.put_defers,ih]
theorem frameOf_hit {g:List Ent} {t:Tmp} (h:∃ e∈g,e.dst=some t) (ht:t<a0.tmps.size):(frameOf a0 g f).eval (.tmp t)=f t:=by
 induction g with
 | nil=>obtain ⟨_,h,_⟩:=h;cases h
 | cons e g ih =>
   simp only [frameOf]
   by_cases hd:e.dst=some t
   ·rw [hd]
    exact Act.eval_put_hit (by rw [frameOf_size];exact ht)
   ·have hg:∃ e∈g,e.dst=some t:=by
     obtain ⟨e',he',hd'⟩:=h
     rcases List.mem_cons.1 he' with rfl|he'
     ·exact absurd hd' hd
     ·exact ⟨e',he',hd'⟩
    split
    ·rename_i d he
     rw [Act.eval_put_miss (by rw [← he];exact hd)]
     exact ih hg
    ·exact ih hg
theorem frameOf_miss {g:List Ent} {t:Tmp} (h:∀ e∈g,e.dst≠some t):(frameOf a0 g f).eval (.tmp t)=a0.eval (.tmp t):=by
 induction g with
 | nil=>rfl
 | cons e g ih =>
   simp only [frameOf]
   have hg:=ih (fun e' he'=>h e' (by simp [he']))
   split
   ·rename_i d he
    rw [Act.eval_put_miss (by rw [← he];exact h e (by simp))]
    exact hg
   ·exact hg
theorem Act.ext_eval {a b:Act} (hs:a.tmps.size=b.tmps.size) (hd:a.defers=b.defers) (h:∀ t,t<a.tmps.size→a.eval (.tmp t)=b.eval (.tmp t)):a=b:=by
 obtain ⟨x,y⟩:=a
 obtain ⟨x',y'⟩:=b
 simp only at hs hd
 subst hd
 congr 1
 apply Array.ext hs
 intro i h1 h2
 have:=h i h1
 simp only [Act.eval,Array.getD_eq_getD_getElem?,Array.getElem?_eq_getElem h1,Array.getElem?_eq_getElem h2,Option.getD_some] at this
 exact this
theorem walked_of {Q:Act→World→Prop}:∀ (rest:List Oper) (g:List Ent),wpTy P ops K T w0 a0 Q rest g→∃ H:List Ent,H.length=rest.length ∧
 (∀ (i:Nat) (o:Oper),rest[i]?=some o→∃ k,H[i]?=some ⟨o.dst,k⟩∧Oblig P ops K T w0 a0 ((H.take i).reverse++g) o k)∧wpTy P ops K T w0 a0 Q [] (H.reverse++g)
 | [],g,h=>⟨[],rfl,fun i o h'=>by simp at h',by simpa using h⟩
 | o :: rest,g,h=>by
   obtain ⟨k,hk,hr⟩:=h
   obtain ⟨H,h1,h2,h3⟩:=walked_of rest _ hr
   refine ⟨⟨o.dst,k⟩::H,by simp [h1],fun i o' h'=>?_,by simpa using h3⟩
   match i with
   | 0 =>
     simp only [List.getElem?_cons_zero,Option.some.injEq] at h'
     subst h'
     exact ⟨k,rfl,by simpa using hk⟩
   | i+1 =>
     obtain ⟨k',e1,e2⟩:=h2 i o' (by simpa using h')
     exact ⟨k',by simpa using e1,by simpa using e2⟩
theorem wp_region_ty {id:Nat} {Q:Exit→Act→World→Prop} {l:List Oper} (K:Value→Bool) (T:List Nat) (hm:P.follows .mixedOrders=true) (hf:Region.tyB .any l.toArray a0.tmps.size=true)
 (h:wpTy P l.toArray K T w0 a0 (fun a w=>Q .normal a w) l []):(Code.region id l.toArray true).wp P Q a0 w0:=by
 obtain ⟨H,h1,h2,h3⟩:=walked_of l [] h
 simp only [List.append_nil] at h2 h3
 obtain ⟨honce,hfin⟩:=h3
 have honce' : onceB H=true:=by
  simp only [onceB,Bool.and_eq_true,decide_eq_true_eq,List.filterMap_reverse,List.filter_reverse,List.length_reverse] at honce ⊢
  exact ⟨(List.reverse_perm _).nodup_iff.1 honce.1,honce.2⟩
 have W:Walked P l.toArray K T w0 a0 .any H:=⟨by simpa using h1,fun i o ho=>h2 i o (by simpa using ho),hf,honce'⟩
 refine wp_region_any hm ?_
 have hlst:∀ i,i<l.toArray.size→¬ lst (Array.replicate l.toArray.size false) i:=fun i hi h=>by
  unfold lst at h
  rw [Array.getD_eq_getD_getElem?,Array.getElem?_replicate,if_pos hi] at h
  cases h
 have hop:∀ {i:Nat} {o:Oper},l.toArray[i]?=some o→i<l.toArray.size:=fun h=>by
  rcases Nat.lt_or_ge _ l.toArray.size with h'|h'
  ·exact h'
  ·rw [Array.getElem?_eq_none h'] at h;cases h
 have hent:∀ {i:Nat} {e:Ent},H[i]?=some e→i<l.toArray.size:=fun h=>by
  obtain ⟨hlt,_⟩:=List.getElem?_eq_some_iff.1 h
  rw [← W.len];exact hlt
 refine any_of_inv W (fun listed f a w hall I=>?_) _ _ (fun _=>undef) _ _ (by simp [left]) ?_
 ·have hmem:∀ {e:Ent},e∈H.reverse→∃ i,H[i]?=some e∧lst listed i:=fun he=>by
   obtain ⟨i,hi⟩:=List.getElem?_of_mem (List.mem_reverse.1 he)
   exact ⟨i,hi,hall i (hent hi)⟩
  have hfr:a=frameOf a0 H.reverse f:=by
   refine Act.ext_eval (by rw [frameOf_size];exact I.tsize) (by rw [frameOf_defers];exact I.defers) (fun t ht=>?_)
   by_cases hd:∃ e∈H.reverse,e.dst=some t
   ·rw [frameOf_hit hd (by rw [← I.tsize];exact ht)]
    obtain ⟨e,he,hde⟩:=hd
    obtain ⟨i,hi,hl⟩:=hmem he
    obtain ⟨o,ho,hd',_⟩:=W.ent hi
    exact I.hit i o t ho hl (by rw [← hd'];exact hde)
   ·rw [frameOf_miss (fun e he hde=>hd ⟨e,he,hde⟩)]
    refine I.miss t (fun i o ho hdo=>hd ?_)
    obtain ⟨k,hk,_⟩:=W.each i o ho
    exact ⟨_,List.mem_reverse.2 (List.mem_of_getElem? hk),hdo⟩
  rw [hfr]
  refine hfin f w I.base (fun e he=>?_) (fun d d' o o' hd hd' hne=>?_)
  ·obtain ⟨i,hi,hl⟩:=hmem he
   obtain ⟨dst,kd⟩:=e
   unfold Final1
   match dst,kd,hi with
   | some d,.val S,hi=>exact I.vals i d S hi hl
   | some d,.new o0,hi =>
     obtain ⟨b,e1,e2,e3,e4,e5⟩:=I.news i d o0 hi hl
     refine ⟨b,e1,e2,e3,fun hn=>e4 (fun j S hj _=>hn S (List.mem_reverse.2 (List.mem_of_getElem? hj))),fun S hS=>?_⟩
     obtain ⟨j,hj,hlj⟩:=hmem hS
     exact e5 j S hj hlj
   | none,.old b S,hi=>exact (I.olds i b S hi).2 hl
   | some d,.old b S,hi =>
     obtain ⟨o,_,hd,hob⟩:=W.ent hi
     have:=hob.1
     rw [← hd] at this
     cases this
   | none,.val S,_=>trivial
   | none,.new o0,_=>trivial
   | none,.put d S,_=>trivial
   | some d',.put d S,_=>trivial
  ·obtain ⟨i,hi,hl⟩:=hmem hd
   obtain ⟨i',hi',hl'⟩:=hmem hd'
   exact I.apart i i' d d' o o' hi hi' hl hl' hne
 ·refine ⟨by simp,rfl,rfl,fun i o d ho hl _=>absurd hl (hlst i (hop ho)),fun _ _=>rfl,fun i o ho hl=>absurd hl (hlst i (hop ho)),⟨rfl,rfl,rfl,Nat.le_refl _,fun _ _ _=>rfl⟩,
   fun i d S hi hl=>absurd hl (hlst i (hent hi)),fun i d o hi hl=>absurd hl (hlst i (hent hi)),fun i b S hi=>⟨fun _=>rfl,fun hl=>absurd hl (hlst i (hent hi))⟩,
   fun i i' d d' o o' hi _ hl=>absurd hl (hlst i (hent hi))⟩
/-! ### Steps of the walk -/
variable {Q:Act→World→Prop} {o:Oper} {rest:List Oper} {g:List Ent}
theorem bQ (u:Value) (hg:o.guard=none) (h:∀ A w,Base T w0 w→known a0 w0.heap.size g A w (o.looksAt ops)→(execOp A.eval o).run P w = .ok (.value u) w)
 (hr:wpTy P ops K T w0 a0 Q rest (⟨o.dst,.val (Sp.is u)⟩::g)):wpTy P ops K T w0 a0 Q (o::rest) g :=
 ⟨.val (Sp.is u),⟨Sp.is_stable K u,fun A w hB hk => .inl ⟨by simp [Region.wanted,hg],by rw [h A w hB hk];exact ⟨Below.refl _ _,rfl⟩⟩⟩,hr⟩
theorem aG {w:World} {S:Sp} {fn:FuncId} {args:Array Value} (h:Calls P fn args w (TyPost w S)):tyUpon P w S (.ok (.enter fn args) w):=⟨rfl,h⟩
theorem iZ {w:World} {S:Sp} {u:Value} (h:S u w):tyUpon P w S (.ok (.value u) w):=⟨Below.refl _ _,h⟩
theorem aV (t:Tmp) (S:Sp) (hop:o.op = .move (.tmp t)∨o.op = .assign (.tmp t)) (hl:o.looksAt ops = [t]) (hs:specOf a0 w0.heap.size t g=S) (hS:Stable K S) (hg:o.guard=none)
 (hr:wpTy P ops K T w0 a0 Q rest (⟨o.dst,.val S⟩::g)):wpTy P ops K T w0 a0 Q (o::rest) g:=by
 refine ⟨.val S,⟨hS,fun A w hB hk => .inl ⟨by simp [Region.wanted,hg],?_⟩⟩,hr⟩
 have hrun:(execOp A.eval o).run P w = .ok (.value (A.eval (.tmp t))) w:=by
  rcases hop with h|h <;> (simp only [execOp,h];rfl)
 rw [hrun]
 rw [hl] at hk
 refine ⟨Below.refl _ _,?_⟩
 rw [← hs]
 exact hk.1
theorem aO (S:Sp) (hS:Stable K S) (hg:o.guard=none) (h:∀ A w,Base T w0 w→known a0 w0.heap.size g A w (o.looksAt ops)→tyUpon P w S ((execOp A.eval o).run P w))
 (hr:wpTy P ops K T w0 a0 Q rest (⟨o.dst,.val S⟩::g)):wpTy P ops K T w0 a0 Q (o::rest) g :=
 ⟨.val S,⟨hS,fun A w hB hk => .inl ⟨by simp [Region.wanted,hg],h A w hB hk⟩⟩,hr⟩
theorem aAg (o0:Obj) (hc:hotObj K o0=false) (hg:o.guard=none) (hd:o.dst.isSome=true) (h:∀ (A:Act) (w:World),(execOp A.eval o).run P w = .ok (.value (.pointer (some ⟨w.heap.size,0,none⟩))) (w.alloc o0))
 (hr:wpTy P ops K T w0 a0 Q rest (⟨o.dst,.new o0⟩::g)):wpTy P ops K T w0 a0 Q (o::rest) g :=
 ⟨.new o0,⟨hc,hg,hd,h⟩,hr⟩
theorem aAh (d:Tmp) (o0:Obj) (S:Obj→World→Prop) (hS:StableO K S) (hd:o.dst=none) (hg:o.guard=none) (hl:d∈o.looksAt ops) (hn:(⟨some d,.new o0⟩:Ent)∈g)
 (h:∀ (A:Act) (w:World) (b:Nat),Base T w0 w→known a0 w0.heap.size g A w (o.looksAt ops)→A.eval (.tmp d) = .pointer (some ⟨b,0,none⟩)→w.heap[b]?=some o0→putUpon b w S ((execOp A.eval o).run P w))
 (hr:wpTy P ops K T w0 a0 Q rest (⟨o.dst,.put d S⟩::g)):wpTy P ops K T w0 a0 Q (o::rest) g :=
 ⟨.put d S,⟨hd,hg,hl,hS,o0,hn,h⟩,hr⟩
theorem gR (b:Nat) (o0:Obj) (S:Obj→World→Prop) (hS:StableO K S) (hd:o.dst=none) (hg:o.guard=none) (hT:b∈T) (h0:w0.heap[b]?=some o0) (hc:hotObj K o0=false)
 (h:∀ (A:Act) (w:World),Base T w0 w→known a0 w0.heap.size g A w (o.looksAt ops)→w.heap[b]?=some o0→putUpon b w S ((execOp A.eval o).run P w))
 (hr:wpTy P ops K T w0 a0 Q rest (⟨o.dst,.old b S⟩::g)):wpTy P ops K T w0 a0 Q (o::rest) g :=
 ⟨.old b S,⟨hd,hg,hT,lt_of_block h0,hS,o0,h0,hc,h⟩,hr⟩
end
end Go.Proofs.YtejbgingjeedaaaGreatDoor
namespace Go.Proofs.YtejbgingjeedaaaGreatDoor.Ab
open Go.RowKit
def kZ (Kc:Value→Bool) (Ty:List TypeId):Obj→Bool
 | .cells cs T _=>cs.any Kc || Ty.contains T
 | _=>true
theorem Ext.down {Kc:Value→Bool} {Ty:List TypeId} {w w' : World} (h:Ext (kZ Kc Ty) w w'):Go.Proofs.YtejbgingjeedaaaGreatDoor.Ext Kc w w':=by
 refine ⟨h.size,fun g o hg ho=>h.block g o hg ?_⟩
 cases o <;> simp_all [Go.Proofs.YtejbgingjeedaaaGreatDoor.hotObj,hotObj,kZ]
structure CS (Kc:Value→Bool) where
 size:Nat
 cold:Bool
 pred:List Value→World→Prop
 stable:∀ cs w w',pred cs w→Go.Proofs.YtejbgingjeedaaaGreatDoor.Ext Kc w w'→pred cs w'
 len:∀ cs w,pred cs w→cs.length=size
 one:∀ cs w,pred cs w→∀ c∈cs,c.oneCell'=true
 iscold:cold=true→∀ cs w,pred cs w→∀ c∈cs,Kc c=false
variable {Kc:Value→Bool}
inductive Seg (Kc:Value→Bool) where
 | lit (v:Value)
 | ptr (k off:Nat)
 | slc (k off n c:Nat)
 | sp (s:CS Kc)
def Seg.size:Seg Kc→Nat
 | .sp s=>s.size
 | _=>1
def Seg.cold:Seg Kc→Bool
 | .lit v => !Kc v
 | .sp s=>s.cold
 | _=>true
def Seg.holds (β:List Nat):Seg Kc→List Value→World→Prop
 | .lit v,cs,_=>cs = [v]∧v.oneCell'=true
 | .ptr k off,cs,_ => ∃ g,β[k]?=some g∧cs = [.pointer (some ⟨g,off,none⟩)]
 | .slc k off n c,cs,_ => ∃ g,β[k]?=some g∧cs = [.slice (some ⟨g,off,none⟩) n c]
 | .sp s,cs,w=>s.pred cs w
def holdsL (β:List Nat):List (Seg Kc)→List Value→World→Prop
 | [],cs,_=>cs = []
 | s::l,cs,w => ∃ a b,cs=a++b∧s.holds β a w∧holdsL β l b w
def gQ:List (Seg Kc)→Nat
 | []=>0
 | s::l=>s.size+gQ l
structure KOk (Kc:Value→Bool):Prop where
 ptr:∀ a,Kc (.pointer a)=false
 slc:∀ a n c,Kc (.slice a n c)=false
theorem Seg.len {β:List Nat} {s:Seg Kc} {cs:List Value} {w:World} (h:s.holds β cs w):cs.length=s.size:=by
 cases s with
 | lit v=>rw [h.1];rfl
 | ptr k off=>obtain ⟨g,_,e⟩:=h;rw [e];rfl
 | slc k off n c=>obtain ⟨g,_,e⟩:=h;rw [e];rfl
 | sp s=>exact s.len _ _ h
theorem Seg.one {β:List Nat} {s:Seg Kc} {cs:List Value} {w:World} (h:s.holds β cs w):∀ c∈cs,c.oneCell'=true:=by
 cases s with
 | lit v=>obtain ⟨rfl,h⟩:=h;intro c hc;rw [List.mem_singleton] at hc;subst hc;exact h
 | ptr k off=>obtain ⟨g,_,e⟩:=h;subst e;intro c hc;rw [List.mem_singleton] at hc;subst hc;rfl
 | slc k off n c=>obtain ⟨g,_,e⟩:=h;subst e;intro c hc;rw [List.mem_singleton] at hc;subst hc;rfl
 | sp s=>exact s.one _ _ h
theorem Seg.iscold (hK:KOk Kc) {β:List Nat} {s:Seg Kc} {cs:List Value} {w:World} (h:s.holds β cs w) (hc:s.cold=true):∀ c∈cs,Kc c=false:=by
 cases s with
 | lit v=>obtain ⟨rfl,_⟩:=h;intro c hm;rw [List.mem_singleton] at hm;subst hm;simpa [Seg.cold] using hc
 | ptr k off=>obtain ⟨g,_,e⟩:=h;subst e;intro c hm;rw [List.mem_singleton] at hm;subst hm;exact hK.ptr _
 | slc k off n c=>obtain ⟨g,_,e⟩:=h;subst e;intro c hm;rw [List.mem_singleton] at hm;subst hm;exact hK.slc _ _ _
 | sp s=>exact s.iscold hc _ _ h
theorem Seg.ext {β:List Nat} {s:Seg Kc} {cs:List Value} {w w' : World} (h:s.holds β cs w) (hx:Go.Proofs.YtejbgingjeedaaaGreatDoor.Ext Kc w w'):s.holds β cs w':=by
 cases s with
 | sp s=>exact s.stable _ _ _ h hx
 | _=>exact h
theorem Seg.more {β γ:List Nat} {s:Seg Kc} {cs:List Value} {w:World} (h:s.holds β cs w):s.holds (β++γ) cs w:=by
 have key:∀ {k g:Nat},β[k]?=some g→(β++γ)[k]?=some g:=fun h=>by
  rw [List.getElem?_append_left (List.getElem?_eq_some_iff.1 h).1];exact h
 cases s with
 | lit v=>exact h
 | ptr k off=>obtain ⟨g,h1,e⟩:=h;exact ⟨g,key h1,e⟩
 | slc k off n c=>obtain ⟨g,h1,e⟩:=h;exact ⟨g,key h1,e⟩
 | sp s=>exact h
theorem holdsL.len {β:List Nat}:∀ {l:List (Seg Kc)} {cs:List Value} {w:World},holdsL β l cs w→cs.length=gQ l
 | [],_,_,h=>by rw [h];rfl
 | s::l,_,_,⟨a,b,e,h1,h2⟩=>by rw [e,List.length_append,Seg.len h1,holdsL.len h2];rfl
theorem holdsL.one {β:List Nat}:∀ {l:List (Seg Kc)} {cs:List Value} {w:World},holdsL β l cs w→∀ c∈cs,c.oneCell'=true
 | [],_,_,h=>by rw [h];intro c hc;cases hc
 | s::l,_,_,⟨a,b,e,h1,h2⟩=>by
   subst e
   intro c hc
   rcases List.mem_append.1 hc with hc|hc
   ·exact Seg.one h1 c hc
   ·exact holdsL.one h2 c hc
theorem holdsL.iscold (hK:KOk Kc) {β:List Nat}:∀ {l:List (Seg Kc)} {cs:List Value} {w:World},holdsL β l cs w→l.all Seg.cold=true→∀ c∈cs,Kc c=false
 | [],_,_,h,_=>by rw [h];intro c hc;cases hc
 | s::l,_,_,⟨a,b,e,h1,h2⟩,hc=>by
   subst e
   rw [List.all_cons,Bool.and_eq_true] at hc
   intro c hm
   rcases List.mem_append.1 hm with hm|hm
   ·exact Seg.iscold hK h1 hc.1 c hm
   ·exact holdsL.iscold hK h2 hc.2 c hm
theorem holdsL.ext {β:List Nat}:∀ {l:List (Seg Kc)} {cs:List Value} {w w' : World},holdsL β l cs w→Go.Proofs.YtejbgingjeedaaaGreatDoor.Ext Kc w w'→holdsL β l cs w'
 | [],_,_,_,h,_=>h
 | _::_,_,_,_,⟨a,b,e,h1,h2⟩,hx=>⟨a,b,e,Seg.ext h1 hx,holdsL.ext h2 hx⟩
theorem holdsL.more {β γ:List Nat}:∀ {l:List (Seg Kc)} {cs:List Value} {w:World},holdsL β l cs w→holdsL (β++γ) l cs w
 | [],_,_,h=>h
 | _::_,_,_,⟨a,b,e,h1,h2⟩=>⟨a,b,e,Seg.more h1,holdsL.more h2⟩
theorem holdsL.append {β:List Nat}:∀ {l l' : List (Seg Kc)} {cs cs' : List Value} {w:World},holdsL β l cs w→holdsL β l' cs' w→holdsL β (l++l') (cs++cs') w
 | [],_,_,_,_,h,h'=>by rw [h];exact h'
 | _::_,_,_,cs',_,⟨a,b,e,h1,h2⟩,h'=>⟨a,b++cs',by rw [e,List.append_assoc],h1,holdsL.append h2 h'⟩
theorem holdsL.single {β:List Nat} {s:Seg Kc} {c:Value} {w:World} (h:s.holds β [c] w):holdsL β [s] [c] w:=⟨[c],[],rfl,h,rfl⟩
theorem holdsL.lits {β:List Nat} {w:World}:∀ {cs:List Value},cs.all (·.oneCell')=true→holdsL β (cs.map (Seg.lit (Kc:=Kc))) cs w
 | [],_=>rfl
 | c::cs,h=>by
   rw [List.all_cons,Bool.and_eq_true] at h
   exact ⟨[c],cs,rfl,⟨rfl,h.1⟩,holdsL.lits h.2⟩
def cut:List (Seg Kc)→Nat→Nat→Option (List (Seg Kc))
 | _,0,0=>some []
 | [],_,_=>none
 | s::l,0,n+1=>if s.size≤n+1 then (cut l 0 (n+1-s.size)).map (s :: ·) else none
 | s::l,off+1,n=>if s.size≤off+1 then cut l (off+1-s.size) n else none
theorem jJ {β:List Nat}:∀ {l:List (Seg Kc)} {off n:Nat} {l' : List (Seg Kc)} {cs:List Value} {w:World},cut l off n=some l'→holdsL β l cs w →
 holdsL β l' ((cs.drop off).take n) w∧off+n≤cs.length
 | l,0,0,l',cs,w,hc,h=>by
   have:l' = []:=by cases l <;> simp [cut] at hc <;> exact hc
   subst this
   exact ⟨by simp [holdsL],by omega⟩
 | [],0,n+1,_,_,_,hc,_=>by simp [cut] at hc
 | [],off+1,n,_,_,_,hc,_=>by simp [cut] at hc
 | s :: l,0,n+1,l',cs,w,hc,⟨a,b,e,h1,h2⟩=>by
   simp only [cut] at hc
   split at hc
   ·rename_i hle
    rw [Option.map_eq_some_iff] at hc
    obtain ⟨l2,hc,rfl⟩:=hc
    obtain ⟨h3,h4⟩:=jJ hc h2
    have hl:=Seg.len h1
    subst e
    simp only [List.drop_zero,List.length_append] at *
    refine ⟨⟨a,b.take (n+1-s.size),?_,h1,h3⟩,by omega⟩
    rw [List.take_append,hl,List.take_of_length_le (by omega)]
   ·cases hc
 | s :: l,off+1,n,l',cs,w,hc,⟨a,b,e,h1,h2⟩=>by
   simp only [cut] at hc
   split at hc
   ·rename_i hle
    obtain ⟨h3,h4⟩:=jJ hc h2
    have hl:=Seg.len h1
    subst e
    simp only [List.length_append] at *
    refine ⟨?_,by omega⟩
    rw [List.drop_append,hl,List.drop_of_length_le (by omega),List.nil_append]
    exact h3
   ·cases hc
def yF (l:List (Seg Kc)) (off:Nat) (m:List (Seg Kc)):Option (List (Seg Kc)) :=
 match cut l 0 off,cut l (off+gQ m) (gQ l-(off+gQ m)) with
 | some a,some b=>if off+gQ m≤gQ l then some (a++m++b) else none
 | _,_=>none
theorem mI {β:List Nat} {l m l' : List (Seg Kc)} {off:Nat} {cs ds:List Value} {w:World} (hr:yF l off m=some l') (h:holdsL β l cs w) (h' : holdsL β m ds w) :
 holdsL β l' (cs.take off++ds++cs.drop (off+ds.length)) w∧off+ds.length≤cs.length:=by
 unfold yF at hr
 split at hr
 ·rename_i a b ha hb
  split at hr
  ·rename_i hle
   injection hr with hr
   subst hr
   have h1:=(jJ ha h).1
   have h2:=(jJ hb h).1
   have hl:=holdsL.len h
   have hm:=holdsL.len h'
   rw [List.drop_zero] at h1
   rw [← hm,← hl] at h2
   rw [List.take_of_length_le (by rw [List.length_drop];omega)] at h2
   exact ⟨holdsL.append (holdsL.append h1 h') h2,by omega⟩
  ·cases hr
 ·cases hr
inductive FV (Kc:Value→Bool) where
 | clo (F:FuncId) (first cap:List (Bool×List (Seg Kc)))
 | sc (s:Seg Kc)
 | ag (l:List (Seg Kc))
 | nsl (n:Nat) (T:TypeId) (l:List (Seg Kc))
 | un
def caHolds (β:List Nat):Bool×List (Seg Kc)→Value→World→Prop
 | (true,l),v,w => ∃ cs,v = .agg cs.toArray∧holdsL β l cs w
 | (false,l),v,w=>holdsL β l [v] w
def holdsC (β:List Nat):List (Bool×List (Seg Kc))→List Value→World→Prop
 | [],vs,_=>vs = []
 | c::l,vs,w => ∃ v r,vs=v::r∧caHolds β c v w∧holdsC β l r w
theorem caHolds.ext {β:List Nat} {c:Bool×List (Seg Kc)} {v:Value} {w w' : World} (h:caHolds β c v w) (hx:Go.Proofs.YtejbgingjeedaaaGreatDoor.Ext Kc w w'):caHolds β c v w':=by
 obtain ⟨b,l⟩:=c
 cases b with
 | true=>obtain ⟨cs,e,h⟩:=h;exact ⟨cs,e,h.ext hx⟩
 | false=>exact holdsL.ext h hx
theorem caHolds.more {β γ:List Nat} {c:Bool×List (Seg Kc)} {v:Value} {w:World} (h:caHolds β c v w):caHolds (β++γ) c v w:=by
 obtain ⟨b,l⟩:=c
 cases b with
 | true=>obtain ⟨cs,e,h⟩:=h;exact ⟨cs,e,h.more⟩
 | false=>exact holdsL.more h
theorem holdsC.ext {β:List Nat}:∀ {l:List (Bool×List (Seg Kc))} {vs:List Value} {w w' : World},holdsC β l vs w→Go.Proofs.YtejbgingjeedaaaGreatDoor.Ext Kc w w'→holdsC β l vs w'
 | [],_,_,_,h,_=>h
 | _::_,_,_,_,⟨v,r,e,h1,h2⟩,hx=>⟨v,r,e,caHolds.ext h1 hx,holdsC.ext h2 hx⟩
theorem holdsC.more {β γ:List Nat}:∀ {l:List (Bool×List (Seg Kc))} {vs:List Value} {w:World},holdsC β l vs w→holdsC (β++γ) l vs w
 | [],_,_,h=>h
 | _::_,_,_,⟨v,r,e,h1,h2⟩=>⟨v,r,e,caHolds.more h1,holdsC.more h2⟩
def FV.holds (β:List Nat):FV Kc→Value→World→Prop
 | .clo F a b,v,w => ∃ xs ys:List Value,v = .func (.func F) xs.toArray ys.toArray∧holdsC β a xs w∧holdsC β b ys w
 | .sc s,v,w=>s.holds β [v] w
 | .ag l,v,w => ∃ cs,v = .agg cs.toArray∧holdsL β l cs w
 | .nsl n T l,v,w => ∃ g cs,v = .slice (some ⟨g,0,none⟩) n n∧w.heap[g]?=some (.cells cs.toArray T (0,0))∧holdsL β l cs w
 | .un,_,_=>True
def FV.okT (Ty:List TypeId):FV Kc→Bool
 | .nsl _ T _=>Ty.contains T
 | _=>true
inductive AV (Kc:Value→Bool) where
 | fv (f:FV Kc)
 | tup (l:List (FV Kc))
def holdsF (β:List Nat):List (FV Kc)→List Value→World→Prop
 | [],vs,_=>vs = []
 | f::l,vs,w => ∃ v r,vs=v::r∧f.holds β v w∧holdsF β l r w
def AV.holds (β:List Nat):AV Kc→Value→World→Prop
 | .fv f,v,w=>f.holds β v w
 | .tup l,v,w => ∃ vs,v = .tuple vs.toArray∧holdsF β l vs w
def AV.okT (Ty:List TypeId):AV Kc→Bool
 | .fv f=>f.okT Ty
 | .tup l=>l.all (FV.okT Ty)
abbrev AV.un:AV Kc := .fv .un
theorem FV.ext {Ty:List TypeId} {β:List Nat} {f:FV Kc} {v:Value} {w w' : World} (h:f.holds β v w) (hx:Ext (kZ Kc Ty) w w') (ht:f.okT Ty=true):f.holds β v w':=by
 cases f with
 | clo F a b=>obtain ⟨xs,ys,e,h1,h2⟩:=h;exact ⟨xs,ys,e,h1.ext hx.down,h2.ext hx.down⟩
 | sc s=>exact Seg.ext h hx.down
 | ag l=>obtain ⟨cs,e,h⟩:=h;exact ⟨cs,e,h.ext hx.down⟩
 | nsl n T l=>obtain ⟨g,cs,e,hg,h⟩:=h;exact ⟨g,cs,e,hx.block g _ hg (by simp [hotObj,kZ];exact .inr (by simpa [FV.okT] using ht)),h.ext hx.down⟩
 | un=>trivial
theorem FV.below {β:List Nat} {f:FV Kc} {v:Value} {w w' : World} (h:f.holds β v w) (hb:Below w.heap.size w w'):f.holds β v w':=by
 cases f with
 | clo F a b=>obtain ⟨xs,ys,e,h1,h2⟩:=h;exact ⟨xs,ys,e,h1.ext (Go.Proofs.YtejbgingjeedaaaGreatDoor.Ext.of_below hb),h2.ext (Go.Proofs.YtejbgingjeedaaaGreatDoor.Ext.of_below hb)⟩
 | sc s=>exact Seg.ext h (Go.Proofs.YtejbgingjeedaaaGreatDoor.Ext.of_below hb)
 | ag l=>obtain ⟨cs,e,h⟩:=h;exact ⟨cs,e,h.ext (Go.Proofs.YtejbgingjeedaaaGreatDoor.Ext.of_below hb)⟩
 | nsl n T l=>obtain ⟨g,cs,e,hg,h⟩:=h;exact ⟨g,cs,e,(hb.block g (lt_of_block hg)).trans hg,h.ext (Go.Proofs.YtejbgingjeedaaaGreatDoor.Ext.of_below hb)⟩
 | un=>trivial
theorem FV.more {β γ:List Nat} {f:FV Kc} {v:Value} {w:World} (h:f.holds β v w):f.holds (β++γ) v w:=by
 cases f with
 | clo F a b=>obtain ⟨xs,ys,e,h1,h2⟩:=h;exact ⟨xs,ys,e,h1.more,h2.more⟩
 | sc s=>exact Seg.more h
 | ag l=>obtain ⟨cs,e,h⟩:=h;exact ⟨cs,e,h.more⟩
 | nsl n T l=>obtain ⟨g,cs,e,hg,h⟩:=h;exact ⟨g,cs,e,hg,h.more⟩
 | un=>trivial
theorem holdsF.ext {Ty:List TypeId} {β:List Nat}:∀ {l:List (FV Kc)} {vs:List Value} {w w' : World},holdsF β l vs w→Ext (kZ Kc Ty) w w'→l.all (FV.okT Ty)=true→holdsF β l vs w'
 | [],_,_,_,h,_,_=>h
 | _::_,_,_,_,⟨v,r,e,h1,h2⟩,hx,ht=>by
   rw [List.all_cons,Bool.and_eq_true] at ht
   exact ⟨v,r,e,FV.ext h1 hx ht.1,holdsF.ext h2 hx ht.2⟩
theorem holdsF.below {β:List Nat}:∀ {l:List (FV Kc)} {vs:List Value} {w w' : World},holdsF β l vs w→Below w.heap.size w w'→holdsF β l vs w'
 | [],_,_,_,h,_=>h
 | _::_,_,_,_,⟨v,r,e,h1,h2⟩,hb=>⟨v,r,e,FV.below h1 hb,holdsF.below h2 hb⟩
theorem holdsF.more {β γ:List Nat}:∀ {l:List (FV Kc)} {vs:List Value} {w:World},holdsF β l vs w→holdsF (β++γ) l vs w
 | [],_,_,h=>h
 | _::_,_,_,⟨v,r,e,h1,h2⟩=>⟨v,r,e,FV.more h1,holdsF.more h2⟩
theorem holdsF.get {β:List Nat}:∀ {l:List (FV Kc)} {vs:List Value} {w:World} {i:Nat} {f:FV Kc},holdsF β l vs w→l[i]?=some f→∃ v,vs[i]?=some v∧f.holds β v w
 | [],_,_,_,_,_,hi=>by simp at hi
 | _::_,_,_,0,_,⟨v,r,e,h1,h2⟩,hi=>by
   simp only [List.getElem?_cons_zero,Option.some.injEq] at hi
   subst hi
   exact ⟨v,by rw [e];rfl,h1⟩
 | _::_,_,_,i+1,_,⟨v,r,e,h1,h2⟩,hi=>by
   obtain ⟨v',h3,h4⟩:=holdsF.get h2 (by simpa using hi)
   exact ⟨v',by rw [e];simpa using h3,h4⟩
theorem AV.ext {Ty:List TypeId} {β:List Nat} {x:AV Kc} {v:Value} {w w' : World} (h:x.holds β v w) (hx:Ext (kZ Kc Ty) w w') (ht:x.okT Ty=true):x.holds β v w':=by
 cases x with
 | fv f=>exact FV.ext h hx ht
 | tup l=>obtain ⟨vs,e,h⟩:=h;exact ⟨vs,e,h.ext hx ht⟩
theorem AV.below {β:List Nat} {x:AV Kc} {v:Value} {w w' : World} (h:x.holds β v w) (hb:Below w.heap.size w w'):x.holds β v w':=by
 cases x with
 | fv f=>exact FV.below h hb
 | tup l=>obtain ⟨vs,e,h⟩:=h;exact ⟨vs,e,h.below hb⟩
theorem AV.more {β γ:List Nat} {x:AV Kc} {v:Value} {w:World} (h:x.holds β v w):x.holds (β++γ) v w:=by
 cases x with
 | fv f=>exact FV.more h
 | tup l=>obtain ⟨vs,e,h⟩:=h;exact ⟨vs,e,h.more⟩
def holdsA (β:List Nat):List (AV Kc)→List Value→World→Prop
 | [],vs,_=>vs = []
 | x::l,vs,w => ∃ v r,vs=v::r∧x.holds β v w∧holdsA β l r w
end Go.Proofs.YtejbgingjeedaaaGreatDoor.Ab
namespace Go.Proofs.YtejbgingjeedaaaGreatDoor.Ab
open Go.RowKit
variable {Kc:Value→Bool}
def evalP (P:Program) {α:Type}:Sem α→Option α
 | .pure a=>some a
 | .program k=>evalP P (k P)
 | _=>none
theorem bT {P:Program} {α:Type}:∀ {s:Sem α} {a:α},evalP P s=some a→∀ w,s.run P w = .ok a w
 | .pure _,_,h,w=>by injection h with h;subst h;rfl
 | .program k,_,h,w=>by
   have:(Sem.program k).run P w=(k P).run P w:=rfl
   rw [this]
   exact bT (s:=k P) h w
 | .load ..,_,h,_ | .store ..,_,h,_ | .new ..,_,h,_ | .shape ..,_,h,_ | .freeze ..,_,h,_ | .frozen ..,_,h,_ | .getObj ..,_,h,_ | .setObj ..,_,h,_ | .choose ..,_,h,_ | .sys ..,_,h,_ | .mark ..,_,h,_ | .halt ..,_,h,_=>by cases h
inductive OR (Kc:Value→Bool) where
 | val (x:AV Kc)
 | new (T:TypeId) (l:List (Seg Kc))
 | nsl (n:Nat) (T:TypeId) (l:List (Seg Kc))
 | put (k off:Nat) (l:List (Seg Kc))
 | call (f:FuncId) (args:List (AV Kc))
 | stop
def rowB (P:Program) (t:TypeId):Option Bool:=(P.underlying t).map TypeDesc.isRow
def gG (P:Program) (t:TypeId):Option Nat:=(P.info? t).map (·.size)
def vY:List (Seg Kc)→Option (List Value)
 | []=>some []
 | .lit v::l=>(vY l).map (v :: ·)
 | _=>none
def uD:AV Kc→Option Value
 | .fv (.sc (.lit v))=>some v
 | .fv (.ag l)=>(vY l).map fun cs => .agg cs.toArray
 | _=>none
def nN:Value→AV Kc
 | .agg cs=>if cs.toList.all (·.oneCell') then .fv (.ag (cs.toList.map .lit)) else .un
 | .tuple _ => .un
 | v => .fv (.sc (.lit v))
theorem mJ {β:List Nat} {w:World}:∀ {l:List (Seg Kc)} {vs cs:List Value},vY l=some vs→holdsL β l cs w→cs=vs
 | [],_,_,h,h'=>by injection h with h;rw [h',h]
 | .lit v::l,_,_,h,⟨a,b,e,h1,h2⟩=>by
   simp only [vY,Option.map_eq_some_iff] at h
   obtain ⟨r,hr,rfl⟩:=h
   rw [e,h1.1,mJ hr h2];rfl
 | .ptr .. :: _,_,_,h,_ | .slc .. :: _,_,_,h,_ | .sp _::_,_,_,h,_=>by cases h
theorem fZ {β:List Nat} {w:World} {x:AV Kc} {u v:Value} (h:uD x=some u) (hv:x.holds β v w):v=u:=by
 cases x with
 | tup l=>cases h
 | fv f =>
   cases f with
   | sc s =>
     cases s with
     | lit c=>injection h with h;subst h;have:=hv.1;injection this
     | _=>cases h
   | ag l =>
     simp only [uD,Option.map_eq_some_iff] at h
     obtain ⟨cs,hc,rfl⟩:=h
     obtain ⟨ds,rfl,hd⟩:=hv
     rw [mJ hc hd]
   | _=>cases h
theorem gH {β:List Nat} {w:World} (v:Value):(nN v:AV Kc).holds β v w:=by
 unfold nN
 split
 ·split
  ·rename_i h
   exact ⟨_,rfl,holdsL.lits h⟩
  ·trivial
 ·trivial
 ·rename_i h1 h2
  refine ⟨rfl,?_⟩
  cases v <;> simp_all [Value.oneCell']
def nH (P:Program) (T:TypeId) (l:List (Seg Kc)) (off:Nat):OR Kc :=
 match gG P T with
 | some n=>match cut l off n with
   | some m=>match rowB P T,m with
     | some true,m => .val (.fv (.ag m))
     | some false,[s]=>if n==1 then .val (.fv (.sc s)) else .stop
     | _,_ => .stop
   | none => .stop
 | none => .stop
def vZ (place:Nat→Option (Nat×Nat)):List (Nat×AV Kc)→List (Seg Kc)→Option (List (Seg Kc))
 | [],l=>some l
 | (i,x)::r,l=>match place i,x with
   | some (off,n),.fv (.sc s)=>if n==1&&s.size==1 then (yF l off [s]).bind (vZ place r) else none
   | some (off,n),.fv (.ag m)=>if gQ m==n then (yF l off m).bind (vZ place r) else none
   | _,_=>none
def sV (P:Program) (T:TypeId):Option (List (Seg Kc)) :=
 match (P.info? T).bind (·.zero) with
 | some z=>if z.cells.toList.all (·.oneCell') then some (z.cells.toList.map .lit) else none
 | none=>none
def zerosN (z:Value) (k:Nat):List Value:=(List.range k).map fun i=>z.cells[i%z.cells.size]!
def placesA (P:Program) (fs:Array Field):Option (List (Nat×Nat)) :=
 fs.toList.mapM fun f=>(P.info? f.type).map fun i=>(f.offset,i.size)
def caA:Bool×List (Seg Kc)→AV Kc
 | (true,l) => .fv (.ag l)
 | (false,[s]) => .fv (.sc s)
 | _ => .un
def toCA:List (AV Kc)→Option (List (Bool×List (Seg Kc)))
 | []=>some []
 | .fv (.sc s)::l=>(toCA l).map ((false,[s]) :: ·)
 | .fv (.ag m)::l=>(toCA l).map ((true,m) :: ·)
 | _=>none
def litsA:List (AV Kc)→Option (List Value)
 | []=>some []
 | x::l=>match uD x,litsA l with|some v,some r=>some (v::r)|_,_=>none
def jA (P:Program) (s:Sem Value):OR Kc:=match evalP P s with|some v => .val (nN v)|none => .stop
variable (P:Program) (ev:Operand→AV Kc) (bl:List (Option (TypeId×List (Seg Kc))))
def yW (o:Oper):OR Kc :=
 match o.op with
 | .move x | .assign x => .val (ev x)
 | .pick c a b=>match ev c with
   | .fv (.sc (.lit (.bool t))) => .val (if t then ev a else ev b)
   | _ => .stop
 | .alloc T=>match sV P T with|some l => .new T l|none => .stop
 | .box T x=>match ev x with | .fv (.sc s) => .new T [s] | .fv (.ag l) => .new T l|_ => .stop
 | .load T x=>match ev x with
   | .fv (.sc (.ptr k off))=>match bl[k]? with|some (some (_,l))=>nH P T l off|_ => .stop
   | _ => .stop
 | .store T x y=>match ev x,ev y,gG P T with
   | .fv (.sc (.ptr k off)),.fv (.sc s),some n=>if n==1&&s.size==1 then .put k off [s] else .stop
   | .fv (.sc (.ptr k off)),.fv (.ag m),some n=>if gQ m==n then .put k off m else .stop
   | _,_,_ => .stop
 | .fieldAddr T x i=>match ev x,P.underlying T with
   | .fv (.sc (.ptr k off)),some (.struct fs)=>match fs[i]? with
     | some f=>match gG P f.type with|some (_+1) => .val (.fv (.sc (.ptr k (off+f.offset))))|_ => .stop
     | none => .stop
   | _,_ => .stop
 | .field T x i=>match ev x,P.underlying T with
   | .fv (.ag l),some (.struct fs)=>match fs[i]? with|some f=>nH P f.type l f.offset|none => .stop
   | _,_ => .stop
 | .indexAddr T x ix=>match ev x,ev ix,P.underlying T with
   | .fv (.sc (.ptr k off)),.fv (.sc (.lit (.int _ i))),some (.array len e)=>if 0≤i∧i<len then match gG P e with|some n => .val (.fv (.sc (.ptr k (off+i.toNat*n))))|none => .stop else .stop
   | .fv (.sc (.slc k off n _)),.fv (.sc (.lit (.int _ i))),some (.slice e)=>if 0≤i∧i<n then match gG P e with|some m => .val (.fv (.sc (.ptr k (off+i.toNat*m))))|none => .stop else .stop
   | _,_,_ => .stop
 | .index T x ix=>match ev x,ev ix,P.underlying T with
   | .fv (.ag l),.fv (.sc (.lit (.int _ i))),some (.array len e)=>if 0≤i∧i<len then match gG P e with|some n=>nH P e l (i.toNat*n)|none => .stop else .stop
   | _,_,_ => .stop
 | .nilCheck x=>match ev x with | .fv (.sc (.ptr k off)) => .val (.fv (.sc (.ptr k off)))|_ => .stop
 | .extract x i=>match ev x with
   | .tup l=>match l[i]? with|some f => .val (.fv f)|none => .stop
   | _ => .stop
 | .build T parts=>match sV P T,P.underlying T with
   | some z,some (.struct fs)=>match placesA P fs with
     | some pl=>match vZ (fun i=>pl[i]?) (parts.toList.map fun p=>(p.1,ev p.2)) z with|some l => .val (.fv (.ag l))|none => .stop
     | none => .stop
   | some z,some (.array _ e)=>match gG P e with
     | some n=>match vZ (fun i=>some (i*n,n)) (parts.toList.map fun p=>(p.1,ev p.2)) z with|some l => .val (.fv (.ag l))|none => .stop
     | none => .stop
   | _,_ => .stop
 | .buildSlice T len parts=>match P.underlying T with
   | some (.slice e)=>match gG P e,(P.info? e).bind (·.zero) with
     | some n,some z=>if 0<n∧0<len∧len*n≤16777216∧(zerosN z (len*n)).all (·.oneCell')=true then match vZ (fun i=>some (i*n,n)) (parts.toList.map fun p=>(p.1,ev p.2)) ((zerosN z (len*n)).map .lit) with|some l => .nsl len e l|none => .stop else .stop
     | _,_ => .stop
   | _ => .stop
 | .slice T x none none none=>match ev x,P.underlying T with
   | .fv (.sc (.ptr k off)),some (.array n e)=>match gG P e with|some _ => .val (.fv (.sc (.slc k off n n)))|none => .stop
   | _,_ => .stop
 | .binOp op T x y _=>match uD (ev x),uD (ev y) with
   | some a,some b=>jA P (do eqGuard op T x y a b;binOp op T a b)
   | _,_ => .stop
 | .makeFunc (.func F) first cap=>match toCA (first.toList.map ev),toCA (cap.toList.map ev) with
   | some a,some b => .val (.fv (.clo F a b))
   | _,_ => .stop
 | .unOp op _ x=>match uD (ev x) with|some a=>jA P (Op.unary op a)|none => .stop
 | .convert s d x=>match uD (ev x) with|some a=>jA P (convert s d a)|none => .stop
 | .call c=>match c.callee with
   | .value f=>match uD (ev f),ev f with
     | some (.func (.func g) a b),_ => .call g (a.toList.map nN++c.args.toList.map ev++b.toList.map nN)
     | none,.fv (.clo g a b) => .call g (a.map caA++c.args.toList.map ev++b.map caA)
     | _,_ => .stop
   | .builtin .len=>match c.argTypes[0]?,c.args.toList with
     | some T,[x]=>match P.underlying T,ev x with
       | some (.slice _),.fv (.sc (.slc _ _ n _)) => .val (.fv (.sc (.lit (.int .i64 n))))
       | _,_ => .stop
     | _,_ => .stop
   | .builtin b=>match litsA (c.args.toList.map ev) with
     | some vs=>match evalP P (builtin b c.argTypes o.type (c.args.map fun | .const _=>true|_=>false) vs.toArray) with
       | some (.value v) => .val (nN v)
       | _ => .stop
     | none => .stop
   | _ => .stop
 | _ => .stop
end Go.Proofs.YtejbgingjeedaaaGreatDoor.Ab
namespace Go.Proofs.YtejbgingjeedaaaGreatDoor.Ab
open Go.RowKit
variable {Kc:Value→Bool} {P:Program} {ev:Operand→AV Kc} {bl:List (Option (TypeId×List (Seg Kc)))} {β:List Nat} {w:World} {ρ:Operand→Value} {o:Oper} {x:AV Kc}
def Mem (β:List Nat) (bl:List (Option (TypeId×List (Seg Kc)))) (w:World):Prop :=
 ∀ (k:Nat) T l,bl[k]?=some (some (T,l))→∃ g cs,β[k]?=some g∧w.heap[g]?=some (.cells cs.toArray T (0,0))∧holdsL β l cs w
theorem wB {g:Nat} {cs:List Value} {T:TypeId} {fr:Nat×Nat} (h:w.heap[g]?=some (.cells cs.toArray T fr)) (i:Nat):w.cell? ⟨g,i,none⟩=cs[i]?:=by
 unfold World.cell?
 rw [h]
 simp
theorem qW {g:Nat} {cs:List Value} {T:TypeId} {fr:Nat×Nat} (h:w.heap[g]?=some (.cells cs.toArray T fr)) (off n:Nat):w.rangeAt g off ((cs.drop off).take n):=by
 intro j v hj
 rw [wB h]
 rw [List.getElem?_take] at hj
 split at hj
 ·rw [List.getElem?_drop] at hj;exact hj
 ·cases hj
theorem yX {T:TypeId} {l:List (Seg Kc)} {off:Nat} (h:nH P T l off = .val x):∃ n m,gG P T=some n∧cut l off n=some m∧((rowB P T=some true∧x = .fv (.ag m))∨(rowB P T=some false∧n=1∧∃ s,m = [s]∧x = .fv (.sc s))):=by
 unfold nH at h
 split at h
 ·rename_i n hn
  split at h
  ·rename_i m hm
   split at h
   ·rename_i hr
    injection h with h
    exact ⟨n,_,hn,hm,.inl ⟨hr,h.symm⟩⟩
   ·rename_i s hr
    split at h
    ·rename_i h1
     injection h with h
     exact ⟨n,_,hn,hm,.inr ⟨hr,by simpa using h1,s,rfl,h.symm⟩⟩
    ·cases h
   ·cases h
  ·cases h
 ·cases h
theorem oT {T:TypeId} {b:Bool} (h:rowB P T=some b):∃ d,P.underlying T=some d∧d.isRow=b:=by
 unfold rowB at h
 rw [Option.map_eq_some_iff] at h
 exact h
theorem pW {T:TypeId} {n:Nat} (h:gG P T=some n):∃ i,P.info? T=some i∧i.size=n:=by
 unfold gG at h
 rw [Option.map_eq_some_iff] at h
 exact h
theorem sW {T:TypeId} {d:TypeDesc} (h:P.underlying T=some d) (w:World):(isAgg T).run P w = .ok d.isRow w:=by
 unfold isAgg
 rw [Sem.run_bind,run_underlying h w]
 cases d <;> rfl
theorem gA {T:TypeId} {n:Nat} (h:gG P T=some n) (w:World):(Go.sizeOf T).run P w = .ok n w:=by
 obtain ⟨i,h1,h2⟩:=pW h
 simp [Go.sizeOf,typeInfo,h1,h2]
theorem mK {s:Seg Kc} {cs:List Value} (h:holdsL β [s] cs w):s.holds β cs w:=by
 obtain ⟨a,b,e,h1,h2⟩:=h
 rw [show b = [] from h2,List.append_nil] at e
 rw [e];exact h1
theorem take_one {cs:List Value} {off:Nat} (h:off+1≤cs.length):∃ v,(cs.drop off).take 1 = [v]∧cs[off]?=some v:=by
 refine ⟨cs[off],?_,List.getElem?_eq_getElem (by omega)⟩
 rw [List.drop_eq_getElem_cons (by omega)]
 rfl
theorem pG {T T' : TypeId} {l:List (Seg Kc)} {off g:Nat} {cs:List Value} (h:nH P T l off = .val x) (hg:w.heap[g]?=some (.cells cs.toArray T' (0,0))) (hl:holdsL β l cs w) :
 ∃ v,(loadVar T ⟨g,off,none⟩).run P w = .ok v w∧x.holds β v w:=by
 obtain ⟨n,m,hn,hm,hc⟩:=yX h
 obtain ⟨h1,h2⟩:=jJ hm hl
 rcases hc with ⟨hr,rfl⟩|⟨hr,rfl,s,rfl,rfl⟩
 ·obtain ⟨d,hd,hd2⟩:=oT hr
  obtain ⟨i,hi,hi2⟩:=pW hn
  refine ⟨_,run_loadVar_mid w g off T ((cs.drop off).take n) d (qW hg off n) hd hd2 ?_,_,rfl,h1⟩
  rw [hi,Option.map_some,hi2,List.length_take,List.length_drop,Nat.min_eq_left (by omega)]
 ·obtain ⟨d,hd,hd2⟩:=oT hr
  obtain ⟨v,hv,hv2⟩:=take_one h2
  rw [hv] at h1
  refine ⟨v,?_,mK h1⟩
  unfold loadVar
  rw [Sem.run_bind,sW hd w,hd2]
  have hcell:w.cell? ⟨g,off,none⟩=some v:=by rw [wB hg];exact hv2
  simp [Result.andThen,hcell]
theorem run_part {T:TypeId} {l:List (Seg Kc)} {off:Nat} {cs:List Value} (h:nH P T l off = .val x) (hl:holdsL β l cs w) :
 ∃ v,(part T cs.toArray off).run P w = .ok v w∧x.holds β v w:=by
 obtain ⟨n,m,hn,hm,hc⟩:=yX h
 obtain ⟨h1,h2⟩:=jJ hm hl
 rcases hc with ⟨hr,rfl⟩|⟨hr,rfl,s,rfl,rfl⟩
 ·obtain ⟨d,hd,hd2⟩:=oT hr
  refine ⟨.agg ((cs.drop off).take n).toArray,?_,_,rfl,h1⟩
  unfold part
  rw [Sem.run_bind,sW hd w,hd2]
  simp only [Result.andThen,if_true,Sem.run_bind,gA hn w,Sem.run_pure]
  congr 2
  apply Array.toList_inj.1
  simp [Array.toList_extract]
 ·obtain ⟨d,hd,hd2⟩:=oT hr
  obtain ⟨v,hv,hv2⟩:=take_one h2
  rw [hv] at h1
  refine ⟨v,?_,mK h1⟩
  unfold part
  rw [Sem.run_bind,sW hd w,hd2]
  simp [Result.andThen,hv2]
theorem pX {T:TypeId} {l:List (Seg Kc)} (h:sV P T=some l):∃ z,(P.info? T).bind (·.zero)=some z∧(∀ w,(zeroValue T).run P w = .ok z w)∧l=z.cells.toList.map .lit∧z.cells.toList.all (·.oneCell')=true:=by
 unfold sV at h
 split at h
 ·rename_i z hz
  split at h
  ·rename_i h1
   injection h with h
   refine ⟨z,hz,fun w=>?_,h.symm,h1⟩
   rw [Option.bind_eq_some_iff] at hz
   obtain ⟨i,hi,hz⟩:=hz
   simp [zeroValue,typeInfo,hi,hz]
  ·cases h
 ·cases h
theorem nO {s:Sem Value} (h:jA (Kc:=Kc) P s = .val x) (β:List Nat) (w:World):∃ v,s.run P w = .ok v w∧x.holds β v w:=by
 unfold jA at h
 split at h
 ·rename_i v hv
  injection h with h
  subst h
  exact ⟨v,bT hv w,gH v⟩
 ·cases h
theorem wC (cs:Array Value) (ds:List Value) (off:Nat) (h:off+ds.length≤cs.size) :
 (ds.toArray.zipIdx.foldl (fun cs (c,j)=>cs.setIfInBounds (off+j) c) cs).toList=cs.toList.take off++ds++cs.toList.drop (off+ds.length):=by
 rw [← Array.foldl_toList]
 have key:∀ (es:List Value) (k:Nat) (a:Array Value),off+k+es.length≤a.size →
  ((es.zipIdx k).foldl (fun cs (c,j)=>cs.setIfInBounds (off+j) c) a).toList=a.toList.take (off+k)++es++a.toList.drop (off+k+es.length):=by
  intro es
  induction es with
  | nil=>intro k a _;simp
  | cons e es ih =>
    intro k a hk
    simp only [List.length_cons] at hk
    rw [List.zipIdx_cons,List.foldl_cons,ih (k+1) _ (by simp;omega)]
    simp only [Array.toList_setIfInBounds,List.length_cons]
    rw [show off+(k+1)=(off+k)+1 from by omega]
    rw [List.take_set,List.drop_set]
    have hlt:off+k<a.toList.length:=by simp;omega
    have hlt2:off+k+1+es.length > off+k:=by omega
    rw [if_pos (by omega)]
    have e1:(a.toList.take (off+k+1)).set (off+k) e=a.toList.take (off+k) ++ [e]:=by
     rw [List.take_succ_eq_append_getElem hlt]
     rw [List.set_append_right _ _ (by simp;omega)]
     simp [Nat.min_eq_left (show off+k≤a.size by omega)]
    rw [e1]
    rw [show off+k+(es.length+1)=off+k+1+es.length from by omega]
    simp
 have:=key ds 0 cs (by simpa using h)
 simpa using this
theorem nP {s:Seg Kc} {v:Value} (h:s.holds β [v] w):v.cells = #[v]:=by
 have:=Seg.one h v (by simp)
 cases v <;> simp_all [Value.cells,Value.oneCell']
theorem yY {place:Nat→Option (Nat×Nat)} {cs:Array Value} {i off n:Nat} {v:Value} {rest:List (Nat×Value)} (hp:place i=some (off,n)) (hn:v.cells.size=n) (hle:off+v.cells.size≤cs.size) :
 Instr.fill place cs ((i,v)::rest)=Instr.fill place (v.cells.zipIdx.foldl (fun cs (c,j)=>cs.setIfInBounds (off+j) c) cs) rest:=by
 have h2:(decide (v.cells.size≠n) || decide (off+v.cells.size > cs.size))=false:=by simp;omega
 rw [Instr.fill,hp]
 simp only [h2,Bool.false_eq_true,if_false]
theorem lA {place:Nat→Option (Nat×Nat)}:∀ {parts:List (Nat×Operand)} {l l' : List (Seg Kc)} {cs:Array Value},vZ place (parts.map fun p=>(p.1,ev p.2)) l=some l'→holdsL β l cs.toList w →
 (∀ p∈parts,(ev p.2).holds β (ρ p.2) w)→∃ ds:Array Value,Instr.fill place cs (parts.map fun p=>(p.1,ρ p.2))=some ds∧holdsL β l' ds.toList w
 | [],l,l',cs,h,hl,_=>by injection h with h;subst h;exact ⟨cs,rfl,hl⟩
 | (i, y)::parts,l,l',cs,h,hl,hp=>by
   have hy:=hp (i,y) (by simp)
   have hp' : ∀ p∈parts,(ev p.2).holds β (ρ p.2) w:=fun p hm=>hp p (by simp [hm])
   simp only [List.map_cons,vZ] at h
   simp only at hy
   split at h
   ·rename_i off n s hpl hev
    rw [hev] at hy
    split at h
    ·rename_i hn
     simp only [Bool.and_eq_true,beq_iff_eq] at hn
     rw [Option.bind_eq_some_iff] at h
     obtain ⟨l2,hr,h⟩:=h
     obtain ⟨h1,h2⟩:=mI hr hl (holdsL.single hy)
     have hc:=nP hy
     simp only [List.length_singleton] at h2
     rw [Array.length_toList] at h2
     obtain ⟨ds,hd,hd2⟩:=lA (cs := [ρ y].toArray.zipIdx.foldl (fun cs (c,j)=>cs.setIfInBounds (off+j) c) cs) h (by
      rw [wC cs [ρ y] off (by simpa using h2)]
      exact h1) hp'
     refine ⟨ds,?_,hd2⟩
     rw [List.map_cons,yY hpl (by rw [hc];simp;omega) (by rw [hc];simp;omega),hc]
     exact hd
    ·cases h
   ·rename_i off n m hpl hev
    rw [hev] at hy
    obtain ⟨es,he,hm⟩:=hy
    split at h
    ·rename_i hn
     simp only [beq_iff_eq] at hn
     rw [Option.bind_eq_some_iff] at h
     obtain ⟨l2,hr,h⟩:=h
     obtain ⟨h1,h2⟩:=mI hr hl hm
     have hlen:=holdsL.len hm
     simp only [Array.length_toList] at h2
     obtain ⟨ds,hd,hd2⟩:=lA (cs:=es.toArray.zipIdx.foldl (fun cs (c,j)=>cs.setIfInBounds (off+j) c) cs) h (by
      rw [wC cs es off (by omega)]
      exact h1) hp'
     refine ⟨ds,?_,hd2⟩
     have hc:(ρ y).cells=es.toArray:=by rw [he];rfl
     rw [List.map_cons,yY hpl (by rw [hc];simp;omega) (by rw [hc];simp;omega),hc]
     exact hd
    ·cases h
   ·cases h
end Go.Proofs.YtejbgingjeedaaaGreatDoor.Ab
namespace Go.Proofs.YtejbgingjeedaaaGreatDoor.Ab
open Go.RowKit
variable {Kc:Value→Bool} {P:Program} {ev:Operand→AV Kc} {bl:List (Option (TypeId×List (Seg Kc)))} {β:List Nat} {w:World} {ρ:Operand→Value} {o:Oper} {x:AV Kc}
theorem bJ {s:Sem Value} {v:Value} {w w' : World} (h:s.run P w = .ok v w'):(do pure (Next.value (← s)):Sem Next).run P w = .ok (.value v) w':=by
 rw [Sem.run_bind,h];rfl
theorem vH (g off n:Nat):(⟨g,off,none⟩:Addr).add n=⟨g,off+n,none⟩:=Addr.add_mid g off n
theorem gI {k off:Nat} {v:Value} (h:(AV.fv (.sc (.ptr k off)):AV Kc).holds β v w):∃ g,β[k]?=some g∧v = .pointer (some ⟨g,off,none⟩):=by
 obtain ⟨g,h1,h2⟩:=h
 injection h2 with h2
 exact ⟨g,h1,h2⟩
theorem wD {k off n c:Nat} {v:Value} (h:(AV.fv (.sc (.slc k off n c)):AV Kc).holds β v w):∃ g,β[k]?=some g∧v = .slice (some ⟨g,off,none⟩) n c:=by
 obtain ⟨g,h1,h2⟩:=h
 injection h2 with h2
 exact ⟨g,h1,h2⟩
theorem aN {u v:Value} (h:(AV.fv (.sc (.lit u)):AV Kc).holds β v w):v=u:=by
 have:=h.1
 injection this
theorem jN {k off g:Nat} (h:β[k]?=some g):(AV.fv (.sc (.ptr k off)):AV Kc).holds β (.pointer (some ⟨g,off,none⟩)) w:=⟨g,h,rfl⟩
theorem mM:∀ {l:List Operand} {m:List (Bool×List (Seg Kc))},toCA (l.map ev)=some m→(∀ y∈l,(ev y).holds β (ρ y) w)→holdsC β m (l.map ρ) w
 | [],m,h,_=>by injection h with h;subst h;rfl
 | y :: l,m,h,hs=>by
   have hy:=hs y (by simp)
   have hl:∀ z∈l,(ev z).holds β (ρ z) w:=fun z hz=>hs z (by simp [hz])
   rw [List.map_cons] at h
   generalize ev y=x at h hy
   cases x with
   | tup l=>cases h
   | fv f =>
     cases f with
     | sc s =>
       simp only [toCA,Option.map_eq_some_iff] at h
       obtain ⟨r,hr,rfl⟩:=h
       exact ⟨ρ y,l.map ρ,rfl,holdsL.single hy,mM hr hl⟩
     | ag m =>
       simp only [toCA,Option.map_eq_some_iff] at h
       obtain ⟨r,hr,rfl⟩:=h
       exact ⟨ρ y,l.map ρ,rfl,hy,mM hr hl⟩
     | clo F a b=>cases h
     | nsl n T l=>cases h
     | un=>cases h
theorem uE:∀ {l:List Operand} {vs:List Value},litsA (l.map ev)=some vs→(∀ y∈l,(ev y).holds β (ρ y) w)→l.map ρ=vs
 | [],vs,h,_=>by simpa [litsA] using h
 | y :: l,vs,h,hs=>by
   simp only [List.map_cons,litsA] at h
   split at h
   ·rename_i v r hv hr
    injection h with h
    subst h
    rw [List.map_cons,fZ hv (hs y (by simp)),uE hr (fun z hz=>hs z (by simp [hz]))]
   ·cases h
theorem opA_val (h:yW P ev bl o = .val x) (hs:∀ y∈o.op.operands,(ev y).holds β (ρ y) w) (hm:Mem β bl w):∃ v,(execOp ρ o).run P w = .ok (.value v) w∧x.holds β v w:=by
 obtain ⟨dst,op,type,pos,after,guard⟩:=o
 cases op <;> simp only [yW] at h
 case move y=>injection h with h;subst h;exact ⟨_,rfl,hs y (by simp [Op.operands])⟩
 case assign y=>injection h with h;subst h;exact ⟨_,rfl,hs y (by simp [Op.operands])⟩
 case pick c a b =>
  split at h
  ·rename_i t hc
   injection h with h
   have h1:=hs c (by simp [Op.operands])
   rw [hc] at h1
   have h2:=aN h1
   refine ⟨if t then ρ a else ρ b,?_,?_⟩
   ·simp [execOp,h2,asBool]
   ·subst h
    cases t
    ·exact hs b (by simp [Op.operands])
    ·exact hs a (by simp [Op.operands])
  ·cases h
 case alloc T=>split at h <;> cases h
 case box T y=>split at h <;> cases h
 case load T y =>
  split at h
  ·rename_i k off hy
   split at h
   ·rename_i T' l hb
    have h1:=hs y (by simp [Op.operands])
    rw [hy] at h1
    obtain ⟨g,hg,hv⟩:=gI h1
    obtain ⟨g',cs,hg',hh,hl⟩:=hm k T' l hb
    rw [hg] at hg'
    injection hg' with hg'
    subst hg'
    obtain ⟨v,hr,hx⟩:=pG h hh hl
    refine ⟨v,?_,hx⟩
    simp only [execOp,Instr.loadAt,hv,Instr.sureAddr]
    exact bJ (by simpa [Sem.run_bind] using hr)
   ·cases h
  ·cases h
 case store T a b=>repeat' (first|(cases h;done)|split at h)
 case fieldAddr T y i =>
  split at h
  ·rename_i k off fs hy hu
   split at h
   ·rename_i f hf
    split at h
    ·rename_i n hn
     injection h with h
     subst h
     have h1:=hs y (by simp [Op.operands])
     rw [hy] at h1
     obtain ⟨g,hg,hv⟩:=gI h1
     refine ⟨_,?_,jN hg⟩
     simp only [execOp]
     refine bJ ?_
     simp only [Instr.fieldAt,Sem.run_bind,run_underlying hu,Result.andThen,hf,hv,Instr.sureAddr,Sem.run_pure,fieldPlace,gA hn,vH]
     rfl
    ·cases h
   ·cases h
  ·cases h
 case field T y i =>
  split at h
  ·rename_i l fs hy hu
   split at h
   ·rename_i f hf
    have h1:=hs y (by simp [Op.operands])
    rw [hy] at h1
    obtain ⟨cs,hv,hl⟩:=h1
    obtain ⟨v,hr,hx⟩:=run_part h hl
    refine ⟨v,?_,hx⟩
    simp only [execOp]
    refine bJ ?_
    simp only [Instr.field,Sem.run_bind,run_underlying hu,Result.andThen,hf,hv,asAgg,Sem.run_pure,hr]
   ·cases h
  ·cases h
 case indexAddr T y ix =>
  split at h
  ·rename_i k off kd i len e hy hi hu
   split at h
   ·rename_i hb
    split at h
    ·rename_i n hn
     injection h with h
     subst h
     have h1:=hs y (by simp [Op.operands])
     rw [hy] at h1
     obtain ⟨g,hg,hv⟩:=gI h1
     have h2:=hs ix (by simp [Op.operands])
     rw [hi] at h2
     have hv2:=aN h2
     refine ⟨_,?_,jN hg⟩
     simp only [execOp]
     refine bJ ?_
     simp [Instr.indexAt,Sem.run_bind,run_underlying hu,Result.andThen,hv,hv2,asIntOf,Instr.sureAddr,gA hn,vH,hb.1,hb.2]
    ·cases h
   ·cases h
  ·rename_i k off n c kd i e hy hi hu
   split at h
   ·rename_i hb
    split at h
    ·rename_i m hm2
     injection h with h
     subst h
     have h1:=hs y (by simp [Op.operands])
     rw [hy] at h1
     obtain ⟨g,hg,hv⟩:=wD h1
     have h2:=hs ix (by simp [Op.operands])
     rw [hi] at h2
     have hv2:=aN h2
     refine ⟨_,?_,jN hg⟩
     simp only [execOp]
     refine bJ ?_
     simp [Instr.indexAt,Sem.run_bind,run_underlying hu,Result.andThen,hv,hv2,asIntOf,gA hm2,vH,hb.1,hb.2]
    ·cases h
   ·cases h
  ·cases h
 case index T y ix =>
  split at h
  ·rename_i l kd i len e hy hi hu
   split at h
   ·rename_i hb
    split at h
    ·rename_i n hn
     have h1:=hs y (by simp [Op.operands])
     rw [hy] at h1
     obtain ⟨cs,hv,hl⟩:=h1
     have h2:=hs ix (by simp [Op.operands])
     rw [hi] at h2
     have hv2:=aN h2
     obtain ⟨v,hr,hx⟩:=run_part h hl
     refine ⟨v,?_,hx⟩
     simp only [execOp]
     refine bJ ?_
     simp [Instr.index,Sem.run_bind,run_underlying hu,Result.andThen,hv,hv2,asIntOf,gA hn,hb.1,hb.2,hr]
    ·cases h
   ·cases h
  ·cases h
 case nilCheck y =>
  split at h
  ·rename_i k off hy
   injection h with h
   subst h
   have h1:=hs y (by simp [Op.operands])
   rw [hy] at h1
   obtain ⟨g,hg,hv⟩:=gI h1
   refine ⟨_,?_,jN hg⟩
   simp only [execOp,hv]
   rfl
  ·cases h
 case extract y i =>
  split at h
  ·rename_i l hy
   split at h
   ·rename_i f hf
    injection h with h
    subst h
    have h1:=hs y (by simp [Op.operands])
    rw [hy] at h1
    obtain ⟨vs,hv,hl⟩:=h1
    obtain ⟨v,hv2,hx⟩:=holdsF.get hl hf
    refine ⟨v,?_,hx⟩
    simp only [execOp]
    refine bJ ?_
    simp [Instr.extract,hv,hv2]
   ·cases h
  ·cases h
 case build T parts =>
  have hp:∀ p∈parts.toList,(ev p.2).holds β (ρ p.2) w:=fun p hm=>hs p.2 (by
   simp only [Op.operands]
   exact List.mem_toArray.2 (List.mem_map.2 ⟨p,hm,rfl⟩))
  split at h
  ·rename_i z fs hz hu
   split at h
   ·rename_i pl hpl
    split at h
    ·rename_i l hl
     injection h with h
     subst h
     obtain ⟨zv,hzi,_,rfl,hone⟩:=pX hz
     obtain ⟨ds,hd,hd2⟩:=lA (cs:=zv.cells) hl (holdsL.lits hone) hp
     refine ⟨.agg ds,?_,⟨ds.toList,by simp,hd2⟩⟩
     simp only [execOp]
     refine bJ (run_build w T _ ds ?_)
     rw [Option.bind_eq_some_iff] at hzi
     obtain ⟨i,hi,hz2⟩:=hzi
     have hpl' : fs.toList.mapM (fun f=>(P.info? f.type).map fun i=>(f.offset,i.size))=some pl:=hpl
     simp only [Program.built,hi,hu,hz2,hpl']
     simpa using hd
    ·cases h
   ·cases h
  ·rename_i z n e hz hu
   split at h
   ·rename_i m hn
    split at h
    ·rename_i l hl
     injection h with h
     subst h
     obtain ⟨zv,hzi,_,rfl,hone⟩:=pX hz
     obtain ⟨ds,hd,hd2⟩:=lA (cs:=zv.cells) hl (holdsL.lits hone) hp
     refine ⟨.agg ds,?_,⟨ds.toList,by simp,hd2⟩⟩
     simp only [execOp]
     refine bJ (run_build w T _ ds ?_)
     rw [Option.bind_eq_some_iff] at hzi
     obtain ⟨i,hi,hz2⟩:=hzi
     obtain ⟨ie,hie,hie2⟩:=pW hn
     simp only [Program.built,hi,hu,hz2,hie,hie2]
     simpa using hd
    ·cases h
   ·cases h
  ·cases h
 case buildSlice T len parts=>repeat' (first|(cases h;done)|split at h)
 case slice T y lo hi mx =>
  cases lo <;> cases hi <;> cases mx <;> simp only at h <;> try (cases h;done)
  split at h
  ·rename_i k off n e hy hu
   split at h
   ·rename_i m hn
    injection h with h
    subst h
    have h1:=hs y (by simp [Op.operands])
    rw [hy] at h1
    obtain ⟨g,hg,hv⟩:=gI h1
    refine ⟨.slice (some ⟨g,off,none⟩) n n,?_,⟨g,hg,rfl⟩⟩
    simp only [execOp,Option.map_none]
    refine bJ ?_
    have h0:∀ c:Prop,[Decidable c]→(if c then (⟨g,off,none⟩:Addr) else (⟨g,off,none⟩:Addr).add (0*m))=⟨g,off,none⟩:=fun c _=>by split <;> simp [vH]
    simp [Instr.sliceAt,Sem.run_bind,run_underlying hu,Result.andThen,hv,Instr.sureAddr,Instr.sliceBounds,gA hn]
    have:=h0 (n=0)
    simpa using this
   ·cases h
  ·cases h
 case binOp op T a b yt =>
  split at h
  ·rename_i u v hu hv
   have h1:=fZ hu (hs a (by simp [Op.operands]))
   have h2:=fZ hv (hs b (by simp [Op.operands]))
   obtain ⟨r,hr,hx⟩:=nO h β w
   refine ⟨r,?_,hx⟩
   simp only [execOp,h1,h2]
   exact bJ hr
  ·cases h
 case makeFunc fn first cap =>
  cases fn with
  | func F =>
    simp only at h
    split at h
    ·rename_i a b ha hb
     injection h with h
     subst h
     refine ⟨.func (.func F) (first.map ρ) (cap.map ρ),rfl,first.toList.map ρ,cap.toList.map ρ,?_,?_,?_⟩
     ·congr 1 <;> (apply Array.toList_inj.1;simp)
     ·exact mM ha (fun y hy=>hs y (by simp only [Op.operands,Array.mem_append];exact .inl (by simpa using hy)))
     ·exact mM hb (fun y hy=>hs y (by simp only [Op.operands,Array.mem_append];exact .inr (by simpa using hy)))
    ·cases h
  | _=>cases h
 case unOp op T a =>
  split at h
  ·rename_i u hu
   have h1:=fZ hu (hs a (by simp [Op.operands]))
   obtain ⟨r,hr,hx⟩:=nO h β w
   refine ⟨r,?_,hx⟩
   simp only [execOp,h1]
   exact bJ hr
  ·cases h
 case convert s d a =>
  split at h
  ·rename_i u hu
   have h1:=fZ hu (hs a (by simp [Op.operands]))
   obtain ⟨r,hr,hx⟩:=nO h β w
   refine ⟨r,?_,hx⟩
   simp only [execOp,h1]
   exact bJ hr
  ·cases h
 case call c =>
  split at h
  ·split at h <;> cases h
  ·rename_i hc
   split at h
   ·rename_i T y ht ha
    split at h
    ·rename_i e k off n c' hu hy
     injection h with h
     subst h
     have hmem:y∈c.operands:=by
      simp only [Call.operands,hc,Array.mem_append]
      exact .inr (by rw [← Array.mem_toList_iff,ha];simp)
     have h1:=hs y (by simpa [Op.operands] using hmem)
     rw [hy] at h1
     obtain ⟨g,hg,hv⟩:=wD h1
     refine ⟨.int .i64 n,?_,⟨rfl,rfl⟩⟩
     have harg:c.args.map ρ = #[.slice (some ⟨g,off,none⟩) n c']:=by
      apply Array.toList_inj.1
      rw [Array.toList_map,ha,List.map_singleton,hv]
     simp only [execOp,resolve,hc,Sem.run_bind,Sem.run_pure,Result.andThen,invoke,builtin,harg,Builtin.len_,ht]
     simp [Sem.run_bind,run_underlying hu,Result.andThen,goInt]
    ·cases h
   ·cases h
  ·rename_i b _ hc
   split at h
   ·rename_i vs hvs
    split at h
    ·rename_i v hv
     injection h with h
     subst h
     have he:=uE hvs (fun y hm=>hs y (by
      simp only [Op.operands,Call.operands,hc,Array.mem_append]
      exact .inr (by simpa using hm)))
     have harg:c.args.map ρ=vs.toArray:=by
      apply Array.toList_inj.1
      rw [Array.toList_map,he]
     refine ⟨v,?_,gH v⟩
     simp only [execOp,resolve,hc,Sem.run_bind,Sem.run_pure,Result.andThen,invoke,harg]
     exact bT hv w
    ·cases h
   ·cases h
  ·cases h
 all_goals (cases h)
theorem aAi {T:TypeId} {l:List (Seg Kc)} (h:yW P ev bl o = .new T l) (hs:∀ y∈o.op.operands,(ev y).holds β (ρ y) w) :
 ∃ cs:List Value,(execOp ρ o).run P w = .ok (.value (.pointer (some ⟨w.heap.size,0,none⟩))) (w.alloc (.cells cs.toArray T))∧holdsL β l cs w:=by
 obtain ⟨dst,op,type,pos,after,guard⟩:=o
 cases op <;> simp only [yW] at h
 case alloc T' =>
  split at h
  ·rename_i l' hz
   injection h with h1 h2
   subst h1
   subst h2
   obtain ⟨z,_,hz2,rfl,hone⟩:=pX hz
   refine ⟨z.cells.toList,?_,holdsL.lits hone⟩
   simp only [execOp]
   refine bJ ?_
   simp [Instr.alloc,Sem.run_bind,hz2,Result.andThen,newVar,newRow]
  ·cases h
 case box T' y =>
  split at h
  ·rename_i s hy
   injection h with h1 h2
   subst h1
   subst h2
   have hv:=hs y (by simp [Op.operands])
   rw [hy] at hv
   refine ⟨[ρ y],?_,holdsL.single hv⟩
   simp only [execOp]
   refine bJ ?_
   simp [Instr.box,Sem.run_bind,Result.andThen,newVar,newRow,nP hv]
  ·rename_i l' hy
   injection h with h1 h2
   subst h1
   subst h2
   have hv:=hs y (by simp [Op.operands])
   rw [hy] at hv
   obtain ⟨cs,hv,hl⟩:=hv
   refine ⟨cs,?_,hl⟩
   simp only [execOp]
   refine bJ ?_
   simp [Instr.box,Sem.run_bind,Result.andThen,newVar,newRow,hv,Value.cells]
  ·cases h
 case slice T' y lo hi mx=>cases lo <;> cases hi <;> cases mx <;> simp only at h <;> (repeat' (first|(cases h;done)|split at h))
 case makeFunc fn first cap=>cases fn <;> simp only at h <;> (repeat' (first|(cases h;done)|split at h))
 all_goals (repeat' (first|(cases h;done)|(unfold nH at h)|(unfold jA at h)|split at h))
theorem aAj {T:TypeId} {n:Nat} {l:List (Seg Kc)} (h:yW P ev bl o = .nsl n T l) (hs:∀ y∈o.op.operands,(ev y).holds β (ρ y) w) :
 ∃ cs:List Value,(execOp ρ o).run P w = .ok (.value (.slice (some ⟨w.heap.size,0,none⟩) n n)) (w.alloc (.cells cs.toArray T))∧holdsL β l cs w:=by
 obtain ⟨dst,op,type,pos,after,guard⟩:=o
 cases op <;> simp only [yW] at h
 case buildSlice T' len parts =>
  have hp:∀ p∈parts.toList,(ev p.2).holds β (ρ p.2) w:=fun p hm=>hs p.2 (by
   simp only [Op.operands]
   exact List.mem_toArray.2 (List.mem_map.2 ⟨p,hm,rfl⟩))
  split at h
  ·rename_i e hu
   split at h
   ·rename_i m zv hm hzi
    split at h
    ·rename_i hc
     split at h
     ·rename_i l' hl
      injection h with h1 h2 h3
      subst h1
      subst h2
      subst h3
      obtain ⟨hc1,hc2,hc3,hone⟩:=hc
      have harr:((Array.range (len*m)).map (fun i=>zv.cells[i%zv.cells.size]!)).toList=zerosN zv (len*m):=by
       rw [Array.toList_map,Array.toList_range];rfl
      obtain ⟨ds,hd,hd2⟩:=lA (cs:=(Array.range (len*m)).map (fun i=>zv.cells[i%zv.cells.size]!)) hl (by rw [harr];exact holdsL.lits hone) hp
      refine ⟨ds.toList,?_,hd2⟩
      simp only [execOp]
      refine bJ ?_
      have h0:len*m≠0:=Nat.mul_ne_zero (by omega) (by omega)
      have h1:¬ (len*m > 2^24):=by omega
      have hzr:(zeroValue e).run P w = .ok zv w:=by
       rw [Option.bind_eq_some_iff] at hzi
       obtain ⟨i,hi,hz⟩:=hzi
       simp [zeroValue,typeInfo,hi,hz]
      have hd' : Instr.fill (fun i=>some (i*m,m)) ((Array.range (len*m)).map (fun i=>zv.cells[i%zv.cells.size]!)) (parts.map fun (i,x)=>(i,ρ x)).toList=some ds:=by simpa using hd
      unfold Instr.buildSlice
      simp only [Sem.run_bind,run_underlying hu,Result.andThen,gA hm,if_neg h1,if_neg h0,hzr,Sem.run_pure,hd']
      simp [Sem.run_bind,newRow,Result.andThen]
     ·cases h
    ·cases h
   ·cases h
  ·cases h
 case slice T' y lo hi mx=>cases lo <;> cases hi <;> cases mx <;> simp only at h <;> (repeat' (first|(cases h;done)|split at h))
 case makeFunc fn first cap=>cases fn <;> simp only at h <;> (repeat' (first|(cases h;done)|split at h))
 all_goals (repeat' (first|(cases h;done)|(unfold nH at h)|(unfold jA at h)|split at h))
theorem opA_call {f:FuncId} {args:List (AV Kc)} (h:yW P ev bl o = .call f args) (hs:∀ y∈o.op.operands,(ev y).holds β (ρ y) w) :
 ∃ vs:List Value,(execOp ρ o).run P w=(callFunc f vs.toArray).run P w∧holdsA β args vs w:=by
 obtain ⟨dst,op,type,pos,after,guard⟩:=o
 cases op <;> simp only [yW] at h
 case call c =>
  split at h
  ·rename_i y hc
   have hA:∀ (l:List Value),holdsA β (l.map (nN (Kc:=Kc))) l w:=fun l=>by
    induction l with
    | nil=>rfl
    | cons v l ih=>exact ⟨v,l,rfl,gH v,ih⟩
   have hB:∀ (l:List Operand),(∀ y∈l,(ev y).holds β (ρ y) w)→holdsA β (l.map ev) (l.map ρ) w:=fun l=>by
    induction l with
    | nil=>intro _;rfl
    | cons v l ih=>intro hm;exact ⟨ρ v,l.map ρ,rfl,hm v (by simp),ih (fun y hy=>hm y (by simp [hy]))⟩
   have hC:∀ {l l' : List (AV Kc)} {vs vs' : List Value},holdsA β l vs w→holdsA β l' vs' w→holdsA β (l++l') (vs++vs') w:=fun {l}=>by
    induction l with
    | nil=>intro l' vs vs' h h';rw [show vs = [] from h];exact h'
    | cons x l ih=>rintro l' vs vs' ⟨v,r,rfl,h1,h2⟩ h';exact ⟨v,r++vs',rfl,h1,ih h2 h'⟩
   have hD:∀ (l:List (Bool×List (Seg Kc))) (vs:List Value),holdsC β l vs w→holdsA β (l.map caA) vs w:=fun l=>by
    induction l with
    | nil=>intro vs h;exact h
    | cons c l ih =>
      rintro vs ⟨v,r,rfl,h1,h2⟩
      refine ⟨v,r,rfl,?_,ih r h2⟩
      obtain ⟨b,m⟩:=c
      cases b with
      | true=>exact h1
      | false =>
        match m,h1 with
        | [],_=>trivial
        | [s],h1=>exact mK h1
        | _::_::_,_=>trivial
   have hE:holdsA β (c.args.toList.map ev) (c.args.toList.map ρ) w:=hB _ (fun y hm=>hs y (by
    simp only [Op.operands,Call.operands,hc,Array.mem_append]
    exact .inr (by simpa using hm)))
   split at h
   ·rename_i g a b hy
    injection h with h1 h2
    subst h1
    subst h2
    have hv:=fZ hy (hs y (by simp [Op.operands,Call.operands,hc]))
    refine ⟨a.toList++(c.args.toList.map ρ)++b.toList,?_,?_⟩
    ·simp only [execOp,resolve,hc,Sem.run_bind,Sem.run_pure,Result.andThen,hv,Deferred.ofValue,invoke]
     congr 2
     apply Array.toList_inj.1
     simp
    ·exact hC (hC (hA _) hE) (hA _)
   ·rename_i g a b _ hy
    injection h with h1 h2
    subst h1
    subst h2
    have hv:=hs y (by simp [Op.operands,Call.operands,hc])
    rw [hy] at hv
    obtain ⟨xs,ys,hv,hx,hyy⟩:=hv
    refine ⟨xs++(c.args.toList.map ρ)++ys,?_,hC (hC (hD _ _ hx) hE) (hD _ _ hyy)⟩
    simp only [execOp,resolve,hc,Sem.run_bind,Sem.run_pure,Result.andThen,hv,Deferred.ofValue,invoke]
    congr 2
    apply Array.toList_inj.1
    simp
   ·cases h
  ·split at h <;> (try split at h) <;> cases h
  ·split at h <;> (try split at h) <;> cases h
  ·cases h
 case slice T' y lo hi mx=>cases lo <;> cases hi <;> cases mx <;> simp only at h <;> (repeat' (first|(cases h;done)|split at h))
 case makeFunc fn first cap=>cases fn <;> simp only at h <;> (repeat' (first|(cases h;done)|split at h))
 all_goals (repeat' (first|(cases h;done)|(unfold nH at h)|(unfold jA at h)|split at h))
theorem Turned.self {g:Nat} {ob:Obj} (h:w.heap[g]?=some ob):Turned g ob w w:=⟨rfl,rfl,rfl,rfl,h,fun _ _=>rfl⟩
theorem Turned.next {g:Nat} {ob ob' : Obj} {w1 w2 w3:World} (h:Turned g ob w1 w2) (h' : Turned g ob' w2 w3):Turned g ob' w1 w3 :=
 ⟨h'.os.trans h.os,h'.tape.trans h.tape,h'.output.trans h.output,h'.size.trans h.size,h'.at_,fun k hk=>(h'.block k hk).trans (h.block k hk)⟩
theorem nI {g:Nat} {T:TypeId}:∀ (es:List Value) (off:Nat) (w:World) (cs:List Value),w.heap[g]?=some (.cells cs.toArray T (0,0))→off+es.length≤cs.length →
 Turned g (.cells (cs.take off++es++cs.drop (off+es.length)).toArray T (0,0)) w (w.setCells g off es)
 | [],off,w,cs,h,_=>by
   simpa [World.setCells] using Turned.self h
 | e :: es,off,w,cs,h,hl=>by
   simp only [List.length_cons] at hl
   have h1:Turned g (.cells (cs.set off e).toArray T (0,0)) w (w.setCell ⟨g,off,none⟩ e):=by
    refine ⟨rfl,rfl,rfl,by simp [World.setCell],?_,fun k hk=>Below.heap_setCell w ⟨g,off,none⟩ e k hk⟩
    simp only [World.setCell,Array.getElem?_modify,h]
    simp
   have h2:=nI es (off+1) _ (cs.set off e) h1.at_ (by simp;omega)
   have e1:(cs.set off e).take (off+1)++es++(cs.set off e).drop (off+1+es.length)=cs.take off++(e::es)++cs.drop (off+(e::es).length):=by
    rw [List.drop_set,if_pos (by omega)]
    have hlt:off<cs.length:=by omega
    rw [List.take_set,List.take_succ_eq_append_getElem hlt,List.set_append_right _ _ (by simp;omega)]
    simp [Nat.min_eq_left (show off≤cs.length by omega),show off+1+es.length=off+(es.length+1) by omega]
   rw [e1] at h2
   exact h1.next h2
theorem lB {T T' : TypeId} {a b:Operand} {g off n:Nat} {cs es:List Value} (ho:o.op = .store T' a b) (ha:ρ a = .pointer (some ⟨g,off,none⟩)) (hb:(ρ b).cells.toList=es) (hn:gG P T'=some n) (hlen:es.length=n)
 (h1:∀ c∈es,c.oneCell'=true) (hg:w.heap[g]?=some (.cells cs.toArray T (0,0))) (h2:off+es.length≤cs.length) :
 (execOp ρ o).run P w = .ok .skip (w.setCells g off es)∧Turned g (.cells (cs.take off++es++cs.drop (off+es.length)).toArray T (0,0)) w (w.setCells g off es):=by
 have hcell:∀ j,j<es.length→(w.cell? ⟨g,off+0+j,none⟩).isSome=true:=fun j hj=>by
  rw [wB hg,List.getElem?_eq_getElem (by omega)];rfl
 have hfr:∀ j,j<es.length→w.frozen? ⟨g,off+0+j,none⟩=false:=fun j _=>by simp [World.frozen?,hg]
 have hst:=run_storeCells_cells (P:=P) g off es 0 w hcell hfr h1
 refine ⟨?_,nI es off w cs hg h2⟩
 simp only [execOp,ho,ha,Instr.storeAt,Instr.sureAddr,Sem.run_bind,Sem.run_pure,Result.andThen,storeVar,gA hn]
 have hsz:(ρ b).cells.size=n:=by rw [← hlen,← hb];simp
 simp only [hsz,ne_eq,not_true_eq_false,if_false,hb,Sem.run_bind,Sem.run_pure,Result.andThen]
 have hst' : (storeCells ⟨g,off,none⟩ es).run P w = .ok () (w.setCells g off es):=by simpa using hst
 rw [hst']
theorem opA_put {k off:Nat} {m l l' : List (Seg Kc)} {g:Nat} {cs:List Value} {T:TypeId} (h:yW P ev bl o = .put k off m) (hs:∀ y∈o.op.operands,(ev y).holds β (ρ y) w)
 (hk:β[k]?=some g) (hg:w.heap[g]?=some (.cells cs.toArray T (0,0))) (hl:holdsL β l cs w) (hr:yF l off m=some l') :
 ∃ ds w',(execOp ρ o).run P w = .ok .skip w'∧Turned g (.cells ds.toArray T (0,0)) w w'∧holdsL β l' ds w:=by
 have key:∀ (T' : TypeId) (a b:Operand) (n:Nat) (v:Value) (es:List Value),o.op = .store T' a b→ρ a = .pointer (some ⟨g,off,none⟩)→ρ b=v→v.cells.toList=es→gG P T'=some n→es.length=n→holdsL β m es w →
  ∃ ds w',(execOp ρ o).run P w = .ok .skip w'∧Turned g (.cells ds.toArray T (0,0)) w w'∧holdsL β l' ds w:=by
  intro T' a b n v es ho ha hb hv hn hlen hm
  obtain ⟨h1,h2⟩:=mI hr hl hm
  obtain ⟨h3,h4⟩:=lB (P:=P) ho ha (by rw [hb];exact hv) hn hlen (holdsL.one hm) hg h2
  exact ⟨_,_,h3,h4,h1⟩
 obtain ⟨dst,op,type,pos,after,guard⟩:=o
 cases op <;> simp only [yW] at h
 case store T' a b =>
  have ha:=hs a (by simp [Op.operands])
  have hb:=hs b (by simp [Op.operands])
  split at h
  ·rename_i k' off' s n h1 h2 h3
   split at h
   ·rename_i hc
    injection h with e1 e2 e3
    subst e1
    subst e2
    subst e3
    simp only [Bool.and_eq_true,beq_iff_eq] at hc
    rw [h1] at ha
    rw [h2] at hb
    obtain ⟨g',hg',hv⟩:=gI ha
    rw [hk] at hg'
    injection hg' with hg'
    subst hg'
    exact key T' a b n _ [ρ b] rfl hv rfl (by rw [nP hb]) h3 (by simp;omega) (holdsL.single hb)
   ·cases h
  ·rename_i k' off' mm n h1 h2 h3
   split at h
   ·rename_i hc
    injection h with e1 e2 e3
    subst e1
    subst e2
    subst e3
    simp only [beq_iff_eq] at hc
    rw [h1] at ha
    rw [h2] at hb
    obtain ⟨g',hg',hv⟩:=gI ha
    rw [hk] at hg'
    injection hg' with hg'
    subst hg'
    obtain ⟨es,he,hm⟩:=hb
    exact key T' a b n _ es rfl hv rfl (by rw [he];rfl) h3 (by rw [hm.len];exact hc) hm
   ·cases h
  ·cases h
 case slice T' y lo hi mx=>cases lo <;> cases hi <;> cases mx <;> simp only at h <;> (repeat' (first|(cases h;done)|split at h))
 case makeFunc fn first cap=>cases fn <;> simp only at h <;> (repeat' (first|(cases h;done)|split at h))
 all_goals (repeat' (first|(cases h;done)|(unfold nH at h)|(unfold jA at h)|split at h))
end Go.Proofs.YtejbgingjeedaaaGreatDoor.Ab
namespace Go.Proofs.YtejbgingjeedaaaGreatDoor
open Go.RowKit
section
variable {P:Program} {ops:Array Oper} {K:Value→Bool} {T:List Nat} {w0:World} {a0:Act} {Q:Act→World→Prop} {o:Oper} {rest:List Oper} {g:List Ent}
theorem wanted_is {A:Act} {j:Nat} {want b:Bool} {d:Tmp} (hg:o.guard=some (j,want)) (hd:(ops[j]?).bind (·.dst)=some d) (h:A.eval (.tmp d) = .bool b) :
 Region.wanted o (yielded ops A.tmps)=(b==want):=by
 have hy:yielded ops A.tmps j=some b:=by
  unfold yielded
  rw [hd]
  have h2:A.tmps[d]?.getD undef = .bool b:=by simpa [Act.eval] using h
  cases h3:A.tmps[d]? with
  | none=>rw [h3] at h2;cases h2
  | some v =>
    rw [h3] at h2
    have h4:v = .bool b:=h2
    subst h4
    simp [h3]
 unfold Region.wanted
 rw [hg]
 simp [hy]
theorem guard_looks {j:Nat} {want:Bool} {d:Tmp} (hg:o.guard=some (j,want)) (hd:(ops[j]?).bind (·.dst)=some d):d∈o.looksAt ops:=by
 unfold Oper.looksAt
 rw [hg]
 simp only [List.mem_append]
 exact .inr (by rw [hd];simp)
end
end Go.Proofs.YtejbgingjeedaaaGreatDoor
namespace Go.Proofs.YtejbgingjeedaaaGreatDoor.Ab
open Go.RowKit
variable {Kc:Value→Bool}
structure St (Kc:Value→Bool) where
 slots:List (AV Kc)
 blocks:List (TypeId×List (Seg Kc))
 ro:Nat
inductive AKd (Kc:Value→Bool) where
 | val (x:AV Kc)
 | new (T:TypeId) (vs:List Value)
 | put (d:Tmp) (T:TypeId) (l:List (Seg Kc))
 | old (k:Nat) (T:TypeId) (l:List (Seg Kc))
abbrev AE (Kc:Value→Bool):=Option Tmp×AKd Kc
inductive Cfg (Kc:Value→Bool) where
 | items (todo:List Item) (st:St Kc)
 | plain (ops:Array Oper) (rest:List Oper) (k:List Item) (st:St Kc)
 | drawn (ops:Array Oper) (rest:List Oper) (k:List Item) (st:St Kc) (Ty:List TypeId) (es:List (AE Kc))
def evL (sl:Tmp→AV Kc):Operand→AV Kc
 | .tmp t=>sl t
 | .const v=>nN v
 | .func f => .fv (.sc (.lit (.func (.func f) #[] #[])))
 | .global _ => .un
def St.slot (st:St Kc) (t:Tmp):AV Kc:=st.slots.getD t .un
def FV.kill:FV Kc→FV Kc
 | .nsl .. => .un
 | f=>f
def AV.kill:AV Kc→AV Kc
 | .fv f => .fv f.kill
 | .tup l => .tup (l.map FV.kill)
def lC (st:St Kc):List (AE Kc)→Tmp→AV Kc
 | [],t=>(st.slot t).kill
 | (dst,kd)::es,t=>if dst==some t then (match kd with | .val x=>x|_ => .un) else lC st es t
def AV.killT (T:TypeId) (x:AV Kc):AV Kc:=match x with
 | .fv (.nsl n T' l)=>if T==T' then .un else .fv (.nsl n T' l)
 | .fv f => .fv f
 | .tup l => .tup (l.map FV.kill)
def setS (sl:List (AV Kc)) (dst:Option Tmp) (x:AV Kc):List (AV Kc):=match dst with|some d=>sl.set d x|none=>sl
def St.put (st:St Kc) (dst:Option Tmp) (x:AV Kc):St Kc := { st with slots:=setS st.slots dst x }
def pH (sl:Tmp→AV Kc) (ops:Array Oper) (o:Oper):Option Bool :=
 match o.guard with
 | none=>some true
 | some (j,want)=>match (ops[j]?).bind (·.dst) with
   | some d=>match sl d with | .fv (.sc (.lit (.bool b)))=>some (b==want) | .tup []=>some false|_=>none
   | none=>none
def coldL (l:List (Seg Kc)):Bool:=l.all Seg.cold
def wE (P:Program) (st:St Kc) (o:Oper):OR Kc→Option (St Kc)
 | .val x=>some (st.put o.dst x)
 | .new T l=>match o.dst with
   | some d=>some { st with slots:=st.slots.set d (.fv (.sc (.ptr st.blocks.length 0))),blocks:=st.blocks ++ [(T,l)] }
   | none=>none
 | .nsl n T l=>some (st.put o.dst (.fv (.nsl n T l)))
 | .put k off m=>match st.blocks[k]?,o.dst with
   | some (T,l),none=>match yF l off m with
     | some l'=>if st.ro≤k∧coldL l=true then some { st with slots:=st.slots.map (AV.killT T),blocks:=st.blocks.set k (T,l') } else none
     | none=>none
   | _,_=>none
 | _=>none
def confl (st:St Kc) (ops:Array Oper) (o:Oper) (k:Nat):Bool :=
 match o.op with
 | .store _ (.tmp t) _=>match ops.toList.find? (fun o'=>o'.dst==some t) with
   | some o'=>(match o'.op with | .alloc _=>false|_=>true)
   | none=>match st.slot t with | .fv (.sc (.ptr k' _))=>k'==k|_=>true
 | .store .. => true
 | _=>false
def jD (st:St Kc) (ops:Array Oper) (i k:Nat):Bool :=
 (List.range ops.size).all fun j=>match ops[j]? with
  | some o => !confl st ops o k || j==i || o.after.any fun e=>Region.binds .any e&&e.on==i
  | none=>true
def newOf (es:List (AE Kc)) (d:Tmp):Option (TypeId×List Value):=(es.find? fun e=>e.1==some d).bind fun e=>match e.2 with | .new T vs=>some (T,vs)|_=>none
def wG (ops:Array Oper) (st:St Kc) (i:Nat):List (Option (TypeId×List (Seg Kc))):=st.blocks.zipIdx.map fun p=>if jD st ops i p.2 then some p.1 else none
def wH (P:Program) (ops:Array Oper) (st:St Kc) (Ty:List TypeId) (es:List (AE Kc)) (o:Oper):OR Kc→Option (AE Kc)
 | .val x=>if x.okT Ty then some (o.dst,.val x) else none
 | .new T l=>match vY l,o.op with
   | some vs,.alloc _=>if kZ Kc Ty (.cells vs.toArray T (0,0))=false∧o.guard=none∧o.dst.isSome=true then some (o.dst,.new T vs) else none
   | _,_=>none
 | .nsl n T l=>if Ty.contains T then some (o.dst,.val (.fv (.nsl n T l))) else none
 | .put k off m=>match st.blocks[k]?,o.dst,o.guard with
   | some (T,l),none,none=>match yF l off m with
     | some l'=>if st.ro≤k∧coldL l=true∧Ty.contains T=false then some (none,.old k T l') else none
     | none=>none
   | _,_,_=>none
 | _=>none
def putNew (P:Program) (st:St Kc) (es:List (AE Kc)) (o:Oper):Option (AE Kc) :=
 match o.op,o.dst,o.guard with
 | .store T (.tmp d) y,none,none=>match newOf es d,gG P T,evL (lC st es) y with
   | some (T',vs),some n,.fv (.sc s)=>if n==1&&s.size==1&&vs.all (·.oneCell') then (yF (vs.map .lit) 0 [s]).map fun l'=>(none,.put d T' l') else none
   | some (T',vs),some n,.fv (.ag m)=>if gQ m==n&&vs.all (·.oneCell') then (yF (vs.map .lit) 0 m).map fun l'=>(none,.put d T' l') else none
   | _,_,_=>none
 | _,_,_=>none
def jO (es:List (AE Kc)):List (Tmp×TypeId×List Value):=es.reverse.filterMap fun e=>match e with|(some d,.new T vs)=>some (d,T,vs)|_=>none
def nQ (es:List (AE Kc)) (d:Tmp):Option (TypeId×List (Seg Kc)):=es.findSome? fun e=>match e with|(none,.put d' T l)=>if d'==d then some (T,l) else none|_=>none
def sX (es:List (AE Kc)) (k:Nat):Option (TypeId×List (Seg Kc)):=es.findSome? fun e=>match e with|(none,.old k' T l)=>if k'==k then some (T,l) else none|_=>none
def slotE (st:St Kc) (es:List (AE Kc)) (t:Tmp):AV Kc :=
 match es.find? fun e=>e.1==some t with
 | some (_,.val x)=>x.kill
 | some (_,.new _ _)=>match (jO es).findIdx? fun n=>n.1==t with|some j => .fv (.sc (.ptr (st.blocks.length+j) 0))|none => .un
 | some _ => .un
 | none=>(st.slot t).kill
def qX (st:St Kc) (es:List (AE Kc)):St Kc :=
 { slots:=(List.range st.slots.length).map (slotE st es)
   blocks:=(st.blocks.zipIdx.map fun p=>(sX es p.2).getD p.1)++(jO es).map fun n=>(nQ es n.1).getD (n.2.1,n.2.2.map .lit)
   ro:=st.ro }
def earlyA (st:St Kc) (ops:Array Oper) (es:List (AE Kc)):Bool :=
 let G:=es.reverse
 (List.range ops.size).all fun j=>match G[j]? with
  | some (none,.old k _ _)=>(List.range ops.size).all fun i => !jD st ops i k || i==j || (ops[j]?).any fun o=>o.after.any fun e=>Region.binds .any e&&e.on==i
  | _=>true
def roA (st:St Kc) (es:List (AE Kc)):Bool:=es.all fun e=>match e.2 with | .old k _ _=>decide (st.ro≤k)|_=>true
def onceA (es:List (AE Kc)):Bool :=
 decide ((es.filterMap fun e=>match e with|(none,.put d _ _)=>some d|_=>none).Nodup)&&decide ((es.filterMap fun e=>match e with|(none,.old k _ _)=>some k|_=>none).Nodup)
 && decide (((jO es).map (·.1)).Nodup)&&(jO es).all fun n=>n.2.2.all (·.oneCell')
def tysOf (P:Program) (ops:List Oper):List TypeId:=ops.filterMap fun o=>match o.op with | .buildSlice T _ _=>(match P.underlying T with|some (.slice e)=>some e|_=>none)|_=>none
def St.kill (st:St Kc):St Kc := { st with slots:=st.slots.map AV.kill }
def notSlot (y:Operand) (d:Tmp):Bool:=match y with | .tmp t=>t != d|_=>true
def fuseA (P:Program) (st:St Kc) (o:Oper) (rest:List Oper):Option (St Kc×List Oper) :=
 match o.op,o.dst,o.guard,rest with
 | .alloc T,some d,none,o2::rest'=>match o2.op,o2.dst,o2.guard with
   | .store T' (.tmp d') y,none,none=>if d'==d&&notSlot y d&&decide (d<st.slots.length) then
      match sV (Kc:=Kc) P T,gG P T',evL st.slot y with
      | some z,some n,.fv (.sc s)=>if n==1&&s.size==1&&gQ z==1 then some ({ st with slots:=st.slots.set d (.fv (.sc (.ptr st.blocks.length 0))),blocks:=st.blocks ++ [(T,[s])] },rest') else none
      | some z,some n,.fv (.ag m)=>if gQ m==n&&gQ z==n then some ({ st with slots:=st.slots.set d (.fv (.sc (.ptr st.blocks.length 0))),blocks:=st.blocks ++ [(T,m)] },rest') else none
      | _,_,_=>none
     else none
   | _,_,_=>none
 | _,_,_,_=>none
def pI (P:Program):Cfg Kc→Option (Cfg Kc)
 | .items todo st=>match todo with
   | .code .skip::k=>some (.items k st)
   | .code (.label _)::k=>some (.items k st)
   | .inBlock _::k=>some (.items k st)
   | .inScope _::k=>some (.items k st)
   | .code (.seq x y)::k=>some (.items (.code x :: .code y::k) st)
   | .code (.cond c x y)::k=>match evL st.slot c with
     | .fv (.sc (.lit (.bool t)))=>some (.items (.code (if t then x else y)::k) st)
     | _=>none
   | .code (.block id c)::k=>some (.items (.code c :: .inBlock id::k) st)
   | .code (.scope c)::k=>some (.items (.code c :: .inScope c::k) st)
   | .code (.loop c)::k=>some (.items (.code c :: .inLoop c::k) st)
   | .inLoop c::k=>some (.items (.code c :: .inLoop c::k) st)
   | .code (.exit id)::k=>(exitTo id k).map fun k' => .items k' st
   | .code (.region _ ops false)::k=>some (.plain ops ops.toList k st)
   | .code (.region _ ops true)::k=>if Region.tyB .any ops st.slots.length then some (.drawn ops ops.toList k st (tysOf P ops.toList) []) else none
   | _=>none
 | .plain ops rest k st=>match rest with
   | []=>some (.items k st.kill)
   | o::rest=>match fuseA P st o rest with
    | some (st',rest')=>some (.plain ops rest' k st')
    | none=>match pH st.slot ops o with
     | some true=>(wE P st o (yW P (evL st.slot) (st.blocks.map some) o)).map fun st' => .plain ops rest k st'
     | some false=>some (.plain ops rest k (st.put o.dst (.tup [])))
     | none=>none
 | .drawn ops rest k st Ty es=>match rest with
   | []=>if onceA es&&earlyA st ops es&&roA st es then some (.items k (qX st es)) else none
   | o :: rest=>match putNew P st es o with
     | some e=>some (.drawn ops rest k st Ty (e::es))
     | none=>match pH (lC st es) ops o with
       | some true=>(wH P ops st Ty es o (yW P (evL (lC st es)) (wG ops st es.length) o)).map fun e => .drawn ops rest k st Ty (e::es)
       | some false=>some (.drawn ops rest k st Ty ((o.dst,.val (.tup []))::es))
       | none=>none
def dC (P:Program):Nat→Cfg Kc→Cfg Kc
 | 0,c=>c
 | n+1,c=>match pI P c with|some c'=>dC P n c'|none=>c
def Cfg.op:Cfg Kc→Option Oper
 | .plain ops (o::_) _ st=>if pH st.slot ops o=some true then some o else none
 | .drawn ops (o::_) _ st _ es=>if pH (lC st es) ops o=some true then some o else none
 | _=>none
def Cfg.ev:Cfg Kc→Operand→AV Kc
 | .items _ st=>evL st.slot
 | .plain _ _ _ st=>evL st.slot
 | .drawn _ _ _ st _ es=>evL (lC st es)
def Cfg.mem:Cfg Kc→List (Option (TypeId×List (Seg Kc)))
 | .items _ st=>st.blocks.map some
 | .plain _ _ _ st=>st.blocks.map some
 | .drawn ops _ _ st _ es=>wG ops st es.length
def Cfg.okT (c:Cfg Kc) (x:AV Kc):Bool:=match c with
 | .drawn _ _ _ _ Ty _=>x.okT Ty
 | _=>true
def Cfg.give (c:Cfg Kc) (x:AV Kc):Cfg Kc:=match c with
 | .plain ops (o::rest) k st => .plain ops rest k (st.put o.dst x)
 | .drawn ops (o::rest) k st Ty es => .drawn ops rest k st Ty ((o.dst,.val x)::es)
 | c=>c
def Cfg.callee (P:Program) (c:Cfg Kc):Option FuncId:=match c.op with
 | some o=>match yW P c.ev c.mem o with | .call f _=>some f|_=>none
 | none=>none
def Cfg.args (P:Program) (c:Cfg Kc):List (AV Kc):=match c.op with
 | some o=>match yW P c.ev c.mem o with | .call _ l=>l|_ => []
 | none => []
def resA (P:Program) (st:St Kc):List ResultVar→Option (List (FV Kc))
 | []=>some []
 | .tmp t::l=>match st.slot t with | .fv f=>(resA P st l).map (f :: ·)|_=>none
 | .cell t T::l=>match st.slot t with
   | .fv (.sc (.ptr k off))=>match st.blocks[k]? with
     | some (_,m)=>match nH P T m off with | .val (.fv f)=>(resA P st l).map (f :: ·)|_=>none
     | none=>none
   | _=>none
def Cfg.res (P:Program) (fn:Func):Cfg Kc→Option (AV Kc)
 | .items todo st=>match todo with
   | [] | .code .ret::_=>match resA P st fn.results.toList with
     | some [f]=>some (.fv f)
     | some l=>some (.tup l)
     | none=>none
   | _=>none
 | _=>none
end Go.Proofs.YtejbgingjeedaaaGreatDoor.Ab
