/- Parts of the proof, joined. -/
import Derived.Test.YtbkfbobdmojgnaaGreatDoorJ3
import Derived.Test.YtbkfbobdmojgnaaGreatDoorJ2
import Derived.Deep.MidRow
set_option linter.unusedSimpArgs false
set_option linter.unusedVariables false
namespace Go.Proofs.YtbkfbobdmojgnaaGreatDoor
open Go.RowKit
section
variable {P:Program} {ops:Array Oper} {K:Value→Bool} {T:List Nat} {w0:World} {a0:Act} {md:Region.Mode} {G:List Ent} {listed:Array Bool} {f:Tmp→Value} {a:Act} {w:World}
theorem ready_nil (hf:Region.tyB md ops a0.tmps.size=true) (hs:listed.size=ops.size) (h:Region.ready md ops listed = []):∀ i,i<ops.size→lst listed i:=by
 intro i
 induction i using Nat.strongRecOn with
 | ind i ih =>
   intro hi
   apply Classical.byContradiction
   intro hn
   have:i∈Region.ready md ops listed:=by
    rw [mem_ready]
    refine ⟨by unfold lst at hn;simpa using hn,ops[i],Array.getElem?_eq_getElem hi,fun e he hb=>?_⟩
    have hlt:=(tyB_spec hf (Array.getElem?_eq_getElem hi)).1 e he hb
    have:=ih e.on hlt (by omega)
    unfold lst at this
    rw [Array.getD_eq_getD_getElem?,Array.getElem?_eq_getElem (by omega)] at this ⊢
    exact this
   rw [h] at this
   cases this
def left (listed:Array Bool):Nat:=(listed.toList.filter (!·)).length
theorem left_set {i:Nat} (h:¬ lst listed i):left listed=left (listed.setIfInBounds i true)+1:=by
 unfold lst at h
 have hi:i<listed.size:=by
  rcases Nat.lt_or_ge i listed.size with h'|h'
  ·exact h'
  ·exact absurd (by rw [Array.getD_eq_getD_getElem?,Array.getElem?_eq_none h'];rfl) h
 have hv:listed[i]=false:=by
  rw [Array.getD_eq_getD_getElem?,Array.getElem?_eq_getElem hi] at h
  simpa using h
 unfold left
 have key:∀ (l:List Bool) (i:Nat) (h:i<l.length),l[i]=false→(l.filter (!·)).length=((l.set i true).filter (!·)).length+1:=by
  intro l
  induction l with
  | nil=>intro i h;simp at h
  | cons b l ih =>
    intro i h hb
    match i with
    | 0=>simp only [List.getElem_cons_zero] at hb;subst hb;simp
    | i+1 =>
      have:=ih i (by simpa using h) (by simpa using hb)
      rw [List.set_cons_succ]
      cases b <;> simp <;> omega
 have:=key listed.toList i (by rw [Array.length_toList];exact hi) (by rw [Array.getElem_toList];exact hv)
 rw [Array.toList_setIfInBounds]
 exact this
theorem left_zero (h:left listed=0):∀ i,lst listed i:=by
 intro i
 unfold lst
 rw [Array.getD_eq_getD_getElem?]
 cases hv:listed[i]? with
 | none=>rfl
 | some b =>
   cases b with
   | true=>rfl
   | false =>
     unfold left at h
     have:=List.length_eq_zero_iff.1 h
     rw [List.filter_eq_nil_iff] at this
     have hm:false∈listed.toList:=by
      rw [Array.mem_toList_iff]
      exact Array.mem_of_getElem? hv
     exact absurd rfl (this false hm)
theorem any_of_inv {Q:Exit→Act→World→Prop} (W:Walked P ops K T w0 a0 md G) (hQ:∀ listed f a w,(∀ i,i<ops.size→lst listed i)→Inv ops T w0 a0 md G listed f a w→Q .normal a w) :
 ∀ (n:Nat) (listed:Array Bool) (f:Tmp→Value) (a:Act) (w:World),left listed=n→Inv ops T w0 a0 md G listed f a w→wpAny P md ops Q n listed a w
 | 0,listed,f,a,w,hn,I=>by
   have hall:=left_zero hn
   refine ⟨?_,hQ _ _ _ _ (fun i _=>hall i) I⟩
   apply List.eq_nil_iff_forall_not_mem.2
   intro i hi
   have:=(mem_ready.1 hi).1
   have h2:=hall i
   unfold lst at h2
   rw [h2] at this
   cases this
 | n + 1,listed,f,a,w,hn,I =>
   ⟨fun h=>hQ _ _ _ _ (ready_nil W.form I.lsize h) I,fun i hi=>by
    refine I.step W hi (fun f' a' w' I'=>any_of_inv W hQ n _ f' a' w' ?_ I')
    have:=left_set (listed:=listed) (i:=i) (fun h=>by
     have h1:=(mem_ready.1 hi).1
     unfold lst at h
     rw [h] at h1
     cases h1)
    omega⟩
theorem frameOf_size (g:List Ent):(frameOf a0 g f).tmps.size=a0.tmps.size:=by
 induction g with
 | nil=>rfl
 | cons e g ih=>simp only [frameOf];split <;> simp [Act.put_size,ih]
theorem frameOf_defers (g:List Ent):(frameOf a0 g f).defers=a0.defers:=by
 induction g with
 | nil=>rfl
 | cons e g ih=>simp only [frameOf];split <;> simp [Act.put_defers,ih]
theorem frameOf_hit {g:List Ent} {t:Tmp} (h:∃ e∈g,e.dst=some t) (ht:t<a0.tmps.size):(frameOf a0 g f).eval (.tmp t)=f t:=by
 induction g with
 | nil=>obtain ⟨_,h,_⟩:=h;cases h
 | cons e g ih =>
   simp only [frameOf]
   by_cases hd:e.dst=some t
   ·rw [hd]
    exact Act.eval_put_hit (by rw [frameOf_size];exact ht)
   ·have hg:∃ e∈g,e.dst=some t:=by
     obtain ⟨e',he',hd'⟩:=h
     rcases List.mem_cons.1 he' with rfl|he'
     ·exact absurd hd' hd
     ·exact ⟨e',he',hd'⟩
    split
    ·rename_i d he
     rw [Act.eval_put_miss (by rw [← he];exact hd)]
     exact ih hg
    ·exact ih hg
theorem frameOf_miss {g:List Ent} {t:Tmp} (h:∀ e∈g,e.dst≠some t):(frameOf a0 g f).eval (.tmp t)=a0.eval (.tmp t):=by
 induction g with
 | nil=>rfl
 | cons e g ih =>
   simp only [frameOf]
   have hg:=ih (fun e' he'=>h e' (by simp [he']))
   split
   ·rename_i d he
    rw [Act.eval_put_miss (by rw [← he];exact h e (by simp))]
    exact hg
   ·exact hg
theorem Act.ext_eval {a b:Act} (hs:a.tmps.size=b.tmps.size) (hd:a.defers=b.defers) (h:∀ t,t<a.tmps.size→a.eval (.tmp t)=b.eval (.tmp t)):a=b:=by
 obtain ⟨x,y⟩:=a
 obtain ⟨x',y'⟩:=b
 simp only at hs hd
 subst hd
 congr 1
 apply Array.ext hs
 intro i h1 h2
 have:=h i h1
 simp only [Act.eval,Array.getD_eq_getD_getElem?,Array.getElem?_eq_getElem h1,Array.getElem?_eq_getElem h2,Option.getD_some] at this
 exact this
theorem walked_of {Q:Act→World→Prop}:∀ (rest:List Oper) (g:List Ent),wpTy P ops K T w0 a0 Q rest g→∃ H:List Ent,H.length=rest.length ∧
 (∀ (i:Nat) (o:Oper),rest[i]?=some o→∃ k,H[i]?=some ⟨o.dst,k⟩∧Oblig P ops K T w0 a0 ((H.take i).reverse++g) o k)∧wpTy P ops K T w0 a0 Q [] (H.reverse++g)
 | [],g,h=>⟨[],rfl,fun i o h'=>by simp at h',by simpa using h⟩
 | o :: rest,g,h=>by
   obtain ⟨k,hk,hr⟩:=h
   obtain ⟨H,h1,h2,h3⟩:=walked_of rest _ hr
   refine ⟨⟨o.dst,k⟩::H,by simp [h1],fun i o' h'=>?_,by simpa using h3⟩
   match i with
   | 0 =>
     simp only [List.getElem?_cons_zero,Option.some.injEq] at h'
     subst h'
     exact ⟨k,rfl,by simpa using hk⟩
   | i+1 =>
     obtain ⟨k',e1,e2⟩:=h2 i o' (by simpa using h')
     exact ⟨k',by simpa using e1,by simpa using e2⟩
theorem wp_region_ty {id:Nat} {Q:Exit→Act→World→Prop} {l:List Oper} (K:Value→Bool) (T:List Nat) (hm:P.follows .mixedOrders=true) (hf:Region.tyB .any l.toArray a0.tmps.size=true)
 (h:wpTy P l.toArray K T w0 a0 (fun a w=>Q .normal a w) l []):(Code.region id l.toArray true).wp P Q a0 w0:=by
 obtain ⟨H,h1,h2,h3⟩:=walked_of l [] h
 simp only [List.append_nil] at h2 h3
 obtain ⟨honce,hfin⟩:=h3
 have honce' : onceB H=true:=by
  simp only [onceB,Bool.and_eq_true,decide_eq_true_eq,List.filterMap_reverse,List.filter_reverse,List.length_reverse] at honce ⊢
  exact ⟨(List.reverse_perm _).nodup_iff.1 honce.1,honce.2⟩
 have W:Walked P l.toArray K T w0 a0 .any H:=⟨by simpa using h1,fun i o ho=>h2 i o (by simpa using ho),hf,honce'⟩
 refine wp_region_any hm ?_
 have hlst:∀ i,i<l.toArray.size→¬ lst (Array.replicate l.toArray.size false) i:=fun i hi h=>by
  unfold lst at h
  rw [Array.getD_eq_getD_getElem?,Array.getElem?_replicate,if_pos hi] at h
  cases h
 have hop:∀ {i:Nat} {o:Oper},l.toArray[i]?=some o→i<l.toArray.size:=fun h=>by
  rcases Nat.lt_or_ge _ l.toArray.size with h'|h'
  ·exact h'
  ·rw [Array.getElem?_eq_none h'] at h;cases h
 have hent:∀ {i:Nat} {e:Ent},H[i]?=some e→i<l.toArray.size:=fun h=>by
  obtain ⟨hlt,_⟩:=List.getElem?_eq_some_iff.1 h
  rw [← W.len];exact hlt
 refine any_of_inv W (fun listed f a w hall I=>?_) _ _ (fun _=>undef) _ _ (by simp [left]) ?_
 ·have hmem:∀ {e:Ent},e∈H.reverse→∃ i,H[i]?=some e∧lst listed i:=fun he=>by
   obtain ⟨i,hi⟩:=List.getElem?_of_mem (List.mem_reverse.1 he)
   exact ⟨i,hi,hall i (hent hi)⟩
  have hfr:a=frameOf a0 H.reverse f:=by
   refine Act.ext_eval (by rw [frameOf_size];exact I.tsize) (by rw [frameOf_defers];exact I.defers) (fun t ht=>?_)
   by_cases hd:∃ e∈H.reverse,e.dst=some t
   ·rw [frameOf_hit hd (by rw [← I.tsize];exact ht)]
    obtain ⟨e,he,hde⟩:=hd
    obtain ⟨i,hi,hl⟩:=hmem he
    obtain ⟨o,ho,hd',_⟩:=W.ent hi
    exact I.hit i o t ho hl (by rw [← hd'];exact hde)
   ·rw [frameOf_miss (fun e he hde=>hd ⟨e,he,hde⟩)]
    refine I.miss t (fun i o ho hdo=>hd ?_)
    obtain ⟨k,hk,_⟩:=W.each i o ho
    exact ⟨_,List.mem_reverse.2 (List.mem_of_getElem? hk),hdo⟩
  rw [hfr]
  refine hfin f w I.base (fun e he=>?_) (fun d d' o o' hd hd' hne=>?_)
  ·obtain ⟨i,hi,hl⟩:=hmem he
   obtain ⟨dst,kd⟩:=e
   unfold Final1
   match dst,kd,hi with
   | some d,.val S,hi=>exact I.vals i d S hi hl
   | some d,.new o0,hi =>
     obtain ⟨b,e1,e2,e3,e4,e5⟩:=I.news i d o0 hi hl
     refine ⟨b,e1,e2,e3,fun hn=>e4 (fun j S hj _=>hn S (List.mem_reverse.2 (List.mem_of_getElem? hj))),fun S hS=>?_⟩
     obtain ⟨j,hj,hlj⟩:=hmem hS
     exact e5 j S hj hlj
   | none,.old b S,hi=>exact (I.olds i b S hi).2 hl
   | some d,.old b S,hi =>
     obtain ⟨o,_,hd,hob⟩:=W.ent hi
     have:=hob.1
     rw [← hd] at this
     cases this
   | none,.val S,_=>trivial
   | none,.new o0,_=>trivial
   | none,.put d S,_=>trivial
   | some d',.put d S,_=>trivial
  ·obtain ⟨i,hi,hl⟩:=hmem hd
   obtain ⟨i',hi',hl'⟩:=hmem hd'
   exact I.apart i i' d d' o o' hi hi' hl hl' hne
 ·refine ⟨by simp,rfl,rfl,fun i o d ho hl _=>absurd hl (hlst i (hop ho)),fun _ _=>rfl,fun i o ho hl=>absurd hl (hlst i (hop ho)),⟨rfl,rfl,rfl,Nat.le_refl _,fun _ _ _=>rfl⟩,
   fun i d S hi hl=>absurd hl (hlst i (hent hi)),fun i d o hi hl=>absurd hl (hlst i (hent hi)),fun i b S hi=>⟨fun _=>rfl,fun hl=>absurd hl (hlst i (hent hi))⟩,
   fun i i' d d' o o' hi _ hl=>absurd hl (hlst i (hent hi))⟩
/-! ### Steps of the walk -/
variable {Q:Act→World→Prop} {o:Oper} {rest:List Oper} {g:List Ent}
theorem ty_is (u:Value) (hg:o.guard=none) (h:∀ A w,Base T w0 w→known a0 w0.heap.size g A w (o.looksAt ops)→(execOp A.eval o).run P w = .ok (.value u) w)
 (hr:wpTy P ops K T w0 a0 Q rest (⟨o.dst,.val (Sp.is u)⟩::g)):wpTy P ops K T w0 a0 Q (o::rest) g :=
 ⟨.val (Sp.is u),⟨Sp.is_stable K u,fun A w hB hk => .inl ⟨by simp [Region.wanted,hg],by rw [h A w hB hk];exact ⟨Below.refl _ _,rfl⟩⟩⟩,hr⟩
theorem tyUpon_enter {w:World} {S:Sp} {fn:FuncId} {args:Array Value} (h:Calls P fn args w (TyPost w S)):tyUpon P w S (.ok (.enter fn args) w):=⟨rfl,h⟩
theorem tyUpon_value {w:World} {S:Sp} {u:Value} (h:S u w):tyUpon P w S (.ok (.value u) w):=⟨Below.refl _ _,h⟩
theorem ty_move (t:Tmp) (S:Sp) (hop:o.op = .move (.tmp t)∨o.op = .assign (.tmp t)) (hl:o.looksAt ops = [t]) (hs:specOf a0 w0.heap.size t g=S) (hS:Stable K S) (hg:o.guard=none)
 (hr:wpTy P ops K T w0 a0 Q rest (⟨o.dst,.val S⟩::g)):wpTy P ops K T w0 a0 Q (o::rest) g:=by
 refine ⟨.val S,⟨hS,fun A w hB hk => .inl ⟨by simp [Region.wanted,hg],?_⟩⟩,hr⟩
 have hrun:(execOp A.eval o).run P w = .ok (.value (A.eval (.tmp t))) w:=by
  rcases hop with h|h <;> (simp only [execOp,h];rfl)
 rw [hrun]
 rw [hl] at hk
 refine ⟨Below.refl _ _,?_⟩
 rw [← hs]
 exact hk.1
theorem ty_call (S:Sp) (hS:Stable K S) (hg:o.guard=none) (h:∀ A w,Base T w0 w→known a0 w0.heap.size g A w (o.looksAt ops)→tyUpon P w S ((execOp A.eval o).run P w))
 (hr:wpTy P ops K T w0 a0 Q rest (⟨o.dst,.val S⟩::g)):wpTy P ops K T w0 a0 Q (o::rest) g :=
 ⟨.val S,⟨hS,fun A w hB hk => .inl ⟨by simp [Region.wanted,hg],h A w hB hk⟩⟩,hr⟩
theorem ty_new (o0:Obj) (hc:hotObj K o0=false) (hg:o.guard=none) (hd:o.dst.isSome=true) (h:∀ (A:Act) (w:World),(execOp A.eval o).run P w = .ok (.value (.pointer (some ⟨w.heap.size,0,none⟩))) (w.alloc o0))
 (hr:wpTy P ops K T w0 a0 Q rest (⟨o.dst,.new o0⟩::g)):wpTy P ops K T w0 a0 Q (o::rest) g :=
 ⟨.new o0,⟨hc,hg,hd,h⟩,hr⟩
theorem ty_put (d:Tmp) (o0:Obj) (S:Obj→World→Prop) (hS:StableO K S) (hd:o.dst=none) (hg:o.guard=none) (hl:d∈o.looksAt ops) (hn:(⟨some d,.new o0⟩:Ent)∈g)
 (h:∀ (A:Act) (w:World) (b:Nat),Base T w0 w→known a0 w0.heap.size g A w (o.looksAt ops)→A.eval (.tmp d) = .pointer (some ⟨b,0,none⟩)→w.heap[b]?=some o0→putUpon b w S ((execOp A.eval o).run P w))
 (hr:wpTy P ops K T w0 a0 Q rest (⟨o.dst,.put d S⟩::g)):wpTy P ops K T w0 a0 Q (o::rest) g :=
 ⟨.put d S,⟨hd,hg,hl,hS,o0,hn,h⟩,hr⟩
theorem ty_old (b:Nat) (o0:Obj) (S:Obj→World→Prop) (hS:StableO K S) (hd:o.dst=none) (hg:o.guard=none) (hT:b∈T) (h0:w0.heap[b]?=some o0) (hc:hotObj K o0=false)
 (h:∀ (A:Act) (w:World),Base T w0 w→known a0 w0.heap.size g A w (o.looksAt ops)→w.heap[b]?=some o0→putUpon b w S ((execOp A.eval o).run P w))
 (hr:wpTy P ops K T w0 a0 Q rest (⟨o.dst,.old b S⟩::g)):wpTy P ops K T w0 a0 Q (o::rest) g :=
 ⟨.old b S,⟨hd,hg,hT,lt_of_block h0,hS,o0,h0,hc,h⟩,hr⟩
end
end Go.Proofs.YtbkfbobdmojgnaaGreatDoor
namespace Go.Proofs.YtbkfbobdmojgnaaGreatDoor.Ab
open Go.RowKit
def hotT (Kc:Value→Bool) (Ty:List TypeId):Obj→Bool
 | .cells cs T _=>cs.any Kc || Ty.contains T
 | _=>true
theorem Ext.down {Kc:Value→Bool} {Ty:List TypeId} {w w' : World} (h:Ext (hotT Kc Ty) w w'):Go.Proofs.YtbkfbobdmojgnaaGreatDoor.Ext Kc w w':=by
 refine ⟨h.size,fun g o hg ho=>h.block g o hg ?_⟩
 cases o <;> simp_all [Go.Proofs.YtbkfbobdmojgnaaGreatDoor.hotObj,hotObj,hotT]
structure CS (Kc:Value→Bool) where
 size:Nat
 cold:Bool
 pred:List Value→World→Prop
 stable:∀ cs w w',pred cs w→Go.Proofs.YtbkfbobdmojgnaaGreatDoor.Ext Kc w w'→pred cs w'
 len:∀ cs w,pred cs w→cs.length=size
 one:∀ cs w,pred cs w→∀ c∈cs,c.oneCell'=true
 iscold:cold=true→∀ cs w,pred cs w→∀ c∈cs,Kc c=false
variable {Kc:Value→Bool}
inductive Seg (Kc:Value→Bool) where
 | lit (v:Value)
 | ptr (k off:Nat)
 | slc (k off n c:Nat)
 | sp (s:CS Kc)
def Seg.size:Seg Kc→Nat
 | .sp s=>s.size
 | _=>1
def Seg.cold:Seg Kc→Bool
 | .lit v => !Kc v
 | .sp s=>s.cold
 | _=>true
def Seg.holds (β:List Nat):Seg Kc→List Value→World→Prop
 | .lit v,cs,_=>cs = [v]∧v.oneCell'=true
 | .ptr k off,cs,_ => ∃ g,β[k]?=some g∧cs = [.pointer (some ⟨g,off,none⟩)]
 | .slc k off n c,cs,_ => ∃ g,β[k]?=some g∧cs = [.slice (some ⟨g,off,none⟩) n c]
 | .sp s,cs,w=>s.pred cs w
def holdsL (β:List Nat):List (Seg Kc)→List Value→World→Prop
 | [],cs,_=>cs = []
 | s::l,cs,w => ∃ a b,cs=a++b∧s.holds β a w∧holdsL β l b w
def sizeL:List (Seg Kc)→Nat
 | []=>0
 | s::l=>s.size+sizeL l
structure KOk (Kc:Value→Bool):Prop where
 ptr:∀ a,Kc (.pointer a)=false
 slc:∀ a n c,Kc (.slice a n c)=false
theorem Seg.len {β:List Nat} {s:Seg Kc} {cs:List Value} {w:World} (h:s.holds β cs w):cs.length=s.size:=by
 cases s with
 | lit v=>rw [h.1];rfl
 | ptr k off=>obtain ⟨g,_,e⟩:=h;rw [e];rfl
 | slc k off n c=>obtain ⟨g,_,e⟩:=h;rw [e];rfl
 | sp s=>exact s.len _ _ h
theorem Seg.one {β:List Nat} {s:Seg Kc} {cs:List Value} {w:World} (h:s.holds β cs w):∀ c∈cs,c.oneCell'=true:=by
 cases s with
 | lit v=>obtain ⟨rfl,h⟩:=h;intro c hc;rw [List.mem_singleton] at hc;subst hc;exact h
 | ptr k off=>obtain ⟨g,_,e⟩:=h;subst e;intro c hc;rw [List.mem_singleton] at hc;subst hc;rfl
 | slc k off n c=>obtain ⟨g,_,e⟩:=h;subst e;intro c hc;rw [List.mem_singleton] at hc;subst hc;rfl
 | sp s=>exact s.one _ _ h
theorem Seg.iscold (hK:KOk Kc) {β:List Nat} {s:Seg Kc} {cs:List Value} {w:World} (h:s.holds β cs w) (hc:s.cold=true):∀ c∈cs,Kc c=false:=by
 cases s with
 | lit v=>obtain ⟨rfl,_⟩:=h;intro c hm;rw [List.mem_singleton] at hm;subst hm;simpa [Seg.cold] using hc
 | ptr k off=>obtain ⟨g,_,e⟩:=h;subst e;intro c hm;rw [List.mem_singleton] at hm;subst hm;exact hK.ptr _
 | slc k off n c=>obtain ⟨g,_,e⟩:=h;subst e;intro c hm;rw [List.mem_singleton] at hm;subst hm;exact hK.slc _ _ _
 | sp s=>exact s.iscold hc _ _ h
theorem Seg.ext {β:List Nat} {s:Seg Kc} {cs:List Value} {w w' : World} (h:s.holds β cs w) (hx:Go.Proofs.YtbkfbobdmojgnaaGreatDoor.Ext Kc w w'):s.holds β cs w':=by
 cases s with
 | sp s=>exact s.stable _ _ _ h hx
 | _=>exact h
theorem Seg.more {β γ:List Nat} {s:Seg Kc} {cs:List Value} {w:World} (h:s.holds β cs w):s.holds (β++γ) cs w:=by
 have key:∀ {k g:Nat},β[k]?=some g→(β++γ)[k]?=some g:=fun h=>by
  rw [List.getElem?_append_left (List.getElem?_eq_some_iff.1 h).1];exact h
 cases s with
 | lit v=>exact h
 | ptr k off=>obtain ⟨g,h1,e⟩:=h;exact ⟨g,key h1,e⟩
 | slc k off n c=>obtain ⟨g,h1,e⟩:=h;exact ⟨g,key h1,e⟩
 | sp s=>exact h
theorem holdsL.len {β:List Nat}:∀ {l:List (Seg Kc)} {cs:List Value} {w:World},holdsL β l cs w→cs.length=sizeL l
 | [],_,_,h=>by rw [h];rfl
 | s::l,_,_,⟨a,b,e,h1,h2⟩=>by rw [e,List.length_append,Seg.len h1,holdsL.len h2];rfl
theorem holdsL.one {β:List Nat}:∀ {l:List (Seg Kc)} {cs:List Value} {w:World},holdsL β l cs w→∀ c∈cs,c.oneCell'=true
 | [],_,_,h=>by rw [h];intro c hc;cases hc
 | s::l,_,_,⟨a,b,e,h1,h2⟩=>by
   subst e
   intro c hc
   rcases List.mem_append.1 hc with hc|hc
   ·exact Seg.one h1 c hc
   ·exact holdsL.one h2 c hc
theorem holdsL.iscold (hK:KOk Kc) {β:List Nat}:∀ {l:List (Seg Kc)} {cs:List Value} {w:World},holdsL β l cs w→l.all Seg.cold=true→∀ c∈cs,Kc c=false
 | [],_,_,h,_=>by rw [h];intro c hc;cases hc
 | s::l,_,_,⟨a,b,e,h1,h2⟩,hc=>by
   subst e
   rw [List.all_cons,Bool.and_eq_true] at hc
   intro c hm
   rcases List.mem_append.1 hm with hm|hm
   ·exact Seg.iscold hK h1 hc.1 c hm
   ·exact holdsL.iscold hK h2 hc.2 c hm
theorem holdsL.ext {β:List Nat}:∀ {l:List (Seg Kc)} {cs:List Value} {w w' : World},holdsL β l cs w→Go.Proofs.YtbkfbobdmojgnaaGreatDoor.Ext Kc w w'→holdsL β l cs w'
 | [],_,_,_,h,_=>h
 | _::_,_,_,_,⟨a,b,e,h1,h2⟩,hx=>⟨a,b,e,Seg.ext h1 hx,holdsL.ext h2 hx⟩
theorem holdsL.more {β γ:List Nat}:∀ {l:List (Seg Kc)} {cs:List Value} {w:World},holdsL β l cs w→holdsL (β++γ) l cs w
 | [],_,_,h=>h
 | _::_,_,_,⟨a,b,e,h1,h2⟩=>⟨a,b,e,Seg.more h1,holdsL.more h2⟩
theorem holdsL.append {β:List Nat}:∀ {l l' : List (Seg Kc)} {cs cs' : List Value} {w:World},holdsL β l cs w→holdsL β l' cs' w→holdsL β (l++l') (cs++cs') w
 | [],_,_,_,_,h,h'=>by rw [h];exact h'
 | _::_,_,_,cs',_,⟨a,b,e,h1,h2⟩,h'=>⟨a,b++cs',by rw [e,List.append_assoc],h1,holdsL.append h2 h'⟩
theorem holdsL.single {β:List Nat} {s:Seg Kc} {c:Value} {w:World} (h:s.holds β [c] w):holdsL β [s] [c] w:=⟨[c],[],rfl,h,rfl⟩
theorem holdsL.lits {β:List Nat} {w:World}:∀ {cs:List Value},cs.all (·.oneCell')=true→holdsL β (cs.map (Seg.lit (Kc:=Kc))) cs w
 | [],_=>rfl
 | c::cs,h=>by
   rw [List.all_cons,Bool.and_eq_true] at h
   exact ⟨[c],cs,rfl,⟨rfl,h.1⟩,holdsL.lits h.2⟩
def cut:List (Seg Kc)→Nat→Nat→Option (List (Seg Kc))
 | _,0,0=>some []
 | [],_,_=>none
 | s::l,0,n+1=>if s.size≤n+1 then (cut l 0 (n+1-s.size)).map (s :: ·) else none
 | s::l,off+1,n=>if s.size≤off+1 then cut l (off+1-s.size) n else none
theorem cut_holds {β:List Nat}:∀ {l:List (Seg Kc)} {off n:Nat} {l' : List (Seg Kc)} {cs:List Value} {w:World},cut l off n=some l'→holdsL β l cs w →
 holdsL β l' ((cs.drop off).take n) w∧off+n≤cs.length
 | l,0,0,l',cs,w,hc,h=>by
   have:l' = []:=by cases l <;> simp [cut] at hc <;> exact hc
   subst this
   exact ⟨by simp [holdsL],by omega⟩
 | [],0,n+1,_,_,_,hc,_=>by simp [cut] at hc
 | [],off+1,n,_,_,_,hc,_=>by simp [cut] at hc
 | s :: l,0,n+1,l',cs,w,hc,⟨a,b,e,h1,h2⟩=>by
   simp only [cut] at hc
   split at hc
   ·rename_i hle
    rw [Option.map_eq_some_iff] at hc
    obtain ⟨l2,hc,rfl⟩:=hc
    obtain ⟨h3,h4⟩:=cut_holds hc h2
    have hl:=Seg.len h1
    subst e
    simp only [List.drop_zero,List.length_append] at *
    refine ⟨⟨a,b.take (n+1-s.size),?_,h1,h3⟩,by omega⟩
    rw [List.take_append,hl,List.take_of_length_le (by omega)]
   ·cases hc
 | s :: l,off+1,n,l',cs,w,hc,⟨a,b,e,h1,h2⟩=>by
   simp only [cut] at hc
   split at hc
   ·rename_i hle
    obtain ⟨h3,h4⟩:=cut_holds hc h2
    have hl:=Seg.len h1
    subst e
    simp only [List.length_append] at *
    refine ⟨?_,by omega⟩
    rw [List.drop_append,hl,List.drop_of_length_le (by omega),List.nil_append]
    exact h3
   ·cases hc
def repl (l:List (Seg Kc)) (off:Nat) (m:List (Seg Kc)):Option (List (Seg Kc)) :=
 match cut l 0 off,cut l (off+sizeL m) (sizeL l-(off+sizeL m)) with
 | some a,some b=>if off+sizeL m≤sizeL l then some (a++m++b) else none
 | _,_=>none
theorem repl_holds {β:List Nat} {l m l' : List (Seg Kc)} {off:Nat} {cs ds:List Value} {w:World} (hr:repl l off m=some l') (h:holdsL β l cs w) (h' : holdsL β m ds w) :
 holdsL β l' (cs.take off++ds++cs.drop (off+ds.length)) w∧off+ds.length≤cs.length:=by
 unfold repl at hr
 split at hr
 ·rename_i a b ha hb
  split at hr
  ·rename_i hle
   injection hr with hr
   subst hr
   have h1:=(cut_holds ha h).1
   have h2:=(cut_holds hb h).1
   have hl:=holdsL.len h
   have hm:=holdsL.len h'
   rw [List.drop_zero] at h1
   rw [← hm,← hl] at h2
   rw [List.take_of_length_le (by rw [List.length_drop];omega)] at h2
   exact ⟨holdsL.append (holdsL.append h1 h') h2,by omega⟩
  ·cases hr
 ·cases hr
inductive FV (Kc:Value→Bool) where
 | clo (F:FuncId) (first cap:List (Bool×List (Seg Kc)))
 | sc (s:Seg Kc)
 | ag (l:List (Seg Kc))
 | nsl (n:Nat) (T:TypeId) (l:List (Seg Kc))
 | un
def caHolds (β:List Nat):Bool×List (Seg Kc)→Value→World→Prop
 | (true,l),v,w => ∃ cs,v = .agg cs.toArray∧holdsL β l cs w
 | (false,l),v,w=>holdsL β l [v] w
def holdsC (β:List Nat):List (Bool×List (Seg Kc))→List Value→World→Prop
 | [],vs,_=>vs = []
 | c::l,vs,w => ∃ v r,vs=v::r∧caHolds β c v w∧holdsC β l r w
theorem caHolds.ext {β:List Nat} {c:Bool×List (Seg Kc)} {v:Value} {w w' : World} (h:caHolds β c v w) (hx:Go.Proofs.YtbkfbobdmojgnaaGreatDoor.Ext Kc w w'):caHolds β c v w':=by
 obtain ⟨b,l⟩:=c
 cases b with
 | true=>obtain ⟨cs,e,h⟩:=h;exact ⟨cs,e,h.ext hx⟩
 | false=>exact holdsL.ext h hx
theorem caHolds.more {β γ:List Nat} {c:Bool×List (Seg Kc)} {v:Value} {w:World} (h:caHolds β c v w):caHolds (β++γ) c v w:=by
 obtain ⟨b,l⟩:=c
 cases b with
 | true=>obtain ⟨cs,e,h⟩:=h;exact ⟨cs,e,h.more⟩
 | false=>exact holdsL.more h
theorem holdsC.ext {β:List Nat}:∀ {l:List (Bool×List (Seg Kc))} {vs:List Value} {w w' : World},holdsC β l vs w→Go.Proofs.YtbkfbobdmojgnaaGreatDoor.Ext Kc w w'→holdsC β l vs w'
 | [],_,_,_,h,_=>h
 | _::_,_,_,_,⟨v,r,e,h1,h2⟩,hx=>⟨v,r,e,caHolds.ext h1 hx,holdsC.ext h2 hx⟩
theorem holdsC.more {β γ:List Nat}:∀ {l:List (Bool×List (Seg Kc))} {vs:List Value} {w:World},holdsC β l vs w→holdsC (β++γ) l vs w
 | [],_,_,h=>h
 | _::_,_,_,⟨v,r,e,h1,h2⟩=>⟨v,r,e,caHolds.more h1,holdsC.more h2⟩
def FV.holds (β:List Nat):FV Kc→Value→World→Prop
 | .clo F a b,v,w => ∃ xs ys:List Value,v = .func (.func F) xs.toArray ys.toArray∧holdsC β a xs w∧holdsC β b ys w
 | .sc s,v,w=>s.holds β [v] w
 | .ag l,v,w => ∃ cs,v = .agg cs.toArray∧holdsL β l cs w
 | .nsl n T l,v,w => ∃ g cs,v = .slice (some ⟨g,0,none⟩) n n∧w.heap[g]?=some (.cells cs.toArray T (0,0))∧holdsL β l cs w
 | .un,_,_=>True
def FV.okT (Ty:List TypeId):FV Kc→Bool
 | .nsl _ T _=>Ty.contains T
 | _=>true
inductive AV (Kc:Value→Bool) where
 | fv (f:FV Kc)
 | tup (l:List (FV Kc))
def holdsF (β:List Nat):List (FV Kc)→List Value→World→Prop
 | [],vs,_=>vs = []
 | f::l,vs,w => ∃ v r,vs=v::r∧f.holds β v w∧holdsF β l r w
def AV.holds (β:List Nat):AV Kc→Value→World→Prop
 | .fv f,v,w=>f.holds β v w
 | .tup l,v,w => ∃ vs,v = .tuple vs.toArray∧holdsF β l vs w
def AV.okT (Ty:List TypeId):AV Kc→Bool
 | .fv f=>f.okT Ty
 | .tup l=>l.all (FV.okT Ty)
abbrev AV.un:AV Kc := .fv .un
theorem FV.ext {Ty:List TypeId} {β:List Nat} {f:FV Kc} {v:Value} {w w' : World} (h:f.holds β v w) (hx:Ext (hotT Kc Ty) w w') (ht:f.okT Ty=true):f.holds β v w':=by
 cases f with
 | clo F a b=>obtain ⟨xs,ys,e,h1,h2⟩:=h;exact ⟨xs,ys,e,h1.ext hx.down,h2.ext hx.down⟩
 | sc s=>exact Seg.ext h hx.down
 | ag l=>obtain ⟨cs,e,h⟩:=h;exact ⟨cs,e,h.ext hx.down⟩
 | nsl n T l=>obtain ⟨g,cs,e,hg,h⟩:=h;exact ⟨g,cs,e,hx.block g _ hg (by simp [hotObj,hotT];exact .inr (by simpa [FV.okT] using ht)),h.ext hx.down⟩
 | un=>trivial
theorem FV.below {β:List Nat} {f:FV Kc} {v:Value} {w w' : World} (h:f.holds β v w) (hb:Below w.heap.size w w'):f.holds β v w':=by
 cases f with
 | clo F a b=>obtain ⟨xs,ys,e,h1,h2⟩:=h;exact ⟨xs,ys,e,h1.ext (Go.Proofs.YtbkfbobdmojgnaaGreatDoor.Ext.of_below hb),h2.ext (Go.Proofs.YtbkfbobdmojgnaaGreatDoor.Ext.of_below hb)⟩
 | sc s=>exact Seg.ext h (Go.Proofs.YtbkfbobdmojgnaaGreatDoor.Ext.of_below hb)
 | ag l=>obtain ⟨cs,e,h⟩:=h;exact ⟨cs,e,h.ext (Go.Proofs.YtbkfbobdmojgnaaGreatDoor.Ext.of_below hb)⟩
 | nsl n T l=>obtain ⟨g,cs,e,hg,h⟩:=h;exact ⟨g,cs,e,(hb.block g (lt_of_block hg)).trans hg,h.ext (Go.Proofs.YtbkfbobdmojgnaaGreatDoor.Ext.of_below hb)⟩
 | un=>trivial
theorem FV.more {β γ:List Nat} {f:FV Kc} {v:Value} {w:World} (h:f.holds β v w):f.holds (β++γ) v w:=by
 cases f with
 | clo F a b=>obtain ⟨xs,ys,e,h1,h2⟩:=h;exact ⟨xs,ys,e,h1.more,h2.more⟩
 | sc s=>exact Seg.more h
 | ag l=>obtain ⟨cs,e,h⟩:=h;exact ⟨cs,e,h.more⟩
 | nsl n T l=>obtain ⟨g,cs,e,hg,h⟩:=h;exact ⟨g,cs,e,hg,h.more⟩
 | un=>trivial
theorem holdsF.ext {Ty:List TypeId} {β:List Nat}:∀ {l:List (FV Kc)} {vs:List Value} {w w' : World},holdsF β l vs w→Ext (hotT Kc Ty) w w'→l.all (FV.okT Ty)=true→holdsF β l vs w'
 | [],_,_,_,h,_,_=>h
 | _::_,_,_,_,⟨v,r,e,h1,h2⟩,hx,ht=>by
   rw [List.all_cons,Bool.and_eq_true] at ht
   exact ⟨v,r,e,FV.ext h1 hx ht.1,holdsF.ext h2 hx ht.2⟩
theorem holdsF.below {β:List Nat}:∀ {l:List (FV Kc)} {vs:List Value} {w w' : World},holdsF β l vs w→Below w.heap.size w w'→holdsF β l vs w'
 | [],_,_,_,h,_=>h
 | _::_,_,_,_,⟨v,r,e,h1,h2⟩,hb=>⟨v,r,e,FV.below h1 hb,holdsF.below h2 hb⟩
theorem holdsF.more {β γ:List Nat}:∀ {l:List (FV Kc)} {vs:List Value} {w:World},holdsF β l vs w→holdsF (β++γ) l vs w
 | [],_,_,h=>h
 | _::_,_,_,⟨v,r,e,h1,h2⟩=>⟨v,r,e,FV.more h1,holdsF.more h2⟩
theorem holdsF.get {β:List Nat}:∀ {l:List (FV Kc)} {vs:List Value} {w:World} {i:Nat} {f:FV Kc},holdsF β l vs w→l[i]?=some f→∃ v,vs[i]?=some v∧f.holds β v w
 | [],_,_,_,_,_,hi=>by simp at hi
 | _::_,_,_,0,_,⟨v,r,e,h1,h2⟩,hi=>by
   simp only [List.getElem?_cons_zero,Option.some.injEq] at hi
   subst hi
   exact ⟨v,by rw [e];rfl,h1⟩
 | _::_,_,_,i+1,_,⟨v,r,e,h1,h2⟩,hi=>by
   obtain ⟨v',h3,h4⟩:=holdsF.get h2 (by simpa using hi)
   exact ⟨v',by rw [e];simpa using h3,h4⟩
theorem AV.ext {Ty:List TypeId} {β:List Nat} {x:AV Kc} {v:Value} {w w' : World} (h:x.holds β v w) (hx:Ext (hotT Kc Ty) w w') (ht:x.okT Ty=true):x.holds β v w':=by
 cases x with
 | fv f=>exact FV.ext h hx ht
 | tup l=>obtain ⟨vs,e,h⟩:=h;exact ⟨vs,e,h.ext hx ht⟩
theorem AV.below {β:List Nat} {x:AV Kc} {v:Value} {w w' : World} (h:x.holds β v w) (hb:Below w.heap.size w w'):x.holds β v w':=by
 cases x with
 | fv f=>exact FV.below h hb
 | tup l=>obtain ⟨vs,e,h⟩:=h;exact ⟨vs,e,h.below hb⟩
theorem AV.more {β γ:List Nat} {x:AV Kc} {v:Value} {w:World} (h:x.holds β v w):x.holds (β++γ) v w:=by
 cases x with
 | fv f=>exact FV.more h
 | tup l=>obtain ⟨vs,e,h⟩:=h;exact ⟨vs,e,h.more⟩
def holdsA (β:List Nat):List (AV Kc)→List Value→World→Prop
 | [],vs,_=>vs = []
 | x::l,vs,w => ∃ v r,vs=v::r∧x.holds β v w∧holdsA β l r w
end Go.Proofs.YtbkfbobdmojgnaaGreatDoor.Ab
namespace Go.Proofs.YtbkfbobdmojgnaaGreatDoor.Ab
open Go.RowKit
variable {Kc:Value→Bool}
def evalP (P:Program) {α:Type}:Sem α→Option α
 | .pure a=>some a
 | .program k=>evalP P (k P)
 | _=>none
theorem evalP_run {P:Program} {α:Type}:∀ {s:Sem α} {a:α},evalP P s=some a→∀ w,s.run P w = .ok a w
 | .pure _,_,h,w=>by injection h with h;subst h;rfl
 | .program k,_,h,w=>by
   have:(Sem.program k).run P w=(k P).run P w:=rfl
   rw [this]
   exact evalP_run (s:=k P) h w
 | .load ..,_,h,_ | .store ..,_,h,_ | .new ..,_,h,_ | .shape ..,_,h,_ | .freeze ..,_,h,_ | .frozen ..,_,h,_ | .getObj ..,_,h,_ | .setObj ..,_,h,_ | .choose ..,_,h,_ | .sys ..,_,h,_ | .mark ..,_,h,_ | .halt ..,_,h,_=>by cases h
inductive OR (Kc:Value→Bool) where
 | val (x:AV Kc)
 | new (T:TypeId) (l:List (Seg Kc))
 | nsl (n:Nat) (T:TypeId) (l:List (Seg Kc))
 | put (k off:Nat) (l:List (Seg Kc))
 | call (f:FuncId) (args:List (AV Kc))
 | stop
def rowB (P:Program) (t:TypeId):Option Bool:=(P.underlying t).map TypeDesc.isRow
def sizeT (P:Program) (t:TypeId):Option Nat:=(P.info? t).map (·.size)
def litsOf:List (Seg Kc)→Option (List Value)
 | []=>some []
 | .lit v::l=>(litsOf l).map (v :: ·)
 | _=>none
def litOf:AV Kc→Option Value
 | .fv (.sc (.lit v))=>some v
 | .fv (.ag l)=>(litsOf l).map fun cs => .agg cs.toArray
 | _=>none
def constA:Value→AV Kc
 | .agg cs=>if cs.toList.all (·.oneCell') then .fv (.ag (cs.toList.map .lit)) else .un
 | .tuple _ => .un
 | v => .fv (.sc (.lit v))
theorem litsOf_holds {β:List Nat} {w:World}:∀ {l:List (Seg Kc)} {vs cs:List Value},litsOf l=some vs→holdsL β l cs w→cs=vs
 | [],_,_,h,h'=>by injection h with h;rw [h',h]
 | .lit v::l,_,_,h,⟨a,b,e,h1,h2⟩=>by
   simp only [litsOf,Option.map_eq_some_iff] at h
   obtain ⟨r,hr,rfl⟩:=h
   rw [e,h1.1,litsOf_holds hr h2];rfl
 | .ptr .. :: _,_,_,h,_ | .slc .. :: _,_,_,h,_ | .sp _::_,_,_,h,_=>by cases h
theorem litOf_holds {β:List Nat} {w:World} {x:AV Kc} {u v:Value} (h:litOf x=some u) (hv:x.holds β v w):v=u:=by
 cases x with
 | tup l=>cases h
 | fv f =>
   cases f with
   | sc s =>
     cases s with
     | lit c=>injection h with h;subst h;have:=hv.1;injection this
     | _=>cases h
   | ag l =>
     simp only [litOf,Option.map_eq_some_iff] at h
     obtain ⟨cs,hc,rfl⟩:=h
     obtain ⟨ds,rfl,hd⟩:=hv
     rw [litsOf_holds hc hd]
   | _=>cases h
theorem constA_holds {β:List Nat} {w:World} (v:Value):(constA v:AV Kc).holds β v w:=by
 unfold constA
 split
 ·split
  ·rename_i h
   exact ⟨_,rfl,holdsL.lits h⟩
  ·trivial
 ·trivial
 ·rename_i h1 h2
  refine ⟨rfl,?_⟩
  cases v <;> simp_all [Value.oneCell']
def partA (P:Program) (T:TypeId) (l:List (Seg Kc)) (off:Nat):OR Kc :=
 match sizeT P T with
 | some n=>match cut l off n with
   | some m=>match rowB P T,m with
     | some true,m => .val (.fv (.ag m))
     | some false,[s]=>if n==1 then .val (.fv (.sc s)) else .stop
     | _,_ => .stop
   | none => .stop
 | none => .stop
def fillA (place:Nat→Option (Nat×Nat)):List (Nat×AV Kc)→List (Seg Kc)→Option (List (Seg Kc))
 | [],l=>some l
 | (i,x)::r,l=>match place i,x with
   | some (off,n),.fv (.sc s)=>if n==1&&s.size==1 then (repl l off [s]).bind (fillA place r) else none
   | some (off,n),.fv (.ag m)=>if sizeL m==n then (repl l off m).bind (fillA place r) else none
   | _,_=>none
def zerosA (P:Program) (T:TypeId):Option (List (Seg Kc)) :=
 match (P.info? T).bind (·.zero) with
 | some z=>if z.cells.toList.all (·.oneCell') then some (z.cells.toList.map .lit) else none
 | none=>none
def zerosN (z:Value) (k:Nat):List Value:=(List.range k).map fun i=>z.cells[i%z.cells.size]!
def placesA (P:Program) (fs:Array Field):Option (List (Nat×Nat)) :=
 fs.toList.mapM fun f=>(P.info? f.type).map fun i=>(f.offset,i.size)
def caA:Bool×List (Seg Kc)→AV Kc
 | (true,l) => .fv (.ag l)
 | (false,[s]) => .fv (.sc s)
 | _ => .un
def toCA:List (AV Kc)→Option (List (Bool×List (Seg Kc)))
 | []=>some []
 | .fv (.sc s)::l=>(toCA l).map ((false,[s]) :: ·)
 | .fv (.ag m)::l=>(toCA l).map ((true,m) :: ·)
 | _=>none
def litsA:List (AV Kc)→Option (List Value)
 | []=>some []
 | x::l=>match litOf x,litsA l with|some v,some r=>some (v::r)|_,_=>none
def closedA (P:Program) (s:Sem Value):OR Kc:=match evalP P s with|some v => .val (constA v)|none => .stop
variable (P:Program) (ev:Operand→AV Kc) (bl:List (Option (TypeId×List (Seg Kc))))
def opA (o:Oper):OR Kc :=
 match o.op with
 | .move x | .assign x => .val (ev x)
 | .pick c a b=>match ev c with
   | .fv (.sc (.lit (.bool t))) => .val (if t then ev a else ev b)
   | _ => .stop
 | .alloc T=>match zerosA P T with|some l => .new T l|none => .stop
 | .box T x=>match ev x with | .fv (.sc s) => .new T [s] | .fv (.ag l) => .new T l|_ => .stop
 | .load T x=>match ev x with
   | .fv (.sc (.ptr k off))=>match bl[k]? with|some (some (_,l))=>partA P T l off|_ => .stop
   | _ => .stop
 | .store T x y=>match ev x,ev y,sizeT P T with
   | .fv (.sc (.ptr k off)),.fv (.sc s),some n=>if n==1&&s.size==1 then .put k off [s] else .stop
   | .fv (.sc (.ptr k off)),.fv (.ag m),some n=>if sizeL m==n then .put k off m else .stop
   | _,_,_ => .stop
 | .fieldAddr T x i=>match ev x,P.underlying T with
   | .fv (.sc (.ptr k off)),some (.struct fs)=>match fs[i]? with
     | some f=>match sizeT P f.type with|some (_+1) => .val (.fv (.sc (.ptr k (off+f.offset))))|_ => .stop
     | none => .stop
   | _,_ => .stop
 | .field T x i=>match ev x,P.underlying T with
   | .fv (.ag l),some (.struct fs)=>match fs[i]? with|some f=>partA P f.type l f.offset|none => .stop
   | _,_ => .stop
 | .indexAddr T x ix=>match ev x,ev ix,P.underlying T with
   | .fv (.sc (.ptr k off)),.fv (.sc (.lit (.int _ i))),some (.array len e)=>if 0≤i∧i<len then match sizeT P e with|some n => .val (.fv (.sc (.ptr k (off+i.toNat*n))))|none => .stop else .stop
   | .fv (.sc (.slc k off n _)),.fv (.sc (.lit (.int _ i))),some (.slice e)=>if 0≤i∧i<n then match sizeT P e with|some m => .val (.fv (.sc (.ptr k (off+i.toNat*m))))|none => .stop else .stop
   | _,_,_ => .stop
 | .index T x ix=>match ev x,ev ix,P.underlying T with
   | .fv (.ag l),.fv (.sc (.lit (.int _ i))),some (.array len e)=>if 0≤i∧i<len then match sizeT P e with|some n=>partA P e l (i.toNat*n)|none => .stop else .stop
   | _,_,_ => .stop
 | .nilCheck x=>match ev x with | .fv (.sc (.ptr k off)) => .val (.fv (.sc (.ptr k off)))|_ => .stop
 | .extract x i=>match ev x with
   | .tup l=>match l[i]? with|some f => .val (.fv f)|none => .stop
   | _ => .stop
 | .build T parts=>match zerosA P T,P.underlying T with
   | some z,some (.struct fs)=>match placesA P fs with
     | some pl=>match fillA (fun i=>pl[i]?) (parts.toList.map fun p=>(p.1,ev p.2)) z with|some l => .val (.fv (.ag l))|none => .stop
     | none => .stop
   | some z,some (.array _ e)=>match sizeT P e with
     | some n=>match fillA (fun i=>some (i*n,n)) (parts.toList.map fun p=>(p.1,ev p.2)) z with|some l => .val (.fv (.ag l))|none => .stop
     | none => .stop
   | _,_ => .stop
 | .buildSlice T len parts=>match P.underlying T with
   | some (.slice e)=>match sizeT P e,(P.info? e).bind (·.zero) with
     | some n,some z=>if 0<n∧0<len∧len*n≤16777216∧(zerosN z (len*n)).all (·.oneCell')=true then match fillA (fun i=>some (i*n,n)) (parts.toList.map fun p=>(p.1,ev p.2)) ((zerosN z (len*n)).map .lit) with|some l => .nsl len e l|none => .stop else .stop
     | _,_ => .stop
   | _ => .stop
 | .slice T x none none none=>match ev x,P.underlying T with
   | .fv (.sc (.ptr k off)),some (.array n e)=>match sizeT P e with|some _ => .val (.fv (.sc (.slc k off n n)))|none => .stop
   | _,_ => .stop
 | .binOp op T x y _=>match litOf (ev x),litOf (ev y) with
   | some a,some b=>closedA P (do eqGuard op T x y a b;binOp op T a b)
   | _,_ => .stop
 | .makeFunc (.func F) first cap=>match toCA (first.toList.map ev),toCA (cap.toList.map ev) with
   | some a,some b => .val (.fv (.clo F a b))
   | _,_ => .stop
 | .unOp op _ x=>match litOf (ev x) with|some a=>closedA P (Op.unary op a)|none => .stop
 | .convert s d x=>match litOf (ev x) with|some a=>closedA P (convert s d a)|none => .stop
 | .call c=>match c.callee with
   | .value f=>match litOf (ev f),ev f with
     | some (.func (.func g) a b),_ => .call g (a.toList.map constA++c.args.toList.map ev++b.toList.map constA)
     | none,.fv (.clo g a b) => .call g (a.map caA++c.args.toList.map ev++b.map caA)
     | _,_ => .stop
   | .builtin .len=>match c.argTypes[0]?,c.args.toList with
     | some T,[x]=>match P.underlying T,ev x with
       | some (.slice _),.fv (.sc (.slc _ _ n _)) => .val (.fv (.sc (.lit (.int .i64 n))))
       | _,_ => .stop
     | _,_ => .stop
   | .builtin b=>match litsA (c.args.toList.map ev) with
     | some vs=>match evalP P (builtin b c.argTypes o.type (c.args.map fun | .const _=>true|_=>false) vs.toArray) with
       | some (.value v) => .val (constA v)
       | _ => .stop
     | none => .stop
   | _ => .stop
 | _ => .stop
end Go.Proofs.YtbkfbobdmojgnaaGreatDoor.Ab
