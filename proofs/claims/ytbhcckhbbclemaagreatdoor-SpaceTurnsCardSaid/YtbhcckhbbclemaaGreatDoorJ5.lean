/- Parts of the proof, joined. -/
import Derived.Test.YtbhcckhbbclemaaGreatDoorJ4
import Derived.Scope
set_option linter.unusedSimpArgs false
set_option linter.unusedVariables false
namespace Go.Proofs.YtbhcckhbbclemaaGreatDoor.Ab
open Go.RowKit
variable {Kc:Value→Bool}
section
variable (P:Program) (f:FuncId) (w00:World) (Out:Value→World→Prop)
def Rets (e:Ending) (w' : World):Prop := ∃ v,e = .returned v∧Below w00.heap.size w00 w'∧Out v w'
def baseF:Frame := { (default:Frame) with fn:=f,kind := .normal }
def Runs (todo:List Item) (a:Act) (w:World):Prop :=
 ∀ cs,∃ e w' fr,Rets w00 Out e w'∧Comes P (lone ((baseF f).at a todo) cs w) (lone fr cs w') e∧fr.fn=f∧fr.leaving P w' e
def QN (k:List Item):Exit→Act→World→Prop:=fun e a w=>e = .normal∧Runs P f w00 Out k a w
structure Rep (st:St Kc) (β:List Nat) (a:Act) (w:World):Prop where
 defers:a.defers = []
 size:a.tmps.size=st.slots.length
 slots:∀ t,(st.slot t).holds β (a.eval (.tmp t)) w
 len:β.length=st.blocks.length
 nodup:β.Nodup
 mem:Mem β (st.blocks.map some) w
 lt:∀ g∈β,g<w.heap.size
 own:∀ (k g:Nat),β[k]?=some g→k<st.ro∨w00.heap.size≤g
 below:Below w00.heap.size w00 w
end
section
variable {P:Program} {f:FuncId} {w00:World} {Out:Value→World→Prop} {st:St Kc} {β:List Nat} {a:Act} {w:World}
theorem Runs.step {todo todo' : List Item} {a' : Act} {w' : World} (h:∀ cs,step P (lone ((baseF f).at a todo) cs w) = .next (lone ((baseF f).at a' todo') cs w')) (hr:Runs P f w00 Out todo' a' w'):Runs P f w00 Out todo a w:=by
 intro cs
 obtain ⟨e,w2,fr,h1,h2,h3⟩:=hr cs
 exact ⟨e,w2,fr,h1,Comes.of_steps (.one (h cs)) h2,h3⟩
theorem Runs.of_wp {c:Code} {k:List Item} (h:c.wp P (QN P f w00 Out k) a w):Runs P f w00 Out (.code c::k) a w:=by
 intro cs
 obtain ⟨e,a',w',⟨he,hr⟩,harr⟩:=h (baseF f) k cs
 subst he
 obtain ⟨e,w2,fr,h1,h2,h3⟩:=hr cs
 exact ⟨e,w2,fr,h1,Comes.of_steps harr h2,h3⟩
theorem Rep.ev (h:Rep w00 st β a w) (y:Operand):(evL st.slot y).holds β (a.eval y) w:=by
 cases y with
 | tmp t=>exact h.slots t
 | const v=>exact constA_holds v
 | func f=>exact ⟨rfl,rfl⟩
 | global g=>trivial
theorem setS_slot {sl:List (AV Kc)} {bl ro} {dst:Option Tmp} {x:AV Kc} {v:Value} {a:Act} (hs:a.tmps.size=sl.length) (h:∀ t,(sl.getD t .un).holds β (a.eval (.tmp t)) w) (hx:x.holds β v w) (t:Tmp) :
 (({ slots:=setS sl dst x,blocks:=bl,ro:=ro }:St Kc).slot t).holds β ((a.put dst v).eval (.tmp t)) w:=by
 unfold St.slot
 cases dst with
 | none=>exact h t
 | some d =>
   simp only [setS]
   by_cases hd:d=t
   ·subst hd
    by_cases hlt:d<sl.length
    ·rw [Go.Proofs.YtbhcckhbbclemaaGreatDoor.Act.eval_put_hit (show d<a.tmps.size by rw [hs];exact hlt)]
     simp only [List.getD_eq_getElem?_getD,List.getElem?_set_self hlt,Option.getD_some]
     exact hx
    ·rw [List.getD_eq_getElem?_getD,List.getElem?_eq_none (show (sl.set d x).length≤d by rw [List.length_set];exact Nat.le_of_not_lt hlt)]
     trivial
   ·rw [Go.Proofs.YtbhcckhbbclemaaGreatDoor.Act.eval_put_miss (by simpa using hd)]
    have:=h t
    rw [List.getD_eq_getElem?_getD] at this ⊢
    rw [List.getElem?_set_ne hd]
    exact this
theorem setS_len {sl:List (AV Kc)} {dst:Option Tmp} {x:AV Kc}:(setS sl dst x).length=sl.length:=by
 cases dst <;> simp [setS]
theorem Rep.put (h:Rep w00 st β a w) {x:AV Kc} {v:Value} {dst:Option Tmp} (hx:x.holds β v w):Rep w00 (st.put dst x) β (a.put dst v) w :=
 ⟨by rw [Go.Proofs.YtbhcckhbbclemaaGreatDoor.Act.put_defers];exact h.defers,by rw [Go.Proofs.YtbhcckhbbclemaaGreatDoor.Act.put_size];simp only [St.put];rw [setS_len];exact h.size,setS_slot h.size h.slots hx,h.len,h.nodup,h.mem,h.lt,h.own,h.below⟩
theorem Rep.grow (h:Rep w00 st β a w) {w' : World} (hb:Below w.heap.size w w'):Rep w00 st β a w':=by
 refine ⟨h.defers,h.size,fun t=>AV.below (h.slots t) hb,h.len,h.nodup,fun k T l hk=>?_,fun g hg=>Nat.lt_of_lt_of_le (h.lt g hg) hb.size,h.own,?_⟩
 ·obtain ⟨g,cs,h1,h2,h3⟩:=h.mem k T l hk
  exact ⟨g,cs,h1,(hb.block g (lt_of_block h2)).trans h2,h3.ext (Go.Proofs.YtbhcckhbbclemaaGreatDoor.Ext.of_below hb)⟩
 ·exact h.below.trans (hb.mono h.below.size)
theorem grow_alloc (w:World) (o:Obj):Below w.heap.size w (w.alloc o):=(Below.refl _ _).alloc (Nat.le_refl _) _
theorem Mem.more {bl:List (Option (TypeId×List (Seg Kc)))} {γ:List Nat} (h:Mem β bl w):Mem (β++γ) bl w:=by
 intro k T l hk
 obtain ⟨g,cs,h1,h2,h3⟩:=h k T l hk
 exact ⟨g,cs,by rw [List.getElem?_append_left (List.getElem?_eq_some_iff.1 h1).1];exact h1,h2,h3.more⟩
theorem Rep.new (h:Rep w00 st β a w) {T:TypeId} {l:List (Seg Kc)} {cs:List Value} {d:Tmp} (hl:holdsL β l cs w) :
 Rep w00 { st with slots:=st.slots.set d (.fv (.sc (.ptr st.blocks.length 0))),blocks:=st.blocks ++ [(T,l)] } (β ++ [w.heap.size]) (a.put (some d) (.pointer (some ⟨w.heap.size,0,none⟩))) (w.alloc (.cells cs.toArray T)):=by
 have hb:=grow_alloc w (.cells cs.toArray T)
 have h':=h.grow hb
 have hnew:(β ++ [w.heap.size])[st.blocks.length]?=some w.heap.size:=by rw [← h.len];simp
 refine ⟨by rw [Go.Proofs.YtbhcckhbbclemaaGreatDoor.Act.put_defers];exact h.defers,by rw [Go.Proofs.YtbhcckhbbclemaaGreatDoor.Act.put_size];simp;exact h.size,?_,by simp [h.len],?_,?_,?_,?_,h'.below⟩
 ·exact setS_slot (dst:=some d) h.size (fun t=>AV.more (h'.slots t)) (ptr_hold hnew)
 ·rw [List.nodup_append]
  exact ⟨h.nodup,by simp,fun x hx y hy e=>by
   rw [List.mem_singleton] at hy
   have:=h.lt x hx
   omega⟩
 ·intro k T' l' hk
  rw [List.map_append,List.getElem?_append] at hk
  split at hk
  ·exact Mem.more h'.mem k T' l' hk
  ·rename_i hge
   rw [List.length_map] at hge hk
   rw [List.map_singleton] at hk
   have hk0:k-st.blocks.length=0:=by
    rcases Nat.eq_zero_or_pos (k-st.blocks.length) with e|e
    ·exact e
    ·rw [List.getElem?_eq_none (by simp;omega)] at hk;cases hk
   rw [hk0] at hk
   simp only [List.getElem?_cons_zero,Option.some.injEq,Prod.mk.injEq] at hk
   obtain ⟨rfl,rfl⟩:=hk
   have hke:k=st.blocks.length:=by omega
   subst hke
   exact ⟨w.heap.size,cs,hnew,heap_alloc_new w _,(hl.ext (Go.Proofs.YtbhcckhbbclemaaGreatDoor.Ext.of_below hb)).more⟩
 ·intro g hg
  rw [show (w.alloc (.cells cs.toArray T)).heap.size=w.heap.size+1 by simp]
  rcases List.mem_append.1 hg with hg|hg
  ·have:=h.lt g hg;omega
  ·rw [List.mem_singleton] at hg;omega
 ·intro k g hk
  rw [List.getElem?_append] at hk
  split at hk
  ·exact h.own k g hk
  ·have:=List.mem_of_getElem? hk
   rw [List.mem_singleton] at this
   subst this
   exact .inr h.below.size
theorem Rep.own_new (h:Rep w00 st β a w) {T:TypeId} {l:List (Seg Kc)} {cs:List Value} {d:Tmp} {g:Nat} (hg:g∉β) (hge:w00.heap.size≤g) (hlt:g<w.heap.size) (hh:w.heap[g]?=some (.cells cs.toArray T (0,0))) (hl:holdsL β l cs w) :
 Rep w00 { st with slots:=st.slots.set d (.fv (.sc (.ptr st.blocks.length 0))),blocks:=st.blocks ++ [(T,l)] } (β ++ [g]) (a.put (some d) (.pointer (some ⟨g,0,none⟩))) w:=by
 have hnew:(β ++ [g])[st.blocks.length]?=some g:=by rw [← h.len];simp
 refine ⟨by rw [Go.Proofs.YtbhcckhbbclemaaGreatDoor.Act.put_defers];exact h.defers,by rw [Go.Proofs.YtbhcckhbbclemaaGreatDoor.Act.put_size];simp;exact h.size,?_,by simp [h.len],?_,?_,?_,?_,h.below⟩
 ·exact setS_slot (dst:=some d) h.size (fun t=>AV.more (h.slots t)) (ptr_hold hnew)
 ·rw [List.nodup_append]
  exact ⟨h.nodup,by simp,fun x hx y hy e=>by
   rw [List.mem_singleton] at hy
   subst hy
   subst e
   exact hg hx⟩
 ·intro k T' l' hk
  rw [List.map_append,List.getElem?_append] at hk
  split at hk
  ·exact Mem.more h.mem k T' l' hk
  ·rename_i hge'
   rw [List.length_map] at hge' hk
   rw [List.map_singleton] at hk
   have hk0:k-st.blocks.length=0:=by
    rcases Nat.eq_zero_or_pos (k-st.blocks.length) with e|e
    ·exact e
    ·rw [List.getElem?_eq_none (by simp;omega)] at hk;cases hk
   rw [hk0] at hk
   simp only [List.getElem?_cons_zero,Option.some.injEq,Prod.mk.injEq] at hk
   obtain ⟨rfl,rfl⟩:=hk
   have hke:k=st.blocks.length:=by omega
   subst hke
   exact ⟨g,cs,hnew,hh,hl.more⟩
 ·intro g' hg'
  rcases List.mem_append.1 hg' with hg'|hg'
  ·exact h.lt g' hg'
  ·rw [List.mem_singleton] at hg';omega
 ·intro k g' hk
  rw [List.getElem?_append] at hk
  split at hk
  ·exact h.own k g' hk
  ·have:=List.mem_of_getElem? hk
   rw [List.mem_singleton] at this
   subst this
   exact .inr hge
theorem killT_holds {T:TypeId} {x:AV Kc} {v:Value} {w w' : World} {g:Nat} {o:Obj} {cs0:Array Value} (ht:Turned g o w w') (h0:w.heap[g]?=some (.cells cs0 T (0,0))) (hx:Go.Proofs.YtbhcckhbbclemaaGreatDoor.Ext Kc w w') (h:x.holds β v w):(x.killT T).holds β v w':=by
 have hF:∀ {y:FV Kc} {u:Value},y.holds β u w→y.kill.holds β u w':=fun {y u} hy=>by
  cases y with
  | sc s=>exact Seg.ext hy hx
  | ag l=>obtain ⟨cs,e,hl⟩:=hy;exact ⟨cs,e,hl.ext hx⟩
  | nsl n T l=>trivial
  | clo F a b=>obtain ⟨xs,ys,e,h1,h2⟩:=hy;exact ⟨xs,ys,e,h1.ext hx,h2.ext hx⟩
  | un=>trivial
 cases x with
 | fv y =>
   cases y with
   | clo F a b=>exact hF (y := .clo F a b) h
   | nsl n T' l =>
     simp only [AV.killT]
     split
     ·trivial
     ·rename_i hne
      obtain ⟨g',cs,e,hg,hl⟩:=h
      refine ⟨g',cs,e,?_,hl.ext hx⟩
      have:g'≠g:=fun e=>by
       subst e
       rw [h0] at hg
       injection hg with hg
       injection hg with _ hg
       exact hne (by simpa using hg)
      rw [ht.block g' this];exact hg
   | sc s=>exact hF (y := .sc s) h
   | ag l=>exact hF (y := .ag l) h
   | un=>trivial
 | tup l =>
   obtain ⟨vs,e,hl⟩:=h
   refine ⟨vs,e,?_⟩
   clear e
   induction l generalizing vs with
   | nil=>exact hl
   | cons y l ih =>
     obtain ⟨v,r,e,h1,h2⟩:=hl
     exact ⟨v,r,e,hF h1,ih _ h2⟩
theorem Rep.store (hK:KOk Kc) (h:Rep w00 st β a w) {k g:Nat} {T:TypeId} {l l' : List (Seg Kc)} {cs ds:List Value} {w' : World} (hk:st.blocks[k]?=some (T,l)) (hg:β[k]?=some g)
 (hh:w.heap[g]?=some (.cells cs.toArray T (0,0))) (hl:holdsL β l cs w) (hc:coldL l=true) (hro:st.ro≤k) (ht:Turned g (.cells ds.toArray T (0,0)) w w') (hd:holdsL β l' ds w) :
 Rep w00 { st with slots:=st.slots.map (AV.killT T),blocks:=st.blocks.set k (T,l') } β a w':=by
 have hcold:Go.Proofs.YtbhcckhbbclemaaGreatDoor.hotObj Kc (.cells cs.toArray T (0,0))=false:=by
  simp only [Go.Proofs.YtbhcckhbbclemaaGreatDoor.hotObj]
  rw [Array.any_eq_false']
  intro c hm
  simpa using holdsL.iscold hK hl hc c (by simpa using hm)
 have hx:Go.Proofs.YtbhcckhbbclemaaGreatDoor.Ext Kc w w':=by
  refine ⟨by rw [ht.size];exact Nat.le_refl _,fun g' o hg' ho=>?_⟩
  by_cases e:g'=g
  ·subst e
   rw [hh] at hg'
   injection hg' with hg'
   subst hg'
   rw [hcold] at ho
   cases ho
  ·rw [ht.block g' e];exact hg'
 have hge:w00.heap.size≤g:=(h.own k g hg).resolve_left (by omega)
 refine ⟨h.defers,by simp;exact h.size,fun t=>?_,by simp [h.len],h.nodup,?_,fun g' hg'=>by rw [ht.size];exact h.lt g' hg',h.own,?_⟩
 ·have:=killT_holds (β:=β) ht hh hx (h.slots t)
  unfold St.slot at this ⊢
  simp only [List.getD_eq_getElem?_getD,List.getElem?_map] at this ⊢
  cases he:st.slots[t]? with
  | none=>trivial
  | some y=>rw [he] at this;exact this
 ·intro k' T' m hk'
  rw [List.getElem?_map] at hk'
  by_cases e:k'=k
  ·subst e
   rw [List.getElem?_set_self (List.getElem?_eq_some_iff.1 hk).1] at hk'
   simp only [Option.map_some,Option.some.injEq,Prod.mk.injEq] at hk'
   obtain ⟨rfl,rfl⟩:=hk'
   exact ⟨g,ds,hg,ht.at_,hd.ext hx⟩
  ·rw [List.getElem?_set_ne (Ne.symm e),← List.getElem?_map] at hk'
   obtain ⟨g',cs',h1,h2,h3⟩:=h.mem k' T' m hk'
   have:g'≠g:=fun e'=>by subst e';exact e (nodup_get h.nodup h1 hg)
   exact ⟨g',cs',h1,by rw [ht.block g' this];exact h2,h3.ext hx⟩
 ·refine ⟨ht.os.trans h.below.os,ht.tape.trans h.below.tape,ht.output.trans h.below.output,by rw [ht.size];exact h.below.size,fun k' hk'=>?_⟩
  rw [ht.block k' (by omega)]
  exact h.below.block k' hk'
theorem kill_holds {x:AV Kc} {v:Value} (h:x.holds β v w):x.kill.holds β v w:=by
 have hF:∀ {y:FV Kc} {u:Value},y.holds β u w→y.kill.holds β u w:=fun {y u} hy=>by
  cases y <;> first|exact hy|trivial
 cases x with
 | fv y=>exact hF h
 | tup l =>
   obtain ⟨vs,e,hl⟩:=h
   refine ⟨vs,e,?_⟩
   clear e
   induction l generalizing vs with
   | nil=>exact hl
   | cons y l ih =>
     obtain ⟨v,r,e,h1,h2⟩:=hl
     exact ⟨v,r,e,hF h1,ih _ h2⟩
theorem Rep.kill (h:Rep w00 st β a w):Rep w00 st.kill β a w:=by
 refine ⟨h.defers,by simp [St.kill];exact h.size,fun t=>?_,h.len,h.nodup,h.mem,h.lt,h.own,h.below⟩
 have:=kill_holds (h.slots t)
 unfold St.slot St.kill at *
 simp only [List.getD_eq_getElem?_getD,List.getElem?_map] at this ⊢
 cases he:st.slots[t]? with
 | none=>trivial
 | some y=>rw [he] at this;exact this
theorem wanted_un {ops:Array Oper} {o:Oper} {A:Act} {j:Nat} {want:Bool} {d:Tmp} (hg:o.guard=some (j,want)) (hd:(ops[j]?).bind (·.dst)=some d) (h:A.eval (.tmp d) = .tuple #[]) :
 Region.wanted o (yielded ops A.tmps)=false:=by
 have hy:yielded ops A.tmps j=none:=by
  unfold yielded
  rw [hd]
  have h2:A.tmps[d]?.getD undef = .tuple #[]:=by simpa [Act.eval] using h
  cases h3:A.tmps[d]? with
  | none=>simp [h3]
  | some v =>
    rw [h3] at h2
    have h4:v = .tuple #[]:=h2
    subst h4
    simp [h3]
 unfold Region.wanted
 rw [hg]
 simp [hy]
theorem Rep.wants (h:Rep w00 st β a w) {ops:Array Oper} {o:Oper} {b:Bool} (hw:wantA st.slot ops o=some b):Region.wanted o (yielded ops a.tmps)=b:=by
 unfold wantA at hw
 split at hw
 ·rename_i hg
  injection hw with hw
  subst hw
  simp [Region.wanted,hg]
 ·rename_i j want hg
  split at hw
  ·rename_i d hd
   split at hw
   ·rename_i b' hb
    injection hw with hw
    have:=h.slots d
    rw [hb] at this
    have hv:=hold_lit this
    rw [Go.Proofs.YtbhcckhbbclemaaGreatDoor.wanted_is hg hd hv]
    exact hw
   ·rename_i hb
    injection hw with hw
    subst hw
    have:=h.slots d
    rw [hb] at this
    obtain ⟨vs,e,e2⟩:=this
    rw [show vs = [] from e2] at e
    exact wanted_un hg hd e
   ·cases hw
  ·cases hw
end
end Go.Proofs.YtbhcckhbbclemaaGreatDoor.Ab
namespace Go.Proofs.YtbhcckhbbclemaaGreatDoor.Ab
open Go.RowKit
variable {Kc:Value→Bool}
def concK (β:List Nat):AKd Kc→Kd
 | .val x => .val fun v w=>x.holds β v w
 | .new T vs => .new (.cells vs.toArray T (0,0))
 | .put d T l => .put d fun o w => ∃ cs:List Value,o = .cells cs.toArray T (0,0)∧holdsL β l cs w
 | .old k T l => .old k fun o w => ∃ cs:List Value,o = .cells cs.toArray T (0,0)∧holdsL β l cs w
def conc (β:List Nat) (e:AE Kc):Ent:=⟨e.1,concK β e.2⟩
section
variable (P:Program) (f:FuncId) (w00:World) (Out:Value→World→Prop)
def Good:Cfg Kc→Prop
 | .items todo st => ∀ β a w,Rep w00 st β a w→Runs P f w00 Out todo a w
 | .plain ops rest k st => ∀ β a w,Rep w00 st β a w→wpList P ops (QN P f w00 Out k) rest a w
 | .drawn ops rest k st Ty es => ∀ β a w,Rep w00 st β a w→wpTy P ops (hotT Kc Ty) β (fun i k=>earlyOp st ops i k) w a (fun a w=>Runs P f w00 Out k a w) rest (es.map (conc β))
end
section
variable {P:Program} {f:FuncId} {w00:World} {Out:Value→World→Prop}
theorem good_items (hm:P.follows .mixedOrders=true) {todo:List Item} {st:St Kc} {c' : Cfg Kc} (h:stepA P (.items todo st)=some c') (hg:Good P f w00 Out c'):Good P f w00 Out (.items todo st):=by
 intro β a w hR
 simp only [stepA] at h
 split at h
 ·injection h with h;subst h;exact Runs.step (fun cs=>step_skip) (hg β a w hR)
 ·injection h with h;subst h;exact Runs.step (fun cs=>step_label) (hg β a w hR)
 ·injection h with h;subst h;exact Runs.step (fun cs=>step_inBlock) (hg β a w hR)
 ·injection h with h;subst h;exact Runs.step (fun cs=>step_inScope) (hg β a w hR)
 ·injection h with h;subst h;exact Runs.step (fun cs=>step_seq) (hg β a w hR)
 ·rename_i c x y k
  split at h
  ·rename_i t hc
   injection h with h
   subst h
   have hv:=hR.ev c
   rw [hc] at hv
   exact Runs.step (fun cs=>step_cond (hold_lit hv)) (hg β a w hR)
  ·cases h
 ·injection h with h;subst h;exact Runs.step (fun cs=>step_block) (hg β a w hR)
 ·injection h with h;subst h;exact Runs.step (fun cs=>step_scope) (hg β a w hR)
 ·injection h with h;subst h;exact Runs.step (fun cs=>step_loop) (hg β a w hR)
 ·injection h with h;subst h;exact Runs.step (fun cs=>step_inLoop) (hg β a w hR)
 ·rename_i id k
  rw [Option.map_eq_some_iff] at h
  obtain ⟨k',hk,h⟩:=h
  subst h
  exact Runs.step (fun cs=>step_exit hk) (hg β a w hR)
 ·injection h with h
  subst h
  exact Runs.of_wp (wp_region_list (hg β a w hR))
 ·rename_i id ops k
  split at h
  ·rename_i hty
   injection h with h
   subst h
   have:=hg β a w hR
   refine Runs.of_wp (wp_mono (Q:=fun e a w=>e = .normal∧Runs P f w00 Out k a w) ?_ (fun _ _ _ h=>h))
   obtain ⟨l⟩:=ops
   refine wp_region_ty (hotT Kc (tysOf P l)) β (fun i k=>earlyOp st l.toArray i k) hR.nodup hR.lt hm (by rw [hR.size];exact hty) ?_
   simpa [Exit,true_and] using this
  ·cases h
 ·cases h
theorem wpList_skip {ops:Array Oper} {Q:Exit→Act→World→Prop} {o:Oper} {rest:List Oper} {a:Act} {w:World} (hw:Region.wanted o (yielded ops a.tmps)=false) (h:wpList P ops Q rest (a.put o.dst undef) w):wpList P ops Q (o::rest) a w:=by
 unfold wpList
 rw [if_neg (by rw [hw];simp)]
 exact h
theorem wpList_want {ops:Array Oper} {Q:Exit→Act→World→Prop} {o:Oper} {rest:List Oper} {a:Act} {w:World} (hw:Region.wanted o (yielded ops a.tmps)=true) (h:o.wp P a w (wpList P ops Q rest) Q):wpList P ops Q (o::rest) a w:=by
 unfold wpList
 rw [if_pos hw]
 exact .inl h
theorem good_fuse {ops:Array Oper} {o:Oper} {rest rest' : List Oper} {k:List Item} {st st' : St Kc} (h:fuseA P st o rest=some (st',rest')) (hg:Good P f w00 Out (.plain ops rest' k st')):Good P f w00 Out (.plain ops (o::rest) k st):=by
 intro β a w hR
 unfold fuseA at h
 split at h
 ·rename_i T d o2 rest2 hop hdst hgd
  split at h
  ·rename_i T' d' y hop2 hdst2 hgd2
   split at h
   ·rename_i hc
    simp only [Bool.and_eq_true,beq_iff_eq,decide_eq_true_eq] at hc
    obtain ⟨⟨hc1,hc2⟩,hc3⟩:=hc
    subst hc1
    have core:∀ (z m:List (Seg Kc)) (n:Nat) (es:List Value),zerosA (Kc:=Kc) P T=some z→sizeT P T'=some n→sizeL m=n→sizeL z=n→(a.eval y).cells.toList=es→holdsL β m es w →
     Good P f w00 Out (.plain ops rest2 k { st with slots:=st.slots.set d' (.fv (.sc (.ptr st.blocks.length 0))),blocks:=st.blocks ++ [(T,m)] })→wpList P ops (QN P f w00 Out k) (o::o2::rest2) a w:=by
     intro z m n es hz hn hm hzn hes hl hgood
     have hal:opA (Kc:=Kc) P (evL st.slot) (st.blocks.map some) o = .new T z:=by simp only [opA,hop,hz]
     obtain ⟨cs,e,hcs⟩:=opA_new (β:=β) (ρ:=a.eval) (w:=w) hal (fun y hy=>by rw [hop] at hy;simp [Op.operands] at hy)
     refine wpList_want (by simp [Region.wanted,hgd]) ?_
     unfold Oper.wp
     rw [e]
     simp only [Oper.upon,hdst]
     have hds:d'<a.tmps.size:=by rw [hR.size];exact hc3
     refine wpList_want (by simp [Region.wanted,hgd2]) ?_
     unfold Oper.wp
     have hyv:(a.put (some d') (.pointer (some ⟨w.heap.size,0,none⟩))).eval y=a.eval y:=by
      cases y with
      | tmp t =>
        have:t≠d':=by simpa [notSlot] using hc2
        exact Go.Proofs.YtbhcckhbbclemaaGreatDoor.Act.eval_put_miss (by simp;exact fun e=>this e.symm)
      | _=>rfl
     ·have hb:=grow_alloc w (.cells cs.toArray T)
      have h0:=heap_alloc_new w (.cells cs.toArray T)
      obtain ⟨h3,h4⟩:=store_run (P:=P) (o:=o2) (ρ:=(a.put (some d') (.pointer (some ⟨w.heap.size,0,none⟩))).eval) (off:=0) hop2 (Go.Proofs.YtbhcckhbbclemaaGreatDoor.Act.eval_put_hit hds) (by rw [hyv];exact hes) hn (by rw [hl.len];exact hm) hl.one h0 (by rw [hl.len,hcs.len];omega)
      rw [h3]
      simp only [Oper.upon,hdst2,Act.put]
      have hfull:cs.take 0++es++cs.drop (0+es.length)=es:=by
       rw [List.take_zero,List.nil_append,List.drop_of_length_le (by rw [hl.len,hcs.len];omega),List.append_nil]
      rw [hfull] at h4
      have hbel:Below w.heap.size w ((w.alloc (.cells cs.toArray T)).setCells w.heap.size 0 es):=by
       refine ⟨h4.os.trans hb.os,h4.tape.trans hb.tape,h4.output.trans hb.output,by rw [h4.size];exact hb.size,fun k' hk'=>?_⟩
       rw [h4.block k' (by omega)]
       exact hb.block k' hk'
      have hsz:((w.alloc (.cells cs.toArray T)).setCells w.heap.size 0 es).heap.size=w.heap.size+1:=by rw [h4.size];simp
      exact hgood _ _ _ ((hR.grow hbel).own_new (fun hm=>by have:=hR.lt _ hm;omega) hR.below.size (by rw [hsz];omega) h4.at_ (hl.ext (Go.Proofs.YtbhcckhbbclemaaGreatDoor.Ext.of_below hbel)))
    split at h
    ·rename_i z n s hz hn hy
     split at h
     ·rename_i hcc
      simp only [Bool.and_eq_true,beq_iff_eq] at hcc
      injection h with h
      injection h with h1 h2
      subst h1
      subst h2
      have hv:=hR.ev y
      rw [hy] at hv
      exact core z [s] n [a.eval y] hz hn (by simp [sizeL];omega) (by omega) (by rw [cells_sc hv]) (holdsL.single hv) hg
     ·cases h
    ·rename_i z n m hz hn hy
     split at h
     ·rename_i hcc
      simp only [Bool.and_eq_true,beq_iff_eq] at hcc
      injection h with h
      injection h with h1 h2
      subst h1
      subst h2
      have hv:=hR.ev y
      rw [hy] at hv
      obtain ⟨es,he,hl⟩:=hv
      exact core z m n es hz hn hcc.1 hcc.2 (by rw [he];rfl) hl hg
     ·cases h
    ·cases h
   ·cases h
  ·cases h
 ·cases h
theorem good_plain (hK:KOk Kc) {ops:Array Oper} {rest:List Oper} {k:List Item} {st:St Kc} {c' : Cfg Kc} (h:stepA P (.plain ops rest k st)=some c') (hg:Good P f w00 Out c'):Good P f w00 Out (.plain ops rest k st):=by
 intro β a w hR
 simp only [stepA] at h
 split at h
 ·injection h with h
  subst h
  exact wpList_nil ⟨rfl,hg β a w hR.kill⟩
 ·rename_i o rest
  split at h
  ·rename_i st' rest' hfu
   injection h with h
   subst h
   exact good_fuse hfu hg β a w hR
  split at h
  ·rename_i hw
   refine wpList_want (hR.wants hw) ?_
   rw [Option.map_eq_some_iff] at h
   obtain ⟨st',h,e⟩:=h
   subst e
   have hs:∀ y∈o.op.operands,(evL st.slot y).holds β (a.eval y) w:=fun y _=>hR.ev y
   unfold Oper.wp
   generalize hr:opA P (evL st.slot) (st.blocks.map some) o=r at h
   cases r with
   | val x =>
     obtain ⟨v,e,hx⟩:=opA_val hr hs hR.mem
     simp only [plainA,Option.some.injEq] at h
     subst h
     rw [e]
     exact hg β _ _ (hR.put hx)
   | new T l =>
     obtain ⟨cs,e,hl⟩:=opA_new hr hs
     simp only [plainA] at h
     split at h
     ·rename_i d hd
      injection h with h
      subst h
      rw [e]
      simp only [Oper.upon,hd]
      exact hg _ _ _ (hR.new hl)
     ·cases h
   | nsl n T l =>
     obtain ⟨cs,e,hl⟩:=opA_nsl hr hs
     simp only [plainA,Option.some.injEq] at h
     subst h
     rw [e]
     refine hg β _ _ ((hR.grow (grow_alloc w _)).put ⟨_,cs,rfl,heap_alloc_new w _,hl.ext (Go.Proofs.YtbhcckhbbclemaaGreatDoor.Ext.of_below (grow_alloc w _))⟩)
   | put k' off m =>
     simp only [plainA] at h
     split at h
     ·rename_i T l hk hd
      split at h
      ·rename_i l' hrep
       split at h
       ·rename_i hc
        injection h with h
        subst h
        obtain ⟨g,cs,hg1,hg2,hg3⟩:=hR.mem k' T l (by rw [List.getElem?_map,hk];rfl)
        obtain ⟨ds,w',e,ht,hl⟩:=opA_put hr hs hg1 hg2 hg3 hrep
        rw [e]
        simp only [Oper.upon,hd,Act.put]
        exact hg β _ _ (hR.store hK hk hg1 hg2 hg3 hc.2 hc.1 ht hl)
       ·cases h
      ·cases h
     ·cases h
   | call g args=>cases h
   | stop=>cases h
  ·rename_i hw
   injection h with h
   subst h
   exact wpList_skip (hR.wants hw) (hg β _ _ (hR.put (x := .tup []) ⟨[],rfl,rfl⟩))
  ·cases h
end
end Go.Proofs.YtbhcckhbbclemaaGreatDoor.Ab
namespace Go.Proofs.YtbhcckhbbclemaaGreatDoor.Ab
open Go.RowKit
variable {Kc:Value→Bool}
section
variable {P:Program} {f:FuncId} {w00:World} {Out:Value→World→Prop} {st:St Kc} {β:List Nat} {a0:Act} {w0:World} {es:List (AE Kc)} {Ty:List TypeId} {ops:Array Oper}
theorem kill_okT {x:AV Kc}:x.kill.okT Ty=true:=by
 have hF:∀ y:FV Kc,y.kill.okT Ty=true:=fun y=>by cases y <;> rfl
 cases x with
 | fv y=>exact hF y
 | tup l =>
   simp only [AV.kill,AV.okT,List.all_map,List.all_eq_true]
   exact fun y _=>hF y
theorem slotD_holds {B:Nat} {t:Tmp} {v:Value} {w:World} (h0:∀ t,(st.slot t).holds β (a0.eval (.tmp t)) w0) (hx:Ext (hotT Kc Ty) w0 w):∀ {es:List (AE Kc)},specOf a0 B t (es.map (conc β)) v w→(slotD st es t).holds β v w
 | [],h=>by
   simp only [List.map_nil,specOf] at h
   subst h
   exact AV.ext (kill_holds (h0 t)) hx kill_okT
 | (dst,kd)::es,h=>by
   simp only [List.map_cons,specOf,conc] at h
   simp only [slotD]
   by_cases hd:dst=some t
   ·rw [if_pos hd] at h
    rw [if_pos (by simpa using hd)]
    cases kd with
    | val x=>exact h
    | _=>trivial
   ·rw [if_neg hd] at h
    rw [if_neg (by simpa using hd)]
    exact slotD_holds h0 hx h
theorem looks_of {o:Oper} {t:Tmp} (h:Operand.tmp t∈o.op.operands):t∈o.looksAt ops:=by
 unfold Oper.looksAt
 simp only [List.mem_append]
 refine .inl ?_
 simp only [Array.mem_toList_iff,List.mem_filterMap]
 first
  | exact ⟨.tmp t,h,rfl⟩
  | exact ⟨.tmp t,by simpa using h,rfl⟩
theorem drawn_ev {o:Oper} {A:Act} {w:World} {i:Nat} {E:Nat→Nat→Bool} {T:List Nat} (hR:Rep w00 st β a0 w0) (hV:View (hotT Kc Ty) T E w0 i w) (hk:known a0 w0.heap.size (es.map (conc β)) A w (o.looksAt ops)) :
 ∀ y∈o.op.operands,(evL (slotD st es) y).holds β (A.eval y) w:=by
 intro y hy
 cases y with
 | tmp t=>exact slotD_holds hR.slots hV.ext (known_iff.1 hk t (looks_of hy))
 | const v=>exact constA_holds v
 | func f=>exact ⟨rfl,rfl⟩
 | global g=>trivial
theorem drawn_mem {w:World} {i:Nat} (hR:Rep w00 st β a0 w0) (hV:View (hotT Kc Ty) β (fun i k=>earlyOp st ops i k) w0 i w):Mem β (viewA ops st i) w:=by
 intro k T l hk
 unfold viewA at hk
 rw [List.getElem?_map,List.getElem?_zipIdx,Option.map_map,Option.map_eq_some_iff] at hk
 obtain ⟨p,hp,hk⟩:=hk
 simp only [Function.comp,Nat.zero_add] at hk
 split at hk
 ·rename_i he
  injection hk with hk
  obtain ⟨g,cs,h1,h2,h3⟩:=hR.mem k T l (by rw [List.getElem?_map,hp,hk];rfl)
  exact ⟨g,cs,h1,(hV.early k g he h1).trans h2,h3.ext hV.ext.down⟩
 ·cases hk
theorem drawn_wants {o:Oper} {A:Act} {w:World} {i:Nat} {E:Nat→Nat→Bool} {T:List Nat} {b:Bool} (hR:Rep w00 st β a0 w0) (hV:View (hotT Kc Ty) T E w0 i w) (hk:known a0 w0.heap.size (es.map (conc β)) A w (o.looksAt ops))
 (hw:wantA (slotD st es) ops o=some b):Region.wanted o (yielded ops A.tmps)=b:=by
 unfold wantA at hw
 split at hw
 ·rename_i hg
  injection hw with hw
  subst hw
  simp [Region.wanted,hg]
 ·rename_i j want hg
  split at hw
  ·rename_i d hd
   split at hw
   ·rename_i b' hb
    injection hw with hw
    have:=slotD_holds (es:=es) hR.slots hV.ext (known_iff.1 hk d (Go.Proofs.YtbhcckhbbclemaaGreatDoor.guard_looks hg hd))
    rw [hb] at this
    rw [Go.Proofs.YtbhcckhbbclemaaGreatDoor.wanted_is hg hd (hold_lit this)]
    exact hw
   ·rename_i hb
    injection hw with hw
    subst hw
    have:=slotD_holds (es:=es) hR.slots hV.ext (known_iff.1 hk d (Go.Proofs.YtbhcckhbbclemaaGreatDoor.guard_looks hg hd))
    rw [hb] at this
    obtain ⟨vs,e,e2⟩:=this
    rw [show vs = [] from e2] at e
    exact wanted_un hg hd e
   ·cases hw
  ·cases hw
theorem stableA {x:AV Kc} (h:x.okT Ty=true):Stable (hotT Kc Ty) (fun v w=>x.holds β v w):=fun _ _ _ hv hx=>AV.ext hv hx h
theorem stableC {l:List (Seg Kc)} {T:TypeId}:StableO (hotT Kc Ty) (fun o w => ∃ cs:List Value,o = .cells cs.toArray T (0,0)∧holdsL β l cs w):=fun _ _ _ ⟨cs,e,h⟩ hx=>⟨cs,e,h.ext hx.down⟩
theorem coldB (hK:KOk Kc) {l:List (Seg Kc)} {cs:List Value} {T:TypeId} {w:World} (hl:holdsL β l cs w) (hc:coldL l=true) (hT:Ty.contains T=false):hotObj (hotT Kc Ty) (.cells cs.toArray T (0,0))=false:=by
 simp only [hotObj,hotT,Bool.or_eq_false_iff]
 refine ⟨?_,hT⟩
 rw [Array.any_eq_false']
 intro c hm
 simpa using holdsL.iscold hK hl hc c (by simpa using hm)
theorem newOf_mem {d:Tmp} {T:TypeId} {vs:List Value} (h:newOf es d=some (T,vs)):(some d,AKd.new T vs)∈es:=by
 unfold newOf at h
 rw [Option.bind_eq_some_iff] at h
 obtain ⟨⟨dst,kd⟩,h1,h2⟩:=h
 have hm:=List.mem_of_find?_eq_some h1
 have hp:=List.find?_some h1
 simp only [beq_iff_eq] at hp
 subst hp
 cases kd <;> simp at h2
 obtain ⟨rfl,rfl⟩:=h2
 exact hm
theorem good_drawn_step (hK:KOk Kc) {o:Oper} {rest:List Oper} {k:List Item} {c' : Cfg Kc} (h:stepA P (.drawn ops (o::rest) k st Ty es)=some c') (hg:Good P f w00 Out c'):Good P f w00 Out (.drawn ops (o::rest) k st Ty es):=by
 intro β a0 w0 hR
 have hlen:(es.map (conc β)).length=es.length:=by simp
 simp only [stepA] at h
 split at h
 ·rename_i e he
  injection h with h
  subst h
  have hg':=hg β a0 w0 hR
  unfold putNew at he
  split at he
  ·rename_i T d y ho hd hgd
   have core:∀ (T' : TypeId) (vs:List Value) (n:Nat) (m l' : List (Seg Kc)),newOf es d=some (T',vs)→sizeT P T=some n→vs.all (·.oneCell')=true→repl (vs.map .lit) 0 m=some l'→e=(none,.put d T' l') →
    (∀ (v:Value) (w:World),(evL (slotD st es) y).holds β v w→∃ cs,v.cells.toList=cs∧holdsL β m cs w)→sizeL m=n →
    ∃ kk,Oblig P ops (hotT Kc Ty) β (fun i k=>earlyOp st ops i k) w0 a0 (es.map (conc β)) o kk∧wpTy P ops (hotT Kc Ty) β (fun i k=>earlyOp st ops i k) w0 a0 (fun a w=>Runs P f w00 Out k a w) rest (⟨o.dst,kk⟩::es.map (conc β)):=by
    intro T' vs n m l' hnew hn hone hrep he hval hsz
    subst he
    refine ⟨concK β (.put d T' l'),?_,by rw [hd];exact hg'⟩
    refine ⟨hd,hgd,looks_of (by rw [ho];simp [Op.operands]),stableC,.cells vs.toArray T' (0,0),List.mem_map.2 ⟨_,newOf_mem hnew,rfl⟩,?_⟩
    intro A w b hV hk hA hb
    have hy:=drawn_ev hR hV hk y (by rw [ho];simp [Op.operands])
    obtain ⟨cs,hc1,hc2⟩:=hval _ _ hy
    obtain ⟨h1,h2⟩:=repl_holds hrep (holdsL.lits hone) hc2
    obtain ⟨h3,h4⟩:=store_run (P:=P) ho hA hc1 hn (by rw [hc2.len];exact hsz) hc2.one hb h2
    rw [h3]
    exact ⟨_,h4,_,rfl,h1⟩
   split at he
   ·rename_i T' vs n s hnew hn hy
    split at he
    ·rename_i hc
     simp only [Bool.and_eq_true,beq_iff_eq] at hc
     rw [Option.map_eq_some_iff] at he
     obtain ⟨l',hl',he⟩:=he
     refine core T' vs n [s] l' hnew hn hc.2 hl' he.symm (fun v w hv=>?_) (by simp [sizeL];omega)
     rw [hy] at hv
     exact ⟨[v],by rw [cells_sc hv],holdsL.single hv⟩
    ·cases he
   ·rename_i T' vs n m hnew hn hy
    split at he
    ·rename_i hc
     simp only [Bool.and_eq_true,beq_iff_eq] at hc
     rw [Option.map_eq_some_iff] at he
     obtain ⟨l',hl',he⟩:=he
     refine core T' vs n m l' hnew hn hc.2 hl' he.symm (fun v w hv=>?_) hc.1
     rw [hy] at hv
     obtain ⟨cs,e,hl⟩:=hv
     exact ⟨cs,by rw [e];rfl,hl⟩
    ·cases he
   ·cases he
  ·cases he
 ·split at h
  ·rename_i hw
   rw [Option.map_eq_some_iff] at h
   obtain ⟨e,h,hc⟩:=h
   subst hc
   have hg':=hg β a0 w0 hR
   generalize hr:opA P (evL (slotD st es)) (viewA ops st es.length) o=r at h
   have hval:∀ {A:Act} {w:World},View (hotT Kc Ty) β (fun i k=>earlyOp st ops i k) w0 (es.map (conc β)).length w→known a0 w0.heap.size (es.map (conc β)) A w (o.looksAt ops) →
    Region.wanted o (yielded ops A.tmps)=true∧(∀ y∈o.op.operands,(evL (slotD st es) y).holds β (A.eval y) w)∧Mem β (viewA ops st es.length) w:=fun hV hk =>
    ⟨drawn_wants hR hV hk hw,drawn_ev hR hV hk,by rw [hlen] at hV;exact drawn_mem hR hV⟩
   cases r with
   | val x =>
     simp only [drawnA] at h
     split at h
     ·rename_i hx
      injection h with h
      subst h
      refine ⟨concK β (.val x),⟨stableA hx,fun A w hV hk => .inl ?_⟩,hg'⟩
      obtain ⟨h1,h2,h3⟩:=hval hV hk
      obtain ⟨v,e,hv⟩:=opA_val hr h2 h3
      rw [e]
      exact ⟨h1,Below.refl _ _,hv⟩
     ·cases h
   | new T l =>
     simp only [drawnA] at h
     split at h
     ·rename_i vs T' hvs hal
      split at h
      ·rename_i hc
       injection h with h
       subst h
       refine ⟨concK β (.new T vs),⟨hc.1,hc.2.1,hc.2.2,fun A w=>?_⟩,hg'⟩
       obtain ⟨cs,e,hl⟩:=opA_new (β:=β) (ρ:=A.eval) (w:=w) hr (fun y hy=>by rw [hal] at hy;simp [Op.operands] at hy)
       rw [e,litsOf_holds hvs hl]
      ·cases h
     ·cases h
   | nsl n T l =>
     simp only [drawnA] at h
     split at h
     ·rename_i hx
      injection h with h
      subst h
      refine ⟨concK β (.val (.fv (.nsl n T l))),⟨stableA hx,fun A w hV hk => .inl ?_⟩,hg'⟩
      obtain ⟨h1,h2,h3⟩:=hval hV hk
      obtain ⟨cs,e,hl⟩:=opA_nsl hr h2
      rw [e]
      exact ⟨h1,grow_alloc w _,_,cs,rfl,heap_alloc_new w _,hl.ext (Go.Proofs.YtbhcckhbbclemaaGreatDoor.Ext.of_below (grow_alloc w _))⟩
     ·cases h
   | put k' off m =>
     simp only [drawnA] at h
     split at h
     ·rename_i T l hk' hd hgd
      split at h
      ·rename_i l' hrep
       split at h
       ·rename_i hc
        injection h with h
        subst h
        obtain ⟨g,cs,hg1,hg2,hg3⟩:=hR.mem k' T l (by rw [List.getElem?_map,hk'];rfl)
        refine ⟨concK β (.old k' T l'),⟨hd,hgd,stableC,g,_,hg1,hg2,coldB hK hg3 hc.2.1 hc.2.2,fun A w hV hk hb=>?_⟩,by rw [hd];exact hg'⟩
        obtain ⟨h1,h2,h3⟩:=hval hV hk
        obtain ⟨ds,w',e,ht,hl⟩:=opA_put hr h2 hg1 hb (hg3.ext hV.ext.down) hrep
        rw [e]
        exact ⟨_,ht,ds,rfl,hl⟩
       ·cases h
      ·cases h
     ·cases h
   | call g args=>cases h
   | stop=>cases h
  ·rename_i hw
   injection h with h
   subst h
   refine ⟨concK β (.val (.tup [])),⟨stableA rfl,fun A w hV hk => .inr ⟨drawn_wants hR hV hk hw,[],rfl,rfl⟩⟩,hg β a0 w0 hR⟩
  ·cases h
end
end Go.Proofs.YtbhcckhbbclemaaGreatDoor.Ab
