/- Parts of the proof, joined. -/
import Derived.Test.YtbkfbobdmojgnaaGreatDoorJ4
set_option linter.unusedSimpArgs false
set_option linter.unusedVariables false
namespace Go.Proofs.YtbkfbobdmojgnaaGreatDoor.Ab
open Go.RowKit
variable {Kc:Value→Bool} {P:Program} {ev:Operand→AV Kc} {bl:List (Option (TypeId×List (Seg Kc)))} {β:List Nat} {w:World} {ρ:Operand→Value} {o:Oper} {x:AV Kc}
def Mem (β:List Nat) (bl:List (Option (TypeId×List (Seg Kc)))) (w:World):Prop :=
 ∀ (k:Nat) T l,bl[k]?=some (some (T,l))→∃ g cs,β[k]?=some g∧w.heap[g]?=some (.cells cs.toArray T (0,0))∧holdsL β l cs w
theorem cells_at {g:Nat} {cs:List Value} {T:TypeId} {fr:Nat×Nat} (h:w.heap[g]?=some (.cells cs.toArray T fr)) (i:Nat):w.cell? ⟨g,i,none⟩=cs[i]?:=by
 unfold World.cell?
 rw [h]
 simp
theorem range_at {g:Nat} {cs:List Value} {T:TypeId} {fr:Nat×Nat} (h:w.heap[g]?=some (.cells cs.toArray T fr)) (off n:Nat):w.rangeAt g off ((cs.drop off).take n):=by
 intro j v hj
 rw [cells_at h]
 rw [List.getElem?_take] at hj
 split at hj
 ·rw [List.getElem?_drop] at hj;exact hj
 ·cases hj
theorem partA_val {T:TypeId} {l:List (Seg Kc)} {off:Nat} (h:partA P T l off = .val x):∃ n m,sizeT P T=some n∧cut l off n=some m∧((rowB P T=some true∧x = .fv (.ag m))∨(rowB P T=some false∧n=1∧∃ s,m = [s]∧x = .fv (.sc s))):=by
 unfold partA at h
 split at h
 ·rename_i n hn
  split at h
  ·rename_i m hm
   split at h
   ·rename_i hr
    injection h with h
    exact ⟨n,_,hn,hm,.inl ⟨hr,h.symm⟩⟩
   ·rename_i s hr
    split at h
    ·rename_i h1
     injection h with h
     exact ⟨n,_,hn,hm,.inr ⟨hr,by simpa using h1,s,rfl,h.symm⟩⟩
    ·cases h
   ·cases h
  ·cases h
 ·cases h
theorem rowB_some {T:TypeId} {b:Bool} (h:rowB P T=some b):∃ d,P.underlying T=some d∧d.isRow=b:=by
 unfold rowB at h
 rw [Option.map_eq_some_iff] at h
 exact h
theorem sizeT_info {T:TypeId} {n:Nat} (h:sizeT P T=some n):∃ i,P.info? T=some i∧i.size=n:=by
 unfold sizeT at h
 rw [Option.map_eq_some_iff] at h
 exact h
theorem run_isAgg {T:TypeId} {d:TypeDesc} (h:P.underlying T=some d) (w:World):(isAgg T).run P w = .ok d.isRow w:=by
 unfold isAgg
 rw [Sem.run_bind,run_underlying h w]
 cases d <;> rfl
theorem run_sizeT {T:TypeId} {n:Nat} (h:sizeT P T=some n) (w:World):(Go.sizeOf T).run P w = .ok n w:=by
 obtain ⟨i,h1,h2⟩:=sizeT_info h
 simp [Go.sizeOf,typeInfo,h1,h2]
theorem holdsL_one {s:Seg Kc} {cs:List Value} (h:holdsL β [s] cs w):s.holds β cs w:=by
 obtain ⟨a,b,e,h1,h2⟩:=h
 rw [show b = [] from h2,List.append_nil] at e
 rw [e];exact h1
theorem take_one {cs:List Value} {off:Nat} (h:off+1≤cs.length):∃ v,(cs.drop off).take 1 = [v]∧cs[off]?=some v:=by
 refine ⟨cs[off],?_,List.getElem?_eq_getElem (by omega)⟩
 rw [List.drop_eq_getElem_cons (by omega)]
 rfl
theorem run_load_part {T T' : TypeId} {l:List (Seg Kc)} {off g:Nat} {cs:List Value} (h:partA P T l off = .val x) (hg:w.heap[g]?=some (.cells cs.toArray T' (0,0))) (hl:holdsL β l cs w) :
 ∃ v,(loadVar T ⟨g,off,none⟩).run P w = .ok v w∧x.holds β v w:=by
 obtain ⟨n,m,hn,hm,hc⟩:=partA_val h
 obtain ⟨h1,h2⟩:=cut_holds hm hl
 rcases hc with ⟨hr,rfl⟩|⟨hr,rfl,s,rfl,rfl⟩
 ·obtain ⟨d,hd,hd2⟩:=rowB_some hr
  obtain ⟨i,hi,hi2⟩:=sizeT_info hn
  refine ⟨_,run_loadVar_mid w g off T ((cs.drop off).take n) d (range_at hg off n) hd hd2 ?_,_,rfl,h1⟩
  rw [hi,Option.map_some,hi2,List.length_take,List.length_drop,Nat.min_eq_left (by omega)]
 ·obtain ⟨d,hd,hd2⟩:=rowB_some hr
  obtain ⟨v,hv,hv2⟩:=take_one h2
  rw [hv] at h1
  refine ⟨v,?_,holdsL_one h1⟩
  unfold loadVar
  rw [Sem.run_bind,run_isAgg hd w,hd2]
  have hcell:w.cell? ⟨g,off,none⟩=some v:=by rw [cells_at hg];exact hv2
  simp [Result.andThen,hcell]
theorem run_part {T:TypeId} {l:List (Seg Kc)} {off:Nat} {cs:List Value} (h:partA P T l off = .val x) (hl:holdsL β l cs w) :
 ∃ v,(part T cs.toArray off).run P w = .ok v w∧x.holds β v w:=by
 obtain ⟨n,m,hn,hm,hc⟩:=partA_val h
 obtain ⟨h1,h2⟩:=cut_holds hm hl
 rcases hc with ⟨hr,rfl⟩|⟨hr,rfl,s,rfl,rfl⟩
 ·obtain ⟨d,hd,hd2⟩:=rowB_some hr
  refine ⟨.agg ((cs.drop off).take n).toArray,?_,_,rfl,h1⟩
  unfold part
  rw [Sem.run_bind,run_isAgg hd w,hd2]
  simp only [Result.andThen,if_true,Sem.run_bind,run_sizeT hn w,Sem.run_pure]
  congr 2
  apply Array.toList_inj.1
  simp [Array.toList_extract]
 ·obtain ⟨d,hd,hd2⟩:=rowB_some hr
  obtain ⟨v,hv,hv2⟩:=take_one h2
  rw [hv] at h1
  refine ⟨v,?_,holdsL_one h1⟩
  unfold part
  rw [Sem.run_bind,run_isAgg hd w,hd2]
  simp [Result.andThen,hv2]
theorem zerosA_run {T:TypeId} {l:List (Seg Kc)} (h:zerosA P T=some l):∃ z,(P.info? T).bind (·.zero)=some z∧(∀ w,(zeroValue T).run P w = .ok z w)∧l=z.cells.toList.map .lit∧z.cells.toList.all (·.oneCell')=true:=by
 unfold zerosA at h
 split at h
 ·rename_i z hz
  split at h
  ·rename_i h1
   injection h with h
   refine ⟨z,hz,fun w=>?_,h.symm,h1⟩
   rw [Option.bind_eq_some_iff] at hz
   obtain ⟨i,hi,hz⟩:=hz
   simp [zeroValue,typeInfo,hi,hz]
  ·cases h
 ·cases h
theorem closedA_val {s:Sem Value} (h:closedA (Kc:=Kc) P s = .val x) (β:List Nat) (w:World):∃ v,s.run P w = .ok v w∧x.holds β v w:=by
 unfold closedA at h
 split at h
 ·rename_i v hv
  injection h with h
  subst h
  exact ⟨v,evalP_run hv w,constA_holds v⟩
 ·cases h
theorem fill_foldl (cs:Array Value) (ds:List Value) (off:Nat) (h:off+ds.length≤cs.size) :
 (ds.toArray.zipIdx.foldl (fun cs (c,j)=>cs.setIfInBounds (off+j) c) cs).toList=cs.toList.take off++ds++cs.toList.drop (off+ds.length):=by
 rw [← Array.foldl_toList]
 have key:∀ (es:List Value) (k:Nat) (a:Array Value),off+k+es.length≤a.size →
  ((es.zipIdx k).foldl (fun cs (c,j)=>cs.setIfInBounds (off+j) c) a).toList=a.toList.take (off+k)++es++a.toList.drop (off+k+es.length):=by
  intro es
  induction es with
  | nil=>intro k a _;simp
  | cons e es ih =>
    intro k a hk
    simp only [List.length_cons] at hk
    rw [List.zipIdx_cons,List.foldl_cons,ih (k+1) _ (by simp;omega)]
    simp only [Array.toList_setIfInBounds,List.length_cons]
    rw [show off+(k+1)=(off+k)+1 from by omega]
    rw [List.take_set,List.drop_set]
    have hlt:off+k<a.toList.length:=by simp;omega
    have hlt2:off+k+1+es.length > off+k:=by omega
    rw [if_pos (by omega)]
    have e1:(a.toList.take (off+k+1)).set (off+k) e=a.toList.take (off+k) ++ [e]:=by
     rw [List.take_succ_eq_append_getElem hlt]
     rw [List.set_append_right _ _ (by simp;omega)]
     simp [Nat.min_eq_left (show off+k≤a.size by omega)]
    rw [e1]
    rw [show off+k+(es.length+1)=off+k+1+es.length from by omega]
    simp
 have:=key ds 0 cs (by simpa using h)
 simpa using this
theorem cells_sc {s:Seg Kc} {v:Value} (h:s.holds β [v] w):v.cells = #[v]:=by
 have:=Seg.one h v (by simp)
 cases v <;> simp_all [Value.cells,Value.oneCell']
theorem fill_step {place:Nat→Option (Nat×Nat)} {cs:Array Value} {i off n:Nat} {v:Value} {rest:List (Nat×Value)} (hp:place i=some (off,n)) (hn:v.cells.size=n) (hle:off+v.cells.size≤cs.size) :
 Instr.fill place cs ((i,v)::rest)=Instr.fill place (v.cells.zipIdx.foldl (fun cs (c,j)=>cs.setIfInBounds (off+j) c) cs) rest:=by
 have h2:(decide (v.cells.size≠n) || decide (off+v.cells.size > cs.size))=false:=by simp;omega
 rw [Instr.fill,hp]
 simp only [h2,Bool.false_eq_true,if_false]
theorem fillA_run {place:Nat→Option (Nat×Nat)}:∀ {parts:List (Nat×Operand)} {l l' : List (Seg Kc)} {cs:Array Value},fillA place (parts.map fun p=>(p.1,ev p.2)) l=some l'→holdsL β l cs.toList w →
 (∀ p∈parts,(ev p.2).holds β (ρ p.2) w)→∃ ds:Array Value,Instr.fill place cs (parts.map fun p=>(p.1,ρ p.2))=some ds∧holdsL β l' ds.toList w
 | [],l,l',cs,h,hl,_=>by injection h with h;subst h;exact ⟨cs,rfl,hl⟩
 | (i, y)::parts,l,l',cs,h,hl,hp=>by
   have hy:=hp (i,y) (by simp)
   have hp' : ∀ p∈parts,(ev p.2).holds β (ρ p.2) w:=fun p hm=>hp p (by simp [hm])
   simp only [List.map_cons,fillA] at h
   simp only at hy
   split at h
   ·rename_i off n s hpl hev
    rw [hev] at hy
    split at h
    ·rename_i hn
     simp only [Bool.and_eq_true,beq_iff_eq] at hn
     rw [Option.bind_eq_some_iff] at h
     obtain ⟨l2,hr,h⟩:=h
     obtain ⟨h1,h2⟩:=repl_holds hr hl (holdsL.single hy)
     have hc:=cells_sc hy
     simp only [List.length_singleton] at h2
     rw [Array.length_toList] at h2
     obtain ⟨ds,hd,hd2⟩:=fillA_run (cs := [ρ y].toArray.zipIdx.foldl (fun cs (c,j)=>cs.setIfInBounds (off+j) c) cs) h (by
      rw [fill_foldl cs [ρ y] off (by simpa using h2)]
      exact h1) hp'
     refine ⟨ds,?_,hd2⟩
     rw [List.map_cons,fill_step hpl (by rw [hc];simp;omega) (by rw [hc];simp;omega),hc]
     exact hd
    ·cases h
   ·rename_i off n m hpl hev
    rw [hev] at hy
    obtain ⟨es,he,hm⟩:=hy
    split at h
    ·rename_i hn
     simp only [beq_iff_eq] at hn
     rw [Option.bind_eq_some_iff] at h
     obtain ⟨l2,hr,h⟩:=h
     obtain ⟨h1,h2⟩:=repl_holds hr hl hm
     have hlen:=holdsL.len hm
     simp only [Array.length_toList] at h2
     obtain ⟨ds,hd,hd2⟩:=fillA_run (cs:=es.toArray.zipIdx.foldl (fun cs (c,j)=>cs.setIfInBounds (off+j) c) cs) h (by
      rw [fill_foldl cs es off (by omega)]
      exact h1) hp'
     refine ⟨ds,?_,hd2⟩
     have hc:(ρ y).cells=es.toArray:=by rw [he];rfl
     rw [List.map_cons,fill_step hpl (by rw [hc];simp;omega) (by rw [hc];simp;omega),hc]
     exact hd
    ·cases h
   ·cases h
end Go.Proofs.YtbkfbobdmojgnaaGreatDoor.Ab
namespace Go.Proofs.YtbkfbobdmojgnaaGreatDoor.Ab
open Go.RowKit
variable {Kc:Value→Bool} {P:Program} {ev:Operand→AV Kc} {bl:List (Option (TypeId×List (Seg Kc)))} {β:List Nat} {w:World} {ρ:Operand→Value} {o:Oper} {x:AV Kc}
theorem run_v {s:Sem Value} {v:Value} {w w' : World} (h:s.run P w = .ok v w'):(do pure (Next.value (← s)):Sem Next).run P w = .ok (.value v) w':=by
 rw [Sem.run_bind,h];rfl
theorem add_off (g off n:Nat):(⟨g,off,none⟩:Addr).add n=⟨g,off+n,none⟩:=Addr.add_mid g off n
theorem hold_ptr {k off:Nat} {v:Value} (h:(AV.fv (.sc (.ptr k off)):AV Kc).holds β v w):∃ g,β[k]?=some g∧v = .pointer (some ⟨g,off,none⟩):=by
 obtain ⟨g,h1,h2⟩:=h
 injection h2 with h2
 exact ⟨g,h1,h2⟩
theorem hold_slc {k off n c:Nat} {v:Value} (h:(AV.fv (.sc (.slc k off n c)):AV Kc).holds β v w):∃ g,β[k]?=some g∧v = .slice (some ⟨g,off,none⟩) n c:=by
 obtain ⟨g,h1,h2⟩:=h
 injection h2 with h2
 exact ⟨g,h1,h2⟩
theorem hold_lit {u v:Value} (h:(AV.fv (.sc (.lit u)):AV Kc).holds β v w):v=u:=by
 have:=h.1
 injection this
theorem ptr_hold {k off g:Nat} (h:β[k]?=some g):(AV.fv (.sc (.ptr k off)):AV Kc).holds β (.pointer (some ⟨g,off,none⟩)) w:=⟨g,h,rfl⟩
theorem toCA_holds:∀ {l:List Operand} {m:List (Bool×List (Seg Kc))},toCA (l.map ev)=some m→(∀ y∈l,(ev y).holds β (ρ y) w)→holdsC β m (l.map ρ) w
 | [],m,h,_=>by injection h with h;subst h;rfl
 | y :: l,m,h,hs=>by
   have hy:=hs y (by simp)
   have hl:∀ z∈l,(ev z).holds β (ρ z) w:=fun z hz=>hs z (by simp [hz])
   rw [List.map_cons] at h
   generalize ev y=x at h hy
   cases x with
   | tup l=>cases h
   | fv f =>
     cases f with
     | sc s =>
       simp only [toCA,Option.map_eq_some_iff] at h
       obtain ⟨r,hr,rfl⟩:=h
       exact ⟨ρ y,l.map ρ,rfl,holdsL.single hy,toCA_holds hr hl⟩
     | ag m =>
       simp only [toCA,Option.map_eq_some_iff] at h
       obtain ⟨r,hr,rfl⟩:=h
       exact ⟨ρ y,l.map ρ,rfl,hy,toCA_holds hr hl⟩
     | clo F a b=>cases h
     | nsl n T l=>cases h
     | un=>cases h
theorem litsA_holds:∀ {l:List Operand} {vs:List Value},litsA (l.map ev)=some vs→(∀ y∈l,(ev y).holds β (ρ y) w)→l.map ρ=vs
 | [],vs,h,_=>by simpa [litsA] using h
 | y :: l,vs,h,hs=>by
   simp only [List.map_cons,litsA] at h
   split at h
   ·rename_i v r hv hr
    injection h with h
    subst h
    rw [List.map_cons,litOf_holds hv (hs y (by simp)),litsA_holds hr (fun z hz=>hs z (by simp [hz]))]
   ·cases h
theorem opA_val (h:opA P ev bl o = .val x) (hs:∀ y∈o.op.operands,(ev y).holds β (ρ y) w) (hm:Mem β bl w):∃ v,(execOp ρ o).run P w = .ok (.value v) w∧x.holds β v w:=by
 obtain ⟨dst,op,type,pos,after,guard⟩:=o
 cases op <;> simp only [opA] at h
 case move y=>injection h with h;subst h;exact ⟨_,rfl,hs y (by simp [Op.operands])⟩
 case assign y=>injection h with h;subst h;exact ⟨_,rfl,hs y (by simp [Op.operands])⟩
 case pick c a b =>
  split at h
  ·rename_i t hc
   injection h with h
   have h1:=hs c (by simp [Op.operands])
   rw [hc] at h1
   have h2:=hold_lit h1
   refine ⟨if t then ρ a else ρ b,?_,?_⟩
   ·simp [execOp,h2,asBool]
   ·subst h
    cases t
    ·exact hs b (by simp [Op.operands])
    ·exact hs a (by simp [Op.operands])
  ·cases h
 case alloc T=>split at h <;> cases h
 case box T y=>split at h <;> cases h
 case load T y =>
  split at h
  ·rename_i k off hy
   split at h
   ·rename_i T' l hb
    have h1:=hs y (by simp [Op.operands])
    rw [hy] at h1
    obtain ⟨g,hg,hv⟩:=hold_ptr h1
    obtain ⟨g',cs,hg',hh,hl⟩:=hm k T' l hb
    rw [hg] at hg'
    injection hg' with hg'
    subst hg'
    obtain ⟨v,hr,hx⟩:=run_load_part h hh hl
    refine ⟨v,?_,hx⟩
    simp only [execOp,Instr.loadAt,hv,Instr.sureAddr]
    exact run_v (by simpa [Sem.run_bind] using hr)
   ·cases h
  ·cases h
 case store T a b=>repeat' (first|(cases h;done)|split at h)
 case fieldAddr T y i =>
  split at h
  ·rename_i k off fs hy hu
   split at h
   ·rename_i f hf
    split at h
    ·rename_i n hn
     injection h with h
     subst h
     have h1:=hs y (by simp [Op.operands])
     rw [hy] at h1
     obtain ⟨g,hg,hv⟩:=hold_ptr h1
     refine ⟨_,?_,ptr_hold hg⟩
     simp only [execOp]
     refine run_v ?_
     simp only [Instr.fieldAt,Sem.run_bind,run_underlying hu,Result.andThen,hf,hv,Instr.sureAddr,Sem.run_pure,fieldPlace,run_sizeT hn,add_off]
     rfl
    ·cases h
   ·cases h
  ·cases h
 case field T y i =>
  split at h
  ·rename_i l fs hy hu
   split at h
   ·rename_i f hf
    have h1:=hs y (by simp [Op.operands])
    rw [hy] at h1
    obtain ⟨cs,hv,hl⟩:=h1
    obtain ⟨v,hr,hx⟩:=run_part h hl
    refine ⟨v,?_,hx⟩
    simp only [execOp]
    refine run_v ?_
    simp only [Instr.field,Sem.run_bind,run_underlying hu,Result.andThen,hf,hv,asAgg,Sem.run_pure,hr]
   ·cases h
  ·cases h
 case indexAddr T y ix =>
  split at h
  ·rename_i k off kd i len e hy hi hu
   split at h
   ·rename_i hb
    split at h
    ·rename_i n hn
     injection h with h
     subst h
     have h1:=hs y (by simp [Op.operands])
     rw [hy] at h1
     obtain ⟨g,hg,hv⟩:=hold_ptr h1
     have h2:=hs ix (by simp [Op.operands])
     rw [hi] at h2
     have hv2:=hold_lit h2
     refine ⟨_,?_,ptr_hold hg⟩
     simp only [execOp]
     refine run_v ?_
     simp [Instr.indexAt,Sem.run_bind,run_underlying hu,Result.andThen,hv,hv2,asIntOf,Instr.sureAddr,run_sizeT hn,add_off,hb.1,hb.2]
    ·cases h
   ·cases h
  ·rename_i k off n c kd i e hy hi hu
   split at h
   ·rename_i hb
    split at h
    ·rename_i m hm2
     injection h with h
     subst h
     have h1:=hs y (by simp [Op.operands])
     rw [hy] at h1
     obtain ⟨g,hg,hv⟩:=hold_slc h1
     have h2:=hs ix (by simp [Op.operands])
     rw [hi] at h2
     have hv2:=hold_lit h2
     refine ⟨_,?_,ptr_hold hg⟩
     simp only [execOp]
     refine run_v ?_
     simp [Instr.indexAt,Sem.run_bind,run_underlying hu,Result.andThen,hv,hv2,asIntOf,run_sizeT hm2,add_off,hb.1,hb.2]
    ·cases h
   ·cases h
  ·cases h
 case index T y ix =>
  split at h
  ·rename_i l kd i len e hy hi hu
   split at h
   ·rename_i hb
    split at h
    ·rename_i n hn
     have h1:=hs y (by simp [Op.operands])
     rw [hy] at h1
     obtain ⟨cs,hv,hl⟩:=h1
     have h2:=hs ix (by simp [Op.operands])
     rw [hi] at h2
     have hv2:=hold_lit h2
     obtain ⟨v,hr,hx⟩:=run_part h hl
     refine ⟨v,?_,hx⟩
     simp only [execOp]
     refine run_v ?_
     simp [Instr.index,Sem.run_bind,run_underlying hu,Result.andThen,hv,hv2,asIntOf,run_sizeT hn,hb.1,hb.2,hr]
    ·cases h
   ·cases h
  ·cases h
 case nilCheck y =>
  split at h
  ·rename_i k off hy
   injection h with h
   subst h
   have h1:=hs y (by simp [Op.operands])
   rw [hy] at h1
   obtain ⟨g,hg,hv⟩:=hold_ptr h1
   refine ⟨_,?_,ptr_hold hg⟩
   simp only [execOp,hv]
   rfl
  ·cases h
 case extract y i =>
  split at h
  ·rename_i l hy
   split at h
   ·rename_i f hf
    injection h with h
    subst h
    have h1:=hs y (by simp [Op.operands])
    rw [hy] at h1
    obtain ⟨vs,hv,hl⟩:=h1
    obtain ⟨v,hv2,hx⟩:=holdsF.get hl hf
    refine ⟨v,?_,hx⟩
    simp only [execOp]
    refine run_v ?_
    simp [Instr.extract,hv,hv2]
   ·cases h
  ·cases h
 case build T parts =>
  have hp:∀ p∈parts.toList,(ev p.2).holds β (ρ p.2) w:=fun p hm=>hs p.2 (by
   simp only [Op.operands]
   exact List.mem_toArray.2 (List.mem_map.2 ⟨p,hm,rfl⟩))
  split at h
  ·rename_i z fs hz hu
   split at h
   ·rename_i pl hpl
    split at h
    ·rename_i l hl
     injection h with h
     subst h
     obtain ⟨zv,hzi,_,rfl,hone⟩:=zerosA_run hz
     obtain ⟨ds,hd,hd2⟩:=fillA_run (cs:=zv.cells) hl (holdsL.lits hone) hp
     refine ⟨.agg ds,?_,⟨ds.toList,by simp,hd2⟩⟩
     simp only [execOp]
     refine run_v (run_build w T _ ds ?_)
     rw [Option.bind_eq_some_iff] at hzi
     obtain ⟨i,hi,hz2⟩:=hzi
     have hpl' : fs.toList.mapM (fun f=>(P.info? f.type).map fun i=>(f.offset,i.size))=some pl:=hpl
     simp only [Program.built,hi,hu,hz2,hpl']
     simpa using hd
    ·cases h
   ·cases h
  ·rename_i z n e hz hu
   split at h
   ·rename_i m hn
    split at h
    ·rename_i l hl
     injection h with h
     subst h
     obtain ⟨zv,hzi,_,rfl,hone⟩:=zerosA_run hz
     obtain ⟨ds,hd,hd2⟩:=fillA_run (cs:=zv.cells) hl (holdsL.lits hone) hp
     refine ⟨.agg ds,?_,⟨ds.toList,by simp,hd2⟩⟩
     simp only [execOp]
     refine run_v (run_build w T _ ds ?_)
     rw [Option.bind_eq_some_iff] at hzi
     obtain ⟨i,hi,hz2⟩:=hzi
     obtain ⟨ie,hie,hie2⟩:=sizeT_info hn
     simp only [Program.built,hi,hu,hz2,hie,hie2]
     simpa using hd
    ·cases h
   ·cases h
  ·cases h
 case buildSlice T len parts=>repeat' (first|(cases h;done)|split at h)
 case slice T y lo hi mx =>
  cases lo <;> cases hi <;> cases mx <;> simp only at h <;> try (cases h;done)
  split at h
  ·rename_i k off n e hy hu
   split at h
   ·rename_i m hn
    injection h with h
    subst h
    have h1:=hs y (by simp [Op.operands])
    rw [hy] at h1
    obtain ⟨g,hg,hv⟩:=hold_ptr h1
    refine ⟨.slice (some ⟨g,off,none⟩) n n,?_,⟨g,hg,rfl⟩⟩
    simp only [execOp,Option.map_none]
    refine run_v ?_
    have h0:∀ c:Prop,[Decidable c]→(if c then (⟨g,off,none⟩:Addr) else (⟨g,off,none⟩:Addr).add (0*m))=⟨g,off,none⟩:=fun c _=>by split <;> simp [add_off]
    simp [Instr.sliceAt,Sem.run_bind,run_underlying hu,Result.andThen,hv,Instr.sureAddr,Instr.sliceBounds,run_sizeT hn]
    have:=h0 (n=0)
    simpa using this
   ·cases h
  ·cases h
 case binOp op T a b yt =>
  split at h
  ·rename_i u v hu hv
   have h1:=litOf_holds hu (hs a (by simp [Op.operands]))
   have h2:=litOf_holds hv (hs b (by simp [Op.operands]))
   obtain ⟨r,hr,hx⟩:=closedA_val h β w
   refine ⟨r,?_,hx⟩
   simp only [execOp,h1,h2]
   exact run_v hr
  ·cases h
 case makeFunc fn first cap =>
  cases fn with
  | func F =>
    simp only at h
    split at h
    ·rename_i a b ha hb
     injection h with h
     subst h
     refine ⟨.func (.func F) (first.map ρ) (cap.map ρ),rfl,first.toList.map ρ,cap.toList.map ρ,?_,?_,?_⟩
     ·congr 1 <;> (apply Array.toList_inj.1;simp)
     ·exact toCA_holds ha (fun y hy=>hs y (by simp only [Op.operands,Array.mem_append];exact .inl (by simpa using hy)))
     ·exact toCA_holds hb (fun y hy=>hs y (by simp only [Op.operands,Array.mem_append];exact .inr (by simpa using hy)))
    ·cases h
  | _=>cases h
 case unOp op T a =>
  split at h
  ·rename_i u hu
   have h1:=litOf_holds hu (hs a (by simp [Op.operands]))
   obtain ⟨r,hr,hx⟩:=closedA_val h β w
   refine ⟨r,?_,hx⟩
   simp only [execOp,h1]
   exact run_v hr
  ·cases h
 case convert s d a =>
  split at h
  ·rename_i u hu
   have h1:=litOf_holds hu (hs a (by simp [Op.operands]))
   obtain ⟨r,hr,hx⟩:=closedA_val h β w
   refine ⟨r,?_,hx⟩
   simp only [execOp,h1]
   exact run_v hr
  ·cases h
 case call c =>
  split at h
  ·split at h <;> cases h
  ·rename_i hc
   split at h
   ·rename_i T y ht ha
    split at h
    ·rename_i e k off n c' hu hy
     injection h with h
     subst h
     have hmem:y∈c.operands:=by
      simp only [Call.operands,hc,Array.mem_append]
      exact .inr (by rw [← Array.mem_toList_iff,ha];simp)
     have h1:=hs y (by simpa [Op.operands] using hmem)
     rw [hy] at h1
     obtain ⟨g,hg,hv⟩:=hold_slc h1
     refine ⟨.int .i64 n,?_,⟨rfl,rfl⟩⟩
     have harg:c.args.map ρ = #[.slice (some ⟨g,off,none⟩) n c']:=by
      apply Array.toList_inj.1
      rw [Array.toList_map,ha,List.map_singleton,hv]
     simp only [execOp,resolve,hc,Sem.run_bind,Sem.run_pure,Result.andThen,invoke,builtin,harg,Builtin.len_,ht]
     simp [Sem.run_bind,run_underlying hu,Result.andThen,goInt]
    ·cases h
   ·cases h
  ·rename_i b _ hc
   split at h
   ·rename_i vs hvs
    split at h
    ·rename_i v hv
     injection h with h
     subst h
     have he:=litsA_holds hvs (fun y hm=>hs y (by
      simp only [Op.operands,Call.operands,hc,Array.mem_append]
      exact .inr (by simpa using hm)))
     have harg:c.args.map ρ=vs.toArray:=by
      apply Array.toList_inj.1
      rw [Array.toList_map,he]
     refine ⟨v,?_,constA_holds v⟩
     simp only [execOp,resolve,hc,Sem.run_bind,Sem.run_pure,Result.andThen,invoke,harg]
     exact evalP_run hv w
    ·cases h
   ·cases h
  ·cases h
 all_goals (cases h)
theorem opA_new {T:TypeId} {l:List (Seg Kc)} (h:opA P ev bl o = .new T l) (hs:∀ y∈o.op.operands,(ev y).holds β (ρ y) w) :
 ∃ cs:List Value,(execOp ρ o).run P w = .ok (.value (.pointer (some ⟨w.heap.size,0,none⟩))) (w.alloc (.cells cs.toArray T))∧holdsL β l cs w:=by
 obtain ⟨dst,op,type,pos,after,guard⟩:=o
 cases op <;> simp only [opA] at h
 case alloc T' =>
  split at h
  ·rename_i l' hz
   injection h with h1 h2
   subst h1
   subst h2
   obtain ⟨z,_,hz2,rfl,hone⟩:=zerosA_run hz
   refine ⟨z.cells.toList,?_,holdsL.lits hone⟩
   simp only [execOp]
   refine run_v ?_
   simp [Instr.alloc,Sem.run_bind,hz2,Result.andThen,newVar,newRow]
  ·cases h
 case box T' y =>
  split at h
  ·rename_i s hy
   injection h with h1 h2
   subst h1
   subst h2
   have hv:=hs y (by simp [Op.operands])
   rw [hy] at hv
   refine ⟨[ρ y],?_,holdsL.single hv⟩
   simp only [execOp]
   refine run_v ?_
   simp [Instr.box,Sem.run_bind,Result.andThen,newVar,newRow,cells_sc hv]
  ·rename_i l' hy
   injection h with h1 h2
   subst h1
   subst h2
   have hv:=hs y (by simp [Op.operands])
   rw [hy] at hv
   obtain ⟨cs,hv,hl⟩:=hv
   refine ⟨cs,?_,hl⟩
   simp only [execOp]
   refine run_v ?_
   simp [Instr.box,Sem.run_bind,Result.andThen,newVar,newRow,hv,Value.cells]
  ·cases h
 case slice T' y lo hi mx=>cases lo <;> cases hi <;> cases mx <;> simp only at h <;> (repeat' (first|(cases h;done)|split at h))
 case makeFunc fn first cap=>cases fn <;> simp only at h <;> (repeat' (first|(cases h;done)|split at h))
 all_goals (repeat' (first|(cases h;done)|(unfold partA at h)|(unfold closedA at h)|split at h))
theorem opA_nsl {T:TypeId} {n:Nat} {l:List (Seg Kc)} (h:opA P ev bl o = .nsl n T l) (hs:∀ y∈o.op.operands,(ev y).holds β (ρ y) w) :
 ∃ cs:List Value,(execOp ρ o).run P w = .ok (.value (.slice (some ⟨w.heap.size,0,none⟩) n n)) (w.alloc (.cells cs.toArray T))∧holdsL β l cs w:=by
 obtain ⟨dst,op,type,pos,after,guard⟩:=o
 cases op <;> simp only [opA] at h
 case buildSlice T' len parts =>
  have hp:∀ p∈parts.toList,(ev p.2).holds β (ρ p.2) w:=fun p hm=>hs p.2 (by
   simp only [Op.operands]
   exact List.mem_toArray.2 (List.mem_map.2 ⟨p,hm,rfl⟩))
  split at h
  ·rename_i e hu
   split at h
   ·rename_i m zv hm hzi
    split at h
    ·rename_i hc
     split at h
     ·rename_i l' hl
      injection h with h1 h2 h3
      subst h1
      subst h2
      subst h3
      obtain ⟨hc1,hc2,hc3,hone⟩:=hc
      have harr:((Array.range (len*m)).map (fun i=>zv.cells[i%zv.cells.size]!)).toList=zerosN zv (len*m):=by
       rw [Array.toList_map,Array.toList_range];rfl
      obtain ⟨ds,hd,hd2⟩:=fillA_run (cs:=(Array.range (len*m)).map (fun i=>zv.cells[i%zv.cells.size]!)) hl (by rw [harr];exact holdsL.lits hone) hp
      refine ⟨ds.toList,?_,hd2⟩
      simp only [execOp]
      refine run_v ?_
      have h0:len*m≠0:=Nat.mul_ne_zero (by omega) (by omega)
      have h1:¬ (len*m > 2^24):=by omega
      have hzr:(zeroValue e).run P w = .ok zv w:=by
       rw [Option.bind_eq_some_iff] at hzi
       obtain ⟨i,hi,hz⟩:=hzi
       simp [zeroValue,typeInfo,hi,hz]
      have hd' : Instr.fill (fun i=>some (i*m,m)) ((Array.range (len*m)).map (fun i=>zv.cells[i%zv.cells.size]!)) (parts.map fun (i,x)=>(i,ρ x)).toList=some ds:=by simpa using hd
      unfold Instr.buildSlice
      simp only [Sem.run_bind,run_underlying hu,Result.andThen,run_sizeT hm,if_neg h1,if_neg h0,hzr,Sem.run_pure,hd']
      simp [Sem.run_bind,newRow,Result.andThen]
     ·cases h
    ·cases h
   ·cases h
  ·cases h
 case slice T' y lo hi mx=>cases lo <;> cases hi <;> cases mx <;> simp only at h <;> (repeat' (first|(cases h;done)|split at h))
 case makeFunc fn first cap=>cases fn <;> simp only at h <;> (repeat' (first|(cases h;done)|split at h))
 all_goals (repeat' (first|(cases h;done)|(unfold partA at h)|(unfold closedA at h)|split at h))
theorem opA_call {f:FuncId} {args:List (AV Kc)} (h:opA P ev bl o = .call f args) (hs:∀ y∈o.op.operands,(ev y).holds β (ρ y) w) :
 ∃ vs:List Value,(execOp ρ o).run P w=(callFunc f vs.toArray).run P w∧holdsA β args vs w:=by
 obtain ⟨dst,op,type,pos,after,guard⟩:=o
 cases op <;> simp only [opA] at h
 case call c =>
  split at h
  ·rename_i y hc
   have hA:∀ (l:List Value),holdsA β (l.map (constA (Kc:=Kc))) l w:=fun l=>by
    induction l with
    | nil=>rfl
    | cons v l ih=>exact ⟨v,l,rfl,constA_holds v,ih⟩
   have hB:∀ (l:List Operand),(∀ y∈l,(ev y).holds β (ρ y) w)→holdsA β (l.map ev) (l.map ρ) w:=fun l=>by
    induction l with
    | nil=>intro _;rfl
    | cons v l ih=>intro hm;exact ⟨ρ v,l.map ρ,rfl,hm v (by simp),ih (fun y hy=>hm y (by simp [hy]))⟩
   have hC:∀ {l l' : List (AV Kc)} {vs vs' : List Value},holdsA β l vs w→holdsA β l' vs' w→holdsA β (l++l') (vs++vs') w:=fun {l}=>by
    induction l with
    | nil=>intro l' vs vs' h h';rw [show vs = [] from h];exact h'
    | cons x l ih=>rintro l' vs vs' ⟨v,r,rfl,h1,h2⟩ h';exact ⟨v,r++vs',rfl,h1,ih h2 h'⟩
   have hD:∀ (l:List (Bool×List (Seg Kc))) (vs:List Value),holdsC β l vs w→holdsA β (l.map caA) vs w:=fun l=>by
    induction l with
    | nil=>intro vs h;exact h
    | cons c l ih =>
      rintro vs ⟨v,r,rfl,h1,h2⟩
      refine ⟨v,r,rfl,?_,ih r h2⟩
      obtain ⟨b,m⟩:=c
      cases b with
      | true=>exact h1
      | false =>
        match m,h1 with
        | [],_=>trivial
        | [s],h1=>exact holdsL_one h1
        | _::_::_,_=>trivial
   have hE:holdsA β (c.args.toList.map ev) (c.args.toList.map ρ) w:=hB _ (fun y hm=>hs y (by
    simp only [Op.operands,Call.operands,hc,Array.mem_append]
    exact .inr (by simpa using hm)))
   split at h
   ·rename_i g a b hy
    injection h with h1 h2
    subst h1
    subst h2
    have hv:=litOf_holds hy (hs y (by simp [Op.operands,Call.operands,hc]))
    refine ⟨a.toList++(c.args.toList.map ρ)++b.toList,?_,?_⟩
    ·simp only [execOp,resolve,hc,Sem.run_bind,Sem.run_pure,Result.andThen,hv,Deferred.ofValue,invoke]
     congr 2
     apply Array.toList_inj.1
     simp
    ·exact hC (hC (hA _) hE) (hA _)
   ·rename_i g a b _ hy
    injection h with h1 h2
    subst h1
    subst h2
    have hv:=hs y (by simp [Op.operands,Call.operands,hc])
    rw [hy] at hv
    obtain ⟨xs,ys,hv,hx,hyy⟩:=hv
    refine ⟨xs++(c.args.toList.map ρ)++ys,?_,hC (hC (hD _ _ hx) hE) (hD _ _ hyy)⟩
    simp only [execOp,resolve,hc,Sem.run_bind,Sem.run_pure,Result.andThen,hv,Deferred.ofValue,invoke]
    congr 2
    apply Array.toList_inj.1
    simp
   ·cases h
  ·split at h <;> (try split at h) <;> cases h
  ·split at h <;> (try split at h) <;> cases h
  ·cases h
 case slice T' y lo hi mx=>cases lo <;> cases hi <;> cases mx <;> simp only at h <;> (repeat' (first|(cases h;done)|split at h))
 case makeFunc fn first cap=>cases fn <;> simp only at h <;> (repeat' (first|(cases h;done)|split at h))
 all_goals (repeat' (first|(cases h;done)|(unfold partA at h)|(unfold closedA at h)|split at h))
theorem Turned.self {g:Nat} {ob:Obj} (h:w.heap[g]?=some ob):Turned g ob w w:=⟨rfl,rfl,rfl,rfl,h,fun _ _=>rfl⟩
theorem Turned.next {g:Nat} {ob ob' : Obj} {w1 w2 w3:World} (h:Turned g ob w1 w2) (h' : Turned g ob' w2 w3):Turned g ob' w1 w3 :=
 ⟨h'.os.trans h.os,h'.tape.trans h.tape,h'.output.trans h.output,h'.size.trans h.size,h'.at_,fun k hk=>(h'.block k hk).trans (h.block k hk)⟩
theorem setCells_turned {g:Nat} {T:TypeId}:∀ (es:List Value) (off:Nat) (w:World) (cs:List Value),w.heap[g]?=some (.cells cs.toArray T (0,0))→off+es.length≤cs.length →
 Turned g (.cells (cs.take off++es++cs.drop (off+es.length)).toArray T (0,0)) w (w.setCells g off es)
 | [],off,w,cs,h,_=>by
   simpa [World.setCells] using Turned.self h
 | e :: es,off,w,cs,h,hl=>by
   simp only [List.length_cons] at hl
   have h1:Turned g (.cells (cs.set off e).toArray T (0,0)) w (w.setCell ⟨g,off,none⟩ e):=by
    refine ⟨rfl,rfl,rfl,by simp [World.setCell],?_,fun k hk=>Below.heap_setCell w ⟨g,off,none⟩ e k hk⟩
    simp only [World.setCell,Array.getElem?_modify,h]
    simp
   have h2:=setCells_turned es (off+1) _ (cs.set off e) h1.at_ (by simp;omega)
   have e1:(cs.set off e).take (off+1)++es++(cs.set off e).drop (off+1+es.length)=cs.take off++(e::es)++cs.drop (off+(e::es).length):=by
    rw [List.drop_set,if_pos (by omega)]
    have hlt:off<cs.length:=by omega
    rw [List.take_set,List.take_succ_eq_append_getElem hlt,List.set_append_right _ _ (by simp;omega)]
    simp [Nat.min_eq_left (show off≤cs.length by omega),show off+1+es.length=off+(es.length+1) by omega]
   rw [e1] at h2
   exact h1.next h2
theorem store_run {T T' : TypeId} {a b:Operand} {g off n:Nat} {cs es:List Value} (ho:o.op = .store T' a b) (ha:ρ a = .pointer (some ⟨g,off,none⟩)) (hb:(ρ b).cells.toList=es) (hn:sizeT P T'=some n) (hlen:es.length=n)
 (h1:∀ c∈es,c.oneCell'=true) (hg:w.heap[g]?=some (.cells cs.toArray T (0,0))) (h2:off+es.length≤cs.length) :
 (execOp ρ o).run P w = .ok .skip (w.setCells g off es)∧Turned g (.cells (cs.take off++es++cs.drop (off+es.length)).toArray T (0,0)) w (w.setCells g off es):=by
 have hcell:∀ j,j<es.length→(w.cell? ⟨g,off+0+j,none⟩).isSome=true:=fun j hj=>by
  rw [cells_at hg,List.getElem?_eq_getElem (by omega)];rfl
 have hfr:∀ j,j<es.length→w.frozen? ⟨g,off+0+j,none⟩=false:=fun j _=>by simp [World.frozen?,hg]
 have hst:=run_storeCells_cells (P:=P) g off es 0 w hcell hfr h1
 refine ⟨?_,setCells_turned es off w cs hg h2⟩
 simp only [execOp,ho,ha,Instr.storeAt,Instr.sureAddr,Sem.run_bind,Sem.run_pure,Result.andThen,storeVar,run_sizeT hn]
 have hsz:(ρ b).cells.size=n:=by rw [← hlen,← hb];simp
 simp only [hsz,ne_eq,not_true_eq_false,if_false,hb,Sem.run_bind,Sem.run_pure,Result.andThen]
 have hst' : (storeCells ⟨g,off,none⟩ es).run P w = .ok () (w.setCells g off es):=by simpa using hst
 rw [hst']
theorem opA_put {k off:Nat} {m l l' : List (Seg Kc)} {g:Nat} {cs:List Value} {T:TypeId} (h:opA P ev bl o = .put k off m) (hs:∀ y∈o.op.operands,(ev y).holds β (ρ y) w)
 (hk:β[k]?=some g) (hg:w.heap[g]?=some (.cells cs.toArray T (0,0))) (hl:holdsL β l cs w) (hr:repl l off m=some l') :
 ∃ ds w',(execOp ρ o).run P w = .ok .skip w'∧Turned g (.cells ds.toArray T (0,0)) w w'∧holdsL β l' ds w:=by
 have key:∀ (T' : TypeId) (a b:Operand) (n:Nat) (v:Value) (es:List Value),o.op = .store T' a b→ρ a = .pointer (some ⟨g,off,none⟩)→ρ b=v→v.cells.toList=es→sizeT P T'=some n→es.length=n→holdsL β m es w →
  ∃ ds w',(execOp ρ o).run P w = .ok .skip w'∧Turned g (.cells ds.toArray T (0,0)) w w'∧holdsL β l' ds w:=by
  intro T' a b n v es ho ha hb hv hn hlen hm
  obtain ⟨h1,h2⟩:=repl_holds hr hl hm
  obtain ⟨h3,h4⟩:=store_run (P:=P) ho ha (by rw [hb];exact hv) hn hlen (holdsL.one hm) hg h2
  exact ⟨_,_,h3,h4,h1⟩
 obtain ⟨dst,op,type,pos,after,guard⟩:=o
 cases op <;> simp only [opA] at h
 case store T' a b =>
  have ha:=hs a (by simp [Op.operands])
  have hb:=hs b (by simp [Op.operands])
  split at h
  ·rename_i k' off' s n h1 h2 h3
   split at h
   ·rename_i hc
    injection h with e1 e2 e3
    subst e1
    subst e2
    subst e3
    simp only [Bool.and_eq_true,beq_iff_eq] at hc
    rw [h1] at ha
    rw [h2] at hb
    obtain ⟨g',hg',hv⟩:=hold_ptr ha
    rw [hk] at hg'
    injection hg' with hg'
    subst hg'
    exact key T' a b n _ [ρ b] rfl hv rfl (by rw [cells_sc hb]) h3 (by simp;omega) (holdsL.single hb)
   ·cases h
  ·rename_i k' off' mm n h1 h2 h3
   split at h
   ·rename_i hc
    injection h with e1 e2 e3
    subst e1
    subst e2
    subst e3
    simp only [beq_iff_eq] at hc
    rw [h1] at ha
    rw [h2] at hb
    obtain ⟨g',hg',hv⟩:=hold_ptr ha
    rw [hk] at hg'
    injection hg' with hg'
    subst hg'
    obtain ⟨es,he,hm⟩:=hb
    exact key T' a b n _ es rfl hv rfl (by rw [he];rfl) h3 (by rw [hm.len];exact hc) hm
   ·cases h
  ·cases h
 case slice T' y lo hi mx=>cases lo <;> cases hi <;> cases mx <;> simp only at h <;> (repeat' (first|(cases h;done)|split at h))
 case makeFunc fn first cap=>cases fn <;> simp only at h <;> (repeat' (first|(cases h;done)|split at h))
 all_goals (repeat' (first|(cases h;done)|(unfold partA at h)|(unfold closedA at h)|split at h))
end Go.Proofs.YtbkfbobdmojgnaaGreatDoor.Ab
namespace Go.Proofs.YtbkfbobdmojgnaaGreatDoor
open Go.RowKit
section
variable {P:Program} {ops:Array Oper} {K:Value→Bool} {T:List Nat} {w0:World} {a0:Act} {Q:Act→World→Prop} {o:Oper} {rest:List Oper} {g:List Ent}
theorem wanted_is {A:Act} {j:Nat} {want b:Bool} {d:Tmp} (hg:o.guard=some (j,want)) (hd:(ops[j]?).bind (·.dst)=some d) (h:A.eval (.tmp d) = .bool b) :
 Region.wanted o (yielded ops A.tmps)=(b==want):=by
 have hy:yielded ops A.tmps j=some b:=by
  unfold yielded
  rw [hd]
  have h2:A.tmps[d]?.getD undef = .bool b:=by simpa [Act.eval] using h
  cases h3:A.tmps[d]? with
  | none=>rw [h3] at h2;cases h2
  | some v =>
    rw [h3] at h2
    have h4:v = .bool b:=h2
    subst h4
    simp [h3]
 unfold Region.wanted
 rw [hg]
 simp [hy]
theorem guard_looks {j:Nat} {want:Bool} {d:Tmp} (hg:o.guard=some (j,want)) (hd:(ops[j]?).bind (·.dst)=some d):d∈o.looksAt ops:=by
 unfold Oper.looksAt
 rw [hg]
 simp only [List.mem_append]
 exact .inr (by rw [hd];simp)
end
end Go.Proofs.YtbkfbobdmojgnaaGreatDoor
