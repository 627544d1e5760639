/- Parts of the proof, joined. -/
import Derived.Test.YtbhcckhbbclemaaGreatDoorJ3
import Derived.Test.YtbhcckhbbclemaaGreatDoorJ2
set_option linter.unusedSimpArgs false
set_option linter.unusedVariables false
namespace Go.Proofs.YtbhcckhbbclemaaGreatDoor.Ab
open Go.RowKit
variable {Kc:Value→Bool} {P:Program} {ev:Operand→AV Kc} {bl:List (Option (TypeId×List (Seg Kc)))} {β:List Nat} {w:World} {ρ:Operand→Value} {o:Oper} {x:AV Kc}
theorem run_v {s:Sem Value} {v:Value} {w w' : World} (h:s.run P w = .ok v w'):(do pure (Next.value (← s)):Sem Next).run P w = .ok (.value v) w':=by
 rw [Sem.run_bind,h];rfl
theorem add_off (g off n:Nat):(⟨g,off,none⟩:Addr).add n=⟨g,off+n,none⟩:=Addr.add_mid g off n
theorem hold_ptr {k off:Nat} {v:Value} (h:(AV.fv (.sc (.ptr k off)):AV Kc).holds β v w):∃ g,β[k]?=some g∧v = .pointer (some ⟨g,off,none⟩):=by
 obtain ⟨g,h1,h2⟩:=h
 injection h2 with h2
 exact ⟨g,h1,h2⟩
theorem hold_slc {k off n c:Nat} {v:Value} (h:(AV.fv (.sc (.slc k off n c)):AV Kc).holds β v w):∃ g,β[k]?=some g∧v = .slice (some ⟨g,off,none⟩) n c:=by
 obtain ⟨g,h1,h2⟩:=h
 injection h2 with h2
 exact ⟨g,h1,h2⟩
theorem hold_lit {u v:Value} (h:(AV.fv (.sc (.lit u)):AV Kc).holds β v w):v=u:=by
 have:=h.1
 injection this
theorem ptr_hold {k off g:Nat} (h:β[k]?=some g):(AV.fv (.sc (.ptr k off)):AV Kc).holds β (.pointer (some ⟨g,off,none⟩)) w:=⟨g,h,rfl⟩
theorem toCA_holds:∀ {l:List Operand} {m:List (Bool×List (Seg Kc))},toCA (l.map ev)=some m→(∀ y∈l,(ev y).holds β (ρ y) w)→holdsC β m (l.map ρ) w
 | [],m,h,_=>by injection h with h;subst h;rfl
 | y :: l,m,h,hs=>by
   have hy:=hs y (by simp)
   have hl:∀ z∈l,(ev z).holds β (ρ z) w:=fun z hz=>hs z (by simp [hz])
   rw [List.map_cons] at h
   generalize ev y=x at h hy
   cases x with
   | tup l=>cases h
   | fv f =>
     cases f with
     | sc s =>
       simp only [toCA,Option.map_eq_some_iff] at h
       obtain ⟨r,hr,rfl⟩:=h
       exact ⟨ρ y,l.map ρ,rfl,holdsL.single hy,toCA_holds hr hl⟩
     | ag m =>
       simp only [toCA,Option.map_eq_some_iff] at h
       obtain ⟨r,hr,rfl⟩:=h
       exact ⟨ρ y,l.map ρ,rfl,hy,toCA_holds hr hl⟩
     | clo F a b=>cases h
     | nsl n T l=>cases h
     | un=>cases h
theorem litsA_holds:∀ {l:List Operand} {vs:List Value},litsA (l.map ev)=some vs→(∀ y∈l,(ev y).holds β (ρ y) w)→l.map ρ=vs
 | [],vs,h,_=>by simpa [litsA] using h
 | y :: l,vs,h,hs=>by
   simp only [List.map_cons,litsA] at h
   split at h
   ·rename_i v r hv hr
    injection h with h
    subst h
    rw [List.map_cons,litOf_holds hv (hs y (by simp)),litsA_holds hr (fun z hz=>hs z (by simp [hz]))]
   ·cases h
theorem opA_val (h:opA P ev bl o = .val x) (hs:∀ y∈o.op.operands,(ev y).holds β (ρ y) w) (hm:Mem β bl w):∃ v,(execOp ρ o).run P w = .ok (.value v) w∧x.holds β v w:=by
 obtain ⟨dst,op,type,pos,after,guard⟩:=o
 cases op <;> simp only [opA] at h
 case move y=>injection h with h;subst h;exact ⟨_,rfl,hs y (by simp [Op.operands])⟩
 case assign y=>injection h with h;subst h;exact ⟨_,rfl,hs y (by simp [Op.operands])⟩
 case pick c a b =>
  split at h
  ·rename_i t hc
   injection h with h
   have h1:=hs c (by simp [Op.operands])
   rw [hc] at h1
   have h2:=hold_lit h1
   refine ⟨if t then ρ a else ρ b,?_,?_⟩
   ·simp [execOp,h2,asBool]
   ·subst h
    cases t
    ·exact hs b (by simp [Op.operands])
    ·exact hs a (by simp [Op.operands])
  ·cases h
 case alloc T=>split at h <;> cases h
 case box T y=>split at h <;> cases h
 case load T y =>
  split at h
  ·rename_i k off hy
   split at h
   ·rename_i T' l hb
    have h1:=hs y (by simp [Op.operands])
    rw [hy] at h1
    obtain ⟨g,hg,hv⟩:=hold_ptr h1
    obtain ⟨g',cs,hg',hh,hl⟩:=hm k T' l hb
    rw [hg] at hg'
    injection hg' with hg'
    subst hg'
    obtain ⟨v,hr,hx⟩:=run_load_part h hh hl
    refine ⟨v,?_,hx⟩
    simp only [execOp,Instr.loadAt,hv,Instr.sureAddr]
    exact run_v (by simpa [Sem.run_bind] using hr)
   ·cases h
  ·cases h
 case store T a b=>repeat' (first|(cases h;done)|split at h)
 case fieldAddr T y i =>
  split at h
  ·rename_i k off fs hy hu
   split at h
   ·rename_i f hf
    split at h
    ·rename_i n hn
     injection h with h
     subst h
     have h1:=hs y (by simp [Op.operands])
     rw [hy] at h1
     obtain ⟨g,hg,hv⟩:=hold_ptr h1
     refine ⟨_,?_,ptr_hold hg⟩
     simp only [execOp]
     refine run_v ?_
     simp only [Instr.fieldAt,Sem.run_bind,run_underlying hu,Result.andThen,hf,hv,Instr.sureAddr,Sem.run_pure,fieldPlace,run_sizeT hn,add_off]
     rfl
    ·cases h
   ·cases h
  ·cases h
 case field T y i =>
  split at h
  ·rename_i l fs hy hu
   split at h
   ·rename_i f hf
    have h1:=hs y (by simp [Op.operands])
    rw [hy] at h1
    obtain ⟨cs,hv,hl⟩:=h1
    obtain ⟨v,hr,hx⟩:=run_part h hl
    refine ⟨v,?_,hx⟩
    simp only [execOp]
    refine run_v ?_
    simp only [Instr.field,Sem.run_bind,run_underlying hu,Result.andThen,hf,hv,asAgg,Sem.run_pure,hr]
   ·cases h
  ·cases h
 case indexAddr T y ix =>
  split at h
  ·rename_i k off kd i len e hy hi hu
   split at h
   ·rename_i hb
    split at h
    ·rename_i n hn
     injection h with h
     subst h
     have h1:=hs y (by simp [Op.operands])
     rw [hy] at h1
     obtain ⟨g,hg,hv⟩:=hold_ptr h1
     have h2:=hs ix (by simp [Op.operands])
     rw [hi] at h2
     have hv2:=hold_lit h2
     refine ⟨_,?_,ptr_hold hg⟩
     simp only [execOp]
     refine run_v ?_
     simp [Instr.indexAt,Sem.run_bind,run_underlying hu,Result.andThen,hv,hv2,asIntOf,Instr.sureAddr,run_sizeT hn,add_off,hb.1,hb.2]
    ·cases h
   ·cases h
  ·rename_i k off n c kd i e hy hi hu
   split at h
   ·rename_i hb
    split at h
    ·rename_i m hm2
     injection h with h
     subst h
     have h1:=hs y (by simp [Op.operands])
     rw [hy] at h1
     obtain ⟨g,hg,hv⟩:=hold_slc h1
     have h2:=hs ix (by simp [Op.operands])
     rw [hi] at h2
     have hv2:=hold_lit h2
     refine ⟨_,?_,ptr_hold hg⟩
     simp only [execOp]
     refine run_v ?_
     simp [Instr.indexAt,Sem.run_bind,run_underlying hu,Result.andThen,hv,hv2,asIntOf,run_sizeT hm2,add_off,hb.1,hb.2]
    ·cases h
   ·cases h
  ·cases h
 case index T y ix =>
  split at h
  ·rename_i l kd i len e hy hi hu
   split at h
   ·rename_i hb
    split at h
    ·rename_i n hn
     have h1:=hs y (by simp [Op.operands])
     rw [hy] at h1
     obtain ⟨cs,hv,hl⟩:=h1
     have h2:=hs ix (by simp [Op.operands])
     rw [hi] at h2
     have hv2:=hold_lit h2
     obtain ⟨v,hr,hx⟩:=run_part h hl
     refine ⟨v,?_,hx⟩
     simp only [execOp]
     refine run_v ?_
     simp [Instr.index,Sem.run_bind,run_underlying hu,Result.andThen,hv,hv2,asIntOf,run_sizeT hn,hb.1,hb.2,hr]
    ·cases h
   ·cases h
  ·cases h
 case nilCheck y =>
  split at h
  ·rename_i k off hy
   injection h with h
   subst h
   have h1:=hs y (by simp [Op.operands])
   rw [hy] at h1
   obtain ⟨g,hg,hv⟩:=hold_ptr h1
   refine ⟨_,?_,ptr_hold hg⟩
   simp only [execOp,hv]
   rfl
  ·cases h
 case extract y i =>
  split at h
  ·rename_i l hy
   split at h
   ·rename_i f hf
    injection h with h
    subst h
    have h1:=hs y (by simp [Op.operands])
    rw [hy] at h1
    obtain ⟨vs,hv,hl⟩:=h1
    obtain ⟨v,hv2,hx⟩:=holdsF.get hl hf
    refine ⟨v,?_,hx⟩
    simp only [execOp]
    refine run_v ?_
    simp [Instr.extract,hv,hv2]
   ·cases h
  ·cases h
 case build T parts =>
  have hp:∀ p∈parts.toList,(ev p.2).holds β (ρ p.2) w:=fun p hm=>hs p.2 (by
   simp only [Op.operands]
   exact List.mem_toArray.2 (List.mem_map.2 ⟨p,hm,rfl⟩))
  split at h
  ·rename_i z fs hz hu
   split at h
   ·rename_i pl hpl
    split at h
    ·rename_i l hl
     injection h with h
     subst h
     obtain ⟨zv,hzi,_,rfl,hone⟩:=zerosA_run hz
     obtain ⟨ds,hd,hd2⟩:=fillA_run (cs:=zv.cells) hl (holdsL.lits hone) hp
     refine ⟨.agg ds,?_,⟨ds.toList,by simp,hd2⟩⟩
     simp only [execOp]
     refine run_v (run_build w T _ ds ?_)
     rw [Option.bind_eq_some_iff] at hzi
     obtain ⟨i,hi,hz2⟩:=hzi
     have hpl' : fs.toList.mapM (fun f=>(P.info? f.type).map fun i=>(f.offset,i.size))=some pl:=hpl
     simp only [Program.built,hi,hu,hz2,hpl']
     simpa using hd
    ·cases h
   ·cases h
  ·rename_i z n e hz hu
   split at h
   ·rename_i m hn
    split at h
    ·rename_i l hl
     injection h with h
     subst h
     obtain ⟨zv,hzi,_,rfl,hone⟩:=zerosA_run hz
     obtain ⟨ds,hd,hd2⟩:=fillA_run (cs:=zv.cells) hl (holdsL.lits hone) hp
     refine ⟨.agg ds,?_,⟨ds.toList,by simp,hd2⟩⟩
     simp only [execOp]
     refine run_v (run_build w T _ ds ?_)
     rw [Option.bind_eq_some_iff] at hzi
     obtain ⟨i,hi,hz2⟩:=hzi
     obtain ⟨ie,hie,hie2⟩:=sizeT_info hn
     simp only [Program.built,hi,hu,hz2,hie,hie2]
     simpa using hd
    ·cases h
   ·cases h
  ·cases h
 case buildSlice T len parts=>repeat' (first|(cases h;done)|split at h)
 case slice T y lo hi mx =>
  cases lo <;> cases hi <;> cases mx <;> simp only at h <;> try (cases h;done)
  split at h
  ·rename_i k off n e hy hu
   split at h
   ·rename_i m hn
    injection h with h
    subst h
    have h1:=hs y (by simp [Op.operands])
    rw [hy] at h1
    obtain ⟨g,hg,hv⟩:=hold_ptr h1
    refine ⟨.slice (some ⟨g,off,none⟩) n n,?_,⟨g,hg,rfl⟩⟩
    simp only [execOp,Option.map_none]
    refine run_v ?_
    have h0:∀ c:Prop,[Decidable c]→(if c then (⟨g,off,none⟩:Addr) else (⟨g,off,none⟩:Addr).add (0*m))=⟨g,off,none⟩:=fun c _=>by split <;> simp [add_off]
    simp [Instr.sliceAt,Sem.run_bind,run_underlying hu,Result.andThen,hv,Instr.sureAddr,Instr.sliceBounds,run_sizeT hn]
    have:=h0 (n=0)
    simpa using this
   ·cases h
  ·cases h
 case binOp op T a b yt =>
  split at h
  ·rename_i u v hu hv
   have h1:=litOf_holds hu (hs a (by simp [Op.operands]))
   have h2:=litOf_holds hv (hs b (by simp [Op.operands]))
   obtain ⟨r,hr,hx⟩:=closedA_val h β w
   refine ⟨r,?_,hx⟩
   simp only [execOp,h1,h2]
   exact run_v hr
  ·cases h
 case makeFunc fn first cap =>
  cases fn with
  | func F =>
    simp only at h
    split at h
    ·rename_i a b ha hb
     injection h with h
     subst h
     refine ⟨.func (.func F) (first.map ρ) (cap.map ρ),rfl,first.toList.map ρ,cap.toList.map ρ,?_,?_,?_⟩
     ·congr 1 <;> (apply Array.toList_inj.1;simp)
     ·exact toCA_holds ha (fun y hy=>hs y (by simp only [Op.operands,Array.mem_append];exact .inl (by simpa using hy)))
     ·exact toCA_holds hb (fun y hy=>hs y (by simp only [Op.operands,Array.mem_append];exact .inr (by simpa using hy)))
    ·cases h
  | _=>cases h
 case unOp op T a =>
  split at h
  ·rename_i u hu
   have h1:=litOf_holds hu (hs a (by simp [Op.operands]))
   obtain ⟨r,hr,hx⟩:=closedA_val h β w
   refine ⟨r,?_,hx⟩
   simp only [execOp,h1]
   exact run_v hr
  ·cases h
 case convert s d a =>
  split at h
  ·rename_i u hu
   have h1:=litOf_holds hu (hs a (by simp [Op.operands]))
   obtain ⟨r,hr,hx⟩:=closedA_val h β w
   refine ⟨r,?_,hx⟩
   simp only [execOp,h1]
   exact run_v hr
  ·cases h
 case call c =>
  split at h
  ·split at h <;> cases h
  ·rename_i hc
   split at h
   ·rename_i T y ht ha
    split at h
    ·rename_i e k off n c' hu hy
     injection h with h
     subst h
     have hmem:y∈c.operands:=by
      simp only [Call.operands,hc,Array.mem_append]
      exact .inr (by rw [← Array.mem_toList_iff,ha];simp)
     have h1:=hs y (by simpa [Op.operands] using hmem)
     rw [hy] at h1
     obtain ⟨g,hg,hv⟩:=hold_slc h1
     refine ⟨.int .i64 n,?_,⟨rfl,rfl⟩⟩
     have harg:c.args.map ρ = #[.slice (some ⟨g,off,none⟩) n c']:=by
      apply Array.toList_inj.1
      rw [Array.toList_map,ha,List.map_singleton,hv]
     simp only [execOp,resolve,hc,Sem.run_bind,Sem.run_pure,Result.andThen,invoke,builtin,harg,Builtin.len_,ht]
     simp [Sem.run_bind,run_underlying hu,Result.andThen,goInt]
    ·cases h
   ·cases h
  ·rename_i b _ hc
   split at h
   ·rename_i vs hvs
    split at h
    ·rename_i v hv
     injection h with h
     subst h
     have he:=litsA_holds hvs (fun y hm=>hs y (by
      simp only [Op.operands,Call.operands,hc,Array.mem_append]
      exact .inr (by simpa using hm)))
     have harg:c.args.map ρ=vs.toArray:=by
      apply Array.toList_inj.1
      rw [Array.toList_map,he]
     refine ⟨v,?_,constA_holds v⟩
     simp only [execOp,resolve,hc,Sem.run_bind,Sem.run_pure,Result.andThen,invoke,harg]
     exact evalP_run hv w
    ·cases h
   ·cases h
  ·cases h
 all_goals (cases h)
theorem opA_new {T:TypeId} {l:List (Seg Kc)} (h:opA P ev bl o = .new T l) (hs:∀ y∈o.op.operands,(ev y).holds β (ρ y) w) :
 ∃ cs:List Value,(execOp ρ o).run P w = .ok (.value (.pointer (some ⟨w.heap.size,0,none⟩))) (w.alloc (.cells cs.toArray T))∧holdsL β l cs w:=by
 obtain ⟨dst,op,type,pos,after,guard⟩:=o
 cases op <;> simp only [opA] at h
 case alloc T' =>
  split at h
  ·rename_i l' hz
   injection h with h1 h2
   subst h1
   subst h2
   obtain ⟨z,_,hz2,rfl,hone⟩:=zerosA_run hz
   refine ⟨z.cells.toList,?_,holdsL.lits hone⟩
   simp only [execOp]
   refine run_v ?_
   simp [Instr.alloc,Sem.run_bind,hz2,Result.andThen,newVar,newRow]
  ·cases h
 case box T' y =>
  split at h
  ·rename_i s hy
   injection h with h1 h2
   subst h1
   subst h2
   have hv:=hs y (by simp [Op.operands])
   rw [hy] at hv
   refine ⟨[ρ y],?_,holdsL.single hv⟩
   simp only [execOp]
   refine run_v ?_
   simp [Instr.box,Sem.run_bind,Result.andThen,newVar,newRow,cells_sc hv]
  ·rename_i l' hy
   injection h with h1 h2
   subst h1
   subst h2
   have hv:=hs y (by simp [Op.operands])
   rw [hy] at hv
   obtain ⟨cs,hv,hl⟩:=hv
   refine ⟨cs,?_,hl⟩
   simp only [execOp]
   refine run_v ?_
   simp [Instr.box,Sem.run_bind,Result.andThen,newVar,newRow,hv,Value.cells]
  ·cases h
 case slice T' y lo hi mx=>cases lo <;> cases hi <;> cases mx <;> simp only at h <;> (repeat' (first|(cases h;done)|split at h))
 case makeFunc fn first cap=>cases fn <;> simp only at h <;> (repeat' (first|(cases h;done)|split at h))
 all_goals (repeat' (first|(cases h;done)|(unfold partA at h)|(unfold closedA at h)|split at h))
theorem opA_nsl {T:TypeId} {n:Nat} {l:List (Seg Kc)} (h:opA P ev bl o = .nsl n T l) (hs:∀ y∈o.op.operands,(ev y).holds β (ρ y) w) :
 ∃ cs:List Value,(execOp ρ o).run P w = .ok (.value (.slice (some ⟨w.heap.size,0,none⟩) n n)) (w.alloc (.cells cs.toArray T))∧holdsL β l cs w:=by
 obtain ⟨dst,op,type,pos,after,guard⟩:=o
 cases op <;> simp only [opA] at h
 case buildSlice T' len parts =>
  have hp:∀ p∈parts.toList,(ev p.2).holds β (ρ p.2) w:=fun p hm=>hs p.2 (by
   simp only [Op.operands]
   exact List.mem_toArray.2 (List.mem_map.2 ⟨p,hm,rfl⟩))
  split at h
  ·rename_i e hu
   split at h
   ·rename_i m zv hm hzi
    split at h
    ·rename_i hc
     split at h
     ·rename_i l' hl
      injection h with h1 h2 h3
      subst h1
      subst h2
      subst h3
      obtain ⟨hc1,hc2,hc3,hone⟩:=hc
      have harr:((Array.range (len*m)).map (fun i=>zv.cells[i%zv.cells.size]!)).toList=zerosN zv (len*m):=by
       rw [Array.toList_map,Array.toList_range];rfl
      obtain ⟨ds,hd,hd2⟩:=fillA_run (cs:=(Array.range (len*m)).map (fun i=>zv.cells[i%zv.cells.size]!)) hl (by rw [harr];exact holdsL.lits hone) hp
      refine ⟨ds.toList,?_,hd2⟩
      simp only [execOp]
      refine run_v ?_
      have h0:len*m≠0:=Nat.mul_ne_zero (by omega) (by omega)
      have h1:¬ (len*m > 2^24):=by omega
      have hzr:(zeroValue e).run P w = .ok zv w:=by
       rw [Option.bind_eq_some_iff] at hzi
       obtain ⟨i,hi,hz⟩:=hzi
       simp [zeroValue,typeInfo,hi,hz]
      have hd' : Instr.fill (fun i=>some (i*m,m)) ((Array.range (len*m)).map (fun i=>zv.cells[i%zv.cells.size]!)) (parts.map fun (i,x)=>(i,ρ x)).toList=some ds:=by simpa using hd
      unfold Instr.buildSlice
      simp only [Sem.run_bind,run_underlying hu,Result.andThen,run_sizeT hm,if_neg h1,if_neg h0,hzr,Sem.run_pure,hd']
      simp [Sem.run_bind,newRow,Result.andThen]
     ·cases h
    ·cases h
   ·cases h
  ·cases h
 case slice T' y lo hi mx=>cases lo <;> cases hi <;> cases mx <;> simp only at h <;> (repeat' (first|(cases h;done)|split at h))
 case makeFunc fn first cap=>cases fn <;> simp only at h <;> (repeat' (first|(cases h;done)|split at h))
 all_goals (repeat' (first|(cases h;done)|(unfold partA at h)|(unfold closedA at h)|split at h))
theorem opA_call {f:FuncId} {args:List (AV Kc)} (h:opA P ev bl o = .call f args) (hs:∀ y∈o.op.operands,(ev y).holds β (ρ y) w) :
 ∃ vs:List Value,(execOp ρ o).run P w=(callFunc f vs.toArray).run P w∧holdsA β args vs w:=by
 obtain ⟨dst,op,type,pos,after,guard⟩:=o
 cases op <;> simp only [opA] at h
 case call c =>
  split at h
  ·rename_i y hc
   have hA:∀ (l:List Value),holdsA β (l.map (constA (Kc:=Kc))) l w:=fun l=>by
    induction l with
    | nil=>rfl
    | cons v l ih=>exact ⟨v,l,rfl,constA_holds v,ih⟩
   have hB:∀ (l:List Operand),(∀ y∈l,(ev y).holds β (ρ y) w)→holdsA β (l.map ev) (l.map ρ) w:=fun l=>by
    induction l with
    | nil=>intro _;rfl
    | cons v l ih=>intro hm;exact ⟨ρ v,l.map ρ,rfl,hm v (by simp),ih (fun y hy=>hm y (by simp [hy]))⟩
   have hC:∀ {l l' : List (AV Kc)} {vs vs' : List Value},holdsA β l vs w→holdsA β l' vs' w→holdsA β (l++l') (vs++vs') w:=fun {l}=>by
    induction l with
    | nil=>intro l' vs vs' h h';rw [show vs = [] from h];exact h'
    | cons x l ih=>rintro l' vs vs' ⟨v,r,rfl,h1,h2⟩ h';exact ⟨v,r++vs',rfl,h1,ih h2 h'⟩
   have hD:∀ (l:List (Bool×List (Seg Kc))) (vs:List Value),holdsC β l vs w→holdsA β (l.map caA) vs w:=fun l=>by
    induction l with
    | nil=>intro vs h;exact h
    | cons c l ih =>
      rintro vs ⟨v,r,rfl,h1,h2⟩
      refine ⟨v,r,rfl,?_,ih r h2⟩
      obtain ⟨b,m⟩:=c
      cases b with
      | true=>exact h1
      | false =>
        match m,h1 with
        | [],_=>trivial
        | [s],h1=>exact holdsL_one h1
        | _::_::_,_=>trivial
   have hE:holdsA β (c.args.toList.map ev) (c.args.toList.map ρ) w:=hB _ (fun y hm=>hs y (by
    simp only [Op.operands,Call.operands,hc,Array.mem_append]
    exact .inr (by simpa using hm)))
   split at h
   ·rename_i g a b hy
    injection h with h1 h2
    subst h1
    subst h2
    have hv:=litOf_holds hy (hs y (by simp [Op.operands,Call.operands,hc]))
    refine ⟨a.toList++(c.args.toList.map ρ)++b.toList,?_,?_⟩
    ·simp only [execOp,resolve,hc,Sem.run_bind,Sem.run_pure,Result.andThen,hv,Deferred.ofValue,invoke]
     congr 2
     apply Array.toList_inj.1
     simp
    ·exact hC (hC (hA _) hE) (hA _)
   ·rename_i g a b _ hy
    injection h with h1 h2
    subst h1
    subst h2
    have hv:=hs y (by simp [Op.operands,Call.operands,hc])
    rw [hy] at hv
    obtain ⟨xs,ys,hv,hx,hyy⟩:=hv
    refine ⟨xs++(c.args.toList.map ρ)++ys,?_,hC (hC (hD _ _ hx) hE) (hD _ _ hyy)⟩
    simp only [execOp,resolve,hc,Sem.run_bind,Sem.run_pure,Result.andThen,hv,Deferred.ofValue,invoke]
    congr 2
    apply Array.toList_inj.1
    simp
   ·cases h
  ·split at h <;> (try split at h) <;> cases h
  ·split at h <;> (try split at h) <;> cases h
  ·cases h
 case slice T' y lo hi mx=>cases lo <;> cases hi <;> cases mx <;> simp only at h <;> (repeat' (first|(cases h;done)|split at h))
 case makeFunc fn first cap=>cases fn <;> simp only at h <;> (repeat' (first|(cases h;done)|split at h))
 all_goals (repeat' (first|(cases h;done)|(unfold partA at h)|(unfold closedA at h)|split at h))
theorem Turned.self {g:Nat} {ob:Obj} (h:w.heap[g]?=some ob):Turned g ob w w:=⟨rfl,rfl,rfl,rfl,h,fun _ _=>rfl⟩
theorem Turned.next {g:Nat} {ob ob' : Obj} {w1 w2 w3:World} (h:Turned g ob w1 w2) (h' : Turned g ob' w2 w3):Turned g ob' w1 w3 :=
 ⟨h'.os.trans h.os,h'.tape.trans h.tape,h'.output.trans h.output,h'.size.trans h.size,h'.at_,fun k hk=>(h'.block k hk).trans (h.block k hk)⟩
theorem setCells_turned {g:Nat} {T:TypeId}:∀ (es:List Value) (off:Nat) (w:World) (cs:List Value),w.heap[g]?=some (.cells cs.toArray T (0,0))→off+es.length≤cs.length →
 Turned g (.cells (cs.take off++es++cs.drop (off+es.length)).toArray T (0,0)) w (w.setCells g off es)
 | [],off,w,cs,h,_=>by
   simpa [World.setCells] using Turned.self h
 | e :: es,off,w,cs,h,hl=>by
   simp only [List.length_cons] at hl
   have h1:Turned g (.cells (cs.set off e).toArray T (0,0)) w (w.setCell ⟨g,off,none⟩ e):=by
    refine ⟨rfl,rfl,rfl,by simp [World.setCell],?_,fun k hk=>Below.heap_setCell w ⟨g,off,none⟩ e k hk⟩
    simp only [World.setCell,Array.getElem?_modify,h]
    simp
   have h2:=setCells_turned es (off+1) _ (cs.set off e) h1.at_ (by simp;omega)
   have e1:(cs.set off e).take (off+1)++es++(cs.set off e).drop (off+1+es.length)=cs.take off++(e::es)++cs.drop (off+(e::es).length):=by
    rw [List.drop_set,if_pos (by omega)]
    have hlt:off<cs.length:=by omega
    rw [List.take_set,List.take_succ_eq_append_getElem hlt,List.set_append_right _ _ (by simp;omega)]
    simp [Nat.min_eq_left (show off≤cs.length by omega),show off+1+es.length=off+(es.length+1) by omega]
   rw [e1] at h2
   exact h1.next h2
theorem store_run {T T' : TypeId} {a b:Operand} {g off n:Nat} {cs es:List Value} (ho:o.op = .store T' a b) (ha:ρ a = .pointer (some ⟨g,off,none⟩)) (hb:(ρ b).cells.toList=es) (hn:sizeT P T'=some n) (hlen:es.length=n)
 (h1:∀ c∈es,c.oneCell'=true) (hg:w.heap[g]?=some (.cells cs.toArray T (0,0))) (h2:off+es.length≤cs.length) :
 (execOp ρ o).run P w = .ok .skip (w.setCells g off es)∧Turned g (.cells (cs.take off++es++cs.drop (off+es.length)).toArray T (0,0)) w (w.setCells g off es):=by
 have hcell:∀ j,j<es.length→(w.cell? ⟨g,off+0+j,none⟩).isSome=true:=fun j hj=>by
  rw [cells_at hg,List.getElem?_eq_getElem (by omega)];rfl
 have hfr:∀ j,j<es.length→w.frozen? ⟨g,off+0+j,none⟩=false:=fun j _=>by simp [World.frozen?,hg]
 have hst:=run_storeCells_cells (P:=P) g off es 0 w hcell hfr h1
 refine ⟨?_,setCells_turned es off w cs hg h2⟩
 simp only [execOp,ho,ha,Instr.storeAt,Instr.sureAddr,Sem.run_bind,Sem.run_pure,Result.andThen,storeVar,run_sizeT hn]
 have hsz:(ρ b).cells.size=n:=by rw [← hlen,← hb];simp
 simp only [hsz,ne_eq,not_true_eq_false,if_false,hb,Sem.run_bind,Sem.run_pure,Result.andThen]
 have hst' : (storeCells ⟨g,off,none⟩ es).run P w = .ok () (w.setCells g off es):=by simpa using hst
 rw [hst']
theorem opA_put {k off:Nat} {m l l' : List (Seg Kc)} {g:Nat} {cs:List Value} {T:TypeId} (h:opA P ev bl o = .put k off m) (hs:∀ y∈o.op.operands,(ev y).holds β (ρ y) w)
 (hk:β[k]?=some g) (hg:w.heap[g]?=some (.cells cs.toArray T (0,0))) (hl:holdsL β l cs w) (hr:repl l off m=some l') :
 ∃ ds w',(execOp ρ o).run P w = .ok .skip w'∧Turned g (.cells ds.toArray T (0,0)) w w'∧holdsL β l' ds w:=by
 have key:∀ (T' : TypeId) (a b:Operand) (n:Nat) (v:Value) (es:List Value),o.op = .store T' a b→ρ a = .pointer (some ⟨g,off,none⟩)→ρ b=v→v.cells.toList=es→sizeT P T'=some n→es.length=n→holdsL β m es w →
  ∃ ds w',(execOp ρ o).run P w = .ok .skip w'∧Turned g (.cells ds.toArray T (0,0)) w w'∧holdsL β l' ds w:=by
  intro T' a b n v es ho ha hb hv hn hlen hm
  obtain ⟨h1,h2⟩:=repl_holds hr hl hm
  obtain ⟨h3,h4⟩:=store_run (P:=P) ho ha (by rw [hb];exact hv) hn hlen (holdsL.one hm) hg h2
  exact ⟨_,_,h3,h4,h1⟩
 obtain ⟨dst,op,type,pos,after,guard⟩:=o
 cases op <;> simp only [opA] at h
 case store T' a b =>
  have ha:=hs a (by simp [Op.operands])
  have hb:=hs b (by simp [Op.operands])
  split at h
  ·rename_i k' off' s n h1 h2 h3
   split at h
   ·rename_i hc
    injection h with e1 e2 e3
    subst e1
    subst e2
    subst e3
    simp only [Bool.and_eq_true,beq_iff_eq] at hc
    rw [h1] at ha
    rw [h2] at hb
    obtain ⟨g',hg',hv⟩:=hold_ptr ha
    rw [hk] at hg'
    injection hg' with hg'
    subst hg'
    exact key T' a b n _ [ρ b] rfl hv rfl (by rw [cells_sc hb]) h3 (by simp;omega) (holdsL.single hb)
   ·cases h
  ·rename_i k' off' mm n h1 h2 h3
   split at h
   ·rename_i hc
    injection h with e1 e2 e3
    subst e1
    subst e2
    subst e3
    simp only [beq_iff_eq] at hc
    rw [h1] at ha
    rw [h2] at hb
    obtain ⟨g',hg',hv⟩:=hold_ptr ha
    rw [hk] at hg'
    injection hg' with hg'
    subst hg'
    obtain ⟨es,he,hm⟩:=hb
    exact key T' a b n _ es rfl hv rfl (by rw [he];rfl) h3 (by rw [hm.len];exact hc) hm
   ·cases h
  ·cases h
 case slice T' y lo hi mx=>cases lo <;> cases hi <;> cases mx <;> simp only at h <;> (repeat' (first|(cases h;done)|split at h))
 case makeFunc fn first cap=>cases fn <;> simp only at h <;> (repeat' (first|(cases h;done)|split at h))
 all_goals (repeat' (first|(cases h;done)|(unfold partA at h)|(unfold closedA at h)|split at h))
end Go.Proofs.YtbhcckhbbclemaaGreatDoor.Ab
namespace Go.Proofs.YtbhcckhbbclemaaGreatDoor
open Go.RowKit
section
variable {P:Program} {ops:Array Oper} {K:Value→Bool} {T:List Nat} {w0:World} {a0:Act} {Q:Act→World→Prop} {o:Oper} {rest:List Oper} {g:List Ent}
theorem wanted_is {A:Act} {j:Nat} {want b:Bool} {d:Tmp} (hg:o.guard=some (j,want)) (hd:(ops[j]?).bind (·.dst)=some d) (h:A.eval (.tmp d) = .bool b) :
 Region.wanted o (yielded ops A.tmps)=(b==want):=by
 have hy:yielded ops A.tmps j=some b:=by
  unfold yielded
  rw [hd]
  have h2:A.tmps[d]?.getD undef = .bool b:=by simpa [Act.eval] using h
  cases h3:A.tmps[d]? with
  | none=>rw [h3] at h2;cases h2
  | some v =>
    rw [h3] at h2
    have h4:v = .bool b:=h2
    subst h4
    simp [h3]
 unfold Region.wanted
 rw [hg]
 simp [hy]
theorem guard_looks {j:Nat} {want:Bool} {d:Tmp} (hg:o.guard=some (j,want)) (hd:(ops[j]?).bind (·.dst)=some d):d∈o.looksAt ops:=by
 unfold Oper.looksAt
 rw [hg]
 simp only [List.mem_append]
 exact .inr (by rw [hd];simp)
end
end Go.Proofs.YtbhcckhbbclemaaGreatDoor
namespace Go.Proofs.YtbhcckhbbclemaaGreatDoor.Ab
open Go.RowKit
variable {Kc:Value→Bool}
structure St (Kc:Value→Bool) where
 slots:List (AV Kc)
 blocks:List (TypeId×List (Seg Kc))
 ro:Nat
inductive AKd (Kc:Value→Bool) where
 | val (x:AV Kc)
 | new (T:TypeId) (vs:List Value)
 | put (d:Tmp) (T:TypeId) (l:List (Seg Kc))
 | old (k:Nat) (T:TypeId) (l:List (Seg Kc))
abbrev AE (Kc:Value→Bool):=Option Tmp×AKd Kc
inductive Cfg (Kc:Value→Bool) where
 | items (todo:List Item) (st:St Kc)
 | plain (ops:Array Oper) (rest:List Oper) (k:List Item) (st:St Kc)
 | drawn (ops:Array Oper) (rest:List Oper) (k:List Item) (st:St Kc) (Ty:List TypeId) (es:List (AE Kc))
def evL (sl:Tmp→AV Kc):Operand→AV Kc
 | .tmp t=>sl t
 | .const v=>constA v
 | .func f => .fv (.sc (.lit (.func (.func f) #[] #[])))
 | .global _ => .un
def St.slot (st:St Kc) (t:Tmp):AV Kc:=st.slots.getD t .un
def FV.kill:FV Kc→FV Kc
 | .nsl .. => .un
 | f=>f
def AV.kill:AV Kc→AV Kc
 | .fv f => .fv f.kill
 | .tup l => .tup (l.map FV.kill)
def slotD (st:St Kc):List (AE Kc)→Tmp→AV Kc
 | [],t=>(st.slot t).kill
 | (dst,kd)::es,t=>if dst==some t then (match kd with | .val x=>x|_ => .un) else slotD st es t
def AV.killT (T:TypeId) (x:AV Kc):AV Kc:=match x with
 | .fv (.nsl n T' l)=>if T==T' then .un else .fv (.nsl n T' l)
 | .fv f => .fv f
 | .tup l => .tup (l.map FV.kill)
def setS (sl:List (AV Kc)) (dst:Option Tmp) (x:AV Kc):List (AV Kc):=match dst with|some d=>sl.set d x|none=>sl
def St.put (st:St Kc) (dst:Option Tmp) (x:AV Kc):St Kc := { st with slots:=setS st.slots dst x }
def wantA (sl:Tmp→AV Kc) (ops:Array Oper) (o:Oper):Option Bool :=
 match o.guard with
 | none=>some true
 | some (j,want)=>match (ops[j]?).bind (·.dst) with
   | some d=>match sl d with | .fv (.sc (.lit (.bool b)))=>some (b==want) | .tup []=>some false|_=>none
   | none=>none
def coldL (l:List (Seg Kc)):Bool:=l.all Seg.cold
def plainA (P:Program) (st:St Kc) (o:Oper):OR Kc→Option (St Kc)
 | .val x=>some (st.put o.dst x)
 | .new T l=>match o.dst with
   | some d=>some { st with slots:=st.slots.set d (.fv (.sc (.ptr st.blocks.length 0))),blocks:=st.blocks ++ [(T,l)] }
   | none=>none
 | .nsl n T l=>some (st.put o.dst (.fv (.nsl n T l)))
 | .put k off m=>match st.blocks[k]?,o.dst with
   | some (T,l),none=>match repl l off m with
     | some l'=>if st.ro≤k∧coldL l=true then some { st with slots:=st.slots.map (AV.killT T),blocks:=st.blocks.set k (T,l') } else none
     | none=>none
   | _,_=>none
 | _=>none
def confl (st:St Kc) (ops:Array Oper) (o:Oper) (k:Nat):Bool :=
 match o.op with
 | .store _ (.tmp t) _=>match ops.toList.find? (fun o'=>o'.dst==some t) with
   | some o'=>(match o'.op with | .alloc _=>false|_=>true)
   | none=>match st.slot t with | .fv (.sc (.ptr k' _))=>k'==k|_=>true
 | .store .. => true
 | _=>false
def earlyOp (st:St Kc) (ops:Array Oper) (i k:Nat):Bool :=
 (List.range ops.size).all fun j=>match ops[j]? with
  | some o => !confl st ops o k || j==i || o.after.any fun e=>Region.binds .any e&&e.on==i
  | none=>true
def newOf (es:List (AE Kc)) (d:Tmp):Option (TypeId×List Value):=(es.find? fun e=>e.1==some d).bind fun e=>match e.2 with | .new T vs=>some (T,vs)|_=>none
def viewA (ops:Array Oper) (st:St Kc) (i:Nat):List (Option (TypeId×List (Seg Kc))):=st.blocks.zipIdx.map fun p=>if earlyOp st ops i p.2 then some p.1 else none
def drawnA (P:Program) (ops:Array Oper) (st:St Kc) (Ty:List TypeId) (es:List (AE Kc)) (o:Oper):OR Kc→Option (AE Kc)
 | .val x=>if x.okT Ty then some (o.dst,.val x) else none
 | .new T l=>match litsOf l,o.op with
   | some vs,.alloc _=>if hotT Kc Ty (.cells vs.toArray T (0,0))=false∧o.guard=none∧o.dst.isSome=true then some (o.dst,.new T vs) else none
   | _,_=>none
 | .nsl n T l=>if Ty.contains T then some (o.dst,.val (.fv (.nsl n T l))) else none
 | .put k off m=>match st.blocks[k]?,o.dst,o.guard with
   | some (T,l),none,none=>match repl l off m with
     | some l'=>if st.ro≤k∧coldL l=true∧Ty.contains T=false then some (none,.old k T l') else none
     | none=>none
   | _,_,_=>none
 | _=>none
def putNew (P:Program) (st:St Kc) (es:List (AE Kc)) (o:Oper):Option (AE Kc) :=
 match o.op,o.dst,o.guard with
 | .store T (.tmp d) y,none,none=>match newOf es d,sizeT P T,evL (slotD st es) y with
   | some (T',vs),some n,.fv (.sc s)=>if n==1&&s.size==1&&vs.all (·.oneCell') then (repl (vs.map .lit) 0 [s]).map fun l'=>(none,.put d T' l') else none
   | some (T',vs),some n,.fv (.ag m)=>if sizeL m==n&&vs.all (·.oneCell') then (repl (vs.map .lit) 0 m).map fun l'=>(none,.put d T' l') else none
   | _,_,_=>none
 | _,_,_=>none
def newsOf (es:List (AE Kc)):List (Tmp×TypeId×List Value):=es.reverse.filterMap fun e=>match e with|(some d,.new T vs)=>some (d,T,vs)|_=>none
def putOfA (es:List (AE Kc)) (d:Tmp):Option (TypeId×List (Seg Kc)):=es.findSome? fun e=>match e with|(none,.put d' T l)=>if d'==d then some (T,l) else none|_=>none
def oldOfA (es:List (AE Kc)) (k:Nat):Option (TypeId×List (Seg Kc)):=es.findSome? fun e=>match e with|(none,.old k' T l)=>if k'==k then some (T,l) else none|_=>none
def slotE (st:St Kc) (es:List (AE Kc)) (t:Tmp):AV Kc :=
 match es.find? fun e=>e.1==some t with
 | some (_,.val x)=>x.kill
 | some (_,.new _ _)=>match (newsOf es).findIdx? fun n=>n.1==t with|some j => .fv (.sc (.ptr (st.blocks.length+j) 0))|none => .un
 | some _ => .un
 | none=>(st.slot t).kill
def finishD (st:St Kc) (es:List (AE Kc)):St Kc :=
 { slots:=(List.range st.slots.length).map (slotE st es)
   blocks:=(st.blocks.zipIdx.map fun p=>(oldOfA es p.2).getD p.1)++(newsOf es).map fun n=>(putOfA es n.1).getD (n.2.1,n.2.2.map .lit)
   ro:=st.ro }
def earlyA (st:St Kc) (ops:Array Oper) (es:List (AE Kc)):Bool :=
 let G:=es.reverse
 (List.range ops.size).all fun j=>match G[j]? with
  | some (none,.old k _ _)=>(List.range ops.size).all fun i => !earlyOp st ops i k || i==j || (ops[j]?).any fun o=>o.after.any fun e=>Region.binds .any e&&e.on==i
  | _=>true
def roA (st:St Kc) (es:List (AE Kc)):Bool:=es.all fun e=>match e.2 with | .old k _ _=>decide (st.ro≤k)|_=>true
def onceA (es:List (AE Kc)):Bool :=
 decide ((es.filterMap fun e=>match e with|(none,.put d _ _)=>some d|_=>none).Nodup)&&decide ((es.filterMap fun e=>match e with|(none,.old k _ _)=>some k|_=>none).Nodup)
 && decide (((newsOf es).map (·.1)).Nodup)&&(newsOf es).all fun n=>n.2.2.all (·.oneCell')
def tysOf (P:Program) (ops:List Oper):List TypeId:=ops.filterMap fun o=>match o.op with | .buildSlice T _ _=>(match P.underlying T with|some (.slice e)=>some e|_=>none)|_=>none
def St.kill (st:St Kc):St Kc := { st with slots:=st.slots.map AV.kill }
def notSlot (y:Operand) (d:Tmp):Bool:=match y with | .tmp t=>t != d|_=>true
def fuseA (P:Program) (st:St Kc) (o:Oper) (rest:List Oper):Option (St Kc×List Oper) :=
 match o.op,o.dst,o.guard,rest with
 | .alloc T,some d,none,o2::rest'=>match o2.op,o2.dst,o2.guard with
   | .store T' (.tmp d') y,none,none=>if d'==d&&notSlot y d&&decide (d<st.slots.length) then
      match zerosA (Kc:=Kc) P T,sizeT P T',evL st.slot y with
      | some z,some n,.fv (.sc s)=>if n==1&&s.size==1&&sizeL z==1 then some ({ st with slots:=st.slots.set d (.fv (.sc (.ptr st.blocks.length 0))),blocks:=st.blocks ++ [(T,[s])] },rest') else none
      | some z,some n,.fv (.ag m)=>if sizeL m==n&&sizeL z==n then some ({ st with slots:=st.slots.set d (.fv (.sc (.ptr st.blocks.length 0))),blocks:=st.blocks ++ [(T,m)] },rest') else none
      | _,_,_=>none
     else none
   | _,_,_=>none
 | _,_,_,_=>none
def stepA (P:Program):Cfg Kc→Option (Cfg Kc)
 | .items todo st=>match todo with
   | .code .skip::k=>some (.items k st)
   | .code (.label _)::k=>some (.items k st)
   | .inBlock _::k=>some (.items k st)
   | .inScope _::k=>some (.items k st)
   | .code (.seq x y)::k=>some (.items (.code x :: .code y::k) st)
   | .code (.cond c x y)::k=>match evL st.slot c with
     | .fv (.sc (.lit (.bool t)))=>some (.items (.code (if t then x else y)::k) st)
     | _=>none
   | .code (.block id c)::k=>some (.items (.code c :: .inBlock id::k) st)
   | .code (.scope c)::k=>some (.items (.code c :: .inScope c::k) st)
   | .code (.loop c)::k=>some (.items (.code c :: .inLoop c::k) st)
   | .inLoop c::k=>some (.items (.code c :: .inLoop c::k) st)
   | .code (.exit id)::k=>(exitTo id k).map fun k' => .items k' st
   | .code (.region _ ops false)::k=>some (.plain ops ops.toList k st)
   | .code (.region _ ops true)::k=>if Region.tyB .any ops st.slots.length then some (.drawn ops ops.toList k st (tysOf P ops.toList) []) else none
   | _=>none
 | .plain ops rest k st=>match rest with
   | []=>some (.items k st.kill)
   | o::rest=>match fuseA P st o rest with
    | some (st',rest')=>some (.plain ops rest' k st')
    | none=>match wantA st.slot ops o with
     | some true=>(plainA P st o (opA P (evL st.slot) (st.blocks.map some) o)).map fun st' => .plain ops rest k st'
     | some false=>some (.plain ops rest k (st.put o.dst (.tup [])))
     | none=>none
 | .drawn ops rest k st Ty es=>match rest with
   | []=>if onceA es&&earlyA st ops es&&roA st es then some (.items k (finishD st es)) else none
   | o :: rest=>match putNew P st es o with
     | some e=>some (.drawn ops rest k st Ty (e::es))
     | none=>match wantA (slotD st es) ops o with
       | some true=>(drawnA P ops st Ty es o (opA P (evL (slotD st es)) (viewA ops st es.length) o)).map fun e => .drawn ops rest k st Ty (e::es)
       | some false=>some (.drawn ops rest k st Ty ((o.dst,.val (.tup []))::es))
       | none=>none
def runA (P:Program):Nat→Cfg Kc→Cfg Kc
 | 0,c=>c
 | n+1,c=>match stepA P c with|some c'=>runA P n c'|none=>c
def Cfg.op:Cfg Kc→Option Oper
 | .plain ops (o::_) _ st=>if wantA st.slot ops o=some true then some o else none
 | .drawn ops (o::_) _ st _ es=>if wantA (slotD st es) ops o=some true then some o else none
 | _=>none
def Cfg.ev:Cfg Kc→Operand→AV Kc
 | .items _ st=>evL st.slot
 | .plain _ _ _ st=>evL st.slot
 | .drawn _ _ _ st _ es=>evL (slotD st es)
def Cfg.mem:Cfg Kc→List (Option (TypeId×List (Seg Kc)))
 | .items _ st=>st.blocks.map some
 | .plain _ _ _ st=>st.blocks.map some
 | .drawn ops _ _ st _ es=>viewA ops st es.length
def Cfg.okT (c:Cfg Kc) (x:AV Kc):Bool:=match c with
 | .drawn _ _ _ _ Ty _=>x.okT Ty
 | _=>true
def Cfg.give (c:Cfg Kc) (x:AV Kc):Cfg Kc:=match c with
 | .plain ops (o::rest) k st => .plain ops rest k (st.put o.dst x)
 | .drawn ops (o::rest) k st Ty es => .drawn ops rest k st Ty ((o.dst,.val x)::es)
 | c=>c
def Cfg.callee (P:Program) (c:Cfg Kc):Option FuncId:=match c.op with
 | some o=>match opA P c.ev c.mem o with | .call f _=>some f|_=>none
 | none=>none
def Cfg.args (P:Program) (c:Cfg Kc):List (AV Kc):=match c.op with
 | some o=>match opA P c.ev c.mem o with | .call _ l=>l|_ => []
 | none => []
def resA (P:Program) (st:St Kc):List ResultVar→Option (List (FV Kc))
 | []=>some []
 | .tmp t::l=>match st.slot t with | .fv f=>(resA P st l).map (f :: ·)|_=>none
 | .cell t T::l=>match st.slot t with
   | .fv (.sc (.ptr k off))=>match st.blocks[k]? with
     | some (_,m)=>match partA P T m off with | .val (.fv f)=>(resA P st l).map (f :: ·)|_=>none
     | none=>none
   | _=>none
def Cfg.res (P:Program) (fn:Func):Cfg Kc→Option (AV Kc)
 | .items todo st=>match todo with
   | [] | .code .ret::_=>match resA P st fn.results.toList with
     | some [f]=>some (.fv f)
     | some l=>some (.tup l)
     | none=>none
   | _=>none
 | _=>none
end Go.Proofs.YtbhcckhbbclemaaGreatDoor.Ab
