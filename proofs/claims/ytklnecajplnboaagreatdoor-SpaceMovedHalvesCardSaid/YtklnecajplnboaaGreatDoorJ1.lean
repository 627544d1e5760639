/- Parts of the proof, joined. -/
import Derived.Test.YtklnecajplnboaaGreatDoorJ0
import Derived.Scope
set_option linter.unusedSimpArgs false
set_option linter.unusedVariables false
set_option linter.constructorNameAsVariable false
namespace Go.Proofs.YtklnecajplnboaaGreatDoor
namespace Ab
open Go.RowKit
variable {Kc:Value→Bool} {P:Program} {ev:Operand→AV Kc} {bl:List (Option (TypeId×List (Seg Kc)))} {β:List Nat} {w:World} {ρ:Operand→Value} {o:Oper} {x:AV Kc}
theorem bJ {s:Sem Value} {v:Value} {w w' : World} (h:s.run P w = .ok v w'):(do pure (Next.value (← s)):Sem Next).run P w = .ok (.value v) w':=by
 rw [Sem.run_bind,h];rfl
theorem wS (g off n:Nat):(⟨g,off,none⟩:Addr).add n=⟨g,off+n,none⟩:=Addr.add_mid g off n
theorem fZ {k off:Nat} {v:Value} (h:(AV.fv (.sc (.ptr k off)):AV Kc).holds β v w):∃ g,β[k]?=some g∧v = .pointer (some ⟨g,off,none⟩):=by
 obtain ⟨g,h1,h2⟩:=h
 injection h2 with h2
 exact ⟨g,h1,h2⟩
theorem xQ {k off n c:Nat} {v:Value} (h:(AV.fv (.sc (.slc k off n c)):AV Kc).holds β v w):∃ g,β[k]?=some g∧v = .slice (some ⟨g,off,none⟩) n c:=by
 obtain ⟨g,h1,h2⟩:=h
 injection h2 with h2
 exact ⟨g,h1,h2⟩
theorem aM {u v:Value} (h:(AV.fv (.sc (.lit u)):AV Kc).holds β v w):v=u:=by
 have:=h.1
 injection this
theorem kB {k off g:Nat} (h:β[k]?=some g):(AV.fv (.sc (.ptr k off)):AV Kc).holds β (.pointer (some ⟨g,off,none⟩)) w:=⟨g,h,rfl⟩
theorem mV:∀ {l:List Operand} {m:List (Bool×List (Seg Kc))},toCA (l.map ev)=some m→(∀ y∈l,(ev y).holds β (ρ y) w)→holdsC β m (l.map ρ) w
 | [],m,h,_=>by injection h with h;subst h;rfl
 | y :: l,m,h,hs=>by
   have hy:=hs y (by simp)
   have hl:∀ z∈l,(ev z).holds β (ρ z) w:=fun z hz=>hs z (by simp [hz])
   rw [List.map_cons] at h
   generalize ev y=x at h hy
   cases x with
   | tup l=>cases h
   | fv f =>
     cases f with
     | sc s =>
       simp only [toCA,Option.map_eq_some_iff] at h
       obtain ⟨r,hr,rfl⟩:=h
       exact ⟨ρ y,l.map ρ,rfl,holdsL.single hy,mV hr hl⟩
     | ag m =>
       simp only [toCA,Option.map_eq_some_iff] at h
       obtain ⟨r,hr,rfl⟩:=h
       exact ⟨ρ y,l.map ρ,rfl,hy,mV hr hl⟩
     | clo F a b=>cases h
     | nsl n T l=>cases h
     | un=>cases h
theorem vP:∀ {l:List Operand} {vs:List Value},litsA (l.map ev)=some vs→(∀ y∈l,(ev y).holds β (ρ y) w)→l.map ρ=vs
 | [],vs,h,_=>by simpa [litsA] using h
 | y :: l,vs,h,hs=>by
   simp only [List.map_cons,litsA] at h
   split at h
   ·rename_i v r hv hr
    injection h with h
    subst h
    rw [List.map_cons,fR hv (hs y (by simp)),vP hr (fun z hz=>hs z (by simp [hz]))]
   ·cases h
theorem opA_val (h:opA P ev bl o = .val x) (hs:∀ y∈o.op.operands,(ev y).holds β (ρ y) w) (hm:Mem β bl w):∃ v,(execOp ρ o).run P w = .ok (.value v) w∧x.holds β v w:=by
 obtain ⟨dst,op,type,pos,after,guard⟩:=o
 cases op <;> simp only [opA] at h
 case move y=>injection h with h;subst h;exact ⟨_,rfl,hs y (by simp [Op.operands])⟩
 case assign y=>injection h with h;subst h;exact ⟨_,rfl,hs y (by simp [Op.operands])⟩
 case pick c a b =>
  split at h
  ·rename_i t hc
   injection h with h
   have h1:=hs c (by simp [Op.operands])
   rw [hc] at h1
   have h2:=aM h1
   refine ⟨if t then ρ a else ρ b,?_,?_⟩
   ·simp [execOp,h2,asBool]
   ·subst h
    cases t
    ·exact hs b (by simp [Op.operands])
    ·exact hs a (by simp [Op.operands])
  ·cases h
 case alloc T=>split at h <;> cases h
 case box T y=>split at h <;> cases h
 case load T y =>
  split at h
  ·rename_i k off hy
   split at h
   ·rename_i T' l hb
    have h1:=hs y (by simp [Op.operands])
    rw [hy] at h1
    obtain ⟨g,hg,hv⟩:=fZ h1
    obtain ⟨g',cs,hg',hh,hl⟩:=hm k T' l hb
    rw [hg] at hg'
    injection hg' with hg'
    subst hg'
    obtain ⟨v,hr,hx⟩:=qF h hh hl
    refine ⟨v,?_,hx⟩
    simp only [execOp,Instr.loadAt,hv,Instr.sureAddr]
    exact bJ (by simpa [Sem.run_bind] using hr)
   ·cases h
  ·cases h
 case store T a b=>repeat' (first|(cases h;done)|split at h)
 case fieldAddr T y i =>
  split at h
  ·rename_i k off fs hy hu
   split at h
   ·rename_i f hf
    split at h
    ·rename_i n hn
     injection h with h
     subst h
     have h1:=hs y (by simp [Op.operands])
     rw [hy] at h1
     obtain ⟨g,hg,hv⟩:=fZ h1
     refine ⟨_,?_,kB hg⟩
     simp only [execOp]
     refine bJ ?_
     simp only [Instr.fieldAt,Sem.run_bind,run_underlying hu,Result.andThen,hf,hv,Instr.sureAddr,Sem.run_pure,fieldPlace,fS hn,wS]
     rfl
    ·cases h
   ·cases h
  ·cases h
 case field T y i =>
  split at h
  ·rename_i l fs hy hu
   split at h
   ·rename_i f hf
    have h1:=hs y (by simp [Op.operands])
    rw [hy] at h1
    obtain ⟨cs,hv,hl⟩:=h1
    obtain ⟨v,hr,hx⟩:=run_part h hl
    refine ⟨v,?_,hx⟩
    simp only [execOp]
    refine bJ ?_
    simp only [Instr.field,Sem.run_bind,run_underlying hu,Result.andThen,hf,hv,asAgg,Sem.run_pure,hr]
   ·cases h
  ·cases h
 case indexAddr T y ix =>
  split at h
  ·rename_i k off kd i len e hy hi hu
   split at h
   ·rename_i hb
    split at h
    ·rename_i n hn
     injection h with h
     subst h
     have h1:=hs y (by simp [Op.operands])
     rw [hy] at h1
     obtain ⟨g,hg,hv⟩:=fZ h1
     have h2:=hs ix (by simp [Op.operands])
     rw [hi] at h2
     have hv2:=aM h2
     refine ⟨_,?_,kB hg⟩
     simp only [execOp]
     refine bJ ?_
     simp [Instr.indexAt,Sem.run_bind,run_underlying hu,Result.andThen,hv,hv2,asIntOf,Instr.sureAddr,fS hn,wS,hb.1,hb.2]
    ·cases h
   ·cases h
  ·rename_i k off n c kd i e hy hi hu
   split at h
   ·rename_i hb
    split at h
    ·rename_i m hm2
     injection h with h
     subst h
     have h1:=hs y (by simp [Op.operands])
     rw [hy] at h1
     obtain ⟨g,hg,hv⟩:=xQ h1
     have h2:=hs ix (by simp [Op.operands])
     rw [hi] at h2
     have hv2:=aM h2
     refine ⟨_,?_,kB hg⟩
     simp only [execOp]
     refine bJ ?_
     simp [Instr.indexAt,Sem.run_bind,run_underlying hu,Result.andThen,hv,hv2,asIntOf,fS hm2,wS,hb.1,hb.2]
    ·cases h
   ·cases h
  ·cases h
 case index T y ix =>
  split at h
  ·rename_i l kd i len e hy hi hu
   split at h
   ·rename_i hb
    split at h
    ·rename_i n hn
     have h1:=hs y (by simp [Op.operands])
     rw [hy] at h1
     obtain ⟨cs,hv,hl⟩:=h1
     have h2:=hs ix (by simp [Op.operands])
     rw [hi] at h2
     have hv2:=aM h2
     obtain ⟨v,hr,hx⟩:=run_part h hl
     refine ⟨v,?_,hx⟩
     simp only [execOp]
     refine bJ ?_
     simp [Instr.index,Sem.run_bind,run_underlying hu,Result.andThen,hv,hv2,asIntOf,fS hn,hb.1,hb.2,hr]
    ·cases h
   ·cases h
  ·cases h
 case nilCheck y =>
  split at h
  ·rename_i k off hy
   injection h with h
   subst h
   have h1:=hs y (by simp [Op.operands])
   rw [hy] at h1
   obtain ⟨g,hg,hv⟩:=fZ h1
   refine ⟨_,?_,kB hg⟩
   simp only [execOp,hv]
   rfl
  ·cases h
 case extract y i =>
  split at h
  ·rename_i l hy
   split at h
   ·rename_i f hf
    injection h with h
    subst h
    have h1:=hs y (by simp [Op.operands])
    rw [hy] at h1
    obtain ⟨vs,hv,hl⟩:=h1
    obtain ⟨v,hv2,hx⟩:=holdsF.get hl hf
    refine ⟨v,?_,hx⟩
    simp only [execOp]
    refine bJ ?_
    simp [Instr.extract,hv,hv2]
   ·cases h
  ·cases h
 case build T parts =>
  have hp:∀ p∈parts.toList,(ev p.2).holds β (ρ p.2) w:=fun p hm=>hs p.2 (by
   simp only [Op.operands]
   exact List.mem_toArray.2 (List.mem_map.2 ⟨p,hm,rfl⟩))
  split at h
  ·rename_i z fs hz hu
   split at h
   ·rename_i pl hpl
    split at h
    ·rename_i l hl
     injection h with h
     subst h
     obtain ⟨zv,hzi,_,rfl,hone⟩:=qV hz
     obtain ⟨ds,hd,hd2⟩:=lM (cs:=zv.cells) hl (holdsL.lits hone) hp
     refine ⟨.agg ds,?_,⟨ds.toList,by simp,hd2⟩⟩
     simp only [execOp]
     refine bJ (run_build w T _ ds ?_)
     rw [Option.bind_eq_some_iff] at hzi
     obtain ⟨i,hi,hz2⟩:=hzi
     have hpl' : fs.toList.mapM (fun f=>(P.info? f.type).map fun i=>(f.offset,i.size))=some pl:=hpl
     simp only [Program.built,hi,hu,hz2,hpl']
     simpa using hd
    ·cases h
   ·cases h
  ·rename_i z n e hz hu
   split at h
   ·rename_i m hn
    split at h
    ·rename_i l hl
     injection h with h
     subst h
     obtain ⟨zv,hzi,_,rfl,hone⟩:=qV hz
     obtain ⟨ds,hd,hd2⟩:=lM (cs:=zv.cells) hl (holdsL.lits hone) hp
     refine ⟨.agg ds,?_,⟨ds.toList,by simp,hd2⟩⟩
     simp only [execOp]
     refine bJ (run_build w T _ ds ?_)
     rw [Option.bind_eq_some_iff] at hzi
     obtain ⟨i,hi,hz2⟩:=hzi
     obtain ⟨ie,hie,hie2⟩:=qU hn
     simp only [Program.built,hi,hu,hz2,hie,hie2]
     simpa using hd
    ·cases h
   ·cases h
  ·cases h
 case buildSlice T len parts=>repeat' (first|(cases h;done)|split at h)
 case slice T y lo hi mx =>
  cases lo <;> cases hi <;> cases mx <;> simp only at h <;> try (cases h;done)
  split at h
  ·rename_i k off n e hy hu
   split at h
   ·rename_i m hn
    injection h with h
    subst h
    have h1:=hs y (by simp [Op.operands])
    rw [hy] at h1
    obtain ⟨g,hg,hv⟩:=fZ h1
    refine ⟨.slice (some ⟨g,off,none⟩) n n,?_,⟨g,hg,rfl⟩⟩
    simp only [execOp,Option.map_none]
    refine bJ ?_
    have h0:∀ c:Prop,[Decidable c]→(if c then (⟨g,off,none⟩:Addr) else (⟨g,off,none⟩:Addr).add (0*m))=⟨g,off,none⟩:=fun c _=>by split <;> simp [wS]
    simp [Instr.sliceAt,Sem.run_bind,run_underlying hu,Result.andThen,hv,Instr.sureAddr,Instr.sliceBounds,fS hn]
    have:=h0 (n=0)
    simpa using this
   ·cases h
  ·cases h
 case binOp op T a b yt =>
  split at h
  ·rename_i u v hu hv
   have h1:=fR hu (hs a (by simp [Op.operands]))
   have h2:=fR hv (hs b (by simp [Op.operands]))
   obtain ⟨r,hr,hx⟩:=oA h β w
   refine ⟨r,?_,hx⟩
   simp only [execOp,h1,h2]
   exact bJ hr
  ·cases h
 case makeFunc fn first cap =>
  cases fn with
  | func F =>
    simp only at h
    split at h
    ·rename_i a b ha hb
     injection h with h
     subst h
     refine ⟨.func (.func F) (first.map ρ) (cap.map ρ),rfl,first.toList.map ρ,cap.toList.map ρ,?_,?_,?_⟩
     ·congr 1 <;> (apply Array.toList_inj.1;simp)
     ·exact mV ha (fun y hy=>hs y (by simp only [Op.operands,Array.mem_append];exact .inl (by simpa using hy)))
     ·exact mV hb (fun y hy=>hs y (by simp only [Op.operands,Array.mem_append];exact .inr (by simpa using hy)))
    ·cases h
  | _=>cases h
 case unOp op T a =>
  split at h
  ·rename_i u hu
   have h1:=fR hu (hs a (by simp [Op.operands]))
   obtain ⟨r,hr,hx⟩:=oA h β w
   refine ⟨r,?_,hx⟩
   simp only [execOp,h1]
   exact bJ hr
  ·cases h
 case convert s d a =>
  split at h
  ·rename_i u hu
   have h1:=fR hu (hs a (by simp [Op.operands]))
   obtain ⟨r,hr,hx⟩:=oA h β w
   refine ⟨r,?_,hx⟩
   simp only [execOp,h1]
   exact bJ hr
  ·cases h
 case call c =>
  split at h
  ·split at h <;> cases h
  ·rename_i hc
   split at h
   ·rename_i T y ht ha
    split at h
    ·rename_i e k off n c' hu hy
     injection h with h
     subst h
     have hmem:y∈c.operands:=by
      simp only [Call.operands,hc,Array.mem_append]
      exact .inr (by rw [← Array.mem_toList_iff,ha];simp)
     have h1:=hs y (by simpa [Op.operands] using hmem)
     rw [hy] at h1
     obtain ⟨g,hg,hv⟩:=xQ h1
     refine ⟨.int .i64 n,?_,⟨rfl,rfl⟩⟩
     have harg:c.args.map ρ = #[.slice (some ⟨g,off,none⟩) n c']:=by
      apply Array.toList_inj.1
      rw [Array.toList_map,ha,List.map_singleton,hv]
     simp only [execOp,resolve,hc,Sem.run_bind,Sem.run_pure,Result.andThen,invoke,builtin,harg,Builtin.len_,ht]
     simp [Sem.run_bind,run_underlying hu,Result.andThen,goInt]
    ·cases h
   ·cases h
  ·rename_i b _ hc
   split at h
   ·rename_i vs hvs
    split at h
    ·rename_i v hv
     injection h with h
     subst h
     have he:=vP hvs (fun y hm=>hs y (by
      simp only [Op.operands,Call.operands,hc,Array.mem_append]
      exact .inr (by simpa using hm)))
     have harg:c.args.map ρ=vs.toArray:=by
      apply Array.toList_inj.1
      rw [Array.toList_map,he]
     refine ⟨v,?_,fY v⟩
     simp only [execOp,resolve,hc,Sem.run_bind,Sem.run_pure,Result.andThen,invoke,harg]
     exact bL hv w
    ·cases h
   ·cases h
  ·cases h
 all_goals (cases h)
theorem opA_new {T:TypeId} {l:List (Seg Kc)} (h:opA P ev bl o = .new T l) (hs:∀ y∈o.op.operands,(ev y).holds β (ρ y) w) :
 ∃ cs:List Value,(execOp ρ o).run P w = .ok (.value (.pointer (some ⟨w.heap.size,0,none⟩))) (w.alloc (.cells cs.toArray T))∧holdsL β l cs w:=by
 obtain ⟨dst,op,type,pos,after,guard⟩:=o
 cases op <;> simp only [opA] at h
 case alloc T' =>
  split at h
  ·rename_i l' hz
   injection h with h1 h2
   subst h1
   subst h2
   obtain ⟨z,_,hz2,rfl,hone⟩:=qV hz
   refine ⟨z.cells.toList,?_,holdsL.lits hone⟩
   simp only [execOp]
   refine bJ ?_
   simp [Instr.alloc,Sem.run_bind,hz2,Result.andThen,newVar,newRow]
  ·cases h
 case box T' y =>
  split at h
  ·rename_i s hy
   injection h with h1 h2
   subst h1
   subst h2
   have hv:=hs y (by simp [Op.operands])
   rw [hy] at hv
   refine ⟨[ρ y],?_,holdsL.single hv⟩
   simp only [execOp]
   refine bJ ?_
   simp [Instr.box,Sem.run_bind,Result.andThen,newVar,newRow,oB hv]
  ·rename_i l' hy
   injection h with h1 h2
   subst h1
   subst h2
   have hv:=hs y (by simp [Op.operands])
   rw [hy] at hv
   obtain ⟨cs,hv,hl⟩:=hv
   refine ⟨cs,?_,hl⟩
   simp only [execOp]
   refine bJ ?_
   simp [Instr.box,Sem.run_bind,Result.andThen,newVar,newRow,hv,Value.cells]
  ·cases h
 case slice T' y lo hi mx=>cases lo <;> cases hi <;> cases mx <;> simp only at h <;> (repeat' (first|(cases h;done)|split at h))
 case makeFunc fn first cap=>cases fn <;> simp only at h <;> (repeat' (first|(cases h;done)|split at h))
 all_goals (repeat' (first|(cases h;done)|(unfold nQ at h)|(unfold iZ at h)|split at h))
theorem opA_nsl {T:TypeId} {n:Nat} {l:List (Seg Kc)} (h:opA P ev bl o = .nsl n T l) (hs:∀ y∈o.op.operands,(ev y).holds β (ρ y) w) :
 ∃ cs:List Value,(execOp ρ o).run P w = .ok (.value (.slice (some ⟨w.heap.size,0,none⟩) n n)) (w.alloc (.cells cs.toArray T))∧holdsL β l cs w:=by
 obtain ⟨dst,op,type,pos,after,guard⟩:=o
 cases op <;> simp only [opA] at h
 case buildSlice T' len parts =>
  have hp:∀ p∈parts.toList,(ev p.2).holds β (ρ p.2) w:=fun p hm=>hs p.2 (by
   simp only [Op.operands]
   exact List.mem_toArray.2 (List.mem_map.2 ⟨p,hm,rfl⟩))
  split at h
  ·rename_i e hu
   split at h
   ·rename_i m zv hm hzi
    split at h
    ·rename_i hc
     split at h
     ·rename_i l' hl
      injection h with h1 h2 h3
      subst h1
      subst h2
      subst h3
      obtain ⟨hc1,hc2,hc3,hone⟩:=hc
      have harr:((Array.range (len*m)).map (fun i=>zv.cells[i%zv.cells.size]!)).toList=zerosN zv (len*m):=by
       rw [Array.toList_map,Array.toList_range];rfl
      obtain ⟨ds,hd,hd2⟩:=lM (cs:=(Array.range (len*m)).map (fun i=>zv.cells[i%zv.cells.size]!)) hl (by rw [harr];exact holdsL.lits hone) hp
      refine ⟨ds.toList,?_,hd2⟩
      simp only [execOp]
      refine bJ ?_
      have h0:len*m≠0:=Nat.mul_ne_zero (by omega) (by omega)
      have h1:¬ (len*m > 2^24):=by omega
      have hzr:(zeroValue e).run P w = .ok zv w:=by
       rw [Option.bind_eq_some_iff] at hzi
       obtain ⟨i,hi,hz⟩:=hzi
       simp [zeroValue,typeInfo,hi,hz]
      have hd' : Instr.fill (fun i=>some (i*m,m)) ((Array.range (len*m)).map (fun i=>zv.cells[i%zv.cells.size]!)) (parts.map fun (i,x)=>(i,ρ x)).toList=some ds:=by simpa using hd
      unfold Instr.buildSlice
      simp only [Sem.run_bind,run_underlying hu,Result.andThen,fS hm,if_neg h1,if_neg h0,hzr,Sem.run_pure,hd']
      simp [Sem.run_bind,newRow,Result.andThen]
     ·cases h
    ·cases h
   ·cases h
  ·cases h
 case slice T' y lo hi mx=>cases lo <;> cases hi <;> cases mx <;> simp only at h <;> (repeat' (first|(cases h;done)|split at h))
 case makeFunc fn first cap=>cases fn <;> simp only at h <;> (repeat' (first|(cases h;done)|split at h))
 all_goals (repeat' (first|(cases h;done)|(unfold nQ at h)|(unfold iZ at h)|split at h))
theorem opA_call {f:FuncId} {args:List (AV Kc)} (h:opA P ev bl o = .call f args) (hs:∀ y∈o.op.operands,(ev y).holds β (ρ y) w) :
 ∃ vs:List Value,(execOp ρ o).run P w=(callFunc f vs.toArray).run P w∧holdsA β args vs w:=by
 obtain ⟨dst,op,type,pos,after,guard⟩:=o
 cases op <;> simp only [opA] at h
 case call c =>
  split at h
  ·rename_i y hc
   have hA:∀ (l:List Value),holdsA β (l.map (nZ (Kc:=Kc))) l w:=fun l=>by
    induction l with
    | nil=>rfl
    | cons v l ih=>exact ⟨v,l,rfl,fY v,ih⟩
   have hB:∀ (l:List Operand),(∀ y∈l,(ev y).holds β (ρ y) w)→holdsA β (l.map ev) (l.map ρ) w:=fun l=>by
    induction l with
    | nil=>intro _;rfl
    | cons v l ih=>intro hm;exact ⟨ρ v,l.map ρ,rfl,hm v (by simp),ih (fun y hy=>hm y (by simp [hy]))⟩
   have hC:∀ {l l' : List (AV Kc)} {vs vs' : List Value},holdsA β l vs w→holdsA β l' vs' w→holdsA β (l++l') (vs++vs') w:=fun {l}=>by
    induction l with
    | nil=>intro l' vs vs' h h';rw [show vs = [] from h];exact h'
    | cons x l ih=>rintro l' vs vs' ⟨v,r,rfl,h1,h2⟩ h';exact ⟨v,r++vs',rfl,h1,ih h2 h'⟩
   have hD:∀ (l:List (Bool×List (Seg Kc))) (vs:List Value),holdsC β l vs w→holdsA β (l.map caA) vs w:=fun l=>by
    induction l with
    | nil=>intro vs h;exact h
    | cons c l ih =>
      rintro vs ⟨v,r,rfl,h1,h2⟩
      refine ⟨v,r,rfl,?_,ih r h2⟩
      obtain ⟨b,m⟩:=c
      cases b with
      | true=>exact h1
      | false =>
        match m,h1 with
        | [],_=>trivial
        | [s],h1=>exact mU h1
        | _::_::_,_=>trivial
   have hE:holdsA β (c.args.toList.map ev) (c.args.toList.map ρ) w:=hB _ (fun y hm=>hs y (by
    simp only [Op.operands,Call.operands,hc,Array.mem_append]
    exact .inr (by simpa using hm)))
   split at h
   ·rename_i g a b hy
    injection h with h1 h2
    subst h1
    subst h2
    have hv:=fR hy (hs y (by simp [Op.operands,Call.operands,hc]))
    refine ⟨a.toList++(c.args.toList.map ρ)++b.toList,?_,?_⟩
    ·simp only [execOp,resolve,hc,Sem.run_bind,Sem.run_pure,Result.andThen,hv,Deferred.ofValue,invoke]
     congr 2
     apply Array.toList_inj.1
     simp
    ·exact hC (hC (hA _) hE) (hA _)
   ·rename_i g a b _ hy
    injection h with h1 h2
    subst h1
    subst h2
    have hv:=hs y (by simp [Op.operands,Call.operands,hc])
    rw [hy] at hv
    obtain ⟨xs,ys,hv,hx,hyy⟩:=hv
    refine ⟨xs++(c.args.toList.map ρ)++ys,?_,hC (hC (hD _ _ hx) hE) (hD _ _ hyy)⟩
    simp only [execOp,resolve,hc,Sem.run_bind,Sem.run_pure,Result.andThen,hv,Deferred.ofValue,invoke]
    congr 2
    apply Array.toList_inj.1
    simp
   ·cases h
  ·split at h <;> (try split at h) <;> cases h
  ·split at h <;> (try split at h) <;> cases h
  ·cases h
 case slice T' y lo hi mx=>cases lo <;> cases hi <;> cases mx <;> simp only at h <;> (repeat' (first|(cases h;done)|split at h))
 case makeFunc fn first cap=>cases fn <;> simp only at h <;> (repeat' (first|(cases h;done)|split at h))
 all_goals (repeat' (first|(cases h;done)|(unfold nQ at h)|(unfold iZ at h)|split at h))
theorem Turned.self {g:Nat} {ob:Obj} (h:w.heap[g]?=some ob):Turned g ob w w:=⟨rfl,rfl,rfl,rfl,h,fun _ _=>rfl⟩
theorem Turned.next {g:Nat} {ob ob' : Obj} {w1 w2 w3:World} (h:Turned g ob w1 w2) (h' : Turned g ob' w2 w3):Turned g ob' w1 w3 :=
 ⟨h'.os.trans h.os,h'.tape.trans h.tape,h'.output.trans h.output,h'.size.trans h.size,h'.at_,fun k hk=>(h'.block k hk).trans (h.block k hk)⟩
theorem nR {g:Nat} {T:TypeId}:∀ (es:List Value) (off:Nat) (w:World) (cs:List Value),w.heap[g]?=some (.cells cs.toArray T (0,0))→off+es.length≤cs.length →
 Turned g (.cells (cs.take off++es++cs.drop (off+es.length)).toArray T (0,0)) w (w.setCells g off es)
 | [],off,w,cs,h,_=>by
   simpa [World.setCells] using Turned.self h
 | e :: es,off,w,cs,h,hl=>by
   simp only [List.length_cons] at hl
   have h1:Turned g (.cells (cs.set off e).toArray T (0,0)) w (w.setCell ⟨g,off,none⟩ e):=by
    refine ⟨rfl,rfl,rfl,by simp [World.setCell],?_,fun k hk=>Below.heap_setCell w ⟨g,off,none⟩ e k hk⟩
    simp only [World.setCell,Array.getElem?_modify,h]
    simp
   have h2:=nR es (off+1) _ (cs.set off e) h1.at_ (by simp;omega)
   have e1:(cs.set off e).take (off+1)++es++(cs.set off e).drop (off+1+es.length)=cs.take off++(e::es)++cs.drop (off+(e::es).length):=by
    rw [List.drop_set,if_pos (by omega)]
    have hlt:off<cs.length:=by omega
    rw [List.take_set,List.take_succ_eq_append_getElem hlt,List.set_append_right _ _ (by simp;omega)]
    simp [Nat.min_eq_left (show off≤cs.length by omega),show off+1+es.length=off+(es.length+1) by omega]
   rw [e1] at h2
   exact h1.next h2
theorem lN {T T' : TypeId} {a b:Operand} {g off n:Nat} {cs es:List Value} (ho:o.op = .store T' a b) (ha:ρ a = .pointer (some ⟨g,off,none⟩)) (hb:(ρ b).cells.toList=es) (hn:fX P T'=some n) (hlen:es.length=n)
 (h1:∀ c∈es,c.oneCell'=true) (hg:w.heap[g]?=some (.cells cs.toArray T (0,0))) (h2:off+es.length≤cs.length) :
 (execOp ρ o).run P w = .ok .skip (w.setCells g off es)∧Turned g (.cells (cs.take off++es++cs.drop (off+es.length)).toArray T (0,0)) w (w.setCells g off es):=by
 have hcell:∀ j,j<es.length→(w.cell? ⟨g,off+0+j,none⟩).isSome=true:=fun j hj=>by
  rw [xO hg,List.getElem?_eq_getElem (by omega)];rfl
 have hfr:∀ j,j<es.length→w.frozen? ⟨g,off+0+j,none⟩=false:=fun j _=>by simp [World.frozen?,hg]
 have hst:=run_storeCells_cells (P:=P) g off es 0 w hcell hfr h1
 refine ⟨?_,nR es off w cs hg h2⟩
 simp only [execOp,ho,ha,Instr.storeAt,Instr.sureAddr,Sem.run_bind,Sem.run_pure,Result.andThen,storeVar,fS hn]
 have hsz:(ρ b).cells.size=n:=by rw [← hlen,← hb];simp
 simp only [hsz,ne_eq,not_true_eq_false,if_false,hb,Sem.run_bind,Sem.run_pure,Result.andThen]
 have hst' : (storeCells ⟨g,off,none⟩ es).run P w = .ok () (w.setCells g off es):=by simpa using hst
 rw [hst']
theorem opA_put {k off:Nat} {m l l' : List (Seg Kc)} {g:Nat} {cs:List Value} {T:TypeId} (h:opA P ev bl o = .put k off m) (hs:∀ y∈o.op.operands,(ev y).holds β (ρ y) w)
 (hk:β[k]?=some g) (hg:w.heap[g]?=some (.cells cs.toArray T (0,0))) (hl:holdsL β l cs w) (hr:zQ l off m=some l') :
 ∃ ds w',(execOp ρ o).run P w = .ok .skip w'∧Turned g (.cells ds.toArray T (0,0)) w w'∧holdsL β l' ds w:=by
 have key:∀ (T' : TypeId) (a b:Operand) (n:Nat) (v:Value) (es:List Value),o.op = .store T' a b→ρ a = .pointer (some ⟨g,off,none⟩)→ρ b=v→v.cells.toList=es→fX P T'=some n→es.length=n→holdsL β m es w →
  ∃ ds w',(execOp ρ o).run P w = .ok .skip w'∧Turned g (.cells ds.toArray T (0,0)) w w'∧holdsL β l' ds w:=by
  intro T' a b n v es ho ha hb hv hn hlen hm
  obtain ⟨h1,h2⟩:=mS hr hl hm
  obtain ⟨h3,h4⟩:=lN (P:=P) ho ha (by rw [hb];exact hv) hn hlen (holdsL.one hm) hg h2
  exact ⟨_,_,h3,h4,h1⟩
 obtain ⟨dst,op,type,pos,after,guard⟩:=o
 cases op <;> simp only [opA] at h
 case store T' a b =>
  have ha:=hs a (by simp [Op.operands])
  have hb:=hs b (by simp [Op.operands])
  split at h
  ·rename_i k' off' s n h1 h2 h3
   split at h
   ·rename_i hc
    injection h with e1 e2 e3
    subst e1
    subst e2
    subst e3
    simp only [Bool.and_eq_true,beq_iff_eq] at hc
    rw [h1] at ha
    rw [h2] at hb
    obtain ⟨g',hg',hv⟩:=fZ ha
    rw [hk] at hg'
    injection hg' with hg'
    subst hg'
    exact key T' a b n _ [ρ b] rfl hv rfl (by rw [oB hb]) h3 (by simp;omega) (holdsL.single hb)
   ·cases h
  ·rename_i k' off' mm n h1 h2 h3
   split at h
   ·rename_i hc
    injection h with e1 e2 e3
    subst e1
    subst e2
    subst e3
    simp only [beq_iff_eq] at hc
    rw [h1] at ha
    rw [h2] at hb
    obtain ⟨g',hg',hv⟩:=fZ ha
    rw [hk] at hg'
    injection hg' with hg'
    subst hg'
    obtain ⟨es,he,hm⟩:=hb
    exact key T' a b n _ es rfl hv rfl (by rw [he];rfl) h3 (by rw [hm.len];exact hc) hm
   ·cases h
  ·cases h
 case slice T' y lo hi mx=>cases lo <;> cases hi <;> cases mx <;> simp only at h <;> (repeat' (first|(cases h;done)|split at h))
 case makeFunc fn first cap=>cases fn <;> simp only at h <;> (repeat' (first|(cases h;done)|split at h))
 all_goals (repeat' (first|(cases h;done)|(unfold nQ at h)|(unfold iZ at h)|split at h))
end Ab
section
open Go.RowKit
section
variable {P:Program} {ops:Array Oper} {K:Value→Bool} {T:List Nat} {w0:World} {a0:Act} {Q:Act→World→Prop} {o:Oper} {rest:List Oper} {g:List Ent}
theorem wanted_is {A:Act} {j:Nat} {want b:Bool} {d:Tmp} (hg:o.guard=some (j,want)) (hd:(ops[j]?).bind (·.dst)=some d) (h:A.eval (.tmp d) = .bool b) :
 Region.wanted o (yielded ops A.tmps)=(b==want):=by
 have hy:yielded ops A.tmps j=some b:=by
  unfold yielded
  rw [hd]
  have h2:A.tmps[d]?.getD undef = .bool b:=by simpa [Act.eval] using h
  cases h3:A.tmps[d]? with
  | none=>rw [h3] at h2;cases h2
  | some v =>
    rw [h3] at h2
    have h4:v = .bool b:=h2
    subst h4
    simp [h3]
 unfold Region.wanted
 rw [hg]
 simp [hy]
theorem guard_looks {j:Nat} {want:Bool} {d:Tmp} (hg:o.guard=some (j,want)) (hd:(ops[j]?).bind (·.dst)=some d):d∈o.looksAt ops:=by
 unfold Oper.looksAt
 rw [hg]
 simp only [List.mem_append]
 exact .inr (by rw [hd];simp)
end
end
namespace Ab
open Go.RowKit
variable {Kc:Value→Bool}
structure St (Kc:Value→Bool) where
 slots:List (AV Kc)
 blocks:List (TypeId×List (Seg Kc))
 ro:Nat
inductive AKd (Kc:Value→Bool) where
 | val (x:AV Kc)
 | new (T:TypeId) (vs:List Value)
 | put (d:Tmp) (T:TypeId) (l:List (Seg Kc))
 | old (k:Nat) (T:TypeId) (l:List (Seg Kc))
abbrev AE (Kc:Value→Bool):=Option Tmp×AKd Kc
inductive Cfg (Kc:Value→Bool) where
 | items (todo:List Item) (st:St Kc)
 | plain (ops:Array Oper) (rest:List Oper) (k:List Item) (st:St Kc)
 | drawn (ops:Array Oper) (rest:List Oper) (k:List Item) (st:St Kc) (Ty:List TypeId) (es:List (AE Kc))
def evL (sl:Tmp→AV Kc):Operand→AV Kc
 | .tmp t=>sl t
 | .const v=>nZ v
 | .func f => .fv (.sc (.lit (.func (.func f) #[] #[])))
 | .global _ => .un
def St.slot (st:St Kc) (t:Tmp):AV Kc:=st.slots.getD t .un
def FV.kill:FV Kc→FV Kc
 | .nsl .. => .un
 | f=>f
def AV.kill:AV Kc→AV Kc
 | .fv f => .fv f.kill
 | .tup l => .tup (l.map FV.kill)
def lO (st:St Kc):List (AE Kc)→Tmp→AV Kc
 | [],t=>(st.slot t).kill
 | (dst,kd)::es,t=>if dst==some t then (match kd with | .val x=>x|_ => .un) else lO st es t
def AV.killT (T:TypeId) (x:AV Kc):AV Kc:=match x with
 | .fv (.nsl n T' l)=>if T==T' then .un else .fv (.nsl n T' l)
 | .fv f => .fv f
 | .tup l => .tup (l.map FV.kill)
def setS (sl:List (AV Kc)) (dst:Option Tmp) (x:AV Kc):List (AV Kc):=match dst with|some d=>sl.set d x|none=>sl
def St.put (st:St Kc) (dst:Option Tmp) (x:AV Kc):St Kc := { st with slots:=setS st.slots dst x }
def qG (sl:Tmp→AV Kc) (ops:Array Oper) (o:Oper):Option Bool :=
 match o.guard with
 | none=>some true
 | some (j,want)=>match (ops[j]?).bind (·.dst) with
   | some d=>match sl d with | .fv (.sc (.lit (.bool b)))=>some (b==want) | .tup []=>some false|_=>none
   | none=>none
def coldL (l:List (Seg Kc)):Bool:=l.all Seg.cold
def xR (P:Program) (st:St Kc) (o:Oper):OR Kc→Option (St Kc)
 | .val x=>some (st.put o.dst x)
 | .new T l=>match o.dst with
   | some d=>some { st with slots:=st.slots.set d (.fv (.sc (.ptr st.blocks.length 0))),blocks:=st.blocks ++ [(T,l)] }
   | none=>none
 | .nsl n T l=>some (st.put o.dst (.fv (.nsl n T l)))
 | .put k off m=>match st.blocks[k]?,o.dst with
   | some (T,l),none=>match zQ l off m with
     | some l'=>if st.ro≤k∧coldL l=true then some { st with slots:=st.slots.map (AV.killT T),blocks:=st.blocks.set k (T,l') } else none
     | none=>none
   | _,_=>none
 | _=>none
def confl (st:St Kc) (ops:Array Oper) (o:Oper) (k:Nat):Bool :=
 match o.op with
 | .store _ (.tmp t) _=>match ops.toList.find? (fun o'=>o'.dst==some t) with
   | some o'=>(match o'.op with | .alloc _=>false|_=>true)
   | none=>match st.slot t with | .fv (.sc (.ptr k' _))=>k'==k|_=>true
 | .store .. => true
 | _=>false
def jA (st:St Kc) (ops:Array Oper) (i k:Nat):Bool :=
 (List.range ops.size).all fun j=>match ops[j]? with
  | some o => !confl st ops o k || j==i || o.after.any fun e=>Region.binds .any e&&e.on==i
  | none=>true
def newOf (es:List (AE Kc)) (d:Tmp):Option (TypeId×List Value):=(es.find? fun e=>e.1==some d).bind fun e=>match e.2 with | .new T vs=>some (T,vs)|_=>none
def xS (ops:Array Oper) (st:St Kc) (i:Nat):List (Option (TypeId×List (Seg Kc))):=st.blocks.zipIdx.map fun p=>if jA st ops i p.2 then some p.1 else none
def xT (P:Program) (ops:Array Oper) (st:St Kc) (Ty:List TypeId) (es:List (AE Kc)) (o:Oper):OR Kc→Option (AE Kc)
 | .val x=>if x.okT Ty then some (o.dst,.val x) else none
 | .new T l=>match xM l,o.op with
   | some vs,.alloc _=>if lK Kc Ty (.cells vs.toArray T (0,0))=false∧o.guard=none∧o.dst.isSome=true then some (o.dst,.new T vs) else none
   | _,_=>none
 | .nsl n T l=>if Ty.contains T then some (o.dst,.val (.fv (.nsl n T l))) else none
 | .put k off m=>match st.blocks[k]?,o.dst,o.guard with
   | some (T,l),none,none=>match zQ l off m with
     | some l'=>if st.ro≤k∧coldL l=true∧Ty.contains T=false then some (none,.old k T l') else none
     | none=>none
   | _,_,_=>none
 | _=>none
def putNew (P:Program) (st:St Kc) (es:List (AE Kc)) (o:Oper):Option (AE Kc) :=
 match o.op,o.dst,o.guard with
 | .store T (.tmp d) y,none,none=>match newOf es d,fX P T,evL (lO st es) y with
   | some (T',vs),some n,.fv (.sc s)=>if n==1&&s.size==1&&vs.all (·.oneCell') then (zQ (vs.map .lit) 0 [s]).map fun l'=>(none,.put d T' l') else none
   | some (T',vs),some n,.fv (.ag m)=>if gM m==n&&vs.all (·.oneCell') then (zQ (vs.map .lit) 0 m).map fun l'=>(none,.put d T' l') else none
   | _,_,_=>none
 | _,_,_=>none
def kC (es:List (AE Kc)):List (Tmp×TypeId×List Value):=es.reverse.filterMap fun e=>match e with|(some d,.new T vs)=>some (d,T,vs)|_=>none
def oC (es:List (AE Kc)) (d:Tmp):Option (TypeId×List (Seg Kc)):=es.findSome? fun e=>match e with|(none,.put d' T l)=>if d'==d then some (T,l) else none|_=>none
def tX (es:List (AE Kc)) (k:Nat):Option (TypeId×List (Seg Kc)):=es.findSome? fun e=>match e with|(none,.old k' T l)=>if k'==k then some (T,l) else none|_=>none
def slotE (st:St Kc) (es:List (AE Kc)) (t:Tmp):AV Kc :=
 match es.find? fun e=>e.1==some t with
 | some (_,.val x)=>x.kill
 | some (_,.new _ _)=>match (kC es).findIdx? fun n=>n.1==t with|some j => .fv (.sc (.ptr (st.blocks.length+j) 0))|none => .un
 | some _ => .un
 | none=>(st.slot t).kill
def sB (st:St Kc) (es:List (AE Kc)):St Kc :=
 { slots:=(List.range st.slots.length).map (slotE st es)
   blocks:=(st.blocks.zipIdx.map fun p=>(tX es p.2).getD p.1)++(kC es).map fun n=>(oC es n.1).getD (n.2.1,n.2.2.map .lit)
   ro:=st.ro }
def earlyA (st:St Kc) (ops:Array Oper) (es:List (AE Kc)):Bool :=
 let G:=es.reverse
 (List.range ops.size).all fun j=>match G[j]? with
  | some (none,.old k _ _)=>(List.range ops.size).all fun i => !jA st ops i k || i==j || (ops[j]?).any fun o=>o.after.any fun e=>Region.binds .any e&&e.on==i
  | _=>true
def roA (st:St Kc) (es:List (AE Kc)):Bool:=es.all fun e=>match e.2 with | .old k _ _=>decide (st.ro≤k)|_=>true
def onceA (es:List (AE Kc)):Bool :=
 decide ((es.filterMap fun e=>match e with|(none,.put d _ _)=>some d|_=>none).Nodup)&&decide ((es.filterMap fun e=>match e with|(none,.old k _ _)=>some k|_=>none).Nodup)
 && decide (((kC es).map (·.1)).Nodup)&&(kC es).all fun n=>n.2.2.all (·.oneCell')
def tysOf (P:Program) (ops:List Oper):List TypeId:=ops.filterMap fun o=>match o.op with | .buildSlice T _ _=>(match P.underlying T with|some (.slice e)=>some e|_=>none)|_=>none
def St.kill (st:St Kc):St Kc := { st with slots:=st.slots.map AV.kill }
def notSlot (y:Operand) (d:Tmp):Bool:=match y with | .tmp t=>t != d|_=>true
def fuseA (P:Program) (st:St Kc) (o:Oper) (rest:List Oper):Option (St Kc×List Oper) :=
 match o.op,o.dst,o.guard,rest with
 | .alloc T,some d,none,o2::rest'=>match o2.op,o2.dst,o2.guard with
   | .store T' (.tmp d') y,none,none=>if d'==d&&notSlot y d&&decide (d<st.slots.length) then
      match tV (Kc:=Kc) P T,fX P T',evL st.slot y with
      | some z,some n,.fv (.sc s)=>if n==1&&s.size==1&&gM z==1 then some ({ st with slots:=st.slots.set d (.fv (.sc (.ptr st.blocks.length 0))),blocks:=st.blocks ++ [(T,[s])] },rest') else none
      | some z,some n,.fv (.ag m)=>if gM m==n&&gM z==n then some ({ st with slots:=st.slots.set d (.fv (.sc (.ptr st.blocks.length 0))),blocks:=st.blocks ++ [(T,m)] },rest') else none
      | _,_,_=>none
     else none
   | _,_,_=>none
 | _,_,_,_=>none
def qH (P:Program):Cfg Kc→Option (Cfg Kc)
 | .items todo st=>match todo with
   | .code .skip::k=>some (.items k st)
   | .code (.label _)::k=>some (.items k st)
   | .inBlock _::k=>some (.items k st)
   | .inScope _::k=>some (.items k st)
   | .code (.seq x y)::k=>some (.items (.code x :: .code y::k) st)
   | .code (.cond c x y)::k=>match evL st.slot c with
     | .fv (.sc (.lit (.bool t)))=>some (.items (.code (if t then x else y)::k) st)
     | _=>none
   | .code (.block id c)::k=>some (.items (.code c :: .inBlock id::k) st)
   | .code (.scope c)::k=>some (.items (.code c :: .inScope c::k) st)
   | .code (.loop c)::k=>some (.items (.code c :: .inLoop c::k) st)
   | .inLoop c::k=>some (.items (.code c :: .inLoop c::k) st)
   | .code (.exit id)::k=>(exitTo id k).map fun k' => .items k' st
   | .code (.region _ ops false)::k=>some (.plain ops ops.toList k st)
   | .code (.region _ ops true)::k=>if Region.tyB .any ops st.slots.length then some (.drawn ops ops.toList k st (tysOf P ops.toList) []) else none
   | _=>none
 | .plain ops rest k st=>match rest with
   | []=>some (.items k st.kill)
   | o::rest=>match fuseA P st o rest with
    | some (st',rest')=>some (.plain ops rest' k st')
    | none=>match qG st.slot ops o with
     | some true=>(xR P st o (opA P (evL st.slot) (st.blocks.map some) o)).map fun st' => .plain ops rest k st'
     | some false=>some (.plain ops rest k (st.put o.dst (.tup [])))
     | none=>none
 | .drawn ops rest k st Ty es=>match rest with
   | []=>if onceA es&&earlyA st ops es&&roA st es then some (.items k (sB st es)) else none
   | o :: rest=>match putNew P st es o with
     | some e=>some (.drawn ops rest k st Ty (e::es))
     | none=>match qG (lO st es) ops o with
       | some true=>(xT P ops st Ty es o (opA P (evL (lO st es)) (xS ops st es.length) o)).map fun e => .drawn ops rest k st Ty (e::es)
       | some false=>some (.drawn ops rest k st Ty ((o.dst,.val (.tup []))::es))
       | none=>none
def cG (P:Program):Nat→Cfg Kc→Cfg Kc
 | 0,c=>c
 | n+1,c=>match qH P c with|some c'=>cG P n c'|none=>c
def Cfg.op:Cfg Kc→Option Oper
 | .plain ops (o::_) _ st=>if qG st.slot ops o=some true then some o else none
 | .drawn ops (o::_) _ st _ es=>if qG (lO st es) ops o=some true then some o else none
 | _=>none
def Cfg.ev:Cfg Kc→Operand→AV Kc
 | .items _ st=>evL st.slot
 | .plain _ _ _ st=>evL st.slot
 | .drawn _ _ _ st _ es=>evL (lO st es)
def Cfg.mem:Cfg Kc→List (Option (TypeId×List (Seg Kc)))
 | .items _ st=>st.blocks.map some
 | .plain _ _ _ st=>st.blocks.map some
 | .drawn ops _ _ st _ es=>xS ops st es.length
def Cfg.okT (c:Cfg Kc) (x:AV Kc):Bool:=match c with
 | .drawn _ _ _ _ Ty _=>x.okT Ty
 | _=>true
def Cfg.give (c:Cfg Kc) (x:AV Kc):Cfg Kc:=match c with
 | .plain ops (o::rest) k st => .plain ops rest k (st.put o.dst x)
 | .drawn ops (o::rest) k st Ty es => .drawn ops rest k st Ty ((o.dst,.val x)::es)
 | c=>c
def Cfg.callee (P:Program) (c:Cfg Kc):Option FuncId:=match c.op with
 | some o=>match opA P c.ev c.mem o with | .call f _=>some f|_=>none
 | none=>none
def Cfg.args (P:Program) (c:Cfg Kc):List (AV Kc):=match c.op with
 | some o=>match opA P c.ev c.mem o with | .call _ l=>l|_ => []
 | none => []
def resA (P:Program) (st:St Kc):List ResultVar→Option (List (FV Kc))
 | []=>some []
 | .tmp t::l=>match st.slot t with | .fv f=>(resA P st l).map (f :: ·)|_=>none
 | .cell t T::l=>match st.slot t with
   | .fv (.sc (.ptr k off))=>match st.blocks[k]? with
     | some (_,m)=>match nQ P T m off with | .val (.fv f)=>(resA P st l).map (f :: ·)|_=>none
     | none=>none
   | _=>none
def Cfg.res (P:Program) (fn:Func):Cfg Kc→Option (AV Kc)
 | .items todo st=>match todo with
   | [] | .code .ret::_=>match resA P st fn.results.toList with
     | some [f]=>some (.fv f)
     | some l=>some (.tup l)
     | none=>none
   | _=>none
 | _=>none
end Ab
namespace Ab
open Go.RowKit
variable {Kc:Value→Bool}
section
variable (P:Program) (f:FuncId) (w00:World) (Out:Value→World→Prop)
def Rets (e:Ending) (w' : World):Prop := ∃ v,e = .returned v∧Below w00.heap.size w00 w'∧Out v w'
def baseF:Frame := { (default:Frame) with fn:=f,kind := .normal }
def Runs (todo:List Item) (a:Act) (w:World):Prop :=
 ∀ cs,∃ e w' fr,Rets w00 Out e w'∧Comes P (lone ((baseF f).at a todo) cs w) (lone fr cs w') e∧fr.fn=f∧fr.leaving P w' e
def QN (k:List Item):Exit→Act→World→Prop:=fun e a w=>e = .normal∧Runs P f w00 Out k a w
structure Rep (st:St Kc) (β:List Nat) (a:Act) (w:World):Prop where
 defers:a.defers = []
 size:a.tmps.size=st.slots.length
 slots:∀ t,(st.slot t).holds β (a.eval (.tmp t)) w
 len:β.length=st.blocks.length
 nodup:β.Nodup
 mem:Mem β (st.blocks.map some) w
 lt:∀ g∈β,g<w.heap.size
 own:∀ (k g:Nat),β[k]?=some g→k<st.ro∨w00.heap.size≤g
 below:Below w00.heap.size w00 w
end
section
variable {P:Program} {f:FuncId} {w00:World} {Out:Value→World→Prop} {st:St Kc} {β:List Nat} {a:Act} {w:World}
theorem Runs.step {todo todo' : List Item} {a' : Act} {w' : World} (h:∀ cs,step P (lone ((baseF f).at a todo) cs w) = .next (lone ((baseF f).at a' todo') cs w')) (hr:Runs P f w00 Out todo' a' w'):Runs P f w00 Out todo a w:=by
 intro cs
 obtain ⟨e,w2,fr,h1,h2,h3⟩:=hr cs
 exact ⟨e,w2,fr,h1,Comes.of_steps (.one (h cs)) h2,h3⟩
theorem Runs.of_wp {c:Code} {k:List Item} (h:c.wp P (QN P f w00 Out k) a w):Runs P f w00 Out (.code c::k) a w:=by
 intro cs
 obtain ⟨e,a',w',⟨he,hr⟩,harr⟩:=h (baseF f) k cs
 subst he
 obtain ⟨e,w2,fr,h1,h2,h3⟩:=hr cs
 exact ⟨e,w2,fr,h1,Comes.of_steps harr h2,h3⟩
theorem Rep.ev (h:Rep w00 st β a w) (y:Operand):(evL st.slot y).holds β (a.eval y) w:=by
 cases y with
 | tmp t=>exact h.slots t
 | const v=>exact fY v
 | func f=>exact ⟨rfl,rfl⟩
 | global g=>trivial
theorem tY {sl:List (AV Kc)} {bl ro} {dst:Option Tmp} {x:AV Kc} {v:Value} {a:Act} (hs:a.tmps.size=sl.length) (h:∀ t,(sl.getD t .un).holds β (a.eval (.tmp t)) w) (hx:x.holds β v w) (t:Tmp) :
 (({ slots:=setS sl dst x,blocks:=bl,ro:=ro }:St Kc).slot t).holds β ((a.put dst v).eval (.tmp t)) w:=by
 unfold St.slot
 cases dst with
 | none=>exact h t
 | some d =>
   simp only [setS]
   by_cases hd:d=t
   ·subst hd
    by_cases hlt:d<sl.length
    ·rw [Go.Proofs.YtklnecajplnboaaGreatDoor.Act.eval_put_hit (show d<a.tmps.size by rw [hs];exact hlt)]
     simp only [List.getD_eq_getElem?_getD,List.getElem?_set_self hlt,Option.getD_some]
     exact hx
    ·rw [List.getD_eq_getElem?_getD,List.getElem?_eq_none (show (sl.set d x).length≤d by rw [List.length_set];exact Nat.le_of_not_lt hlt)]
     trivial
   ·rw [Go.Proofs.YtklnecajplnboaaGreatDoor.Act.eval_put_miss (by simpa using hd)]
    have:=h t
    rw [List.getD_eq_getElem?_getD] at this ⊢
    rw [List.getElem?_set_ne hd]
    exact this
theorem setS_len {sl:List (AV Kc)} {dst:Option Tmp} {x:AV Kc}:(setS sl dst x).length=sl.length:=by
 cases dst <;> simp [setS]
theorem Rep.put (h:Rep w00 st β a w) {x:AV Kc} {v:Value} {dst:Option Tmp} (hx:x.holds β v w):Rep w00 (st.put dst x) β (a.put dst v) w :=
 ⟨by rw [Go.Proofs.YtklnecajplnboaaGreatDoor.Act.put_defers];exact h.defers,by rw [Go.Proofs.YtklnecajplnboaaGreatDoor.Act.put_size];simp only [St.put];rw [setS_len];exact h.size,tY h.size h.slots hx,h.len,h.nodup,h.mem,h.lt,h.own,h.below⟩
theorem Rep.grow (h:Rep w00 st β a w) {w' : World} (hb:Below w.heap.size w w'):Rep w00 st β a w':=by
 refine ⟨h.defers,h.size,fun t=>AV.below (h.slots t) hb,h.len,h.nodup,fun k T l hk=>?_,fun g hg=>Nat.lt_of_lt_of_le (h.lt g hg) hb.size,h.own,?_⟩
 ·obtain ⟨g,cs,h1,h2,h3⟩:=h.mem k T l hk
  exact ⟨g,cs,h1,(hb.block g (lt_of_block h2)).trans h2,h3.ext (Go.Proofs.YtklnecajplnboaaGreatDoor.Ext.of_below hb)⟩
 ·exact h.below.trans (hb.mono h.below.size)
theorem gQ (w:World) (o:Obj):Below w.heap.size w (w.alloc o):=(aB _ _).alloc (aR _) _
theorem Mem.more {bl:List (Option (TypeId×List (Seg Kc)))} {γ:List Nat} (h:Mem β bl w):Mem (β++γ) bl w:=by
 intro k T l hk
 obtain ⟨g,cs,h1,h2,h3⟩:=h k T l hk
 exact ⟨g,cs,by rw [List.getElem?_append_left (List.getElem?_eq_some_iff.1 h1).1];exact h1,h2,h3.more⟩
theorem Rep.new (h:Rep w00 st β a w) {T:TypeId} {l:List (Seg Kc)} {cs:List Value} {d:Tmp} (hl:holdsL β l cs w) :
 Rep w00 { st with slots:=st.slots.set d (.fv (.sc (.ptr st.blocks.length 0))),blocks:=st.blocks ++ [(T,l)] } (β ++ [w.heap.size]) (a.put (some d) (.pointer (some ⟨w.heap.size,0,none⟩))) (w.alloc (.cells cs.toArray T)):=by
 have hb:=gQ w (.cells cs.toArray T)
 have h':=h.grow hb
 have hnew:(β ++ [w.heap.size])[st.blocks.length]?=some w.heap.size:=by rw [← h.len];simp
 refine ⟨by rw [Go.Proofs.YtklnecajplnboaaGreatDoor.Act.put_defers];exact h.defers,by rw [Go.Proofs.YtklnecajplnboaaGreatDoor.Act.put_size];simp;exact h.size,?_,by simp [h.len],?_,?_,?_,?_,h'.below⟩
 ·exact tY (dst:=some d) h.size (fun t=>AV.more (h'.slots t)) (kB hnew)
 ·rw [List.nodup_append]
  exact ⟨h.nodup,by simp,fun x hx y hy e=>by
   rw [List.mem_singleton] at hy
   have:=h.lt x hx
   omega⟩
 ·intro k T' l' hk
  rw [List.map_append,List.getElem?_append] at hk
  split at hk
  ·exact Mem.more h'.mem k T' l' hk
  ·rename_i hge
   rw [List.length_map] at hge hk
   rw [List.map_singleton] at hk
   have hk0:k-st.blocks.length=0:=by
    rcases Nat.eq_zero_or_pos (k-st.blocks.length) with e|e
    ·exact e
    ·rw [List.getElem?_eq_none (by simp;omega)] at hk;cases hk
   rw [hk0] at hk
   simp only [List.getElem?_cons_zero,Option.some.injEq,Prod.mk.injEq] at hk
   obtain ⟨rfl,rfl⟩:=hk
   have hke:k=st.blocks.length:=by omega
   subst hke
   exact ⟨w.heap.size,cs,hnew,heap_alloc_new w _,(hl.ext (Go.Proofs.YtklnecajplnboaaGreatDoor.Ext.of_below hb)).more⟩
 ·intro g hg
  rw [show (w.alloc (.cells cs.toArray T)).heap.size=w.heap.size+1 by simp]
  rcases List.mem_append.1 hg with hg|hg
  ·have:=h.lt g hg;omega
  ·rw [List.mem_singleton] at hg;omega
 ·intro k g hk
  rw [List.getElem?_append] at hk
  split at hk
  ·exact h.own k g hk
  ·have:=List.mem_of_getElem? hk
   rw [List.mem_singleton] at this
   subst this
   exact .inr h.below.size
theorem Rep.own_new (h:Rep w00 st β a w) {T:TypeId} {l:List (Seg Kc)} {cs:List Value} {d:Tmp} {g:Nat} (hg:g∉β) (hge:w00.heap.size≤g) (hlt:g<w.heap.size) (hh:w.heap[g]?=some (.cells cs.toArray T (0,0))) (hl:holdsL β l cs w) :
 Rep w00 { st with slots:=st.slots.set d (.fv (.sc (.ptr st.blocks.length 0))),blocks:=st.blocks ++ [(T,l)] } (β ++ [g]) (a.put (some d) (.pointer (some ⟨g,0,none⟩))) w:=by
 have hnew:(β ++ [g])[st.blocks.length]?=some g:=by rw [← h.len];simp
 refine ⟨by rw [Go.Proofs.YtklnecajplnboaaGreatDoor.Act.put_defers];exact h.defers,by rw [Go.Proofs.YtklnecajplnboaaGreatDoor.Act.put_size];simp;exact h.size,?_,by simp [h.len],?_,?_,?_,?_,h.below⟩
 ·exact tY (dst:=some d) h.size (fun t=>AV.more (h.slots t)) (kB hnew)
 ·rw [List.nodup_append]
  exact ⟨h.nodup,by simp,fun x hx y hy e=>by
   rw [List.mem_singleton] at hy
   subst hy
   subst e
   exact hg hx⟩
 ·intro k T' l' hk
  rw [List.map_append,List.getElem?_append] at hk
  split at hk
  ·exact Mem.more h.mem k T' l' hk
  ·rename_i hge'
   rw [List.length_map] at hge' hk
   rw [List.map_singleton] at hk
   have hk0:k-st.blocks.length=0:=by
    rcases Nat.eq_zero_or_pos (k-st.blocks.length) with e|e
    ·exact e
    ·rw [List.getElem?_eq_none (by simp;omega)] at hk;cases hk
   rw [hk0] at hk
   simp only [List.getElem?_cons_zero,Option.some.injEq,Prod.mk.injEq] at hk
   obtain ⟨rfl,rfl⟩:=hk
   have hke:k=st.blocks.length:=by omega
   subst hke
   exact ⟨g,cs,hnew,hh,hl.more⟩
 ·intro g' hg'
  rcases List.mem_append.1 hg' with hg'|hg'
  ·exact h.lt g' hg'
  ·rw [List.mem_singleton] at hg';omega
 ·intro k g' hk
  rw [List.getElem?_append] at hk
  split at hk
  ·exact h.own k g' hk
  ·have:=List.mem_of_getElem? hk
   rw [List.mem_singleton] at this
   subst this
   exact .inr hge
theorem killT_holds {T:TypeId} {x:AV Kc} {v:Value} {w w' : World} {g:Nat} {o:Obj} {cs0:Array Value} (ht:Turned g o w w') (h0:w.heap[g]?=some (.cells cs0 T (0,0))) (hx:Go.Proofs.YtklnecajplnboaaGreatDoor.Ext Kc w w') (h:x.holds β v w):(x.killT T).holds β v w':=by
 have hF:∀ {y:FV Kc} {u:Value},y.holds β u w→y.kill.holds β u w':=fun {y u} hy=>by
  cases y with
  | sc s=>exact Seg.ext hy hx
  | ag l=>obtain ⟨cs,e,hl⟩:=hy;exact ⟨cs,e,hl.ext hx⟩
  | nsl n T l=>trivial
  | clo F a b=>obtain ⟨xs,ys,e,h1,h2⟩:=hy;exact ⟨xs,ys,e,h1.ext hx,h2.ext hx⟩
  | un=>trivial
 cases x with
 | fv y =>
   cases y with
   | clo F a b=>exact hF (y := .clo F a b) h
   | nsl n T' l =>
     simp only [AV.killT]
     split
     ·trivial
     ·rename_i hne
      obtain ⟨g',cs,e,hg,hl⟩:=h
      refine ⟨g',cs,e,?_,hl.ext hx⟩
      have:g'≠g:=fun e=>by
       subst e
       rw [h0] at hg
       injection hg with hg
       injection hg with _ hg
       exact hne (by simpa using hg)
      rw [ht.block g' this];exact hg
   | sc s=>exact hF (y := .sc s) h
   | ag l=>exact hF (y := .ag l) h
   | un=>trivial
 | tup l =>
   obtain ⟨vs,e,hl⟩:=h
   refine ⟨vs,e,?_⟩
   clear e
   induction l generalizing vs with
   | nil=>exact hl
   | cons y l ih =>
     obtain ⟨v,r,e,h1,h2⟩:=hl
     exact ⟨v,r,e,hF h1,ih _ h2⟩
theorem Rep.store (hK:KOk Kc) (h:Rep w00 st β a w) {k g:Nat} {T:TypeId} {l l' : List (Seg Kc)} {cs ds:List Value} {w' : World} (hk:st.blocks[k]?=some (T,l)) (hg:β[k]?=some g)
 (hh:w.heap[g]?=some (.cells cs.toArray T (0,0))) (hl:holdsL β l cs w) (hc:coldL l=true) (hro:st.ro≤k) (ht:Turned g (.cells ds.toArray T (0,0)) w w') (hd:holdsL β l' ds w) :
 Rep w00 { st with slots:=st.slots.map (AV.killT T),blocks:=st.blocks.set k (T,l') } β a w':=by
 have hcold:Go.Proofs.YtklnecajplnboaaGreatDoor.hotObj Kc (.cells cs.toArray T (0,0))=false:=by
  simp only [Go.Proofs.YtklnecajplnboaaGreatDoor.hotObj]
  rw [Array.any_eq_false']
  intro c hm
  simpa using holdsL.iscold hK hl hc c (by simpa using hm)
 have hx:Go.Proofs.YtklnecajplnboaaGreatDoor.Ext Kc w w':=by
  refine ⟨by rw [ht.size];exact aR _,fun g' o hg' ho=>?_⟩
  by_cases e:g'=g
  ·subst e
   rw [hh] at hg'
   injection hg' with hg'
   subst hg'
   rw [hcold] at ho
   cases ho
  ·rw [ht.block g' e];exact hg'
 have hge:w00.heap.size≤g:=(h.own k g hg).resolve_left (by omega)
 refine ⟨h.defers,by simp;exact h.size,fun t=>?_,by simp [h.len],h.nodup,?_,fun g' hg'=>by rw [ht.size];exact h.lt g' hg',h.own,?_⟩
 ·have:=killT_holds (β:=β) ht hh hx (h.slots t)
  unfold St.slot at this ⊢
  simp only [List.getD_eq_getElem?_getD,List.getElem?_map] at this ⊢
  cases he:st.slots[t]? with
  | none=>trivial
  | some y=>rw [he] at this;exact this
 ·intro k' T' m hk'
  rw [List.getElem?_map] at hk'
  by_cases e:k'=k
  ·subst e
   rw [List.getElem?_set_self (List.getElem?_eq_some_iff.1 hk).1] at hk'
   simp only [Option.map_some,Option.some.injEq,Prod.mk.injEq] at hk'
   obtain ⟨rfl,rfl⟩:=hk'
   exact ⟨g,ds,hg,ht.at_,hd.ext hx⟩
  ·rw [List.getElem?_set_ne (Ne.symm e),← List.getElem?_map] at hk'
   obtain ⟨g',cs',h1,h2,h3⟩:=h.mem k' T' m hk'
   have:g'≠g:=fun e'=>by subst e';exact e (tU h.nodup h1 hg)
   exact ⟨g',cs',h1,by rw [ht.block g' this];exact h2,h3.ext hx⟩
 ·refine ⟨ht.os.trans h.below.os,ht.tape.trans h.below.tape,ht.output.trans h.below.output,by rw [ht.size];exact h.below.size,fun k' hk'=>?_⟩
  rw [ht.block k' (by omega)]
  exact h.below.block k' hk'
theorem mW {x:AV Kc} {v:Value} (h:x.holds β v w):x.kill.holds β v w:=by
 have hF:∀ {y:FV Kc} {u:Value},y.holds β u w→y.kill.holds β u w:=fun {y u} hy=>by
  cases y <;> first|exact hy|trivial
 cases x with
 | fv y=>exact hF h
 | tup l =>
   obtain ⟨vs,e,hl⟩:=h
   refine ⟨vs,e,?_⟩
   clear e
   induction l generalizing vs with
   | nil=>exact hl
   | cons y l ih =>
     obtain ⟨v,r,e,h1,h2⟩:=hl
     exact ⟨v,r,e,hF h1,ih _ h2⟩
theorem Rep.kill (h:Rep w00 st β a w):Rep w00 st.kill β a w:=by
 refine ⟨h.defers,by simp [St.kill];exact h.size,fun t=>?_,h.len,h.nodup,h.mem,h.lt,h.own,h.below⟩
 have:=mW (h.slots t)
 unfold St.slot St.kill at *
 simp only [List.getD_eq_getElem?_getD,List.getElem?_map] at this ⊢
 cases he:st.slots[t]? with
 | none=>trivial
 | some y=>rw [he] at this;exact this
theorem wanted_un {ops:Array Oper} {o:Oper} {A:Act} {j:Nat} {want:Bool} {d:Tmp} (hg:o.guard=some (j,want)) (hd:(ops[j]?).bind (·.dst)=some d) (h:A.eval (.tmp d) = .tuple #[]) :
 Region.wanted o (yielded ops A.tmps)=false:=by
 have hy:yielded ops A.tmps j=none:=by
  unfold yielded
  rw [hd]
  have h2:A.tmps[d]?.getD undef = .tuple #[]:=by simpa [Act.eval] using h
  cases h3:A.tmps[d]? with
  | none=>simp [h3]
  | some v =>
    rw [h3] at h2
    have h4:v = .tuple #[]:=h2
    subst h4
    simp [h3]
 unfold Region.wanted
 rw [hg]
 simp [hy]
theorem Rep.wants (h:Rep w00 st β a w) {ops:Array Oper} {o:Oper} {b:Bool} (hw:qG st.slot ops o=some b):Region.wanted o (yielded ops a.tmps)=b:=by
 unfold qG at hw
 split at hw
 ·rename_i hg
  injection hw with hw
  subst hw
  simp [Region.wanted,hg]
 ·rename_i j want hg
  split at hw
  ·rename_i d hd
   split at hw
   ·rename_i b' hb
    injection hw with hw
    have:=h.slots d
    rw [hb] at this
    have hv:=aM this
    rw [Go.Proofs.YtklnecajplnboaaGreatDoor.wanted_is hg hd hv]
    exact hw
   ·rename_i hb
    injection hw with hw
    subst hw
    have:=h.slots d
    rw [hb] at this
    obtain ⟨vs,e,e2⟩:=this
    rw [show vs = [] from e2] at e
    exact wanted_un hg hd e
   ·cases hw
  ·cases hw
end
end Ab
namespace Ab
open Go.RowKit
variable {Kc:Value→Bool}
def lP (β:List Nat):AKd Kc→Kd
 | .val x => .val fun v w=>x.holds β v w
 | .new T vs => .new (.cells vs.toArray T (0,0))
 | .put d T l => .put d fun o w => ∃ cs:List Value,o = .cells cs.toArray T (0,0)∧holdsL β l cs w
 | .old k T l => .old k fun o w => ∃ cs:List Value,o = .cells cs.toArray T (0,0)∧holdsL β l cs w
def kD (β:List Nat) (e:AE Kc):Ent:=⟨e.1,lP β e.2⟩
section
variable (P:Program) (f:FuncId) (w00:World) (Out:Value→World→Prop)
def iN:Cfg Kc→Prop
 | .items todo st => ∀ β a w,Rep w00 st β a w→Runs P f w00 Out todo a w
 | .plain ops rest k st => ∀ β a w,Rep w00 st β a w→wpList P ops (QN P f w00 Out k) rest a w
 | .drawn ops rest k st Ty es => ∀ β a w,Rep w00 st β a w→wpTy P ops (lK Kc Ty) β (fun i k=>jA st ops i k) w a (fun a w=>Runs P f w00 Out k a w) rest (es.map (kD β))
end
section
variable {P:Program} {f:FuncId} {w00:World} {Out:Value→World→Prop}
theorem good_items (hm:P.follows .mixedOrders=true) {todo:List Item} {st:St Kc} {c' : Cfg Kc} (h:qH P (.items todo st)=some c') (hg:iN P f w00 Out c'):iN P f w00 Out (.items todo st):=by
 intro β a w hR
 simp only [qH] at h
 split at h
 ·injection h with h;subst h;exact Runs.step (fun cs=>step_skip) (hg β a w hR)
 ·injection h with h;subst h;exact Runs.step (fun cs=>step_label) (hg β a w hR)
 ·injection h with h;subst h;exact Runs.step (fun cs=>step_inBlock) (hg β a w hR)
 ·injection h with h;subst h;exact Runs.step (fun cs=>step_inScope) (hg β a w hR)
 ·injection h with h;subst h;exact Runs.step (fun cs=>step_seq) (hg β a w hR)
 ·rename_i c x y k
  split at h
  ·rename_i t hc
   injection h with h
   subst h
   have hv:=hR.ev c
   rw [hc] at hv
   exact Runs.step (fun cs=>step_cond (aM hv)) (hg β a w hR)
  ·cases h
 ·injection h with h;subst h;exact Runs.step (fun cs=>step_block) (hg β a w hR)
 ·injection h with h;subst h;exact Runs.step (fun cs=>step_scope) (hg β a w hR)
 ·injection h with h;subst h;exact Runs.step (fun cs=>step_loop) (hg β a w hR)
 ·injection h with h;subst h;exact Runs.step (fun cs=>step_inLoop) (hg β a w hR)
 ·rename_i id k
  rw [Option.map_eq_some_iff] at h
  obtain ⟨k',hk,h⟩:=h
  subst h
  exact Runs.step (fun cs=>step_exit hk) (hg β a w hR)
 ·injection h with h
  subst h
  exact Runs.of_wp (wp_region_list (hg β a w hR))
 ·rename_i id ops k
  split at h
  ·rename_i hty
   injection h with h
   subst h
   have:=hg β a w hR
   refine Runs.of_wp (wp_mono (Q:=fun e a w=>e = .normal∧Runs P f w00 Out k a w) ?_ (fun _ _ _ h=>h))
   obtain ⟨l⟩:=ops
   refine wp_region_ty (lK Kc (tysOf P l)) β (fun i k=>jA st l.toArray i k) hR.nodup hR.lt hm (by rw [hR.size];exact hty) ?_
   simpa [Exit,true_and] using this
  ·cases h
 ·cases h
theorem wpList_skip {ops:Array Oper} {Q:Exit→Act→World→Prop} {o:Oper} {rest:List Oper} {a:Act} {w:World} (hw:Region.wanted o (yielded ops a.tmps)=false) (h:wpList P ops Q rest (a.put o.dst undef) w):wpList P ops Q (o::rest) a w:=by
 unfold wpList
 rw [if_neg (by rw [hw];simp)]
 exact h
theorem iG {ops:Array Oper} {Q:Exit→Act→World→Prop} {o:Oper} {rest:List Oper} {a:Act} {w:World} (hw:Region.wanted o (yielded ops a.tmps)=true) (h:o.wp P a w (wpList P ops Q rest) Q):wpList P ops Q (o::rest) a w:=by
 unfold wpList
 rw [if_pos hw]
 exact .inl h
theorem good_fuse {ops:Array Oper} {o:Oper} {rest rest' : List Oper} {k:List Item} {st st' : St Kc} (h:fuseA P st o rest=some (st',rest')) (hg:iN P f w00 Out (.plain ops rest' k st')):iN P f w00 Out (.plain ops (o::rest) k st):=by
 intro β a w hR
 unfold fuseA at h
 split at h
 ·rename_i T d o2 rest2 hop hdst hgd
  split at h
  ·rename_i T' d' y hop2 hdst2 hgd2
   split at h
   ·rename_i hc
    simp only [Bool.and_eq_true,beq_iff_eq,decide_eq_true_eq] at hc
    obtain ⟨⟨hc1,hc2⟩,hc3⟩:=hc
    subst hc1
    have core:∀ (z m:List (Seg Kc)) (n:Nat) (es:List Value),tV (Kc:=Kc) P T=some z→fX P T'=some n→gM m=n→gM z=n→(a.eval y).cells.toList=es→holdsL β m es w →
     iN P f w00 Out (.plain ops rest2 k { st with slots:=st.slots.set d' (.fv (.sc (.ptr st.blocks.length 0))),blocks:=st.blocks ++ [(T,m)] })→wpList P ops (QN P f w00 Out k) (o::o2::rest2) a w:=by
     intro z m n es hz hn hm hzn hes hl hgood
     have hal:opA (Kc:=Kc) P (evL st.slot) (st.blocks.map some) o = .new T z:=by simp only [opA,hop,hz]
     obtain ⟨cs,e,hcs⟩:=opA_new (β:=β) (ρ:=a.eval) (w:=w) hal (fun y hy=>by rw [hop] at hy;simp [Op.operands] at hy)
     refine iG (by simp [Region.wanted,hgd]) ?_
     unfold Oper.wp
     rw [e]
     simp only [Oper.upon,hdst]
     have hds:d'<a.tmps.size:=by rw [hR.size];exact hc3
     refine iG (by simp [Region.wanted,hgd2]) ?_
     unfold Oper.wp
     have hyv:(a.put (some d') (.pointer (some ⟨w.heap.size,0,none⟩))).eval y=a.eval y:=by
      cases y with
      | tmp t =>
        have:t≠d':=by simpa [notSlot] using hc2
        exact Go.Proofs.YtklnecajplnboaaGreatDoor.Act.eval_put_miss (by simp;exact fun e=>this e.symm)
      | _=>rfl
     ·have hb:=gQ w (.cells cs.toArray T)
      have h0:=heap_alloc_new w (.cells cs.toArray T)
      obtain ⟨h3,h4⟩:=lN (P:=P) (o:=o2) (ρ:=(a.put (some d') (.pointer (some ⟨w.heap.size,0,none⟩))).eval) (off:=0) hop2 (Go.Proofs.YtklnecajplnboaaGreatDoor.Act.eval_put_hit hds) (by rw [hyv];exact hes) hn (by rw [hl.len];exact hm) hl.one h0 (by rw [hl.len,hcs.len];omega)
      rw [h3]
      simp only [Oper.upon,hdst2,Act.put]
      have hfull:cs.take 0++es++cs.drop (0+es.length)=es:=by
       rw [List.take_zero,List.nil_append,List.drop_of_length_le (by rw [hl.len,hcs.len];omega),List.append_nil]
      rw [hfull] at h4
      have hbel:Below w.heap.size w ((w.alloc (.cells cs.toArray T)).setCells w.heap.size 0 es):=by
       refine ⟨h4.os.trans hb.os,h4.tape.trans hb.tape,h4.output.trans hb.output,by rw [h4.size];exact hb.size,fun k' hk'=>?_⟩
       rw [h4.block k' (by omega)]
       exact hb.block k' hk'
      have hsz:((w.alloc (.cells cs.toArray T)).setCells w.heap.size 0 es).heap.size=w.heap.size+1:=by rw [h4.size];simp
      exact hgood _ _ _ ((hR.grow hbel).own_new (fun hm=>by have:=hR.lt _ hm;omega) hR.below.size (by rw [hsz];omega) h4.at_ (hl.ext (Go.Proofs.YtklnecajplnboaaGreatDoor.Ext.of_below hbel)))
    split at h
    ·rename_i z n s hz hn hy
     split at h
     ·rename_i hcc
      simp only [Bool.and_eq_true,beq_iff_eq] at hcc
      injection h with h
      injection h with h1 h2
      subst h1
      subst h2
      have hv:=hR.ev y
      rw [hy] at hv
      exact core z [s] n [a.eval y] hz hn (by simp [gM];omega) (by omega) (by rw [oB hv]) (holdsL.single hv) hg
     ·cases h
    ·rename_i z n m hz hn hy
     split at h
     ·rename_i hcc
      simp only [Bool.and_eq_true,beq_iff_eq] at hcc
      injection h with h
      injection h with h1 h2
      subst h1
      subst h2
      have hv:=hR.ev y
      rw [hy] at hv
      obtain ⟨es,he,hl⟩:=hv
      exact core z m n es hz hn hcc.1 hcc.2 (by rw [he];rfl) hl hg
     ·cases h
    ·cases h
   ·cases h
  ·cases h
 ·cases h
theorem good_plain (hK:KOk Kc) {ops:Array Oper} {rest:List Oper} {k:List Item} {st:St Kc} {c' : Cfg Kc} (h:qH P (.plain ops rest k st)=some c') (hg:iN P f w00 Out c'):iN P f w00 Out (.plain ops rest k st):=by
 intro β a w hR
 simp only [qH] at h
 split at h
 ·injection h with h
  subst h
  exact wpList_nil ⟨rfl,hg β a w hR.kill⟩
 ·rename_i o rest
  split at h
  ·rename_i st' rest' hfu
   injection h with h
   subst h
   exact good_fuse hfu hg β a w hR
  split at h
  ·rename_i hw
   refine iG (hR.wants hw) ?_
   rw [Option.map_eq_some_iff] at h
   obtain ⟨st',h,e⟩:=h
   subst e
   have hs:∀ y∈o.op.operands,(evL st.slot y).holds β (a.eval y) w:=fun y _=>hR.ev y
   unfold Oper.wp
   generalize hr:opA P (evL st.slot) (st.blocks.map some) o=r at h
   cases r with
   | val x =>
     obtain ⟨v,e,hx⟩:=opA_val hr hs hR.mem
     simp only [xR,Option.some.injEq] at h
     subst h
     rw [e]
     exact hg β _ _ (hR.put hx)
   | new T l =>
     obtain ⟨cs,e,hl⟩:=opA_new hr hs
     simp only [xR] at h
     split at h
     ·rename_i d hd
      injection h with h
      subst h
      rw [e]
      simp only [Oper.upon,hd]
      exact hg _ _ _ (hR.new hl)
     ·cases h
   | nsl n T l =>
     obtain ⟨cs,e,hl⟩:=opA_nsl hr hs
     simp only [xR,Option.some.injEq] at h
     subst h
     rw [e]
     refine hg β _ _ ((hR.grow (gQ w _)).put ⟨_,cs,rfl,heap_alloc_new w _,hl.ext (Go.Proofs.YtklnecajplnboaaGreatDoor.Ext.of_below (gQ w _))⟩)
   | put k' off m =>
     simp only [xR] at h
     split at h
     ·rename_i T l hk hd
      split at h
      ·rename_i l' hrep
       split at h
       ·rename_i hc
        injection h with h
        subst h
        obtain ⟨g,cs,hg1,hg2,hg3⟩:=hR.mem k' T l (by rw [List.getElem?_map,hk];rfl)
        obtain ⟨ds,w',e,ht,hl⟩:=opA_put hr hs hg1 hg2 hg3 hrep
        rw [e]
        simp only [Oper.upon,hd,Act.put]
        exact hg β _ _ (hR.store hK hk hg1 hg2 hg3 hc.2 hc.1 ht hl)
       ·cases h
      ·cases h
     ·cases h
   | call g args=>cases h
   | stop=>cases h
  ·rename_i hw
   injection h with h
   subst h
   exact wpList_skip (hR.wants hw) (hg β _ _ (hR.put (x := .tup []) ⟨[],rfl,rfl⟩))
  ·cases h
end
end Ab
namespace Ab
open Go.RowKit
variable {Kc:Value→Bool}
section
variable {P:Program} {f:FuncId} {w00:World} {Out:Value→World→Prop} {st:St Kc} {β:List Nat} {a0:Act} {w0:World} {es:List (AE Kc)} {Ty:List TypeId} {ops:Array Oper}
theorem kill_okT {x:AV Kc}:x.kill.okT Ty=true:=by
 have hF:∀ y:FV Kc,y.kill.okT Ty=true:=fun y=>by cases y <;> rfl
 cases x with
 | fv y=>exact hF y
 | tup l =>
   simp only [AV.kill,AV.okT,List.all_map,List.all_eq_true]
   exact fun y _=>hF y
theorem kM {B:Nat} {t:Tmp} {v:Value} {w:World} (h0:∀ t,(st.slot t).holds β (a0.eval (.tmp t)) w0) (hx:Ext (lK Kc Ty) w0 w):∀ {es:List (AE Kc)},specOf a0 B t (es.map (kD β)) v w→(lO st es t).holds β v w
 | [],h=>by
   simp only [List.map_nil,specOf] at h
   subst h
   exact AV.ext (mW (h0 t)) hx kill_okT
 | (dst,kd)::es,h=>by
   simp only [List.map_cons,specOf,kD] at h
   simp only [lO]
   by_cases hd:dst=some t
   ·rw [if_pos hd] at h
    rw [if_pos (by simpa using hd)]
    cases kd with
    | val x=>exact h
    | _=>trivial
   ·rw [if_neg hd] at h
    rw [if_neg (by simpa using hd)]
    exact kM h0 hx h
theorem looks_of {o:Oper} {t:Tmp} (h:Operand.tmp t∈o.op.operands):t∈o.looksAt ops:=by
 unfold Oper.looksAt
 simp only [List.mem_append]
 refine .inl ?_
 simp only [Array.mem_toList_iff,List.mem_filterMap]
 first
  | exact ⟨.tmp t,h,rfl⟩
  | exact ⟨.tmp t,by simpa using h,rfl⟩
theorem xU {o:Oper} {A:Act} {w:World} {i:Nat} {E:Nat→Nat→Bool} {T:List Nat} (hR:Rep w00 st β a0 w0) (hV:View (lK Kc Ty) T E w0 i w) (hk:known a0 w0.heap.size (es.map (kD β)) A w (o.looksAt ops)) :
 ∀ y∈o.op.operands,(evL (lO st es) y).holds β (A.eval y) w:=by
 intro y hy
 cases y with
 | tmp t=>exact kM hR.slots hV.ext (known_iff.1 hk t (looks_of hy))
 | const v=>exact fY v
 | func f=>exact ⟨rfl,rfl⟩
 | global g=>trivial
theorem drawn_mem {w:World} {i:Nat} (hR:Rep w00 st β a0 w0) (hV:View (lK Kc Ty) β (fun i k=>jA st ops i k) w0 i w):Mem β (xS ops st i) w:=by
 intro k T l hk
 unfold xS at hk
 rw [List.getElem?_map,List.getElem?_zipIdx,Option.map_map,Option.map_eq_some_iff] at hk
 obtain ⟨p,hp,hk⟩:=hk
 simp only [Function.comp,Nat.zero_add] at hk
 split at hk
 ·rename_i he
  injection hk with hk
  obtain ⟨g,cs,h1,h2,h3⟩:=hR.mem k T l (by rw [List.getElem?_map,hp,hk];rfl)
  exact ⟨g,cs,h1,(hV.early k g he h1).trans h2,h3.ext hV.ext.down⟩
 ·cases hk
theorem oD {o:Oper} {A:Act} {w:World} {i:Nat} {E:Nat→Nat→Bool} {T:List Nat} {b:Bool} (hR:Rep w00 st β a0 w0) (hV:View (lK Kc Ty) T E w0 i w) (hk:known a0 w0.heap.size (es.map (kD β)) A w (o.looksAt ops))
 (hw:qG (lO st es) ops o=some b):Region.wanted o (yielded ops A.tmps)=b:=by
 unfold qG at hw
 split at hw
 ·rename_i hg
  injection hw with hw
  subst hw
  simp [Region.wanted,hg]
 ·rename_i j want hg
  split at hw
  ·rename_i d hd
   split at hw
   ·rename_i b' hb
    injection hw with hw
    have:=kM (es:=es) hR.slots hV.ext (known_iff.1 hk d (Go.Proofs.YtklnecajplnboaaGreatDoor.guard_looks hg hd))
    rw [hb] at this
    rw [Go.Proofs.YtklnecajplnboaaGreatDoor.wanted_is hg hd (aM this)]
    exact hw
   ·rename_i hb
    injection hw with hw
    subst hw
    have:=kM (es:=es) hR.slots hV.ext (known_iff.1 hk d (Go.Proofs.YtklnecajplnboaaGreatDoor.guard_looks hg hd))
    rw [hb] at this
    obtain ⟨vs,e,e2⟩:=this
    rw [show vs = [] from e2] at e
    exact wanted_un hg hd e
   ·cases hw
  ·cases hw
theorem wT {x:AV Kc} (h:x.okT Ty=true):Stable (lK Kc Ty) (fun v w=>x.holds β v w):=fun _ _ _ hv hx=>AV.ext hv hx h
theorem stableC {l:List (Seg Kc)} {T:TypeId}:StableO (lK Kc Ty) (fun o w => ∃ cs:List Value,o = .cells cs.toArray T (0,0)∧holdsL β l cs w):=fun _ _ _ ⟨cs,e,h⟩ hx=>⟨cs,e,h.ext hx.down⟩
theorem coldB (hK:KOk Kc) {l:List (Seg Kc)} {cs:List Value} {T:TypeId} {w:World} (hl:holdsL β l cs w) (hc:coldL l=true) (hT:Ty.contains T=false):hotObj (lK Kc Ty) (.cells cs.toArray T (0,0))=false:=by
 simp only [hotObj,lK,Bool.or_eq_false_iff]
 refine ⟨?_,hT⟩
 rw [Array.any_eq_false']
 intro c hm
 simpa using holdsL.iscold hK hl hc c (by simpa using hm)
theorem newOf_mem {d:Tmp} {T:TypeId} {vs:List Value} (h:newOf es d=some (T,vs)):(some d,AKd.new T vs)∈es:=by
 unfold newOf at h
 rw [Option.bind_eq_some_iff] at h
 obtain ⟨⟨dst,kd⟩,h1,h2⟩:=h
 have hm:=List.mem_of_find?_eq_some h1
 have hp:=List.find?_some h1
 simp only [beq_iff_eq] at hp
 subst hp
 cases kd <;> simp at h2
 obtain ⟨rfl,rfl⟩:=h2
 exact hm
theorem wJ (hK:KOk Kc) {o:Oper} {rest:List Oper} {k:List Item} {c' : Cfg Kc} (h:qH P (.drawn ops (o::rest) k st Ty es)=some c') (hg:iN P f w00 Out c'):iN P f w00 Out (.drawn ops (o::rest) k st Ty es):=by
 intro β a0 w0 hR
 have hlen:(es.map (kD β)).length=es.length:=by simp
 simp only [qH] at h
 split at h
 ·rename_i e he
  injection h with h
  subst h
  have hg':=hg β a0 w0 hR
  unfold putNew at he
  split at he
  ·rename_i T d y ho hd hgd
   have core:∀ (T' : TypeId) (vs:List Value) (n:Nat) (m l' : List (Seg Kc)),newOf es d=some (T',vs)→fX P T=some n→vs.all (·.oneCell')=true→zQ (vs.map .lit) 0 m=some l'→e=(none,.put d T' l') →
    (∀ (v:Value) (w:World),(evL (lO st es) y).holds β v w→∃ cs,v.cells.toList=cs∧holdsL β m cs w)→gM m=n →
    ∃ kk,Oblig P ops (lK Kc Ty) β (fun i k=>jA st ops i k) w0 a0 (es.map (kD β)) o kk∧wpTy P ops (lK Kc Ty) β (fun i k=>jA st ops i k) w0 a0 (fun a w=>Runs P f w00 Out k a w) rest (⟨o.dst,kk⟩::es.map (kD β)):=by
    intro T' vs n m l' hnew hn hone hrep he hval hsz
    subst he
    refine ⟨lP β (.put d T' l'),?_,by rw [hd];exact hg'⟩
    refine ⟨hd,hgd,looks_of (by rw [ho];simp [Op.operands]),stableC,.cells vs.toArray T' (0,0),List.mem_map.2 ⟨_,newOf_mem hnew,rfl⟩,?_⟩
    intro A w b hV hk hA hb
    have hy:=xU hR hV hk y (by rw [ho];simp [Op.operands])
    obtain ⟨cs,hc1,hc2⟩:=hval _ _ hy
    obtain ⟨h1,h2⟩:=mS hrep (holdsL.lits hone) hc2
    obtain ⟨h3,h4⟩:=lN (P:=P) ho hA hc1 hn (by rw [hc2.len];exact hsz) hc2.one hb h2
    rw [h3]
    exact ⟨_,h4,_,rfl,h1⟩
   split at he
   ·rename_i T' vs n s hnew hn hy
    split at he
    ·rename_i hc
     simp only [Bool.and_eq_true,beq_iff_eq] at hc
     rw [Option.map_eq_some_iff] at he
     obtain ⟨l',hl',he⟩:=he
     refine core T' vs n [s] l' hnew hn hc.2 hl' he.symm (fun v w hv=>?_) (by simp [gM];omega)
     rw [hy] at hv
     exact ⟨[v],by rw [oB hv],holdsL.single hv⟩
    ·cases he
   ·rename_i T' vs n m hnew hn hy
    split at he
    ·rename_i hc
     simp only [Bool.and_eq_true,beq_iff_eq] at hc
     rw [Option.map_eq_some_iff] at he
     obtain ⟨l',hl',he⟩:=he
     refine core T' vs n m l' hnew hn hc.2 hl' he.symm (fun v w hv=>?_) hc.1
     rw [hy] at hv
     obtain ⟨cs,e,hl⟩:=hv
     exact ⟨cs,by rw [e];rfl,hl⟩
    ·cases he
   ·cases he
  ·cases he
 ·split at h
  ·rename_i hw
   rw [Option.map_eq_some_iff] at h
   obtain ⟨e,h,hc⟩:=h
   subst hc
   have hg':=hg β a0 w0 hR
   generalize hr:opA P (evL (lO st es)) (xS ops st es.length) o=r at h
   have hval:∀ {A:Act} {w:World},View (lK Kc Ty) β (fun i k=>jA st ops i k) w0 (es.map (kD β)).length w→known a0 w0.heap.size (es.map (kD β)) A w (o.looksAt ops) →
    Region.wanted o (yielded ops A.tmps)=true∧(∀ y∈o.op.operands,(evL (lO st es) y).holds β (A.eval y) w)∧Mem β (xS ops st es.length) w:=fun hV hk =>
    ⟨oD hR hV hk hw,xU hR hV hk,by rw [hlen] at hV;exact drawn_mem hR hV⟩
   cases r with
   | val x =>
     simp only [xT] at h
     split at h
     ·rename_i hx
      injection h with h
      subst h
      refine ⟨lP β (.val x),⟨wT hx,fun A w hV hk => .inl ?_⟩,hg'⟩
      obtain ⟨h1,h2,h3⟩:=hval hV hk
      obtain ⟨v,e,hv⟩:=opA_val hr h2 h3
      rw [e]
      exact ⟨h1,aB _ _,hv⟩
     ·cases h
   | new T l =>
     simp only [xT] at h
     split at h
     ·rename_i vs T' hvs hal
      split at h
      ·rename_i hc
       injection h with h
       subst h
       refine ⟨lP β (.new T vs),⟨hc.1,hc.2.1,hc.2.2,fun A w=>?_⟩,hg'⟩
       obtain ⟨cs,e,hl⟩:=opA_new (β:=β) (ρ:=A.eval) (w:=w) hr (fun y hy=>by rw [hal] at hy;simp [Op.operands] at hy)
       rw [e,mT hvs hl]
      ·cases h
     ·cases h
   | nsl n T l =>
     simp only [xT] at h
     split at h
     ·rename_i hx
      injection h with h
      subst h
      refine ⟨lP β (.val (.fv (.nsl n T l))),⟨wT hx,fun A w hV hk => .inl ?_⟩,hg'⟩
      obtain ⟨h1,h2,h3⟩:=hval hV hk
      obtain ⟨cs,e,hl⟩:=opA_nsl hr h2
      rw [e]
      exact ⟨h1,gQ w _,_,cs,rfl,heap_alloc_new w _,hl.ext (Go.Proofs.YtklnecajplnboaaGreatDoor.Ext.of_below (gQ w _))⟩
     ·cases h
   | put k' off m =>
     simp only [xT] at h
     split at h
     ·rename_i T l hk' hd hgd
      split at h
      ·rename_i l' hrep
       split at h
       ·rename_i hc
        injection h with h
        subst h
        obtain ⟨g,cs,hg1,hg2,hg3⟩:=hR.mem k' T l (by rw [List.getElem?_map,hk'];rfl)
        refine ⟨lP β (.old k' T l'),⟨hd,hgd,stableC,g,_,hg1,hg2,coldB hK hg3 hc.2.1 hc.2.2,fun A w hV hk hb=>?_⟩,by rw [hd];exact hg'⟩
        obtain ⟨h1,h2,h3⟩:=hval hV hk
        obtain ⟨ds,w',e,ht,hl⟩:=opA_put hr h2 hg1 hb (hg3.ext hV.ext.down) hrep
        rw [e]
        exact ⟨_,ht,ds,rfl,hl⟩
       ·cases h
      ·cases h
     ·cases h
   | call g args=>cases h
   | stop=>cases h
  ·rename_i hw
   injection h with h
   subst h
   refine ⟨lP β (.val (.tup [])),⟨wT rfl,fun A w hV hk => .inr ⟨oD hR hV hk hw,[],rfl,rfl⟩⟩,hg β a0 w0 hR⟩
  ·cases h
end
end Ab
namespace Ab
open Go.RowKit
variable {Kc:Value→Bool}
section
variable {P:Program} {f:FuncId} {w00:World} {Out:Value→World→Prop} {st:St Kc} {β:List Nat} {a0:Act} {w0:World} {es:List (AE Kc)} {Ty:List TypeId} {ops:Array Oper}
def blockNo:Value→Nat
 | .pointer (some a)=>a.block
 | _=>0
theorem sC {α γ δ:Type} {g:α→γ} {h:α→δ}:∀ {l:List α},(l.map g).Nodup→(∀ x∈l,∀ y∈l,h x=h y→g x=g y)→(l.map h).Nodup
 | [],_,_=>by simp
 | a::l,hn,hi=>by
   rw [List.map_cons,List.nodup_cons] at hn ⊢
   refine ⟨fun hm=>hn.1 ?_,sC hn.2 (fun x hx y hy=>hi x (by simp [hx]) y (by simp [hy]))⟩
   obtain ⟨b,hb,e⟩:=List.mem_map.1 hm
   rw [List.mem_map]
   exact ⟨b,hb,hi b (by simp [hb]) a (by simp) e⟩
theorem qW {n:Tmp×TypeId×List Value} (h:n∈kC es):(some n.1,AKd.new n.2.1 n.2.2)∈es:=by
 unfold kC at h
 obtain ⟨e,he,h2⟩:=List.mem_filterMap.1 h
 rw [List.mem_reverse] at he
 obtain ⟨dst,kd⟩:=e
 cases dst <;> cases kd <;> simp at h2
 subst h2
 exact he
theorem putOfA_mem {d:Tmp} {T:TypeId} {l:List (Seg Kc)} (h:oC es d=some (T,l)):(none,AKd.put d T l)∈es:=by
 unfold oC at h
 obtain ⟨e,he,h2⟩:=List.exists_of_findSome?_eq_some h
 obtain ⟨dst,kd⟩:=e
 cases dst <;> cases kd <;> simp at h2
 obtain ⟨rfl,rfl,rfl⟩:=h2
 exact he
theorem putOfA_none {d:Tmp} (h:oC es d=none) (T:TypeId) (l:List (Seg Kc)):(none,AKd.put d T l)∉es:=fun hm=>by
 unfold oC at h
 rw [List.findSome?_eq_none_iff] at h
 have:=h _ hm
 simp at this
theorem oldOfA_mem {k:Nat} {T:TypeId} {l:List (Seg Kc)} (h:tX es k=some (T,l)):(none,AKd.old k T l)∈es:=by
 unfold tX at h
 obtain ⟨e,he,h2⟩:=List.exists_of_findSome?_eq_some h
 obtain ⟨dst,kd⟩:=e
 cases dst <;> cases kd <;> simp at h2
 obtain ⟨rfl,rfl,rfl⟩:=h2
 exact he
theorem oldOfA_none {k:Nat} (h:tX es k=none) (T:TypeId) (l:List (Seg Kc)):(none,AKd.old k T l)∉es:=fun hm=>by
 unfold tX at h
 rw [List.findSome?_eq_none_iff] at h
 have:=h _ hm
 simp at this
theorem put_conc {d:Tmp} {S:Obj→World→Prop} (h:(⟨none,.put d S⟩:Ent)∈es.map (kD β)):∃ T l,(none,AKd.put d T l)∈es∧S=(fun o w => ∃ cs:List Value,o = .cells cs.toArray T (0,0)∧holdsL β l cs w):=by
 obtain ⟨⟨dst,kd⟩,he,h2⟩:=List.mem_map.1 h
 cases kd <;> simp [kD,lP] at h2
 obtain ⟨rfl,rfl,rfl⟩:=h2
 exact ⟨_,_,he,rfl⟩
theorem old_conc {k:Nat} {S:Obj→World→Prop} (h:(⟨none,.old k S⟩:Ent)∈es.map (kD β)):∃ T l,(none,AKd.old k T l)∈es:=by
 obtain ⟨⟨dst,kd⟩,he,h2⟩:=List.mem_map.1 h
 cases kd <;> simp [kD,lP] at h2
 obtain ⟨rfl,rfl,rfl⟩:=h2
 exact ⟨_,_,he⟩
theorem onceA_B (h:onceA es=true):onceB (es.map (kD β))=true:=by
 unfold onceA at h
 simp only [Bool.and_eq_true,decide_eq_true_eq] at h
 unfold onceB
 simp only [Bool.and_eq_true,decide_eq_true_eq,List.filterMap_map]
 have e1:(putOf∘kD (Kc:=Kc) β)=(fun e:AE Kc=>match e with|(none,.put d _ _)=>some d|_=>none):=by
  funext ⟨dst,kd⟩
  cases dst <;> cases kd <;> rfl
 have e2:(oldOf∘kD (Kc:=Kc) β)=(fun e:AE Kc=>match e with|(none,.old k _ _)=>some k|_=>none):=by
  funext ⟨dst,kd⟩
  cases dst <;> cases kd <;> rfl
 rw [e1,e2]
 exact ⟨h.1.1.1,h.1.1.2⟩
theorem earlyA_B (h:earlyA st ops es=true):xL .any ops (fun i k=>jA st ops i k) (es.map (kD β)).reverse=true:=by
 unfold earlyA at h
 unfold xL
 simp only [List.all_eq_true] at h ⊢
 intro j hj
 have h1:=h j hj
 rw [← List.map_reverse,List.getElem?_map]
 cases he:es.reverse[j]? with
 | none=>rfl
 | some e =>
   obtain ⟨dst,kd⟩:=e
   rw [he] at h1
   cases dst <;> cases kd <;> first|rfl|exact h1
theorem xV {k:List Item} {c' : Cfg Kc} (h:qH P (.drawn ops [] k st Ty es)=some c') (hg:iN P f w00 Out c'):iN P f w00 Out (.drawn ops [] k st Ty es):=by
 intro β a0 w0 hR
 simp only [qH] at h
 split at h
 ·rename_i hc
  injection h with h
  subst h
  rw [Bool.and_eq_true,Bool.and_eq_true] at hc
  have hro:=hc.2
  replace hc:=hc.1
  refine ⟨onceA_B hc.1,earlyA_B hc.2,fun F w hB hX hF hS hA=>?_⟩
  have hc1:=hc.1
  unfold onceA at hc1
  simp only [Bool.and_eq_true,decide_eq_true_eq] at hc1
  obtain ⟨⟨⟨_,_⟩,hnd⟩,hones⟩:=hc1
  have hsize:∀ (G:List Ent),(frameOf a0 G F).tmps.size=a0.tmps.size:=frameOf_size
  -- what each variable holds
  have hnew:∀ n∈kC es,∃ b,F n.1 = .pointer (some ⟨b,0,none⟩)∧w0.heap.size≤b∧b<w.heap.size ∧
   ∃ cs,w.heap[b]?=some (.cells cs.toArray ((oC es n.1).getD (n.2.1,n.2.2.map .lit)).1 (0,0))∧holdsL β ((oC es n.1).getD (n.2.1,n.2.2.map .lit)).2 cs w:=by
   intro n hn
   have hm:=qW hn
   have:=hF _ (List.mem_map.2 ⟨_,hm,rfl⟩)
   simp only [kD,lP,Final1] at this
   obtain ⟨b,e1,e2,e3,e4,e5⟩:=this
   refine ⟨b,e1,e2,e3,?_⟩
   cases hp:oC es n.1 with
   | some q =>
     obtain ⟨T,l⟩:=q
     obtain ⟨o,⟨cs,ho,hl⟩,hb⟩:=e5 _ (List.mem_map.2 ⟨_,putOfA_mem hp,rfl⟩)
     subst ho
     exact ⟨cs,hb,hl⟩
   | none =>
     refine ⟨n.2.2,e4 (fun S hS=>?_),holdsL.lits ?_⟩
     ·obtain ⟨T,l,hm2,_⟩:=put_conc hS
      exact putOfA_none hp T l hm2
     ·exact List.all_eq_true.1 hones n hn
  obtain ⟨γ,hγ⟩:∃ γ,γ=(kC es).map fun n=>blockNo (F n.1):=⟨_,rfl⟩
  have hγget:∀ (j:Nat) n,(kC es)[j]?=some n→γ[j]?=some (blockNo (F n.1)):=fun j n hj=>by rw [hγ,List.getElem?_map,hj];rfl
  have hγmem:∀ g∈γ,w0.heap.size≤g∧g<w.heap.size:=fun g hgm=>by
   rw [hγ] at hgm
   obtain ⟨n,hn,e⟩:=List.mem_map.1 hgm
   obtain ⟨b,e1,e2,e3,_⟩:=hnew n hn
   rw [e1] at e
   subst e
   exact ⟨e2,e3⟩
  have hγnd:γ.Nodup:=by
   rw [hγ]
   refine sC hnd (fun x hx y hy e=>?_)
   apply Classical.byContradiction
   intro hne
   have h1:=hA x.1 y.1 _ _ (List.mem_map.2 ⟨_,qW hx,rfl⟩) (List.mem_map.2 ⟨_,qW hy,rfl⟩) hne
   obtain ⟨b,e1,_⟩:=hnew x hx
   obtain ⟨b',e2,_⟩:=hnew y hy
   rw [e1,e2] at e h1
   simp only [blockNo] at e
   exact h1 (by rw [e])
  refine hg (β++γ) _ w ⟨by rw [frameOf_defers];exact hR.defers,by rw [hsize];simp [sB];exact hR.size,fun t=>?_,?_,?_,?_,?_,?_,?_⟩
  ·-- slots
   unfold St.slot sB
   simp only
   by_cases ht:t<st.slots.length
   ·rw [List.getD_eq_getElem?_getD,List.getElem?_map,List.getElem?_range ht]
    simp only [Option.map_some,Option.getD_some]
    unfold slotE
    split
    ·rename_i d x hf
     have hp:=List.find?_some hf
     simp only [beq_iff_eq] at hp
     subst hp
     have hm:=List.mem_of_find?_eq_some hf
     have:=hF _ (List.mem_map.2 ⟨_,hm,rfl⟩)
     simp only [kD,lP,Final1] at this
     rw [frameOf_hit ⟨_,List.mem_map.2 ⟨_,hm,rfl⟩,rfl⟩ (by rw [hR.size];exact ht)]
     exact AV.more (mW this)
    ·rename_i d T vs hf
     have hp:=List.find?_some hf
     simp only [beq_iff_eq] at hp
     subst hp
     have hm:=List.mem_of_find?_eq_some hf
     rw [frameOf_hit ⟨_,List.mem_map.2 ⟨_,hm,rfl⟩,rfl⟩ (by rw [hR.size];exact ht)]
     split
     ·rename_i j hj
      rw [List.findIdx?_eq_some_iff_getElem] at hj
      obtain ⟨hlt,h1,_⟩:=hj
      simp only [beq_iff_eq] at h1
      have hget:(kC es)[j]?=some (kC es)[j]:=List.getElem?_eq_getElem hlt
      obtain ⟨b,e1,_⟩:=hnew _ (List.mem_of_getElem? hget)
      rw [h1] at e1
      rw [e1]
      refine kB ?_
      rw [List.getElem?_append_right (by rw [hR.len];omega),hR.len,Nat.add_sub_cancel_left,hγget j _ hget,h1,e1]
      rfl
     ·trivial
    ·trivial
    ·rename_i hf
     rw [List.find?_eq_none] at hf
     rw [frameOf_miss (fun e he hd=>by
      obtain ⟨e',he',rfl⟩:=List.mem_map.1 he
      exact hf e' he' (by simpa [kD] using hd))]
     exact AV.more (AV.ext (mW (hR.slots t)) hX kill_okT)
   ·rw [List.getD_eq_getElem?_getD,List.getElem?_eq_none (show ((List.range st.slots.length).map (slotE st es)).length≤t by simp;exact Nat.le_of_not_lt ht)]
    trivial
  ·simp [sB,hR.len,hγ]
  ·rw [List.nodup_append]
   exact ⟨hR.nodup,hγnd,fun x hx y hy e=>by
    have h1:=hR.lt x hx
    have h2:=(hγmem y hy).1
    omega⟩
  ·-- blocks
   intro k' T l hk
   rw [List.getElem?_map,Option.map_eq_some_iff] at hk
   obtain ⟨q,hk,e⟩:=hk
   injection e with e
   subst e
   simp only [sB] at hk
   rw [List.getElem?_append] at hk
   split at hk
   ·rename_i hlt
    rw [List.getElem?_map,Option.map_eq_some_iff] at hk
    obtain ⟨q,hq,e⟩:=hk
    rw [List.getElem?_zipIdx,Option.map_eq_some_iff] at hq
    obtain ⟨p0,hp0,rfl⟩:=hq
    simp only [Nat.zero_add] at e
    cases ho:tX es k' with
    | some q2 =>
      rw [ho] at e
      simp only [Option.getD_some] at e
      subst e
      have:=hF _ (List.mem_map.2 ⟨_,oldOfA_mem ho,rfl⟩)
      simp only [kD,lP,Final1] at this
      obtain ⟨b,o,hb,⟨cs,ho2,hl⟩,hh⟩:=this
      subst ho2
      exact ⟨b,cs,by rw [List.getElem?_append_left (List.getElem?_eq_some_iff.1 hb).1];exact hb,hh,hl.more⟩
    | none =>
      rw [ho] at e
      simp only [Option.getD_none] at e
      subst e
      obtain ⟨g,cs,h1,h2,h3⟩:=hR.mem k' T l (by rw [List.getElem?_map,hp0];rfl)
      refine ⟨g,cs,by rw [List.getElem?_append_left (List.getElem?_eq_some_iff.1 h1).1];exact h1,?_,(h3.ext hX.down).more⟩
      rw [hS k' g h1 (fun S hm=>by obtain ⟨T2,l2,hm2⟩:=old_conc hm;exact oldOfA_none ho T2 l2 hm2)]
      exact h2
   ·rename_i hge
    rw [List.getElem?_map,Option.map_eq_some_iff] at hk
    obtain ⟨n,hn,e⟩:=hk
    simp only [List.length_map,List.length_zipIdx] at hn hge
    obtain ⟨b,e1,e2,e3,cs,e4,e5⟩:=hnew n (List.mem_of_getElem? hn)
    rw [e] at e4 e5
    refine ⟨b,cs,?_,e4,e5.more⟩
    rw [List.getElem?_append_right (by rw [hR.len];omega),hR.len,hγget _ n hn,e1]
    rfl
  ·intro g hgm
   rcases List.mem_append.1 hgm with hgm|hgm
   ·exact Nat.lt_of_lt_of_le (hR.lt g hgm) hB.size
   ·exact (hγmem g hgm).2
  ·intro k' g hk
   rw [List.getElem?_append] at hk
   split at hk
   ·exact hR.own k' g hk
   ·exact .inr (Nat.le_trans hR.below.size (hγmem g (List.mem_of_getElem? hk)).1)
  ·refine ⟨hB.os.trans hR.below.os,hB.tape.trans hR.below.tape,hB.output.trans hR.below.output,Nat.le_trans hR.below.size hB.size,fun k' hk'=>?_⟩
   have hlt:k'<w0.heap.size:=Nat.lt_of_lt_of_le hk' hR.below.size
   rw [← hR.below.block k' hk']
   by_cases hm:k'∈β
   ·obtain ⟨i,hi⟩:=List.getElem?_of_mem hm
    refine hS i k' hi (fun S hS2=>?_)
    obtain ⟨T,l,hm2⟩:=old_conc hS2
    unfold roA at hro
    have h1:=List.all_eq_true.1 hro _ hm2
    simp only [decide_eq_true_eq] at h1
    rcases hR.own i k' hi with h2|h2
    ·exact absurd h1 (Nat.not_le_of_lt h2)
    ·omega
   ·exact hB.block k' hlt hm
 ·cases h
end
end Ab
namespace Ab
open Go.RowKit
variable {Kc:Value→Bool}
section
variable {P:Program} {f:FuncId} {w00:World} {Out:Value→World→Prop}
theorem good_step (hm:P.follows .mixedOrders=true) (hK:KOk Kc) {c c' : Cfg Kc} (h:qH P c=some c') (hg:iN P f w00 Out c'):iN P f w00 Out c:=by
 match c,h with
 | .items todo st,h=>exact good_items hm h hg
 | .plain ops rest k st,h=>exact good_plain hK h hg
 | .drawn ops [] k st Ty es,h=>exact xV h hg
 | .drawn ops (o::rest) k st Ty es,h=>exact wJ hK h hg
theorem good_run (hm:P.follows .mixedOrders=true) (hK:KOk Kc):∀ (n:Nat) {c:Cfg Kc},iN P f w00 Out (cG P n c)→iN P f w00 Out c
 | 0,_,h=>h
 | n + 1,c,h=>by
   simp only [cG] at h
   split at h
   ·rename_i c' hc
    exact good_step hm hK hc (good_run hm hK n h)
   ·exact h
def Cfg.canB:Cfg Kc→Bool
 | .drawn _ _ _ st _ _=>st.ro==0
 | _=>true
theorem good_op {c:Cfg Kc} (o:Oper) (x:AV Kc) (ho:c.op=some o) (hx:c.okT x=true)
 (h:∀ β ρ w,(c.canB=true→Below w00.heap.size w00 w)→Mem β c.mem w→(∀ y∈o.op.operands,(c.ev y).holds β (ρ y) w) →
  (∃ v w',(execOp ρ o).run P w = .ok (.value v) w'∧Below w.heap.size w w'∧x.holds β v w') ∨
  (∃ fn vs,(execOp ρ o).run P w = .ok (.enter fn vs) w∧Calls P fn vs w fun e w' => ∃ v,e = .returned v∧Below w.heap.size w w'∧x.holds β v w'))
 (hg:iN P f w00 Out (c.give x)):iN P f w00 Out c:=by
 match c,ho with
 | .plain ops (o'::rest) k st,ho =>
   simp only [Cfg.op] at ho
   split at ho
   ·rename_i hw
    injection ho with ho
    subst ho
    intro β a w hR
    refine iG (hR.wants hw) ?_
    unfold Oper.wp
    rcases h β a.eval w (fun _=>hR.below) hR.mem (fun y _=>hR.ev y) with ⟨v,w',e,hb,hv⟩|⟨fn,vs,e,hc⟩
    ·rw [e]
     exact hg β _ _ ((hR.grow hb).put hv)
    ·rw [e]
     simp only [Oper.upon]
     refine hc.mono fun e w' ⟨v,he,hb,hv⟩=>?_
     subst he
     exact hg β _ _ ((hR.grow hb).put hv)
   ·cases ho
 | .drawn ops (o'::rest) k st Ty es,ho =>
   simp only [Cfg.op] at ho
   split at ho
   ·rename_i hw
    injection ho with ho
    subst ho
    intro β a0 w0 hR
    refine ⟨lP β (.val x),⟨wT hx,fun A w hV hk => .inl ⟨oD hR hV hk hw,?_⟩⟩,hg β a0 w0 hR⟩
    have hlen:(es.map (kD β)).length=es.length:=by simp
    have hM:Mem β (xS ops st es.length) w:=by rw [hlen] at hV;exact drawn_mem hR hV
    have hBel:(Cfg.drawn ops (o'::rest) k st Ty es:Cfg Kc).canB=true→Below w00.heap.size w00 w:=fun hro=>by
     refine ⟨hV.base.os.trans hR.below.os,hV.base.tape.trans hR.below.tape,hV.base.output.trans hR.below.output,Nat.le_trans hR.below.size hV.base.size,fun k' hk'=>?_⟩
     rw [hV.base.block k' (Nat.lt_of_lt_of_le hk' hR.below.size) (fun hm=>?_)]
     ·exact hR.below.block k' hk'
     ·obtain ⟨i,hi⟩:=List.getElem?_of_mem hm
      rcases hR.own i k' hi with h2|h2
      ·simp only [Cfg.canB,beq_iff_eq] at hro
       omega
      ·omega
    rcases h β A.eval w hBel hM (xU hR hV hk) with ⟨v,w',e,hb,hv⟩|⟨fn,vs,e,hc⟩
    ·rw [e]
     exact ⟨hb,hv⟩
    ·rw [e]
     exact ⟨rfl,hc.mono fun e w' ⟨v,he,hb,hv⟩=>⟨v,he,hb,hv⟩⟩
   ·cases ho
 | .items _ _,ho=>cases ho
 | .plain _ [] _ _,ho=>cases ho
 | .drawn _ [] _ _ _ _,ho=>cases ho
theorem pM {c:Cfg Kc} (fn:FuncId) (x:AV Kc) (hf:c.callee P=some fn) (hx:c.okT x=true) (hfn:∀ (args:Array Value) (w:World),(callFunc fn args).run P w = .ok (.enter fn args) w)
 (h:∀ β w vs,(c.canB=true→Below w00.heap.size w00 w)→Mem β c.mem w→holdsA β (c.args P) vs w→Calls P fn vs.toArray w fun e w' => ∃ v,e = .returned v∧Below w.heap.size w w'∧x.holds β v w')
 (hg:iN P f w00 Out (c.give x)):iN P f w00 Out c:=by
 unfold Cfg.callee at hf
 split at hf
 ·rename_i o ho
  split at hf
  ·rename_i g l hr
   injection hf with hf
   subst hf
   refine good_op o x ho hx (fun β ρ w hB hM hs => .inr ?_) hg
   obtain ⟨vs,e,hv⟩:=opA_call hr hs
   rw [hfn] at e
   refine ⟨_,_,e,h β w vs hB hM ?_⟩
   unfold Cfg.args
   rw [ho]
   simp only [hr]
   exact hv
  ·cases hf
 ·cases hf
def xW (tmps:Array Value):ResultVar→Sem Value
 | .tmp t=>pure (tmps.getD t undef)
 | .cell t T=>do loadVar T (← asAddr (tmps.getD t undef))
theorem sD:∀ {l:List ResultVar} {st:St Kc} {fs:List (FV Kc)} {β:List Nat} {a:Act} {w:World},resA P st l=some fs→Rep w00 st β a w →
 ∃ vs:List Value,(l.mapM (xW a.tmps)).run P w = .ok vs w∧holdsF β fs vs w
 | [],st,fs,β,a,w,h,hR=>by
   injection h with h
   subst h
   exact ⟨[],rfl,rfl⟩
 | .tmp t::l,st,fs,β,a,w,h,hR=>by
   simp only [resA] at h
   split at h
   ·rename_i y hy
    rw [Option.map_eq_some_iff] at h
    obtain ⟨r,hr,rfl⟩:=h
    obtain ⟨vs,e,hv⟩:=sD hr hR
    have h1:=hR.slots t
    rw [hy] at h1
    refine ⟨a.eval (.tmp t)::vs,?_,⟨_,_,rfl,h1,hv⟩⟩
    have h0:(xW a.tmps (.tmp t)).run P w = .ok (a.eval (.tmp t)) w:=rfl
    rw [List.mapM_cons,Sem.run_bind,h0]
    simp only [Result.andThen,Sem.run_bind,e,Sem.run_pure]
   ·cases h
 | .cell t T::l,st,fs,β,a,w,h,hR=>by
   simp only [resA] at h
   split at h
   ·rename_i k off hy
    split at h
    ·rename_i T' m hm
     split at h
     ·rename_i y hp
      rw [Option.map_eq_some_iff] at h
      obtain ⟨r,hr,rfl⟩:=h
      obtain ⟨vs,e,hv⟩:=sD hr hR
      have h1:=hR.slots t
      rw [hy] at h1
      obtain ⟨g,hg,hv1⟩:=fZ h1
      obtain ⟨g',cs,hg',hh,hl⟩:=hR.mem k T' m (by rw [List.getElem?_map,hm];rfl)
      rw [hg] at hg'
      injection hg' with hg'
      subst hg'
      obtain ⟨v,hlv,hx⟩:=qF hp hh hl
      refine ⟨v::vs,?_,⟨_,_,rfl,hx,hv⟩⟩
      have hev:a.tmps.getD t undef = .pointer (some ⟨g,off,none⟩):=hv1
      have h0:(xW a.tmps (.cell t T)).run P w = .ok v w:=by
       simp only [xW,hev,asAddr,Sem.run_bind,Sem.run_pure,Result.andThen,hlv]
      rw [List.mapM_cons,Sem.run_bind,h0]
      simp only [Result.andThen,Sem.run_bind,e,Sem.run_pure]
     ·cases h
    ·cases h
   ·cases h
theorem kO {fn:Func} {a:Act} {w:World} {vs:List Value} (h:(fn.results.toList.mapM (xW a.tmps)).run P w = .ok vs w) :
 (results fn a.tmps).run P w = .ok (if h:vs.toArray.size=1 then vs.toArray[0] else .tuple vs.toArray) w:=by
 have h0:(fn.results.mapM (xW a.tmps)).run P w = .ok vs.toArray w:=by
  rw [Array.mapM_eq_mapM_toList]
  simp [h]
 have h1:results fn a.tmps=(do let vs←fn.results.mapM (xW a.tmps);pure (if h:vs.size=1 then vs[0] else .tuple vs)):=rfl
 rw [h1,Sem.run_bind,h0]
 rfl
theorem xX {c:Cfg Kc} {fn:Func} (hfn:P.funcs[f]?=some fn) (x:AV Kc) (hr:c.res P fn=some x) (h:∀ β v w,x.holds β v w→Out v w):iN P f w00 Out c:=by
 have key:∀ (st:St Kc) (β:List Nat) (a:Act) (w:World),Rep w00 st β a w→(match resA P st fn.results.toList with|some [f]=>some (AV.fv f)|some l=>some (.tup l)|none=>none)=some x→∃ v,(results fn a.tmps).run P w = .ok v w∧Out v w:=by
  intro st β a w hR hr
  split at hr
  ·rename_i y hy
   injection hr with hr
   subst hr
   obtain ⟨vs,e,v,r,rfl,h1,h2⟩:=sD hy hR
   rw [show r = [] from h2] at e
   refine ⟨v,?_,h β v w h1⟩
   rw [kO e]
   rfl
  ·rename_i l hne hy
   injection hr with hr
   subst hr
   obtain ⟨vs,e,hv⟩:=sD hy hR
   refine ⟨.tuple vs.toArray,?_,h β _ w ⟨vs,rfl,hv⟩⟩
   rw [kO e,dif_neg]
   intro h1
   have hlen:∀ {l:List (FV Kc)} {us:List Value},holdsF β l us w→us.length=l.length:=fun {l}=>by
    induction l with
    | nil=>intro us h;rw [show us = [] from h];rfl
    | cons x l ih=>rintro us ⟨v,r,rfl,_,h2⟩;simp [ih h2]
   have h2:=hlen hv
   simp at h1
   rw [h1] at h2
   match l,h2,hne with
   | [y],_,hne=>exact hne y rfl
  ·cases hr
 unfold Cfg.res at hr
 split at hr
 ·rename_i todo st
  split at hr
  ·intro β a w hR cs
   obtain ⟨v,e,ho⟩:=key st β a w hR hr
   exact ⟨.returned v,w,_,⟨v,rfl,hR.below,ho⟩,Steps.one step_end,rfl,rfl,hR.defers,rfl,fn,hfn,e⟩
  ·intro β a w hR cs
   obtain ⟨v,e,ho⟩:=key st β a w hR hr
   exact ⟨.returned v,w,_,⟨v,rfl,hR.below,ho⟩,Steps.one step_ret,rfl,rfl,hR.defers,rfl,fn,hfn,e⟩
  ·cases hr
 ·cases hr
theorem eM {fn:Func} {code:Code} (hfn:P.funcs[f]?=some fn) (hb:fn.body=some code) (args:List (AV Kc)) (bl:List (TypeId×List (Seg Kc))) (β:List Nat) (vs:List Value) (n:Nat)
 (hn:fn.ntmps=args.length+n) (ha:holdsA β args vs w00) (hl:β.length=bl.length) (hnd:β.Nodup) (hM:Mem β (bl.map some) w00) (hlt:∀ g∈β,g<w00.heap.size)
 (hg:iN P f w00 Out (.items [.code code] { slots:=args++List.replicate n .un,blocks:=bl,ro:=bl.length })) :
 Calls P f vs.toArray w00 (Rets w00 Out):=by
 intro cs
 have hlen:∀ {l:List (AV Kc)} {us:List Value},holdsA β l us w00→us.length=l.length:=fun {l}=>by
  induction l with
  | nil=>intro us h;rw [show us = [] from h];rfl
  | cons x l ih=>rintro us ⟨v,r,rfl,_,h2⟩;simp [ih h2]
 have hget:∀ {l:List (AV Kc)} {us:List Value} (t:Nat),holdsA β l us w00→(l.getD t .un).holds β (us.getD t undef) w00:=fun {l}=>by
  induction l with
  | nil=>intro us t h;simp [AV.un];trivial
  | cons x l ih =>
    rintro us t ⟨v,r,rfl,h1,h2⟩
    cases t with
    | zero=>exact h1
    | succ t=>exact ih t h2
 have hn2:fn.ntmps-vs.toArray.size=n:=by simp [hlen ha];omega
 have henter:Frame.enter P f vs.toArray .normal=(baseF f).at { tmps:=vs.toArray++Array.replicate n undef,defers := [] } [.code code]:=by
  simp only [Frame.enter,Frame.at,hfn,baseF]
  simp [hb,← hn2]
 rw [henter]
 refine hg β _ w00 ⟨rfl,by simp [hlen ha],fun t=>?_,hl,hnd,hM,hlt,fun k g hk => .inl ?_,aB _ _⟩ cs
 ·unfold St.slot
  simp only [Act.eval]
  have h1:=hget t ha
  rw [List.getD_eq_getElem?_getD] at h1 ⊢
  rw [Array.getD_eq_getD_getElem?,Array.getElem?_append,List.getElem?_append]
  by_cases ht:t<args.length
  ·rw [if_pos ht,if_pos (by simp [hlen ha];exact ht)]
   simpa [List.getD_eq_getElem?_getD] using h1
  ·rw [if_neg ht,List.getElem?_replicate]
   split <;> trivial
 ·have:=(List.getElem?_eq_some_iff.1 hk).1
  rw [← hl];exact this
end
end Ab
namespace Pl
def sg (neg:Bool) (n:Nat):Int:=if neg then -(n:Int) else n
theorem sg_abs (neg:Bool) (n:Nat):(sg neg n).natAbs=n:=by unfold sg;split <;> simp
theorem xY (z:Int):sg (decide (z<0)) z.natAbs=z:=by
 unfold sg
 by_cases h:z<0
 ·rw [if_pos (by simpa using h)];omega
 ·rw [if_neg (by simpa using h)];omega
theorem sg_mul (neg:Bool) (a b:Nat):sg neg (a*b)=sg neg a*b:=by
 unfold sg;split <;> simp [Int.neg_mul]
theorem sg_zero (neg:Bool):sg neg 0=0:=by unfold sg;split <;> rfl
theorem sg_neg {neg:Bool} {n:Nat} (h:n=0→neg=false):decide (sg neg n<0)=neg:=by
 unfold sg
 cases neg
 ·simp
 ·have:n≠0:=fun e=>by have:=h e;cases this
  simp;omega
theorem rat_parts {q:Rat} {N:Int} {D:Nat} (hD:D≠0) (h:q=mkRat N D) (hc:N.natAbs.gcd D=1):q.num=N∧q.den=D:=by
 have:=Rat.mk_eq_mkRat N D hD hc
 rw [h,← this]
 exact ⟨rfl,rfl⟩
def Parts (q:Rat) (neg:Bool) (n d:Nat):Prop:=neg=decide (q.num<0)∧n=q.num.natAbs∧d=q.den
theorem Parts.of {q:Rat} {neg:Bool} {n d:Nat} (hd:d≠0) (h:q=mkRat (sg neg n) d) (hc:n.gcd d=1) (h0:n=0→neg=false):Parts q neg n d:=by
 obtain ⟨h1,h2⟩:=rat_parts hd h (by rw [sg_abs];exact hc)
 exact ⟨by rw [h1,sg_neg h0],by rw [h1,sg_abs],h2.symm⟩
theorem Parts.self (q:Rat):Parts q (decide (q.num<0)) q.num.natAbs q.den:=⟨rfl,rfl,rfl⟩
theorem Parts.num_eq {q:Rat} {neg:Bool} {n d:Nat} (h:Parts q neg n d):q.num=sg neg n:=by
 obtain ⟨rfl,rfl,rfl⟩:=h
 exact (xY _).symm
theorem Parts.cop {q:Rat} {neg:Bool} {n d:Nat} (h:Parts q neg n d):n.gcd d=1:=by
 obtain ⟨rfl,rfl,rfl⟩:=h
 exact q.reduced
theorem Parts.pos {q:Rat} {neg:Bool} {n d:Nat} (h:Parts q neg n d):0<d:=by
 obtain ⟨rfl,rfl,rfl⟩:=h
 exact q.den_pos
theorem Parts.zero:Parts 0 false 0 1:=⟨rfl,rfl,rfl⟩
theorem Parts.reduce {neg:Bool} {n d:Nat} (hn:n≠0) (hd:d≠0):Parts (mkRat (sg neg n) d) neg (n/n.gcd d) (d/n.gcd d):=by
 have hg:0<n.gcd d:=Nat.gcd_pos_of_pos_right _ (by omega)
 have h1:=Nat.div_mul_cancel (Nat.gcd_dvd_left n d)
 have h2:=Nat.div_mul_cancel (Nat.gcd_dvd_right n d)
 refine Parts.of (Nat.ne_of_gt (Nat.div_pos (Nat.le_of_dvd (by omega) (Nat.gcd_dvd_right n d)) hg)) ?_ (Nat.gcd_div_gcd_div_gcd_of_pos_right (by omega)) ?_
 ·have := @Rat.mkRat_mul_right (sg neg (n/n.gcd d)) (d/n.gcd d) (n.gcd d) (by omega)
  rw [← sg_mul,h1,h2] at this
  exact this
 ·intro h0
  rw [h0] at h1
  omega
theorem Parts.reduced {neg:Bool} {n d:Nat} (hn:n≠0) (hd:d≠0) (hc:n.gcd d=1):Parts (mkRat (sg neg n) d) neg n d:=by
 have:=Parts.reduce (neg:=neg) hn hd
 rwa [hc,Nat.div_one,Nat.div_one] at this
theorem tZ (p q:Rat) {S:Int} {g ma mb:Nat} (hg:g=p.den.gcd q.den) (hma:ma=p.den/g) (hmb:mb=q.den/g) (hS:S=p.num*mb+q.num*ma) :
 0<g∧0<ma∧0<mb∧p.den=ma*g∧q.den=mb*g∧p+q=mkRat S (ma*mb*g)∧S.natAbs.gcd g=S.natAbs.gcd (ma*mb*g):=by
 have hp:=p.den_pos
 have hq:=q.den_pos
 have hg0:0<g:=by rw [hg];exact Nat.gcd_pos_of_pos_left _ hp
 have e1:p.den=ma*g:=by rw [hma,hg];exact (Nat.div_mul_cancel (Nat.gcd_dvd_left _ _)).symm
 have e2:q.den=mb*g:=by rw [hmb,hg];exact (Nat.div_mul_cancel (Nat.gcd_dvd_right _ _)).symm
 have a0:0<ma:=Nat.pos_of_ne_zero (fun h=>by rw [h] at e1;omega)
 have b0:0<mb:=Nat.pos_of_ne_zero (fun h=>by rw [h] at e2;omega)
 refine ⟨hg0,a0,b0,e1,e2,?_,?_⟩
 ·rw [Rat.add_def']
  have hm := @Rat.mkRat_mul_right S (ma*mb*g) g (by omega)
  rw [← hm]
  congr 1
  ·rw [hS,e1,e2]
   push_cast
   grind
  ·rw [e1,e2]
   grind
 ·have:=Rat.add.aux p q hg hma hmb
  simp only [← hS] at this
  rw [this,e2,Nat.mul_assoc]
theorem Parts.add {p q:Rat} {S:Int} {g ma mb:Nat} {neg:Bool} (hg:g=p.den.gcd q.den) (hma:ma=p.den/g) (hmb:mb=q.den/g) (hS:S=p.num*mb+q.num*ma) (hn:sg neg S.natAbs=S) (h0:S.natAbs≠0) :
 Parts (p+q) neg (S.natAbs/S.natAbs.gcd g) (ma*mb*(g/S.natAbs.gcd g)):=by
 obtain ⟨g0,a0,b0,_,_,hpq,hgcd⟩:=tZ p q hg hma hmb hS
 have h1:=Parts.reduce (neg:=neg) (n:=S.natAbs) (d:=ma*mb*g) h0 (Nat.ne_of_gt (Nat.mul_pos (Nat.mul_pos a0 b0) g0))
 rw [hn,← hpq,← hgcd,Nat.mul_div_assoc _ (Nat.gcd_dvd_right _ _)] at h1
 exact h1
theorem xZ {p q:Rat} {S:Int} {g ma mb:Nat} (hg:g=p.den.gcd q.den) (hma:ma=p.den/g) (hmb:mb=q.den/g) (hS:S=p.num*mb+q.num*ma) (h0:S.natAbs=0):p+q=0:=by
 obtain ⟨_,_,_,_,_,hpq,_⟩:=tZ p q hg hma hmb hS
 rw [hpq,show S=0 from by omega,Rat.zero_mkRat]
theorem uA (z:Int) {d:Nat} (hd:d≠0):(mkRat z d).num.natAbs ∣ z.natAbs∧(mkRat z d).den ∣ d:=by
 obtain ⟨m,_,h1,h2⟩:=Rat.mkRat_num_den hd (n':=(mkRat z d).num) (d':=(mkRat z d).den) (z':=(mkRat z d).den_nz) (c:=(mkRat z d).reduced) rfl
 have h3:z.natAbs=(mkRat z d).num.natAbs*m:=by
  have:=congrArg Int.natAbs h1
  rwa [Int.natAbs_mul,Int.natAbs_natCast] at this
 exact ⟨⟨m,h3⟩,⟨m,h2⟩⟩
theorem sg_sg (a b:Bool) (n m:Nat):sg a n*sg b m=sg (a != b) (n*m):=by
 unfold sg
 cases a <;> cases b <;> simp [Int.neg_mul,Int.mul_neg]
theorem Parts.mul {p q:Rat} {a b:Bool} {n1 d1 n2 d2:Nat} (hl:Parts (mkRat p.num q.den) a n1 d1) (hr:Parts (mkRat q.num p.den) b n2 d2) (h1:n1≠0) (h2:n2≠0):Parts (p*q) (a != b) (n1*n2) (d1*d2):=by
 have hp:=p.den_nz
 have hq:=q.den_nz
 obtain ⟨l1,l2⟩:=uA p.num hq
 obtain ⟨r1,r2⟩:=uA q.num hp
 have el:=hl.num_eq
 have er:=hr.num_eq
 have e:p*q=mkRat (sg (a != b) (n1*n2)) (d1*d2):=by
  have e1:mkRat p.num q.den=mkRat (sg a n1) d1:=by
   rw [← el,hl.2.2,Rat.mkRat_self]
  have e2:mkRat q.num p.den=mkRat (sg b n2) d2:=by
   rw [← er,hr.2.2,Rat.mkRat_self]
  rw [← sg_sg,← Rat.mkRat_mul_mkRat,← e1,← e2,Rat.mkRat_mul_mkRat,Rat.mul_def',Nat.mul_comm]
 rw [← hl.2.1] at l1
 rw [← hl.2.2] at l2
 rw [← hr.2.1] at r1
 rw [← hr.2.2] at r2
 have c12:n1.Coprime d2:=(Nat.Coprime.coprime_dvd_left l1 (Nat.Coprime.coprime_dvd_right r2 p.reduced))
 have c21:n2.Coprime d1:=(Nat.Coprime.coprime_dvd_left r1 (Nat.Coprime.coprime_dvd_right l2 q.reduced))
 have c11:n1.Coprime d1:=hl.cop
 have c22:n2.Coprime d2:=hr.cop
 refine Parts.of (Nat.ne_of_gt (Nat.mul_pos hl.pos hr.pos)) e ?_ (fun h0=>?_)
 ·exact Nat.Coprime.mul_left (Nat.Coprime.mul_right c11 c12) (Nat.Coprime.mul_right c21 c22)
 ·rcases Nat.mul_eq_zero.1 h0 with h|h
  ·exact absurd h h1
  ·exact absurd h h2
theorem qI {p q:Rat} {a:Bool} {d1:Nat} (hl:Parts (mkRat p.num q.den) a 0 d1):p*q=0:=by
 have h:=hl.num_eq
 rw [sg_zero] at h
 have:mkRat p.num q.den=0:=Rat.num_eq_zero.1 h
 rw [Rat.mkRat_eq_zero q.den_nz] at this
 rw [Rat.num_eq_zero.1 this,Rat.zero_mul]
theorem yA {p q:Rat} {a:Bool} {d1:Nat} (hl:Parts (mkRat q.num p.den) a 0 d1):p*q=0:=by
 rw [Rat.mul_comm]
 exact qI hl
theorem Parts.neg {q:Rat} {s:Bool} {n d:Nat} (h:Parts q s n d) (h0:q≠0):Parts (-q) (!s) n d:=by
 obtain ⟨rfl,rfl,rfl⟩:=h
 have:q.num≠0:=fun e=>h0 (Rat.num_eq_zero.1 e)
 refine ⟨?_,by simp,by simp⟩
 rw [Rat.neg_num,← decide_not,decide_eq_decide]
 omega
theorem Parts.inv {q:Rat} {s:Bool} {n d:Nat} (h:Parts q s n d) (h0:q≠0):Parts q⁻¹ s d n:=by
 have hn:q.num≠0:=fun e=>h0 (Rat.num_eq_zero.1 e)
 have hn2:n≠0:=by rw [h.2.1];omega
 refine Parts.of hn2 ?_ (by rw [Nat.gcd_comm];exact h.cop) (fun e=>absurd e (Nat.ne_of_gt h.pos))
 rw [Rat.inv_def,h.num_eq,← h.2.2]
 unfold Pl.sg
 cases s
 ·simp [Rat.divInt_ofNat]
 ·simp only [if_true]
  rw [Rat.divInt_neg',Rat.divInt_ofNat]
def cmpR (p q:Rat):Int:=if p<q then -1 else if q<p then 1 else 0
end Pl
end Go.Proofs.YtklnecajplnboaaGreatDoor
