/- Parts of the proof, joined. -/
import Derived.Test.YtpjknnddanhgkaaGreatDoorJ0
import Derived.Lib.ParseIntB
import Derived.Lib.ItoaNum
set_option linter.unusedSimpArgs false
set_option linter.unusedVariables false
set_option linter.constructorNameAsVariable false
namespace Go.Proofs.YtpjknnddanhgkaaGreatDoor
namespace Ab
open Go.RowKit
variable {Kc:Value→Bool}
section
variable {P:Program} {f:FuncId} {w00:World} {Out:Value→World→Prop} {st:St Kc} {β:List Nat} {a0:Act} {w0:World} {es:List (AE Kc)} {Ty:List TypeId} {ops:Array Oper}
theorem kill_okT {x:AV Kc}:x.kill.okT Ty=true:=by
 have hF:∀ y:FV Kc,y.kill.okT Ty=true:=fun y=>by cases y <;> rfl
 cases x with
 | fv y=>exact hF y
 | tup l =>
   simp only [AV.kill,AV.okT,List.all_map,List.all_eq_true]
   exact fun y _=>hF y
theorem kA {B:Nat} {t:Tmp} {v:Value} {w:World} (h0:∀ t,(st.slot t).holds β (a0.eval (.tmp t)) w0) (hx:Ext (kT Kc Ty) w0 w):∀ {es:List (AE Kc)},specOf a0 B t (es.map (iX β)) v w→(kW st es t).holds β v w
 | [],h=>by
   simp only [List.map_nil,specOf] at h
   subst h
   exact AV.ext (mC (h0 t)) hx kill_okT
 | (dst,kd)::es,h=>by
   simp only [List.map_cons,specOf,iX] at h
   simp only [kW]
   by_cases hd:dst=some t
   ·rw [if_pos hd] at h
    rw [if_pos (by simpa using hd)]
    cases kd with
    | val x=>exact h
    | _=>trivial
   ·rw [if_neg hd] at h
    rw [if_neg (by simpa using hd)]
    exact kA h0 hx h
theorem looks_of {o:Oper} {t:Tmp} (h:Operand.tmp t∈o.op.operands):t∈o.looksAt ops:=by
 unfold Oper.looksAt
 simp only [List.mem_append]
 refine .inl ?_
 simp only [Array.mem_toList_iff,List.mem_filterMap]
 first
  | exact ⟨.tmp t,h,rfl⟩
  | exact ⟨.tmp t,by simpa using h,rfl⟩
theorem uO {o:Oper} {A:Act} {w:World} {i:Nat} {E:Nat→Nat→Bool} {T:List Nat} (hR:Rep w00 st β a0 w0) (hV:View (kT Kc Ty) T E w0 i w) (hk:known a0 w0.heap.size (es.map (iX β)) A w (o.looksAt ops)) :
 ∀ y∈o.op.operands,(evL (kW st es) y).holds β (A.eval y) w:=by
 intro y hy
 cases y with
 | tmp t=>exact kA hR.slots hV.ext (known_iff.1 hk t (looks_of hy))
 | const v=>exact fW v
 | func f=>exact ⟨rfl,rfl⟩
 | global g=>trivial
theorem xE {w:World} {i:Nat} (hR:Rep w00 st β a0 w0) (hV:View (kT Kc Ty) β (fun i k=>iL st ops i k) w0 i w):Mem β (uM ops st i) w:=by
 intro k T l hk
 unfold uM at hk
 rw [List.getElem?_map,List.getElem?_zipIdx,Option.map_map,Option.map_eq_some_iff] at hk
 obtain ⟨p,hp,hk⟩:=hk
 simp only [Function.comp,Nat.zero_add] at hk
 split at hk
 ·rename_i he
  injection hk with hk
  obtain ⟨g,cs,h1,h2,h3⟩:=hR.mem k T l (by rw [List.getElem?_map,hp,hk];rfl)
  exact ⟨g,cs,h1,(hV.early k g he h1).trans h2,h3.ext hV.ext.down⟩
 ·cases hk
theorem nC {o:Oper} {A:Act} {w:World} {i:Nat} {E:Nat→Nat→Bool} {T:List Nat} {b:Bool} (hR:Rep w00 st β a0 w0) (hV:View (kT Kc Ty) T E w0 i w) (hk:known a0 w0.heap.size (es.map (iX β)) A w (o.looksAt ops))
 (hw:sV (kW st es) ops o=some b):Region.wanted o (yielded ops A.tmps)=b:=by
 unfold sV at hw
 split at hw
 ·rename_i hg
  injection hw with hw
  subst hw
  simp [Region.wanted,hg]
 ·rename_i j want hg
  split at hw
  ·rename_i d hd
   split at hw
   ·rename_i b' hb
    injection hw with hw
    have:=kA (es:=es) hR.slots hV.ext (known_iff.1 hk d (Go.Proofs.YtpjknnddanhgkaaGreatDoor.guard_looks hg hd))
    rw [hb] at this
    rw [Go.Proofs.YtpjknnddanhgkaaGreatDoor.wanted_is hg hd (aO this)]
    exact hw
   ·rename_i hb
    injection hw with hw
    subst hw
    have:=kA (es:=es) hR.slots hV.ext (known_iff.1 hk d (Go.Proofs.YtpjknnddanhgkaaGreatDoor.guard_looks hg hd))
    rw [hb] at this
    obtain ⟨vs,e,e2⟩:=this
    rw [show vs = [] from e2] at e
    exact xD hg hd e
   ·cases hw
  ·cases hw
theorem tV {x:AV Kc} (h:x.okT Ty=true):Stable (kT Kc Ty) (fun v w=>x.holds β v w):=fun _ _ _ hv hx=>AV.ext hv hx h
theorem stableC {l:List (Seg Kc)} {T:TypeId}:StableO (kT Kc Ty) (fun o w => ∃ cs:List Value,o = .cells cs.toArray T (0,0)∧holdsL β l cs w):=fun _ _ _ ⟨cs,e,h⟩ hx=>⟨cs,e,h.ext hx.down⟩
theorem coldB (hK:KOk Kc) {l:List (Seg Kc)} {cs:List Value} {T:TypeId} {w:World} (hl:holdsL β l cs w) (hc:coldL l=true) (hT:Ty.contains T=false):hotObj (kT Kc Ty) (.cells cs.toArray T (0,0))=false:=by
 simp only [hotObj,kT,Bool.or_eq_false_iff]
 refine ⟨?_,hT⟩
 rw [Array.any_eq_false']
 intro c hm
 simpa using holdsL.iscold hK hl hc c (by simpa using hm)
theorem newOf_mem {d:Tmp} {T:TypeId} {vs:List Value} (h:newOf es d=some (T,vs)):(some d,AKd.new T vs)∈es:=by
 unfold newOf at h
 rw [Option.bind_eq_some_iff] at h
 obtain ⟨⟨dst,kd⟩,h1,h2⟩:=h
 have hm:=List.mem_of_find?_eq_some h1
 have hp:=List.find?_some h1
 simp only [beq_iff_eq] at hp
 subst hp
 cases kd <;> simp at h2
 obtain ⟨rfl,rfl⟩:=h2
 exact hm
theorem tN (hK:KOk Kc) {o:Oper} {rest:List Oper} {k:List Item} {c' : Cfg Kc} (h:oO P (.drawn ops (o::rest) k st Ty es)=some c') (hg:iY P f w00 Out c'):iY P f w00 Out (.drawn ops (o::rest) k st Ty es):=by
 intro β a0 w0 hR
 have hlen:(es.map (iX β)).length=es.length:=by simp
 simp only [oO] at h
 split at h
 ·rename_i e he
  injection h with h
  subst h
  have hg':=hg β a0 w0 hR
  unfold putNew at he
  split at he
  ·rename_i T d y ho hd hgd
   have core:∀ (T' : TypeId) (vs:List Value) (n:Nat) (m l' : List (Seg Kc)),newOf es d=some (T',vs)→fV P T=some n→vs.all (·.oneCell')=true→wI (vs.map .lit) 0 m=some l'→e=(none,.put d T' l') →
    (∀ (v:Value) (w:World),(evL (kW st es) y).holds β v w→∃ cs,v.cells.toList=cs∧holdsL β m cs w)→gK m=n →
    ∃ kk,Oblig P ops (kT Kc Ty) β (fun i k=>iL st ops i k) w0 a0 (es.map (iX β)) o kk∧wpTy P ops (kT Kc Ty) β (fun i k=>iL st ops i k) w0 a0 (fun a w=>Runs P f w00 Out k a w) rest (⟨o.dst,kk⟩::es.map (iX β)):=by
    intro T' vs n m l' hnew hn hone hrep he hval hsz
    subst he
    refine ⟨kZ β (.put d T' l'),?_,by rw [hd];exact hg'⟩
    refine ⟨hd,hgd,looks_of (by rw [ho];simp [Op.operands]),stableC,.cells vs.toArray T' (0,0),List.mem_map.2 ⟨_,newOf_mem hnew,rfl⟩,?_⟩
    intro A w b hV hk hA hb
    have hy:=uO hR hV hk y (by rw [ho];simp [Op.operands])
    obtain ⟨cs,hc1,hc2⟩:=hval _ _ hy
    obtain ⟨h1,h2⟩:=lY hrep (holdsL.lits hone) hc2
    obtain ⟨h3,h4⟩:=kV (P:=P) ho hA hc1 hn (by rw [hc2.len];exact hsz) hc2.one hb h2
    rw [h3]
    exact ⟨_,h4,_,rfl,h1⟩
   split at he
   ·rename_i T' vs n s hnew hn hy
    split at he
    ·rename_i hc
     simp only [Bool.and_eq_true,beq_iff_eq] at hc
     rw [Option.map_eq_some_iff] at he
     obtain ⟨l',hl',he⟩:=he
     refine core T' vs n [s] l' hnew hn hc.2 hl' he.symm (fun v w hv=>?_) (by simp [gK];omega)
     rw [hy] at hv
     exact ⟨[v],by rw [nA hv],holdsL.single hv⟩
    ·cases he
   ·rename_i T' vs n m hnew hn hy
    split at he
    ·rename_i hc
     simp only [Bool.and_eq_true,beq_iff_eq] at hc
     rw [Option.map_eq_some_iff] at he
     obtain ⟨l',hl',he⟩:=he
     refine core T' vs n m l' hnew hn hc.2 hl' he.symm (fun v w hv=>?_) hc.1
     rw [hy] at hv
     obtain ⟨cs,e,hl⟩:=hv
     exact ⟨cs,by rw [e];rfl,hl⟩
    ·cases he
   ·cases he
  ·cases he
 ·split at h
  ·rename_i hw
   rw [Option.map_eq_some_iff] at h
   obtain ⟨e,h,hc⟩:=h
   subst hc
   have hg':=hg β a0 w0 hR
   generalize hr:opA P (evL (kW st es)) (uM ops st es.length) o=r at h
   have hval:∀ {A:Act} {w:World},View (kT Kc Ty) β (fun i k=>iL st ops i k) w0 (es.map (iX β)).length w→known a0 w0.heap.size (es.map (iX β)) A w (o.looksAt ops) →
    Region.wanted o (yielded ops A.tmps)=true∧(∀ y∈o.op.operands,(evL (kW st es) y).holds β (A.eval y) w)∧Mem β (uM ops st es.length) w:=fun hV hk =>
    ⟨nC hR hV hk hw,uO hR hV hk,by rw [hlen] at hV;exact xE hR hV⟩
   cases r with
   | val x =>
     simp only [uN] at h
     split at h
     ·rename_i hx
      injection h with h
      subst h
      refine ⟨kZ β (.val x),⟨tV hx,fun A w hV hk => .inl ?_⟩,hg'⟩
      obtain ⟨h1,h2,h3⟩:=hval hV hk
      obtain ⟨v,e,hv⟩:=opA_val hr h2 h3
      rw [e]
      exact ⟨h1,aB _ _,hv⟩
     ·cases h
   | new T l =>
     simp only [uN] at h
     split at h
     ·rename_i vs T' hvs hal
      split at h
      ·rename_i hc
       injection h with h
       subst h
       refine ⟨kZ β (.new T vs),⟨hc.1,hc.2.1,hc.2.2,fun A w=>?_⟩,hg'⟩
       obtain ⟨cs,e,hl⟩:=yO (β:=β) (ρ:=A.eval) (w:=w) hr (fun y hy=>by rw [hal] at hy;simp [Op.operands] at hy)
       rw [e,lZ hvs hl]
      ·cases h
     ·cases h
   | nsl n T l =>
     simp only [uN] at h
     split at h
     ·rename_i hx
      injection h with h
      subst h
      refine ⟨kZ β (.val (.fv (.nsl n T l))),⟨tV hx,fun A w hV hk => .inl ?_⟩,hg'⟩
      obtain ⟨h1,h2,h3⟩:=hval hV hk
      obtain ⟨cs,e,hl⟩:=opA_nsl hr h2
      rw [e]
      exact ⟨h1,gN w _,_,cs,rfl,heap_alloc_new w _,hl.ext (Go.Proofs.YtpjknnddanhgkaaGreatDoor.Ext.of_below (gN w _))⟩
     ·cases h
   | put k' off m =>
     simp only [uN] at h
     split at h
     ·rename_i T l hk' hd hgd
      split at h
      ·rename_i l' hrep
       split at h
       ·rename_i hc
        injection h with h
        subst h
        obtain ⟨g,cs,hg1,hg2,hg3⟩:=hR.mem k' T l (by rw [List.getElem?_map,hk'];rfl)
        refine ⟨kZ β (.old k' T l'),⟨hd,hgd,stableC,g,_,hg1,hg2,coldB hK hg3 hc.2.1 hc.2.2,fun A w hV hk hb=>?_⟩,by rw [hd];exact hg'⟩
        obtain ⟨h1,h2,h3⟩:=hval hV hk
        obtain ⟨ds,w',e,ht,hl⟩:=opA_put hr h2 hg1 hb (hg3.ext hV.ext.down) hrep
        rw [e]
        exact ⟨_,ht,ds,rfl,hl⟩
       ·cases h
      ·cases h
     ·cases h
   | call g args=>cases h
   | stop=>cases h
  ·rename_i hw
   injection h with h
   subst h
   refine ⟨kZ β (.val (.tup [])),⟨tV rfl,fun A w hV hk => .inr ⟨nC hR hV hk hw,[],rfl,rfl⟩⟩,hg β a0 w0 hR⟩
  ·cases h
end
end Ab
namespace Ab
open Go.RowKit
variable {Kc:Value→Bool}
section
variable {P:Program} {f:FuncId} {w00:World} {Out:Value→World→Prop} {st:St Kc} {β:List Nat} {a0:Act} {w0:World} {es:List (AE Kc)} {Ty:List TypeId} {ops:Array Oper}
def yP:Value→Nat
 | .pointer (some a)=>a.block
 | _=>0
theorem pW {α γ δ:Type} {g:α→γ} {h:α→δ}:∀ {l:List α},(l.map g).Nodup→(∀ x∈l,∀ y∈l,h x=h y→g x=g y)→(l.map h).Nodup
 | [],_,_=>by simp
 | a::l,hn,hi=>by
   rw [List.map_cons,List.nodup_cons] at hn ⊢
   refine ⟨fun hm=>hn.1 ?_,pW hn.2 (fun x hx y hy=>hi x (by simp [hx]) y (by simp [hy]))⟩
   obtain ⟨b,hb,e⟩:=List.mem_map.1 hm
   rw [List.mem_map]
   exact ⟨b,hb,hi b (by simp [hb]) a (by simp) e⟩
theorem pC {n:Tmp×TypeId×List Value} (h:n∈iW es):(some n.1,AKd.new n.2.1 n.2.2)∈es:=by
 unfold iW at h
 obtain ⟨e,he,h2⟩:=List.mem_filterMap.1 h
 rw [List.mem_reverse] at he
 obtain ⟨dst,kd⟩:=e
 cases dst <;> cases kd <;> simp at h2
 subst h2
 exact he
theorem putOfA_mem {d:Tmp} {T:TypeId} {l:List (Seg Kc)} (h:nB es d=some (T,l)):(none,AKd.put d T l)∈es:=by
 unfold nB at h
 obtain ⟨e,he,h2⟩:=List.exists_of_findSome?_eq_some h
 obtain ⟨dst,kd⟩:=e
 cases dst <;> cases kd <;> simp at h2
 obtain ⟨rfl,rfl,rfl⟩:=h2
 exact he
theorem putOfA_none {d:Tmp} (h:nB es d=none) (T:TypeId) (l:List (Seg Kc)):(none,AKd.put d T l)∉es:=fun hm=>by
 unfold nB at h
 rw [List.findSome?_eq_none_iff] at h
 have:=h _ hm
 simp at this
theorem oldOfA_mem {k:Nat} {T:TypeId} {l:List (Seg Kc)} (h:rM es k=some (T,l)):(none,AKd.old k T l)∈es:=by
 unfold rM at h
 obtain ⟨e,he,h2⟩:=List.exists_of_findSome?_eq_some h
 obtain ⟨dst,kd⟩:=e
 cases dst <;> cases kd <;> simp at h2
 obtain ⟨rfl,rfl,rfl⟩:=h2
 exact he
theorem oldOfA_none {k:Nat} (h:rM es k=none) (T:TypeId) (l:List (Seg Kc)):(none,AKd.old k T l)∉es:=fun hm=>by
 unfold rM at h
 rw [List.findSome?_eq_none_iff] at h
 have:=h _ hm
 simp at this
theorem put_conc {d:Tmp} {S:Obj→World→Prop} (h:(⟨none,.put d S⟩:Ent)∈es.map (iX β)):∃ T l,(none,AKd.put d T l)∈es∧S=(fun o w => ∃ cs:List Value,o = .cells cs.toArray T (0,0)∧holdsL β l cs w):=by
 obtain ⟨⟨dst,kd⟩,he,h2⟩:=List.mem_map.1 h
 cases kd <;> simp [iX,kZ] at h2
 obtain ⟨rfl,rfl,rfl⟩:=h2
 exact ⟨_,_,he,rfl⟩
theorem old_conc {k:Nat} {S:Obj→World→Prop} (h:(⟨none,.old k S⟩:Ent)∈es.map (iX β)):∃ T l,(none,AKd.old k T l)∈es:=by
 obtain ⟨⟨dst,kd⟩,he,h2⟩:=List.mem_map.1 h
 cases kd <;> simp [iX,kZ] at h2
 obtain ⟨rfl,rfl,rfl⟩:=h2
 exact ⟨_,_,he⟩
theorem onceA_B (h:onceA es=true):onceB (es.map (iX β))=true:=by
 unfold onceA at h
 simp only [Bool.and_eq_true,decide_eq_true_eq] at h
 unfold onceB
 simp only [Bool.and_eq_true,decide_eq_true_eq,List.filterMap_map]
 have e1:(putOf∘iX (Kc:=Kc) β)=(fun e:AE Kc=>match e with|(none,.put d _ _)=>some d|_=>none):=by
  funext ⟨dst,kd⟩
  cases dst <;> cases kd <;> rfl
 have e2:(oldOf∘iX (Kc:=Kc) β)=(fun e:AE Kc=>match e with|(none,.old k _ _)=>some k|_=>none):=by
  funext ⟨dst,kd⟩
  cases dst <;> cases kd <;> rfl
 rw [e1,e2]
 exact ⟨h.1.1.1,h.1.1.2⟩
theorem earlyA_B (h:earlyA st ops es=true):uF .any ops (fun i k=>iL st ops i k) (es.map (iX β)).reverse=true:=by
 unfold earlyA at h
 unfold uF
 simp only [List.all_eq_true] at h ⊢
 intro j hj
 have h1:=h j hj
 rw [← List.map_reverse,List.getElem?_map]
 cases he:es.reverse[j]? with
 | none=>rfl
 | some e =>
   obtain ⟨dst,kd⟩:=e
   rw [he] at h1
   cases dst <;> cases kd <;> first|rfl|exact h1
theorem uP {k:List Item} {c' : Cfg Kc} (h:oO P (.drawn ops [] k st Ty es)=some c') (hg:iY P f w00 Out c'):iY P f w00 Out (.drawn ops [] k st Ty es):=by
 intro β a0 w0 hR
 simp only [oO] at h
 split at h
 ·rename_i hc
  injection h with h
  subst h
  rw [Bool.and_eq_true,Bool.and_eq_true] at hc
  have hro:=hc.2
  replace hc:=hc.1
  refine ⟨onceA_B hc.1,earlyA_B hc.2,fun F w hB hX hF hS hA=>?_⟩
  have hc1:=hc.1
  unfold onceA at hc1
  simp only [Bool.and_eq_true,decide_eq_true_eq] at hc1
  obtain ⟨⟨⟨_,_⟩,hnd⟩,hones⟩:=hc1
  have hsize:∀ (G:List Ent),(frameOf a0 G F).tmps.size=a0.tmps.size:=frameOf_size
  -- what each variable holds
  have hnew:∀ n∈iW es,∃ b,F n.1 = .pointer (some ⟨b,0,none⟩)∧w0.heap.size≤b∧b<w.heap.size ∧
   ∃ cs,w.heap[b]?=some (.cells cs.toArray ((nB es n.1).getD (n.2.1,n.2.2.map .lit)).1 (0,0))∧holdsL β ((nB es n.1).getD (n.2.1,n.2.2.map .lit)).2 cs w:=by
   intro n hn
   have hm:=pC hn
   have:=hF _ (List.mem_map.2 ⟨_,hm,rfl⟩)
   simp only [iX,kZ,Final1] at this
   obtain ⟨b,e1,e2,e3,e4,e5⟩:=this
   refine ⟨b,e1,e2,e3,?_⟩
   cases hp:nB es n.1 with
   | some q =>
     obtain ⟨T,l⟩:=q
     obtain ⟨o,⟨cs,ho,hl⟩,hb⟩:=e5 _ (List.mem_map.2 ⟨_,putOfA_mem hp,rfl⟩)
     subst ho
     exact ⟨cs,hb,hl⟩
   | none =>
     refine ⟨n.2.2,e4 (fun S hS=>?_),holdsL.lits ?_⟩
     ·obtain ⟨T,l,hm2,_⟩:=put_conc hS
      exact putOfA_none hp T l hm2
     ·exact List.all_eq_true.1 hones n hn
  obtain ⟨γ,hγ⟩:∃ γ,γ=(iW es).map fun n=>yP (F n.1):=⟨_,rfl⟩
  have hγget:∀ (j:Nat) n,(iW es)[j]?=some n→γ[j]?=some (yP (F n.1)):=fun j n hj=>by rw [hγ,List.getElem?_map,hj];rfl
  have hγmem:∀ g∈γ,w0.heap.size≤g∧g<w.heap.size:=fun g hgm=>by
   rw [hγ] at hgm
   obtain ⟨n,hn,e⟩:=List.mem_map.1 hgm
   obtain ⟨b,e1,e2,e3,_⟩:=hnew n hn
   rw [e1] at e
   subst e
   exact ⟨e2,e3⟩
  have hγnd:γ.Nodup:=by
   rw [hγ]
   refine pW hnd (fun x hx y hy e=>?_)
   apply Classical.byContradiction
   intro hne
   have h1:=hA x.1 y.1 _ _ (List.mem_map.2 ⟨_,pC hx,rfl⟩) (List.mem_map.2 ⟨_,pC hy,rfl⟩) hne
   obtain ⟨b,e1,_⟩:=hnew x hx
   obtain ⟨b',e2,_⟩:=hnew y hy
   rw [e1,e2] at e h1
   simp only [yP] at e
   exact h1 (by rw [e])
  refine hg (β++γ) _ w ⟨by rw [frameOf_defers];exact hR.defers,by rw [hsize];simp [pV];exact hR.size,fun t=>?_,?_,?_,?_,?_,?_,?_⟩
  ·-- slots
   unfold St.slot pV
   simp only
   by_cases ht:t<st.slots.length
   ·rw [List.getD_eq_getElem?_getD,List.getElem?_map,List.getElem?_range ht]
    simp only [Option.map_some,Option.getD_some]
    unfold slotE
    split
    ·rename_i d x hf
     have hp:=List.find?_some hf
     simp only [beq_iff_eq] at hp
     subst hp
     have hm:=List.mem_of_find?_eq_some hf
     have:=hF _ (List.mem_map.2 ⟨_,hm,rfl⟩)
     simp only [iX,kZ,Final1] at this
     rw [frameOf_hit ⟨_,List.mem_map.2 ⟨_,hm,rfl⟩,rfl⟩ (by rw [hR.size];exact ht)]
     exact AV.more (mC this)
    ·rename_i d T vs hf
     have hp:=List.find?_some hf
     simp only [beq_iff_eq] at hp
     subst hp
     have hm:=List.mem_of_find?_eq_some hf
     rw [frameOf_hit ⟨_,List.mem_map.2 ⟨_,hm,rfl⟩,rfl⟩ (by rw [hR.size];exact ht)]
     split
     ·rename_i j hj
      rw [List.findIdx?_eq_some_iff_getElem] at hj
      obtain ⟨hlt,h1,_⟩:=hj
      simp only [beq_iff_eq] at h1
      have hget:(iW es)[j]?=some (iW es)[j]:=List.getElem?_eq_getElem hlt
      obtain ⟨b,e1,_⟩:=hnew _ (List.mem_of_getElem? hget)
      rw [h1] at e1
      rw [e1]
      refine iV ?_
      rw [List.getElem?_append_right (by rw [hR.len];omega),hR.len,Nat.add_sub_cancel_left,hγget j _ hget,h1,e1]
      rfl
     ·trivial
    ·trivial
    ·rename_i hf
     rw [List.find?_eq_none] at hf
     rw [frameOf_miss (fun e he hd=>by
      obtain ⟨e',he',rfl⟩:=List.mem_map.1 he
      exact hf e' he' (by simpa [iX] using hd))]
     exact AV.more (AV.ext (mC (hR.slots t)) hX kill_okT)
   ·rw [List.getD_eq_getElem?_getD,List.getElem?_eq_none (show ((List.range st.slots.length).map (slotE st es)).length≤t by simp;exact Nat.le_of_not_lt ht)]
    trivial
  ·simp [pV,hR.len,hγ]
  ·rw [List.nodup_append]
   exact ⟨hR.nodup,hγnd,fun x hx y hy e=>by
    have h1:=hR.lt x hx
    have h2:=(hγmem y hy).1
    omega⟩
  ·-- blocks
   intro k' T l hk
   rw [List.getElem?_map,Option.map_eq_some_iff] at hk
   obtain ⟨q,hk,e⟩:=hk
   injection e with e
   subst e
   simp only [pV] at hk
   rw [List.getElem?_append] at hk
   split at hk
   ·rename_i hlt
    rw [List.getElem?_map,Option.map_eq_some_iff] at hk
    obtain ⟨q,hq,e⟩:=hk
    rw [List.getElem?_zipIdx,Option.map_eq_some_iff] at hq
    obtain ⟨p0,hp0,rfl⟩:=hq
    simp only [Nat.zero_add] at e
    cases ho:rM es k' with
    | some q2 =>
      rw [ho] at e
      simp only [Option.getD_some] at e
      subst e
      have:=hF _ (List.mem_map.2 ⟨_,oldOfA_mem ho,rfl⟩)
      simp only [iX,kZ,Final1] at this
      obtain ⟨b,o,hb,⟨cs,ho2,hl⟩,hh⟩:=this
      subst ho2
      exact ⟨b,cs,by rw [List.getElem?_append_left (List.getElem?_eq_some_iff.1 hb).1];exact hb,hh,hl.more⟩
    | none =>
      rw [ho] at e
      simp only [Option.getD_none] at e
      subst e
      obtain ⟨g,cs,h1,h2,h3⟩:=hR.mem k' T l (by rw [List.getElem?_map,hp0];rfl)
      refine ⟨g,cs,by rw [List.getElem?_append_left (List.getElem?_eq_some_iff.1 h1).1];exact h1,?_,(h3.ext hX.down).more⟩
      rw [hS k' g h1 (fun S hm=>by obtain ⟨T2,l2,hm2⟩:=old_conc hm;exact oldOfA_none ho T2 l2 hm2)]
      exact h2
   ·rename_i hge
    rw [List.getElem?_map,Option.map_eq_some_iff] at hk
    obtain ⟨n,hn,e⟩:=hk
    simp only [List.length_map,List.length_zipIdx] at hn hge
    obtain ⟨b,e1,e2,e3,cs,e4,e5⟩:=hnew n (List.mem_of_getElem? hn)
    rw [e] at e4 e5
    refine ⟨b,cs,?_,e4,e5.more⟩
    rw [List.getElem?_append_right (by rw [hR.len];omega),hR.len,hγget _ n hn,e1]
    rfl
  ·intro g hgm
   rcases List.mem_append.1 hgm with hgm|hgm
   ·exact Nat.lt_of_lt_of_le (hR.lt g hgm) hB.size
   ·exact (hγmem g hgm).2
  ·intro k' g hk
   rw [List.getElem?_append] at hk
   split at hk
   ·exact hR.own k' g hk
   ·exact .inr (Nat.le_trans hR.below.size (hγmem g (List.mem_of_getElem? hk)).1)
  ·refine ⟨hB.os.trans hR.below.os,hB.tape.trans hR.below.tape,hB.output.trans hR.below.output,Nat.le_trans hR.below.size hB.size,fun k' hk'=>?_⟩
   have hlt:k'<w0.heap.size:=Nat.lt_of_lt_of_le hk' hR.below.size
   rw [← hR.below.block k' hk']
   by_cases hm:k'∈β
   ·obtain ⟨i,hi⟩:=List.getElem?_of_mem hm
    refine hS i k' hi (fun S hS2=>?_)
    obtain ⟨T,l,hm2⟩:=old_conc hS2
    unfold roA at hro
    have h1:=List.all_eq_true.1 hro _ hm2
    simp only [decide_eq_true_eq] at h1
    rcases hR.own i k' hi with h2|h2
    ·exact absurd h1 (Nat.not_le_of_lt h2)
    ·omega
   ·exact hB.block k' hlt hm
 ·cases h
end
end Ab
namespace Ab
open Go.RowKit
variable {Kc:Value→Bool}
section
variable {P:Program} {f:FuncId} {w00:World} {Out:Value→World→Prop}
theorem good_step (hm:P.follows .mixedOrders=true) (hK:KOk Kc) {c c' : Cfg Kc} (h:oO P c=some c') (hg:iY P f w00 Out c'):iY P f w00 Out c:=by
 match c,h with
 | .items todo st,h=>exact good_items hm h hg
 | .plain ops rest k st,h=>exact good_plain hK h hg
 | .drawn ops [] k st Ty es,h=>exact uP h hg
 | .drawn ops (o::rest) k st Ty es,h=>exact tN hK h hg
theorem good_run (hm:P.follows .mixedOrders=true) (hK:KOk Kc):∀ (n:Nat) {c:Cfg Kc},iY P f w00 Out (dB P n c)→iY P f w00 Out c
 | 0,_,h=>h
 | n + 1,c,h=>by
   simp only [dB] at h
   split at h
   ·rename_i c' hc
    exact good_step hm hK hc (good_run hm hK n h)
   ·exact h
def Cfg.canB:Cfg Kc→Bool
 | .drawn _ _ _ st _ _=>st.ro==0
 | _=>true
theorem good_op {c:Cfg Kc} (o:Oper) (x:AV Kc) (ho:c.op=some o) (hx:c.okT x=true)
 (h:∀ β ρ w,(c.canB=true→Below w00.heap.size w00 w)→Mem β c.mem w→(∀ y∈o.op.operands,(c.ev y).holds β (ρ y) w) →
  (∃ v w',(execOp ρ o).run P w = .ok (.value v) w'∧Below w.heap.size w w'∧x.holds β v w') ∨
  (∃ fn vs,(execOp ρ o).run P w = .ok (.enter fn vs) w∧Calls P fn vs w fun e w' => ∃ v,e = .returned v∧Below w.heap.size w w'∧x.holds β v w'))
 (hg:iY P f w00 Out (c.give x)):iY P f w00 Out c:=by
 match c,ho with
 | .plain ops (o'::rest) k st,ho =>
   simp only [Cfg.op] at ho
   split at ho
   ·rename_i hw
    injection ho with ho
    subst ho
    intro β a w hR
    refine jZ (hR.wants hw) ?_
    unfold Oper.wp
    rcases h β a.eval w (fun _=>hR.below) hR.mem (fun y _=>hR.ev y) with ⟨v,w',e,hb,hv⟩|⟨fn,vs,e,hc⟩
    ·rw [e]
     exact hg β _ _ ((hR.grow hb).put hv)
    ·rw [e]
     simp only [Oper.upon]
     refine hc.mono fun e w' ⟨v,he,hb,hv⟩=>?_
     subst he
     exact hg β _ _ ((hR.grow hb).put hv)
   ·cases ho
 | .drawn ops (o'::rest) k st Ty es,ho =>
   simp only [Cfg.op] at ho
   split at ho
   ·rename_i hw
    injection ho with ho
    subst ho
    intro β a0 w0 hR
    refine ⟨kZ β (.val x),⟨tV hx,fun A w hV hk => .inl ⟨nC hR hV hk hw,?_⟩⟩,hg β a0 w0 hR⟩
    have hlen:(es.map (iX β)).length=es.length:=by simp
    have hM:Mem β (uM ops st es.length) w:=by rw [hlen] at hV;exact xE hR hV
    have hBel:(Cfg.drawn ops (o'::rest) k st Ty es:Cfg Kc).canB=true→Below w00.heap.size w00 w:=fun hro=>by
     refine ⟨hV.base.os.trans hR.below.os,hV.base.tape.trans hR.below.tape,hV.base.output.trans hR.below.output,Nat.le_trans hR.below.size hV.base.size,fun k' hk'=>?_⟩
     rw [hV.base.block k' (Nat.lt_of_lt_of_le hk' hR.below.size) (fun hm=>?_)]
     ·exact hR.below.block k' hk'
     ·obtain ⟨i,hi⟩:=List.getElem?_of_mem hm
      rcases hR.own i k' hi with h2|h2
      ·simp only [Cfg.canB,beq_iff_eq] at hro
       omega
      ·omega
    rcases h β A.eval w hBel hM (uO hR hV hk) with ⟨v,w',e,hb,hv⟩|⟨fn,vs,e,hc⟩
    ·rw [e]
     exact ⟨hb,hv⟩
    ·rw [e]
     exact ⟨rfl,hc.mono fun e w' ⟨v,he,hb,hv⟩=>⟨v,he,hb,hv⟩⟩
   ·cases ho
 | .items _ _,ho=>cases ho
 | .plain _ [] _ _,ho=>cases ho
 | .drawn _ [] _ _ _ _,ho=>cases ho
theorem oD {c:Cfg Kc} (fn:FuncId) (x:AV Kc) (hf:c.callee P=some fn) (hx:c.okT x=true) (hfn:∀ (args:Array Value) (w:World),(callFunc fn args).run P w = .ok (.enter fn args) w)
 (h:∀ β w vs,(c.canB=true→Below w00.heap.size w00 w)→Mem β c.mem w→holdsA β (c.args P) vs w→Calls P fn vs.toArray w fun e w' => ∃ v,e = .returned v∧Below w.heap.size w w'∧x.holds β v w')
 (hg:iY P f w00 Out (c.give x)):iY P f w00 Out c:=by
 unfold Cfg.callee at hf
 split at hf
 ·rename_i o ho
  split at hf
  ·rename_i g l hr
   injection hf with hf
   subst hf
   refine good_op o x ho hx (fun β ρ w hB hM hs => .inr ?_) hg
   obtain ⟨vs,e,hv⟩:=opA_call hr hs
   rw [hfn] at e
   refine ⟨_,_,e,h β w vs hB hM ?_⟩
   unfold Cfg.args
   rw [ho]
   simp only [hr]
   exact hv
  ·cases hf
 ·cases hf
def uQ (tmps:Array Value):ResultVar→Sem Value
 | .tmp t=>pure (tmps.getD t undef)
 | .cell t T=>do loadVar T (← asAddr (tmps.getD t undef))
theorem pX:∀ {l:List ResultVar} {st:St Kc} {fs:List (FV Kc)} {β:List Nat} {a:Act} {w:World},resA P st l=some fs→Rep w00 st β a w →
 ∃ vs:List Value,(l.mapM (uQ a.tmps)).run P w = .ok vs w∧holdsF β fs vs w
 | [],st,fs,β,a,w,h,hR=>by
   injection h with h
   subst h
   exact ⟨[],rfl,rfl⟩
 | .tmp t::l,st,fs,β,a,w,h,hR=>by
   simp only [resA] at h
   split at h
   ·rename_i y hy
    rw [Option.map_eq_some_iff] at h
    obtain ⟨r,hr,rfl⟩:=h
    obtain ⟨vs,e,hv⟩:=pX hr hR
    have h1:=hR.slots t
    rw [hy] at h1
    refine ⟨a.eval (.tmp t)::vs,?_,⟨_,_,rfl,h1,hv⟩⟩
    have h0:(uQ a.tmps (.tmp t)).run P w = .ok (a.eval (.tmp t)) w:=rfl
    rw [List.mapM_cons,Sem.run_bind,h0]
    simp only [Result.andThen,Sem.run_bind,e,Sem.run_pure]
   ·cases h
 | .cell t T::l,st,fs,β,a,w,h,hR=>by
   simp only [resA] at h
   split at h
   ·rename_i k off hy
    split at h
    ·rename_i T' m hm
     split at h
     ·rename_i y hp
      rw [Option.map_eq_some_iff] at h
      obtain ⟨r,hr,rfl⟩:=h
      obtain ⟨vs,e,hv⟩:=pX hr hR
      have h1:=hR.slots t
      rw [hy] at h1
      obtain ⟨g,hg,hv1⟩:=fX h1
      obtain ⟨g',cs,hg',hh,hl⟩:=hR.mem k T' m (by rw [List.getElem?_map,hm];rfl)
      rw [hg] at hg'
      injection hg' with hg'
      subst hg'
      obtain ⟨v,hlv,hx⟩:=oN hp hh hl
      refine ⟨v::vs,?_,⟨_,_,rfl,hx,hv⟩⟩
      have hev:a.tmps.getD t undef = .pointer (some ⟨g,off,none⟩):=hv1
      have h0:(uQ a.tmps (.cell t T)).run P w = .ok v w:=by
       simp only [uQ,hev,asAddr,Sem.run_bind,Sem.run_pure,Result.andThen,hlv]
      rw [List.mapM_cons,Sem.run_bind,h0]
      simp only [Result.andThen,Sem.run_bind,e,Sem.run_pure]
     ·cases h
    ·cases h
   ·cases h
theorem kB {fn:Func} {a:Act} {w:World} {vs:List Value} (h:(fn.results.toList.mapM (uQ a.tmps)).run P w = .ok vs w) :
 (results fn a.tmps).run P w = .ok (if h:vs.toArray.size=1 then vs.toArray[0] else .tuple vs.toArray) w:=by
 have h0:(fn.results.mapM (uQ a.tmps)).run P w = .ok vs.toArray w:=by
  rw [Array.mapM_eq_mapM_toList]
  simp [h]
 have h1:results fn a.tmps=(do let vs←fn.results.mapM (uQ a.tmps);pure (if h:vs.size=1 then vs[0] else .tuple vs)):=rfl
 rw [h1,Sem.run_bind,h0]
 rfl
theorem good_ret {c:Cfg Kc} {fn:Func} (hfn:P.funcs[f]?=some fn) (x:AV Kc) (hr:c.res P fn=some x) (h:∀ β v w,x.holds β v w→Out v w):iY P f w00 Out c:=by
 have key:∀ (st:St Kc) (β:List Nat) (a:Act) (w:World),Rep w00 st β a w→(match resA P st fn.results.toList with|some [f]=>some (AV.fv f)|some l=>some (.tup l)|none=>none)=some x→∃ v,(results fn a.tmps).run P w = .ok v w∧Out v w:=by
  intro st β a w hR hr
  split at hr
  ·rename_i y hy
   injection hr with hr
   subst hr
   obtain ⟨vs,e,v,r,rfl,h1,h2⟩:=pX hy hR
   rw [show r = [] from h2] at e
   refine ⟨v,?_,h β v w h1⟩
   rw [kB e]
   rfl
  ·rename_i l hne hy
   injection hr with hr
   subst hr
   obtain ⟨vs,e,hv⟩:=pX hy hR
   refine ⟨.tuple vs.toArray,?_,h β _ w ⟨vs,rfl,hv⟩⟩
   rw [kB e,dif_neg]
   intro h1
   have hlen:∀ {l:List (FV Kc)} {us:List Value},holdsF β l us w→us.length=l.length:=fun {l}=>by
    induction l with
    | nil=>intro us h;rw [show us = [] from h];rfl
    | cons x l ih=>rintro us ⟨v,r,rfl,_,h2⟩;simp [ih h2]
   have h2:=hlen hv
   simp at h1
   rw [h1] at h2
   match l,h2,hne with
   | [y],_,hne=>exact hne y rfl
  ·cases hr
 unfold Cfg.res at hr
 split at hr
 ·rename_i todo st
  split at hr
  ·intro β a w hR cs
   obtain ⟨v,e,ho⟩:=key st β a w hR hr
   exact ⟨.returned v,w,_,⟨v,rfl,hR.below,ho⟩,Steps.one step_end,rfl,rfl,hR.defers,rfl,fn,hfn,e⟩
  ·intro β a w hR cs
   obtain ⟨v,e,ho⟩:=key st β a w hR hr
   exact ⟨.returned v,w,_,⟨v,rfl,hR.below,ho⟩,Steps.one step_ret,rfl,rfl,hR.defers,rfl,fn,hfn,e⟩
  ·cases hr
 ·cases hr
theorem fC {fn:Func} {code:Code} (hfn:P.funcs[f]?=some fn) (hb:fn.body=some code) (args:List (AV Kc)) (bl:List (TypeId×List (Seg Kc))) (β:List Nat) (vs:List Value) (n:Nat)
 (hn:fn.ntmps=args.length+n) (ha:holdsA β args vs w00) (hl:β.length=bl.length) (hnd:β.Nodup) (hM:Mem β (bl.map some) w00) (hlt:∀ g∈β,g<w00.heap.size)
 (hg:iY P f w00 Out (.items [.code code] { slots:=args++List.replicate n .un,blocks:=bl,ro:=bl.length })) :
 Calls P f vs.toArray w00 (Rets w00 Out):=by
 intro cs
 have hlen:∀ {l:List (AV Kc)} {us:List Value},holdsA β l us w00→us.length=l.length:=fun {l}=>by
  induction l with
  | nil=>intro us h;rw [show us = [] from h];rfl
  | cons x l ih=>rintro us ⟨v,r,rfl,_,h2⟩;simp [ih h2]
 have hget:∀ {l:List (AV Kc)} {us:List Value} (t:Nat),holdsA β l us w00→(l.getD t .un).holds β (us.getD t undef) w00:=fun {l}=>by
  induction l with
  | nil=>intro us t h;simp [AV.un];trivial
  | cons x l ih =>
    rintro us t ⟨v,r,rfl,h1,h2⟩
    cases t with
    | zero=>exact h1
    | succ t=>exact ih t h2
 have hn2:fn.ntmps-vs.toArray.size=n:=by simp [hlen ha];omega
 have henter:Frame.enter P f vs.toArray .normal=(xC f).at { tmps:=vs.toArray++Array.replicate n undef,defers := [] } [.code code]:=by
  simp only [Frame.enter,Frame.at,hfn,xC]
  simp [hb,← hn2]
 rw [henter]
 refine hg β _ w00 ⟨rfl,by simp [hlen ha],fun t=>?_,hl,hnd,hM,hlt,fun k g hk => .inl ?_,aB _ _⟩ cs
 ·unfold St.slot
  simp only [Act.eval]
  have h1:=hget t ha
  rw [List.getD_eq_getElem?_getD] at h1 ⊢
  rw [Array.getD_eq_getD_getElem?,Array.getElem?_append,List.getElem?_append]
  by_cases ht:t<args.length
  ·rw [if_pos ht,if_pos (by simp [hlen ha];exact ht)]
   simpa [List.getD_eq_getElem?_getD] using h1
  ·rw [if_neg ht,List.getElem?_replicate]
   split <;> trivial
 ·have:=(List.getElem?_eq_some_iff.1 hk).1
  rw [← hl];exact this
end
end Ab
namespace Pl
def sg (neg:Bool) (n:Nat):Int:=if neg then -(n:Int) else n
theorem sg_abs (neg:Bool) (n:Nat):(sg neg n).natAbs=n:=by unfold sg;split <;> simp
theorem uR (z:Int):sg (decide (z<0)) z.natAbs=z:=by
 unfold sg
 by_cases h:z<0
 ·rw [if_pos (by simpa using h)];omega
 ·rw [if_neg (by simpa using h)];omega
theorem sg_mul (neg:Bool) (a b:Nat):sg neg (a*b)=sg neg a*b:=by
 unfold sg;split <;> simp [Int.neg_mul]
theorem sg_zero (neg:Bool):sg neg 0=0:=by unfold sg;split <;> rfl
theorem sg_neg {neg:Bool} {n:Nat} (h:n=0→neg=false):decide (sg neg n<0)=neg:=by
 unfold sg
 cases neg
 ·simp
 ·have:n≠0:=fun e=>by have:=h e;cases this
  simp;omega
theorem rat_parts {q:Rat} {N:Int} {D:Nat} (hD:D≠0) (h:q=mkRat N D) (hc:N.natAbs.gcd D=1):q.num=N∧q.den=D:=by
 have:=Rat.mk_eq_mkRat N D hD hc
 rw [h,← this]
 exact ⟨rfl,rfl⟩
def Parts (q:Rat) (neg:Bool) (n d:Nat):Prop:=neg=decide (q.num<0)∧n=q.num.natAbs∧d=q.den
theorem Parts.of {q:Rat} {neg:Bool} {n d:Nat} (hd:d≠0) (h:q=mkRat (sg neg n) d) (hc:n.gcd d=1) (h0:n=0→neg=false):Parts q neg n d:=by
 obtain ⟨h1,h2⟩:=rat_parts hd h (by rw [sg_abs];exact hc)
 exact ⟨by rw [h1,sg_neg h0],by rw [h1,sg_abs],h2.symm⟩
theorem Parts.self (q:Rat):Parts q (decide (q.num<0)) q.num.natAbs q.den:=⟨rfl,rfl,rfl⟩
theorem Parts.num_eq {q:Rat} {neg:Bool} {n d:Nat} (h:Parts q neg n d):q.num=sg neg n:=by
 obtain ⟨rfl,rfl,rfl⟩:=h
 exact (uR _).symm
theorem Parts.cop {q:Rat} {neg:Bool} {n d:Nat} (h:Parts q neg n d):n.gcd d=1:=by
 obtain ⟨rfl,rfl,rfl⟩:=h
 exact q.reduced
theorem Parts.pos {q:Rat} {neg:Bool} {n d:Nat} (h:Parts q neg n d):0<d:=by
 obtain ⟨rfl,rfl,rfl⟩:=h
 exact q.den_pos
theorem Parts.zero:Parts 0 false 0 1:=⟨rfl,rfl,rfl⟩
theorem Parts.reduce {neg:Bool} {n d:Nat} (hn:n≠0) (hd:d≠0):Parts (mkRat (sg neg n) d) neg (n/n.gcd d) (d/n.gcd d):=by
 have hg:0<n.gcd d:=Nat.gcd_pos_of_pos_right _ (by omega)
 have h1:=Nat.div_mul_cancel (Nat.gcd_dvd_left n d)
 have h2:=Nat.div_mul_cancel (Nat.gcd_dvd_right n d)
 refine Parts.of (Nat.ne_of_gt (Nat.div_pos (Nat.le_of_dvd (by omega) (Nat.gcd_dvd_right n d)) hg)) ?_ (Nat.gcd_div_gcd_div_gcd_of_pos_right (by omega)) ?_
 ·have := @Rat.mkRat_mul_right (sg neg (n/n.gcd d)) (d/n.gcd d) (n.gcd d) (by omega)
  rw [← sg_mul,h1,h2] at this
  exact this
 ·intro h0
  rw [h0] at h1
  omega
theorem Parts.reduced {neg:Bool} {n d:Nat} (hn:n≠0) (hd:d≠0) (hc:n.gcd d=1):Parts (mkRat (sg neg n) d) neg n d:=by
 have:=Parts.reduce (neg:=neg) hn hd
 rwa [hc,Nat.div_one,Nat.div_one] at this
theorem rO (p q:Rat) {S:Int} {g ma mb:Nat} (hg:g=p.den.gcd q.den) (hma:ma=p.den/g) (hmb:mb=q.den/g) (hS:S=p.num*mb+q.num*ma) :
 0<g∧0<ma∧0<mb∧p.den=ma*g∧q.den=mb*g∧p+q=mkRat S (ma*mb*g)∧S.natAbs.gcd g=S.natAbs.gcd (ma*mb*g):=by
 have hp:=p.den_pos
 have hq:=q.den_pos
 have hg0:0<g:=by rw [hg];exact Nat.gcd_pos_of_pos_left _ hp
 have e1:p.den=ma*g:=by rw [hma,hg];exact (Nat.div_mul_cancel (Nat.gcd_dvd_left _ _)).symm
 have e2:q.den=mb*g:=by rw [hmb,hg];exact (Nat.div_mul_cancel (Nat.gcd_dvd_right _ _)).symm
 have a0:0<ma:=Nat.pos_of_ne_zero (fun h=>by rw [h] at e1;omega)
 have b0:0<mb:=Nat.pos_of_ne_zero (fun h=>by rw [h] at e2;omega)
 refine ⟨hg0,a0,b0,e1,e2,?_,?_⟩
 ·rw [Rat.add_def']
  have hm := @Rat.mkRat_mul_right S (ma*mb*g) g (by omega)
  rw [← hm]
  congr 1
  ·rw [hS,e1,e2]
   push_cast
   grind
  ·rw [e1,e2]
   grind
 ·have:=Rat.add.aux p q hg hma hmb
  simp only [← hS] at this
  rw [this,e2,Nat.mul_assoc]
theorem Parts.add {p q:Rat} {S:Int} {g ma mb:Nat} {neg:Bool} (hg:g=p.den.gcd q.den) (hma:ma=p.den/g) (hmb:mb=q.den/g) (hS:S=p.num*mb+q.num*ma) (hn:sg neg S.natAbs=S) (h0:S.natAbs≠0) :
 Parts (p+q) neg (S.natAbs/S.natAbs.gcd g) (ma*mb*(g/S.natAbs.gcd g)):=by
 obtain ⟨g0,a0,b0,_,_,hpq,hgcd⟩:=rO p q hg hma hmb hS
 have h1:=Parts.reduce (neg:=neg) (n:=S.natAbs) (d:=ma*mb*g) h0 (Nat.ne_of_gt (Nat.mul_pos (Nat.mul_pos a0 b0) g0))
 rw [hn,← hpq,← hgcd,Nat.mul_div_assoc _ (Nat.gcd_dvd_right _ _)] at h1
 exact h1
theorem uS {p q:Rat} {S:Int} {g ma mb:Nat} (hg:g=p.den.gcd q.den) (hma:ma=p.den/g) (hmb:mb=q.den/g) (hS:S=p.num*mb+q.num*ma) (h0:S.natAbs=0):p+q=0:=by
 obtain ⟨_,_,_,_,_,hpq,_⟩:=rO p q hg hma hmb hS
 rw [hpq,show S=0 from by omega,Rat.zero_mkRat]
theorem rQ (z:Int) {d:Nat} (hd:d≠0):(mkRat z d).num.natAbs ∣ z.natAbs∧(mkRat z d).den ∣ d:=by
 obtain ⟨m,_,h1,h2⟩:=Rat.mkRat_num_den hd (n':=(mkRat z d).num) (d':=(mkRat z d).den) (z':=(mkRat z d).den_nz) (c:=(mkRat z d).reduced) rfl
 have h3:z.natAbs=(mkRat z d).num.natAbs*m:=by
  have:=congrArg Int.natAbs h1
  rwa [Int.natAbs_mul,Int.natAbs_natCast] at this
 exact ⟨⟨m,h3⟩,⟨m,h2⟩⟩
theorem sg_sg (a b:Bool) (n m:Nat):sg a n*sg b m=sg (a != b) (n*m):=by
 unfold sg
 cases a <;> cases b <;> simp [Int.neg_mul,Int.mul_neg]
theorem Parts.mul {p q:Rat} {a b:Bool} {n1 d1 n2 d2:Nat} (hl:Parts (mkRat p.num q.den) a n1 d1) (hr:Parts (mkRat q.num p.den) b n2 d2) (h1:n1≠0) (h2:n2≠0):Parts (p*q) (a != b) (n1*n2) (d1*d2):=by
 have hp:=p.den_nz
 have hq:=q.den_nz
 obtain ⟨l1,l2⟩:=rQ p.num hq
 obtain ⟨r1,r2⟩:=rQ q.num hp
 have el:=hl.num_eq
 have er:=hr.num_eq
 have e:p*q=mkRat (sg (a != b) (n1*n2)) (d1*d2):=by
  have e1:mkRat p.num q.den=mkRat (sg a n1) d1:=by
   rw [← el,hl.2.2,Rat.mkRat_self]
  have e2:mkRat q.num p.den=mkRat (sg b n2) d2:=by
   rw [← er,hr.2.2,Rat.mkRat_self]
  rw [← sg_sg,← Rat.mkRat_mul_mkRat,← e1,← e2,Rat.mkRat_mul_mkRat,Rat.mul_def',Nat.mul_comm]
 rw [← hl.2.1] at l1
 rw [← hl.2.2] at l2
 rw [← hr.2.1] at r1
 rw [← hr.2.2] at r2
 have c12:n1.Coprime d2:=(Nat.Coprime.coprime_dvd_left l1 (Nat.Coprime.coprime_dvd_right r2 p.reduced))
 have c21:n2.Coprime d1:=(Nat.Coprime.coprime_dvd_left r1 (Nat.Coprime.coprime_dvd_right l2 q.reduced))
 have c11:n1.Coprime d1:=hl.cop
 have c22:n2.Coprime d2:=hr.cop
 refine Parts.of (Nat.ne_of_gt (Nat.mul_pos hl.pos hr.pos)) e ?_ (fun h0=>?_)
 ·exact Nat.Coprime.mul_left (Nat.Coprime.mul_right c11 c12) (Nat.Coprime.mul_right c21 c22)
 ·rcases Nat.mul_eq_zero.1 h0 with h|h
  ·exact absurd h h1
  ·exact absurd h h2
theorem oP {p q:Rat} {a:Bool} {d1:Nat} (hl:Parts (mkRat p.num q.den) a 0 d1):p*q=0:=by
 have h:=hl.num_eq
 rw [sg_zero] at h
 have:mkRat p.num q.den=0:=Rat.num_eq_zero.1 h
 rw [Rat.mkRat_eq_zero q.den_nz] at this
 rw [Rat.num_eq_zero.1 this,Rat.zero_mul]
theorem uT {p q:Rat} {a:Bool} {d1:Nat} (hl:Parts (mkRat q.num p.den) a 0 d1):p*q=0:=by
 rw [Rat.mul_comm]
 exact oP hl
theorem Parts.neg {q:Rat} {s:Bool} {n d:Nat} (h:Parts q s n d) (h0:q≠0):Parts (-q) (!s) n d:=by
 obtain ⟨rfl,rfl,rfl⟩:=h
 have:q.num≠0:=fun e=>h0 (Rat.num_eq_zero.1 e)
 refine ⟨?_,by simp,by simp⟩
 rw [Rat.neg_num,← decide_not,decide_eq_decide]
 omega
theorem Parts.inv {q:Rat} {s:Bool} {n d:Nat} (h:Parts q s n d) (h0:q≠0):Parts q⁻¹ s d n:=by
 have hn:q.num≠0:=fun e=>h0 (Rat.num_eq_zero.1 e)
 have hn2:n≠0:=by rw [h.2.1];omega
 refine Parts.of hn2 ?_ (by rw [Nat.gcd_comm];exact h.cop) (fun e=>absurd e (Nat.ne_of_gt h.pos))
 rw [Rat.inv_def,h.num_eq,← h.2.2]
 unfold Pl.sg
 cases s
 ·simp [Rat.divInt_ofNat]
 ·simp only [if_true]
  rw [Rat.divInt_neg',Rat.divInt_ofNat]
end Pl
namespace Pl
open Go
def AllDig (l:List UInt8):Prop := ∀ c∈l,48≤c.toNat∧c.toNat≤57
def digStep (a:Nat) (c:UInt8):Nat:=a*10+(c.toNat-48)
def gO (acc:Nat) (l:List UInt8):Nat:=l.foldl digStep acc
def aT (l:List UInt8):Nat:=gO 0 l
theorem dP (acc:Nat):gO acc []=acc:=by unfold gO;rw [List.foldl_nil]
theorem dV (acc:Nat) (c:UInt8) (r:List UInt8):gO acc (c::r)=gO (acc*10+(c.toNat-48)) r:=by unfold gO;rw [List.foldl_cons,digStep]
theorem acc_alg (a d T n:Nat):(a*10+d)*T+n=a*(T*10)+(d*T+n):=by grind
theorem xF (l:List UInt8):∀ acc,gO acc l=acc*10^l.length+gO 0 l:=by
 induction l with
 | nil=>intro acc;rw [dP,dP,List.length_nil,Nat.pow_zero,Nat.mul_one,Nat.add_zero]
 | cons c r ih =>
   intro acc
   rw [dV,dV,ih,ih (0*10+(c.toNat-48)),Nat.zero_mul,Nat.zero_add,List.length_cons,Nat.pow_succ]
   exact acc_alg _ _ _ _
theorem mD (c:UInt8) (r:List UInt8):aT (c::r)=(c.toNat-48)*10^r.length+aT r:=by
 unfold aT
 rw [dV,xF,Nat.zero_mul,Nat.zero_add]
theorem eV (l r:List UInt8):aT (l++r)=aT l*10^r.length+aT r:=by
 have key:∀ acc,gO acc (l++r)=gO (gO acc l) r:=by
  induction l with
  | nil=>intro acc;rw [dP,List.nil_append]
  | cons c l ih=>intro acc;rw [List.cons_append,dV,dV];exact ih _
 unfold aT
 rw [key,xF r (gO 0 l)]
theorem fY {l:List UInt8} (h:AllDig l):aT l<10^l.length:=by
 induction l with
 | nil=>rw [aT,dP,List.length_nil,Nat.pow_zero];omega
 | cons c r ih =>
   have hc:=h c (by simp)
   have hr:=ih (fun x hx=>h x (by simp [hx]))
   rw [mD,List.length_cons,Nat.pow_succ]
   generalize aT r=n at *
   generalize 10^r.length=T at *
   have:(c.toNat-48)*T≤9*T:=Nat.mul_le_mul_right _ (by omega)
   omega
theorem AllDig.take {l:List UInt8} (h:AllDig l) (n:Nat):AllDig (l.take n):=fun c hc=>h c (List.mem_of_mem_take hc)
theorem AllDig.drop {l:List UInt8} (h:AllDig l) (n:Nat):AllDig (l.drop n):=fun c hc=>h c (List.mem_of_mem_drop hc)
theorem oQ:∀ (l:List UInt8) (acc:Nat),AllDig l→(acc+1)*10^l.length≤10000000000000000000→Lib.parseUintM (2^64-1) acc l = .ok (gO acc l)
 | [],acc,_,_=>by rw [dP];rfl
 | c :: r,acc,h,hb=>by
   have hc:=h c (by simp)
   rw [List.length_cons,Nat.pow_succ] at hb
   have hp:1≤10^r.length:=Nat.one_le_pow _ _ (by omega)
   have h1:(acc+1)*10≤10000000000000000000:=by
    have:(acc+1)*10≤(acc+1)*(10^r.length*10):=Nat.mul_le_mul_left _ (by omega)
    omega
   have h2:(acc*10+(c.toNat-48)+1)*10^r.length≤10000000000000000000:=by
    have:(acc*10+(c.toNat-48)+1)*10^r.length≤(acc+1)*10*10^r.length:=Nat.mul_le_mul_right _ (by omega)
    have e:(acc+1)*10*10^r.length=(acc+1)*(10^r.length*10):=by rw [Nat.mul_assoc,Nat.mul_comm 10]
    omega
   unfold Lib.parseUintM
   rw [if_pos hc,if_neg (by omega),if_neg (by omega),dV]
   exact oQ r _ (fun x hx=>h x (by simp [hx])) h2
theorem yQ {l:List UInt8} (h:AllDig l) (h0:l≠[]) (hl:l.length≤19):Lib.parseUintB 64 l = .ok (aT l):=by
 unfold Lib.parseUintB
 rw [if_neg h0]
 refine oQ l 0 h ?_
 have:10^l.length≤10^19:=Nat.pow_le_pow_right (by omega) hl
 omega
theorem bU (n:Nat):aT (Lib.decDigits n)=n∧AllDig (Lib.decDigits n)∧Lib.decDigits n≠[]:=by
 induction n using Nat.strongRecOn with
 | ind n ih =>
   rw [Lib.decDigits]
   have hd:∀ d:Nat,d<10→(UInt8.ofNat (48+d)).toNat=48+d:=fun d hd=>by
    rw [UInt8.toNat_ofNat'];omega
   split
   ·rename_i h
    refine ⟨?_,?_,by simp⟩
    ·rw [aT,dV,dP,hd n h];omega
    ·intro c hc
     simp only [List.mem_singleton] at hc
     subst hc
     rw [hd n h];omega
   ·rename_i h
    obtain ⟨i1,i2,i3⟩:=ih (n/10) (by omega)
    refine ⟨?_,?_,by simp⟩
    ·rw [eV,i1]
     rw [List.length_singleton,Nat.pow_one,aT,dV,dP,hd _ (by omega)];omega
    ·intro c hc
     rcases List.mem_append.1 hc with hc|hc
     ·exact i2 c hc
     ·simp only [List.mem_singleton] at hc
      subst hc
      rw [hd _ (by omega)];omega
theorem uU {l r:List UInt8} (h:l≠[]):(l++r).head?=l.head?:=by
 cases l with
 | nil=>exact absurd rfl h
 | cons c l=>rfl
theorem cG {n:Nat} (h:n<10):Lib.decDigits n = [UInt8.ofNat (48+n)]:=by rw [Lib.decDigits,dif_pos h]
theorem eH {n:Nat} (h:¬ n<10):Lib.decDigits n=Lib.decDigits (n/10) ++ [UInt8.ofNat (48+n%10)]:=by rw [Lib.decDigits,dif_neg h]
theorem uV {c:UInt8} (h:48≤c.toNat∧c.toNat≤57) {d:Nat} (hd:d=c.toNat-48):UInt8.ofNat (48+d)=c:=by
 apply UInt8.toNat_inj.1
 rw [UInt8.toNat_ofNat']
 omega
theorem uW (l:List UInt8) (c:UInt8):aT (l ++ [c])=aT l*10+(c.toNat-48):=by
 rw [eV,List.length_singleton,Nat.pow_one,mD,List.length_nil,Nat.pow_zero,Nat.mul_one,aT,aT,dP,Nat.add_zero]
theorem natOf_nil:aT []=0:=dP 0
theorem natOf_pos {l:List UInt8} (h:AllDig l) (h0:l≠[]) (hh:l.head?≠some 48):0<aT l:=by
 match l,h0 with
 | c :: r,_ =>
   rw [mD]
   have hc:=h c (by simp)
   have hne:c.toNat≠48:=fun e=>hh (by
    rw [List.head?_cons]
    exact congrArg some (UInt8.toNat_inj.1 (by rw [e];rfl)))
   have:1*1≤(c.toNat-48)*10^r.length:=Nat.mul_le_mul (by omega) (Nat.pow_pos (by omega))
   omega
theorem xG (n:Nat):∀ l:List UInt8,l.length=n→AllDig l→l≠[]→(l.length=1∨l.head?≠some 48)→Lib.decDigits (aT l)=l:=by
 induction n with
 | zero=>intro l hl _ h0;exact absurd (List.eq_nil_of_length_eq_zero hl) h0
 | succ n ih =>
   intro l hl hd h0 hh
   obtain ⟨r,c,rfl⟩:∃ r c,l=r ++ [c]:=⟨l.dropLast,l.getLast h0,(List.dropLast_concat_getLast h0).symm⟩
   have hc:=hd c (by simp)
   rw [uW]
   by_cases hr:r = []
   ·subst hr
    rw [natOf_nil,Nat.zero_mul,Nat.zero_add,cG (by omega),uV hc rfl,List.nil_append]
   ·have hr1:AllDig r:=fun x hx=>hd x (by simp [hx])
    have hlen:r.length=n:=by simpa using hl
    have hh2:r.head?≠some 48:=by
     rcases hh with hh|hh
     ·rw [List.length_append,List.length_singleton] at hh
      exact absurd (List.eq_nil_of_length_eq_zero (by omega)) hr
     ·rwa [uU hr] at hh
    have hp:=natOf_pos hr1 hr hh2
    rw [eH (by omega),show (aT r*10+(c.toNat-48))/10=aT r from by omega,show (aT r*10+(c.toNat-48))%10=c.toNat-48 from by omega,
     ih r hlen hr1 hr (.inr hh2),uV hc rfl]
theorem uX {n:Nat} (h:0<n):(Lib.decDigits n).head?≠some 48:=by
 induction n using Nat.strongRecOn with
 | ind n ih =>
   by_cases hn:n<10
   ·rw [cG hn,List.head?_cons]
    intro e
    injection e with e
    have:=congrArg UInt8.toNat e
    rw [UInt8.toNat_ofNat'] at this
    have h48:(48:UInt8).toNat=48:=rfl
    omega
   ·rw [eH hn,uU (bU _).2.2]
    exact ih _ (by omega) (by omega)
theorem kL (k:Nat):∀ w,w<10^(k+1)→(Lib.decDigits w).length≤k+1:=by
 induction k with
 | zero=>intro w h;rw [cG (by omega)];simp
 | succ k ih =>
   intro w h
   by_cases hw:w<10
   ·rw [cG hw,List.length_singleton];omega
   ·rw [eH hw,List.length_append,List.length_singleton]
    have:=ih (w/10) (by rw [Nat.pow_succ] at h;omega)
    omega
theorem natOf_zeros (k:Nat) (l:List UInt8):aT (List.replicate k 48++l)=aT l:=by
 induction k with
 | zero=>simp
 | succ k ih =>
   rw [List.replicate_succ,List.cons_append,mD,ih]
   have:((48:UInt8).toNat-48)=0:=rfl
   rw [this,Nat.zero_mul,Nat.zero_add]
theorem dec_chunk {q w:Nat} (hq:0<q) (hw:w<10000000000000000000):(Lib.decDigits w).length≤19 ∧
 Lib.decDigits (q*10000000000000000000+w)=Lib.decDigits q++(List.replicate (19-(Lib.decDigits w).length) 48++Lib.decDigits w):=by
 have hl:(Lib.decDigits w).length≤19:=kL 18 w hw
 obtain ⟨q1,q2,q3⟩:=bU q
 obtain ⟨w1,w2,w3⟩:=bU w
 refine ⟨hl,?_⟩
 have hlen:(List.replicate (19-(Lib.decDigits w).length) (48:UInt8)++Lib.decDigits w).length=19:=by rw [List.length_append,List.length_replicate];omega
 have hval:aT (Lib.decDigits q++(List.replicate (19-(Lib.decDigits w).length) 48++Lib.decDigits w))=q*10000000000000000000+w:=by
  rw [eV,hlen,natOf_zeros,q1,w1]
 rw [← hval]
 refine xG _ _ rfl ?_ (by simp [q3]) (.inr ?_)
 ·intro c hc
  rcases List.mem_append.1 hc with hc|hc
  ·exact q2 c hc
  ·rcases List.mem_append.1 hc with hc|hc
   ·rw [List.mem_replicate] at hc
    rw [hc.2]
    exact ⟨by decide,by decide⟩
   ·exact w2 c hc
 ·rw [uU q3]
  exact uX hq
theorem uY {a k:Nat} (h:a<10^(k+1)):(Lib.decDigits a).length≤k+1:=kL k a h
end Pl
end Go.Proofs.YtpjknnddanhgkaaGreatDoor
