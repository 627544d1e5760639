/- Parts of the proof, joined. -/
import Derived.Test.YtofcdondmgojiaaGreatDoorJ1
import Derived.Scope
set_option linter.unusedSimpArgs false
set_option linter.unusedVariables false
namespace Go.Proofs.YtofcdondmgojiaaGreatDoor.Ab
open Go.RowKit
variable {Kc:Value→Bool}
def evalP (P:Program) {α:Type}:Sem α→Option α
 | .pure a=>some a
 | .program k=>evalP P (k P)
 | _=>none
theorem bQ {P:Program} {α:Type}:∀ {s:Sem α} {a:α},evalP P s=some a→∀ w,s.run P w = .ok a w
 | .pure _,_,h,w=>by injection h with h;subst h;rfl
 | .program k,_,h,w=>by
   have:(Sem.program k).run P w=(k P).run P w:=rfl
   rw [this]
   exact bQ (s:=k P) h w
 | .load ..,_,h,_ | .store ..,_,h,_ | .new ..,_,h,_ | .shape ..,_,h,_ | .freeze ..,_,h,_ | .frozen ..,_,h,_ | .getObj ..,_,h,_ | .setObj ..,_,h,_ | .choose ..,_,h,_ | .sys ..,_,h,_ | .mark ..,_,h,_ | .halt ..,_,h,_=>by cases h
inductive OR (Kc:Value→Bool) where
 | val (x:AV Kc)
 | new (T:TypeId) (l:List (Seg Kc))
 | nsl (n:Nat) (T:TypeId) (l:List (Seg Kc))
 | put (k off:Nat) (l:List (Seg Kc))
 | call (f:FuncId) (args:List (AV Kc))
 | stop
def rowB (P:Program) (t:TypeId):Option Bool:=(P.underlying t).map TypeDesc.isRow
def sizeT (P:Program) (t:TypeId):Option Nat:=(P.info? t).map (·.size)
def litsOf:List (Seg Kc)→Option (List Value)
 | []=>some []
 | .lit v::l=>(litsOf l).map (v :: ·)
 | _=>none
def litOf:AV Kc→Option Value
 | .fv (.sc (.lit v))=>some v
 | .fv (.ag l)=>(litsOf l).map fun cs => .agg cs.toArray
 | _=>none
def constA:Value→AV Kc
 | .agg cs=>if cs.toList.all (·.oneCell') then .fv (.ag (cs.toList.map .lit)) else .un
 | .tuple _ => .un
 | v => .fv (.sc (.lit v))
theorem litsOf_holds {β:List Nat} {w:World}:∀ {l:List (Seg Kc)} {vs cs:List Value},litsOf l=some vs→holdsL β l cs w→cs=vs
 | [],_,_,h,h'=>by injection h with h;rw [h',h]
 | .lit v::l,_,_,h,⟨a,b,e,h1,h2⟩=>by
   simp only [litsOf,Option.map_eq_some_iff] at h
   obtain ⟨r,hr,rfl⟩:=h
   rw [e,h1.1,litsOf_holds hr h2];rfl
 | .ptr .. :: _,_,_,h,_ | .slc .. :: _,_,_,h,_ | .sp _::_,_,_,h,_=>by cases h
theorem gH {β:List Nat} {w:World} {x:AV Kc} {u v:Value} (h:litOf x=some u) (hv:x.holds β v w):v=u:=by
 cases x with
 | tup l=>cases h
 | fv f =>
   cases f with
   | sc s =>
     cases s with
     | lit c=>injection h with h;subst h;have:=hv.1;injection this
     | _=>cases h
   | ag l =>
     simp only [litOf,Option.map_eq_some_iff] at h
     obtain ⟨cs,hc,rfl⟩:=h
     obtain ⟨ds,rfl,hd⟩:=hv
     rw [litsOf_holds hc hd]
   | _=>cases h
theorem constA_holds {β:List Nat} {w:World} (v:Value):(constA v:AV Kc).holds β v w:=by
 unfold constA
 split
 ·split
  ·rename_i h
   exact ⟨_,rfl,holdsL.lits h⟩
  ·trivial
 ·trivial
 ·rename_i h1 h2
  refine ⟨rfl,?_⟩
  cases v <;> simp_all [Value.oneCell']
def partA (P:Program) (T:TypeId) (l:List (Seg Kc)) (off:Nat):OR Kc :=
 match sizeT P T with
 | some n=>match cut l off n with
   | some m=>match rowB P T,m with
     | some true,m => .val (.fv (.ag m))
     | some false,[s]=>if n==1 then .val (.fv (.sc s)) else .stop
     | _,_ => .stop
   | none => .stop
 | none => .stop
def fillA (place:Nat→Option (Nat×Nat)):List (Nat×AV Kc)→List (Seg Kc)→Option (List (Seg Kc))
 | [],l=>some l
 | (i,x)::r,l=>match place i,x with
   | some (off,n),.fv (.sc s)=>if n==1&&s.size==1 then (repl l off [s]).bind (fillA place r) else none
   | some (off,n),.fv (.ag m)=>if sizeL m==n then (repl l off m).bind (fillA place r) else none
   | _,_=>none
def zerosA (P:Program) (T:TypeId):Option (List (Seg Kc)) :=
 match (P.info? T).bind (·.zero) with
 | some z=>if z.cells.toList.all (·.oneCell') then some (z.cells.toList.map .lit) else none
 | none=>none
def zerosN (z:Value) (k:Nat):List Value:=(List.range k).map fun i=>z.cells[i%z.cells.size]!
def placesA (P:Program) (fs:Array Field):Option (List (Nat×Nat)) :=
 fs.toList.mapM fun f=>(P.info? f.type).map fun i=>(f.offset,i.size)
def caA:Bool×List (Seg Kc)→AV Kc
 | (true,l) => .fv (.ag l)
 | (false,[s]) => .fv (.sc s)
 | _ => .un
def toCA:List (AV Kc)→Option (List (Bool×List (Seg Kc)))
 | []=>some []
 | .fv (.sc s)::l=>(toCA l).map ((false,[s]) :: ·)
 | .fv (.ag m)::l=>(toCA l).map ((true,m) :: ·)
 | _=>none
def litsA:List (AV Kc)→Option (List Value)
 | []=>some []
 | x::l=>match litOf x,litsA l with|some v,some r=>some (v::r)|_,_=>none
def closedA (P:Program) (s:Sem Value):OR Kc:=match evalP P s with|some v => .val (constA v)|none => .stop
variable (P:Program) (ev:Operand→AV Kc) (bl:List (Option (TypeId×List (Seg Kc))))
def opA (o:Oper):OR Kc :=
 match o.op with
 | .move x | .assign x => .val (ev x)
 | .pick c a b=>match ev c with
   | .fv (.sc (.lit (.bool t))) => .val (if t then ev a else ev b)
   | _ => .stop
 | .alloc T=>match zerosA P T with|some l => .new T l|none => .stop
 | .box T x=>match ev x with | .fv (.sc s) => .new T [s] | .fv (.ag l) => .new T l|_ => .stop
 | .load T x=>match ev x with
   | .fv (.sc (.ptr k off))=>match bl[k]? with|some (some (_,l))=>partA P T l off|_ => .stop
   | _ => .stop
 | .store T x y=>match ev x,ev y,sizeT P T with
   | .fv (.sc (.ptr k off)),.fv (.sc s),some n=>if n==1&&s.size==1 then .put k off [s] else .stop
   | .fv (.sc (.ptr k off)),.fv (.ag m),some n=>if sizeL m==n then .put k off m else .stop
   | _,_,_ => .stop
 | .fieldAddr T x i=>match ev x,P.underlying T with
   | .fv (.sc (.ptr k off)),some (.struct fs)=>match fs[i]? with
     | some f=>match sizeT P f.type with|some (_+1) => .val (.fv (.sc (.ptr k (off+f.offset))))|_ => .stop
     | none => .stop
   | _,_ => .stop
 | .field T x i=>match ev x,P.underlying T with
   | .fv (.ag l),some (.struct fs)=>match fs[i]? with|some f=>partA P f.type l f.offset|none => .stop
   | _,_ => .stop
 | .indexAddr T x ix=>match ev x,ev ix,P.underlying T with
   | .fv (.sc (.ptr k off)),.fv (.sc (.lit (.int _ i))),some (.array len e)=>if 0≤i∧i<len then match sizeT P e with|some n => .val (.fv (.sc (.ptr k (off+i.toNat*n))))|none => .stop else .stop
   | .fv (.sc (.slc k off n _)),.fv (.sc (.lit (.int _ i))),some (.slice e)=>if 0≤i∧i<n then match sizeT P e with|some m => .val (.fv (.sc (.ptr k (off+i.toNat*m))))|none => .stop else .stop
   | _,_,_ => .stop
 | .index T x ix=>match ev x,ev ix,P.underlying T with
   | .fv (.ag l),.fv (.sc (.lit (.int _ i))),some (.array len e)=>if 0≤i∧i<len then match sizeT P e with|some n=>partA P e l (i.toNat*n)|none => .stop else .stop
   | _,_,_ => .stop
 | .nilCheck x=>match ev x with | .fv (.sc (.ptr k off)) => .val (.fv (.sc (.ptr k off)))|_ => .stop
 | .extract x i=>match ev x with
   | .tup l=>match l[i]? with|some f => .val (.fv f)|none => .stop
   | _ => .stop
 | .build T parts=>match zerosA P T,P.underlying T with
   | some z,some (.struct fs)=>match placesA P fs with
     | some pl=>match fillA (fun i=>pl[i]?) (parts.toList.map fun p=>(p.1,ev p.2)) z with|some l => .val (.fv (.ag l))|none => .stop
     | none => .stop
   | some z,some (.array _ e)=>match sizeT P e with
     | some n=>match fillA (fun i=>some (i*n,n)) (parts.toList.map fun p=>(p.1,ev p.2)) z with|some l => .val (.fv (.ag l))|none => .stop
     | none => .stop
   | _,_ => .stop
 | .buildSlice T len parts=>match P.underlying T with
   | some (.slice e)=>match sizeT P e,(P.info? e).bind (·.zero) with
     | some n,some z=>if 0<n∧0<len∧len*n≤16777216∧(zerosN z (len*n)).all (·.oneCell')=true then match fillA (fun i=>some (i*n,n)) (parts.toList.map fun p=>(p.1,ev p.2)) ((zerosN z (len*n)).map .lit) with|some l => .nsl len e l|none => .stop else .stop
     | _,_ => .stop
   | _ => .stop
 | .slice T x none none none=>match ev x,P.underlying T with
   | .fv (.sc (.ptr k off)),some (.array n e)=>match sizeT P e with|some _ => .val (.fv (.sc (.slc k off n n)))|none => .stop
   | _,_ => .stop
 | .binOp op T x y _=>match litOf (ev x),litOf (ev y) with
   | some a,some b=>closedA P (do eqGuard op T x y a b;binOp op T a b)
   | _,_ => .stop
 | .makeFunc (.func F) first cap=>match toCA (first.toList.map ev),toCA (cap.toList.map ev) with
   | some a,some b => .val (.fv (.clo F a b))
   | _,_ => .stop
 | .unOp op _ x=>match litOf (ev x) with|some a=>closedA P (Op.unary op a)|none => .stop
 | .convert s d x=>match litOf (ev x) with|some a=>closedA P (convert s d a)|none => .stop
 | .call c=>match c.callee with
   | .value f=>match litOf (ev f),ev f with
     | some (.func (.func g) a b),_ => .call g (a.toList.map constA++c.args.toList.map ev++b.toList.map constA)
     | none,.fv (.clo g a b) => .call g (a.map caA++c.args.toList.map ev++b.map caA)
     | _,_ => .stop
   | .builtin .len=>match c.argTypes[0]?,c.args.toList with
     | some T,[x]=>match P.underlying T,ev x with
       | some (.slice _),.fv (.sc (.slc _ _ n _)) => .val (.fv (.sc (.lit (.int .i64 n))))
       | _,_ => .stop
     | _,_ => .stop
   | .builtin b=>match litsA (c.args.toList.map ev) with
     | some vs=>match evalP P (builtin b c.argTypes o.type (c.args.map fun | .const _=>true|_=>false) vs.toArray) with
       | some (.value v) => .val (constA v)
       | _ => .stop
     | none => .stop
   | _ => .stop
 | _ => .stop
end Go.Proofs.YtofcdondmgojiaaGreatDoor.Ab
namespace Go.Proofs.YtofcdondmgojiaaGreatDoor.Ab
open Go.RowKit
variable {Kc:Value→Bool} {P:Program} {ev:Operand→AV Kc} {bl:List (Option (TypeId×List (Seg Kc)))} {β:List Nat} {w:World} {ρ:Operand→Value} {o:Oper} {x:AV Kc}
def Mem (β:List Nat) (bl:List (Option (TypeId×List (Seg Kc)))) (w:World):Prop :=
 ∀ (k:Nat) T l,bl[k]?=some (some (T,l))→∃ g cs,β[k]?=some g∧w.heap[g]?=some (.cells cs.toArray T (0,0))∧holdsL β l cs w
theorem cells_at {g:Nat} {cs:List Value} {T:TypeId} {fr:Nat×Nat} (h:w.heap[g]?=some (.cells cs.toArray T fr)) (i:Nat):w.cell? ⟨g,i,none⟩=cs[i]?:=by
 unfold World.cell?
 rw [h]
 simp
theorem range_at {g:Nat} {cs:List Value} {T:TypeId} {fr:Nat×Nat} (h:w.heap[g]?=some (.cells cs.toArray T fr)) (off n:Nat):w.rangeAt g off ((cs.drop off).take n):=by
 intro j v hj
 rw [cells_at h]
 rw [List.getElem?_take] at hj
 split at hj
 ·rw [List.getElem?_drop] at hj;exact hj
 ·cases hj
theorem partA_val {T:TypeId} {l:List (Seg Kc)} {off:Nat} (h:partA P T l off = .val x):∃ n m,sizeT P T=some n∧cut l off n=some m∧((rowB P T=some true∧x = .fv (.ag m))∨(rowB P T=some false∧n=1∧∃ s,m = [s]∧x = .fv (.sc s))):=by
 unfold partA at h
 split at h
 ·rename_i n hn
  split at h
  ·rename_i m hm
   split at h
   ·rename_i hr
    injection h with h
    exact ⟨n,_,hn,hm,.inl ⟨hr,h.symm⟩⟩
   ·rename_i s hr
    split at h
    ·rename_i h1
     injection h with h
     exact ⟨n,_,hn,hm,.inr ⟨hr,by simpa using h1,s,rfl,h.symm⟩⟩
    ·cases h
   ·cases h
  ·cases h
 ·cases h
theorem rowB_some {T:TypeId} {b:Bool} (h:rowB P T=some b):∃ d,P.underlying T=some d∧d.isRow=b:=by
 unfold rowB at h
 rw [Option.map_eq_some_iff] at h
 exact h
theorem sizeT_info {T:TypeId} {n:Nat} (h:sizeT P T=some n):∃ i,P.info? T=some i∧i.size=n:=by
 unfold sizeT at h
 rw [Option.map_eq_some_iff] at h
 exact h
theorem run_isAgg {T:TypeId} {d:TypeDesc} (h:P.underlying T=some d) (w:World):(isAgg T).run P w = .ok d.isRow w:=by
 unfold isAgg
 rw [Sem.run_bind,run_underlying h w]
 cases d <;> rfl
theorem gI {T:TypeId} {n:Nat} (h:sizeT P T=some n) (w:World):(Go.sizeOf T).run P w = .ok n w:=by
 obtain ⟨i,h1,h2⟩:=sizeT_info h
 simp [Go.sizeOf,typeInfo,h1,h2]
theorem holdsL_one {s:Seg Kc} {cs:List Value} (h:holdsL β [s] cs w):s.holds β cs w:=by
 obtain ⟨a,b,e,h1,h2⟩:=h
 rw [show b = [] from h2,List.append_nil] at e
 rw [e];exact h1
theorem take_one {cs:List Value} {off:Nat} (h:off+1≤cs.length):∃ v,(cs.drop off).take 1 = [v]∧cs[off]?=some v:=by
 refine ⟨cs[off],?_,List.getElem?_eq_getElem (by omega)⟩
 rw [List.drop_eq_getElem_cons (by omega)]
 rfl
theorem run_load_part {T T' : TypeId} {l:List (Seg Kc)} {off g:Nat} {cs:List Value} (h:partA P T l off = .val x) (hg:w.heap[g]?=some (.cells cs.toArray T' (0,0))) (hl:holdsL β l cs w) :
 ∃ v,(loadVar T ⟨g,off,none⟩).run P w = .ok v w∧x.holds β v w:=by
 obtain ⟨n,m,hn,hm,hc⟩:=partA_val h
 obtain ⟨h1,h2⟩:=cut_holds hm hl
 rcases hc with ⟨hr,rfl⟩|⟨hr,rfl,s,rfl,rfl⟩
 ·obtain ⟨d,hd,hd2⟩:=rowB_some hr
  obtain ⟨i,hi,hi2⟩:=sizeT_info hn
  refine ⟨_,run_loadVar_mid w g off T ((cs.drop off).take n) d (range_at hg off n) hd hd2 ?_,_,rfl,h1⟩
  rw [hi,Option.map_some,hi2,List.length_take,List.length_drop,Nat.min_eq_left (by omega)]
 ·obtain ⟨d,hd,hd2⟩:=rowB_some hr
  obtain ⟨v,hv,hv2⟩:=take_one h2
  rw [hv] at h1
  refine ⟨v,?_,holdsL_one h1⟩
  unfold loadVar
  rw [Sem.run_bind,run_isAgg hd w,hd2]
  have hcell:w.cell? ⟨g,off,none⟩=some v:=by rw [cells_at hg];exact hv2
  simp [Result.andThen,hcell]
theorem run_part {T:TypeId} {l:List (Seg Kc)} {off:Nat} {cs:List Value} (h:partA P T l off = .val x) (hl:holdsL β l cs w) :
 ∃ v,(part T cs.toArray off).run P w = .ok v w∧x.holds β v w:=by
 obtain ⟨n,m,hn,hm,hc⟩:=partA_val h
 obtain ⟨h1,h2⟩:=cut_holds hm hl
 rcases hc with ⟨hr,rfl⟩|⟨hr,rfl,s,rfl,rfl⟩
 ·obtain ⟨d,hd,hd2⟩:=rowB_some hr
  refine ⟨.agg ((cs.drop off).take n).toArray,?_,_,rfl,h1⟩
  unfold part
  rw [Sem.run_bind,run_isAgg hd w,hd2]
  simp only [Result.andThen,if_true,Sem.run_bind,gI hn w,Sem.run_pure]
  congr 2
  apply Array.toList_inj.1
  simp [Array.toList_extract]
 ·obtain ⟨d,hd,hd2⟩:=rowB_some hr
  obtain ⟨v,hv,hv2⟩:=take_one h2
  rw [hv] at h1
  refine ⟨v,?_,holdsL_one h1⟩
  unfold part
  rw [Sem.run_bind,run_isAgg hd w,hd2]
  simp [Result.andThen,hv2]
theorem zerosA_run {T:TypeId} {l:List (Seg Kc)} (h:zerosA P T=some l):∃ z,(P.info? T).bind (·.zero)=some z∧(∀ w,(zeroValue T).run P w = .ok z w)∧l=z.cells.toList.map .lit∧z.cells.toList.all (·.oneCell')=true:=by
 unfold zerosA at h
 split at h
 ·rename_i z hz
  split at h
  ·rename_i h1
   injection h with h
   refine ⟨z,hz,fun w=>?_,h.symm,h1⟩
   rw [Option.bind_eq_some_iff] at hz
   obtain ⟨i,hi,hz⟩:=hz
   simp [zeroValue,typeInfo,hi,hz]
  ·cases h
 ·cases h
theorem closedA_val {s:Sem Value} (h:closedA (Kc:=Kc) P s = .val x) (β:List Nat) (w:World):∃ v,s.run P w = .ok v w∧x.holds β v w:=by
 unfold closedA at h
 split at h
 ·rename_i v hv
  injection h with h
  subst h
  exact ⟨v,bQ hv w,constA_holds v⟩
 ·cases h
theorem fill_foldl (cs:Array Value) (ds:List Value) (off:Nat) (h:off+ds.length≤cs.size) :
 (ds.toArray.zipIdx.foldl (fun cs (c,j)=>cs.setIfInBounds (off+j) c) cs).toList=cs.toList.take off++ds++cs.toList.drop (off+ds.length):=by
 rw [← Array.foldl_toList]
 have key:∀ (es:List Value) (k:Nat) (a:Array Value),off+k+es.length≤a.size →
  ((es.zipIdx k).foldl (fun cs (c,j)=>cs.setIfInBounds (off+j) c) a).toList=a.toList.take (off+k)++es++a.toList.drop (off+k+es.length):=by
  intro es
  induction es with
  | nil=>intro k a _;simp
  | cons e es ih =>
    intro k a hk
    simp only [List.length_cons] at hk
    rw [List.zipIdx_cons,List.foldl_cons,ih (k+1) _ (by simp;omega)]
    simp only [Array.toList_setIfInBounds,List.length_cons]
    rw [show off+(k+1)=(off+k)+1 from by omega]
    rw [List.take_set,List.drop_set]
    have hlt:off+k<a.toList.length:=by simp;omega
    have hlt2:off+k+1+es.length > off+k:=by omega
    rw [if_pos (by omega)]
    have e1:(a.toList.take (off+k+1)).set (off+k) e=a.toList.take (off+k) ++ [e]:=by
     rw [List.take_succ_eq_append_getElem hlt]
     rw [List.set_append_right _ _ (by simp;omega)]
     simp [Nat.min_eq_left (show off+k≤a.size by omega)]
    rw [e1]
    rw [show off+k+(es.length+1)=off+k+1+es.length from by omega]
    simp
 have:=key ds 0 cs (by simpa using h)
 simpa using this
theorem cells_sc {s:Seg Kc} {v:Value} (h:s.holds β [v] w):v.cells = #[v]:=by
 have:=Seg.one h v (by simp)
 cases v <;> simp_all [Value.cells,Value.oneCell']
theorem fill_step {place:Nat→Option (Nat×Nat)} {cs:Array Value} {i off n:Nat} {v:Value} {rest:List (Nat×Value)} (hp:place i=some (off,n)) (hn:v.cells.size=n) (hle:off+v.cells.size≤cs.size) :
 Instr.fill place cs ((i,v)::rest)=Instr.fill place (v.cells.zipIdx.foldl (fun cs (c,j)=>cs.setIfInBounds (off+j) c) cs) rest:=by
 have h2:(decide (v.cells.size≠n) || decide (off+v.cells.size > cs.size))=false:=by simp;omega
 rw [Instr.fill,hp]
 simp only [h2,Bool.false_eq_true,if_false]
theorem fillA_run {place:Nat→Option (Nat×Nat)}:∀ {parts:List (Nat×Operand)} {l l' : List (Seg Kc)} {cs:Array Value},fillA place (parts.map fun p=>(p.1,ev p.2)) l=some l'→holdsL β l cs.toList w →
 (∀ p∈parts,(ev p.2).holds β (ρ p.2) w)→∃ ds:Array Value,Instr.fill place cs (parts.map fun p=>(p.1,ρ p.2))=some ds∧holdsL β l' ds.toList w
 | [],l,l',cs,h,hl,_=>by injection h with h;subst h;exact ⟨cs,rfl,hl⟩
 | (i, y)::parts,l,l',cs,h,hl,hp=>by
   have hy:=hp (i,y) (by simp)
   have hp' : ∀ p∈parts,(ev p.2).holds β (ρ p.2) w:=fun p hm=>hp p (by simp [hm])
   simp only [List.map_cons,fillA] at h
   simp only at hy
   split at h
   ·rename_i off n s hpl hev
    rw [hev] at hy
    split at h
    ·rename_i hn
     simp only [Bool.and_eq_true,beq_iff_eq] at hn
     rw [Option.bind_eq_some_iff] at h
     obtain ⟨l2,hr,h⟩:=h
     obtain ⟨h1,h2⟩:=repl_holds hr hl (holdsL.single hy)
     have hc:=cells_sc hy
     simp only [List.length_singleton] at h2
     rw [Array.length_toList] at h2
     obtain ⟨ds,hd,hd2⟩:=fillA_run (cs := [ρ y].toArray.zipIdx.foldl (fun cs (c,j)=>cs.setIfInBounds (off+j) c) cs) h (by
      rw [fill_foldl cs [ρ y] off (by simpa using h2)]
      exact h1) hp'
     refine ⟨ds,?_,hd2⟩
     rw [List.map_cons,fill_step hpl (by rw [hc];simp;omega) (by rw [hc];simp;omega),hc]
     exact hd
    ·cases h
   ·rename_i off n m hpl hev
    rw [hev] at hy
    obtain ⟨es,he,hm⟩:=hy
    split at h
    ·rename_i hn
     simp only [beq_iff_eq] at hn
     rw [Option.bind_eq_some_iff] at h
     obtain ⟨l2,hr,h⟩:=h
     obtain ⟨h1,h2⟩:=repl_holds hr hl hm
     have hlen:=holdsL.len hm
     simp only [Array.length_toList] at h2
     obtain ⟨ds,hd,hd2⟩:=fillA_run (cs:=es.toArray.zipIdx.foldl (fun cs (c,j)=>cs.setIfInBounds (off+j) c) cs) h (by
      rw [fill_foldl cs es off (by omega)]
      exact h1) hp'
     refine ⟨ds,?_,hd2⟩
     have hc:(ρ y).cells=es.toArray:=by rw [he];rfl
     rw [List.map_cons,fill_step hpl (by rw [hc];simp;omega) (by rw [hc];simp;omega),hc]
     exact hd
    ·cases h
   ·cases h
end Go.Proofs.YtofcdondmgojiaaGreatDoor.Ab
namespace Go.Proofs.YtofcdondmgojiaaGreatDoor.Ab
open Go.RowKit
variable {Kc:Value→Bool} {P:Program} {ev:Operand→AV Kc} {bl:List (Option (TypeId×List (Seg Kc)))} {β:List Nat} {w:World} {ρ:Operand→Value} {o:Oper} {x:AV Kc}
theorem bK {s:Sem Value} {v:Value} {w w' : World} (h:s.run P w = .ok v w'):(do pure (Next.value (← s)):Sem Next).run P w = .ok (.value v) w':=by
 rw [Sem.run_bind,h];rfl
theorem add_off (g off n:Nat):(⟨g,off,none⟩:Addr).add n=⟨g,off+n,none⟩:=Addr.add_mid g off n
theorem hold_ptr {k off:Nat} {v:Value} (h:(AV.fv (.sc (.ptr k off)):AV Kc).holds β v w):∃ g,β[k]?=some g∧v = .pointer (some ⟨g,off,none⟩):=by
 obtain ⟨g,h1,h2⟩:=h
 injection h2 with h2
 exact ⟨g,h1,h2⟩
theorem hold_slc {k off n c:Nat} {v:Value} (h:(AV.fv (.sc (.slc k off n c)):AV Kc).holds β v w):∃ g,β[k]?=some g∧v = .slice (some ⟨g,off,none⟩) n c:=by
 obtain ⟨g,h1,h2⟩:=h
 injection h2 with h2
 exact ⟨g,h1,h2⟩
theorem aN {u v:Value} (h:(AV.fv (.sc (.lit u)):AV Kc).holds β v w):v=u:=by
 have:=h.1
 injection this
theorem ptr_hold {k off g:Nat} (h:β[k]?=some g):(AV.fv (.sc (.ptr k off)):AV Kc).holds β (.pointer (some ⟨g,off,none⟩)) w:=⟨g,h,rfl⟩
theorem toCA_holds:∀ {l:List Operand} {m:List (Bool×List (Seg Kc))},toCA (l.map ev)=some m→(∀ y∈l,(ev y).holds β (ρ y) w)→holdsC β m (l.map ρ) w
 | [],m,h,_=>by injection h with h;subst h;rfl
 | y :: l,m,h,hs=>by
   have hy:=hs y (by simp)
   have hl:∀ z∈l,(ev z).holds β (ρ z) w:=fun z hz=>hs z (by simp [hz])
   rw [List.map_cons] at h
   generalize ev y=x at h hy
   cases x with
   | tup l=>cases h
   | fv f =>
     cases f with
     | sc s =>
       simp only [toCA,Option.map_eq_some_iff] at h
       obtain ⟨r,hr,rfl⟩:=h
       exact ⟨ρ y,l.map ρ,rfl,holdsL.single hy,toCA_holds hr hl⟩
     | ag m =>
       simp only [toCA,Option.map_eq_some_iff] at h
       obtain ⟨r,hr,rfl⟩:=h
       exact ⟨ρ y,l.map ρ,rfl,hy,toCA_holds hr hl⟩
     | clo F a b=>cases h
     | nsl n T l=>cases h
     | un=>cases h
theorem litsA_holds:∀ {l:List Operand} {vs:List Value},litsA (l.map ev)=some vs→(∀ y∈l,(ev y).holds β (ρ y) w)→l.map ρ=vs
 | [],vs,h,_=>by simpa [litsA] using h
 | y :: l,vs,h,hs=>by
   simp only [List.map_cons,litsA] at h
   split at h
   ·rename_i v r hv hr
    injection h with h
    subst h
    rw [List.map_cons,gH hv (hs y (by simp)),litsA_holds hr (fun z hz=>hs z (by simp [hz]))]
   ·cases h
theorem opA_val (h:opA P ev bl o = .val x) (hs:∀ y∈o.op.operands,(ev y).holds β (ρ y) w) (hm:Mem β bl w):∃ v,(execOp ρ o).run P w = .ok (.value v) w∧x.holds β v w:=by
 obtain ⟨dst,op,type,pos,after,guard⟩:=o
 cases op <;> simp only [opA] at h
 case move y=>injection h with h;subst h;exact ⟨_,rfl,hs y (by simp [Op.operands])⟩
 case assign y=>injection h with h;subst h;exact ⟨_,rfl,hs y (by simp [Op.operands])⟩
 case pick c a b =>
  split at h
  ·rename_i t hc
   injection h with h
   have h1:=hs c (by simp [Op.operands])
   rw [hc] at h1
   have h2:=aN h1
   refine ⟨if t then ρ a else ρ b,?_,?_⟩
   ·simp [execOp,h2,asBool]
   ·subst h
    cases t
    ·exact hs b (by simp [Op.operands])
    ·exact hs a (by simp [Op.operands])
  ·cases h
 case alloc T=>split at h <;> cases h
 case box T y=>split at h <;> cases h
 case load T y =>
  split at h
  ·rename_i k off hy
   split at h
   ·rename_i T' l hb
    have h1:=hs y (by simp [Op.operands])
    rw [hy] at h1
    obtain ⟨g,hg,hv⟩:=hold_ptr h1
    obtain ⟨g',cs,hg',hh,hl⟩:=hm k T' l hb
    rw [hg] at hg'
    injection hg' with hg'
    subst hg'
    obtain ⟨v,hr,hx⟩:=run_load_part h hh hl
    refine ⟨v,?_,hx⟩
    simp only [execOp,Instr.loadAt,hv,Instr.sureAddr]
    exact bK (by simpa [Sem.run_bind] using hr)
   ·cases h
  ·cases h
 case store T a b=>repeat' (first|(cases h;done)|split at h)
 case fieldAddr T y i =>
  split at h
  ·rename_i k off fs hy hu
   split at h
   ·rename_i f hf
    split at h
    ·rename_i n hn
     injection h with h
     subst h
     have h1:=hs y (by simp [Op.operands])
     rw [hy] at h1
     obtain ⟨g,hg,hv⟩:=hold_ptr h1
     refine ⟨_,?_,ptr_hold hg⟩
     simp only [execOp]
     refine bK ?_
     simp only [Instr.fieldAt,Sem.run_bind,run_underlying hu,Result.andThen,hf,hv,Instr.sureAddr,Sem.run_pure,fieldPlace,gI hn,add_off]
     rfl
    ·cases h
   ·cases h
  ·cases h
 case field T y i =>
  split at h
  ·rename_i l fs hy hu
   split at h
   ·rename_i f hf
    have h1:=hs y (by simp [Op.operands])
    rw [hy] at h1
    obtain ⟨cs,hv,hl⟩:=h1
    obtain ⟨v,hr,hx⟩:=run_part h hl
    refine ⟨v,?_,hx⟩
    simp only [execOp]
    refine bK ?_
    simp only [Instr.field,Sem.run_bind,run_underlying hu,Result.andThen,hf,hv,asAgg,Sem.run_pure,hr]
   ·cases h
  ·cases h
 case indexAddr T y ix =>
  split at h
  ·rename_i k off kd i len e hy hi hu
   split at h
   ·rename_i hb
    split at h
    ·rename_i n hn
     injection h with h
     subst h
     have h1:=hs y (by simp [Op.operands])
     rw [hy] at h1
     obtain ⟨g,hg,hv⟩:=hold_ptr h1
     have h2:=hs ix (by simp [Op.operands])
     rw [hi] at h2
     have hv2:=aN h2
     refine ⟨_,?_,ptr_hold hg⟩
     simp only [execOp]
     refine bK ?_
     simp [Instr.indexAt,Sem.run_bind,run_underlying hu,Result.andThen,hv,hv2,asIntOf,Instr.sureAddr,gI hn,add_off,hb.1,hb.2]
    ·cases h
   ·cases h
  ·rename_i k off n c kd i e hy hi hu
   split at h
   ·rename_i hb
    split at h
    ·rename_i m hm2
     injection h with h
     subst h
     have h1:=hs y (by simp [Op.operands])
     rw [hy] at h1
     obtain ⟨g,hg,hv⟩:=hold_slc h1
     have h2:=hs ix (by simp [Op.operands])
     rw [hi] at h2
     have hv2:=aN h2
     refine ⟨_,?_,ptr_hold hg⟩
     simp only [execOp]
     refine bK ?_
     simp [Instr.indexAt,Sem.run_bind,run_underlying hu,Result.andThen,hv,hv2,asIntOf,gI hm2,add_off,hb.1,hb.2]
    ·cases h
   ·cases h
  ·cases h
 case index T y ix =>
  split at h
  ·rename_i l kd i len e hy hi hu
   split at h
   ·rename_i hb
    split at h
    ·rename_i n hn
     have h1:=hs y (by simp [Op.operands])
     rw [hy] at h1
     obtain ⟨cs,hv,hl⟩:=h1
     have h2:=hs ix (by simp [Op.operands])
     rw [hi] at h2
     have hv2:=aN h2
     obtain ⟨v,hr,hx⟩:=run_part h hl
     refine ⟨v,?_,hx⟩
     simp only [execOp]
     refine bK ?_
     simp [Instr.index,Sem.run_bind,run_underlying hu,Result.andThen,hv,hv2,asIntOf,gI hn,hb.1,hb.2,hr]
    ·cases h
   ·cases h
  ·cases h
 case nilCheck y =>
  split at h
  ·rename_i k off hy
   injection h with h
   subst h
   have h1:=hs y (by simp [Op.operands])
   rw [hy] at h1
   obtain ⟨g,hg,hv⟩:=hold_ptr h1
   refine ⟨_,?_,ptr_hold hg⟩
   simp only [execOp,hv]
   rfl
  ·cases h
 case extract y i =>
  split at h
  ·rename_i l hy
   split at h
   ·rename_i f hf
    injection h with h
    subst h
    have h1:=hs y (by simp [Op.operands])
    rw [hy] at h1
    obtain ⟨vs,hv,hl⟩:=h1
    obtain ⟨v,hv2,hx⟩:=holdsF.get hl hf
    refine ⟨v,?_,hx⟩
    simp only [execOp]
    refine bK ?_
    simp [Instr.extract,hv,hv2]
   ·cases h
  ·cases h
 case build T parts =>
  have hp:∀ p∈parts.toList,(ev p.2).holds β (ρ p.2) w:=fun p hm=>hs p.2 (by
   simp only [Op.operands]
   exact List.mem_toArray.2 (List.mem_map.2 ⟨p,hm,rfl⟩))
  split at h
  ·rename_i z fs hz hu
   split at h
   ·rename_i pl hpl
    split at h
    ·rename_i l hl
     injection h with h
     subst h
     obtain ⟨zv,hzi,_,rfl,hone⟩:=zerosA_run hz
     obtain ⟨ds,hd,hd2⟩:=fillA_run (cs:=zv.cells) hl (holdsL.lits hone) hp
     refine ⟨.agg ds,?_,⟨ds.toList,by simp,hd2⟩⟩
     simp only [execOp]
     refine bK (run_build w T _ ds ?_)
     rw [Option.bind_eq_some_iff] at hzi
     obtain ⟨i,hi,hz2⟩:=hzi
     have hpl' : fs.toList.mapM (fun f=>(P.info? f.type).map fun i=>(f.offset,i.size))=some pl:=hpl
     simp only [Program.built,hi,hu,hz2,hpl']
     simpa using hd
    ·cases h
   ·cases h
  ·rename_i z n e hz hu
   split at h
   ·rename_i m hn
    split at h
    ·rename_i l hl
     injection h with h
     subst h
     obtain ⟨zv,hzi,_,rfl,hone⟩:=zerosA_run hz
     obtain ⟨ds,hd,hd2⟩:=fillA_run (cs:=zv.cells) hl (holdsL.lits hone) hp
     refine ⟨.agg ds,?_,⟨ds.toList,by simp,hd2⟩⟩
     simp only [execOp]
     refine bK (run_build w T _ ds ?_)
     rw [Option.bind_eq_some_iff] at hzi
     obtain ⟨i,hi,hz2⟩:=hzi
     obtain ⟨ie,hie,hie2⟩:=sizeT_info hn
     simp only [Program.built,hi,hu,hz2,hie,hie2]
     simpa using hd
    ·cases h
   ·cases h
  ·cases h
 case buildSlice T len parts=>repeat' (first|(cases h;done)|split at h)
 case slice T y lo hi mx =>
  cases lo <;> cases hi <;> cases mx <;> simp only at h <;> try (cases h;done)
  split at h
  ·rename_i k off n e hy hu
   split at h
   ·rename_i m hn
    injection h with h
    subst h
    have h1:=hs y (by simp [Op.operands])
    rw [hy] at h1
    obtain ⟨g,hg,hv⟩:=hold_ptr h1
    refine ⟨.slice (some ⟨g,off,none⟩) n n,?_,⟨g,hg,rfl⟩⟩
    simp only [execOp,Option.map_none]
    refine bK ?_
    have h0:∀ c:Prop,[Decidable c]→(if c then (⟨g,off,none⟩:Addr) else (⟨g,off,none⟩:Addr).add (0*m))=⟨g,off,none⟩:=fun c _=>by split <;> simp [add_off]
    simp [Instr.sliceAt,Sem.run_bind,run_underlying hu,Result.andThen,hv,Instr.sureAddr,Instr.sliceBounds,gI hn]
    have:=h0 (n=0)
    simpa using this
   ·cases h
  ·cases h
 case binOp op T a b yt =>
  split at h
  ·rename_i u v hu hv
   have h1:=gH hu (hs a (by simp [Op.operands]))
   have h2:=gH hv (hs b (by simp [Op.operands]))
   obtain ⟨r,hr,hx⟩:=closedA_val h β w
   refine ⟨r,?_,hx⟩
   simp only [execOp,h1,h2]
   exact bK hr
  ·cases h
 case makeFunc fn first cap =>
  cases fn with
  | func F =>
    simp only at h
    split at h
    ·rename_i a b ha hb
     injection h with h
     subst h
     refine ⟨.func (.func F) (first.map ρ) (cap.map ρ),rfl,first.toList.map ρ,cap.toList.map ρ,?_,?_,?_⟩
     ·congr 1 <;> (apply Array.toList_inj.1;simp)
     ·exact toCA_holds ha (fun y hy=>hs y (by simp only [Op.operands,Array.mem_append];exact .inl (by simpa using hy)))
     ·exact toCA_holds hb (fun y hy=>hs y (by simp only [Op.operands,Array.mem_append];exact .inr (by simpa using hy)))
    ·cases h
  | _=>cases h
 case unOp op T a =>
  split at h
  ·rename_i u hu
   have h1:=gH hu (hs a (by simp [Op.operands]))
   obtain ⟨r,hr,hx⟩:=closedA_val h β w
   refine ⟨r,?_,hx⟩
   simp only [execOp,h1]
   exact bK hr
  ·cases h
 case convert s d a =>
  split at h
  ·rename_i u hu
   have h1:=gH hu (hs a (by simp [Op.operands]))
   obtain ⟨r,hr,hx⟩:=closedA_val h β w
   refine ⟨r,?_,hx⟩
   simp only [execOp,h1]
   exact bK hr
  ·cases h
 case call c =>
  split at h
  ·split at h <;> cases h
  ·rename_i hc
   split at h
   ·rename_i T y ht ha
    split at h
    ·rename_i e k off n c' hu hy
     injection h with h
     subst h
     have hmem:y∈c.operands:=by
      simp only [Call.operands,hc,Array.mem_append]
      exact .inr (by rw [← Array.mem_toList_iff,ha];simp)
     have h1:=hs y (by simpa [Op.operands] using hmem)
     rw [hy] at h1
     obtain ⟨g,hg,hv⟩:=hold_slc h1
     refine ⟨.int .i64 n,?_,⟨rfl,rfl⟩⟩
     have harg:c.args.map ρ = #[.slice (some ⟨g,off,none⟩) n c']:=by
      apply Array.toList_inj.1
      rw [Array.toList_map,ha,List.map_singleton,hv]
     simp only [execOp,resolve,hc,Sem.run_bind,Sem.run_pure,Result.andThen,invoke,builtin,harg,Builtin.len_,ht]
     simp [Sem.run_bind,run_underlying hu,Result.andThen,goInt]
    ·cases h
   ·cases h
  ·rename_i b _ hc
   split at h
   ·rename_i vs hvs
    split at h
    ·rename_i v hv
     injection h with h
     subst h
     have he:=litsA_holds hvs (fun y hm=>hs y (by
      simp only [Op.operands,Call.operands,hc,Array.mem_append]
      exact .inr (by simpa using hm)))
     have harg:c.args.map ρ=vs.toArray:=by
      apply Array.toList_inj.1
      rw [Array.toList_map,he]
     refine ⟨v,?_,constA_holds v⟩
     simp only [execOp,resolve,hc,Sem.run_bind,Sem.run_pure,Result.andThen,invoke,harg]
     exact bQ hv w
    ·cases h
   ·cases h
  ·cases h
 all_goals (cases h)
theorem opA_new {T:TypeId} {l:List (Seg Kc)} (h:opA P ev bl o = .new T l) (hs:∀ y∈o.op.operands,(ev y).holds β (ρ y) w) :
 ∃ cs:List Value,(execOp ρ o).run P w = .ok (.value (.pointer (some ⟨w.heap.size,0,none⟩))) (w.alloc (.cells cs.toArray T))∧holdsL β l cs w:=by
 obtain ⟨dst,op,type,pos,after,guard⟩:=o
 cases op <;> simp only [opA] at h
 case alloc T' =>
  split at h
  ·rename_i l' hz
   injection h with h1 h2
   subst h1
   subst h2
   obtain ⟨z,_,hz2,rfl,hone⟩:=zerosA_run hz
   refine ⟨z.cells.toList,?_,holdsL.lits hone⟩
   simp only [execOp]
   refine bK ?_
   simp [Instr.alloc,Sem.run_bind,hz2,Result.andThen,newVar,newRow]
  ·cases h
 case box T' y =>
  split at h
  ·rename_i s hy
   injection h with h1 h2
   subst h1
   subst h2
   have hv:=hs y (by simp [Op.operands])
   rw [hy] at hv
   refine ⟨[ρ y],?_,holdsL.single hv⟩
   simp only [execOp]
   refine bK ?_
   simp [Instr.box,Sem.run_bind,Result.andThen,newVar,newRow,cells_sc hv]
  ·rename_i l' hy
   injection h with h1 h2
   subst h1
   subst h2
   have hv:=hs y (by simp [Op.operands])
   rw [hy] at hv
   obtain ⟨cs,hv,hl⟩:=hv
   refine ⟨cs,?_,hl⟩
   simp only [execOp]
   refine bK ?_
   simp [Instr.box,Sem.run_bind,Result.andThen,newVar,newRow,hv,Value.cells]
  ·cases h
 case slice T' y lo hi mx=>cases lo <;> cases hi <;> cases mx <;> simp only at h <;> (repeat' (first|(cases h;done)|split at h))
 case makeFunc fn first cap=>cases fn <;> simp only at h <;> (repeat' (first|(cases h;done)|split at h))
 all_goals (repeat' (first|(cases h;done)|(unfold partA at h)|(unfold closedA at h)|split at h))
theorem opA_nsl {T:TypeId} {n:Nat} {l:List (Seg Kc)} (h:opA P ev bl o = .nsl n T l) (hs:∀ y∈o.op.operands,(ev y).holds β (ρ y) w) :
 ∃ cs:List Value,(execOp ρ o).run P w = .ok (.value (.slice (some ⟨w.heap.size,0,none⟩) n n)) (w.alloc (.cells cs.toArray T))∧holdsL β l cs w:=by
 obtain ⟨dst,op,type,pos,after,guard⟩:=o
 cases op <;> simp only [opA] at h
 case buildSlice T' len parts =>
  have hp:∀ p∈parts.toList,(ev p.2).holds β (ρ p.2) w:=fun p hm=>hs p.2 (by
   simp only [Op.operands]
   exact List.mem_toArray.2 (List.mem_map.2 ⟨p,hm,rfl⟩))
  split at h
  ·rename_i e hu
   split at h
   ·rename_i m zv hm hzi
    split at h
    ·rename_i hc
     split at h
     ·rename_i l' hl
      injection h with h1 h2 h3
      subst h1
      subst h2
      subst h3
      obtain ⟨hc1,hc2,hc3,hone⟩:=hc
      have harr:((Array.range (len*m)).map (fun i=>zv.cells[i%zv.cells.size]!)).toList=zerosN zv (len*m):=by
       rw [Array.toList_map,Array.toList_range];rfl
      obtain ⟨ds,hd,hd2⟩:=fillA_run (cs:=(Array.range (len*m)).map (fun i=>zv.cells[i%zv.cells.size]!)) hl (by rw [harr];exact holdsL.lits hone) hp
      refine ⟨ds.toList,?_,hd2⟩
      simp only [execOp]
      refine bK ?_
      have h0:len*m≠0:=Nat.mul_ne_zero (by omega) (by omega)
      have h1:¬ (len*m > 2^24):=by omega
      have hzr:(zeroValue e).run P w = .ok zv w:=by
       rw [Option.bind_eq_some_iff] at hzi
       obtain ⟨i,hi,hz⟩:=hzi
       simp [zeroValue,typeInfo,hi,hz]
      have hd' : Instr.fill (fun i=>some (i*m,m)) ((Array.range (len*m)).map (fun i=>zv.cells[i%zv.cells.size]!)) (parts.map fun (i,x)=>(i,ρ x)).toList=some ds:=by simpa using hd
      unfold Instr.buildSlice
      simp only [Sem.run_bind,run_underlying hu,Result.andThen,gI hm,if_neg h1,if_neg h0,hzr,Sem.run_pure,hd']
      simp [Sem.run_bind,newRow,Result.andThen]
     ·cases h
    ·cases h
   ·cases h
  ·cases h
 case slice T' y lo hi mx=>cases lo <;> cases hi <;> cases mx <;> simp only at h <;> (repeat' (first|(cases h;done)|split at h))
 case makeFunc fn first cap=>cases fn <;> simp only at h <;> (repeat' (first|(cases h;done)|split at h))
 all_goals (repeat' (first|(cases h;done)|(unfold partA at h)|(unfold closedA at h)|split at h))
theorem opA_call {f:FuncId} {args:List (AV Kc)} (h:opA P ev bl o = .call f args) (hs:∀ y∈o.op.operands,(ev y).holds β (ρ y) w) :
 ∃ vs:List Value,(execOp ρ o).run P w=(callFunc f vs.toArray).run P w∧holdsA β args vs w:=by
 obtain ⟨dst,op,type,pos,after,guard⟩:=o
 cases op <;> simp only [opA] at h
 case call c =>
  split at h
  ·rename_i y hc
   have hA:∀ (l:List Value),holdsA β (l.map (constA (Kc:=Kc))) l w:=fun l=>by
    induction l with
    | nil=>rfl
    | cons v l ih=>exact ⟨v,l,rfl,constA_holds v,ih⟩
   have hB:∀ (l:List Operand),(∀ y∈l,(ev y).holds β (ρ y) w)→holdsA β (l.map ev) (l.map ρ) w:=fun l=>by
    induction l with
    | nil=>intro _;rfl
    | cons v l ih=>intro hm;exact ⟨ρ v,l.map ρ,rfl,hm v (by simp),ih (fun y hy=>hm y (by simp [hy]))⟩
   have hC:∀ {l l' : List (AV Kc)} {vs vs' : List Value},holdsA β l vs w→holdsA β l' vs' w→holdsA β (l++l') (vs++vs') w:=fun {l}=>by
    induction l with
    | nil=>intro l' vs vs' h h';rw [show vs = [] from h];exact h'
    | cons x l ih=>rintro l' vs vs' ⟨v,r,rfl,h1,h2⟩ h';exact ⟨v,r++vs',rfl,h1,ih h2 h'⟩
   have hD:∀ (l:List (Bool×List (Seg Kc))) (vs:List Value),holdsC β l vs w→holdsA β (l.map caA) vs w:=fun l=>by
    induction l with
    | nil=>intro vs h;exact h
    | cons c l ih =>
      rintro vs ⟨v,r,rfl,h1,h2⟩
      refine ⟨v,r,rfl,?_,ih r h2⟩
      obtain ⟨b,m⟩:=c
      cases b with
      | true=>exact h1
      | false =>
        match m,h1 with
        | [],_=>trivial
        | [s],h1=>exact holdsL_one h1
        | _::_::_,_=>trivial
   have hE:holdsA β (c.args.toList.map ev) (c.args.toList.map ρ) w:=hB _ (fun y hm=>hs y (by
    simp only [Op.operands,Call.operands,hc,Array.mem_append]
    exact .inr (by simpa using hm)))
   split at h
   ·rename_i g a b hy
    injection h with h1 h2
    subst h1
    subst h2
    have hv:=gH hy (hs y (by simp [Op.operands,Call.operands,hc]))
    refine ⟨a.toList++(c.args.toList.map ρ)++b.toList,?_,?_⟩
    ·simp only [execOp,resolve,hc,Sem.run_bind,Sem.run_pure,Result.andThen,hv,Deferred.ofValue,invoke]
     congr 2
     apply Array.toList_inj.1
     simp
    ·exact hC (hC (hA _) hE) (hA _)
   ·rename_i g a b _ hy
    injection h with h1 h2
    subst h1
    subst h2
    have hv:=hs y (by simp [Op.operands,Call.operands,hc])
    rw [hy] at hv
    obtain ⟨xs,ys,hv,hx,hyy⟩:=hv
    refine ⟨xs++(c.args.toList.map ρ)++ys,?_,hC (hC (hD _ _ hx) hE) (hD _ _ hyy)⟩
    simp only [execOp,resolve,hc,Sem.run_bind,Sem.run_pure,Result.andThen,hv,Deferred.ofValue,invoke]
    congr 2
    apply Array.toList_inj.1
    simp
   ·cases h
  ·split at h <;> (try split at h) <;> cases h
  ·split at h <;> (try split at h) <;> cases h
  ·cases h
 case slice T' y lo hi mx=>cases lo <;> cases hi <;> cases mx <;> simp only at h <;> (repeat' (first|(cases h;done)|split at h))
 case makeFunc fn first cap=>cases fn <;> simp only at h <;> (repeat' (first|(cases h;done)|split at h))
 all_goals (repeat' (first|(cases h;done)|(unfold partA at h)|(unfold closedA at h)|split at h))
theorem Turned.self {g:Nat} {ob:Obj} (h:w.heap[g]?=some ob):Turned g ob w w:=⟨rfl,rfl,rfl,rfl,h,fun _ _=>rfl⟩
theorem Turned.next {g:Nat} {ob ob' : Obj} {w1 w2 w3:World} (h:Turned g ob w1 w2) (h' : Turned g ob' w2 w3):Turned g ob' w1 w3 :=
 ⟨h'.os.trans h.os,h'.tape.trans h.tape,h'.output.trans h.output,h'.size.trans h.size,h'.at_,fun k hk=>(h'.block k hk).trans (h.block k hk)⟩
theorem setCells_turned {g:Nat} {T:TypeId}:∀ (es:List Value) (off:Nat) (w:World) (cs:List Value),w.heap[g]?=some (.cells cs.toArray T (0,0))→off+es.length≤cs.length →
 Turned g (.cells (cs.take off++es++cs.drop (off+es.length)).toArray T (0,0)) w (w.setCells g off es)
 | [],off,w,cs,h,_=>by
   simpa [World.setCells] using Turned.self h
 | e :: es,off,w,cs,h,hl=>by
   simp only [List.length_cons] at hl
   have h1:Turned g (.cells (cs.set off e).toArray T (0,0)) w (w.setCell ⟨g,off,none⟩ e):=by
    refine ⟨rfl,rfl,rfl,by simp [World.setCell],?_,fun k hk=>Below.heap_setCell w ⟨g,off,none⟩ e k hk⟩
    simp only [World.setCell,Array.getElem?_modify,h]
    simp
   have h2:=setCells_turned es (off+1) _ (cs.set off e) h1.at_ (by simp;omega)
   have e1:(cs.set off e).take (off+1)++es++(cs.set off e).drop (off+1+es.length)=cs.take off++(e::es)++cs.drop (off+(e::es).length):=by
    rw [List.drop_set,if_pos (by omega)]
    have hlt:off<cs.length:=by omega
    rw [List.take_set,List.take_succ_eq_append_getElem hlt,List.set_append_right _ _ (by simp;omega)]
    simp [Nat.min_eq_left (show off≤cs.length by omega),show off+1+es.length=off+(es.length+1) by omega]
   rw [e1] at h2
   exact h1.next h2
theorem store_run {T T' : TypeId} {a b:Operand} {g off n:Nat} {cs es:List Value} (ho:o.op = .store T' a b) (ha:ρ a = .pointer (some ⟨g,off,none⟩)) (hb:(ρ b).cells.toList=es) (hn:sizeT P T'=some n) (hlen:es.length=n)
 (h1:∀ c∈es,c.oneCell'=true) (hg:w.heap[g]?=some (.cells cs.toArray T (0,0))) (h2:off+es.length≤cs.length) :
 (execOp ρ o).run P w = .ok .skip (w.setCells g off es)∧Turned g (.cells (cs.take off++es++cs.drop (off+es.length)).toArray T (0,0)) w (w.setCells g off es):=by
 have hcell:∀ j,j<es.length→(w.cell? ⟨g,off+0+j,none⟩).isSome=true:=fun j hj=>by
  rw [cells_at hg,List.getElem?_eq_getElem (by omega)];rfl
 have hfr:∀ j,j<es.length→w.frozen? ⟨g,off+0+j,none⟩=false:=fun j _=>by simp [World.frozen?,hg]
 have hst:=run_storeCells_cells (P:=P) g off es 0 w hcell hfr h1
 refine ⟨?_,setCells_turned es off w cs hg h2⟩
 simp only [execOp,ho,ha,Instr.storeAt,Instr.sureAddr,Sem.run_bind,Sem.run_pure,Result.andThen,storeVar,gI hn]
 have hsz:(ρ b).cells.size=n:=by rw [← hlen,← hb];simp
 simp only [hsz,ne_eq,not_true_eq_false,if_false,hb,Sem.run_bind,Sem.run_pure,Result.andThen]
 have hst' : (storeCells ⟨g,off,none⟩ es).run P w = .ok () (w.setCells g off es):=by simpa using hst
 rw [hst']
theorem opA_put {k off:Nat} {m l l' : List (Seg Kc)} {g:Nat} {cs:List Value} {T:TypeId} (h:opA P ev bl o = .put k off m) (hs:∀ y∈o.op.operands,(ev y).holds β (ρ y) w)
 (hk:β[k]?=some g) (hg:w.heap[g]?=some (.cells cs.toArray T (0,0))) (hl:holdsL β l cs w) (hr:repl l off m=some l') :
 ∃ ds w',(execOp ρ o).run P w = .ok .skip w'∧Turned g (.cells ds.toArray T (0,0)) w w'∧holdsL β l' ds w:=by
 have key:∀ (T' : TypeId) (a b:Operand) (n:Nat) (v:Value) (es:List Value),o.op = .store T' a b→ρ a = .pointer (some ⟨g,off,none⟩)→ρ b=v→v.cells.toList=es→sizeT P T'=some n→es.length=n→holdsL β m es w →
  ∃ ds w',(execOp ρ o).run P w = .ok .skip w'∧Turned g (.cells ds.toArray T (0,0)) w w'∧holdsL β l' ds w:=by
  intro T' a b n v es ho ha hb hv hn hlen hm
  obtain ⟨h1,h2⟩:=repl_holds hr hl hm
  obtain ⟨h3,h4⟩:=store_run (P:=P) ho ha (by rw [hb];exact hv) hn hlen (holdsL.one hm) hg h2
  exact ⟨_,_,h3,h4,h1⟩
 obtain ⟨dst,op,type,pos,after,guard⟩:=o
 cases op <;> simp only [opA] at h
 case store T' a b =>
  have ha:=hs a (by simp [Op.operands])
  have hb:=hs b (by simp [Op.operands])
  split at h
  ·rename_i k' off' s n h1 h2 h3
   split at h
   ·rename_i hc
    injection h with e1 e2 e3
    subst e1
    subst e2
    subst e3
    simp only [Bool.and_eq_true,beq_iff_eq] at hc
    rw [h1] at ha
    rw [h2] at hb
    obtain ⟨g',hg',hv⟩:=hold_ptr ha
    rw [hk] at hg'
    injection hg' with hg'
    subst hg'
    exact key T' a b n _ [ρ b] rfl hv rfl (by rw [cells_sc hb]) h3 (by simp;omega) (holdsL.single hb)
   ·cases h
  ·rename_i k' off' mm n h1 h2 h3
   split at h
   ·rename_i hc
    injection h with e1 e2 e3
    subst e1
    subst e2
    subst e3
    simp only [beq_iff_eq] at hc
    rw [h1] at ha
    rw [h2] at hb
    obtain ⟨g',hg',hv⟩:=hold_ptr ha
    rw [hk] at hg'
    injection hg' with hg'
    subst hg'
    obtain ⟨es,he,hm⟩:=hb
    exact key T' a b n _ es rfl hv rfl (by rw [he];rfl) h3 (by rw [hm.len];exact hc) hm
   ·cases h
  ·cases h
 case slice T' y lo hi mx=>cases lo <;> cases hi <;> cases mx <;> simp only at h <;> (repeat' (first|(cases h;done)|split at h))
 case makeFunc fn first cap=>cases fn <;> simp only at h <;> (repeat' (first|(cases h;done)|split at h))
 all_goals (repeat' (first|(cases h;done)|(unfold partA at h)|(unfold closedA at h)|split at h))
end Go.Proofs.YtofcdondmgojiaaGreatDoor.Ab
namespace Go.Proofs.YtofcdondmgojiaaGreatDoor
open Go.RowKit
section
variable {P:Program} {ops:Array Oper} {K:Value→Bool} {T:List Nat} {w0:World} {a0:Act} {Q:Act→World→Prop} {o:Oper} {rest:List Oper} {g:List Ent}
theorem wanted_is {A:Act} {j:Nat} {want b:Bool} {d:Tmp} (hg:o.guard=some (j,want)) (hd:(ops[j]?).bind (·.dst)=some d) (h:A.eval (.tmp d) = .bool b) :
 Region.wanted o (yielded ops A.tmps)=(b==want):=by
 have hy:yielded ops A.tmps j=some b:=by
  unfold yielded
  rw [hd]
  have h2:A.tmps[d]?.getD undef = .bool b:=by simpa [Act.eval] using h
  cases h3:A.tmps[d]? with
  | none=>rw [h3] at h2;cases h2
  | some v =>
    rw [h3] at h2
    have h4:v = .bool b:=h2
    subst h4
    simp [h3]
 unfold Region.wanted
 rw [hg]
 simp [hy]
theorem guard_looks {j:Nat} {want:Bool} {d:Tmp} (hg:o.guard=some (j,want)) (hd:(ops[j]?).bind (·.dst)=some d):d∈o.looksAt ops:=by
 unfold Oper.looksAt
 rw [hg]
 simp only [List.mem_append]
 exact .inr (by rw [hd];simp)
end
end Go.Proofs.YtofcdondmgojiaaGreatDoor
namespace Go.Proofs.YtofcdondmgojiaaGreatDoor.Ab
open Go.RowKit
variable {Kc:Value→Bool}
structure St (Kc:Value→Bool) where
 slots:List (AV Kc)
 blocks:List (TypeId×List (Seg Kc))
 ro:Nat
inductive AKd (Kc:Value→Bool) where
 | val (x:AV Kc)
 | new (T:TypeId) (vs:List Value)
 | put (d:Tmp) (T:TypeId) (l:List (Seg Kc))
 | old (k:Nat) (T:TypeId) (l:List (Seg Kc))
abbrev AE (Kc:Value→Bool):=Option Tmp×AKd Kc
inductive Cfg (Kc:Value→Bool) where
 | items (todo:List Item) (st:St Kc)
 | plain (ops:Array Oper) (rest:List Oper) (k:List Item) (st:St Kc)
 | drawn (ops:Array Oper) (rest:List Oper) (k:List Item) (st:St Kc) (Ty:List TypeId) (es:List (AE Kc))
def evL (sl:Tmp→AV Kc):Operand→AV Kc
 | .tmp t=>sl t
 | .const v=>constA v
 | .func f => .fv (.sc (.lit (.func (.func f) #[] #[])))
 | .global _ => .un
def St.slot (st:St Kc) (t:Tmp):AV Kc:=st.slots.getD t .un
def FV.kill:FV Kc→FV Kc
 | .nsl .. => .un
 | f=>f
def AV.kill:AV Kc→AV Kc
 | .fv f => .fv f.kill
 | .tup l => .tup (l.map FV.kill)
def slotD (st:St Kc):List (AE Kc)→Tmp→AV Kc
 | [],t=>(st.slot t).kill
 | (dst,kd)::es,t=>if dst==some t then (match kd with | .val x=>x|_ => .un) else slotD st es t
def AV.killT (T:TypeId) (x:AV Kc):AV Kc:=match x with
 | .fv (.nsl n T' l)=>if T==T' then .un else .fv (.nsl n T' l)
 | .fv f => .fv f
 | .tup l => .tup (l.map FV.kill)
def setS (sl:List (AV Kc)) (dst:Option Tmp) (x:AV Kc):List (AV Kc):=match dst with|some d=>sl.set d x|none=>sl
def St.put (st:St Kc) (dst:Option Tmp) (x:AV Kc):St Kc := { st with slots:=setS st.slots dst x }
def wantA (sl:Tmp→AV Kc) (ops:Array Oper) (o:Oper):Option Bool :=
 match o.guard with
 | none=>some true
 | some (j,want)=>match (ops[j]?).bind (·.dst) with
   | some d=>match sl d with | .fv (.sc (.lit (.bool b)))=>some (b==want) | .tup []=>some false|_=>none
   | none=>none
def coldL (l:List (Seg Kc)):Bool:=l.all Seg.cold
def plainA (P:Program) (st:St Kc) (o:Oper):OR Kc→Option (St Kc)
 | .val x=>some (st.put o.dst x)
 | .new T l=>match o.dst with
   | some d=>some { st with slots:=st.slots.set d (.fv (.sc (.ptr st.blocks.length 0))),blocks:=st.blocks ++ [(T,l)] }
   | none=>none
 | .nsl n T l=>some (st.put o.dst (.fv (.nsl n T l)))
 | .put k off m=>match st.blocks[k]?,o.dst with
   | some (T,l),none=>match repl l off m with
     | some l'=>if st.ro≤k∧coldL l=true then some { st with slots:=st.slots.map (AV.killT T),blocks:=st.blocks.set k (T,l') } else none
     | none=>none
   | _,_=>none
 | _=>none
def confl (st:St Kc) (ops:Array Oper) (o:Oper) (k:Nat):Bool :=
 match o.op with
 | .store _ (.tmp t) _=>match ops.toList.find? (fun o'=>o'.dst==some t) with
   | some o'=>(match o'.op with | .alloc _=>false|_=>true)
   | none=>match st.slot t with | .fv (.sc (.ptr k' _))=>k'==k|_=>true
 | .store .. => true
 | _=>false
def earlyOp (st:St Kc) (ops:Array Oper) (i k:Nat):Bool :=
 (List.range ops.size).all fun j=>match ops[j]? with
  | some o => !confl st ops o k || j==i || o.after.any fun e=>Region.binds .any e&&e.on==i
  | none=>true
def newOf (es:List (AE Kc)) (d:Tmp):Option (TypeId×List Value):=(es.find? fun e=>e.1==some d).bind fun e=>match e.2 with | .new T vs=>some (T,vs)|_=>none
def viewA (ops:Array Oper) (st:St Kc) (i:Nat):List (Option (TypeId×List (Seg Kc))):=st.blocks.zipIdx.map fun p=>if earlyOp st ops i p.2 then some p.1 else none
def drawnA (P:Program) (ops:Array Oper) (st:St Kc) (Ty:List TypeId) (es:List (AE Kc)) (o:Oper):OR Kc→Option (AE Kc)
 | .val x=>if x.okT Ty then some (o.dst,.val x) else none
 | .new T l=>match litsOf l,o.op with
   | some vs,.alloc _=>if hotT Kc Ty (.cells vs.toArray T (0,0))=false∧o.guard=none∧o.dst.isSome=true then some (o.dst,.new T vs) else none
   | _,_=>none
 | .nsl n T l=>if Ty.contains T then some (o.dst,.val (.fv (.nsl n T l))) else none
 | .put k off m=>match st.blocks[k]?,o.dst,o.guard with
   | some (T,l),none,none=>match repl l off m with
     | some l'=>if st.ro≤k∧coldL l=true∧Ty.contains T=false then some (none,.old k T l') else none
     | none=>none
   | _,_,_=>none
 | _=>none
def putNew (P:Program) (st:St Kc) (es:List (AE Kc)) (o:Oper):Option (AE Kc) :=
 match o.op,o.dst,o.guard with
 | .store T (.tmp d) y,none,none=>match newOf es d,sizeT P T,evL (slotD st es) y with
   | some (T',vs),some n,.fv (.sc s)=>if n==1&&s.size==1&&vs.all (·.oneCell') then (repl (vs.map .lit) 0 [s]).map fun l'=>(none,.put d T' l') else none
   | some (T',vs),some n,.fv (.ag m)=>if sizeL m==n&&vs.all (·.oneCell') then (repl (vs.map .lit) 0 m).map fun l'=>(none,.put d T' l') else none
   | _,_,_=>none
 | _,_,_=>none
def newsOf (es:List (AE Kc)):List (Tmp×TypeId×List Value):=es.reverse.filterMap fun e=>match e with|(some d,.new T vs)=>some (d,T,vs)|_=>none
def putOfA (es:List (AE Kc)) (d:Tmp):Option (TypeId×List (Seg Kc)):=es.findSome? fun e=>match e with|(none,.put d' T l)=>if d'==d then some (T,l) else none|_=>none
def oldOfA (es:List (AE Kc)) (k:Nat):Option (TypeId×List (Seg Kc)):=es.findSome? fun e=>match e with|(none,.old k' T l)=>if k'==k then some (T,l) else none|_=>none
def slotE (st:St Kc) (es:List (AE Kc)) (t:Tmp):AV Kc :=
 match es.find? fun e=>e.1==some t with
 | some (_,.val x)=>x.kill
 | some (_,.new _ _)=>match (newsOf es).findIdx? fun n=>n.1==t with|some j => .fv (.sc (.ptr (st.blocks.length+j) 0))|none => .un
 | some _ => .un
 | none=>(st.slot t).kill
def finishD (st:St Kc) (es:List (AE Kc)):St Kc :=
 { slots:=(List.range st.slots.length).map (slotE st es)
   blocks:=(st.blocks.zipIdx.map fun p=>(oldOfA es p.2).getD p.1)++(newsOf es).map fun n=>(putOfA es n.1).getD (n.2.1,n.2.2.map .lit)
   ro:=st.ro }
def earlyA (st:St Kc) (ops:Array Oper) (es:List (AE Kc)):Bool :=
 let G:=es.reverse
 (List.range ops.size).all fun j=>match G[j]? with
  | some (none,.old k _ _)=>(List.range ops.size).all fun i => !earlyOp st ops i k || i==j || (ops[j]?).any fun o=>o.after.any fun e=>Region.binds .any e&&e.on==i
  | _=>true
def roA (st:St Kc) (es:List (AE Kc)):Bool:=es.all fun e=>match e.2 with | .old k _ _=>decide (st.ro≤k)|_=>true
def onceA (es:List (AE Kc)):Bool :=
 decide ((es.filterMap fun e=>match e with|(none,.put d _ _)=>some d|_=>none).Nodup)&&decide ((es.filterMap fun e=>match e with|(none,.old k _ _)=>some k|_=>none).Nodup)
 && decide (((newsOf es).map (·.1)).Nodup)&&(newsOf es).all fun n=>n.2.2.all (·.oneCell')
def tysOf (P:Program) (ops:List Oper):List TypeId:=ops.filterMap fun o=>match o.op with | .buildSlice T _ _=>(match P.underlying T with|some (.slice e)=>some e|_=>none)|_=>none
def St.kill (st:St Kc):St Kc := { st with slots:=st.slots.map AV.kill }
def notSlot (y:Operand) (d:Tmp):Bool:=match y with | .tmp t=>t != d|_=>true
def fuseA (P:Program) (st:St Kc) (o:Oper) (rest:List Oper):Option (St Kc×List Oper) :=
 match o.op,o.dst,o.guard,rest with
 | .alloc T,some d,none,o2::rest'=>match o2.op,o2.dst,o2.guard with
   | .store T' (.tmp d') y,none,none=>if d'==d&&notSlot y d&&decide (d<st.slots.length) then
      match zerosA (Kc:=Kc) P T,sizeT P T',evL st.slot y with
      | some z,some n,.fv (.sc s)=>if n==1&&s.size==1&&sizeL z==1 then some ({ st with slots:=st.slots.set d (.fv (.sc (.ptr st.blocks.length 0))),blocks:=st.blocks ++ [(T,[s])] },rest') else none
      | some z,some n,.fv (.ag m)=>if sizeL m==n&&sizeL z==n then some ({ st with slots:=st.slots.set d (.fv (.sc (.ptr st.blocks.length 0))),blocks:=st.blocks ++ [(T,m)] },rest') else none
      | _,_,_=>none
     else none
   | _,_,_=>none
 | _,_,_,_=>none
def stepA (P:Program):Cfg Kc→Option (Cfg Kc)
 | .items todo st=>match todo with
   | .code .skip::k=>some (.items k st)
   | .code (.label _)::k=>some (.items k st)
   | .inBlock _::k=>some (.items k st)
   | .inScope _::k=>some (.items k st)
   | .code (.seq x y)::k=>some (.items (.code x :: .code y::k) st)
   | .code (.cond c x y)::k=>match evL st.slot c with
     | .fv (.sc (.lit (.bool t)))=>some (.items (.code (if t then x else y)::k) st)
     | _=>none
   | .code (.block id c)::k=>some (.items (.code c :: .inBlock id::k) st)
   | .code (.scope c)::k=>some (.items (.code c :: .inScope c::k) st)
   | .code (.loop c)::k=>some (.items (.code c :: .inLoop c::k) st)
   | .inLoop c::k=>some (.items (.code c :: .inLoop c::k) st)
   | .code (.exit id)::k=>(exitTo id k).map fun k' => .items k' st
   | .code (.region _ ops false)::k=>some (.plain ops ops.toList k st)
   | .code (.region _ ops true)::k=>if Region.tyB .any ops st.slots.length then some (.drawn ops ops.toList k st (tysOf P ops.toList) []) else none
   | _=>none
 | .plain ops rest k st=>match rest with
   | []=>some (.items k st.kill)
   | o::rest=>match fuseA P st o rest with
    | some (st',rest')=>some (.plain ops rest' k st')
    | none=>match wantA st.slot ops o with
     | some true=>(plainA P st o (opA P (evL st.slot) (st.blocks.map some) o)).map fun st' => .plain ops rest k st'
     | some false=>some (.plain ops rest k (st.put o.dst (.tup [])))
     | none=>none
 | .drawn ops rest k st Ty es=>match rest with
   | []=>if onceA es&&earlyA st ops es&&roA st es then some (.items k (finishD st es)) else none
   | o :: rest=>match putNew P st es o with
     | some e=>some (.drawn ops rest k st Ty (e::es))
     | none=>match wantA (slotD st es) ops o with
       | some true=>(drawnA P ops st Ty es o (opA P (evL (slotD st es)) (viewA ops st es.length) o)).map fun e => .drawn ops rest k st Ty (e::es)
       | some false=>some (.drawn ops rest k st Ty ((o.dst,.val (.tup []))::es))
       | none=>none
def dQ (P:Program):Nat→Cfg Kc→Cfg Kc
 | 0,c=>c
 | n+1,c=>match stepA P c with|some c'=>dQ P n c'|none=>c
def Cfg.op:Cfg Kc→Option Oper
 | .plain ops (o::_) _ st=>if wantA st.slot ops o=some true then some o else none
 | .drawn ops (o::_) _ st _ es=>if wantA (slotD st es) ops o=some true then some o else none
 | _=>none
def Cfg.ev:Cfg Kc→Operand→AV Kc
 | .items _ st=>evL st.slot
 | .plain _ _ _ st=>evL st.slot
 | .drawn _ _ _ st _ es=>evL (slotD st es)
def Cfg.mem:Cfg Kc→List (Option (TypeId×List (Seg Kc)))
 | .items _ st=>st.blocks.map some
 | .plain _ _ _ st=>st.blocks.map some
 | .drawn ops _ _ st _ es=>viewA ops st es.length
def Cfg.okT (c:Cfg Kc) (x:AV Kc):Bool:=match c with
 | .drawn _ _ _ _ Ty _=>x.okT Ty
 | _=>true
def Cfg.give (c:Cfg Kc) (x:AV Kc):Cfg Kc:=match c with
 | .plain ops (o::rest) k st => .plain ops rest k (st.put o.dst x)
 | .drawn ops (o::rest) k st Ty es => .drawn ops rest k st Ty ((o.dst,.val x)::es)
 | c=>c
def Cfg.callee (P:Program) (c:Cfg Kc):Option FuncId:=match c.op with
 | some o=>match opA P c.ev c.mem o with | .call f _=>some f|_=>none
 | none=>none
def Cfg.args (P:Program) (c:Cfg Kc):List (AV Kc):=match c.op with
 | some o=>match opA P c.ev c.mem o with | .call _ l=>l|_ => []
 | none => []
def resA (P:Program) (st:St Kc):List ResultVar→Option (List (FV Kc))
 | []=>some []
 | .tmp t::l=>match st.slot t with | .fv f=>(resA P st l).map (f :: ·)|_=>none
 | .cell t T::l=>match st.slot t with
   | .fv (.sc (.ptr k off))=>match st.blocks[k]? with
     | some (_,m)=>match partA P T m off with | .val (.fv f)=>(resA P st l).map (f :: ·)|_=>none
     | none=>none
   | _=>none
def Cfg.res (P:Program) (fn:Func):Cfg Kc→Option (AV Kc)
 | .items todo st=>match todo with
   | [] | .code .ret::_=>match resA P st fn.results.toList with
     | some [f]=>some (.fv f)
     | some l=>some (.tup l)
     | none=>none
   | _=>none
 | _=>none
end Go.Proofs.YtofcdondmgojiaaGreatDoor.Ab
namespace Go.Proofs.YtofcdondmgojiaaGreatDoor.Ab
open Go.RowKit
variable {Kc:Value→Bool}
section
variable (P:Program) (f:FuncId) (w00:World) (Out:Value→World→Prop)
def Rets (e:Ending) (w' : World):Prop := ∃ v,e = .returned v∧Below w00.heap.size w00 w'∧Out v w'
def baseF:Frame := { (default:Frame) with fn:=f,kind := .normal }
def Runs (todo:List Item) (a:Act) (w:World):Prop :=
 ∀ cs,∃ e w' fr,Rets w00 Out e w'∧Comes P (lone ((baseF f).at a todo) cs w) (lone fr cs w') e∧fr.fn=f∧fr.leaving P w' e
def QN (k:List Item):Exit→Act→World→Prop:=fun e a w=>e = .normal∧Runs P f w00 Out k a w
structure Rep (st:St Kc) (β:List Nat) (a:Act) (w:World):Prop where
 defers:a.defers = []
 size:a.tmps.size=st.slots.length
 slots:∀ t,(st.slot t).holds β (a.eval (.tmp t)) w
 len:β.length=st.blocks.length
 nodup:β.Nodup
 mem:Mem β (st.blocks.map some) w
 lt:∀ g∈β,g<w.heap.size
 own:∀ (k g:Nat),β[k]?=some g→k<st.ro∨w00.heap.size≤g
 below:Below w00.heap.size w00 w
end
section
variable {P:Program} {f:FuncId} {w00:World} {Out:Value→World→Prop} {st:St Kc} {β:List Nat} {a:Act} {w:World}
theorem Runs.step {todo todo' : List Item} {a' : Act} {w' : World} (h:∀ cs,step P (lone ((baseF f).at a todo) cs w) = .next (lone ((baseF f).at a' todo') cs w')) (hr:Runs P f w00 Out todo' a' w'):Runs P f w00 Out todo a w:=by
 intro cs
 obtain ⟨e,w2,fr,h1,h2,h3⟩:=hr cs
 exact ⟨e,w2,fr,h1,Comes.of_steps (.one (h cs)) h2,h3⟩
theorem Runs.of_wp {c:Code} {k:List Item} (h:c.wp P (QN P f w00 Out k) a w):Runs P f w00 Out (.code c::k) a w:=by
 intro cs
 obtain ⟨e,a',w',⟨he,hr⟩,harr⟩:=h (baseF f) k cs
 subst he
 obtain ⟨e,w2,fr,h1,h2,h3⟩:=hr cs
 exact ⟨e,w2,fr,h1,Comes.of_steps harr h2,h3⟩
theorem Rep.ev (h:Rep w00 st β a w) (y:Operand):(evL st.slot y).holds β (a.eval y) w:=by
 cases y with
 | tmp t=>exact h.slots t
 | const v=>exact constA_holds v
 | func f=>exact ⟨rfl,rfl⟩
 | global g=>trivial
theorem setS_slot {sl:List (AV Kc)} {bl ro} {dst:Option Tmp} {x:AV Kc} {v:Value} {a:Act} (hs:a.tmps.size=sl.length) (h:∀ t,(sl.getD t .un).holds β (a.eval (.tmp t)) w) (hx:x.holds β v w) (t:Tmp) :
 (({ slots:=setS sl dst x,blocks:=bl,ro:=ro }:St Kc).slot t).holds β ((a.put dst v).eval (.tmp t)) w:=by
 unfold St.slot
 cases dst with
 | none=>exact h t
 | some d =>
   simp only [setS]
   by_cases hd:d=t
   ·subst hd
    by_cases hlt:d<sl.length
    ·rw [Go.Proofs.YtofcdondmgojiaaGreatDoor.Act.eval_put_hit (show d<a.tmps.size by rw [hs];exact hlt)]
     simp only [List.getD_eq_getElem?_getD,List.getElem?_set_self hlt,Option.getD_some]
     exact hx
    ·rw [List.getD_eq_getElem?_getD,List.getElem?_eq_none (show (sl.set d x).length≤d by rw [List.length_set];exact Nat.le_of_not_lt hlt)]
     trivial
   ·rw [Go.Proofs.YtofcdondmgojiaaGreatDoor.Act.eval_put_miss (by simpa using hd)]
    have:=h t
    rw [List.getD_eq_getElem?_getD] at this ⊢
    rw [List.getElem?_set_ne hd]
    exact this
theorem setS_len {sl:List (AV Kc)} {dst:Option Tmp} {x:AV Kc}:(setS sl dst x).length=sl.length:=by
 cases dst <;> simp [setS]
theorem Rep.put (h:Rep w00 st β a w) {x:AV Kc} {v:Value} {dst:Option Tmp} (hx:x.holds β v w):Rep w00 (st.put dst x) β (a.put dst v) w :=
 ⟨by rw [Go.Proofs.YtofcdondmgojiaaGreatDoor.Act.put_defers];exact h.defers,by rw [Go.Proofs.YtofcdondmgojiaaGreatDoor.Act.put_size];simp only [St.put];rw [setS_len];exact h.size,setS_slot h.size h.slots hx,h.len,h.nodup,h.mem,h.lt,h.own,h.below⟩
theorem Rep.grow (h:Rep w00 st β a w) {w' : World} (hb:Below w.heap.size w w'):Rep w00 st β a w':=by
 refine ⟨h.defers,h.size,fun t=>AV.below (h.slots t) hb,h.len,h.nodup,fun k T l hk=>?_,fun g hg=>Nat.lt_of_lt_of_le (h.lt g hg) hb.size,h.own,?_⟩
 ·obtain ⟨g,cs,h1,h2,h3⟩:=h.mem k T l hk
  exact ⟨g,cs,h1,(hb.block g (lt_of_block h2)).trans h2,h3.ext (Go.Proofs.YtofcdondmgojiaaGreatDoor.Ext.of_below hb)⟩
 ·exact h.below.trans (hb.mono h.below.size)
theorem grow_alloc (w:World) (o:Obj):Below w.heap.size w (w.alloc o):=(Below.refl _ _).alloc (Nat.le_refl _) _
theorem Mem.more {bl:List (Option (TypeId×List (Seg Kc)))} {γ:List Nat} (h:Mem β bl w):Mem (β++γ) bl w:=by
 intro k T l hk
 obtain ⟨g,cs,h1,h2,h3⟩:=h k T l hk
 exact ⟨g,cs,by rw [List.getElem?_append_left (List.getElem?_eq_some_iff.1 h1).1];exact h1,h2,h3.more⟩
theorem Rep.new (h:Rep w00 st β a w) {T:TypeId} {l:List (Seg Kc)} {cs:List Value} {d:Tmp} (hl:holdsL β l cs w) :
 Rep w00 { st with slots:=st.slots.set d (.fv (.sc (.ptr st.blocks.length 0))),blocks:=st.blocks ++ [(T,l)] } (β ++ [w.heap.size]) (a.put (some d) (.pointer (some ⟨w.heap.size,0,none⟩))) (w.alloc (.cells cs.toArray T)):=by
 have hb:=grow_alloc w (.cells cs.toArray T)
 have h':=h.grow hb
 have hnew:(β ++ [w.heap.size])[st.blocks.length]?=some w.heap.size:=by rw [← h.len];simp
 refine ⟨by rw [Go.Proofs.YtofcdondmgojiaaGreatDoor.Act.put_defers];exact h.defers,by rw [Go.Proofs.YtofcdondmgojiaaGreatDoor.Act.put_size];simp;exact h.size,?_,by simp [h.len],?_,?_,?_,?_,h'.below⟩
 ·exact setS_slot (dst:=some d) h.size (fun t=>AV.more (h'.slots t)) (ptr_hold hnew)
 ·rw [List.nodup_append]
  exact ⟨h.nodup,by simp,fun x hx y hy e=>by
   rw [List.mem_singleton] at hy
   have:=h.lt x hx
   omega⟩
 ·intro k T' l' hk
  rw [List.map_append,List.getElem?_append] at hk
  split at hk
  ·exact Mem.more h'.mem k T' l' hk
  ·rename_i hge
   rw [List.length_map] at hge hk
   rw [List.map_singleton] at hk
   have hk0:k-st.blocks.length=0:=by
    rcases Nat.eq_zero_or_pos (k-st.blocks.length) with e|e
    ·exact e
    ·rw [List.getElem?_eq_none (by simp;omega)] at hk;cases hk
   rw [hk0] at hk
   simp only [List.getElem?_cons_zero,Option.some.injEq,Prod.mk.injEq] at hk
   obtain ⟨rfl,rfl⟩:=hk
   have hke:k=st.blocks.length:=by omega
   subst hke
   exact ⟨w.heap.size,cs,hnew,heap_alloc_new w _,(hl.ext (Go.Proofs.YtofcdondmgojiaaGreatDoor.Ext.of_below hb)).more⟩
 ·intro g hg
  rw [show (w.alloc (.cells cs.toArray T)).heap.size=w.heap.size+1 by simp]
  rcases List.mem_append.1 hg with hg|hg
  ·have:=h.lt g hg;omega
  ·rw [List.mem_singleton] at hg;omega
 ·intro k g hk
  rw [List.getElem?_append] at hk
  split at hk
  ·exact h.own k g hk
  ·have:=List.mem_of_getElem? hk
   rw [List.mem_singleton] at this
   subst this
   exact .inr h.below.size
theorem Rep.own_new (h:Rep w00 st β a w) {T:TypeId} {l:List (Seg Kc)} {cs:List Value} {d:Tmp} {g:Nat} (hg:g∉β) (hge:w00.heap.size≤g) (hlt:g<w.heap.size) (hh:w.heap[g]?=some (.cells cs.toArray T (0,0))) (hl:holdsL β l cs w) :
 Rep w00 { st with slots:=st.slots.set d (.fv (.sc (.ptr st.blocks.length 0))),blocks:=st.blocks ++ [(T,l)] } (β ++ [g]) (a.put (some d) (.pointer (some ⟨g,0,none⟩))) w:=by
 have hnew:(β ++ [g])[st.blocks.length]?=some g:=by rw [← h.len];simp
 refine ⟨by rw [Go.Proofs.YtofcdondmgojiaaGreatDoor.Act.put_defers];exact h.defers,by rw [Go.Proofs.YtofcdondmgojiaaGreatDoor.Act.put_size];simp;exact h.size,?_,by simp [h.len],?_,?_,?_,?_,h.below⟩
 ·exact setS_slot (dst:=some d) h.size (fun t=>AV.more (h.slots t)) (ptr_hold hnew)
 ·rw [List.nodup_append]
  exact ⟨h.nodup,by simp,fun x hx y hy e=>by
   rw [List.mem_singleton] at hy
   subst hy
   subst e
   exact hg hx⟩
 ·intro k T' l' hk
  rw [List.map_append,List.getElem?_append] at hk
  split at hk
  ·exact Mem.more h.mem k T' l' hk
  ·rename_i hge'
   rw [List.length_map] at hge' hk
   rw [List.map_singleton] at hk
   have hk0:k-st.blocks.length=0:=by
    rcases Nat.eq_zero_or_pos (k-st.blocks.length) with e|e
    ·exact e
    ·rw [List.getElem?_eq_none (by simp;omega)] at hk;cases hk
   rw [hk0] at hk
   simp only [List.getElem?_cons_zero,Option.some.injEq,Prod.mk.injEq] at hk
   obtain ⟨rfl,rfl⟩:=hk
   have hke:k=st.blocks.length:=by omega
   subst hke
   exact ⟨g,cs,hnew,hh,hl.more⟩
 ·intro g' hg'
  rcases List.mem_append.1 hg' with hg'|hg'
  ·exact h.lt g' hg'
  ·rw [List.mem_singleton] at hg';omega
 ·intro k g' hk
  rw [List.getElem?_append] at hk
  split at hk
  ·exact h.own k g' hk
  ·have:=List.mem_of_getElem? hk
   rw [List.mem_singleton] at this
   subst this
   exact .inr hge
theorem killT_holds {T:TypeId} {x:AV Kc} {v:Value} {w w' : World} {g:Nat} {o:Obj} {cs0:Array Value} (ht:Turned g o w w') (h0:w.heap[g]?=some (.cells cs0 T (0,0))) (hx:Go.Proofs.YtofcdondmgojiaaGreatDoor.Ext Kc w w') (h:x.holds β v w):(x.killT T).holds β v w':=by
 have hF:∀ {y:FV Kc} {u:Value},y.holds β u w→y.kill.holds β u w':=fun {y u} hy=>by
  cases y with
  | sc s=>exact Seg.ext hy hx
  | ag l=>obtain ⟨cs,e,hl⟩:=hy;exact ⟨cs,e,hl.ext hx⟩
  | nsl n T l=>trivial
  | clo F a b=>obtain ⟨xs,ys,e,h1,h2⟩:=hy;exact ⟨xs,ys,e,h1.ext hx,h2.ext hx⟩
  | un=>trivial
 cases x with
 | fv y =>
   cases y with
   | clo F a b=>exact hF (y := .clo F a b) h
   | nsl n T' l =>
     simp only [AV.killT]
     split
     ·trivial
     ·rename_i hne
      obtain ⟨g',cs,e,hg,hl⟩:=h
      refine ⟨g',cs,e,?_,hl.ext hx⟩
      have:g'≠g:=fun e=>by
       subst e
       rw [h0] at hg
       injection hg with hg
       injection hg with _ hg
       exact hne (by simpa using hg)
      rw [ht.block g' this];exact hg
   | sc s=>exact hF (y := .sc s) h
   | ag l=>exact hF (y := .ag l) h
   | un=>trivial
 | tup l =>
   obtain ⟨vs,e,hl⟩:=h
   refine ⟨vs,e,?_⟩
   clear e
   induction l generalizing vs with
   | nil=>exact hl
   | cons y l ih =>
     obtain ⟨v,r,e,h1,h2⟩:=hl
     exact ⟨v,r,e,hF h1,ih _ h2⟩
theorem Rep.store (hK:KOk Kc) (h:Rep w00 st β a w) {k g:Nat} {T:TypeId} {l l' : List (Seg Kc)} {cs ds:List Value} {w' : World} (hk:st.blocks[k]?=some (T,l)) (hg:β[k]?=some g)
 (hh:w.heap[g]?=some (.cells cs.toArray T (0,0))) (hl:holdsL β l cs w) (hc:coldL l=true) (hro:st.ro≤k) (ht:Turned g (.cells ds.toArray T (0,0)) w w') (hd:holdsL β l' ds w) :
 Rep w00 { st with slots:=st.slots.map (AV.killT T),blocks:=st.blocks.set k (T,l') } β a w':=by
 have hcold:Go.Proofs.YtofcdondmgojiaaGreatDoor.hotObj Kc (.cells cs.toArray T (0,0))=false:=by
  simp only [Go.Proofs.YtofcdondmgojiaaGreatDoor.hotObj]
  rw [Array.any_eq_false']
  intro c hm
  simpa using holdsL.iscold hK hl hc c (by simpa using hm)
 have hx:Go.Proofs.YtofcdondmgojiaaGreatDoor.Ext Kc w w':=by
  refine ⟨by rw [ht.size];exact Nat.le_refl _,fun g' o hg' ho=>?_⟩
  by_cases e:g'=g
  ·subst e
   rw [hh] at hg'
   injection hg' with hg'
   subst hg'
   rw [hcold] at ho
   cases ho
  ·rw [ht.block g' e];exact hg'
 have hge:w00.heap.size≤g:=(h.own k g hg).resolve_left (by omega)
 refine ⟨h.defers,by simp;exact h.size,fun t=>?_,by simp [h.len],h.nodup,?_,fun g' hg'=>by rw [ht.size];exact h.lt g' hg',h.own,?_⟩
 ·have:=killT_holds (β:=β) ht hh hx (h.slots t)
  unfold St.slot at this ⊢
  simp only [List.getD_eq_getElem?_getD,List.getElem?_map] at this ⊢
  cases he:st.slots[t]? with
  | none=>trivial
  | some y=>rw [he] at this;exact this
 ·intro k' T' m hk'
  rw [List.getElem?_map] at hk'
  by_cases e:k'=k
  ·subst e
   rw [List.getElem?_set_self (List.getElem?_eq_some_iff.1 hk).1] at hk'
   simp only [Option.map_some,Option.some.injEq,Prod.mk.injEq] at hk'
   obtain ⟨rfl,rfl⟩:=hk'
   exact ⟨g,ds,hg,ht.at_,hd.ext hx⟩
  ·rw [List.getElem?_set_ne (Ne.symm e),← List.getElem?_map] at hk'
   obtain ⟨g',cs',h1,h2,h3⟩:=h.mem k' T' m hk'
   have:g'≠g:=fun e'=>by subst e';exact e (nodup_get h.nodup h1 hg)
   exact ⟨g',cs',h1,by rw [ht.block g' this];exact h2,h3.ext hx⟩
 ·refine ⟨ht.os.trans h.below.os,ht.tape.trans h.below.tape,ht.output.trans h.below.output,by rw [ht.size];exact h.below.size,fun k' hk'=>?_⟩
  rw [ht.block k' (by omega)]
  exact h.below.block k' hk'
theorem kill_holds {x:AV Kc} {v:Value} (h:x.holds β v w):x.kill.holds β v w:=by
 have hF:∀ {y:FV Kc} {u:Value},y.holds β u w→y.kill.holds β u w:=fun {y u} hy=>by
  cases y <;> first|exact hy|trivial
 cases x with
 | fv y=>exact hF h
 | tup l =>
   obtain ⟨vs,e,hl⟩:=h
   refine ⟨vs,e,?_⟩
   clear e
   induction l generalizing vs with
   | nil=>exact hl
   | cons y l ih =>
     obtain ⟨v,r,e,h1,h2⟩:=hl
     exact ⟨v,r,e,hF h1,ih _ h2⟩
theorem Rep.kill (h:Rep w00 st β a w):Rep w00 st.kill β a w:=by
 refine ⟨h.defers,by simp [St.kill];exact h.size,fun t=>?_,h.len,h.nodup,h.mem,h.lt,h.own,h.below⟩
 have:=kill_holds (h.slots t)
 unfold St.slot St.kill at *
 simp only [List.getD_eq_getElem?_getD,List.getElem?_map] at this ⊢
 cases he:st.slots[t]? with
 | none=>trivial
 | some y=>rw [he] at this;exact this
theorem wanted_un {ops:Array Oper} {o:Oper} {A:Act} {j:Nat} {want:Bool} {d:Tmp} (hg:o.guard=some (j,want)) (hd:(ops[j]?).bind (·.dst)=some d) (h:A.eval (.tmp d) = .tuple #[]) :
 Region.wanted o (yielded ops A.tmps)=false:=by
 have hy:yielded ops A.tmps j=none:=by
  unfold yielded
  rw [hd]
  have h2:A.tmps[d]?.getD undef = .tuple #[]:=by simpa [Act.eval] using h
  cases h3:A.tmps[d]? with
  | none=>simp [h3]
  | some v =>
    rw [h3] at h2
    have h4:v = .tuple #[]:=h2
    subst h4
    simp [h3]
 unfold Region.wanted
 rw [hg]
 simp [hy]
theorem Rep.wants (h:Rep w00 st β a w) {ops:Array Oper} {o:Oper} {b:Bool} (hw:wantA st.slot ops o=some b):Region.wanted o (yielded ops a.tmps)=b:=by
 unfold wantA at hw
 split at hw
 ·rename_i hg
  injection hw with hw
  subst hw
  simp [Region.wanted,hg]
 ·rename_i j want hg
  split at hw
  ·rename_i d hd
   split at hw
   ·rename_i b' hb
    injection hw with hw
    have:=h.slots d
    rw [hb] at this
    have hv:=aN this
    rw [Go.Proofs.YtofcdondmgojiaaGreatDoor.wanted_is hg hd hv]
    exact hw
   ·rename_i hb
    injection hw with hw
    subst hw
    have:=h.slots d
    rw [hb] at this
    obtain ⟨vs,e,e2⟩:=this
    rw [show vs = [] from e2] at e
    exact wanted_un hg hd e
   ·cases hw
  ·cases hw
end
end Go.Proofs.YtofcdondmgojiaaGreatDoor.Ab
namespace Go.Proofs.YtofcdondmgojiaaGreatDoor.Ab
open Go.RowKit
variable {Kc:Value→Bool}
def concK (β:List Nat):AKd Kc→Kd
 | .val x => .val fun v w=>x.holds β v w
 | .new T vs => .new (.cells vs.toArray T (0,0))
 | .put d T l => .put d fun o w => ∃ cs:List Value,o = .cells cs.toArray T (0,0)∧holdsL β l cs w
 | .old k T l => .old k fun o w => ∃ cs:List Value,o = .cells cs.toArray T (0,0)∧holdsL β l cs w
def conc (β:List Nat) (e:AE Kc):Ent:=⟨e.1,concK β e.2⟩
section
variable (P:Program) (f:FuncId) (w00:World) (Out:Value→World→Prop)
def Good:Cfg Kc→Prop
 | .items todo st => ∀ β a w,Rep w00 st β a w→Runs P f w00 Out todo a w
 | .plain ops rest k st => ∀ β a w,Rep w00 st β a w→wpList P ops (QN P f w00 Out k) rest a w
 | .drawn ops rest k st Ty es => ∀ β a w,Rep w00 st β a w→wpTy P ops (hotT Kc Ty) β (fun i k=>earlyOp st ops i k) w a (fun a w=>Runs P f w00 Out k a w) rest (es.map (conc β))
end
section
variable {P:Program} {f:FuncId} {w00:World} {Out:Value→World→Prop}
theorem good_items (hm:P.follows .mixedOrders=true) {todo:List Item} {st:St Kc} {c' : Cfg Kc} (h:stepA P (.items todo st)=some c') (hg:Good P f w00 Out c'):Good P f w00 Out (.items todo st):=by
 intro β a w hR
 simp only [stepA] at h
 split at h
 ·injection h with h;subst h;exact Runs.step (fun cs=>step_skip) (hg β a w hR)
 ·injection h with h;subst h;exact Runs.step (fun cs=>step_label) (hg β a w hR)
 ·injection h with h;subst h;exact Runs.step (fun cs=>step_inBlock) (hg β a w hR)
 ·injection h with h;subst h;exact Runs.step (fun cs=>step_inScope) (hg β a w hR)
 ·injection h with h;subst h;exact Runs.step (fun cs=>step_seq) (hg β a w hR)
 ·rename_i c x y k
  split at h
  ·rename_i t hc
   injection h with h
   subst h
   have hv:=hR.ev c
   rw [hc] at hv
   exact Runs.step (fun cs=>step_cond (aN hv)) (hg β a w hR)
  ·cases h
 ·injection h with h;subst h;exact Runs.step (fun cs=>step_block) (hg β a w hR)
 ·injection h with h;subst h;exact Runs.step (fun cs=>step_scope) (hg β a w hR)
 ·injection h with h;subst h;exact Runs.step (fun cs=>step_loop) (hg β a w hR)
 ·injection h with h;subst h;exact Runs.step (fun cs=>step_inLoop) (hg β a w hR)
 ·rename_i id k
  rw [Option.map_eq_some_iff] at h
  obtain ⟨k',hk,h⟩:=h
  subst h
  exact Runs.step (fun cs=>step_exit hk) (hg β a w hR)
 ·injection h with h
  subst h
  exact Runs.of_wp (wp_region_list (hg β a w hR))
 ·rename_i id ops k
  split at h
  ·rename_i hty
   injection h with h
   subst h
   have:=hg β a w hR
   refine Runs.of_wp (wp_mono (Q:=fun e a w=>e = .normal∧Runs P f w00 Out k a w) ?_ (fun _ _ _ h=>h))
   obtain ⟨l⟩:=ops
   refine wp_region_ty (hotT Kc (tysOf P l)) β (fun i k=>earlyOp st l.toArray i k) hR.nodup hR.lt hm (by rw [hR.size];exact hty) ?_
   simpa [Exit,true_and] using this
  ·cases h
 ·cases h
theorem wpList_skip {ops:Array Oper} {Q:Exit→Act→World→Prop} {o:Oper} {rest:List Oper} {a:Act} {w:World} (hw:Region.wanted o (yielded ops a.tmps)=false) (h:wpList P ops Q rest (a.put o.dst undef) w):wpList P ops Q (o::rest) a w:=by
 unfold wpList
 rw [if_neg (by rw [hw];simp)]
 exact h
theorem wpList_want {ops:Array Oper} {Q:Exit→Act→World→Prop} {o:Oper} {rest:List Oper} {a:Act} {w:World} (hw:Region.wanted o (yielded ops a.tmps)=true) (h:o.wp P a w (wpList P ops Q rest) Q):wpList P ops Q (o::rest) a w:=by
 unfold wpList
 rw [if_pos hw]
 exact .inl h
theorem good_fuse {ops:Array Oper} {o:Oper} {rest rest' : List Oper} {k:List Item} {st st' : St Kc} (h:fuseA P st o rest=some (st',rest')) (hg:Good P f w00 Out (.plain ops rest' k st')):Good P f w00 Out (.plain ops (o::rest) k st):=by
 intro β a w hR
 unfold fuseA at h
 split at h
 ·rename_i T d o2 rest2 hop hdst hgd
  split at h
  ·rename_i T' d' y hop2 hdst2 hgd2
   split at h
   ·rename_i hc
    simp only [Bool.and_eq_true,beq_iff_eq,decide_eq_true_eq] at hc
    obtain ⟨⟨hc1,hc2⟩,hc3⟩:=hc
    subst hc1
    have core:∀ (z m:List (Seg Kc)) (n:Nat) (es:List Value),zerosA (Kc:=Kc) P T=some z→sizeT P T'=some n→sizeL m=n→sizeL z=n→(a.eval y).cells.toList=es→holdsL β m es w →
     Good P f w00 Out (.plain ops rest2 k { st with slots:=st.slots.set d' (.fv (.sc (.ptr st.blocks.length 0))),blocks:=st.blocks ++ [(T,m)] })→wpList P ops (QN P f w00 Out k) (o::o2::rest2) a w:=by
     intro z m n es hz hn hm hzn hes hl hgood
     have hal:opA (Kc:=Kc) P (evL st.slot) (st.blocks.map some) o = .new T z:=by simp only [opA,hop,hz]
     obtain ⟨cs,e,hcs⟩:=opA_new (β:=β) (ρ:=a.eval) (w:=w) hal (fun y hy=>by rw [hop] at hy;simp [Op.operands] at hy)
     refine wpList_want (by simp [Region.wanted,hgd]) ?_
     unfold Oper.wp
     rw [e]
     simp only [Oper.upon,hdst]
     have hds:d'<a.tmps.size:=by rw [hR.size];exact hc3
     refine wpList_want (by simp [Region.wanted,hgd2]) ?_
     unfold Oper.wp
     have hyv:(a.put (some d') (.pointer (some ⟨w.heap.size,0,none⟩))).eval y=a.eval y:=by
      cases y with
      | tmp t =>
        have:t≠d':=by simpa [notSlot] using hc2
        exact Go.Proofs.YtofcdondmgojiaaGreatDoor.Act.eval_put_miss (by simp;exact fun e=>this e.symm)
      | _=>rfl
     ·have hb:=grow_alloc w (.cells cs.toArray T)
      have h0:=heap_alloc_new w (.cells cs.toArray T)
      obtain ⟨h3,h4⟩:=store_run (P:=P) (o:=o2) (ρ:=(a.put (some d') (.pointer (some ⟨w.heap.size,0,none⟩))).eval) (off:=0) hop2 (Go.Proofs.YtofcdondmgojiaaGreatDoor.Act.eval_put_hit hds) (by rw [hyv];exact hes) hn (by rw [hl.len];exact hm) hl.one h0 (by rw [hl.len,hcs.len];omega)
      rw [h3]
      simp only [Oper.upon,hdst2,Act.put]
      have hfull:cs.take 0++es++cs.drop (0+es.length)=es:=by
       rw [List.take_zero,List.nil_append,List.drop_of_length_le (by rw [hl.len,hcs.len];omega),List.append_nil]
      rw [hfull] at h4
      have hbel:Below w.heap.size w ((w.alloc (.cells cs.toArray T)).setCells w.heap.size 0 es):=by
       refine ⟨h4.os.trans hb.os,h4.tape.trans hb.tape,h4.output.trans hb.output,by rw [h4.size];exact hb.size,fun k' hk'=>?_⟩
       rw [h4.block k' (by omega)]
       exact hb.block k' hk'
      have hsz:((w.alloc (.cells cs.toArray T)).setCells w.heap.size 0 es).heap.size=w.heap.size+1:=by rw [h4.size];simp
      exact hgood _ _ _ ((hR.grow hbel).own_new (fun hm=>by have:=hR.lt _ hm;omega) hR.below.size (by rw [hsz];omega) h4.at_ (hl.ext (Go.Proofs.YtofcdondmgojiaaGreatDoor.Ext.of_below hbel)))
    split at h
    ·rename_i z n s hz hn hy
     split at h
     ·rename_i hcc
      simp only [Bool.and_eq_true,beq_iff_eq] at hcc
      injection h with h
      injection h with h1 h2
      subst h1
      subst h2
      have hv:=hR.ev y
      rw [hy] at hv
      exact core z [s] n [a.eval y] hz hn (by simp [sizeL];omega) (by omega) (by rw [cells_sc hv]) (holdsL.single hv) hg
     ·cases h
    ·rename_i z n m hz hn hy
     split at h
     ·rename_i hcc
      simp only [Bool.and_eq_true,beq_iff_eq] at hcc
      injection h with h
      injection h with h1 h2
      subst h1
      subst h2
      have hv:=hR.ev y
      rw [hy] at hv
      obtain ⟨es,he,hl⟩:=hv
      exact core z m n es hz hn hcc.1 hcc.2 (by rw [he];rfl) hl hg
     ·cases h
    ·cases h
   ·cases h
  ·cases h
 ·cases h
theorem good_plain (hK:KOk Kc) {ops:Array Oper} {rest:List Oper} {k:List Item} {st:St Kc} {c' : Cfg Kc} (h:stepA P (.plain ops rest k st)=some c') (hg:Good P f w00 Out c'):Good P f w00 Out (.plain ops rest k st):=by
 intro β a w hR
 simp only [stepA] at h
 split at h
 ·injection h with h
  subst h
  exact wpList_nil ⟨rfl,hg β a w hR.kill⟩
 ·rename_i o rest
  split at h
  ·rename_i st' rest' hfu
   injection h with h
   subst h
   exact good_fuse hfu hg β a w hR
  split at h
  ·rename_i hw
   refine wpList_want (hR.wants hw) ?_
   rw [Option.map_eq_some_iff] at h
   obtain ⟨st',h,e⟩:=h
   subst e
   have hs:∀ y∈o.op.operands,(evL st.slot y).holds β (a.eval y) w:=fun y _=>hR.ev y
   unfold Oper.wp
   generalize hr:opA P (evL st.slot) (st.blocks.map some) o=r at h
   cases r with
   | val x =>
     obtain ⟨v,e,hx⟩:=opA_val hr hs hR.mem
     simp only [plainA,Option.some.injEq] at h
     subst h
     rw [e]
     exact hg β _ _ (hR.put hx)
   | new T l =>
     obtain ⟨cs,e,hl⟩:=opA_new hr hs
     simp only [plainA] at h
     split at h
     ·rename_i d hd
      injection h with h
      subst h
      rw [e]
      simp only [Oper.upon,hd]
      exact hg _ _ _ (hR.new hl)
     ·cases h
   | nsl n T l =>
     obtain ⟨cs,e,hl⟩:=opA_nsl hr hs
     simp only [plainA,Option.some.injEq] at h
     subst h
     rw [e]
     refine hg β _ _ ((hR.grow (grow_alloc w _)).put ⟨_,cs,rfl,heap_alloc_new w _,hl.ext (Go.Proofs.YtofcdondmgojiaaGreatDoor.Ext.of_below (grow_alloc w _))⟩)
   | put k' off m =>
     simp only [plainA] at h
     split at h
     ·rename_i T l hk hd
      split at h
      ·rename_i l' hrep
       split at h
       ·rename_i hc
        injection h with h
        subst h
        obtain ⟨g,cs,hg1,hg2,hg3⟩:=hR.mem k' T l (by rw [List.getElem?_map,hk];rfl)
        obtain ⟨ds,w',e,ht,hl⟩:=opA_put hr hs hg1 hg2 hg3 hrep
        rw [e]
        simp only [Oper.upon,hd,Act.put]
        exact hg β _ _ (hR.store hK hk hg1 hg2 hg3 hc.2 hc.1 ht hl)
       ·cases h
      ·cases h
     ·cases h
   | call g args=>cases h
   | stop=>cases h
  ·rename_i hw
   injection h with h
   subst h
   exact wpList_skip (hR.wants hw) (hg β _ _ (hR.put (x := .tup []) ⟨[],rfl,rfl⟩))
  ·cases h
end
end Go.Proofs.YtofcdondmgojiaaGreatDoor.Ab
namespace Go.Proofs.YtofcdondmgojiaaGreatDoor.Ab
open Go.RowKit
variable {Kc:Value→Bool}
section
variable {P:Program} {f:FuncId} {w00:World} {Out:Value→World→Prop} {st:St Kc} {β:List Nat} {a0:Act} {w0:World} {es:List (AE Kc)} {Ty:List TypeId} {ops:Array Oper}
theorem kill_okT {x:AV Kc}:x.kill.okT Ty=true:=by
 have hF:∀ y:FV Kc,y.kill.okT Ty=true:=fun y=>by cases y <;> rfl
 cases x with
 | fv y=>exact hF y
 | tup l =>
   simp only [AV.kill,AV.okT,List.all_map,List.all_eq_true]
   exact fun y _=>hF y
theorem slotD_holds {B:Nat} {t:Tmp} {v:Value} {w:World} (h0:∀ t,(st.slot t).holds β (a0.eval (.tmp t)) w0) (hx:Ext (hotT Kc Ty) w0 w):∀ {es:List (AE Kc)},specOf a0 B t (es.map (conc β)) v w→(slotD st es t).holds β v w
 | [],h=>by
   simp only [List.map_nil,specOf] at h
   subst h
   exact AV.ext (kill_holds (h0 t)) hx kill_okT
 | (dst,kd)::es,h=>by
   simp only [List.map_cons,specOf,conc] at h
   simp only [slotD]
   by_cases hd:dst=some t
   ·rw [if_pos hd] at h
    rw [if_pos (by simpa using hd)]
    cases kd with
    | val x=>exact h
    | _=>trivial
   ·rw [if_neg hd] at h
    rw [if_neg (by simpa using hd)]
    exact slotD_holds h0 hx h
theorem looks_of {o:Oper} {t:Tmp} (h:Operand.tmp t∈o.op.operands):t∈o.looksAt ops:=by
 unfold Oper.looksAt
 simp only [List.mem_append]
 refine .inl ?_
 simp only [Array.mem_toList_iff,List.mem_filterMap]
 first
  | exact ⟨.tmp t,h,rfl⟩
  | exact ⟨.tmp t,by simpa using h,rfl⟩
theorem drawn_ev {o:Oper} {A:Act} {w:World} {i:Nat} {E:Nat→Nat→Bool} {T:List Nat} (hR:Rep w00 st β a0 w0) (hV:View (hotT Kc Ty) T E w0 i w) (hk:known a0 w0.heap.size (es.map (conc β)) A w (o.looksAt ops)) :
 ∀ y∈o.op.operands,(evL (slotD st es) y).holds β (A.eval y) w:=by
 intro y hy
 cases y with
 | tmp t=>exact slotD_holds hR.slots hV.ext (known_iff.1 hk t (looks_of hy))
 | const v=>exact constA_holds v
 | func f=>exact ⟨rfl,rfl⟩
 | global g=>trivial
theorem drawn_mem {w:World} {i:Nat} (hR:Rep w00 st β a0 w0) (hV:View (hotT Kc Ty) β (fun i k=>earlyOp st ops i k) w0 i w):Mem β (viewA ops st i) w:=by
 intro k T l hk
 unfold viewA at hk
 rw [List.getElem?_map,List.getElem?_zipIdx,Option.map_map,Option.map_eq_some_iff] at hk
 obtain ⟨p,hp,hk⟩:=hk
 simp only [Function.comp,Nat.zero_add] at hk
 split at hk
 ·rename_i he
  injection hk with hk
  obtain ⟨g,cs,h1,h2,h3⟩:=hR.mem k T l (by rw [List.getElem?_map,hp,hk];rfl)
  exact ⟨g,cs,h1,(hV.early k g he h1).trans h2,h3.ext hV.ext.down⟩
 ·cases hk
theorem drawn_wants {o:Oper} {A:Act} {w:World} {i:Nat} {E:Nat→Nat→Bool} {T:List Nat} {b:Bool} (hR:Rep w00 st β a0 w0) (hV:View (hotT Kc Ty) T E w0 i w) (hk:known a0 w0.heap.size (es.map (conc β)) A w (o.looksAt ops))
 (hw:wantA (slotD st es) ops o=some b):Region.wanted o (yielded ops A.tmps)=b:=by
 unfold wantA at hw
 split at hw
 ·rename_i hg
  injection hw with hw
  subst hw
  simp [Region.wanted,hg]
 ·rename_i j want hg
  split at hw
  ·rename_i d hd
   split at hw
   ·rename_i b' hb
    injection hw with hw
    have:=slotD_holds (es:=es) hR.slots hV.ext (known_iff.1 hk d (Go.Proofs.YtofcdondmgojiaaGreatDoor.guard_looks hg hd))
    rw [hb] at this
    rw [Go.Proofs.YtofcdondmgojiaaGreatDoor.wanted_is hg hd (aN this)]
    exact hw
   ·rename_i hb
    injection hw with hw
    subst hw
    have:=slotD_holds (es:=es) hR.slots hV.ext (known_iff.1 hk d (Go.Proofs.YtofcdondmgojiaaGreatDoor.guard_looks hg hd))
    rw [hb] at this
    obtain ⟨vs,e,e2⟩:=this
    rw [show vs = [] from e2] at e
    exact wanted_un hg hd e
   ·cases hw
  ·cases hw
theorem stableA {x:AV Kc} (h:x.okT Ty=true):Stable (hotT Kc Ty) (fun v w=>x.holds β v w):=fun _ _ _ hv hx=>AV.ext hv hx h
theorem stableC {l:List (Seg Kc)} {T:TypeId}:StableO (hotT Kc Ty) (fun o w => ∃ cs:List Value,o = .cells cs.toArray T (0,0)∧holdsL β l cs w):=fun _ _ _ ⟨cs,e,h⟩ hx=>⟨cs,e,h.ext hx.down⟩
theorem coldB (hK:KOk Kc) {l:List (Seg Kc)} {cs:List Value} {T:TypeId} {w:World} (hl:holdsL β l cs w) (hc:coldL l=true) (hT:Ty.contains T=false):hotObj (hotT Kc Ty) (.cells cs.toArray T (0,0))=false:=by
 simp only [hotObj,hotT,Bool.or_eq_false_iff]
 refine ⟨?_,hT⟩
 rw [Array.any_eq_false']
 intro c hm
 simpa using holdsL.iscold hK hl hc c (by simpa using hm)
theorem newOf_mem {d:Tmp} {T:TypeId} {vs:List Value} (h:newOf es d=some (T,vs)):(some d,AKd.new T vs)∈es:=by
 unfold newOf at h
 rw [Option.bind_eq_some_iff] at h
 obtain ⟨⟨dst,kd⟩,h1,h2⟩:=h
 have hm:=List.mem_of_find?_eq_some h1
 have hp:=List.find?_some h1
 simp only [beq_iff_eq] at hp
 subst hp
 cases kd <;> simp at h2
 obtain ⟨rfl,rfl⟩:=h2
 exact hm
theorem good_drawn_step (hK:KOk Kc) {o:Oper} {rest:List Oper} {k:List Item} {c' : Cfg Kc} (h:stepA P (.drawn ops (o::rest) k st Ty es)=some c') (hg:Good P f w00 Out c'):Good P f w00 Out (.drawn ops (o::rest) k st Ty es):=by
 intro β a0 w0 hR
 have hlen:(es.map (conc β)).length=es.length:=by simp
 simp only [stepA] at h
 split at h
 ·rename_i e he
  injection h with h
  subst h
  have hg':=hg β a0 w0 hR
  unfold putNew at he
  split at he
  ·rename_i T d y ho hd hgd
   have core:∀ (T' : TypeId) (vs:List Value) (n:Nat) (m l' : List (Seg Kc)),newOf es d=some (T',vs)→sizeT P T=some n→vs.all (·.oneCell')=true→repl (vs.map .lit) 0 m=some l'→e=(none,.put d T' l') →
    (∀ (v:Value) (w:World),(evL (slotD st es) y).holds β v w→∃ cs,v.cells.toList=cs∧holdsL β m cs w)→sizeL m=n →
    ∃ kk,Oblig P ops (hotT Kc Ty) β (fun i k=>earlyOp st ops i k) w0 a0 (es.map (conc β)) o kk∧wpTy P ops (hotT Kc Ty) β (fun i k=>earlyOp st ops i k) w0 a0 (fun a w=>Runs P f w00 Out k a w) rest (⟨o.dst,kk⟩::es.map (conc β)):=by
    intro T' vs n m l' hnew hn hone hrep he hval hsz
    subst he
    refine ⟨concK β (.put d T' l'),?_,by rw [hd];exact hg'⟩
    refine ⟨hd,hgd,looks_of (by rw [ho];simp [Op.operands]),stableC,.cells vs.toArray T' (0,0),List.mem_map.2 ⟨_,newOf_mem hnew,rfl⟩,?_⟩
    intro A w b hV hk hA hb
    have hy:=drawn_ev hR hV hk y (by rw [ho];simp [Op.operands])
    obtain ⟨cs,hc1,hc2⟩:=hval _ _ hy
    obtain ⟨h1,h2⟩:=repl_holds hrep (holdsL.lits hone) hc2
    obtain ⟨h3,h4⟩:=store_run (P:=P) ho hA hc1 hn (by rw [hc2.len];exact hsz) hc2.one hb h2
    rw [h3]
    exact ⟨_,h4,_,rfl,h1⟩
   split at he
   ·rename_i T' vs n s hnew hn hy
    split at he
    ·rename_i hc
     simp only [Bool.and_eq_true,beq_iff_eq] at hc
     rw [Option.map_eq_some_iff] at he
     obtain ⟨l',hl',he⟩:=he
     refine core T' vs n [s] l' hnew hn hc.2 hl' he.symm (fun v w hv=>?_) (by simp [sizeL];omega)
     rw [hy] at hv
     exact ⟨[v],by rw [cells_sc hv],holdsL.single hv⟩
    ·cases he
   ·rename_i T' vs n m hnew hn hy
    split at he
    ·rename_i hc
     simp only [Bool.and_eq_true,beq_iff_eq] at hc
     rw [Option.map_eq_some_iff] at he
     obtain ⟨l',hl',he⟩:=he
     refine core T' vs n m l' hnew hn hc.2 hl' he.symm (fun v w hv=>?_) hc.1
     rw [hy] at hv
     obtain ⟨cs,e,hl⟩:=hv
     exact ⟨cs,by rw [e];rfl,hl⟩
    ·cases he
   ·cases he
  ·cases he
 ·split at h
  ·rename_i hw
   rw [Option.map_eq_some_iff] at h
   obtain ⟨e,h,hc⟩:=h
   subst hc
   have hg':=hg β a0 w0 hR
   generalize hr:opA P (evL (slotD st es)) (viewA ops st es.length) o=r at h
   have hval:∀ {A:Act} {w:World},View (hotT Kc Ty) β (fun i k=>earlyOp st ops i k) w0 (es.map (conc β)).length w→known a0 w0.heap.size (es.map (conc β)) A w (o.looksAt ops) →
    Region.wanted o (yielded ops A.tmps)=true∧(∀ y∈o.op.operands,(evL (slotD st es) y).holds β (A.eval y) w)∧Mem β (viewA ops st es.length) w:=fun hV hk =>
    ⟨drawn_wants hR hV hk hw,drawn_ev hR hV hk,by rw [hlen] at hV;exact drawn_mem hR hV⟩
   cases r with
   | val x =>
     simp only [drawnA] at h
     split at h
     ·rename_i hx
      injection h with h
      subst h
      refine ⟨concK β (.val x),⟨stableA hx,fun A w hV hk => .inl ?_⟩,hg'⟩
      obtain ⟨h1,h2,h3⟩:=hval hV hk
      obtain ⟨v,e,hv⟩:=opA_val hr h2 h3
      rw [e]
      exact ⟨h1,Below.refl _ _,hv⟩
     ·cases h
   | new T l =>
     simp only [drawnA] at h
     split at h
     ·rename_i vs T' hvs hal
      split at h
      ·rename_i hc
       injection h with h
       subst h
       refine ⟨concK β (.new T vs),⟨hc.1,hc.2.1,hc.2.2,fun A w=>?_⟩,hg'⟩
       obtain ⟨cs,e,hl⟩:=opA_new (β:=β) (ρ:=A.eval) (w:=w) hr (fun y hy=>by rw [hal] at hy;simp [Op.operands] at hy)
       rw [e,litsOf_holds hvs hl]
      ·cases h
     ·cases h
   | nsl n T l =>
     simp only [drawnA] at h
     split at h
     ·rename_i hx
      injection h with h
      subst h
      refine ⟨concK β (.val (.fv (.nsl n T l))),⟨stableA hx,fun A w hV hk => .inl ?_⟩,hg'⟩
      obtain ⟨h1,h2,h3⟩:=hval hV hk
      obtain ⟨cs,e,hl⟩:=opA_nsl hr h2
      rw [e]
      exact ⟨h1,grow_alloc w _,_,cs,rfl,heap_alloc_new w _,hl.ext (Go.Proofs.YtofcdondmgojiaaGreatDoor.Ext.of_below (grow_alloc w _))⟩
     ·cases h
   | put k' off m =>
     simp only [drawnA] at h
     split at h
     ·rename_i T l hk' hd hgd
      split at h
      ·rename_i l' hrep
       split at h
       ·rename_i hc
        injection h with h
        subst h
        obtain ⟨g,cs,hg1,hg2,hg3⟩:=hR.mem k' T l (by rw [List.getElem?_map,hk'];rfl)
        refine ⟨concK β (.old k' T l'),⟨hd,hgd,stableC,g,_,hg1,hg2,coldB hK hg3 hc.2.1 hc.2.2,fun A w hV hk hb=>?_⟩,by rw [hd];exact hg'⟩
        obtain ⟨h1,h2,h3⟩:=hval hV hk
        obtain ⟨ds,w',e,ht,hl⟩:=opA_put hr h2 hg1 hb (hg3.ext hV.ext.down) hrep
        rw [e]
        exact ⟨_,ht,ds,rfl,hl⟩
       ·cases h
      ·cases h
     ·cases h
   | call g args=>cases h
   | stop=>cases h
  ·rename_i hw
   injection h with h
   subst h
   refine ⟨concK β (.val (.tup [])),⟨stableA rfl,fun A w hV hk => .inr ⟨drawn_wants hR hV hk hw,[],rfl,rfl⟩⟩,hg β a0 w0 hR⟩
  ·cases h
end
end Go.Proofs.YtofcdondmgojiaaGreatDoor.Ab
