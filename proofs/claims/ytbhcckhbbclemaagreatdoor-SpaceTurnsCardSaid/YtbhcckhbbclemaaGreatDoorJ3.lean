/- Parts of the proof, joined. -/
import Derived.Test.YtbhcckhbbclemaaGreatDoorJ2
set_option linter.unusedSimpArgs false
set_option linter.unusedVariables false
namespace Go.Proofs.YtbhcckhbbclemaaGreatDoor.Ab
open Go.RowKit
variable {Kc:Value→Bool}
def evalP (P:Program) {α:Type}:Sem α→Option α
 | .pure a=>some a
 | .program k=>evalP P (k P)
 | _=>none
theorem evalP_run {P:Program} {α:Type}:∀ {s:Sem α} {a:α},evalP P s=some a→∀ w,s.run P w = .ok a w
 | .pure _,_,h,w=>by injection h with h;subst h;rfl
 | .program k,_,h,w=>by
   have:(Sem.program k).run P w=(k P).run P w:=rfl
   rw [this]
   exact evalP_run (s:=k P) h w
 | .load ..,_,h,_ | .store ..,_,h,_ | .new ..,_,h,_ | .shape ..,_,h,_ | .freeze ..,_,h,_ | .frozen ..,_,h,_ | .getObj ..,_,h,_ | .setObj ..,_,h,_ | .choose ..,_,h,_ | .sys ..,_,h,_ | .mark ..,_,h,_ | .halt ..,_,h,_=>by cases h
inductive OR (Kc:Value→Bool) where
 | val (x:AV Kc)
 | new (T:TypeId) (l:List (Seg Kc))
 | nsl (n:Nat) (T:TypeId) (l:List (Seg Kc))
 | put (k off:Nat) (l:List (Seg Kc))
 | call (f:FuncId) (args:List (AV Kc))
 | stop
def rowB (P:Program) (t:TypeId):Option Bool:=(P.underlying t).map TypeDesc.isRow
def sizeT (P:Program) (t:TypeId):Option Nat:=(P.info? t).map (·.size)
def litsOf:List (Seg Kc)→Option (List Value)
 | []=>some []
 | .lit v::l=>(litsOf l).map (v :: ·)
 | _=>none
def litOf:AV Kc→Option Value
 | .fv (.sc (.lit v))=>some v
 | .fv (.ag l)=>(litsOf l).map fun cs => .agg cs.toArray
 | _=>none
def constA:Value→AV Kc
 | .agg cs=>if cs.toList.all (·.oneCell') then .fv (.ag (cs.toList.map .lit)) else .un
 | .tuple _ => .un
 | v => .fv (.sc (.lit v))
theorem litsOf_holds {β:List Nat} {w:World}:∀ {l:List (Seg Kc)} {vs cs:List Value},litsOf l=some vs→holdsL β l cs w→cs=vs
 | [],_,_,h,h'=>by injection h with h;rw [h',h]
 | .lit v::l,_,_,h,⟨a,b,e,h1,h2⟩=>by
   simp only [litsOf,Option.map_eq_some_iff] at h
   obtain ⟨r,hr,rfl⟩:=h
   rw [e,h1.1,litsOf_holds hr h2];rfl
 | .ptr .. :: _,_,_,h,_ | .slc .. :: _,_,_,h,_ | .sp _::_,_,_,h,_=>by cases h
theorem litOf_holds {β:List Nat} {w:World} {x:AV Kc} {u v:Value} (h:litOf x=some u) (hv:x.holds β v w):v=u:=by
 cases x with
 | tup l=>cases h
 | fv f =>
   cases f with
   | sc s =>
     cases s with
     | lit c=>injection h with h;subst h;have:=hv.1;injection this
     | _=>cases h
   | ag l =>
     simp only [litOf,Option.map_eq_some_iff] at h
     obtain ⟨cs,hc,rfl⟩:=h
     obtain ⟨ds,rfl,hd⟩:=hv
     rw [litsOf_holds hc hd]
   | _=>cases h
theorem constA_holds {β:List Nat} {w:World} (v:Value):(constA v:AV Kc).holds β v w:=by
 unfold constA
 split
 ·split
  ·rename_i h
   exact ⟨_,rfl,holdsL.lits h⟩
  ·trivial
 ·trivial
 ·rename_i h1 h2
  refine ⟨rfl,?_⟩
  cases v <;> simp_all [Value.oneCell']
def partA (P:Program) (T:TypeId) (l:List (Seg Kc)) (off:Nat):OR Kc :=
 match sizeT P T with
 | some n=>match cut l off n with
   | some m=>match rowB P T,m with
     | some true,m => .val (.fv (.ag m))
     | some false,[s]=>if n==1 then .val (.fv (.sc s)) else .stop
     | _,_ => .stop
   | none => .stop
 | none => .stop
def fillA (place:Nat→Option (Nat×Nat)):List (Nat×AV Kc)→List (Seg Kc)→Option (List (Seg Kc))
 | [],l=>some l
 | (i,x)::r,l=>match place i,x with
   | some (off,n),.fv (.sc s)=>if n==1&&s.size==1 then (repl l off [s]).bind (fillA place r) else none
   | some (off,n),.fv (.ag m)=>if sizeL m==n then (repl l off m).bind (fillA place r) else none
   | _,_=>none
def zerosA (P:Program) (T:TypeId):Option (List (Seg Kc)) :=
 match (P.info? T).bind (·.zero) with
 | some z=>if z.cells.toList.all (·.oneCell') then some (z.cells.toList.map .lit) else none
 | none=>none
def zerosN (z:Value) (k:Nat):List Value:=(List.range k).map fun i=>z.cells[i%z.cells.size]!
def placesA (P:Program) (fs:Array Field):Option (List (Nat×Nat)) :=
 fs.toList.mapM fun f=>(P.info? f.type).map fun i=>(f.offset,i.size)
def caA:Bool×List (Seg Kc)→AV Kc
 | (true,l) => .fv (.ag l)
 | (false,[s]) => .fv (.sc s)
 | _ => .un
def toCA:List (AV Kc)→Option (List (Bool×List (Seg Kc)))
 | []=>some []
 | .fv (.sc s)::l=>(toCA l).map ((false,[s]) :: ·)
 | .fv (.ag m)::l=>(toCA l).map ((true,m) :: ·)
 | _=>none
def litsA:List (AV Kc)→Option (List Value)
 | []=>some []
 | x::l=>match litOf x,litsA l with|some v,some r=>some (v::r)|_,_=>none
def closedA (P:Program) (s:Sem Value):OR Kc:=match evalP P s with|some v => .val (constA v)|none => .stop
variable (P:Program) (ev:Operand→AV Kc) (bl:List (Option (TypeId×List (Seg Kc))))
def opA (o:Oper):OR Kc :=
 match o.op with
 | .move x | .assign x => .val (ev x)
 | .pick c a b=>match ev c with
   | .fv (.sc (.lit (.bool t))) => .val (if t then ev a else ev b)
   | _ => .stop
 | .alloc T=>match zerosA P T with|some l => .new T l|none => .stop
 | .box T x=>match ev x with | .fv (.sc s) => .new T [s] | .fv (.ag l) => .new T l|_ => .stop
 | .load T x=>match ev x with
   | .fv (.sc (.ptr k off))=>match bl[k]? with|some (some (_,l))=>partA P T l off|_ => .stop
   | _ => .stop
 | .store T x y=>match ev x,ev y,sizeT P T with
   | .fv (.sc (.ptr k off)),.fv (.sc s),some n=>if n==1&&s.size==1 then .put k off [s] else .stop
   | .fv (.sc (.ptr k off)),.fv (.ag m),some n=>if sizeL m==n then .put k off m else .stop
   | _,_,_ => .stop
 | .fieldAddr T x i=>match ev x,P.underlying T with
   | .fv (.sc (.ptr k off)),some (.struct fs)=>match fs[i]? with
     | some f=>match sizeT P f.type with|some (_+1) => .val (.fv (.sc (.ptr k (off+f.offset))))|_ => .stop
     | none => .stop
   | _,_ => .stop
 | .field T x i=>match ev x,P.underlying T with
   | .fv (.ag l),some (.struct fs)=>match fs[i]? with|some f=>partA P f.type l f.offset|none => .stop
   | _,_ => .stop
 | .indexAddr T x ix=>match ev x,ev ix,P.underlying T with
   | .fv (.sc (.ptr k off)),.fv (.sc (.lit (.int _ i))),some (.array len e)=>if 0≤i∧i<len then match sizeT P e with|some n => .val (.fv (.sc (.ptr k (off+i.toNat*n))))|none => .stop else .stop
   | .fv (.sc (.slc k off n _)),.fv (.sc (.lit (.int _ i))),some (.slice e)=>if 0≤i∧i<n then match sizeT P e with|some m => .val (.fv (.sc (.ptr k (off+i.toNat*m))))|none => .stop else .stop
   | _,_,_ => .stop
 | .index T x ix=>match ev x,ev ix,P.underlying T with
   | .fv (.ag l),.fv (.sc (.lit (.int _ i))),some (.array len e)=>if 0≤i∧i<len then match sizeT P e with|some n=>partA P e l (i.toNat*n)|none => .stop else .stop
   | _,_,_ => .stop
 | .nilCheck x=>match ev x with | .fv (.sc (.ptr k off)) => .val (.fv (.sc (.ptr k off)))|_ => .stop
 | .extract x i=>match ev x with
   | .tup l=>match l[i]? with|some f => .val (.fv f)|none => .stop
   | _ => .stop
 | .build T parts=>match zerosA P T,P.underlying T with
   | some z,some (.struct fs)=>match placesA P fs with
     | some pl=>match fillA (fun i=>pl[i]?) (parts.toList.map fun p=>(p.1,ev p.2)) z with|some l => .val (.fv (.ag l))|none => .stop
     | none => .stop
   | some z,some (.array _ e)=>match sizeT P e with
     | some n=>match fillA (fun i=>some (i*n,n)) (parts.toList.map fun p=>(p.1,ev p.2)) z with|some l => .val (.fv (.ag l))|none => .stop
     | none => .stop
   | _,_ => .stop
 | .buildSlice T len parts=>match P.underlying T with
   | some (.slice e)=>match sizeT P e,(P.info? e).bind (·.zero) with
     | some n,some z=>if 0<n∧0<len∧len*n≤16777216∧(zerosN z (len*n)).all (·.oneCell')=true then match fillA (fun i=>some (i*n,n)) (parts.toList.map fun p=>(p.1,ev p.2)) ((zerosN z (len*n)).map .lit) with|some l => .nsl len e l|none => .stop else .stop
     | _,_ => .stop
   | _ => .stop
 | .slice T x none none none=>match ev x,P.underlying T with
   | .fv (.sc (.ptr k off)),some (.array n e)=>match sizeT P e with|some _ => .val (.fv (.sc (.slc k off n n)))|none => .stop
   | _,_ => .stop
 | .binOp op T x y _=>match litOf (ev x),litOf (ev y) with
   | some a,some b=>closedA P (do eqGuard op T x y a b;binOp op T a b)
   | _,_ => .stop
 | .makeFunc (.func F) first cap=>match toCA (first.toList.map ev),toCA (cap.toList.map ev) with
   | some a,some b => .val (.fv (.clo F a b))
   | _,_ => .stop
 | .unOp op _ x=>match litOf (ev x) with|some a=>closedA P (Op.unary op a)|none => .stop
 | .convert s d x=>match litOf (ev x) with|some a=>closedA P (convert s d a)|none => .stop
 | .call c=>match c.callee with
   | .value f=>match litOf (ev f),ev f with
     | some (.func (.func g) a b),_ => .call g (a.toList.map constA++c.args.toList.map ev++b.toList.map constA)
     | none,.fv (.clo g a b) => .call g (a.map caA++c.args.toList.map ev++b.map caA)
     | _,_ => .stop
   | .builtin .len=>match c.argTypes[0]?,c.args.toList with
     | some T,[x]=>match P.underlying T,ev x with
       | some (.slice _),.fv (.sc (.slc _ _ n _)) => .val (.fv (.sc (.lit (.int .i64 n))))
       | _,_ => .stop
     | _,_ => .stop
   | .builtin b=>match litsA (c.args.toList.map ev) with
     | some vs=>match evalP P (builtin b c.argTypes o.type (c.args.map fun | .const _=>true|_=>false) vs.toArray) with
       | some (.value v) => .val (constA v)
       | _ => .stop
     | none => .stop
   | _ => .stop
 | _ => .stop
end Go.Proofs.YtbhcckhbbclemaaGreatDoor.Ab
namespace Go.Proofs.YtbhcckhbbclemaaGreatDoor.Ab
open Go.RowKit
variable {Kc:Value→Bool} {P:Program} {ev:Operand→AV Kc} {bl:List (Option (TypeId×List (Seg Kc)))} {β:List Nat} {w:World} {ρ:Operand→Value} {o:Oper} {x:AV Kc}
def Mem (β:List Nat) (bl:List (Option (TypeId×List (Seg Kc)))) (w:World):Prop :=
 ∀ (k:Nat) T l,bl[k]?=some (some (T,l))→∃ g cs,β[k]?=some g∧w.heap[g]?=some (.cells cs.toArray T (0,0))∧holdsL β l cs w
theorem cells_at {g:Nat} {cs:List Value} {T:TypeId} {fr:Nat×Nat} (h:w.heap[g]?=some (.cells cs.toArray T fr)) (i:Nat):w.cell? ⟨g,i,none⟩=cs[i]?:=by
 unfold World.cell?
 rw [h]
 simp
theorem range_at {g:Nat} {cs:List Value} {T:TypeId} {fr:Nat×Nat} (h:w.heap[g]?=some (.cells cs.toArray T fr)) (off n:Nat):w.rangeAt g off ((cs.drop off).take n):=by
 intro j v hj
 rw [cells_at h]
 rw [List.getElem?_take] at hj
 split at hj
 ·rw [List.getElem?_drop] at hj;exact hj
 ·cases hj
theorem partA_val {T:TypeId} {l:List (Seg Kc)} {off:Nat} (h:partA P T l off = .val x):∃ n m,sizeT P T=some n∧cut l off n=some m∧((rowB P T=some true∧x = .fv (.ag m))∨(rowB P T=some false∧n=1∧∃ s,m = [s]∧x = .fv (.sc s))):=by
 unfold partA at h
 split at h
 ·rename_i n hn
  split at h
  ·rename_i m hm
   split at h
   ·rename_i hr
    injection h with h
    exact ⟨n,_,hn,hm,.inl ⟨hr,h.symm⟩⟩
   ·rename_i s hr
    split at h
    ·rename_i h1
     injection h with h
     exact ⟨n,_,hn,hm,.inr ⟨hr,by simpa using h1,s,rfl,h.symm⟩⟩
    ·cases h
   ·cases h
  ·cases h
 ·cases h
theorem rowB_some {T:TypeId} {b:Bool} (h:rowB P T=some b):∃ d,P.underlying T=some d∧d.isRow=b:=by
 unfold rowB at h
 rw [Option.map_eq_some_iff] at h
 exact h
theorem sizeT_info {T:TypeId} {n:Nat} (h:sizeT P T=some n):∃ i,P.info? T=some i∧i.size=n:=by
 unfold sizeT at h
 rw [Option.map_eq_some_iff] at h
 exact h
theorem run_isAgg {T:TypeId} {d:TypeDesc} (h:P.underlying T=some d) (w:World):(isAgg T).run P w = .ok d.isRow w:=by
 unfold isAgg
 rw [Sem.run_bind,run_underlying h w]
 cases d <;> rfl
theorem run_sizeT {T:TypeId} {n:Nat} (h:sizeT P T=some n) (w:World):(Go.sizeOf T).run P w = .ok n w:=by
 obtain ⟨i,h1,h2⟩:=sizeT_info h
 simp [Go.sizeOf,typeInfo,h1,h2]
theorem holdsL_one {s:Seg Kc} {cs:List Value} (h:holdsL β [s] cs w):s.holds β cs w:=by
 obtain ⟨a,b,e,h1,h2⟩:=h
 rw [show b = [] from h2,List.append_nil] at e
 rw [e];exact h1
theorem take_one {cs:List Value} {off:Nat} (h:off+1≤cs.length):∃ v,(cs.drop off).take 1 = [v]∧cs[off]?=some v:=by
 refine ⟨cs[off],?_,List.getElem?_eq_getElem (by omega)⟩
 rw [List.drop_eq_getElem_cons (by omega)]
 rfl
theorem run_load_part {T T' : TypeId} {l:List (Seg Kc)} {off g:Nat} {cs:List Value} (h:partA P T l off = .val x) (hg:w.heap[g]?=some (.cells cs.toArray T' (0,0))) (hl:holdsL β l cs w) :
 ∃ v,(loadVar T ⟨g,off,none⟩).run P w = .ok v w∧x.holds β v w:=by
 obtain ⟨n,m,hn,hm,hc⟩:=partA_val h
 obtain ⟨h1,h2⟩:=cut_holds hm hl
 rcases hc with ⟨hr,rfl⟩|⟨hr,rfl,s,rfl,rfl⟩
 ·obtain ⟨d,hd,hd2⟩:=rowB_some hr
  obtain ⟨i,hi,hi2⟩:=sizeT_info hn
  refine ⟨_,run_loadVar_mid w g off T ((cs.drop off).take n) d (range_at hg off n) hd hd2 ?_,_,rfl,h1⟩
  rw [hi,Option.map_some,hi2,List.length_take,List.length_drop,Nat.min_eq_left (by omega)]
 ·obtain ⟨d,hd,hd2⟩:=rowB_some hr
  obtain ⟨v,hv,hv2⟩:=take_one h2
  rw [hv] at h1
  refine ⟨v,?_,holdsL_one h1⟩
  unfold loadVar
  rw [Sem.run_bind,run_isAgg hd w,hd2]
  have hcell:w.cell? ⟨g,off,none⟩=some v:=by rw [cells_at hg];exact hv2
  simp [Result.andThen,hcell]
theorem run_part {T:TypeId} {l:List (Seg Kc)} {off:Nat} {cs:List Value} (h:partA P T l off = .val x) (hl:holdsL β l cs w) :
 ∃ v,(part T cs.toArray off).run P w = .ok v w∧x.holds β v w:=by
 obtain ⟨n,m,hn,hm,hc⟩:=partA_val h
 obtain ⟨h1,h2⟩:=cut_holds hm hl
 rcases hc with ⟨hr,rfl⟩|⟨hr,rfl,s,rfl,rfl⟩
 ·obtain ⟨d,hd,hd2⟩:=rowB_some hr
  refine ⟨.agg ((cs.drop off).take n).toArray,?_,_,rfl,h1⟩
  unfold part
  rw [Sem.run_bind,run_isAgg hd w,hd2]
  simp only [Result.andThen,if_true,Sem.run_bind,run_sizeT hn w,Sem.run_pure]
  congr 2
  apply Array.toList_inj.1
  simp [Array.toList_extract]
 ·obtain ⟨d,hd,hd2⟩:=rowB_some hr
  obtain ⟨v,hv,hv2⟩:=take_one h2
  rw [hv] at h1
  refine ⟨v,?_,holdsL_one h1⟩
  unfold part
  rw [Sem.run_bind,run_isAgg hd w,hd2]
  simp [Result.andThen,hv2]
theorem zerosA_run {T:TypeId} {l:List (Seg Kc)} (h:zerosA P T=some l):∃ z,(P.info? T).bind (·.zero)=some z∧(∀ w,(zeroValue T).run P w = .ok z w)∧l=z.cells.toList.map .lit∧z.cells.toList.all (·.oneCell')=true:=by
 unfold zerosA at h
 split at h
 ·rename_i z hz
  split at h
  ·rename_i h1
   injection h with h
   refine ⟨z,hz,fun w=>?_,h.symm,h1⟩
   rw [Option.bind_eq_some_iff] at hz
   obtain ⟨i,hi,hz⟩:=hz
   simp [zeroValue,typeInfo,hi,hz]
  ·cases h
 ·cases h
theorem closedA_val {s:Sem Value} (h:closedA (Kc:=Kc) P s = .val x) (β:List Nat) (w:World):∃ v,s.run P w = .ok v w∧x.holds β v w:=by
 unfold closedA at h
 split at h
 ·rename_i v hv
  injection h with h
  subst h
  exact ⟨v,evalP_run hv w,constA_holds v⟩
 ·cases h
theorem fill_foldl (cs:Array Value) (ds:List Value) (off:Nat) (h:off+ds.length≤cs.size) :
 (ds.toArray.zipIdx.foldl (fun cs (c,j)=>cs.setIfInBounds (off+j) c) cs).toList=cs.toList.take off++ds++cs.toList.drop (off+ds.length):=by
 rw [← Array.foldl_toList]
 have key:∀ (es:List Value) (k:Nat) (a:Array Value),off+k+es.length≤a.size →
  ((es.zipIdx k).foldl (fun cs (c,j)=>cs.setIfInBounds (off+j) c) a).toList=a.toList.take (off+k)++es++a.toList.drop (off+k+es.length):=by
  intro es
  induction es with
  | nil=>intro k a _;simp
  | cons e es ih =>
    intro k a hk
    simp only [List.length_cons] at hk
    rw [List.zipIdx_cons,List.foldl_cons,ih (k+1) _ (by simp;omega)]
    simp only [Array.toList_setIfInBounds,List.length_cons]
    rw [show off+(k+1)=(off+k)+1 from by omega]
    rw [List.take_set,List.drop_set]
    have hlt:off+k<a.toList.length:=by simp;omega
    have hlt2:off+k+1+es.length > off+k:=by omega
    rw [if_pos (by omega)]
    have e1:(a.toList.take (off+k+1)).set (off+k) e=a.toList.take (off+k) ++ [e]:=by
     rw [List.take_succ_eq_append_getElem hlt]
     rw [List.set_append_right _ _ (by simp;omega)]
     simp [Nat.min_eq_left (show off+k≤a.size by omega)]
    rw [e1]
    rw [show off+k+(es.length+1)=off+k+1+es.length from by omega]
    simp
 have:=key ds 0 cs (by simpa using h)
 simpa using this
theorem cells_sc {s:Seg Kc} {v:Value} (h:s.holds β [v] w):v.cells = #[v]:=by
 have:=Seg.one h v (by simp)
 cases v <;> simp_all [Value.cells,Value.oneCell']
theorem fill_step {place:Nat→Option (Nat×Nat)} {cs:Array Value} {i off n:Nat} {v:Value} {rest:List (Nat×Value)} (hp:place i=some (off,n)) (hn:v.cells.size=n) (hle:off+v.cells.size≤cs.size) :
 Instr.fill place cs ((i,v)::rest)=Instr.fill place (v.cells.zipIdx.foldl (fun cs (c,j)=>cs.setIfInBounds (off+j) c) cs) rest:=by
 have h2:(decide (v.cells.size≠n) || decide (off+v.cells.size > cs.size))=false:=by simp;omega
 rw [Instr.fill,hp]
 simp only [h2,Bool.false_eq_true,if_false]
theorem fillA_run {place:Nat→Option (Nat×Nat)}:∀ {parts:List (Nat×Operand)} {l l' : List (Seg Kc)} {cs:Array Value},fillA place (parts.map fun p=>(p.1,ev p.2)) l=some l'→holdsL β l cs.toList w →
 (∀ p∈parts,(ev p.2).holds β (ρ p.2) w)→∃ ds:Array Value,Instr.fill place cs (parts.map fun p=>(p.1,ρ p.2))=some ds∧holdsL β l' ds.toList w
 | [],l,l',cs,h,hl,_=>by injection h with h;subst h;exact ⟨cs,rfl,hl⟩
 | (i, y)::parts,l,l',cs,h,hl,hp=>by
   have hy:=hp (i,y) (by simp)
   have hp' : ∀ p∈parts,(ev p.2).holds β (ρ p.2) w:=fun p hm=>hp p (by simp [hm])
   simp only [List.map_cons,fillA] at h
   simp only at hy
   split at h
   ·rename_i off n s hpl hev
    rw [hev] at hy
    split at h
    ·rename_i hn
     simp only [Bool.and_eq_true,beq_iff_eq] at hn
     rw [Option.bind_eq_some_iff] at h
     obtain ⟨l2,hr,h⟩:=h
     obtain ⟨h1,h2⟩:=repl_holds hr hl (holdsL.single hy)
     have hc:=cells_sc hy
     simp only [List.length_singleton] at h2
     rw [Array.length_toList] at h2
     obtain ⟨ds,hd,hd2⟩:=fillA_run (cs := [ρ y].toArray.zipIdx.foldl (fun cs (c,j)=>cs.setIfInBounds (off+j) c) cs) h (by
      rw [fill_foldl cs [ρ y] off (by simpa using h2)]
      exact h1) hp'
     refine ⟨ds,?_,hd2⟩
     rw [List.map_cons,fill_step hpl (by rw [hc];simp;omega) (by rw [hc];simp;omega),hc]
     exact hd
    ·cases h
   ·rename_i off n m hpl hev
    rw [hev] at hy
    obtain ⟨es,he,hm⟩:=hy
    split at h
    ·rename_i hn
     simp only [beq_iff_eq] at hn
     rw [Option.bind_eq_some_iff] at h
     obtain ⟨l2,hr,h⟩:=h
     obtain ⟨h1,h2⟩:=repl_holds hr hl hm
     have hlen:=holdsL.len hm
     simp only [Array.length_toList] at h2
     obtain ⟨ds,hd,hd2⟩:=fillA_run (cs:=es.toArray.zipIdx.foldl (fun cs (c,j)=>cs.setIfInBounds (off+j) c) cs) h (by
      rw [fill_foldl cs es off (by omega)]
      exact h1) hp'
     refine ⟨ds,?_,hd2⟩
     have hc:(ρ y).cells=es.toArray:=by rw [he];rfl
     rw [List.map_cons,fill_step hpl (by rw [hc];simp;omega) (by rw [hc];simp;omega),hc]
     exact hd
    ·cases h
   ·cases h
end Go.Proofs.YtbhcckhbbclemaaGreatDoor.Ab
