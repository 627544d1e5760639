/- Parts of the proof, joined. -/
import Derived.RangeFuncNested
import Derived.RangeFuncBound
import Derived.RangeFuncCalls
import Derived.RangeFuncLeaves
import Derived.Shelf.Abstract
import Derived.Shelf.RegionOpen
import Derived.WalkKit
import Derived.OwnWalkIn
import Derived.TacticsInMore
import Derived.LoopNIn
import Derived.LoopIn
import Derived.KernelRfl
import Derived.Test.YtjiadfgfnmeabaaGreatDoorProg
import Derived.Test.YtjiadfgfnmeabaaGreatDoorJ5
import Derived.Laws.Tables
import Derived.Laws.CopyOwn
import Derived.Test.YtjiadfgfnmeabaaGreatDoorJ7
import Derived.ProofKit
import Derived.OpenShut
import Derived.Deep.DeepHandedRow
import Derived.Deep.DeepWitnessRowRef
import Derived.Lib.LaidTab
import Derived.Stop.LaidErr
import Derived.Shelf.Vars
import Derived.Lay
import Derived.ChangeArms
set_option maxHeartbeats 4000000
set_option linter.unusedSimpArgs false
set_option linter.unusedVariables false
set_option linter.constructorNameAsVariable false
namespace Go.Proofs.YtjiadfgfnmeabaaGreatDoor
namespace Fr
open Go.RowKit Go.Shelf
attribute [local go_sem] Oper.semAt_some
def axV (x1 x2 x3 y1 y2 y3 z1 z2 z3:ByteArray):Fin 3→Value
 | 0 => .agg #[.string x1,.string x2,.string x3]
 | 1 => .agg #[.string y1,.string y2,.string y3]
 | 2 => .agg #[.string z1,.string z2,.string z3]
def axE (x1 x2 x3 y1 y2 y3 z1 z2 z3:ByteArray) (i:Fin 3):Array Value := #[.int .i64 ((i.val:Nat):Int),axV x1 x2 x3 y1 y2 y3 z1 z2 z3 i]
theorem ix0 (w:World) (x1 x2 x3 y1 y2 y3 z1 z2 z3:ByteArray):(Sem.run Tryz.prog (Instr.index 239 (.agg #[.string x1,.string x2,.string x3,.string y1,.string y2,.string y3,.string z1,.string z2,.string z3]) (.int .i64 0)) w) = .ok (.agg #[.string x1,.string x2,.string x3]) w:=by
 kernel_rfl
theorem ix1 (w:World) (x1 x2 x3 y1 y2 y3 z1 z2 z3:ByteArray):(Sem.run Tryz.prog (Instr.index 239 (.agg #[.string x1,.string x2,.string x3,.string y1,.string y2,.string y3,.string z1,.string z2,.string z3]) (.int .i64 1)) w) = .ok (.agg #[.string y1,.string y2,.string y3]) w:=by
 kernel_rfl
theorem ix2 (w:World) (x1 x2 x3 y1 y2 y3 z1 z2 z3:ByteArray):(Sem.run Tryz.prog (Instr.index 239 (.agg #[.string x1,.string x2,.string x3,.string y1,.string y2,.string y3,.string z1,.string z2,.string z3]) (.int .i64 2)) w) = .ok (.agg #[.string z1,.string z2,.string z3]) w:=by
 kernel_rfl
set_option maxRecDepth 100000 in
theorem axes1_in (F:Fence) (n:Nat) (h8:F.fn 202) (hro:F.round=none) (hn:1≤n) (l Bf n₀:Nat) (o1 o2 o3 x1 x2 x3 y1 y2 y3 z1 z2 z3:ByteArray) (J Jx:List (Fin 3)→World→Prop)
 (hY:∀ pre x W,J pre W→pre.length<3→YieldAt F (n-1) Tryz.prog l (axE x1 x2 x3 y1 y2 y3 z1 z2 z3 x) W fun e W' =>
  (e = .returned (.bool true)∧J (pre ++ [x]) W'∧Below n₀ W W')∨(e = .returned (.bool false)∧Jx (pre ++ [x]) W'))
 (W:World) (hJ:AbidesFrom W.heap.size J) (hn0:n₀≤W.heap.size) (hB:W.heap[Bf]?=some (.cells #[.string o1,.string o2,.string o3,.string x1,.string x2,.string x3,.string y1,.string y2,.string y3,.string z1,.string z2,.string z3] 54 (0,0))) (h0:J [] W) :
 CallsIn F n Tryz.prog 202 #[.func (.yield l) #[] #[],.pointer (some ⟨Bf,0,none⟩)] W fun e W'=>(∃ v,e = .returned v) ∧
  ((∃ ys,ys = [0,1,2]∧J ys W')∨(∃ pre,True∧Jx pre W')):=by
 refine callsIn_of_wp Tryz.func202 rfl h8 ?_ hro
 simp only [Tryz.ntmps202,List.size_toArray,List.length_cons,List.length_nil,Nat.reduceAdd,Nat.reduceSub,Array.replicate_succ,Array.replicate_zero,List.push_toArray,List.append_toArray,List.nil_append,List.cons_append]
 have c3:W.cell? ⟨Bf,3,none⟩=some (.string x1):=by simp [World.cell?,hB]
 have c4:W.cell? ⟨Bf,4,none⟩=some (.string x2):=by simp [World.cell?,hB]
 have c5:W.cell? ⟨Bf,5,none⟩=some (.string x3):=by simp [World.cell?,hB]
 have c6:W.cell? ⟨Bf,6,none⟩=some (.string y1):=by simp [World.cell?,hB]
 have c7:W.cell? ⟨Bf,7,none⟩=some (.string y2):=by simp [World.cell?,hB]
 have c8:W.cell? ⟨Bf,8,none⟩=some (.string y3):=by simp [World.cell?,hB]
 have c9:W.cell? ⟨Bf,9,none⟩=some (.string z1):=by simp [World.cell?,hB]
 have c10:W.cell? ⟨Bf,10,none⟩=some (.string z2):=by simp [World.cell?,hB]
 have c11:W.cell? ⟨Bf,11,none⟩=some (.string z3):=by simp [World.cell?,hB]
 clear hB
 gi_wp2
 gi_loopw [12] (fun i wr=>(i = .int .i64 0∧J [] wr∨i = .int .i64 1∧J [0] wr∨i = .int .i64 2∧J [0,1] wr∨i = .int .i64 3∧J [0,1,2] wr)∧n₀≤wr.heap.size) (fun i _=>3-(intOf i).toNat)
 case atStart=>exact ⟨.inl ⟨rfl,h0⟩,hn0⟩
 case round =>
  obtain ⟨hc,hnr⟩:=hrel
  rcases hc with ⟨rfl,hJs⟩|⟨rfl,hJs⟩|⟨rfl,hJs⟩|⟨rfl,hJs⟩
  ·have hix:=ix0 wr x1 x2 x3 y1 y2 y3 z1 z2 z3
   have hJa:=hJ [] wr (wr.alloc (.cells #[.string x1,.string x2,.string x3] 27)) none hJs (World.grownBy_alloc _ _ none) (fun r e=>by cases e)
   obtain ⟨fn,tmps,assign,body,hy,hR⟩:=hY [] 0 _ hJa (by simp)
   change (Sem.run Tryz.prog (Instr.yield l #[.int .i64 0,.agg #[.string x1,.string x2,.string x3]]) _)=_ at hy
   gi_wp2
   refine hR.mono ?_
   rintro e W3 (⟨rfl,hJ3,hk3⟩|⟨rfl,hJx3⟩)
   ·have hs3:n₀≤W3.heap.size:=by have:=hk3.size;simp at this;omega
    gi_wp2
    go_roundw
    case rel=>exact ⟨.inr (.inl ⟨rfl,hJ3⟩),hs3⟩
    case measure=>simp [intOf]
   ·gi_wp2
    refine bodyPost_ret (results_none rfl _ _ _) rfl ?_
    exact ⟨⟨_,rfl⟩,.inr ⟨_,trivial,hJx3⟩⟩
  ·have hix:=ix1 wr x1 x2 x3 y1 y2 y3 z1 z2 z3
   have hJa:=hJ [0] wr (wr.alloc (.cells #[.string y1,.string y2,.string y3] 27)) none hJs (World.grownBy_alloc _ _ none) (fun r e=>by cases e)
   obtain ⟨fn,tmps,assign,body,hy,hR⟩:=hY [0] 1 _ hJa (by simp)
   change (Sem.run Tryz.prog (Instr.yield l #[.int .i64 1,.agg #[.string y1,.string y2,.string y3]]) _)=_ at hy
   gi_wp2
   refine hR.mono ?_
   rintro e W3 (⟨rfl,hJ3,hk3⟩|⟨rfl,hJx3⟩)
   ·have hs3:n₀≤W3.heap.size:=by have:=hk3.size;simp at this;omega
    gi_wp2
    go_roundw
    case rel=>exact ⟨.inr (.inr (.inl ⟨rfl,hJ3⟩)),hs3⟩
    case measure=>simp [intOf]
   ·gi_wp2
    refine bodyPost_ret (results_none rfl _ _ _) rfl ?_
    exact ⟨⟨_,rfl⟩,.inr ⟨_,trivial,hJx3⟩⟩
  ·have hix:=ix2 wr x1 x2 x3 y1 y2 y3 z1 z2 z3
   have hJa:=hJ [0,1] wr (wr.alloc (.cells #[.string z1,.string z2,.string z3] 27)) none hJs (World.grownBy_alloc _ _ none) (fun r e=>by cases e)
   obtain ⟨fn,tmps,assign,body,hy,hR⟩:=hY [0,1] 2 _ hJa (by simp)
   change (Sem.run Tryz.prog (Instr.yield l #[.int .i64 2,.agg #[.string z1,.string z2,.string z3]]) _)=_ at hy
   gi_wp2
   refine hR.mono ?_
   rintro e W3 (⟨rfl,hJ3,hk3⟩|⟨rfl,hJx3⟩)
   ·have hs3:n₀≤W3.heap.size:=by have:=hk3.size;simp at this;omega
    gi_wp2
    go_roundw
    case rel=>exact ⟨.inr (.inr (.inr ⟨rfl,hJ3⟩)),hs3⟩
    case measure=>simp [intOf]
   ·gi_wp2
    refine bodyPost_ret (results_none rfl _ _ _) rfl ?_
    exact ⟨⟨_,rfl⟩,.inr ⟨_,trivial,hJx3⟩⟩
  ·gi_wp2
   go_end0
   exact ⟨⟨_,rfl⟩,.inl ⟨_,rfl,hJs⟩⟩
theorem axes_stops (F:Fence) (n:Nat) (h8:F.fn 202) (hro:F.round=none) (hn:1≤n) (Bf n₀:Nat) (o1 o2 o3 x1 x2 x3 y1 y2 y3 z1 z2 z3:ByteArray) (w:World) (hn0:n₀≤w.heap.size)
 (hB:w.heap[Bf]?=some (.cells #[.string o1,.string o2,.string o3,.string x1,.string x2,.string x3,.string y1,.string y2,.string y3,.string z1,.string z2,.string z3] 54 (0,0))) :
 SeqStopsK F n Tryz.prog 202 #[.pointer (some ⟨Bf,0,none⟩)] (axE x1 x2 x3 y1 y2 y3 z1 z2 z3) (Below n₀) (fun ys=>ys = [0,1,2]) (fun _=>True) 3 w:=fun l J Jx W hW hJ _ hY h0 =>
 axes1_in F n h8 hro hn l Bf n₀ o1 o2 o3 x1 x2 x3 y1 y2 y3 z1 z2 z3 J Jx hY W hJ (Nat.le_trans hn0 hW.size) ((hW.block Bf (by rcases Nat.lt_or_ge Bf w.heap.size with h|h;exact h;rw [Array.getElem?_eq_none h] at hB;cases hB)).trans hB) h0
theorem axes_any (o1 o2 o3 x1 x2 x3 y1 y2 y3 z1 z2 z3:ByteArray) (w:World):Calls Tryz.prog 141 #[.agg #[.string o1,.string o2,.string o3,.string x1,.string x2,.string x3,.string y1,.string y2,.string y3,.string z1,.string z2,.string z3]] w fun e w' =>
 e = .returned (.func (.func 202) #[] #[.pointer (some ⟨w.heap.size,0,none⟩)])∧w'=w.alloc (.cells #[.string o1,.string o2,.string o3,.string x1,.string x2,.string x3,.string y1,.string y2,.string y3,.string z1,.string z2,.string z3] 54 (0,0)):=by
 refine (callsIn_wide (n:=3)).1 ?_
 refine callsIn_of_wp Tryz.func141 rfl trivial ?_ rfl
 simp only [Tryz.ntmps141,List.size_toArray,List.length_cons,List.length_nil,Nat.reduceAdd,Nat.reduceSub,Array.replicate_succ,Array.replicate_zero,List.push_toArray,List.append_toArray,List.nil_append,List.cons_append]
 gi_wp2
 refine bodyPost_ret (results_tmp rfl _ _ _) rfl ?_
 exact ⟨rfl,rfl⟩
end Fr
namespace Fr
open Go.RowKit Go.Shelf Ab Pl
structure C9 where
 n1:Int
 d1:Int
 p1:Option Addr
 n2:Int
 d2:Int
 p2:Option Addr
 n3:Int
 d3:Int
 p3:Option Addr
def C9.cells (k:C9):List Value := [.int .i64 k.n1,.int .i64 k.d1,.pointer k.p1,.int .i64 k.n2,.int .i64 k.d2,.pointer k.p2,.int .i64 k.n3,.int .i64 k.d3,.pointer k.p3]
def C9.val (k:C9):Value := .agg #[.int .i64 k.n1,.int .i64 k.d1,.pointer k.p1,.int .i64 k.n2,.int .i64 k.d2,.pointer k.p2,.int .i64 k.n3,.int .i64 k.d3,.pointer k.p3]
def C9.zero:C9:=⟨0,0,none,0,0,none,0,0,none⟩
theorem vc9 {w:World} {v:Value} {a b c:Rat} (h:Vc w v a b c):∃ k:C9,v=k.val∧Vc w k.val a b c:=by
 obtain ⟨n1,d1,p1,n2,d2,p2,n3,d3,p3,rfl,h1,h2,h3⟩:=h
 exact ⟨⟨n1,d1,p1,n2,d2,p2,n3,d3,p3⟩,rfl,n1,d1,p1,n2,d2,p2,n3,d3,p3,rfl,h1,h2,h3⟩
theorem tC {β:List Nat} {w:World} {k:C9} {a b c:Rat} (h:Vc w k.val a b c):holdsL β [nb a,nb b,nb c] k.cells w:=by
 obtain ⟨cs,e,hl⟩:=(xZ (β:=β)).2 h
 injection e with e
 have e:=congrArg Array.toList e
 have e:k.cells=cs:=e
 rw [e]
 exact hl
def fO (o x y z:C9):List Value:=o.cells++x.cells++y.cells++z.cells
theorem lC {a b c:Rat} (h:iF a b c) (w:World) (hG:Gl w):Calls Tryz.prog 33 #[.agg #[.string (writeB a),.string (writeB b),.string (writeB c)]] w fun e w' => ∃ k:C9,e = .returned (.tuple #[k.val,.int .i64 0])∧Vc w' k.val a b c∧Below w.heap.size w w':=by
 refine (fM h [] w [.agg #[.string (writeB a),.string (writeB b),.string (writeB c)]] hG ⟨_,_,rfl,⟨[.string (writeB a),.string (writeB b),.string (writeB c)],rfl,[.string (writeB a)],_,rfl,rfl,[.string (writeB b)],_,rfl,rfl,[.string (writeB c)],_,rfl,rfl,rfl⟩,rfl⟩).mono ?_
 rintro e w' ⟨v,e1,e2,vs,rfl,u,r,rfl,h1,u2,r2,rfl,h2,h3⟩
 obtain ⟨k,rfl,h4⟩:=vc9 (xZ.1 h1)
 have h5:[u2] = [.int .i64 0]:=h2.1
 injection h5 with h5
 rw [show r2 = [] from h3,h5] at e1
 exact ⟨k,e1,h4,e2⟩
section
variable {o1 o2 o3 x1 x2 x3 y1 y2 y3 z1 z2 z3:Rat}
theorem fr_holds {β:List Nat} {w:World} {o x y z:C9} (ho:Vc w o.val o1 o2 o3) (hx:Vc w x.val x1 x2 x3) (hy:Vc w y.val y1 y2 y3) (hz:Vc w z.val z1 z2 z3) :
 (qW o1 o2 o3 x1 x2 x3 y1 y2 y3 z1 z2 z3).holds β (.agg (fO o x y z).toArray) w :=
 ⟨fO o x y z,rfl,(((tC ho).append (tC hx)).append (tC hy)).append (tC hz)⟩
theorem check_any {w:World} {o x y z:C9} (ho:Vc w o.val o1 o2 o3) (hx:Vc w x.val x1 x2 x3) (hy:Vc w y.val y1 y2 y3) (hz:Vc w z.val z1 z2 z3) (l:Lm 25 x1 x2 x3 y1 y2 y3 z1 z2 z3) (h:Ax x1 x2 x3 y1 y2 y3 z1 z2 z3) :
 Calls Tryz.prog 142 #[.agg (fO o x y z).toArray] w fun e w'=>e = .returned (.int .i64 0)∧Below w.heap.size w w':=by
 refine (checkF (o1:=o1) (o2:=o2) (o3:=o3) l h [] w [.agg (fO o x y z).toArray] ⟨_,_,rfl,fr_holds ho hx hy hz,rfl⟩).mono ?_
 rintro e w' ⟨v,e1,e2,h1⟩
 have h5:[v] = [.int .i64 0]:=h1.1
 injection h5 with h5
 exact ⟨by rw [e1,h5],e2⟩
end
attribute [local go_sem] Oper.semAt_some
theorem zM {P:Program} {ops:Array Oper} {rest:List Oper} {o:Oper} {a:Act} {w:World} {Q:Exit→Act→World→Prop} (hg:o.guard=none) (t:TypeId) (parts:Array (Nat×Operand)) (ho:o.op = .build t parts) (cs:Array Value)
 (hb:P.built t (parts.map fun (i,x)=>(i,a.eval x)).toList=some cs) (h:wpList P ops Q rest (a.put o.dst (.agg cs)) w):wpList P ops Q (o::rest) a w :=
 wpList_build hg t parts ho (by rw [hb];rfl) (by rw [hb];exact h)
theorem store_new3 {P:Program} {ops:Array Oper} {rest:List Oper} {o:Oper} {a:Act} {Q:Exit→Act→World→Prop} (hgd:o.guard=none) (ty:TypeId) (x y:Operand) (ho:o.op = .store ty x y) (w1:World) (A B:Obj) (old cells:Array Value)
 (hx:a.eval x = .pointer (some ⟨w1.heap.size+1+1,0,none⟩)) (hy:a.eval y = .agg cells) (hi:(P.info? ty).map (·.size)=some cells.size) (hold:old.size=cells.size) (h1:cells.all (·.oneCell')=true)
 (h:∀ W3:World,W3.heap.size=w1.heap.size+3→Below w1.heap.size w1 W3→W3.heap[w1.heap.size]?=some A→W3.heap[w1.heap.size+1]?=some B→W3.heap[w1.heap.size+2]?=some (.cells cells ty (0,0))→wpList P ops Q rest (a.put o.dst undef) W3) :
 wpList P ops Q (o::rest) a (((w1.alloc A).alloc B).alloc (.cells old ty (0,0))):=by
 have hg:(((w1.alloc A).alloc B).alloc (.cells old ty (0,0))).heap[w1.heap.size+1+1]?=some (.cells old ty (0,0)):=by
  have:=World.alloc_heap_new ((w1.alloc A).alloc B) (.cells old ty (0,0))
  rwa [World.size_alloc,World.size_alloc] at this
 refine wpList_store_row hgd ty x y ho (w1.heap.size+1+1) cells hx hy ty old hg hi hold h1 (h _ (by rw [setRow_size];simp) ?_ ?_ ?_ (setRow_heap _ _ _ _ _ _ hg))
 ·exact below_setRow ((((aB _ w1).alloc (aR _) _).alloc (by simp) _).alloc (by simp;omega) _) (by omega) _
 ·rw [setRow_other _ _ _ _ (by omega)]
  exact (Below.heap_alloc _ _ _ (by simp;omega)).trans ((Below.heap_alloc _ _ _ (by simp)).trans (World.alloc_heap_new w1 A))
 ·rw [setRow_other _ _ _ _ (by omega)]
  refine (Below.heap_alloc _ _ _ (by simp)).trans ?_
  have:=World.alloc_heap_new (w1.alloc A) B
  rwa [World.size_alloc] at this
structure Stopped (p:Prop):Prop where
 out:p
theorem stop_store {P:Program} {ops:Array Oper} {rest:List Oper} {o:Oper} {a:Act} {w:World} {Q:Exit→Act→World→Prop} (ty:TypeId) (x y:Operand) (ho:o.op = .store ty x y) (h:Stopped (wpList P ops Q (o::rest) a w)):wpList P ops Q (o::rest) a w:=h.out
theorem uO {W W' : World} {row:Option Nat} (hg:W.grownBy W' row) (hrow:∀ r,row=some r→∃ o:Obj,W.heap[r]?=some o∧o.isCells=false):Go.Proofs.YtjiadfgfnmeabaaGreatDoor.Ext Kn W W':=by
 refine ⟨hg.size,fun g o h ho=>?_⟩
 have hc:o.isCells=true:=by cases o <;> first|rfl|(simp [Go.Proofs.YtjiadfgfnmeabaaGreatDoor.hotObj] at ho)
 exact (grownBy_keeps_cells hg hrow h hc).trans h
theorem Vc.kext {w w' : World} {v:Value} {a b c:Rat} (h:Vc w v a b c) (hx:Go.Proofs.YtjiadfgfnmeabaaGreatDoor.Ext Kn w w'):Vc w' v a b c:=h.ext (fun _=>rfl) (fun _=>rfl) hx
theorem load_all {P:Program} {ρ:Operand→Value} {o:Oper} {w:World} {T T' : TypeId} {x:Operand} {g:Nat} {cs:List Value} {d:TypeDesc} (ho:o.op = .load T x) (hx:ρ x = .pointer (some ⟨g,0,none⟩)) (hg:w.heap[g]?=some (.cells cs.toArray T' (0,0)))
 (hd:P.underlying T=some d) (hr:d.isRow=true) (hi:(P.info? T).map (·.size)=some cs.length):(execOp ρ o).run P w = .ok (.value (.agg cs.toArray)) w:=by
 have h:=run_loadVar_mid w g 0 T ((cs.drop 0).take cs.length) d (rW hg 0 cs.length) hd hr (by rw [hi,List.drop_zero,List.take_length])
 rw [List.drop_zero,List.take_length] at h
 simp only [execOp,ho,Instr.loadAt,hx,Instr.sureAddr]
 exact bI (by simpa [Sem.run_bind] using h)
theorem frL_one (o x y z:C9):∀ c∈fO o x y z,c.oneCell'=true:=by
 have h:(fO o x y z).all (·.oneCell')=true:=rfl
 exact fun c hc=>List.all_eq_true.1 h c hc
theorem fin3:∀ x:Fin 3,x=0∨x=1∨x=2:=by decide
theorem tD {w:World} {b i:Nat} {v:Value} (hlt:b<w.heap.size) (h:w.cell? ⟨b,i,none⟩=some v) (o:Obj):(w.alloc o).cell? ⟨b,i,none⟩=some v :=
 (((aB _ w).alloc (aR _) o).cell (p:=⟨b,i,none⟩) hlt).trans h
theorem gO {w:World} {b i:Nat} {cs:Array Value} {t:TypeId} (hlt:b<w.heap.size) (h:w.heap[b]?=some (.cells cs t (0,0))) (o:Obj):(w.alloc o).frozen? ⟨b,i,none⟩=false :=
 aY ((((aB _ w).alloc (aR _) o).block b hlt).trans h) i
theorem tE {n g:Nat} {o:Obj} {A X Y:World} (hb:Below n A X) (h:Turned g o X Y) (hn:n≤g):Below n A Y :=
 ⟨h.os.trans hb.os,h.tape.trans hb.tape,h.output.trans hb.output,by rw [h.size];exact hb.size,fun k hk=>(h.block k (by omega)).trans (hb.block k hk)⟩
theorem tF {g S:Nat} {o o0:Obj} {X Y:World} (h:Turned g o X Y) (h0:X.heap[g]?=some o0) (hc:o0.isCells=true):KeepsFrom S X Y:=by
 refine ⟨by rw [h.size];exact aR _,fun k o' _ hk ho=>?_⟩
 have:k≠g:=by
  rintro rfl
  rw [h0] at hk
  injection hk with hk
  rw [hk,ho] at hc
  cases hc
 exact (h.block k this).trans hk
theorem fP {S:Nat} {W W' : World} (h:Below W.heap.size W W'):KeepsFrom S W W':=⟨h.size,fun k o _ hk _=>(h.block k (Array.getElem?_eq_some_iff.1 hk).1).trans hk⟩
section
variable {w:World} {k:C9} {B E R:Nat} {o1 o2 o3 x1 x2 x3 y1 y2 y3 z1 z2 z3:Rat}
theorem mQ (o x y z:C9) (T:TypeId):Go.Proofs.YtjiadfgfnmeabaaGreatDoor.hotObj Kn (.cells (fO o x y z).toArray T (0,0))=false:=by simp [Go.Proofs.YtjiadfgfnmeabaaGreatDoor.hotObj,fO,C9.cells,Kn]
theorem turn9 {w:World} {B:Nat} {T:TypeId} {cs cs' : Array Value} (off:Nat) (h:w.heap[B]?=some (.cells cs T (0,0))) (u0 u1 u2 u3 u4 u5 u6 u7 u8:Value)
 (e:((((((((cs.setIfInBounds off u0).setIfInBounds (off+1) u1).setIfInBounds (off+2) u2).setIfInBounds (off+3) u3).setIfInBounds (off+4) u4).setIfInBounds (off+5) u5).setIfInBounds (off+6) u6).setIfInBounds (off+7) u7).setIfInBounds (off+8) u8=cs') :
 Turned B (.cells cs' T (0,0)) w (((((((((w.setCell ⟨B,off,none⟩ u0).setCell ⟨B,off+1,none⟩ u1).setCell ⟨B,off+2,none⟩ u2).setCell ⟨B,off+3,none⟩ u3).setCell ⟨B,off+4,none⟩ u4).setCell ⟨B,off+5,none⟩ u5).setCell ⟨B,off+6,none⟩ u6).setCell ⟨B,off+7,none⟩ u7).setCell ⟨B,off+8,none⟩ u8):=by
 subst e
 have t0:=cV (i:=off) h u0
 have t1:=t0.trans (cV (i:=off+1) t0.at_ u1)
 have t2:=t1.trans (cV (i:=off+2) t1.at_ u2)
 have t3:=t2.trans (cV (i:=off+3) t2.at_ u3)
 have t4:=t3.trans (cV (i:=off+4) t3.at_ u4)
 have t5:=t4.trans (cV (i:=off+5) t4.at_ u5)
 have t6:=t5.trans (cV (i:=off+6) t5.at_ u6)
 have t7:=t6.trans (cV (i:=off+7) t6.at_ u7)
 exact t7.trans (cV (i:=off+8) t7.at_ u8)
end
end Fr
namespace Fr
open Go.RowKit Go.Shelf Ab Pl
attribute [local go_sem] Oper.semAt_some
def m9 (m:C9):Obj := .cells #[.int .i64 m.n1,.int .i64 m.d1,.pointer m.p1,.int .i64 m.n2,.int .i64 m.d2,.pointer m.p2,.int .i64 m.n3,.int .i64 m.d3,.pointer m.p3] 69 (0,0)
def st9 (X:World) (B a b c d e f g h i:Nat) (m:C9):World:=((((((((X.setCell ⟨B,a,none⟩ (.int .i64 m.n1)).setCell ⟨B,b,none⟩ (.int .i64 m.d1)).setCell ⟨B,c,none⟩ (.pointer m.p1)).setCell ⟨B,d,none⟩ (.int .i64 m.n2)).setCell ⟨B,e,none⟩ (.int .i64 m.d2)).setCell ⟨B,f,none⟩ (.pointer m.p2)).setCell ⟨B,g,none⟩ (.int .i64 m.n3)).setCell ⟨B,h,none⟩ (.int .i64 m.d3)).setCell ⟨B,i,none⟩ (.pointer m.p3)
abbrev N9 (cs:Array Value) (t:C9) (a b c d e f g h i:Nat):Prop:=cs[a]?=some (.int .i64 t.n1)∧cs[b]?=some (.int .i64 t.d1)∧cs[c]?=some (.pointer t.p1)∧cs[d]?=some (.int .i64 t.n2)∧cs[e]?=some (.int .i64 t.d2)∧cs[f]?=some (.pointer t.p2)∧cs[g]?=some (.int .i64 t.n3)∧cs[h]?=some (.int .i64 t.d3)∧cs[i]?=some (.pointer t.p3)
theorem up9 {w:World} {B a b c d e f g h i:Nat} {cs:Array Value} {T:TypeId} (t:C9) (hlt:B<w.heap.size) (hb:w.heap[B]?=some (.cells cs T (0,0))) (hc:N9 cs t a b c d e f g h i):(∀ o,(w.alloc o).cell? ⟨B,a,none⟩=some (.int .i64 t.n1))∧(∀ o,(w.alloc o).frozen? ⟨B,a,none⟩=false)∧(∀ o,(w.alloc o).cell? ⟨B,b,none⟩=some (.int .i64 t.d1))∧(∀ o,(w.alloc o).frozen? ⟨B,b,none⟩=false)∧(∀ o,(w.alloc o).cell? ⟨B,c,none⟩=some (.pointer t.p1))∧(∀ o,(w.alloc o).frozen? ⟨B,c,none⟩=false)∧(∀ o,(w.alloc o).cell? ⟨B,d,none⟩=some (.int .i64 t.n2))∧(∀ o,(w.alloc o).frozen? ⟨B,d,none⟩=false)∧(∀ o,(w.alloc o).cell? ⟨B,e,none⟩=some (.int .i64 t.d2))∧(∀ o,(w.alloc o).frozen? ⟨B,e,none⟩=false)∧(∀ o,(w.alloc o).cell? ⟨B,f,none⟩=some (.pointer t.p2))∧(∀ o,(w.alloc o).frozen? ⟨B,f,none⟩=false)∧(∀ o,(w.alloc o).cell? ⟨B,g,none⟩=some (.int .i64 t.n3))∧(∀ o,(w.alloc o).frozen? ⟨B,g,none⟩=false)∧(∀ o,(w.alloc o).cell? ⟨B,h,none⟩=some (.int .i64 t.d3))∧(∀ o,(w.alloc o).frozen? ⟨B,h,none⟩=false)∧(∀ o,(w.alloc o).cell? ⟨B,i,none⟩=some (.pointer t.p3))∧(∀ o,(w.alloc o).frozen? ⟨B,i,none⟩=false):=by
 obtain ⟨c0,c1,c2,c3,c4,c5,c6,c7,c8⟩:=hc
 have k:∀ {j:Nat} {v:Value},cs[j]?=some v→∀ o,(w.alloc o).cell? ⟨B,j,none⟩=some v:=fun hj=>tD hlt (by simp [World.cell?,hb,hj])
 exact ⟨k c0,gO hlt hb,k c1,gO hlt hb,k c2,gO hlt hb,k c3,gO hlt hb,k c4,gO hlt hb,k c5,gO hlt hb,k c6,gO hlt hb,k c7,gO hlt hb,k c8,gO hlt hb⟩
def RV (a b c:Rat) (z:Int) (W:World) (e:Ending) (w' : World):Prop := ∃ k:C9,e = .returned (.tuple #[k.val,.int .i64 z])∧Vc w' k.val a b c∧Below W.heap.size W w'
theorem rN {x y z:Int} (hx:Ev x) (hy:Ev y) (hz:f2 x y=z) (w:World) (g:Nat) (T:TypeId) (hh:w.heap[g]?=some (.cells #[.int .i64 x,.int .i64 y] T (0,0))):Calls Tryz.prog 34 #[.slice (some ⟨g,0,none⟩) 2 2] w fun e w'=>e = .returned (.int .i64 z)∧Below w.heap.size w w':=by
 refine (first2Any (T:=T) hx hy hz [] w [.slice (some ⟨g,0,none⟩) 2 2] ⟨_,_,rfl,⟨g,[.int .i64 x,.int .i64 y],rfl,hh,[.int .i64 x],_,rfl,⟨rfl,rfl⟩,[.int .i64 y],_,rfl,⟨rfl,rfl⟩,rfl⟩,rfl⟩).mono ?_
 rintro e w' ⟨v,e1,e2,h1⟩
 have h5:[v] = [.int .i64 z]:=h1.1
 injection h5 with h5
 exact ⟨by rw [e1,h5],e2⟩
def InvE (ev:List (Fin 3)→Int) (w:World) (k:C9) (B E R:Nat) (o1 o2 o3 x1 x2 x3 y1 y2 y3 z1 z2 z3:Rat) (pre:List (Fin 3)) (W:World):Prop :=
 ∃ x y z:C9,W.heap[B]?=some (.cells (fO k x y z).toArray 116 (0,0))∧((0:Fin 3)∈pre→Vc W x.val x1 x2 x3)∧((1:Fin 3)∈pre→Vc W y.val y1 y2 y3)∧((2:Fin 3)∈pre→Vc W z.val z1 z2 z3) ∧
   W.heap[E]?=some (.cells #[.int .i64 (ev pre)] 30 (0,0))∧W.heap[R]?=some (.cells (fO C9.zero C9.zero C9.zero C9.zero).toArray 116 (0,0))∧Vc W k.val o1 o2 o3∧Below w.heap.size w W
section
variable {w:World} {k:C9} {B E R:Nat} {o1 o2 o3 x1 x2 x3 y1 y2 y3 z1 z2 z3:Rat}
theorem oY {u v:Int} {W w2 X1 w5:World} {a b c a' b' c' : C9} {o9 o2:Obj} {S n:Nat} (hbl:Below W.heap.size W w2) (hB:W.heap[B]?=some (.cells (fO k a b c).toArray 116 (0,0))) (hE:W.heap[E]?=some (.cells #[.int .i64 u] 30 (0,0))) (hEB:¬ E=B)
 (hT:Turned B (.cells (fO k a' b' c').toArray 116 (0,0)) (w2.alloc o9) X1) (h5:Below (X1.alloc o2).heap.size (X1.alloc o2) w5) (hn:n≤W.heap.size) (hnB:n≤B) (hnE:n≤E) :
 (w5.setCell ⟨E,0,none⟩ (.int .i64 v)).heap[B]?=some (.cells (fO k a' b' c').toArray 116 (0,0))∧(w5.setCell ⟨E,0,none⟩ (.int .i64 v)).heap[E]?=some (.cells #[.int .i64 v] 30 (0,0)) ∧
 (∀ g,g<W.heap.size→¬ g=B→¬ g=E→(w5.setCell ⟨E,0,none⟩ (.int .i64 v)).heap[g]?=W.heap[g]?)∧Go.Proofs.YtjiadfgfnmeabaaGreatDoor.Ext Kn w2 (w5.setCell ⟨E,0,none⟩ (.int .i64 v))∧Go.Proofs.YtjiadfgfnmeabaaGreatDoor.Ext Kn W w2∧KeepsFrom S W (w5.setCell ⟨E,0,none⟩ (.int .i64 v))∧Below n W (w5.setCell ⟨E,0,none⟩ (.int .i64 v)):=by
 have hBlt:=(Array.getElem?_eq_some_iff.1 hB).1
 have hElt:=(Array.getElem?_eq_some_iff.1 hE).1
 have hs2:=hbl.size
 have ba:Below w2.heap.size w2 (w2.alloc o9):=(aB _ _).alloc (aR _) _
 have sa:(w2.alloc o9).heap.size=w2.heap.size+1:=by simp
 have hBa:(w2.alloc o9).heap[B]?=some (.cells (fO k a b c).toArray 116 (0,0)):=(ba.block B (by omega)).trans ((hbl.block B hBlt).trans hB)
 have sx:X1.heap.size=w2.heap.size+1:=hT.size.trans sa
 have bb:Below X1.heap.size X1 (X1.alloc o2):=(aB _ _).alloc (aR _) _
 have sb:(X1.alloc o2).heap.size=w2.heap.size+2:=by simp [sx]
 have hs5:=h5.size
 have keep:∀ g,g<W.heap.size→¬ g=B→w5.heap[g]?=W.heap[g]?:=fun g hg hne=>(h5.block g (by omega)).trans ((bb.block g (by omega)).trans ((hT.block g hne).trans ((ba.block g (by omega)).trans (hbl.block g hg))))
 have hE5:w5.heap[E]?=some (.cells #[.int .i64 u] 30 (0,0)):=(keep E hElt hEB).trans hE
 have hTE:Turned E (.cells #[.int .i64 v] 30 (0,0)) w5 (w5.setCell ⟨E,0,none⟩ (.int .i64 v)):=cV (i:=0) hE5 (.int .i64 v)
 have hB5:w5.heap[B]?=some (.cells (fO k a' b' c').toArray 116 (0,0)):=(h5.block B (by omega)).trans ((bb.block B (by omega)).trans hT.at_)
 have bn:Below n W w5:=(tE ((hbl.mono hn).trans (ba.mono (by omega))) hT hnB).trans ((bb.mono (by omega)).trans (h5.mono (by omega)))
 refine ⟨(hTE.block B (fun e=>hEB e.symm)).trans hB5,hTE.at_,fun g hg h1 h2=>(hTE.block g h2).trans (keep g hg h1),?_,Go.Proofs.YtjiadfgfnmeabaaGreatDoor.Ext.of_below hbl,?_,tE bn hTE hnE⟩
 ·exact (Go.Proofs.YtjiadfgfnmeabaaGreatDoor.Ext.of_below ba).trans ((hT.ext hBa (mQ _ _ _ _ _)).trans ((Go.Proofs.YtjiadfgfnmeabaaGreatDoor.Ext.of_below bb).trans ((Go.Proofs.YtjiadfgfnmeabaaGreatDoor.Ext.of_below h5).trans (hTE.ext hE5 (by simp [Go.Proofs.YtjiadfgfnmeabaaGreatDoor.hotObj,Kn])))))
 ·exact (fP hbl).trans ((fP ba).trans ((tF hT hBa rfl).trans ((fP bb).trans ((fP h5).trans (tF hTE hE5 rfl)))))
theorem tG {ev:List (Fin 3)→Int} {S:Nat} (hS:w.heap.size≤S):OwnFrom S (InvE ev w k B E R o1 o2 o3 x1 x2 x3 y1 y2 y3 z1 z2 z3):=by
 rintro pre W W' row ⟨x,y,z,hB,v0,v1,v2,hE,hR,hk,hb⟩ hg hr
 have hr' : ∀ r,row=some r→∃ o:Obj,W.heap[r]?=some o∧o.isCells=false:=fun r e=>(hr r e).2
 have hx:=uO hg hr'
 refine ⟨x,y,z,(grownBy_keeps_cells hg hr' hB rfl).trans hB,fun h=>Vc.kext (v0 h) hx,fun h=>Vc.kext (v1 h) hx,fun h=>Vc.kext (v2 h) hx,(grownBy_keeps_cells hg hr' hE rfl).trans hE,(grownBy_keeps_cells hg hr' hR rfl).trans hR,Vc.kext hk hx,?_⟩
 exact hb.grown hg hb.size (fun k e=>Nat.le_trans hS (hr k e).1)
end
set_option maxRecDepth 100000 in
theorem zN (a1 a2 a3 b1 b2 b3 c1 c2 c3 d1 d2 d3:ByteArray) (o1 o2 o3 x1 x2 x3 y1 y2 y3 z1 z2 z3:Rat) (eo ex ey ez zq zc:Int) (heo:Ev eo) (hex:Ev ex) (hey:Ev ey) (hez:Ev ez) (hZ:f2 (f2 (f2 eo ex) ey) ez=zq)
 (cO' : ∀ W,Gl W→Calls Tryz.prog 33 #[.agg #[.string a1,.string a2,.string a3]] W (RV o1 o2 o3 eo W)) (cX' : ∀ W,Gl W→Calls Tryz.prog 33 #[.agg #[.string b1,.string b2,.string b3]] W (RV x1 x2 x3 ex W))
 (cY' : ∀ W,Gl W→Calls Tryz.prog 33 #[.agg #[.string c1,.string c2,.string c3]] W (RV y1 y2 y3 ey W)) (cZ' : ∀ W,Gl W→Calls Tryz.prog 33 #[.agg #[.string d1,.string d2,.string d3]] W (RV z1 z2 z3 ez W))
 (hC:zq=0→∀ (W:World) (o x y z:C9),Vc W o.val o1 o2 o3→Vc W x.val x1 x2 x3→Vc W y.val y1 y2 y3→Vc W z.val z1 z2 z3→Calls Tryz.prog 142 #[.agg (fO o x y z).toArray] W fun e w'=>e = .returned (.int .i64 zc)∧Below W.heap.size W w') (w:World) (hG:Gl w) :
 Calls Tryz.prog 74 #[.agg #[.string a1,.string a2,.string a3,.string b1,.string b2,.string b3,.string c1,.string c2,.string c3,.string d1,.string d2,.string d3]] w fun e w' => ∃ o x y z:C9,e = .returned (.tuple #[.agg (if zq=0 then fO o x y z else fO C9.zero C9.zero C9.zero C9.zero).toArray,.int .i64 (if zq=0 then zc else zq)])∧Vc w' o.val o1 o2 o3∧Vc w' x.val x1 x2 x3∧Vc w' y.val y1 y2 y3∧Vc w' z.val z1 z2 z3∧Below w.heap.size w w':=by
 have cO:=aH cO'
 have cX:=aH cX'
 have cY:=aH cY'
 have cZ:=aH cZ'
 have HC:=aH hC
 clear cO' cX' cY' cZ' hC
 obtain ⟨ev,hevd⟩:∃ ev:List (Fin 3)→Int,ev=fun pre=>pre.foldl (fun e i=>f2 e (if i=0 then ex else if i=1 then ey else ez)) eo:=⟨_,rfl⟩
 have ev0:ev []=eo:=by rw [hevd];rfl
 have evs:∀ (pre:List (Fin 3)) (i:Fin 3),ev (pre ++ [i])=f2 (ev pre) (if i=0 then ex else if i=1 then ey else ez):=fun pre i=>by rw [hevd];simp [List.foldl_append]
 have ev3:ev [0,1,2]=zq:=by rw [hevd,← hZ];rfl
 have hev:∀ pre,Ev (ev pre):=fun pre=>by
  rw [hevd]
  show Ev (pre.foldl _ eo)
  revert heo
  generalize eo=e0
  induction pre generalizing e0 with
  | nil=>exact fun h=>h
  | cons i l ih =>
    intro h
    refine ih _ (f2_ev h ?_)
    split
    ·exact hex
    ·split <;> assumption
 have p0:∀ pre,ev (pre ++ [0])=f2 (ev pre) ex:=fun pre=>evs pre 0
 have p1:∀ pre,ev (pre ++ [1])=f2 (ev pre) ey:=fun pre=>evs pre 1
 have p2:∀ pre,ev (pre ++ [2])=f2 (ev pre) ez:=fun pre=>evs pre 2
 clear hevd hZ evs
 refine (callsIn_wide (n:=6)).1 ?_
 refine callsIn_of_wp_marks Tryz.func74 rfl trivial ?_ rfl
 simp only [Tryz.ntmps74,List.size_toArray,List.length_cons,List.length_nil,Nat.reduceAdd,Nat.reduceSub,Array.replicate_succ,Array.replicate_zero,List.push_toArray,List.append_toArray,List.nil_append,List.cons_append]
 refine wpIn_wide.2 ?_
 go_wp2_with fail
 obtain ⟨Z,hZ⟩:∃ Z:Array Value,Z=(fO C9.zero C9.zero C9.zero C9.zero).toArray:=⟨_,rfl⟩
 have hW1:∃ W1,W1=(w.alloc (.cells #[.string a1,.string a2,.string a3,.string b1,.string b2,.string b3,.string c1,.string c2,.string c3,.string d1,.string d2,.string d3] 54 (0,0))).alloc (.cells Z 116 (0,0)):=⟨_,rfl⟩
 obtain ⟨W1,hW1⟩:=hW1
 change Calls _ _ _ ((w.alloc (.cells #[.string a1,.string a2,.string a3,.string b1,.string b2,.string b3,.string c1,.string c2,.string c3,.string d1,.string d2,.string d3] 54 (0,0))).alloc (.cells (fO C9.zero C9.zero C9.zero C9.zero).toArray 116 (0,0))) _
 rw [← hZ,← hW1]
 have hs1:W1.heap.size=w.heap.size+2:=by rw [hW1];simp
 have hb1:Below w.heap.size w W1:=by rw [hW1];exact ((aB _ w).alloc (aR _) _).alloc (by simp) _
 have hf1:W1.heap[w.heap.size]?=some (.cells #[.string a1,.string a2,.string a3,.string b1,.string b2,.string b3,.string c1,.string c2,.string c3,.string d1,.string d2,.string d3] 54 (0,0)):=by rw [hW1];exact (Below.heap_alloc _ _ _ (by simp)).trans (World.alloc_heap_new w _)
 have hr1:W1.heap[w.heap.size+1]?=some (.cells Z 116 (0,0)):=by rw [hW1];have:=World.alloc_heap_new (w.alloc (.cells #[.string a1,.string a2,.string a3,.string b1,.string b2,.string b3,.string c1,.string c2,.string c3,.string d1,.string d2,.string d3] 54 (0,0))) (.cells Z 116 (0,0));rwa [World.size_alloc] at this
 clear hW1
 refine (cO.out W1 (hG.below hb1)).mono ?_
 rintro e w1 ⟨k,rfl,hk,hb⟩
 have hs2:=hb.size
 have hf2:=(hb.block w.heap.size (by omega)).trans hf1
 have hr2:=(hb.block (w.heap.size+1) (by omega)).trans hr1
 have hb2:=hb1.trans (hb.mono (by omega))
 clear hf1 hr1 hb1 hb
 simp only [C9.val]
 have HID:=aH (aI hf2 (aI hr2 (aI hb2 hk)))
 clear hf2 hr2 hb2 hk
 have HZ:=aH hZ
 clear hZ
 go_wp2_with (first|(refine zM rfl 116 _ rfl (fO k C9.zero C9.zero C9.zero).toArray (by kernel_rfl) ?_)|(refine stop_store 116 _ _ rfl ?_))
 refine ⟨store_new3 rfl 116 _ _ rfl w1 _ _ _ (fO k C9.zero C9.zero C9.zero).toArray rfl rfl (by kernel_rfl) (by kernel_rfl) (by kernel_rfl) ?_⟩
 intro W3 g1 g2 g3 g4 g5
 have hf3:=(g2.block w.heap.size (by omega)).trans HID.out.1
 have f0:W3.cell? ⟨w.heap.size,0,none⟩=some (.string a1):=by simp [World.cell?,hf3]
 have f1:W3.cell? ⟨w.heap.size,1,none⟩=some (.string a2):=by simp [World.cell?,hf3]
 have f2:W3.cell? ⟨w.heap.size,2,none⟩=some (.string a3):=by simp [World.cell?,hf3]
 have f3:W3.cell? ⟨w.heap.size,3,none⟩=some (.string b1):=by simp [World.cell?,hf3]
 have f4:W3.cell? ⟨w.heap.size,4,none⟩=some (.string b2):=by simp [World.cell?,hf3]
 have f5:W3.cell? ⟨w.heap.size,5,none⟩=some (.string b3):=by simp [World.cell?,hf3]
 have f6:W3.cell? ⟨w.heap.size,6,none⟩=some (.string c1):=by simp [World.cell?,hf3]
 have f7:W3.cell? ⟨w.heap.size,7,none⟩=some (.string c2):=by simp [World.cell?,hf3]
 have f8:W3.cell? ⟨w.heap.size,8,none⟩=some (.string c3):=by simp [World.cell?,hf3]
 have f9:W3.cell? ⟨w.heap.size,9,none⟩=some (.string d1):=by simp [World.cell?,hf3]
 have f10:W3.cell? ⟨w.heap.size,10,none⟩=some (.string d2):=by simp [World.cell?,hf3]
 have f11:W3.cell? ⟨w.heap.size,11,none⟩=some (.string d3):=by simp [World.cell?,hf3]
 clear hf3
 have HID2:=aH (aI g1 (aI g2 (aI g3 (aI g4 g5))))
 clear g1 g2 g3 g4 g5
 go_wp2_with fail
 refine (axes_any _ _ _ _ _ _ _ _ _ _ _ _ _).mono ?_
 rintro e w4 ⟨rfl,rfl⟩
 go_wp2_with fail
 obtain ⟨v0,h0⟩:∃ v0:Value,v0 = .agg #[.string a1,.string a2,.string a3,.string b1,.string b2,.string b3,.string c1,.string c2,.string c3,.string d1,.string d2,.string d3]:=⟨_,rfl⟩
 obtain ⟨v11,h11⟩:∃ v:Value,v = .tuple #[.agg #[.int .i64 k.n1,.int .i64 k.d1,.pointer k.p1,.int .i64 k.n2,.int .i64 k.d2,.pointer k.p2,.int .i64 k.n3,.int .i64 k.d3,.pointer k.p3],.int .i64 eo]:=⟨_,rfl⟩
 obtain ⟨v13,h13⟩:∃ v:Value,v = .agg #[.string a1,.string a2,.string a3]:=⟨_,rfl⟩
 obtain ⟨v15,h15⟩:∃ v:Value,v = .agg #[.int .i64 k.n1,.int .i64 k.d1,.pointer k.p1,.int .i64 k.n2,.int .i64 k.d2,.pointer k.p2,.int .i64 k.n3,.int .i64 k.d3,.pointer k.p3]:=⟨_,rfl⟩
 obtain ⟨v18,h18⟩:∃ v:Value,v = .agg (fO k C9.zero C9.zero C9.zero).toArray:=⟨_,rfl⟩
 rw [← h0,← h11,← h13,← h15,← h18]
 obtain ⟨g1,g2,g3,g4,g5⟩:=HID2.out
 obtain ⟨hf2,hr2,hb2,hk⟩:=HID.out
 have hsz2:=hb2.size
 have hsW3:w1.heap.size+3=W3.heap.size:=g1.symm
 obtain ⟨W4,hW4⟩:∃ W4,W3.alloc (.cells #[.string a1,.string a2,.string a3,.string b1,.string b2,.string b3,.string c1,.string c2,.string c3,.string d1,.string d2,.string d3] 54 (0,0))=W4:=⟨_,rfl⟩
 have hF:W4.heap[W3.heap.size]?=some (.cells #[.string a1,.string a2,.string a3,.string b1,.string b2,.string b3,.string c1,.string c2,.string c3,.string d1,.string d2,.string d3] 54 (0,0)):=by rw [← hW4];exact World.alloc_heap_new _ _
 have hs4:W4.heap.size=W3.heap.size+1:=by rw [← hW4];simp
 have hb4:Below W3.heap.size W3 W4:=by rw [← hW4];exact (aB _ _).alloc (aR _) _
 have hb3:Below w1.heap.size w1 W4:=g2.trans (hb4.mono (by omega))
 have hinv:InvE ev w k (w1.heap.size+1+1) (w1.heap.size+1) (w.heap.size+1) o1 o2 o3 x1 x2 x3 y1 y2 y3 z1 z2 z3 [] W4:=by
  refine ⟨C9.zero,C9.zero,C9.zero,(hb4.block _ (by omega)).trans g5,fun h=>absurd h (by simp),fun h=>absurd h (by simp),fun h=>absurd h (by simp),(by rw [ev0];exact (hb4.block _ (by omega)).trans g4),?_,hk.below hb3,hb2.trans (hb3.mono (by omega))⟩
  rw [← HZ.out]
  exact (hb3.block _ (by omega)).trans hr2
 rw [hW4]
 have hEB:¬ (w1.heap.size+1:Nat)=w1.heap.size+1+1:=by omega
 have hRB:¬ (w.heap.size+1:Nat)=w1.heap.size+1+1:=by omega
 have hRE:¬ (w.heap.size+1:Nat)=w1.heap.size+1:=by omega
 have hBs:w1.heap.size+1+1<W4.heap.size:=by omega
 have hEs:w1.heap.size+1<W4.heap.size:=by omega
 have hRs:w.heap.size+1<W4.heap.size:=by omega
 have hE0:w.heap.size≤w1.heap.size+1:=by omega
 have hB0:w.heap.size≤w1.heap.size+1+1:=by omega
 have hwW4:w.heap.size≤W4.heap.size:=by omega
 clear g1 g2 g3 g4 g5 hf2 hr2 hb2 hk hsz2 hsW3 hb4 hb3 hW4 h0 h11 h13 h15 h18 HID HID2 f0 f1 f2 f3 f4 f5 f6 f7 f8 f9 f10 f11 hs1 hs2 hs4
 generalize w1.heap.size+1+1=B at *
 generalize w1.heap.size+1=E at *
 generalize w1.heap.size=p4 at *
 generalize W3.heap.size=q3 at *
 refine (wpIn_wide (n:=6)).1 ?_
 refine wpIn_rangeFunc_ownH (F:=Fence.wide) rfl (by omega) (gf:=202) (lb := #[.pointer (some ⟨q3,0,none⟩)]) rfl trivial (enters_of Tryz.func202 (by kernel_rfl) rfl)
  (axes_stops Fence.wide (6-1) trivial rfl (by omega) q3 w.heap.size a1 a2 a3 b1 b2 b3 c1 c2 c3 d1 d2 d3 W4 hwW4 hF) belowK_t (belowK_b (by omega)) (aB _ _) (fun _=>rfl)
  (InvE ev w k B E (w.heap.size+1) o1 o2 o3 x1 x2 x3 y1 y2 y3 z1 z2 z3) (fun _ _ _=>False) (tG hwW4) (fun _ _ _ _ _ hs _ _=>hs) hinv
  (fun x a' W => ∃ Bx,((x=0∧W.heap[Bx]?=some (.cells #[.string b1,.string b2,.string b3] 27 (0,0))∧a' = { tmps := #[v0,.pointer (some ⟨w.heap.size,0,none⟩),.pointer (some ⟨w.heap.size+1,0,none⟩),.int .i64 0,.pointer (some ⟨p4,0,none⟩),.pointer (some ⟨E,0,none⟩),.pointer (some ⟨B,0,none⟩),.int .i64 0,.pointer (some ⟨Bx,0,none⟩),undef,undef,v11,.pointer (some ⟨w.heap.size,0,none⟩),v13,v11,v15,.int .i64 eo,v15,v18,v0,.func (.func 202) #[] #[.pointer (some ⟨q3,0,none⟩)],.int .i64 0,.agg #[.string b1,.string b2,.string b3],undef,undef,undef,undef,undef,undef,undef,undef,undef,undef,undef,undef,undef,undef,undef,undef,undef,undef,undef,undef],defers := [] })∨(x=1∧W.heap[Bx]?=some (.cells #[.string c1,.string c2,.string c3] 27 (0,0))∧a' = { tmps := #[v0,.pointer (some ⟨w.heap.size,0,none⟩),.pointer (some ⟨w.heap.size+1,0,none⟩),.int .i64 0,.pointer (some ⟨p4,0,none⟩),.pointer (some ⟨E,0,none⟩),.pointer (some ⟨B,0,none⟩),.int .i64 1,.pointer (some ⟨Bx,0,none⟩),undef,undef,v11,.pointer (some ⟨w.heap.size,0,none⟩),v13,v11,v15,.int .i64 eo,v15,v18,v0,.func (.func 202) #[] #[.pointer (some ⟨q3,0,none⟩)],.int .i64 1,.agg #[.string c1,.string c2,.string c3],undef,undef,undef,undef,undef,undef,undef,undef,undef,undef,undef,undef,undef,undef,undef,undef,undef,undef,undef,undef],defers := [] })∨(x=2∧W.heap[Bx]?=some (.cells #[.string d1,.string d2,.string d3] 27 (0,0))∧a' = { tmps := #[v0,.pointer (some ⟨w.heap.size,0,none⟩),.pointer (some ⟨w.heap.size+1,0,none⟩),.int .i64 0,.pointer (some ⟨p4,0,none⟩),.pointer (some ⟨E,0,none⟩),.pointer (some ⟨B,0,none⟩),.int .i64 2,.pointer (some ⟨Bx,0,none⟩),undef,undef,v11,.pointer (some ⟨w.heap.size,0,none⟩),v13,v11,v15,.int .i64 eo,v15,v18,v0,.func (.func 202) #[] #[.pointer (some ⟨q3,0,none⟩)],.int .i64 2,.agg #[.string d1,.string d2,.string d3],undef,undef,undef,undef,undef,undef,undef,undef,undef,undef,undef,undef,undef,undef,undef,undef,undef,undef,undef,undef],defers := [] }))) ?hAx ?assign ?body ?done ?stop
 case hAx =>
  rintro x a' _ X Y row ⟨Bx,h2⟩ hg hr
  refine ⟨Bx,?_⟩
  rcases h2 with ⟨rfl,h3,h4⟩|⟨rfl,h3,h4⟩|⟨rfl,h3,h4⟩
  ·exact .inl ⟨rfl,(grownBy_keeps_cells hg (fun r e=>(hr r e).2) h3 rfl).trans h3,h4⟩
  ·exact .inr (.inl ⟨rfl,(grownBy_keeps_cells hg (fun r e=>(hr r e).2) h3 rfl).trans h3,h4⟩)
  ·exact .inr (.inr ⟨rfl,(grownBy_keeps_cells hg (fun r e=>(hr r e).2) h3 rfl).trans h3,h4⟩)
 case assign =>
  rintro l pre x W K hi hK
  have hiw:w.heap.size≤W.heap.size:=by obtain ⟨_,_,_,_,_,_,_,_,_,_,hb⟩:=hi;exact hb.size
  rcases fin3 x with rfl|rfl|rfl
  ·simp only [axE,axV]
   gi_wp2
   exact hK _ _ ((KeepsOthers.alloc _ _).from _) ((aB _ W).alloc hiw _) ((tG hwW4).alloc _ hi) ⟨W.heap.size,.inl ⟨by first|rfl|trivial,World.alloc_heap_new _ _,rfl⟩⟩
  ·simp only [axE,axV]
   gi_wp2
   exact hK _ _ ((KeepsOthers.alloc _ _).from _) ((aB _ W).alloc hiw _) ((tG hwW4).alloc _ hi) ⟨W.heap.size,.inr (.inl ⟨by first|rfl|trivial,World.alloc_heap_new _ _,rfl⟩)⟩
  ·simp only [axE,axV]
   gi_wp2
   exact hK _ _ ((KeepsOthers.alloc _ _).from _) ((aB _ W).alloc hiw _) ((tG hwW4).alloc _ hi) ⟨W.heap.size,.inr (.inr ⟨by first|rfl|trivial,World.alloc_heap_new _ _,rfl⟩)⟩
 case body =>
  rintro l pre x a' W _ _ ⟨x',y',z',hB,u0,u1,u2,hE,hR,hk,hbW⟩ ⟨Bx,h3⟩ _
  obtain ⟨u,hu⟩:∃ u,ev pre=u:=⟨_,rfl⟩
  have hue:=hev pre
  rw [hu] at hE hue
  have hBlt:=(Array.getElem?_eq_some_iff.1 hB).1
  have hElt:=(Array.getElem?_eq_some_iff.1 hE).1
  have hRlt:=(Array.getElem?_eq_some_iff.1 hR).1
  have hGW:=aH (hG.below hbW)
  have HW:=aH (aI hE (aI hR (aI hk hbW)))
  have HU:=aH (aI u0 (aI u1 u2))
  have HBB:=aH hB
  clear hB u0 u1 u2 hE hR hk hbW
  rcases h3 with ⟨rfl,h3,rfl⟩|⟨rfl,h3,rfl⟩|⟨rfl,h3,rfl⟩
  ·have cb0:W.cell? ⟨Bx,0,none⟩=some (.string b1):=by simp [World.cell?,h3]
   have cb1:W.cell? ⟨Bx,1,none⟩=some (.string b2):=by simp [World.cell?,h3]
   have cb2:W.cell? ⟨Bx,2,none⟩=some (.string b3):=by simp [World.cell?,h3]
   clear h3
   gi_wp2
   refine ⟨trivial,(CallsIn.inRound l (callsIn_wide.2 (cX.out W hGW.out))).mono ?_⟩
   rintro e w2 ⟨m,rfl,hm,hbl⟩
   have hs2:=hbl.size
   have hB2:=(hbl.block B hBlt).trans HBB.out
   have hE2:=(hbl.block E hElt).trans HW.out.1
   obtain ⟨q0,r0,q1,r1,q2,r2,q3,r3,q4,r4,q5,r5,q6,r6,q7,r7,q8,r8⟩:=up9 x' (show B<w2.heap.size by omega) hB2 (⟨rfl,rfl,rfl,rfl,rfl,rfl,rfl,rfl,rfl⟩:N9 _ _ 9 10 11 12 13 14 15 16 17)
   have qE:∀ o,(w2.alloc o).cell? ⟨E,0,none⟩=some (.int .i64 u):=tD (by omega) (by simp [World.cell?,hE2])
   have H2:=aH (aI hm (aI hbl (aI hB2 hE2)))
   clear hm hbl hB2 hE2
   simp only [C9.val]
   gi_wp2
   obtain ⟨hm,hbl,hB2,hE2⟩:=H2.out
   obtain ⟨hE,hR,hk,hbW⟩:=HW.out
   obtain ⟨u0,u1,u2⟩:=HU.out
   have hBa:(w2.alloc (m9 m)).heap[B]?=some (.cells (fO k x' y' z').toArray 116 (0,0)):=(((aB _ w2).alloc (aR _) _).block B (by omega)).trans hB2
   have hT:Turned B (.cells (fO k m y' z').toArray 116 (0,0)) (w2.alloc (m9 m)) (st9 (w2.alloc (m9 m)) B 9 10 11 12 13 14 15 16 17 m):=turn9 9 hBa _ _ _ _ _ _ _ _ _ (by kernel_rfl)
   obtain ⟨X1,hX1⟩:∃ X1,st9 (w2.alloc (m9 m)) B 9 10 11 12 13 14 15 16 17 m=X1:=⟨_,rfl⟩
   rw [hX1] at hT
   unfold st9 m9 at hX1
   rw [hX1]
   have hsX:X1.heap.size=w2.heap.size+1:=by rw [hT.size];simp
   have hh:(X1.alloc (.cells #[.int .i64 u,.int .i64 ex] 30 (0,0))).heap[w2.heap.size+1]?=some (.cells #[.int .i64 u,.int .i64 ex] 30 (0,0)):=by rw [← hsX];exact World.alloc_heap_new _ _
   clear hX1 hBa
   obtain ⟨v,hv⟩:∃ v,f2 u ex=v:=⟨_,rfl⟩
   refine ⟨trivial,(CallsIn.inRound l (callsIn_wide.2 (rN hue hex hv _ (w2.heap.size+1) 30 hh))).mono ?_⟩
   rintro e w5 ⟨rfl,h5⟩
   obtain ⟨r1,r2,r3,r4,r4',r5,r6⟩:=oY (u:=u) (v:=v) (k:=k) (S:=W4.heap.size) (n:=w.heap.size) hbl HBB.out hE hEB hT h5 hbW.size hB0 hE0
   have hE5:w5.heap[E]?=some (.cells #[.int .i64 u] 30 (0,0)):=by have hs5:=h5.size;exact (h5.block E (by simp;omega)).trans ((((aB _ X1).alloc (aR _) _).block E (by omega)).trans ((hT.block E hEB).trans ((((aB _ w2).alloc (aR _) _).block E (by omega)).trans hE2)))
   have qE5:w5.cell? ⟨E,0,none⟩=some (.int .i64 u):=by simp [World.cell?,hE5]
   have rE5:w5.frozen? ⟨E,0,none⟩=false:=aY hE5 0
   have HF:KeepsFrom W4.heap.size W (w5.setCell ⟨E,0,none⟩ (.int .i64 v))∧Below w.heap.size W (w5.setCell ⟨E,0,none⟩ (.int .i64 v))∧InvE ev w k B E (w.heap.size+1) o1 o2 o3 x1 x2 x3 y1 y2 y3 z1 z2 z3 (pre ++ [0]) (w5.setCell ⟨E,0,none⟩ (.int .i64 v)) :=
    ⟨r5,r6,m,y',z',r1,fun _=>Vc.kext hm r4,fun h=>Vc.kext (Vc.kext (u1 (by simpa using h)) r4') r4,fun h=>Vc.kext (Vc.kext (u2 (by simpa using h)) r4') r4,(by rw [p0 pre,hu,hv];exact r2),(r3 _ hRlt hRB hRE).trans hR,Vc.kext (Vc.kext hk r4') r4,hbW.trans r6⟩
   have HG:=aH HF
   clear HF r1 r2 r3 r4 r4' r5 r6 hE5 hT hm hbl hB2 hE2 hE hR hk hbW u0 u1 u2 hh h5 hsX HW HU H2 hu hue
   gi_wp2
   exact HG.out
  ·have cb0:W.cell? ⟨Bx,0,none⟩=some (.string c1):=by simp [World.cell?,h3]
   have cb1:W.cell? ⟨Bx,1,none⟩=some (.string c2):=by simp [World.cell?,h3]
   have cb2:W.cell? ⟨Bx,2,none⟩=some (.string c3):=by simp [World.cell?,h3]
   clear h3
   gi_wp2
   refine ⟨trivial,(CallsIn.inRound l (callsIn_wide.2 (cY.out W hGW.out))).mono ?_⟩
   rintro e w2 ⟨m,rfl,hm,hbl⟩
   have hs2:=hbl.size
   have hB2:=(hbl.block B hBlt).trans HBB.out
   have hE2:=(hbl.block E hElt).trans HW.out.1
   obtain ⟨q0,r0,q1,r1,q2,r2,q3,r3,q4,r4,q5,r5,q6,r6,q7,r7,q8,r8⟩:=up9 y' (show B<w2.heap.size by omega) hB2 (⟨rfl,rfl,rfl,rfl,rfl,rfl,rfl,rfl,rfl⟩:N9 _ _ 18 19 20 21 22 23 24 25 26)
   have qE:∀ o,(w2.alloc o).cell? ⟨E,0,none⟩=some (.int .i64 u):=tD (by omega) (by simp [World.cell?,hE2])
   have H2:=aH (aI hm (aI hbl (aI hB2 hE2)))
   clear hm hbl hB2 hE2
   simp only [C9.val]
   gi_wp2
   obtain ⟨hm,hbl,hB2,hE2⟩:=H2.out
   obtain ⟨hE,hR,hk,hbW⟩:=HW.out
   obtain ⟨u0,u1,u2⟩:=HU.out
   have hBa:(w2.alloc (m9 m)).heap[B]?=some (.cells (fO k x' y' z').toArray 116 (0,0)):=(((aB _ w2).alloc (aR _) _).block B (by omega)).trans hB2
   have hT:Turned B (.cells (fO k x' m z').toArray 116 (0,0)) (w2.alloc (m9 m)) (st9 (w2.alloc (m9 m)) B 18 19 20 21 22 23 24 25 26 m):=turn9 18 hBa _ _ _ _ _ _ _ _ _ (by kernel_rfl)
   obtain ⟨X1,hX1⟩:∃ X1,st9 (w2.alloc (m9 m)) B 18 19 20 21 22 23 24 25 26 m=X1:=⟨_,rfl⟩
   rw [hX1] at hT
   unfold st9 m9 at hX1
   rw [hX1]
   have hsX:X1.heap.size=w2.heap.size+1:=by rw [hT.size];simp
   have hh:(X1.alloc (.cells #[.int .i64 u,.int .i64 ey] 30 (0,0))).heap[w2.heap.size+1]?=some (.cells #[.int .i64 u,.int .i64 ey] 30 (0,0)):=by rw [← hsX];exact World.alloc_heap_new _ _
   clear hX1 hBa
   obtain ⟨v,hv⟩:∃ v,f2 u ey=v:=⟨_,rfl⟩
   refine ⟨trivial,(CallsIn.inRound l (callsIn_wide.2 (rN hue hey hv _ (w2.heap.size+1) 30 hh))).mono ?_⟩
   rintro e w5 ⟨rfl,h5⟩
   obtain ⟨r1,r2,r3,r4,r4',r5,r6⟩:=oY (u:=u) (v:=v) (k:=k) (S:=W4.heap.size) (n:=w.heap.size) hbl HBB.out hE hEB hT h5 hbW.size hB0 hE0
   have hE5:w5.heap[E]?=some (.cells #[.int .i64 u] 30 (0,0)):=by have hs5:=h5.size;exact (h5.block E (by simp;omega)).trans ((((aB _ X1).alloc (aR _) _).block E (by omega)).trans ((hT.block E hEB).trans ((((aB _ w2).alloc (aR _) _).block E (by omega)).trans hE2)))
   have qE5:w5.cell? ⟨E,0,none⟩=some (.int .i64 u):=by simp [World.cell?,hE5]
   have rE5:w5.frozen? ⟨E,0,none⟩=false:=aY hE5 0
   have HF:KeepsFrom W4.heap.size W (w5.setCell ⟨E,0,none⟩ (.int .i64 v))∧Below w.heap.size W (w5.setCell ⟨E,0,none⟩ (.int .i64 v))∧InvE ev w k B E (w.heap.size+1) o1 o2 o3 x1 x2 x3 y1 y2 y3 z1 z2 z3 (pre ++ [1]) (w5.setCell ⟨E,0,none⟩ (.int .i64 v)) :=
    ⟨r5,r6,x',m,z',r1,fun h=>Vc.kext (Vc.kext (u0 (by simpa using h)) r4') r4,fun _=>Vc.kext hm r4,fun h=>Vc.kext (Vc.kext (u2 (by simpa using h)) r4') r4,(by rw [p1 pre,hu,hv];exact r2),(r3 _ hRlt hRB hRE).trans hR,Vc.kext (Vc.kext hk r4') r4,hbW.trans r6⟩
   have HG:=aH HF
   clear HF r1 r2 r3 r4 r4' r5 r6 hE5 hT hm hbl hB2 hE2 hE hR hk hbW u0 u1 u2 hh h5 hsX HW HU H2 hu hue
   gi_wp2
   exact HG.out
  ·have cb0:W.cell? ⟨Bx,0,none⟩=some (.string d1):=by simp [World.cell?,h3]
   have cb1:W.cell? ⟨Bx,1,none⟩=some (.string d2):=by simp [World.cell?,h3]
   have cb2:W.cell? ⟨Bx,2,none⟩=some (.string d3):=by simp [World.cell?,h3]
   clear h3
   gi_wp2
   refine ⟨trivial,(CallsIn.inRound l (callsIn_wide.2 (cZ.out W hGW.out))).mono ?_⟩
   rintro e w2 ⟨m,rfl,hm,hbl⟩
   have hs2:=hbl.size
   have hB2:=(hbl.block B hBlt).trans HBB.out
   have hE2:=(hbl.block E hElt).trans HW.out.1
   obtain ⟨q0,r0,q1,r1,q2,r2,q3,r3,q4,r4,q5,r5,q6,r6,q7,r7,q8,r8⟩:=up9 z' (show B<w2.heap.size by omega) hB2 (⟨rfl,rfl,rfl,rfl,rfl,rfl,rfl,rfl,rfl⟩:N9 _ _ 27 28 29 30 31 32 33 34 35)
   have qE:∀ o,(w2.alloc o).cell? ⟨E,0,none⟩=some (.int .i64 u):=tD (by omega) (by simp [World.cell?,hE2])
   have H2:=aH (aI hm (aI hbl (aI hB2 hE2)))
   clear hm hbl hB2 hE2
   simp only [C9.val]
   gi_wp2
   obtain ⟨hm,hbl,hB2,hE2⟩:=H2.out
   obtain ⟨hE,hR,hk,hbW⟩:=HW.out
   obtain ⟨u0,u1,u2⟩:=HU.out
   have hBa:(w2.alloc (m9 m)).heap[B]?=some (.cells (fO k x' y' z').toArray 116 (0,0)):=(((aB _ w2).alloc (aR _) _).block B (by omega)).trans hB2
   have hT:Turned B (.cells (fO k x' y' m).toArray 116 (0,0)) (w2.alloc (m9 m)) (st9 (w2.alloc (m9 m)) B 27 28 29 30 31 32 33 34 35 m):=turn9 27 hBa _ _ _ _ _ _ _ _ _ (by kernel_rfl)
   obtain ⟨X1,hX1⟩:∃ X1,st9 (w2.alloc (m9 m)) B 27 28 29 30 31 32 33 34 35 m=X1:=⟨_,rfl⟩
   rw [hX1] at hT
   unfold st9 m9 at hX1
   rw [hX1]
   have hsX:X1.heap.size=w2.heap.size+1:=by rw [hT.size];simp
   have hh:(X1.alloc (.cells #[.int .i64 u,.int .i64 ez] 30 (0,0))).heap[w2.heap.size+1]?=some (.cells #[.int .i64 u,.int .i64 ez] 30 (0,0)):=by rw [← hsX];exact World.alloc_heap_new _ _
   clear hX1 hBa
   obtain ⟨v,hv⟩:∃ v,f2 u ez=v:=⟨_,rfl⟩
   refine ⟨trivial,(CallsIn.inRound l (callsIn_wide.2 (rN hue hez hv _ (w2.heap.size+1) 30 hh))).mono ?_⟩
   rintro e w5 ⟨rfl,h5⟩
   obtain ⟨r1,r2,r3,r4,r4',r5,r6⟩:=oY (u:=u) (v:=v) (k:=k) (S:=W4.heap.size) (n:=w.heap.size) hbl HBB.out hE hEB hT h5 hbW.size hB0 hE0
   have hE5:w5.heap[E]?=some (.cells #[.int .i64 u] 30 (0,0)):=by have hs5:=h5.size;exact (h5.block E (by simp;omega)).trans ((((aB _ X1).alloc (aR _) _).block E (by omega)).trans ((hT.block E hEB).trans ((((aB _ w2).alloc (aR _) _).block E (by omega)).trans hE2)))
   have qE5:w5.cell? ⟨E,0,none⟩=some (.int .i64 u):=by simp [World.cell?,hE5]
   have rE5:w5.frozen? ⟨E,0,none⟩=false:=aY hE5 0
   have HF:KeepsFrom W4.heap.size W (w5.setCell ⟨E,0,none⟩ (.int .i64 v))∧Below w.heap.size W (w5.setCell ⟨E,0,none⟩ (.int .i64 v))∧InvE ev w k B E (w.heap.size+1) o1 o2 o3 x1 x2 x3 y1 y2 y3 z1 z2 z3 (pre ++ [2]) (w5.setCell ⟨E,0,none⟩ (.int .i64 v)) :=
    ⟨r5,r6,x',y',m,r1,fun h=>Vc.kext (Vc.kext (u0 (by simpa using h)) r4') r4,fun h=>Vc.kext (Vc.kext (u1 (by simpa using h)) r4') r4,fun _=>Vc.kext hm r4,(by rw [p2 pre,hu,hv];exact r2),(r3 _ hRlt hRB hRE).trans hR,Vc.kext (Vc.kext hk r4') r4,hbW.trans r6⟩
   have HG:=aH HF
   clear HF r1 r2 r3 r4 r4' r5 r6 hE5 hT hm hbl hB2 hE2 hE hR hk hbW u0 u1 u2 hh h5 hsX HW HU H2 hu hue
   gi_wp2
   exact HG.out
 case done =>
  rintro D ys W hD rfl ⟨x',y',z',hB,u0,u1,u2,hE,hR,hk,hbW⟩ hK
  rw [ev3] at hE
  have vx:=u0 (by simp)
  have vy:=u1 (by simp)
  have vz:=u2 (by simp)
  by_cases hZ0:zq=0
  ·subst hZ0
   have qE:W.cell? ⟨E,0,none⟩=some (.int .i64 0):=by simp [World.cell?,hE]
   have HW:=aH (aI hB (aI hR (aI hk (aI vx (aI vy (aI vz (aI hbW hK)))))))
   clear u0 u1 u2 hB hR hk vx vy vz hbW hK hE
   go_wp2_with fail
   refine wp_region_ty Kn [w.heap.size+1] (by kernel_rfl) (by kernel_rfl) ?_
   refine bN (.agg (fO k x' y' z').toArray) rfl (fun A w' hB hk=>?_) ?_
   ·simp [known,specOf,Kd.spec,Sp.is,isVar,Oper.looksAt,Op.operands,Call.operands,Act.eval] at hk
    exact load_all rfl (by first|exact hk|simpa [Act.eval] using hk) (hB.blk HW.out.1 (by simp;omega)) Tryz.underlying116 rfl (by kernel_rfl)
   refine bN (.agg (fO k x' y' z').toArray) rfl (fun A w' hB hk=>?_) ?_
   ·simp [known,specOf,Kd.spec,Sp.is,isVar,Oper.looksAt,Op.operands,Call.operands,Act.eval] at hk
    exact load_all rfl (by first|exact hk|simpa [Act.eval] using hk) (hB.blk HW.out.1 (by simp;omega)) Tryz.underlying116 rfl (by kernel_rfl)
   refine aP (Sp.is (.int .i64 zc)) (Sp.is_stable _ _) rfl (fun A w' hB hk=>?_) ?_
   ·simp [known,specOf,Kd.spec,Sp.is,isVar,Oper.looksAt,Op.operands,Call.operands,Act.eval] at hk
    simp [go_sem,hk]
    refine aG ?_
    have hx:=Base.extT hB HW.out.2.1 (mQ _ _ _ _ _)
    exact (HC.out (by first|trivial|rfl) _ _ _ _ _ (Vc.kext HW.out.2.2.1 hx) (Vc.kext HW.out.2.2.2.1 hx) (Vc.kext HW.out.2.2.2.2.1 hx) (Vc.kext HW.out.2.2.2.2.2.1 hx)).mono (fun e w'' ⟨e1,e2⟩=>⟨_,e1,e2,rfl⟩)
   refine gS (w.heap.size+1) (.cells (fO C9.zero C9.zero C9.zero C9.zero).toArray 116 (0,0)) (fun o _=>o = .cells (fO k x' y' z').toArray 116 (0,0)) (fun _ _ _ h _=>h) rfl rfl (by simp) HW.out.2.1 (mQ _ _ _ _ _) (fun A w' hB hk h0=>?_) ?_
   ·simp [known,specOf,Kd.spec,Sp.is,isVar,Oper.looksAt,Op.operands,Call.operands,Act.eval] at hk
    have hst:=lT (P:=Tryz.prog) (ρ:=A.eval) (w:=w') (o := { dst:=none,op:=Op.store 116 (Operand.tmp 2) (Operand.tmp 40),type:=0,pos := "frame.go:38",after := #[{ on:=0,ground:=Ground.data },{ on:=2,ground:=Ground.chain },{ on:=0,ground:=Ground.phase },{ on:=1,ground:=Ground.textOnly Departure.lateStores },{ on:=2,ground:=Ground.textOnly Departure.lateStoresUnsure }],guard:=none }) (T':=116) (g:=w.heap.size+1) (off:=0) (n:=36) (cs:=fO C9.zero C9.zero C9.zero C9.zero) (es:=fO k x' y' z') rfl (by simp [Act.eval,hk]) (by simp [Act.eval,hk,Value.cells]) (by kernel_rfl) rfl (frL_one _ _ _ _) h0 (show 0+36≤36 by omega)
    have e:List.take 0 (fO C9.zero C9.zero C9.zero C9.zero)++fO k x' y' z'++List.drop (0+(fO k x' y' z').length) (fO C9.zero C9.zero C9.zero C9.zero)=fO k x' y' z':=by kernel_rfl
    rw [e] at hst
    rw [hst.1]
    exact ⟨_,⟨hst.2.os,hst.2.tape,hst.2.output,hst.2.size,hst.2.at_,hst.2.block⟩,rfl⟩
   refine aX _ ?_ (by first|exact .inl rfl|exact .inr rfl) (by rfl) (by simp [specOf,Kd.spec];rfl) ?_ rfl ?_
   ·exact Sp.is_stable _ _
   refine ⟨by first|rfl|decide,fun f w2 hB hF hAp=>?_⟩;simp [Final1,Sp.is,isVar] at hF;simp only [frameOf]
   obtain ⟨f3,hw2,_,_,_⟩:=hF
   have hDR:¬ D=w.heap.size+1:=by
    intro e
    have h1:=HW.out.2.1
    have h2:=HW.out.2.2.2.2.2.2.2
    rw [e,h1] at h2
    injection h2 with h2
    cases h2
   have hK2:=hB.blk HW.out.2.2.2.2.2.2.2 (by simp;omega)
   have HV:=aH (aI hw2 (aI hB hK2))
   clear hAp
   have HBB:=aH hB
   clear hB
   go_wp2
   have hB:=HBB.out
   refine ⟨by simp,.inl ⟨_,_,rfl,run_takeDeferred hK2,?_⟩⟩
   have hg5:(w2.putObj D (.deferred none)).heap[w.heap.size+1]?=some (.cells (fO k x' y' z').toArray 116 (0,0)):=(World.putObj_heap_other (by omega)).trans hw2
   have hl:=run_loadVar_mid (P:=Tryz.prog) (w2.putObj D (.deferred none)) (w.heap.size+1) 0 116 (((fO k x' y' z').drop 0).take 36) _ (rW hg5 0 36) Tryz.underlying116 rfl (by kernel_rfl)
   have e36:((fO k x' y' z').drop 0).take 36=fO k x' y' z':=by kernel_rfl
   rw [e36] at hl
   have hbe:=Base.belowT hB HW.out.2.2.2.2.2.2.1 (by omega)
   have hx1:=Base.extT hB HW.out.2.1 (mQ _ _ _ _ _)
   have hx2:Go.Proofs.YtjiadfgfnmeabaaGreatDoor.Ext Kn w2 (w2.putObj D (.deferred none)):=uO (grownBy_putObj' w2 D _) (fun r e=>by cases e;exact ⟨_,hK2,rfl⟩)
   have hDw:w.heap.size≤D:=by omega
   refine ⟨.tuple #[.agg (fO k x' y' z').toArray,.int .i64 zc],?_,k,x',y',z',rfl,Vc.kext (Vc.kext HW.out.2.2.1 hx1) hx2,Vc.kext (Vc.kext HW.out.2.2.2.1 hx1) hx2,Vc.kext (Vc.kext HW.out.2.2.2.2.1 hx1) hx2,Vc.kext (Vc.kext HW.out.2.2.2.2.2.1 hx1) hx2,hbe.trans (belowK_b (w:=w) (aR _) w2 D _ _ hDw hK2 rfl rfl)⟩
   refine (kR (vs := [.agg (fO k x' y' z').toArray,.int .i64 zc]) ?_).trans rfl
   show (List.mapM (xH _) [.cell 2 116,.tmp 3]).run _ _=_
   simp [List.mapM_cons,xH,Act.put,asAddr,Sem.run_bind,Result.andThen,hl,f3]
  ·have n1:(zq==0)=false:=by rw [beq_eq_false_iff_ne];exact hZ0
   have qE:W.cell? ⟨E,0,none⟩=some (.int .i64 zq):=by simp [World.cell?,hE]
   have HW:=aH (aI hE (aI hR (aI hk (aI vx (aI vy (aI vz (aI hbW hK)))))))
   clear u0 u1 u2 hB hR hk vx vy vz hbW hK hE
   go_wp2_with fail
   refine wp_region_ty Kn [w.heap.size+1] (by kernel_rfl) (by kernel_rfl) ?_
   refine bN (.agg (fO C9.zero C9.zero C9.zero C9.zero).toArray) rfl (fun A w' hB hk=>?_) ?_
   ·refine bI ?_
    exact bO (by kernel_rfl) _
   refine bN (.int .i64 zq) rfl (fun A w' hB hk=>?_) ?_
   ·simp [known,specOf,Kd.spec,Sp.is,isVar,Oper.looksAt,Op.operands,Call.operands,Act.eval] at hk
    have hc:=hB.blk HW.out.1 (by simp;omega)
    have hc:w'.cell? ⟨E,0,none⟩=some (.int .i64 zq):=by simp [World.cell?,hc]
    simp [go_sem,hk,hc]
   refine gS (w.heap.size+1) (.cells (fO C9.zero C9.zero C9.zero C9.zero).toArray 116 (0,0)) (fun o _=>o = .cells (fO C9.zero C9.zero C9.zero C9.zero).toArray 116 (0,0)) (fun _ _ _ h _=>h) rfl rfl (by simp) HW.out.2.1 (mQ _ _ _ _ _) (fun A w' hB hk h0=>?_) ?_
   ·simp [known,specOf,Kd.spec,Sp.is,isVar,Oper.looksAt,Op.operands,Call.operands,Act.eval] at hk
    have hst:=lT (P:=Tryz.prog) (ρ:=A.eval) (w:=w') (o := { dst:=none,op:=Op.store 116 (Operand.tmp 2) (Operand.tmp 38),type:=0,pos := "frame.go:36",after := #[{ on:=0,ground:=Ground.data },{ on:=0,ground:=Ground.phase },{ on:=1,ground:=Ground.textOnly Departure.lateStores }],guard:=none }) (T':=116) (g:=w.heap.size+1) (off:=0) (n:=36) (cs:=fO C9.zero C9.zero C9.zero C9.zero) (es:=fO C9.zero C9.zero C9.zero C9.zero) rfl (by simp [Act.eval,hk]) (by simp [Act.eval,hk,Value.cells]) (by kernel_rfl) rfl (frL_one _ _ _ _) h0 (show 0+36≤36 by omega)
    have e:List.take 0 (fO C9.zero C9.zero C9.zero C9.zero)++fO C9.zero C9.zero C9.zero C9.zero++List.drop (0+(fO C9.zero C9.zero C9.zero C9.zero).length) (fO C9.zero C9.zero C9.zero C9.zero)=fO C9.zero C9.zero C9.zero C9.zero:=by kernel_rfl
    rw [e] at hst
    rw [hst.1]
    exact ⟨_,⟨hst.2.os,hst.2.tape,hst.2.output,hst.2.size,hst.2.at_,hst.2.block⟩,rfl⟩
   refine aX _ ?_ (by first|exact .inl rfl|exact .inr rfl) (by rfl) (by simp [specOf,Kd.spec];rfl) ?_ rfl ?_
   ·exact Sp.is_stable _ _
   refine ⟨by first|rfl|decide,fun f w2 hB hF hAp=>?_⟩;simp [Final1,Sp.is,isVar] at hF;simp only [frameOf]
   obtain ⟨f3,hw2,_⟩:=hF
   have hDR:¬ D=w.heap.size+1:=by
    intro e
    have h1:=HW.out.2.1
    have h2:=HW.out.2.2.2.2.2.2.2
    rw [e,h1] at h2
    injection h2 with h2
    cases h2
   have hK2:=hB.blk HW.out.2.2.2.2.2.2.2 (by simp;omega)
   have HV:=aH (aI hw2 (aI hB hK2))
   clear hAp
   have HBB:=aH hB
   clear hB
   go_wp2
   have hB:=HBB.out
   refine ⟨by simp,.inl ⟨_,_,rfl,run_takeDeferred hK2,?_⟩⟩
   have hg5:(w2.putObj D (.deferred none)).heap[w.heap.size+1]?=some (.cells (fO C9.zero C9.zero C9.zero C9.zero).toArray 116 (0,0)):=(World.putObj_heap_other (by omega)).trans hw2
   have hl:=run_loadVar_mid (P:=Tryz.prog) (w2.putObj D (.deferred none)) (w.heap.size+1) 0 116 (((fO C9.zero C9.zero C9.zero C9.zero).drop 0).take 36) _ (rW hg5 0 36) Tryz.underlying116 rfl (by kernel_rfl)
   have e36:((fO C9.zero C9.zero C9.zero C9.zero).drop 0).take 36=fO C9.zero C9.zero C9.zero C9.zero:=by kernel_rfl
   rw [e36] at hl
   have hbe:=Base.belowT hB HW.out.2.2.2.2.2.2.1 (by omega)
   have hx1:=Base.extT hB HW.out.2.1 (mQ _ _ _ _ _)
   have hx2:Go.Proofs.YtjiadfgfnmeabaaGreatDoor.Ext Kn w2 (w2.putObj D (.deferred none)):=uO (grownBy_putObj' w2 D _) (fun r e=>by cases e;exact ⟨_,hK2,rfl⟩)
   have hDw:w.heap.size≤D:=by omega
   refine ⟨.tuple #[.agg (fO C9.zero C9.zero C9.zero C9.zero).toArray,.int .i64 zq],?_,rfl,⟨k,Vc.kext (Vc.kext HW.out.2.2.1 hx1) hx2⟩,⟨x',Vc.kext (Vc.kext HW.out.2.2.2.1 hx1) hx2⟩,⟨y',Vc.kext (Vc.kext HW.out.2.2.2.2.1 hx1) hx2⟩,⟨z',Vc.kext (Vc.kext HW.out.2.2.2.2.2.1 hx1) hx2⟩,hbe.trans (belowK_b (w:=w) (aR _) w2 D _ _ hDw hK2 rfl rfl)⟩
   refine (kR (vs := [.agg (fO C9.zero C9.zero C9.zero C9.zero).toArray,.int .i64 zq]) ?_).trans rfl
   show (List.mapM (xH _) [.cell 2 116,.tmp 3]).run _ _=_
   simp [List.mapM_cons,xH,Act.put,asAddr,Sem.run_bind,Result.andThen,hl,f3]
 case stop=>rintro D c pre W _ _ h _;exact h.elim
end Fr
namespace Fr
open Go.RowKit Go.Shelf Ab Pl
set_option maxRecDepth 100000 in
theorem zO (o1 o2 o3 x1 x2 x3 y1 y2 y3 z1 z2 z3:Rat) (ho:iF o1 o2 o3) (hx:iF x1 x2 x3) (hy:iF y1 y2 y3) (hz:iF z1 z2 z3) (lm:Lm 25 x1 x2 x3 y1 y2 y3 z1 z2 z3) (hax:Ax x1 x2 x3 y1 y2 y3 z1 z2 z3) (w:World) (hG:Gl w) :
 Calls Tryz.prog 74 #[.agg #[.string (writeB o1),.string (writeB o2),.string (writeB o3),.string (writeB x1),.string (writeB x2),.string (writeB x3),.string (writeB y1),.string (writeB y2),.string (writeB y3),.string (writeB z1),.string (writeB z2),.string (writeB z3)]] w fun e w' => ∃ o x y z:C9,e = .returned (.tuple #[.agg (fO o x y z).toArray,.int .i64 0])∧Vc w' o.val o1 o2 o3∧Vc w' x.val x1 x2 x3∧Vc w' y.val y1 y2 y3∧Vc w' z.val z1 z2 z3∧Below w.heap.size w w':=by
 have h:=zN (writeB o1) (writeB o2) (writeB o3) (writeB x1) (writeB x2) (writeB x3) (writeB y1) (writeB y2) (writeB y3) (writeB z1) (writeB z2) (writeB z3) o1 o2 o3 x1 x2 x3 y1 y2 y3 z1 z2 z3 0 0 0 0 0 0
  (.inl rfl) (.inl rfl) (.inl rfl) (.inl rfl) rfl (fun W hW=>lC ho W hW) (fun W hW=>lC hx W hW) (fun W hW=>lC hy W hW) (fun W hW=>lC hz W hW)
  (fun _ _ _ _ _ _ v0 v1 v2 v3=>check_any v0 v1 v2 v3 lm hax) w hG
 rw [if_pos rfl] at h
 simpa only [if_true] using h
theorem holds_txt {β:List Nat} {w:World}:∀ (l:List ByteArray) (cs:List Value),holdsL β (l.map dB) cs w→cs=l.map Value.string
 | [],cs,h=>h
 | b::l,cs,⟨x,y,e,h1,h2⟩=>by
   have h1:x = [.string b]:=h1
   rw [e,h1,holds_txt l y h2]
   rfl
section
variable {o1 o2 o3 x1 x2 x3 y1 y2 y3 z1 z2 z3:Rat}
theorem readFrameF (h:Wf o1 o2 o3 x1 x2 x3 y1 y2 y3 z1 z2 z3) (hax:Ax x1 x2 x3 y1 y2 y3 z1 z2 z3):jX 74 [kU o1 o2 o3 x1 x2 x3 y1 y2 y3 z1 z2 z3] (okFr o1 o2 o3 x1 x2 x3 y1 y2 y3 z1 z2 z3):=by
 intro β w vs hG hv
 obtain ⟨v,rfl,cs,rfl,h1⟩:=dH hv
 have e:=holds_txt [writeB o1,writeB o2,writeB o3,writeB x1,writeB x2,writeB x3,writeB y1,writeB y2,writeB y3,writeB z1,writeB z2,writeB z3] cs h1
 rw [e]
 refine (zO o1 o2 o3 x1 x2 x3 y1 y2 y3 z1 z2 z3 h.o h.x h.y h.z (h.lm.mono (by decide)) hax w hG).mono ?_
 rintro e w' ⟨o,x,y,z,e1,v0,v1,v2,v3,hb⟩
 exact ⟨_,e1,hb,[.agg (fO o x y z).toArray,.int .i64 0],rfl,_,_,rfl,fr_holds v0 v1 v2 v3,_,_,rfl,⟨rfl,rfl⟩,rfl⟩
theorem fv_of (h:Wf o1 o2 o3 x1 x2 x3 y1 y2 y3 z1 z2 z3) (hax:Ax x1 x2 x3 y1 y2 y3 z1 z2 z3):Fv o1 o2 o3 x1 x2 x3 y1 y2 y3 z1 z2 z3:=⟨h,hax,readFrameF h hax⟩
end
end Fr
namespace Ab
open Go.RowKit Pl
inductive AvL:List (AV Kn)→List (AV Kn)→Prop where
 | nil:AvL [] []
 | ag {k m l l'}:LitL k m→AvL l l'→AvL (.fv (.ag k)::l) (.fv (.ag m)::l')
 | txt {b:ByteArray} {l l'}:AvL l l'→AvL (.fv (.sc (dB b))::l) (.fv (.sc (.lit (.string b)))::l')
 | same {x:AV Kn} {l l'}:AvL l l'→AvL (x::l) (x::l')
theorem AvL.to {β:List Nat} {w:World} {l m:List (AV Kn)} (h:AvL l m):∀ {vs:List Value},holdsA β m vs w→holdsA β l vs w:=by
 induction h with
 | nil=>intro vs h;exact h
 | ag hl _ ih=>rintro vs ⟨v,r,e,h1,h2⟩;exact ⟨v,r,e,(ag_lit hl).2 h1,ih h2⟩
 | txt _ ih=>rintro vs ⟨v,r,e,h1,h2⟩;exact ⟨v,r,e,sc_lit.2 h1,ih h2⟩
 | same _ ih=>rintro vs ⟨v,r,e,h1,h2⟩;exact ⟨v,r,e,h1,ih h2⟩
inductive FvL:List (FV Kn)→List (FV Kn)→Prop where
 | nil:FvL [] []
 | ag {k m l l'}:LitL k m→FvL l l'→FvL (.ag k::l) (.ag m::l')
 | txt {b:ByteArray} {l l'}:FvL l l'→FvL (.sc (dB b)::l) (.sc (.lit (.string b))::l')
 | same {x:FV Kn} {l l'}:FvL l l'→FvL (x::l) (x::l')
theorem FvL.to {β:List Nat} {w:World} {l m:List (FV Kn)} (h:FvL l m):∀ {vs:List Value},holdsF β l vs w→holdsF β m vs w:=by
 induction h with
 | nil=>intro vs h;exact h
 | ag hl _ ih=>rintro vs ⟨v,r,e,h1,h2⟩;exact ⟨v,r,e,(ag_lit hl).1 h1,ih h2⟩
 | txt _ ih=>rintro vs ⟨v,r,e,h1,h2⟩;exact ⟨v,r,e,(sc_lit (β:=β)).1 h1,ih h2⟩
 | same _ ih=>rintro vs ⟨v,r,e,h1,h2⟩;exact ⟨v,r,e,h1,ih h2⟩
theorem FitsW.lits {P:Program} {I:World→Prop} {f:FuncId} {l l' : List (AV Kn)} {r r' : List (FV Kn)} (h:FitsW P I f l (.tup r)) (ha:AvL l l') (hr:FvL r r'):FitsW P I f l' (.tup r') :=
 (h.args fun _ _ _ hv=>ha.to hv).res fun _ _ _ ⟨vs,e,hv⟩=>⟨vs,e,hr.to hv⟩
theorem Fits.lits {P:Program} {f:FuncId} {l l' : List (AV Kn)} {k m:List (Seg Kn)} (h:Fits P f l (.fv (.ag k))) (ha:AvL l l') (hr:LitL k m):Fits P f l' (.fv (.ag m)):=fun β w vs hv =>
 (h β w vs (ha.to hv)).mono fun e w' ⟨v,e1,e2,e3⟩=>⟨v,e1,e2,(ag_lit hr).1 e3⟩
theorem vc_eq {P:Program} {f:FuncId} {l:List (AV Kn)} {a b c a' b' c' : Rat} (h:Fits P f l (vc a b c)) (e1:a=a') (e2:b=b') (e3:c=c'):Fits P f l (vc a' b' c'):=by
 subst e1
 subst e2
 subst e3
 exact h
theorem wr_q {q:Rat} (hn:q.num.natAbs<1000000000) (hd:q.den<1000000000):Wr q :=
 ⟨Nat.le_trans (decB_size (k:=8) hn) (by decide),Nat.le_trans (decB_size (k:=8) hd) (by decide)⟩
theorem oZ {z:Int} (h:z.natAbs<1000000000):Wr (z:Rat):=wr_q h (show 1<1000000000 by omega)
theorem kL {q:Rat} {n:Int} {d:Nat} {a b:ByteArray} (hn:q.num=n) (hd:q.den=d) (h1:d≠1) (ha:aQ n=a) (hb:decB d=b):writeB q=a++(⟨#[47]⟩++b):=by
 rw [fC (by rw [hd];exact h1),hn,hd,ha,hb]
theorem x0:writeB ((0:Int):Rat)=⟨#[48]⟩:=cW (by omega) (bK (n:=0) (by omega))
theorem x1:writeB ((1:Int):Rat)=⟨#[49]⟩:=cW (by omega) (bK (n:=1) (by omega))
theorem x2:writeB ((2:Int):Rat)=⟨#[50]⟩:=cW (by omega) (bK (n:=2) (by omega))
theorem x3:writeB ((3:Int):Rat)=⟨#[51]⟩:=cW (by omega) (bK (n:=3) (by omega))
theorem x4:writeB ((4:Int):Rat)=⟨#[52]⟩:=cW (by omega) (bK (n:=4) (by omega))
theorem x5:writeB ((5:Int):Rat)=⟨#[53]⟩:=cW (by omega) (bK (n:=5) (by omega))
theorem x7:writeB ((7:Int):Rat)=⟨#[55]⟩:=cW (by omega) (bK (n:=7) (by omega))
theorem x10:writeB ((10:Int):Rat)=⟨#[49,48]⟩:=cW (by omega) (mO (n:=10) (by omega) (by omega))
theorem x24:writeB ((24:Int):Rat)=⟨#[50,52]⟩:=cW (by omega) (mO (n:=24) (by omega) (by omega))
theorem x25:writeB ((25:Int):Rat)=⟨#[50,53]⟩:=cW (by omega) (mO (n:=25) (by omega) (by omega))
theorem x28:writeB ((28:Int):Rat)=⟨#[50,56]⟩:=cW (by omega) (mO (n:=28) (by omega) (by omega))
theorem x30:writeB ((30:Int):Rat)=⟨#[51,48]⟩:=cW (by omega) (mO (n:=30) (by omega) (by omega))
theorem xm1:writeB ((-1:Int):Rat)=⟨#[45,49]⟩:=(fN (z := -1) (by omega) (b:=⟨#[49]⟩) (by rw [show Int.natAbs (-1)=1 from rfl];exact bK (n:=1) (by omega))).trans (ba_ext rfl)
theorem xm2:writeB ((-2:Int):Rat)=⟨#[45,50]⟩:=(fN (z := -2) (by omega) (b:=⟨#[50]⟩) (by rw [show Int.natAbs (-2)=2 from rfl];exact bK (n:=2) (by omega))).trans (ba_ext rfl)
theorem xm4:writeB ((-4:Int):Rat)=⟨#[45,52]⟩:=(fN (z := -4) (by omega) (b:=⟨#[52]⟩) (by rw [show Int.natAbs (-4)=4 from rfl];exact bK (n:=4) (by omega))).trans (ba_ext rfl)
theorem xm7:writeB ((-7:Int):Rat)=⟨#[45,55]⟩:=(fN (z := -7) (by omega) (b:=⟨#[55]⟩) (by rw [show Int.natAbs (-7)=7 from rfl];exact bK (n:=7) (by omega))).trans (ba_ext rfl)
theorem xm24:writeB ((-24:Int):Rat)=⟨#[45,50,52]⟩:=(fN (z := -24) (by omega) (b:=⟨#[50,52]⟩) (by rw [show Int.natAbs (-24)=24 from rfl];exact mO (n:=24) (by omega) (by omega))).trans (ba_ext rfl)
theorem r0:Wr ((0:Int):Rat):=oZ (by decide)
theorem r1:Wr ((1:Int):Rat):=oZ (by decide)
theorem r2:Wr ((2:Int):Rat):=oZ (by decide)
theorem r3:Wr ((3:Int):Rat):=oZ (by decide)
theorem r4:Wr ((4:Int):Rat):=oZ (by decide)
theorem r5:Wr ((5:Int):Rat):=oZ (by decide)
theorem r7:Wr ((7:Int):Rat):=oZ (by decide)
theorem r10:Wr ((10:Int):Rat):=oZ (by decide)
theorem r24:Wr ((24:Int):Rat):=oZ (by decide)
theorem r25:Wr ((25:Int):Rat):=oZ (by decide)
theorem r28:Wr ((28:Int):Rat):=oZ (by decide)
theorem r30:Wr ((30:Int):Rat):=oZ (by decide)
theorem rm1:Wr ((-1:Int):Rat):=oZ (by decide)
theorem rm2:Wr ((-2:Int):Rat):=oZ (by decide)
theorem rm4:Wr ((-4:Int):Rat):=oZ (by decide)
theorem rm7:Wr ((-7:Int):Rat):=oZ (by decide)
theorem rm24:Wr ((-24:Int):Rat):=oZ (by decide)
theorem nh12:(mkRat (1) 2).num=1:=by kernel_rfl
theorem dh12:(mkRat (1) 2).den=2:=by kernel_rfl
theorem xh12:writeB (mkRat (1) 2)=⟨#[49,47,50]⟩:=(kL nh12 dh12 (by decide) (a:=⟨#[49]⟩) ((dE (1)).trans x1) (bK (n:=2) (by omega))).trans (ba_ext rfl)
theorem rh12:Wr (mkRat (1) 2):=wr_q (by rw [nh12];decide) (by rw [dh12];decide)
theorem nm13:(mkRat (-1) 3).num = -1:=by kernel_rfl
theorem dm13:(mkRat (-1) 3).den=3:=by kernel_rfl
theorem xm13:writeB (mkRat (-1) 3)=⟨#[45,49,47,51]⟩:=(kL nm13 dm13 (by decide) (a:=⟨#[45,49]⟩) ((dE (-1)).trans xm1) (bK (n:=3) (by omega))).trans (ba_ext rfl)
theorem rm13:Wr (mkRat (-1) 3):=wr_q (by rw [nm13];decide) (by rw [dm13];decide)
theorem nq252:(mkRat (25) 2).num=25:=by kernel_rfl
theorem dq252:(mkRat (25) 2).den=2:=by kernel_rfl
theorem xq252:writeB (mkRat (25) 2)=⟨#[50,53,47,50]⟩:=(kL nq252 dq252 (by decide) (a:=⟨#[50,53]⟩) ((dE (25)).trans x25) (bK (n:=2) (by omega))).trans (ba_ext rfl)
theorem rq252:Wr (mkRat (25) 2):=wr_q (by rw [nq252];decide) (by rw [dq252];decide)
theorem nm12:(mkRat (-1) 2).num = -1:=by kernel_rfl
theorem dm12:(mkRat (-1) 2).den=2:=by kernel_rfl
theorem xm12:writeB (mkRat (-1) 2)=⟨#[45,49,47,50]⟩:=(kL nm12 dm12 (by decide) (a:=⟨#[45,49]⟩) ((dE (-1)).trans xm1) (bK (n:=2) (by omega))).trans (ba_ext rfl)
theorem rm12:Wr (mkRat (-1) 2):=wr_q (by rw [nm12];decide) (by rw [dm12];decide)
theorem nq23:(mkRat (2) 3).num=2:=by kernel_rfl
theorem dq23:(mkRat (2) 3).den=3:=by kernel_rfl
theorem xq23:writeB (mkRat (2) 3)=⟨#[50,47,51]⟩:=(kL nq23 dq23 (by decide) (a:=⟨#[50]⟩) ((dE (2)).trans x2) (bK (n:=3) (by omega))).trans (ba_ext rfl)
theorem rq23:Wr (mkRat (2) 3):=wr_q (by rw [nq23];decide) (by rw [dq23];decide)
theorem lv_2_0_4:jF 21 [it (2),it (0),it (4)] (.fv (.ag [.lit (.string ⟨#[50]⟩),.lit (.string ⟨#[48]⟩),.lit (.string ⟨#[52]⟩)]):AV Kn):=by
 have h:=dJ (a:=2) (b:=0) (c:=4) (by constructor <;> omega) (by constructor <;> omega) (by constructor <;> omega)
 simp only [vS,uC,fZ,sO,hS,kU,gL,x0,x2,x4] at h
 exact h.lits (.same (.same (.same .nil))) (.txt (.txt (.txt .nil)))
theorem lv_m1_0_m2:jF 21 [it (-1),it (0),it (-2)] (.fv (.ag [.lit (.string ⟨#[45,49]⟩),.lit (.string ⟨#[48]⟩),.lit (.string ⟨#[45,50]⟩)]):AV Kn):=by
 have h:=dJ (a := -1) (b:=0) (c := -2) (by constructor <;> omega) (by constructor <;> omega) (by constructor <;> omega)
 simp only [vS,uC,fZ,sO,hS,kU,gL,x0,xm1,xm2] at h
 exact h.lits (.same (.same (.same .nil))) (.txt (.txt (.txt .nil)))
theorem lv_1_0_0:jF 21 [it (1),it (0),it (0)] (.fv (.ag [.lit (.string ⟨#[49]⟩),.lit (.string ⟨#[48]⟩),.lit (.string ⟨#[48]⟩)]):AV Kn):=by
 have h:=dJ (a:=1) (b:=0) (c:=0) (by constructor <;> omega) (by constructor <;> omega) (by constructor <;> omega)
 simp only [vS,uC,fZ,sO,hS,kU,gL,x0,x1] at h
 exact h.lits (.same (.same (.same .nil))) (.txt (.txt (.txt .nil)))
theorem lv_0_1_0:jF 21 [it (0),it (1),it (0)] (.fv (.ag [.lit (.string ⟨#[48]⟩),.lit (.string ⟨#[49]⟩),.lit (.string ⟨#[48]⟩)]):AV Kn):=by
 have h:=dJ (a:=0) (b:=1) (c:=0) (by constructor <;> omega) (by constructor <;> omega) (by constructor <;> omega)
 simp only [vS,uC,fZ,sO,hS,kU,gL,x0,x1] at h
 exact h.lits (.same (.same (.same .nil))) (.txt (.txt (.txt .nil)))
theorem lv_0_0_1:jF 21 [it (0),it (0),it (1)] (.fv (.ag [.lit (.string ⟨#[48]⟩),.lit (.string ⟨#[48]⟩),.lit (.string ⟨#[49]⟩)]):AV Kn):=by
 have h:=dJ (a:=0) (b:=0) (c:=1) (by constructor <;> omega) (by constructor <;> omega) (by constructor <;> omega)
 simp only [vS,uC,fZ,sO,hS,kU,gL,x0,x1] at h
 exact h.lits (.same (.same (.same .nil))) (.txt (.txt (.txt .nil)))
theorem lv_0_0_0:jF 21 [it (0),it (0),it (0)] (.fv (.ag [.lit (.string ⟨#[48]⟩),.lit (.string ⟨#[48]⟩),.lit (.string ⟨#[48]⟩)]):AV Kn):=by
 have h:=dJ (a:=0) (b:=0) (c:=0) (by constructor <;> omega) (by constructor <;> omega) (by constructor <;> omega)
 simp only [vS,uC,fZ,sO,hS,kU,gL,x0] at h
 exact h.lits (.same (.same (.same .nil))) (.txt (.txt (.txt .nil)))
theorem lv_1_1_1:jF 21 [it (1),it (1),it (1)] (.fv (.ag [.lit (.string ⟨#[49]⟩),.lit (.string ⟨#[49]⟩),.lit (.string ⟨#[49]⟩)]):AV Kn):=by
 have h:=dJ (a:=1) (b:=1) (c:=1) (by constructor <;> omega) (by constructor <;> omega) (by constructor <;> omega)
 simp only [vS,uC,fZ,sO,hS,kU,gL,x1] at h
 exact h.lits (.same (.same (.same .nil))) (.txt (.txt (.txt .nil)))
theorem lv_1_1_0:jF 21 [it (1),it (1),it (0)] (.fv (.ag [.lit (.string ⟨#[49]⟩),.lit (.string ⟨#[49]⟩),.lit (.string ⟨#[48]⟩)]):AV Kn):=by
 have h:=dJ (a:=1) (b:=1) (c:=0) (by constructor <;> omega) (by constructor <;> omega) (by constructor <;> omega)
 simp only [vS,uC,fZ,sO,hS,kU,gL,x0,x1] at h
 exact h.lits (.same (.same (.same .nil))) (.txt (.txt (.txt .nil)))
theorem lv_0_7_5:jF 21 [it (0),it (7),it (5)] (.fv (.ag [.lit (.string ⟨#[48]⟩),.lit (.string ⟨#[55]⟩),.lit (.string ⟨#[53]⟩)]):AV Kn):=by
 have h:=dJ (a:=0) (b:=7) (c:=5) (by constructor <;> omega) (by constructor <;> omega) (by constructor <;> omega)
 simp only [vS,uC,fZ,sO,hS,kU,gL,x0,x5,x7] at h
 exact h.lits (.same (.same (.same .nil))) (.txt (.txt (.txt .nil)))
theorem lv_m1_0_0:jF 21 [it (-1),it (0),it (0)] (.fv (.ag [.lit (.string ⟨#[45,49]⟩),.lit (.string ⟨#[48]⟩),.lit (.string ⟨#[48]⟩)]):AV Kn):=by
 have h:=dJ (a := -1) (b:=0) (c:=0) (by constructor <;> omega) (by constructor <;> omega) (by constructor <;> omega)
 simp only [vS,uC,fZ,sO,hS,kU,gL,x0,xm1] at h
 exact h.lits (.same (.same (.same .nil))) (.txt (.txt (.txt .nil)))
theorem lv_4_4_0:jF 21 [it (4),it (4),it (0)] (.fv (.ag [.lit (.string ⟨#[52]⟩),.lit (.string ⟨#[52]⟩),.lit (.string ⟨#[48]⟩)]):AV Kn):=by
 have h:=dJ (a:=4) (b:=4) (c:=0) (by constructor <;> omega) (by constructor <;> omega) (by constructor <;> omega)
 simp only [vS,uC,fZ,sO,hS,kU,gL,x0,x4] at h
 exact h.lits (.same (.same (.same .nil))) (.txt (.txt (.txt .nil)))
theorem lv_m7_24_0:jF 21 [it (-7),it (24),it (0)] (.fv (.ag [.lit (.string ⟨#[45,55]⟩),.lit (.string ⟨#[50,52]⟩),.lit (.string ⟨#[48]⟩)]):AV Kn):=by
 have h:=dJ (a := -7) (b:=24) (c:=0) (by constructor <;> omega) (by constructor <;> omega) (by constructor <;> omega)
 simp only [vS,uC,fZ,sO,hS,kU,gL,x0,x24,xm7] at h
 exact h.lits (.same (.same (.same .nil))) (.txt (.txt (.txt .nil)))
theorem lv_5_5_0:jF 21 [it (5),it (5),it (0)] (.fv (.ag [.lit (.string ⟨#[53]⟩),.lit (.string ⟨#[53]⟩),.lit (.string ⟨#[48]⟩)]):AV Kn):=by
 have h:=dJ (a:=5) (b:=5) (c:=0) (by constructor <;> omega) (by constructor <;> omega) (by constructor <;> omega)
 simp only [vS,uC,fZ,sO,hS,kU,gL,x0,x5] at h
 exact h.lits (.same (.same (.same .nil))) (.txt (.txt (.txt .nil)))
theorem lv_10_7_1:jF 21 [it (10),it (7),it (1)] (.fv (.ag [.lit (.string ⟨#[49,48]⟩),.lit (.string ⟨#[55]⟩),.lit (.string ⟨#[49]⟩)]):AV Kn):=by
 have h:=dJ (a:=10) (b:=7) (c:=1) (by constructor <;> omega) (by constructor <;> omega) (by constructor <;> omega)
 simp only [vS,uC,fZ,sO,hS,kU,gL,x1,x10,x7] at h
 exact h.lits (.same (.same (.same .nil))) (.txt (.txt (.txt .nil)))
theorem lframe:jF 25 ([]:List (AV Kn)) (.fv (.ag [.lit (.string ⟨#[49]⟩),.lit (.string ⟨#[48]⟩),.lit (.string ⟨#[48]⟩),.lit (.string ⟨#[51]⟩),.lit (.string ⟨#[52]⟩),.lit (.string ⟨#[48]⟩),.lit (.string ⟨#[45,52]⟩),.lit (.string ⟨#[51]⟩),.lit (.string ⟨#[48]⟩),.lit (.string ⟨#[48]⟩),.lit (.string ⟨#[48]⟩),.lit (.string ⟨#[53]⟩)]):AV Kn):=by
 have h:=lawFrameF
 simp only [vS,uC,fZ,sO,hS,kU,gL,x0,x1,x3,x4,x5,xm4] at h
 exact h.lits .nil (.txt (.txt (.txt (.txt (.txt (.txt (.txt (.txt (.txt (.txt (.txt (.txt (.nil)))))))))))))
theorem wfF:Wf ((1:Int):Rat) ((0:Int):Rat) ((0:Int):Rat) ((3:Int):Rat) ((4:Int):Rat) ((0:Int):Rat) ((-4:Int):Rat) ((3:Int):Rat) ((0:Int):Rat) ((0:Int):Rat) ((0:Int):Rat) ((5:Int):Rat):=⟨⟨r1,r0,r0⟩,⟨r3,r4,r0⟩,⟨rm4,r3,r0⟩,⟨r0,r0,r5⟩⟩
theorem axF:Ax ((3:Int):Rat) ((4:Int):Rat) ((0:Int):Rat) ((-4:Int):Rat) ((3:Int):Rat) ((0:Int):Rat) ((0:Int):Rat) ((0:Int):Rat) ((5:Int):Rat):=⟨by kernel_rfl,by kernel_rfl,by kernel_rfl,by kernel_rfl,by kernel_rfl,by kernel_rfl,by kernel_rfl⟩
theorem fvF:Fv ((1:Int):Rat) ((0:Int):Rat) ((0:Int):Rat) ((3:Int):Rat) ((4:Int):Rat) ((0:Int):Rat) ((-4:Int):Rat) ((3:Int):Rat) ((0:Int):Rat) ((0:Int):Rat) ((0:Int):Rat) ((5:Int):Rat):=Go.Proofs.YtjiadfgfnmeabaaGreatDoor.Fr.fv_of wfF axF
theorem hv111 {d:Rat} (h:Wr d):Hv 1 1 1 d:=⟨by constructor <;> omega,by constructor <;> omega,by constructor <;> omega,h,ck_111⟩
theorem hv100 {d:Rat} (h:Wr d):Hv 1 0 0 d:=⟨by constructor <;> omega,by constructor <;> omega,by constructor <;> omega,h,ck_100⟩
theorem hv302 {d:Rat} (h:Wr d):Hv 3 0 (-2) d:=⟨by constructor <;> omega,by constructor <;> omega,by constructor <;> omega,h,ck_302⟩
theorem nV {a:Rat} (h:decide (a=0)=false):a≠0:=of_decide_eq_false h
theorem asc_1250:∀ (j:Nat) (b:UInt8),(⟨#[49,50,46,53,48]⟩:ByteArray).data.toList[j]?=some b→b.toNat<128:=by
 intro j b h
 have:=List.mem_of_getElem? h
 simp at this
 rcases this with rfl|rfl|rfl|rfl|rfl <;> decide
theorem dig_12:AllDig (aC ⟨#[49,50]⟩):=by intro c hc;simp [aC] at hc;rcases hc with rfl|rfl <;> decide
theorem dig_50:AllDig (aC ⟨#[53,48]⟩):=by intro c hc;simp [aC] at hc;rcases hc with rfl|rfl <;> decide
theorem dec_100:decB 100=⟨#[49,48,48]⟩:=by unfold decB;rw [eN (by omega),eN (by omega),cR (by omega)];rfl
theorem dec_1250:decB 1250=⟨#[49,50,53,48]⟩:=by unfold decB;rw [eN (by omega),eN (by omega),eN (by omega),cR (by omega)];rfl
theorem q1250:mkRat (sg false 1250) 100=mkRat 25 2:=by kernel_rfl
theorem lv_small {n k:Nat} (h:n<1000000000):Lv k n:=(Lv.one n (by rw [aL];omega)).mono (Nat.zero_le _)
theorem eParse:jX 19 [lt ⟨#[49,50,46,53,48]⟩] (.tup [.sc (.lit (.string ⟨#[50,53,47,50]⟩)),.sc z0]):=by
 have hp:jF 62 [tx ⟨#[49,50,46,53,48]⟩] (.tup [.sc (dB (decB 1250)),.sc (dB (decB 100)),.sc z0]):=by
  have h:=partsDot (s:=⟨#[49,50,46,53,48]⟩) (a:=⟨#[49,50]⟩) (b:=⟨#[53,48]⟩) (z:=⟨#[48,48]⟩) (k:=2) (indexAnyF (by decide) asc_1250 (by kernel_rfl)) (by decide) (by decide) (ba_ext rfl) (ba_ext rfl) dig_12 (by decide) dig_50 (by decide) rfl (repeatF (by decide) (by decide) (ba_ext (by kernel_rfl))) (by decide)
  have e1:(⟨#[49,50]⟩++⟨#[53,48]⟩:ByteArray)=decB 1250:=dec_1250.symm
  have e2:(⟨#[49]⟩++⟨#[48,48]⟩:ByteArray)=decB 100:=dec_100.symm
  rw [e1,e2] at h
  exact h
 have h:=parseF' (s:=⟨#[49,50,46,53,48]⟩) (n:=1250) (d:=100) (by decide) (by kernel_rfl) hp (by rw [dec_1250];decide) (by rw [dec_100];decide) (lv_small (by decide)) (lv_small (by decide)) (by decide) (by rw [q1250];exact rq252.lf.mono (by decide)) (by rw [q1250];exact rq252.n) (by rw [q1250];exact rq252.d)
 rw [q1250,xq252] at h
 exact h.lits (.txt .nil) (.txt (.same .nil))
theorem eAlong:jX 20 [(.fv (.ag [.lit (.string ⟨#[50]⟩),.lit (.string ⟨#[48]⟩),.lit (.string ⟨#[52]⟩)]):AV Kn),(.fv (.ag [.lit (.string ⟨#[45,49]⟩),.lit (.string ⟨#[48]⟩),.lit (.string ⟨#[45,50]⟩)]):AV Kn)] (.tup [.sc (.lit (.string ⟨#[45,49,47,50]⟩)),.sc z0]):=by
 have h:=apiAlongF (a:=((2:Int):Rat)) (b:=((0:Int):Rat)) (c:=((4:Int):Rat)) (x:=((-1:Int):Rat)) (y:=((0:Int):Rat)) (z:=((-2:Int):Rat)) ⟨r2,r0,r4⟩ ⟨rm1,r0,rm2⟩ (by kernel_rfl) (by kernel_rfl) (nV (by kernel_rfl)) (by rw [show dt ((-1:Int):Rat) ((0:Int):Rat) ((-2:Int):Rat) ((2:Int):Rat) ((0:Int):Rat) ((4:Int):Rat)/dt ((2:Int):Rat) ((0:Int):Rat) ((4:Int):Rat) ((2:Int):Rat) ((0:Int):Rat) ((4:Int):Rat)=mkRat (-1) 2 from by kernel_rfl];exact rm12)
 rw [show dt ((-1:Int):Rat) ((0:Int):Rat) ((-2:Int):Rat) ((2:Int):Rat) ((0:Int):Rat) ((4:Int):Rat)/dt ((2:Int):Rat) ((0:Int):Rat) ((4:Int):Rat) ((2:Int):Rat) ((0:Int):Rat) ((4:Int):Rat)=mkRat (-1) 2 from by kernel_rfl] at h
 simp only [vS,uC,fZ,sO,hS,kU,gL,x0,x2,x4,xm1,xm12,xm2] at h
 exact h.lits (.ag (.txt (.txt (.txt .nil))) (.ag (.txt (.txt (.txt .nil))) .nil)) (.txt (.same .nil))
theorem eMake:jX 22 [(.fv (.ag [.lit (.string ⟨#[49,47,50]⟩),.lit (.string ⟨#[48]⟩),.lit (.string ⟨#[45,49,47,51]⟩)]):AV Kn),lt ⟨#[53]⟩] (.tup [.ag [.lit (.int .i64 (3)),.lit (.int .i64 (0)),.lit (.int .i64 (-2)),.lit (.string ⟨#[51,48]⟩)],.sc z0]):=by
 have h:=apiMakeHalfF (n1:=mkRat 1 2) (n2:=((0:Int):Rat)) (n3:=mkRat (-1) 3) (d:=((5:Int):Rat)) (z1:=3) (z2:=0) (z3 := -2) (e:=((30:Int):Rat)) ⟨rh12,r0,rm13⟩ r5 ⟨rh12.lf.mono (by decide),r0.lf.mono (by decide),rm13.lf.mono (by decide),r5.lf.mono (by decide),fun ⟨e,_,_⟩=>nV (a:=mkRat 1 2) (by kernel_rfl) e,by kernel_rfl,by kernel_rfl,by kernel_rfl,by kernel_rfl,by constructor <;> omega,by constructor <;> omega,by constructor <;> omega,r30⟩
 simp only [vS,uC,fZ,sO,hS,kU,gL,x0,x30,x5,xh12,xm13] at h
 exact h.lits (.ag (.txt (.txt (.txt .nil))) (.txt .nil)) (.ag (.same (.same (.same (.txt .nil)))) (.same .nil))
theorem eThrough:jX 23 [(.fv (.ag [.lit (.string ⟨#[49]⟩),.lit (.string ⟨#[48]⟩),.lit (.string ⟨#[48]⟩)]):AV Kn),(.fv (.ag [.lit (.string ⟨#[48]⟩),.lit (.string ⟨#[49]⟩),.lit (.string ⟨#[48]⟩)]):AV Kn),(.fv (.ag [.lit (.string ⟨#[48]⟩),.lit (.string ⟨#[48]⟩),.lit (.string ⟨#[49]⟩)]):AV Kn)] (.tup [.ag [.lit (.int .i64 (1)),.lit (.int .i64 (1)),.lit (.int .i64 (1)),.lit (.string ⟨#[49]⟩)],.sc z0]):=by
 have h:=apiThroughF (a1:=((1:Int):Rat)) (a2:=((0:Int):Rat)) (a3:=((0:Int):Rat)) (b1:=((0:Int):Rat)) (b2:=((1:Int):Rat)) (b3:=((0:Int):Rat)) (c1:=((0:Int):Rat)) (c2:=((0:Int):Rat)) (c3:=((1:Int):Rat)) (m1:=((1:Int):Rat)) (m2:=((1:Int):Rat)) (m3:=((1:Int):Rat)) (z1:=1) (z2:=1) (z3:=1) (e:=((1:Int):Rat)) ⟨r1,r0,r0⟩ ⟨r0,r1,r0⟩ ⟨r0,r0,r1⟩ (by kernel_rfl) (by kernel_rfl) (by kernel_rfl) ⟨r1.lf.mono (by decide),r1.lf.mono (by decide),r1.lf.mono (by decide),by rw [show dt ((1:Int):Rat) ((1:Int):Rat) ((1:Int):Rat) ((1:Int):Rat) ((0:Int):Rat) ((0:Int):Rat)=((1:Int):Rat) from by kernel_rfl];exact r1.lf.mono (by decide),fun ⟨e,_,_⟩=>nV (a:=((1:Int):Rat)) (by kernel_rfl) e,by kernel_rfl,by kernel_rfl,by kernel_rfl,by kernel_rfl,by constructor <;> omega,by constructor <;> omega,by constructor <;> omega,r1⟩
 simp only [vS,uC,fZ,sO,hS,kU,gL,x0,x1] at h
 exact h.lits (.ag (.txt (.txt (.txt .nil))) (.ag (.txt (.txt (.txt .nil))) (.ag (.txt (.txt (.txt .nil))) .nil))) (.ag (.same (.same (.same (.txt .nil)))) (.same .nil))
theorem eMirror:jX 9 [(.fv (.ag [.lit (.int .i64 (1)),.lit (.int .i64 (1)),.lit (.int .i64 (1)),.lit (.string ⟨#[49]⟩)]):AV Kn),(.fv (.ag [.lit (.string ⟨#[48]⟩),.lit (.string ⟨#[48]⟩),.lit (.string ⟨#[48]⟩)]):AV Kn)] (.tup [.ag [.lit (.string ⟨#[50,47,51]⟩),.lit (.string ⟨#[50,47,51]⟩),.lit (.string ⟨#[50,47,51]⟩)],.sc z0]):=by
 have h:=nL (z1:=1) (z2:=1) (z3:=1) (d:=((1:Int):Rat)) (p1:=((0:Int):Rat)) (p2:=((0:Int):Rat)) (p3:=((0:Int):Rat)) (m1:=mkRat 2 3) (m2:=mkRat 2 3) (m3:=mkRat 2 3) (hv111 r1) ⟨r0,r0,r0⟩ (nV (by kernel_rfl)) (by kernel_rfl) (by kernel_rfl) (by kernel_rfl) ⟨rq23,rq23,rq23⟩
 simp only [vS,uC,fZ,sO,hS,kU,gL,x0,x1,xq23] at h
 exact h.lits (.ag (.same (.same (.same (.txt .nil)))) (.ag (.txt (.txt (.txt .nil))) .nil)) (.ag (.txt (.txt (.txt .nil))) (.same .nil))
theorem ePlace:jX 24 [(.fv (.ag [.lit (.string ⟨#[49]⟩),.lit (.string ⟨#[48]⟩),.lit (.string ⟨#[48]⟩),.lit (.string ⟨#[51]⟩),.lit (.string ⟨#[52]⟩),.lit (.string ⟨#[48]⟩),.lit (.string ⟨#[45,52]⟩),.lit (.string ⟨#[51]⟩),.lit (.string ⟨#[48]⟩),.lit (.string ⟨#[48]⟩),.lit (.string ⟨#[48]⟩),.lit (.string ⟨#[53]⟩)]):AV Kn),(.fv (.ag [.lit (.string ⟨#[49]⟩),.lit (.string ⟨#[49]⟩),.lit (.string ⟨#[49]⟩)]):AV Kn)] (.tup [.ag [.lit (.string ⟨#[48]⟩),.lit (.string ⟨#[55]⟩),.lit (.string ⟨#[53]⟩)],.sc z0]):=by
 have h:=apiPlaceF (o1:=((1:Int):Rat)) (o2:=((0:Int):Rat)) (o3:=((0:Int):Rat)) (x1:=((3:Int):Rat)) (x2:=((4:Int):Rat)) (x3:=((0:Int):Rat)) (y1:=((-4:Int):Rat)) (y2:=((3:Int):Rat)) (y3:=((0:Int):Rat)) (z1:=((0:Int):Rat)) (z2:=((0:Int):Rat)) (z3:=((5:Int):Rat)) (p1:=((1:Int):Rat)) (p2:=((1:Int):Rat)) (p3:=((1:Int):Rat)) (m1:=((0:Int):Rat)) (m2:=((7:Int):Rat)) (m3:=((5:Int):Rat)) fvF ⟨r1,r1,r1⟩ (by kernel_rfl) (by kernel_rfl) (by kernel_rfl) ⟨r0,r7,r5⟩
 simp only [vS,uC,fZ,sO,hS,kU,gL,x0,x1,x3,x4,x5,x7,xm4] at h
 exact h.lits (.ag (.txt (.txt (.txt (.txt (.txt (.txt (.txt (.txt (.txt (.txt (.txt (.txt (.nil))))))))))))) (.ag (.txt (.txt (.txt .nil))) .nil)) (.ag (.txt (.txt (.txt .nil))) (.same .nil))
theorem r325:Wr (mkRat 3 25):=wr_q (by rw [show (mkRat 3 25).num=3 from by kernel_rfl];decide) (by rw [show (mkRat 3 25).den=25 from by kernel_rfl];decide)
theorem r425:Wr (mkRat 4 25):=wr_q (by rw [show (mkRat 4 25).num=4 from by kernel_rfl];decide) (by rw [show (mkRat 4 25).den=25 from by kernel_rfl];decide)
theorem r2825:Wr (mkRat 28 25):=wr_q (by rw [show (mkRat 28 25).num=28 from by kernel_rfl];decide) (by rw [show (mkRat 28 25).den=25 from by kernel_rfl];decide)
theorem ePlaceHalf:jX 26 [(.fv (.ag [.lit (.string ⟨#[49]⟩),.lit (.string ⟨#[48]⟩),.lit (.string ⟨#[48]⟩),.lit (.string ⟨#[51]⟩),.lit (.string ⟨#[52]⟩),.lit (.string ⟨#[48]⟩),.lit (.string ⟨#[45,52]⟩),.lit (.string ⟨#[51]⟩),.lit (.string ⟨#[48]⟩),.lit (.string ⟨#[48]⟩),.lit (.string ⟨#[48]⟩),.lit (.string ⟨#[53]⟩)]):AV Kn),(.fv (.ag [.lit (.int .i64 (1)),.lit (.int .i64 (0)),.lit (.int .i64 (0)),.lit (.string ⟨#[49]⟩)]):AV Kn)] (.tup [.ag [.lit (.int .i64 (3)),.lit (.int .i64 (4)),.lit (.int .i64 (0)),.lit (.string ⟨#[50,56]⟩)],.sc z0]):=by
 have h:=zE (o1:=((1:Int):Rat)) (o2:=((0:Int):Rat)) (o3:=((0:Int):Rat)) (x1:=((3:Int):Rat)) (x2:=((4:Int):Rat)) (x3:=((0:Int):Rat)) (y1:=((-4:Int):Rat)) (y2:=((3:Int):Rat)) (y3:=((0:Int):Rat)) (z1:=((0:Int):Rat)) (z2:=((0:Int):Rat)) (z3:=((5:Int):Rat)) (n1:=1) (n2:=0) (n3:=0) (d:=((1:Int):Rat)) (k1:=3) (k2:=4) (k3:=0) (e:=((28:Int):Rat)) fvF (hv100 r1) ⟨nV (by kernel_rfl),nV (by kernel_rfl),nV (by kernel_rfl)⟩ (q1:=mkRat 3 25) (q2:=mkRat 4 25) (q3:=((0:Int):Rat)) (by kernel_rfl) (by kernel_rfl) (by kernel_rfl) ⟨r325.lf.mono (by decide),r425.lf.mono (by decide),r0.lf.mono (by decide),by rw [show ((1:Int):Rat)+dt (mkRat 3 25) (mkRat 4 25) ((0:Int):Rat) ((1:Int):Rat) ((0:Int):Rat) ((0:Int):Rat)=mkRat 28 25 from by kernel_rfl];exact r2825.lf.mono (by decide),fun ⟨e,_,_⟩=>nV (a:=mkRat 3 25) (by kernel_rfl) e,by kernel_rfl,by kernel_rfl,by kernel_rfl,by kernel_rfl,by constructor <;> omega,by constructor <;> omega,by constructor <;> omega,r28⟩
 simp only [vS,uC,fZ,sO,hS,kU,gL,x0,x1,x28,x3,x4,x5,xm4] at h
 exact h.lits (.ag (.txt (.txt (.txt (.txt (.txt (.txt (.txt (.txt (.txt (.txt (.txt (.txt (.nil))))))))))))) (.ag (.same (.same (.same (.txt .nil)))) .nil)) (.ag (.same (.same (.same (.txt .nil)))) (.same .nil))
theorem td_100:jF 83 [num ((1:Int):Rat),vc ((0:Int):Rat) ((0:Int):Rat) ((1:Int):Rat),vc ((1:Int):Rat) ((0:Int):Rat) ((0:Int):Rat)] (vc ((0:Int):Rat) ((1:Int):Rat) ((0:Int):Rat)):=by
 have h:=turnedF (w:=((1:Int):Rat)) (u1:=((0:Int):Rat)) (u2:=((0:Int):Rat)) (u3:=((1:Int):Rat)) (v1:=((1:Int):Rat)) (v2:=((0:Int):Rat)) (v3:=((0:Int):Rat)) (r1.lf.mono (by decide)) (r0.lf.mono (by decide)) (r0.lf.mono (by decide)) (r1.lf.mono (by decide)) (r1.lf.mono (by decide)) (r0.lf.mono (by decide)) (r0.lf.mono (by decide)) (nV (by kernel_rfl))
 exact vc_eq h (by kernel_rfl) (by kernel_rfl) (by kernel_rfl)
theorem td_010:jF 83 [num ((1:Int):Rat),vc ((0:Int):Rat) ((0:Int):Rat) ((1:Int):Rat),vc ((0:Int):Rat) ((1:Int):Rat) ((0:Int):Rat)] (vc ((-1:Int):Rat) ((0:Int):Rat) ((0:Int):Rat)):=by
 have h:=turnedF (w:=((1:Int):Rat)) (u1:=((0:Int):Rat)) (u2:=((0:Int):Rat)) (u3:=((1:Int):Rat)) (v1:=((0:Int):Rat)) (v2:=((1:Int):Rat)) (v3:=((0:Int):Rat)) (r1.lf.mono (by decide)) (r0.lf.mono (by decide)) (r0.lf.mono (by decide)) (r1.lf.mono (by decide)) (r0.lf.mono (by decide)) (r1.lf.mono (by decide)) (r0.lf.mono (by decide)) (nV (by kernel_rfl))
 exact vc_eq h (by kernel_rfl) (by kernel_rfl) (by kernel_rfl)
theorem td_001:jF 83 [num ((1:Int):Rat),vc ((0:Int):Rat) ((0:Int):Rat) ((1:Int):Rat),vc ((0:Int):Rat) ((0:Int):Rat) ((1:Int):Rat)] (vc ((0:Int):Rat) ((0:Int):Rat) ((1:Int):Rat)):=by
 have h:=turnedF (w:=((1:Int):Rat)) (u1:=((0:Int):Rat)) (u2:=((0:Int):Rat)) (u3:=((1:Int):Rat)) (v1:=((0:Int):Rat)) (v2:=((0:Int):Rat)) (v3:=((1:Int):Rat)) (r1.lf.mono (by decide)) (r0.lf.mono (by decide)) (r0.lf.mono (by decide)) (r1.lf.mono (by decide)) (r0.lf.mono (by decide)) (r0.lf.mono (by decide)) (r1.lf.mono (by decide)) (nV (by kernel_rfl))
 exact vc_eq h (by kernel_rfl) (by kernel_rfl) (by kernel_rfl)
theorem eTurn:jX 27 [(.fv (.ag [.lit (.string ⟨#[49]⟩),.lit (.string ⟨#[48]⟩),.lit (.string ⟨#[48]⟩),.lit (.string ⟨#[49]⟩)]):AV Kn)] (.tup [.ag [.lit (.string ⟨#[48]⟩),.lit (.string ⟨#[48]⟩),.lit (.string ⟨#[48]⟩),.lit (.string ⟨#[48]⟩),.lit (.string ⟨#[49]⟩),.lit (.string ⟨#[48]⟩),.lit (.string ⟨#[45,49]⟩),.lit (.string ⟨#[48]⟩),.lit (.string ⟨#[48]⟩),.lit (.string ⟨#[48]⟩),.lit (.string ⟨#[48]⟩),.lit (.string ⟨#[49]⟩)],.sc z0]):=by
 have h:=apiTurnF (w:=((1:Int):Rat)) (u1:=((0:Int):Rat)) (u2:=((0:Int):Rat)) (u3:=((1:Int):Rat)) (b:=false) r1 ⟨r0,r0,r1⟩ (by kernel_rfl) (fun h=>by cases h) td_100 td_010 td_001 ⟨⟨r0,r0,r0⟩,⟨r0,r1,r0⟩,⟨rm1,r0,r0⟩,⟨r0,r0,r1⟩⟩
 simp only [vS,uC,fZ,sO,hS,kU,gL,x0,x1,xm1] at h
 exact h.lits (.ag (.txt (.txt (.txt (.txt .nil)))) .nil) (.ag (.txt (.txt (.txt (.txt (.txt (.txt (.txt (.txt (.txt (.txt (.txt (.txt (.nil))))))))))))) (.same .nil))
theorem eCompose:jX 28 [(.fv (.ag [.lit (.string ⟨#[49]⟩),.lit (.string ⟨#[48]⟩),.lit (.string ⟨#[48]⟩),.lit (.string ⟨#[51]⟩),.lit (.string ⟨#[52]⟩),.lit (.string ⟨#[48]⟩),.lit (.string ⟨#[45,52]⟩),.lit (.string ⟨#[51]⟩),.lit (.string ⟨#[48]⟩),.lit (.string ⟨#[48]⟩),.lit (.string ⟨#[48]⟩),.lit (.string ⟨#[53]⟩)]):AV Kn),(.fv (.ag [.lit (.string ⟨#[49]⟩),.lit (.string ⟨#[48]⟩),.lit (.string ⟨#[48]⟩),.lit (.string ⟨#[51]⟩),.lit (.string ⟨#[52]⟩),.lit (.string ⟨#[48]⟩),.lit (.string ⟨#[45,52]⟩),.lit (.string ⟨#[51]⟩),.lit (.string ⟨#[48]⟩),.lit (.string ⟨#[48]⟩),.lit (.string ⟨#[48]⟩),.lit (.string ⟨#[53]⟩)]):AV Kn)] (.tup [.ag [.lit (.string ⟨#[52]⟩),.lit (.string ⟨#[52]⟩),.lit (.string ⟨#[48]⟩),.lit (.string ⟨#[45,55]⟩),.lit (.string ⟨#[50,52]⟩),.lit (.string ⟨#[48]⟩),.lit (.string ⟨#[45,50,52]⟩),.lit (.string ⟨#[45,55]⟩),.lit (.string ⟨#[48]⟩),.lit (.string ⟨#[48]⟩),.lit (.string ⟨#[48]⟩),.lit (.string ⟨#[50,53]⟩)],.sc z0]):=by
 have h:=apiComposeF fvF fvF (q1:=((4:Int):Rat)) (q2:=((4:Int):Rat)) (q3:=((0:Int):Rat)) (r1:=((-7:Int):Rat)) (r2:=((24:Int):Rat)) (r3:=((0:Int):Rat)) (s1:=((-24:Int):Rat)) (s2:=((-7:Int):Rat)) (s3:=((0:Int):Rat)) (t1:=((0:Int):Rat)) (t2:=((0:Int):Rat)) (t3:=((25:Int):Rat)) (by kernel_rfl) (by kernel_rfl) (by kernel_rfl) (by kernel_rfl) (by kernel_rfl) (by kernel_rfl) (by kernel_rfl) (by kernel_rfl) (by kernel_rfl) (by kernel_rfl) (by kernel_rfl) (by kernel_rfl) ⟨⟨r4,r4,r0⟩,⟨rm7,r24,r0⟩,⟨rm24,rm7,r0⟩,⟨r0,r0,r25⟩⟩ (by kernel_rfl) (by kernel_rfl) (by kernel_rfl)
 simp only [vS,uC,fZ,sO,hS,kU,gL,x0,x1,x24,x25,x3,x4,x5,xm24,xm4,xm7] at h
 exact h.lits (.ag (.txt (.txt (.txt (.txt (.txt (.txt (.txt (.txt (.txt (.txt (.txt (.txt (.nil))))))))))))) (.ag (.txt (.txt (.txt (.txt (.txt (.txt (.txt (.txt (.txt (.txt (.txt (.txt (.nil))))))))))))) .nil)) (.ag (.txt (.txt (.txt (.txt (.txt (.txt (.txt (.txt (.txt (.txt (.txt (.txt (.nil))))))))))))) (.same .nil))
theorem eMeet:jX 6 [(.fv (.ag [.lit (.int .i64 (1)),.lit (.int .i64 (1)),.lit (.int .i64 (1)),.lit (.string ⟨#[49,48]⟩)]):AV Kn),(.fv (.ag [.lit (.string ⟨#[48]⟩),.lit (.string ⟨#[48]⟩),.lit (.string ⟨#[48]⟩)]):AV Kn),(.fv (.ag [.lit (.string ⟨#[49]⟩),.lit (.string ⟨#[49]⟩),.lit (.string ⟨#[48]⟩)]):AV Kn)] (.tup [.ag [.lit (.string ⟨#[53]⟩),.lit (.string ⟨#[53]⟩),.lit (.string ⟨#[48]⟩)],.sc z0]):=by
 have h:=apiMeetF (z1:=1) (z2:=1) (z3:=1) (d:=((10:Int):Rat)) (p1:=((0:Int):Rat)) (p2:=((0:Int):Rat)) (p3:=((0:Int):Rat)) (v1:=((1:Int):Rat)) (v2:=((1:Int):Rat)) (v3:=((0:Int):Rat)) (m1:=((5:Int):Rat)) (m2:=((5:Int):Rat)) (m3:=((0:Int):Rat)) (hv111 r10) ⟨r0,r0,r0⟩ ⟨r1,r1,r0⟩ (nV (by kernel_rfl)) (by kernel_rfl) (by kernel_rfl) (by kernel_rfl) ⟨r5,r5,r0⟩
 simp only [vS,uC,fZ,sO,hS,kU,gL,x0,x1,x10,x5] at h
 exact h.lits (.ag (.same (.same (.same (.txt .nil)))) (.ag (.txt (.txt (.txt .nil))) (.ag (.txt (.txt (.txt .nil))) .nil))) (.ag (.txt (.txt (.txt .nil))) (.same .nil))
theorem eSide:jX 29 [(.fv (.ag [.lit (.int .i64 (3)),.lit (.int .i64 (0)),.lit (.int .i64 (-2)),.lit (.string ⟨#[51,48]⟩)]):AV Kn),(.fv (.ag [.lit (.string ⟨#[49,48]⟩),.lit (.string ⟨#[55]⟩),.lit (.string ⟨#[49]⟩)]):AV Kn)] (.tup [.sc (.lit (.int .i64 (-1))),.sc z0]):=by
 have h:=apiSideF (z1:=3) (z2:=0) (z3 := -2) (d:=((30:Int):Rat)) (p1:=((10:Int):Rat)) (p2:=((7:Int):Rat)) (p3:=((1:Int):Rat)) (s := -1) (hv302 r30) ⟨r10,r7,r1⟩ (by kernel_rfl)
 simp only [vS,uC,fZ,sO,hS,kU,gL,x1,x10,x30,x7] at h
 exact h.lits (.ag (.same (.same (.same (.txt .nil)))) (.ag (.txt (.txt (.txt .nil))) .nil)) (.same (.same .nil))
set_option maxRecDepth 100000 in
theorem pA:jX 4 ([]:List (AV Kn)) (bl true):=by
 refine jY Tryz.func4 fun w00 hI=>?_
 refine jW hI 19 [lt ⟨#[49,50,46,53,48]⟩] (eParse) ?_
 refine jC 21 [it (2),it (0),it (4)] (lv_2_0_4) ?_
 refine jC 21 [it (-1),it (0),it (-2)] (lv_m1_0_m2) ?_
 refine jW hI 20 [(.fv (.ag [.lit (.string ⟨#[50]⟩),.lit (.string ⟨#[48]⟩),.lit (.string ⟨#[52]⟩)])),(.fv (.ag [.lit (.string ⟨#[45,49]⟩),.lit (.string ⟨#[48]⟩),.lit (.string ⟨#[45,50]⟩)]))] (eAlong) ?_
 refine jW hI 22 [(.fv (.ag [.lit (.string ⟨#[49,47,50]⟩),.lit (.string ⟨#[48]⟩),.lit (.string ⟨#[45,49,47,51]⟩)])),lt ⟨#[53]⟩] (eMake) ?_
 refine jC 21 [it (1),it (0),it (0)] (lv_1_0_0) ?_
 refine jC 21 [it (0),it (1),it (0)] (lv_0_1_0) ?_
 refine jC 21 [it (0),it (0),it (1)] (lv_0_0_1) ?_
 refine jW hI 23 [(.fv (.ag [.lit (.string ⟨#[49]⟩),.lit (.string ⟨#[48]⟩),.lit (.string ⟨#[48]⟩)])),(.fv (.ag [.lit (.string ⟨#[48]⟩),.lit (.string ⟨#[49]⟩),.lit (.string ⟨#[48]⟩)])),(.fv (.ag [.lit (.string ⟨#[48]⟩),.lit (.string ⟨#[48]⟩),.lit (.string ⟨#[49]⟩)]))] (eThrough) ?_
 refine jC 21 [it (0),it (0),it (0)] (lv_0_0_0) ?_
 refine jW hI 9 [(.fv (.ag [.lit (.int .i64 (1)),.lit (.int .i64 (1)),.lit (.int .i64 (1)),.lit (.string ⟨#[49]⟩)])),(.fv (.ag [.lit (.string ⟨#[48]⟩),.lit (.string ⟨#[48]⟩),.lit (.string ⟨#[48]⟩)]))] (eMirror) ?_
 refine jC 25 [] (lframe) ?_
 refine jC 21 [it (1),it (1),it (1)] (lv_1_1_1) ?_
 refine jW hI 24 [(.fv (.ag [.lit (.string ⟨#[49]⟩),.lit (.string ⟨#[48]⟩),.lit (.string ⟨#[48]⟩),.lit (.string ⟨#[51]⟩),.lit (.string ⟨#[52]⟩),.lit (.string ⟨#[48]⟩),.lit (.string ⟨#[45,52]⟩),.lit (.string ⟨#[51]⟩),.lit (.string ⟨#[48]⟩),.lit (.string ⟨#[48]⟩),.lit (.string ⟨#[48]⟩),.lit (.string ⟨#[53]⟩)])),(.fv (.ag [.lit (.string ⟨#[49]⟩),.lit (.string ⟨#[49]⟩),.lit (.string ⟨#[49]⟩)]))] (ePlace) ?_
 refine jC 25 [] (lframe) ?_
 refine jW hI 26 [(.fv (.ag [.lit (.string ⟨#[49]⟩),.lit (.string ⟨#[48]⟩),.lit (.string ⟨#[48]⟩),.lit (.string ⟨#[51]⟩),.lit (.string ⟨#[52]⟩),.lit (.string ⟨#[48]⟩),.lit (.string ⟨#[45,52]⟩),.lit (.string ⟨#[51]⟩),.lit (.string ⟨#[48]⟩),.lit (.string ⟨#[48]⟩),.lit (.string ⟨#[48]⟩),.lit (.string ⟨#[53]⟩)])),(.fv (.ag [.lit (.int .i64 (1)),.lit (.int .i64 (0)),.lit (.int .i64 (0)),.lit (.string ⟨#[49]⟩)]))] (ePlaceHalf) ?_
 refine jW hI 27 [(.fv (.ag [.lit (.string ⟨#[49]⟩),.lit (.string ⟨#[48]⟩),.lit (.string ⟨#[48]⟩),.lit (.string ⟨#[49]⟩)]))] (eTurn) ?_
 refine jC 25 [] (lframe) ?_
 refine jC 25 [] (lframe) ?_
 refine jW hI 28 [(.fv (.ag [.lit (.string ⟨#[49]⟩),.lit (.string ⟨#[48]⟩),.lit (.string ⟨#[48]⟩),.lit (.string ⟨#[51]⟩),.lit (.string ⟨#[52]⟩),.lit (.string ⟨#[48]⟩),.lit (.string ⟨#[45,52]⟩),.lit (.string ⟨#[51]⟩),.lit (.string ⟨#[48]⟩),.lit (.string ⟨#[48]⟩),.lit (.string ⟨#[48]⟩),.lit (.string ⟨#[53]⟩)])),(.fv (.ag [.lit (.string ⟨#[49]⟩),.lit (.string ⟨#[48]⟩),.lit (.string ⟨#[48]⟩),.lit (.string ⟨#[51]⟩),.lit (.string ⟨#[52]⟩),.lit (.string ⟨#[48]⟩),.lit (.string ⟨#[45,52]⟩),.lit (.string ⟨#[51]⟩),.lit (.string ⟨#[48]⟩),.lit (.string ⟨#[48]⟩),.lit (.string ⟨#[48]⟩),.lit (.string ⟨#[53]⟩)]))] (eCompose) ?_
 refine jC 21 [it (0),it (0),it (0)] (lv_0_0_0) ?_
 refine jC 21 [it (1),it (1),it (0)] (lv_1_1_0) ?_
 refine jW hI 6 [(.fv (.ag [.lit (.int .i64 (1)),.lit (.int .i64 (1)),.lit (.int .i64 (1)),.lit (.string ⟨#[49,48]⟩)])),(.fv (.ag [.lit (.string ⟨#[48]⟩),.lit (.string ⟨#[48]⟩),.lit (.string ⟨#[48]⟩)])),(.fv (.ag [.lit (.string ⟨#[49]⟩),.lit (.string ⟨#[49]⟩),.lit (.string ⟨#[48]⟩)]))] (eMeet) ?_
 refine jC 21 [it (0),it (7),it (5)] (lv_0_7_5) ?_
 refine jC 21 [it (0),it (1),it (0)] (lv_0_1_0) ?_
 refine jC 21 [it (-1),it (0),it (0)] (lv_m1_0_0) ?_
 refine jC 21 [it (4),it (4),it (0)] (lv_4_4_0) ?_
 refine jC 21 [it (-7),it (24),it (0)] (lv_m7_24_0) ?_
 refine jC 21 [it (5),it (5),it (0)] (lv_5_5_0) ?_
 refine jC 21 [it (10),it (7),it (1)] (lv_10_7_1) ?_
 refine jW hI 29 [(.fv (.ag [.lit (.int .i64 (3)),.lit (.int .i64 (0)),.lit (.int .i64 (-2)),.lit (.string ⟨#[51,48]⟩)])),(.fv (.ag [.lit (.string ⟨#[49,48]⟩),.lit (.string ⟨#[55]⟩),.lit (.string ⟨#[49]⟩)]))] (eSide) ?_
 refine jC 30 [lt ⟨#[112,111,115,116,95,49]⟩] (isNameF (b:=true) (by kernel_rfl)) ?_
 refine jC 30 [lt ⟨#[49,112,111,115,116]⟩] (isNameF (b:=false) (by kernel_rfl)) ?_
 exact jR Tryz.func4
theorem vN {f:FuncId} {w00:World} {c:Cfg Kn} {fn:Func} {z:Int} (hfn:Tryz.prog.funcs[f]?=some fn) (hc:c.res Tryz.prog fn=some (it z)):Ok Tryz.prog f w00 (fun v w=>(AV.fv (.sc (fW z)):AV Kn).holds [] v w) c :=
 ⟨xI hfn (it z) hc fun _ _ _ h=>h.1⟩
abbrev hA (a b c:Int) (s:ByteArray):AV Kn := .fv (.ag [fW a,fW b,fW c,dB s])
abbrev hL (a b c:Int) (s:ByteArray):AV Kn := .fv (.ag [.lit (.int .i64 a),.lit (.int .i64 b),.lit (.int .i64 c),dB s])
theorem hL_A {a b c:Int} {s:ByteArray} (β:List Nat) (v:Value) (w:World) (h:(hL a b c s).holds β v w):(hA a b c s).holds β v w:=by
 obtain ⟨cs,e,x1,r1,e1,h1,x2,r2,e2,h2,x3,r3,e3,h3,hr⟩:=h
 exact ⟨cs,e,x1,r1,e1,h1.1,x2,r2,e2,h2.1,x3,r3,e3,h3.1,hr⟩
theorem iv_i3 {a b c:Int} (β:List Nat) (v:Value) (w:World) (h:(iv a b c).holds β v w):(i3 a b c).holds β v w:=by
 obtain ⟨cs,e,x1,r1,e1,h1,x2,r2,e2,h2,x3,r3,e3,h3,hr⟩:=h
 exact ⟨cs,e,x1,r1,e1,h1.1,x2,r2,e2,h2.1,x3,r3,e3,h3.1,hr⟩
abbrev Bg (z:Int):Prop:=z < -999999999∨999999999<z
def hkZ (a b c k:Int):Int:=if a=0∧b=0∧c=0 then 6 else if Bg a∨Bg b∨Bg c then 3 else if Int.gcd (Int.gcd a b:Int) c≠1 then 1 else k
section
variable {a b c:Int} {s:ByteArray}
theorem checkHalfF {k z:Int} (hk:jF 48 [tx s] (.fv (.sc (fW k)))) (hz:hkZ a b c k=z):jF 11 [hA a b c s] (.fv (.sc (fW z))):=by
 unfold hkZ at hz
 refine jG Tryz.func11 fun w00=>?_
 by_cases h0:a=0∧b=0∧c=0
 ·obtain rfl:z=6:=by rw [← hz,if_pos h0]
  refine kz3 (.tmp 5) (.tmp 6) a b c true (by simp [h0]) ?_
  exact vN Tryz.func11 (by kernel_rfl)
 rw [if_neg h0] at hz
 refine kz3 (.tmp 5) (.tmp 6) a b c false (by rw [Bool.eq_false_iff];simp;omega) ?_
 have e3:∀ {x:Int},x=a∨x=b∨x=c→Bg x→z=3:=fun hx h=>by
  rw [← hz,if_pos (by rcases hx with rfl|rfl|rfl <;> simp only [h,true_or,or_true])]
 by_cases a1:a < -999999999
 ·obtain rfl:=e3 (.inl rfl) (.inl a1)
  refine klt (.tmp 15) (.const (.int .i64 (-999999999))) a _ true _ bH (decide_eq_true a1) ?_
  exact vN Tryz.func11 (by kernel_rfl)
 refine klt (.tmp 15) (.const (.int .i64 (-999999999))) a _ false _ bH (decide_eq_false a1) ?_
 by_cases a2:999999999<a
 ·obtain rfl:=e3 (.inl rfl) (.inr a2)
  refine kgg (.tmp 21) (.const (.int .i64 999999999)) a _ true _ bH (decide_eq_true a2) ?_
  exact vN Tryz.func11 (by kernel_rfl)
 refine kgg (.tmp 21) (.const (.int .i64 999999999)) a _ false _ bH (decide_eq_false a2) ?_
 by_cases b1:b < -999999999
 ·obtain rfl:=e3 (.inr (.inl rfl)) (.inl b1)
  refine klt (.tmp 15) (.const (.int .i64 (-999999999))) b _ true _ bH (decide_eq_true b1) ?_
  exact vN Tryz.func11 (by kernel_rfl)
 refine klt (.tmp 15) (.const (.int .i64 (-999999999))) b _ false _ bH (decide_eq_false b1) ?_
 by_cases b2:999999999<b
 ·obtain rfl:=e3 (.inr (.inl rfl)) (.inr b2)
  refine kgg (.tmp 21) (.const (.int .i64 999999999)) b _ true _ bH (decide_eq_true b2) ?_
  exact vN Tryz.func11 (by kernel_rfl)
 refine kgg (.tmp 21) (.const (.int .i64 999999999)) b _ false _ bH (decide_eq_false b2) ?_
 by_cases c1:c < -999999999
 ·obtain rfl:=e3 (.inr (.inr rfl)) (.inl c1)
  refine klt (.tmp 15) (.const (.int .i64 (-999999999))) c _ true _ bH (decide_eq_true c1) ?_
  exact vN Tryz.func11 (by kernel_rfl)
 refine klt (.tmp 15) (.const (.int .i64 (-999999999))) c _ false _ bH (decide_eq_false c1) ?_
 by_cases c2:999999999<c
 ·obtain rfl:=e3 (.inr (.inr rfl)) (.inr c2)
  refine kgg (.tmp 21) (.const (.int .i64 999999999)) c _ true _ bH (decide_eq_true c2) ?_
  exact vN Tryz.func11 (by kernel_rfl)
 refine kgg (.tmp 21) (.const (.int .i64 999999999)) c _ false _ bH (decide_eq_false c2) ?_
 rw [if_neg (by unfold Bg;omega)] at hz
 have hg:=intGcdF (a:=a) (b:=b) (by omega) (by omega)
 have hs:=size_gcd (a:=a) (b:=b) (by omega) (by omega)
 have hg2:=intGcdF (a:=(Int.gcd a b:Int)) (b:=c) hs (by omega)
 clear e3 hs
 generalize (Int.gcd a b:Int)=g at *
 generalize Int.gcd g c=g2 at *
 refine jC 47 [.fv (.sc (fW a)),.fv (.sc (fW b))] (hg) ?_
 refine jC 47 [.fv (.sc (fW g)),.fv (.sc (fW c))] (hg2) ?_
 by_cases g1:g2=1
 ·rw [if_neg (by omega)] at hz
  subst hz
  refine kne (.tmp 34) (.const (.int .i64 1)) (g2:Int) 1 false _ bH (by rw [g1];rfl) ?_
  refine jC 48 [tx s] (hk) ?_
  exact jR Tryz.func11
 ·obtain rfl:z=1:=by rw [← hz,if_pos g1]
  refine kne (.tmp 34) (.const (.int .i64 1)) (g2:Int) 1 true _ bH (by simp;omega) ?_
  exact vN Tryz.func11 (by kernel_rfl)
end
abbrev Eh (z:Int):Prop:=z=0∨z=1∨z=3∨z=4∨z=6
theorem pC {z:Int} (h:Ev z):Eh z:=by rcases h with h|h|h <;> simp [Eh,h]
theorem f2_eh {x y:Int} (hx:Eh x) (hy:Eh y):Eh (f2 x y):=by unfold f2;split <;> assumption
theorem yU {T:TypeId} {x y z:Int} (hx:Eh x) (hy:Eh y) (hz:f2 x y=z):jF 34 [.fv (.nsl 2 T [lz x,lz y])] (it z):=by
 rcases hx with rfl|rfl|rfl|rfl|rfl
 ·have hz:y=z:=hz
  subst hz
  rcases hy with rfl|rfl|rfl|rfl|rfl <;> (refine mA Tryz.func34 (by kernel_rfl) fun w00=>?_;exact kret Tryz.func34 (by kernel_rfl))
 all_goals
  have hz:_=z:=hz
  subst hz
  refine mA Tryz.func34 (by kernel_rfl) fun w00=>?_
  exact jR Tryz.func34
theorem lit_isU {f:FuncId} {l:List (AV Kn)} {x:Int} (h:jF f l (.fv (.sc (.lit (.int .u64 x))))):jF f l (.fv (.sc (isU x))):=Fits.res h fun β v w k=>by
 have:=aM k
 rw [this];exact bE
theorem une_run {o:Oper} {ρ:Operand→Value} {w:World} {x y:Operand} {a b:Int} {r:Bool} {T T' : TypeId} (ho:o.op = .binOp .neq T x y T') (hx:ρ x = .int .u64 a) (hy:ρ y = .int .u64 b) (h:(a != b)=r) :
 (execOp ρ o).run Tryz.prog w = .ok (.value (.bool r)) w:=by
 simp only [execOp,ho,hx,hy]
 refine bI ?_
 rw [← h]
 exact bO (by kernel_rfl) w
section
variable {a b c z:Int}
theorem hk_values (k:Int) (h:Ev k):Eh (hkZ a b c k):=by
 unfold hkZ
 split
 ·simp [Eh]
 split
 ·simp [Eh]
 split
 ·simp [Eh]
 ·exact pC h
theorem hk_first (k:Int):f2 (hkZ a b c 0) k=hkZ a b c k:=by
 unfold f2 hkZ
 split
 ·split <;> simp_all
 split
 ·split <;> simp_all
 split
 ·split <;> simp_all
 ·simp
theorem gP (hz:hkZ a b c 0=z):jF 93 [iv a b c] (it z):=by
 unfold hkZ at hz
 refine Fits.args (l := [i3 a b c]) ?_ fun β vs w ⟨v,r,e,h,hr⟩=>⟨v,r,e,iv_i3 β v w h,hr⟩
 by_cases h0:a=0∧b=0∧c=0
 ·rw [if_pos h0] at hz
  subst hz
  refine jG Tryz.func93 fun w00=>?_
  refine kz3 (.tmp 6) (.tmp 7) a b c true (by simp [h0]) ?_
  exact jR Tryz.func93
 rw [if_neg h0] at hz
 have w:∀ {x:Int},¬ Bg x→x.natAbs<aD:=fun h=>by unfold Bg at h;rw [aL];omega
 have hg:∀ {x y:Nat},x<aD→y<aD→Nat.gcd x y<aD:=fun {x y} hx hy=>by
  rcases Nat.eq_zero_or_pos y with e|e
  ·rw [e,Nat.gcd_zero_right];exact hx
  ·exact Nat.lt_of_le_of_lt (Nat.gcd_le_right _ e) hy
 refine jG Tryz.func93 fun w00=>?_
 refine kz3 (.tmp 6) (.tmp 7) a b c false (by rw [Bool.eq_false_iff];simp;omega) ?_
 have e3:Bg a∨Bg b∨Bg c→z=3:=fun h=>by rw [← hz,if_pos h]
 by_cases a1:a < -999999999
 ·obtain rfl:=e3 (.inl (.inl a1))
  refine klt (.tmp 13) (.const (.int .i64 (-999999999))) a (-999999999) true _ bH (decide_eq_true a1) ?_
  exact jR Tryz.func93
 refine klt (.tmp 13) (.const (.int .i64 (-999999999))) a (-999999999) false _ bH (decide_eq_false a1) ?_
 by_cases a2:999999999<a
 ·obtain rfl:=e3 (.inl (.inr a2))
  refine kgg (.tmp 16) (.const (.int .i64 999999999)) a 999999999 true _ bH (decide_eq_true a2) ?_
  exact jR Tryz.func93
 refine kgg (.tmp 16) (.const (.int .i64 999999999)) a 999999999 false _ bH (decide_eq_false a2) ?_
 have ha:¬ Bg a:=by unfold Bg;omega
 have g1:=dM (a:=0) (b:=a.natAbs) (by rw [aL];omega) (w ha)
 have l1:Nat.gcd 0 a.natAbs<aD:=hg (by rw [aL];omega) (w ha)
 obtain ⟨x1,hx1⟩:∃ x1,Nat.gcd 0 a.natAbs=x1:=⟨_,rfl⟩
 rw [hx1] at g1 l1
 refine kneg 21 a (by constructor <;> omega) (by constructor <;> omega) ?_
 refine kabs 20 22 a ?_
 refine kcvu 23 a.natAbs (by omega) ?_
 refine jC 152 [.fv (.sc (.lit (.int .u64 ((0:Nat):Int)))),.fv (.sc (.lit (.int .u64 (a.natAbs:Int))))] (g1) ?_
 by_cases b1:b < -999999999
 ·obtain rfl:=e3 (.inr (.inl (.inl b1)))
  refine klt (.tmp 13) (.const (.int .i64 (-999999999))) b (-999999999) true _ bH (decide_eq_true b1) ?_
  exact jR Tryz.func93
 refine klt (.tmp 13) (.const (.int .i64 (-999999999))) b (-999999999) false _ bH (decide_eq_false b1) ?_
 by_cases b2:999999999<b
 ·obtain rfl:=e3 (.inr (.inl (.inr b2)))
  refine kgg (.tmp 16) (.const (.int .i64 999999999)) b 999999999 true _ bH (decide_eq_true b2) ?_
  exact jR Tryz.func93
 refine kgg (.tmp 16) (.const (.int .i64 999999999)) b 999999999 false _ bH (decide_eq_false b2) ?_
 have hb:¬ Bg b:=by unfold Bg;omega
 have g2:=dM l1 (w hb)
 have l2:=hg l1 (w hb)
 obtain ⟨x2,hx2⟩:∃ x2,Nat.gcd x1 b.natAbs=x2:=⟨_,rfl⟩
 rw [hx2] at g2 l2
 refine kneg 21 b (by constructor <;> omega) (by constructor <;> omega) ?_
 refine kabs 20 22 b ?_
 refine kcvu 23 b.natAbs (by omega) ?_
 refine jC 152 [.fv (.sc (.lit (.int .u64 (x1:Int)))),.fv (.sc (.lit (.int .u64 (b.natAbs:Int))))] (g2) ?_
 by_cases c1:c < -999999999
 ·obtain rfl:=e3 (.inr (.inr (.inl c1)))
  refine klt (.tmp 13) (.const (.int .i64 (-999999999))) c (-999999999) true _ bH (decide_eq_true c1) ?_
  exact jR Tryz.func93
 refine klt (.tmp 13) (.const (.int .i64 (-999999999))) c (-999999999) false _ bH (decide_eq_false c1) ?_
 by_cases c2:999999999<c
 ·obtain rfl:=e3 (.inr (.inr (.inr c2)))
  refine kgg (.tmp 16) (.const (.int .i64 999999999)) c 999999999 true _ bH (decide_eq_true c2) ?_
  exact jR Tryz.func93
 refine kgg (.tmp 16) (.const (.int .i64 999999999)) c 999999999 false _ bH (decide_eq_false c2) ?_
 have hc:¬ Bg c:=by unfold Bg;omega
 have g3:=lit_isU (dM l2 (w hc))
 obtain ⟨x3,hx3⟩:∃ x3,Nat.gcd x2 c.natAbs=x3:=⟨_,rfl⟩
 rw [hx3] at g3
 have e:Int.gcd (Int.gcd a b:Int) c=x3:=by
  rw [← hx3,← hx2,← hx1,Nat.gcd_zero_left]
  rfl
 rw [if_neg (by rintro (h|h|h);exact ha h;exact hb h;exact hc h),e] at hz
 refine kneg 21 c (by constructor <;> omega) (by constructor <;> omega) ?_
 refine kabs 20 22 c ?_
 refine kcvu 23 c.natAbs (by omega) ?_
 refine jC 152 [.fv (.sc (.lit (.int .u64 (x2:Int)))),.fv (.sc (.lit (.int .u64 (c.natAbs:Int))))] (g3) ?_
 by_cases h1:x3=1
 ·rw [if_neg (fun h=>h h1)] at hz
  subst hz
  refine jK (.binOp .neq 151 (.tmp 27) (.const (.int .u64 1)) 151) (.tmp 27) (.const (.int .u64 1)) (.fv (.sc (isU (x3:Int)))) (.fv (.sc (.lit (.int .u64 1)))) (bl false) (fun ρ o β w ho hx hy=>⟨_,une_run ho (aO hx) (aM hy) (by rw [h1];rfl),aZ rfl⟩) ?_
  exact jR Tryz.func93
 ·rw [if_pos h1] at hz
  subst hz
  refine jK (.binOp .neq 151 (.tmp 27) (.const (.int .u64 1)) 151) (.tmp 27) (.const (.int .u64 1)) (.fv (.sc (isU (x3:Int)))) (.fv (.sc (.lit (.int .u64 1)))) (bl true) (fun ρ o β w ho hx hy=>⟨_,une_run ho (aO hx) (aM hy) (by rw [bne_iff_ne];omega),aZ rfl⟩) ?_
  exact jR Tryz.func93
end
section
variable {n1 n2 n3 z:Int} {s a b c:ByteArray}
abbrev M3 (a b c:Int):Prop:=qU a∧qU b∧qU c
abbrev kh (n1 n2 n3:Int) (s:ByteArray):Int:=hkZ n1 n2 n3 (bT s)
theorem yV:Eh (kh n1 n2 n3 s):=hk_values _ (cK s)
theorem readHalfAnyF (m:M3 n1 n2 n3) (h:Rb s) (hz:kh n1 n2 n3 s=z):jX 32 [hL n1 n2 n3 s] (.tup [.ag [nb n1,nb n2,nb n3,nb (uN s)],.sc (lz z)]):=by
 refine jY Tryz.func32 fun w00 hI=>?_
 refine jW hI 71 [tx s] (tB h rfl) ?_
 refine jC 84 [iv n1 n2 n3] (gV m.1 m.2.1 m.2.2) ?_
 refine jC 93 [iv n1 n2 n3] (gP rfl) ?_
 refine jC 34 [.fv (.nsl 2 30 [lz (hkZ n1 n2 n3 0),lz (bT s)])] (yU (hk_values 0 (.inl rfl)) (pC (cK s)) ((hk_first _).trans hz)) ?_
 exact jR Tryz.func32
theorem pQ (m:M3 n1 n2 n3) (h:Rb s) (k:Rb3 a b c) (hz:f2 (kh n1 n2 n3 s) (c3 a b c)=z):jX 31 [iE 32,hL n1 n2 n3 s,iE 33,t3 a b c] (.tup [.ag [nb n1,nb n2,nb n3,nb (uN s)],.ag [nb (uN a),nb (uN b),nb (uN c)],.sc (lz z)]):=by
 refine jY Tryz.func31 fun w00 hI=>?_
 refine jW hI 32 [hL n1 n2 n3 s] (readHalfAnyF m h rfl) ?_
 refine jW hI 33 [t3 a b c] (vL k rfl) ?_
 refine jC 34 [.fv (.nsl 2 30 [lz (kh n1 n2 n3 s),lz (c3 a b c)])] (yU yV (pC (qJ _ _ _)) hz) ?_
 exact jR Tryz.func31
end
def Bq (k:Nat) (q:Rat):Prop:=q.num.natAbs<10^k∧q.den<10^k
theorem Bq.mono {k l:Nat} {q:Rat} (h:Bq k q) (hk:k≤l):Bq l q :=
 ⟨Nat.lt_of_lt_of_le h.1 (Nat.pow_le_pow_right (by omega) hk),Nat.lt_of_lt_of_le h.2 (Nat.pow_le_pow_right (by omega) hk)⟩
theorem Bq.mul {j k:Nat} {p q:Rat} (hp:Bq j p) (hq:Bq k q):Bq (j+k) (p*q):=by
 rw [Rat.mul_def']
 obtain ⟨h1,h2⟩:=dP (p.num*q.num) (Nat.ne_of_gt (Nat.mul_pos p.den_pos q.den_pos))
 rw [Int.natAbs_mul] at h1
 refine ⟨Nat.lt_of_le_of_lt h1 ?_,Nat.lt_of_le_of_lt h2 ?_⟩
 ·rw [Nat.pow_add];exact Nat.mul_lt_mul'' hp.1 hq.1
 ·rw [Nat.pow_add];exact Nat.mul_lt_mul'' hp.2 hq.2
theorem Bq.add {j k:Nat} {p q:Rat} (hp:Bq j p) (hq:Bq k q):Bq (j+k+1) (p+q):=by
 rw [Rat.add_def']
 obtain ⟨h1,h2⟩:=dP (p.num*q.den+q.num*p.den) (Nat.ne_of_gt (Nat.mul_pos p.den_pos q.den_pos))
 have a1:p.num.natAbs*q.den<10^(j+k):=by rw [Nat.pow_add];exact Nat.mul_lt_mul'' hp.1 hq.2
 have a2:q.num.natAbs*p.den<10^(j+k):=by rw [Nat.pow_add,Nat.mul_comm];exact Nat.mul_lt_mul'' hp.2 hq.1
 have a3:p.den*q.den<10^(j+k):=by rw [Nat.pow_add];exact Nat.mul_lt_mul'' hp.2 hq.2
 have a4:10^(j+k+1)=10^(j+k)*10:=Nat.pow_succ _ _
 have a5:=Int.natAbs_add_le (p.num*q.den) (q.num*p.den)
 rw [Int.natAbs_mul,Int.natAbs_mul,Int.natAbs_natCast,Int.natAbs_natCast] at a5
 exact ⟨by omega,by omega⟩
theorem Bq.neg {k:Nat} {p:Rat} (hp:Bq k p):Bq k (-p):=by
 refine ⟨?_,hp.2⟩
 rw [Rat.neg_num,Int.natAbs_neg];exact hp.1
theorem Bq.sub {j k:Nat} {p q:Rat} (hp:Bq j p) (hq:Bq k q):Bq (j+k+1) (p-q):=by
 rw [Rat.sub_eq_add_neg]
 exact hp.add hq.neg
theorem Bq.inv {k:Nat} {p:Rat} (hp:Bq k p):Bq k p⁻¹:=by
 by_cases h0:p=0
 ·subst h0;rw [Rat.inv_zero];exact hp
 ·obtain ⟨_,e1,e2⟩:=Parts.inv (Parts.self p) h0
  exact ⟨by rw [← e1];exact hp.2,by rw [← e2];exact hp.1⟩
theorem Bq.div {j k:Nat} {p q:Rat} (hp:Bq j p) (hq:Bq k q):Bq (j+k) (p/q):=by
 rw [Rat.div_def]
 exact hp.mul hq.inv
theorem Bq.dt {k l n:Nat} {a b c x y z:Rat} (h1:Bq k a) (h2:Bq k b) (h3:Bq k c) (g1:Bq l x) (g2:Bq l y) (g3:Bq l z) (hn:3*(k+l)+2≤n):Bq n (dt a b c x y z) :=
 (((h1.mul g1).add (h2.mul g2)).add (h3.mul g3)).mono (by omega)
theorem Bq.wr {k:Nat} {q:Rat} (h:Bq k q) (hk:k≤600):Wr q:=by
 have h':=h.mono (l:=599+1) hk
 exact ⟨decB_size h'.1,decB_size h'.2⟩
theorem Bq.zs {k:Nat} {q:Rat} (h:Bq k q) (hk:k≤10000):Zs 10000 q:=by
 have h':=h.mono (l:=10000+1) (by omega)
 exact h'
theorem bq_of {k:Nat} {q:Rat} (h:Fw k q):Bq k q:=⟨nN h.1,nN h.2⟩
theorem uP (x:Rat):0≤x*x:=by
 rcases Rat.le_total (a:=0) (b:=x) with h|h
 ·exact Rat.mul_nonneg h h
 ·have h' : 0≤-x:=by grind
  have:=Rat.mul_nonneg h' h'
  grind
theorem sum_sq {x y z:Rat} (h:dt x y z x y z=0):x=0∧y=0∧z=0:=by
 have h1:=uP x
 have h2:=uP y
 have h3:=uP z
 have a1:x*x=0:=by grind
 have a2:y*y=0:=by grind
 have a3:z*z=0:=by grind
 exact ⟨by grind,by grind,by grind⟩
theorem numr_ne {q:Rat} (h:q≠0):q.num≠0:=fun e=>h (Rat.num_eq_zero.1 e)
abbrev nz (d:Nat):AV Kr := .fv (.ag [.lit (.bool true),.sp (pS d)])
theorem signedNF {d:Nat}:jF 171 [rl true,di d] (iz (-(d:Int))):=by
 intro β w vs hv
 obtain ⟨v,u,rfl,h1,h2⟩:=eB hv
 rw [bY h1]
 have := @eZ true d β w [.bool true,u] ⟨_,_,rfl,cQ,u,[],rfl,h2,rfl⟩
 simpa [gY] using this
theorem minusP {n:Int} {c:Nat} (hc:n = -(c:Int)):jF 169 [pz c] (iz n):=by
 rw [hc]
 refine jT Tryz.func169 fun w00=>?_
 refine jB 171 [rl true,di c] signedNF ?_
 exact jS Tryz.func169
theorem minusNZ {d:Nat}:jF 169 [nz d] (iz (d:Int)):=by
 refine jT Tryz.func169 fun w00=>?_
 refine jB 171 [rl false,di d] oR ?_
 exact jS Tryz.func169
theorem minusN {d:Nat}:jF 169 [nz d] (pz d):=mM minusNZ fun _ _ _ h=>iz_pz h
section
variable {n:Int} {d:Nat}
theorem fractionNF {c:Nat} (hc:n = -(c:Int)) (hn:Bd n.natAbs) (hd:Bd d) (hd0:0<d) (hp:n.natAbs<B9^100000000) (hq:d<B9^100000000) (hs1:(aQ (gY (decide (n<0)) (n.natAbs/Nat.gcd n.natAbs d))).size≤1000000000) (hs2:(aQ ((d/Nat.gcd n.natAbs d:Nat):Int)).size≤1000000000) :
 jF 118 [pz c,nz d] (rS (if d/Nat.gcd n.natAbs d=1 then aQ (gY (decide (n<0)) (n.natAbs/Nat.gcd n.natAbs d)) else aQ (gY (decide (n<0)) (n.natAbs/Nat.gcd n.natAbs d))++⟨#[47]⟩++aQ ((d/Nat.gcd n.natAbs d:Nat):Int))):=by
 have hg:0<Nat.gcd n.natAbs d:=Nat.gcd_pos_of_pos_right _ hd0
 have hq0:0<d/Nat.gcd n.natAbs d:=Nat.div_pos (Nat.gcd_le_right _ hd0) hg
 have hq1:d/Nat.gcd n.natAbs d≤d:=Nat.div_le_self _ _
 have hp1:(gY (decide (n<0)) (n.natAbs/Nat.gcd n.natAbs d)).natAbs<B9^100000000:=by rw [sS];exact Nat.lt_of_le_of_lt (Nat.div_le_self _ _) hp
 have hq2:((d/Nat.gcd n.natAbs d:Nat):Int).natAbs<B9^100000000:=by rw [Int.natAbs_natCast];exact Nat.lt_of_le_of_lt hq1 hq
 generalize hG:Nat.gcd n.natAbs d=g at *
 generalize hP:gY (decide (n<0)) (n.natAbs/g)=p at *
 generalize hQ:d/g=q at *
 by_cases h1:q=1
 ·rw [if_pos h1]
  refine jT Tryz.func118 fun w00=>?_
  refine jB 169 [pz c] (minusP hc) ?_
  refine jB 169 [nz d] minusN ?_
  refine jB 109 [di n.natAbs,di d] (by have:=kX hn hd;rw [hG] at this;exact this) ?_
  refine jB 163 [di n.natAbs,di g] (vW hn hg) ?_
  refine jB 163 [di d,di g] (by have:=vW (a:=d) (b:=g) hd hg;rw [hQ] at this;exact this) ?_
  refine jB 171 [rb (decide (n<0)),di (n.natAbs/g)] (by have := @eZ (decide (n<0)) (n.natAbs/g);rw [hP] at this;exact this) ?_
  refine jB 170 [iz p] (qI hp1) ?_
  refine jL (.call ⟨.builtin .len,#[.tmp 41],#[86]⟩) (.tmp 41) (.tmp 41) (di q) (di q) (.fv (.sc (.lit (.int .i64 1)))) (fun ρ o β w ho hx _=>?_) ?_
  ·obtain ⟨ad,c,e,_⟩:=iV (bC.1 hx) hq0 (by rw [h1];exact dS)
   exact ⟨_,lM ho e,fA rfl⟩
  refine jL (.indexAddr 86 (.tmp 45) (.const (.int .i64 0))) (.tmp 45) (.const (.int .i64 0)) (di q) (.fv (.sc (.lit (.int .i64 0)))) (rP q) (fun ρ o β w ho hx hy=>?_) ?_
  ·obtain ⟨ad,c,e,hc⟩:=iV (bC.1 hx) hq0 (by rw [h1];exact dS)
   exact ⟨_,mK ho e (bY hy) (by omega),⟨ad,rfl,hc⟩⟩
  refine jL (.load 3 (.tmp 46)) (.tmp 46) (.tmp 46) (rP q) (rP q) (.fv (.sc (.lit (.int .i64 1)))) (fun ρ o β w ho hx _=>?_) ?_
  ·obtain ⟨ad,e,hc⟩:=hx
   injection e with e
   rw [h1] at hc
   exact ⟨_,uI ho e hc,fA rfl⟩
  exact jS Tryz.func118
 ·rw [if_neg h1]
  have hcat1:(aQ p).size+(⟨#[47]⟩:ByteArray).size≤9223372036854775807:=by
   have:(⟨#[47]⟩:ByteArray).size=1:=rfl
   omega
  have hcat2:(aQ p++⟨#[47]⟩:ByteArray).size+(aQ (q:Int)).size≤9223372036854775807:=by
   have:(⟨#[47]⟩:ByteArray).size=1:=rfl
   rw [ByteArray.size_append]
   omega
  by_cases h2:q<B9
  ·refine jT Tryz.func118 fun w00=>?_
   refine jB 169 [pz c] (minusP hc) ?_
   refine jB 169 [nz d] minusN ?_
   refine jB 109 [di n.natAbs,di d] (by have:=kX hn hd;rw [hG] at this;exact this) ?_
   refine jB 163 [di n.natAbs,di g] (vW hn hg) ?_
   refine jB 163 [di d,di g] (by have:=vW (a:=d) (b:=g) hd hg;rw [hQ] at this;exact this) ?_
   refine jB 171 [rb (decide (n<0)),di (n.natAbs/g)] (by have := @eZ (decide (n<0)) (n.natAbs/g);rw [hP] at this;exact this) ?_
   refine jB 170 [iz p] (qI hp1) ?_
   refine jL (.call ⟨.builtin .len,#[.tmp 41],#[86]⟩) (.tmp 41) (.tmp 41) (di q) (di q) (.fv (.sc (.lit (.int .i64 1)))) (fun ρ o β w ho hx _=>?_) ?_
   ·obtain ⟨ad,c,e,_⟩:=iV (bC.1 hx) hq0 h2
    exact ⟨_,lM ho e,fA rfl⟩
   refine jL (.indexAddr 86 (.tmp 45) (.const (.int .i64 0))) (.tmp 45) (.const (.int .i64 0)) (di q) (.fv (.sc (.lit (.int .i64 0)))) (rP q) (fun ρ o β w ho hx hy=>?_) ?_
   ·obtain ⟨ad,c,e,hc⟩:=iV (bC.1 hx) hq0 h2
    exact ⟨_,mK ho e (bY hy) (by omega),⟨ad,rfl,hc⟩⟩
   refine jL (.load 3 (.tmp 46)) (.tmp 46) (.tmp 46) (rP q) (rP q) (rI q) (fun ρ o β w ho hx _=>?_) ?_
   ·obtain ⟨ad,e,hc⟩:=hx
    injection e with e
    exact ⟨_,uI ho e hc,cQ⟩
   refine jL (.binOp .eql 3 (.tmp 47) (.const (.int .i64 1)) 3) (.tmp 47) (.const (.int .i64 1)) (rI q) (.fv (.sc (.lit (.int .i64 1)))) (rl false) (fun ρ o β w ho hx hy=>⟨.bool false,jJ ho (bB hx) (bY hy) (by simp;omega),fA rfl⟩) ?_
   refine jL (.binOp .add 9 (.tmp 51) (.const (.string ⟨#[47]⟩)) 9) (.tmp 51) (.const (.string ⟨#[47]⟩)) (rS (aQ p)) (.fv (.sc (.lit (.string ⟨#[47]⟩)))) (rS (aQ p++⟨#[47]⟩)) (fun ρ o β w ho hx hy=>⟨_,eU ho (bB hx) (bY hy) hcat1,cQ⟩) ?_
   refine jB 171 [rl false,di q] oR ?_
   refine jB 170 [iz (q:Int)] (qI hq2) ?_
   refine jL (.binOp .add 9 (.tmp 52) (.tmp 55) 9) (.tmp 52) (.tmp 55) (rS (aQ p++⟨#[47]⟩)) (rS (aQ (q:Int))) (rS (aQ p++⟨#[47]⟩++aQ (q:Int))) (fun ρ o β w ho hx hy=>⟨_,eU ho (bB hx) (bB hy) hcat2,cQ⟩) ?_
   exact jS Tryz.func118
  ·refine jT Tryz.func118 fun w00=>?_
   refine jB 169 [pz c] (minusP hc) ?_
   refine jB 169 [nz d] minusN ?_
   refine jB 109 [di n.natAbs,di d] (by have:=kX hn hd;rw [hG] at this;exact this) ?_
   refine jB 163 [di n.natAbs,di g] (vW hn hg) ?_
   refine jB 163 [di d,di g] (by have:=vW (a:=d) (b:=g) hd hg;rw [hQ] at this;exact this) ?_
   refine jB 171 [rb (decide (n<0)),di (n.natAbs/g)] (by have := @eZ (decide (n<0)) (n.natAbs/g);rw [hP] at this;exact this) ?_
   refine jB 170 [iz p] (qI hp1) ?_
   refine jL (.call ⟨.builtin .len,#[.tmp 41],#[86]⟩) (.tmp 41) (.tmp 41) (di q) (di q) rNe (fun ρ o β w ho hx _=>?_) ?_
   ·obtain ⟨A,m,c,e,hm⟩:=wL (bC.1 hx) (Nat.le_of_not_lt h2)
    exact ⟨_,lM ho e,⟨(m:Int),rfl,by omega⟩⟩
   refine jL (.binOp .eql 3 (.tmp 42) (.const (.int .i64 1)) 3) (.tmp 42) (.const (.int .i64 1)) rNe (.fv (.sc (.lit (.int .i64 1)))) (rl false) (fun ρ o β w ho hx hy=>?_) ?_
   ·obtain ⟨m,e,hm⟩:=hx
    injection e with e
    exact ⟨.bool false,jJ ho e (bY hy) (by simpa using hm),fA rfl⟩
   refine jL (.binOp .add 9 (.tmp 51) (.const (.string ⟨#[47]⟩)) 9) (.tmp 51) (.const (.string ⟨#[47]⟩)) (rS (aQ p)) (.fv (.sc (.lit (.string ⟨#[47]⟩)))) (rS (aQ p++⟨#[47]⟩)) (fun ρ o β w ho hx hy=>⟨_,eU ho (bB hx) (bY hy) hcat1,cQ⟩) ?_
   refine jB 171 [rl false,di q] oR ?_
   refine jB 170 [iz (q:Int)] (qI hq2) ?_
   refine jL (.binOp .add 9 (.tmp 52) (.tmp 55) 9) (.tmp 52) (.tmp 55) (rS (aQ p++⟨#[47]⟩)) (rS (aQ (q:Int))) (rS (aQ p++⟨#[47]⟩++aQ (q:Int))) (fun ρ o β w ho hx hy=>⟨_,eU ho (bB hx) (bB hy) hcat2,cQ⟩) ?_
   exact jS Tryz.func118
end
theorem fracNW {n:Int} {c d k:Nat} (hc:n = -(c:Int)) (hk:k≤1000000) (hn:n.natAbs<10^(k+1)) (hd:d<10^(k+1)) (h0:0<d):jF 118 [pz c,nz d] (rS (writeB (mkRat n d))):=by
 have h:=fractionNF (n:=n) (d:=d) hc (fY hn (by omega)) (fY hd (by omega)) h0 (bd1_of hn (by omega)) (bd1_of hd (by omega))
  (by have:=pO (k:=k) (z:=gY (decide (n<0)) (n.natAbs/Nat.gcd n.natAbs d)) (by rw [sS];exact Nat.lt_of_le_of_lt (Nat.div_le_self _ _) hn);omega)
  (by have:=pO (k:=k) (z:=((d/Nat.gcd n.natAbs d:Nat):Int)) (by rw [Int.natAbs_natCast];exact Nat.lt_of_le_of_lt (Nat.div_le_self _ _) hd);omega)
 rw [rG n h0] at h
 exact h
section
variable {p q:Rat}
theorem inv_pos {m:Nat} (h:q.num=(m:Int)):mkRat (q.den:Int) m=q⁻¹:=by
 rw [Rat.inv_def,h,Rat.divInt_ofNat]
theorem inv_neg {m:Nat} (h:q.num = -(m:Int)):mkRat (-(q.den:Int)) m=q⁻¹:=by
 rw [Rat.inv_def,h,Rat.divInt_neg',Rat.divInt_ofNat]
theorem prt_neg {m:Nat} (h:q.num = -(m:Int)) (h0:0<m) {β:List Nat} {v:Value} {w:World} (k:(AV.fv (.ag [rB (decide (q.num<0)),.sp (pS q.num.natAbs)]):AV Kr).holds β v w):(nz m).holds β v w:=by
 have e1:decide (q.num<0)=true:=by rw [decide_eq_true_iff];omega
 have e2:q.num.natAbs=m:=by omega
 rw [e1,e2] at k
 obtain ⟨cs,rfl,a,r,rfl,h1,h2⟩:=k
 exact ⟨_,rfl,a,r,rfl,⟨h1,rfl⟩,h2⟩
theorem prt_pos {m:Nat} (h:q.num=(m:Int)) {β:List Nat} {v:Value} {w:World} (k:(AV.fv (.ag [rB (decide (q.num<0)),.sp (pS q.num.natAbs)]):AV Kr).holds β v w):(pz m).holds β v w:=by
 have k' : (iz q.num).holds β v w:=k
 rw [h] at k'
 exact iz_pz k'
theorem fracPZ {k:Nat} (hk:k≤1000000) (hq:Zs k q) (h0:0<q.num.natAbs):jF 118 [iz (q.den:Int),pz q.num.natAbs] (rS (writeB (mkRat (q.den:Int) q.num.natAbs))) :=
 fracW (n:=(q.den:Int)) (k:=k) hk (by rw [Int.natAbs_natCast];exact hq.2) hq.1 h0
theorem fracNZ {k:Nat} (hk:k≤1000000) (hq:Zs k q) (h0:0<q.num.natAbs):jF 118 [pz q.den,nz q.num.natAbs] (rS (writeB (mkRat (-((q.den:Nat):Int)) q.num.natAbs))) :=
 fracNW (k:=k) rfl hk (by rw [Int.natAbs_neg,Int.natAbs_natCast];exact hq.2) hq.1 h0
theorem recipF (hq:Zs 10000 q) (h0:q≠0):jF 115 [rS (writeB q)] (rS (writeB q⁻¹)):=by
 obtain ⟨s1,s2⟩:=sX hq (by omega)
 have hn:=numr_ne h0
 have hfr:jF 118 [pz q.den,.fv (.ag [rB (decide (q.num<0)),.sp (pS q.num.natAbs)])] (rS (writeB q⁻¹)):=by
  by_cases hs:q.num<0
  ·have e:q.num = -((q.num.natAbs:Nat):Int):=by omega
   rw [← inv_neg e]
   refine rargs (fracNZ (k:=10000) (by omega) hq (by omega)) fun β vs w ⟨v,r,e1,h1,u,r2,e2,h2,h3⟩=>⟨v,r,e1,h1,u,r2,e2,prt_neg e (by omega) h2,h3⟩
  ·have e:q.num=((q.num.natAbs:Nat):Int):=by omega
   rw [← inv_pos e]
   refine rargs (fracPZ (k:=10000) (by omega) hq (by omega)) fun β vs w ⟨v,r,e1,h1,u,r2,e2,h2,h3⟩=>⟨v,r,e1,pz_iz h1,u,r2,e2,prt_pos e h2,h3⟩
 refine jT Tryz.func115 fun w00=>?_
 refine jB 108 [rS (writeB q)] (yR s1 s2) ?_
 refine jB 118 [pz q.den,.fv (.ag [rB (decide (q.num<0)),.sp (pS q.num.natAbs)])] hfr ?_
 exact jS Tryz.func115
theorem zs_inv {k:Nat} (h:Zs k q) (h0:q≠0):Zs k q⁻¹:=by
 have hn:=numr_ne h0
 have hd:=q.den_pos
 by_cases hs:q.num<0
 ·have e:q.num = -((q.num.natAbs:Nat):Int):=by omega
  rw [← inv_neg e]
  obtain ⟨e1,e2⟩:=sV (-(q.den:Int)) (d:=q.num.natAbs) (by omega)
  have g:Nat.gcd (-(q.den:Int)).natAbs q.num.natAbs=1:=by rw [Int.natAbs_neg,Int.natAbs_natCast,Nat.gcd_comm];exact q.reduced
  rw [g] at e1 e2
  refine ⟨by rw [e1];simpa using h.2,by rw [e2];simpa using h.1⟩
 ·have e:q.num=((q.num.natAbs:Nat):Int):=by omega
  rw [← inv_pos e]
  obtain ⟨e1,e2⟩:=sV ((q.den:Int)) (d:=q.num.natAbs) (by omega)
  have g:Nat.gcd ((q.den:Int)).natAbs q.num.natAbs=1:=by rw [Int.natAbs_natCast,Nat.gcd_comm];exact q.reduced
  rw [g] at e1 e2
  refine ⟨by rw [e1];simpa using h.2,by rw [e2];simpa using h.1⟩
theorem refDivF (hp:Zs 10000 p) (hq:Zs 10000 q) (h0:q≠0):jF 55 [rS (writeB p),rS (writeB q)] (rS (writeB (p/q))):=by
 rw [Rat.div_def]
 refine jT Tryz.func55 fun w00=>?_
 refine jB 115 [rS (writeB q)] (recipF hq h0) ?_
 refine jB 58 [rS (writeB p),rS (writeB q⁻¹)] (lA hp (zs_inv hq h0)) ?_
 exact jS Tryz.func55
theorem kn_o {f:FuncId} {s u:ByteArray} (h:jF f [rS s] (rS u)):jF f [tx s] (tx u):=by
 intro β w vs hv
 obtain ⟨v,rfl,h1⟩:=dH hv
 rw [aO h1]
 exact (h β w [.string s] ⟨_,_,rfl,cQ,rfl⟩).mono fun e w' ⟨v,e1,e2,e3⟩=>⟨v,e1,e2,by rw [bB e3];exact bE⟩
theorem kn_IL {f:FuncId} {s:ByteArray} {z:Int} (h:jF f [rS s] (rI z)):jF f [tx s] (it z):=by
 intro β w vs hv
 obtain ⟨v,rfl,h1⟩:=dH hv
 rw [aO h1]
 exact (h β w [.string s] ⟨_,_,rfl,cQ,rfl⟩).mono fun e w' ⟨v,e1,e2,e3⟩=>⟨v,e1,e2,by rw [bB e3];exact aZ rfl⟩
theorem uQ {s:ByteArray} {z:Int} (hs:s.size≤9223372036854775807) (hz:bT s=z):jF 48 [tx s] (it z):=kn_IL (hz▸checkAnyF hs)
end
section
variable {f:FuncId} {w00:World} {Out:Value→World→Prop}
theorem klenT {c:Cfg Kn} (t:Tmp) (T:TypeId) (hT:Tryz.prog.underlying T=some .string) (s:ByteArray) (hc:(c.op.map fun o=>o.op,c.okT (.fv (.sc (fW s.size))),c.ev (.tmp t))=(some (.call ⟨.builtin .len,#[.tmp t],#[T]⟩),true,tx s))
 (hg:Ok Tryz.prog f w00 Out (cJ Tryz.prog 1000 (c.give (.fv (.sc (fW s.size)))))):Ok Tryz.prog f w00 Out c:=by
 simp only [Prod.mk.injEq] at hc
 obtain ⟨h1,h2,h3⟩:=hc
 exact qT _ (.tmp t) (.tmp t) (tx s) (tx s) (.fv (.sc (fW s.size))) (by rw [h1,h2,h3]) (by simp [Op.operands,Call.operands]) (by simp [Op.operands,Call.operands])
  (fun ρ o β w ho hx _=>⟨_,wH ho hT (aO hx),bE⟩) hg
theorem jP{c:Cfg Kn} (t:Tmp) (T:TypeId) (hT:Tryz.prog.underlying T=some .string) (s:ByteArray)(hg:Ok Tryz.prog f w00 Out (cJ Tryz.prog 1000 (c.give (.fv (.sc (fW s.size))))))(hc:(c.op.map fun o=>o.op,c.okT (.fv (.sc (fW s.size))),c.ev (.tmp t))=(some (.call ⟨.builtin .len,#[.tmp t],#[T]⟩),true,tx s):=by kernel_rfl):Ok Tryz.prog f w00 Out c:=klenT t T hT s hc hg
end
section
variable {p q:Rat}
theorem wr_len {q:Rat} (h:Wr q):(writeB q).size≤1000000000:=by
 have h1:=h.n
 have h2:=h.d
 have:=yT q.num
 rw [mP]
 split <;> omega
theorem pR (h:Wr q):jF 51 [tx (writeB q)] (it 0):=by
 have h1:=h.n
 have h2:=h.d
 have hl:=yT q.num
 refine jG Tryz.func51 fun w00=>?_
 refine jC 112 [tx (writeB q)] (kn_o (numF (wr_len h))) ?_
 refine jC 111 [tx (aQ q.num)] (kn_o (absTF (by omega))) ?_
 refine jP 5 23 Tryz.underlying23 (decB q.num.natAbs) ?_
 refine jM 6 (decB q.num.natAbs).size 600 false (by rw [decide_eq_false_iff_not];omega) ?_
 refine jC 113 [tx (writeB q)] (kn_o (denOfF (wr_len h))) ?_
 refine jP 10 23 Tryz.underlying23 (decB q.den) ?_
 refine jM 11 (decB q.den).size 600 false (by rw [decide_eq_false_iff_not];omega) ?_
 exact jR Tryz.func51
end
end Ab
namespace Ab
open Go.RowKit
section
variable {Kc:Value→Bool} {P:Program} {f:FuncId} {w00:World} {Out:Value→World→Prop}
theorem put_put (a:Act) (d:Tmp) (u v:Value):(a.put (some d) u).put (some d) v=a.put (some d) v:=by
 simp [Act.put]
end
end Ab
namespace Ab
open Go.RowKit Pl
section
variable {a b c:Int} {s:ByteArray}
abbrev In (k x:Int):Prop := -k≤x∧x≤k
end
section
variable {a b c x y z d:Rat} {k l n:Nat}
theorem dotV (h1:Bq k a) (h2:Bq k b) (h3:Bq k c) (g1:Bq l x) (g2:Bq l y) (g3:Bq l z) (hk:2*(k+l)<10000):jF 59 [vS a b c,vS x y z] (tx (writeB (dt a b c x y z))) :=
 dotR (kO (lA (h1.zs (by omega)) (g1.zs (by omega)))) (kO (lA (h2.zs (by omega)) (g2.zs (by omega)))) (kO (refAddF ((h1.mul g1).zs (by omega)) ((h2.mul g2).zs (by omega))))
  (kO (lA (h3.zs (by omega)) (g3.zs (by omega)))) (kO (refAddF (((h1.mul g1).add (h2.mul g2)).zs (by omega)) ((h3.mul g3).zs (by omega))))
theorem squareV (h1:Bq k a) (h2:Bq k b) (h3:Bq k c) (hk:4*k<10000):jF 57 [vS a b c] (tx (writeB (dt a b c a b c))):=squareR (dotV h1 h2 h3 h1 h2 h3 (by omega))
end
theorem tH {z1 z2 z3:Int} {s:ByteArray} (h1:qU z1) (h2:qU z2) (h3:qU z3):jF 52 [hL z1 z2 z3 s] (vS z1 z2 z3):=by
 refine jG Tryz.func52 fun w00=>?_
 refine jC 69 [it z1,it z2,it z3] (intsF h1 h2 h3) ?_
 exact jR Tryz.func52
theorem bq_int {z:Int} {k:Nat} (h:z.natAbs<10^k) (hk:0<k):Bq k (z:Rat):=by
 refine ⟨by rw [Rat.num_intCast];exact h,?_⟩
 rw [Rat.den_intCast]
 have:=Nat.pow_le_pow_right (n:=10) (by omega) hk
 omega
theorem nn_pos {z1 z2 z3:Int} (h:¬ (z1=0∧z2=0∧z3=0)):dt (z1:Rat) z2 z3 z1 z2 z3≠0:=fun e=>by
 obtain ⟨h1,h2,h3⟩:=sum_sq e
 exact h ⟨by exact_mod_cast h1,by exact_mod_cast h2,by exact_mod_cast h3⟩
section
variable {o1 o2 o3 x1 x2 x3 y1 y2 y3 z1 z2 z3:Rat}
theorem isZeroT {s:ByteArray} {r:Bool} (h:(s.toList==(⟨#[48]⟩:ByteArray).toList)=r):jF 60 [tx s] (bl r):=by
 refine jG Tryz.func60 fun w00=>?_
 refine jK (.binOp .eql 23 (.tmp 3) (.const (.string ⟨#[48]⟩)) 23) (.tmp 3) (.const (.string ⟨#[48]⟩)) (tx s) (lt ⟨#[48]⟩) (bl r) (fun ρ o β w ho hx hy=>⟨_,pK ho (aO hx) (aM hy) h,aZ rfl⟩) ?_
 exact jR Tryz.func60
variable {k l:Nat}
end
abbrev Bz (z:Int):Prop:=z=1∨z=3∨z=4∨z=6∨z=7
theorem numberBad {z:Int} (hz:Bz z):jF 14 [lt ⟨#[]⟩,it z,it z,lt ⟨#[]⟩] (bl true):=by
 rcases hz with rfl|rfl|rfl|rfl|rfl <;> (refine jG Tryz.func14 fun w00=>?_;exact kret Tryz.func14 (by kernel_rfl))
theorem yW {q:Rat} (h:Wr q):jF 14 [tx (writeB q),it 0,it 0,tx (writeB q)] (bl true):=by
 have hl:=pR h
 generalize writeB q=s at *
 refine jG Tryz.func14 fun w00=>?_
 refine jC 51 [tx s] (hl) ?_
 refine jK (.binOp .eql 23 (.tmp 25) (.tmp 26) 23) (.tmp 25) (.tmp 26) (tx s) (tx s) (bl true) (fun ρ o β w ho hx hy=>⟨_,pK ho (aO hx) (aO hy) (beq_self_eq_true _),aZ rfl⟩) ?_
 exact jR Tryz.func14
section
variable {P:Program} {f:FuncId}
theorem fitsAS_of {fn:Func} {n:Nat} {T:TypeId} {l:List (Seg Kn)} {u x:AV Kn} (hfn:P.funcs[f]?=some fn) (hb:fn.body.isSome=true) (hn:decide (2≤fn.ntmps)=true) (hx:x.noPtr=true) (hl:l.all Seg.noPtr=true) (hu:u.noPtr=true)
 (h:∀ w00,Ok P f w00 (fun v w=>x.holds [] v w) (.items [.code (fn.body.getD .skip)] { slots := [u,.fv (.sc (.slc 0 0 n n))]++List.replicate (fn.ntmps-2) .un,blocks := [(T,l)],ro:=1 })):Fits P f [u,.fv (.nsl n T l)] x:=by
 rintro β w vs ⟨v,r,rfl,h1,v2,r2,rfl,⟨g,cs,rfl,hg,hcs⟩,h3⟩
 have h1' : u.holds [g] v w:=AV.noPtr_holds hu h1
 have h3' : r2 = []:=h3
 subst h3'
 have hb2:fn.body=some (fn.body.getD .skip):=by
  cases hb2:fn.body with
  | none=>rw [hb2] at hb;cases hb
  | some c=>rfl
 refine (eO (w00:=w) (Out:=fun v w=>x.holds [] v w) hfn hb2 [u,.fv (.sc (.slc 0 0 n n))] [(T,l)] [g] [v,.slice (some ⟨g,0,none⟩) n n] (fn.ntmps-2) (by simp at hn;simp;omega) ⟨_,_,rfl,h1',_,[],rfl,⟨g,rfl,rfl⟩,rfl⟩ rfl (by simp)
  (fun k T' l' hk=>?_) (by simp;exact lt_of_block hg) (h w).good).mono ?_
 ·match k,hk with
  | 0,hk =>
    simp at hk
    obtain ⟨rfl,rfl⟩:=hk
    exact ⟨g,cs,rfl,hg,hcs.noPtr hl⟩
 ·rintro e w' ⟨v,rfl,hb,ho⟩
  exact ⟨v,rfl,hb,AV.noPtr_holds hx ho⟩
end
theorem kgoAS {f:FuncId} {fn:Func} {n:Nat} {T:TypeId} {l:List (Seg Kn)} {u x:AV Kn} (hfn:Tryz.prog.funcs[f]?=some fn) (hc:(fn.body.isSome,decide (2≤fn.ntmps),x.noPtr,l.all Seg.noPtr,u.noPtr)=(true,true,true,true,true))
 (h:∀ w00,Ok Tryz.prog f w00 (fun v w=>x.holds [] v w) (cJ Tryz.prog 1000 (.items [.code (fn.body.getD .skip)] { slots := [u,.fv (.sc (.slc 0 0 n n))]++List.replicate (fn.ntmps-2) .un,blocks := [(T,l)],ro:=1 }))):jF f [u,.fv (.nsl n T l)] x:=by
 simp only [Prod.mk.injEq] at hc
 exact fitsAS_of hfn hc.1 hc.2.1 hc.2.2.1 hc.2.2.2.1 hc.2.2.2.2 fun w00=>Ok.go (by kernel_rfl) oM 1000 (h w00)
abbrev lo (n:Int) (s:ByteArray):Bool:=decide (n<(s.size:Nat))
section
variable {a b c d x y u:ByteArray} {n:Int} {T:TypeId} {r:Bool}
set_option maxRecDepth 100000 in
theorem shortF (h:(lo n a || lo n b || lo n c || lo n x || lo n y || lo n u)=r):jF 5 [it n,.fv (.nsl 2 T [dB a,dB b,dB c,dB x,dB y,dB u])] (bl (!r)):=by
 obtain ⟨r1,e1⟩:∃ r,lo n a=r:=⟨_,rfl⟩
 obtain ⟨r2,e2⟩:∃ r,lo n b=r:=⟨_,rfl⟩
 obtain ⟨r3,e3⟩:∃ r,lo n c=r:=⟨_,rfl⟩
 obtain ⟨r4,e4⟩:∃ r,lo n x=r:=⟨_,rfl⟩
 obtain ⟨r5,e5⟩:∃ r,lo n y=r:=⟨_,rfl⟩
 obtain ⟨r6,e6⟩:∃ r,lo n u=r:=⟨_,rfl⟩
 rw [e1,e2,e3,e4,e5,e6] at h
 subst h
 refine kgoAS Tryz.func5 (by kernel_rfl) fun w00=>?_
 refine jP 16 23 Tryz.underlying23 a ?_
 refine kgg (.tmp 17) (.tmp 18) a.size n r1 _ bH e1 ?_
 cases r1
 case true=>exact jR Tryz.func5
 refine jP 25 23 Tryz.underlying23 b ?_
 refine kgg (.tmp 26) (.tmp 27) b.size n r2 _ bH e2 ?_
 cases r2
 case true=>exact jR Tryz.func5
 refine jP 35 23 Tryz.underlying23 c ?_
 refine kgg (.tmp 36) (.tmp 37) c.size n r3 _ bH e3 ?_
 cases r3
 case true=>exact jR Tryz.func5
 refine jP 16 23 Tryz.underlying23 x ?_
 refine kgg (.tmp 17) (.tmp 18) x.size n r4 _ bH e4 ?_
 cases r4
 case true=>exact jR Tryz.func5
 refine jP 25 23 Tryz.underlying23 y ?_
 refine kgg (.tmp 26) (.tmp 27) y.size n r5 _ bH e5 ?_
 cases r5
 case true=>exact jR Tryz.func5
 refine jP 35 23 Tryz.underlying23 u ?_
 refine kgg (.tmp 36) (.tmp 37) u.size n r6 _ bH e6 ?_
 cases r6
 case true=>exact jR Tryz.func5
 exact jR Tryz.func5
theorem checkRowAny {za zb zc z:Int} (h1:jF 48 [tx a] (it za)) (h2:jF 48 [tx b] (it zb)) (h3:jF 48 [tx c] (it zc)) (e1:Ev za) (e2:Ev zb) (e3:Ev zc) (hz:f3 za zb zc=z) :
 jF 49 [.fv (.nsl 3 T [dB a,dB b,dB c])] (it z):=by
 rcases e1 with rfl|rfl|rfl
 ·rcases e2 with rfl|rfl|rfl
  ·have hz:zc=z:=hz
   subst hz
   rcases e3 with rfl|rfl|rfl <;> (refine mA Tryz.func49 (by kernel_rfl) fun w00=>?_;refine fI 48 [tx a] (h1) (by kernel_rfl) Tryz.call48 ?_;refine fI 48 [tx b] (h2) (by kernel_rfl) Tryz.call48 ?_;refine fI 48 [tx c] (h3) (by kernel_rfl) Tryz.call48 ?_;exact kret Tryz.func49 (by kernel_rfl))
  all_goals
   have hz:_=z:=hz
   subst hz
   refine mA Tryz.func49 (by kernel_rfl) fun w00=>?_
   refine jC 48 [tx a] (h1) ?_
   refine jC 48 [tx b] (h2) ?_
   exact jR Tryz.func49
 all_goals
  have hz:_=z:=hz
  subst hz
  refine mA Tryz.func49 (by kernel_rfl) fun w00=>?_
  refine jC 48 [tx a] (h1) ?_
  exact jR Tryz.func49
abbrev Sl (s:ByteArray):Prop:=s.size≤40
abbrev Sl3 (a b c:ByteArray):Prop:=Sl a∧Sl b∧Sl c
theorem Sl.rb {s:ByteArray} (h:Sl s):Rb s:=by have h:s.size≤40:=h;show s.size<_;omega
theorem Sl3.rb (h:Sl3 a b c):Rb3 a b c:=⟨Sl.rb h.1,Sl.rb h.2.1,Sl.rb h.2.2⟩
theorem eJ {z:Int} (h:Sl3 a b c) (hz:c3 a b c=z):jF 12 [t3 a b c] (it z):=by
 have h1:a.size≤40:=h.1
 have h2:b.size≤40:=h.2.1
 have h3:c.size≤40:=h.2.2
 refine jG Tryz.func12 fun w00=>?_
 refine jC 49 [.fv (.nsl 3 23 [dB a,dB b,dB c])] (checkRowAny (uQ (by omega) rfl) (uQ (by omega) rfl) (uQ (by omega) rfl) (cK _) (cK _) (cK _) hz) ?_
 exact jR Tryz.func12
abbrev eT:Seg Kn := .lit (.string ⟨#[]⟩)
abbrev noT:AV Kn := .fv (.ag [eT,eT,eT])
abbrev noV (z:Int):AV Kn := .tup [.ag [eT,eT,eT],.sc (lz z)]
theorem scaleR3 (h1:jF 58 [tx a,tx b] (tx x)) (h2:jF 58 [tx a,tx c] (tx y)) (h3:jF 58 [tx a,tx d] (tx u)):jF 54 [tx a,t3 b c d] (t3 x y u):=by
 refine jG Tryz.func54 fun w00=>?_
 refine jC 58 [tx a,tx b] (h1) ?_
 refine jC 58 [tx a,tx c] (h2) ?_
 refine jC 58 [tx a,tx d] (h3) ?_
 exact jR Tryz.func54
end
section
variable {f:FuncId} {w00:World} {Out:Value→World→Prop} {c:Cfg Kn}
theorem ke3 (x y:Operand) (a b d a' b' d' : ByteArray) (r:Bool) (h:(a.toList==a'.toList&&b.toList==b'.toList&&d.toList==d'.toList)=r) (hg:Ok Tryz.prog f w00 Out (cJ Tryz.prog 1000 (c.give (bl r))))
 (hc:(c.op.map fun o=>o.op,c.okT (bl r),c.ev x,c.ev y)=(some (.binOp .eql 27 x y 27),true,.fv (.ag [dB a,dB b,dB d]),.fv (.ag [dB a',dB b',dB d'])):=by kernel_rfl):Ok Tryz.prog f w00 Out c :=
 qT (.binOp .eql 27 x y 27) x y _ _ (bl r) hc (by simp [Op.operands]) (by simp [Op.operands]) (fun ρ o β w ho hx hy=>⟨_,agg_eq (by kernel_rfl) (h▸equalT a b d a' b' d' w) ho (s3_is hx) (s3_is hy),aZ rfl⟩) hg
end
theorem yX {z:Int} (hz:Bz z):jF 13 [noT,it z,it z,noT] (bl true):=by
 rcases hz with rfl|rfl|rfl|rfl|rfl
 all_goals
  refine jG Tryz.func13 fun w00=>?_
  exact jR Tryz.func13
theorem refLargeVecF {a b c:Rat} (h:iF a b c):jF 50 [vS a b c] (it 0):=by
 have h1:=pR h.1
 have h2:=pR h.2.1
 have h3:=pR h.2.2
 have hr:jF 110 [.fv (.nsl 3 23 [dB (writeB a),dB (writeB b),dB (writeB c)])] (it 0):=by
  refine mA Tryz.func110 (by kernel_rfl) fun w00=>?_
  refine jC 51 [tx (writeB a)] (h1) ?_
  refine jC 51 [tx (writeB b)] (h2) ?_
  refine jC 51 [tx (writeB c)] (h3) ?_
  exact jR Tryz.func110
 refine jG Tryz.func50 fun w00=>?_
 refine jC 110 _ (hr) ?_
 exact jR Tryz.func50
theorem nQ {a b c:Rat} (h:iF a b c):jF 13 [vS a b c,it 0,it 0,vS a b c] (bl true):=by
 have hl:=refLargeVecF h
 refine jG Tryz.func13 fun w00=>?_
 refine jC 50 _ (hl) ?_
 refine ke3 (.tmp 26) (.tmp 27) (writeB a) (writeB b) (writeB c) (writeB a) (writeB b) (writeB c) true (by simp) ?_
 exact jR Tryz.func13
section
variable {a b d x y u c:ByteArray} {z y1 y2 y3:Int}
abbrev B14 (z:Int):Prop:=z=1∨z=4
theorem ev_b {z:Int} (h:Ev z) (h0:z≠0):B14 z:=by
 rcases h with h|h|h
 ·exact absurd h h0
 ·exact .inl h
 ·exact .inr h
theorem b_ne {z:Int} (h:B14 z):z≠0:=by rcases h with rfl|rfl <;> decide
theorem b_4 {z:Int} (h:B14 z):Bz z:=by
 rcases h with h|h
 ·exact .inl h
 ·exact .inr (.inr (.inl h))
end
theorem slwN {n:Nat} {s:ByteArray} (h:s.size≤n) (hn:1≤n) (hz:bT s=0):∃ q,s=writeB q∧Bq n q:=by
 obtain ⟨q,rfl,_,_⟩:=rJ hz
 rw [mP] at h
 have ht:(decB q.num.natAbs).size≤(aQ q.num).size:=by
  unfold aQ
  split
  ·rw [ByteArray.size_append];omega
  ·exact aR _
 refine ⟨q,rfl,bq_of ⟨by omega,?_⟩⟩
 by_cases hd:q.den=1
 ·rw [hd,dec1];exact hn
 ·rw [if_neg hd] at h;omega
theorem slwN3 {n:Nat} {a b c:ByteArray} (h1:a.size≤n) (h2:b.size≤n) (h3:c.size≤n) (hn:1≤n) (hz:c3 a b c=0):∃ p q r,a=writeB p∧b=writeB q∧c=writeB r∧Bq n p∧Bq n q∧Bq n r:=by
 obtain ⟨k1,k23⟩:=f2_zero hz
 obtain ⟨k2,k3⟩:=f2_zero k23
 obtain ⟨p,e1,q1⟩:=slwN h1 hn k1
 obtain ⟨q,e2,q2⟩:=slwN h2 hn k2
 obtain ⟨r,e3,q3⟩:=slwN h3 hn k3
 exact ⟨p,q,r,e1,e2,e3,q1,q2,q3⟩
abbrev Ss (s:ByteArray):Prop:=s.size≤30
abbrev Ss3 (a b c:ByteArray):Prop:=Ss a∧Ss b∧Ss c
section
variable {s a b c x y u:ByteArray}
theorem Ss.sl (h:Ss s):Sl s:=by have h:s.size≤30:=h;show s.size≤40;omega
theorem Ss3.sl (h:Ss3 a b c):Sl3 a b c:=⟨Ss.sl h.1,Ss.sl h.2.1,Ss.sl h.2.2⟩
theorem zP (h:Ss s):decide ((30:Int)<(s.size:Nat))=false:=by have h:s.size≤30:=h;rw [decide_eq_false_iff_not];omega
end
section
variable {s p q v k t:ByteArray} {a b c d x y z u:ByteArray} {n1 n2 n3:Int}
theorem valueR (h0:jF 52 [hL n1 n2 n3 s] (t3 a b c)) (h1:jF 59 [t3 a b c,t3 x y z] (tx p)) (h2:jF 114 [tx p,tx s] (tx v)):jF 56 [hL n1 n2 n3 s,t3 x y z] (tx v):=by
 refine jG Tryz.func56 fun w00=>?_
 refine jC 52 _ (h0) ?_
 refine jC 59 _ (h1) ?_
 refine jC 114 _ (h2) ?_
 exact jR Tryz.func56
end
section
variable {n1 n2 n3:Int} {d p1 p2 p3 v1 v2 v3 e:Rat} {k:Nat}
structure Qh (n1 n2 n3:Int) (d p1 p2 p3:Rat):Prop where
 m1:qU n1
 m2:qU n2
 m3:qU n3
 q1:Bq 10 (n1:Rat)
 q2:Bq 10 (n2:Rat)
 q3:Bq 10 (n3:Rat)
 d:Bq 30 d
 p1:Bq 30 p1
 p2:Bq 30 p2
 p3:Bq 30 p3
abbrev exR (n1 n2 n3:Int) (d p1 p2 p3:Rat):Rat:=dt (n1:Rat) n2 n3 p1 p2 p3-d
abbrev wP (n1 n2 n3:Int):Rat:=dt (n1:Rat) n2 n3 n1 n2 n3
theorem Qh.ex (h:Qh n1 n2 n3 d p1 p2 p3):Bq 153 (exR n1 n2 n3 d p1 p2 p3):=(Bq.dt h.q1 h.q2 h.q3 h.p1 h.p2 h.p3 (n:=122) (by omega)).sub h.d
theorem Qh.nn (h:Qh n1 n2 n3 d p1 p2 p3):Bq 62 (wP n1 n2 n3):=Bq.dt h.q1 h.q2 h.q3 h.q1 h.q2 h.q3 (by omega)
theorem uR (h:Qh n1 n2 n3 d p1 p2 p3):jF 56 [hL n1 n2 n3 (writeB d),vS p1 p2 p3] (tx (writeB (exR n1 n2 n3 d p1 p2 p3))) :=
 valueR (tH h.m1 h.m2 h.m3) (dotV h.q1 h.q2 h.q3 h.p1 h.p2 h.p3 (by omega)) (kO (zL ((Bq.dt h.q1 h.q2 h.q3 h.p1 h.p2 h.p3 (n:=122) (by omega)).zs (by omega)) (h.d.zs (by omega))))
theorem scaleQ {j l:Nat} {c x y z:Rat} (hc:Bq j c) (hx:Bq l x) (hy:Bq l y) (hz:Bq l z) (hj:j≤10000) (hl:l≤10000):jF 54 [tx (writeB c),vS x y z] (vS (c*x) (c*y) (c*z)) :=
 scaleR3 (kO (lA (hc.zs hj) (hx.zs hl))) (kO (lA (hc.zs hj) (hy.zs hl))) (kO (lA (hc.zs hj) (hz.zs hl)))
abbrev ft (n1 n2 n3:Int) (d p1 p2 p3:Rat) (p:Rat) (n:Int):Rat:=p-exR n1 n2 n3 d p1 p2 p3/wP n1 n2 n3*n
theorem Qh.way (h:Qh n1 n2 n3 d p1 p2 p3):Bq 215 (exR n1 n2 n3 d p1 p2 p3/wP n1 n2 n3):=h.ex.div h.nn
theorem Qh.f1 (h:Qh n1 n2 n3 d p1 p2 p3):Bq 256 (ft n1 n2 n3 d p1 p2 p3 p1 n1):=h.p1.sub (h.way.mul h.q1)
theorem Qh.f2 (h:Qh n1 n2 n3 d p1 p2 p3):Bq 256 (ft n1 n2 n3 d p1 p2 p3 p2 n2):=h.p2.sub (h.way.mul h.q2)
theorem Qh.f3 (h:Qh n1 n2 n3 d p1 p2 p3):Bq 256 (ft n1 n2 n3 d p1 p2 p3 p3 n3):=h.p3.sub (h.way.mul h.q3)
theorem lF (h:Qh n1 n2 n3 d p1 p2 p3) (h0:wP n1 n2 n3≠0):jF 15 [hL n1 n2 n3 (writeB d),vS p1 p2 p3] (vS (ft n1 n2 n3 d p1 p2 p3 p1 n1) (ft n1 n2 n3 d p1 p2 p3 p2 n2) (ft n1 n2 n3 d p1 p2 p3 p3 n3)):=by
 have k0:=tH (s:=writeB d) h.m1 h.m2 h.m3
 have k1:=uR h
 have k2:=squareV h.q1 h.q2 h.q3 (by omega)
 have k3:=kO (refDivF (h.ex.zs (by omega)) (h.nn.zs (by omega)) h0)
 have k4:=scaleQ h.way h.q1 h.q2 h.q3 (by omega) (by omega)
 have k5:=subVecR (kO (zL (h.p1.zs (by omega)) ((h.way.mul h.q1).zs (by omega)))) (kO (zL (h.p2.zs (by omega)) ((h.way.mul h.q2).zs (by omega)))) (kO (zL (h.p3.zs (by omega)) ((h.way.mul h.q3).zs (by omega))))
 refine jG Tryz.func15 fun w00=>?_
 refine jC 52 _ (k0) ?_
 refine jC 56 _ (k1) ?_
 refine jC 57 _ (k2) ?_
 refine jC 55 _ (k3) ?_
 refine jC 54 _ (k4) ?_
 refine jC 53 _ (k5) ?_
 exact jR Tryz.func15
abbrev dsR (n1 n2 n3:Int) (d p1 p2 p3:Rat):Rat:=exR n1 n2 n3 d p1 p2 p3*exR n1 n2 n3 d p1 p2 p3/wP n1 n2 n3
theorem Qh.ds (h:Qh n1 n2 n3 d p1 p2 p3):Bq 368 (dsR n1 n2 n3 d p1 p2 p3):=(h.ex.mul h.ex).div h.nn
theorem nR (h:Qh n1 n2 n3 d p1 p2 p3) (h0:wP n1 n2 n3≠0):jF 16 [hL n1 n2 n3 (writeB d),vS p1 p2 p3] (tx (writeB (dsR n1 n2 n3 d p1 p2 p3))):=by
 have k0:=tH (s:=writeB d) h.m1 h.m2 h.m3
 have k1:=uR h
 have k2:=squareV h.q1 h.q2 h.q3 (by omega)
 have k3:=kO (lA (h.ex.zs (by omega)) (h.ex.zs (by omega)))
 have k4:=kO (refDivF ((h.ex.mul h.ex).zs (by omega)) (h.nn.zs (by omega)) h0)
 refine jG Tryz.func16 fun w00=>?_
 refine jC 56 _ (k1) ?_
 refine jC 58 _ (k3) ?_
 refine jC 52 _ (k0) ?_
 refine jC 57 _ (k2) ?_
 refine jC 55 _ (k4) ?_
 exact jR Tryz.func16
theorem two_text:writeB ((2:Int):Rat)=⟨#[50]⟩:=cW (by omega) (bK (n:=2) (by omega))
theorem bq_two:Bq 1 ((2:Int):Rat):=bq_int (by omega) (by omega)
abbrev mr (n1 n2 n3:Int) (d p1 p2 p3:Rat) (p:Rat) (n:Int):Rat:=((2:Int):Rat)*ft n1 n2 n3 d p1 p2 p3 p n-p
theorem rO (h:Qh n1 n2 n3 d p1 p2 p3) (h0:wP n1 n2 n3≠0):jF 17 [hL n1 n2 n3 (writeB d),vS p1 p2 p3] (vS (mr n1 n2 n3 d p1 p2 p3 p1 n1) (mr n1 n2 n3 d p1 p2 p3 p2 n2) (mr n1 n2 n3 d p1 p2 p3 p3 n3)):=by
 have k1:=lF h h0
 have k2:=scaleQ bq_two h.f1 h.f2 h.f3 (by omega) (by omega)
 rw [two_text] at k2
 have k2:=Fits.args (l' := [lt ⟨#[50]⟩,_]) k2 fun β vs w ⟨v,r,e,h1,hr⟩=>⟨v,r,e,by rw [aM h1];exact bE,hr⟩
 have k3:=subVecR (kO (zL ((bq_two.mul h.f1).zs (by omega)) (h.p1.zs (by omega)))) (kO (zL ((bq_two.mul h.f2).zs (by omega)) (h.p2.zs (by omega)))) (kO (zL ((bq_two.mul h.f3).zs (by omega)) (h.p3.zs (by omega))))
 refine jG Tryz.func17 fun w00=>?_
 refine jC 15 _ (k1) ?_
 refine jC 54 _ (k2) ?_
 refine jC 53 _ (k3) ?_
 exact jR Tryz.func17
abbrev mtR (n1 n2 n3:Int) (d p1 p2 p3 v1 v2 v3:Rat) (p v:Rat):Rat:=p-exR n1 n2 n3 d p1 p2 p3/dt (n1:Rat) n2 n3 v1 v2 v3*v
theorem refMeetF (h:Qh n1 n2 n3 d p1 p2 p3) (g:Qh n1 n2 n3 d v1 v2 v3) (h0:dt (n1:Rat) n2 n3 v1 v2 v3≠0) :
 jF 18 [hL n1 n2 n3 (writeB d),vS p1 p2 p3,vS v1 v2 v3] (.tup [.ag [dB (writeB (mtR n1 n2 n3 d p1 p2 p3 v1 v2 v3 p1 v1)),dB (writeB (mtR n1 n2 n3 d p1 p2 p3 v1 v2 v3 p2 v2)),dB (writeB (mtR n1 n2 n3 d p1 p2 p3 v1 v2 v3 p3 v3))],.sc (.lit (.bool true))]):=by
 have qk:Bq 122 (dt (n1:Rat) n2 n3 v1 v2 v3):=Bq.dt h.q1 h.q2 h.q3 g.p1 g.p2 g.p3 (by omega)
 have qw:=h.ex.div qk
 have k0:=tH (s:=writeB d) h.m1 h.m2 h.m3
 have k1:=dotV h.q1 h.q2 h.q3 g.p1 g.p2 g.p3 (by omega)
 have k2:=isZeroT (dU (lN (numr_ne h0)))
 have k3:=uR h
 have k4:=kO (refDivF (h.ex.zs (by omega)) (qk.zs (by omega)) h0)
 have k5:=scaleQ qw g.p1 g.p2 g.p3 (by omega) (by omega)
 have k6:=subVecR (kO (zL (h.p1.zs (by omega)) ((qw.mul g.p1).zs (by omega)))) (kO (zL (h.p2.zs (by omega)) ((qw.mul g.p2).zs (by omega)))) (kO (zL (h.p3.zs (by omega)) ((qw.mul g.p3).zs (by omega))))
 refine jG Tryz.func18 fun w00=>?_
 refine jC 52 _ (k0) ?_
 refine jC 59 _ (k1) ?_
 refine jC 60 _ (k2) ?_
 refine jC 56 _ (k3) ?_
 refine jC 55 _ (k4) ?_
 refine jC 54 _ (k5) ?_
 refine jC 53 _ (k6) ?_
 exact jR Tryz.func18
theorem refMeetNoF (h:Qh n1 n2 n3 d v1 v2 v3) (h0:dt (n1:Rat) n2 n3 v1 v2 v3=0) :
 jF 18 [hL n1 n2 n3 (writeB d),vS p1 p2 p3,vS v1 v2 v3] (.tup [.ag [eT,eT,eT],.sc (.lit (.bool false))]):=by
 have k0:=tH (s:=writeB d) h.m1 h.m2 h.m3
 have k1:=dotV h.q1 h.q2 h.q3 h.p1 h.p2 h.p3 (by omega)
 rw [h0] at k1
 have z:writeB (0:Rat)=⟨#[48]⟩:=w0
 have k2:=isZeroT (s:=writeB (0:Rat)) (r:=true) (by rw [z];exact beq_self_eq_true _)
 refine jG Tryz.func18 fun w00=>?_
 refine jC 52 _ (k0) ?_
 refine jC 59 _ (k1) ?_
 refine jC 60 _ (k2) ?_
 exact jR Tryz.func18
end
section
variable {n1 n2 n3 z:Int} {s a b c x y u:ByteArray} {d v1 v2 v3 p1 p2 p3:Rat}
theorem yY (m:M3 n1 n2 n3) (h:Rb s) (k:Rb3 a b c) (hz:f2 (kh n1 n2 n3 s) (c3 a b c)=z) (h0:z≠0):jX 7 [hL n1 n2 n3 s,t3 a b c] (noV z):=by
 rcases show Eh z from hz▸f2_eh yV (pC (qJ _ _ _)) with rfl|rfl|rfl|rfl|rfl
 ·exact absurd rfl h0
 all_goals
  refine jY Tryz.func7 fun w00 hI=>?_
  refine jW hI 31 _ (pQ m h k hz) ?_
  exact jR Tryz.func7
theorem vY (m:M3 n1 n2 n3) (h:Rb s) (k:Rb3 a b c) (hz:f2 (kh n1 n2 n3 s) (c3 a b c)=z) (h0:z≠0):jX 8 [hL n1 n2 n3 s,t3 a b c] (noS z):=by
 rcases show Eh z from hz▸f2_eh yV (pC (qJ _ _ _)) with rfl|rfl|rfl|rfl|rfl
 ·exact absurd rfl h0
 all_goals
  refine jY Tryz.func8 fun w00 hI=>?_
  refine jW hI 31 _ (pQ m h k hz) ?_
  exact jR Tryz.func8
theorem zQ (m:M3 n1 n2 n3) (h:Rb s) (k:Rb3 a b c) (hz:f2 (kh n1 n2 n3 s) (c3 a b c)=z) (h0:z≠0):jX 9 [hL n1 n2 n3 s,t3 a b c] (noV z):=by
 rcases show Eh z from hz▸f2_eh yV (pC (qJ _ _ _)) with rfl|rfl|rfl|rfl|rfl
 ·exact absurd rfl h0
 all_goals
  refine jY Tryz.func9 fun w00 hI=>?_
  refine jW hI 31 _ (pQ m h k hz) ?_
  exact jR Tryz.func9
theorem vO (m:M3 n1 n2 n3) (h:Rb s) (k:Rb3 a b c) (l:Rb3 x y u) (hz:f2 (f2 (kh n1 n2 n3 s) (c3 a b c)) (c3 x y u)=z) (h0:z≠0):jX 6 [hL n1 n2 n3 s,t3 a b c,t3 x y u] (noV z):=by
 have e1:Eh (f2 (kh n1 n2 n3 s) (c3 a b c)):=f2_eh yV (pC (qJ _ _ _))
 rcases show Eh z from hz▸f2_eh e1 (pC (qJ _ _ _)) with rfl|rfl|rfl|rfl|rfl
 ·exact absurd rfl h0
 all_goals
  refine jY Tryz.func6 fun w00 hI=>?_
  refine jW hI 31 _ (pQ m h k rfl) ?_
  refine jW hI 33 _ (vL l rfl) ?_
  refine jC 34 [.fv (.nsl 2 30 [lz (f2 (kh n1 n2 n3 s) (c3 a b c)),lz (c3 x y u)])] (yU e1 (pC (qJ _ _ _)) hz) ?_
  exact jR Tryz.func6
theorem apiMeetNoneF (h:Hv n1 n2 n3 d) (k:iF p1 p2 p3) (kv:iF v1 v2 v3) (h0:dt (n1:Rat) n2 n3 v1 v2 v3=0):jX 6 [hS n1 n2 n3 d,vS p1 p2 p3,vS v1 v2 v3] (noV 7):=by
 have hd:=vV (cA h.s1) (cA h.s2) (cA h.s3) (kv.1.lf.mono (by decide)) (kv.2.1.lf.mono (by decide)) (kv.2.2.lf.mono (by decide))
 have hi:decide (dt (n1:Rat) n2 n3 v1 v2 v3=0)=true:=decide_eq_true h0
 refine jY Tryz.func6 fun w00 hI=>?_
 refine jW hI 31 _ (uE h k) ?_
 refine jW hI 33 _ (fM kv) ?_
 refine jC 34 [.fv (.nsl 2 30 [z0,z0])] (gK) ?_
 refine jC 35 _ (hd) ?_
 refine jC 36 _ (jH hi) ?_
 exact jR Tryz.func6
end
theorem lG {x y z:Int} (hx:Eh x) (hy:Eh y) (hz:f2 x y=z):jF 10 [.fv (.nsl 2 3 [lz x,lz y])] (it z):=by
 rcases hx with rfl|rfl|rfl|rfl|rfl
 ·have hz:y=z:=hz
  subst hz
  rcases hy with rfl|rfl|rfl|rfl|rfl <;> (refine mA Tryz.func10 (by kernel_rfl) fun w00=>?_;exact kret Tryz.func10 (by kernel_rfl))
 all_goals
  have hz:_=z:=hz
  subst hz
  refine mA Tryz.func10 (by kernel_rfl) fun w00=>?_
  exact jR Tryz.func10
theorem iI {n1 n2 n3 z:Int} {s:ByteArray} (hs:s.size≤9223372036854775807) (hz:kh n1 n2 n3 s=z):jF 11 [hL n1 n2 n3 s] (it z) :=
 Fits.res (Fits.args (checkHalfF (k:=bT s) (kn_I (checkAnyF hs)) hz) fun β vs w ⟨v,r,e,h1,hr⟩=>⟨v,r,e,hL_A β v w h1,hr⟩) fun β v w k=>by
  rw [aO k];exact aZ rfl
theorem tI {a b c k:Int} (h:hkZ a b c k=0):¬ (a=0∧b=0∧c=0)∧¬ Bg a∧¬ Bg b∧¬ Bg c∧hkZ a b c 0=0∧k=0:=by
 unfold hkZ at h ⊢
 split at h
 ·exact absurd h (by decide)
 rename_i h0
 split at h
 ·exact absurd h (by decide)
 rename_i h1
 split at h
 ·exact absurd h (by decide)
 rename_i h2
 exact ⟨h0,fun e=>h1 (.inl e),fun e=>h1 (.inr (.inl e)),fun e=>h1 (.inr (.inr e)),by rw [if_neg h0,if_neg h1,if_neg h2],h⟩
theorem eh_bz {z:Int} (h:Eh z) (h0:z≠0):Bz z:=by
 rcases h with h|h|h|h|h
 ·exact absurd h h0
 ·simp [Bz,h]
 ·simp [Bz,h]
 ·simp [Bz,h]
 ·simp [Bz,h]
theorem uS {n1 n2 n3:Int} {d p1 p2 p3:Rat} (n0:wP n1 n2 n3≠0):(∀ (p:Rat) (n:Int),p+dA n1 n2 n3 d p1 p2 p3*n=ft n1 n2 n3 d p1 p2 p3 p n) ∧
 (∀ (p:Rat) (n:Int),p+((2:Int):Rat)*(dA n1 n2 n3 d p1 p2 p3*n)=mr n1 n2 n3 d p1 p2 p3 p n) ∧
 dt (dA n1 n2 n3 d p1 p2 p3*n1) (dA n1 n2 n3 d p1 p2 p3*n2) (dA n1 n2 n3 d p1 p2 p3*n3) (dA n1 n2 n3 d p1 p2 p3*n1) (dA n1 n2 n3 d p1 p2 p3*n2) (dA n1 n2 n3 d p1 p2 p3*n3)=dsR n1 n2 n3 d p1 p2 p3:=by
 obtain ⟨w,hw⟩:∃ w,w=exR n1 n2 n3 d p1 p2 p3/wP n1 n2 n3:=⟨_,rfl⟩
 have eW:dA n1 n2 n3 d p1 p2 p3 = -w:=by
  rw [hw]
  show -(_ - _)/_=_
  rw [Rat.div_def,Rat.div_def,Rat.neg_mul]
 have eE:exR n1 n2 n3 d p1 p2 p3=w*wP n1 n2 n3:=by rw [hw,Rat.div_mul_cancel n0]
 have e2:((2:Int):Rat)=2:=rfl
 refine ⟨fun p n=>?_,fun p n=>?_,?_⟩
 ·rw [eW]
  show _=p-exR n1 n2 n3 d p1 p2 p3/wP n1 n2 n3*n
  rw [← hw]
  grind
 ·rw [eW]
  show _=((2:Int):Rat)*(p-exR n1 n2 n3 d p1 p2 p3/wP n1 n2 n3*n)-p
  rw [← hw,e2]
  grind
 ·rw [eW]
  show _=exR n1 n2 n3 d p1 p2 p3*exR n1 n2 n3 d p1 p2 p3/wP n1 n2 n3
  rw [eE,Rat.div_def]
  have h1:wP n1 n2 n3*(wP n1 n2 n3)⁻¹=1:=Rat.mul_inv_cancel _ n0
  have h2:w*wP n1 n2 n3*(w*wP n1 n2 n3)*(wP n1 n2 n3)⁻¹=w*w*wP n1 n2 n3*(wP n1 n2 n3*(wP n1 n2 n3)⁻¹):=by grind
  rw [h2,h1]
  show dt (-w*(n1:Rat)) (-w*(n2:Rat)) (-w*(n3:Rat)) (-w*(n1:Rat)) (-w*(n2:Rat)) (-w*(n3:Rat))=w*w*dt (n1:Rat) n2 n3 n1 n2 n3*1
  unfold dt
  grind
section
variable {s a b c x y u:ByteArray}
theorem iP (h:Ss3 a b c) (k:Ss3 x y u):jF 5 [it 30,.fv (.nsl 2 27 [dB a,dB b,dB c,dB x,dB y,dB u])] (bl true):=by
 have e:(lo 30 a || lo 30 b || lo 30 c || lo 30 x || lo 30 y || lo 30 u)=false:=by
  simp only [lo]
  rw [zP h.1,zP h.2.1,zP h.2.2,zP k.1,zP k.2.1,zP k.2.2]
  rfl
 exact shortF e
end
section
variable {n1 n2 n3 z:Int} {s a b c x y u:ByteArray}
theorem feet_long1 (h:(lo 30 a || lo 30 b || lo 30 c || lo 30 x || lo 30 y || lo 30 u)=true):jX 3 [hL n1 n2 n3 s,t3 a b c,t3 x y u] (bl true):=by
 have hs:=shortF (T:=27) h
 refine jY Tryz.func3 fun w00 hI=>?_
 refine jW hI 4 [] (pA) ?_
 refine jC 5 _ (hs) ?_
 refine jW hI 4 [] (pA) ?_
 exact jR Tryz.func3
theorem feet_long2 (h:Ss3 a b c) (k:Ss3 x y u) (hc:decide ((30:Int)<(s.size:Nat))=true):jX 3 [hL n1 n2 n3 s,t3 a b c,t3 x y u] (bl true):=by
 have hs:=iP h k
 refine jY Tryz.func3 fun w00 hI=>?_
 refine jW hI 4 [] (pA) ?_
 refine jC 5 _ (hs) ?_
 refine jP 29 23 Tryz.underlying23 s ?_
 refine jM 30 s.size 30 true hc ?_
 refine jW hI 4 [] (pA) ?_
 exact jR Tryz.func3
set_option maxRecDepth 100000 in
theorem feet_bad1 (m:M3 n1 n2 n3) (hs' : Ss s) (h:Ss3 a b c) (k:Ss3 x y u) (hz:f2 (kh n1 n2 n3 s) (c3 a b c)=z) (h0:z≠0):jX 3 [hL n1 n2 n3 s,t3 a b c,t3 x y u] (bl true):=by
 have hc:=zP hs'
 have hs:=iP h k
 have rs:Rb s:=hs'.sl.rb
 have cX:=vO m rs h.sl.rb k.sl.rb (z:=z) (by rw [hz];exact f2_l h0) h0
 have cF:=yY m rs h.sl.rb hz h0
 have cD:=vY m rs h.sl.rb hz h0
 have cM:=zQ m rs h.sl.rb hz h0
 have kH:=iI (n1:=n1) (n2:=n2) (n3:=n3) (s:=s) (by have h:s.size≤30:=hs';omega) rfl
 have kV:=eJ h.sl rfl
 have kF:=lG (yV (n1:=n1) (n2:=n2) (n3:=n3) (s:=s)) (pC (qJ a b c)) hz
 have he:Eh z:=hz▸f2_eh yV (pC (qJ _ _ _))
 have pB:=yX (eh_bz he h0)
 have nB:=numberBad (eh_bz he h0)
 clear hz rs h k hs' m
 generalize kh n1 n2 n3 s=z1 at *
 generalize c3 a b c=z2 at *
 rcases he with rfl|rfl|rfl|rfl|rfl
 ·exact absurd rfl h0
 all_goals
  refine jY Tryz.func3 fun w00 hI=>?_
  refine jW hI 4 [] (pA) ?_
  refine jC 5 _ (hs) ?_
  refine jP 29 23 Tryz.underlying23 s ?_
  refine jM 30 s.size 30 false hc ?_
  refine jW hI 6 _ (cX) ?_
  refine jW hI 7 _ (cF) ?_
  refine jW hI 8 _ (cD) ?_
  refine jW hI 9 _ (cM) ?_
  refine jC 11 _ (kH) ?_
  refine jC 12 _ (kV) ?_
  refine jC 10 _ (kF) ?_
  refine jC 13 _ (pB) ?_
  refine jC 13 _ (pB) ?_
  refine jC 14 _ (nB) ?_
  refine jC 13 _ (pB) ?_
  exact jR Tryz.func3
end
section
variable {n1 n2 n3 z:Int} {d p1 p2 p3 v1 v2 v3:Rat} {x y u:ByteArray}
set_option maxRecDepth 100000 in
theorem feet_bad2 (q:Qh n1 n2 n3 d p1 p2 p3) (hs' : Ss (writeB d)) (h:Ss3 (writeB p1) (writeB p2) (writeB p3)) (k:Ss3 x y u) (hk:kh n1 n2 n3 (writeB d)=0) (hp:c3 (writeB p1) (writeB p2) (writeB p3)=0) (hz:c3 x y u=z) (h0:B14 z) :
 jX 3 [hL n1 n2 n3 (writeB d),vS p1 p2 p3,t3 x y u] (bl true):=by
 have m:M3 n1 n2 n3:=⟨q.m1,q.m2,q.m3⟩
 obtain ⟨z00,b1,b2,b3,hk0,hd0⟩:=tI hk
 have hc:=zP hs'
 have hs:=iP h k
 have rs:Rb (writeB d):=hs'.sl.rb
 have n0:wP n1 n2 n3≠0:=nn_pos z00
 have wd:Wr d:=q.d.wr (by omega)
 have wp:iF p1 p2 p3:=⟨q.p1.wr (by omega),q.p2.wr (by omega),q.p3.wr (by omega)⟩
 have hv:Hv n1 n2 n3 d:=⟨by unfold Bg at b1;constructor <;> omega,by unfold Bg at b2;constructor <;> omega,by unfold Bg at b3;constructor <;> omega,wd,gP hk0⟩
 obtain ⟨eW,eM,eD⟩:=uS (n1:=n1) (n2:=n2) (n3:=n3) (d:=d) (p1:=p1) (p2:=p2) (p3:=p3) n0
 have wF:iF (ft n1 n2 n3 d p1 p2 p3 p1 n1) (ft n1 n2 n3 d p1 p2 p3 p2 n2) (ft n1 n2 n3 d p1 p2 p3 p3 n3):=⟨q.f1.wr (by omega),q.f2.wr (by omega),q.f3.wr (by omega)⟩
 have wM:iF (mr n1 n2 n3 d p1 p2 p3 p1 n1) (mr n1 n2 n3 d p1 p2 p3 p2 n2) (mr n1 n2 n3 d p1 p2 p3 p3 n3):=⟨((bq_two.mul q.f1).sub q.p1).wr (by omega),((bq_two.mul q.f2).sub q.p2).wr (by omega),((bq_two.mul q.f3).sub q.p3).wr (by omega)⟩
 have wD:Wr (dsR n1 n2 n3 d p1 p2 p3):=q.ds.wr (by omega)
 have cF:=oX hv wp n0 (eW p1 n1) (eW p2 n2) (eW p3 n3) wF
 have cD:=nO hv wp n0 eD wD
 have cM:=nL hv wp n0 (eM p1 n1) (eM p2 n2) (eM p3 n3) wM
 have kH:=iI (n1:=n1) (n2:=n2) (n3:=n3) (s:=writeB d) (by have h:(writeB d).size≤30:=hs';omega) hk
 have kV:=eJ h.sl hp
 have kF:=lG (x:=0) (y:=0) (.inl rfl) (.inl rfl) (f2_r rfl)
 have rF:=lF q n0
 have pF:=nQ wF
 have rD:=nR q n0
 have nD:=yW wD
 have rM:=rO q n0
 have pM:=nQ wM
 have cX:=vO m rs h.sl.rb k.sl.rb (z:=z) (by rw [hk,hp];exact (f2_r (f2_r rfl)).trans hz) (b_ne h0)
 have kD:=eJ k.sl hz
 have pX:=yX (b_4 h0)
 clear q hs' h k hk hp m b1 b2 b3 hk0 hd0 z00 rs n0 wd wp hv eW eM eD wF wM wD hz
 rcases h0 with rfl|rfl
 all_goals
  refine jY Tryz.func3 fun w00 hI=>?_
  refine jW hI 4 [] (pA) ?_
  refine jC 5 _ (hs) ?_
  refine jP 29 23 Tryz.underlying23 (writeB d) ?_
  refine jM 30 (writeB d).size 30 false hc ?_
  refine jW hI 6 _ (cX) ?_
  refine jW hI 7 _ (cF) ?_
  refine jW hI 8 _ (cD) ?_
  refine jW hI 9 _ (cM) ?_
  refine jC 11 _ (kH) ?_
  refine jC 12 _ (kV) ?_
  refine jC 10 _ (kF) ?_
  refine jC 15 _ (rF) ?_
  refine jC 13 _ (pF) ?_
  refine jC 16 _ (rD) ?_
  refine jC 14 _ (nD) ?_
  refine jC 17 _ (rM) ?_
  refine jC 13 _ (pM) ?_
  refine jC 12 _ (kD) ?_
  refine jC 13 _ (pX) ?_
  exact jR Tryz.func3
set_option maxRecDepth 100000 in
theorem feet_none (q:Qh n1 n2 n3 d p1 p2 p3) (g:Qh n1 n2 n3 d v1 v2 v3) (hs' : Ss (writeB d)) (h:Ss3 (writeB p1) (writeB p2) (writeB p3)) (k:Ss3 (writeB v1) (writeB v2) (writeB v3)) (hk:kh n1 n2 n3 (writeB d)=0) (hp:c3 (writeB p1) (writeB p2) (writeB p3)=0) (hz:c3 (writeB v1) (writeB v2) (writeB v3)=0) (h0:dt (n1:Rat) n2 n3 v1 v2 v3=0) :
 jX 3 [hL n1 n2 n3 (writeB d),vS p1 p2 p3,vS v1 v2 v3] (bl true):=by
 have m:M3 n1 n2 n3:=⟨q.m1,q.m2,q.m3⟩
 obtain ⟨z00,b1,b2,b3,hk0,hd0⟩:=tI hk
 have hc:=zP hs'
 have hs:=iP h k
 have rs:Rb (writeB d):=hs'.sl.rb
 have n0:wP n1 n2 n3≠0:=nn_pos z00
 have wd:Wr d:=q.d.wr (by omega)
 have wp:iF p1 p2 p3:=⟨q.p1.wr (by omega),q.p2.wr (by omega),q.p3.wr (by omega)⟩
 have hv:Hv n1 n2 n3 d:=⟨by unfold Bg at b1;constructor <;> omega,by unfold Bg at b2;constructor <;> omega,by unfold Bg at b3;constructor <;> omega,wd,gP hk0⟩
 obtain ⟨eW,eM,eD⟩:=uS (n1:=n1) (n2:=n2) (n3:=n3) (d:=d) (p1:=p1) (p2:=p2) (p3:=p3) n0
 have wF:iF (ft n1 n2 n3 d p1 p2 p3 p1 n1) (ft n1 n2 n3 d p1 p2 p3 p2 n2) (ft n1 n2 n3 d p1 p2 p3 p3 n3):=⟨q.f1.wr (by omega),q.f2.wr (by omega),q.f3.wr (by omega)⟩
 have wM:iF (mr n1 n2 n3 d p1 p2 p3 p1 n1) (mr n1 n2 n3 d p1 p2 p3 p2 n2) (mr n1 n2 n3 d p1 p2 p3 p3 n3):=⟨((bq_two.mul q.f1).sub q.p1).wr (by omega),((bq_two.mul q.f2).sub q.p2).wr (by omega),((bq_two.mul q.f3).sub q.p3).wr (by omega)⟩
 have wD:Wr (dsR n1 n2 n3 d p1 p2 p3):=q.ds.wr (by omega)
 have cF:=oX hv wp n0 (eW p1 n1) (eW p2 n2) (eW p3 n3) wF
 have cD:=nO hv wp n0 eD wD
 have cM:=nL hv wp n0 (eM p1 n1) (eM p2 n2) (eM p3 n3) wM
 have kH:=iI (n1:=n1) (n2:=n2) (n3:=n3) (s:=writeB d) (by have h:(writeB d).size≤30:=hs';omega) hk
 have kV:=eJ h.sl hp
 have kF:=lG (x:=0) (y:=0) (.inl rfl) (.inl rfl) (f2_r rfl)
 have rF:=lF q n0
 have pF:=nQ wF
 have rD:=nR q n0
 have nD:=yW wD
 have rM:=rO q n0
 have pM:=nQ wM
 have wv:iF v1 v2 v3:=⟨g.p1.wr (by omega),g.p2.wr (by omega),g.p3.wr (by omega)⟩
 have cX:=apiMeetNoneF hv wp wv h0
 have kD:=eJ k.sl hz
 have kM:=refMeetNoF (p1:=p1) (p2:=p2) (p3:=p3) g h0
 have pX:=yX (z:=7) (by decide)
 clear q hs' h k hk hp m b1 b2 b3 hk0 hd0 z00 rs n0 wd wp hv eW eM eD wF wM wD g wv hz h0
 ·skip
  refine jY Tryz.func3 fun w00 hI=>?_
  refine jW hI 4 [] (pA) ?_
  refine jC 5 _ (hs) ?_
  refine jP 29 23 Tryz.underlying23 (writeB d) ?_
  refine jM 30 (writeB d).size 30 false hc ?_
  refine jW hI 6 _ (cX) ?_
  refine jW hI 7 _ (cF) ?_
  refine jW hI 8 _ (cD) ?_
  refine jW hI 9 _ (cM) ?_
  refine jC 11 _ (kH) ?_
  refine jC 12 _ (kV) ?_
  refine jC 10 _ (kF) ?_
  refine jC 15 _ (rF) ?_
  refine jC 13 _ (pF) ?_
  refine jC 16 _ (rD) ?_
  refine jC 14 _ (nD) ?_
  refine jC 17 _ (rM) ?_
  refine jC 13 _ (pM) ?_
  refine jC 12 _ (kD) ?_
  refine jC 18 _ (kM) ?_
  refine jC 13 _ (pX) ?_
  exact jR Tryz.func3
set_option maxRecDepth 100000 in
theorem feet_ok (q:Qh n1 n2 n3 d p1 p2 p3) (g:Qh n1 n2 n3 d v1 v2 v3) (hs' : Ss (writeB d)) (h:Ss3 (writeB p1) (writeB p2) (writeB p3)) (k:Ss3 (writeB v1) (writeB v2) (writeB v3)) (hk:kh n1 n2 n3 (writeB d)=0) (hp:c3 (writeB p1) (writeB p2) (writeB p3)=0) (hz:c3 (writeB v1) (writeB v2) (writeB v3)=0) (h0:dt (n1:Rat) n2 n3 v1 v2 v3≠0) :
 jX 3 [hL n1 n2 n3 (writeB d),vS p1 p2 p3,vS v1 v2 v3] (bl true):=by
 have m:M3 n1 n2 n3:=⟨q.m1,q.m2,q.m3⟩
 obtain ⟨z00,b1,b2,b3,hk0,hd0⟩:=tI hk
 have hc:=zP hs'
 have hs:=iP h k
 have rs:Rb (writeB d):=hs'.sl.rb
 have n0:wP n1 n2 n3≠0:=nn_pos z00
 have wd:Wr d:=q.d.wr (by omega)
 have wp:iF p1 p2 p3:=⟨q.p1.wr (by omega),q.p2.wr (by omega),q.p3.wr (by omega)⟩
 have hv:Hv n1 n2 n3 d:=⟨by unfold Bg at b1;constructor <;> omega,by unfold Bg at b2;constructor <;> omega,by unfold Bg at b3;constructor <;> omega,wd,gP hk0⟩
 obtain ⟨eW,eM,eD⟩:=uS (n1:=n1) (n2:=n2) (n3:=n3) (d:=d) (p1:=p1) (p2:=p2) (p3:=p3) n0
 have wF:iF (ft n1 n2 n3 d p1 p2 p3 p1 n1) (ft n1 n2 n3 d p1 p2 p3 p2 n2) (ft n1 n2 n3 d p1 p2 p3 p3 n3):=⟨q.f1.wr (by omega),q.f2.wr (by omega),q.f3.wr (by omega)⟩
 have wM:iF (mr n1 n2 n3 d p1 p2 p3 p1 n1) (mr n1 n2 n3 d p1 p2 p3 p2 n2) (mr n1 n2 n3 d p1 p2 p3 p3 n3):=⟨((bq_two.mul q.f1).sub q.p1).wr (by omega),((bq_two.mul q.f2).sub q.p2).wr (by omega),((bq_two.mul q.f3).sub q.p3).wr (by omega)⟩
 have wD:Wr (dsR n1 n2 n3 d p1 p2 p3):=q.ds.wr (by omega)
 have cF:=oX hv wp n0 (eW p1 n1) (eW p2 n2) (eW p3 n3) wF
 have cD:=nO hv wp n0 eD wD
 have cM:=nL hv wp n0 (eM p1 n1) (eM p2 n2) (eM p3 n3) wM
 have kH:=iI (n1:=n1) (n2:=n2) (n3:=n3) (s:=writeB d) (by have h:(writeB d).size≤30:=hs';omega) hk
 have kV:=eJ h.sl hp
 have kF:=lG (x:=0) (y:=0) (.inl rfl) (.inl rfl) (f2_r rfl)
 have rF:=lF q n0
 have pF:=nQ wF
 have rD:=nR q n0
 have nD:=yW wD
 have rM:=rO q n0
 have pM:=nQ wM
 have wv:iF v1 v2 v3:=⟨g.p1.wr (by omega),g.p2.wr (by omega),g.p3.wr (by omega)⟩
 have qk:Bq 122 (dt (n1:Rat) n2 n3 v1 v2 v3):=Bq.dt q.q1 q.q2 q.q3 g.p1 g.p2 g.p3 (by omega)
 have qw:=q.ex.div qk
 have wX:iF (mtR n1 n2 n3 d p1 p2 p3 v1 v2 v3 p1 v1) (mtR n1 n2 n3 d p1 p2 p3 v1 v2 v3 p2 v2) (mtR n1 n2 n3 d p1 p2 p3 v1 v2 v3 p3 v3):=⟨(q.p1.sub (qw.mul g.p1)).wr (by omega),(q.p2.sub (qw.mul g.p2)).wr (by omega),(q.p3.sub (qw.mul g.p3)).wr (by omega)⟩
 have cX:=apiMeetF hv wp wv h0 rfl rfl rfl wX
 have kD:=eJ k.sl hz
 have kM:=refMeetF q g h0
 have pX:=nQ wX
 clear q hs' h k hk hp m b1 b2 b3 hk0 hd0 z00 rs n0 wd wp hv eW eM eD wF wM wD g wv qk qw wX hz h0
 ·skip
  refine jY Tryz.func3 fun w00 hI=>?_
  refine jW hI 4 [] (pA) ?_
  refine jC 5 _ (hs) ?_
  refine jP 29 23 Tryz.underlying23 (writeB d) ?_
  refine jM 30 (writeB d).size 30 false hc ?_
  refine jW hI 6 _ (cX) ?_
  refine jW hI 7 _ (cF) ?_
  refine jW hI 8 _ (cD) ?_
  refine jW hI 9 _ (cM) ?_
  refine jC 11 _ (kH) ?_
  refine jC 12 _ (kV) ?_
  refine jC 10 _ (kF) ?_
  refine jC 15 _ (rF) ?_
  refine jC 13 _ (pF) ?_
  refine jC 16 _ (rD) ?_
  refine jC 14 _ (nD) ?_
  refine jC 17 _ (rM) ?_
  refine jC 13 _ (pM) ?_
  refine jC 12 _ (kD) ?_
  refine jC 18 _ (kM) ?_
  refine jC 13 _ (pX) ?_
  exact jR Tryz.func3
end
theorem qh_of {n1 n2 n3:Int} {d p1 p2 p3:Rat} (m:M3 n1 n2 n3) (hk:kh n1 n2 n3 (writeB d)=0) (qd:Bq 30 d) (q1:Bq 30 p1) (q2:Bq 30 p2) (q3:Bq 30 p3):Qh n1 n2 n3 d p1 p2 p3:=by
 obtain ⟨_,b1,b2,b3,_⟩:=tI hk
 unfold Bg at b1 b2 b3
 exact ⟨m.1,m.2.1,m.2.2,bq_int (by omega) (by omega),bq_int (by omega) (by omega),bq_int (by omega) (by omega),qd,q1,q2,q3⟩
theorem feetF (n1 n2 n3:Int) (m:M3 n1 n2 n3) (s a b c x y u:ByteArray):jX 3 [hL n1 n2 n3 s,t3 a b c,t3 x y u] (bl true):=by
 cases hl:(lo 30 a || lo 30 b || lo 30 c || lo 30 x || lo 30 y || lo 30 u) with
 | true=>exact feet_long1 hl
 | false =>
   simp only [Bool.or_eq_false_iff,lo,decide_eq_false_iff_not] at hl
   obtain ⟨⟨⟨⟨⟨l1,l2⟩,l3⟩,l4⟩,l5⟩,l6⟩:=hl
   have h:Ss3 a b c:=⟨by show a.size≤30;omega,by show b.size≤30;omega,by show c.size≤30;omega⟩
   have k:Ss3 x y u:=⟨by show x.size≤30;omega,by show y.size≤30;omega,by show u.size≤30;omega⟩
   cases hc:decide ((30:Int)<(s.size:Nat)) with
   | true=>exact feet_long2 h k hc
   | false =>
     have hs:Ss s:=by have:=of_decide_eq_false hc;show s.size≤30;omega
     by_cases hz:f2 (kh n1 n2 n3 s) (c3 a b c)=0
     ·obtain ⟨hk,hp⟩:=f2_zero hz
      obtain ⟨d,rfl,qd⟩:=slwN (n:=30) hs (by omega) (tI hk).2.2.2.2.2
      obtain ⟨p1,p2,p3,rfl,rfl,rfl,q1,q2,q3⟩:=slwN3 (n:=30) h.1 h.2.1 h.2.2 (by omega) hp
      have q:=qh_of m hk qd q1 q2 q3
      by_cases hd:c3 x y u=0
      ·obtain ⟨v1,v2,v3,rfl,rfl,rfl,r1,r2,r3⟩:=slwN3 (n:=30) k.1 k.2.1 k.2.2 (by omega) hd
       have g:=qh_of m hk qd r1 r2 r3
       by_cases h0:dt (n1:Rat) n2 n3 v1 v2 v3=0
       ·exact feet_none q g hs h k hk hp hd h0
       ·exact feet_ok q g hs h k hk hp hd h0
      ·exact feet_bad2 q hs h k hk hp rfl (ev_b (qJ _ _ _) hd)
     ·exact feet_bad1 m hs h k rfl hz
end Ab
namespace Ab
open Go.ChangeShapes Go.WideShapes Go.ChangeAt Go.RowKit
theorem gPow:Tryz.prog.globalNamed "internal/strconv.uint64pow10" = some 5:=by kernel_rfl
theorem gl_of {W:World} {r:List (String×DataW Unit)} (h:laidMet Tryz.prog (("internal/strconv.uint64pow10",Lib.tabData .u64 Lib.pow10Tab)::r) W) (hs:W.ShapedOpen Tryz.prog):Gl W :=
 ⟨Lib.tabIs_of_head (t:=289) (e:=151) (n:=20) gPow (by kernel_rfl) (by kernel_rfl) (by kernel_rfl) (by kernel_rfl) (by kernel_rfl) h,
  Go.Proofs.cell_of_shapedOpen_int (zero := #[.int .i64 0]) (t:=3) hs (of_decide_eq_true (by kernel_rfl)) (by kernel_rfl) rfl (by kernel_rfl) (by kernel_rfl) (by kernel_rfl)⟩
theorem hold_t3 {β:List Nat} {a b c:ByteArray} {w:World}:(t3 a b c).holds β (.agg #[.string a,.string b,.string c]) w :=
 ⟨[.string a,.string b,.string c],rfl,[.string a],_,rfl,rfl,[.string b],_,rfl,rfl,[.string c],_,rfl,rfl,rfl⟩
end Ab
namespace Ab
open Go.ChangeShapes Go.WideShapes Go.RowKit
def iW (P:Program):Nat→TypeId→Nat→Option Bool
 | 0,_,_=>none
 | d+1,T,i=>match P.underlying T with
   | some (.int .i64)=>if i=0 then some false else none
   | some .string=>if i=0 then some true else none
   | some (.array n e)=>if 0<P.cellsOf e∧i/P.cellsOf e<n then iW P d e (i%P.cellsOf e) else none
   | some (.struct fs)=>(fs.toList.find? fun f=>decide (f.offset≤i∧i<f.offset+P.cellsOf f.type)).bind fun f=>iW P d f.type (i-f.offset)
   | _=>none
def isKind:Bool→Value→Prop
 | true,c => ∃ s:ByteArray,c = .string s∧s.size≤maxLen
 | false,c => ∃ n:Int,c = .int .i64 n∧(Lit.int .i64 n).wf=true
section
variable {H:Type} {enc:TypeId×Value→H} {P:Program} {w:World} {base:Nat} {spare:Nat→Bool} {held:Bool}
theorem piece {cs:List Value} {o n r:Nat} {c:Value} (h:((cs.drop o).take n)[r]?=some c):cs[o+r]?=some c:=by
 rw [List.getElem?_take] at h
 split at h
 ·rw [List.getElem?_drop] at h;exact h
 ·cases h
theorem trod_kind:∀ (d:Nat) {T:TypeId} {fuel i:Nat} {cs:List Value} {x:DataW H×List MemPlace} {k:Bool},DataW.trod enc P w base spare held fuel T cs=some x→iW P d T i=some k→∃ c,cs[i]?=some c∧isKind k c:=by
 intro d
 induction d with
 | zero=>intro T fuel i cs x k _ hk;cases hk
 | succ d ih =>
   intro T fuel i cs x k h hk
   unfold iW at hk
   split at hk
   ·rename_i hu
    split at hk <;> cases hk
    rename_i h0
    subst h0
    cases fuel with
    | zero=>cases h
    | succ m =>
      unfold DataW.trod at h
      rw [hu] at h
      split at h <;> simp_all
      obtain ⟨⟨_,hw⟩,_⟩:=h
      cases ‹IntKind.i64=_›
      exact ⟨_,rfl,hw⟩
   ·rename_i hu
    split at hk <;> cases hk
    rename_i h0
    subst h0
    cases fuel with
    | zero=>cases h
    | succ m =>
      unfold DataW.trod at h
      rw [hu] at h
      split at h <;> simp_all
      exact ⟨_,rfl,h.1⟩
   ·rename_i n e hu
    split at hk
    ·rename_i hi
     obtain ⟨xs,m,_,_,_,hlen,hat⟩:=DataW.trod_array hu h
     have hq:=hat (i/P.cellsOf e) hi.2
     rw [List.getElem?_eq_getElem (by omega)] at hq
     obtain ⟨c,hc,hk'⟩:=ih hq hk
     refine ⟨c,?_,hk'⟩
     have:=piece hc
     rw [Nat.mul_comm,Nat.div_add_mod] at this
     exact this
    ·cases hk
   ·rename_i fs hu
    rw [Option.bind_eq_some_iff] at hk
    obtain ⟨f,hf,hk⟩:=hk
    have hp:=List.find?_some hf
    simp only [decide_eq_true_eq] at hp
    obtain ⟨j,hj,hje⟩:=List.getElem_of_mem (List.mem_of_find?_eq_some hf)
    obtain ⟨xs,n,_,_,_,hlen,hat⟩:=DataW.trod_struct hu h
    have hq:=hat j f (by rw [← hje];simp)
    rw [List.getElem?_eq_getElem (by simp at hj;omega)] at hq
    obtain ⟨c,hc,hk'⟩:=ih hq hk
    refine ⟨c,?_,hk'⟩
    have:=piece hc
    rw [show f.offset+(i-f.offset)=i by omega] at this
    exact this
   ·cases hk
def rQ (P:Program):Nat→TypeId→Bool
 | 0,_=>false
 | d+1,T=>match P.underlying T with
   | some (.int _)|some .string=>true
   | some (.array _ e)=>rQ P d e
   | some (.struct fs)=>fs.toList.all fun f=>rQ P d f.type
   | _=>false
theorem uT {α β:Type} {f g:α→Option (β×List MemPlace)}:∀ {l:List α} {xs:List (β×List MemPlace)},l.mapM f=some xs→(∀ a∈l,∀ x,f a=some x→g a=some x∧x.2 = [])→l.mapM g=some xs∧xs.flatMap (·.2) = []
 | [],xs,h,_=>by simp at h;subst h;exact ⟨rfl,rfl⟩
 | a::l,xs,h,hs=>by
   rw [List.mapM_cons] at h
   simp only [bind,Option.bind_eq_some_iff,pure,Option.some.injEq] at h
   obtain ⟨y,hy,ys,hys,rfl⟩:=h
   obtain ⟨g1,g2⟩:=hs a (by simp) y hy
   obtain ⟨i1,i2⟩:=uT hys fun b hb=>hs b (by simp [hb])
   exact ⟨by rw [List.mapM_cons,g1,i1];rfl,by simp [g2,i2]⟩
def SameRead (enc:TypeId×Value→H) (P:Program) (w:World) (base:Nat) (spare:Nat→Bool) (held:Bool) (w' : World) (base' : Nat) (spare' : Nat→Bool) (d:Nat):Prop :=
 ∀ (T:TypeId) (fuel:Nat) (cs:List Value) (x:DataW H×List MemPlace),rQ P d T=true→DataW.trod enc P w base spare held fuel T cs=some x→DataW.trod enc P w' base' spare' held fuel T cs=some x∧x.2 = []
theorem trod_plain {w' : World} {base' : Nat} {spare' : Nat→Bool}:∀ d:Nat,SameRead enc P w base spare held w' base' spare' d:=by
 intro d
 induction d with
 | zero=>intro T fuel cs x hp;cases hp
 | succ d ih =>
   intro T fuel cs x hp h
   cases fuel with
   | zero=>cases h
   | succ m =>
     unfold rQ at hp
     unfold DataW.trod at h ⊢
     split at hp
     ·rename_i hu
      rw [hu] at h ⊢
      split at h <;> simp_all <;> (obtain ⟨_,h⟩:=h;rw [← h])
     ·rename_i hu
      rw [hu] at h ⊢
      split at h <;> simp_all <;> (obtain ⟨_,h⟩:=h;rw [← h])
     ·rename_i hu
      rw [hu] at h ⊢
      split at h <;> simp_all
      obtain ⟨hl,xs,hxs,rfl⟩:=h
      obtain ⟨g1,g2⟩:=uT hxs fun a _ x hx=>ih _ _ _ _ hp hx
      exact ⟨⟨xs,g1,rfl⟩,g2⟩
     ·rename_i hu
      rw [hu] at h ⊢
      split at h <;> simp_all
      obtain ⟨hl,xs,hxs,rfl⟩:=h
      obtain ⟨g1,g2⟩:=uT hxs fun a ha x hx=>ih _ _ _ _ (by obtain ⟨j,hj,rfl⟩:=List.getElem_of_mem ha;simpa using hp j (by simpa using hj)) hx
      exact ⟨⟨xs,g1,rfl⟩,g2⟩
     ·cases hp
theorem rR {w' : World} {base' : Nat} {spare' : Nat→Bool} {T:TypeId} {v:Value} {D:DataW H} {p:List MemPlace} (hp:rQ P 10 T=true) (h:DataW.Trod enc P w base spare held T v D p):p = []∧DataW.Trod enc P w' base' spare' held T v D []:=by
 obtain ⟨fuel,hf⟩:=h
 obtain ⟨h1,h2⟩:=trod_plain (w':=w') (base':=base') (spare':=spare') 10 _ _ _ _ hp hf
 simp only at h2
 subst h2
 exact ⟨rfl,fuel,h1⟩
theorem agg_of {r:Reach} {b0 n:Nat} {T:TypeId} {v:Value} (hu:(match P.underlying T with|some (.struct _)|some (.array _ _)=>true|_=>false)=true) (hC:P.cellsOf T=n) (hv:Value.okWide P w r b0 T v):∃ cs:Array Value,v = .agg cs∧cs.size=n:=by
 split at hu
 ·rename_i hs
  simp only [Value.okWide,hs] at hv
  obtain ⟨cs,h1,h2,_⟩:=hv
  exact ⟨cs,h1,h2.trans hC⟩
 ·rename_i hs
  simp only [Value.okWide,hs] at hv
  obtain ⟨cs,h1,h2,_⟩:=hv
  exact ⟨cs,h1,h2.trans hC⟩
 ·cases hu
theorem nS {T:TypeId} {cs:Array Value} {D:DataW H} {p:List MemPlace} {k:Bool} (i:Nat) (h:DataW.Trod enc P w base spare held T (.agg cs) D p) (hk:iW P 10 T i=some k):∃ c,cs[i]?=some c∧isKind k c:=by
 obtain ⟨fuel,hf⟩:=h
 obtain ⟨c,h1,h2⟩:=trod_kind 10 hf hk
 exact ⟨c,by simpa [Value.cells] using h1,h2⟩
theorem open_vec {r:Reach} {b0:Nat} {T:TypeId} {v:Value} {D:DataW H} {p:List MemPlace} (hu:(match P.underlying T with|some (.struct _)|some (.array _ _)=>true|_=>false)=true) (hC:P.cellsOf T=3)
 (hk:(iW P 10 T 0,iW P 10 T 1,iW P 10 T 2)=(some true,some true,some true)) (hv:Value.okWide P w r b0 T v) (h:DataW.Trod enc P w base spare held T v D p):∃ a b c:ByteArray,v = .agg #[.string a,.string b,.string c]∧a.size≤maxLen∧b.size≤maxLen∧c.size≤maxLen:=by
 simp only [Prod.mk.injEq] at hk
 obtain ⟨cs,rfl,hs⟩:=agg_of hu hC hv
 obtain ⟨c0,c1,c2,rfl⟩:∃ c0 c1 c2,cs = #[c0,c1,c2]:=by
  obtain ⟨l⟩:=cs
  match l,hs with
  | [c0,c1,c2],_=>exact ⟨c0,c1,c2,rfl⟩
 obtain ⟨_,e0,a,rfl,ha⟩:=nS 0 h hk.1
 obtain ⟨_,e1,b,rfl,hb⟩:=nS 1 h hk.2.1
 obtain ⟨_,e2,c,rfl,hc⟩:=nS 2 h hk.2.2
 simp at e0 e1 e2
 subst e0 e1 e2
 exact ⟨a,b,c,rfl,ha,hb,hc⟩
theorem open_half {r:Reach} {b0:Nat} {T:TypeId} {v:Value} {D:DataW H} {p:List MemPlace} (hu:(match P.underlying T with|some (.struct _)|some (.array _ _)=>true|_=>false)=true) (hC:P.cellsOf T=4)
 (hk:(iW P 10 T 0,iW P 10 T 1,iW P 10 T 2,iW P 10 T 3)=(some false,some false,some false,some true)) (hv:Value.okWide P w r b0 T v) (h:DataW.Trod enc P w base spare held T v D p):∃ (a b c:Int) (s:ByteArray),v = .agg #[.int .i64 a,.int .i64 b,.int .i64 c,.string s]∧s.size≤maxLen:=by
 simp only [Prod.mk.injEq] at hk
 obtain ⟨cs,rfl,hs⟩:=agg_of hu hC hv
 obtain ⟨c0,c1,c2,c3,rfl⟩:∃ c0 c1 c2 c3,cs = #[c0,c1,c2,c3]:=by
  obtain ⟨l⟩:=cs
  match l,hs with
  | [c0,c1,c2,c3],_=>exact ⟨c0,c1,c2,c3,rfl⟩
 obtain ⟨_,e0,a,rfl,ha⟩:=nS 0 h hk.1
 obtain ⟨_,e1,b,rfl,hb⟩:=nS 1 h hk.2.1
 obtain ⟨_,e2,c,rfl,hc⟩:=nS 2 h hk.2.2.1
 obtain ⟨_,e3,d,rfl,hd⟩:=nS 3 h hk.2.2.2
 simp at e0 e1 e2 e3
 subst e0 e1 e2 e3
 exact ⟨a,b,c,d,rfl,hd⟩
end
end Ab
end Go.Proofs.YtjiadfgfnmeabaaGreatDoor
