/- Parts of the proof, joined. -/
import Derived.Test.YtlikeahoonjdaaaGreatDoorJ7
import Derived.Laws.Tables
import Derived.Laws.CopyOwn
import Derived.KernelRfl
import Derived.WalkKit
import Derived.ProofKit
import Derived.OpenShut
import Derived.Deep.DeepHandedRow
import Derived.Deep.DeepWitnessRowRef
import Derived.Lib.LaidTab
import Derived.Stop.LaidErr
import Derived.Shelf.Vars
import Derived.Lay
import Derived.Test.YtlikeahoonjdaaaGreatDoorProg
import Derived.ChangeArms
set_option maxHeartbeats 4000000
set_option linter.unusedSimpArgs false
set_option linter.unusedVariables false
set_option linter.constructorNameAsVariable false
namespace Go.Proofs.YtlikeahoonjdaaaGreatDoor
namespace Fr
open Go.RowKit Go.Shelf Ab Pl
attribute [local go_sem] Oper.semAt_some
theorem xX {P:Program} {ops:Array Oper} {rest:List Oper} {o:Oper} {a:Act} {w:World} {Q:Exit→Act→World→Prop} (hg:o.guard=none) (t:TypeId) (parts:Array (Nat×Operand)) (ho:o.op = .build t parts) (cs:Array Value)
 (hb:P.built t (parts.map fun (i,x)=>(i,a.eval x)).toList=some cs) (h:wpList P ops Q rest (a.put o.dst (.agg cs)) w):wpList P ops Q (o::rest) a w :=
 wpList_build hg t parts ho (by rw [hb];rfl) (by rw [hb];exact h)
theorem store_new3 {P:Program} {ops:Array Oper} {rest:List Oper} {o:Oper} {a:Act} {Q:Exit→Act→World→Prop} (hgd:o.guard=none) (ty:TypeId) (x y:Operand) (ho:o.op = .store ty x y) (w1:World) (A B:Obj) (old cells:Array Value)
 (hx:a.eval x = .pointer (some ⟨w1.heap.size+1+1,0,none⟩)) (hy:a.eval y = .agg cells) (hi:(P.info? ty).map (·.size)=some cells.size) (hold:old.size=cells.size) (h1:cells.all (·.oneCell')=true)
 (h:∀ W3:World,W3.heap.size=w1.heap.size+3→Below w1.heap.size w1 W3→W3.heap[w1.heap.size]?=some A→W3.heap[w1.heap.size+1]?=some B→W3.heap[w1.heap.size+2]?=some (.cells cells ty (0,0))→wpList P ops Q rest (a.put o.dst undef) W3) :
 wpList P ops Q (o::rest) a (((w1.alloc A).alloc B).alloc (.cells old ty (0,0))):=by
 have hg:(((w1.alloc A).alloc B).alloc (.cells old ty (0,0))).heap[w1.heap.size+1+1]?=some (.cells old ty (0,0)):=by
  have:=World.alloc_heap_new ((w1.alloc A).alloc B) (.cells old ty (0,0))
  rwa [World.size_alloc,World.size_alloc] at this
 refine wpList_store_row hgd ty x y ho (w1.heap.size+1+1) cells hx hy ty old hg hi hold h1 (h _ (by rw [setRow_size];simp) ?_ ?_ ?_ (setRow_heap _ _ _ _ _ _ hg))
 ·exact below_setRow ((((aB _ w1).alloc (aR _) _).alloc (by simp) _).alloc (by simp;omega) _) (by omega) _
 ·rw [setRow_other _ _ _ _ (by omega)]
  exact (Below.heap_alloc _ _ _ (by simp;omega)).trans ((Below.heap_alloc _ _ _ (by simp)).trans (World.alloc_heap_new w1 A))
 ·rw [setRow_other _ _ _ _ (by omega)]
  refine (Below.heap_alloc _ _ _ (by simp)).trans ?_
  have:=World.alloc_heap_new (w1.alloc A) B
  rwa [World.size_alloc] at this
structure Stopped (p:Prop):Prop where
 out:p
theorem stop_store {P:Program} {ops:Array Oper} {rest:List Oper} {o:Oper} {a:Act} {w:World} {Q:Exit→Act→World→Prop} (ty:TypeId) (x y:Operand) (ho:o.op = .store ty x y) (h:Stopped (wpList P ops Q (o::rest) a w)):wpList P ops Q (o::rest) a w:=h.out
theorem tH {W W' : World} {row:Option Nat} (hg:W.grownBy W' row) (hrow:∀ r,row=some r→∃ o:Obj,W.heap[r]?=some o∧o.isCells=false):Go.Proofs.YtlikeahoonjdaaaGreatDoor.Ext Kn W W':=by
 refine ⟨hg.size,fun g o h ho=>?_⟩
 have hc:o.isCells=true:=by cases o <;> first|rfl|(simp [Go.Proofs.YtlikeahoonjdaaaGreatDoor.hotObj] at ho)
 exact (grownBy_keeps_cells hg hrow h hc).trans h
theorem Vc.kext {w w' : World} {v:Value} {a b c:Rat} (h:Vc w v a b c) (hx:Go.Proofs.YtlikeahoonjdaaaGreatDoor.Ext Kn w w'):Vc w' v a b c:=h.ext (fun _=>rfl) (fun _=>rfl) hx
theorem load_all {P:Program} {ρ:Operand→Value} {o:Oper} {w:World} {T T' : TypeId} {x:Operand} {g:Nat} {cs:List Value} {d:TypeDesc} (ho:o.op = .load T x) (hx:ρ x = .pointer (some ⟨g,0,none⟩)) (hg:w.heap[g]?=some (.cells cs.toArray T' (0,0)))
 (hd:P.underlying T=some d) (hr:d.isRow=true) (hi:(P.info? T).map (·.size)=some cs.length):(execOp ρ o).run P w = .ok (.value (.agg cs.toArray)) w:=by
 have h:=run_loadVar_mid w g 0 T ((cs.drop 0).take cs.length) d (qG hg 0 cs.length) hd hr (by rw [hi,List.drop_zero,List.take_length])
 rw [List.drop_zero,List.take_length] at h
 simp only [execOp,ho,Instr.loadAt,hx,Instr.sureAddr]
 exact bF (by simpa [Sem.run_bind] using h)
theorem frL_one (o x y z:C9):∀ c∈fK o x y z,c.oneCell'=true:=by
 have h:(fK o x y z).all (·.oneCell')=true:=rfl
 exact fun c hc=>List.all_eq_true.1 h c hc
theorem fin3:∀ x:Fin 3,x=0∨x=1∨x=2:=by decide
theorem rV {w:World} {b i:Nat} {v:Value} (hlt:b<w.heap.size) (h:w.cell? ⟨b,i,none⟩=some v) (o:Obj):(w.alloc o).cell? ⟨b,i,none⟩=some v :=
 (((aB _ w).alloc (aR _) o).cell (p:=⟨b,i,none⟩) hlt).trans h
theorem gJ {w:World} {b i:Nat} {cs:Array Value} {t:TypeId} (hlt:b<w.heap.size) (h:w.heap[b]?=some (.cells cs t (0,0))) (o:Obj):(w.alloc o).frozen? ⟨b,i,none⟩=false :=
 aY ((((aB _ w).alloc (aR _) o).block b hlt).trans h) i
theorem rW {n g:Nat} {o:Obj} {A X Y:World} (hb:Below n A X) (h:Turned g o X Y) (hn:n≤g):Below n A Y :=
 ⟨h.os.trans hb.os,h.tape.trans hb.tape,h.output.trans hb.output,by rw [h.size];exact hb.size,fun k hk=>(h.block k (by omega)).trans (hb.block k hk)⟩
theorem rX {g S:Nat} {o o0:Obj} {X Y:World} (h:Turned g o X Y) (h0:X.heap[g]?=some o0) (hc:o0.isCells=true):KeepsFrom S X Y:=by
 refine ⟨by rw [h.size];exact aR _,fun k o' _ hk ho=>?_⟩
 have:k≠g:=by
  rintro rfl
  rw [h0] at hk
  injection hk with hk
  rw [hk,ho] at hc
  cases hc
 exact (h.block k this).trans hk
theorem fL {S:Nat} {W W' : World} (h:Below W.heap.size W W'):KeepsFrom S W W':=⟨h.size,fun k o _ hk _=>(h.block k (Array.getElem?_eq_some_iff.1 hk).1).trans hk⟩
section
variable {w:World} {k:C9} {B E R:Nat} {o1 o2 o3 x1 x2 x3 y1 y2 y3 z1 z2 z3:Rat}
theorem lW (o x y z:C9) (T:TypeId):Go.Proofs.YtlikeahoonjdaaaGreatDoor.hotObj Kn (.cells (fK o x y z).toArray T (0,0))=false:=by simp [Go.Proofs.YtlikeahoonjdaaaGreatDoor.hotObj,fK,C9.cells,Kn]
theorem turn9 {w:World} {B:Nat} {T:TypeId} {cs cs' : Array Value} (off:Nat) (h:w.heap[B]?=some (.cells cs T (0,0))) (u0 u1 u2 u3 u4 u5 u6 u7 u8:Value)
 (e:((((((((cs.setIfInBounds off u0).setIfInBounds (off+1) u1).setIfInBounds (off+2) u2).setIfInBounds (off+3) u3).setIfInBounds (off+4) u4).setIfInBounds (off+5) u5).setIfInBounds (off+6) u6).setIfInBounds (off+7) u7).setIfInBounds (off+8) u8=cs') :
 Turned B (.cells cs' T (0,0)) w (((((((((w.setCell ⟨B,off,none⟩ u0).setCell ⟨B,off+1,none⟩ u1).setCell ⟨B,off+2,none⟩ u2).setCell ⟨B,off+3,none⟩ u3).setCell ⟨B,off+4,none⟩ u4).setCell ⟨B,off+5,none⟩ u5).setCell ⟨B,off+6,none⟩ u6).setCell ⟨B,off+7,none⟩ u7).setCell ⟨B,off+8,none⟩ u8):=by
 subst e
 have t0:=cL (i:=off) h u0
 have t1:=t0.trans (cL (i:=off+1) t0.at_ u1)
 have t2:=t1.trans (cL (i:=off+2) t1.at_ u2)
 have t3:=t2.trans (cL (i:=off+3) t2.at_ u3)
 have t4:=t3.trans (cL (i:=off+4) t3.at_ u4)
 have t5:=t4.trans (cL (i:=off+5) t4.at_ u5)
 have t6:=t5.trans (cL (i:=off+6) t5.at_ u6)
 have t7:=t6.trans (cL (i:=off+7) t6.at_ u7)
 exact t7.trans (cL (i:=off+8) t7.at_ u8)
end
end Fr
section
open Go.RowKit Pl
end
namespace Ab
open Go.RowKit Pl
end Ab
namespace Ab
open Go.RowKit Pl
def f2 (x y:Int):Int:=if x=0 then y else x
def f3 (x y z:Int):Int:=f2 x (f2 y z)
abbrev Ev (z:Int):Prop:=z=0∨z=1∨z=4
theorem f2_ev {x y:Int} (hx:Ev x) (hy:Ev y):Ev (f2 x y):=by unfold f2;split <;> assumption
abbrev lz (z:Int):Seg Kn := .lit (.int .i64 z)
theorem first2Any {T:TypeId} {x y z:Int} (hx:Ev x) (hy:Ev y) (hz:f2 x y=z):jF 41 [.fv (.nsl 2 T [lz x,lz y])] (it z):=by
 rcases hx with rfl|rfl|rfl
 ·have hz:y=z:=hz
  subst hz
  rcases hy with rfl|rfl|rfl <;> (refine kgoS Tryz.func41 (by kernel_rfl) fun w00=>?_;exact kret Tryz.func41 (by kernel_rfl))
 ·have hz:1=z:=hz
  subst hz
  refine kgoS Tryz.func41 (by kernel_rfl) fun w00=>?_
  exact jR Tryz.func41
 ·have hz:4=z:=hz
  subst hz
  refine kgoS Tryz.func41 (by kernel_rfl) fun w00=>?_
  exact jR Tryz.func41
abbrev c3 (a b c:ByteArray):Int:=f3 (eY a) (eY b) (eY c)
end Ab
namespace Fr
open Go.RowKit Go.Shelf Ab Pl
attribute [local go_sem] Oper.semAt_some
def m9 (m:C9):Obj := .cells #[.int .i64 m.n1,.int .i64 m.d1,.pointer m.p1,.int .i64 m.n2,.int .i64 m.d2,.pointer m.p2,.int .i64 m.n3,.int .i64 m.d3,.pointer m.p3] 68 (0,0)
def st9 (X:World) (B a b c d e f g h i:Nat) (m:C9):World:=((((((((X.setCell ⟨B,a,none⟩ (.int .i64 m.n1)).setCell ⟨B,b,none⟩ (.int .i64 m.d1)).setCell ⟨B,c,none⟩ (.pointer m.p1)).setCell ⟨B,d,none⟩ (.int .i64 m.n2)).setCell ⟨B,e,none⟩ (.int .i64 m.d2)).setCell ⟨B,f,none⟩ (.pointer m.p2)).setCell ⟨B,g,none⟩ (.int .i64 m.n3)).setCell ⟨B,h,none⟩ (.int .i64 m.d3)).setCell ⟨B,i,none⟩ (.pointer m.p3)
abbrev N9 (cs:Array Value) (t:C9) (a b c d e f g h i:Nat):Prop:=cs[a]?=some (.int .i64 t.n1)∧cs[b]?=some (.int .i64 t.d1)∧cs[c]?=some (.pointer t.p1)∧cs[d]?=some (.int .i64 t.n2)∧cs[e]?=some (.int .i64 t.d2)∧cs[f]?=some (.pointer t.p2)∧cs[g]?=some (.int .i64 t.n3)∧cs[h]?=some (.int .i64 t.d3)∧cs[i]?=some (.pointer t.p3)
theorem up9 {w:World} {B a b c d e f g h i:Nat} {cs:Array Value} {T:TypeId} (t:C9) (hlt:B<w.heap.size) (hb:w.heap[B]?=some (.cells cs T (0,0))) (hc:N9 cs t a b c d e f g h i):(∀ o,(w.alloc o).cell? ⟨B,a,none⟩=some (.int .i64 t.n1))∧(∀ o,(w.alloc o).frozen? ⟨B,a,none⟩=false)∧(∀ o,(w.alloc o).cell? ⟨B,b,none⟩=some (.int .i64 t.d1))∧(∀ o,(w.alloc o).frozen? ⟨B,b,none⟩=false)∧(∀ o,(w.alloc o).cell? ⟨B,c,none⟩=some (.pointer t.p1))∧(∀ o,(w.alloc o).frozen? ⟨B,c,none⟩=false)∧(∀ o,(w.alloc o).cell? ⟨B,d,none⟩=some (.int .i64 t.n2))∧(∀ o,(w.alloc o).frozen? ⟨B,d,none⟩=false)∧(∀ o,(w.alloc o).cell? ⟨B,e,none⟩=some (.int .i64 t.d2))∧(∀ o,(w.alloc o).frozen? ⟨B,e,none⟩=false)∧(∀ o,(w.alloc o).cell? ⟨B,f,none⟩=some (.pointer t.p2))∧(∀ o,(w.alloc o).frozen? ⟨B,f,none⟩=false)∧(∀ o,(w.alloc o).cell? ⟨B,g,none⟩=some (.int .i64 t.n3))∧(∀ o,(w.alloc o).frozen? ⟨B,g,none⟩=false)∧(∀ o,(w.alloc o).cell? ⟨B,h,none⟩=some (.int .i64 t.d3))∧(∀ o,(w.alloc o).frozen? ⟨B,h,none⟩=false)∧(∀ o,(w.alloc o).cell? ⟨B,i,none⟩=some (.pointer t.p3))∧(∀ o,(w.alloc o).frozen? ⟨B,i,none⟩=false):=by
 obtain ⟨c0,c1,c2,c3,c4,c5,c6,c7,c8⟩:=hc
 have k:∀ {j:Nat} {v:Value},cs[j]?=some v→∀ o,(w.alloc o).cell? ⟨B,j,none⟩=some v:=fun hj=>rV hlt (by simp [World.cell?,hb,hj])
 exact ⟨k c0,gJ hlt hb,k c1,gJ hlt hb,k c2,gJ hlt hb,k c3,gJ hlt hb,k c4,gJ hlt hb,k c5,gJ hlt hb,k c6,gJ hlt hb,k c7,gJ hlt hb,k c8,gJ hlt hb⟩
def RV (a b c:Rat) (z:Int) (W:World) (e:Ending) (w' : World):Prop := ∃ k:C9,e = .returned (.tuple #[k.val,.int .i64 z])∧Vc w' k.val a b c∧Below W.heap.size W w'
theorem pY {x y z:Int} (hx:Ev x) (hy:Ev y) (hz:f2 x y=z) (w:World) (g:Nat) (T:TypeId) (hh:w.heap[g]?=some (.cells #[.int .i64 x,.int .i64 y] T (0,0))):Calls Tryz.prog 41 #[.slice (some ⟨g,0,none⟩) 2 2] w fun e w'=>e = .returned (.int .i64 z)∧Below w.heap.size w w':=by
 refine (first2Any (T:=T) hx hy hz [] w [.slice (some ⟨g,0,none⟩) 2 2] ⟨_,_,rfl,⟨g,[.int .i64 x,.int .i64 y],rfl,hh,[.int .i64 x],_,rfl,⟨rfl,rfl⟩,[.int .i64 y],_,rfl,⟨rfl,rfl⟩,rfl⟩,rfl⟩).mono ?_
 rintro e w' ⟨v,e1,e2,h1⟩
 have h5:[v] = [.int .i64 z]:=h1.1
 injection h5 with h5
 exact ⟨by rw [e1,h5],e2⟩
def InvE (ev:List (Fin 3)→Int) (w:World) (k:C9) (B E R:Nat) (o1 o2 o3 x1 x2 x3 y1 y2 y3 z1 z2 z3:Rat) (pre:List (Fin 3)) (W:World):Prop :=
 ∃ x y z:C9,W.heap[B]?=some (.cells (fK k x y z).toArray 119 (0,0))∧((0:Fin 3)∈pre→Vc W x.val x1 x2 x3)∧((1:Fin 3)∈pre→Vc W y.val y1 y2 y3)∧((2:Fin 3)∈pre→Vc W z.val z1 z2 z3) ∧
   W.heap[E]?=some (.cells #[.int .i64 (ev pre)] 31 (0,0))∧W.heap[R]?=some (.cells (fK C9.zero C9.zero C9.zero C9.zero).toArray 119 (0,0))∧Vc W k.val o1 o2 o3∧Below w.heap.size w W
section
variable {w:World} {k:C9} {B E R:Nat} {o1 o2 o3 x1 x2 x3 y1 y2 y3 z1 z2 z3:Rat}
theorem oA {u v:Int} {W w2 X1 w5:World} {a b c a' b' c' : C9} {o9 o2:Obj} {S n:Nat} (hbl:Below W.heap.size W w2) (hB:W.heap[B]?=some (.cells (fK k a b c).toArray 119 (0,0))) (hE:W.heap[E]?=some (.cells #[.int .i64 u] 31 (0,0))) (hEB:¬ E=B)
 (hT:Turned B (.cells (fK k a' b' c').toArray 119 (0,0)) (w2.alloc o9) X1) (h5:Below (X1.alloc o2).heap.size (X1.alloc o2) w5) (hn:n≤W.heap.size) (hnB:n≤B) (hnE:n≤E) :
 (w5.setCell ⟨E,0,none⟩ (.int .i64 v)).heap[B]?=some (.cells (fK k a' b' c').toArray 119 (0,0))∧(w5.setCell ⟨E,0,none⟩ (.int .i64 v)).heap[E]?=some (.cells #[.int .i64 v] 31 (0,0)) ∧
 (∀ g,g<W.heap.size→¬ g=B→¬ g=E→(w5.setCell ⟨E,0,none⟩ (.int .i64 v)).heap[g]?=W.heap[g]?)∧Go.Proofs.YtlikeahoonjdaaaGreatDoor.Ext Kn w2 (w5.setCell ⟨E,0,none⟩ (.int .i64 v))∧Go.Proofs.YtlikeahoonjdaaaGreatDoor.Ext Kn W w2∧KeepsFrom S W (w5.setCell ⟨E,0,none⟩ (.int .i64 v))∧Below n W (w5.setCell ⟨E,0,none⟩ (.int .i64 v)):=by
 have hBlt:=(Array.getElem?_eq_some_iff.1 hB).1
 have hElt:=(Array.getElem?_eq_some_iff.1 hE).1
 have hs2:=hbl.size
 have ba:Below w2.heap.size w2 (w2.alloc o9):=(aB _ _).alloc (aR _) _
 have sa:(w2.alloc o9).heap.size=w2.heap.size+1:=by simp
 have hBa:(w2.alloc o9).heap[B]?=some (.cells (fK k a b c).toArray 119 (0,0)):=(ba.block B (by omega)).trans ((hbl.block B hBlt).trans hB)
 have sx:X1.heap.size=w2.heap.size+1:=hT.size.trans sa
 have bb:Below X1.heap.size X1 (X1.alloc o2):=(aB _ _).alloc (aR _) _
 have sb:(X1.alloc o2).heap.size=w2.heap.size+2:=by simp [sx]
 have hs5:=h5.size
 have keep:∀ g,g<W.heap.size→¬ g=B→w5.heap[g]?=W.heap[g]?:=fun g hg hne=>(h5.block g (by omega)).trans ((bb.block g (by omega)).trans ((hT.block g hne).trans ((ba.block g (by omega)).trans (hbl.block g hg))))
 have hE5:w5.heap[E]?=some (.cells #[.int .i64 u] 31 (0,0)):=(keep E hElt hEB).trans hE
 have hTE:Turned E (.cells #[.int .i64 v] 31 (0,0)) w5 (w5.setCell ⟨E,0,none⟩ (.int .i64 v)):=cL (i:=0) hE5 (.int .i64 v)
 have hB5:w5.heap[B]?=some (.cells (fK k a' b' c').toArray 119 (0,0)):=(h5.block B (by omega)).trans ((bb.block B (by omega)).trans hT.at_)
 have bn:Below n W w5:=(rW ((hbl.mono hn).trans (ba.mono (by omega))) hT hnB).trans ((bb.mono (by omega)).trans (h5.mono (by omega)))
 refine ⟨(hTE.block B (fun e=>hEB e.symm)).trans hB5,hTE.at_,fun g hg h1 h2=>(hTE.block g h2).trans (keep g hg h1),?_,Go.Proofs.YtlikeahoonjdaaaGreatDoor.Ext.of_below hbl,?_,rW bn hTE hnE⟩
 ·exact (Go.Proofs.YtlikeahoonjdaaaGreatDoor.Ext.of_below ba).trans ((hT.ext hBa (lW _ _ _ _ _)).trans ((Go.Proofs.YtlikeahoonjdaaaGreatDoor.Ext.of_below bb).trans ((Go.Proofs.YtlikeahoonjdaaaGreatDoor.Ext.of_below h5).trans (hTE.ext hE5 (by simp [Go.Proofs.YtlikeahoonjdaaaGreatDoor.hotObj,Kn])))))
 ·exact (fL hbl).trans ((fL ba).trans ((rX hT hBa rfl).trans ((fL bb).trans ((fL h5).trans (rX hTE hE5 rfl)))))
theorem rY {ev:List (Fin 3)→Int} {S:Nat} (hS:w.heap.size≤S):OwnFrom S (InvE ev w k B E R o1 o2 o3 x1 x2 x3 y1 y2 y3 z1 z2 z3):=by
 rintro pre W W' row ⟨x,y,z,hB,v0,v1,v2,hE,hR,hk,hb⟩ hg hr
 have hr' : ∀ r,row=some r→∃ o:Obj,W.heap[r]?=some o∧o.isCells=false:=fun r e=>(hr r e).2
 have hx:=tH hg hr'
 refine ⟨x,y,z,(grownBy_keeps_cells hg hr' hB rfl).trans hB,fun h=>Vc.kext (v0 h) hx,fun h=>Vc.kext (v1 h) hx,fun h=>Vc.kext (v2 h) hx,(grownBy_keeps_cells hg hr' hE rfl).trans hE,(grownBy_keeps_cells hg hr' hR rfl).trans hR,Vc.kext hk hx,?_⟩
 exact hb.grown hg hb.size (fun k e=>Nat.le_trans hS (hr k e).1)
end
set_option maxRecDepth 100000 in
theorem xY (a1 a2 a3 b1 b2 b3 c1 c2 c3 d1 d2 d3:ByteArray) (o1 o2 o3 x1 x2 x3 y1 y2 y3 z1 z2 z3:Rat) (eo ex ey ez zq zc:Int) (heo:Ev eo) (hex:Ev ex) (hey:Ev ey) (hez:Ev ez) (hZ:f2 (f2 (f2 eo ex) ey) ez=zq)
 (cO' : ∀ W,Gl W→Calls Tryz.prog 33 #[.agg #[.string a1,.string a2,.string a3]] W (RV o1 o2 o3 eo W)) (cX' : ∀ W,Gl W→Calls Tryz.prog 33 #[.agg #[.string b1,.string b2,.string b3]] W (RV x1 x2 x3 ex W))
 (cY' : ∀ W,Gl W→Calls Tryz.prog 33 #[.agg #[.string c1,.string c2,.string c3]] W (RV y1 y2 y3 ey W)) (cZ' : ∀ W,Gl W→Calls Tryz.prog 33 #[.agg #[.string d1,.string d2,.string d3]] W (RV z1 z2 z3 ez W))
 (hC:zq=0→∀ (W:World) (o x y z:C9),Vc W o.val o1 o2 o3→Vc W x.val x1 x2 x3→Vc W y.val y1 y2 y3→Vc W z.val z1 z2 z3→Calls Tryz.prog 146 #[.agg (fK o x y z).toArray] W fun e w'=>e = .returned (.int .i64 zc)∧Below W.heap.size W w') (w:World) (hG:Gl w) :
 Calls Tryz.prog 73 #[.agg #[.string a1,.string a2,.string a3,.string b1,.string b2,.string b3,.string c1,.string c2,.string c3,.string d1,.string d2,.string d3]] w fun e w' => ∃ o x y z:C9,e = .returned (.tuple #[.agg (if zq=0 then fK o x y z else fK C9.zero C9.zero C9.zero C9.zero).toArray,.int .i64 (if zq=0 then zc else zq)])∧Vc w' o.val o1 o2 o3∧Vc w' x.val x1 x2 x3∧Vc w' y.val y1 y2 y3∧Vc w' z.val z1 z2 z3∧Below w.heap.size w w':=by
 have cO:=aH cO'
 have cX:=aH cX'
 have cY:=aH cY'
 have cZ:=aH cZ'
 have HC:=aH hC
 clear cO' cX' cY' cZ' hC
 obtain ⟨ev,hevd⟩:∃ ev:List (Fin 3)→Int,ev=fun pre=>pre.foldl (fun e i=>f2 e (if i=0 then ex else if i=1 then ey else ez)) eo:=⟨_,rfl⟩
 have ev0:ev []=eo:=by rw [hevd];rfl
 have evs:∀ (pre:List (Fin 3)) (i:Fin 3),ev (pre ++ [i])=f2 (ev pre) (if i=0 then ex else if i=1 then ey else ez):=fun pre i=>by rw [hevd];simp [List.foldl_append]
 have ev3:ev [0,1,2]=zq:=by rw [hevd,← hZ];rfl
 have hev:∀ pre,Ev (ev pre):=fun pre=>by
  rw [hevd]
  show Ev (pre.foldl _ eo)
  revert heo
  generalize eo=e0
  induction pre generalizing e0 with
  | nil=>exact fun h=>h
  | cons i l ih =>
    intro h
    refine ih _ (f2_ev h ?_)
    split
    ·exact hex
    ·split <;> assumption
 have p0:∀ pre,ev (pre ++ [0])=f2 (ev pre) ex:=fun pre=>evs pre 0
 have p1:∀ pre,ev (pre ++ [1])=f2 (ev pre) ey:=fun pre=>evs pre 1
 have p2:∀ pre,ev (pre ++ [2])=f2 (ev pre) ez:=fun pre=>evs pre 2
 clear hevd hZ evs
 refine (callsIn_wide (n:=6)).1 ?_
 refine callsIn_of_wp_marks Tryz.func73 rfl trivial ?_ rfl
 simp only [Tryz.ntmps73,List.size_toArray,List.length_cons,List.length_nil,Nat.reduceAdd,Nat.reduceSub,Array.replicate_succ,Array.replicate_zero,List.push_toArray,List.append_toArray,List.nil_append,List.cons_append]
 refine wpIn_wide.2 ?_
 go_wp2_with fail
 obtain ⟨Z,hZ⟩:∃ Z:Array Value,Z=(fK C9.zero C9.zero C9.zero C9.zero).toArray:=⟨_,rfl⟩
 have hW1:∃ W1,W1=(w.alloc (.cells #[.string a1,.string a2,.string a3,.string b1,.string b2,.string b3,.string c1,.string c2,.string c3,.string d1,.string d2,.string d3] 54 (0,0))).alloc (.cells Z 119 (0,0)):=⟨_,rfl⟩
 obtain ⟨W1,hW1⟩:=hW1
 change Calls _ _ _ ((w.alloc (.cells #[.string a1,.string a2,.string a3,.string b1,.string b2,.string b3,.string c1,.string c2,.string c3,.string d1,.string d2,.string d3] 54 (0,0))).alloc (.cells (fK C9.zero C9.zero C9.zero C9.zero).toArray 119 (0,0))) _
 rw [← hZ,← hW1]
 have hs1:W1.heap.size=w.heap.size+2:=by rw [hW1];simp
 have hb1:Below w.heap.size w W1:=by rw [hW1];exact ((aB _ w).alloc (aR _) _).alloc (by simp) _
 have hf1:W1.heap[w.heap.size]?=some (.cells #[.string a1,.string a2,.string a3,.string b1,.string b2,.string b3,.string c1,.string c2,.string c3,.string d1,.string d2,.string d3] 54 (0,0)):=by rw [hW1];exact (Below.heap_alloc _ _ _ (by simp)).trans (World.alloc_heap_new w _)
 have hr1:W1.heap[w.heap.size+1]?=some (.cells Z 119 (0,0)):=by rw [hW1];have:=World.alloc_heap_new (w.alloc (.cells #[.string a1,.string a2,.string a3,.string b1,.string b2,.string b3,.string c1,.string c2,.string c3,.string d1,.string d2,.string d3] 54 (0,0))) (.cells Z 119 (0,0));rwa [World.size_alloc] at this
 clear hW1
 refine (cO.out W1 (hG.below hb1)).mono ?_
 rintro e w1 ⟨k,rfl,hk,hb⟩
 have hs2:=hb.size
 have hf2:=(hb.block w.heap.size (by omega)).trans hf1
 have hr2:=(hb.block (w.heap.size+1) (by omega)).trans hr1
 have hb2:=hb1.trans (hb.mono (by omega))
 clear hf1 hr1 hb1 hb
 simp only [C9.val]
 have HID:=aH (aI hf2 (aI hr2 (aI hb2 hk)))
 clear hf2 hr2 hb2 hk
 have HZ:=aH hZ
 clear hZ
 go_wp2_with (first|(refine xX rfl 119 _ rfl (fK k C9.zero C9.zero C9.zero).toArray (by kernel_rfl) ?_)|(refine stop_store 119 _ _ rfl ?_))
 refine ⟨store_new3 rfl 119 _ _ rfl w1 _ _ _ (fK k C9.zero C9.zero C9.zero).toArray rfl rfl (by kernel_rfl) (by kernel_rfl) (by kernel_rfl) ?_⟩
 intro W3 g1 g2 g3 g4 g5
 have hf3:=(g2.block w.heap.size (by omega)).trans HID.out.1
 have f0:W3.cell? ⟨w.heap.size,0,none⟩=some (.string a1):=by simp [World.cell?,hf3]
 have f1:W3.cell? ⟨w.heap.size,1,none⟩=some (.string a2):=by simp [World.cell?,hf3]
 have f2:W3.cell? ⟨w.heap.size,2,none⟩=some (.string a3):=by simp [World.cell?,hf3]
 have f3:W3.cell? ⟨w.heap.size,3,none⟩=some (.string b1):=by simp [World.cell?,hf3]
 have f4:W3.cell? ⟨w.heap.size,4,none⟩=some (.string b2):=by simp [World.cell?,hf3]
 have f5:W3.cell? ⟨w.heap.size,5,none⟩=some (.string b3):=by simp [World.cell?,hf3]
 have f6:W3.cell? ⟨w.heap.size,6,none⟩=some (.string c1):=by simp [World.cell?,hf3]
 have f7:W3.cell? ⟨w.heap.size,7,none⟩=some (.string c2):=by simp [World.cell?,hf3]
 have f8:W3.cell? ⟨w.heap.size,8,none⟩=some (.string c3):=by simp [World.cell?,hf3]
 have f9:W3.cell? ⟨w.heap.size,9,none⟩=some (.string d1):=by simp [World.cell?,hf3]
 have f10:W3.cell? ⟨w.heap.size,10,none⟩=some (.string d2):=by simp [World.cell?,hf3]
 have f11:W3.cell? ⟨w.heap.size,11,none⟩=some (.string d3):=by simp [World.cell?,hf3]
 clear hf3
 have HID2:=aH (aI g1 (aI g2 (aI g3 (aI g4 g5))))
 clear g1 g2 g3 g4 g5
 go_wp2_with fail
 refine (axes_any _ _ _ _ _ _ _ _ _ _ _ _ _).mono ?_
 rintro e w4 ⟨rfl,rfl⟩
 go_wp2_with fail
 obtain ⟨v0,h0⟩:∃ v0:Value,v0 = .agg #[.string a1,.string a2,.string a3,.string b1,.string b2,.string b3,.string c1,.string c2,.string c3,.string d1,.string d2,.string d3]:=⟨_,rfl⟩
 obtain ⟨v11,h11⟩:∃ v:Value,v = .tuple #[.agg #[.int .i64 k.n1,.int .i64 k.d1,.pointer k.p1,.int .i64 k.n2,.int .i64 k.d2,.pointer k.p2,.int .i64 k.n3,.int .i64 k.d3,.pointer k.p3],.int .i64 eo]:=⟨_,rfl⟩
 obtain ⟨v13,h13⟩:∃ v:Value,v = .agg #[.string a1,.string a2,.string a3]:=⟨_,rfl⟩
 obtain ⟨v15,h15⟩:∃ v:Value,v = .agg #[.int .i64 k.n1,.int .i64 k.d1,.pointer k.p1,.int .i64 k.n2,.int .i64 k.d2,.pointer k.p2,.int .i64 k.n3,.int .i64 k.d3,.pointer k.p3]:=⟨_,rfl⟩
 obtain ⟨v18,h18⟩:∃ v:Value,v = .agg (fK k C9.zero C9.zero C9.zero).toArray:=⟨_,rfl⟩
 rw [← h0,← h11,← h13,← h15,← h18]
 obtain ⟨g1,g2,g3,g4,g5⟩:=HID2.out
 obtain ⟨hf2,hr2,hb2,hk⟩:=HID.out
 have hsz2:=hb2.size
 have hsW3:w1.heap.size+3=W3.heap.size:=g1.symm
 obtain ⟨W4,hW4⟩:∃ W4,W3.alloc (.cells #[.string a1,.string a2,.string a3,.string b1,.string b2,.string b3,.string c1,.string c2,.string c3,.string d1,.string d2,.string d3] 54 (0,0))=W4:=⟨_,rfl⟩
 have hF:W4.heap[W3.heap.size]?=some (.cells #[.string a1,.string a2,.string a3,.string b1,.string b2,.string b3,.string c1,.string c2,.string c3,.string d1,.string d2,.string d3] 54 (0,0)):=by rw [← hW4];exact World.alloc_heap_new _ _
 have hs4:W4.heap.size=W3.heap.size+1:=by rw [← hW4];simp
 have hb4:Below W3.heap.size W3 W4:=by rw [← hW4];exact (aB _ _).alloc (aR _) _
 have hb3:Below w1.heap.size w1 W4:=g2.trans (hb4.mono (by omega))
 have hinv:InvE ev w k (w1.heap.size+1+1) (w1.heap.size+1) (w.heap.size+1) o1 o2 o3 x1 x2 x3 y1 y2 y3 z1 z2 z3 [] W4:=by
  refine ⟨C9.zero,C9.zero,C9.zero,(hb4.block _ (by omega)).trans g5,fun h=>absurd h (by simp),fun h=>absurd h (by simp),fun h=>absurd h (by simp),(by rw [ev0];exact (hb4.block _ (by omega)).trans g4),?_,hk.below hb3,hb2.trans (hb3.mono (by omega))⟩
  rw [← HZ.out]
  exact (hb3.block _ (by omega)).trans hr2
 rw [hW4]
 have hEB:¬ (w1.heap.size+1:Nat)=w1.heap.size+1+1:=by omega
 have hRB:¬ (w.heap.size+1:Nat)=w1.heap.size+1+1:=by omega
 have hRE:¬ (w.heap.size+1:Nat)=w1.heap.size+1:=by omega
 have hBs:w1.heap.size+1+1<W4.heap.size:=by omega
 have hEs:w1.heap.size+1<W4.heap.size:=by omega
 have hRs:w.heap.size+1<W4.heap.size:=by omega
 have hE0:w.heap.size≤w1.heap.size+1:=by omega
 have hB0:w.heap.size≤w1.heap.size+1+1:=by omega
 have hwW4:w.heap.size≤W4.heap.size:=by omega
 clear g1 g2 g3 g4 g5 hf2 hr2 hb2 hk hsz2 hsW3 hb4 hb3 hW4 h0 h11 h13 h15 h18 HID HID2 f0 f1 f2 f3 f4 f5 f6 f7 f8 f9 f10 f11 hs1 hs2 hs4
 generalize w1.heap.size+1+1=B at *
 generalize w1.heap.size+1=E at *
 generalize w1.heap.size=p4 at *
 generalize W3.heap.size=q3 at *
 refine (wpIn_wide (n:=6)).1 ?_
 refine wpIn_rangeFunc_ownH (F:=Fence.wide) rfl (by omega) (gf:=197) (lb := #[.pointer (some ⟨q3,0,none⟩)]) rfl trivial (enters_of Tryz.func197 (by kernel_rfl) rfl)
  (axes_stops Fence.wide (6-1) trivial rfl (by omega) q3 w.heap.size a1 a2 a3 b1 b2 b3 c1 c2 c3 d1 d2 d3 W4 hwW4 hF) belowK_t (belowK_b (by omega)) (aB _ _) (fun _=>rfl)
  (InvE ev w k B E (w.heap.size+1) o1 o2 o3 x1 x2 x3 y1 y2 y3 z1 z2 z3) (fun _ _ _=>False) (rY hwW4) (fun _ _ _ _ _ hs _ _=>hs) hinv
  (fun x a' W => ∃ Bx,((x=0∧W.heap[Bx]?=some (.cells #[.string b1,.string b2,.string b3] 27 (0,0))∧a' = { tmps := #[v0,.pointer (some ⟨w.heap.size,0,none⟩),.pointer (some ⟨w.heap.size+1,0,none⟩),.int .i64 0,.pointer (some ⟨p4,0,none⟩),.pointer (some ⟨E,0,none⟩),.pointer (some ⟨B,0,none⟩),.int .i64 0,.pointer (some ⟨Bx,0,none⟩),undef,undef,v11,.pointer (some ⟨w.heap.size,0,none⟩),v13,v11,v15,.int .i64 eo,v15,v18,v0,.func (.func 197) #[] #[.pointer (some ⟨q3,0,none⟩)],.int .i64 0,.agg #[.string b1,.string b2,.string b3],undef,undef,undef,undef,undef,undef,undef,undef,undef,undef,undef,undef,undef,undef,undef,undef,undef,undef,undef,undef],defers := [] })∨(x=1∧W.heap[Bx]?=some (.cells #[.string c1,.string c2,.string c3] 27 (0,0))∧a' = { tmps := #[v0,.pointer (some ⟨w.heap.size,0,none⟩),.pointer (some ⟨w.heap.size+1,0,none⟩),.int .i64 0,.pointer (some ⟨p4,0,none⟩),.pointer (some ⟨E,0,none⟩),.pointer (some ⟨B,0,none⟩),.int .i64 1,.pointer (some ⟨Bx,0,none⟩),undef,undef,v11,.pointer (some ⟨w.heap.size,0,none⟩),v13,v11,v15,.int .i64 eo,v15,v18,v0,.func (.func 197) #[] #[.pointer (some ⟨q3,0,none⟩)],.int .i64 1,.agg #[.string c1,.string c2,.string c3],undef,undef,undef,undef,undef,undef,undef,undef,undef,undef,undef,undef,undef,undef,undef,undef,undef,undef,undef,undef],defers := [] })∨(x=2∧W.heap[Bx]?=some (.cells #[.string d1,.string d2,.string d3] 27 (0,0))∧a' = { tmps := #[v0,.pointer (some ⟨w.heap.size,0,none⟩),.pointer (some ⟨w.heap.size+1,0,none⟩),.int .i64 0,.pointer (some ⟨p4,0,none⟩),.pointer (some ⟨E,0,none⟩),.pointer (some ⟨B,0,none⟩),.int .i64 2,.pointer (some ⟨Bx,0,none⟩),undef,undef,v11,.pointer (some ⟨w.heap.size,0,none⟩),v13,v11,v15,.int .i64 eo,v15,v18,v0,.func (.func 197) #[] #[.pointer (some ⟨q3,0,none⟩)],.int .i64 2,.agg #[.string d1,.string d2,.string d3],undef,undef,undef,undef,undef,undef,undef,undef,undef,undef,undef,undef,undef,undef,undef,undef,undef,undef,undef,undef],defers := [] }))) ?hAx ?assign ?body ?done ?stop
 case hAx =>
  rintro x a' _ X Y row ⟨Bx,h2⟩ hg hr
  refine ⟨Bx,?_⟩
  rcases h2 with ⟨rfl,h3,h4⟩|⟨rfl,h3,h4⟩|⟨rfl,h3,h4⟩
  ·exact .inl ⟨rfl,(grownBy_keeps_cells hg (fun r e=>(hr r e).2) h3 rfl).trans h3,h4⟩
  ·exact .inr (.inl ⟨rfl,(grownBy_keeps_cells hg (fun r e=>(hr r e).2) h3 rfl).trans h3,h4⟩)
  ·exact .inr (.inr ⟨rfl,(grownBy_keeps_cells hg (fun r e=>(hr r e).2) h3 rfl).trans h3,h4⟩)
 case assign =>
  rintro l pre x W K hi hK
  have hiw:w.heap.size≤W.heap.size:=by obtain ⟨_,_,_,_,_,_,_,_,_,_,hb⟩:=hi;exact hb.size
  rcases fin3 x with rfl|rfl|rfl
  ·simp only [axE,axV]
   gi_wp2
   exact hK _ _ ((KeepsOthers.alloc _ _).from _) ((aB _ W).alloc hiw _) ((rY hwW4).alloc _ hi) ⟨W.heap.size,.inl ⟨by first|rfl|trivial,World.alloc_heap_new _ _,rfl⟩⟩
  ·simp only [axE,axV]
   gi_wp2
   exact hK _ _ ((KeepsOthers.alloc _ _).from _) ((aB _ W).alloc hiw _) ((rY hwW4).alloc _ hi) ⟨W.heap.size,.inr (.inl ⟨by first|rfl|trivial,World.alloc_heap_new _ _,rfl⟩)⟩
  ·simp only [axE,axV]
   gi_wp2
   exact hK _ _ ((KeepsOthers.alloc _ _).from _) ((aB _ W).alloc hiw _) ((rY hwW4).alloc _ hi) ⟨W.heap.size,.inr (.inr ⟨by first|rfl|trivial,World.alloc_heap_new _ _,rfl⟩)⟩
 case body =>
  rintro l pre x a' W _ _ ⟨x',y',z',hB,u0,u1,u2,hE,hR,hk,hbW⟩ ⟨Bx,h3⟩ _
  obtain ⟨u,hu⟩:∃ u,ev pre=u:=⟨_,rfl⟩
  have hue:=hev pre
  rw [hu] at hE hue
  have hBlt:=(Array.getElem?_eq_some_iff.1 hB).1
  have hElt:=(Array.getElem?_eq_some_iff.1 hE).1
  have hRlt:=(Array.getElem?_eq_some_iff.1 hR).1
  have hGW:=aH (hG.below hbW)
  have HW:=aH (aI hE (aI hR (aI hk hbW)))
  have HU:=aH (aI u0 (aI u1 u2))
  have HBB:=aH hB
  clear hB u0 u1 u2 hE hR hk hbW
  rcases h3 with ⟨rfl,h3,rfl⟩|⟨rfl,h3,rfl⟩|⟨rfl,h3,rfl⟩
  ·have cb0:W.cell? ⟨Bx,0,none⟩=some (.string b1):=by simp [World.cell?,h3]
   have cb1:W.cell? ⟨Bx,1,none⟩=some (.string b2):=by simp [World.cell?,h3]
   have cb2:W.cell? ⟨Bx,2,none⟩=some (.string b3):=by simp [World.cell?,h3]
   clear h3
   gi_wp2
   refine ⟨trivial,(CallsIn.inRound l (callsIn_wide.2 (cX.out W hGW.out))).mono ?_⟩
   rintro e w2 ⟨m,rfl,hm,hbl⟩
   have hs2:=hbl.size
   have hB2:=(hbl.block B hBlt).trans HBB.out
   have hE2:=(hbl.block E hElt).trans HW.out.1
   obtain ⟨q0,r0,q1,r1,q2,r2,q3,r3,q4,r4,q5,r5,q6,r6,q7,r7,q8,r8⟩:=up9 x' (show B<w2.heap.size by omega) hB2 (⟨rfl,rfl,rfl,rfl,rfl,rfl,rfl,rfl,rfl⟩:N9 _ _ 9 10 11 12 13 14 15 16 17)
   have qE:∀ o,(w2.alloc o).cell? ⟨E,0,none⟩=some (.int .i64 u):=rV (by omega) (by simp [World.cell?,hE2])
   have H2:=aH (aI hm (aI hbl (aI hB2 hE2)))
   clear hm hbl hB2 hE2
   simp only [C9.val]
   gi_wp2
   obtain ⟨hm,hbl,hB2,hE2⟩:=H2.out
   obtain ⟨hE,hR,hk,hbW⟩:=HW.out
   obtain ⟨u0,u1,u2⟩:=HU.out
   have hBa:(w2.alloc (m9 m)).heap[B]?=some (.cells (fK k x' y' z').toArray 119 (0,0)):=(((aB _ w2).alloc (aR _) _).block B (by omega)).trans hB2
   have hT:Turned B (.cells (fK k m y' z').toArray 119 (0,0)) (w2.alloc (m9 m)) (st9 (w2.alloc (m9 m)) B 9 10 11 12 13 14 15 16 17 m):=turn9 9 hBa _ _ _ _ _ _ _ _ _ (by kernel_rfl)
   obtain ⟨X1,hX1⟩:∃ X1,st9 (w2.alloc (m9 m)) B 9 10 11 12 13 14 15 16 17 m=X1:=⟨_,rfl⟩
   rw [hX1] at hT
   unfold st9 m9 at hX1
   rw [hX1]
   have hsX:X1.heap.size=w2.heap.size+1:=by rw [hT.size];simp
   have hh:(X1.alloc (.cells #[.int .i64 u,.int .i64 ex] 31 (0,0))).heap[w2.heap.size+1]?=some (.cells #[.int .i64 u,.int .i64 ex] 31 (0,0)):=by rw [← hsX];exact World.alloc_heap_new _ _
   clear hX1 hBa
   obtain ⟨v,hv⟩:∃ v,f2 u ex=v:=⟨_,rfl⟩
   refine ⟨trivial,(CallsIn.inRound l (callsIn_wide.2 (pY hue hex hv _ (w2.heap.size+1) 31 hh))).mono ?_⟩
   rintro e w5 ⟨rfl,h5⟩
   obtain ⟨r1,r2,r3,r4,r4',r5,r6⟩:=oA (u:=u) (v:=v) (k:=k) (S:=W4.heap.size) (n:=w.heap.size) hbl HBB.out hE hEB hT h5 hbW.size hB0 hE0
   have hE5:w5.heap[E]?=some (.cells #[.int .i64 u] 31 (0,0)):=by have hs5:=h5.size;exact (h5.block E (by simp;omega)).trans ((((aB _ X1).alloc (aR _) _).block E (by omega)).trans ((hT.block E hEB).trans ((((aB _ w2).alloc (aR _) _).block E (by omega)).trans hE2)))
   have qE5:w5.cell? ⟨E,0,none⟩=some (.int .i64 u):=by simp [World.cell?,hE5]
   have rE5:w5.frozen? ⟨E,0,none⟩=false:=aY hE5 0
   have HF:KeepsFrom W4.heap.size W (w5.setCell ⟨E,0,none⟩ (.int .i64 v))∧Below w.heap.size W (w5.setCell ⟨E,0,none⟩ (.int .i64 v))∧InvE ev w k B E (w.heap.size+1) o1 o2 o3 x1 x2 x3 y1 y2 y3 z1 z2 z3 (pre ++ [0]) (w5.setCell ⟨E,0,none⟩ (.int .i64 v)) :=
    ⟨r5,r6,m,y',z',r1,fun _=>Vc.kext hm r4,fun h=>Vc.kext (Vc.kext (u1 (by simpa using h)) r4') r4,fun h=>Vc.kext (Vc.kext (u2 (by simpa using h)) r4') r4,(by rw [p0 pre,hu,hv];exact r2),(r3 _ hRlt hRB hRE).trans hR,Vc.kext (Vc.kext hk r4') r4,hbW.trans r6⟩
   have HG:=aH HF
   clear HF r1 r2 r3 r4 r4' r5 r6 hE5 hT hm hbl hB2 hE2 hE hR hk hbW u0 u1 u2 hh h5 hsX HW HU H2 hu hue
   gi_wp2
   exact HG.out
  ·have cb0:W.cell? ⟨Bx,0,none⟩=some (.string c1):=by simp [World.cell?,h3]
   have cb1:W.cell? ⟨Bx,1,none⟩=some (.string c2):=by simp [World.cell?,h3]
   have cb2:W.cell? ⟨Bx,2,none⟩=some (.string c3):=by simp [World.cell?,h3]
   clear h3
   gi_wp2
   refine ⟨trivial,(CallsIn.inRound l (callsIn_wide.2 (cY.out W hGW.out))).mono ?_⟩
   rintro e w2 ⟨m,rfl,hm,hbl⟩
   have hs2:=hbl.size
   have hB2:=(hbl.block B hBlt).trans HBB.out
   have hE2:=(hbl.block E hElt).trans HW.out.1
   obtain ⟨q0,r0,q1,r1,q2,r2,q3,r3,q4,r4,q5,r5,q6,r6,q7,r7,q8,r8⟩:=up9 y' (show B<w2.heap.size by omega) hB2 (⟨rfl,rfl,rfl,rfl,rfl,rfl,rfl,rfl,rfl⟩:N9 _ _ 18 19 20 21 22 23 24 25 26)
   have qE:∀ o,(w2.alloc o).cell? ⟨E,0,none⟩=some (.int .i64 u):=rV (by omega) (by simp [World.cell?,hE2])
   have H2:=aH (aI hm (aI hbl (aI hB2 hE2)))
   clear hm hbl hB2 hE2
   simp only [C9.val]
   gi_wp2
   obtain ⟨hm,hbl,hB2,hE2⟩:=H2.out
   obtain ⟨hE,hR,hk,hbW⟩:=HW.out
   obtain ⟨u0,u1,u2⟩:=HU.out
   have hBa:(w2.alloc (m9 m)).heap[B]?=some (.cells (fK k x' y' z').toArray 119 (0,0)):=(((aB _ w2).alloc (aR _) _).block B (by omega)).trans hB2
   have hT:Turned B (.cells (fK k x' m z').toArray 119 (0,0)) (w2.alloc (m9 m)) (st9 (w2.alloc (m9 m)) B 18 19 20 21 22 23 24 25 26 m):=turn9 18 hBa _ _ _ _ _ _ _ _ _ (by kernel_rfl)
   obtain ⟨X1,hX1⟩:∃ X1,st9 (w2.alloc (m9 m)) B 18 19 20 21 22 23 24 25 26 m=X1:=⟨_,rfl⟩
   rw [hX1] at hT
   unfold st9 m9 at hX1
   rw [hX1]
   have hsX:X1.heap.size=w2.heap.size+1:=by rw [hT.size];simp
   have hh:(X1.alloc (.cells #[.int .i64 u,.int .i64 ey] 31 (0,0))).heap[w2.heap.size+1]?=some (.cells #[.int .i64 u,.int .i64 ey] 31 (0,0)):=by rw [← hsX];exact World.alloc_heap_new _ _
   clear hX1 hBa
   obtain ⟨v,hv⟩:∃ v,f2 u ey=v:=⟨_,rfl⟩
   refine ⟨trivial,(CallsIn.inRound l (callsIn_wide.2 (pY hue hey hv _ (w2.heap.size+1) 31 hh))).mono ?_⟩
   rintro e w5 ⟨rfl,h5⟩
   obtain ⟨r1,r2,r3,r4,r4',r5,r6⟩:=oA (u:=u) (v:=v) (k:=k) (S:=W4.heap.size) (n:=w.heap.size) hbl HBB.out hE hEB hT h5 hbW.size hB0 hE0
   have hE5:w5.heap[E]?=some (.cells #[.int .i64 u] 31 (0,0)):=by have hs5:=h5.size;exact (h5.block E (by simp;omega)).trans ((((aB _ X1).alloc (aR _) _).block E (by omega)).trans ((hT.block E hEB).trans ((((aB _ w2).alloc (aR _) _).block E (by omega)).trans hE2)))
   have qE5:w5.cell? ⟨E,0,none⟩=some (.int .i64 u):=by simp [World.cell?,hE5]
   have rE5:w5.frozen? ⟨E,0,none⟩=false:=aY hE5 0
   have HF:KeepsFrom W4.heap.size W (w5.setCell ⟨E,0,none⟩ (.int .i64 v))∧Below w.heap.size W (w5.setCell ⟨E,0,none⟩ (.int .i64 v))∧InvE ev w k B E (w.heap.size+1) o1 o2 o3 x1 x2 x3 y1 y2 y3 z1 z2 z3 (pre ++ [1]) (w5.setCell ⟨E,0,none⟩ (.int .i64 v)) :=
    ⟨r5,r6,x',m,z',r1,fun h=>Vc.kext (Vc.kext (u0 (by simpa using h)) r4') r4,fun _=>Vc.kext hm r4,fun h=>Vc.kext (Vc.kext (u2 (by simpa using h)) r4') r4,(by rw [p1 pre,hu,hv];exact r2),(r3 _ hRlt hRB hRE).trans hR,Vc.kext (Vc.kext hk r4') r4,hbW.trans r6⟩
   have HG:=aH HF
   clear HF r1 r2 r3 r4 r4' r5 r6 hE5 hT hm hbl hB2 hE2 hE hR hk hbW u0 u1 u2 hh h5 hsX HW HU H2 hu hue
   gi_wp2
   exact HG.out
  ·have cb0:W.cell? ⟨Bx,0,none⟩=some (.string d1):=by simp [World.cell?,h3]
   have cb1:W.cell? ⟨Bx,1,none⟩=some (.string d2):=by simp [World.cell?,h3]
   have cb2:W.cell? ⟨Bx,2,none⟩=some (.string d3):=by simp [World.cell?,h3]
   clear h3
   gi_wp2
   refine ⟨trivial,(CallsIn.inRound l (callsIn_wide.2 (cZ.out W hGW.out))).mono ?_⟩
   rintro e w2 ⟨m,rfl,hm,hbl⟩
   have hs2:=hbl.size
   have hB2:=(hbl.block B hBlt).trans HBB.out
   have hE2:=(hbl.block E hElt).trans HW.out.1
   obtain ⟨q0,r0,q1,r1,q2,r2,q3,r3,q4,r4,q5,r5,q6,r6,q7,r7,q8,r8⟩:=up9 z' (show B<w2.heap.size by omega) hB2 (⟨rfl,rfl,rfl,rfl,rfl,rfl,rfl,rfl,rfl⟩:N9 _ _ 27 28 29 30 31 32 33 34 35)
   have qE:∀ o,(w2.alloc o).cell? ⟨E,0,none⟩=some (.int .i64 u):=rV (by omega) (by simp [World.cell?,hE2])
   have H2:=aH (aI hm (aI hbl (aI hB2 hE2)))
   clear hm hbl hB2 hE2
   simp only [C9.val]
   gi_wp2
   obtain ⟨hm,hbl,hB2,hE2⟩:=H2.out
   obtain ⟨hE,hR,hk,hbW⟩:=HW.out
   obtain ⟨u0,u1,u2⟩:=HU.out
   have hBa:(w2.alloc (m9 m)).heap[B]?=some (.cells (fK k x' y' z').toArray 119 (0,0)):=(((aB _ w2).alloc (aR _) _).block B (by omega)).trans hB2
   have hT:Turned B (.cells (fK k x' y' m).toArray 119 (0,0)) (w2.alloc (m9 m)) (st9 (w2.alloc (m9 m)) B 27 28 29 30 31 32 33 34 35 m):=turn9 27 hBa _ _ _ _ _ _ _ _ _ (by kernel_rfl)
   obtain ⟨X1,hX1⟩:∃ X1,st9 (w2.alloc (m9 m)) B 27 28 29 30 31 32 33 34 35 m=X1:=⟨_,rfl⟩
   rw [hX1] at hT
   unfold st9 m9 at hX1
   rw [hX1]
   have hsX:X1.heap.size=w2.heap.size+1:=by rw [hT.size];simp
   have hh:(X1.alloc (.cells #[.int .i64 u,.int .i64 ez] 31 (0,0))).heap[w2.heap.size+1]?=some (.cells #[.int .i64 u,.int .i64 ez] 31 (0,0)):=by rw [← hsX];exact World.alloc_heap_new _ _
   clear hX1 hBa
   obtain ⟨v,hv⟩:∃ v,f2 u ez=v:=⟨_,rfl⟩
   refine ⟨trivial,(CallsIn.inRound l (callsIn_wide.2 (pY hue hez hv _ (w2.heap.size+1) 31 hh))).mono ?_⟩
   rintro e w5 ⟨rfl,h5⟩
   obtain ⟨r1,r2,r3,r4,r4',r5,r6⟩:=oA (u:=u) (v:=v) (k:=k) (S:=W4.heap.size) (n:=w.heap.size) hbl HBB.out hE hEB hT h5 hbW.size hB0 hE0
   have hE5:w5.heap[E]?=some (.cells #[.int .i64 u] 31 (0,0)):=by have hs5:=h5.size;exact (h5.block E (by simp;omega)).trans ((((aB _ X1).alloc (aR _) _).block E (by omega)).trans ((hT.block E hEB).trans ((((aB _ w2).alloc (aR _) _).block E (by omega)).trans hE2)))
   have qE5:w5.cell? ⟨E,0,none⟩=some (.int .i64 u):=by simp [World.cell?,hE5]
   have rE5:w5.frozen? ⟨E,0,none⟩=false:=aY hE5 0
   have HF:KeepsFrom W4.heap.size W (w5.setCell ⟨E,0,none⟩ (.int .i64 v))∧Below w.heap.size W (w5.setCell ⟨E,0,none⟩ (.int .i64 v))∧InvE ev w k B E (w.heap.size+1) o1 o2 o3 x1 x2 x3 y1 y2 y3 z1 z2 z3 (pre ++ [2]) (w5.setCell ⟨E,0,none⟩ (.int .i64 v)) :=
    ⟨r5,r6,x',y',m,r1,fun h=>Vc.kext (Vc.kext (u0 (by simpa using h)) r4') r4,fun h=>Vc.kext (Vc.kext (u1 (by simpa using h)) r4') r4,fun _=>Vc.kext hm r4,(by rw [p2 pre,hu,hv];exact r2),(r3 _ hRlt hRB hRE).trans hR,Vc.kext (Vc.kext hk r4') r4,hbW.trans r6⟩
   have HG:=aH HF
   clear HF r1 r2 r3 r4 r4' r5 r6 hE5 hT hm hbl hB2 hE2 hE hR hk hbW u0 u1 u2 hh h5 hsX HW HU H2 hu hue
   gi_wp2
   exact HG.out
 case done =>
  rintro D ys W hD rfl ⟨x',y',z',hB,u0,u1,u2,hE,hR,hk,hbW⟩ hK
  rw [ev3] at hE
  have vx:=u0 (by simp)
  have vy:=u1 (by simp)
  have vz:=u2 (by simp)
  by_cases hZ0:zq=0
  ·subst hZ0
   have qE:W.cell? ⟨E,0,none⟩=some (.int .i64 0):=by simp [World.cell?,hE]
   have HW:=aH (aI hB (aI hR (aI hk (aI vx (aI vy (aI vz (aI hbW hK)))))))
   clear u0 u1 u2 hB hR hk vx vy vz hbW hK hE
   go_wp2_with fail
   refine wp_region_ty Kn [w.heap.size+1] (by kernel_rfl) (by kernel_rfl) ?_
   refine bL (.agg (fK k x' y' z').toArray) rfl (fun A w' hB hk=>?_) ?_
   ·simp [known,specOf,Kd.spec,Sp.is,isVar,Oper.looksAt,Op.operands,Call.operands,Act.eval] at hk
    exact load_all rfl (by first|exact hk|simpa [Act.eval] using hk) (hB.blk HW.out.1 (by simp;omega)) Tryz.underlying119 rfl (by kernel_rfl)
   refine bL (.agg (fK k x' y' z').toArray) rfl (fun A w' hB hk=>?_) ?_
   ·simp [known,specOf,Kd.spec,Sp.is,isVar,Oper.looksAt,Op.operands,Call.operands,Act.eval] at hk
    exact load_all rfl (by first|exact hk|simpa [Act.eval] using hk) (hB.blk HW.out.1 (by simp;omega)) Tryz.underlying119 rfl (by kernel_rfl)
   refine aN (Sp.is (.int .i64 zc)) (Sp.is_stable _ _) rfl (fun A w' hB hk=>?_) ?_
   ·simp [known,specOf,Kd.spec,Sp.is,isVar,Oper.looksAt,Op.operands,Call.operands,Act.eval] at hk
    simp [go_sem,hk]
    refine aF ?_
    have hx:=Base.extT hB HW.out.2.1 (lW _ _ _ _ _)
    exact (HC.out (by first|trivial|rfl) _ _ _ _ _ (Vc.kext HW.out.2.2.1 hx) (Vc.kext HW.out.2.2.2.1 hx) (Vc.kext HW.out.2.2.2.2.1 hx) (Vc.kext HW.out.2.2.2.2.2.1 hx)).mono (fun e w'' ⟨e1,e2⟩=>⟨_,e1,e2,rfl⟩)
   refine gN (w.heap.size+1) (.cells (fK C9.zero C9.zero C9.zero C9.zero).toArray 119 (0,0)) (fun o _=>o = .cells (fK k x' y' z').toArray 119 (0,0)) (fun _ _ _ h _=>h) rfl rfl (by simp) HW.out.2.1 (lW _ _ _ _ _) (fun A w' hB hk h0=>?_) ?_
   ·simp [known,specOf,Kd.spec,Sp.is,isVar,Oper.looksAt,Op.operands,Call.operands,Act.eval] at hk
    have hst:=lB (P:=Tryz.prog) (ρ:=A.eval) (w:=w') (o := { dst:=none,op:=Op.store 119 (Operand.tmp 2) (Operand.tmp 40),type:=0,pos := "frame.go:38",after := #[{ on:=0,ground:=Ground.data },{ on:=2,ground:=Ground.chain },{ on:=0,ground:=Ground.phase },{ on:=1,ground:=Ground.textOnly Departure.lateStores },{ on:=2,ground:=Ground.textOnly Departure.lateStoresUnsure }],guard:=none }) (T':=119) (g:=w.heap.size+1) (off:=0) (n:=36) (cs:=fK C9.zero C9.zero C9.zero C9.zero) (es:=fK k x' y' z') rfl (by simp [Act.eval,hk]) (by simp [Act.eval,hk,Value.cells]) (by kernel_rfl) rfl (frL_one _ _ _ _) h0 (show 0+36≤36 by omega)
    have e:List.take 0 (fK C9.zero C9.zero C9.zero C9.zero)++fK k x' y' z'++List.drop (0+(fK k x' y' z').length) (fK C9.zero C9.zero C9.zero C9.zero)=fK k x' y' z':=by kernel_rfl
    rw [e] at hst
    rw [hst.1]
    exact ⟨_,⟨hst.2.os,hst.2.tape,hst.2.output,hst.2.size,hst.2.at_,hst.2.block⟩,rfl⟩
   refine aW _ ?_ (by first|exact .inl rfl|exact .inr rfl) (by rfl) (by simp [specOf,Kd.spec];rfl) ?_ rfl ?_
   ·exact Sp.is_stable _ _
   refine ⟨by first|rfl|decide,fun f w2 hB hF hAp=>?_⟩;simp [Final1,Sp.is,isVar] at hF;simp only [frameOf]
   obtain ⟨f3,hw2,_,_,_⟩:=hF
   have hDR:¬ D=w.heap.size+1:=by
    intro e
    have h1:=HW.out.2.1
    have h2:=HW.out.2.2.2.2.2.2.2
    rw [e,h1] at h2
    injection h2 with h2
    cases h2
   have hK2:=hB.blk HW.out.2.2.2.2.2.2.2 (by simp;omega)
   have HV:=aH (aI hw2 (aI hB hK2))
   clear hAp
   have HBB:=aH hB
   clear hB
   go_wp2
   have hB:=HBB.out
   refine ⟨by simp,.inl ⟨_,_,rfl,run_takeDeferred hK2,?_⟩⟩
   have hg5:(w2.putObj D (.deferred none)).heap[w.heap.size+1]?=some (.cells (fK k x' y' z').toArray 119 (0,0)):=(World.putObj_heap_other (by omega)).trans hw2
   have hl:=run_loadVar_mid (P:=Tryz.prog) (w2.putObj D (.deferred none)) (w.heap.size+1) 0 119 (((fK k x' y' z').drop 0).take 36) _ (qG hg5 0 36) Tryz.underlying119 rfl (by kernel_rfl)
   have e36:((fK k x' y' z').drop 0).take 36=fK k x' y' z':=by kernel_rfl
   rw [e36] at hl
   have hbe:=Base.belowT hB HW.out.2.2.2.2.2.2.1 (by omega)
   have hx1:=Base.extT hB HW.out.2.1 (lW _ _ _ _ _)
   have hx2:Go.Proofs.YtlikeahoonjdaaaGreatDoor.Ext Kn w2 (w2.putObj D (.deferred none)):=tH (grownBy_putObj' w2 D _) (fun r e=>by cases e;exact ⟨_,hK2,rfl⟩)
   have hDw:w.heap.size≤D:=by omega
   refine ⟨.tuple #[.agg (fK k x' y' z').toArray,.int .i64 zc],?_,k,x',y',z',rfl,Vc.kext (Vc.kext HW.out.2.2.1 hx1) hx2,Vc.kext (Vc.kext HW.out.2.2.2.1 hx1) hx2,Vc.kext (Vc.kext HW.out.2.2.2.2.1 hx1) hx2,Vc.kext (Vc.kext HW.out.2.2.2.2.2.1 hx1) hx2,hbe.trans (belowK_b (w:=w) (aR _) w2 D _ _ hDw hK2 rfl rfl)⟩
   refine (kE (vs := [.agg (fK k x' y' z').toArray,.int .i64 zc]) ?_).trans rfl
   show (List.mapM (vR _) [.cell 2 119,.tmp 3]).run _ _=_
   simp [List.mapM_cons,vR,Act.put,asAddr,Sem.run_bind,Result.andThen,hl,f3]
  ·have n1:(zq==0)=false:=by rw [beq_eq_false_iff_ne];exact hZ0
   have qE:W.cell? ⟨E,0,none⟩=some (.int .i64 zq):=by simp [World.cell?,hE]
   have HW:=aH (aI hE (aI hR (aI hk (aI vx (aI vy (aI vz (aI hbW hK)))))))
   clear u0 u1 u2 hB hR hk vx vy vz hbW hK hE
   go_wp2_with fail
   refine wp_region_ty Kn [w.heap.size+1] (by kernel_rfl) (by kernel_rfl) ?_
   refine bL (.agg (fK C9.zero C9.zero C9.zero C9.zero).toArray) rfl (fun A w' hB hk=>?_) ?_
   ·refine bF ?_
    exact bM (by kernel_rfl) _
   refine bL (.int .i64 zq) rfl (fun A w' hB hk=>?_) ?_
   ·simp [known,specOf,Kd.spec,Sp.is,isVar,Oper.looksAt,Op.operands,Call.operands,Act.eval] at hk
    have hc:=hB.blk HW.out.1 (by simp;omega)
    have hc:w'.cell? ⟨E,0,none⟩=some (.int .i64 zq):=by simp [World.cell?,hc]
    simp [go_sem,hk,hc]
   refine gN (w.heap.size+1) (.cells (fK C9.zero C9.zero C9.zero C9.zero).toArray 119 (0,0)) (fun o _=>o = .cells (fK C9.zero C9.zero C9.zero C9.zero).toArray 119 (0,0)) (fun _ _ _ h _=>h) rfl rfl (by simp) HW.out.2.1 (lW _ _ _ _ _) (fun A w' hB hk h0=>?_) ?_
   ·simp [known,specOf,Kd.spec,Sp.is,isVar,Oper.looksAt,Op.operands,Call.operands,Act.eval] at hk
    have hst:=lB (P:=Tryz.prog) (ρ:=A.eval) (w:=w') (o := { dst:=none,op:=Op.store 119 (Operand.tmp 2) (Operand.tmp 38),type:=0,pos := "frame.go:36",after := #[{ on:=0,ground:=Ground.data },{ on:=0,ground:=Ground.phase },{ on:=1,ground:=Ground.textOnly Departure.lateStores }],guard:=none }) (T':=119) (g:=w.heap.size+1) (off:=0) (n:=36) (cs:=fK C9.zero C9.zero C9.zero C9.zero) (es:=fK C9.zero C9.zero C9.zero C9.zero) rfl (by simp [Act.eval,hk]) (by simp [Act.eval,hk,Value.cells]) (by kernel_rfl) rfl (frL_one _ _ _ _) h0 (show 0+36≤36 by omega)
    have e:List.take 0 (fK C9.zero C9.zero C9.zero C9.zero)++fK C9.zero C9.zero C9.zero C9.zero++List.drop (0+(fK C9.zero C9.zero C9.zero C9.zero).length) (fK C9.zero C9.zero C9.zero C9.zero)=fK C9.zero C9.zero C9.zero C9.zero:=by kernel_rfl
    rw [e] at hst
    rw [hst.1]
    exact ⟨_,⟨hst.2.os,hst.2.tape,hst.2.output,hst.2.size,hst.2.at_,hst.2.block⟩,rfl⟩
   refine aW _ ?_ (by first|exact .inl rfl|exact .inr rfl) (by rfl) (by simp [specOf,Kd.spec];rfl) ?_ rfl ?_
   ·exact Sp.is_stable _ _
   refine ⟨by first|rfl|decide,fun f w2 hB hF hAp=>?_⟩;simp [Final1,Sp.is,isVar] at hF;simp only [frameOf]
   obtain ⟨f3,hw2,_⟩:=hF
   have hDR:¬ D=w.heap.size+1:=by
    intro e
    have h1:=HW.out.2.1
    have h2:=HW.out.2.2.2.2.2.2.2
    rw [e,h1] at h2
    injection h2 with h2
    cases h2
   have hK2:=hB.blk HW.out.2.2.2.2.2.2.2 (by simp;omega)
   have HV:=aH (aI hw2 (aI hB hK2))
   clear hAp
   have HBB:=aH hB
   clear hB
   go_wp2
   have hB:=HBB.out
   refine ⟨by simp,.inl ⟨_,_,rfl,run_takeDeferred hK2,?_⟩⟩
   have hg5:(w2.putObj D (.deferred none)).heap[w.heap.size+1]?=some (.cells (fK C9.zero C9.zero C9.zero C9.zero).toArray 119 (0,0)):=(World.putObj_heap_other (by omega)).trans hw2
   have hl:=run_loadVar_mid (P:=Tryz.prog) (w2.putObj D (.deferred none)) (w.heap.size+1) 0 119 (((fK C9.zero C9.zero C9.zero C9.zero).drop 0).take 36) _ (qG hg5 0 36) Tryz.underlying119 rfl (by kernel_rfl)
   have e36:((fK C9.zero C9.zero C9.zero C9.zero).drop 0).take 36=fK C9.zero C9.zero C9.zero C9.zero:=by kernel_rfl
   rw [e36] at hl
   have hbe:=Base.belowT hB HW.out.2.2.2.2.2.2.1 (by omega)
   have hx1:=Base.extT hB HW.out.2.1 (lW _ _ _ _ _)
   have hx2:Go.Proofs.YtlikeahoonjdaaaGreatDoor.Ext Kn w2 (w2.putObj D (.deferred none)):=tH (grownBy_putObj' w2 D _) (fun r e=>by cases e;exact ⟨_,hK2,rfl⟩)
   have hDw:w.heap.size≤D:=by omega
   refine ⟨.tuple #[.agg (fK C9.zero C9.zero C9.zero C9.zero).toArray,.int .i64 zq],?_,rfl,⟨k,Vc.kext (Vc.kext HW.out.2.2.1 hx1) hx2⟩,⟨x',Vc.kext (Vc.kext HW.out.2.2.2.1 hx1) hx2⟩,⟨y',Vc.kext (Vc.kext HW.out.2.2.2.2.1 hx1) hx2⟩,⟨z',Vc.kext (Vc.kext HW.out.2.2.2.2.2.1 hx1) hx2⟩,hbe.trans (belowK_b (w:=w) (aR _) w2 D _ _ hDw hK2 rfl rfl)⟩
   refine (kE (vs := [.agg (fK C9.zero C9.zero C9.zero C9.zero).toArray,.int .i64 zq]) ?_).trans rfl
   show (List.mapM (vR _) [.cell 2 119,.tmp 3]).run _ _=_
   simp [List.mapM_cons,vR,Act.put,asAddr,Sem.run_bind,Result.andThen,hl,f3]
 case stop=>rintro D c pre W _ _ h _;exact h.elim
end Fr
namespace Fr
open Go.RowKit Go.Shelf Ab Pl
set_option maxRecDepth 100000 in
theorem xZ (o1 o2 o3 x1 x2 x3 y1 y2 y3 z1 z2 z3:Rat) (ho:kK o1 o2 o3) (hx:kK x1 x2 x3) (hy:kK y1 y2 y3) (hz:kK z1 z2 z3) (lm:Lm 25 x1 x2 x3 y1 y2 y3 z1 z2 z3) (hax:Ax x1 x2 x3 y1 y2 y3 z1 z2 z3) (w:World) (hG:Gl w) :
 Calls Tryz.prog 73 #[.agg #[.string (writeB o1),.string (writeB o2),.string (writeB o3),.string (writeB x1),.string (writeB x2),.string (writeB x3),.string (writeB y1),.string (writeB y2),.string (writeB y3),.string (writeB z1),.string (writeB z2),.string (writeB z3)]] w fun e w' => ∃ o x y z:C9,e = .returned (.tuple #[.agg (fK o x y z).toArray,.int .i64 0])∧Vc w' o.val o1 o2 o3∧Vc w' x.val x1 x2 x3∧Vc w' y.val y1 y2 y3∧Vc w' z.val z1 z2 z3∧Below w.heap.size w w':=by
 have h:=xY (writeB o1) (writeB o2) (writeB o3) (writeB x1) (writeB x2) (writeB x3) (writeB y1) (writeB y2) (writeB y3) (writeB z1) (writeB z2) (writeB z3) o1 o2 o3 x1 x2 x3 y1 y2 y3 z1 z2 z3 0 0 0 0 0 0
  (.inl rfl) (.inl rfl) (.inl rfl) (.inl rfl) rfl (fun W hW=>kS ho W hW) (fun W hW=>kS hx W hW) (fun W hW=>kS hy W hW) (fun W hW=>kS hz W hW)
  (fun _ _ _ _ _ _ v0 v1 v2 v3=>check_any v0 v1 v2 v3 lm hax) w hG
 rw [if_pos rfl] at h
 simpa only [if_true] using h
theorem zJ {β:List Nat} {w:World}:∀ (l:List ByteArray) (cs:List Value),holdsL β (l.map dQ) cs w→cs=l.map Value.string
 | [],cs,h=>h
 | b::l,cs,⟨x,y,e,h1,h2⟩=>by
   have h1:x = [.string b]:=h1
   rw [e,h1,zJ l y h2]
   rfl
section
variable {o1 o2 o3 x1 x2 x3 y1 y2 y3 z1 z2 z3:Rat}
theorem readFrameF (h:Wf o1 o2 o3 x1 x2 x3 y1 y2 y3 z1 z2 z3) (hax:Ax x1 x2 x3 y1 y2 y3 z1 z2 z3):jX 73 [kL o1 o2 o3 x1 x2 x3 y1 y2 y3 z1 z2 z3] (okFr o1 o2 o3 x1 x2 x3 y1 y2 y3 z1 z2 z3):=by
 intro β w vs hG hv
 obtain ⟨v,rfl,cs,rfl,h1⟩:=dP hv
 have e:=zJ [writeB o1,writeB o2,writeB o3,writeB x1,writeB x2,writeB x3,writeB y1,writeB y2,writeB y3,writeB z1,writeB z2,writeB z3] cs h1
 rw [e]
 refine (xZ o1 o2 o3 x1 x2 x3 y1 y2 y3 z1 z2 z3 h.o h.x h.y h.z (h.lm.mono (by decide)) hax w hG).mono ?_
 rintro e w' ⟨o,x,y,z,e1,v0,v1,v2,v3,hb⟩
 exact ⟨_,e1,hb,[.agg (fK o x y z).toArray,.int .i64 0],rfl,_,_,rfl,fr_holds v0 v1 v2 v3,_,_,rfl,⟨rfl,rfl⟩,rfl⟩
theorem fv_of (h:Wf o1 o2 o3 x1 x2 x3 y1 y2 y3 z1 z2 z3) (hax:Ax x1 x2 x3 y1 y2 y3 z1 z2 z3):Fv o1 o2 o3 x1 x2 x3 y1 y2 y3 z1 z2 z3:=⟨h,hax,readFrameF h hax⟩
end
end Fr
namespace Ab
open Go.RowKit Pl
inductive AvL:List (AV Kn)→List (AV Kn)→Prop where
 | nil:AvL [] []
 | ag {k m l l'}:LitL k m→AvL l l'→AvL (.fv (.ag k)::l) (.fv (.ag m)::l')
 | txt {b:ByteArray} {l l'}:AvL l l'→AvL (.fv (.sc (dQ b))::l) (.fv (.sc (.lit (.string b)))::l')
 | same {x:AV Kn} {l l'}:AvL l l'→AvL (x::l) (x::l')
theorem AvL.to {β:List Nat} {w:World} {l m:List (AV Kn)} (h:AvL l m):∀ {vs:List Value},holdsA β m vs w→holdsA β l vs w:=by
 induction h with
 | nil=>intro vs h;exact h
 | ag hl _ ih=>rintro vs ⟨v,r,e,h1,h2⟩;exact ⟨v,r,e,(ag_lit hl).2 h1,ih h2⟩
 | txt _ ih=>rintro vs ⟨v,r,e,h1,h2⟩;exact ⟨v,r,e,sc_lit.2 h1,ih h2⟩
 | same _ ih=>rintro vs ⟨v,r,e,h1,h2⟩;exact ⟨v,r,e,h1,ih h2⟩
inductive FvL:List (FV Kn)→List (FV Kn)→Prop where
 | nil:FvL [] []
 | ag {k m l l'}:LitL k m→FvL l l'→FvL (.ag k::l) (.ag m::l')
 | txt {b:ByteArray} {l l'}:FvL l l'→FvL (.sc (dQ b)::l) (.sc (.lit (.string b))::l')
 | same {x:FV Kn} {l l'}:FvL l l'→FvL (x::l) (x::l')
theorem FvL.to {β:List Nat} {w:World} {l m:List (FV Kn)} (h:FvL l m):∀ {vs:List Value},holdsF β l vs w→holdsF β m vs w:=by
 induction h with
 | nil=>intro vs h;exact h
 | ag hl _ ih=>rintro vs ⟨v,r,e,h1,h2⟩;exact ⟨v,r,e,(ag_lit hl).1 h1,ih h2⟩
 | txt _ ih=>rintro vs ⟨v,r,e,h1,h2⟩;exact ⟨v,r,e,(sc_lit (β:=β)).1 h1,ih h2⟩
 | same _ ih=>rintro vs ⟨v,r,e,h1,h2⟩;exact ⟨v,r,e,h1,ih h2⟩
theorem FitsW.lits {P:Program} {I:World→Prop} {f:FuncId} {l l' : List (AV Kn)} {r r' : List (FV Kn)} (h:FitsW P I f l (.tup r)) (ha:AvL l l') (hr:FvL r r'):FitsW P I f l' (.tup r') :=
 (h.args fun _ _ _ hv=>ha.to hv).res fun _ _ _ ⟨vs,e,hv⟩=>⟨vs,e,hr.to hv⟩
theorem Fits.lits {P:Program} {f:FuncId} {l l' : List (AV Kn)} {k m:List (Seg Kn)} (h:Fits P f l (.fv (.ag k))) (ha:AvL l l') (hr:LitL k m):Fits P f l' (.fv (.ag m)):=fun β w vs hv =>
 (h β w vs (ha.to hv)).mono fun e w' ⟨v,e1,e2,e3⟩=>⟨v,e1,e2,(ag_lit hr).1 e3⟩
theorem vc_eq {P:Program} {f:FuncId} {l:List (AV Kn)} {a b c a' b' c' : Rat} (h:Fits P f l (vc a b c)) (e1:a=a') (e2:b=b') (e3:c=c'):Fits P f l (vc a' b' c'):=by
 subst e1
 subst e2
 subst e3
 exact h
theorem aAy {q:Rat} (hn:q.num.natAbs<1000000000) (hd:q.den<1000000000):Wr q :=
 ⟨Nat.le_trans (decB_size (k:=8) hn) (by decide),Nat.le_trans (decB_size (k:=8) hd) (by decide)⟩
theorem oB {z:Int} (h:z.natAbs<1000000000):Wr (z:Rat):=aAy h (show 1<1000000000 by omega)
theorem kA {q:Rat} {n:Int} {d:Nat} {a b:ByteArray} (hn:q.num=n) (hd:q.den=d) (h1:d≠1) (ha:aX n=a) (hb:decB d=b):writeB q=a++(⟨#[47]⟩++b):=by
 rw [eU (by rw [hd];exact h1),hn,hd,ha,hb]
theorem x0:writeB ((0:Int):Rat)=⟨#[48]⟩:=cV (by omega) (bJ (n:=0) (by omega))
theorem x1:writeB ((1:Int):Rat)=⟨#[49]⟩:=cV (by omega) (bJ (n:=1) (by omega))
theorem x2:writeB ((2:Int):Rat)=⟨#[50]⟩:=cV (by omega) (bJ (n:=2) (by omega))
theorem x3:writeB ((3:Int):Rat)=⟨#[51]⟩:=cV (by omega) (bJ (n:=3) (by omega))
theorem x4:writeB ((4:Int):Rat)=⟨#[52]⟩:=cV (by omega) (bJ (n:=4) (by omega))
theorem x5:writeB ((5:Int):Rat)=⟨#[53]⟩:=cV (by omega) (bJ (n:=5) (by omega))
theorem x7:writeB ((7:Int):Rat)=⟨#[55]⟩:=cV (by omega) (bJ (n:=7) (by omega))
theorem x10:writeB ((10:Int):Rat)=⟨#[49,48]⟩:=cV (by omega) (lU (n:=10) (by omega) (by omega))
theorem x24:writeB ((24:Int):Rat)=⟨#[50,52]⟩:=cV (by omega) (lU (n:=24) (by omega) (by omega))
theorem x25:writeB ((25:Int):Rat)=⟨#[50,53]⟩:=cV (by omega) (lU (n:=25) (by omega) (by omega))
theorem x28:writeB ((28:Int):Rat)=⟨#[50,56]⟩:=cV (by omega) (lU (n:=28) (by omega) (by omega))
theorem x30:writeB ((30:Int):Rat)=⟨#[51,48]⟩:=cV (by omega) (lU (n:=30) (by omega) (by omega))
theorem xm1:writeB ((-1:Int):Rat)=⟨#[45,49]⟩:=(fJ (z := -1) (by omega) (b:=⟨#[49]⟩) (by rw [show Int.natAbs (-1)=1 from rfl];exact bJ (n:=1) (by omega))).trans (ba_ext rfl)
theorem xm2:writeB ((-2:Int):Rat)=⟨#[45,50]⟩:=(fJ (z := -2) (by omega) (b:=⟨#[50]⟩) (by rw [show Int.natAbs (-2)=2 from rfl];exact bJ (n:=2) (by omega))).trans (ba_ext rfl)
theorem xm4:writeB ((-4:Int):Rat)=⟨#[45,52]⟩:=(fJ (z := -4) (by omega) (b:=⟨#[52]⟩) (by rw [show Int.natAbs (-4)=4 from rfl];exact bJ (n:=4) (by omega))).trans (ba_ext rfl)
theorem xm7:writeB ((-7:Int):Rat)=⟨#[45,55]⟩:=(fJ (z := -7) (by omega) (b:=⟨#[55]⟩) (by rw [show Int.natAbs (-7)=7 from rfl];exact bJ (n:=7) (by omega))).trans (ba_ext rfl)
theorem xm24:writeB ((-24:Int):Rat)=⟨#[45,50,52]⟩:=(fJ (z := -24) (by omega) (b:=⟨#[50,52]⟩) (by rw [show Int.natAbs (-24)=24 from rfl];exact lU (n:=24) (by omega) (by omega))).trans (ba_ext rfl)
theorem r0:Wr ((0:Int):Rat):=oB (by decide)
theorem r1:Wr ((1:Int):Rat):=oB (by decide)
theorem r2:Wr ((2:Int):Rat):=oB (by decide)
theorem r3:Wr ((3:Int):Rat):=oB (by decide)
theorem r4:Wr ((4:Int):Rat):=oB (by decide)
theorem r5:Wr ((5:Int):Rat):=oB (by decide)
theorem r7:Wr ((7:Int):Rat):=oB (by decide)
theorem r10:Wr ((10:Int):Rat):=oB (by decide)
theorem r24:Wr ((24:Int):Rat):=oB (by decide)
theorem r25:Wr ((25:Int):Rat):=oB (by decide)
theorem r28:Wr ((28:Int):Rat):=oB (by decide)
theorem r30:Wr ((30:Int):Rat):=oB (by decide)
theorem rm1:Wr ((-1:Int):Rat):=oB (by decide)
theorem rm2:Wr ((-2:Int):Rat):=oB (by decide)
theorem rm4:Wr ((-4:Int):Rat):=oB (by decide)
theorem rm7:Wr ((-7:Int):Rat):=oB (by decide)
theorem rm24:Wr ((-24:Int):Rat):=oB (by decide)
theorem nh12:(mkRat (1) 2).num=1:=by kernel_rfl
theorem dh12:(mkRat (1) 2).den=2:=by kernel_rfl
theorem xh12:writeB (mkRat (1) 2)=⟨#[49,47,50]⟩:=(kA nh12 dh12 (by decide) (a:=⟨#[49]⟩) ((dD (1)).trans x1) (bJ (n:=2) (by omega))).trans (ba_ext rfl)
theorem rh12:Wr (mkRat (1) 2):=aAy (by rw [nh12];decide) (by rw [dh12];decide)
theorem nm13:(mkRat (-1) 3).num = -1:=by kernel_rfl
theorem dm13:(mkRat (-1) 3).den=3:=by kernel_rfl
theorem xm13:writeB (mkRat (-1) 3)=⟨#[45,49,47,51]⟩:=(kA nm13 dm13 (by decide) (a:=⟨#[45,49]⟩) ((dD (-1)).trans xm1) (bJ (n:=3) (by omega))).trans (ba_ext rfl)
theorem rm13:Wr (mkRat (-1) 3):=aAy (by rw [nm13];decide) (by rw [dm13];decide)
theorem nq252:(mkRat (25) 2).num=25:=by kernel_rfl
theorem dq252:(mkRat (25) 2).den=2:=by kernel_rfl
theorem xq252:writeB (mkRat (25) 2)=⟨#[50,53,47,50]⟩:=(kA nq252 dq252 (by decide) (a:=⟨#[50,53]⟩) ((dD (25)).trans x25) (bJ (n:=2) (by omega))).trans (ba_ext rfl)
theorem rq252:Wr (mkRat (25) 2):=aAy (by rw [nq252];decide) (by rw [dq252];decide)
theorem nm12:(mkRat (-1) 2).num = -1:=by kernel_rfl
theorem dm12:(mkRat (-1) 2).den=2:=by kernel_rfl
theorem xm12:writeB (mkRat (-1) 2)=⟨#[45,49,47,50]⟩:=(kA nm12 dm12 (by decide) (a:=⟨#[45,49]⟩) ((dD (-1)).trans xm1) (bJ (n:=2) (by omega))).trans (ba_ext rfl)
theorem rm12:Wr (mkRat (-1) 2):=aAy (by rw [nm12];decide) (by rw [dm12];decide)
theorem nq23:(mkRat (2) 3).num=2:=by kernel_rfl
theorem dq23:(mkRat (2) 3).den=3:=by kernel_rfl
theorem xq23:writeB (mkRat (2) 3)=⟨#[50,47,51]⟩:=(kA nq23 dq23 (by decide) (a:=⟨#[50]⟩) ((dD (2)).trans x2) (bJ (n:=3) (by omega))).trans (ba_ext rfl)
theorem rq23:Wr (mkRat (2) 3):=aAy (by rw [nq23];decide) (by rw [dq23];decide)
theorem lv_2_0_4:jF 20 [it (2),it (0),it (4)] (.fv (.ag [.lit (.string ⟨#[50]⟩),.lit (.string ⟨#[48]⟩),.lit (.string ⟨#[52]⟩)]):AV Kn):=by
 have h:=dH (a:=2) (b:=0) (c:=4) (by constructor <;> omega) (by constructor <;> omega) (by constructor <;> omega)
 simp only [vS,rZ,eO,rC,hS,kL,gG,x0,x2,x4] at h
 exact h.lits (.same (.same (.same .nil))) (.txt (.txt (.txt .nil)))
theorem lv_m1_0_m2:jF 20 [it (-1),it (0),it (-2)] (.fv (.ag [.lit (.string ⟨#[45,49]⟩),.lit (.string ⟨#[48]⟩),.lit (.string ⟨#[45,50]⟩)]):AV Kn):=by
 have h:=dH (a := -1) (b:=0) (c := -2) (by constructor <;> omega) (by constructor <;> omega) (by constructor <;> omega)
 simp only [vS,rZ,eO,rC,hS,kL,gG,x0,xm1,xm2] at h
 exact h.lits (.same (.same (.same .nil))) (.txt (.txt (.txt .nil)))
theorem lv_1_0_0:jF 20 [it (1),it (0),it (0)] (.fv (.ag [.lit (.string ⟨#[49]⟩),.lit (.string ⟨#[48]⟩),.lit (.string ⟨#[48]⟩)]):AV Kn):=by
 have h:=dH (a:=1) (b:=0) (c:=0) (by constructor <;> omega) (by constructor <;> omega) (by constructor <;> omega)
 simp only [vS,rZ,eO,rC,hS,kL,gG,x0,x1] at h
 exact h.lits (.same (.same (.same .nil))) (.txt (.txt (.txt .nil)))
theorem lv_0_1_0:jF 20 [it (0),it (1),it (0)] (.fv (.ag [.lit (.string ⟨#[48]⟩),.lit (.string ⟨#[49]⟩),.lit (.string ⟨#[48]⟩)]):AV Kn):=by
 have h:=dH (a:=0) (b:=1) (c:=0) (by constructor <;> omega) (by constructor <;> omega) (by constructor <;> omega)
 simp only [vS,rZ,eO,rC,hS,kL,gG,x0,x1] at h
 exact h.lits (.same (.same (.same .nil))) (.txt (.txt (.txt .nil)))
theorem lv_0_0_1:jF 20 [it (0),it (0),it (1)] (.fv (.ag [.lit (.string ⟨#[48]⟩),.lit (.string ⟨#[48]⟩),.lit (.string ⟨#[49]⟩)]):AV Kn):=by
 have h:=dH (a:=0) (b:=0) (c:=1) (by constructor <;> omega) (by constructor <;> omega) (by constructor <;> omega)
 simp only [vS,rZ,eO,rC,hS,kL,gG,x0,x1] at h
 exact h.lits (.same (.same (.same .nil))) (.txt (.txt (.txt .nil)))
theorem lv_0_0_0:jF 20 [it (0),it (0),it (0)] (.fv (.ag [.lit (.string ⟨#[48]⟩),.lit (.string ⟨#[48]⟩),.lit (.string ⟨#[48]⟩)]):AV Kn):=by
 have h:=dH (a:=0) (b:=0) (c:=0) (by constructor <;> omega) (by constructor <;> omega) (by constructor <;> omega)
 simp only [vS,rZ,eO,rC,hS,kL,gG,x0] at h
 exact h.lits (.same (.same (.same .nil))) (.txt (.txt (.txt .nil)))
theorem lv_1_1_1:jF 20 [it (1),it (1),it (1)] (.fv (.ag [.lit (.string ⟨#[49]⟩),.lit (.string ⟨#[49]⟩),.lit (.string ⟨#[49]⟩)]):AV Kn):=by
 have h:=dH (a:=1) (b:=1) (c:=1) (by constructor <;> omega) (by constructor <;> omega) (by constructor <;> omega)
 simp only [vS,rZ,eO,rC,hS,kL,gG,x1] at h
 exact h.lits (.same (.same (.same .nil))) (.txt (.txt (.txt .nil)))
theorem lv_1_1_0:jF 20 [it (1),it (1),it (0)] (.fv (.ag [.lit (.string ⟨#[49]⟩),.lit (.string ⟨#[49]⟩),.lit (.string ⟨#[48]⟩)]):AV Kn):=by
 have h:=dH (a:=1) (b:=1) (c:=0) (by constructor <;> omega) (by constructor <;> omega) (by constructor <;> omega)
 simp only [vS,rZ,eO,rC,hS,kL,gG,x0,x1] at h
 exact h.lits (.same (.same (.same .nil))) (.txt (.txt (.txt .nil)))
theorem lv_0_7_5:jF 20 [it (0),it (7),it (5)] (.fv (.ag [.lit (.string ⟨#[48]⟩),.lit (.string ⟨#[55]⟩),.lit (.string ⟨#[53]⟩)]):AV Kn):=by
 have h:=dH (a:=0) (b:=7) (c:=5) (by constructor <;> omega) (by constructor <;> omega) (by constructor <;> omega)
 simp only [vS,rZ,eO,rC,hS,kL,gG,x0,x5,x7] at h
 exact h.lits (.same (.same (.same .nil))) (.txt (.txt (.txt .nil)))
theorem lv_m1_0_0:jF 20 [it (-1),it (0),it (0)] (.fv (.ag [.lit (.string ⟨#[45,49]⟩),.lit (.string ⟨#[48]⟩),.lit (.string ⟨#[48]⟩)]):AV Kn):=by
 have h:=dH (a := -1) (b:=0) (c:=0) (by constructor <;> omega) (by constructor <;> omega) (by constructor <;> omega)
 simp only [vS,rZ,eO,rC,hS,kL,gG,x0,xm1] at h
 exact h.lits (.same (.same (.same .nil))) (.txt (.txt (.txt .nil)))
theorem lv_4_4_0:jF 20 [it (4),it (4),it (0)] (.fv (.ag [.lit (.string ⟨#[52]⟩),.lit (.string ⟨#[52]⟩),.lit (.string ⟨#[48]⟩)]):AV Kn):=by
 have h:=dH (a:=4) (b:=4) (c:=0) (by constructor <;> omega) (by constructor <;> omega) (by constructor <;> omega)
 simp only [vS,rZ,eO,rC,hS,kL,gG,x0,x4] at h
 exact h.lits (.same (.same (.same .nil))) (.txt (.txt (.txt .nil)))
theorem lv_m7_24_0:jF 20 [it (-7),it (24),it (0)] (.fv (.ag [.lit (.string ⟨#[45,55]⟩),.lit (.string ⟨#[50,52]⟩),.lit (.string ⟨#[48]⟩)]):AV Kn):=by
 have h:=dH (a := -7) (b:=24) (c:=0) (by constructor <;> omega) (by constructor <;> omega) (by constructor <;> omega)
 simp only [vS,rZ,eO,rC,hS,kL,gG,x0,x24,xm7] at h
 exact h.lits (.same (.same (.same .nil))) (.txt (.txt (.txt .nil)))
theorem lv_5_5_0:jF 20 [it (5),it (5),it (0)] (.fv (.ag [.lit (.string ⟨#[53]⟩),.lit (.string ⟨#[53]⟩),.lit (.string ⟨#[48]⟩)]):AV Kn):=by
 have h:=dH (a:=5) (b:=5) (c:=0) (by constructor <;> omega) (by constructor <;> omega) (by constructor <;> omega)
 simp only [vS,rZ,eO,rC,hS,kL,gG,x0,x5] at h
 exact h.lits (.same (.same (.same .nil))) (.txt (.txt (.txt .nil)))
theorem lv_10_7_1:jF 20 [it (10),it (7),it (1)] (.fv (.ag [.lit (.string ⟨#[49,48]⟩),.lit (.string ⟨#[55]⟩),.lit (.string ⟨#[49]⟩)]):AV Kn):=by
 have h:=dH (a:=10) (b:=7) (c:=1) (by constructor <;> omega) (by constructor <;> omega) (by constructor <;> omega)
 simp only [vS,rZ,eO,rC,hS,kL,gG,x1,x10,x7] at h
 exact h.lits (.same (.same (.same .nil))) (.txt (.txt (.txt .nil)))
theorem aAz:jF 24 ([]:List (AV Kn)) (.fv (.ag [.lit (.string ⟨#[49]⟩),.lit (.string ⟨#[48]⟩),.lit (.string ⟨#[48]⟩),.lit (.string ⟨#[51]⟩),.lit (.string ⟨#[52]⟩),.lit (.string ⟨#[48]⟩),.lit (.string ⟨#[45,52]⟩),.lit (.string ⟨#[51]⟩),.lit (.string ⟨#[48]⟩),.lit (.string ⟨#[48]⟩),.lit (.string ⟨#[48]⟩),.lit (.string ⟨#[53]⟩)]):AV Kn):=by
 have h:=lawFrameF
 simp only [vS,rZ,eO,rC,hS,kL,gG,x0,x1,x3,x4,x5,xm4] at h
 exact h.lits .nil (.txt (.txt (.txt (.txt (.txt (.txt (.txt (.txt (.txt (.txt (.txt (.txt (.nil)))))))))))))
theorem wfF:Wf ((1:Int):Rat) ((0:Int):Rat) ((0:Int):Rat) ((3:Int):Rat) ((4:Int):Rat) ((0:Int):Rat) ((-4:Int):Rat) ((3:Int):Rat) ((0:Int):Rat) ((0:Int):Rat) ((0:Int):Rat) ((5:Int):Rat):=⟨⟨r1,r0,r0⟩,⟨r3,r4,r0⟩,⟨rm4,r3,r0⟩,⟨r0,r0,r5⟩⟩
theorem axF:Ax ((3:Int):Rat) ((4:Int):Rat) ((0:Int):Rat) ((-4:Int):Rat) ((3:Int):Rat) ((0:Int):Rat) ((0:Int):Rat) ((0:Int):Rat) ((5:Int):Rat):=⟨by kernel_rfl,by kernel_rfl,by kernel_rfl,by kernel_rfl,by kernel_rfl,by kernel_rfl,by kernel_rfl⟩
theorem fvF:Fv ((1:Int):Rat) ((0:Int):Rat) ((0:Int):Rat) ((3:Int):Rat) ((4:Int):Rat) ((0:Int):Rat) ((-4:Int):Rat) ((3:Int):Rat) ((0:Int):Rat) ((0:Int):Rat) ((0:Int):Rat) ((5:Int):Rat):=Go.Proofs.YtlikeahoonjdaaaGreatDoor.Fr.fv_of wfF axF
theorem hv111 {d:Rat} (h:Wr d):Hv 1 1 1 d:=⟨by constructor <;> omega,by constructor <;> omega,by constructor <;> omega,h,ck_111⟩
theorem hv100 {d:Rat} (h:Wr d):Hv 1 0 0 d:=⟨by constructor <;> omega,by constructor <;> omega,by constructor <;> omega,h,ck_100⟩
theorem hv302 {d:Rat} (h:Wr d):Hv 3 0 (-2) d:=⟨by constructor <;> omega,by constructor <;> omega,by constructor <;> omega,h,ck_302⟩
theorem mW {a:Rat} (h:decide (a=0)=false):a≠0:=of_decide_eq_false h
theorem asc_1250:∀ (j:Nat) (b:UInt8),(⟨#[49,50,46,53,48]⟩:ByteArray).data.toList[j]?=some b→b.toNat<128:=by
 intro j b h
 have:=List.mem_of_getElem? h
 simp at this
 rcases this with rfl|rfl|rfl|rfl|rfl <;> decide
theorem dig_12:AllDig (aC ⟨#[49,50]⟩):=by intro c hc;simp [aC] at hc;rcases hc with rfl|rfl <;> decide
theorem dig_50:AllDig (aC ⟨#[53,48]⟩):=by intro c hc;simp [aC] at hc;rcases hc with rfl|rfl <;> decide
theorem dec_100:decB 100=⟨#[49,48,48]⟩:=by unfold decB;rw [eJ (by omega),eJ (by omega),cI (by omega)];rfl
theorem dec_1250:decB 1250=⟨#[49,50,53,48]⟩:=by unfold decB;rw [eJ (by omega),eJ (by omega),eJ (by omega),cI (by omega)];rfl
theorem q1250:mkRat (sg false 1250) 100=mkRat 25 2:=by kernel_rfl
theorem lv_small {n k:Nat} (h:n<1000000000):Lv k n:=(Lv.one n (by rw [aL];omega)).mono (Nat.zero_le _)
theorem eParse:jX 18 [lt ⟨#[49,50,46,53,48]⟩] (.tup [.sc (.lit (.string ⟨#[50,53,47,50]⟩)),.sc z0]):=by
 have hp:jF 62 [tx ⟨#[49,50,46,53,48]⟩] (.tup [.sc (dQ (decB 1250)),.sc (dQ (decB 100)),.sc z0]):=by
  have h:=partsDot (s:=⟨#[49,50,46,53,48]⟩) (a:=⟨#[49,50]⟩) (b:=⟨#[53,48]⟩) (z:=⟨#[48,48]⟩) (k:=2) (indexAnyF (by decide) asc_1250 (by kernel_rfl)) (by decide) (by decide) (ba_ext rfl) (ba_ext rfl) dig_12 (by decide) dig_50 (by decide) rfl (repeatF (by decide) (by decide) (ba_ext (by kernel_rfl))) (by decide)
  have e1:(⟨#[49,50]⟩++⟨#[53,48]⟩:ByteArray)=decB 1250:=dec_1250.symm
  have e2:(⟨#[49]⟩++⟨#[48,48]⟩:ByteArray)=decB 100:=dec_100.symm
  rw [e1,e2] at h
  exact h
 have h:=parseF' (s:=⟨#[49,50,46,53,48]⟩) (n:=1250) (d:=100) (by decide) (by kernel_rfl) hp (by rw [dec_1250];decide) (by rw [dec_100];decide) (lv_small (by decide)) (lv_small (by decide)) (by decide) (by rw [q1250];exact rq252.lf.mono (by decide)) (by rw [q1250];exact rq252.n) (by rw [q1250];exact rq252.d)
 rw [q1250,xq252] at h
 exact h.lits (.txt .nil) (.txt (.same .nil))
theorem eAlong:jX 19 [(.fv (.ag [.lit (.string ⟨#[50]⟩),.lit (.string ⟨#[48]⟩),.lit (.string ⟨#[52]⟩)]):AV Kn),(.fv (.ag [.lit (.string ⟨#[45,49]⟩),.lit (.string ⟨#[48]⟩),.lit (.string ⟨#[45,50]⟩)]):AV Kn)] (.tup [.sc (.lit (.string ⟨#[45,49,47,50]⟩)),.sc z0]):=by
 have h:=apiAlongF (a:=((2:Int):Rat)) (b:=((0:Int):Rat)) (c:=((4:Int):Rat)) (x:=((-1:Int):Rat)) (y:=((0:Int):Rat)) (z:=((-2:Int):Rat)) ⟨r2,r0,r4⟩ ⟨rm1,r0,rm2⟩ (by kernel_rfl) (by kernel_rfl) (mW (by kernel_rfl)) (by rw [show dt ((-1:Int):Rat) ((0:Int):Rat) ((-2:Int):Rat) ((2:Int):Rat) ((0:Int):Rat) ((4:Int):Rat)/dt ((2:Int):Rat) ((0:Int):Rat) ((4:Int):Rat) ((2:Int):Rat) ((0:Int):Rat) ((4:Int):Rat)=mkRat (-1) 2 from by kernel_rfl];exact rm12)
 rw [show dt ((-1:Int):Rat) ((0:Int):Rat) ((-2:Int):Rat) ((2:Int):Rat) ((0:Int):Rat) ((4:Int):Rat)/dt ((2:Int):Rat) ((0:Int):Rat) ((4:Int):Rat) ((2:Int):Rat) ((0:Int):Rat) ((4:Int):Rat)=mkRat (-1) 2 from by kernel_rfl] at h
 simp only [vS,rZ,eO,rC,hS,kL,gG,x0,x2,x4,xm1,xm12,xm2] at h
 exact h.lits (.ag (.txt (.txt (.txt .nil))) (.ag (.txt (.txt (.txt .nil))) .nil)) (.txt (.same .nil))
theorem eMake:jX 21 [(.fv (.ag [.lit (.string ⟨#[49,47,50]⟩),.lit (.string ⟨#[48]⟩),.lit (.string ⟨#[45,49,47,51]⟩)]):AV Kn),lt ⟨#[53]⟩] (.tup [.ag [.lit (.int .i64 (3)),.lit (.int .i64 (0)),.lit (.int .i64 (-2)),.lit (.string ⟨#[51,48]⟩)],.sc z0]):=by
 have h:=aAe (n1:=mkRat 1 2) (n2:=((0:Int):Rat)) (n3:=mkRat (-1) 3) (d:=((5:Int):Rat)) (z1:=3) (z2:=0) (z3 := -2) (e:=((30:Int):Rat)) ⟨rh12,r0,rm13⟩ r5 ⟨rh12.lf.mono (by decide),r0.lf.mono (by decide),rm13.lf.mono (by decide),r5.lf.mono (by decide),fun ⟨e,_,_⟩=>mW (a:=mkRat 1 2) (by kernel_rfl) e,by kernel_rfl,by kernel_rfl,by kernel_rfl,by kernel_rfl,by constructor <;> omega,by constructor <;> omega,by constructor <;> omega,r30⟩
 simp only [vS,rZ,eO,rC,hS,kL,gG,x0,x30,x5,xh12,xm13] at h
 exact h.lits (.ag (.txt (.txt (.txt .nil))) (.txt .nil)) (.ag (.same (.same (.same (.txt .nil)))) (.same .nil))
theorem eThrough:jX 22 [(.fv (.ag [.lit (.string ⟨#[49]⟩),.lit (.string ⟨#[48]⟩),.lit (.string ⟨#[48]⟩)]):AV Kn),(.fv (.ag [.lit (.string ⟨#[48]⟩),.lit (.string ⟨#[49]⟩),.lit (.string ⟨#[48]⟩)]):AV Kn),(.fv (.ag [.lit (.string ⟨#[48]⟩),.lit (.string ⟨#[48]⟩),.lit (.string ⟨#[49]⟩)]):AV Kn)] (.tup [.ag [.lit (.int .i64 (1)),.lit (.int .i64 (1)),.lit (.int .i64 (1)),.lit (.string ⟨#[49]⟩)],.sc z0]):=by
 have h:=apiThroughF (a1:=((1:Int):Rat)) (a2:=((0:Int):Rat)) (a3:=((0:Int):Rat)) (b1:=((0:Int):Rat)) (b2:=((1:Int):Rat)) (b3:=((0:Int):Rat)) (c1:=((0:Int):Rat)) (c2:=((0:Int):Rat)) (c3:=((1:Int):Rat)) (m1:=((1:Int):Rat)) (m2:=((1:Int):Rat)) (m3:=((1:Int):Rat)) (z1:=1) (z2:=1) (z3:=1) (e:=((1:Int):Rat)) ⟨r1,r0,r0⟩ ⟨r0,r1,r0⟩ ⟨r0,r0,r1⟩ (by kernel_rfl) (by kernel_rfl) (by kernel_rfl) ⟨r1.lf.mono (by decide),r1.lf.mono (by decide),r1.lf.mono (by decide),by rw [show dt ((1:Int):Rat) ((1:Int):Rat) ((1:Int):Rat) ((1:Int):Rat) ((0:Int):Rat) ((0:Int):Rat)=((1:Int):Rat) from by kernel_rfl];exact r1.lf.mono (by decide),fun ⟨e,_,_⟩=>mW (a:=((1:Int):Rat)) (by kernel_rfl) e,by kernel_rfl,by kernel_rfl,by kernel_rfl,by kernel_rfl,by constructor <;> omega,by constructor <;> omega,by constructor <;> omega,r1⟩
 simp only [vS,rZ,eO,rC,hS,kL,gG,x0,x1] at h
 exact h.lits (.ag (.txt (.txt (.txt .nil))) (.ag (.txt (.txt (.txt .nil))) (.ag (.txt (.txt (.txt .nil))) .nil))) (.ag (.same (.same (.same (.txt .nil)))) (.same .nil))
theorem eMirror:jX 9 [(.fv (.ag [.lit (.int .i64 (1)),.lit (.int .i64 (1)),.lit (.int .i64 (1)),.lit (.string ⟨#[49]⟩)]):AV Kn),(.fv (.ag [.lit (.string ⟨#[48]⟩),.lit (.string ⟨#[48]⟩),.lit (.string ⟨#[48]⟩)]):AV Kn)] (.tup [.ag [.lit (.string ⟨#[50,47,51]⟩),.lit (.string ⟨#[50,47,51]⟩),.lit (.string ⟨#[50,47,51]⟩)],.sc z0]):=by
 have h:=pR (z1:=1) (z2:=1) (z3:=1) (d:=((1:Int):Rat)) (p1:=((0:Int):Rat)) (p2:=((0:Int):Rat)) (p3:=((0:Int):Rat)) (m1:=mkRat 2 3) (m2:=mkRat 2 3) (m3:=mkRat 2 3) (hv111 r1) ⟨r0,r0,r0⟩ (mW (by kernel_rfl)) (by kernel_rfl) (by kernel_rfl) (by kernel_rfl) ⟨rq23,rq23,rq23⟩
 simp only [vS,rZ,eO,rC,hS,kL,gG,x0,x1,xq23] at h
 exact h.lits (.ag (.same (.same (.same (.txt .nil)))) (.ag (.txt (.txt (.txt .nil))) .nil)) (.ag (.txt (.txt (.txt .nil))) (.same .nil))
theorem ePlace:jX 23 [(.fv (.ag [.lit (.string ⟨#[49]⟩),.lit (.string ⟨#[48]⟩),.lit (.string ⟨#[48]⟩),.lit (.string ⟨#[51]⟩),.lit (.string ⟨#[52]⟩),.lit (.string ⟨#[48]⟩),.lit (.string ⟨#[45,52]⟩),.lit (.string ⟨#[51]⟩),.lit (.string ⟨#[48]⟩),.lit (.string ⟨#[48]⟩),.lit (.string ⟨#[48]⟩),.lit (.string ⟨#[53]⟩)]):AV Kn),(.fv (.ag [.lit (.string ⟨#[49]⟩),.lit (.string ⟨#[49]⟩),.lit (.string ⟨#[49]⟩)]):AV Kn)] (.tup [.ag [.lit (.string ⟨#[48]⟩),.lit (.string ⟨#[55]⟩),.lit (.string ⟨#[53]⟩)],.sc z0]):=by
 have h:=apiPlaceF (o1:=((1:Int):Rat)) (o2:=((0:Int):Rat)) (o3:=((0:Int):Rat)) (x1:=((3:Int):Rat)) (x2:=((4:Int):Rat)) (x3:=((0:Int):Rat)) (y1:=((-4:Int):Rat)) (y2:=((3:Int):Rat)) (y3:=((0:Int):Rat)) (z1:=((0:Int):Rat)) (z2:=((0:Int):Rat)) (z3:=((5:Int):Rat)) (p1:=((1:Int):Rat)) (p2:=((1:Int):Rat)) (p3:=((1:Int):Rat)) (m1:=((0:Int):Rat)) (m2:=((7:Int):Rat)) (m3:=((5:Int):Rat)) fvF ⟨r1,r1,r1⟩ (by kernel_rfl) (by kernel_rfl) (by kernel_rfl) ⟨r0,r7,r5⟩
 simp only [vS,rZ,eO,rC,hS,kL,gG,x0,x1,x3,x4,x5,x7,xm4] at h
 exact h.lits (.ag (.txt (.txt (.txt (.txt (.txt (.txt (.txt (.txt (.txt (.txt (.txt (.txt (.nil))))))))))))) (.ag (.txt (.txt (.txt .nil))) .nil)) (.ag (.txt (.txt (.txt .nil))) (.same .nil))
theorem r325:Wr (mkRat 3 25):=aAy (by rw [show (mkRat 3 25).num=3 from by kernel_rfl];decide) (by rw [show (mkRat 3 25).den=25 from by kernel_rfl];decide)
theorem r425:Wr (mkRat 4 25):=aAy (by rw [show (mkRat 4 25).num=4 from by kernel_rfl];decide) (by rw [show (mkRat 4 25).den=25 from by kernel_rfl];decide)
theorem r2825:Wr (mkRat 28 25):=aAy (by rw [show (mkRat 28 25).num=28 from by kernel_rfl];decide) (by rw [show (mkRat 28 25).den=25 from by kernel_rfl];decide)
theorem ePlaceHalf:jX 25 [(.fv (.ag [.lit (.string ⟨#[49]⟩),.lit (.string ⟨#[48]⟩),.lit (.string ⟨#[48]⟩),.lit (.string ⟨#[51]⟩),.lit (.string ⟨#[52]⟩),.lit (.string ⟨#[48]⟩),.lit (.string ⟨#[45,52]⟩),.lit (.string ⟨#[51]⟩),.lit (.string ⟨#[48]⟩),.lit (.string ⟨#[48]⟩),.lit (.string ⟨#[48]⟩),.lit (.string ⟨#[53]⟩)]):AV Kn),(.fv (.ag [.lit (.int .i64 (1)),.lit (.int .i64 (0)),.lit (.int .i64 (0)),.lit (.string ⟨#[49]⟩)]):AV Kn)] (.tup [.ag [.lit (.int .i64 (3)),.lit (.int .i64 (4)),.lit (.int .i64 (0)),.lit (.string ⟨#[50,56]⟩)],.sc z0]):=by
 have h:=xR (o1:=((1:Int):Rat)) (o2:=((0:Int):Rat)) (o3:=((0:Int):Rat)) (x1:=((3:Int):Rat)) (x2:=((4:Int):Rat)) (x3:=((0:Int):Rat)) (y1:=((-4:Int):Rat)) (y2:=((3:Int):Rat)) (y3:=((0:Int):Rat)) (z1:=((0:Int):Rat)) (z2:=((0:Int):Rat)) (z3:=((5:Int):Rat)) (n1:=1) (n2:=0) (n3:=0) (d:=((1:Int):Rat)) (k1:=3) (k2:=4) (k3:=0) (e:=((28:Int):Rat)) fvF (hv100 r1) ⟨mW (by kernel_rfl),mW (by kernel_rfl),mW (by kernel_rfl)⟩ (q1:=mkRat 3 25) (q2:=mkRat 4 25) (q3:=((0:Int):Rat)) (by kernel_rfl) (by kernel_rfl) (by kernel_rfl) ⟨r325.lf.mono (by decide),r425.lf.mono (by decide),r0.lf.mono (by decide),by rw [show ((1:Int):Rat)+dt (mkRat 3 25) (mkRat 4 25) ((0:Int):Rat) ((1:Int):Rat) ((0:Int):Rat) ((0:Int):Rat)=mkRat 28 25 from by kernel_rfl];exact r2825.lf.mono (by decide),fun ⟨e,_,_⟩=>mW (a:=mkRat 3 25) (by kernel_rfl) e,by kernel_rfl,by kernel_rfl,by kernel_rfl,by kernel_rfl,by constructor <;> omega,by constructor <;> omega,by constructor <;> omega,r28⟩
 simp only [vS,rZ,eO,rC,hS,kL,gG,x0,x1,x28,x3,x4,x5,xm4] at h
 exact h.lits (.ag (.txt (.txt (.txt (.txt (.txt (.txt (.txt (.txt (.txt (.txt (.txt (.txt (.nil))))))))))))) (.ag (.same (.same (.same (.txt .nil)))) .nil)) (.ag (.same (.same (.same (.txt .nil)))) (.same .nil))
theorem td_100:jF 82 [num ((1:Int):Rat),vc ((0:Int):Rat) ((0:Int):Rat) ((1:Int):Rat),vc ((1:Int):Rat) ((0:Int):Rat) ((0:Int):Rat)] (vc ((0:Int):Rat) ((1:Int):Rat) ((0:Int):Rat)):=by
 have h:=aAf (w:=((1:Int):Rat)) (u1:=((0:Int):Rat)) (u2:=((0:Int):Rat)) (u3:=((1:Int):Rat)) (v1:=((1:Int):Rat)) (v2:=((0:Int):Rat)) (v3:=((0:Int):Rat)) (r1.lf.mono (by decide)) (r0.lf.mono (by decide)) (r0.lf.mono (by decide)) (r1.lf.mono (by decide)) (r1.lf.mono (by decide)) (r0.lf.mono (by decide)) (r0.lf.mono (by decide)) (mW (by kernel_rfl))
 exact vc_eq h (by kernel_rfl) (by kernel_rfl) (by kernel_rfl)
theorem td_010:jF 82 [num ((1:Int):Rat),vc ((0:Int):Rat) ((0:Int):Rat) ((1:Int):Rat),vc ((0:Int):Rat) ((1:Int):Rat) ((0:Int):Rat)] (vc ((-1:Int):Rat) ((0:Int):Rat) ((0:Int):Rat)):=by
 have h:=aAf (w:=((1:Int):Rat)) (u1:=((0:Int):Rat)) (u2:=((0:Int):Rat)) (u3:=((1:Int):Rat)) (v1:=((0:Int):Rat)) (v2:=((1:Int):Rat)) (v3:=((0:Int):Rat)) (r1.lf.mono (by decide)) (r0.lf.mono (by decide)) (r0.lf.mono (by decide)) (r1.lf.mono (by decide)) (r0.lf.mono (by decide)) (r1.lf.mono (by decide)) (r0.lf.mono (by decide)) (mW (by kernel_rfl))
 exact vc_eq h (by kernel_rfl) (by kernel_rfl) (by kernel_rfl)
theorem td_001:jF 82 [num ((1:Int):Rat),vc ((0:Int):Rat) ((0:Int):Rat) ((1:Int):Rat),vc ((0:Int):Rat) ((0:Int):Rat) ((1:Int):Rat)] (vc ((0:Int):Rat) ((0:Int):Rat) ((1:Int):Rat)):=by
 have h:=aAf (w:=((1:Int):Rat)) (u1:=((0:Int):Rat)) (u2:=((0:Int):Rat)) (u3:=((1:Int):Rat)) (v1:=((0:Int):Rat)) (v2:=((0:Int):Rat)) (v3:=((1:Int):Rat)) (r1.lf.mono (by decide)) (r0.lf.mono (by decide)) (r0.lf.mono (by decide)) (r1.lf.mono (by decide)) (r0.lf.mono (by decide)) (r0.lf.mono (by decide)) (r1.lf.mono (by decide)) (mW (by kernel_rfl))
 exact vc_eq h (by kernel_rfl) (by kernel_rfl) (by kernel_rfl)
theorem eTurn:jX 26 [(.fv (.ag [.lit (.string ⟨#[49]⟩),.lit (.string ⟨#[48]⟩),.lit (.string ⟨#[48]⟩),.lit (.string ⟨#[49]⟩)]):AV Kn)] (.tup [.ag [.lit (.string ⟨#[48]⟩),.lit (.string ⟨#[48]⟩),.lit (.string ⟨#[48]⟩),.lit (.string ⟨#[48]⟩),.lit (.string ⟨#[49]⟩),.lit (.string ⟨#[48]⟩),.lit (.string ⟨#[45,49]⟩),.lit (.string ⟨#[48]⟩),.lit (.string ⟨#[48]⟩),.lit (.string ⟨#[48]⟩),.lit (.string ⟨#[48]⟩),.lit (.string ⟨#[49]⟩)],.sc z0]):=by
 have h:=apiTurnF (w:=((1:Int):Rat)) (u1:=((0:Int):Rat)) (u2:=((0:Int):Rat)) (u3:=((1:Int):Rat)) (b:=false) r1 ⟨r0,r0,r1⟩ (by kernel_rfl) (fun h=>by cases h) td_100 td_010 td_001 ⟨⟨r0,r0,r0⟩,⟨r0,r1,r0⟩,⟨rm1,r0,r0⟩,⟨r0,r0,r1⟩⟩
 simp only [vS,rZ,eO,rC,hS,kL,gG,x0,x1,xm1] at h
 exact h.lits (.ag (.txt (.txt (.txt (.txt .nil)))) .nil) (.ag (.txt (.txt (.txt (.txt (.txt (.txt (.txt (.txt (.txt (.txt (.txt (.txt (.nil))))))))))))) (.same .nil))
theorem eCompose:jX 27 [(.fv (.ag [.lit (.string ⟨#[49]⟩),.lit (.string ⟨#[48]⟩),.lit (.string ⟨#[48]⟩),.lit (.string ⟨#[51]⟩),.lit (.string ⟨#[52]⟩),.lit (.string ⟨#[48]⟩),.lit (.string ⟨#[45,52]⟩),.lit (.string ⟨#[51]⟩),.lit (.string ⟨#[48]⟩),.lit (.string ⟨#[48]⟩),.lit (.string ⟨#[48]⟩),.lit (.string ⟨#[53]⟩)]):AV Kn),(.fv (.ag [.lit (.string ⟨#[49]⟩),.lit (.string ⟨#[48]⟩),.lit (.string ⟨#[48]⟩),.lit (.string ⟨#[51]⟩),.lit (.string ⟨#[52]⟩),.lit (.string ⟨#[48]⟩),.lit (.string ⟨#[45,52]⟩),.lit (.string ⟨#[51]⟩),.lit (.string ⟨#[48]⟩),.lit (.string ⟨#[48]⟩),.lit (.string ⟨#[48]⟩),.lit (.string ⟨#[53]⟩)]):AV Kn)] (.tup [.ag [.lit (.string ⟨#[52]⟩),.lit (.string ⟨#[52]⟩),.lit (.string ⟨#[48]⟩),.lit (.string ⟨#[45,55]⟩),.lit (.string ⟨#[50,52]⟩),.lit (.string ⟨#[48]⟩),.lit (.string ⟨#[45,50,52]⟩),.lit (.string ⟨#[45,55]⟩),.lit (.string ⟨#[48]⟩),.lit (.string ⟨#[48]⟩),.lit (.string ⟨#[48]⟩),.lit (.string ⟨#[50,53]⟩)],.sc z0]):=by
 have h:=apiComposeF fvF fvF (q1:=((4:Int):Rat)) (q2:=((4:Int):Rat)) (q3:=((0:Int):Rat)) (r1:=((-7:Int):Rat)) (r2:=((24:Int):Rat)) (r3:=((0:Int):Rat)) (s1:=((-24:Int):Rat)) (s2:=((-7:Int):Rat)) (s3:=((0:Int):Rat)) (t1:=((0:Int):Rat)) (t2:=((0:Int):Rat)) (t3:=((25:Int):Rat)) (by kernel_rfl) (by kernel_rfl) (by kernel_rfl) (by kernel_rfl) (by kernel_rfl) (by kernel_rfl) (by kernel_rfl) (by kernel_rfl) (by kernel_rfl) (by kernel_rfl) (by kernel_rfl) (by kernel_rfl) ⟨⟨r4,r4,r0⟩,⟨rm7,r24,r0⟩,⟨rm24,rm7,r0⟩,⟨r0,r0,r25⟩⟩ (by kernel_rfl) (by kernel_rfl) (by kernel_rfl)
 simp only [vS,rZ,eO,rC,hS,kL,gG,x0,x1,x24,x25,x3,x4,x5,xm24,xm4,xm7] at h
 exact h.lits (.ag (.txt (.txt (.txt (.txt (.txt (.txt (.txt (.txt (.txt (.txt (.txt (.txt (.nil))))))))))))) (.ag (.txt (.txt (.txt (.txt (.txt (.txt (.txt (.txt (.txt (.txt (.txt (.txt (.nil))))))))))))) .nil)) (.ag (.txt (.txt (.txt (.txt (.txt (.txt (.txt (.txt (.txt (.txt (.txt (.txt (.nil))))))))))))) (.same .nil))
theorem eMeet:jX 10 [(.fv (.ag [.lit (.int .i64 (1)),.lit (.int .i64 (1)),.lit (.int .i64 (1)),.lit (.string ⟨#[49,48]⟩)]):AV Kn),(.fv (.ag [.lit (.string ⟨#[48]⟩),.lit (.string ⟨#[48]⟩),.lit (.string ⟨#[48]⟩)]):AV Kn),(.fv (.ag [.lit (.string ⟨#[49]⟩),.lit (.string ⟨#[49]⟩),.lit (.string ⟨#[48]⟩)]):AV Kn)] (.tup [.ag [.lit (.string ⟨#[53]⟩),.lit (.string ⟨#[53]⟩),.lit (.string ⟨#[48]⟩)],.sc z0]):=by
 have h:=apiMeetF (z1:=1) (z2:=1) (z3:=1) (d:=((10:Int):Rat)) (p1:=((0:Int):Rat)) (p2:=((0:Int):Rat)) (p3:=((0:Int):Rat)) (v1:=((1:Int):Rat)) (v2:=((1:Int):Rat)) (v3:=((0:Int):Rat)) (m1:=((5:Int):Rat)) (m2:=((5:Int):Rat)) (m3:=((0:Int):Rat)) (hv111 r10) ⟨r0,r0,r0⟩ ⟨r1,r1,r0⟩ (mW (by kernel_rfl)) (by kernel_rfl) (by kernel_rfl) (by kernel_rfl) ⟨r5,r5,r0⟩
 simp only [vS,rZ,eO,rC,hS,kL,gG,x0,x1,x10,x5] at h
 exact h.lits (.ag (.same (.same (.same (.txt .nil)))) (.ag (.txt (.txt (.txt .nil))) (.ag (.txt (.txt (.txt .nil))) .nil))) (.ag (.txt (.txt (.txt .nil))) (.same .nil))
theorem eSide:jX 14 [(.fv (.ag [.lit (.int .i64 (3)),.lit (.int .i64 (0)),.lit (.int .i64 (-2)),.lit (.string ⟨#[51,48]⟩)]):AV Kn),(.fv (.ag [.lit (.string ⟨#[49,48]⟩),.lit (.string ⟨#[55]⟩),.lit (.string ⟨#[49]⟩)]):AV Kn)] (.tup [.sc (.lit (.int .i64 (-1))),.sc z0]):=by
 have h:=rD (z1:=3) (z2:=0) (z3 := -2) (d:=((30:Int):Rat)) (p1:=((10:Int):Rat)) (p2:=((7:Int):Rat)) (p3:=((1:Int):Rat)) (s := -1) (hv302 r30) ⟨r10,r7,r1⟩ (by kernel_rfl)
 simp only [vS,rZ,eO,rC,hS,kL,gG,x1,x10,x30,x7] at h
 exact h.lits (.ag (.same (.same (.same (.txt .nil)))) (.ag (.txt (.txt (.txt .nil))) .nil)) (.same (.same .nil))
set_option maxRecDepth 100000 in
theorem pZ:jX 4 ([]:List (AV Kn)) (bl true):=by
 refine jY Tryz.func4 fun w00 hI=>?_
 refine jW hI 18 [lt ⟨#[49,50,46,53,48]⟩] (eParse) ?_
 refine jC 20 [it (2),it (0),it (4)] (lv_2_0_4) ?_
 refine jC 20 [it (-1),it (0),it (-2)] (lv_m1_0_m2) ?_
 refine jW hI 19 [(.fv (.ag [.lit (.string ⟨#[50]⟩),.lit (.string ⟨#[48]⟩),.lit (.string ⟨#[52]⟩)])),(.fv (.ag [.lit (.string ⟨#[45,49]⟩),.lit (.string ⟨#[48]⟩),.lit (.string ⟨#[45,50]⟩)]))] (eAlong) ?_
 refine jW hI 21 [(.fv (.ag [.lit (.string ⟨#[49,47,50]⟩),.lit (.string ⟨#[48]⟩),.lit (.string ⟨#[45,49,47,51]⟩)])),lt ⟨#[53]⟩] (eMake) ?_
 refine jC 20 [it (1),it (0),it (0)] (lv_1_0_0) ?_
 refine jC 20 [it (0),it (1),it (0)] (lv_0_1_0) ?_
 refine jC 20 [it (0),it (0),it (1)] (lv_0_0_1) ?_
 refine jW hI 22 [(.fv (.ag [.lit (.string ⟨#[49]⟩),.lit (.string ⟨#[48]⟩),.lit (.string ⟨#[48]⟩)])),(.fv (.ag [.lit (.string ⟨#[48]⟩),.lit (.string ⟨#[49]⟩),.lit (.string ⟨#[48]⟩)])),(.fv (.ag [.lit (.string ⟨#[48]⟩),.lit (.string ⟨#[48]⟩),.lit (.string ⟨#[49]⟩)]))] (eThrough) ?_
 refine jC 20 [it (0),it (0),it (0)] (lv_0_0_0) ?_
 refine jW hI 9 [(.fv (.ag [.lit (.int .i64 (1)),.lit (.int .i64 (1)),.lit (.int .i64 (1)),.lit (.string ⟨#[49]⟩)])),(.fv (.ag [.lit (.string ⟨#[48]⟩),.lit (.string ⟨#[48]⟩),.lit (.string ⟨#[48]⟩)]))] (eMirror) ?_
 refine jC 24 [] (aAz) ?_
 refine jC 20 [it (1),it (1),it (1)] (lv_1_1_1) ?_
 refine jW hI 23 [(.fv (.ag [.lit (.string ⟨#[49]⟩),.lit (.string ⟨#[48]⟩),.lit (.string ⟨#[48]⟩),.lit (.string ⟨#[51]⟩),.lit (.string ⟨#[52]⟩),.lit (.string ⟨#[48]⟩),.lit (.string ⟨#[45,52]⟩),.lit (.string ⟨#[51]⟩),.lit (.string ⟨#[48]⟩),.lit (.string ⟨#[48]⟩),.lit (.string ⟨#[48]⟩),.lit (.string ⟨#[53]⟩)])),(.fv (.ag [.lit (.string ⟨#[49]⟩),.lit (.string ⟨#[49]⟩),.lit (.string ⟨#[49]⟩)]))] (ePlace) ?_
 refine jC 24 [] (aAz) ?_
 refine jW hI 25 [(.fv (.ag [.lit (.string ⟨#[49]⟩),.lit (.string ⟨#[48]⟩),.lit (.string ⟨#[48]⟩),.lit (.string ⟨#[51]⟩),.lit (.string ⟨#[52]⟩),.lit (.string ⟨#[48]⟩),.lit (.string ⟨#[45,52]⟩),.lit (.string ⟨#[51]⟩),.lit (.string ⟨#[48]⟩),.lit (.string ⟨#[48]⟩),.lit (.string ⟨#[48]⟩),.lit (.string ⟨#[53]⟩)])),(.fv (.ag [.lit (.int .i64 (1)),.lit (.int .i64 (0)),.lit (.int .i64 (0)),.lit (.string ⟨#[49]⟩)]))] (ePlaceHalf) ?_
 refine jW hI 26 [(.fv (.ag [.lit (.string ⟨#[49]⟩),.lit (.string ⟨#[48]⟩),.lit (.string ⟨#[48]⟩),.lit (.string ⟨#[49]⟩)]))] (eTurn) ?_
 refine jC 24 [] (aAz) ?_
 refine jC 24 [] (aAz) ?_
 refine jW hI 27 [(.fv (.ag [.lit (.string ⟨#[49]⟩),.lit (.string ⟨#[48]⟩),.lit (.string ⟨#[48]⟩),.lit (.string ⟨#[51]⟩),.lit (.string ⟨#[52]⟩),.lit (.string ⟨#[48]⟩),.lit (.string ⟨#[45,52]⟩),.lit (.string ⟨#[51]⟩),.lit (.string ⟨#[48]⟩),.lit (.string ⟨#[48]⟩),.lit (.string ⟨#[48]⟩),.lit (.string ⟨#[53]⟩)])),(.fv (.ag [.lit (.string ⟨#[49]⟩),.lit (.string ⟨#[48]⟩),.lit (.string ⟨#[48]⟩),.lit (.string ⟨#[51]⟩),.lit (.string ⟨#[52]⟩),.lit (.string ⟨#[48]⟩),.lit (.string ⟨#[45,52]⟩),.lit (.string ⟨#[51]⟩),.lit (.string ⟨#[48]⟩),.lit (.string ⟨#[48]⟩),.lit (.string ⟨#[48]⟩),.lit (.string ⟨#[53]⟩)]))] (eCompose) ?_
 refine jC 20 [it (0),it (0),it (0)] (lv_0_0_0) ?_
 refine jC 20 [it (1),it (1),it (0)] (lv_1_1_0) ?_
 refine jW hI 10 [(.fv (.ag [.lit (.int .i64 (1)),.lit (.int .i64 (1)),.lit (.int .i64 (1)),.lit (.string ⟨#[49,48]⟩)])),(.fv (.ag [.lit (.string ⟨#[48]⟩),.lit (.string ⟨#[48]⟩),.lit (.string ⟨#[48]⟩)])),(.fv (.ag [.lit (.string ⟨#[49]⟩),.lit (.string ⟨#[49]⟩),.lit (.string ⟨#[48]⟩)]))] (eMeet) ?_
 refine jC 20 [it (0),it (7),it (5)] (lv_0_7_5) ?_
 refine jC 20 [it (0),it (1),it (0)] (lv_0_1_0) ?_
 refine jC 20 [it (-1),it (0),it (0)] (lv_m1_0_0) ?_
 refine jC 20 [it (4),it (4),it (0)] (lv_4_4_0) ?_
 refine jC 20 [it (-7),it (24),it (0)] (lv_m7_24_0) ?_
 refine jC 20 [it (5),it (5),it (0)] (lv_5_5_0) ?_
 refine jC 20 [it (10),it (7),it (1)] (lv_10_7_1) ?_
 refine jW hI 14 [(.fv (.ag [.lit (.int .i64 (3)),.lit (.int .i64 (0)),.lit (.int .i64 (-2)),.lit (.string ⟨#[51,48]⟩)])),(.fv (.ag [.lit (.string ⟨#[49,48]⟩),.lit (.string ⟨#[55]⟩),.lit (.string ⟨#[49]⟩)]))] (eSide) ?_
 refine jC 28 [lt ⟨#[112,111,115,116,95,49]⟩] (isNameF (b:=true) (by kernel_rfl)) ?_
 refine jC 28 [lt ⟨#[49,112,111,115,116]⟩] (isNameF (b:=false) (by kernel_rfl)) ?_
 exact jR Tryz.func4
theorem uG {f:FuncId} {w00:World} {c:Cfg Kn} {fn:Func} {z:Int} (hfn:Tryz.prog.funcs[f]?=some fn) (hc:c.res Tryz.prog fn=some (it z)):Ok Tryz.prog f w00 (fun v w=>(AV.fv (.sc (fT z)):AV Kn).holds [] v w) c :=
 ⟨vT hfn (it z) hc fun _ _ _ h=>h.1⟩
abbrev hA (a b c:Int) (s:ByteArray):AV Kn := .fv (.ag [fT a,fT b,fT c,dQ s])
abbrev hL (a b c:Int) (s:ByteArray):AV Kn := .fv (.ag [.lit (.int .i64 a),.lit (.int .i64 b),.lit (.int .i64 c),dQ s])
theorem hL_A {a b c:Int} {s:ByteArray} (β:List Nat) (v:Value) (w:World) (h:(hL a b c s).holds β v w):(hA a b c s).holds β v w:=by
 obtain ⟨cs,e,x1,r1,e1,h1,x2,r2,e2,h2,x3,r3,e3,h3,hr⟩:=h
 exact ⟨cs,e,x1,r1,e1,h1.1,x2,r2,e2,h2.1,x3,r3,e3,h3.1,hr⟩
theorem iv_i3 {a b c:Int} (β:List Nat) (v:Value) (w:World) (h:(iv a b c).holds β v w):(i3 a b c).holds β v w:=by
 obtain ⟨cs,e,x1,r1,e1,h1,x2,r2,e2,h2,x3,r3,e3,h3,hr⟩:=h
 exact ⟨cs,e,x1,r1,e1,h1.1,x2,r2,e2,h2.1,x3,r3,e3,h3.1,hr⟩
abbrev Bg (z:Int):Prop:=z < -999999999∨999999999<z
def hkZ (a b c k:Int):Int:=if a=0∧b=0∧c=0 then 6 else if Bg a∨Bg b∨Bg c then 3 else if Int.gcd (Int.gcd a b:Int) c≠1 then 1 else k
section
variable {a b c:Int} {s:ByteArray}
theorem checkHalfF {k z:Int} (hk:jF 13 [tx s] (.fv (.sc (fT k)))) (hz:hkZ a b c k=z):jF 29 [hA a b c s] (.fv (.sc (fT z))):=by
 unfold hkZ at hz
 refine jG Tryz.func29 fun w00=>?_
 by_cases h0:a=0∧b=0∧c=0
 ·obtain rfl:z=6:=by rw [← hz,if_pos h0]
  refine kz3 (.tmp 5) (.tmp 6) a b c true (by simp [h0]) ?_
  exact uG Tryz.func29 (by kernel_rfl)
 rw [if_neg h0] at hz
 refine kz3 (.tmp 5) (.tmp 6) a b c false (by rw [Bool.eq_false_iff];simp;omega) ?_
 have e3:∀ {x:Int},x=a∨x=b∨x=c→Bg x→z=3:=fun hx h=>by
  rw [← hz,if_pos (by rcases hx with rfl|rfl|rfl <;> simp only [h,true_or,or_true])]
 by_cases a1:a < -999999999
 ·obtain rfl:=e3 (.inl rfl) (.inl a1)
  refine klt (.tmp 15) (.const (.int .i64 (-999999999))) a _ true _ bC (decide_eq_true a1) ?_
  exact uG Tryz.func29 (by kernel_rfl)
 refine klt (.tmp 15) (.const (.int .i64 (-999999999))) a _ false _ bC (decide_eq_false a1) ?_
 by_cases a2:999999999<a
 ·obtain rfl:=e3 (.inl rfl) (.inr a2)
  refine kgg (.tmp 21) (.const (.int .i64 999999999)) a _ true _ bC (decide_eq_true a2) ?_
  exact uG Tryz.func29 (by kernel_rfl)
 refine kgg (.tmp 21) (.const (.int .i64 999999999)) a _ false _ bC (decide_eq_false a2) ?_
 by_cases b1:b < -999999999
 ·obtain rfl:=e3 (.inr (.inl rfl)) (.inl b1)
  refine klt (.tmp 15) (.const (.int .i64 (-999999999))) b _ true _ bC (decide_eq_true b1) ?_
  exact uG Tryz.func29 (by kernel_rfl)
 refine klt (.tmp 15) (.const (.int .i64 (-999999999))) b _ false _ bC (decide_eq_false b1) ?_
 by_cases b2:999999999<b
 ·obtain rfl:=e3 (.inr (.inl rfl)) (.inr b2)
  refine kgg (.tmp 21) (.const (.int .i64 999999999)) b _ true _ bC (decide_eq_true b2) ?_
  exact uG Tryz.func29 (by kernel_rfl)
 refine kgg (.tmp 21) (.const (.int .i64 999999999)) b _ false _ bC (decide_eq_false b2) ?_
 by_cases c1:c < -999999999
 ·obtain rfl:=e3 (.inr (.inr rfl)) (.inl c1)
  refine klt (.tmp 15) (.const (.int .i64 (-999999999))) c _ true _ bC (decide_eq_true c1) ?_
  exact uG Tryz.func29 (by kernel_rfl)
 refine klt (.tmp 15) (.const (.int .i64 (-999999999))) c _ false _ bC (decide_eq_false c1) ?_
 by_cases c2:999999999<c
 ·obtain rfl:=e3 (.inr (.inr rfl)) (.inr c2)
  refine kgg (.tmp 21) (.const (.int .i64 999999999)) c _ true _ bC (decide_eq_true c2) ?_
  exact uG Tryz.func29 (by kernel_rfl)
 refine kgg (.tmp 21) (.const (.int .i64 999999999)) c _ false _ bC (decide_eq_false c2) ?_
 rw [if_neg (by unfold Bg;omega)] at hz
 have hg:=intGcdF (a:=a) (b:=b) (by omega) (by omega)
 have hs:=size_gcd (a:=a) (b:=b) (by omega) (by omega)
 have hg2:=intGcdF (a:=(Int.gcd a b:Int)) (b:=c) hs (by omega)
 clear e3 hs
 generalize (Int.gcd a b:Int)=g at *
 generalize Int.gcd g c=g2 at *
 refine jC 91 [.fv (.sc (fT a)),.fv (.sc (fT b))] (hg) ?_
 refine jC 91 [.fv (.sc (fT g)),.fv (.sc (fT c))] (hg2) ?_
 by_cases g1:g2=1
 ·rw [if_neg (by omega)] at hz
  subst hz
  refine kne (.tmp 34) (.const (.int .i64 1)) (g2:Int) 1 false _ bC (by rw [g1];rfl) ?_
  refine jC 13 [tx s] (hk) ?_
  exact jR Tryz.func29
 ·obtain rfl:z=1:=by rw [← hz,if_pos g1]
  refine kne (.tmp 34) (.const (.int .i64 1)) (g2:Int) 1 true _ bC (by simp;omega) ?_
  exact uG Tryz.func29 (by kernel_rfl)
theorem aBa (h0:¬ (a=0∧b=0∧c=0)) (ha:¬ Bg a) (hb:¬ Bg b) (hc:¬ Bg c) (hg:Int.gcd (Int.gcd a b:Int) c=1):jF 95 [iv a b c] (it 0):=by
 have w:∀ {x:Int},¬ Bg x→x.natAbs<aD:=fun h=>by unfold Bg at h;rw [aL];omega
 have g1:=dK (a:=0) (b:=a.natAbs) (by rw [aL];omega) (w ha)
 have l1:Nat.gcd 0 a.natAbs<aD:=by rw [Nat.gcd_zero_left];exact w ha
 have g2:=dK l1 (w hb)
 have l2:Nat.gcd (Nat.gcd 0 a.natAbs) b.natAbs<aD:=by
  rw [Nat.gcd_zero_left]
  by_cases e:a=0
  ·rw [e];simpa using w hb
  ·exact Nat.lt_of_le_of_lt (Nat.gcd_le_left _ (by omega)) (w ha)
 have g3:=dK l2 (w hc)
 have e3:Nat.gcd (Nat.gcd (Nat.gcd 0 a.natAbs) b.natAbs) c.natAbs=1:=by
  rw [Nat.gcd_zero_left]
  exact hg
 rw [e3] at g3
 generalize Nat.gcd (Nat.gcd 0 a.natAbs) b.natAbs=x2 at *
 generalize Nat.gcd 0 a.natAbs=x1 at *
 unfold Bg at ha hb hc
 refine Fits.args (l := [i3 a b c]) ?_ fun β vs w ⟨v,r,e,h,hr⟩=>⟨v,r,e,iv_i3 β v w h,hr⟩
 refine jG Tryz.func95 fun w00=>?_
 refine kz3 (.tmp 6) (.tmp 7) a b c false (by rw [Bool.eq_false_iff];simp;omega) ?_
 refine klt (.tmp 13) (.const (.int .i64 (-999999999))) a (-999999999) false _ bC (by rw [decide_eq_false_iff_not];omega) ?_
 refine kgg (.tmp 16) (.const (.int .i64 999999999)) a 999999999 false _ bC (by rw [decide_eq_false_iff_not];omega) ?_
 refine kneg 21 a (by constructor <;> omega) (by constructor <;> omega) ?_
 refine kabs 20 22 a ?_
 refine kcvu 23 a.natAbs (by omega) ?_
 refine jC 156 [.fv (.sc (.lit (.int .u64 ((0:Nat):Int)))),.fv (.sc (.lit (.int .u64 (a.natAbs:Int))))] (g1) ?_
 refine klt (.tmp 13) (.const (.int .i64 (-999999999))) b (-999999999) false _ bC (by rw [decide_eq_false_iff_not];omega) ?_
 refine kgg (.tmp 16) (.const (.int .i64 999999999)) b 999999999 false _ bC (by rw [decide_eq_false_iff_not];omega) ?_
 refine kneg 21 b (by constructor <;> omega) (by constructor <;> omega) ?_
 refine kabs 20 22 b ?_
 refine kcvu 23 b.natAbs (by omega) ?_
 refine jC 156 [.fv (.sc (.lit (.int .u64 (x1:Int)))),.fv (.sc (.lit (.int .u64 (b.natAbs:Int))))] (g2) ?_
 refine klt (.tmp 13) (.const (.int .i64 (-999999999))) c (-999999999) false _ bC (by rw [decide_eq_false_iff_not];omega) ?_
 refine kgg (.tmp 16) (.const (.int .i64 999999999)) c 999999999 false _ bC (by rw [decide_eq_false_iff_not];omega) ?_
 refine kneg 21 c (by constructor <;> omega) (by constructor <;> omega) ?_
 refine kabs 20 22 c ?_
 refine kcvu 23 c.natAbs (by omega) ?_
 refine jC 156 [.fv (.sc (.lit (.int .u64 (x2:Int)))),.fv (.sc (.lit (.int .u64 (c.natAbs:Int))))] (g3) ?_
 exact jR Tryz.func95
end
def Bq (k:Nat) (q:Rat):Prop:=q.num.natAbs<10^k∧q.den<10^k
theorem Bq.mono {k l:Nat} {q:Rat} (h:Bq k q) (hk:k≤l):Bq l q :=
 ⟨Nat.lt_of_lt_of_le h.1 (Nat.pow_le_pow_right (by omega) hk),Nat.lt_of_lt_of_le h.2 (Nat.pow_le_pow_right (by omega) hk)⟩
theorem Bq.mul {j k:Nat} {p q:Rat} (hp:Bq j p) (hq:Bq k q):Bq (j+k) (p*q):=by
 rw [Rat.mul_def']
 obtain ⟨h1,h2⟩:=dN (p.num*q.num) (Nat.ne_of_gt (Nat.mul_pos p.den_pos q.den_pos))
 rw [Int.natAbs_mul] at h1
 refine ⟨Nat.lt_of_le_of_lt h1 ?_,Nat.lt_of_le_of_lt h2 ?_⟩
 ·rw [Nat.pow_add];exact Nat.mul_lt_mul'' hp.1 hq.1
 ·rw [Nat.pow_add];exact Nat.mul_lt_mul'' hp.2 hq.2
theorem Bq.add {j k:Nat} {p q:Rat} (hp:Bq j p) (hq:Bq k q):Bq (j+k+1) (p+q):=by
 rw [Rat.add_def']
 obtain ⟨h1,h2⟩:=dN (p.num*q.den+q.num*p.den) (Nat.ne_of_gt (Nat.mul_pos p.den_pos q.den_pos))
 have a1:p.num.natAbs*q.den<10^(j+k):=by rw [Nat.pow_add];exact Nat.mul_lt_mul'' hp.1 hq.2
 have a2:q.num.natAbs*p.den<10^(j+k):=by rw [Nat.pow_add,Nat.mul_comm];exact Nat.mul_lt_mul'' hp.2 hq.1
 have a3:p.den*q.den<10^(j+k):=by rw [Nat.pow_add];exact Nat.mul_lt_mul'' hp.2 hq.2
 have a4:10^(j+k+1)=10^(j+k)*10:=Nat.pow_succ _ _
 have a5:=Int.natAbs_add_le (p.num*q.den) (q.num*p.den)
 rw [Int.natAbs_mul,Int.natAbs_mul,Int.natAbs_natCast,Int.natAbs_natCast] at a5
 exact ⟨by omega,by omega⟩
theorem Bq.neg {k:Nat} {p:Rat} (hp:Bq k p):Bq k (-p):=by
 refine ⟨?_,hp.2⟩
 rw [Rat.neg_num,Int.natAbs_neg];exact hp.1
theorem Bq.sub {j k:Nat} {p q:Rat} (hp:Bq j p) (hq:Bq k q):Bq (j+k+1) (p-q):=by
 rw [Rat.sub_eq_add_neg]
 exact hp.add hq.neg
theorem Bq.inv {k:Nat} {p:Rat} (hp:Bq k p):Bq k p⁻¹:=by
 by_cases h0:p=0
 ·subst h0;rw [Rat.inv_zero];exact hp
 ·obtain ⟨_,e1,e2⟩:=Parts.inv (Parts.self p) h0
  exact ⟨by rw [← e1];exact hp.2,by rw [← e2];exact hp.1⟩
theorem Bq.div {j k:Nat} {p q:Rat} (hp:Bq j p) (hq:Bq k q):Bq (j+k) (p/q):=by
 rw [Rat.div_def]
 exact hp.mul hq.inv
theorem Bq.dt {k l n:Nat} {a b c x y z:Rat} (h1:Bq k a) (h2:Bq k b) (h3:Bq k c) (g1:Bq l x) (g2:Bq l y) (g3:Bq l z) (hn:3*(k+l)+2≤n):Bq n (dt a b c x y z) :=
 (((h1.mul g1).add (h2.mul g2)).add (h3.mul g3)).mono (by omega)
theorem Bq.wr {k:Nat} {q:Rat} (h:Bq k q) (hk:k≤600):Wr q:=by
 have h':=h.mono (l:=599+1) hk
 exact ⟨decB_size h'.1,decB_size h'.2⟩
theorem Bq.zs {k:Nat} {q:Rat} (h:Bq k q) (hk:k≤10000):Zs 10000 q:=by
 have h':=h.mono (l:=10000+1) (by omega)
 exact h'
theorem xK {k:Nat} {q:Rat} (h:Fw k q):Bq k q:=⟨mQ h.1,mQ h.2⟩
theorem tI (x:Rat):0≤x*x:=by
 rcases Rat.le_total (a:=0) (b:=x) with h|h
 ·exact Rat.mul_nonneg h h
 ·have h' : 0≤-x:=by grind
  have:=Rat.mul_nonneg h' h'
  grind
theorem sum_sq {x y z:Rat} (h:dt x y z x y z=0):x=0∧y=0∧z=0:=by
 have h1:=tI x
 have h2:=tI y
 have h3:=tI z
 have a1:x*x=0:=by grind
 have a2:y*y=0:=by grind
 have a3:z*z=0:=by grind
 exact ⟨by grind,by grind,by grind⟩
section
variable {a b c:Int} {s:ByteArray}
theorem lit_isS {f:FuncId} {args:List (AV Kn)} {x:FV Kn} {z:Int} (h:jX f args (.tup [.sc (.lit (.int .i64 z)),x])):jX f args (.tup [.sc (fT z),x]) :=
 h.res fun _ _ _ ⟨vs,e,v,r,e1,h1,h2⟩=>⟨vs,e,v,r,e1,h1.1,h2⟩
abbrev In (k x:Int):Prop := -k≤x∧x≤k
theorem fewHalfF {z:Int} {q r:Bool} (hk:jF 29 [hA a b c s] (.fv (.sc (fT z)))) (hf:jF 30 [tx s,it 6] (bl q)) (hr:(decide (z=0)&&q&&decide (In 1000 a)&&decide (In 1000 b)&&decide (In 1000 c))=r) :
 jF 5 [hL a b c s,it 1000,it 6] (bl r):=by
 refine Fits.args (l := [hA a b c s,it 1000,it 6]) ?_ fun β vs w ⟨v,r,e,h,hr⟩=>⟨v,r,e,hL_A β v w h,hr⟩
 refine jG Tryz.func5 fun w00=>?_
 refine jC 29 [hA a b c s] (hk) ?_
 by_cases hz:z=0
 ·refine kne (.tmp 9) (.const (.int .i64 0)) z 0 false _ bC (by simp [hz]) ?_
  cases q
  ·obtain rfl:r=false:=by rw [← hr];simp
   refine jC 30 [tx s,it 6] (hf) ?_
   exact jR Tryz.func5
  refine jC 30 [tx s,it 6] (hf) ?_
  by_cases a1:a < -1000
  ·obtain rfl:r=false:=by rw [← hr];simp;omega
   refine klt (.tmp 25) (.tmp 27) a (-1000) true _ bC (decide_eq_true a1) ?_
   exact jR Tryz.func5
  refine klt (.tmp 25) (.tmp 27) a (-1000) false _ bC (decide_eq_false a1) ?_
  by_cases a2:1000<a
  ·obtain rfl:r=false:=by rw [← hr];simp;omega
   refine kgg (.tmp 33) (.tmp 34) a 1000 true _ bC (decide_eq_true a2) ?_
   exact jR Tryz.func5
  refine kgg (.tmp 33) (.tmp 34) a 1000 false _ bC (decide_eq_false a2) ?_
  by_cases b1:b < -1000
  ·obtain rfl:r=false:=by rw [← hr];simp;omega
   refine klt (.tmp 25) (.tmp 27) b (-1000) true _ bC (decide_eq_true b1) ?_
   exact jR Tryz.func5
  refine klt (.tmp 25) (.tmp 27) b (-1000) false _ bC (decide_eq_false b1) ?_
  by_cases b2:1000<b
  ·obtain rfl:r=false:=by rw [← hr];simp;omega
   refine kgg (.tmp 33) (.tmp 34) b 1000 true _ bC (decide_eq_true b2) ?_
   exact jR Tryz.func5
  refine kgg (.tmp 33) (.tmp 34) b 1000 false _ bC (decide_eq_false b2) ?_
  by_cases c1:c < -1000
  ·obtain rfl:r=false:=by rw [← hr];simp;omega
   refine klt (.tmp 25) (.tmp 27) c (-1000) true _ bC (decide_eq_true c1) ?_
   exact jR Tryz.func5
  refine klt (.tmp 25) (.tmp 27) c (-1000) false _ bC (decide_eq_false c1) ?_
  by_cases c2:1000<c
  ·obtain rfl:r=false:=by rw [← hr];simp;omega
   refine kgg (.tmp 33) (.tmp 34) c 1000 true _ bC (decide_eq_true c2) ?_
   exact jR Tryz.func5
  refine kgg (.tmp 33) (.tmp 34) c 1000 false _ bC (decide_eq_false c2) ?_
  obtain rfl:r=true:=by rw [← hr];simp [hz];omega
  exact jR Tryz.func5
 ·obtain rfl:r=false:=by rw [← hr];simp [hz]
  refine kne (.tmp 9) (.const (.int .i64 0)) z 0 true _ bC (by simp [hz]) ?_
  exact jR Tryz.func5
end
section
variable {a b c x y z d:Rat} {k l n:Nat}
theorem subV (h1:Bq k a) (h2:Bq k b) (h3:Bq k c) (g1:Bq l x) (g2:Bq l y) (g3:Bq l z) (hk:k≤10000) (hl:l≤10000):jF 16 [vS a b c,vS x y z] (vS (a-x) (b-y) (c-z)) :=
 subVecR (aAx (subR (h1.zs hk) (g1.zs hl))) (aAx (subR (h2.zs hk) (g2.zs hl))) (aAx (subR (h3.zs hk) (g3.zs hl)))
theorem dotV (h1:Bq k a) (h2:Bq k b) (h3:Bq k c) (g1:Bq l x) (g2:Bq l y) (g3:Bq l z) (hk:2*(k+l)<10000):jF 54 [vS a b c,vS x y z] (tx (writeB (dt a b c x y z))) :=
 dotR (aAx (aAt (h1.zs (by omega)) (g1.zs (by omega)))) (aAx (aAt (h2.zs (by omega)) (g2.zs (by omega)))) (aAx (uW ((h1.mul g1).zs (by omega)) ((h2.mul g2).zs (by omega))))
  (aAx (aAt (h3.zs (by omega)) (g3.zs (by omega)))) (aAx (uW (((h1.mul g1).add (h2.mul g2)).zs (by omega)) ((h3.mul g3).zs (by omega))))
theorem aBb (h1:Bq k a) (h2:Bq k b) (h3:Bq k c) (hk:4*k<10000):jF 15 [vS a b c] (tx (writeB (dt a b c a b c))):=squareR (dotV h1 h2 h3 h1 h2 h3 (by omega))
end
theorem normalF {z1 z2 z3:Int} {s:ByteArray} (h1:qT z1) (h2:qT z2) (h3:qT z3):jF 11 [hL z1 z2 z3 s] (vS z1 z2 z3):=by
 refine jG Tryz.func11 fun w00=>?_
 refine jC 47 [it z1,it z2,it z3] (intsF h1 h2 h3) ?_
 exact jR Tryz.func11
theorem aBc {z:Int} {k:Nat} (h:z.natAbs<10^k) (hk:0<k):Bq k (z:Rat):=by
 refine ⟨by rw [Rat.num_intCast];exact h,?_⟩
 rw [Rat.den_intCast]
 have:=Nat.pow_le_pow_right (n:=10) (by omega) hk
 omega
theorem nn_pos {z1 z2 z3:Int} (h:¬ (z1=0∧z2=0∧z3=0)):dt (z1:Rat) z2 z3 z1 z2 z3≠0:=fun e=>by
 obtain ⟨h1,h2,h3⟩:=sum_sq e
 exact h ⟨by exact_mod_cast h1,by exact_mod_cast h2,by exact_mod_cast h3⟩
theorem yA {k:Nat} {q:Rat} (h:Bq k q) (hk:k≤600):jF 13 [tx (writeB q)] (it 0):=chkF (h.wr hk).n (h.wr hk).d
def Fy (k:Nat) (s:ByteArray):Prop := ∃ q,s=writeB q∧Fw k q
theorem zK {a b c:ByteArray} {n:Int} {k:Nat} (yes:∀ s,Fy k s→jF 30 [tx s,it n] (bl true)) (no:∀ s,¬ Fy k s→jF 30 [tx s,it n] (bl false)) :
 (Fy k a∧Fy k b∧Fy k c∧jF 6 [t3 a b c,it n] (bl true))∨jF 6 [t3 a b c,it n] (bl false):=by
 by_cases h1:Fy k a
 ·by_cases h2:Fy k b
  ·by_cases h3:Fy k c
   ·exact .inl ⟨h1,h2,h3,fewVecT (yes _ h1) (yes _ h2) (yes _ h3)⟩
   ·exact .inr (fewVecF3 (yes _ h1) (yes _ h2) (no _ h3))
  ·exact .inr (fewVecF2 (yes _ h1) (no _ h2))
 ·exact .inr (fewVecF1 (no _ h1))
section
variable {z1 z2 z3 t u:Int} {d p1 p2 p3 o1 o2 o3 f1 f2 f3 m1 m2 m3 q1 q2 q3 D E F a1 a2 a3 b1 b2 b3 c1 c2 c3:Rat}
set_option maxRecDepth 100000 in
theorem near_walk (kH:jF 5 [hS z1 z2 z3 d,it 1000,it 6] (bl true)) (kp:jF 6 [vS p1 p2 p3,it 6] (bl true)) (ko:jF 6 [vS o1 o2 o3,it 6] (bl true))
 (cF:jX 7 [hS z1 z2 z3 d,vS p1 p2 p3] (eO f1 f2 f3)) (cD:jX 8 [hS z1 z2 z3 d,vS p1 p2 p3] (rZ D)) (cM:jX 9 [hS z1 z2 z3 d,vS p1 p2 p3] (eO m1 m2 m3)) (cB:jX 9 [hS z1 z2 z3 d,vS m1 m2 m3] (eO p1 p2 p3))
 (cS:jX 7 [hS z1 z2 z3 d,vS m1 m2 m3] (eO f1 f2 f3)) (cN:jF 11 [hS z1 z2 z3 d] (vS z1 z2 z3)) (cX:jX 10 [hS z1 z2 z3 d,vS p1 p2 p3,vS z1 z2 z3] (eO f1 f2 f3)) (cQ:jX 7 [hS z1 z2 z3 d,vS o1 o2 o3] (eO q1 q2 q3))
 (kF:jF 12 [vS f1 f2 f3] (it 0)) (kM:jF 12 [vS m1 m2 m3] (it 0)) (kQ:jF 12 [vS q1 q2 q3] (it 0)) (kD:jF 13 [tx (writeB D)] (it 0))
 (sF:jX 14 [hS z1 z2 z3 d,vS f1 f2 f3] (.tup [.sc z0,.sc z0])) (sP:jX 14 [hS z1 z2 z3 d,vS p1 p2 p3] (.tup [.sc (fT t),.sc z0])) (sM:jX 14 [hS z1 z2 z3 d,vS m1 m2 m3] (.tup [.sc (fT u),.sc z0]))
 (vA:jF 16 [vS q1 q2 q3,vS p1 p2 p3] (vS a1 a2 a3)) (wA:jF 15 [vS a1 a2 a3] (tx (writeB F))) (vB:jF 16 [vS f1 f2 f3,vS p1 p2 p3] (vS b1 b2 b3)) (wB:jF 15 [vS b1 b2 b3] (tx (writeB D)))
 (vC:jF 16 [vS q1 q2 q3,vS f1 f2 f3] (vS c1 c2 c3)) (wC:jF 15 [vS c1 c2 c3] (tx (writeB E))) (wD:jF 17 [tx (writeB D),tx (writeB E)] (tx (writeB F))) (ht:t = -u) (h1:qT t) (h2:qT u) :
 jX 3 [hS z1 z2 z3 d,vS p1 p2 p3,vS o1 o2 o3] (bl true):=by
 refine jY Tryz.func3 fun w00 hI=>?_
 refine jW hI 4 [] (pZ) ?_
 refine jC 5 [hS z1 z2 z3 d,it 1000,it 6] (kH) ?_
 refine jC 6 [vS p1 p2 p3,it 6] (kp) ?_
 refine jC 6 [vS o1 o2 o3,it 6] (ko) ?_
 refine jW hI 7 [hS z1 z2 z3 d,vS p1 p2 p3] (cF) ?_
 refine jW hI 8 [hS z1 z2 z3 d,vS p1 p2 p3] (cD) ?_
 refine jW hI 9 [hS z1 z2 z3 d,vS p1 p2 p3] (cM) ?_
 refine jW hI 9 [hS z1 z2 z3 d,vS m1 m2 m3] (cB) ?_
 refine jW hI 7 [hS z1 z2 z3 d,vS m1 m2 m3] (cS) ?_
 refine jC 11 [hS z1 z2 z3 d] (cN) ?_
 refine jW hI 10 [hS z1 z2 z3 d,vS p1 p2 p3,vS z1 z2 z3] (cX) ?_
 refine jW hI 7 [hS z1 z2 z3 d,vS o1 o2 o3] (cQ) ?_
 refine jC 12 [vS f1 f2 f3] (kF) ?_
 refine jC 12 [vS m1 m2 m3] (kM) ?_
 refine jC 12 [vS q1 q2 q3] (kQ) ?_
 refine jC 13 [tx (writeB D)] (kD) ?_
 refine jW hI 14 [hS z1 z2 z3 d,vS f1 f2 f3] (sF) ?_
 refine jW hI 14 [hS z1 z2 z3 d,vS p1 p2 p3] (sP) ?_
 refine jW hI 14 [hS z1 z2 z3 d,vS m1 m2 m3] (sM) ?_
 refine kneg 154 u h2 (by rw [← ht];exact h1) ?_
 refine kne (.tmp 153) (.tmp 155) t (-u) false _ is_int (by rw [ht];simp) ?_
 refine kv3 (.tmp 159) (.tmp 160) (writeB p1) (writeB p2) (writeB p3) ?_
 refine kv3 (.tmp 164) (.tmp 165) (writeB f1) (writeB f2) (writeB f3) ?_
 refine kv3 (.tmp 169) (.tmp 170) (writeB f1) (writeB f2) (writeB f3) ?_
 refine jC 16 [vS q1 q2 q3,vS p1 p2 p3] (vA) ?_
 refine jC 15 [vS a1 a2 a3] (wA) ?_
 refine jC 16 [vS f1 f2 f3,vS p1 p2 p3] (vB) ?_
 refine jC 15 [vS b1 b2 b3] (wB) ?_
 refine ktx 180 181 (writeB D) ?_
 refine jC 16 [vS q1 q2 q3,vS f1 f2 f3] (vC) ?_
 refine jC 15 [vS c1 c2 c3] (wC) ?_
 refine jC 17 [tx (writeB D),tx (writeB E)] (wD) ?_
 refine ktx 184 190 (writeB F) ?_
 exact jR Tryz.func3
end
section
variable {z1 z2 z3:Int} {s p1 p2 p3 o1 o2 o3:ByteArray}
set_option maxRecDepth 100000 in
theorem near_f1 (h:jF 5 [hL z1 z2 z3 s,it 1000,it 6] (bl false)):jX 3 [hL z1 z2 z3 s,t3 p1 p2 p3,t3 o1 o2 o3] (bl true):=by
 refine jY Tryz.func3 fun w00 hI=>?_
 refine jW hI 4 [] (pZ) ?_
 refine jC 5 [hL z1 z2 z3 s,it 1000,it 6] (h) ?_
 refine jW hI 4 [] (pZ) ?_
 exact jR Tryz.func3
set_option maxRecDepth 100000 in
theorem near_f2 (h1:jF 5 [hL z1 z2 z3 s,it 1000,it 6] (bl true)) (h:jF 6 [t3 p1 p2 p3,it 6] (bl false)):jX 3 [hL z1 z2 z3 s,t3 p1 p2 p3,t3 o1 o2 o3] (bl true):=by
 refine jY Tryz.func3 fun w00 hI=>?_
 refine jW hI 4 [] (pZ) ?_
 refine jC 5 [hL z1 z2 z3 s,it 1000,it 6] (h1) ?_
 refine jC 6 [t3 p1 p2 p3,it 6] (h) ?_
 refine jW hI 4 [] (pZ) ?_
 exact jR Tryz.func3
set_option maxRecDepth 100000 in
theorem near_f3 (h1:jF 5 [hL z1 z2 z3 s,it 1000,it 6] (bl true)) (h2:jF 6 [t3 p1 p2 p3,it 6] (bl true)) (h:jF 6 [t3 o1 o2 o3,it 6] (bl false)):jX 3 [hL z1 z2 z3 s,t3 p1 p2 p3,t3 o1 o2 o3] (bl true):=by
 refine jY Tryz.func3 fun w00 hI=>?_
 refine jW hI 4 [] (pZ) ?_
 refine jC 5 [hL z1 z2 z3 s,it 1000,it 6] (h1) ?_
 refine jC 6 [t3 p1 p2 p3,it 6] (h2) ?_
 refine jC 6 [t3 o1 o2 o3,it 6] (h) ?_
 refine jW hI 4 [] (pZ) ?_
 exact jR Tryz.func3
end
theorem nat4 {x:Int} (h:In 1000 x):x.natAbs<10^4:=by show x.natAbs<10000;omega
theorem hv_of {z1 z2 z3:Int} {d:Rat} (h0:¬ (z1=0∧z2=0∧z3=0)) (h1:¬ Bg z1) (h2:¬ Bg z2) (h3:¬ Bg z3) (hg:Int.gcd (Int.gcd z1 z2:Int) z3=1) (hd:Wr d):Hv z1 z2 z3 d :=
 ⟨by unfold Bg at h1;omega,by unfold Bg at h2;omega,by unfold Bg at h3;omega,hd,aBa h0 h1 h2 h3 hg⟩
theorem sgnR_neg (x:Rat):sR (-x) = -sR x:=by
 unfold sR bO
 rw [Rat.neg_num]
 (repeat' split) <;> omega
theorem aBd (q:Rat):-1≤sR q∧sR q≤1:=by
 unfold sR bO
 (repeat' split) <;> constructor <;> omega
theorem sq_ext {x1 x2 x3 u1 u2 u3 W:Rat} (h:x1*u1+x2*u2+x3*u3=0):dt (W*x1) (W*x2) (W*x3) (W*x1) (W*x2) (W*x3)+dt u1 u2 u3 u1 u2 u3=dt (u1+W*x1) (u2+W*x2) (u3+W*x3) (u1+W*x1) (u2+W*x2) (u3+W*x3):=by
 have e:dt (u1+W*x1) (u2+W*x2) (u3+W*x3) (u1+W*x1) (u2+W*x2) (u3+W*x3)=dt (W*x1) (W*x2) (W*x3) (W*x1) (W*x2) (W*x3)+dt u1 u2 u3 u1 u2 u3+2*W*(x1*u1+x2*u2+x3*u3):=by grind
 rw [e,h]
 grind
section
variable {z1 z2 z3:Int} {d p1 p2 p3 o1 o2 o3:Rat}
theorem nearR (h0:¬ (z1=0∧z2=0∧z3=0)) (i1:In 1000 z1) (i2:In 1000 z2) (i3:In 1000 z3) (hg:Int.gcd (Int.gcd z1 z2:Int) z3=1) (fd:Fw 6 d) (fp1:Fw 6 p1) (fp2:Fw 6 p2) (fp3:Fw 6 p3) (fo1:Fw 6 o1) (fo2:Fw 6 o2) (fo3:Fw 6 o3)
 (kH:jF 5 [hS z1 z2 z3 d,it 1000,it 6] (bl true)) (kp:jF 6 [vS p1 p2 p3,it 6] (bl true)) (ko:jF 6 [vS o1 o2 o3,it 6] (bl true)) :
 jX 3 [hS z1 z2 z3 d,vS p1 p2 p3,vS o1 o2 o3] (bl true):=by
 have y1:=aBc (nat4 i1) (by omega)
 have y2:=aBc (nat4 i2) (by omega)
 have y3:=aBc (nat4 i3) (by omega)
 have qd:=xK fd
 have a1:=xK fp1
 have a2:=xK fp2
 have a3:=xK fp3
 have c1:=xK fo1
 have c2:=xK fo2
 have c3:=xK fo3
 have hv:Hv z1 z2 z3 d:=hv_of h0 (by unfold Bg;omega) (by unfold Bg;omega) (by unfold Bg;omega) hg (qd.wr (by omega))
 have n0:=nn_pos h0
 have m1:qT z1:=by constructor <;> omega
 have m2:qT z2:=by constructor <;> omega
 have m3:qT z3:=by constructor <;> omega
 have wz:kK (z1:Rat) z2 z3:=⟨y1.wr (by omega),y2.wr (by omega),y3.wr (by omega)⟩
 have wp:kK p1 p2 p3:=⟨a1.wr (by omega),a2.wr (by omega),a3.wr (by omega)⟩
 have wo:kK o1 o2 o3:=⟨c1.wr (by omega),c2.wr (by omega),c3.wr (by omega)⟩
 have cN:=normalF (s:=writeB d) m1 m2 m3
 have qn:Bq 26 (dt (z1:Rat) z2 z3 z1 z2 z3):=Bq.dt y1 y2 y3 y1 y2 y3 (by omega)
 generalize hx1:(z1:Rat)=x1 at *
 generalize hx2:(z2:Rat)=x2 at *
 generalize hx3:(z3:Rat)=x3 at *
 have way:∀ {r1 r2 r3:Rat},Bq 6 r1→Bq 6 r2→Bq 6 r3→Bq 65 (cW x1 x2 x3 d r1 r2 r3):=fun h1 h2 h3=>((((Bq.dt y1 y2 y3 h1 h2 h3 (n:=32) (by omega)).sub qd).neg).div qn).mono (by omega)
 obtain ⟨W,hW⟩:∃ W,W=cW x1 x2 x3 d p1 p2 p3:=⟨_,rfl⟩
 obtain ⟨V,hV⟩:∃ V,V=cW x1 x2 x3 d o1 o2 o3:=⟨_,rfl⟩
 have qW:Bq 65 W:=hW▸way a1 a2 a3
 have qV:Bq 65 V:=hV▸way c1 c2 c3
 have eW:W*dt x1 x2 x3 x1 x2 x3 = -(dt x1 x2 x3 p1 p2 p3-d):=by rw [hW];grind
 have eV:V*dt x1 x2 x3 x1 x2 x3 = -(dt x1 x2 x3 o1 o2 o3-d):=by rw [hV];grind
 obtain ⟨f1,hf1⟩:∃ f,f=p1+W*x1:=⟨_,rfl⟩
 obtain ⟨f2,hf2⟩:∃ f,f=p2+W*x2:=⟨_,rfl⟩
 obtain ⟨f3,hf3⟩:∃ f,f=p3+W*x3:=⟨_,rfl⟩
 obtain ⟨g1,hg1⟩:∃ f,f=p1+((2:Int):Rat)*(W*x1):=⟨_,rfl⟩
 obtain ⟨g2,hg2⟩:∃ f,f=p2+((2:Int):Rat)*(W*x2):=⟨_,rfl⟩
 obtain ⟨g3,hg3⟩:∃ f,f=p3+((2:Int):Rat)*(W*x3):=⟨_,rfl⟩
 obtain ⟨q1,hq1⟩:∃ f,f=o1+V*x1:=⟨_,rfl⟩
 obtain ⟨q2,hq2⟩:∃ f,f=o2+V*x2:=⟨_,rfl⟩
 obtain ⟨q3,hq3⟩:∃ f,f=o3+V*x3:=⟨_,rfl⟩
 have t2:Bq 1 (((2:Int):Rat)):=aBc (by decide) (by omega)
 have b1:Bq 77 f1:=hf1▸((a1.add (qW.mul y1)).mono (by omega))
 have b2:Bq 77 f2:=hf2▸((a2.add (qW.mul y2)).mono (by omega))
 have b3:Bq 77 f3:=hf3▸((a3.add (qW.mul y3)).mono (by omega))
 have e1:Bq 77 g1:=hg1▸((a1.add (t2.mul (qW.mul y1))).mono (by omega))
 have e2:Bq 77 g2:=hg2▸((a2.add (t2.mul (qW.mul y2))).mono (by omega))
 have e3:Bq 77 g3:=hg3▸((a3.add (t2.mul (qW.mul y3))).mono (by omega))
 have k1:Bq 77 q1:=hq1▸((c1.add (qV.mul y1)).mono (by omega))
 have k2:Bq 77 q2:=hq2▸((c2.add (qV.mul y2)).mono (by omega))
 have k3:Bq 77 q3:=hq3▸((c3.add (qV.mul y3)).mono (by omega))
 have wf:kK f1 f2 f3:=⟨b1.wr (by omega),b2.wr (by omega),b3.wr (by omega)⟩
 have wg:kK g1 g2 g3:=⟨e1.wr (by omega),e2.wr (by omega),e3.wr (by omega)⟩
 have wq:kK q1 q2 q3:=⟨k1.wr (by omega),k2.wr (by omega),k3.wr (by omega)⟩
 have s2:((2:Int):Rat)=2:=rfl
 have eG:cW x1 x2 x3 d g1 g2 g3 = -W:=by
  have:dt x1 x2 x3 g1 g2 g3-d=W*dt x1 x2 x3 x1 x2 x3:=by rw [hg1,hg2,hg3,s2];grind
  unfold cW
  rw [this]
  grind
 obtain ⟨D,hD⟩:∃ D,D=dt (W*x1) (W*x2) (W*x3) (W*x1) (W*x2) (W*x3):=⟨_,rfl⟩
 have qD:Bq 500 D:=hD▸Bq.dt (qW.mul y1) (qW.mul y2) (qW.mul y3) (qW.mul y1) (qW.mul y2) (qW.mul y3) (by omega)
 have cF:=nY (z1:=z1) (z2:=z2) (z3:=z3) hv wp (by rw [hx1,hx2,hx3];exact n0) (by rw [hx1,hx2,hx3,← hW];exact hf1.symm) (by rw [hx1,hx2,hx3,← hW];exact hf2.symm) (by rw [hx1,hx2,hx3,← hW];exact hf3.symm) wf
 have cD:=aAu (z1:=z1) (z2:=z2) (z3:=z3) hv wp (by rw [hx1,hx2,hx3];exact n0) (by rw [hx1,hx2,hx3,← hW];exact hD.symm) (qD.wr (by omega))
 have cM:=pR (z1:=z1) (z2:=z2) (z3:=z3) hv wp (by rw [hx1,hx2,hx3];exact n0) (by rw [hx1,hx2,hx3,← hW];exact hg1.symm) (by rw [hx1,hx2,hx3,← hW];exact hg2.symm) (by rw [hx1,hx2,hx3,← hW];exact hg3.symm) wg
 have cB:=pR (z1:=z1) (z2:=z2) (z3:=z3) (m1:=p1) (m2:=p2) (m3:=p3) hv wg (by rw [hx1,hx2,hx3];exact n0) (by rw [hx1,hx2,hx3,eG,hg1];grind) (by rw [hx1,hx2,hx3,eG,hg2];grind) (by rw [hx1,hx2,hx3,eG,hg3];grind) wp
 have cS:=nY (z1:=z1) (z2:=z2) (z3:=z3) (m1:=f1) (m2:=f2) (m3:=f3) hv wg (by rw [hx1,hx2,hx3];exact n0) (by rw [hx1,hx2,hx3,eG,hg1,hf1,s2];grind) (by rw [hx1,hx2,hx3,eG,hg2,hf2,s2];grind) (by rw [hx1,hx2,hx3,eG,hg3,hf3,s2];grind) wf
 have eX:(dt x1 x2 x3 p1 p2 p3-d)/dt x1 x2 x3 x1 x2 x3 = -W:=by rw [hW];unfold cW;grind
 have cX:=apiMeetF (z1:=z1) (z2:=z2) (z3:=z3) (m1:=f1) (m2:=f2) (m3:=f3) hv wp (v1:=x1) (v2:=x2) (v3:=x3) wz (by rw [hx1,hx2,hx3];exact n0) (by rw [hx1,hx2,hx3,eX,hf1];grind) (by rw [hx1,hx2,hx3,eX,hf2];grind) (by rw [hx1,hx2,hx3,eX,hf3];grind) wf
 have cQ:=nY (z1:=z1) (z2:=z2) (z3:=z3) hv wo (by rw [hx1,hx2,hx3];exact n0) (by rw [hx1,hx2,hx3,← hV];exact hq1.symm) (by rw [hx1,hx2,hx3,← hV];exact hq2.symm) (by rw [hx1,hx2,hx3,← hV];exact hq3.symm) wq
 have zF:dt x1 x2 x3 f1 f2 f3-d=0:=by rw [hf1,hf2,hf3];grind
 have zG:dt x1 x2 x3 g1 g2 g3-d = -(dt x1 x2 x3 p1 p2 p3-d):=by rw [hg1,hg2,hg3,s2];grind
 have zQ:dt x1 x2 x3 q1 q2 q3-d=0:=by rw [hq1,hq2,hq3];grind
 have sF:=rD (z1:=z1) (z2:=z2) (z3:=z3) (s:=0) hv wf (by rw [hx1,hx2,hx3,zF];rfl)
 have sP:=lit_isS (rD (z1:=z1) (z2:=z2) (z3:=z3) hv wp (s:=sR (dt x1 x2 x3 p1 p2 p3-d)) (by rw [hx1,hx2,hx3]))
 have sM:=lit_isS (rD (z1:=z1) (z2:=z2) (z3:=z3) hv wg (s := -sR (dt x1 x2 x3 p1 p2 p3-d)) (by rw [hx1,hx2,hx3,zG,sgnR_neg]))
 have kF:=tG (yA b1 (by omega)) (yA b2 (by omega)) (yA b3 (by omega))
 have kM:=tG (yA e1 (by omega)) (yA e2 (by omega)) (yA e3 (by omega))
 have kQ:=tG (yA k1 (by omega)) (yA k2 (by omega)) (yA k3 (by omega))
 have vA:=subV k1 k2 k3 a1 a2 a3 (by omega) (by omega)
 have wA:=aBb (k1.sub a1) (k2.sub a2) (k3.sub a3) (by omega)
 have vB:=subV b1 b2 b3 a1 a2 a3 (by omega) (by omega)
 have wB:=aBb (b1.sub a1) (b2.sub a2) (b3.sub a3) (by omega)
 have vC:=subV k1 k2 k3 b1 b2 b3 (by omega) (by omega)
 have wC:=aBb (k1.sub b1) (k2.sub b2) (k3.sub b3) (by omega)
 have eB:dt (f1-p1) (f2-p2) (f3-p3) (f1-p1) (f2-p2) (f3-p3)=D:=by rw [hD,hf1,hf2,hf3];grind
 rw [eB] at wB
 have qE:Bq 1000 (dt (q1-f1) (q2-f2) (q3-f3) (q1-f1) (q2-f2) (q3-f3)):=Bq.dt (k1.sub b1) (k2.sub b2) (k3.sub b3) (k1.sub b1) (k2.sub b2) (k3.sub b3) (by omega)
 have wD:=aAx (uW (qD.zs (by omega)) (qE.zs (by omega)))
 have eA:D+dt (q1-f1) (q2-f2) (q3-f3) (q1-f1) (q2-f2) (q3-f3)=dt (q1-p1) (q2-p2) (q3-p3) (q1-p1) (q2-p2) (q3-p3):=by
  have h1:x1*(q1-f1)+x2*(q2-f2)+x3*(q3-f3)=0:=by grind
  have h2:∀ {q f p w x:Rat},f=p+w*x→q-p=(q-f)+w*x:=fun h=>by grind
  rw [hD,h2 (q:=q1) hf1,h2 (q:=q2) hf2,h2 (q:=q3) hf3]
  exact sq_ext h1
 rw [eA] at wD
 subst hx1 hx2 hx3
 exact near_walk kH kp ko cF cD cM cB cS cN cX cQ kF kM kQ (yA qD (by omega)) sF sP sM vA wA vB wB vC wC wD (by omega) ⟨by have:=aBd (dt (z1:Rat) z2 z3 p1 p2 p3-d);omega,by have:=aBd (dt (z1:Rat) z2 z3 p1 p2 p3-d);omega⟩ ⟨by have:=aBd (dt (z1:Rat) z2 z3 p1 p2 p3-d);omega,by have:=aBd (dt (z1:Rat) z2 z3 p1 p2 p3-d);omega⟩
end
theorem few6y (s:ByteArray) (h:Fy 6 s):jF 30 [tx s,it 6] (bl true):=by
 obtain ⟨q,rfl,h⟩:=h
 exact kn_F (few6Yes h)
theorem few6n (s:ByteArray) (h:¬ Fy 6 s):jF 30 [tx s,it 6] (bl false):=kn_F (few6No h)
theorem fewHalf_or {z1 z2 z3:Int} {s:ByteArray} (hs:s.size≤9223372036854775807) :
 (¬ (z1=0∧z2=0∧z3=0)∧In 1000 z1∧In 1000 z2∧In 1000 z3∧Int.gcd (Int.gcd z1 z2:Int) z3=1∧Fy 6 s∧jF 5 [hL z1 z2 z3 s,it 1000,it 6] (bl true))∨jF 5 [hL z1 z2 z3 s,it 1000,it 6] (bl false):=by
 have hk:=checkHalfF (a:=z1) (b:=z2) (c:=z3) (kn_I (oL hs)) rfl
 by_cases hf:Fy 6 s
 ·have hF := fewHalfF hk (few6y s hf) rfl
  by_cases h:hkZ z1 z2 z3 (eY s)=0∧In 1000 z1∧In 1000 z2∧In 1000 z3
  ·left
   obtain ⟨h0,h1,h2,h3⟩:=h
   have e0:=h0
   unfold hkZ at h0
   split at h0
   ·cases h0
   ·rename_i hz
    split at h0
    ·cases h0
    ·split at h0
     ·cases h0
     ·rename_i hg
      refine ⟨hz,h1,h2,h3,Classical.not_not.1 hg,hf,?_⟩
      simpa [e0,h1,h2,h3] using hF
  ·right
   have e:(decide (hkZ z1 z2 z3 (eY s)=0)&&true&&decide (In 1000 z1)&&decide (In 1000 z2)&&decide (In 1000 z3))=false:=by
    rw [Bool.eq_false_iff]
    intro hh
    simp only [Bool.and_eq_true,decide_eq_true_eq,and_true] at hh
    exact h ⟨hh.1.1.1,hh.1.1.2,hh.1.2,hh.2⟩
   rw [e] at hF
   exact hF
 ·exact .inr (fewHalfF hk (few6n s hf) (by simp))
theorem nearestF (z1 z2 z3:Int) (s p1 p2 p3 o1 o2 o3:ByteArray) (hs:s.size≤9223372036854775807):jX 3 [hL z1 z2 z3 s,t3 p1 p2 p3,t3 o1 o2 o3] (bl true):=by
 rcases fewHalf_or (z1:=z1) (z2:=z2) (z3:=z3) hs with ⟨h0,i1,i2,i3,hg,⟨d,rfl,fd⟩,h1⟩|h1
 ·rcases zK (a:=p1) (b:=p2) (c:=p3) few6y few6n with ⟨⟨a,rfl,fa⟩,⟨b,rfl,fb⟩,⟨c,rfl,fc⟩,h2⟩|h2
  ·rcases zK (a:=o1) (b:=o2) (c:=o3) few6y few6n with ⟨⟨x,rfl,fx⟩,⟨y,rfl,fy⟩,⟨z,rfl,fz⟩,h3⟩|h3
   ·exact nearR h0 i1 i2 i3 hg fd fa fb fc fx fy fz h1 h2 h3
   ·exact near_f3 h1 h2 h3
  ·exact near_f2 h1 h2
 ·exact near_f1 h1
end Ab
namespace Ab
open Go.ChangeShapes Go.WideShapes Go.ChangeAt Go.RowKit
theorem gPow:Tryz.prog.globalNamed "internal/strconv.uint64pow10" = some 5:=by kernel_rfl
theorem gl_of {W:World} {r:List (String×DataW Unit)} (h:laidMet Tryz.prog (("internal/strconv.uint64pow10",Lib.tabData .u64 Lib.pow10Tab)::r) W) (hs:W.ShapedOpen Tryz.prog):Gl W :=
 ⟨Lib.tabIs_of_head (t:=281) (e:=150) (n:=20) gPow (by kernel_rfl) (by kernel_rfl) (by kernel_rfl) (by kernel_rfl) (by kernel_rfl) h,
  Go.Proofs.cell_of_shapedOpen_int (zero := #[.int .i64 0]) (t:=3) hs (of_decide_eq_true (by kernel_rfl)) (by kernel_rfl) rfl (by kernel_rfl) (by kernel_rfl) (by kernel_rfl)⟩
theorem hold_t3 {β:List Nat} {a b c:ByteArray} {w:World}:(t3 a b c).holds β (.agg #[.string a,.string b,.string c]) w :=
 ⟨[.string a,.string b,.string c],rfl,[.string a],_,rfl,rfl,[.string b],_,rfl,rfl,[.string c],_,rfl,rfl,rfl⟩
end Ab
namespace Ab
open Go.ChangeShapes Go.WideShapes Go.RowKit
def iL (P:Program):Nat→TypeId→Nat→Option Bool
 | 0,_,_=>none
 | d+1,T,i=>match P.underlying T with
   | some (.int .i64)=>if i=0 then some false else none
   | some .string=>if i=0 then some true else none
   | some (.array n e)=>if 0<P.cellsOf e∧i/P.cellsOf e<n then iL P d e (i%P.cellsOf e) else none
   | some (.struct fs)=>(fs.toList.find? fun f=>decide (f.offset≤i∧i<f.offset+P.cellsOf f.type)).bind fun f=>iL P d f.type (i-f.offset)
   | _=>none
def isKind:Bool→Value→Prop
 | true,c => ∃ s:ByteArray,c = .string s∧s.size≤maxLen
 | false,c => ∃ n:Int,c = .int .i64 n∧(Lit.int .i64 n).wf=true
section
variable {H:Type} {enc:TypeId×Value→H} {P:Program} {w:World} {base:Nat} {spare:Nat→Bool} {held:Bool}
theorem piece {cs:List Value} {o n r:Nat} {c:Value} (h:((cs.drop o).take n)[r]?=some c):cs[o+r]?=some c:=by
 rw [List.getElem?_take] at h
 split at h
 ·rw [List.getElem?_drop] at h;exact h
 ·cases h
theorem trod_kind:∀ (d:Nat) {T:TypeId} {fuel i:Nat} {cs:List Value} {x:DataW H×List MemPlace} {k:Bool},DataW.trod enc P w base spare held fuel T cs=some x→iL P d T i=some k→∃ c,cs[i]?=some c∧isKind k c:=by
 intro d
 induction d with
 | zero=>intro T fuel i cs x k _ hk;cases hk
 | succ d ih =>
   intro T fuel i cs x k h hk
   unfold iL at hk
   split at hk
   ·rename_i hu
    split at hk <;> cases hk
    rename_i h0
    subst h0
    cases fuel with
    | zero=>cases h
    | succ m =>
      unfold DataW.trod at h
      rw [hu] at h
      split at h <;> simp_all
      obtain ⟨⟨_,hw⟩,_⟩:=h
      cases ‹IntKind.i64=_›
      exact ⟨_,rfl,hw⟩
   ·rename_i hu
    split at hk <;> cases hk
    rename_i h0
    subst h0
    cases fuel with
    | zero=>cases h
    | succ m =>
      unfold DataW.trod at h
      rw [hu] at h
      split at h <;> simp_all
      exact ⟨_,rfl,h.1⟩
   ·rename_i n e hu
    split at hk
    ·rename_i hi
     obtain ⟨xs,m,_,_,_,hlen,hat⟩:=DataW.trod_array hu h
     have hq:=hat (i/P.cellsOf e) hi.2
     rw [List.getElem?_eq_getElem (by omega)] at hq
     obtain ⟨c,hc,hk'⟩:=ih hq hk
     refine ⟨c,?_,hk'⟩
     have:=piece hc
     rw [Nat.mul_comm,Nat.div_add_mod] at this
     exact this
    ·cases hk
   ·rename_i fs hu
    rw [Option.bind_eq_some_iff] at hk
    obtain ⟨f,hf,hk⟩:=hk
    have hp:=List.find?_some hf
    simp only [decide_eq_true_eq] at hp
    obtain ⟨j,hj,hje⟩:=List.getElem_of_mem (List.mem_of_find?_eq_some hf)
    obtain ⟨xs,n,_,_,_,hlen,hat⟩:=DataW.trod_struct hu h
    have hq:=hat j f (by rw [← hje];simp)
    rw [List.getElem?_eq_getElem (by simp at hj;omega)] at hq
    obtain ⟨c,hc,hk'⟩:=ih hq hk
    refine ⟨c,?_,hk'⟩
    have:=piece hc
    rw [show f.offset+(i-f.offset)=i by omega] at this
    exact this
   ·cases hk
def qA (P:Program):Nat→TypeId→Bool
 | 0,_=>false
 | d+1,T=>match P.underlying T with
   | some (.int _)|some .string=>true
   | some (.array _ e)=>qA P d e
   | some (.struct fs)=>fs.toList.all fun f=>qA P d f.type
   | _=>false
theorem tJ {α β:Type} {f g:α→Option (β×List MemPlace)}:∀ {l:List α} {xs:List (β×List MemPlace)},l.mapM f=some xs→(∀ a∈l,∀ x,f a=some x→g a=some x∧x.2 = [])→l.mapM g=some xs∧xs.flatMap (·.2) = []
 | [],xs,h,_=>by simp at h;subst h;exact ⟨rfl,rfl⟩
 | a::l,xs,h,hs=>by
   rw [List.mapM_cons] at h
   simp only [bind,Option.bind_eq_some_iff,pure,Option.some.injEq] at h
   obtain ⟨y,hy,ys,hys,rfl⟩:=h
   obtain ⟨g1,g2⟩:=hs a (by simp) y hy
   obtain ⟨i1,i2⟩:=tJ hys fun b hb=>hs b (by simp [hb])
   exact ⟨by rw [List.mapM_cons,g1,i1];rfl,by simp [g2,i2]⟩
def SameRead (enc:TypeId×Value→H) (P:Program) (w:World) (base:Nat) (spare:Nat→Bool) (held:Bool) (w' : World) (base' : Nat) (spare' : Nat→Bool) (d:Nat):Prop :=
 ∀ (T:TypeId) (fuel:Nat) (cs:List Value) (x:DataW H×List MemPlace),qA P d T=true→DataW.trod enc P w base spare held fuel T cs=some x→DataW.trod enc P w' base' spare' held fuel T cs=some x∧x.2 = []
theorem trod_plain {w' : World} {base' : Nat} {spare' : Nat→Bool}:∀ d:Nat,SameRead enc P w base spare held w' base' spare' d:=by
 intro d
 induction d with
 | zero=>intro T fuel cs x hp;cases hp
 | succ d ih =>
   intro T fuel cs x hp h
   cases fuel with
   | zero=>cases h
   | succ m =>
     unfold qA at hp
     unfold DataW.trod at h ⊢
     split at hp
     ·rename_i hu
      rw [hu] at h ⊢
      split at h <;> simp_all <;> (obtain ⟨_,h⟩:=h;rw [← h])
     ·rename_i hu
      rw [hu] at h ⊢
      split at h <;> simp_all <;> (obtain ⟨_,h⟩:=h;rw [← h])
     ·rename_i hu
      rw [hu] at h ⊢
      split at h <;> simp_all
      obtain ⟨hl,xs,hxs,rfl⟩:=h
      obtain ⟨g1,g2⟩:=tJ hxs fun a _ x hx=>ih _ _ _ _ hp hx
      exact ⟨⟨xs,g1,rfl⟩,g2⟩
     ·rename_i hu
      rw [hu] at h ⊢
      split at h <;> simp_all
      obtain ⟨hl,xs,hxs,rfl⟩:=h
      obtain ⟨g1,g2⟩:=tJ hxs fun a ha x hx=>ih _ _ _ _ (by obtain ⟨j,hj,rfl⟩:=List.getElem_of_mem ha;simpa using hp j (by simpa using hj)) hx
      exact ⟨⟨xs,g1,rfl⟩,g2⟩
     ·cases hp
theorem qB {w' : World} {base' : Nat} {spare' : Nat→Bool} {T:TypeId} {v:Value} {D:DataW H} {p:List MemPlace} (hp:qA P 10 T=true) (h:DataW.Trod enc P w base spare held T v D p):p = []∧DataW.Trod enc P w' base' spare' held T v D []:=by
 obtain ⟨fuel,hf⟩:=h
 obtain ⟨h1,h2⟩:=trod_plain (w':=w') (base':=base') (spare':=spare') 10 _ _ _ _ hp hf
 simp only at h2
 subst h2
 exact ⟨rfl,fuel,h1⟩
theorem agg_of {r:Reach} {b0 n:Nat} {T:TypeId} {v:Value} (hu:(match P.underlying T with|some (.struct _)|some (.array _ _)=>true|_=>false)=true) (hC:P.cellsOf T=n) (hv:Value.okWide P w r b0 T v):∃ cs:Array Value,v = .agg cs∧cs.size=n:=by
 split at hu
 ·rename_i hs
  simp only [Value.okWide,hs] at hv
  obtain ⟨cs,h1,h2,_⟩:=hv
  exact ⟨cs,h1,h2.trans hC⟩
 ·rename_i hs
  simp only [Value.okWide,hs] at hv
  obtain ⟨cs,h1,h2,_⟩:=hv
  exact ⟨cs,h1,h2.trans hC⟩
 ·cases hu
theorem mT {T:TypeId} {cs:Array Value} {D:DataW H} {p:List MemPlace} {k:Bool} (i:Nat) (h:DataW.Trod enc P w base spare held T (.agg cs) D p) (hk:iL P 10 T i=some k):∃ c,cs[i]?=some c∧isKind k c:=by
 obtain ⟨fuel,hf⟩:=h
 obtain ⟨c,h1,h2⟩:=trod_kind 10 hf hk
 exact ⟨c,by simpa [Value.cells] using h1,h2⟩
theorem open_vec {r:Reach} {b0:Nat} {T:TypeId} {v:Value} {D:DataW H} {p:List MemPlace} (hu:(match P.underlying T with|some (.struct _)|some (.array _ _)=>true|_=>false)=true) (hC:P.cellsOf T=3)
 (hk:(iL P 10 T 0,iL P 10 T 1,iL P 10 T 2)=(some true,some true,some true)) (hv:Value.okWide P w r b0 T v) (h:DataW.Trod enc P w base spare held T v D p):∃ a b c:ByteArray,v = .agg #[.string a,.string b,.string c]∧a.size≤maxLen∧b.size≤maxLen∧c.size≤maxLen:=by
 simp only [Prod.mk.injEq] at hk
 obtain ⟨cs,rfl,hs⟩:=agg_of hu hC hv
 obtain ⟨c0,c1,c2,rfl⟩:∃ c0 c1 c2,cs = #[c0,c1,c2]:=by
  obtain ⟨l⟩:=cs
  match l,hs with
  | [c0,c1,c2],_=>exact ⟨c0,c1,c2,rfl⟩
 obtain ⟨_,e0,a,rfl,ha⟩:=mT 0 h hk.1
 obtain ⟨_,e1,b,rfl,hb⟩:=mT 1 h hk.2.1
 obtain ⟨_,e2,c,rfl,hc⟩:=mT 2 h hk.2.2
 simp at e0 e1 e2
 subst e0 e1 e2
 exact ⟨a,b,c,rfl,ha,hb,hc⟩
theorem open_half {r:Reach} {b0:Nat} {T:TypeId} {v:Value} {D:DataW H} {p:List MemPlace} (hu:(match P.underlying T with|some (.struct _)|some (.array _ _)=>true|_=>false)=true) (hC:P.cellsOf T=4)
 (hk:(iL P 10 T 0,iL P 10 T 1,iL P 10 T 2,iL P 10 T 3)=(some false,some false,some false,some true)) (hv:Value.okWide P w r b0 T v) (h:DataW.Trod enc P w base spare held T v D p):∃ (a b c:Int) (s:ByteArray),v = .agg #[.int .i64 a,.int .i64 b,.int .i64 c,.string s]∧s.size≤maxLen:=by
 simp only [Prod.mk.injEq] at hk
 obtain ⟨cs,rfl,hs⟩:=agg_of hu hC hv
 obtain ⟨c0,c1,c2,c3,rfl⟩:∃ c0 c1 c2 c3,cs = #[c0,c1,c2,c3]:=by
  obtain ⟨l⟩:=cs
  match l,hs with
  | [c0,c1,c2,c3],_=>exact ⟨c0,c1,c2,c3,rfl⟩
 obtain ⟨_,e0,a,rfl,ha⟩:=mT 0 h hk.1
 obtain ⟨_,e1,b,rfl,hb⟩:=mT 1 h hk.2.1
 obtain ⟨_,e2,c,rfl,hc⟩:=mT 2 h hk.2.2.1
 obtain ⟨_,e3,d,rfl,hd⟩:=mT 3 h hk.2.2.2
 simp at e0 e1 e2 e3
 subst e0 e1 e2 e3
 exact ⟨a,b,c,d,rfl,hd⟩
end
end Ab
end Go.Proofs.YtlikeahoonjdaaaGreatDoor
