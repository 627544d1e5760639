/- Parts of the proof, joined. -/
import Derived.Test.YthjfnlomfihnaaaGreatDoorJ7
import Derived.Laws.Tables
import Derived.Laws.CopyOwn
import Derived.KernelRfl
import Derived.Test.YthjfnlomfihnaaaGreatDoorJ1
import Derived.Laws.StructEq
import Derived.Test.YthjfnlomfihnaaaGreatDoorJ5
import Derived.WalkKit
import Derived.ProofKit
import Derived.OpenShut
import Derived.Deep.DeepHandedRow
import Derived.Deep.DeepWitnessRowRef
import Derived.Lib.LaidTab
import Derived.Stop.LaidErr
import Derived.Shelf.Vars
import Derived.Lay
set_option maxHeartbeats 4000000
set_option linter.unusedSimpArgs false
set_option linter.unusedVariables false
set_option linter.constructorNameAsVariable false
namespace Go.Proofs.YthjfnlomfihnaaaGreatDoor
namespace Fr
open Go.RowKit Go.Shelf Ab Pl
attribute [local go_sem] Oper.semAt_some
theorem zO {P:Program} {ops:Array Oper} {rest:List Oper} {o:Oper} {a:Act} {w:World} {Q:Exit→Act→World→Prop} (hg:o.guard=none) (t:TypeId) (parts:Array (Nat×Operand)) (ho:o.op = .build t parts) (cs:Array Value)
 (hb:P.built t (parts.map fun (i,x)=>(i,a.eval x)).toList=some cs) (h:wpList P ops Q rest (a.put o.dst (.agg cs)) w):wpList P ops Q (o::rest) a w :=
 wpList_build hg t parts ho (by rw [hb];rfl) (by rw [hb];exact h)
theorem store_new3 {P:Program} {ops:Array Oper} {rest:List Oper} {o:Oper} {a:Act} {Q:Exit→Act→World→Prop} (hgd:o.guard=none) (ty:TypeId) (x y:Operand) (ho:o.op = .store ty x y) (w1:World) (A B:Obj) (old cells:Array Value)
 (hx:a.eval x = .pointer (some ⟨w1.heap.size+1+1,0,none⟩)) (hy:a.eval y = .agg cells) (hi:(P.info? ty).map (·.size)=some cells.size) (hold:old.size=cells.size) (h1:cells.all (·.oneCell')=true)
 (h:∀ W3:World,W3.heap.size=w1.heap.size+3→Below w1.heap.size w1 W3→W3.heap[w1.heap.size]?=some A→W3.heap[w1.heap.size+1]?=some B→W3.heap[w1.heap.size+2]?=some (.cells cells ty (0,0))→wpList P ops Q rest (a.put o.dst undef) W3) :
 wpList P ops Q (o::rest) a (((w1.alloc A).alloc B).alloc (.cells old ty (0,0))):=by
 have hg:(((w1.alloc A).alloc B).alloc (.cells old ty (0,0))).heap[w1.heap.size+1+1]?=some (.cells old ty (0,0)):=by
  have:=World.alloc_heap_new ((w1.alloc A).alloc B) (.cells old ty (0,0))
  rwa [World.size_alloc,World.size_alloc] at this
 refine wpList_store_row hgd ty x y ho (w1.heap.size+1+1) cells hx hy ty old hg hi hold h1 (h _ (by rw [setRow_size];simp) ?_ ?_ ?_ (setRow_heap _ _ _ _ _ _ hg))
 ·exact below_setRow ((((aB _ w1).alloc (aR _) _).alloc (by simp) _).alloc (by simp;omega) _) (by omega) _
 ·rw [setRow_other _ _ _ _ (by omega)]
  exact (Below.heap_alloc _ _ _ (by simp;omega)).trans ((Below.heap_alloc _ _ _ (by simp)).trans (World.alloc_heap_new w1 A))
 ·rw [setRow_other _ _ _ _ (by omega)]
  refine (Below.heap_alloc _ _ _ (by simp)).trans ?_
  have:=World.alloc_heap_new (w1.alloc A) B
  rwa [World.size_alloc] at this
structure Stopped (p:Prop):Prop where
 out:p
theorem stop_store {P:Program} {ops:Array Oper} {rest:List Oper} {o:Oper} {a:Act} {w:World} {Q:Exit→Act→World→Prop} (ty:TypeId) (x y:Operand) (ho:o.op = .store ty x y) (h:Stopped (wpList P ops Q (o::rest) a w)):wpList P ops Q (o::rest) a w:=h.out
theorem vA {W W' : World} {row:Option Nat} (hg:W.grownBy W' row) (hrow:∀ r,row=some r→∃ o:Obj,W.heap[r]?=some o∧o.isCells=false):Go.Proofs.YthjfnlomfihnaaaGreatDoor.Ext Kn W W':=by
 refine ⟨hg.size,fun g o h ho=>?_⟩
 have hc:o.isCells=true:=by cases o <;> first|rfl|(simp [Go.Proofs.YthjfnlomfihnaaaGreatDoor.hotObj] at ho)
 exact (grownBy_keeps_cells hg hrow h hc).trans h
theorem Vc.kext {w w' : World} {v:Value} {a b c:Rat} (h:Vc w v a b c) (hx:Go.Proofs.YthjfnlomfihnaaaGreatDoor.Ext Kn w w'):Vc w' v a b c:=h.ext (fun _=>rfl) (fun _=>rfl) hx
theorem load_all {P:Program} {ρ:Operand→Value} {o:Oper} {w:World} {T T' : TypeId} {x:Operand} {g:Nat} {cs:List Value} {d:TypeDesc} (ho:o.op = .load T x) (hx:ρ x = .pointer (some ⟨g,0,none⟩)) (hg:w.heap[g]?=some (.cells cs.toArray T' (0,0)))
 (hd:P.underlying T=some d) (hr:d.isRow=true) (hi:(P.info? T).map (·.size)=some cs.length):(execOp ρ o).run P w = .ok (.value (.agg cs.toArray)) w:=by
 have h:=run_loadVar_mid w g 0 T ((cs.drop 0).take cs.length) d (sG hg 0 cs.length) hd hr (by rw [hi,List.drop_zero,List.take_length])
 rw [List.drop_zero,List.take_length] at h
 simp only [execOp,ho,Instr.loadAt,hx,Instr.sureAddr]
 exact bQ (by simpa [Sem.run_bind] using h)
theorem frL_one (o x y z:C9):∀ c∈fW o x y z,c.oneCell'=true:=by
 have h:(fW o x y z).all (·.oneCell')=true:=rfl
 exact fun c hc=>List.all_eq_true.1 h c hc
theorem fin3:∀ x:Fin 3,x=0∨x=1∨x=2:=by decide
theorem tO {w:World} {b i:Nat} {v:Value} (hlt:b<w.heap.size) (h:w.cell? ⟨b,i,none⟩=some v) (o:Obj):(w.alloc o).cell? ⟨b,i,none⟩=some v :=
 (((aB _ w).alloc (aR _) o).cell (p:=⟨b,i,none⟩) hlt).trans h
theorem gT {w:World} {b i:Nat} {cs:Array Value} {t:TypeId} (hlt:b<w.heap.size) (h:w.heap[b]?=some (.cells cs t (0,0))) (o:Obj):(w.alloc o).frozen? ⟨b,i,none⟩=false :=
 aZ ((((aB _ w).alloc (aR _) o).block b hlt).trans h) i
theorem tP {n g:Nat} {o:Obj} {A X Y:World} (hb:Below n A X) (h:Turned g o X Y) (hn:n≤g):Below n A Y :=
 ⟨h.os.trans hb.os,h.tape.trans hb.tape,h.output.trans hb.output,by rw [h.size];exact hb.size,fun k hk=>(h.block k (by omega)).trans (hb.block k hk)⟩
theorem tQ {g S:Nat} {o o0:Obj} {X Y:World} (h:Turned g o X Y) (h0:X.heap[g]?=some o0) (hc:o0.isCells=true):KeepsFrom S X Y:=by
 refine ⟨by rw [h.size];exact aR _,fun k o' _ hk ho=>?_⟩
 have:k≠g:=by
  rintro rfl
  rw [h0] at hk
  injection hk with hk
  rw [hk,ho] at hc
  cases hc
 exact (h.block k this).trans hk
theorem fX {S:Nat} {W W' : World} (h:Below W.heap.size W W'):KeepsFrom S W W':=⟨h.size,fun k o _ hk _=>(h.block k (Array.getElem?_eq_some_iff.1 hk).1).trans hk⟩
section
variable {w:World} {k:C9} {B E R:Nat} {o1 o2 o3 x1 x2 x3 y1 y2 y3 z1 z2 z3:Rat}
theorem nA (o x y z:C9) (T:TypeId):Go.Proofs.YthjfnlomfihnaaaGreatDoor.hotObj Kn (.cells (fW o x y z).toArray T (0,0))=false:=by simp [Go.Proofs.YthjfnlomfihnaaaGreatDoor.hotObj,fW,C9.cells,Kn]
theorem turn9 {w:World} {B:Nat} {T:TypeId} {cs cs' : Array Value} (off:Nat) (h:w.heap[B]?=some (.cells cs T (0,0))) (u0 u1 u2 u3 u4 u5 u6 u7 u8:Value)
 (e:((((((((cs.setIfInBounds off u0).setIfInBounds (off+1) u1).setIfInBounds (off+2) u2).setIfInBounds (off+3) u3).setIfInBounds (off+4) u4).setIfInBounds (off+5) u5).setIfInBounds (off+6) u6).setIfInBounds (off+7) u7).setIfInBounds (off+8) u8=cs') :
 Turned B (.cells cs' T (0,0)) w (((((((((w.setCell ⟨B,off,none⟩ u0).setCell ⟨B,off+1,none⟩ u1).setCell ⟨B,off+2,none⟩ u2).setCell ⟨B,off+3,none⟩ u3).setCell ⟨B,off+4,none⟩ u4).setCell ⟨B,off+5,none⟩ u5).setCell ⟨B,off+6,none⟩ u6).setCell ⟨B,off+7,none⟩ u7).setCell ⟨B,off+8,none⟩ u8):=by
 subst e
 have t0:=cV (i:=off) h u0
 have t1:=t0.trans (cV (i:=off+1) t0.at_ u1)
 have t2:=t1.trans (cV (i:=off+2) t1.at_ u2)
 have t3:=t2.trans (cV (i:=off+3) t2.at_ u3)
 have t4:=t3.trans (cV (i:=off+4) t3.at_ u4)
 have t5:=t4.trans (cV (i:=off+5) t4.at_ u5)
 have t6:=t5.trans (cV (i:=off+6) t5.at_ u6)
 have t7:=t6.trans (cV (i:=off+7) t6.at_ u7)
 exact t7.trans (cV (i:=off+8) t7.at_ u8)
end
end Fr
namespace Fr
open Go.RowKit Go.Shelf Ab Pl
attribute [local go_sem] Oper.semAt_some
def m9 (m:C9):Obj := .cells #[.int .i64 m.n1,.int .i64 m.d1,.pointer m.p1,.int .i64 m.n2,.int .i64 m.d2,.pointer m.p2,.int .i64 m.n3,.int .i64 m.d3,.pointer m.p3] 79 (0,0)
def st9 (X:World) (B a b c d e f g h i:Nat) (m:C9):World:=((((((((X.setCell ⟨B,a,none⟩ (.int .i64 m.n1)).setCell ⟨B,b,none⟩ (.int .i64 m.d1)).setCell ⟨B,c,none⟩ (.pointer m.p1)).setCell ⟨B,d,none⟩ (.int .i64 m.n2)).setCell ⟨B,e,none⟩ (.int .i64 m.d2)).setCell ⟨B,f,none⟩ (.pointer m.p2)).setCell ⟨B,g,none⟩ (.int .i64 m.n3)).setCell ⟨B,h,none⟩ (.int .i64 m.d3)).setCell ⟨B,i,none⟩ (.pointer m.p3)
abbrev N9 (cs:Array Value) (t:C9) (a b c d e f g h i:Nat):Prop:=cs[a]?=some (.int .i64 t.n1)∧cs[b]?=some (.int .i64 t.d1)∧cs[c]?=some (.pointer t.p1)∧cs[d]?=some (.int .i64 t.n2)∧cs[e]?=some (.int .i64 t.d2)∧cs[f]?=some (.pointer t.p2)∧cs[g]?=some (.int .i64 t.n3)∧cs[h]?=some (.int .i64 t.d3)∧cs[i]?=some (.pointer t.p3)
theorem up9 {w:World} {B a b c d e f g h i:Nat} {cs:Array Value} {T:TypeId} (t:C9) (hlt:B<w.heap.size) (hb:w.heap[B]?=some (.cells cs T (0,0))) (hc:N9 cs t a b c d e f g h i):(∀ o,(w.alloc o).cell? ⟨B,a,none⟩=some (.int .i64 t.n1))∧(∀ o,(w.alloc o).frozen? ⟨B,a,none⟩=false)∧(∀ o,(w.alloc o).cell? ⟨B,b,none⟩=some (.int .i64 t.d1))∧(∀ o,(w.alloc o).frozen? ⟨B,b,none⟩=false)∧(∀ o,(w.alloc o).cell? ⟨B,c,none⟩=some (.pointer t.p1))∧(∀ o,(w.alloc o).frozen? ⟨B,c,none⟩=false)∧(∀ o,(w.alloc o).cell? ⟨B,d,none⟩=some (.int .i64 t.n2))∧(∀ o,(w.alloc o).frozen? ⟨B,d,none⟩=false)∧(∀ o,(w.alloc o).cell? ⟨B,e,none⟩=some (.int .i64 t.d2))∧(∀ o,(w.alloc o).frozen? ⟨B,e,none⟩=false)∧(∀ o,(w.alloc o).cell? ⟨B,f,none⟩=some (.pointer t.p2))∧(∀ o,(w.alloc o).frozen? ⟨B,f,none⟩=false)∧(∀ o,(w.alloc o).cell? ⟨B,g,none⟩=some (.int .i64 t.n3))∧(∀ o,(w.alloc o).frozen? ⟨B,g,none⟩=false)∧(∀ o,(w.alloc o).cell? ⟨B,h,none⟩=some (.int .i64 t.d3))∧(∀ o,(w.alloc o).frozen? ⟨B,h,none⟩=false)∧(∀ o,(w.alloc o).cell? ⟨B,i,none⟩=some (.pointer t.p3))∧(∀ o,(w.alloc o).frozen? ⟨B,i,none⟩=false):=by
 obtain ⟨c0,c1,c2,c3,c4,c5,c6,c7,c8⟩:=hc
 have k:∀ {j:Nat} {v:Value},cs[j]?=some v→∀ o,(w.alloc o).cell? ⟨B,j,none⟩=some v:=fun hj=>tO hlt (by simp [World.cell?,hb,hj])
 exact ⟨k c0,gT hlt hb,k c1,gT hlt hb,k c2,gT hlt hb,k c3,gT hlt hb,k c4,gT hlt hb,k c5,gT hlt hb,k c6,gT hlt hb,k c7,gT hlt hb,k c8,gT hlt hb⟩
def RV (a b c:Rat) (z:Int) (W:World) (e:Ending) (w' : World):Prop := ∃ k:C9,e = .returned (.tuple #[k.val,.int .i64 z])∧Vc w' k.val a b c∧Below W.heap.size W w'
theorem sB {x y z:Int} (hx:Ev x) (hy:Ev y) (hz:f2 x y=z) (w:World) (g:Nat) (T:TypeId) (hh:w.heap[g]?=some (.cells #[.int .i64 x,.int .i64 y] T (0,0))):Calls Tryz.prog 76 #[.slice (some ⟨g,0,none⟩) 2 2] w fun e w'=>e = .returned (.int .i64 z)∧Below w.heap.size w w':=by
 refine (uY (T:=T) hx hy hz [] w [.slice (some ⟨g,0,none⟩) 2 2] ⟨_,_,rfl,⟨g,[.int .i64 x,.int .i64 y],rfl,hh,[.int .i64 x],_,rfl,⟨rfl,rfl⟩,[.int .i64 y],_,rfl,⟨rfl,rfl⟩,rfl⟩,rfl⟩).mono ?_
 rintro e w' ⟨v,e1,e2,h1⟩
 have h5:[v] = [.int .i64 z]:=h1.1
 injection h5 with h5
 exact ⟨by rw [e1,h5],e2⟩
def InvE (ev:List (Fin 3)→Int) (w:World) (k:C9) (B E R:Nat) (o1 o2 o3 x1 x2 x3 y1 y2 y3 z1 z2 z3:Rat) (pre:List (Fin 3)) (W:World):Prop :=
 ∃ x y z:C9,W.heap[B]?=some (.cells (fW k x y z).toArray 126 (0,0))∧((0:Fin 3)∈pre→Vc W x.val x1 x2 x3)∧((1:Fin 3)∈pre→Vc W y.val y1 y2 y3)∧((2:Fin 3)∈pre→Vc W z.val z1 z2 z3) ∧
   W.heap[E]?=some (.cells #[.int .i64 (ev pre)] 29 (0,0))∧W.heap[R]?=some (.cells (fW C9.zero C9.zero C9.zero C9.zero).toArray 126 (0,0))∧Vc W k.val o1 o2 o3∧Below w.heap.size w W
section
variable {w:World} {k:C9} {B E R:Nat} {o1 o2 o3 x1 x2 x3 y1 y2 y3 z1 z2 z3:Rat}
theorem pM {u v:Int} {W w2 X1 w5:World} {a b c a' b' c' : C9} {o9 o2:Obj} {S n:Nat} (hbl:Below W.heap.size W w2) (hB:W.heap[B]?=some (.cells (fW k a b c).toArray 126 (0,0))) (hE:W.heap[E]?=some (.cells #[.int .i64 u] 29 (0,0))) (hEB:¬ E=B)
 (hT:Turned B (.cells (fW k a' b' c').toArray 126 (0,0)) (w2.alloc o9) X1) (h5:Below (X1.alloc o2).heap.size (X1.alloc o2) w5) (hn:n≤W.heap.size) (hnB:n≤B) (hnE:n≤E) :
 (w5.setCell ⟨E,0,none⟩ (.int .i64 v)).heap[B]?=some (.cells (fW k a' b' c').toArray 126 (0,0))∧(w5.setCell ⟨E,0,none⟩ (.int .i64 v)).heap[E]?=some (.cells #[.int .i64 v] 29 (0,0)) ∧
 (∀ g,g<W.heap.size→¬ g=B→¬ g=E→(w5.setCell ⟨E,0,none⟩ (.int .i64 v)).heap[g]?=W.heap[g]?)∧Go.Proofs.YthjfnlomfihnaaaGreatDoor.Ext Kn w2 (w5.setCell ⟨E,0,none⟩ (.int .i64 v))∧Go.Proofs.YthjfnlomfihnaaaGreatDoor.Ext Kn W w2∧KeepsFrom S W (w5.setCell ⟨E,0,none⟩ (.int .i64 v))∧Below n W (w5.setCell ⟨E,0,none⟩ (.int .i64 v)):=by
 have hBlt:=(Array.getElem?_eq_some_iff.1 hB).1
 have hElt:=(Array.getElem?_eq_some_iff.1 hE).1
 have hs2:=hbl.size
 have ba:Below w2.heap.size w2 (w2.alloc o9):=(aB _ _).alloc (aR _) _
 have sa:(w2.alloc o9).heap.size=w2.heap.size+1:=by simp
 have hBa:(w2.alloc o9).heap[B]?=some (.cells (fW k a b c).toArray 126 (0,0)):=(ba.block B (by omega)).trans ((hbl.block B hBlt).trans hB)
 have sx:X1.heap.size=w2.heap.size+1:=hT.size.trans sa
 have bb:Below X1.heap.size X1 (X1.alloc o2):=(aB _ _).alloc (aR _) _
 have sb:(X1.alloc o2).heap.size=w2.heap.size+2:=by simp [sx]
 have hs5:=h5.size
 have keep:∀ g,g<W.heap.size→¬ g=B→w5.heap[g]?=W.heap[g]?:=fun g hg hne=>(h5.block g (by omega)).trans ((bb.block g (by omega)).trans ((hT.block g hne).trans ((ba.block g (by omega)).trans (hbl.block g hg))))
 have hE5:w5.heap[E]?=some (.cells #[.int .i64 u] 29 (0,0)):=(keep E hElt hEB).trans hE
 have hTE:Turned E (.cells #[.int .i64 v] 29 (0,0)) w5 (w5.setCell ⟨E,0,none⟩ (.int .i64 v)):=cV (i:=0) hE5 (.int .i64 v)
 have hB5:w5.heap[B]?=some (.cells (fW k a' b' c').toArray 126 (0,0)):=(h5.block B (by omega)).trans ((bb.block B (by omega)).trans hT.at_)
 have bn:Below n W w5:=(tP ((hbl.mono hn).trans (ba.mono (by omega))) hT hnB).trans ((bb.mono (by omega)).trans (h5.mono (by omega)))
 refine ⟨(hTE.block B (fun e=>hEB e.symm)).trans hB5,hTE.at_,fun g hg h1 h2=>(hTE.block g h2).trans (keep g hg h1),?_,Go.Proofs.YthjfnlomfihnaaaGreatDoor.Ext.of_below hbl,?_,tP bn hTE hnE⟩
 ·exact (Go.Proofs.YthjfnlomfihnaaaGreatDoor.Ext.of_below ba).trans ((hT.ext hBa (nA _ _ _ _ _)).trans ((Go.Proofs.YthjfnlomfihnaaaGreatDoor.Ext.of_below bb).trans ((Go.Proofs.YthjfnlomfihnaaaGreatDoor.Ext.of_below h5).trans (hTE.ext hE5 (by simp [Go.Proofs.YthjfnlomfihnaaaGreatDoor.hotObj,Kn])))))
 ·exact (fX hbl).trans ((fX ba).trans ((tQ hT hBa rfl).trans ((fX bb).trans ((fX h5).trans (tQ hTE hE5 rfl)))))
theorem tR {ev:List (Fin 3)→Int} {S:Nat} (hS:w.heap.size≤S):OwnFrom S (InvE ev w k B E R o1 o2 o3 x1 x2 x3 y1 y2 y3 z1 z2 z3):=by
 rintro pre W W' row ⟨x,y,z,hB,v0,v1,v2,hE,hR,hk,hb⟩ hg hr
 have hr' : ∀ r,row=some r→∃ o:Obj,W.heap[r]?=some o∧o.isCells=false:=fun r e=>(hr r e).2
 have hx:=vA hg hr'
 refine ⟨x,y,z,(grownBy_keeps_cells hg hr' hB rfl).trans hB,fun h=>Vc.kext (v0 h) hx,fun h=>Vc.kext (v1 h) hx,fun h=>Vc.kext (v2 h) hx,(grownBy_keeps_cells hg hr' hE rfl).trans hE,(grownBy_keeps_cells hg hr' hR rfl).trans hR,Vc.kext hk hx,?_⟩
 exact hb.grown hg hb.size (fun k e=>Nat.le_trans hS (hr k e).1)
end
set_option maxRecDepth 100000 in
theorem zP (a1 a2 a3 b1 b2 b3 c1 c2 c3 d1 d2 d3:ByteArray) (o1 o2 o3 x1 x2 x3 y1 y2 y3 z1 z2 z3:Rat) (eo ex ey ez zq zc:Int) (heo:Ev eo) (hex:Ev ex) (hey:Ev ey) (hez:Ev ez) (hZ:f2 (f2 (f2 eo ex) ey) ez=zq)
 (cO' : ∀ W,Gl W→Calls Tryz.prog 42 #[.agg #[.string a1,.string a2,.string a3]] W (RV o1 o2 o3 eo W)) (cX' : ∀ W,Gl W→Calls Tryz.prog 42 #[.agg #[.string b1,.string b2,.string b3]] W (RV x1 x2 x3 ex W))
 (cY' : ∀ W,Gl W→Calls Tryz.prog 42 #[.agg #[.string c1,.string c2,.string c3]] W (RV y1 y2 y3 ey W)) (cZ' : ∀ W,Gl W→Calls Tryz.prog 42 #[.agg #[.string d1,.string d2,.string d3]] W (RV z1 z2 z3 ez W))
 (hC:zq=0→∀ (W:World) (o x y z:C9),Vc W o.val o1 o2 o3→Vc W x.val x1 x2 x3→Vc W y.val y1 y2 y3→Vc W z.val z1 z2 z3→Calls Tryz.prog 151 #[.agg (fW o x y z).toArray] W fun e w'=>e = .returned (.int .i64 zc)∧Below W.heap.size W w') (w:World) (hG:Gl w) :
 Calls Tryz.prog 82 #[.agg #[.string a1,.string a2,.string a3,.string b1,.string b2,.string b3,.string c1,.string c2,.string c3,.string d1,.string d2,.string d3]] w fun e w' => ∃ o x y z:C9,e = .returned (.tuple #[.agg (if zq=0 then fW o x y z else fW C9.zero C9.zero C9.zero C9.zero).toArray,.int .i64 (if zq=0 then zc else zq)])∧Vc w' o.val o1 o2 o3∧Vc w' x.val x1 x2 x3∧Vc w' y.val y1 y2 y3∧Vc w' z.val z1 z2 z3∧Below w.heap.size w w':=by
 have cO:=aH cO'
 have cX:=aH cX'
 have cY:=aH cY'
 have cZ:=aH cZ'
 have HC:=aH hC
 clear cO' cX' cY' cZ' hC
 obtain ⟨ev,hevd⟩:∃ ev:List (Fin 3)→Int,ev=fun pre=>pre.foldl (fun e i=>f2 e (if i=0 then ex else if i=1 then ey else ez)) eo:=⟨_,rfl⟩
 have ev0:ev []=eo:=by rw [hevd];rfl
 have evs:∀ (pre:List (Fin 3)) (i:Fin 3),ev (pre ++ [i])=f2 (ev pre) (if i=0 then ex else if i=1 then ey else ez):=fun pre i=>by rw [hevd];simp [List.foldl_append]
 have ev3:ev [0,1,2]=zq:=by rw [hevd,← hZ];rfl
 have hev:∀ pre,Ev (ev pre):=fun pre=>by
  rw [hevd]
  show Ev (pre.foldl _ eo)
  revert heo
  generalize eo=e0
  induction pre generalizing e0 with
  | nil=>exact fun h=>h
  | cons i l ih =>
    intro h
    refine ih _ (vV h ?_)
    split
    ·exact hex
    ·split <;> assumption
 have p0:∀ pre,ev (pre ++ [0])=f2 (ev pre) ex:=fun pre=>evs pre 0
 have p1:∀ pre,ev (pre ++ [1])=f2 (ev pre) ey:=fun pre=>evs pre 1
 have p2:∀ pre,ev (pre ++ [2])=f2 (ev pre) ez:=fun pre=>evs pre 2
 clear hevd hZ evs
 refine (callsIn_wide (n:=6)).1 ?_
 refine callsIn_of_wp_marks Tryz.func82 rfl trivial ?_ rfl
 simp only [Tryz.ntmps82,List.size_toArray,List.length_cons,List.length_nil,Nat.reduceAdd,Nat.reduceSub,Array.replicate_succ,Array.replicate_zero,List.push_toArray,List.append_toArray,List.nil_append,List.cons_append]
 refine wpIn_wide.2 ?_
 go_wp2_with fail
 obtain ⟨Z,hZ⟩:∃ Z:Array Value,Z=(fW C9.zero C9.zero C9.zero C9.zero).toArray:=⟨_,rfl⟩
 have hW1:∃ W1,W1=(w.alloc (.cells #[.string a1,.string a2,.string a3,.string b1,.string b2,.string b3,.string c1,.string c2,.string c3,.string d1,.string d2,.string d3] 60 (0,0))).alloc (.cells Z 126 (0,0)):=⟨_,rfl⟩
 obtain ⟨W1,hW1⟩:=hW1
 change Calls _ _ _ ((w.alloc (.cells #[.string a1,.string a2,.string a3,.string b1,.string b2,.string b3,.string c1,.string c2,.string c3,.string d1,.string d2,.string d3] 60 (0,0))).alloc (.cells (fW C9.zero C9.zero C9.zero C9.zero).toArray 126 (0,0))) _
 rw [← hZ,← hW1]
 have hs1:W1.heap.size=w.heap.size+2:=by rw [hW1];simp
 have hb1:Below w.heap.size w W1:=by rw [hW1];exact ((aB _ w).alloc (aR _) _).alloc (by simp) _
 have hf1:W1.heap[w.heap.size]?=some (.cells #[.string a1,.string a2,.string a3,.string b1,.string b2,.string b3,.string c1,.string c2,.string c3,.string d1,.string d2,.string d3] 60 (0,0)):=by rw [hW1];exact (Below.heap_alloc _ _ _ (by simp)).trans (World.alloc_heap_new w _)
 have hr1:W1.heap[w.heap.size+1]?=some (.cells Z 126 (0,0)):=by rw [hW1];have:=World.alloc_heap_new (w.alloc (.cells #[.string a1,.string a2,.string a3,.string b1,.string b2,.string b3,.string c1,.string c2,.string c3,.string d1,.string d2,.string d3] 60 (0,0))) (.cells Z 126 (0,0));rwa [World.size_alloc] at this
 clear hW1
 refine (cO.out W1 (hG.below hb1)).mono ?_
 rintro e w1 ⟨k,rfl,hk,hb⟩
 have hs2:=hb.size
 have hf2:=(hb.block w.heap.size (by omega)).trans hf1
 have hr2:=(hb.block (w.heap.size+1) (by omega)).trans hr1
 have hb2:=hb1.trans (hb.mono (by omega))
 clear hf1 hr1 hb1 hb
 simp only [C9.val]
 have HID:=aH (aI hf2 (aI hr2 (aI hb2 hk)))
 clear hf2 hr2 hb2 hk
 have HZ:=aH hZ
 clear hZ
 go_wp2_with (first|(refine zO rfl 126 _ rfl (fW k C9.zero C9.zero C9.zero).toArray (by kernel_rfl) ?_)|(refine stop_store 126 _ _ rfl ?_))
 refine ⟨store_new3 rfl 126 _ _ rfl w1 _ _ _ (fW k C9.zero C9.zero C9.zero).toArray rfl rfl (by kernel_rfl) (by kernel_rfl) (by kernel_rfl) ?_⟩
 intro W3 g1 g2 g3 g4 g5
 have hf3:=(g2.block w.heap.size (by omega)).trans HID.out.1
 have f0:W3.cell? ⟨w.heap.size,0,none⟩=some (.string a1):=by simp [World.cell?,hf3]
 have f1:W3.cell? ⟨w.heap.size,1,none⟩=some (.string a2):=by simp [World.cell?,hf3]
 have f2:W3.cell? ⟨w.heap.size,2,none⟩=some (.string a3):=by simp [World.cell?,hf3]
 have f3:W3.cell? ⟨w.heap.size,3,none⟩=some (.string b1):=by simp [World.cell?,hf3]
 have f4:W3.cell? ⟨w.heap.size,4,none⟩=some (.string b2):=by simp [World.cell?,hf3]
 have f5:W3.cell? ⟨w.heap.size,5,none⟩=some (.string b3):=by simp [World.cell?,hf3]
 have f6:W3.cell? ⟨w.heap.size,6,none⟩=some (.string c1):=by simp [World.cell?,hf3]
 have f7:W3.cell? ⟨w.heap.size,7,none⟩=some (.string c2):=by simp [World.cell?,hf3]
 have f8:W3.cell? ⟨w.heap.size,8,none⟩=some (.string c3):=by simp [World.cell?,hf3]
 have f9:W3.cell? ⟨w.heap.size,9,none⟩=some (.string d1):=by simp [World.cell?,hf3]
 have f10:W3.cell? ⟨w.heap.size,10,none⟩=some (.string d2):=by simp [World.cell?,hf3]
 have f11:W3.cell? ⟨w.heap.size,11,none⟩=some (.string d3):=by simp [World.cell?,hf3]
 clear hf3
 have HID2:=aH (aI g1 (aI g2 (aI g3 (aI g4 g5))))
 clear g1 g2 g3 g4 g5
 go_wp2_with fail
 refine (axes_any _ _ _ _ _ _ _ _ _ _ _ _ _).mono ?_
 rintro e w4 ⟨rfl,rfl⟩
 go_wp2_with fail
 obtain ⟨v0,h0⟩:∃ v0:Value,v0 = .agg #[.string a1,.string a2,.string a3,.string b1,.string b2,.string b3,.string c1,.string c2,.string c3,.string d1,.string d2,.string d3]:=⟨_,rfl⟩
 obtain ⟨v11,h11⟩:∃ v:Value,v = .tuple #[.agg #[.int .i64 k.n1,.int .i64 k.d1,.pointer k.p1,.int .i64 k.n2,.int .i64 k.d2,.pointer k.p2,.int .i64 k.n3,.int .i64 k.d3,.pointer k.p3],.int .i64 eo]:=⟨_,rfl⟩
 obtain ⟨v13,h13⟩:∃ v:Value,v = .agg #[.string a1,.string a2,.string a3]:=⟨_,rfl⟩
 obtain ⟨v15,h15⟩:∃ v:Value,v = .agg #[.int .i64 k.n1,.int .i64 k.d1,.pointer k.p1,.int .i64 k.n2,.int .i64 k.d2,.pointer k.p2,.int .i64 k.n3,.int .i64 k.d3,.pointer k.p3]:=⟨_,rfl⟩
 obtain ⟨v18,h18⟩:∃ v:Value,v = .agg (fW k C9.zero C9.zero C9.zero).toArray:=⟨_,rfl⟩
 rw [← h0,← h11,← h13,← h15,← h18]
 obtain ⟨g1,g2,g3,g4,g5⟩:=HID2.out
 obtain ⟨hf2,hr2,hb2,hk⟩:=HID.out
 have hsz2:=hb2.size
 have hsW3:w1.heap.size+3=W3.heap.size:=g1.symm
 obtain ⟨W4,hW4⟩:∃ W4,W3.alloc (.cells #[.string a1,.string a2,.string a3,.string b1,.string b2,.string b3,.string c1,.string c2,.string c3,.string d1,.string d2,.string d3] 60 (0,0))=W4:=⟨_,rfl⟩
 have hF:W4.heap[W3.heap.size]?=some (.cells #[.string a1,.string a2,.string a3,.string b1,.string b2,.string b3,.string c1,.string c2,.string c3,.string d1,.string d2,.string d3] 60 (0,0)):=by rw [← hW4];exact World.alloc_heap_new _ _
 have hs4:W4.heap.size=W3.heap.size+1:=by rw [← hW4];simp
 have hb4:Below W3.heap.size W3 W4:=by rw [← hW4];exact (aB _ _).alloc (aR _) _
 have hb3:Below w1.heap.size w1 W4:=g2.trans (hb4.mono (by omega))
 have hinv:InvE ev w k (w1.heap.size+1+1) (w1.heap.size+1) (w.heap.size+1) o1 o2 o3 x1 x2 x3 y1 y2 y3 z1 z2 z3 [] W4:=by
  refine ⟨C9.zero,C9.zero,C9.zero,(hb4.block _ (by omega)).trans g5,fun h=>absurd h (by simp),fun h=>absurd h (by simp),fun h=>absurd h (by simp),(by rw [ev0];exact (hb4.block _ (by omega)).trans g4),?_,hk.below hb3,hb2.trans (hb3.mono (by omega))⟩
  rw [← HZ.out]
  exact (hb3.block _ (by omega)).trans hr2
 rw [hW4]
 have hEB:¬ (w1.heap.size+1:Nat)=w1.heap.size+1+1:=by omega
 have hRB:¬ (w.heap.size+1:Nat)=w1.heap.size+1+1:=by omega
 have hRE:¬ (w.heap.size+1:Nat)=w1.heap.size+1:=by omega
 have hBs:w1.heap.size+1+1<W4.heap.size:=by omega
 have hEs:w1.heap.size+1<W4.heap.size:=by omega
 have hRs:w.heap.size+1<W4.heap.size:=by omega
 have hE0:w.heap.size≤w1.heap.size+1:=by omega
 have hB0:w.heap.size≤w1.heap.size+1+1:=by omega
 have hwW4:w.heap.size≤W4.heap.size:=by omega
 clear g1 g2 g3 g4 g5 hf2 hr2 hb2 hk hsz2 hsW3 hb4 hb3 hW4 h0 h11 h13 h15 h18 HID HID2 f0 f1 f2 f3 f4 f5 f6 f7 f8 f9 f10 f11 hs1 hs2 hs4
 generalize w1.heap.size+1+1=B at *
 generalize w1.heap.size+1=E at *
 generalize w1.heap.size=p4 at *
 generalize W3.heap.size=q3 at *
 refine (wpIn_wide (n:=6)).1 ?_
 refine wpIn_rangeFunc_ownH (F:=Fence.wide) rfl (by omega) (gf:=211) (lb := #[.pointer (some ⟨q3,0,none⟩)]) rfl trivial (enters_of Tryz.func211 (by kernel_rfl) rfl)
  (axes_stops Fence.wide (6-1) trivial rfl (by omega) q3 w.heap.size a1 a2 a3 b1 b2 b3 c1 c2 c3 d1 d2 d3 W4 hwW4 hF) belowK_t (belowK_b (by omega)) (aB _ _) (fun _=>rfl)
  (InvE ev w k B E (w.heap.size+1) o1 o2 o3 x1 x2 x3 y1 y2 y3 z1 z2 z3) (fun _ _ _=>False) (tR hwW4) (fun _ _ _ _ _ hs _ _=>hs) hinv
  (fun x a' W => ∃ Bx,((x=0∧W.heap[Bx]?=some (.cells #[.string b1,.string b2,.string b3] 24 (0,0))∧a' = { tmps := #[v0,.pointer (some ⟨w.heap.size,0,none⟩),.pointer (some ⟨w.heap.size+1,0,none⟩),.int .i64 0,.pointer (some ⟨p4,0,none⟩),.pointer (some ⟨E,0,none⟩),.pointer (some ⟨B,0,none⟩),.int .i64 0,.pointer (some ⟨Bx,0,none⟩),undef,undef,v11,.pointer (some ⟨w.heap.size,0,none⟩),v13,v11,v15,.int .i64 eo,v15,v18,v0,.func (.func 211) #[] #[.pointer (some ⟨q3,0,none⟩)],.int .i64 0,.agg #[.string b1,.string b2,.string b3],undef,undef,undef,undef,undef,undef,undef,undef,undef,undef,undef,undef,undef,undef,undef,undef,undef,undef,undef,undef],defers := [] })∨(x=1∧W.heap[Bx]?=some (.cells #[.string c1,.string c2,.string c3] 24 (0,0))∧a' = { tmps := #[v0,.pointer (some ⟨w.heap.size,0,none⟩),.pointer (some ⟨w.heap.size+1,0,none⟩),.int .i64 0,.pointer (some ⟨p4,0,none⟩),.pointer (some ⟨E,0,none⟩),.pointer (some ⟨B,0,none⟩),.int .i64 1,.pointer (some ⟨Bx,0,none⟩),undef,undef,v11,.pointer (some ⟨w.heap.size,0,none⟩),v13,v11,v15,.int .i64 eo,v15,v18,v0,.func (.func 211) #[] #[.pointer (some ⟨q3,0,none⟩)],.int .i64 1,.agg #[.string c1,.string c2,.string c3],undef,undef,undef,undef,undef,undef,undef,undef,undef,undef,undef,undef,undef,undef,undef,undef,undef,undef,undef,undef],defers := [] })∨(x=2∧W.heap[Bx]?=some (.cells #[.string d1,.string d2,.string d3] 24 (0,0))∧a' = { tmps := #[v0,.pointer (some ⟨w.heap.size,0,none⟩),.pointer (some ⟨w.heap.size+1,0,none⟩),.int .i64 0,.pointer (some ⟨p4,0,none⟩),.pointer (some ⟨E,0,none⟩),.pointer (some ⟨B,0,none⟩),.int .i64 2,.pointer (some ⟨Bx,0,none⟩),undef,undef,v11,.pointer (some ⟨w.heap.size,0,none⟩),v13,v11,v15,.int .i64 eo,v15,v18,v0,.func (.func 211) #[] #[.pointer (some ⟨q3,0,none⟩)],.int .i64 2,.agg #[.string d1,.string d2,.string d3],undef,undef,undef,undef,undef,undef,undef,undef,undef,undef,undef,undef,undef,undef,undef,undef,undef,undef,undef,undef],defers := [] }))) ?hAx ?assign ?body ?done ?stop
 case hAx =>
  rintro x a' _ X Y row ⟨Bx,h2⟩ hg hr
  refine ⟨Bx,?_⟩
  rcases h2 with ⟨rfl,h3,h4⟩|⟨rfl,h3,h4⟩|⟨rfl,h3,h4⟩
  ·exact .inl ⟨rfl,(grownBy_keeps_cells hg (fun r e=>(hr r e).2) h3 rfl).trans h3,h4⟩
  ·exact .inr (.inl ⟨rfl,(grownBy_keeps_cells hg (fun r e=>(hr r e).2) h3 rfl).trans h3,h4⟩)
  ·exact .inr (.inr ⟨rfl,(grownBy_keeps_cells hg (fun r e=>(hr r e).2) h3 rfl).trans h3,h4⟩)
 case assign =>
  rintro l pre x W K hi hK
  have hiw:w.heap.size≤W.heap.size:=by obtain ⟨_,_,_,_,_,_,_,_,_,_,hb⟩:=hi;exact hb.size
  rcases fin3 x with rfl|rfl|rfl
  ·simp only [axE,axV]
   gi_wp2
   exact hK _ _ ((KeepsOthers.alloc _ _).from _) ((aB _ W).alloc hiw _) ((tR hwW4).alloc _ hi) ⟨W.heap.size,.inl ⟨by first|rfl|trivial,World.alloc_heap_new _ _,rfl⟩⟩
  ·simp only [axE,axV]
   gi_wp2
   exact hK _ _ ((KeepsOthers.alloc _ _).from _) ((aB _ W).alloc hiw _) ((tR hwW4).alloc _ hi) ⟨W.heap.size,.inr (.inl ⟨by first|rfl|trivial,World.alloc_heap_new _ _,rfl⟩)⟩
  ·simp only [axE,axV]
   gi_wp2
   exact hK _ _ ((KeepsOthers.alloc _ _).from _) ((aB _ W).alloc hiw _) ((tR hwW4).alloc _ hi) ⟨W.heap.size,.inr (.inr ⟨by first|rfl|trivial,World.alloc_heap_new _ _,rfl⟩)⟩
 case body =>
  rintro l pre x a' W _ _ ⟨x',y',z',hB,u0,u1,u2,hE,hR,hk,hbW⟩ ⟨Bx,h3⟩ _
  obtain ⟨u,hu⟩:∃ u,ev pre=u:=⟨_,rfl⟩
  have hue:=hev pre
  rw [hu] at hE hue
  have hBlt:=(Array.getElem?_eq_some_iff.1 hB).1
  have hElt:=(Array.getElem?_eq_some_iff.1 hE).1
  have hRlt:=(Array.getElem?_eq_some_iff.1 hR).1
  have hGW:=aH (hG.below hbW)
  have HW:=aH (aI hE (aI hR (aI hk hbW)))
  have HU:=aH (aI u0 (aI u1 u2))
  have HBB:=aH hB
  clear hB u0 u1 u2 hE hR hk hbW
  rcases h3 with ⟨rfl,h3,rfl⟩|⟨rfl,h3,rfl⟩|⟨rfl,h3,rfl⟩
  ·have cb0:W.cell? ⟨Bx,0,none⟩=some (.string b1):=by simp [World.cell?,h3]
   have cb1:W.cell? ⟨Bx,1,none⟩=some (.string b2):=by simp [World.cell?,h3]
   have cb2:W.cell? ⟨Bx,2,none⟩=some (.string b3):=by simp [World.cell?,h3]
   clear h3
   gi_wp2
   refine ⟨trivial,(CallsIn.inRound l (callsIn_wide.2 (cX.out W hGW.out))).mono ?_⟩
   rintro e w2 ⟨m,rfl,hm,hbl⟩
   have hs2:=hbl.size
   have hB2:=(hbl.block B hBlt).trans HBB.out
   have hE2:=(hbl.block E hElt).trans HW.out.1
   obtain ⟨q0,r0,q1,r1,q2,r2,q3,r3,q4,r4,q5,r5,q6,r6,q7,r7,q8,r8⟩:=up9 x' (show B<w2.heap.size by omega) hB2 (⟨rfl,rfl,rfl,rfl,rfl,rfl,rfl,rfl,rfl⟩:N9 _ _ 9 10 11 12 13 14 15 16 17)
   have qE:∀ o,(w2.alloc o).cell? ⟨E,0,none⟩=some (.int .i64 u):=tO (by omega) (by simp [World.cell?,hE2])
   have H2:=aH (aI hm (aI hbl (aI hB2 hE2)))
   clear hm hbl hB2 hE2
   simp only [C9.val]
   gi_wp2
   obtain ⟨hm,hbl,hB2,hE2⟩:=H2.out
   obtain ⟨hE,hR,hk,hbW⟩:=HW.out
   obtain ⟨u0,u1,u2⟩:=HU.out
   have hBa:(w2.alloc (m9 m)).heap[B]?=some (.cells (fW k x' y' z').toArray 126 (0,0)):=(((aB _ w2).alloc (aR _) _).block B (by omega)).trans hB2
   have hT:Turned B (.cells (fW k m y' z').toArray 126 (0,0)) (w2.alloc (m9 m)) (st9 (w2.alloc (m9 m)) B 9 10 11 12 13 14 15 16 17 m):=turn9 9 hBa _ _ _ _ _ _ _ _ _ (by kernel_rfl)
   obtain ⟨X1,hX1⟩:∃ X1,st9 (w2.alloc (m9 m)) B 9 10 11 12 13 14 15 16 17 m=X1:=⟨_,rfl⟩
   rw [hX1] at hT
   unfold st9 m9 at hX1
   rw [hX1]
   have hsX:X1.heap.size=w2.heap.size+1:=by rw [hT.size];simp
   have hh:(X1.alloc (.cells #[.int .i64 u,.int .i64 ex] 29 (0,0))).heap[w2.heap.size+1]?=some (.cells #[.int .i64 u,.int .i64 ex] 29 (0,0)):=by rw [← hsX];exact World.alloc_heap_new _ _
   clear hX1 hBa
   obtain ⟨v,hv⟩:∃ v,f2 u ex=v:=⟨_,rfl⟩
   refine ⟨trivial,(CallsIn.inRound l (callsIn_wide.2 (sB hue hex hv _ (w2.heap.size+1) 29 hh))).mono ?_⟩
   rintro e w5 ⟨rfl,h5⟩
   obtain ⟨r1,r2,r3,r4,r4',r5,r6⟩:=pM (u:=u) (v:=v) (k:=k) (S:=W4.heap.size) (n:=w.heap.size) hbl HBB.out hE hEB hT h5 hbW.size hB0 hE0
   have hE5:w5.heap[E]?=some (.cells #[.int .i64 u] 29 (0,0)):=by have hs5:=h5.size;exact (h5.block E (by simp;omega)).trans ((((aB _ X1).alloc (aR _) _).block E (by omega)).trans ((hT.block E hEB).trans ((((aB _ w2).alloc (aR _) _).block E (by omega)).trans hE2)))
   have qE5:w5.cell? ⟨E,0,none⟩=some (.int .i64 u):=by simp [World.cell?,hE5]
   have rE5:w5.frozen? ⟨E,0,none⟩=false:=aZ hE5 0
   have HF:KeepsFrom W4.heap.size W (w5.setCell ⟨E,0,none⟩ (.int .i64 v))∧Below w.heap.size W (w5.setCell ⟨E,0,none⟩ (.int .i64 v))∧InvE ev w k B E (w.heap.size+1) o1 o2 o3 x1 x2 x3 y1 y2 y3 z1 z2 z3 (pre ++ [0]) (w5.setCell ⟨E,0,none⟩ (.int .i64 v)) :=
    ⟨r5,r6,m,y',z',r1,fun _=>Vc.kext hm r4,fun h=>Vc.kext (Vc.kext (u1 (by simpa using h)) r4') r4,fun h=>Vc.kext (Vc.kext (u2 (by simpa using h)) r4') r4,(by rw [p0 pre,hu,hv];exact r2),(r3 _ hRlt hRB hRE).trans hR,Vc.kext (Vc.kext hk r4') r4,hbW.trans r6⟩
   have HG:=aH HF
   clear HF r1 r2 r3 r4 r4' r5 r6 hE5 hT hm hbl hB2 hE2 hE hR hk hbW u0 u1 u2 hh h5 hsX HW HU H2 hu hue
   gi_wp2
   exact HG.out
  ·have cb0:W.cell? ⟨Bx,0,none⟩=some (.string c1):=by simp [World.cell?,h3]
   have cb1:W.cell? ⟨Bx,1,none⟩=some (.string c2):=by simp [World.cell?,h3]
   have cb2:W.cell? ⟨Bx,2,none⟩=some (.string c3):=by simp [World.cell?,h3]
   clear h3
   gi_wp2
   refine ⟨trivial,(CallsIn.inRound l (callsIn_wide.2 (cY.out W hGW.out))).mono ?_⟩
   rintro e w2 ⟨m,rfl,hm,hbl⟩
   have hs2:=hbl.size
   have hB2:=(hbl.block B hBlt).trans HBB.out
   have hE2:=(hbl.block E hElt).trans HW.out.1
   obtain ⟨q0,r0,q1,r1,q2,r2,q3,r3,q4,r4,q5,r5,q6,r6,q7,r7,q8,r8⟩:=up9 y' (show B<w2.heap.size by omega) hB2 (⟨rfl,rfl,rfl,rfl,rfl,rfl,rfl,rfl,rfl⟩:N9 _ _ 18 19 20 21 22 23 24 25 26)
   have qE:∀ o,(w2.alloc o).cell? ⟨E,0,none⟩=some (.int .i64 u):=tO (by omega) (by simp [World.cell?,hE2])
   have H2:=aH (aI hm (aI hbl (aI hB2 hE2)))
   clear hm hbl hB2 hE2
   simp only [C9.val]
   gi_wp2
   obtain ⟨hm,hbl,hB2,hE2⟩:=H2.out
   obtain ⟨hE,hR,hk,hbW⟩:=HW.out
   obtain ⟨u0,u1,u2⟩:=HU.out
   have hBa:(w2.alloc (m9 m)).heap[B]?=some (.cells (fW k x' y' z').toArray 126 (0,0)):=(((aB _ w2).alloc (aR _) _).block B (by omega)).trans hB2
   have hT:Turned B (.cells (fW k x' m z').toArray 126 (0,0)) (w2.alloc (m9 m)) (st9 (w2.alloc (m9 m)) B 18 19 20 21 22 23 24 25 26 m):=turn9 18 hBa _ _ _ _ _ _ _ _ _ (by kernel_rfl)
   obtain ⟨X1,hX1⟩:∃ X1,st9 (w2.alloc (m9 m)) B 18 19 20 21 22 23 24 25 26 m=X1:=⟨_,rfl⟩
   rw [hX1] at hT
   unfold st9 m9 at hX1
   rw [hX1]
   have hsX:X1.heap.size=w2.heap.size+1:=by rw [hT.size];simp
   have hh:(X1.alloc (.cells #[.int .i64 u,.int .i64 ey] 29 (0,0))).heap[w2.heap.size+1]?=some (.cells #[.int .i64 u,.int .i64 ey] 29 (0,0)):=by rw [← hsX];exact World.alloc_heap_new _ _
   clear hX1 hBa
   obtain ⟨v,hv⟩:∃ v,f2 u ey=v:=⟨_,rfl⟩
   refine ⟨trivial,(CallsIn.inRound l (callsIn_wide.2 (sB hue hey hv _ (w2.heap.size+1) 29 hh))).mono ?_⟩
   rintro e w5 ⟨rfl,h5⟩
   obtain ⟨r1,r2,r3,r4,r4',r5,r6⟩:=pM (u:=u) (v:=v) (k:=k) (S:=W4.heap.size) (n:=w.heap.size) hbl HBB.out hE hEB hT h5 hbW.size hB0 hE0
   have hE5:w5.heap[E]?=some (.cells #[.int .i64 u] 29 (0,0)):=by have hs5:=h5.size;exact (h5.block E (by simp;omega)).trans ((((aB _ X1).alloc (aR _) _).block E (by omega)).trans ((hT.block E hEB).trans ((((aB _ w2).alloc (aR _) _).block E (by omega)).trans hE2)))
   have qE5:w5.cell? ⟨E,0,none⟩=some (.int .i64 u):=by simp [World.cell?,hE5]
   have rE5:w5.frozen? ⟨E,0,none⟩=false:=aZ hE5 0
   have HF:KeepsFrom W4.heap.size W (w5.setCell ⟨E,0,none⟩ (.int .i64 v))∧Below w.heap.size W (w5.setCell ⟨E,0,none⟩ (.int .i64 v))∧InvE ev w k B E (w.heap.size+1) o1 o2 o3 x1 x2 x3 y1 y2 y3 z1 z2 z3 (pre ++ [1]) (w5.setCell ⟨E,0,none⟩ (.int .i64 v)) :=
    ⟨r5,r6,x',m,z',r1,fun h=>Vc.kext (Vc.kext (u0 (by simpa using h)) r4') r4,fun _=>Vc.kext hm r4,fun h=>Vc.kext (Vc.kext (u2 (by simpa using h)) r4') r4,(by rw [p1 pre,hu,hv];exact r2),(r3 _ hRlt hRB hRE).trans hR,Vc.kext (Vc.kext hk r4') r4,hbW.trans r6⟩
   have HG:=aH HF
   clear HF r1 r2 r3 r4 r4' r5 r6 hE5 hT hm hbl hB2 hE2 hE hR hk hbW u0 u1 u2 hh h5 hsX HW HU H2 hu hue
   gi_wp2
   exact HG.out
  ·have cb0:W.cell? ⟨Bx,0,none⟩=some (.string d1):=by simp [World.cell?,h3]
   have cb1:W.cell? ⟨Bx,1,none⟩=some (.string d2):=by simp [World.cell?,h3]
   have cb2:W.cell? ⟨Bx,2,none⟩=some (.string d3):=by simp [World.cell?,h3]
   clear h3
   gi_wp2
   refine ⟨trivial,(CallsIn.inRound l (callsIn_wide.2 (cZ.out W hGW.out))).mono ?_⟩
   rintro e w2 ⟨m,rfl,hm,hbl⟩
   have hs2:=hbl.size
   have hB2:=(hbl.block B hBlt).trans HBB.out
   have hE2:=(hbl.block E hElt).trans HW.out.1
   obtain ⟨q0,r0,q1,r1,q2,r2,q3,r3,q4,r4,q5,r5,q6,r6,q7,r7,q8,r8⟩:=up9 z' (show B<w2.heap.size by omega) hB2 (⟨rfl,rfl,rfl,rfl,rfl,rfl,rfl,rfl,rfl⟩:N9 _ _ 27 28 29 30 31 32 33 34 35)
   have qE:∀ o,(w2.alloc o).cell? ⟨E,0,none⟩=some (.int .i64 u):=tO (by omega) (by simp [World.cell?,hE2])
   have H2:=aH (aI hm (aI hbl (aI hB2 hE2)))
   clear hm hbl hB2 hE2
   simp only [C9.val]
   gi_wp2
   obtain ⟨hm,hbl,hB2,hE2⟩:=H2.out
   obtain ⟨hE,hR,hk,hbW⟩:=HW.out
   obtain ⟨u0,u1,u2⟩:=HU.out
   have hBa:(w2.alloc (m9 m)).heap[B]?=some (.cells (fW k x' y' z').toArray 126 (0,0)):=(((aB _ w2).alloc (aR _) _).block B (by omega)).trans hB2
   have hT:Turned B (.cells (fW k x' y' m).toArray 126 (0,0)) (w2.alloc (m9 m)) (st9 (w2.alloc (m9 m)) B 27 28 29 30 31 32 33 34 35 m):=turn9 27 hBa _ _ _ _ _ _ _ _ _ (by kernel_rfl)
   obtain ⟨X1,hX1⟩:∃ X1,st9 (w2.alloc (m9 m)) B 27 28 29 30 31 32 33 34 35 m=X1:=⟨_,rfl⟩
   rw [hX1] at hT
   unfold st9 m9 at hX1
   rw [hX1]
   have hsX:X1.heap.size=w2.heap.size+1:=by rw [hT.size];simp
   have hh:(X1.alloc (.cells #[.int .i64 u,.int .i64 ez] 29 (0,0))).heap[w2.heap.size+1]?=some (.cells #[.int .i64 u,.int .i64 ez] 29 (0,0)):=by rw [← hsX];exact World.alloc_heap_new _ _
   clear hX1 hBa
   obtain ⟨v,hv⟩:∃ v,f2 u ez=v:=⟨_,rfl⟩
   refine ⟨trivial,(CallsIn.inRound l (callsIn_wide.2 (sB hue hez hv _ (w2.heap.size+1) 29 hh))).mono ?_⟩
   rintro e w5 ⟨rfl,h5⟩
   obtain ⟨r1,r2,r3,r4,r4',r5,r6⟩:=pM (u:=u) (v:=v) (k:=k) (S:=W4.heap.size) (n:=w.heap.size) hbl HBB.out hE hEB hT h5 hbW.size hB0 hE0
   have hE5:w5.heap[E]?=some (.cells #[.int .i64 u] 29 (0,0)):=by have hs5:=h5.size;exact (h5.block E (by simp;omega)).trans ((((aB _ X1).alloc (aR _) _).block E (by omega)).trans ((hT.block E hEB).trans ((((aB _ w2).alloc (aR _) _).block E (by omega)).trans hE2)))
   have qE5:w5.cell? ⟨E,0,none⟩=some (.int .i64 u):=by simp [World.cell?,hE5]
   have rE5:w5.frozen? ⟨E,0,none⟩=false:=aZ hE5 0
   have HF:KeepsFrom W4.heap.size W (w5.setCell ⟨E,0,none⟩ (.int .i64 v))∧Below w.heap.size W (w5.setCell ⟨E,0,none⟩ (.int .i64 v))∧InvE ev w k B E (w.heap.size+1) o1 o2 o3 x1 x2 x3 y1 y2 y3 z1 z2 z3 (pre ++ [2]) (w5.setCell ⟨E,0,none⟩ (.int .i64 v)) :=
    ⟨r5,r6,x',y',m,r1,fun h=>Vc.kext (Vc.kext (u0 (by simpa using h)) r4') r4,fun h=>Vc.kext (Vc.kext (u1 (by simpa using h)) r4') r4,fun _=>Vc.kext hm r4,(by rw [p2 pre,hu,hv];exact r2),(r3 _ hRlt hRB hRE).trans hR,Vc.kext (Vc.kext hk r4') r4,hbW.trans r6⟩
   have HG:=aH HF
   clear HF r1 r2 r3 r4 r4' r5 r6 hE5 hT hm hbl hB2 hE2 hE hR hk hbW u0 u1 u2 hh h5 hsX HW HU H2 hu hue
   gi_wp2
   exact HG.out
 case done =>
  rintro D ys W hD rfl ⟨x',y',z',hB,u0,u1,u2,hE,hR,hk,hbW⟩ hK
  rw [ev3] at hE
  have vx:=u0 (by simp)
  have vy:=u1 (by simp)
  have vz:=u2 (by simp)
  by_cases hZ0:zq=0
  ·subst hZ0
   have qE:W.cell? ⟨E,0,none⟩=some (.int .i64 0):=by simp [World.cell?,hE]
   have HW:=aH (aI hB (aI hR (aI hk (aI vx (aI vy (aI vz (aI hbW hK)))))))
   clear u0 u1 u2 hB hR hk vx vy vz hbW hK hE
   go_wp2_with fail
   refine wp_region_ty Kn [w.heap.size+1] (by kernel_rfl) (by kernel_rfl) ?_
   refine bO (.agg (fW k x' y' z').toArray) rfl (fun A w' hB hk=>?_) ?_
   ·simp [known,specOf,Kd.spec,Sp.is,isVar,Oper.looksAt,Op.operands,Call.operands,Act.eval] at hk
    exact load_all rfl (by first|exact hk|simpa [Act.eval] using hk) (hB.blk HW.out.1 (by simp;omega)) Tryz.underlying126 rfl (by kernel_rfl)
   refine bO (.agg (fW k x' y' z').toArray) rfl (fun A w' hB hk=>?_) ?_
   ·simp [known,specOf,Kd.spec,Sp.is,isVar,Oper.looksAt,Op.operands,Call.operands,Act.eval] at hk
    exact load_all rfl (by first|exact hk|simpa [Act.eval] using hk) (hB.blk HW.out.1 (by simp;omega)) Tryz.underlying126 rfl (by kernel_rfl)
   refine aN (Sp.is (.int .i64 zc)) (Sp.is_stable _ _) rfl (fun A w' hB hk=>?_) ?_
   ·simp [known,specOf,Kd.spec,Sp.is,isVar,Oper.looksAt,Op.operands,Call.operands,Act.eval] at hk
    simp [go_sem,hk]
    refine aG ?_
    have hx:=Base.extT hB HW.out.2.1 (nA _ _ _ _ _)
    exact (HC.out (by first|trivial|rfl) _ _ _ _ _ (Vc.kext HW.out.2.2.1 hx) (Vc.kext HW.out.2.2.2.1 hx) (Vc.kext HW.out.2.2.2.2.1 hx) (Vc.kext HW.out.2.2.2.2.2.1 hx)).mono (fun e w'' ⟨e1,e2⟩=>⟨_,e1,e2,rfl⟩)
   refine gX (w.heap.size+1) (.cells (fW C9.zero C9.zero C9.zero C9.zero).toArray 126 (0,0)) (fun o _=>o = .cells (fW k x' y' z').toArray 126 (0,0)) (fun _ _ _ h _=>h) rfl rfl (by simp) HW.out.2.1 (nA _ _ _ _ _) (fun A w' hB hk h0=>?_) ?_
   ·simp [known,specOf,Kd.spec,Sp.is,isVar,Oper.looksAt,Op.operands,Call.operands,Act.eval] at hk
    have hst:=mB (P:=Tryz.prog) (ρ:=A.eval) (w:=w') (o := { dst:=none,op:=Op.store 126 (Operand.tmp 2) (Operand.tmp 40),type:=0,pos := "frame.go:38",after := #[{ on:=0,ground:=Ground.data },{ on:=2,ground:=Ground.chain },{ on:=0,ground:=Ground.phase },{ on:=1,ground:=Ground.textOnly Departure.lateStores },{ on:=2,ground:=Ground.textOnly Departure.lateStoresUnsure }],guard:=none }) (T':=126) (g:=w.heap.size+1) (off:=0) (n:=36) (cs:=fW C9.zero C9.zero C9.zero C9.zero) (es:=fW k x' y' z') rfl (by simp [Act.eval,hk]) (by simp [Act.eval,hk,Value.cells]) (by kernel_rfl) rfl (frL_one _ _ _ _) h0 (show 0+36≤36 by omega)
    have e:List.take 0 (fW C9.zero C9.zero C9.zero C9.zero)++fW k x' y' z'++List.drop (0+(fW k x' y' z').length) (fW C9.zero C9.zero C9.zero C9.zero)=fW k x' y' z':=by kernel_rfl
    rw [e] at hst
    rw [hst.1]
    exact ⟨_,⟨hst.2.os,hst.2.tape,hst.2.output,hst.2.size,hst.2.at_,hst.2.block⟩,rfl⟩
   refine aY _ ?_ (by first|exact .inl rfl|exact .inr rfl) (by rfl) (by simp [specOf,Kd.spec];rfl) ?_ rfl ?_
   ·exact Sp.is_stable _ _
   refine ⟨by first|rfl|decide,fun f w2 hB hF hAp=>?_⟩;simp [Final1,Sp.is,isVar] at hF;simp only [frameOf]
   obtain ⟨f3,hw2,_,_,_⟩:=hF
   have hDR:¬ D=w.heap.size+1:=by
    intro e
    have h1:=HW.out.2.1
    have h2:=HW.out.2.2.2.2.2.2.2
    rw [e,h1] at h2
    injection h2 with h2
    cases h2
   have hK2:=hB.blk HW.out.2.2.2.2.2.2.2 (by simp;omega)
   have HV:=aH (aI hw2 (aI hB hK2))
   clear hAp
   have HBB:=aH hB
   clear hB
   go_wp2
   have hB:=HBB.out
   refine ⟨by simp,.inl ⟨_,_,rfl,run_takeDeferred hK2,?_⟩⟩
   have hg5:(w2.putObj D (.deferred none)).heap[w.heap.size+1]?=some (.cells (fW k x' y' z').toArray 126 (0,0)):=(World.putObj_heap_other (by omega)).trans hw2
   have hl:=run_loadVar_mid (P:=Tryz.prog) (w2.putObj D (.deferred none)) (w.heap.size+1) 0 126 (((fW k x' y' z').drop 0).take 36) _ (sG hg5 0 36) Tryz.underlying126 rfl (by kernel_rfl)
   have e36:((fW k x' y' z').drop 0).take 36=fW k x' y' z':=by kernel_rfl
   rw [e36] at hl
   have hbe:=Base.belowT hB HW.out.2.2.2.2.2.2.1 (by omega)
   have hx1:=Base.extT hB HW.out.2.1 (nA _ _ _ _ _)
   have hx2:Go.Proofs.YthjfnlomfihnaaaGreatDoor.Ext Kn w2 (w2.putObj D (.deferred none)):=vA (grownBy_putObj' w2 D _) (fun r e=>by cases e;exact ⟨_,hK2,rfl⟩)
   have hDw:w.heap.size≤D:=by omega
   refine ⟨.tuple #[.agg (fW k x' y' z').toArray,.int .i64 zc],?_,k,x',y',z',rfl,Vc.kext (Vc.kext HW.out.2.2.1 hx1) hx2,Vc.kext (Vc.kext HW.out.2.2.2.1 hx1) hx2,Vc.kext (Vc.kext HW.out.2.2.2.2.1 hx1) hx2,Vc.kext (Vc.kext HW.out.2.2.2.2.2.1 hx1) hx2,hbe.trans (belowK_b (w:=w) (aR _) w2 D _ _ hDw hK2 rfl rfl)⟩
   refine (lA (vs := [.agg (fW k x' y' z').toArray,.int .i64 zc]) ?_).trans rfl
   show (List.mapM (xO _) [.cell 2 126,.tmp 3]).run _ _=_
   simp [List.mapM_cons,xO,Act.put,asAddr,Sem.run_bind,Result.andThen,hl,f3]
  ·have n1:(zq==0)=false:=by rw [beq_eq_false_iff_ne];exact hZ0
   have qE:W.cell? ⟨E,0,none⟩=some (.int .i64 zq):=by simp [World.cell?,hE]
   have HW:=aH (aI hE (aI hR (aI hk (aI vx (aI vy (aI vz (aI hbW hK)))))))
   clear u0 u1 u2 hB hR hk vx vy vz hbW hK hE
   go_wp2_with fail
   refine wp_region_ty Kn [w.heap.size+1] (by kernel_rfl) (by kernel_rfl) ?_
   refine bO (.agg (fW C9.zero C9.zero C9.zero C9.zero).toArray) rfl (fun A w' hB hk=>?_) ?_
   ·refine bQ ?_
    exact cB (by kernel_rfl) _
   refine bO (.int .i64 zq) rfl (fun A w' hB hk=>?_) ?_
   ·simp [known,specOf,Kd.spec,Sp.is,isVar,Oper.looksAt,Op.operands,Call.operands,Act.eval] at hk
    have hc:=hB.blk HW.out.1 (by simp;omega)
    have hc:w'.cell? ⟨E,0,none⟩=some (.int .i64 zq):=by simp [World.cell?,hc]
    simp [go_sem,hk,hc]
   refine gX (w.heap.size+1) (.cells (fW C9.zero C9.zero C9.zero C9.zero).toArray 126 (0,0)) (fun o _=>o = .cells (fW C9.zero C9.zero C9.zero C9.zero).toArray 126 (0,0)) (fun _ _ _ h _=>h) rfl rfl (by simp) HW.out.2.1 (nA _ _ _ _ _) (fun A w' hB hk h0=>?_) ?_
   ·simp [known,specOf,Kd.spec,Sp.is,isVar,Oper.looksAt,Op.operands,Call.operands,Act.eval] at hk
    have hst:=mB (P:=Tryz.prog) (ρ:=A.eval) (w:=w') (o := { dst:=none,op:=Op.store 126 (Operand.tmp 2) (Operand.tmp 38),type:=0,pos := "frame.go:36",after := #[{ on:=0,ground:=Ground.data },{ on:=0,ground:=Ground.phase },{ on:=1,ground:=Ground.textOnly Departure.lateStores }],guard:=none }) (T':=126) (g:=w.heap.size+1) (off:=0) (n:=36) (cs:=fW C9.zero C9.zero C9.zero C9.zero) (es:=fW C9.zero C9.zero C9.zero C9.zero) rfl (by simp [Act.eval,hk]) (by simp [Act.eval,hk,Value.cells]) (by kernel_rfl) rfl (frL_one _ _ _ _) h0 (show 0+36≤36 by omega)
    have e:List.take 0 (fW C9.zero C9.zero C9.zero C9.zero)++fW C9.zero C9.zero C9.zero C9.zero++List.drop (0+(fW C9.zero C9.zero C9.zero C9.zero).length) (fW C9.zero C9.zero C9.zero C9.zero)=fW C9.zero C9.zero C9.zero C9.zero:=by kernel_rfl
    rw [e] at hst
    rw [hst.1]
    exact ⟨_,⟨hst.2.os,hst.2.tape,hst.2.output,hst.2.size,hst.2.at_,hst.2.block⟩,rfl⟩
   refine aY _ ?_ (by first|exact .inl rfl|exact .inr rfl) (by rfl) (by simp [specOf,Kd.spec];rfl) ?_ rfl ?_
   ·exact Sp.is_stable _ _
   refine ⟨by first|rfl|decide,fun f w2 hB hF hAp=>?_⟩;simp [Final1,Sp.is,isVar] at hF;simp only [frameOf]
   obtain ⟨f3,hw2,_⟩:=hF
   have hDR:¬ D=w.heap.size+1:=by
    intro e
    have h1:=HW.out.2.1
    have h2:=HW.out.2.2.2.2.2.2.2
    rw [e,h1] at h2
    injection h2 with h2
    cases h2
   have hK2:=hB.blk HW.out.2.2.2.2.2.2.2 (by simp;omega)
   have HV:=aH (aI hw2 (aI hB hK2))
   clear hAp
   have HBB:=aH hB
   clear hB
   go_wp2
   have hB:=HBB.out
   refine ⟨by simp,.inl ⟨_,_,rfl,run_takeDeferred hK2,?_⟩⟩
   have hg5:(w2.putObj D (.deferred none)).heap[w.heap.size+1]?=some (.cells (fW C9.zero C9.zero C9.zero C9.zero).toArray 126 (0,0)):=(World.putObj_heap_other (by omega)).trans hw2
   have hl:=run_loadVar_mid (P:=Tryz.prog) (w2.putObj D (.deferred none)) (w.heap.size+1) 0 126 (((fW C9.zero C9.zero C9.zero C9.zero).drop 0).take 36) _ (sG hg5 0 36) Tryz.underlying126 rfl (by kernel_rfl)
   have e36:((fW C9.zero C9.zero C9.zero C9.zero).drop 0).take 36=fW C9.zero C9.zero C9.zero C9.zero:=by kernel_rfl
   rw [e36] at hl
   have hbe:=Base.belowT hB HW.out.2.2.2.2.2.2.1 (by omega)
   have hx1:=Base.extT hB HW.out.2.1 (nA _ _ _ _ _)
   have hx2:Go.Proofs.YthjfnlomfihnaaaGreatDoor.Ext Kn w2 (w2.putObj D (.deferred none)):=vA (grownBy_putObj' w2 D _) (fun r e=>by cases e;exact ⟨_,hK2,rfl⟩)
   have hDw:w.heap.size≤D:=by omega
   refine ⟨.tuple #[.agg (fW C9.zero C9.zero C9.zero C9.zero).toArray,.int .i64 zq],?_,rfl,⟨k,Vc.kext (Vc.kext HW.out.2.2.1 hx1) hx2⟩,⟨x',Vc.kext (Vc.kext HW.out.2.2.2.1 hx1) hx2⟩,⟨y',Vc.kext (Vc.kext HW.out.2.2.2.2.1 hx1) hx2⟩,⟨z',Vc.kext (Vc.kext HW.out.2.2.2.2.2.1 hx1) hx2⟩,hbe.trans (belowK_b (w:=w) (aR _) w2 D _ _ hDw hK2 rfl rfl)⟩
   refine (lA (vs := [.agg (fW C9.zero C9.zero C9.zero C9.zero).toArray,.int .i64 zq]) ?_).trans rfl
   show (List.mapM (xO _) [.cell 2 126,.tmp 3]).run _ _=_
   simp [List.mapM_cons,xO,Act.put,asAddr,Sem.run_bind,Result.andThen,hl,f3]
 case stop=>rintro D c pre W _ _ h _;exact h.elim
end Fr
namespace Fr
open Go.RowKit Go.Shelf Ab Pl
set_option maxRecDepth 100000 in
theorem zQ (o1 o2 o3 x1 x2 x3 y1 y2 y3 z1 z2 z3:Rat) (ho:dO o1 o2 o3) (hx:dO x1 x2 x3) (hy:dO y1 y2 y3) (hz:dO z1 z2 z3) (lm:Lm 25 x1 x2 x3 y1 y2 y3 z1 z2 z3) (hax:Ax x1 x2 x3 y1 y2 y3 z1 z2 z3) (w:World) (hG:Gl w) :
 Calls Tryz.prog 82 #[.agg #[.string (writeB o1),.string (writeB o2),.string (writeB o3),.string (writeB x1),.string (writeB x2),.string (writeB x3),.string (writeB y1),.string (writeB y2),.string (writeB y3),.string (writeB z1),.string (writeB z2),.string (writeB z3)]] w fun e w' => ∃ o x y z:C9,e = .returned (.tuple #[.agg (fW o x y z).toArray,.int .i64 0])∧Vc w' o.val o1 o2 o3∧Vc w' x.val x1 x2 x3∧Vc w' y.val y1 y2 y3∧Vc w' z.val z1 z2 z3∧Below w.heap.size w w':=by
 have h:=zP (writeB o1) (writeB o2) (writeB o3) (writeB x1) (writeB x2) (writeB x3) (writeB y1) (writeB y2) (writeB y3) (writeB z1) (writeB z2) (writeB z3) o1 o2 o3 x1 x2 x3 y1 y2 y3 z1 z2 z3 0 0 0 0 0 0
  (.inl rfl) (.inl rfl) (.inl rfl) (.inl rfl) rfl (fun W hW=>lN ho W hW) (fun W hW=>lN hx W hW) (fun W hW=>lN hy W hW) (fun W hW=>lN hz W hW)
  (fun _ _ _ _ _ _ v0 v1 v2 v3=>check_any v0 v1 v2 v3 lm hax) w hG
 rw [if_pos rfl] at h
 simpa only [if_true] using h
theorem holds_txt {β:List Nat} {w:World}:∀ (l:List ByteArray) (cs:List Value),holdsL β (l.map dD) cs w→cs=l.map Value.string
 | [],cs,h=>h
 | b::l,cs,⟨x,y,e,h1,h2⟩=>by
   have h1:x = [.string b]:=h1
   rw [e,h1,holds_txt l y h2]
   rfl
section
variable {o1 o2 o3 x1 x2 x3 y1 y2 y3 z1 z2 z3:Rat}
theorem readFrameF (h:Wf o1 o2 o3 x1 x2 x3 y1 y2 y3 z1 z2 z3) (hax:Ax x1 x2 x3 y1 y2 y3 z1 z2 z3):jX 82 [lG o1 o2 o3 x1 x2 x3 y1 y2 y3 z1 z2 z3] (okFr o1 o2 o3 x1 x2 x3 y1 y2 y3 z1 z2 z3):=by
 intro β w vs hG hv
 obtain ⟨v,rfl,cs,rfl,h1⟩:=dP hv
 have e:=holds_txt [writeB o1,writeB o2,writeB o3,writeB x1,writeB x2,writeB x3,writeB y1,writeB y2,writeB y3,writeB z1,writeB z2,writeB z3] cs h1
 rw [e]
 refine (zQ o1 o2 o3 x1 x2 x3 y1 y2 y3 z1 z2 z3 h.o h.x h.y h.z (h.lm.mono (by decide)) hax w hG).mono ?_
 rintro e w' ⟨o,x,y,z,e1,v0,v1,v2,v3,hb⟩
 exact ⟨_,e1,hb,[.agg (fW o x y z).toArray,.int .i64 0],rfl,_,_,rfl,fr_holds v0 v1 v2 v3,_,_,rfl,⟨rfl,rfl⟩,rfl⟩
theorem fv_of (h:Wf o1 o2 o3 x1 x2 x3 y1 y2 y3 z1 z2 z3) (hax:Ax x1 x2 x3 y1 y2 y3 z1 z2 z3):Fv o1 o2 o3 x1 x2 x3 y1 y2 y3 z1 z2 z3:=⟨h,hax,readFrameF h hax⟩
end
end Fr
namespace Ab
open Go.RowKit Pl
inductive AvL:List (AV Kn)→List (AV Kn)→Prop where
 | nil:AvL [] []
 | ag {k m l l'}:LitL k m→AvL l l'→AvL (.fv (.ag k)::l) (.fv (.ag m)::l')
 | txt {b:ByteArray} {l l'}:AvL l l'→AvL (.fv (.sc (dD b))::l) (.fv (.sc (.lit (.string b)))::l')
 | same {x:AV Kn} {l l'}:AvL l l'→AvL (x::l) (x::l')
theorem AvL.to {β:List Nat} {w:World} {l m:List (AV Kn)} (h:AvL l m):∀ {vs:List Value},holdsA β m vs w→holdsA β l vs w:=by
 induction h with
 | nil=>intro vs h;exact h
 | ag hl _ ih=>rintro vs ⟨v,r,e,h1,h2⟩;exact ⟨v,r,e,(ag_lit hl).2 h1,ih h2⟩
 | txt _ ih=>rintro vs ⟨v,r,e,h1,h2⟩;exact ⟨v,r,e,sc_lit.2 h1,ih h2⟩
 | same _ ih=>rintro vs ⟨v,r,e,h1,h2⟩;exact ⟨v,r,e,h1,ih h2⟩
inductive FvL:List (FV Kn)→List (FV Kn)→Prop where
 | nil:FvL [] []
 | ag {k m l l'}:LitL k m→FvL l l'→FvL (.ag k::l) (.ag m::l')
 | txt {b:ByteArray} {l l'}:FvL l l'→FvL (.sc (dD b)::l) (.sc (.lit (.string b))::l')
 | same {x:FV Kn} {l l'}:FvL l l'→FvL (x::l) (x::l')
theorem FvL.to {β:List Nat} {w:World} {l m:List (FV Kn)} (h:FvL l m):∀ {vs:List Value},holdsF β l vs w→holdsF β m vs w:=by
 induction h with
 | nil=>intro vs h;exact h
 | ag hl _ ih=>rintro vs ⟨v,r,e,h1,h2⟩;exact ⟨v,r,e,(ag_lit hl).1 h1,ih h2⟩
 | txt _ ih=>rintro vs ⟨v,r,e,h1,h2⟩;exact ⟨v,r,e,(sc_lit (β:=β)).1 h1,ih h2⟩
 | same _ ih=>rintro vs ⟨v,r,e,h1,h2⟩;exact ⟨v,r,e,h1,ih h2⟩
theorem FitsW.lits {P:Program} {I:World→Prop} {f:FuncId} {l l' : List (AV Kn)} {r r' : List (FV Kn)} (h:FitsW P I f l (.tup r)) (ha:AvL l l') (hr:FvL r r'):FitsW P I f l' (.tup r') :=
 (h.args fun _ _ _ hv=>ha.to hv).res fun _ _ _ ⟨vs,e,hv⟩=>⟨vs,e,hr.to hv⟩
theorem Fits.lits {P:Program} {f:FuncId} {l l' : List (AV Kn)} {k m:List (Seg Kn)} (h:Fits P f l (.fv (.ag k))) (ha:AvL l l') (hr:LitL k m):Fits P f l' (.fv (.ag m)):=fun β w vs hv =>
 (h β w vs (ha.to hv)).mono fun e w' ⟨v,e1,e2,e3⟩=>⟨v,e1,e2,(ag_lit hr).1 e3⟩
theorem vc_eq {P:Program} {f:FuncId} {l:List (AV Kn)} {a b c a' b' c' : Rat} (h:Fits P f l (vc a b c)) (e1:a=a') (e2:b=b') (e3:c=c'):Fits P f l (vc a' b' c'):=by
 subst e1
 subst e2
 subst e3
 exact h
theorem wr_q {q:Rat} (hn:q.num.natAbs<1000000000) (hd:q.den<1000000000):Wr q :=
 ⟨Nat.le_trans (decB_size (k:=8) hn) (by decide),Nat.le_trans (decB_size (k:=8) hd) (by decide)⟩
theorem pN {z:Int} (h:z.natAbs<1000000000):Wr (z:Rat):=wr_q h (show 1<1000000000 by omega)
theorem kV {q:Rat} {n:Int} {d:Nat} {a b:ByteArray} (hn:q.num=n) (hd:q.den=d) (h1:d≠1) (ha:aP n=a) (hb:decB d=b):writeB q=a++(⟨#[47]⟩++b):=by
 rw [fI (by rw [hd];exact h1),hn,hd,ha,hb]
theorem x0:writeB ((0:Int):Rat)=⟨#[48]⟩:=dC (by omega) (bN (n:=0) (by omega))
theorem x1:writeB ((1:Int):Rat)=⟨#[49]⟩:=dC (by omega) (bN (n:=1) (by omega))
theorem x2:writeB ((2:Int):Rat)=⟨#[50]⟩:=dC (by omega) (bN (n:=2) (by omega))
theorem x3:writeB ((3:Int):Rat)=⟨#[51]⟩:=dC (by omega) (bN (n:=3) (by omega))
theorem x4:writeB ((4:Int):Rat)=⟨#[52]⟩:=dC (by omega) (bN (n:=4) (by omega))
theorem x5:writeB ((5:Int):Rat)=⟨#[53]⟩:=dC (by omega) (bN (n:=5) (by omega))
theorem x7:writeB ((7:Int):Rat)=⟨#[55]⟩:=dC (by omega) (bN (n:=7) (by omega))
theorem x10:writeB ((10:Int):Rat)=⟨#[49,48]⟩:=dC (by omega) (mY (n:=10) (by omega) (by omega))
theorem x24:writeB ((24:Int):Rat)=⟨#[50,52]⟩:=dC (by omega) (mY (n:=24) (by omega) (by omega))
theorem x25:writeB ((25:Int):Rat)=⟨#[50,53]⟩:=dC (by omega) (mY (n:=25) (by omega) (by omega))
theorem x28:writeB ((28:Int):Rat)=⟨#[50,56]⟩:=dC (by omega) (mY (n:=28) (by omega) (by omega))
theorem x30:writeB ((30:Int):Rat)=⟨#[51,48]⟩:=dC (by omega) (mY (n:=30) (by omega) (by omega))
theorem xm1:writeB ((-1:Int):Rat)=⟨#[45,49]⟩:=(fU (z := -1) (by omega) (b:=⟨#[49]⟩) (by rw [show Int.natAbs (-1)=1 from rfl];exact bN (n:=1) (by omega))).trans (ba_ext rfl)
theorem xm2:writeB ((-2:Int):Rat)=⟨#[45,50]⟩:=(fU (z := -2) (by omega) (b:=⟨#[50]⟩) (by rw [show Int.natAbs (-2)=2 from rfl];exact bN (n:=2) (by omega))).trans (ba_ext rfl)
theorem xm4:writeB ((-4:Int):Rat)=⟨#[45,52]⟩:=(fU (z := -4) (by omega) (b:=⟨#[52]⟩) (by rw [show Int.natAbs (-4)=4 from rfl];exact bN (n:=4) (by omega))).trans (ba_ext rfl)
theorem xm7:writeB ((-7:Int):Rat)=⟨#[45,55]⟩:=(fU (z := -7) (by omega) (b:=⟨#[55]⟩) (by rw [show Int.natAbs (-7)=7 from rfl];exact bN (n:=7) (by omega))).trans (ba_ext rfl)
theorem xm24:writeB ((-24:Int):Rat)=⟨#[45,50,52]⟩:=(fU (z := -24) (by omega) (b:=⟨#[50,52]⟩) (by rw [show Int.natAbs (-24)=24 from rfl];exact mY (n:=24) (by omega) (by omega))).trans (ba_ext rfl)
theorem r0:Wr ((0:Int):Rat):=pN (by decide)
theorem r1:Wr ((1:Int):Rat):=pN (by decide)
theorem r2:Wr ((2:Int):Rat):=pN (by decide)
theorem r3:Wr ((3:Int):Rat):=pN (by decide)
theorem r4:Wr ((4:Int):Rat):=pN (by decide)
theorem r5:Wr ((5:Int):Rat):=pN (by decide)
theorem r7:Wr ((7:Int):Rat):=pN (by decide)
theorem r10:Wr ((10:Int):Rat):=pN (by decide)
theorem r24:Wr ((24:Int):Rat):=pN (by decide)
theorem r25:Wr ((25:Int):Rat):=pN (by decide)
theorem r28:Wr ((28:Int):Rat):=pN (by decide)
theorem r30:Wr ((30:Int):Rat):=pN (by decide)
theorem rm1:Wr ((-1:Int):Rat):=pN (by decide)
theorem rm2:Wr ((-2:Int):Rat):=pN (by decide)
theorem rm4:Wr ((-4:Int):Rat):=pN (by decide)
theorem rm7:Wr ((-7:Int):Rat):=pN (by decide)
theorem rm24:Wr ((-24:Int):Rat):=pN (by decide)
theorem nh12:(mkRat (1) 2).num=1:=by kernel_rfl
theorem dh12:(mkRat (1) 2).den=2:=by kernel_rfl
theorem xh12:writeB (mkRat (1) 2)=⟨#[49,47,50]⟩:=(kV nh12 dh12 (by decide) (a:=⟨#[49]⟩) ((dH (1)).trans x1) (bN (n:=2) (by omega))).trans (ba_ext rfl)
theorem rh12:Wr (mkRat (1) 2):=wr_q (by rw [nh12];decide) (by rw [dh12];decide)
theorem nm13:(mkRat (-1) 3).num = -1:=by kernel_rfl
theorem dm13:(mkRat (-1) 3).den=3:=by kernel_rfl
theorem xm13:writeB (mkRat (-1) 3)=⟨#[45,49,47,51]⟩:=(kV nm13 dm13 (by decide) (a:=⟨#[45,49]⟩) ((dH (-1)).trans xm1) (bN (n:=3) (by omega))).trans (ba_ext rfl)
theorem rm13:Wr (mkRat (-1) 3):=wr_q (by rw [nm13];decide) (by rw [dm13];decide)
theorem nq252:(mkRat (25) 2).num=25:=by kernel_rfl
theorem dq252:(mkRat (25) 2).den=2:=by kernel_rfl
theorem xq252:writeB (mkRat (25) 2)=⟨#[50,53,47,50]⟩:=(kV nq252 dq252 (by decide) (a:=⟨#[50,53]⟩) ((dH (25)).trans x25) (bN (n:=2) (by omega))).trans (ba_ext rfl)
theorem rq252:Wr (mkRat (25) 2):=wr_q (by rw [nq252];decide) (by rw [dq252];decide)
theorem nm12:(mkRat (-1) 2).num = -1:=by kernel_rfl
theorem dm12:(mkRat (-1) 2).den=2:=by kernel_rfl
theorem xm12:writeB (mkRat (-1) 2)=⟨#[45,49,47,50]⟩:=(kV nm12 dm12 (by decide) (a:=⟨#[45,49]⟩) ((dH (-1)).trans xm1) (bN (n:=2) (by omega))).trans (ba_ext rfl)
theorem rm12:Wr (mkRat (-1) 2):=wr_q (by rw [nm12];decide) (by rw [dm12];decide)
theorem nq23:(mkRat (2) 3).num=2:=by kernel_rfl
theorem dq23:(mkRat (2) 3).den=3:=by kernel_rfl
theorem xq23:writeB (mkRat (2) 3)=⟨#[50,47,51]⟩:=(kV nq23 dq23 (by decide) (a:=⟨#[50]⟩) ((dH (2)).trans x2) (bN (n:=3) (by omega))).trans (ba_ext rfl)
theorem rq23:Wr (mkRat (2) 3):=wr_q (by rw [nq23];decide) (by rw [dq23];decide)
theorem lv_2_0_4:jF 29 [it (2),it (0),it (4)] (.fv (.ag [.lit (.string ⟨#[50]⟩),.lit (.string ⟨#[48]⟩),.lit (.string ⟨#[52]⟩)]):AV Kn):=by
 have h:=dL (a:=2) (b:=0) (c:=4) (by constructor <;> omega) (by constructor <;> omega) (by constructor <;> omega)
 simp only [vS,tU,fO,sZ,hS,lG,gQ,x0,x2,x4] at h
 exact h.lits (.same (.same (.same .nil))) (.txt (.txt (.txt .nil)))
theorem lv_m1_0_m2:jF 29 [it (-1),it (0),it (-2)] (.fv (.ag [.lit (.string ⟨#[45,49]⟩),.lit (.string ⟨#[48]⟩),.lit (.string ⟨#[45,50]⟩)]):AV Kn):=by
 have h:=dL (a := -1) (b:=0) (c := -2) (by constructor <;> omega) (by constructor <;> omega) (by constructor <;> omega)
 simp only [vS,tU,fO,sZ,hS,lG,gQ,x0,xm1,xm2] at h
 exact h.lits (.same (.same (.same .nil))) (.txt (.txt (.txt .nil)))
theorem lv_1_0_0:jF 29 [it (1),it (0),it (0)] (.fv (.ag [.lit (.string ⟨#[49]⟩),.lit (.string ⟨#[48]⟩),.lit (.string ⟨#[48]⟩)]):AV Kn):=by
 have h:=dL (a:=1) (b:=0) (c:=0) (by constructor <;> omega) (by constructor <;> omega) (by constructor <;> omega)
 simp only [vS,tU,fO,sZ,hS,lG,gQ,x0,x1] at h
 exact h.lits (.same (.same (.same .nil))) (.txt (.txt (.txt .nil)))
theorem lv_0_1_0:jF 29 [it (0),it (1),it (0)] (.fv (.ag [.lit (.string ⟨#[48]⟩),.lit (.string ⟨#[49]⟩),.lit (.string ⟨#[48]⟩)]):AV Kn):=by
 have h:=dL (a:=0) (b:=1) (c:=0) (by constructor <;> omega) (by constructor <;> omega) (by constructor <;> omega)
 simp only [vS,tU,fO,sZ,hS,lG,gQ,x0,x1] at h
 exact h.lits (.same (.same (.same .nil))) (.txt (.txt (.txt .nil)))
theorem lv_0_0_1:jF 29 [it (0),it (0),it (1)] (.fv (.ag [.lit (.string ⟨#[48]⟩),.lit (.string ⟨#[48]⟩),.lit (.string ⟨#[49]⟩)]):AV Kn):=by
 have h:=dL (a:=0) (b:=0) (c:=1) (by constructor <;> omega) (by constructor <;> omega) (by constructor <;> omega)
 simp only [vS,tU,fO,sZ,hS,lG,gQ,x0,x1] at h
 exact h.lits (.same (.same (.same .nil))) (.txt (.txt (.txt .nil)))
theorem lv_0_0_0:jF 29 [it (0),it (0),it (0)] (.fv (.ag [.lit (.string ⟨#[48]⟩),.lit (.string ⟨#[48]⟩),.lit (.string ⟨#[48]⟩)]):AV Kn):=by
 have h:=dL (a:=0) (b:=0) (c:=0) (by constructor <;> omega) (by constructor <;> omega) (by constructor <;> omega)
 simp only [vS,tU,fO,sZ,hS,lG,gQ,x0] at h
 exact h.lits (.same (.same (.same .nil))) (.txt (.txt (.txt .nil)))
theorem lv_1_1_1:jF 29 [it (1),it (1),it (1)] (.fv (.ag [.lit (.string ⟨#[49]⟩),.lit (.string ⟨#[49]⟩),.lit (.string ⟨#[49]⟩)]):AV Kn):=by
 have h:=dL (a:=1) (b:=1) (c:=1) (by constructor <;> omega) (by constructor <;> omega) (by constructor <;> omega)
 simp only [vS,tU,fO,sZ,hS,lG,gQ,x1] at h
 exact h.lits (.same (.same (.same .nil))) (.txt (.txt (.txt .nil)))
theorem lv_1_1_0:jF 29 [it (1),it (1),it (0)] (.fv (.ag [.lit (.string ⟨#[49]⟩),.lit (.string ⟨#[49]⟩),.lit (.string ⟨#[48]⟩)]):AV Kn):=by
 have h:=dL (a:=1) (b:=1) (c:=0) (by constructor <;> omega) (by constructor <;> omega) (by constructor <;> omega)
 simp only [vS,tU,fO,sZ,hS,lG,gQ,x0,x1] at h
 exact h.lits (.same (.same (.same .nil))) (.txt (.txt (.txt .nil)))
theorem lv_0_7_5:jF 29 [it (0),it (7),it (5)] (.fv (.ag [.lit (.string ⟨#[48]⟩),.lit (.string ⟨#[55]⟩),.lit (.string ⟨#[53]⟩)]):AV Kn):=by
 have h:=dL (a:=0) (b:=7) (c:=5) (by constructor <;> omega) (by constructor <;> omega) (by constructor <;> omega)
 simp only [vS,tU,fO,sZ,hS,lG,gQ,x0,x5,x7] at h
 exact h.lits (.same (.same (.same .nil))) (.txt (.txt (.txt .nil)))
theorem lv_m1_0_0:jF 29 [it (-1),it (0),it (0)] (.fv (.ag [.lit (.string ⟨#[45,49]⟩),.lit (.string ⟨#[48]⟩),.lit (.string ⟨#[48]⟩)]):AV Kn):=by
 have h:=dL (a := -1) (b:=0) (c:=0) (by constructor <;> omega) (by constructor <;> omega) (by constructor <;> omega)
 simp only [vS,tU,fO,sZ,hS,lG,gQ,x0,xm1] at h
 exact h.lits (.same (.same (.same .nil))) (.txt (.txt (.txt .nil)))
theorem lv_4_4_0:jF 29 [it (4),it (4),it (0)] (.fv (.ag [.lit (.string ⟨#[52]⟩),.lit (.string ⟨#[52]⟩),.lit (.string ⟨#[48]⟩)]):AV Kn):=by
 have h:=dL (a:=4) (b:=4) (c:=0) (by constructor <;> omega) (by constructor <;> omega) (by constructor <;> omega)
 simp only [vS,tU,fO,sZ,hS,lG,gQ,x0,x4] at h
 exact h.lits (.same (.same (.same .nil))) (.txt (.txt (.txt .nil)))
theorem lv_m7_24_0:jF 29 [it (-7),it (24),it (0)] (.fv (.ag [.lit (.string ⟨#[45,55]⟩),.lit (.string ⟨#[50,52]⟩),.lit (.string ⟨#[48]⟩)]):AV Kn):=by
 have h:=dL (a := -7) (b:=24) (c:=0) (by constructor <;> omega) (by constructor <;> omega) (by constructor <;> omega)
 simp only [vS,tU,fO,sZ,hS,lG,gQ,x0,x24,xm7] at h
 exact h.lits (.same (.same (.same .nil))) (.txt (.txt (.txt .nil)))
theorem lv_5_5_0:jF 29 [it (5),it (5),it (0)] (.fv (.ag [.lit (.string ⟨#[53]⟩),.lit (.string ⟨#[53]⟩),.lit (.string ⟨#[48]⟩)]):AV Kn):=by
 have h:=dL (a:=5) (b:=5) (c:=0) (by constructor <;> omega) (by constructor <;> omega) (by constructor <;> omega)
 simp only [vS,tU,fO,sZ,hS,lG,gQ,x0,x5] at h
 exact h.lits (.same (.same (.same .nil))) (.txt (.txt (.txt .nil)))
theorem lv_10_7_1:jF 29 [it (10),it (7),it (1)] (.fv (.ag [.lit (.string ⟨#[49,48]⟩),.lit (.string ⟨#[55]⟩),.lit (.string ⟨#[49]⟩)]):AV Kn):=by
 have h:=dL (a:=10) (b:=7) (c:=1) (by constructor <;> omega) (by constructor <;> omega) (by constructor <;> omega)
 simp only [vS,tU,fO,sZ,hS,lG,gQ,x1,x10,x7] at h
 exact h.lits (.same (.same (.same .nil))) (.txt (.txt (.txt .nil)))
theorem lframe:jF 34 ([]:List (AV Kn)) (.fv (.ag [.lit (.string ⟨#[49]⟩),.lit (.string ⟨#[48]⟩),.lit (.string ⟨#[48]⟩),.lit (.string ⟨#[51]⟩),.lit (.string ⟨#[52]⟩),.lit (.string ⟨#[48]⟩),.lit (.string ⟨#[45,52]⟩),.lit (.string ⟨#[51]⟩),.lit (.string ⟨#[48]⟩),.lit (.string ⟨#[48]⟩),.lit (.string ⟨#[48]⟩),.lit (.string ⟨#[53]⟩)]):AV Kn):=by
 have h:=lawFrameF
 simp only [vS,tU,fO,sZ,hS,lG,gQ,x0,x1,x3,x4,x5,xm4] at h
 exact h.lits .nil (.txt (.txt (.txt (.txt (.txt (.txt (.txt (.txt (.txt (.txt (.txt (.txt (.nil)))))))))))))
theorem wfF:Wf ((1:Int):Rat) ((0:Int):Rat) ((0:Int):Rat) ((3:Int):Rat) ((4:Int):Rat) ((0:Int):Rat) ((-4:Int):Rat) ((3:Int):Rat) ((0:Int):Rat) ((0:Int):Rat) ((0:Int):Rat) ((5:Int):Rat):=⟨⟨r1,r0,r0⟩,⟨r3,r4,r0⟩,⟨rm4,r3,r0⟩,⟨r0,r0,r5⟩⟩
theorem axF:Ax ((3:Int):Rat) ((4:Int):Rat) ((0:Int):Rat) ((-4:Int):Rat) ((3:Int):Rat) ((0:Int):Rat) ((0:Int):Rat) ((0:Int):Rat) ((5:Int):Rat):=⟨by kernel_rfl,by kernel_rfl,by kernel_rfl,by kernel_rfl,by kernel_rfl,by kernel_rfl,by kernel_rfl⟩
theorem fvF:Fv ((1:Int):Rat) ((0:Int):Rat) ((0:Int):Rat) ((3:Int):Rat) ((4:Int):Rat) ((0:Int):Rat) ((-4:Int):Rat) ((3:Int):Rat) ((0:Int):Rat) ((0:Int):Rat) ((0:Int):Rat) ((5:Int):Rat):=Go.Proofs.YthjfnlomfihnaaaGreatDoor.Fr.fv_of wfF axF
theorem hv111 {d:Rat} (h:Wr d):Hv 1 1 1 d:=⟨by constructor <;> omega,by constructor <;> omega,by constructor <;> omega,h,ck_111⟩
theorem hv100 {d:Rat} (h:Wr d):Hv 1 0 0 d:=⟨by constructor <;> omega,by constructor <;> omega,by constructor <;> omega,h,ck_100⟩
theorem hv302 {d:Rat} (h:Wr d):Hv 3 0 (-2) d:=⟨by constructor <;> omega,by constructor <;> omega,by constructor <;> omega,h,ck_302⟩
theorem oG {a:Rat} (h:decide (a=0)=false):a≠0:=of_decide_eq_false h
theorem asc_1250:∀ (j:Nat) (b:UInt8),(⟨#[49,50,46,53,48]⟩:ByteArray).data.toList[j]?=some b→b.toNat<128:=by
 intro j b h
 have:=List.mem_of_getElem? h
 simp at this
 rcases this with rfl|rfl|rfl|rfl|rfl <;> decide
theorem dig_12:AllDig (aC ⟨#[49,50]⟩):=by intro c hc;simp [aC] at hc;rcases hc with rfl|rfl <;> decide
theorem dig_50:AllDig (aC ⟨#[53,48]⟩):=by intro c hc;simp [aC] at hc;rcases hc with rfl|rfl <;> decide
theorem dec_100:decB 100=⟨#[49,48,48]⟩:=by unfold decB;rw [eR (by omega),eR (by omega),cR (by omega)];rfl
theorem dec_1250:decB 1250=⟨#[49,50,53,48]⟩:=by unfold decB;rw [eR (by omega),eR (by omega),eR (by omega),cR (by omega)];rfl
theorem q1250:mkRat (sg false 1250) 100=mkRat 25 2:=by kernel_rfl
theorem lv_small {n k:Nat} (h:n<1000000000):Lv k n:=(Lv.one n (by rw [aL];omega)).mono (Nat.zero_le _)
theorem eParse:jX 28 [lt ⟨#[49,50,46,53,48]⟩] (.tup [.sc (.lit (.string ⟨#[50,53,47,50]⟩)),.sc z0]):=by
 have hp:jF 69 [tx ⟨#[49,50,46,53,48]⟩] (.tup [.sc (dD (decB 1250)),.sc (dD (decB 100)),.sc z0]):=by
  have h:=partsDot (s:=⟨#[49,50,46,53,48]⟩) (a:=⟨#[49,50]⟩) (b:=⟨#[53,48]⟩) (z:=⟨#[48,48]⟩) (k:=2) (indexAnyF (by decide) asc_1250 (by kernel_rfl)) (by decide) (by decide) (ba_ext rfl) (ba_ext rfl) dig_12 (by decide) dig_50 (by decide) rfl (repeatF (by decide) (by decide) (ba_ext (by kernel_rfl))) (by decide)
  have e1:(⟨#[49,50]⟩++⟨#[53,48]⟩:ByteArray)=decB 1250:=dec_1250.symm
  have e2:(⟨#[49]⟩++⟨#[48,48]⟩:ByteArray)=decB 100:=dec_100.symm
  rw [e1,e2] at h
  exact h
 have h:=parseF' (s:=⟨#[49,50,46,53,48]⟩) (n:=1250) (d:=100) (by decide) (by kernel_rfl) hp (by rw [dec_1250];decide) (by rw [dec_100];decide) (lv_small (by decide)) (lv_small (by decide)) (by decide) (by rw [q1250];exact rq252.lf.mono (by decide)) (by rw [q1250];exact rq252.n) (by rw [q1250];exact rq252.d)
 rw [q1250,xq252] at h
 exact h.lits (.txt .nil) (.txt (.same .nil))
theorem eAlong:jX 15 [(.fv (.ag [.lit (.string ⟨#[50]⟩),.lit (.string ⟨#[48]⟩),.lit (.string ⟨#[52]⟩)]):AV Kn),(.fv (.ag [.lit (.string ⟨#[45,49]⟩),.lit (.string ⟨#[48]⟩),.lit (.string ⟨#[45,50]⟩)]):AV Kn)] (.tup [.sc (.lit (.string ⟨#[45,49,47,50]⟩)),.sc z0]):=by
 have h:=uO (a:=((2:Int):Rat)) (b:=((0:Int):Rat)) (c:=((4:Int):Rat)) (x:=((-1:Int):Rat)) (y:=((0:Int):Rat)) (z:=((-2:Int):Rat)) ⟨r2,r0,r4⟩ ⟨rm1,r0,rm2⟩ (by kernel_rfl) (by kernel_rfl) (oG (by kernel_rfl)) (by rw [show dt ((-1:Int):Rat) ((0:Int):Rat) ((-2:Int):Rat) ((2:Int):Rat) ((0:Int):Rat) ((4:Int):Rat)/dt ((2:Int):Rat) ((0:Int):Rat) ((4:Int):Rat) ((2:Int):Rat) ((0:Int):Rat) ((4:Int):Rat)=mkRat (-1) 2 from by kernel_rfl];exact rm12)
 rw [show dt ((-1:Int):Rat) ((0:Int):Rat) ((-2:Int):Rat) ((2:Int):Rat) ((0:Int):Rat) ((4:Int):Rat)/dt ((2:Int):Rat) ((0:Int):Rat) ((4:Int):Rat) ((2:Int):Rat) ((0:Int):Rat) ((4:Int):Rat)=mkRat (-1) 2 from by kernel_rfl] at h
 simp only [vS,tU,fO,sZ,hS,lG,gQ,x0,x2,x4,xm1,xm12,xm2] at h
 exact h.lits (.ag (.txt (.txt (.txt .nil))) (.ag (.txt (.txt (.txt .nil))) .nil)) (.txt (.same .nil))
theorem eMake:jX 30 [(.fv (.ag [.lit (.string ⟨#[49,47,50]⟩),.lit (.string ⟨#[48]⟩),.lit (.string ⟨#[45,49,47,51]⟩)]):AV Kn),lt ⟨#[53]⟩] (.tup [.ag [.lit (.int .i64 (3)),.lit (.int .i64 (0)),.lit (.int .i64 (-2)),.lit (.string ⟨#[51,48]⟩)],.sc z0]):=by
 have h:=apiMakeHalfF (n1:=mkRat 1 2) (n2:=((0:Int):Rat)) (n3:=mkRat (-1) 3) (d:=((5:Int):Rat)) (z1:=3) (z2:=0) (z3 := -2) (e:=((30:Int):Rat)) ⟨rh12,r0,rm13⟩ r5 ⟨rh12.lf.mono (by decide),r0.lf.mono (by decide),rm13.lf.mono (by decide),r5.lf.mono (by decide),fun ⟨e,_,_⟩=>oG (a:=mkRat 1 2) (by kernel_rfl) e,by kernel_rfl,by kernel_rfl,by kernel_rfl,by kernel_rfl,by constructor <;> omega,by constructor <;> omega,by constructor <;> omega,r30⟩
 simp only [vS,tU,fO,sZ,hS,lG,gQ,x0,x30,x5,xh12,xm13] at h
 exact h.lits (.ag (.txt (.txt (.txt .nil))) (.txt .nil)) (.ag (.same (.same (.same (.txt .nil)))) (.same .nil))
theorem eThrough:jX 31 [(.fv (.ag [.lit (.string ⟨#[49]⟩),.lit (.string ⟨#[48]⟩),.lit (.string ⟨#[48]⟩)]):AV Kn),(.fv (.ag [.lit (.string ⟨#[48]⟩),.lit (.string ⟨#[49]⟩),.lit (.string ⟨#[48]⟩)]):AV Kn),(.fv (.ag [.lit (.string ⟨#[48]⟩),.lit (.string ⟨#[48]⟩),.lit (.string ⟨#[49]⟩)]):AV Kn)] (.tup [.ag [.lit (.int .i64 (1)),.lit (.int .i64 (1)),.lit (.int .i64 (1)),.lit (.string ⟨#[49]⟩)],.sc z0]):=by
 have h:=apiThroughF (a1:=((1:Int):Rat)) (a2:=((0:Int):Rat)) (a3:=((0:Int):Rat)) (b1:=((0:Int):Rat)) (b2:=((1:Int):Rat)) (b3:=((0:Int):Rat)) (c1:=((0:Int):Rat)) (c2:=((0:Int):Rat)) (c3:=((1:Int):Rat)) (m1:=((1:Int):Rat)) (m2:=((1:Int):Rat)) (m3:=((1:Int):Rat)) (z1:=1) (z2:=1) (z3:=1) (e:=((1:Int):Rat)) ⟨r1,r0,r0⟩ ⟨r0,r1,r0⟩ ⟨r0,r0,r1⟩ (by kernel_rfl) (by kernel_rfl) (by kernel_rfl) ⟨r1.lf.mono (by decide),r1.lf.mono (by decide),r1.lf.mono (by decide),by rw [show dt ((1:Int):Rat) ((1:Int):Rat) ((1:Int):Rat) ((1:Int):Rat) ((0:Int):Rat) ((0:Int):Rat)=((1:Int):Rat) from by kernel_rfl];exact r1.lf.mono (by decide),fun ⟨e,_,_⟩=>oG (a:=((1:Int):Rat)) (by kernel_rfl) e,by kernel_rfl,by kernel_rfl,by kernel_rfl,by kernel_rfl,by constructor <;> omega,by constructor <;> omega,by constructor <;> omega,r1⟩
 simp only [vS,tU,fO,sZ,hS,lG,gQ,x0,x1] at h
 exact h.lits (.ag (.txt (.txt (.txt .nil))) (.ag (.txt (.txt (.txt .nil))) (.ag (.txt (.txt (.txt .nil))) .nil))) (.ag (.same (.same (.same (.txt .nil)))) (.same .nil))
theorem eMirror:jX 32 [(.fv (.ag [.lit (.int .i64 (1)),.lit (.int .i64 (1)),.lit (.int .i64 (1)),.lit (.string ⟨#[49]⟩)]):AV Kn),(.fv (.ag [.lit (.string ⟨#[48]⟩),.lit (.string ⟨#[48]⟩),.lit (.string ⟨#[48]⟩)]):AV Kn)] (.tup [.ag [.lit (.string ⟨#[50,47,51]⟩),.lit (.string ⟨#[50,47,51]⟩),.lit (.string ⟨#[50,47,51]⟩)],.sc z0]):=by
 have h:=apiMirrorF (z1:=1) (z2:=1) (z3:=1) (d:=((1:Int):Rat)) (p1:=((0:Int):Rat)) (p2:=((0:Int):Rat)) (p3:=((0:Int):Rat)) (m1:=mkRat 2 3) (m2:=mkRat 2 3) (m3:=mkRat 2 3) (hv111 r1) ⟨r0,r0,r0⟩ (oG (by kernel_rfl)) (by kernel_rfl) (by kernel_rfl) (by kernel_rfl) ⟨rq23,rq23,rq23⟩
 simp only [vS,tU,fO,sZ,hS,lG,gQ,x0,x1,xq23] at h
 exact h.lits (.ag (.same (.same (.same (.txt .nil)))) (.ag (.txt (.txt (.txt .nil))) .nil)) (.ag (.txt (.txt (.txt .nil))) (.same .nil))
theorem ePlace:jX 33 [(.fv (.ag [.lit (.string ⟨#[49]⟩),.lit (.string ⟨#[48]⟩),.lit (.string ⟨#[48]⟩),.lit (.string ⟨#[51]⟩),.lit (.string ⟨#[52]⟩),.lit (.string ⟨#[48]⟩),.lit (.string ⟨#[45,52]⟩),.lit (.string ⟨#[51]⟩),.lit (.string ⟨#[48]⟩),.lit (.string ⟨#[48]⟩),.lit (.string ⟨#[48]⟩),.lit (.string ⟨#[53]⟩)]):AV Kn),(.fv (.ag [.lit (.string ⟨#[49]⟩),.lit (.string ⟨#[49]⟩),.lit (.string ⟨#[49]⟩)]):AV Kn)] (.tup [.ag [.lit (.string ⟨#[48]⟩),.lit (.string ⟨#[55]⟩),.lit (.string ⟨#[53]⟩)],.sc z0]):=by
 have h:=apiPlaceF (o1:=((1:Int):Rat)) (o2:=((0:Int):Rat)) (o3:=((0:Int):Rat)) (x1:=((3:Int):Rat)) (x2:=((4:Int):Rat)) (x3:=((0:Int):Rat)) (y1:=((-4:Int):Rat)) (y2:=((3:Int):Rat)) (y3:=((0:Int):Rat)) (z1:=((0:Int):Rat)) (z2:=((0:Int):Rat)) (z3:=((5:Int):Rat)) (p1:=((1:Int):Rat)) (p2:=((1:Int):Rat)) (p3:=((1:Int):Rat)) (m1:=((0:Int):Rat)) (m2:=((7:Int):Rat)) (m3:=((5:Int):Rat)) fvF ⟨r1,r1,r1⟩ (by kernel_rfl) (by kernel_rfl) (by kernel_rfl) ⟨r0,r7,r5⟩
 simp only [vS,tU,fO,sZ,hS,lG,gQ,x0,x1,x3,x4,x5,x7,xm4] at h
 exact h.lits (.ag (.txt (.txt (.txt (.txt (.txt (.txt (.txt (.txt (.txt (.txt (.txt (.txt (.nil))))))))))))) (.ag (.txt (.txt (.txt .nil))) .nil)) (.ag (.txt (.txt (.txt .nil))) (.same .nil))
theorem r325:Wr (mkRat 3 25):=wr_q (by rw [show (mkRat 3 25).num=3 from by kernel_rfl];decide) (by rw [show (mkRat 3 25).den=25 from by kernel_rfl];decide)
theorem r425:Wr (mkRat 4 25):=wr_q (by rw [show (mkRat 4 25).num=4 from by kernel_rfl];decide) (by rw [show (mkRat 4 25).den=25 from by kernel_rfl];decide)
theorem r2825:Wr (mkRat 28 25):=wr_q (by rw [show (mkRat 28 25).num=28 from by kernel_rfl];decide) (by rw [show (mkRat 28 25).den=25 from by kernel_rfl];decide)
theorem ePlaceHalf:jX 35 [(.fv (.ag [.lit (.string ⟨#[49]⟩),.lit (.string ⟨#[48]⟩),.lit (.string ⟨#[48]⟩),.lit (.string ⟨#[51]⟩),.lit (.string ⟨#[52]⟩),.lit (.string ⟨#[48]⟩),.lit (.string ⟨#[45,52]⟩),.lit (.string ⟨#[51]⟩),.lit (.string ⟨#[48]⟩),.lit (.string ⟨#[48]⟩),.lit (.string ⟨#[48]⟩),.lit (.string ⟨#[53]⟩)]):AV Kn),(.fv (.ag [.lit (.int .i64 (1)),.lit (.int .i64 (0)),.lit (.int .i64 (0)),.lit (.string ⟨#[49]⟩)]):AV Kn)] (.tup [.ag [.lit (.int .i64 (3)),.lit (.int .i64 (4)),.lit (.int .i64 (0)),.lit (.string ⟨#[50,56]⟩)],.sc z0]):=by
 have h:=zH (o1:=((1:Int):Rat)) (o2:=((0:Int):Rat)) (o3:=((0:Int):Rat)) (x1:=((3:Int):Rat)) (x2:=((4:Int):Rat)) (x3:=((0:Int):Rat)) (y1:=((-4:Int):Rat)) (y2:=((3:Int):Rat)) (y3:=((0:Int):Rat)) (z1:=((0:Int):Rat)) (z2:=((0:Int):Rat)) (z3:=((5:Int):Rat)) (n1:=1) (n2:=0) (n3:=0) (d:=((1:Int):Rat)) (k1:=3) (k2:=4) (k3:=0) (e:=((28:Int):Rat)) fvF (hv100 r1) ⟨oG (by kernel_rfl),oG (by kernel_rfl),oG (by kernel_rfl)⟩ (q1:=mkRat 3 25) (q2:=mkRat 4 25) (q3:=((0:Int):Rat)) (by kernel_rfl) (by kernel_rfl) (by kernel_rfl) ⟨r325.lf.mono (by decide),r425.lf.mono (by decide),r0.lf.mono (by decide),by rw [show ((1:Int):Rat)+dt (mkRat 3 25) (mkRat 4 25) ((0:Int):Rat) ((1:Int):Rat) ((0:Int):Rat) ((0:Int):Rat)=mkRat 28 25 from by kernel_rfl];exact r2825.lf.mono (by decide),fun ⟨e,_,_⟩=>oG (a:=mkRat 3 25) (by kernel_rfl) e,by kernel_rfl,by kernel_rfl,by kernel_rfl,by kernel_rfl,by constructor <;> omega,by constructor <;> omega,by constructor <;> omega,r28⟩
 simp only [vS,tU,fO,sZ,hS,lG,gQ,x0,x1,x28,x3,x4,x5,xm4] at h
 exact h.lits (.ag (.txt (.txt (.txt (.txt (.txt (.txt (.txt (.txt (.txt (.txt (.txt (.txt (.nil))))))))))))) (.ag (.same (.same (.same (.txt .nil)))) .nil)) (.ag (.same (.same (.same (.txt .nil)))) (.same .nil))
theorem td_100:jF 91 [num ((1:Int):Rat),vc ((0:Int):Rat) ((0:Int):Rat) ((1:Int):Rat),vc ((1:Int):Rat) ((0:Int):Rat) ((0:Int):Rat)] (vc ((0:Int):Rat) ((1:Int):Rat) ((0:Int):Rat)):=by
 have h:=turnedF (w:=((1:Int):Rat)) (u1:=((0:Int):Rat)) (u2:=((0:Int):Rat)) (u3:=((1:Int):Rat)) (v1:=((1:Int):Rat)) (v2:=((0:Int):Rat)) (v3:=((0:Int):Rat)) (r1.lf.mono (by decide)) (r0.lf.mono (by decide)) (r0.lf.mono (by decide)) (r1.lf.mono (by decide)) (r1.lf.mono (by decide)) (r0.lf.mono (by decide)) (r0.lf.mono (by decide)) (oG (by kernel_rfl))
 exact vc_eq h (by kernel_rfl) (by kernel_rfl) (by kernel_rfl)
theorem td_010:jF 91 [num ((1:Int):Rat),vc ((0:Int):Rat) ((0:Int):Rat) ((1:Int):Rat),vc ((0:Int):Rat) ((1:Int):Rat) ((0:Int):Rat)] (vc ((-1:Int):Rat) ((0:Int):Rat) ((0:Int):Rat)):=by
 have h:=turnedF (w:=((1:Int):Rat)) (u1:=((0:Int):Rat)) (u2:=((0:Int):Rat)) (u3:=((1:Int):Rat)) (v1:=((0:Int):Rat)) (v2:=((1:Int):Rat)) (v3:=((0:Int):Rat)) (r1.lf.mono (by decide)) (r0.lf.mono (by decide)) (r0.lf.mono (by decide)) (r1.lf.mono (by decide)) (r0.lf.mono (by decide)) (r1.lf.mono (by decide)) (r0.lf.mono (by decide)) (oG (by kernel_rfl))
 exact vc_eq h (by kernel_rfl) (by kernel_rfl) (by kernel_rfl)
theorem td_001:jF 91 [num ((1:Int):Rat),vc ((0:Int):Rat) ((0:Int):Rat) ((1:Int):Rat),vc ((0:Int):Rat) ((0:Int):Rat) ((1:Int):Rat)] (vc ((0:Int):Rat) ((0:Int):Rat) ((1:Int):Rat)):=by
 have h:=turnedF (w:=((1:Int):Rat)) (u1:=((0:Int):Rat)) (u2:=((0:Int):Rat)) (u3:=((1:Int):Rat)) (v1:=((0:Int):Rat)) (v2:=((0:Int):Rat)) (v3:=((1:Int):Rat)) (r1.lf.mono (by decide)) (r0.lf.mono (by decide)) (r0.lf.mono (by decide)) (r1.lf.mono (by decide)) (r0.lf.mono (by decide)) (r0.lf.mono (by decide)) (r1.lf.mono (by decide)) (oG (by kernel_rfl))
 exact vc_eq h (by kernel_rfl) (by kernel_rfl) (by kernel_rfl)
theorem eTurn:jX 36 [(.fv (.ag [.lit (.string ⟨#[49]⟩),.lit (.string ⟨#[48]⟩),.lit (.string ⟨#[48]⟩),.lit (.string ⟨#[49]⟩)]):AV Kn)] (.tup [.ag [.lit (.string ⟨#[48]⟩),.lit (.string ⟨#[48]⟩),.lit (.string ⟨#[48]⟩),.lit (.string ⟨#[48]⟩),.lit (.string ⟨#[49]⟩),.lit (.string ⟨#[48]⟩),.lit (.string ⟨#[45,49]⟩),.lit (.string ⟨#[48]⟩),.lit (.string ⟨#[48]⟩),.lit (.string ⟨#[48]⟩),.lit (.string ⟨#[48]⟩),.lit (.string ⟨#[49]⟩)],.sc z0]):=by
 have h:=apiTurnF (w:=((1:Int):Rat)) (u1:=((0:Int):Rat)) (u2:=((0:Int):Rat)) (u3:=((1:Int):Rat)) (b:=false) r1 ⟨r0,r0,r1⟩ (by kernel_rfl) (fun h=>by cases h) td_100 td_010 td_001 ⟨⟨r0,r0,r0⟩,⟨r0,r1,r0⟩,⟨rm1,r0,r0⟩,⟨r0,r0,r1⟩⟩
 simp only [vS,tU,fO,sZ,hS,lG,gQ,x0,x1,xm1] at h
 exact h.lits (.ag (.txt (.txt (.txt (.txt .nil)))) .nil) (.ag (.txt (.txt (.txt (.txt (.txt (.txt (.txt (.txt (.txt (.txt (.txt (.txt (.nil))))))))))))) (.same .nil))
theorem eCompose:jX 37 [(.fv (.ag [.lit (.string ⟨#[49]⟩),.lit (.string ⟨#[48]⟩),.lit (.string ⟨#[48]⟩),.lit (.string ⟨#[51]⟩),.lit (.string ⟨#[52]⟩),.lit (.string ⟨#[48]⟩),.lit (.string ⟨#[45,52]⟩),.lit (.string ⟨#[51]⟩),.lit (.string ⟨#[48]⟩),.lit (.string ⟨#[48]⟩),.lit (.string ⟨#[48]⟩),.lit (.string ⟨#[53]⟩)]):AV Kn),(.fv (.ag [.lit (.string ⟨#[49]⟩),.lit (.string ⟨#[48]⟩),.lit (.string ⟨#[48]⟩),.lit (.string ⟨#[51]⟩),.lit (.string ⟨#[52]⟩),.lit (.string ⟨#[48]⟩),.lit (.string ⟨#[45,52]⟩),.lit (.string ⟨#[51]⟩),.lit (.string ⟨#[48]⟩),.lit (.string ⟨#[48]⟩),.lit (.string ⟨#[48]⟩),.lit (.string ⟨#[53]⟩)]):AV Kn)] (.tup [.ag [.lit (.string ⟨#[52]⟩),.lit (.string ⟨#[52]⟩),.lit (.string ⟨#[48]⟩),.lit (.string ⟨#[45,55]⟩),.lit (.string ⟨#[50,52]⟩),.lit (.string ⟨#[48]⟩),.lit (.string ⟨#[45,50,52]⟩),.lit (.string ⟨#[45,55]⟩),.lit (.string ⟨#[48]⟩),.lit (.string ⟨#[48]⟩),.lit (.string ⟨#[48]⟩),.lit (.string ⟨#[50,53]⟩)],.sc z0]):=by
 have h:=apiComposeF fvF fvF (q1:=((4:Int):Rat)) (q2:=((4:Int):Rat)) (q3:=((0:Int):Rat)) (r1:=((-7:Int):Rat)) (r2:=((24:Int):Rat)) (r3:=((0:Int):Rat)) (s1:=((-24:Int):Rat)) (s2:=((-7:Int):Rat)) (s3:=((0:Int):Rat)) (t1:=((0:Int):Rat)) (t2:=((0:Int):Rat)) (t3:=((25:Int):Rat)) (by kernel_rfl) (by kernel_rfl) (by kernel_rfl) (by kernel_rfl) (by kernel_rfl) (by kernel_rfl) (by kernel_rfl) (by kernel_rfl) (by kernel_rfl) (by kernel_rfl) (by kernel_rfl) (by kernel_rfl) ⟨⟨r4,r4,r0⟩,⟨rm7,r24,r0⟩,⟨rm24,rm7,r0⟩,⟨r0,r0,r25⟩⟩ (by kernel_rfl) (by kernel_rfl) (by kernel_rfl)
 simp only [vS,tU,fO,sZ,hS,lG,gQ,x0,x1,x24,x25,x3,x4,x5,xm24,xm4,xm7] at h
 exact h.lits (.ag (.txt (.txt (.txt (.txt (.txt (.txt (.txt (.txt (.txt (.txt (.txt (.txt (.nil))))))))))))) (.ag (.txt (.txt (.txt (.txt (.txt (.txt (.txt (.txt (.txt (.txt (.txt (.txt (.nil))))))))))))) .nil)) (.ag (.txt (.txt (.txt (.txt (.txt (.txt (.txt (.txt (.txt (.txt (.txt (.txt (.nil))))))))))))) (.same .nil))
theorem eMeet:jX 38 [(.fv (.ag [.lit (.int .i64 (1)),.lit (.int .i64 (1)),.lit (.int .i64 (1)),.lit (.string ⟨#[49,48]⟩)]):AV Kn),(.fv (.ag [.lit (.string ⟨#[48]⟩),.lit (.string ⟨#[48]⟩),.lit (.string ⟨#[48]⟩)]):AV Kn),(.fv (.ag [.lit (.string ⟨#[49]⟩),.lit (.string ⟨#[49]⟩),.lit (.string ⟨#[48]⟩)]):AV Kn)] (.tup [.ag [.lit (.string ⟨#[53]⟩),.lit (.string ⟨#[53]⟩),.lit (.string ⟨#[48]⟩)],.sc z0]):=by
 have h:=apiMeetF (z1:=1) (z2:=1) (z3:=1) (d:=((10:Int):Rat)) (p1:=((0:Int):Rat)) (p2:=((0:Int):Rat)) (p3:=((0:Int):Rat)) (v1:=((1:Int):Rat)) (v2:=((1:Int):Rat)) (v3:=((0:Int):Rat)) (m1:=((5:Int):Rat)) (m2:=((5:Int):Rat)) (m3:=((0:Int):Rat)) (hv111 r10) ⟨r0,r0,r0⟩ ⟨r1,r1,r0⟩ (oG (by kernel_rfl)) (by kernel_rfl) (by kernel_rfl) (by kernel_rfl) ⟨r5,r5,r0⟩
 simp only [vS,tU,fO,sZ,hS,lG,gQ,x0,x1,x10,x5] at h
 exact h.lits (.ag (.same (.same (.same (.txt .nil)))) (.ag (.txt (.txt (.txt .nil))) (.ag (.txt (.txt (.txt .nil))) .nil))) (.ag (.txt (.txt (.txt .nil))) (.same .nil))
theorem eSide:jX 39 [(.fv (.ag [.lit (.int .i64 (3)),.lit (.int .i64 (0)),.lit (.int .i64 (-2)),.lit (.string ⟨#[51,48]⟩)]):AV Kn),(.fv (.ag [.lit (.string ⟨#[49,48]⟩),.lit (.string ⟨#[55]⟩),.lit (.string ⟨#[49]⟩)]):AV Kn)] (.tup [.sc (.lit (.int .i64 (-1))),.sc z0]):=by
 have h:=apiSideF (z1:=3) (z2:=0) (z3 := -2) (d:=((30:Int):Rat)) (p1:=((10:Int):Rat)) (p2:=((7:Int):Rat)) (p3:=((1:Int):Rat)) (s := -1) (hv302 r30) ⟨r10,r7,r1⟩ (by kernel_rfl)
 simp only [vS,tU,fO,sZ,hS,lG,gQ,x1,x10,x30,x7] at h
 exact h.lits (.ag (.same (.same (.same (.txt .nil)))) (.ag (.txt (.txt (.txt .nil))) .nil)) (.same (.same .nil))
set_option maxRecDepth 100000 in
theorem iH:jX 4 ([]:List (AV Kn)) (bl true):=by
 refine jY Tryz.func4 fun w00 hI=>?_
 refine jW hI 28 [lt ⟨#[49,50,46,53,48]⟩] (eParse) ?_
 refine jC 29 [it (2),it (0),it (4)] (lv_2_0_4) ?_
 refine jC 29 [it (-1),it (0),it (-2)] (lv_m1_0_m2) ?_
 refine jW hI 15 [(.fv (.ag [.lit (.string ⟨#[50]⟩),.lit (.string ⟨#[48]⟩),.lit (.string ⟨#[52]⟩)])),(.fv (.ag [.lit (.string ⟨#[45,49]⟩),.lit (.string ⟨#[48]⟩),.lit (.string ⟨#[45,50]⟩)]))] (eAlong) ?_
 refine jW hI 30 [(.fv (.ag [.lit (.string ⟨#[49,47,50]⟩),.lit (.string ⟨#[48]⟩),.lit (.string ⟨#[45,49,47,51]⟩)])),lt ⟨#[53]⟩] (eMake) ?_
 refine jC 29 [it (1),it (0),it (0)] (lv_1_0_0) ?_
 refine jC 29 [it (0),it (1),it (0)] (lv_0_1_0) ?_
 refine jC 29 [it (0),it (0),it (1)] (lv_0_0_1) ?_
 refine jW hI 31 [(.fv (.ag [.lit (.string ⟨#[49]⟩),.lit (.string ⟨#[48]⟩),.lit (.string ⟨#[48]⟩)])),(.fv (.ag [.lit (.string ⟨#[48]⟩),.lit (.string ⟨#[49]⟩),.lit (.string ⟨#[48]⟩)])),(.fv (.ag [.lit (.string ⟨#[48]⟩),.lit (.string ⟨#[48]⟩),.lit (.string ⟨#[49]⟩)]))] (eThrough) ?_
 refine jC 29 [it (0),it (0),it (0)] (lv_0_0_0) ?_
 refine jW hI 32 [(.fv (.ag [.lit (.int .i64 (1)),.lit (.int .i64 (1)),.lit (.int .i64 (1)),.lit (.string ⟨#[49]⟩)])),(.fv (.ag [.lit (.string ⟨#[48]⟩),.lit (.string ⟨#[48]⟩),.lit (.string ⟨#[48]⟩)]))] (eMirror) ?_
 refine jC 34 [] (lframe) ?_
 refine jC 29 [it (1),it (1),it (1)] (lv_1_1_1) ?_
 refine jW hI 33 [(.fv (.ag [.lit (.string ⟨#[49]⟩),.lit (.string ⟨#[48]⟩),.lit (.string ⟨#[48]⟩),.lit (.string ⟨#[51]⟩),.lit (.string ⟨#[52]⟩),.lit (.string ⟨#[48]⟩),.lit (.string ⟨#[45,52]⟩),.lit (.string ⟨#[51]⟩),.lit (.string ⟨#[48]⟩),.lit (.string ⟨#[48]⟩),.lit (.string ⟨#[48]⟩),.lit (.string ⟨#[53]⟩)])),(.fv (.ag [.lit (.string ⟨#[49]⟩),.lit (.string ⟨#[49]⟩),.lit (.string ⟨#[49]⟩)]))] (ePlace) ?_
 refine jC 34 [] (lframe) ?_
 refine jW hI 35 [(.fv (.ag [.lit (.string ⟨#[49]⟩),.lit (.string ⟨#[48]⟩),.lit (.string ⟨#[48]⟩),.lit (.string ⟨#[51]⟩),.lit (.string ⟨#[52]⟩),.lit (.string ⟨#[48]⟩),.lit (.string ⟨#[45,52]⟩),.lit (.string ⟨#[51]⟩),.lit (.string ⟨#[48]⟩),.lit (.string ⟨#[48]⟩),.lit (.string ⟨#[48]⟩),.lit (.string ⟨#[53]⟩)])),(.fv (.ag [.lit (.int .i64 (1)),.lit (.int .i64 (0)),.lit (.int .i64 (0)),.lit (.string ⟨#[49]⟩)]))] (ePlaceHalf) ?_
 refine jW hI 36 [(.fv (.ag [.lit (.string ⟨#[49]⟩),.lit (.string ⟨#[48]⟩),.lit (.string ⟨#[48]⟩),.lit (.string ⟨#[49]⟩)]))] (eTurn) ?_
 refine jC 34 [] (lframe) ?_
 refine jC 34 [] (lframe) ?_
 refine jW hI 37 [(.fv (.ag [.lit (.string ⟨#[49]⟩),.lit (.string ⟨#[48]⟩),.lit (.string ⟨#[48]⟩),.lit (.string ⟨#[51]⟩),.lit (.string ⟨#[52]⟩),.lit (.string ⟨#[48]⟩),.lit (.string ⟨#[45,52]⟩),.lit (.string ⟨#[51]⟩),.lit (.string ⟨#[48]⟩),.lit (.string ⟨#[48]⟩),.lit (.string ⟨#[48]⟩),.lit (.string ⟨#[53]⟩)])),(.fv (.ag [.lit (.string ⟨#[49]⟩),.lit (.string ⟨#[48]⟩),.lit (.string ⟨#[48]⟩),.lit (.string ⟨#[51]⟩),.lit (.string ⟨#[52]⟩),.lit (.string ⟨#[48]⟩),.lit (.string ⟨#[45,52]⟩),.lit (.string ⟨#[51]⟩),.lit (.string ⟨#[48]⟩),.lit (.string ⟨#[48]⟩),.lit (.string ⟨#[48]⟩),.lit (.string ⟨#[53]⟩)]))] (eCompose) ?_
 refine jC 29 [it (0),it (0),it (0)] (lv_0_0_0) ?_
 refine jC 29 [it (1),it (1),it (0)] (lv_1_1_0) ?_
 refine jW hI 38 [(.fv (.ag [.lit (.int .i64 (1)),.lit (.int .i64 (1)),.lit (.int .i64 (1)),.lit (.string ⟨#[49,48]⟩)])),(.fv (.ag [.lit (.string ⟨#[48]⟩),.lit (.string ⟨#[48]⟩),.lit (.string ⟨#[48]⟩)])),(.fv (.ag [.lit (.string ⟨#[49]⟩),.lit (.string ⟨#[49]⟩),.lit (.string ⟨#[48]⟩)]))] (eMeet) ?_
 refine jC 29 [it (0),it (7),it (5)] (lv_0_7_5) ?_
 refine jC 29 [it (0),it (1),it (0)] (lv_0_1_0) ?_
 refine jC 29 [it (-1),it (0),it (0)] (lv_m1_0_0) ?_
 refine jC 29 [it (4),it (4),it (0)] (lv_4_4_0) ?_
 refine jC 29 [it (-7),it (24),it (0)] (lv_m7_24_0) ?_
 refine jC 29 [it (5),it (5),it (0)] (lv_5_5_0) ?_
 refine jC 29 [it (10),it (7),it (1)] (lv_10_7_1) ?_
 refine jW hI 39 [(.fv (.ag [.lit (.int .i64 (3)),.lit (.int .i64 (0)),.lit (.int .i64 (-2)),.lit (.string ⟨#[51,48]⟩)])),(.fv (.ag [.lit (.string ⟨#[49,48]⟩),.lit (.string ⟨#[55]⟩),.lit (.string ⟨#[49]⟩)]))] (eSide) ?_
 refine jC 40 [lt ⟨#[112,111,115,116,95,49]⟩] (isNameF (b:=true) (by kernel_rfl)) ?_
 refine jC 40 [lt ⟨#[49,112,111,115,116]⟩] (isNameF (b:=false) (by kernel_rfl)) ?_
 exact jR Tryz.func4
def Bq (k:Nat) (q:Rat):Prop:=q.num.natAbs<10^k∧q.den<10^k
theorem Bq.mono {k l:Nat} {q:Rat} (h:Bq k q) (hk:k≤l):Bq l q :=
 ⟨Nat.lt_of_lt_of_le h.1 (Nat.pow_le_pow_right (by omega) hk),Nat.lt_of_lt_of_le h.2 (Nat.pow_le_pow_right (by omega) hk)⟩
theorem Bq.mul {j k:Nat} {p q:Rat} (hp:Bq j p) (hq:Bq k q):Bq (j+k) (p*q):=by
 rw [Rat.mul_def']
 obtain ⟨h1,h2⟩:=dU (p.num*q.num) (Nat.ne_of_gt (Nat.mul_pos p.den_pos q.den_pos))
 rw [Int.natAbs_mul] at h1
 refine ⟨Nat.lt_of_le_of_lt h1 ?_,Nat.lt_of_le_of_lt h2 ?_⟩
 ·rw [Nat.pow_add];exact Nat.mul_lt_mul'' hp.1 hq.1
 ·rw [Nat.pow_add];exact Nat.mul_lt_mul'' hp.2 hq.2
theorem Bq.add {j k:Nat} {p q:Rat} (hp:Bq j p) (hq:Bq k q):Bq (j+k+1) (p+q):=by
 rw [Rat.add_def']
 obtain ⟨h1,h2⟩:=dU (p.num*q.den+q.num*p.den) (Nat.ne_of_gt (Nat.mul_pos p.den_pos q.den_pos))
 have a1:p.num.natAbs*q.den<10^(j+k):=by rw [Nat.pow_add];exact Nat.mul_lt_mul'' hp.1 hq.2
 have a2:q.num.natAbs*p.den<10^(j+k):=by rw [Nat.pow_add,Nat.mul_comm];exact Nat.mul_lt_mul'' hp.2 hq.1
 have a3:p.den*q.den<10^(j+k):=by rw [Nat.pow_add];exact Nat.mul_lt_mul'' hp.2 hq.2
 have a4:10^(j+k+1)=10^(j+k)*10:=Nat.pow_succ _ _
 have a5:=Int.natAbs_add_le (p.num*q.den) (q.num*p.den)
 rw [Int.natAbs_mul,Int.natAbs_mul,Int.natAbs_natCast,Int.natAbs_natCast] at a5
 exact ⟨by omega,by omega⟩
theorem Bq.neg {k:Nat} {p:Rat} (hp:Bq k p):Bq k (-p):=by
 refine ⟨?_,hp.2⟩
 rw [Rat.neg_num,Int.natAbs_neg];exact hp.1
theorem Bq.sub {j k:Nat} {p q:Rat} (hp:Bq j p) (hq:Bq k q):Bq (j+k+1) (p-q):=by
 rw [Rat.sub_eq_add_neg]
 exact hp.add hq.neg
theorem Bq.inv {k:Nat} {p:Rat} (hp:Bq k p):Bq k p⁻¹:=by
 by_cases h0:p=0
 ·subst h0;rw [Rat.inv_zero];exact hp
 ·obtain ⟨_,e1,e2⟩:=Parts.inv (Parts.self p) h0
  exact ⟨by rw [← e1];exact hp.2,by rw [← e2];exact hp.1⟩
theorem Bq.div {j k:Nat} {p q:Rat} (hp:Bq j p) (hq:Bq k q):Bq (j+k) (p/q):=by
 rw [Rat.div_def]
 exact hp.mul hq.inv
theorem Bq.dt {k l n:Nat} {a b c x y z:Rat} (h1:Bq k a) (h2:Bq k b) (h3:Bq k c) (g1:Bq l x) (g2:Bq l y) (g3:Bq l z) (hn:3*(k+l)+2≤n):Bq n (dt a b c x y z) :=
 (((h1.mul g1).add (h2.mul g2)).add (h3.mul g3)).mono (by omega)
theorem Bq.wr {k:Nat} {q:Rat} (h:Bq k q) (hk:k≤600):Wr q:=by
 have h':=h.mono (l:=599+1) hk
 exact ⟨decB_size h'.1,decB_size h'.2⟩
theorem Bq.zs {k:Nat} {q:Rat} (h:Bq k q) (hk:k≤10000):Zs 10000 q:=by
 have h':=h.mono (l:=10000+1) (by omega)
 exact h'
theorem bq_of {k:Nat} {q:Rat} (h:Fw k q):Bq k q:=⟨nZ h.1,nZ h.2⟩
theorem vB (x:Rat):0≤x*x:=by
 rcases Rat.le_total (a:=0) (b:=x) with h|h
 ·exact Rat.mul_nonneg h h
 ·have h' : 0≤-x:=by grind
  have:=Rat.mul_nonneg h' h'
  grind
theorem sum_sq {x y z:Rat} (h:dt x y z x y z=0):x=0∧y=0∧z=0:=by
 have h1:=vB x
 have h2:=vB y
 have h3:=vB z
 have a1:x*x=0:=by grind
 have a2:y*y=0:=by grind
 have a3:z*z=0:=by grind
 exact ⟨by grind,by grind,by grind⟩
theorem numr_ne {q:Rat} (h:q≠0):q.num≠0:=fun e=>h (Rat.num_eq_zero.1 e)
theorem fY {p q r:Prop} [Decidable p] [Decidable q] [Decidable r] (h:¬ (p∧q∧r)):(decide p&&decide q&&decide r)=false:=by
 rw [Bool.eq_false_iff]
 intro hh
 simp only [Bool.and_eq_true,decide_eq_true_eq] at hh
 exact h ⟨hh.1.1,hh.1.2,hh.2⟩
theorem nC {p q r:Prop} [Decidable p] [Decidable q] [Decidable r] (h:p∧q∧r):(decide p&&decide q&&decide r)=true:=by
 simp [h.1,h.2.1,h.2.2]
section
variable {a b c x y z:Rat}
theorem qX (h:dO a b c) (k:dO x y z) (h0:(decide (a=0)&&decide (b=0)&&decide (c=0))=false) (hc:(decide (b*z-c*y=0)&&decide (c*x-a*z=0)&&decide (a*y-b*x=0))=false) :
 jX 15 [vS a b c,vS x y z] (.tup [.sc (.lit (.string ⟨#[]⟩)),.sc (.lit (.int .i64 7))]):=by
 have l1:=h.1.lf
 have l2:=h.2.1.lf
 have l3:=h.2.2.lf
 have m1:=k.1.lf
 have m2:=k.2.1.lf
 have m3:=k.2.2.lf
 refine jY Tryz.func15 fun w00 hI=>?_
 refine jW hI 50 [eN 42,vS a b c,eN 42,vS x y z] (uN h k) ?_
 refine jC 55 [vc a b c] (fC h0) ?_
 refine jC 53 [vc a b c,vc x y z] (uK (l1.mono (by decide)) (l2.mono (by decide)) (l3.mono (by decide)) (m1.mono (by decide)) (m2.mono (by decide)) (m3.mono (by decide))) ?_
 refine jC 55 [vc (b*z-c*y) (c*x-a*z) (a*y-b*x)] (fC hc) ?_
 exact jR Tryz.func15
theorem qY (h:dO a b c) (k:dO x y z) (h0:(decide (a=0)&&decide (b=0)&&decide (c=0))=true) :
 jX 15 [vS a b c,vS x y z] (.tup [.sc (.lit (.string ⟨#[]⟩)),.sc (.lit (.int .i64 6))]):=by
 refine jY Tryz.func15 fun w00 hI=>?_
 refine jW hI 50 [eN 42,vS a b c,eN 42,vS x y z] (uN h k) ?_
 refine jC 55 [vc a b c] (fC h0) ?_
 exact jR Tryz.func15
end
abbrev nz (d:Nat):AV Kr := .fv (.ag [.lit (.bool true),.sp (qH d)])
theorem signedNF {d:Nat}:jF 173 [rl true,di d] (iz (-(d:Int))):=by
 intro β w vs hv
 obtain ⟨v,u,rfl,h1,h2⟩:=eG hv
 rw [bY h1]
 have := @fF true d β w [.bool true,u] ⟨_,_,rfl,cQ,u,[],rfl,h2,rfl⟩
 simpa [iE] using this
theorem minusP {n:Int} {c:Nat} (hc:n = -(c:Int)):jF 181 [pz c] (iz n):=by
 rw [hc]
 refine jT Tryz.func181 fun w00=>?_
 refine jB 173 [rl true,di c] signedNF ?_
 exact jS Tryz.func181
theorem minusNZ {d:Nat}:jF 181 [nz d] (iz (d:Int)):=by
 refine jT Tryz.func181 fun w00=>?_
 refine jB 173 [rl false,di d] pG ?_
 exact jS Tryz.func181
theorem minusN {d:Nat}:jF 181 [nz d] (pz d):=mW minusNZ fun _ _ _ h=>iz_pz h
section
variable {n:Int} {d:Nat}
theorem fractionNF {c:Nat} (hc:n = -(c:Int)) (hn:Bd n.natAbs) (hd:Bd d) (hd0:0<d) (hp:n.natAbs<B9^100000000) (hq:d<B9^100000000) (hs1:(aP (iE (decide (n<0)) (n.natAbs/Nat.gcd n.natAbs d))).size≤1000000000) (hs2:(aP ((d/Nat.gcd n.natAbs d:Nat):Int)).size≤1000000000) :
 jF 122 [pz c,nz d] (rS (if d/Nat.gcd n.natAbs d=1 then aP (iE (decide (n<0)) (n.natAbs/Nat.gcd n.natAbs d)) else aP (iE (decide (n<0)) (n.natAbs/Nat.gcd n.natAbs d))++⟨#[47]⟩++aP ((d/Nat.gcd n.natAbs d:Nat):Int))):=by
 have hg:0<Nat.gcd n.natAbs d:=Nat.gcd_pos_of_pos_right _ hd0
 have hq0:0<d/Nat.gcd n.natAbs d:=Nat.div_pos (Nat.gcd_le_right _ hd0) hg
 have hq1:d/Nat.gcd n.natAbs d≤d:=Nat.div_le_self _ _
 have hp1:(iE (decide (n<0)) (n.natAbs/Nat.gcd n.natAbs d)).natAbs<B9^100000000:=by rw [tD];exact Nat.lt_of_le_of_lt (Nat.div_le_self _ _) hp
 have hq2:((d/Nat.gcd n.natAbs d:Nat):Int).natAbs<B9^100000000:=by rw [Int.natAbs_natCast];exact Nat.lt_of_le_of_lt hq1 hq
 generalize hG:Nat.gcd n.natAbs d=g at *
 generalize hP:iE (decide (n<0)) (n.natAbs/g)=p at *
 generalize hQ:d/g=q at *
 by_cases h1:q=1
 ·rw [if_pos h1]
  refine jT Tryz.func122 fun w00=>?_
  refine jB 181 [pz c] (minusP hc) ?_
  refine jB 181 [nz d] minusN ?_
  refine jB 60 [di n.natAbs,di d] (by have:=lI hn hd;rw [hG] at this;exact this) ?_
  refine jB 119 [di n.natAbs,di g] (wF hn hg) ?_
  refine jB 119 [di d,di g] (by have:=wF (a:=d) (b:=g) hd hg;rw [hQ] at this;exact this) ?_
  refine jB 173 [rb (decide (n<0)),di (n.natAbs/g)] (by have := @fF (decide (n<0)) (n.natAbs/g);rw [hP] at this;exact this) ?_
  refine jB 182 [iz p] (qV hp1) ?_
  refine jL (.call ⟨.builtin .len,#[.tmp 41],#[74]⟩) (.tmp 41) (.tmp 41) (di q) (di q) (.fv (.sc (.lit (.int .i64 1)))) (fun ρ o β w ho hx _=>?_) ?_
  ·obtain ⟨ad,c,e,_⟩:=jD (bD.1 hx) hq0 (by rw [h1];exact dX)
   exact ⟨_,lT ho e,fG rfl⟩
  refine jL (.indexAddr 74 (.tmp 45) (.const (.int .i64 0))) (.tmp 45) (.const (.int .i64 0)) (di q) (.fv (.sc (.lit (.int .i64 0)))) (rP q) (fun ρ o β w ho hx hy=>?_) ?_
  ·obtain ⟨ad,c,e,hc⟩:=jD (bD.1 hx) hq0 (by rw [h1];exact dX)
   exact ⟨_,mV ho e (bY hy) (by omega),⟨ad,rfl,hc⟩⟩
  refine jL (.load 3 (.tmp 46)) (.tmp 46) (.tmp 46) (rP q) (rP q) (.fv (.sc (.lit (.int .i64 1)))) (fun ρ o β w ho hx _=>?_) ?_
  ·obtain ⟨ad,e,hc⟩:=hx
   injection e with e
   rw [h1] at hc
   exact ⟨_,uT ho e hc,fG rfl⟩
  exact jS Tryz.func122
 ·rw [if_neg h1]
  have hcat1:(aP p).size+(⟨#[47]⟩:ByteArray).size≤9223372036854775807:=by
   have:(⟨#[47]⟩:ByteArray).size=1:=rfl
   omega
  have hcat2:(aP p++⟨#[47]⟩:ByteArray).size+(aP (q:Int)).size≤9223372036854775807:=by
   have:(⟨#[47]⟩:ByteArray).size=1:=rfl
   rw [ByteArray.size_append]
   omega
  by_cases h2:q<B9
  ·refine jT Tryz.func122 fun w00=>?_
   refine jB 181 [pz c] (minusP hc) ?_
   refine jB 181 [nz d] minusN ?_
   refine jB 60 [di n.natAbs,di d] (by have:=lI hn hd;rw [hG] at this;exact this) ?_
   refine jB 119 [di n.natAbs,di g] (wF hn hg) ?_
   refine jB 119 [di d,di g] (by have:=wF (a:=d) (b:=g) hd hg;rw [hQ] at this;exact this) ?_
   refine jB 173 [rb (decide (n<0)),di (n.natAbs/g)] (by have := @fF (decide (n<0)) (n.natAbs/g);rw [hP] at this;exact this) ?_
   refine jB 182 [iz p] (qV hp1) ?_
   refine jL (.call ⟨.builtin .len,#[.tmp 41],#[74]⟩) (.tmp 41) (.tmp 41) (di q) (di q) (.fv (.sc (.lit (.int .i64 1)))) (fun ρ o β w ho hx _=>?_) ?_
   ·obtain ⟨ad,c,e,_⟩:=jD (bD.1 hx) hq0 h2
    exact ⟨_,lT ho e,fG rfl⟩
   refine jL (.indexAddr 74 (.tmp 45) (.const (.int .i64 0))) (.tmp 45) (.const (.int .i64 0)) (di q) (.fv (.sc (.lit (.int .i64 0)))) (rP q) (fun ρ o β w ho hx hy=>?_) ?_
   ·obtain ⟨ad,c,e,hc⟩:=jD (bD.1 hx) hq0 h2
    exact ⟨_,mV ho e (bY hy) (by omega),⟨ad,rfl,hc⟩⟩
   refine jL (.load 3 (.tmp 46)) (.tmp 46) (.tmp 46) (rP q) (rP q) (rI q) (fun ρ o β w ho hx _=>?_) ?_
   ·obtain ⟨ad,e,hc⟩:=hx
    injection e with e
    exact ⟨_,uT ho e hc,cQ⟩
   refine jL (.binOp .eql 3 (.tmp 47) (.const (.int .i64 1)) 3) (.tmp 47) (.const (.int .i64 1)) (rI q) (.fv (.sc (.lit (.int .i64 1)))) (rl false) (fun ρ o β w ho hx hy=>⟨.bool false,kD ho (bC hx) (bY hy) (by simp;omega),fG rfl⟩) ?_
   refine jL (.binOp .add 9 (.tmp 51) (.const (.string ⟨#[47]⟩)) 9) (.tmp 51) (.const (.string ⟨#[47]⟩)) (rS (aP p)) (.fv (.sc (.lit (.string ⟨#[47]⟩)))) (rS (aP p++⟨#[47]⟩)) (fun ρ o β w ho hx hy=>⟨_,eY ho (bC hx) (bY hy) hcat1,cQ⟩) ?_
   refine jB 173 [rl false,di q] pG ?_
   refine jB 182 [iz (q:Int)] (qV hq2) ?_
   refine jL (.binOp .add 9 (.tmp 52) (.tmp 55) 9) (.tmp 52) (.tmp 55) (rS (aP p++⟨#[47]⟩)) (rS (aP (q:Int))) (rS (aP p++⟨#[47]⟩++aP (q:Int))) (fun ρ o β w ho hx hy=>⟨_,eY ho (bC hx) (bC hy) hcat2,cQ⟩) ?_
   exact jS Tryz.func122
  ·refine jT Tryz.func122 fun w00=>?_
   refine jB 181 [pz c] (minusP hc) ?_
   refine jB 181 [nz d] minusN ?_
   refine jB 60 [di n.natAbs,di d] (by have:=lI hn hd;rw [hG] at this;exact this) ?_
   refine jB 119 [di n.natAbs,di g] (wF hn hg) ?_
   refine jB 119 [di d,di g] (by have:=wF (a:=d) (b:=g) hd hg;rw [hQ] at this;exact this) ?_
   refine jB 173 [rb (decide (n<0)),di (n.natAbs/g)] (by have := @fF (decide (n<0)) (n.natAbs/g);rw [hP] at this;exact this) ?_
   refine jB 182 [iz p] (qV hp1) ?_
   refine jL (.call ⟨.builtin .len,#[.tmp 41],#[74]⟩) (.tmp 41) (.tmp 41) (di q) (di q) rNe (fun ρ o β w ho hx _=>?_) ?_
   ·obtain ⟨A,m,c,e,hm⟩:=wV (bD.1 hx) (Nat.le_of_not_lt h2)
    exact ⟨_,lT ho e,⟨(m:Int),rfl,by omega⟩⟩
   refine jL (.binOp .eql 3 (.tmp 42) (.const (.int .i64 1)) 3) (.tmp 42) (.const (.int .i64 1)) rNe (.fv (.sc (.lit (.int .i64 1)))) (rl false) (fun ρ o β w ho hx hy=>?_) ?_
   ·obtain ⟨m,e,hm⟩:=hx
    injection e with e
    exact ⟨.bool false,kD ho e (bY hy) (by simpa using hm),fG rfl⟩
   refine jL (.binOp .add 9 (.tmp 51) (.const (.string ⟨#[47]⟩)) 9) (.tmp 51) (.const (.string ⟨#[47]⟩)) (rS (aP p)) (.fv (.sc (.lit (.string ⟨#[47]⟩)))) (rS (aP p++⟨#[47]⟩)) (fun ρ o β w ho hx hy=>⟨_,eY ho (bC hx) (bY hy) hcat1,cQ⟩) ?_
   refine jB 173 [rl false,di q] pG ?_
   refine jB 182 [iz (q:Int)] (qV hq2) ?_
   refine jL (.binOp .add 9 (.tmp 52) (.tmp 55) 9) (.tmp 52) (.tmp 55) (rS (aP p++⟨#[47]⟩)) (rS (aP (q:Int))) (rS (aP p++⟨#[47]⟩++aP (q:Int))) (fun ρ o β w ho hx hy=>⟨_,eY ho (bC hx) (bC hy) hcat2,cQ⟩) ?_
   exact jS Tryz.func122
end
theorem fracNW {n:Int} {c d k:Nat} (hc:n = -(c:Int)) (hk:k≤1000000) (hn:n.natAbs<10^(k+1)) (hd:d<10^(k+1)) (h0:0<d):jF 122 [pz c,nz d] (rS (writeB (mkRat n d))):=by
 have h:=fractionNF (n:=n) (d:=d) hc (gH hn (by omega)) (gH hd (by omega)) h0 (bd1_of hn (by omega)) (bd1_of hd (by omega))
  (by have:=pZ (k:=k) (z:=iE (decide (n<0)) (n.natAbs/Nat.gcd n.natAbs d)) (by rw [tD];exact Nat.lt_of_le_of_lt (Nat.div_le_self _ _) hn);omega)
  (by have:=pZ (k:=k) (z:=((d/Nat.gcd n.natAbs d:Nat):Int)) (by rw [Int.natAbs_natCast];exact Nat.lt_of_le_of_lt (Nat.div_le_self _ _) hd);omega)
 rw [rW n h0] at h
 exact h
section
variable {p q:Rat}
theorem inv_pos {m:Nat} (h:q.num=(m:Int)):mkRat (q.den:Int) m=q⁻¹:=by
 rw [Rat.inv_def,h,Rat.divInt_ofNat]
theorem inv_neg {m:Nat} (h:q.num = -(m:Int)):mkRat (-(q.den:Int)) m=q⁻¹:=by
 rw [Rat.inv_def,h,Rat.divInt_neg',Rat.divInt_ofNat]
theorem prt_neg {m:Nat} (h:q.num = -(m:Int)) (h0:0<m) {β:List Nat} {v:Value} {w:World} (k:(AV.fv (.ag [rB (decide (q.num<0)),.sp (qH q.num.natAbs)]):AV Kr).holds β v w):(nz m).holds β v w:=by
 have e1:decide (q.num<0)=true:=by rw [decide_eq_true_iff];omega
 have e2:q.num.natAbs=m:=by omega
 rw [e1,e2] at k
 obtain ⟨cs,rfl,a,r,rfl,h1,h2⟩:=k
 exact ⟨_,rfl,a,r,rfl,⟨h1,rfl⟩,h2⟩
theorem prt_pos {m:Nat} (h:q.num=(m:Int)) {β:List Nat} {v:Value} {w:World} (k:(AV.fv (.ag [rB (decide (q.num<0)),.sp (qH q.num.natAbs)]):AV Kr).holds β v w):(pz m).holds β v w:=by
 have k' : (iz q.num).holds β v w:=k
 rw [h] at k'
 exact iz_pz k'
theorem fracPZ {k:Nat} (hk:k≤1000000) (hq:Zs k q) (h0:0<q.num.natAbs):jF 122 [iz (q.den:Int),pz q.num.natAbs] (rS (writeB (mkRat (q.den:Int) q.num.natAbs))) :=
 fracW (n:=(q.den:Int)) (k:=k) hk (by rw [Int.natAbs_natCast];exact hq.2) hq.1 h0
theorem fracNZ {k:Nat} (hk:k≤1000000) (hq:Zs k q) (h0:0<q.num.natAbs):jF 122 [pz q.den,nz q.num.natAbs] (rS (writeB (mkRat (-((q.den:Nat):Int)) q.num.natAbs))) :=
 fracNW (k:=k) rfl hk (by rw [Int.natAbs_neg,Int.natAbs_natCast];exact hq.2) hq.1 h0
theorem recipF (hq:Zs 10000 q) (h0:q≠0):jF 130 [rS (writeB q)] (rS (writeB q⁻¹)):=by
 obtain ⟨s1,s2⟩:=tI hq (by omega)
 have hn:=numr_ne h0
 have hfr:jF 122 [pz q.den,.fv (.ag [rB (decide (q.num<0)),.sp (qH q.num.natAbs)])] (rS (writeB q⁻¹)):=by
  by_cases hs:q.num<0
  ·have e:q.num = -((q.num.natAbs:Nat):Int):=by omega
   rw [← inv_neg e]
   refine rargs (fracNZ (k:=10000) (by omega) hq (by omega)) fun β vs w ⟨v,r,e1,h1,u,r2,e2,h2,h3⟩=>⟨v,r,e1,h1,u,r2,e2,prt_neg e (by omega) h2,h3⟩
  ·have e:q.num=((q.num.natAbs:Nat):Int):=by omega
   rw [← inv_pos e]
   refine rargs (fracPZ (k:=10000) (by omega) hq (by omega)) fun β vs w ⟨v,r,e1,h1,u,r2,e2,h2,h3⟩=>⟨v,r,e1,pz_iz h1,u,r2,e2,prt_pos e h2,h3⟩
 refine jT Tryz.func130 fun w00=>?_
 refine jB 59 [rS (writeB q)] (yW s1 s2) ?_
 refine jB 122 [pz q.den,.fv (.ag [rB (decide (q.num<0)),.sp (qH q.num.natAbs)])] hfr ?_
 exact jS Tryz.func130
theorem zs_inv {k:Nat} (h:Zs k q) (h0:q≠0):Zs k q⁻¹:=by
 have hn:=numr_ne h0
 have hd:=q.den_pos
 by_cases hs:q.num<0
 ·have e:q.num = -((q.num.natAbs:Nat):Int):=by omega
  rw [← inv_neg e]
  obtain ⟨e1,e2⟩:=tG (-(q.den:Int)) (d:=q.num.natAbs) (by omega)
  have g:Nat.gcd (-(q.den:Int)).natAbs q.num.natAbs=1:=by rw [Int.natAbs_neg,Int.natAbs_natCast,Nat.gcd_comm];exact q.reduced
  rw [g] at e1 e2
  refine ⟨by rw [e1];simpa using h.2,by rw [e2];simpa using h.1⟩
 ·have e:q.num=((q.num.natAbs:Nat):Int):=by omega
  rw [← inv_pos e]
  obtain ⟨e1,e2⟩:=tG ((q.den:Int)) (d:=q.num.natAbs) (by omega)
  have g:Nat.gcd ((q.den:Int)).natAbs q.num.natAbs=1:=by rw [Int.natAbs_natCast,Nat.gcd_comm];exact q.reduced
  rw [g] at e1 e2
  refine ⟨by rw [e1];simpa using h.2,by rw [e2];simpa using h.1⟩
theorem refDivF (hp:Zs 10000 p) (hq:Zs 10000 q) (h0:q≠0):jF 67 [rS (writeB p),rS (writeB q)] (rS (writeB (p/q))):=by
 rw [Rat.div_def]
 refine jT Tryz.func67 fun w00=>?_
 refine jB 130 [rS (writeB q)] (recipF hq h0) ?_
 refine jB 61 [rS (writeB p),rS (writeB q⁻¹)] (dM hp (zs_inv hq h0)) ?_
 exact jS Tryz.func67
theorem kn_o {f:FuncId} {s u:ByteArray} (h:jF f [rS s] (rS u)):jF f [tx s] (tx u):=by
 intro β w vs hv
 obtain ⟨v,rfl,h1⟩:=dP hv
 rw [aT h1]
 exact (h β w [.string s] ⟨_,_,rfl,cQ,rfl⟩).mono fun e w' ⟨v,e1,e2,e3⟩=>⟨v,e1,e2,by rw [bC e3];exact bK⟩
theorem kn_IL {f:FuncId} {s:ByteArray} {z:Int} (h:jF f [rS s] (rI z)):jF f [tx s] (it z):=by
 intro β w vs hv
 obtain ⟨v,rfl,h1⟩:=dP hv
 rw [aT h1]
 exact (h β w [.string s] ⟨_,_,rfl,cQ,rfl⟩).mono fun e w' ⟨v,e1,e2,e3⟩=>⟨v,e1,e2,by rw [bC e3];exact bI rfl⟩
theorem dR {s:ByteArray} {z:Int} (hs:s.size≤9223372036854775807) (hz:bA s=z):jF 16 [tx s] (it z):=kn_IL (hz▸checkAnyF hs)
end
section
variable {f:FuncId} {w00:World} {Out:Value→World→Prop}
theorem klenT {c:Cfg Kn} (t:Tmp) (T:TypeId) (hT:Tryz.prog.underlying T=some .string) (s:ByteArray) (hc:(c.op.map fun o=>o.op,c.okT (.fv (.sc (pU s.size))),c.ev (.tmp t))=(some (.call ⟨.builtin .len,#[.tmp t],#[T]⟩),true,tx s))
 (hg:Ok Tryz.prog f w00 Out (dA Tryz.prog 1000 (c.give (.fv (.sc (pU s.size)))))):Ok Tryz.prog f w00 Out c:=by
 simp only [Prod.mk.injEq] at hc
 obtain ⟨h1,h2,h3⟩:=hc
 exact kop2 _ (.tmp t) (.tmp t) (tx s) (tx s) (.fv (.sc (pU s.size))) (by rw [h1,h2,h3]) (by simp [Op.operands,Call.operands]) (by simp [Op.operands,Call.operands])
  (fun ρ o β w ho hx _=>⟨_,wQ ho hT (aT hx),bK⟩) hg
theorem jP{c:Cfg Kn} (t:Tmp) (T:TypeId) (hT:Tryz.prog.underlying T=some .string) (s:ByteArray)(hg:Ok Tryz.prog f w00 Out (dA Tryz.prog 1000 (c.give (.fv (.sc (pU s.size))))))(hc:(c.op.map fun o=>o.op,c.okT (.fv (.sc (pU s.size))),c.ev (.tmp t))=(some (.call ⟨.builtin .len,#[.tmp t],#[T]⟩),true,tx s):=by kernel_rfl):Ok Tryz.prog f w00 Out c:=klenT t T hT s hc hg
end
section
variable {p q:Rat}
theorem wr_len {q:Rat} (h:Wr q):(writeB q).size≤1000000000:=by
 have h1:=h.n
 have h2:=h.d
 have:=zA q.num
 rw [mZ]
 split <;> omega
theorem qD (h:Wr q):jF 63 [tx (writeB q)] (it 0):=by
 have h1:=h.n
 have h2:=h.d
 have hl:=zA q.num
 refine jG Tryz.func63 fun w00=>?_
 refine jC 126 [tx (writeB q)] (kn_o (numF (wr_len h))) ?_
 refine jC 125 [tx (aP q.num)] (kn_o (absTF (by omega))) ?_
 refine jP 5 22 Tryz.underlying22 (decB q.num.natAbs) ?_
 refine jM 6 (decB q.num.natAbs).size 600 false (by rw [decide_eq_false_iff_not];omega) ?_
 refine jC 127 [tx (writeB q)] (kn_o (denOfF (wr_len h))) ?_
 refine jP 10 22 Tryz.underlying22 (decB q.den) ?_
 refine jM 11 (decB q.den).size 600 false (by rw [decide_eq_false_iff_not];omega) ?_
 exact jR Tryz.func63
end
end Ab
namespace Ab
open Go.RowKit
theorem equal3 {P:Program} {T e:TypeId} {x0 x1 x2 y0 y1 y2:Value} {r0 r1 r2:Bool} (d:Nat) (hT:P.underlying T=some (.array 3 e)) (he:P.cellsOf e=1) (ha:∀ w,(isAgg e).run P w = .ok false w) (hs:∀ w,(sizeOf e).run P w = .ok 1 w)
 (h0:∀ w,(Op.equalIn d e x0 y0).run P w = .ok r0 w) (h1:∀ w,(Op.equalIn d e x1 y1).run P w = .ok r1 w) (h2:∀ w,(Op.equalIn d e x2 y2).run P w = .ok r2 w) (w:World) :
 (Op.equalIn (d+1) T (.agg #[x0,x1,x2]) (.agg #[y0,y1,y2])).run P w = .ok (r0&&r1&&r2) w:=by
 rw [Op.equalIn]
 simp only [Sem.run_bind,run_underlying hT,Result.andThen_ok,hs]
 simp only [Std.Legacy.Range.forIn_eq_forIn_range',Std.Legacy.Range.size,Nat.sub_zero,Nat.add_sub_cancel,Nat.div_one,List.range'_succ,List.range'_zero,List.forIn_cons,List.forIn_nil]
 simp [go_sem,ha,hs,h0,h1,h2]
 cases r0 <;> cases r1 <;> cases r2 <;> simp
end Ab
namespace Ab
open Go.RowKit Pl
theorem guard_eq {T:TypeId} {xs ys:Array Value} {x y:Operand} (h:Tryz.prog.eqGuardType Tryz.prog.depth T=false) (w:World):(eqGuard .eql T x y (.agg xs) (.agg ys)).run Tryz.prog w = .ok () w:=by
 simp [eqGuard,Sem.run_bind,run_program,h]
theorem agg_eq {o:Oper} {ρ:Operand→Value} {w:World} {x y:Operand} {xs ys:Array Value} {T T' : TypeId} {r:Bool} (hg:Tryz.prog.eqGuardType Tryz.prog.depth T=false) (h:(Op.equal T (.agg xs) (.agg ys)).run Tryz.prog w = .ok r w) (ho:o.op = .binOp .eql T x y T') (hx:ρ x = .agg xs) (hy:ρ y = .agg ys) :
 (execOp ρ o).run Tryz.prog w = .ok (.value (.bool r)) w:=by
 simp only [execOp,ho,hx,hy]
 refine bQ ?_
 simp only [Sem.run_bind,guard_eq hg,Result.andThen_ok]
 show (do pure (Value.bool (← Op.equal T (.agg xs) (.agg ys))):Sem Value).run Tryz.prog w=_
 rw [Sem.run_bind,h]
 rfl
theorem equalT (a b c x y z:ByteArray) (w:World):(Op.equal 24 (.agg #[.string a,.string b,.string c]) (.agg #[.string x,.string y,.string z])).run Tryz.prog w = .ok (a.toList==x.toList&&b.toList==y.toList&&c.toList==z.toList) w :=
 equal3 9999 (e:=22) (by kernel_rfl) (by kernel_rfl) (fun w=>by kernel_rfl) (fun w=>by kernel_rfl) (fun w=>run_equalIn_string w _ _ _ _ (by kernel_rfl)) (fun w=>run_equalIn_string w _ _ _ _ (by kernel_rfl)) (fun w=>run_equalIn_string w _ _ _ _ (by kernel_rfl)) w
theorem s3_is {a b c:ByteArray} {β:List Nat} {v:Value} {w:World} (h:(.fv (.ag [dD a,dD b,dD c]):AV Kn).holds β v w):v = .agg #[.string a,.string b,.string c]:=by
 obtain ⟨cs,rfl,x1,r1,rfl,h1,x2,r2,rfl,h2,x3,r3,rfl,h3,e⟩:=h
 rw [show r3 = [] from e,show x1=_ from h1,show x2=_ from h2,show x3=_ from h3]
 rfl
theorem l3_is {a b c:Value} {β:List Nat} {v:Value} {w:World} (h:(.fv (.ag [.lit a,.lit b,.lit c]):AV Kn).holds β v w):v = .agg #[a,b,c]:=by
 obtain ⟨cs,rfl,x1,r1,rfl,h1,x2,r2,rfl,h2,x3,r3,rfl,h3,e⟩:=h
 rw [show r3 = [] from e,h1.1,h2.1,h3.1]
 rfl
section
variable {f:FuncId} {w00:World} {Out:Value→World→Prop} {c:Cfg Kn}
theorem kgg (x y:Operand) (a b:Int) (r:Bool) (Y:AV Kn) (hY:∀ β v w,Y.holds β v w→v = .int .i64 b) (h:decide (b<a)=r) (hg:Ok Tryz.prog f w00 Out (dA Tryz.prog 1000 (c.give (bl r))))
 (hc:(c.op.map fun o=>o.op,c.okT (bl r),c.ev x,c.ev y)=(some (.binOp .gtr 3 x y 3),true,.fv (.sc (pU a)),Y):=by kernel_rfl):Ok Tryz.prog f w00 Out c :=
 kop2 (.binOp .gtr 3 x y 3) x y _ _ (bl r) hc (by simp [Op.operands]) (by simp [Op.operands]) (fun ρ o β w ho hx hy=>⟨_,yJ ho (aT hx) (hY _ _ _ hy) h,bI rfl⟩) hg
theorem qF {b:Int} (β:List Nat) (v:Value) (w:World) (h:(it b).holds β v w):v = .int .i64 b:=aO h
end
end Ab
namespace Ab
open Go.RowKit
section
variable {Kc:Value→Bool} {P:Program} {f:FuncId} {w00:World} {Out:Value→World→Prop}
theorem put_put (a:Act) (d:Tmp) (u v:Value):(a.put (some d) u).put (some d) v=a.put (some d) v:=by
 simp [Act.put]
end
end Ab
namespace Ab
open Go.RowKit Pl
abbrev hA (a b c:Int) (s:ByteArray):AV Kn := .fv (.ag [pU a,pU b,pU c,dD s])
abbrev hL (a b c:Int) (s:ByteArray):AV Kn := .fv (.ag [.lit (.int .i64 a),.lit (.int .i64 b),.lit (.int .i64 c),dD s])
section
variable {a b c:Int} {s:ByteArray}
abbrev In (k x:Int):Prop := -k≤x∧x≤k
end
section
variable {a b c x y z d:Rat} {k l n:Nat}
theorem qI (h1:Bq k a) (h2:Bq k b) (h3:Bq k c) (g1:Bq l x) (g2:Bq l y) (g3:Bq l z) (hk:2*(k+l)<10000):jF 23 [vS a b c,vS x y z] (tx (writeB (dt a b c x y z))) :=
 dotR (cM (dM (h1.zs (by omega)) (g1.zs (by omega)))) (cM (dM (h2.zs (by omega)) (g2.zs (by omega)))) (cM (cW ((h1.mul g1).zs (by omega)) ((h2.mul g2).zs (by omega))))
  (cM (dM (h3.zs (by omega)) (g3.zs (by omega)))) (cM (cW (((h1.mul g1).add (h2.mul g2)).zs (by omega)) ((h3.mul g3).zs (by omega))))
end
theorem bq_int {z:Int} {k:Nat} (h:z.natAbs<10^k) (hk:0<k):Bq k (z:Rat):=by
 refine ⟨by rw [Rat.num_intCast];exact h,?_⟩
 rw [Rat.den_intCast]
 have:=Nat.pow_le_pow_right (n:=10) (by omega) hk
 omega
section
variable {o1 o2 o3 x1 x2 x3 y1 y2 y3 z1 z2 z3:Rat}
theorem kL {a b c:ByteArray} {r:Bool} (h:(a.toList==(⟨#[48]⟩:ByteArray).toList&&b.toList==(⟨#[48]⟩:ByteArray).toList&&c.toList==(⟨#[48]⟩:ByteArray).toList)=r):jF 25 [t3 a b c] (bl r):=by
 refine jG Tryz.func25 fun w00=>?_
 refine jC 66 [] (originF) ?_
 refine jK (.binOp .eql 24 (.tmp 3) (.tmp 4) 24) (.tmp 3) (.tmp 4) (t3 a b c) (.fv (.ag [.lit (.string ⟨#[48]⟩),.lit (.string ⟨#[48]⟩),.lit (.string ⟨#[48]⟩)])) (bl r) (fun ρ o β w ho hx hy=>⟨_,agg_eq (by kernel_rfl) (h▸equalT a b c _ _ _ w) ho (s3_is hx) (l3_is hy),bI rfl⟩) ?_
 exact jR Tryz.func25
theorem crossR {a b c d e f p1 p2 p3 p4 p5 p6 r1 r2 r3:ByteArray} (h1:jF 61 [tx b,tx f] (tx p1)) (h2:jF 61 [tx c,tx e] (tx p2)) (h3:jF 65 [tx p1,tx p2] (tx r1)) (h4:jF 61 [tx c,tx d] (tx p3)) (h5:jF 61 [tx a,tx f] (tx p4)) (h6:jF 65 [tx p3,tx p4] (tx r2))
 (h7:jF 61 [tx a,tx e] (tx p5)) (h8:jF 61 [tx b,tx d] (tx p6)) (h9:jF 65 [tx p5,tx p6] (tx r3)):jF 24 [t3 a b c,t3 d e f] (t3 r1 r2 r3):=by
 refine jG Tryz.func24 fun w00=>?_
 refine jC 61 [tx b,tx f] (h1) ?_
 refine jC 61 [tx c,tx e] (h2) ?_
 refine jC 65 [tx p1,tx p2] (h3) ?_
 refine jC 61 [tx c,tx d] (h4) ?_
 refine jC 61 [tx a,tx f] (h5) ?_
 refine jC 65 [tx p3,tx p4] (h6) ?_
 refine jC 61 [tx a,tx e] (h7) ?_
 refine jC 61 [tx b,tx d] (h8) ?_
 refine jC 65 [tx p5,tx p6] (h9) ?_
 exact jR Tryz.func24
variable {k l:Nat}
theorem vC {a b c x y z:Rat} (h1:Bq k a) (h2:Bq k b) (h3:Bq k c) (g1:Bq l x) (g2:Bq l y) (g3:Bq l z) (hk:k+l≤10000):jF 24 [vS a b c,vS x y z] (vS (b*z-c*y) (c*x-a*z) (a*y-b*x)) :=
 have m:∀ {p q:Rat},Bq k p→Bq l q→jF 61 [tx (writeB p),tx (writeB q)] (tx (writeB (p*q))):=fun hp hq=>cM (dM (hp.zs (by omega)) (hq.zs (by omega)))
 have s:∀ {p q r t:Rat},Bq k p→Bq l q→Bq k r→Bq l t→jF 65 [tx (writeB (p*q)),tx (writeB (r*t))] (tx (writeB (p*q-r*t))):=fun hp hq hr ht=>cM (oB ((hp.mul hq).zs (by omega)) ((hr.mul ht).zs (by omega)))
 crossR (m h2 g3) (m h3 g2) (s h2 g3 h3 g2) (m h3 g1) (m h1 g3) (s h3 g1 h1 g3) (m h1 g2) (m h2 g1) (s h1 g2 h2 g1)
end
theorem bW {x y z:Int} (hx:Ev x) (hy:Ev y) (hz:f2 x y=z):jF 7 [.fv (.nsl 2 3 [lz x,lz y])] (it z):=by
 rcases hx with rfl|rfl|rfl
 ·have hz:y=z:=hz
  subst hz
  rcases hy with rfl|rfl|rfl <;> (refine nT Tryz.func7 (by kernel_rfl) fun w00=>?_;exact kret Tryz.func7 (by kernel_rfl))
 ·have hz:1=z:=hz
  subst hz
  refine nT Tryz.func7 (by kernel_rfl) fun w00=>?_
  exact jR Tryz.func7
 ·have hz:4=z:=hz
  subst hz
  refine nT Tryz.func7 (by kernel_rfl) fun w00=>?_
  exact jR Tryz.func7
abbrev Bz (z:Int):Prop:=z=1∨z=3∨z=4∨z=6∨z=7
theorem nD {z:Int} (hz:Bz z):jF 20 [lt ⟨#[]⟩,it z,it z,lt ⟨#[]⟩] (bl true):=by
 rcases hz with rfl|rfl|rfl|rfl|rfl <;> (refine jG Tryz.func20 fun w00=>?_;exact kret Tryz.func20 (by kernel_rfl))
theorem dE {q:Rat} (h:Wr q):jF 20 [tx (writeB q),it 0,it 0,tx (writeB q)] (bl true):=by
 have hl:=qD h
 generalize writeB q=s at *
 refine jG Tryz.func20 fun w00=>?_
 refine jC 63 [tx s] (hl) ?_
 refine jK (.binOp .eql 22 (.tmp 25) (.tmp 26) 22) (.tmp 25) (.tmp 26) (tx s) (tx s) (bl true) (fun ρ o β w ho hx hy=>⟨_,sU ho (aT hx) (aT hy) (beq_self_eq_true _),bI rfl⟩) ?_
 exact jR Tryz.func20
section
variable {P:Program} {f:FuncId}
theorem fitsAS_of {fn:Func} {n:Nat} {T:TypeId} {l:List (Seg Kn)} {u x:AV Kn} (hfn:P.funcs[f]?=some fn) (hb:fn.body.isSome=true) (hn:decide (2≤fn.ntmps)=true) (hx:x.noPtr=true) (hl:l.all Seg.noPtr=true) (hu:u.noPtr=true)
 (h:∀ w00,Ok P f w00 (fun v w=>x.holds [] v w) (.items [.code (fn.body.getD .skip)] { slots := [u,.fv (.sc (.slc 0 0 n n))]++List.replicate (fn.ntmps-2) .un,blocks := [(T,l)],ro:=1 })):Fits P f [u,.fv (.nsl n T l)] x:=by
 rintro β w vs ⟨v,r,rfl,h1,v2,r2,rfl,⟨g,cs,rfl,hg,hcs⟩,h3⟩
 have h1' : u.holds [g] v w:=AV.noPtr_holds hu h1
 have h3' : r2 = []:=h3
 subst h3'
 have hb2:fn.body=some (fn.body.getD .skip):=by
  cases hb2:fn.body with
  | none=>rw [hb2] at hb;cases hb
  | some c=>rfl
 refine (eS (w00:=w) (Out:=fun v w=>x.holds [] v w) hfn hb2 [u,.fv (.sc (.slc 0 0 n n))] [(T,l)] [g] [v,.slice (some ⟨g,0,none⟩) n n] (fn.ntmps-2) (by simp at hn;simp;omega) ⟨_,_,rfl,h1',_,[],rfl,⟨g,rfl,rfl⟩,rfl⟩ rfl (by simp)
  (fun k T' l' hk=>?_) (by simp;exact lt_of_block hg) (h w).good).mono ?_
 ·match k,hk with
  | 0,hk =>
    simp at hk
    obtain ⟨rfl,rfl⟩:=hk
    exact ⟨g,cs,rfl,hg,hcs.noPtr hl⟩
 ·rintro e w' ⟨v,rfl,hb,ho⟩
  exact ⟨v,rfl,hb,AV.noPtr_holds hx ho⟩
end
theorem kgoAS {f:FuncId} {fn:Func} {n:Nat} {T:TypeId} {l:List (Seg Kn)} {u x:AV Kn} (hfn:Tryz.prog.funcs[f]?=some fn) (hc:(fn.body.isSome,decide (2≤fn.ntmps),x.noPtr,l.all Seg.noPtr,u.noPtr)=(true,true,true,true,true))
 (h:∀ w00,Ok Tryz.prog f w00 (fun v w=>x.holds [] v w) (dA Tryz.prog 1000 (.items [.code (fn.body.getD .skip)] { slots := [u,.fv (.sc (.slc 0 0 n n))]++List.replicate (fn.ntmps-2) .un,blocks := [(T,l)],ro:=1 }))):jF f [u,.fv (.nsl n T l)] x:=by
 simp only [Prod.mk.injEq] at hc
 exact fitsAS_of hfn hc.1 hc.2.1 hc.2.2.1 hc.2.2.2.1 hc.2.2.2.2 fun w00=>Ok.go (by kernel_rfl) oY 1000 (h w00)
abbrev lo (n:Int) (s:ByteArray):Bool:=decide (n<(s.size:Nat))
section
variable {a b c d x y u:ByteArray} {n:Int} {T:TypeId} {r:Bool}
set_option maxRecDepth 100000 in
theorem shortF (h:(lo n a || lo n b || lo n c || lo n x || lo n y || lo n u)=r):jF 5 [it n,.fv (.nsl 2 T [dD a,dD b,dD c,dD x,dD y,dD u])] (bl (!r)):=by
 obtain ⟨r1,e1⟩:∃ r,lo n a=r:=⟨_,rfl⟩
 obtain ⟨r2,e2⟩:∃ r,lo n b=r:=⟨_,rfl⟩
 obtain ⟨r3,e3⟩:∃ r,lo n c=r:=⟨_,rfl⟩
 obtain ⟨r4,e4⟩:∃ r,lo n x=r:=⟨_,rfl⟩
 obtain ⟨r5,e5⟩:∃ r,lo n y=r:=⟨_,rfl⟩
 obtain ⟨r6,e6⟩:∃ r,lo n u=r:=⟨_,rfl⟩
 rw [e1,e2,e3,e4,e5,e6] at h
 subst h
 refine kgoAS Tryz.func5 (by kernel_rfl) fun w00=>?_
 refine jP 16 22 Tryz.underlying22 a ?_
 refine kgg (.tmp 17) (.tmp 18) a.size n r1 _ qF e1 ?_
 cases r1
 case true=>exact jR Tryz.func5
 refine jP 25 22 Tryz.underlying22 b ?_
 refine kgg (.tmp 26) (.tmp 27) b.size n r2 _ qF e2 ?_
 cases r2
 case true=>exact jR Tryz.func5
 refine jP 35 22 Tryz.underlying22 c ?_
 refine kgg (.tmp 36) (.tmp 37) c.size n r3 _ qF e3 ?_
 cases r3
 case true=>exact jR Tryz.func5
 refine jP 16 22 Tryz.underlying22 x ?_
 refine kgg (.tmp 17) (.tmp 18) x.size n r4 _ qF e4 ?_
 cases r4
 case true=>exact jR Tryz.func5
 refine jP 25 22 Tryz.underlying22 y ?_
 refine kgg (.tmp 26) (.tmp 27) y.size n r5 _ qF e5 ?_
 cases r5
 case true=>exact jR Tryz.func5
 refine jP 35 22 Tryz.underlying22 u ?_
 refine kgg (.tmp 36) (.tmp 37) u.size n r6 _ qF e6 ?_
 cases r6
 case true=>exact jR Tryz.func5
 exact jR Tryz.func5
theorem checkRowAny {za zb zc z:Int} (h1:jF 16 [tx a] (it za)) (h2:jF 16 [tx b] (it zb)) (h3:jF 16 [tx c] (it zc)) (e1:Ev za) (e2:Ev zb) (e3:Ev zc) (hz:f3 za zb zc=z) :
 jF 41 [.fv (.nsl 3 T [dD a,dD b,dD c])] (it z):=by
 rcases e1 with rfl|rfl|rfl
 ·rcases e2 with rfl|rfl|rfl
  ·have hz:zc=z:=hz
   subst hz
   rcases e3 with rfl|rfl|rfl <;> (refine nT Tryz.func41 (by kernel_rfl) fun w00=>?_;refine fB 16 [tx a] (h1) (by kernel_rfl) Tryz.call16 ?_;refine fB 16 [tx b] (h2) (by kernel_rfl) Tryz.call16 ?_;refine fB 16 [tx c] (h3) (by kernel_rfl) Tryz.call16 ?_;exact kret Tryz.func41 (by kernel_rfl))
  all_goals
   have hz:_=z:=hz
   subst hz
   refine nT Tryz.func41 (by kernel_rfl) fun w00=>?_
   refine jC 16 [tx a] (h1) ?_
   refine jC 16 [tx b] (h2) ?_
   exact jR Tryz.func41
 all_goals
  have hz:_=z:=hz
  subst hz
  refine nT Tryz.func41 (by kernel_rfl) fun w00=>?_
  refine jC 16 [tx a] (h1) ?_
  exact jR Tryz.func41
abbrev Sl (s:ByteArray):Prop:=s.size≤40
abbrev Sl3 (a b c:ByteArray):Prop:=Sl a∧Sl b∧Sl c
theorem Sl.rb {s:ByteArray} (h:Sl s):Rb s:=by have h:s.size≤40:=h;show s.size<_;omega
theorem Sl3.rb (h:Sl3 a b c):Rb3 a b c:=⟨Sl.rb h.1,Sl.rb h.2.1,Sl.rb h.2.2⟩
theorem bE {z:Int} (h:Sl3 a b c) (hz:c3 a b c=z):jF 6 [t3 a b c] (it z):=by
 have h1:a.size≤40:=h.1
 have h2:b.size≤40:=h.2.1
 have h3:c.size≤40:=h.2.2
 refine jG Tryz.func6 fun w00=>?_
 refine jC 41 [.fv (.nsl 3 22 [dD a,dD b,dD c])] (checkRowAny (dR (by omega) rfl) (dR (by omega) rfl) (dR (by omega) rfl) (aW _) (aW _) (aW _) hz) ?_
 exact jR Tryz.func6
abbrev eT:Seg Kn := .lit (.string ⟨#[]⟩)
abbrev noT:AV Kn := .fv (.ag [eT,eT,eT])
abbrev noV (z:Int):AV Kn := .tup [.ag [eT,eT,eT],.sc (lz z)]
theorem kX {F:FuncId} {z:Int} (h:Rb3 a b c) (k:Rb3 x y u) (hz:f2 (c3 a b c) (c3 x y u)=z) (h0:z≠0):jX 43 [eN F,t3 a b c,t3 x y u] (noV z):=by
 rcases show Ev z from hz▸vV (cF _ _ _) (cF _ _ _) with rfl|rfl|rfl
 ·exact absurd rfl h0
 all_goals
  refine jY Tryz.func43 fun w00 hI=>?_
  refine jW hI 50 [eN 42,t3 a b c,eN 42,t3 x y u] (uZ h k hz) ?_
  exact jR Tryz.func43
theorem lU {z:Int} (h:Rb3 a b c) (k:Rb3 x y u) (hz:f2 (c3 a b c) (c3 x y u)=z) (h0:z≠0):jX 9 [t3 a b c,t3 x y u] (noV z):=by
 refine jY Tryz.func9 fun w00 hI=>?_
 refine jW hI 43 [eN 44,t3 a b c,t3 x y u] (kX h k hz h0) ?_
 exact jR Tryz.func9
theorem lW {z:Int} (h:Rb3 a b c) (k:Rb3 x y u) (hz:f2 (c3 a b c) (c3 x y u)=z) (h0:z≠0):jX 10 [t3 a b c,t3 x y u] (noV z):=by
 refine jY Tryz.func10 fun w00 hI=>?_
 refine jW hI 43 [eN 45,t3 a b c,t3 x y u] (kX h k hz h0) ?_
 exact jR Tryz.func10
theorem oC {z:Int} (h:Rb3 a b c) (k:Rb3 x y u) (hz:f2 (c3 a b c) (c3 x y u)=z) (h0:z≠0):jX 13 [t3 a b c,t3 x y u] (noV z):=by
 refine jY Tryz.func13 fun w00 hI=>?_
 refine jW hI 43 [eN 53,t3 a b c,t3 x y u] (kX h k hz h0) ?_
 exact jR Tryz.func13
theorem gU {z:Int} (h:Rb a) (k:Rb3 x y u) (hz:f2 (bA a) (c3 x y u)=z) (h0:z≠0):jX 11 [tx a,t3 x y u] (noV z):=by
 rcases show Ev z from hz▸vV (aW _) (cF _ _ _) with rfl|rfl|rfl
 ·exact absurd rfl h0
 all_goals
  refine jY Tryz.func11 fun w00 hI=>?_
  refine jW hI 46 [eN 47,tx a,eN 42,t3 x y u] (readRVAny h k hz) ?_
  exact jR Tryz.func11
theorem sC {z:Int} (h:Rb3 a b c) (k:Rb3 x y u) (hz:f2 (c3 a b c) (c3 x y u)=z) (h0:z≠0):jX 12 [t3 a b c,t3 x y u] (noS z):=by
 rcases show Ev z from hz▸vV (cF _ _ _) (cF _ _ _) with rfl|rfl|rfl
 ·exact absurd rfl h0
 all_goals
  refine jY Tryz.func12 fun w00 hI=>?_
  refine jW hI 50 [eN 42,t3 a b c,eN 42,t3 x y u] (uZ h k hz) ?_
  exact jR Tryz.func12
theorem oD {z:Int} (h:Rb3 a b c) (k:Rb3 x y u) (hz:f2 (c3 a b c) (c3 x y u)=z) (h0:z≠0):jX 15 [t3 a b c,t3 x y u] (noS z):=by
 rcases show Ev z from hz▸vV (cF _ _ _) (cF _ _ _) with rfl|rfl|rfl
 ·exact absurd rfl h0
 all_goals
  refine jY Tryz.func15 fun w00 hI=>?_
  refine jW hI 50 [eN 42,t3 a b c,eN 42,t3 x y u] (uZ h k hz) ?_
  exact jR Tryz.func15
theorem zR {z:Int} (h:Rb3 a b c) (hz:c3 a b c=z) (h0:z≠0):jX 14 [t3 a b c] (noS z):=by
 rcases show Ev z from hz▸cF _ _ _ with rfl|rfl|rfl
 ·exact absurd rfl h0
 all_goals
  refine jY Tryz.func14 fun w00 hI=>?_
  refine jW hI 42 [t3 a b c] (iU h hz) ?_
  exact jR Tryz.func14
theorem tS (h1:jF 61 [tx a,tx b] (tx x)) (h2:jF 61 [tx a,tx c] (tx y)) (h3:jF 61 [tx a,tx d] (tx u)):jF 17 [tx a,t3 b c d] (t3 x y u):=by
 refine jG Tryz.func17 fun w00=>?_
 refine jC 61 [tx a,tx b] (h1) ?_
 refine jC 61 [tx a,tx c] (h2) ?_
 refine jC 61 [tx a,tx d] (h3) ?_
 exact jR Tryz.func17
theorem whenF {b:Bool}:jF 27 [bl b,it 7] (it (if b then 7 else 0)):=by
 cases b <;> (refine jG Tryz.func27 fun w00=>?_;exact kret Tryz.func27 (by kernel_rfl))
theorem zB {s:ByteArray}:jF 20 [lt ⟨#[]⟩,it 7,it 7,tx s] (bl true):=by
 refine jG Tryz.func20 fun w00=>?_
 exact jR Tryz.func20
end
section
variable {f:FuncId} {w00:World} {Out:Value→World→Prop} {c:Cfg Kn}
theorem ke3 (x y:Operand) (a b d a' b' d' : ByteArray) (r:Bool) (h:(a.toList==a'.toList&&b.toList==b'.toList&&d.toList==d'.toList)=r) (hg:Ok Tryz.prog f w00 Out (dA Tryz.prog 1000 (c.give (bl r))))
 (hc:(c.op.map fun o=>o.op,c.okT (bl r),c.ev x,c.ev y)=(some (.binOp .eql 24 x y 24),true,.fv (.ag [dD a,dD b,dD d]),.fv (.ag [dD a',dD b',dD d'])):=by kernel_rfl):Ok Tryz.prog f w00 Out c :=
 kop2 (.binOp .eql 24 x y 24) x y _ _ (bl r) hc (by simp [Op.operands]) (by simp [Op.operands]) (fun ρ o β w ho hx hy=>⟨_,agg_eq (by kernel_rfl) (h▸equalT a b d a' b' d' w) ho (s3_is hx) (s3_is hy),bI rfl⟩) hg
end
theorem iV {z:Int} (hz:Bz z):jF 19 [noT,it z,it z,noT] (bl true):=by
 rcases hz with rfl|rfl|rfl|rfl|rfl
 all_goals
  refine jG Tryz.func19 fun w00=>?_
  exact jR Tryz.func19
theorem refLargeVecF {a b c:Rat} (h:dO a b c):jF 62 [vS a b c] (it 0):=by
 have h1:=qD h.1
 have h2:=qD h.2.1
 have h3:=qD h.2.2
 have hr:jF 124 [.fv (.nsl 3 22 [dD (writeB a),dD (writeB b),dD (writeB c)])] (it 0):=by
  refine nT Tryz.func124 (by kernel_rfl) fun w00=>?_
  refine jC 63 [tx (writeB a)] (h1) ?_
  refine jC 63 [tx (writeB b)] (h2) ?_
  refine jC 63 [tx (writeB c)] (h3) ?_
  exact jR Tryz.func124
 refine jG Tryz.func62 fun w00=>?_
 refine jC 124 _ (hr) ?_
 exact jR Tryz.func62
theorem cN {a b c:Rat} (h:dO a b c):jF 19 [vS a b c,it 0,it 0,vS a b c] (bl true):=by
 have hl:=refLargeVecF h
 refine jG Tryz.func19 fun w00=>?_
 refine jC 62 _ (hl) ?_
 refine ke3 (.tmp 26) (.tmp 27) (writeB a) (writeB b) (writeB c) (writeB a) (writeB b) (writeB c) true (by simp) ?_
 exact jR Tryz.func19
section
variable {a b c x y u p q r:Rat} {s:ByteArray} {z:Int} {t:Bool}
theorem write_inj {p q:Rat} (hp:Wr p) (h:writeB p=writeB q) (hq:Wr q):p=q:=by
 have h1:=(iS p).1
 have h2:=(iS q).1
 have h3:=(iS p).2
 have h4:=(iS q).2
 rw [h] at h1 h3
 have hb:bB p=bB q:=h3.symm.trans h4
 obtain ⟨c1,c2,c3⟩:=yY p
 obtain ⟨d1,d2,d3⟩:=yY q
 rw [hb] at c1 c2 c3
 have hn:p.num.natAbs=q.num.natAbs:=yX (c1.symm.trans d1)
 have hd:p.den=q.den:=by
  by_cases e:p.den=1
  ·by_cases e' : q.den=1
   ·rw [e,e']
   ·exact absurd e (c3.1 (d3.2 e'))
  ·have e':=d3.1 (c3.2 e)
   exact yX ((c2 e).symm.trans (d2 e'))
 have hs:decide (p.num<0)=decide (q.num<0):=h1.symm.trans h2
 refine Rat.ext ?_ hd
 by_cases g:p.num<0
 ·have g' : q.num<0:=by rw [decide_eq_true g] at hs;exact of_decide_eq_true hs.symm
  omega
 ·have g' : ¬ q.num<0:=by rw [decide_eq_false g] at hs;exact of_decide_eq_false hs.symm
  omega
theorem tT {p q:Rat} (hp:Wr p) (hq:Wr q):((writeB p).toList==(writeB q).toList)=decide (p=q):=by
 rw [Bool.eq_iff_iff,decide_eq_true_iff,beq_iff_eq]
 constructor
 ·intro h
  rw [Go.ByteArray.toList_eq,Go.ByteArray.toList_eq] at h
  exact write_inj hp (ba_ext h) hq
 ·rintro rfl;rfl
theorem qG (qa:Bq 40 a) (qb:Bq 40 b) (qc:Bq 40 c) (qx:Bq 40 x) (qy:Bq 40 y) (qu:Bq 40 u) (h0:dt a b c a b c≠0) (hp:dt a b c x y u/dt a b c a b c=p) (hr:(decide (p*a=x)&&decide (p*b=y)&&decide (p*c=u))=t) :
 jF 26 [vS a b c,vS x y u] (.tup [.sc (dD (writeB p)),.sc (.lit (.bool t))]):=by
 have q1:Bq 242 (dt a b c x y u):=Bq.dt qa qb qc qx qy qu (by omega)
 have q2:Bq 242 (dt a b c a b c):=Bq.dt qa qb qc qa qb qc (by omega)
 have qp:Bq 484 p:=by rw [← hp];exact q1.div q2
 have h1:=qI qa qb qc qx qy qu (by omega)
 have h2:=kE (qI qa qb qc qa qb qc (by omega))
 have h3:=cM (refDivF (q1.zs (by omega)) (q2.zs (by omega)) h0)
 rw [hp] at h3
 have m:∀ {q:Rat},Bq 40 q→jF 61 [tx (writeB p),tx (writeB q)] (tx (writeB (p*q))):=fun hq=>cM (dM (qp.zs (by omega)) (hq.zs (by omega)))
 have h4:=tS (m qa) (m qb) (m qc)
 have w:∀ {q r:Rat},Bq 40 q→Bq 40 r→((writeB (p*q)).toList==(writeB r).toList)=decide (p*q=r):=fun hq hr=>tT ((qp.mul hq).wr (by omega)) (hr.wr (by omega))
 have he:((writeB (p*a)).toList==(writeB x).toList&&(writeB (p*b)).toList==(writeB y).toList&&(writeB (p*c)).toList==(writeB u).toList)=t:=by rw [w qa qx,w qb qy,w qc qu,hr]
 refine jG Tryz.func26 fun w00=>?_
 refine jC 23 _ (h1) ?_
 refine jC 18 _ (h2) ?_
 refine jC 67 _ (h3) ?_
 refine jC 17 _ (h4) ?_
 refine ke3 (.tmp 16) (.tmp 17) _ _ _ _ _ _ t he ?_
 exact jR Tryz.func26
end
section
variable {a b d x y u c:ByteArray} {z y1 y2 y3:Int}
theorem sD (h:Sl c):decide ((40:Int)<(c.size:Nat))=false:=by have h:c.size≤40:=h;rw [decide_eq_false_iff_not];omega
theorem eV (h:Sl3 a b d) (k:Sl3 x y u):jF 5 [it 40,.fv (.nsl 2 24 [dD a,dD b,dD d,dD x,dD y,dD u])] (bl true):=by
 have e:(lo 40 a || lo 40 b || lo 40 d || lo 40 x || lo 40 y || lo 40 u)=false:=by
  simp only [lo]
  rw [sD h.1,sD h.2.1,sD h.2.2,sD k.1,sD k.2.1,sD k.2.2]
  rfl
 exact shortF e
theorem vecs_long1 (h:(lo 40 a || lo 40 b || lo 40 d || lo 40 x || lo 40 y || lo 40 u)=true):jX 3 [t3 a b d,t3 x y u,tx c] (bl true):=by
 have hs:=shortF (T:=24) h
 refine jY Tryz.func3 fun w00 hI=>?_
 refine jW hI 4 [] (iH) ?_
 refine jC 5 _ (hs) ?_
 refine jW hI 4 [] (iH) ?_
 exact jR Tryz.func3
theorem vecs_long2 (h:Sl3 a b d) (k:Sl3 x y u) (hc:decide ((40:Int)<(c.size:Nat))=true):jX 3 [t3 a b d,t3 x y u,tx c] (bl true):=by
 have hs:=eV h k
 refine jY Tryz.func3 fun w00 hI=>?_
 refine jW hI 4 [] (iH) ?_
 refine jC 5 _ (hs) ?_
 refine jP 38 22 Tryz.underlying22 c ?_
 refine jM 39 c.size 40 true hc ?_
 refine jW hI 4 [] (iH) ?_
 exact jR Tryz.func3
abbrev B14 (z:Int):Prop:=z=1∨z=4
theorem ev_b {z:Int} (h:Ev z) (h0:z≠0):B14 z:=by
 rcases h with h|h|h
 ·exact absurd h h0
 ·exact .inl h
 ·exact .inr h
theorem wI {z:Int} (h:B14 z):z≠0:=by rcases h with rfl|rfl <;> decide
theorem b_4 {z:Int} (h:B14 z):Bz z:=by
 rcases h with h|h
 ·exact .inl h
 ·exact .inr (.inr (.inl h))
set_option maxRecDepth 100000 in
theorem vecs_bad1 (h:Sl3 a b d) (k:Sl3 x y u) (hc' : Sl c) (hz:c3 a b d=z) (h0:B14 z):jX 3 [t3 a b d,t3 x y u,tx c] (bl true):=by
 have hc:=sD hc'
 have hs:=eV h k
 have n0:=wI h0
 have hf:f2 (c3 a b d) (c3 x y u)=z:=by rw [f2_l (by rw [hz];exact n0)];exact hz
 have kA:=bE h hz
 have kB:=bE k rfl
 have kF:=bW (cF a b d) (cF x y u) hf
 have cC:=dG h.rb hz
 have cAdd:=lU h.rb k.rb hf n0
 have cSub:=lW h.rb k.rb hf n0
 have cDot:=sC h.rb k.rb hf n0
 have cCro:=oC h.rb k.rb hf n0
 have cSqu:=zR h.rb hz n0
 have cAlo:=oD h.rb k.rb hf n0
 obtain ⟨o,ho⟩:∃ o,f2 (bA c) (c3 a b d)=o:=⟨_,rfl⟩
 have hob:B14 o:=by
  refine ev_b (ho▸vV (aW c) (cF a b d)) fun e=>?_
  rw [e] at ho
  exact n0 (hz▸(f2_zero ho).2)
 have cSca:=gU hc'.rb h.rb ho (wI hob)
 have kC:=dR (s:=c) (by have h:c.size≤40:=hc';omega) rfl
 have kG:=bW (aW c) (cF a b d) ho
 have pS:=iV (b_4 hob)
 have pB:=iV (b_4 h0)
 have nB:=nD (b_4 h0)
 rw [hz] at kF kG
 clear hf ho h k hc' hz n0
 generalize c3 x y u=zb at *
 generalize bA c=zc at *
 rcases h0 with rfl|rfl
 all_goals
  rcases hob with rfl|rfl
  all_goals
   refine jY Tryz.func3 fun w00 hI=>?_
   refine jW hI 4 [] (iH) ?_
   refine jC 5 _ (hs) ?_
   refine jP 38 22 Tryz.underlying22 c ?_
   refine jM 39 c.size 40 false hc ?_
   refine jC 6 _ (kA) ?_
   refine jC 6 _ (kB) ?_
   refine jC 7 _ (kF) ?_
   refine jW hI 8 _ (cC) ?_
   refine jW hI 9 _ (cAdd) ?_
   refine jW hI 10 _ (cSub) ?_
   refine jW hI 11 _ (cSca) ?_
   refine jW hI 12 _ (cDot) ?_
   refine jW hI 13 _ (cCro) ?_
   refine jW hI 14 _ (cSqu) ?_
   refine jW hI 15 _ (cAlo) ?_
   refine jC 16 _ (kC) ?_
   refine jC 7 _ (kG) ?_
   refine jC 19 _ (pS) ?_
   refine jC 20 _ (nB) ?_
   refine jC 19 _ (pB) ?_
   refine jC 19 _ (pB) ?_
   refine jC 20 _ (nB) ?_
   refine jC 19 _ (pB) ?_
   refine jC 20 _ (nB) ?_
   exact jR Tryz.func3
end
section
variable {a b d:Rat} {x y u c:ByteArray} {z o:Int}
set_option maxRecDepth 100000 in
theorem vecs_bad2 (h:Sl3 (writeB a) (writeB b) (writeB d)) (k:Sl3 x y u) (hc' : Sl c) (qa:Bq 40 a) (qb:Bq 40 b) (qd:Bq 40 d) (hA:c3 (writeB a) (writeB b) (writeB d)=0) (hz:c3 x y u=z) (h0:B14 z) (ho:bA c=o) (hob:B14 o) :
 jX 3 [vS a b d,t3 x y u,tx c] (bl true):=by
 have hc:=sD hc'
 have hs:=eV h k
 have n0:=wI h0
 have hf:f2 (c3 (writeB a) (writeB b) (writeB d)) (c3 x y u)=z:=by rw [wH hA];exact hz
 have hg:f2 (bA c) (c3 (writeB a) (writeB b) (writeB d))=o:=by rw [f2_l (by rw [ho];exact wI hob)];exact ho
 have wa:dO a b d:=⟨qa.wr (by omega),qb.wr (by omega),qd.wr (by omega)⟩
 have q2:Bq 242 (dt a b d a b d):=Bq.dt qa qb qd qa qb qd (by omega)
 have w2:Wr (dt a b d a b d):=q2.wr (by omega)
 have kA:=bE h hA
 have kB:=bE k hz
 have kF:=bW (cF (writeB a) (writeB b) (writeB d)) (cF x y u) hf
 have cC:=dG h.rb hA
 have cAdd:=lU h.rb k.rb hf n0
 have cSub:=lW h.rb k.rb hf n0
 have cDot:=sC h.rb k.rb hf n0
 have cCro:=oC h.rb k.rb hf n0
 have cSqu:=fE wa w2
 have cAlo:=oD h.rb k.rb hf n0
 have cSca:=gU hc'.rb h.rb hg (wI hob)
 have kC:=dR (s:=c) (by have h:c.size≤40:=hc';omega) ho
 have kG:=bW (aW c) (cF (writeB a) (writeB b) (writeB d)) hg
 have rSq:=kE (qI qa qb qd qa qb qd (by omega))
 have pS:=iV (b_4 hob)
 have nS:=dE w2
 have pB:=iV (b_4 h0)
 have nB:=nD (b_4 h0)
 rw [hA,hz] at kF
 rw [hA,ho] at kG
 clear hf ho h k hc' hz n0 hA hg wa q2 w2 qa qb qd
 generalize writeB (dt a b d a b d)=sq at *
 rcases h0 with rfl|rfl
 all_goals
  rcases hob with rfl|rfl
  all_goals
   refine jY Tryz.func3 fun w00 hI=>?_
   refine jW hI 4 [] (iH) ?_
   refine jC 5 _ (hs) ?_
   refine jP 38 22 Tryz.underlying22 c ?_
   refine jM 39 c.size 40 false hc ?_
   refine jC 6 _ (kA) ?_
   refine jC 6 _ (kB) ?_
   refine jC 7 _ (kF) ?_
   refine jW hI 8 _ (cC) ?_
   refine jW hI 9 _ (cAdd) ?_
   refine jW hI 10 _ (cSub) ?_
   refine jW hI 11 _ (cSca) ?_
   refine jW hI 12 _ (cDot) ?_
   refine jW hI 13 _ (cCro) ?_
   refine jW hI 14 _ (cSqu) ?_
   refine jW hI 15 _ (cAlo) ?_
   refine jC 16 _ (kC) ?_
   refine jC 7 _ (kG) ?_
   refine jC 18 _ (rSq) ?_
   refine jC 19 _ (pS) ?_
   refine jC 20 _ (nS) ?_
   refine jC 19 _ (pB) ?_
   refine jC 19 _ (pB) ?_
   refine jC 20 _ (nB) ?_
   refine jC 19 _ (pB) ?_
   refine jC 20 _ (nB) ?_
   exact jR Tryz.func3
end
section
variable {a b d e:Rat} {x y u:ByteArray} {z:Int}
set_option maxRecDepth 100000 in
theorem vecs_bad3 (h:Sl3 (writeB a) (writeB b) (writeB d)) (k:Sl3 x y u) (hc' : Sl (writeB e)) (qa:Bq 40 a) (qb:Bq 40 b) (qd:Bq 40 d) (qe:Bq 40 e) (hA:c3 (writeB a) (writeB b) (writeB d)=0) (hz:c3 x y u=z) (h0:B14 z) (ho:bA (writeB e)=0) :
 jX 3 [vS a b d,t3 x y u,tx (writeB e)] (bl true):=by
 have hc:=sD hc'
 have hs:=eV h k
 have n0:=wI h0
 have hf:f2 (c3 (writeB a) (writeB b) (writeB d)) (c3 x y u)=z:=by rw [wH hA];exact hz
 have hg:f2 (bA (writeB e)) (c3 (writeB a) (writeB b) (writeB d))=0:=by rw [wH ho];exact hA
 have wa:dO a b d:=⟨qa.wr (by omega),qb.wr (by omega),qd.wr (by omega)⟩
 have q2:Bq 242 (dt a b d a b d):=Bq.dt qa qb qd qa qb qd (by omega)
 have w2:Wr (dt a b d a b d):=q2.wr (by omega)
 have w3:dO (e*a) (e*b) (e*d):=⟨(qe.mul qa).wr (by omega),(qe.mul qb).wr (by omega),(qe.mul qd).wr (by omega)⟩
 have kA:=bE h hA
 have kB:=bE k hz
 have kF:=bW (cF (writeB a) (writeB b) (writeB d)) (cF x y u) hf
 have cC:=dG h.rb hA
 have cAdd:=lU h.rb k.rb hf n0
 have cSub:=lW h.rb k.rb hf n0
 have cDot:=sC h.rb k.rb hf n0
 have cCro:=oC h.rb k.rb hf n0
 have cSqu:=fE wa w2
 have cAlo:=oD h.rb k.rb hf n0
 have cSca:=pW (qe.wr (by omega)) wa w3
 have kC:=dR (s:=writeB e) (by have h:(writeB e).size≤40:=hc';omega) ho
 have kG:=bW (aW (writeB e)) (cF (writeB a) (writeB b) (writeB d)) hg
 have rSq:=kE (qI qa qb qd qa qb qd (by omega))
 have rSc:=tS (cM (dM (qe.zs (by omega)) (qa.zs (by omega)))) (cM (dM (qe.zs (by omega)) (qb.zs (by omega)))) (cM (dM (qe.zs (by omega)) (qd.zs (by omega))))
 have pS:=cN w3
 have nS:=dE w2
 have pB:=iV (b_4 h0)
 have nB:=nD (b_4 h0)
 rw [hA,hz] at kF
 rw [hA,ho] at kG
 clear hf ho h k hc' hz n0 hA hg wa q2 w2 w3 qa qb qd qe
 generalize writeB (dt a b d a b d)=sq at *
 generalize writeB e=c at *
 rcases h0 with rfl|rfl
 all_goals
  refine jY Tryz.func3 fun w00 hI=>?_
  refine jW hI 4 [] (iH) ?_
  refine jC 5 _ (hs) ?_
  refine jP 38 22 Tryz.underlying22 c ?_
  refine jM 39 c.size 40 false hc ?_
  refine jC 6 _ (kA) ?_
  refine jC 6 _ (kB) ?_
  refine jC 7 _ (kF) ?_
  refine jW hI 8 _ (cC) ?_
  refine jW hI 9 _ (cAdd) ?_
  refine jW hI 10 _ (cSub) ?_
  refine jW hI 11 _ (cSca) ?_
  refine jW hI 12 _ (cDot) ?_
  refine jW hI 13 _ (cCro) ?_
  refine jW hI 14 _ (cSqu) ?_
  refine jW hI 15 _ (cAlo) ?_
  refine jC 16 _ (kC) ?_
  refine jC 7 _ (kG) ?_
  refine jC 17 _ (rSc) ?_
  refine jC 18 _ (rSq) ?_
  refine jC 19 _ (pS) ?_
  refine jC 20 _ (nS) ?_
  refine jC 19 _ (pB) ?_
  refine jC 19 _ (pB) ?_
  refine jC 20 _ (nB) ?_
  refine jC 19 _ (pB) ?_
  refine jC 20 _ (nB) ?_
  exact jR Tryz.func3
end
theorem wX:Wr (0:Rat):=(bq_int (z:=0) (k:=1) (by omega) (by omega)).wr (by omega)
section
variable {a b d x y u e:Rat}
theorem lag0 (h:b*u-d*y=0) (h2:d*x-a*u=0) (h3:a*y-b*x=0) (h0:dt a b d a b d≠0):dt a b d x y u/dt a b d a b d*a=x∧dt a b d x y u/dt a b d a b d*b=y∧dt a b d x y u/dt a b d a b d*d=u:=by
 have e1:dt a b d x y u*a=dt a b d a b d*x:=by grind
 have e2:dt a b d x y u*b=dt a b d a b d*y:=by grind
 have e3:dt a b d x y u*d=dt a b d a b d*u:=by grind
 generalize dt a b d x y u=s at *
 generalize dt a b d a b d=r at *
 refine ⟨by grind,by grind,by grind⟩
theorem lag1 {p:Rat} (h1:p*a=x) (h2:p*b=y) (h3:p*d=u):b*u-d*y=0∧d*x-a*u=0∧a*y-b*x=0:=by
 subst h1 h2 h3
 refine ⟨by grind,by grind,by grind⟩
set_option maxRecDepth 100000 in
theorem vecs_e_zero {c:ByteArray} {o:Int} (h:Sl3 (writeB a) (writeB b) (writeB d)) (k:Sl3 (writeB x) (writeB y) (writeB u)) (hc' : Sl c) (qa:Bq 40 a) (qb:Bq 40 b) (qd:Bq 40 d) (qx:Bq 40 x) (qy:Bq 40 y) (qu:Bq 40 u) (ho:bA c=o) (hob:B14 o) (hA:c3 (writeB a) (writeB b) (writeB d)=0) (hB:c3 (writeB x) (writeB y) (writeB u)=0) (hv:a=0∧b=0∧d=0) :
 jX 3 [vS a b d,vS x y u,tx c] (bl true):=by
 have hc:=sD hc'
 have hs:=eV h k
 have hf:f2 (c3 (writeB a) (writeB b) (writeB d)) (c3 (writeB x) (writeB y) (writeB u))=0:=by rw [wH hA];exact hB
 have hg:f2 (bA c) (c3 (writeB a) (writeB b) (writeB d))=o:=by rw [f2_l (by rw [ho];exact wI hob)];exact ho
 have wa:dO a b d:=⟨qa.wr (by omega),qb.wr (by omega),qd.wr (by omega)⟩
 have wx:dO x y u:=⟨qx.wr (by omega),qy.wr (by omega),qu.wr (by omega)⟩
 have q2:Bq 242 (dt a b d a b d):=Bq.dt qa qb qd qa qb qd (by omega)
 have w2:Wr (dt a b d a b d):=q2.wr (by omega)
 have q4:Bq 242 (dt a b d x y u):=Bq.dt qa qb qd qx qy qu (by omega)
 have w4:Wr (dt a b d x y u):=q4.wr (by omega)
 have wA:dO (a+x) (b+y) (d+u):=⟨(qa.add qx).wr (by omega),(qb.add qy).wr (by omega),(qd.add qu).wr (by omega)⟩
 have wS:dO (a-x) (b-y) (d-u):=⟨(qa.sub qx).wr (by omega),(qb.sub qy).wr (by omega),(qd.sub qu).wr (by omega)⟩
 have wC:dO (b*u-d*y) (d*x-a*u) (a*y-b*x):=⟨((qb.mul qu).sub (qd.mul qy)).wr (by omega),((qd.mul qx).sub (qa.mul qu)).wr (by omega),((qa.mul qy).sub (qb.mul qx)).wr (by omega)⟩
 have kA:=bE h hA
 have kB:=bE k hB
 have kF:=bW (cF (writeB a) (writeB b) (writeB d)) (cF (writeB x) (writeB y) (writeB u)) hf
 have cC:=dG h.rb hA
 have cAdd:=iA wa wx wA
 have cSub:=iB wa wx wS
 have cDot:=pX wa wx w4
 have cCro:=kJ wa wx wC
 have cSqu:=fE wa w2
 have rAdd:=qB (cM (cW (qa.zs (by omega)) (qx.zs (by omega)))) (cM (cW (qb.zs (by omega)) (qy.zs (by omega)))) (cM (cW (qd.zs (by omega)) (qu.zs (by omega))))
 have rSub:=qC (cM (oB (qa.zs (by omega)) (qx.zs (by omega)))) (cM (oB (qb.zs (by omega)) (qy.zs (by omega)))) (cM (oB (qd.zs (by omega)) (qu.zs (by omega))))
 have rDot:=qI qa qb qd qx qy qu (by omega)
 have rCro:=vC qa qb qd qx qy qu (by omega)
 have rSq:=kE (qI qa qb qd qa qb qd (by omega))
 have pAdd:=cN wA
 have pSub:=cN wS
 have pCro:=cN wC
 have nDot:=dE w4
 have nS:=dE w2
 have cSca:=gU hc'.rb h.rb hg (wI hob)
 have kC:=dR (s:=c) (by have h:c.size≤40:=hc';omega) ho
 have kG:=bW (aW c) (cF (writeB a) (writeB b) (writeB d)) hg
 have pS:=iV (b_4 hob)
 rw [hA,hB] at kF
 rw [hA,ho] at kG
 have cAlo:=qY wa wx (nC hv)
 have rO:jF 25 [vS a b d] (bl true):=kL (by
  have z:writeB (0:Rat)=⟨#[48]⟩:=w0
  rw [hv.1,hv.2.1,hv.2.2,z];simp)
 have nE:=nD (z:=6) (by decide)
 clear hf h k hc' hA hB hg wa wx q2 w2 q4 w4 wA wS wC qa qb qd qx qy qu hv ho
 rcases hob with rfl|rfl
 all_goals
  refine jY Tryz.func3 fun w00 hI=>?_
  refine jW hI 4 [] (iH) ?_
  refine jC 5 _ (hs) ?_
  refine jP 38 22 Tryz.underlying22 c ?_
  refine jM 39 c.size 40 false hc ?_
  refine jC 6 _ (kA) ?_
  refine jC 6 _ (kB) ?_
  refine jC 7 _ (kF) ?_
  refine jW hI 8 _ (cC) ?_
  refine jW hI 9 _ (cAdd) ?_
  refine jW hI 10 _ (cSub) ?_
  refine jW hI 11 _ (cSca) ?_
  refine jW hI 12 _ (cDot) ?_
  refine jW hI 13 _ (cCro) ?_
  refine jW hI 14 _ (cSqu) ?_
  refine jW hI 15 _ (cAlo) ?_
  refine jC 16 _ (kC) ?_
  refine jC 7 _ (kG) ?_
  refine jC 18 _ (rSq) ?_
  refine jC 19 _ (pS) ?_
  refine jC 20 _ (nS) ?_
  refine jC 21 _ (rAdd) ?_
  refine jC 19 _ (pAdd) ?_
  refine jC 22 _ (rSub) ?_
  refine jC 19 _ (pSub) ?_
  refine jC 23 _ (rDot) ?_
  refine jC 20 _ (nDot) ?_
  refine jC 24 _ (rCro) ?_
  refine jC 19 _ (pCro) ?_
  refine jC 25 _ (rO) ?_
  refine jC 20 _ (nE) ?_
  exact jR Tryz.func3
set_option maxRecDepth 100000 in
theorem vecs_e_yes {c:ByteArray} {o:Int} (h:Sl3 (writeB a) (writeB b) (writeB d)) (k:Sl3 (writeB x) (writeB y) (writeB u)) (hc' : Sl c) (qa:Bq 40 a) (qb:Bq 40 b) (qd:Bq 40 d) (qx:Bq 40 x) (qy:Bq 40 y) (qu:Bq 40 u) (ho:bA c=o) (hob:B14 o) (hA:c3 (writeB a) (writeB b) (writeB d)=0) (hB:c3 (writeB x) (writeB y) (writeB u)=0) (hv:¬ (a=0∧b=0∧d=0)) (hx:b*u-d*y=0∧d*x-a*u=0∧a*y-b*x=0) :
 jX 3 [vS a b d,vS x y u,tx c] (bl true):=by
 have hc:=sD hc'
 have hs:=eV h k
 have hf:f2 (c3 (writeB a) (writeB b) (writeB d)) (c3 (writeB x) (writeB y) (writeB u))=0:=by rw [wH hA];exact hB
 have hg:f2 (bA c) (c3 (writeB a) (writeB b) (writeB d))=o:=by rw [f2_l (by rw [ho];exact wI hob)];exact ho
 have wa:dO a b d:=⟨qa.wr (by omega),qb.wr (by omega),qd.wr (by omega)⟩
 have wx:dO x y u:=⟨qx.wr (by omega),qy.wr (by omega),qu.wr (by omega)⟩
 have q2:Bq 242 (dt a b d a b d):=Bq.dt qa qb qd qa qb qd (by omega)
 have w2:Wr (dt a b d a b d):=q2.wr (by omega)
 have q4:Bq 242 (dt a b d x y u):=Bq.dt qa qb qd qx qy qu (by omega)
 have w4:Wr (dt a b d x y u):=q4.wr (by omega)
 have wA:dO (a+x) (b+y) (d+u):=⟨(qa.add qx).wr (by omega),(qb.add qy).wr (by omega),(qd.add qu).wr (by omega)⟩
 have wS:dO (a-x) (b-y) (d-u):=⟨(qa.sub qx).wr (by omega),(qb.sub qy).wr (by omega),(qd.sub qu).wr (by omega)⟩
 have wC:dO (b*u-d*y) (d*x-a*u) (a*y-b*x):=⟨((qb.mul qu).sub (qd.mul qy)).wr (by omega),((qd.mul qx).sub (qa.mul qu)).wr (by omega),((qa.mul qy).sub (qb.mul qx)).wr (by omega)⟩
 have kA:=bE h hA
 have kB:=bE k hB
 have kF:=bW (cF (writeB a) (writeB b) (writeB d)) (cF (writeB x) (writeB y) (writeB u)) hf
 have cC:=dG h.rb hA
 have cAdd:=iA wa wx wA
 have cSub:=iB wa wx wS
 have cDot:=pX wa wx w4
 have cCro:=kJ wa wx wC
 have cSqu:=fE wa w2
 have rAdd:=qB (cM (cW (qa.zs (by omega)) (qx.zs (by omega)))) (cM (cW (qb.zs (by omega)) (qy.zs (by omega)))) (cM (cW (qd.zs (by omega)) (qu.zs (by omega))))
 have rSub:=qC (cM (oB (qa.zs (by omega)) (qx.zs (by omega)))) (cM (oB (qb.zs (by omega)) (qy.zs (by omega)))) (cM (oB (qd.zs (by omega)) (qu.zs (by omega))))
 have rDot:=qI qa qb qd qx qy qu (by omega)
 have rCro:=vC qa qb qd qx qy qu (by omega)
 have rSq:=kE (qI qa qb qd qa qb qd (by omega))
 have pAdd:=cN wA
 have pSub:=cN wS
 have pCro:=cN wC
 have nDot:=dE w4
 have nS:=dE w2
 have cSca:=gU hc'.rb h.rb hg (wI hob)
 have kC:=dR (s:=c) (by have h:c.size≤40:=hc';omega) ho
 have kG:=bW (aW c) (cF (writeB a) (writeB b) (writeB d)) hg
 have pS:=iV (b_4 hob)
 rw [hA,hB] at kF
 rw [hA,ho] at kG
 have wz:∀ {q:Rat},Bq 40 q→((writeB q).toList==(⟨#[48]⟩:ByteArray).toList)=decide (q=0):=fun {q} hq=>by
  have z:(⟨#[48]⟩:ByteArray)=writeB (0:Rat):=w0.symm
  rw [z]
  exact tT (hq.wr (by omega)) wX
 have rO:jF 25 [vS a b d] (bl false):=kL (by rw [wz qa,wz qb,wz qd];exact fY hv)
 have s0:dt a b d a b d≠0:=fun e=>hv (sum_sq e)
 obtain ⟨p,hp⟩:∃ p,dt a b d x y u/dt a b d a b d=p:=⟨_,rfl⟩
 have qp:Bq 484 p:=by rw [← hp];exact q4.div q2
 have wp:Wr p:=qp.wr (by omega)
 have hl:=lag0 hx.1 hx.2.1 hx.2.2 s0
 rw [hp] at hl
 have hcm:dt x y u a b d=dt a b d x y u:=by grind
 have cAlo:=uO wa wx (fY hv) (nC hx) s0 (by rw [hcm,hp];exact wp)
 rw [hcm,hp] at cAlo
 have rAl:=qG qa qb qd qx qy qu s0 hp (nC hl)
 have kW := @whenF false
 have nE:=dE wp
 clear hf h k hc' hA hB hg wa wx q2 w2 q4 w4 wA wS wC qa qb qd qx qy qu hv ho hx qp wp wz s0 hp hl hcm
 rcases hob with rfl|rfl
 all_goals
  refine jY Tryz.func3 fun w00 hI=>?_
  refine jW hI 4 [] (iH) ?_
  refine jC 5 _ (hs) ?_
  refine jP 38 22 Tryz.underlying22 c ?_
  refine jM 39 c.size 40 false hc ?_
  refine jC 6 _ (kA) ?_
  refine jC 6 _ (kB) ?_
  refine jC 7 _ (kF) ?_
  refine jW hI 8 _ (cC) ?_
  refine jW hI 9 _ (cAdd) ?_
  refine jW hI 10 _ (cSub) ?_
  refine jW hI 11 _ (cSca) ?_
  refine jW hI 12 _ (cDot) ?_
  refine jW hI 13 _ (cCro) ?_
  refine jW hI 14 _ (cSqu) ?_
  refine jW hI 15 _ (cAlo) ?_
  refine jC 16 _ (kC) ?_
  refine jC 7 _ (kG) ?_
  refine jC 18 _ (rSq) ?_
  refine jC 19 _ (pS) ?_
  refine jC 20 _ (nS) ?_
  refine jC 21 _ (rAdd) ?_
  refine jC 19 _ (pAdd) ?_
  refine jC 22 _ (rSub) ?_
  refine jC 19 _ (pSub) ?_
  refine jC 23 _ (rDot) ?_
  refine jC 20 _ (nDot) ?_
  refine jC 24 _ (rCro) ?_
  refine jC 19 _ (pCro) ?_
  refine jC 25 _ (rO) ?_
  refine jC 26 _ (rAl) ?_
  refine jC 27 _ (kW) ?_
  refine jC 20 _ (nE) ?_
  exact jR Tryz.func3
set_option maxRecDepth 100000 in
theorem vecs_e_no {c:ByteArray} {o:Int} (h:Sl3 (writeB a) (writeB b) (writeB d)) (k:Sl3 (writeB x) (writeB y) (writeB u)) (hc' : Sl c) (qa:Bq 40 a) (qb:Bq 40 b) (qd:Bq 40 d) (qx:Bq 40 x) (qy:Bq 40 y) (qu:Bq 40 u) (ho:bA c=o) (hob:B14 o) (hA:c3 (writeB a) (writeB b) (writeB d)=0) (hB:c3 (writeB x) (writeB y) (writeB u)=0) (hv:¬ (a=0∧b=0∧d=0)) (hx:¬ (b*u-d*y=0∧d*x-a*u=0∧a*y-b*x=0)) :
 jX 3 [vS a b d,vS x y u,tx c] (bl true):=by
 have hc:=sD hc'
 have hs:=eV h k
 have hf:f2 (c3 (writeB a) (writeB b) (writeB d)) (c3 (writeB x) (writeB y) (writeB u))=0:=by rw [wH hA];exact hB
 have hg:f2 (bA c) (c3 (writeB a) (writeB b) (writeB d))=o:=by rw [f2_l (by rw [ho];exact wI hob)];exact ho
 have wa:dO a b d:=⟨qa.wr (by omega),qb.wr (by omega),qd.wr (by omega)⟩
 have wx:dO x y u:=⟨qx.wr (by omega),qy.wr (by omega),qu.wr (by omega)⟩
 have q2:Bq 242 (dt a b d a b d):=Bq.dt qa qb qd qa qb qd (by omega)
 have w2:Wr (dt a b d a b d):=q2.wr (by omega)
 have q4:Bq 242 (dt a b d x y u):=Bq.dt qa qb qd qx qy qu (by omega)
 have w4:Wr (dt a b d x y u):=q4.wr (by omega)
 have wA:dO (a+x) (b+y) (d+u):=⟨(qa.add qx).wr (by omega),(qb.add qy).wr (by omega),(qd.add qu).wr (by omega)⟩
 have wS:dO (a-x) (b-y) (d-u):=⟨(qa.sub qx).wr (by omega),(qb.sub qy).wr (by omega),(qd.sub qu).wr (by omega)⟩
 have wC:dO (b*u-d*y) (d*x-a*u) (a*y-b*x):=⟨((qb.mul qu).sub (qd.mul qy)).wr (by omega),((qd.mul qx).sub (qa.mul qu)).wr (by omega),((qa.mul qy).sub (qb.mul qx)).wr (by omega)⟩
 have kA:=bE h hA
 have kB:=bE k hB
 have kF:=bW (cF (writeB a) (writeB b) (writeB d)) (cF (writeB x) (writeB y) (writeB u)) hf
 have cC:=dG h.rb hA
 have cAdd:=iA wa wx wA
 have cSub:=iB wa wx wS
 have cDot:=pX wa wx w4
 have cCro:=kJ wa wx wC
 have cSqu:=fE wa w2
 have rAdd:=qB (cM (cW (qa.zs (by omega)) (qx.zs (by omega)))) (cM (cW (qb.zs (by omega)) (qy.zs (by omega)))) (cM (cW (qd.zs (by omega)) (qu.zs (by omega))))
 have rSub:=qC (cM (oB (qa.zs (by omega)) (qx.zs (by omega)))) (cM (oB (qb.zs (by omega)) (qy.zs (by omega)))) (cM (oB (qd.zs (by omega)) (qu.zs (by omega))))
 have rDot:=qI qa qb qd qx qy qu (by omega)
 have rCro:=vC qa qb qd qx qy qu (by omega)
 have rSq:=kE (qI qa qb qd qa qb qd (by omega))
 have pAdd:=cN wA
 have pSub:=cN wS
 have pCro:=cN wC
 have nDot:=dE w4
 have nS:=dE w2
 have cSca:=gU hc'.rb h.rb hg (wI hob)
 have kC:=dR (s:=c) (by have h:c.size≤40:=hc';omega) ho
 have kG:=bW (aW c) (cF (writeB a) (writeB b) (writeB d)) hg
 have pS:=iV (b_4 hob)
 rw [hA,hB] at kF
 rw [hA,ho] at kG
 have wz:∀ {q:Rat},Bq 40 q→((writeB q).toList==(⟨#[48]⟩:ByteArray).toList)=decide (q=0):=fun {q} hq=>by
  have z:(⟨#[48]⟩:ByteArray)=writeB (0:Rat):=w0.symm
  rw [z]
  exact tT (hq.wr (by omega)) wX
 have rO:jF 25 [vS a b d] (bl false):=kL (by rw [wz qa,wz qb,wz qd];exact fY hv)
 have s0:dt a b d a b d≠0:=fun e=>hv (sum_sq e)
 obtain ⟨p,hp⟩:∃ p,dt a b d x y u/dt a b d a b d=p:=⟨_,rfl⟩
 have qp:Bq 484 p:=by rw [← hp];exact q4.div q2
 have wp:Wr p:=qp.wr (by omega)
 have cAlo:=qX wa wx (fY hv) (fY hx)
 have rAl:=qG qa qb qd qx qy qu s0 hp (fY fun hl=>hx (lag1 hl.1 hl.2.1 hl.2.2))
 have kW := @whenF true
 have nE := @zB (writeB p)
 clear hf h k hc' hA hB hg wa wx q2 w2 q4 w4 wA wS wC qa qb qd qx qy qu hv ho hx qp wp wz s0 hp
 rcases hob with rfl|rfl
 all_goals
  refine jY Tryz.func3 fun w00 hI=>?_
  refine jW hI 4 [] (iH) ?_
  refine jC 5 _ (hs) ?_
  refine jP 38 22 Tryz.underlying22 c ?_
  refine jM 39 c.size 40 false hc ?_
  refine jC 6 _ (kA) ?_
  refine jC 6 _ (kB) ?_
  refine jC 7 _ (kF) ?_
  refine jW hI 8 _ (cC) ?_
  refine jW hI 9 _ (cAdd) ?_
  refine jW hI 10 _ (cSub) ?_
  refine jW hI 11 _ (cSca) ?_
  refine jW hI 12 _ (cDot) ?_
  refine jW hI 13 _ (cCro) ?_
  refine jW hI 14 _ (cSqu) ?_
  refine jW hI 15 _ (cAlo) ?_
  refine jC 16 _ (kC) ?_
  refine jC 7 _ (kG) ?_
  refine jC 18 _ (rSq) ?_
  refine jC 19 _ (pS) ?_
  refine jC 20 _ (nS) ?_
  refine jC 21 _ (rAdd) ?_
  refine jC 19 _ (pAdd) ?_
  refine jC 22 _ (rSub) ?_
  refine jC 19 _ (pSub) ?_
  refine jC 23 _ (rDot) ?_
  refine jC 20 _ (nDot) ?_
  refine jC 24 _ (rCro) ?_
  refine jC 19 _ (pCro) ?_
  refine jC 25 _ (rO) ?_
  refine jC 26 _ (rAl) ?_
  refine jC 27 _ (kW) ?_
  refine jC 20 _ (nE) ?_
  exact jR Tryz.func3
set_option maxRecDepth 100000 in
theorem vecs_c_zero (h:Sl3 (writeB a) (writeB b) (writeB d)) (k:Sl3 (writeB x) (writeB y) (writeB u)) (hc' : Sl (writeB e)) (qa:Bq 40 a) (qb:Bq 40 b) (qd:Bq 40 d) (qx:Bq 40 x) (qy:Bq 40 y) (qu:Bq 40 u) (qe:Bq 40 e) (ho:bA (writeB e)=0) (hA:c3 (writeB a) (writeB b) (writeB d)=0) (hB:c3 (writeB x) (writeB y) (writeB u)=0) (hv:a=0∧b=0∧d=0) :
 jX 3 [vS a b d,vS x y u,tx (writeB e)] (bl true):=by
 have hc:=sD hc'
 have hs:=eV h k
 have hf:f2 (c3 (writeB a) (writeB b) (writeB d)) (c3 (writeB x) (writeB y) (writeB u))=0:=by rw [wH hA];exact hB
 have hg:f2 (bA (writeB e)) (c3 (writeB a) (writeB b) (writeB d))=0:=by rw [wH ho];exact hA
 have wa:dO a b d:=⟨qa.wr (by omega),qb.wr (by omega),qd.wr (by omega)⟩
 have wx:dO x y u:=⟨qx.wr (by omega),qy.wr (by omega),qu.wr (by omega)⟩
 have q2:Bq 242 (dt a b d a b d):=Bq.dt qa qb qd qa qb qd (by omega)
 have w2:Wr (dt a b d a b d):=q2.wr (by omega)
 have q4:Bq 242 (dt a b d x y u):=Bq.dt qa qb qd qx qy qu (by omega)
 have w4:Wr (dt a b d x y u):=q4.wr (by omega)
 have wA:dO (a+x) (b+y) (d+u):=⟨(qa.add qx).wr (by omega),(qb.add qy).wr (by omega),(qd.add qu).wr (by omega)⟩
 have wS:dO (a-x) (b-y) (d-u):=⟨(qa.sub qx).wr (by omega),(qb.sub qy).wr (by omega),(qd.sub qu).wr (by omega)⟩
 have wC:dO (b*u-d*y) (d*x-a*u) (a*y-b*x):=⟨((qb.mul qu).sub (qd.mul qy)).wr (by omega),((qd.mul qx).sub (qa.mul qu)).wr (by omega),((qa.mul qy).sub (qb.mul qx)).wr (by omega)⟩
 have kA:=bE h hA
 have kB:=bE k hB
 have kF:=bW (cF (writeB a) (writeB b) (writeB d)) (cF (writeB x) (writeB y) (writeB u)) hf
 have cC:=dG h.rb hA
 have cAdd:=iA wa wx wA
 have cSub:=iB wa wx wS
 have cDot:=pX wa wx w4
 have cCro:=kJ wa wx wC
 have cSqu:=fE wa w2
 have rAdd:=qB (cM (cW (qa.zs (by omega)) (qx.zs (by omega)))) (cM (cW (qb.zs (by omega)) (qy.zs (by omega)))) (cM (cW (qd.zs (by omega)) (qu.zs (by omega))))
 have rSub:=qC (cM (oB (qa.zs (by omega)) (qx.zs (by omega)))) (cM (oB (qb.zs (by omega)) (qy.zs (by omega)))) (cM (oB (qd.zs (by omega)) (qu.zs (by omega))))
 have rDot:=qI qa qb qd qx qy qu (by omega)
 have rCro:=vC qa qb qd qx qy qu (by omega)
 have rSq:=kE (qI qa qb qd qa qb qd (by omega))
 have pAdd:=cN wA
 have pSub:=cN wS
 have pCro:=cN wC
 have nDot:=dE w4
 have nS:=dE w2
 have w3:dO (e*a) (e*b) (e*d):=⟨(qe.mul qa).wr (by omega),(qe.mul qb).wr (by omega),(qe.mul qd).wr (by omega)⟩
 have cSca:=pW (qe.wr (by omega)) wa w3
 have kC:=dR (s:=writeB e) (by have h:(writeB e).size≤40:=hc';omega) ho
 have kG:=bW (aW (writeB e)) (cF (writeB a) (writeB b) (writeB d)) hg
 have rSc:=tS (cM (dM (qe.zs (by omega)) (qa.zs (by omega)))) (cM (dM (qe.zs (by omega)) (qb.zs (by omega)))) (cM (dM (qe.zs (by omega)) (qd.zs (by omega))))
 have pS:=cN w3
 rw [hA,hB] at kF
 rw [hA,ho] at kG
 have cAlo:=qY wa wx (nC hv)
 have rO:jF 25 [vS a b d] (bl true):=kL (by
  have z:writeB (0:Rat)=⟨#[48]⟩:=w0
  rw [hv.1,hv.2.1,hv.2.2,z];simp)
 have nE:=nD (z:=6) (by decide)
 clear hf h k hc' hA hB hg wa wx q2 w2 q4 w4 wA wS wC qa qb qd qx qy qu hv w3 qe ho
 generalize writeB e=c at *
 all_goals
  refine jY Tryz.func3 fun w00 hI=>?_
  refine jW hI 4 [] (iH) ?_
  refine jC 5 _ (hs) ?_
  refine jP 38 22 Tryz.underlying22 c ?_
  refine jM 39 c.size 40 false hc ?_
  refine jC 6 _ (kA) ?_
  refine jC 6 _ (kB) ?_
  refine jC 7 _ (kF) ?_
  refine jW hI 8 _ (cC) ?_
  refine jW hI 9 _ (cAdd) ?_
  refine jW hI 10 _ (cSub) ?_
  refine jW hI 11 _ (cSca) ?_
  refine jW hI 12 _ (cDot) ?_
  refine jW hI 13 _ (cCro) ?_
  refine jW hI 14 _ (cSqu) ?_
  refine jW hI 15 _ (cAlo) ?_
  refine jC 16 _ (kC) ?_
  refine jC 7 _ (kG) ?_
  refine jC 17 _ (rSc) ?_
  refine jC 18 _ (rSq) ?_
  refine jC 19 _ (pS) ?_
  refine jC 20 _ (nS) ?_
  refine jC 21 _ (rAdd) ?_
  refine jC 19 _ (pAdd) ?_
  refine jC 22 _ (rSub) ?_
  refine jC 19 _ (pSub) ?_
  refine jC 23 _ (rDot) ?_
  refine jC 20 _ (nDot) ?_
  refine jC 24 _ (rCro) ?_
  refine jC 19 _ (pCro) ?_
  refine jC 25 _ (rO) ?_
  refine jC 20 _ (nE) ?_
  exact jR Tryz.func3
set_option maxRecDepth 100000 in
theorem vecs_c_yes (h:Sl3 (writeB a) (writeB b) (writeB d)) (k:Sl3 (writeB x) (writeB y) (writeB u)) (hc' : Sl (writeB e)) (qa:Bq 40 a) (qb:Bq 40 b) (qd:Bq 40 d) (qx:Bq 40 x) (qy:Bq 40 y) (qu:Bq 40 u) (qe:Bq 40 e) (ho:bA (writeB e)=0) (hA:c3 (writeB a) (writeB b) (writeB d)=0) (hB:c3 (writeB x) (writeB y) (writeB u)=0) (hv:¬ (a=0∧b=0∧d=0)) (hx:b*u-d*y=0∧d*x-a*u=0∧a*y-b*x=0) :
 jX 3 [vS a b d,vS x y u,tx (writeB e)] (bl true):=by
 have hc:=sD hc'
 have hs:=eV h k
 have hf:f2 (c3 (writeB a) (writeB b) (writeB d)) (c3 (writeB x) (writeB y) (writeB u))=0:=by rw [wH hA];exact hB
 have hg:f2 (bA (writeB e)) (c3 (writeB a) (writeB b) (writeB d))=0:=by rw [wH ho];exact hA
 have wa:dO a b d:=⟨qa.wr (by omega),qb.wr (by omega),qd.wr (by omega)⟩
 have wx:dO x y u:=⟨qx.wr (by omega),qy.wr (by omega),qu.wr (by omega)⟩
 have q2:Bq 242 (dt a b d a b d):=Bq.dt qa qb qd qa qb qd (by omega)
 have w2:Wr (dt a b d a b d):=q2.wr (by omega)
 have q4:Bq 242 (dt a b d x y u):=Bq.dt qa qb qd qx qy qu (by omega)
 have w4:Wr (dt a b d x y u):=q4.wr (by omega)
 have wA:dO (a+x) (b+y) (d+u):=⟨(qa.add qx).wr (by omega),(qb.add qy).wr (by omega),(qd.add qu).wr (by omega)⟩
 have wS:dO (a-x) (b-y) (d-u):=⟨(qa.sub qx).wr (by omega),(qb.sub qy).wr (by omega),(qd.sub qu).wr (by omega)⟩
 have wC:dO (b*u-d*y) (d*x-a*u) (a*y-b*x):=⟨((qb.mul qu).sub (qd.mul qy)).wr (by omega),((qd.mul qx).sub (qa.mul qu)).wr (by omega),((qa.mul qy).sub (qb.mul qx)).wr (by omega)⟩
 have kA:=bE h hA
 have kB:=bE k hB
 have kF:=bW (cF (writeB a) (writeB b) (writeB d)) (cF (writeB x) (writeB y) (writeB u)) hf
 have cC:=dG h.rb hA
 have cAdd:=iA wa wx wA
 have cSub:=iB wa wx wS
 have cDot:=pX wa wx w4
 have cCro:=kJ wa wx wC
 have cSqu:=fE wa w2
 have rAdd:=qB (cM (cW (qa.zs (by omega)) (qx.zs (by omega)))) (cM (cW (qb.zs (by omega)) (qy.zs (by omega)))) (cM (cW (qd.zs (by omega)) (qu.zs (by omega))))
 have rSub:=qC (cM (oB (qa.zs (by omega)) (qx.zs (by omega)))) (cM (oB (qb.zs (by omega)) (qy.zs (by omega)))) (cM (oB (qd.zs (by omega)) (qu.zs (by omega))))
 have rDot:=qI qa qb qd qx qy qu (by omega)
 have rCro:=vC qa qb qd qx qy qu (by omega)
 have rSq:=kE (qI qa qb qd qa qb qd (by omega))
 have pAdd:=cN wA
 have pSub:=cN wS
 have pCro:=cN wC
 have nDot:=dE w4
 have nS:=dE w2
 have w3:dO (e*a) (e*b) (e*d):=⟨(qe.mul qa).wr (by omega),(qe.mul qb).wr (by omega),(qe.mul qd).wr (by omega)⟩
 have cSca:=pW (qe.wr (by omega)) wa w3
 have kC:=dR (s:=writeB e) (by have h:(writeB e).size≤40:=hc';omega) ho
 have kG:=bW (aW (writeB e)) (cF (writeB a) (writeB b) (writeB d)) hg
 have rSc:=tS (cM (dM (qe.zs (by omega)) (qa.zs (by omega)))) (cM (dM (qe.zs (by omega)) (qb.zs (by omega)))) (cM (dM (qe.zs (by omega)) (qd.zs (by omega))))
 have pS:=cN w3
 rw [hA,hB] at kF
 rw [hA,ho] at kG
 have wz:∀ {q:Rat},Bq 40 q→((writeB q).toList==(⟨#[48]⟩:ByteArray).toList)=decide (q=0):=fun {q} hq=>by
  have z:(⟨#[48]⟩:ByteArray)=writeB (0:Rat):=w0.symm
  rw [z]
  exact tT (hq.wr (by omega)) wX
 have rO:jF 25 [vS a b d] (bl false):=kL (by rw [wz qa,wz qb,wz qd];exact fY hv)
 have s0:dt a b d a b d≠0:=fun e=>hv (sum_sq e)
 obtain ⟨p,hp⟩:∃ p,dt a b d x y u/dt a b d a b d=p:=⟨_,rfl⟩
 have qp:Bq 484 p:=by rw [← hp];exact q4.div q2
 have wp:Wr p:=qp.wr (by omega)
 have hl:=lag0 hx.1 hx.2.1 hx.2.2 s0
 rw [hp] at hl
 have hcm:dt x y u a b d=dt a b d x y u:=by grind
 have cAlo:=uO wa wx (fY hv) (nC hx) s0 (by rw [hcm,hp];exact wp)
 rw [hcm,hp] at cAlo
 have rAl:=qG qa qb qd qx qy qu s0 hp (nC hl)
 have kW := @whenF false
 have nE:=dE wp
 clear hf h k hc' hA hB hg wa wx q2 w2 q4 w4 wA wS wC qa qb qd qx qy qu hv w3 qe ho hx qp wp wz s0 hp hl hcm
 generalize writeB e=c at *
 all_goals
  refine jY Tryz.func3 fun w00 hI=>?_
  refine jW hI 4 [] (iH) ?_
  refine jC 5 _ (hs) ?_
  refine jP 38 22 Tryz.underlying22 c ?_
  refine jM 39 c.size 40 false hc ?_
  refine jC 6 _ (kA) ?_
  refine jC 6 _ (kB) ?_
  refine jC 7 _ (kF) ?_
  refine jW hI 8 _ (cC) ?_
  refine jW hI 9 _ (cAdd) ?_
  refine jW hI 10 _ (cSub) ?_
  refine jW hI 11 _ (cSca) ?_
  refine jW hI 12 _ (cDot) ?_
  refine jW hI 13 _ (cCro) ?_
  refine jW hI 14 _ (cSqu) ?_
  refine jW hI 15 _ (cAlo) ?_
  refine jC 16 _ (kC) ?_
  refine jC 7 _ (kG) ?_
  refine jC 17 _ (rSc) ?_
  refine jC 18 _ (rSq) ?_
  refine jC 19 _ (pS) ?_
  refine jC 20 _ (nS) ?_
  refine jC 21 _ (rAdd) ?_
  refine jC 19 _ (pAdd) ?_
  refine jC 22 _ (rSub) ?_
  refine jC 19 _ (pSub) ?_
  refine jC 23 _ (rDot) ?_
  refine jC 20 _ (nDot) ?_
  refine jC 24 _ (rCro) ?_
  refine jC 19 _ (pCro) ?_
  refine jC 25 _ (rO) ?_
  refine jC 26 _ (rAl) ?_
  refine jC 27 _ (kW) ?_
  refine jC 20 _ (nE) ?_
  exact jR Tryz.func3
set_option maxRecDepth 100000 in
theorem vecs_c_no (h:Sl3 (writeB a) (writeB b) (writeB d)) (k:Sl3 (writeB x) (writeB y) (writeB u)) (hc' : Sl (writeB e)) (qa:Bq 40 a) (qb:Bq 40 b) (qd:Bq 40 d) (qx:Bq 40 x) (qy:Bq 40 y) (qu:Bq 40 u) (qe:Bq 40 e) (ho:bA (writeB e)=0) (hA:c3 (writeB a) (writeB b) (writeB d)=0) (hB:c3 (writeB x) (writeB y) (writeB u)=0) (hv:¬ (a=0∧b=0∧d=0)) (hx:¬ (b*u-d*y=0∧d*x-a*u=0∧a*y-b*x=0)) :
 jX 3 [vS a b d,vS x y u,tx (writeB e)] (bl true):=by
 have hc:=sD hc'
 have hs:=eV h k
 have hf:f2 (c3 (writeB a) (writeB b) (writeB d)) (c3 (writeB x) (writeB y) (writeB u))=0:=by rw [wH hA];exact hB
 have hg:f2 (bA (writeB e)) (c3 (writeB a) (writeB b) (writeB d))=0:=by rw [wH ho];exact hA
 have wa:dO a b d:=⟨qa.wr (by omega),qb.wr (by omega),qd.wr (by omega)⟩
 have wx:dO x y u:=⟨qx.wr (by omega),qy.wr (by omega),qu.wr (by omega)⟩
 have q2:Bq 242 (dt a b d a b d):=Bq.dt qa qb qd qa qb qd (by omega)
 have w2:Wr (dt a b d a b d):=q2.wr (by omega)
 have q4:Bq 242 (dt a b d x y u):=Bq.dt qa qb qd qx qy qu (by omega)
 have w4:Wr (dt a b d x y u):=q4.wr (by omega)
 have wA:dO (a+x) (b+y) (d+u):=⟨(qa.add qx).wr (by omega),(qb.add qy).wr (by omega),(qd.add qu).wr (by omega)⟩
 have wS:dO (a-x) (b-y) (d-u):=⟨(qa.sub qx).wr (by omega),(qb.sub qy).wr (by omega),(qd.sub qu).wr (by omega)⟩
 have wC:dO (b*u-d*y) (d*x-a*u) (a*y-b*x):=⟨((qb.mul qu).sub (qd.mul qy)).wr (by omega),((qd.mul qx).sub (qa.mul qu)).wr (by omega),((qa.mul qy).sub (qb.mul qx)).wr (by omega)⟩
 have kA:=bE h hA
 have kB:=bE k hB
 have kF:=bW (cF (writeB a) (writeB b) (writeB d)) (cF (writeB x) (writeB y) (writeB u)) hf
 have cC:=dG h.rb hA
 have cAdd:=iA wa wx wA
 have cSub:=iB wa wx wS
 have cDot:=pX wa wx w4
 have cCro:=kJ wa wx wC
 have cSqu:=fE wa w2
 have rAdd:=qB (cM (cW (qa.zs (by omega)) (qx.zs (by omega)))) (cM (cW (qb.zs (by omega)) (qy.zs (by omega)))) (cM (cW (qd.zs (by omega)) (qu.zs (by omega))))
 have rSub:=qC (cM (oB (qa.zs (by omega)) (qx.zs (by omega)))) (cM (oB (qb.zs (by omega)) (qy.zs (by omega)))) (cM (oB (qd.zs (by omega)) (qu.zs (by omega))))
 have rDot:=qI qa qb qd qx qy qu (by omega)
 have rCro:=vC qa qb qd qx qy qu (by omega)
 have rSq:=kE (qI qa qb qd qa qb qd (by omega))
 have pAdd:=cN wA
 have pSub:=cN wS
 have pCro:=cN wC
 have nDot:=dE w4
 have nS:=dE w2
 have w3:dO (e*a) (e*b) (e*d):=⟨(qe.mul qa).wr (by omega),(qe.mul qb).wr (by omega),(qe.mul qd).wr (by omega)⟩
 have cSca:=pW (qe.wr (by omega)) wa w3
 have kC:=dR (s:=writeB e) (by have h:(writeB e).size≤40:=hc';omega) ho
 have kG:=bW (aW (writeB e)) (cF (writeB a) (writeB b) (writeB d)) hg
 have rSc:=tS (cM (dM (qe.zs (by omega)) (qa.zs (by omega)))) (cM (dM (qe.zs (by omega)) (qb.zs (by omega)))) (cM (dM (qe.zs (by omega)) (qd.zs (by omega))))
 have pS:=cN w3
 rw [hA,hB] at kF
 rw [hA,ho] at kG
 have wz:∀ {q:Rat},Bq 40 q→((writeB q).toList==(⟨#[48]⟩:ByteArray).toList)=decide (q=0):=fun {q} hq=>by
  have z:(⟨#[48]⟩:ByteArray)=writeB (0:Rat):=w0.symm
  rw [z]
  exact tT (hq.wr (by omega)) wX
 have rO:jF 25 [vS a b d] (bl false):=kL (by rw [wz qa,wz qb,wz qd];exact fY hv)
 have s0:dt a b d a b d≠0:=fun e=>hv (sum_sq e)
 obtain ⟨p,hp⟩:∃ p,dt a b d x y u/dt a b d a b d=p:=⟨_,rfl⟩
 have qp:Bq 484 p:=by rw [← hp];exact q4.div q2
 have wp:Wr p:=qp.wr (by omega)
 have cAlo:=qX wa wx (fY hv) (fY hx)
 have rAl:=qG qa qb qd qx qy qu s0 hp (fY fun hl=>hx (lag1 hl.1 hl.2.1 hl.2.2))
 have kW := @whenF true
 have nE := @zB (writeB p)
 clear hf h k hc' hA hB hg wa wx q2 w2 q4 w4 wA wS wC qa qb qd qx qy qu hv w3 qe ho hx qp wp wz s0 hp
 generalize writeB e=c at *
 all_goals
  refine jY Tryz.func3 fun w00 hI=>?_
  refine jW hI 4 [] (iH) ?_
  refine jC 5 _ (hs) ?_
  refine jP 38 22 Tryz.underlying22 c ?_
  refine jM 39 c.size 40 false hc ?_
  refine jC 6 _ (kA) ?_
  refine jC 6 _ (kB) ?_
  refine jC 7 _ (kF) ?_
  refine jW hI 8 _ (cC) ?_
  refine jW hI 9 _ (cAdd) ?_
  refine jW hI 10 _ (cSub) ?_
  refine jW hI 11 _ (cSca) ?_
  refine jW hI 12 _ (cDot) ?_
  refine jW hI 13 _ (cCro) ?_
  refine jW hI 14 _ (cSqu) ?_
  refine jW hI 15 _ (cAlo) ?_
  refine jC 16 _ (kC) ?_
  refine jC 7 _ (kG) ?_
  refine jC 17 _ (rSc) ?_
  refine jC 18 _ (rSq) ?_
  refine jC 19 _ (pS) ?_
  refine jC 20 _ (nS) ?_
  refine jC 21 _ (rAdd) ?_
  refine jC 19 _ (pAdd) ?_
  refine jC 22 _ (rSub) ?_
  refine jC 19 _ (pSub) ?_
  refine jC 23 _ (rDot) ?_
  refine jC 20 _ (nDot) ?_
  refine jC 24 _ (rCro) ?_
  refine jC 19 _ (pCro) ?_
  refine jC 25 _ (rO) ?_
  refine jC 26 _ (rAl) ?_
  refine jC 27 _ (kW) ?_
  refine jC 20 _ (nE) ?_
  exact jR Tryz.func3
end
theorem slwN {n:Nat} {s:ByteArray} (h:s.size≤n) (hn:1≤n) (hz:bA s=0):∃ q,s=writeB q∧Bq n q:=by
 obtain ⟨q,rfl,_,_⟩:=rY hz
 rw [mZ] at h
 have ht:(decB q.num.natAbs).size≤(aP q.num).size:=by
  unfold aP
  split
  ·rw [ByteArray.size_append];omega
  ·exact aR _
 refine ⟨q,rfl,bq_of ⟨by omega,?_⟩⟩
 by_cases hd:q.den=1
 ·rw [hd,dec1];exact hn
 ·rw [if_neg hd] at h;omega
theorem slwN3 {n:Nat} {a b c:ByteArray} (h1:a.size≤n) (h2:b.size≤n) (h3:c.size≤n) (hn:1≤n) (hz:c3 a b c=0):∃ p q r,a=writeB p∧b=writeB q∧c=writeB r∧Bq n p∧Bq n q∧Bq n r:=by
 obtain ⟨k1,k23⟩:=f2_zero hz
 obtain ⟨k2,k3⟩:=f2_zero k23
 obtain ⟨p,e1,q1⟩:=slwN h1 hn k1
 obtain ⟨q,e2,q2⟩:=slwN h2 hn k2
 obtain ⟨r,e3,q3⟩:=slwN h3 hn k3
 exact ⟨p,q,r,e1,e2,e3,q1,q2,q3⟩
theorem slw {s:ByteArray} (h:Sl s) (hz:bA s=0):∃ q,s=writeB q∧Bq 40 q:=slwN h (by omega) hz
theorem slw3 {a b c:ByteArray} (h:Sl3 a b c) (hz:c3 a b c=0):∃ p q r,a=writeB p∧b=writeB q∧c=writeB r∧Bq 40 p∧Bq 40 q∧Bq 40 r:=slwN3 h.1 h.2.1 h.2.2 (by omega) hz
theorem vectorsF (a b d x y u c:ByteArray):jX 3 [t3 a b d,t3 x y u,tx c] (bl true):=by
 cases hl:(lo 40 a || lo 40 b || lo 40 d || lo 40 x || lo 40 y || lo 40 u) with
 | true=>exact vecs_long1 hl
 | false =>
   simp only [Bool.or_eq_false_iff,lo,decide_eq_false_iff_not] at hl
   obtain ⟨⟨⟨⟨⟨l1,l2⟩,l3⟩,l4⟩,l5⟩,l6⟩:=hl
   have h:Sl3 a b d:=⟨by show a.size≤40;omega,by show b.size≤40;omega,by show d.size≤40;omega⟩
   have k:Sl3 x y u:=⟨by show x.size≤40;omega,by show y.size≤40;omega,by show u.size≤40;omega⟩
   cases hc:decide ((40:Int)<(c.size:Nat)) with
   | true=>exact vecs_long2 h k hc
   | false =>
     have hc' : Sl c:=by have:=of_decide_eq_false hc;show c.size≤40;omega
     by_cases hA:c3 a b d=0
     ·obtain ⟨p1,p2,p3,rfl,rfl,rfl,q1,q2,q3⟩:=slw3 h hA
      by_cases hB:c3 x y u=0
      ·obtain ⟨r1,r2,r3,rfl,rfl,rfl,s1,s2,s3⟩:=slw3 k hB
       by_cases hC:bA c=0
       ·obtain ⟨e,rfl,qe⟩:=slw hc' hC
        by_cases hv:p1=0∧p2=0∧p3=0
        ·exact vecs_c_zero h k hc' q1 q2 q3 s1 s2 s3 qe hC hA hB hv
        ·by_cases hx:p2*r3-p3*r2=0∧p3*r1-p1*r3=0∧p1*r2-p2*r1=0
         ·exact vecs_c_yes h k hc' q1 q2 q3 s1 s2 s3 qe hC hA hB hv hx
         ·exact vecs_c_no h k hc' q1 q2 q3 s1 s2 s3 qe hC hA hB hv hx
       ·have hob:=ev_b (aW c) hC
        by_cases hv:p1=0∧p2=0∧p3=0
        ·exact vecs_e_zero h k hc' q1 q2 q3 s1 s2 s3 rfl hob hA hB hv
        ·by_cases hx:p2*r3-p3*r2=0∧p3*r1-p1*r3=0∧p1*r2-p2*r1=0
         ·exact vecs_e_yes h k hc' q1 q2 q3 s1 s2 s3 rfl hob hA hB hv hx
         ·exact vecs_e_no h k hc' q1 q2 q3 s1 s2 s3 rfl hob hA hB hv hx
      ·have hzb:=ev_b (cF _ _ _) hB
       by_cases hC:bA c=0
       ·obtain ⟨e,rfl,qe⟩:=slw hc' hC
        exact vecs_bad3 h k hc' q1 q2 q3 qe hA rfl hzb hC
       ·exact vecs_bad2 h k hc' q1 q2 q3 hA rfl hzb rfl (ev_b (aW c) hC)
     ·exact vecs_bad1 h k hc' rfl (ev_b (cF _ _ _) hA)
end Ab
namespace Ab
open Go.ChangeShapes Go.WideShapes Go.ChangeAt Go.RowKit
theorem gPow:Tryz.prog.globalNamed "internal/strconv.uint64pow10" = some 5:=by kernel_rfl
theorem gl_of {W:World} {r:List (String×DataW Unit)} (h:laidMet Tryz.prog (("internal/strconv.uint64pow10",Lib.tabData .u64 Lib.pow10Tab)::r) W) (hs:W.ShapedOpen Tryz.prog):Gl W :=
 ⟨Lib.tabIs_of_head (t:=293) (e:=173) (n:=20) gPow (by kernel_rfl) (by kernel_rfl) (by kernel_rfl) (by kernel_rfl) (by kernel_rfl) h,
  Go.Proofs.cell_of_shapedOpen_int (zero := #[.int .i64 0]) (t:=3) hs (of_decide_eq_true (by kernel_rfl)) (by kernel_rfl) rfl (by kernel_rfl) (by kernel_rfl) (by kernel_rfl)⟩
section
variable {H:Type} {enc:TypeId×Value→H} {P:Program} {w:World} {base b0:Nat} {spare:Nat→Bool} {held:Bool} {r:Reach}
theorem open_t3 {t e:TypeId} {v:Value} {d:DataW H} {ps:List MemPlace} (ht:P.underlying t=some (.array 3 e)) (he:P.underlying e=some .string) (hc:P.cellsOf e=1) (hC:P.cellsOf t=3)
 (hv:Value.okWide P w r b0 t v) (h:DataW.Trod enc P w base spare held t v d ps) :
 ∃ a b c:ByteArray,v = .agg #[.string a,.string b,.string c]∧d = .agg [.lit (.string a.data.toList),.lit (.string b.data.toList),.lit (.string c.data.toList)]∧ps = []∧a.size≤maxLen∧b.size≤maxLen∧c.size≤maxLen:=by
 have hv' : ∃ cs:Array Value,v = .agg cs∧cs.size=P.cellsOf t:=by
  simp only [Value.okWide,ht] at hv
  obtain ⟨cs,h1,h2,_⟩:=hv
  exact ⟨cs,h1,h2⟩
 obtain ⟨cs,rfl,hsz⟩:=hv'
 obtain ⟨c0,c1,c2,rfl⟩:∃ c0 c1 c2,cs = #[c0,c1,c2]:=by
  obtain ⟨l⟩:=cs
  match l,hsz.trans hC with
  | [c0,c1,c2],_=>exact ⟨c0,c1,c2,rfl⟩
 obtain ⟨fuel,hf⟩:=h
 obtain ⟨xs,m,_,hx,_,hl,hat⟩:=DataW.trod_array ht hf
 obtain ⟨y0,y1,y2,rfl⟩:∃ y0 y1 y2,xs = [y0,y1,y2]:=by
  match xs,hl with
  | [y0,y1,y2],_=>exact ⟨y0,y1,y2,rfl⟩
 have key:∀ {c:Value} {y:DataW H×List MemPlace},DataW.trod enc P w base spare held m e [c]=some y→∃ s:ByteArray,c = .string s∧y=(.lit (.string s.data.toList),[])∧s.size≤maxLen:=by
  intro c y hy
  cases m with
  | zero=>simp [DataW.trod] at hy
  | succ m =>
    unfold DataW.trod at hy
    rw [he] at hy
    cases c <;> simp at hy
    rename_i s
    exact ⟨s,rfl,hy.2.symm,hy.1⟩
 have h0:=hat 0 (by omega)
 have h1:=hat 1 (by omega)
 have h2:=hat 2 (by omega)
 simp only [hc,Value.cells] at h0 h1 h2
 obtain ⟨a,rfl,rfl,ha⟩:=key (c:=c0) (y:=y0) (by simpa using h0)
 obtain ⟨b,rfl,rfl,hb⟩:=key (c:=c1) (y:=y1) (by simpa using h1)
 obtain ⟨c,rfl,rfl,hc⟩:=key (c:=c2) (y:=y2) (by simpa using h2)
 simp only [Prod.mk.injEq] at hx
 exact ⟨a,b,c,rfl,by simpa using hx.1,by simpa using hx.2,ha,hb,hc⟩
theorem shut_t3 {t e:TypeId} {a b c:ByteArray} (ht:P.underlying t=some (.array 3 e)) (he:P.underlying e=some .string) (hc:P.cellsOf e=1) (hC:P.cellsOf t=3) (ha:a.size≤maxLen) (hb:b.size≤maxLen) (hc' : c.size≤maxLen) :
 DataW.Trod enc P w base spare held t (.agg #[.string a,.string b,.string c]) (.agg [.lit (.string a.data.toList),.lit (.string b.data.toList),.lit (.string c.data.toList)]) []:=by
 refine ⟨2,?_⟩
 have key:∀ s:ByteArray,s.size≤maxLen→DataW.trod enc P w base spare held 1 e [.string s]=some (.lit (.string s.data.toList),[]):=by
  intro s hs
  unfold DataW.trod
  rw [he]
  simp [hs]
 have k0:=key a ha
 have k1:=key b hb
 have k2:=key c hc'
 unfold DataW.trod
 simp only [ht,Value.cells]
 rw [if_pos (by simp [hC])]
 have e3:List.range 3 = [0,1,2]:=rfl
 rw [e3]
 simp [hc,k0,k1,k2]
end
theorem hold_t3 {β:List Nat} {a b c:ByteArray} {w:World}:(t3 a b c).holds β (.agg #[.string a,.string b,.string c]) w :=
 ⟨[.string a,.string b,.string c],rfl,[.string a],_,rfl,rfl,[.string b],_,rfl,rfl,[.string c],_,rfl,rfl,rfl⟩
end Ab
end Go.Proofs.YthjfnlomfihnaaaGreatDoor
