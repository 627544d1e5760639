/- Parts of the proof, joined. -/
import Derived.Test.YtnhafhpmocabiaaGreatDoorJ7
import Derived.KernelRfl
import Derived.Test.YtnhafhpmocabiaaGreatDoorJ5
import Derived.Test.YtnhafhpmocabiaaGreatDoorJ1
import Derived.Laws.Tables
import Derived.Laws.StructEq
import Derived.Test.YtnhafhpmocabiaaGreatDoorJ6
set_option maxHeartbeats 4000000
set_option linter.unusedSimpArgs false
set_option linter.unusedVariables false
set_option linter.constructorNameAsVariable false
namespace Go.Proofs.YtnhafhpmocabiaaGreatDoor
namespace Fr
open Go.RowKit Go.Shelf Ab Pl
attribute [local go_sem] Oper.semAt_some
def m9 (m:C9):Obj := .cells #[.int .i64 m.n1,.int .i64 m.d1,.pointer m.p1,.int .i64 m.n2,.int .i64 m.d2,.pointer m.p2,.int .i64 m.n3,.int .i64 m.d3,.pointer m.p3] 95 (0,0)
def st9 (X:World) (B a b c d e f g h i:Nat) (m:C9):World:=((((((((X.setCell ⟨B,a,none⟩ (.int .i64 m.n1)).setCell ⟨B,b,none⟩ (.int .i64 m.d1)).setCell ⟨B,c,none⟩ (.pointer m.p1)).setCell ⟨B,d,none⟩ (.int .i64 m.n2)).setCell ⟨B,e,none⟩ (.int .i64 m.d2)).setCell ⟨B,f,none⟩ (.pointer m.p2)).setCell ⟨B,g,none⟩ (.int .i64 m.n3)).setCell ⟨B,h,none⟩ (.int .i64 m.d3)).setCell ⟨B,i,none⟩ (.pointer m.p3)
abbrev N9 (cs:Array Value) (t:C9) (a b c d e f g h i:Nat):Prop:=cs[a]?=some (.int .i64 t.n1)∧cs[b]?=some (.int .i64 t.d1)∧cs[c]?=some (.pointer t.p1)∧cs[d]?=some (.int .i64 t.n2)∧cs[e]?=some (.int .i64 t.d2)∧cs[f]?=some (.pointer t.p2)∧cs[g]?=some (.int .i64 t.n3)∧cs[h]?=some (.int .i64 t.d3)∧cs[i]?=some (.pointer t.p3)
theorem up9 {w:World} {B a b c d e f g h i:Nat} {cs:Array Value} {T:TypeId} (t:C9) (hlt:B<w.heap.size) (hb:w.heap[B]?=some (.cells cs T (0,0))) (hc:N9 cs t a b c d e f g h i):(∀ o,(w.alloc o).cell? ⟨B,a,none⟩=some (.int .i64 t.n1))∧(∀ o,(w.alloc o).frozen? ⟨B,a,none⟩=false)∧(∀ o,(w.alloc o).cell? ⟨B,b,none⟩=some (.int .i64 t.d1))∧(∀ o,(w.alloc o).frozen? ⟨B,b,none⟩=false)∧(∀ o,(w.alloc o).cell? ⟨B,c,none⟩=some (.pointer t.p1))∧(∀ o,(w.alloc o).frozen? ⟨B,c,none⟩=false)∧(∀ o,(w.alloc o).cell? ⟨B,d,none⟩=some (.int .i64 t.n2))∧(∀ o,(w.alloc o).frozen? ⟨B,d,none⟩=false)∧(∀ o,(w.alloc o).cell? ⟨B,e,none⟩=some (.int .i64 t.d2))∧(∀ o,(w.alloc o).frozen? ⟨B,e,none⟩=false)∧(∀ o,(w.alloc o).cell? ⟨B,f,none⟩=some (.pointer t.p2))∧(∀ o,(w.alloc o).frozen? ⟨B,f,none⟩=false)∧(∀ o,(w.alloc o).cell? ⟨B,g,none⟩=some (.int .i64 t.n3))∧(∀ o,(w.alloc o).frozen? ⟨B,g,none⟩=false)∧(∀ o,(w.alloc o).cell? ⟨B,h,none⟩=some (.int .i64 t.d3))∧(∀ o,(w.alloc o).frozen? ⟨B,h,none⟩=false)∧(∀ o,(w.alloc o).cell? ⟨B,i,none⟩=some (.pointer t.p3))∧(∀ o,(w.alloc o).frozen? ⟨B,i,none⟩=false):=by
 obtain ⟨c0,c1,c2,c3,c4,c5,c6,c7,c8⟩:=hc
 have k:∀ {j:Nat} {v:Value},cs[j]?=some v→∀ o,(w.alloc o).cell? ⟨B,j,none⟩=some v:=fun hj=>tC hlt (by simp [World.cell?,hb,hj])
 exact ⟨k c0,iE hlt hb,k c1,iE hlt hb,k c2,iE hlt hb,k c3,iE hlt hb,k c4,iE hlt hb,k c5,iE hlt hb,k c6,iE hlt hb,k c7,iE hlt hb,k c8,iE hlt hb⟩
def RV (a b c:Rat) (z:Int) (W:World) (e:Ending) (w' : World):Prop := ∃ k:C9,e = .returned (.tuple #[k.val,.int .i64 z])∧Vc w' k.val a b c∧Below W.heap.size W w'
theorem rL {x y z:Int} (hx:Ev x) (hy:Ev y) (hz:f2 x y=z) (w:World) (g:Nat) (T:TypeId) (hh:w.heap[g]?=some (.cells #[.int .i64 x,.int .i64 y] T (0,0))):Calls Tryz.prog 61 #[.slice (some ⟨g,0,none⟩) 2 2] w fun e w'=>e = .returned (.int .i64 z)∧Below w.heap.size w w':=by
 refine (first2Any (T:=T) hx hy hz [] w [.slice (some ⟨g,0,none⟩) 2 2] ⟨_,_,rfl,⟨g,[.int .i64 x,.int .i64 y],rfl,hh,[.int .i64 x],_,rfl,⟨rfl,rfl⟩,[.int .i64 y],_,rfl,⟨rfl,rfl⟩,rfl⟩,rfl⟩).mono ?_
 rintro e w' ⟨v,e1,e2,h1⟩
 have h5:[v] = [.int .i64 z]:=h1.1
 injection h5 with h5
 exact ⟨by rw [e1,h5],e2⟩
def InvE (ev:List (Fin 3)→Int) (w:World) (k:C9) (B E R:Nat) (o1 o2 o3 x1 x2 x3 y1 y2 y3 z1 z2 z3:Rat) (pre:List (Fin 3)) (W:World):Prop :=
 ∃ x y z:C9,W.heap[B]?=some (.cells (fX k x y z).toArray 115 (0,0))∧((0:Fin 3)∈pre→Vc W x.val x1 x2 x3)∧((1:Fin 3)∈pre→Vc W y.val y1 y2 y3)∧((2:Fin 3)∈pre→Vc W z.val z1 z2 z3) ∧
   W.heap[E]?=some (.cells #[.int .i64 (ev pre)] 24 (0,0))∧W.heap[R]?=some (.cells (fX C9.zero C9.zero C9.zero C9.zero).toArray 115 (0,0))∧Vc W k.val o1 o2 o3∧Below w.heap.size w W
section
variable {w:World} {k:C9} {B E R:Nat} {o1 o2 o3 x1 x2 x3 y1 y2 y3 z1 z2 z3:Rat}
theorem oT {u v:Int} {W w2 X1 w5:World} {a b c a' b' c' : C9} {o9 o2:Obj} {S n:Nat} (hbl:Below W.heap.size W w2) (hB:W.heap[B]?=some (.cells (fX k a b c).toArray 115 (0,0))) (hE:W.heap[E]?=some (.cells #[.int .i64 u] 24 (0,0))) (hEB:¬ E=B)
 (hT:Turned B (.cells (fX k a' b' c').toArray 115 (0,0)) (w2.alloc o9) X1) (h5:Below (X1.alloc o2).heap.size (X1.alloc o2) w5) (hn:n≤W.heap.size) (hnB:n≤B) (hnE:n≤E) :
 (w5.setCell ⟨E,0,none⟩ (.int .i64 v)).heap[B]?=some (.cells (fX k a' b' c').toArray 115 (0,0))∧(w5.setCell ⟨E,0,none⟩ (.int .i64 v)).heap[E]?=some (.cells #[.int .i64 v] 24 (0,0)) ∧
 (∀ g,g<W.heap.size→¬ g=B→¬ g=E→(w5.setCell ⟨E,0,none⟩ (.int .i64 v)).heap[g]?=W.heap[g]?)∧Go.Proofs.YtnhafhpmocabiaaGreatDoor.Ext Kn w2 (w5.setCell ⟨E,0,none⟩ (.int .i64 v))∧Go.Proofs.YtnhafhpmocabiaaGreatDoor.Ext Kn W w2∧KeepsFrom S W (w5.setCell ⟨E,0,none⟩ (.int .i64 v))∧Below n W (w5.setCell ⟨E,0,none⟩ (.int .i64 v)):=by
 have hBlt:=(Array.getElem?_eq_some_iff.1 hB).1
 have hElt:=(Array.getElem?_eq_some_iff.1 hE).1
 have hs2:=hbl.size
 have ba:Below w2.heap.size w2 (w2.alloc o9):=(aB _ _).alloc (aR _) _
 have sa:(w2.alloc o9).heap.size=w2.heap.size+1:=by simp
 have hBa:(w2.alloc o9).heap[B]?=some (.cells (fX k a b c).toArray 115 (0,0)):=(ba.block B (by omega)).trans ((hbl.block B hBlt).trans hB)
 have sx:X1.heap.size=w2.heap.size+1:=hT.size.trans sa
 have bb:Below X1.heap.size X1 (X1.alloc o2):=(aB _ _).alloc (aR _) _
 have sb:(X1.alloc o2).heap.size=w2.heap.size+2:=by simp [sx]
 have hs5:=h5.size
 have keep:∀ g,g<W.heap.size→¬ g=B→w5.heap[g]?=W.heap[g]?:=fun g hg hne=>(h5.block g (by omega)).trans ((bb.block g (by omega)).trans ((hT.block g hne).trans ((ba.block g (by omega)).trans (hbl.block g hg))))
 have hE5:w5.heap[E]?=some (.cells #[.int .i64 u] 24 (0,0)):=(keep E hElt hEB).trans hE
 have hTE:Turned E (.cells #[.int .i64 v] 24 (0,0)) w5 (w5.setCell ⟨E,0,none⟩ (.int .i64 v)):=dD (i:=0) hE5 (.int .i64 v)
 have hB5:w5.heap[B]?=some (.cells (fX k a' b' c').toArray 115 (0,0)):=(h5.block B (by omega)).trans ((bb.block B (by omega)).trans hT.at_)
 have bn:Below n W w5:=(tD ((hbl.mono hn).trans (ba.mono (by omega))) hT hnB).trans ((bb.mono (by omega)).trans (h5.mono (by omega)))
 refine ⟨(hTE.block B (fun e=>hEB e.symm)).trans hB5,hTE.at_,fun g hg h1 h2=>(hTE.block g h2).trans (keep g hg h1),?_,Go.Proofs.YtnhafhpmocabiaaGreatDoor.Ext.of_below hbl,?_,tD bn hTE hnE⟩
 ·exact (Go.Proofs.YtnhafhpmocabiaaGreatDoor.Ext.of_below ba).trans ((hT.ext hBa (mT _ _ _ _ _)).trans ((Go.Proofs.YtnhafhpmocabiaaGreatDoor.Ext.of_below bb).trans ((Go.Proofs.YtnhafhpmocabiaaGreatDoor.Ext.of_below h5).trans (hTE.ext hE5 (by simp [Go.Proofs.YtnhafhpmocabiaaGreatDoor.hotObj,Kn])))))
 ·exact (fY hbl).trans ((fY ba).trans ((tE hT hBa rfl).trans ((fY bb).trans ((fY h5).trans (tE hTE hE5 rfl)))))
theorem tF {ev:List (Fin 3)→Int} {S:Nat} (hS:w.heap.size≤S):OwnFrom S (InvE ev w k B E R o1 o2 o3 x1 x2 x3 y1 y2 y3 z1 z2 z3):=by
 rintro pre W W' row ⟨x,y,z,hB,v0,v1,v2,hE,hR,hk,hb⟩ hg hr
 have hr' : ∀ r,row=some r→∃ o:Obj,W.heap[r]?=some o∧o.isCells=false:=fun r e=>(hr r e).2
 have hx:=uG hg hr'
 refine ⟨x,y,z,(grownBy_keeps_cells hg hr' hB rfl).trans hB,fun h=>Vc.kext (v0 h) hx,fun h=>Vc.kext (v1 h) hx,fun h=>Vc.kext (v2 h) hx,(grownBy_keeps_cells hg hr' hE rfl).trans hE,(grownBy_keeps_cells hg hr' hR rfl).trans hR,Vc.kext hk hx,?_⟩
 exact hb.grown hg hb.size (fun k e=>Nat.le_trans hS (hr k e).1)
end
set_option maxRecDepth 100000 in
theorem zH (a1 a2 a3 b1 b2 b3 c1 c2 c3 d1 d2 d3:ByteArray) (o1 o2 o3 x1 x2 x3 y1 y2 y3 z1 z2 z3:Rat) (eo ex ey ez zq zc:Int) (heo:Ev eo) (hex:Ev ex) (hey:Ev ey) (hez:Ev ez) (hZ:f2 (f2 (f2 eo ex) ey) ez=zq)
 (cO' : ∀ W,Gl W→Calls Tryz.prog 53 #[.agg #[.string a1,.string a2,.string a3]] W (RV o1 o2 o3 eo W)) (cX' : ∀ W,Gl W→Calls Tryz.prog 53 #[.agg #[.string b1,.string b2,.string b3]] W (RV x1 x2 x3 ex W))
 (cY' : ∀ W,Gl W→Calls Tryz.prog 53 #[.agg #[.string c1,.string c2,.string c3]] W (RV y1 y2 y3 ey W)) (cZ' : ∀ W,Gl W→Calls Tryz.prog 53 #[.agg #[.string d1,.string d2,.string d3]] W (RV z1 z2 z3 ez W))
 (hC:zq=0→∀ (W:World) (o x y z:C9),Vc W o.val o1 o2 o3→Vc W x.val x1 x2 x3→Vc W y.val y1 y2 y3→Vc W z.val z1 z2 z3→Calls Tryz.prog 134 #[.agg (fX o x y z).toArray] W fun e w'=>e = .returned (.int .i64 zc)∧Below W.heap.size W w') (w:World) (hG:Gl w) :
 Calls Tryz.prog 70 #[.agg #[.string a1,.string a2,.string a3,.string b1,.string b2,.string b3,.string c1,.string c2,.string c3,.string d1,.string d2,.string d3]] w fun e w' => ∃ o x y z:C9,e = .returned (.tuple #[.agg (if zq=0 then fX o x y z else fX C9.zero C9.zero C9.zero C9.zero).toArray,.int .i64 (if zq=0 then zc else zq)])∧Vc w' o.val o1 o2 o3∧Vc w' x.val x1 x2 x3∧Vc w' y.val y1 y2 y3∧Vc w' z.val z1 z2 z3∧Below w.heap.size w w':=by
 have cO:=aH cO'
 have cX:=aH cX'
 have cY:=aH cY'
 have cZ:=aH cZ'
 have HC:=aH hC
 clear cO' cX' cY' cZ' hC
 obtain ⟨ev,hevd⟩:∃ ev:List (Fin 3)→Int,ev=fun pre=>pre.foldl (fun e i=>f2 e (if i=0 then ex else if i=1 then ey else ez)) eo:=⟨_,rfl⟩
 have ev0:ev []=eo:=by rw [hevd];rfl
 have evs:∀ (pre:List (Fin 3)) (i:Fin 3),ev (pre ++ [i])=f2 (ev pre) (if i=0 then ex else if i=1 then ey else ez):=fun pre i=>by rw [hevd];simp [List.foldl_append]
 have ev3:ev [0,1,2]=zq:=by rw [hevd,← hZ];rfl
 have hev:∀ pre,Ev (ev pre):=fun pre=>by
  rw [hevd]
  show Ev (pre.foldl _ eo)
  revert heo
  generalize eo=e0
  induction pre generalizing e0 with
  | nil=>exact fun h=>h
  | cons i l ih =>
    intro h
    refine ih _ (f2_ev h ?_)
    split
    ·exact hex
    ·split <;> assumption
 have p0:∀ pre,ev (pre ++ [0])=f2 (ev pre) ex:=fun pre=>evs pre 0
 have p1:∀ pre,ev (pre ++ [1])=f2 (ev pre) ey:=fun pre=>evs pre 1
 have p2:∀ pre,ev (pre ++ [2])=f2 (ev pre) ez:=fun pre=>evs pre 2
 clear hevd hZ evs
 refine (callsIn_wide (n:=6)).1 ?_
 refine callsIn_of_wp_marks Tryz.func70 rfl trivial ?_ rfl
 simp only [Tryz.ntmps70,List.size_toArray,List.length_cons,List.length_nil,Nat.reduceAdd,Nat.reduceSub,Array.replicate_succ,Array.replicate_zero,List.push_toArray,List.append_toArray,List.nil_append,List.cons_append]
 refine wpIn_wide.2 ?_
 go_wp2_with fail
 obtain ⟨Z,hZ⟩:∃ Z:Array Value,Z=(fX C9.zero C9.zero C9.zero C9.zero).toArray:=⟨_,rfl⟩
 have hW1:∃ W1,W1=(w.alloc (.cells #[.string a1,.string a2,.string a3,.string b1,.string b2,.string b3,.string c1,.string c2,.string c3,.string d1,.string d2,.string d3] 50 (0,0))).alloc (.cells Z 115 (0,0)):=⟨_,rfl⟩
 obtain ⟨W1,hW1⟩:=hW1
 change Calls _ _ _ ((w.alloc (.cells #[.string a1,.string a2,.string a3,.string b1,.string b2,.string b3,.string c1,.string c2,.string c3,.string d1,.string d2,.string d3] 50 (0,0))).alloc (.cells (fX C9.zero C9.zero C9.zero C9.zero).toArray 115 (0,0))) _
 rw [← hZ,← hW1]
 have hs1:W1.heap.size=w.heap.size+2:=by rw [hW1];simp
 have hb1:Below w.heap.size w W1:=by rw [hW1];exact ((aB _ w).alloc (aR _) _).alloc (by simp) _
 have hf1:W1.heap[w.heap.size]?=some (.cells #[.string a1,.string a2,.string a3,.string b1,.string b2,.string b3,.string c1,.string c2,.string c3,.string d1,.string d2,.string d3] 50 (0,0)):=by rw [hW1];exact (Below.heap_alloc _ _ _ (by simp)).trans (World.alloc_heap_new w _)
 have hr1:W1.heap[w.heap.size+1]?=some (.cells Z 115 (0,0)):=by rw [hW1];have:=World.alloc_heap_new (w.alloc (.cells #[.string a1,.string a2,.string a3,.string b1,.string b2,.string b3,.string c1,.string c2,.string c3,.string d1,.string d2,.string d3] 50 (0,0))) (.cells Z 115 (0,0));rwa [World.size_alloc] at this
 clear hW1
 refine (cO.out W1 (hG.below hb1)).mono ?_
 rintro e w1 ⟨k,rfl,hk,hb⟩
 have hs2:=hb.size
 have hf2:=(hb.block w.heap.size (by omega)).trans hf1
 have hr2:=(hb.block (w.heap.size+1) (by omega)).trans hr1
 have hb2:=hb1.trans (hb.mono (by omega))
 clear hf1 hr1 hb1 hb
 simp only [C9.val]
 have HID:=aH (aI hf2 (aI hr2 (aI hb2 hk)))
 clear hf2 hr2 hb2 hk
 have HZ:=aH hZ
 clear hZ
 go_wp2_with (first|(refine zE rfl 115 _ rfl (fX k C9.zero C9.zero C9.zero).toArray (by kernel_rfl) ?_)|(refine stop_store 115 _ _ rfl ?_))
 refine ⟨store_new3 rfl 115 _ _ rfl w1 _ _ _ (fX k C9.zero C9.zero C9.zero).toArray rfl rfl (by kernel_rfl) (by kernel_rfl) (by kernel_rfl) ?_⟩
 intro W3 g1 g2 g3 g4 g5
 have hf3:=(g2.block w.heap.size (by omega)).trans HID.out.1
 have f0:W3.cell? ⟨w.heap.size,0,none⟩=some (.string a1):=by simp [World.cell?,hf3]
 have f1:W3.cell? ⟨w.heap.size,1,none⟩=some (.string a2):=by simp [World.cell?,hf3]
 have f2:W3.cell? ⟨w.heap.size,2,none⟩=some (.string a3):=by simp [World.cell?,hf3]
 have f3:W3.cell? ⟨w.heap.size,3,none⟩=some (.string b1):=by simp [World.cell?,hf3]
 have f4:W3.cell? ⟨w.heap.size,4,none⟩=some (.string b2):=by simp [World.cell?,hf3]
 have f5:W3.cell? ⟨w.heap.size,5,none⟩=some (.string b3):=by simp [World.cell?,hf3]
 have f6:W3.cell? ⟨w.heap.size,6,none⟩=some (.string c1):=by simp [World.cell?,hf3]
 have f7:W3.cell? ⟨w.heap.size,7,none⟩=some (.string c2):=by simp [World.cell?,hf3]
 have f8:W3.cell? ⟨w.heap.size,8,none⟩=some (.string c3):=by simp [World.cell?,hf3]
 have f9:W3.cell? ⟨w.heap.size,9,none⟩=some (.string d1):=by simp [World.cell?,hf3]
 have f10:W3.cell? ⟨w.heap.size,10,none⟩=some (.string d2):=by simp [World.cell?,hf3]
 have f11:W3.cell? ⟨w.heap.size,11,none⟩=some (.string d3):=by simp [World.cell?,hf3]
 clear hf3
 have HID2:=aH (aI g1 (aI g2 (aI g3 (aI g4 g5))))
 clear g1 g2 g3 g4 g5
 go_wp2_with fail
 refine (axes_any _ _ _ _ _ _ _ _ _ _ _ _ _).mono ?_
 rintro e w4 ⟨rfl,rfl⟩
 go_wp2_with fail
 obtain ⟨v0,h0⟩:∃ v0:Value,v0 = .agg #[.string a1,.string a2,.string a3,.string b1,.string b2,.string b3,.string c1,.string c2,.string c3,.string d1,.string d2,.string d3]:=⟨_,rfl⟩
 obtain ⟨v11,h11⟩:∃ v:Value,v = .tuple #[.agg #[.int .i64 k.n1,.int .i64 k.d1,.pointer k.p1,.int .i64 k.n2,.int .i64 k.d2,.pointer k.p2,.int .i64 k.n3,.int .i64 k.d3,.pointer k.p3],.int .i64 eo]:=⟨_,rfl⟩
 obtain ⟨v13,h13⟩:∃ v:Value,v = .agg #[.string a1,.string a2,.string a3]:=⟨_,rfl⟩
 obtain ⟨v15,h15⟩:∃ v:Value,v = .agg #[.int .i64 k.n1,.int .i64 k.d1,.pointer k.p1,.int .i64 k.n2,.int .i64 k.d2,.pointer k.p2,.int .i64 k.n3,.int .i64 k.d3,.pointer k.p3]:=⟨_,rfl⟩
 obtain ⟨v18,h18⟩:∃ v:Value,v = .agg (fX k C9.zero C9.zero C9.zero).toArray:=⟨_,rfl⟩
 rw [← h0,← h11,← h13,← h15,← h18]
 obtain ⟨g1,g2,g3,g4,g5⟩:=HID2.out
 obtain ⟨hf2,hr2,hb2,hk⟩:=HID.out
 have hsz2:=hb2.size
 have hsW3:w1.heap.size+3=W3.heap.size:=g1.symm
 obtain ⟨W4,hW4⟩:∃ W4,W3.alloc (.cells #[.string a1,.string a2,.string a3,.string b1,.string b2,.string b3,.string c1,.string c2,.string c3,.string d1,.string d2,.string d3] 50 (0,0))=W4:=⟨_,rfl⟩
 have hF:W4.heap[W3.heap.size]?=some (.cells #[.string a1,.string a2,.string a3,.string b1,.string b2,.string b3,.string c1,.string c2,.string c3,.string d1,.string d2,.string d3] 50 (0,0)):=by rw [← hW4];exact World.alloc_heap_new _ _
 have hs4:W4.heap.size=W3.heap.size+1:=by rw [← hW4];simp
 have hb4:Below W3.heap.size W3 W4:=by rw [← hW4];exact (aB _ _).alloc (aR _) _
 have hb3:Below w1.heap.size w1 W4:=g2.trans (hb4.mono (by omega))
 have hinv:InvE ev w k (w1.heap.size+1+1) (w1.heap.size+1) (w.heap.size+1) o1 o2 o3 x1 x2 x3 y1 y2 y3 z1 z2 z3 [] W4:=by
  refine ⟨C9.zero,C9.zero,C9.zero,(hb4.block _ (by omega)).trans g5,fun h=>absurd h (by simp),fun h=>absurd h (by simp),fun h=>absurd h (by simp),(by rw [ev0];exact (hb4.block _ (by omega)).trans g4),?_,hk.below hb3,hb2.trans (hb3.mono (by omega))⟩
  rw [← HZ.out]
  exact (hb3.block _ (by omega)).trans hr2
 rw [hW4]
 have hEB:¬ (w1.heap.size+1:Nat)=w1.heap.size+1+1:=by omega
 have hRB:¬ (w.heap.size+1:Nat)=w1.heap.size+1+1:=by omega
 have hRE:¬ (w.heap.size+1:Nat)=w1.heap.size+1:=by omega
 have hBs:w1.heap.size+1+1<W4.heap.size:=by omega
 have hEs:w1.heap.size+1<W4.heap.size:=by omega
 have hRs:w.heap.size+1<W4.heap.size:=by omega
 have hE0:w.heap.size≤w1.heap.size+1:=by omega
 have hB0:w.heap.size≤w1.heap.size+1+1:=by omega
 have hwW4:w.heap.size≤W4.heap.size:=by omega
 clear g1 g2 g3 g4 g5 hf2 hr2 hb2 hk hsz2 hsW3 hb4 hb3 hW4 h0 h11 h13 h15 h18 HID HID2 f0 f1 f2 f3 f4 f5 f6 f7 f8 f9 f10 f11 hs1 hs2 hs4
 generalize w1.heap.size+1+1=B at *
 generalize w1.heap.size+1=E at *
 generalize w1.heap.size=p4 at *
 generalize W3.heap.size=q3 at *
 refine (wpIn_wide (n:=6)).1 ?_
 refine wpIn_rangeFunc_ownH (F:=Fence.wide) rfl (by omega) (gf:=185) (lb := #[.pointer (some ⟨q3,0,none⟩)]) rfl trivial (enters_of Tryz.func185 (by kernel_rfl) rfl)
  (axes_stops Fence.wide (6-1) trivial rfl (by omega) q3 w.heap.size a1 a2 a3 b1 b2 b3 c1 c2 c3 d1 d2 d3 W4 hwW4 hF) belowK_t (belowK_b (by omega)) (aB _ _) (fun _=>rfl)
  (InvE ev w k B E (w.heap.size+1) o1 o2 o3 x1 x2 x3 y1 y2 y3 z1 z2 z3) (fun _ _ _=>False) (tF hwW4) (fun _ _ _ _ _ hs _ _=>hs) hinv
  (fun x a' W => ∃ Bx,((x=0∧W.heap[Bx]?=some (.cells #[.string b1,.string b2,.string b3] 38 (0,0))∧a' = { tmps := #[v0,.pointer (some ⟨w.heap.size,0,none⟩),.pointer (some ⟨w.heap.size+1,0,none⟩),.int .i64 0,.pointer (some ⟨p4,0,none⟩),.pointer (some ⟨E,0,none⟩),.pointer (some ⟨B,0,none⟩),.int .i64 0,.pointer (some ⟨Bx,0,none⟩),undef,undef,v11,.pointer (some ⟨w.heap.size,0,none⟩),v13,v11,v15,.int .i64 eo,v15,v18,v0,.func (.func 185) #[] #[.pointer (some ⟨q3,0,none⟩)],.int .i64 0,.agg #[.string b1,.string b2,.string b3],undef,undef,undef,undef,undef,undef,undef,undef,undef,undef,undef,undef,undef,undef,undef,undef,undef,undef,undef,undef],defers := [] })∨(x=1∧W.heap[Bx]?=some (.cells #[.string c1,.string c2,.string c3] 38 (0,0))∧a' = { tmps := #[v0,.pointer (some ⟨w.heap.size,0,none⟩),.pointer (some ⟨w.heap.size+1,0,none⟩),.int .i64 0,.pointer (some ⟨p4,0,none⟩),.pointer (some ⟨E,0,none⟩),.pointer (some ⟨B,0,none⟩),.int .i64 1,.pointer (some ⟨Bx,0,none⟩),undef,undef,v11,.pointer (some ⟨w.heap.size,0,none⟩),v13,v11,v15,.int .i64 eo,v15,v18,v0,.func (.func 185) #[] #[.pointer (some ⟨q3,0,none⟩)],.int .i64 1,.agg #[.string c1,.string c2,.string c3],undef,undef,undef,undef,undef,undef,undef,undef,undef,undef,undef,undef,undef,undef,undef,undef,undef,undef,undef,undef],defers := [] })∨(x=2∧W.heap[Bx]?=some (.cells #[.string d1,.string d2,.string d3] 38 (0,0))∧a' = { tmps := #[v0,.pointer (some ⟨w.heap.size,0,none⟩),.pointer (some ⟨w.heap.size+1,0,none⟩),.int .i64 0,.pointer (some ⟨p4,0,none⟩),.pointer (some ⟨E,0,none⟩),.pointer (some ⟨B,0,none⟩),.int .i64 2,.pointer (some ⟨Bx,0,none⟩),undef,undef,v11,.pointer (some ⟨w.heap.size,0,none⟩),v13,v11,v15,.int .i64 eo,v15,v18,v0,.func (.func 185) #[] #[.pointer (some ⟨q3,0,none⟩)],.int .i64 2,.agg #[.string d1,.string d2,.string d3],undef,undef,undef,undef,undef,undef,undef,undef,undef,undef,undef,undef,undef,undef,undef,undef,undef,undef,undef,undef],defers := [] }))) ?hAx ?assign ?body ?done ?stop
 case hAx =>
  rintro x a' _ X Y row ⟨Bx,h2⟩ hg hr
  refine ⟨Bx,?_⟩
  rcases h2 with ⟨rfl,h3,h4⟩|⟨rfl,h3,h4⟩|⟨rfl,h3,h4⟩
  ·exact .inl ⟨rfl,(grownBy_keeps_cells hg (fun r e=>(hr r e).2) h3 rfl).trans h3,h4⟩
  ·exact .inr (.inl ⟨rfl,(grownBy_keeps_cells hg (fun r e=>(hr r e).2) h3 rfl).trans h3,h4⟩)
  ·exact .inr (.inr ⟨rfl,(grownBy_keeps_cells hg (fun r e=>(hr r e).2) h3 rfl).trans h3,h4⟩)
 case assign =>
  rintro l pre x W K hi hK
  have hiw:w.heap.size≤W.heap.size:=by obtain ⟨_,_,_,_,_,_,_,_,_,_,hb⟩:=hi;exact hb.size
  rcases fin3 x with rfl|rfl|rfl
  ·simp only [axE,axV]
   gi_wp2
   exact hK _ _ ((KeepsOthers.alloc _ _).from _) ((aB _ W).alloc hiw _) ((tF hwW4).alloc _ hi) ⟨W.heap.size,.inl ⟨by first|rfl|trivial,World.alloc_heap_new _ _,rfl⟩⟩
  ·simp only [axE,axV]
   gi_wp2
   exact hK _ _ ((KeepsOthers.alloc _ _).from _) ((aB _ W).alloc hiw _) ((tF hwW4).alloc _ hi) ⟨W.heap.size,.inr (.inl ⟨by first|rfl|trivial,World.alloc_heap_new _ _,rfl⟩)⟩
  ·simp only [axE,axV]
   gi_wp2
   exact hK _ _ ((KeepsOthers.alloc _ _).from _) ((aB _ W).alloc hiw _) ((tF hwW4).alloc _ hi) ⟨W.heap.size,.inr (.inr ⟨by first|rfl|trivial,World.alloc_heap_new _ _,rfl⟩)⟩
 case body =>
  rintro l pre x a' W _ _ ⟨x',y',z',hB,u0,u1,u2,hE,hR,hk,hbW⟩ ⟨Bx,h3⟩ _
  obtain ⟨u,hu⟩:∃ u,ev pre=u:=⟨_,rfl⟩
  have hue:=hev pre
  rw [hu] at hE hue
  have hBlt:=(Array.getElem?_eq_some_iff.1 hB).1
  have hElt:=(Array.getElem?_eq_some_iff.1 hE).1
  have hRlt:=(Array.getElem?_eq_some_iff.1 hR).1
  have hGW:=aH (hG.below hbW)
  have HW:=aH (aI hE (aI hR (aI hk hbW)))
  have HU:=aH (aI u0 (aI u1 u2))
  have HBB:=aH hB
  clear hB u0 u1 u2 hE hR hk hbW
  rcases h3 with ⟨rfl,h3,rfl⟩|⟨rfl,h3,rfl⟩|⟨rfl,h3,rfl⟩
  ·have cb0:W.cell? ⟨Bx,0,none⟩=some (.string b1):=by simp [World.cell?,h3]
   have cb1:W.cell? ⟨Bx,1,none⟩=some (.string b2):=by simp [World.cell?,h3]
   have cb2:W.cell? ⟨Bx,2,none⟩=some (.string b3):=by simp [World.cell?,h3]
   clear h3
   gi_wp2
   refine ⟨trivial,(CallsIn.inRound l (callsIn_wide.2 (cX.out W hGW.out))).mono ?_⟩
   rintro e w2 ⟨m,rfl,hm,hbl⟩
   have hs2:=hbl.size
   have hB2:=(hbl.block B hBlt).trans HBB.out
   have hE2:=(hbl.block E hElt).trans HW.out.1
   obtain ⟨q0,r0,q1,r1,q2,r2,q3,r3,q4,r4,q5,r5,q6,r6,q7,r7,q8,r8⟩:=up9 x' (show B<w2.heap.size by omega) hB2 (⟨rfl,rfl,rfl,rfl,rfl,rfl,rfl,rfl,rfl⟩:N9 _ _ 9 10 11 12 13 14 15 16 17)
   have qE:∀ o,(w2.alloc o).cell? ⟨E,0,none⟩=some (.int .i64 u):=tC (by omega) (by simp [World.cell?,hE2])
   have H2:=aH (aI hm (aI hbl (aI hB2 hE2)))
   clear hm hbl hB2 hE2
   simp only [C9.val]
   gi_wp2
   obtain ⟨hm,hbl,hB2,hE2⟩:=H2.out
   obtain ⟨hE,hR,hk,hbW⟩:=HW.out
   obtain ⟨u0,u1,u2⟩:=HU.out
   have hBa:(w2.alloc (m9 m)).heap[B]?=some (.cells (fX k x' y' z').toArray 115 (0,0)):=(((aB _ w2).alloc (aR _) _).block B (by omega)).trans hB2
   have hT:Turned B (.cells (fX k m y' z').toArray 115 (0,0)) (w2.alloc (m9 m)) (st9 (w2.alloc (m9 m)) B 9 10 11 12 13 14 15 16 17 m):=turn9 9 hBa _ _ _ _ _ _ _ _ _ (by kernel_rfl)
   obtain ⟨X1,hX1⟩:∃ X1,st9 (w2.alloc (m9 m)) B 9 10 11 12 13 14 15 16 17 m=X1:=⟨_,rfl⟩
   rw [hX1] at hT
   unfold st9 m9 at hX1
   rw [hX1]
   have hsX:X1.heap.size=w2.heap.size+1:=by rw [hT.size];simp
   have hh:(X1.alloc (.cells #[.int .i64 u,.int .i64 ex] 24 (0,0))).heap[w2.heap.size+1]?=some (.cells #[.int .i64 u,.int .i64 ex] 24 (0,0)):=by rw [← hsX];exact World.alloc_heap_new _ _
   clear hX1 hBa
   obtain ⟨v,hv⟩:∃ v,f2 u ex=v:=⟨_,rfl⟩
   refine ⟨trivial,(CallsIn.inRound l (callsIn_wide.2 (rL hue hex hv _ (w2.heap.size+1) 24 hh))).mono ?_⟩
   rintro e w5 ⟨rfl,h5⟩
   obtain ⟨r1,r2,r3,r4,r4',r5,r6⟩:=oT (u:=u) (v:=v) (k:=k) (S:=W4.heap.size) (n:=w.heap.size) hbl HBB.out hE hEB hT h5 hbW.size hB0 hE0
   have hE5:w5.heap[E]?=some (.cells #[.int .i64 u] 24 (0,0)):=by have hs5:=h5.size;exact (h5.block E (by simp;omega)).trans ((((aB _ X1).alloc (aR _) _).block E (by omega)).trans ((hT.block E hEB).trans ((((aB _ w2).alloc (aR _) _).block E (by omega)).trans hE2)))
   have qE5:w5.cell? ⟨E,0,none⟩=some (.int .i64 u):=by simp [World.cell?,hE5]
   have rE5:w5.frozen? ⟨E,0,none⟩=false:=bE hE5 0
   have HF:KeepsFrom W4.heap.size W (w5.setCell ⟨E,0,none⟩ (.int .i64 v))∧Below w.heap.size W (w5.setCell ⟨E,0,none⟩ (.int .i64 v))∧InvE ev w k B E (w.heap.size+1) o1 o2 o3 x1 x2 x3 y1 y2 y3 z1 z2 z3 (pre ++ [0]) (w5.setCell ⟨E,0,none⟩ (.int .i64 v)) :=
    ⟨r5,r6,m,y',z',r1,fun _=>Vc.kext hm r4,fun h=>Vc.kext (Vc.kext (u1 (by simpa using h)) r4') r4,fun h=>Vc.kext (Vc.kext (u2 (by simpa using h)) r4') r4,(by rw [p0 pre,hu,hv];exact r2),(r3 _ hRlt hRB hRE).trans hR,Vc.kext (Vc.kext hk r4') r4,hbW.trans r6⟩
   have HG:=aH HF
   clear HF r1 r2 r3 r4 r4' r5 r6 hE5 hT hm hbl hB2 hE2 hE hR hk hbW u0 u1 u2 hh h5 hsX HW HU H2 hu hue
   gi_wp2
   exact HG.out
  ·have cb0:W.cell? ⟨Bx,0,none⟩=some (.string c1):=by simp [World.cell?,h3]
   have cb1:W.cell? ⟨Bx,1,none⟩=some (.string c2):=by simp [World.cell?,h3]
   have cb2:W.cell? ⟨Bx,2,none⟩=some (.string c3):=by simp [World.cell?,h3]
   clear h3
   gi_wp2
   refine ⟨trivial,(CallsIn.inRound l (callsIn_wide.2 (cY.out W hGW.out))).mono ?_⟩
   rintro e w2 ⟨m,rfl,hm,hbl⟩
   have hs2:=hbl.size
   have hB2:=(hbl.block B hBlt).trans HBB.out
   have hE2:=(hbl.block E hElt).trans HW.out.1
   obtain ⟨q0,r0,q1,r1,q2,r2,q3,r3,q4,r4,q5,r5,q6,r6,q7,r7,q8,r8⟩:=up9 y' (show B<w2.heap.size by omega) hB2 (⟨rfl,rfl,rfl,rfl,rfl,rfl,rfl,rfl,rfl⟩:N9 _ _ 18 19 20 21 22 23 24 25 26)
   have qE:∀ o,(w2.alloc o).cell? ⟨E,0,none⟩=some (.int .i64 u):=tC (by omega) (by simp [World.cell?,hE2])
   have H2:=aH (aI hm (aI hbl (aI hB2 hE2)))
   clear hm hbl hB2 hE2
   simp only [C9.val]
   gi_wp2
   obtain ⟨hm,hbl,hB2,hE2⟩:=H2.out
   obtain ⟨hE,hR,hk,hbW⟩:=HW.out
   obtain ⟨u0,u1,u2⟩:=HU.out
   have hBa:(w2.alloc (m9 m)).heap[B]?=some (.cells (fX k x' y' z').toArray 115 (0,0)):=(((aB _ w2).alloc (aR _) _).block B (by omega)).trans hB2
   have hT:Turned B (.cells (fX k x' m z').toArray 115 (0,0)) (w2.alloc (m9 m)) (st9 (w2.alloc (m9 m)) B 18 19 20 21 22 23 24 25 26 m):=turn9 18 hBa _ _ _ _ _ _ _ _ _ (by kernel_rfl)
   obtain ⟨X1,hX1⟩:∃ X1,st9 (w2.alloc (m9 m)) B 18 19 20 21 22 23 24 25 26 m=X1:=⟨_,rfl⟩
   rw [hX1] at hT
   unfold st9 m9 at hX1
   rw [hX1]
   have hsX:X1.heap.size=w2.heap.size+1:=by rw [hT.size];simp
   have hh:(X1.alloc (.cells #[.int .i64 u,.int .i64 ey] 24 (0,0))).heap[w2.heap.size+1]?=some (.cells #[.int .i64 u,.int .i64 ey] 24 (0,0)):=by rw [← hsX];exact World.alloc_heap_new _ _
   clear hX1 hBa
   obtain ⟨v,hv⟩:∃ v,f2 u ey=v:=⟨_,rfl⟩
   refine ⟨trivial,(CallsIn.inRound l (callsIn_wide.2 (rL hue hey hv _ (w2.heap.size+1) 24 hh))).mono ?_⟩
   rintro e w5 ⟨rfl,h5⟩
   obtain ⟨r1,r2,r3,r4,r4',r5,r6⟩:=oT (u:=u) (v:=v) (k:=k) (S:=W4.heap.size) (n:=w.heap.size) hbl HBB.out hE hEB hT h5 hbW.size hB0 hE0
   have hE5:w5.heap[E]?=some (.cells #[.int .i64 u] 24 (0,0)):=by have hs5:=h5.size;exact (h5.block E (by simp;omega)).trans ((((aB _ X1).alloc (aR _) _).block E (by omega)).trans ((hT.block E hEB).trans ((((aB _ w2).alloc (aR _) _).block E (by omega)).trans hE2)))
   have qE5:w5.cell? ⟨E,0,none⟩=some (.int .i64 u):=by simp [World.cell?,hE5]
   have rE5:w5.frozen? ⟨E,0,none⟩=false:=bE hE5 0
   have HF:KeepsFrom W4.heap.size W (w5.setCell ⟨E,0,none⟩ (.int .i64 v))∧Below w.heap.size W (w5.setCell ⟨E,0,none⟩ (.int .i64 v))∧InvE ev w k B E (w.heap.size+1) o1 o2 o3 x1 x2 x3 y1 y2 y3 z1 z2 z3 (pre ++ [1]) (w5.setCell ⟨E,0,none⟩ (.int .i64 v)) :=
    ⟨r5,r6,x',m,z',r1,fun h=>Vc.kext (Vc.kext (u0 (by simpa using h)) r4') r4,fun _=>Vc.kext hm r4,fun h=>Vc.kext (Vc.kext (u2 (by simpa using h)) r4') r4,(by rw [p1 pre,hu,hv];exact r2),(r3 _ hRlt hRB hRE).trans hR,Vc.kext (Vc.kext hk r4') r4,hbW.trans r6⟩
   have HG:=aH HF
   clear HF r1 r2 r3 r4 r4' r5 r6 hE5 hT hm hbl hB2 hE2 hE hR hk hbW u0 u1 u2 hh h5 hsX HW HU H2 hu hue
   gi_wp2
   exact HG.out
  ·have cb0:W.cell? ⟨Bx,0,none⟩=some (.string d1):=by simp [World.cell?,h3]
   have cb1:W.cell? ⟨Bx,1,none⟩=some (.string d2):=by simp [World.cell?,h3]
   have cb2:W.cell? ⟨Bx,2,none⟩=some (.string d3):=by simp [World.cell?,h3]
   clear h3
   gi_wp2
   refine ⟨trivial,(CallsIn.inRound l (callsIn_wide.2 (cZ.out W hGW.out))).mono ?_⟩
   rintro e w2 ⟨m,rfl,hm,hbl⟩
   have hs2:=hbl.size
   have hB2:=(hbl.block B hBlt).trans HBB.out
   have hE2:=(hbl.block E hElt).trans HW.out.1
   obtain ⟨q0,r0,q1,r1,q2,r2,q3,r3,q4,r4,q5,r5,q6,r6,q7,r7,q8,r8⟩:=up9 z' (show B<w2.heap.size by omega) hB2 (⟨rfl,rfl,rfl,rfl,rfl,rfl,rfl,rfl,rfl⟩:N9 _ _ 27 28 29 30 31 32 33 34 35)
   have qE:∀ o,(w2.alloc o).cell? ⟨E,0,none⟩=some (.int .i64 u):=tC (by omega) (by simp [World.cell?,hE2])
   have H2:=aH (aI hm (aI hbl (aI hB2 hE2)))
   clear hm hbl hB2 hE2
   simp only [C9.val]
   gi_wp2
   obtain ⟨hm,hbl,hB2,hE2⟩:=H2.out
   obtain ⟨hE,hR,hk,hbW⟩:=HW.out
   obtain ⟨u0,u1,u2⟩:=HU.out
   have hBa:(w2.alloc (m9 m)).heap[B]?=some (.cells (fX k x' y' z').toArray 115 (0,0)):=(((aB _ w2).alloc (aR _) _).block B (by omega)).trans hB2
   have hT:Turned B (.cells (fX k x' y' m).toArray 115 (0,0)) (w2.alloc (m9 m)) (st9 (w2.alloc (m9 m)) B 27 28 29 30 31 32 33 34 35 m):=turn9 27 hBa _ _ _ _ _ _ _ _ _ (by kernel_rfl)
   obtain ⟨X1,hX1⟩:∃ X1,st9 (w2.alloc (m9 m)) B 27 28 29 30 31 32 33 34 35 m=X1:=⟨_,rfl⟩
   rw [hX1] at hT
   unfold st9 m9 at hX1
   rw [hX1]
   have hsX:X1.heap.size=w2.heap.size+1:=by rw [hT.size];simp
   have hh:(X1.alloc (.cells #[.int .i64 u,.int .i64 ez] 24 (0,0))).heap[w2.heap.size+1]?=some (.cells #[.int .i64 u,.int .i64 ez] 24 (0,0)):=by rw [← hsX];exact World.alloc_heap_new _ _
   clear hX1 hBa
   obtain ⟨v,hv⟩:∃ v,f2 u ez=v:=⟨_,rfl⟩
   refine ⟨trivial,(CallsIn.inRound l (callsIn_wide.2 (rL hue hez hv _ (w2.heap.size+1) 24 hh))).mono ?_⟩
   rintro e w5 ⟨rfl,h5⟩
   obtain ⟨r1,r2,r3,r4,r4',r5,r6⟩:=oT (u:=u) (v:=v) (k:=k) (S:=W4.heap.size) (n:=w.heap.size) hbl HBB.out hE hEB hT h5 hbW.size hB0 hE0
   have hE5:w5.heap[E]?=some (.cells #[.int .i64 u] 24 (0,0)):=by have hs5:=h5.size;exact (h5.block E (by simp;omega)).trans ((((aB _ X1).alloc (aR _) _).block E (by omega)).trans ((hT.block E hEB).trans ((((aB _ w2).alloc (aR _) _).block E (by omega)).trans hE2)))
   have qE5:w5.cell? ⟨E,0,none⟩=some (.int .i64 u):=by simp [World.cell?,hE5]
   have rE5:w5.frozen? ⟨E,0,none⟩=false:=bE hE5 0
   have HF:KeepsFrom W4.heap.size W (w5.setCell ⟨E,0,none⟩ (.int .i64 v))∧Below w.heap.size W (w5.setCell ⟨E,0,none⟩ (.int .i64 v))∧InvE ev w k B E (w.heap.size+1) o1 o2 o3 x1 x2 x3 y1 y2 y3 z1 z2 z3 (pre ++ [2]) (w5.setCell ⟨E,0,none⟩ (.int .i64 v)) :=
    ⟨r5,r6,x',y',m,r1,fun h=>Vc.kext (Vc.kext (u0 (by simpa using h)) r4') r4,fun h=>Vc.kext (Vc.kext (u1 (by simpa using h)) r4') r4,fun _=>Vc.kext hm r4,(by rw [p2 pre,hu,hv];exact r2),(r3 _ hRlt hRB hRE).trans hR,Vc.kext (Vc.kext hk r4') r4,hbW.trans r6⟩
   have HG:=aH HF
   clear HF r1 r2 r3 r4 r4' r5 r6 hE5 hT hm hbl hB2 hE2 hE hR hk hbW u0 u1 u2 hh h5 hsX HW HU H2 hu hue
   gi_wp2
   exact HG.out
 case done =>
  rintro D ys W hD rfl ⟨x',y',z',hB,u0,u1,u2,hE,hR,hk,hbW⟩ hK
  rw [ev3] at hE
  have vx:=u0 (by simp)
  have vy:=u1 (by simp)
  have vz:=u2 (by simp)
  by_cases hZ0:zq=0
  ·subst hZ0
   have qE:W.cell? ⟨E,0,none⟩=some (.int .i64 0):=by simp [World.cell?,hE]
   have HW:=aH (aI hB (aI hR (aI hk (aI vx (aI vy (aI vz (aI hbW hK)))))))
   clear u0 u1 u2 hB hR hk vx vy vz hbW hK hE
   go_wp2_with fail
   refine wp_region_ty Kn [w.heap.size+1] (by kernel_rfl) (by kernel_rfl) ?_
   refine bW (.agg (fX k x' y' z').toArray) rfl (fun A w' hB hk=>?_) ?_
   ·simp [known,specOf,Kd.spec,Sp.is,isVar,Oper.looksAt,Op.operands,Call.operands,Act.eval] at hk
    exact load_all rfl (by first|exact hk|simpa [Act.eval] using hk) (hB.blk HW.out.1 (by simp;omega)) Tryz.underlying115 rfl (by kernel_rfl)
   refine bW (.agg (fX k x' y' z').toArray) rfl (fun A w' hB hk=>?_) ?_
   ·simp [known,specOf,Kd.spec,Sp.is,isVar,Oper.looksAt,Op.operands,Call.operands,Act.eval] at hk
    exact load_all rfl (by first|exact hk|simpa [Act.eval] using hk) (hB.blk HW.out.1 (by simp;omega)) Tryz.underlying115 rfl (by kernel_rfl)
   refine aT (Sp.is (.int .i64 zc)) (Sp.is_stable _ _) rfl (fun A w' hB hk=>?_) ?_
   ·simp [known,specOf,Kd.spec,Sp.is,isVar,Oper.looksAt,Op.operands,Call.operands,Act.eval] at hk
    simp [go_sem,hk]
    refine aG ?_
    have hx:=Base.extT hB HW.out.2.1 (mT _ _ _ _ _)
    exact (HC.out (by first|trivial|rfl) _ _ _ _ _ (Vc.kext HW.out.2.2.1 hx) (Vc.kext HW.out.2.2.2.1 hx) (Vc.kext HW.out.2.2.2.2.1 hx) (Vc.kext HW.out.2.2.2.2.2.1 hx)).mono (fun e w'' ⟨e1,e2⟩=>⟨_,e1,e2,rfl⟩)
   refine iI (w.heap.size+1) (.cells (fX C9.zero C9.zero C9.zero C9.zero).toArray 115 (0,0)) (fun o _=>o = .cells (fX k x' y' z').toArray 115 (0,0)) (fun _ _ _ h _=>h) rfl rfl (by simp) HW.out.2.1 (mT _ _ _ _ _) (fun A w' hB hk h0=>?_) ?_
   ·simp [known,specOf,Kd.spec,Sp.is,isVar,Oper.looksAt,Op.operands,Call.operands,Act.eval] at hk
    have hst:=mC (P:=Tryz.prog) (ρ:=A.eval) (w:=w') (o := { dst:=none,op:=Op.store 115 (Operand.tmp 2) (Operand.tmp 40),type:=0,pos := "frame.go:38",after := #[{ on:=0,ground:=Ground.data },{ on:=2,ground:=Ground.chain },{ on:=0,ground:=Ground.phase },{ on:=1,ground:=Ground.textOnly Departure.lateStores },{ on:=2,ground:=Ground.textOnly Departure.lateStoresUnsure }],guard:=none }) (T':=115) (g:=w.heap.size+1) (off:=0) (n:=36) (cs:=fX C9.zero C9.zero C9.zero C9.zero) (es:=fX k x' y' z') rfl (by simp [Act.eval,hk]) (by simp [Act.eval,hk,Value.cells]) (by kernel_rfl) rfl (frL_one _ _ _ _) h0 (show 0+36≤36 by omega)
    have e:List.take 0 (fX C9.zero C9.zero C9.zero C9.zero)++fX k x' y' z'++List.drop (0+(fX k x' y' z').length) (fX C9.zero C9.zero C9.zero C9.zero)=fX k x' y' z':=by kernel_rfl
    rw [e] at hst
    rw [hst.1]
    exact ⟨_,⟨hst.2.os,hst.2.tape,hst.2.output,hst.2.size,hst.2.at_,hst.2.block⟩,rfl⟩
   refine bB _ ?_ (by first|exact .inl rfl|exact .inr rfl) (by rfl) (by simp [specOf,Kd.spec];rfl) ?_ rfl ?_
   ·exact Sp.is_stable _ _
   refine ⟨by first|rfl|decide,fun f w2 hB hF hAp=>?_⟩;simp [Final1,Sp.is,isVar] at hF;simp only [frameOf]
   obtain ⟨f3,hw2,_,_,_⟩:=hF
   have hDR:¬ D=w.heap.size+1:=by
    intro e
    have h1:=HW.out.2.1
    have h2:=HW.out.2.2.2.2.2.2.2
    rw [e,h1] at h2
    injection h2 with h2
    cases h2
   have hK2:=hB.blk HW.out.2.2.2.2.2.2.2 (by simp;omega)
   have HV:=aH (aI hw2 (aI hB hK2))
   clear hAp
   have HBB:=aH hB
   clear hB
   go_wp2
   have hB:=HBB.out
   refine ⟨by simp,.inl ⟨_,_,rfl,run_takeDeferred hK2,?_⟩⟩
   have hg5:(w2.putObj D (.deferred none)).heap[w.heap.size+1]?=some (.cells (fX k x' y' z').toArray 115 (0,0)):=(World.putObj_heap_other (by omega)).trans hw2
   have hl:=run_loadVar_mid (P:=Tryz.prog) (w2.putObj D (.deferred none)) (w.heap.size+1) 0 115 (((fX k x' y' z').drop 0).take 36) _ (rT hg5 0 36) Tryz.underlying115 rfl (by kernel_rfl)
   have e36:((fX k x' y' z').drop 0).take 36=fX k x' y' z':=by kernel_rfl
   rw [e36] at hl
   have hbe:=Base.belowT hB HW.out.2.2.2.2.2.2.1 (by omega)
   have hx1:=Base.extT hB HW.out.2.1 (mT _ _ _ _ _)
   have hx2:Go.Proofs.YtnhafhpmocabiaaGreatDoor.Ext Kn w2 (w2.putObj D (.deferred none)):=uG (grownBy_putObj' w2 D _) (fun r e=>by cases e;exact ⟨_,hK2,rfl⟩)
   have hDw:w.heap.size≤D:=by omega
   refine ⟨.tuple #[.agg (fX k x' y' z').toArray,.int .i64 zc],?_,k,x',y',z',rfl,Vc.kext (Vc.kext HW.out.2.2.1 hx1) hx2,Vc.kext (Vc.kext HW.out.2.2.2.1 hx1) hx2,Vc.kext (Vc.kext HW.out.2.2.2.2.1 hx1) hx2,Vc.kext (Vc.kext HW.out.2.2.2.2.2.1 hx1) hx2,hbe.trans (belowK_b (w:=w) (aR _) w2 D _ _ hDw hK2 rfl rfl)⟩
   refine (lG (vs := [.agg (fX k x' y' z').toArray,.int .i64 zc]) ?_).trans rfl
   show (List.mapM (wT _) [.cell 2 115,.tmp 3]).run _ _=_
   simp [List.mapM_cons,wT,Act.put,asAddr,Sem.run_bind,Result.andThen,hl,f3]
  ·have n1:(zq==0)=false:=by rw [beq_eq_false_iff_ne];exact hZ0
   have qE:W.cell? ⟨E,0,none⟩=some (.int .i64 zq):=by simp [World.cell?,hE]
   have HW:=aH (aI hE (aI hR (aI hk (aI vx (aI vy (aI vz (aI hbW hK)))))))
   clear u0 u1 u2 hB hR hk vx vy vz hbW hK hE
   go_wp2_with fail
   refine wp_region_ty Kn [w.heap.size+1] (by kernel_rfl) (by kernel_rfl) ?_
   refine bW (.agg (fX C9.zero C9.zero C9.zero C9.zero).toArray) rfl (fun A w' hB hk=>?_) ?_
   ·refine bM ?_
    exact bX (by kernel_rfl) _
   refine bW (.int .i64 zq) rfl (fun A w' hB hk=>?_) ?_
   ·simp [known,specOf,Kd.spec,Sp.is,isVar,Oper.looksAt,Op.operands,Call.operands,Act.eval] at hk
    have hc:=hB.blk HW.out.1 (by simp;omega)
    have hc:w'.cell? ⟨E,0,none⟩=some (.int .i64 zq):=by simp [World.cell?,hc]
    simp [go_sem,hk,hc]
   refine iI (w.heap.size+1) (.cells (fX C9.zero C9.zero C9.zero C9.zero).toArray 115 (0,0)) (fun o _=>o = .cells (fX C9.zero C9.zero C9.zero C9.zero).toArray 115 (0,0)) (fun _ _ _ h _=>h) rfl rfl (by simp) HW.out.2.1 (mT _ _ _ _ _) (fun A w' hB hk h0=>?_) ?_
   ·simp [known,specOf,Kd.spec,Sp.is,isVar,Oper.looksAt,Op.operands,Call.operands,Act.eval] at hk
    have hst:=mC (P:=Tryz.prog) (ρ:=A.eval) (w:=w') (o := { dst:=none,op:=Op.store 115 (Operand.tmp 2) (Operand.tmp 38),type:=0,pos := "frame.go:36",after := #[{ on:=0,ground:=Ground.data },{ on:=0,ground:=Ground.phase },{ on:=1,ground:=Ground.textOnly Departure.lateStores }],guard:=none }) (T':=115) (g:=w.heap.size+1) (off:=0) (n:=36) (cs:=fX C9.zero C9.zero C9.zero C9.zero) (es:=fX C9.zero C9.zero C9.zero C9.zero) rfl (by simp [Act.eval,hk]) (by simp [Act.eval,hk,Value.cells]) (by kernel_rfl) rfl (frL_one _ _ _ _) h0 (show 0+36≤36 by omega)
    have e:List.take 0 (fX C9.zero C9.zero C9.zero C9.zero)++fX C9.zero C9.zero C9.zero C9.zero++List.drop (0+(fX C9.zero C9.zero C9.zero C9.zero).length) (fX C9.zero C9.zero C9.zero C9.zero)=fX C9.zero C9.zero C9.zero C9.zero:=by kernel_rfl
    rw [e] at hst
    rw [hst.1]
    exact ⟨_,⟨hst.2.os,hst.2.tape,hst.2.output,hst.2.size,hst.2.at_,hst.2.block⟩,rfl⟩
   refine bB _ ?_ (by first|exact .inl rfl|exact .inr rfl) (by rfl) (by simp [specOf,Kd.spec];rfl) ?_ rfl ?_
   ·exact Sp.is_stable _ _
   refine ⟨by first|rfl|decide,fun f w2 hB hF hAp=>?_⟩;simp [Final1,Sp.is,isVar] at hF;simp only [frameOf]
   obtain ⟨f3,hw2,_⟩:=hF
   have hDR:¬ D=w.heap.size+1:=by
    intro e
    have h1:=HW.out.2.1
    have h2:=HW.out.2.2.2.2.2.2.2
    rw [e,h1] at h2
    injection h2 with h2
    cases h2
   have hK2:=hB.blk HW.out.2.2.2.2.2.2.2 (by simp;omega)
   have HV:=aH (aI hw2 (aI hB hK2))
   clear hAp
   have HBB:=aH hB
   clear hB
   go_wp2
   have hB:=HBB.out
   refine ⟨by simp,.inl ⟨_,_,rfl,run_takeDeferred hK2,?_⟩⟩
   have hg5:(w2.putObj D (.deferred none)).heap[w.heap.size+1]?=some (.cells (fX C9.zero C9.zero C9.zero C9.zero).toArray 115 (0,0)):=(World.putObj_heap_other (by omega)).trans hw2
   have hl:=run_loadVar_mid (P:=Tryz.prog) (w2.putObj D (.deferred none)) (w.heap.size+1) 0 115 (((fX C9.zero C9.zero C9.zero C9.zero).drop 0).take 36) _ (rT hg5 0 36) Tryz.underlying115 rfl (by kernel_rfl)
   have e36:((fX C9.zero C9.zero C9.zero C9.zero).drop 0).take 36=fX C9.zero C9.zero C9.zero C9.zero:=by kernel_rfl
   rw [e36] at hl
   have hbe:=Base.belowT hB HW.out.2.2.2.2.2.2.1 (by omega)
   have hx1:=Base.extT hB HW.out.2.1 (mT _ _ _ _ _)
   have hx2:Go.Proofs.YtnhafhpmocabiaaGreatDoor.Ext Kn w2 (w2.putObj D (.deferred none)):=uG (grownBy_putObj' w2 D _) (fun r e=>by cases e;exact ⟨_,hK2,rfl⟩)
   have hDw:w.heap.size≤D:=by omega
   refine ⟨.tuple #[.agg (fX C9.zero C9.zero C9.zero C9.zero).toArray,.int .i64 zq],?_,rfl,⟨k,Vc.kext (Vc.kext HW.out.2.2.1 hx1) hx2⟩,⟨x',Vc.kext (Vc.kext HW.out.2.2.2.1 hx1) hx2⟩,⟨y',Vc.kext (Vc.kext HW.out.2.2.2.2.1 hx1) hx2⟩,⟨z',Vc.kext (Vc.kext HW.out.2.2.2.2.2.1 hx1) hx2⟩,hbe.trans (belowK_b (w:=w) (aR _) w2 D _ _ hDw hK2 rfl rfl)⟩
   refine (lG (vs := [.agg (fX C9.zero C9.zero C9.zero C9.zero).toArray,.int .i64 zq]) ?_).trans rfl
   show (List.mapM (wT _) [.cell 2 115,.tmp 3]).run _ _=_
   simp [List.mapM_cons,wT,Act.put,asAddr,Sem.run_bind,Result.andThen,hl,f3]
 case stop=>rintro D c pre W _ _ h _;exact h.elim
end Fr
namespace Fr
open Go.RowKit Go.Shelf Ab Pl
set_option maxRecDepth 100000 in
theorem zI (o1 o2 o3 x1 x2 x3 y1 y2 y3 z1 z2 z3:Rat) (ho:pK o1 o2 o3) (hx:pK x1 x2 x3) (hy:pK y1 y2 y3) (hz:pK z1 z2 z3) (lm:Lm 25 x1 x2 x3 y1 y2 y3 z1 z2 z3) (hax:Ax x1 x2 x3 y1 y2 y3 z1 z2 z3) (w:World) (hG:Gl w) :
 Calls Tryz.prog 70 #[.agg #[.string (writeB o1),.string (writeB o2),.string (writeB o3),.string (writeB x1),.string (writeB x2),.string (writeB x3),.string (writeB y1),.string (writeB y2),.string (writeB y3),.string (writeB z1),.string (writeB z2),.string (writeB z3)]] w fun e w' => ∃ o x y z:C9,e = .returned (.tuple #[.agg (fX o x y z).toArray,.int .i64 0])∧Vc w' o.val o1 o2 o3∧Vc w' x.val x1 x2 x3∧Vc w' y.val y1 y2 y3∧Vc w' z.val z1 z2 z3∧Below w.heap.size w w':=by
 have h:=zH (writeB o1) (writeB o2) (writeB o3) (writeB x1) (writeB x2) (writeB x3) (writeB y1) (writeB y2) (writeB y3) (writeB z1) (writeB z2) (writeB z3) o1 o2 o3 x1 x2 x3 y1 y2 y3 z1 z2 z3 0 0 0 0 0 0
  (.inl rfl) (.inl rfl) (.inl rfl) (.inl rfl) rfl (fun W hW=>lR ho W hW) (fun W hW=>lR hx W hW) (fun W hW=>lR hy W hW) (fun W hW=>lR hz W hW)
  (fun _ _ _ _ _ _ v0 v1 v2 v3=>check_any v0 v1 v2 v3 lm hax) w hG
 rw [if_pos rfl] at h
 simpa only [if_true] using h
theorem holds_txt {β:List Nat} {w:World}:∀ (l:List ByteArray) (cs:List Value),holdsL β (l.map eJ) cs w→cs=l.map Value.string
 | [],cs,h=>h
 | b::l,cs,⟨x,y,e,h1,h2⟩=>by
   have h1:x = [.string b]:=h1
   rw [e,h1,holds_txt l y h2]
   rfl
section
variable {o1 o2 o3 x1 x2 x3 y1 y2 y3 z1 z2 z3:Rat}
theorem readFrameF (h:Wf o1 o2 o3 x1 x2 x3 y1 y2 y3 z1 z2 z3) (hax:Ax x1 x2 x3 y1 y2 y3 z1 z2 z3):jX 70 [lM o1 o2 o3 x1 x2 x3 y1 y2 y3 z1 z2 z3] (okFr o1 o2 o3 x1 x2 x3 y1 y2 y3 z1 z2 z3):=by
 intro β w vs hG hv
 obtain ⟨v,rfl,cs,rfl,h1⟩:=cL hv
 have e:=holds_txt [writeB o1,writeB o2,writeB o3,writeB x1,writeB x2,writeB x3,writeB y1,writeB y2,writeB y3,writeB z1,writeB z2,writeB z3] cs h1
 rw [e]
 refine (zI o1 o2 o3 x1 x2 x3 y1 y2 y3 z1 z2 z3 h.o h.x h.y h.z (h.lm.mono (by decide)) hax w hG).mono ?_
 rintro e w' ⟨o,x,y,z,e1,v0,v1,v2,v3,hb⟩
 exact ⟨_,e1,hb,[.agg (fX o x y z).toArray,.int .i64 0],rfl,_,_,rfl,fr_holds v0 v1 v2 v3,_,_,rfl,⟨rfl,rfl⟩,rfl⟩
theorem fv_of (h:Wf o1 o2 o3 x1 x2 x3 y1 y2 y3 z1 z2 z3) (hax:Ax x1 x2 x3 y1 y2 y3 z1 z2 z3):Fv o1 o2 o3 x1 x2 x3 y1 y2 y3 z1 z2 z3:=⟨h,hax,readFrameF h hax⟩
end
end Fr
namespace Ab
open Go.RowKit Pl
inductive AvL:List (AV Kn)→List (AV Kn)→Prop where
 | nil:AvL [] []
 | ag {k m l l'}:LitL k m→AvL l l'→AvL (.fv (.ag k)::l) (.fv (.ag m)::l')
 | txt {b:ByteArray} {l l'}:AvL l l'→AvL (.fv (.sc (eJ b))::l) (.fv (.sc (.lit (.string b)))::l')
 | same {x:AV Kn} {l l'}:AvL l l'→AvL (x::l) (x::l')
theorem AvL.to {β:List Nat} {w:World} {l m:List (AV Kn)} (h:AvL l m):∀ {vs:List Value},holdsA β m vs w→holdsA β l vs w:=by
 induction h with
 | nil=>intro vs h;exact h
 | ag hl _ ih=>rintro vs ⟨v,r,e,h1,h2⟩;exact ⟨v,r,e,(ag_lit hl).2 h1,ih h2⟩
 | txt _ ih=>rintro vs ⟨v,r,e,h1,h2⟩;exact ⟨v,r,e,sc_lit.2 h1,ih h2⟩
 | same _ ih=>rintro vs ⟨v,r,e,h1,h2⟩;exact ⟨v,r,e,h1,ih h2⟩
inductive FvL:List (FV Kn)→List (FV Kn)→Prop where
 | nil:FvL [] []
 | ag {k m l l'}:LitL k m→FvL l l'→FvL (.ag k::l) (.ag m::l')
 | txt {b:ByteArray} {l l'}:FvL l l'→FvL (.sc (eJ b)::l) (.sc (.lit (.string b))::l')
 | same {x:FV Kn} {l l'}:FvL l l'→FvL (x::l) (x::l')
theorem FvL.to {β:List Nat} {w:World} {l m:List (FV Kn)} (h:FvL l m):∀ {vs:List Value},holdsF β l vs w→holdsF β m vs w:=by
 induction h with
 | nil=>intro vs h;exact h
 | ag hl _ ih=>rintro vs ⟨v,r,e,h1,h2⟩;exact ⟨v,r,e,(ag_lit hl).1 h1,ih h2⟩
 | txt _ ih=>rintro vs ⟨v,r,e,h1,h2⟩;exact ⟨v,r,e,(sc_lit (β:=β)).1 h1,ih h2⟩
 | same _ ih=>rintro vs ⟨v,r,e,h1,h2⟩;exact ⟨v,r,e,h1,ih h2⟩
theorem FitsW.lits {P:Program} {I:World→Prop} {f:FuncId} {l l' : List (AV Kn)} {r r' : List (FV Kn)} (h:FitsW P I f l (.tup r)) (ha:AvL l l') (hr:FvL r r'):FitsW P I f l' (.tup r') :=
 (h.args fun _ _ _ hv=>ha.to hv).res fun _ _ _ ⟨vs,e,hv⟩=>⟨vs,e,hr.to hv⟩
theorem Fits.lits {P:Program} {f:FuncId} {l l' : List (AV Kn)} {k m:List (Seg Kn)} (h:Fits P f l (.fv (.ag k))) (ha:AvL l l') (hr:LitL k m):Fits P f l' (.fv (.ag m)):=fun β w vs hv =>
 (h β w vs (ha.to hv)).mono fun e w' ⟨v,e1,e2,e3⟩=>⟨v,e1,e2,(ag_lit hr).1 e3⟩
theorem vc_eq {P:Program} {f:FuncId} {l:List (AV Kn)} {a b c a' b' c' : Rat} (h:Fits P f l (vc a b c)) (e1:a=a') (e2:b=b') (e3:c=c'):Fits P f l (vc a' b' c'):=by
 subst e1
 subst e2
 subst e3
 exact h
theorem wr_q {q:Rat} (hn:q.num.natAbs<1000000000) (hd:q.den<1000000000):Wr q :=
 ⟨Nat.le_trans (decB_size (k:=8) hn) (by decide),Nat.le_trans (decB_size (k:=8) hd) (by decide)⟩
theorem oU {z:Int} (h:z.natAbs<1000000000):Wr (z:Rat):=wr_q h (show 1<1000000000 by omega)
theorem lB {q:Rat} {n:Int} {d:Nat} {a b:ByteArray} (hn:q.num=n) (hd:q.den=d) (h1:d≠1) (ha:aS n=a) (hb:decB d=b):writeB q=a++(⟨#[47]⟩++b):=by
 rw [gJ (by rw [hd];exact h1),hn,hd,ha,hb]
theorem x0:writeB ((0:Int):Rat)=⟨#[48]⟩:=dJ (by omega) (bV (n:=0) (by omega))
theorem x1:writeB ((1:Int):Rat)=⟨#[49]⟩:=dJ (by omega) (bV (n:=1) (by omega))
theorem x2:writeB ((2:Int):Rat)=⟨#[50]⟩:=dJ (by omega) (bV (n:=2) (by omega))
theorem x3:writeB ((3:Int):Rat)=⟨#[51]⟩:=dJ (by omega) (bV (n:=3) (by omega))
theorem x4:writeB ((4:Int):Rat)=⟨#[52]⟩:=dJ (by omega) (bV (n:=4) (by omega))
theorem x5:writeB ((5:Int):Rat)=⟨#[53]⟩:=dJ (by omega) (bV (n:=5) (by omega))
theorem x7:writeB ((7:Int):Rat)=⟨#[55]⟩:=dJ (by omega) (bV (n:=7) (by omega))
theorem x10:writeB ((10:Int):Rat)=⟨#[49,48]⟩:=dJ (by omega) (mS (n:=10) (by omega) (by omega))
theorem x24:writeB ((24:Int):Rat)=⟨#[50,52]⟩:=dJ (by omega) (mS (n:=24) (by omega) (by omega))
theorem x25:writeB ((25:Int):Rat)=⟨#[50,53]⟩:=dJ (by omega) (mS (n:=25) (by omega) (by omega))
theorem x28:writeB ((28:Int):Rat)=⟨#[50,56]⟩:=dJ (by omega) (mS (n:=28) (by omega) (by omega))
theorem x30:writeB ((30:Int):Rat)=⟨#[51,48]⟩:=dJ (by omega) (mS (n:=30) (by omega) (by omega))
theorem xm1:writeB ((-1:Int):Rat)=⟨#[45,49]⟩:=(fW (z := -1) (by omega) (b:=⟨#[49]⟩) (by rw [show Int.natAbs (-1)=1 from rfl];exact bV (n:=1) (by omega))).trans (ba_ext rfl)
theorem xm2:writeB ((-2:Int):Rat)=⟨#[45,50]⟩:=(fW (z := -2) (by omega) (b:=⟨#[50]⟩) (by rw [show Int.natAbs (-2)=2 from rfl];exact bV (n:=2) (by omega))).trans (ba_ext rfl)
theorem xm4:writeB ((-4:Int):Rat)=⟨#[45,52]⟩:=(fW (z := -4) (by omega) (b:=⟨#[52]⟩) (by rw [show Int.natAbs (-4)=4 from rfl];exact bV (n:=4) (by omega))).trans (ba_ext rfl)
theorem xm7:writeB ((-7:Int):Rat)=⟨#[45,55]⟩:=(fW (z := -7) (by omega) (b:=⟨#[55]⟩) (by rw [show Int.natAbs (-7)=7 from rfl];exact bV (n:=7) (by omega))).trans (ba_ext rfl)
theorem xm24:writeB ((-24:Int):Rat)=⟨#[45,50,52]⟩:=(fW (z := -24) (by omega) (b:=⟨#[50,52]⟩) (by rw [show Int.natAbs (-24)=24 from rfl];exact mS (n:=24) (by omega) (by omega))).trans (ba_ext rfl)
theorem r0:Wr ((0:Int):Rat):=oU (by decide)
theorem r1:Wr ((1:Int):Rat):=oU (by decide)
theorem r2:Wr ((2:Int):Rat):=oU (by decide)
theorem r3:Wr ((3:Int):Rat):=oU (by decide)
theorem r4:Wr ((4:Int):Rat):=oU (by decide)
theorem r5:Wr ((5:Int):Rat):=oU (by decide)
theorem r7:Wr ((7:Int):Rat):=oU (by decide)
theorem r10:Wr ((10:Int):Rat):=oU (by decide)
theorem r24:Wr ((24:Int):Rat):=oU (by decide)
theorem r25:Wr ((25:Int):Rat):=oU (by decide)
theorem r28:Wr ((28:Int):Rat):=oU (by decide)
theorem r30:Wr ((30:Int):Rat):=oU (by decide)
theorem rm1:Wr ((-1:Int):Rat):=oU (by decide)
theorem rm2:Wr ((-2:Int):Rat):=oU (by decide)
theorem rm4:Wr ((-4:Int):Rat):=oU (by decide)
theorem rm7:Wr ((-7:Int):Rat):=oU (by decide)
theorem rm24:Wr ((-24:Int):Rat):=oU (by decide)
theorem nh12:(mkRat (1) 2).num=1:=by kernel_rfl
theorem dh12:(mkRat (1) 2).den=2:=by kernel_rfl
theorem xh12:writeB (mkRat (1) 2)=⟨#[49,47,50]⟩:=(lB nh12 dh12 (by decide) (a:=⟨#[49]⟩) ((dO (1)).trans x1) (bV (n:=2) (by omega))).trans (ba_ext rfl)
theorem rh12:Wr (mkRat (1) 2):=wr_q (by rw [nh12];decide) (by rw [dh12];decide)
theorem nm13:(mkRat (-1) 3).num = -1:=by kernel_rfl
theorem dm13:(mkRat (-1) 3).den=3:=by kernel_rfl
theorem xm13:writeB (mkRat (-1) 3)=⟨#[45,49,47,51]⟩:=(lB nm13 dm13 (by decide) (a:=⟨#[45,49]⟩) ((dO (-1)).trans xm1) (bV (n:=3) (by omega))).trans (ba_ext rfl)
theorem rm13:Wr (mkRat (-1) 3):=wr_q (by rw [nm13];decide) (by rw [dm13];decide)
theorem nq252:(mkRat (25) 2).num=25:=by kernel_rfl
theorem dq252:(mkRat (25) 2).den=2:=by kernel_rfl
theorem xq252:writeB (mkRat (25) 2)=⟨#[50,53,47,50]⟩:=(lB nq252 dq252 (by decide) (a:=⟨#[50,53]⟩) ((dO (25)).trans x25) (bV (n:=2) (by omega))).trans (ba_ext rfl)
theorem rq252:Wr (mkRat (25) 2):=wr_q (by rw [nq252];decide) (by rw [dq252];decide)
theorem nm12:(mkRat (-1) 2).num = -1:=by kernel_rfl
theorem dm12:(mkRat (-1) 2).den=2:=by kernel_rfl
theorem xm12:writeB (mkRat (-1) 2)=⟨#[45,49,47,50]⟩:=(lB nm12 dm12 (by decide) (a:=⟨#[45,49]⟩) ((dO (-1)).trans xm1) (bV (n:=2) (by omega))).trans (ba_ext rfl)
theorem rm12:Wr (mkRat (-1) 2):=wr_q (by rw [nm12];decide) (by rw [dm12];decide)
theorem nq23:(mkRat (2) 3).num=2:=by kernel_rfl
theorem dq23:(mkRat (2) 3).den=3:=by kernel_rfl
theorem xq23:writeB (mkRat (2) 3)=⟨#[50,47,51]⟩:=(lB nq23 dq23 (by decide) (a:=⟨#[50]⟩) ((dO (2)).trans x2) (bV (n:=3) (by omega))).trans (ba_ext rfl)
theorem rq23:Wr (mkRat (2) 3):=wr_q (by rw [nq23];decide) (by rw [dq23];decide)
theorem lv_2_0_4:jF 15 [it (2),it (0),it (4)] (.fv (.ag [.lit (.string ⟨#[50]⟩),.lit (.string ⟨#[48]⟩),.lit (.string ⟨#[52]⟩)]):AV Kn):=by
 have h:=dS (a:=2) (b:=0) (c:=4) (by constructor <;> omega) (by constructor <;> omega) (by constructor <;> omega)
 simp only [vS,vD,gX,rM,hS,lM,gY,x0,x2,x4] at h
 exact h.lits (.same (.same (.same .nil))) (.txt (.txt (.txt .nil)))
theorem lv_m1_0_m2:jF 15 [it (-1),it (0),it (-2)] (.fv (.ag [.lit (.string ⟨#[45,49]⟩),.lit (.string ⟨#[48]⟩),.lit (.string ⟨#[45,50]⟩)]):AV Kn):=by
 have h:=dS (a := -1) (b:=0) (c := -2) (by constructor <;> omega) (by constructor <;> omega) (by constructor <;> omega)
 simp only [vS,vD,gX,rM,hS,lM,gY,x0,xm1,xm2] at h
 exact h.lits (.same (.same (.same .nil))) (.txt (.txt (.txt .nil)))
theorem lv_1_0_0:jF 15 [it (1),it (0),it (0)] (.fv (.ag [.lit (.string ⟨#[49]⟩),.lit (.string ⟨#[48]⟩),.lit (.string ⟨#[48]⟩)]):AV Kn):=by
 have h:=dS (a:=1) (b:=0) (c:=0) (by constructor <;> omega) (by constructor <;> omega) (by constructor <;> omega)
 simp only [vS,vD,gX,rM,hS,lM,gY,x0,x1] at h
 exact h.lits (.same (.same (.same .nil))) (.txt (.txt (.txt .nil)))
theorem lv_0_1_0:jF 15 [it (0),it (1),it (0)] (.fv (.ag [.lit (.string ⟨#[48]⟩),.lit (.string ⟨#[49]⟩),.lit (.string ⟨#[48]⟩)]):AV Kn):=by
 have h:=dS (a:=0) (b:=1) (c:=0) (by constructor <;> omega) (by constructor <;> omega) (by constructor <;> omega)
 simp only [vS,vD,gX,rM,hS,lM,gY,x0,x1] at h
 exact h.lits (.same (.same (.same .nil))) (.txt (.txt (.txt .nil)))
theorem lv_0_0_1:jF 15 [it (0),it (0),it (1)] (.fv (.ag [.lit (.string ⟨#[48]⟩),.lit (.string ⟨#[48]⟩),.lit (.string ⟨#[49]⟩)]):AV Kn):=by
 have h:=dS (a:=0) (b:=0) (c:=1) (by constructor <;> omega) (by constructor <;> omega) (by constructor <;> omega)
 simp only [vS,vD,gX,rM,hS,lM,gY,x0,x1] at h
 exact h.lits (.same (.same (.same .nil))) (.txt (.txt (.txt .nil)))
theorem lv_0_0_0:jF 15 [it (0),it (0),it (0)] (.fv (.ag [.lit (.string ⟨#[48]⟩),.lit (.string ⟨#[48]⟩),.lit (.string ⟨#[48]⟩)]):AV Kn):=by
 have h:=dS (a:=0) (b:=0) (c:=0) (by constructor <;> omega) (by constructor <;> omega) (by constructor <;> omega)
 simp only [vS,vD,gX,rM,hS,lM,gY,x0] at h
 exact h.lits (.same (.same (.same .nil))) (.txt (.txt (.txt .nil)))
theorem lv_1_1_1:jF 15 [it (1),it (1),it (1)] (.fv (.ag [.lit (.string ⟨#[49]⟩),.lit (.string ⟨#[49]⟩),.lit (.string ⟨#[49]⟩)]):AV Kn):=by
 have h:=dS (a:=1) (b:=1) (c:=1) (by constructor <;> omega) (by constructor <;> omega) (by constructor <;> omega)
 simp only [vS,vD,gX,rM,hS,lM,gY,x1] at h
 exact h.lits (.same (.same (.same .nil))) (.txt (.txt (.txt .nil)))
theorem lv_1_1_0:jF 15 [it (1),it (1),it (0)] (.fv (.ag [.lit (.string ⟨#[49]⟩),.lit (.string ⟨#[49]⟩),.lit (.string ⟨#[48]⟩)]):AV Kn):=by
 have h:=dS (a:=1) (b:=1) (c:=0) (by constructor <;> omega) (by constructor <;> omega) (by constructor <;> omega)
 simp only [vS,vD,gX,rM,hS,lM,gY,x0,x1] at h
 exact h.lits (.same (.same (.same .nil))) (.txt (.txt (.txt .nil)))
theorem lv_0_7_5:jF 15 [it (0),it (7),it (5)] (.fv (.ag [.lit (.string ⟨#[48]⟩),.lit (.string ⟨#[55]⟩),.lit (.string ⟨#[53]⟩)]):AV Kn):=by
 have h:=dS (a:=0) (b:=7) (c:=5) (by constructor <;> omega) (by constructor <;> omega) (by constructor <;> omega)
 simp only [vS,vD,gX,rM,hS,lM,gY,x0,x5,x7] at h
 exact h.lits (.same (.same (.same .nil))) (.txt (.txt (.txt .nil)))
theorem lv_m1_0_0:jF 15 [it (-1),it (0),it (0)] (.fv (.ag [.lit (.string ⟨#[45,49]⟩),.lit (.string ⟨#[48]⟩),.lit (.string ⟨#[48]⟩)]):AV Kn):=by
 have h:=dS (a := -1) (b:=0) (c:=0) (by constructor <;> omega) (by constructor <;> omega) (by constructor <;> omega)
 simp only [vS,vD,gX,rM,hS,lM,gY,x0,xm1] at h
 exact h.lits (.same (.same (.same .nil))) (.txt (.txt (.txt .nil)))
theorem lv_4_4_0:jF 15 [it (4),it (4),it (0)] (.fv (.ag [.lit (.string ⟨#[52]⟩),.lit (.string ⟨#[52]⟩),.lit (.string ⟨#[48]⟩)]):AV Kn):=by
 have h:=dS (a:=4) (b:=4) (c:=0) (by constructor <;> omega) (by constructor <;> omega) (by constructor <;> omega)
 simp only [vS,vD,gX,rM,hS,lM,gY,x0,x4] at h
 exact h.lits (.same (.same (.same .nil))) (.txt (.txt (.txt .nil)))
theorem lv_m7_24_0:jF 15 [it (-7),it (24),it (0)] (.fv (.ag [.lit (.string ⟨#[45,55]⟩),.lit (.string ⟨#[50,52]⟩),.lit (.string ⟨#[48]⟩)]):AV Kn):=by
 have h:=dS (a := -7) (b:=24) (c:=0) (by constructor <;> omega) (by constructor <;> omega) (by constructor <;> omega)
 simp only [vS,vD,gX,rM,hS,lM,gY,x0,x24,xm7] at h
 exact h.lits (.same (.same (.same .nil))) (.txt (.txt (.txt .nil)))
theorem lv_5_5_0:jF 15 [it (5),it (5),it (0)] (.fv (.ag [.lit (.string ⟨#[53]⟩),.lit (.string ⟨#[53]⟩),.lit (.string ⟨#[48]⟩)]):AV Kn):=by
 have h:=dS (a:=5) (b:=5) (c:=0) (by constructor <;> omega) (by constructor <;> omega) (by constructor <;> omega)
 simp only [vS,vD,gX,rM,hS,lM,gY,x0,x5] at h
 exact h.lits (.same (.same (.same .nil))) (.txt (.txt (.txt .nil)))
theorem lv_10_7_1:jF 15 [it (10),it (7),it (1)] (.fv (.ag [.lit (.string ⟨#[49,48]⟩),.lit (.string ⟨#[55]⟩),.lit (.string ⟨#[49]⟩)]):AV Kn):=by
 have h:=dS (a:=10) (b:=7) (c:=1) (by constructor <;> omega) (by constructor <;> omega) (by constructor <;> omega)
 simp only [vS,vD,gX,rM,hS,lM,gY,x1,x10,x7] at h
 exact h.lits (.same (.same (.same .nil))) (.txt (.txt (.txt .nil)))
theorem lframe:jF 20 ([]:List (AV Kn)) (.fv (.ag [.lit (.string ⟨#[49]⟩),.lit (.string ⟨#[48]⟩),.lit (.string ⟨#[48]⟩),.lit (.string ⟨#[51]⟩),.lit (.string ⟨#[52]⟩),.lit (.string ⟨#[48]⟩),.lit (.string ⟨#[45,52]⟩),.lit (.string ⟨#[51]⟩),.lit (.string ⟨#[48]⟩),.lit (.string ⟨#[48]⟩),.lit (.string ⟨#[48]⟩),.lit (.string ⟨#[53]⟩)]):AV Kn):=by
 have h:=lawFrameF
 simp only [vS,vD,gX,rM,hS,lM,gY,x0,x1,x3,x4,x5,xm4] at h
 exact h.lits .nil (.txt (.txt (.txt (.txt (.txt (.txt (.txt (.txt (.txt (.txt (.txt (.txt (.nil)))))))))))))
theorem wfF:Wf ((1:Int):Rat) ((0:Int):Rat) ((0:Int):Rat) ((3:Int):Rat) ((4:Int):Rat) ((0:Int):Rat) ((-4:Int):Rat) ((3:Int):Rat) ((0:Int):Rat) ((0:Int):Rat) ((0:Int):Rat) ((5:Int):Rat):=⟨⟨r1,r0,r0⟩,⟨r3,r4,r0⟩,⟨rm4,r3,r0⟩,⟨r0,r0,r5⟩⟩
theorem axF:Ax ((3:Int):Rat) ((4:Int):Rat) ((0:Int):Rat) ((-4:Int):Rat) ((3:Int):Rat) ((0:Int):Rat) ((0:Int):Rat) ((0:Int):Rat) ((5:Int):Rat):=⟨by kernel_rfl,by kernel_rfl,by kernel_rfl,by kernel_rfl,by kernel_rfl,by kernel_rfl,by kernel_rfl⟩
theorem fvF:Fv ((1:Int):Rat) ((0:Int):Rat) ((0:Int):Rat) ((3:Int):Rat) ((4:Int):Rat) ((0:Int):Rat) ((-4:Int):Rat) ((3:Int):Rat) ((0:Int):Rat) ((0:Int):Rat) ((0:Int):Rat) ((5:Int):Rat):=Go.Proofs.YtnhafhpmocabiaaGreatDoor.Fr.fv_of wfF axF
theorem hv111 {d:Rat} (h:Wr d):Hv 1 1 1 d:=⟨by constructor <;> omega,by constructor <;> omega,by constructor <;> omega,h,ck_111⟩
theorem hv100 {d:Rat} (h:Wr d):Hv 1 0 0 d:=⟨by constructor <;> omega,by constructor <;> omega,by constructor <;> omega,h,ck_100⟩
theorem hv302 {d:Rat} (h:Wr d):Hv 3 0 (-2) d:=⟨by constructor <;> omega,by constructor <;> omega,by constructor <;> omega,h,ck_302⟩
theorem nR {a:Rat} (h:decide (a=0)=false):a≠0:=of_decide_eq_false h
theorem asc_1250:∀ (j:Nat) (b:UInt8),(⟨#[49,50,46,53,48]⟩:ByteArray).data.toList[j]?=some b→b.toNat<128:=by
 intro j b h
 have:=List.mem_of_getElem? h
 simp at this
 rcases this with rfl|rfl|rfl|rfl|rfl <;> decide
theorem dig_12:AllDig (aC ⟨#[49,50]⟩):=by intro c hc;simp [aC] at hc;rcases hc with rfl|rfl <;> decide
theorem dig_50:AllDig (aC ⟨#[53,48]⟩):=by intro c hc;simp [aC] at hc;rcases hc with rfl|rfl <;> decide
theorem dec_100:decB 100=⟨#[49,48,48]⟩:=by unfold decB;rw [eY (by omega),eY (by omega),cV (by omega)];rfl
theorem dec_1250:decB 1250=⟨#[49,50,53,48]⟩:=by unfold decB;rw [eY (by omega),eY (by omega),eY (by omega),cV (by omega)];rfl
theorem q1250:mkRat (sg false 1250) 100=mkRat 25 2:=by kernel_rfl
theorem lv_small {n k:Nat} (h:n<1000000000):Lv k n:=(Lv.one n (by rw [aM];omega)).mono (Nat.zero_le _)
theorem eParse:jX 9 [lt ⟨#[49,50,46,53,48]⟩] (.tup [.sc (.lit (.string ⟨#[50,53,47,50]⟩)),.sc z0]):=by
 have hp:jF 34 [tx ⟨#[49,50,46,53,48]⟩] (.tup [.sc (eJ (decB 1250)),.sc (eJ (decB 100)),.sc z0]):=by
  have h:=partsDot (s:=⟨#[49,50,46,53,48]⟩) (a:=⟨#[49,50]⟩) (b:=⟨#[53,48]⟩) (z:=⟨#[48,48]⟩) (k:=2) (indexAnyF (by decide) asc_1250 (by kernel_rfl)) (by decide) (by decide) (ba_ext rfl) (ba_ext rfl) dig_12 (by decide) dig_50 (by decide) rfl (repeatF (by decide) (by decide) (ba_ext (by kernel_rfl))) (by decide)
  have e1:(⟨#[49,50]⟩++⟨#[53,48]⟩:ByteArray)=decB 1250:=dec_1250.symm
  have e2:(⟨#[49]⟩++⟨#[48,48]⟩:ByteArray)=decB 100:=dec_100.symm
  rw [e1,e2] at h
  exact h
 have h:=parseF' (s:=⟨#[49,50,46,53,48]⟩) (n:=1250) (d:=100) (by decide) (by kernel_rfl) hp (by rw [dec_1250];decide) (by rw [dec_100];decide) (lv_small (by decide)) (lv_small (by decide)) (by decide) (by rw [q1250];exact rq252.lf.mono (by decide)) (by rw [q1250];exact rq252.n) (by rw [q1250];exact rq252.d)
 rw [q1250,xq252] at h
 exact h.lits (.txt .nil) (.txt (.same .nil))
theorem eAlong:jX 14 [(.fv (.ag [.lit (.string ⟨#[50]⟩),.lit (.string ⟨#[48]⟩),.lit (.string ⟨#[52]⟩)]):AV Kn),(.fv (.ag [.lit (.string ⟨#[45,49]⟩),.lit (.string ⟨#[48]⟩),.lit (.string ⟨#[45,50]⟩)]):AV Kn)] (.tup [.sc (.lit (.string ⟨#[45,49,47,50]⟩)),.sc z0]):=by
 have h:=apiAlongF (a:=((2:Int):Rat)) (b:=((0:Int):Rat)) (c:=((4:Int):Rat)) (x:=((-1:Int):Rat)) (y:=((0:Int):Rat)) (z:=((-2:Int):Rat)) ⟨r2,r0,r4⟩ ⟨rm1,r0,rm2⟩ (by kernel_rfl) (by kernel_rfl) (nR (by kernel_rfl)) (by rw [show dt ((-1:Int):Rat) ((0:Int):Rat) ((-2:Int):Rat) ((2:Int):Rat) ((0:Int):Rat) ((4:Int):Rat)/dt ((2:Int):Rat) ((0:Int):Rat) ((4:Int):Rat) ((2:Int):Rat) ((0:Int):Rat) ((4:Int):Rat)=mkRat (-1) 2 from by kernel_rfl];exact rm12)
 rw [show dt ((-1:Int):Rat) ((0:Int):Rat) ((-2:Int):Rat) ((2:Int):Rat) ((0:Int):Rat) ((4:Int):Rat)/dt ((2:Int):Rat) ((0:Int):Rat) ((4:Int):Rat) ((2:Int):Rat) ((0:Int):Rat) ((4:Int):Rat)=mkRat (-1) 2 from by kernel_rfl] at h
 simp only [vS,vD,gX,rM,hS,lM,gY,x0,x2,x4,xm1,xm12,xm2] at h
 exact h.lits (.ag (.txt (.txt (.txt .nil))) (.ag (.txt (.txt (.txt .nil))) .nil)) (.txt (.same .nil))
theorem eMake:jX 16 [(.fv (.ag [.lit (.string ⟨#[49,47,50]⟩),.lit (.string ⟨#[48]⟩),.lit (.string ⟨#[45,49,47,51]⟩)]):AV Kn),lt ⟨#[53]⟩] (.tup [.ag [.lit (.int .i64 (3)),.lit (.int .i64 (0)),.lit (.int .i64 (-2)),.lit (.string ⟨#[51,48]⟩)],.sc z0]):=by
 have h:=apiMakeHalfF (n1:=mkRat 1 2) (n2:=((0:Int):Rat)) (n3:=mkRat (-1) 3) (d:=((5:Int):Rat)) (z1:=3) (z2:=0) (z3 := -2) (e:=((30:Int):Rat)) ⟨rh12,r0,rm13⟩ r5 ⟨rh12.lf.mono (by decide),r0.lf.mono (by decide),rm13.lf.mono (by decide),r5.lf.mono (by decide),fun ⟨e,_,_⟩=>nR (a:=mkRat 1 2) (by kernel_rfl) e,by kernel_rfl,by kernel_rfl,by kernel_rfl,by kernel_rfl,by constructor <;> omega,by constructor <;> omega,by constructor <;> omega,r30⟩
 simp only [vS,vD,gX,rM,hS,lM,gY,x0,x30,x5,xh12,xm13] at h
 exact h.lits (.ag (.txt (.txt (.txt .nil))) (.txt .nil)) (.ag (.same (.same (.same (.txt .nil)))) (.same .nil))
theorem eThrough:jX 17 [(.fv (.ag [.lit (.string ⟨#[49]⟩),.lit (.string ⟨#[48]⟩),.lit (.string ⟨#[48]⟩)]):AV Kn),(.fv (.ag [.lit (.string ⟨#[48]⟩),.lit (.string ⟨#[49]⟩),.lit (.string ⟨#[48]⟩)]):AV Kn),(.fv (.ag [.lit (.string ⟨#[48]⟩),.lit (.string ⟨#[48]⟩),.lit (.string ⟨#[49]⟩)]):AV Kn)] (.tup [.ag [.lit (.int .i64 (1)),.lit (.int .i64 (1)),.lit (.int .i64 (1)),.lit (.string ⟨#[49]⟩)],.sc z0]):=by
 have h:=apiThroughF (a1:=((1:Int):Rat)) (a2:=((0:Int):Rat)) (a3:=((0:Int):Rat)) (b1:=((0:Int):Rat)) (b2:=((1:Int):Rat)) (b3:=((0:Int):Rat)) (c1:=((0:Int):Rat)) (c2:=((0:Int):Rat)) (c3:=((1:Int):Rat)) (m1:=((1:Int):Rat)) (m2:=((1:Int):Rat)) (m3:=((1:Int):Rat)) (z1:=1) (z2:=1) (z3:=1) (e:=((1:Int):Rat)) ⟨r1,r0,r0⟩ ⟨r0,r1,r0⟩ ⟨r0,r0,r1⟩ (by kernel_rfl) (by kernel_rfl) (by kernel_rfl) ⟨r1.lf.mono (by decide),r1.lf.mono (by decide),r1.lf.mono (by decide),by rw [show dt ((1:Int):Rat) ((1:Int):Rat) ((1:Int):Rat) ((1:Int):Rat) ((0:Int):Rat) ((0:Int):Rat)=((1:Int):Rat) from by kernel_rfl];exact r1.lf.mono (by decide),fun ⟨e,_,_⟩=>nR (a:=((1:Int):Rat)) (by kernel_rfl) e,by kernel_rfl,by kernel_rfl,by kernel_rfl,by kernel_rfl,by constructor <;> omega,by constructor <;> omega,by constructor <;> omega,r1⟩
 simp only [vS,vD,gX,rM,hS,lM,gY,x0,x1] at h
 exact h.lits (.ag (.txt (.txt (.txt .nil))) (.ag (.txt (.txt (.txt .nil))) (.ag (.txt (.txt (.txt .nil))) .nil))) (.ag (.same (.same (.same (.txt .nil)))) (.same .nil))
theorem eMirror:jX 18 [(.fv (.ag [.lit (.int .i64 (1)),.lit (.int .i64 (1)),.lit (.int .i64 (1)),.lit (.string ⟨#[49]⟩)]):AV Kn),(.fv (.ag [.lit (.string ⟨#[48]⟩),.lit (.string ⟨#[48]⟩),.lit (.string ⟨#[48]⟩)]):AV Kn)] (.tup [.ag [.lit (.string ⟨#[50,47,51]⟩),.lit (.string ⟨#[50,47,51]⟩),.lit (.string ⟨#[50,47,51]⟩)],.sc z0]):=by
 have h:=apiMirrorF (z1:=1) (z2:=1) (z3:=1) (d:=((1:Int):Rat)) (p1:=((0:Int):Rat)) (p2:=((0:Int):Rat)) (p3:=((0:Int):Rat)) (m1:=mkRat 2 3) (m2:=mkRat 2 3) (m3:=mkRat 2 3) (hv111 r1) ⟨r0,r0,r0⟩ (nR (by kernel_rfl)) (by kernel_rfl) (by kernel_rfl) (by kernel_rfl) ⟨rq23,rq23,rq23⟩
 simp only [vS,vD,gX,rM,hS,lM,gY,x0,x1,xq23] at h
 exact h.lits (.ag (.same (.same (.same (.txt .nil)))) (.ag (.txt (.txt (.txt .nil))) .nil)) (.ag (.txt (.txt (.txt .nil))) (.same .nil))
theorem ePlace:jX 19 [(.fv (.ag [.lit (.string ⟨#[49]⟩),.lit (.string ⟨#[48]⟩),.lit (.string ⟨#[48]⟩),.lit (.string ⟨#[51]⟩),.lit (.string ⟨#[52]⟩),.lit (.string ⟨#[48]⟩),.lit (.string ⟨#[45,52]⟩),.lit (.string ⟨#[51]⟩),.lit (.string ⟨#[48]⟩),.lit (.string ⟨#[48]⟩),.lit (.string ⟨#[48]⟩),.lit (.string ⟨#[53]⟩)]):AV Kn),(.fv (.ag [.lit (.string ⟨#[49]⟩),.lit (.string ⟨#[49]⟩),.lit (.string ⟨#[49]⟩)]):AV Kn)] (.tup [.ag [.lit (.string ⟨#[48]⟩),.lit (.string ⟨#[55]⟩),.lit (.string ⟨#[53]⟩)],.sc z0]):=by
 have h:=apiPlaceF (o1:=((1:Int):Rat)) (o2:=((0:Int):Rat)) (o3:=((0:Int):Rat)) (x1:=((3:Int):Rat)) (x2:=((4:Int):Rat)) (x3:=((0:Int):Rat)) (y1:=((-4:Int):Rat)) (y2:=((3:Int):Rat)) (y3:=((0:Int):Rat)) (z1:=((0:Int):Rat)) (z2:=((0:Int):Rat)) (z3:=((5:Int):Rat)) (p1:=((1:Int):Rat)) (p2:=((1:Int):Rat)) (p3:=((1:Int):Rat)) (m1:=((0:Int):Rat)) (m2:=((7:Int):Rat)) (m3:=((5:Int):Rat)) fvF ⟨r1,r1,r1⟩ (by kernel_rfl) (by kernel_rfl) (by kernel_rfl) ⟨r0,r7,r5⟩
 simp only [vS,vD,gX,rM,hS,lM,gY,x0,x1,x3,x4,x5,x7,xm4] at h
 exact h.lits (.ag (.txt (.txt (.txt (.txt (.txt (.txt (.txt (.txt (.txt (.txt (.txt (.txt (.nil))))))))))))) (.ag (.txt (.txt (.txt .nil))) .nil)) (.ag (.txt (.txt (.txt .nil))) (.same .nil))
theorem r325:Wr (mkRat 3 25):=wr_q (by rw [show (mkRat 3 25).num=3 from by kernel_rfl];decide) (by rw [show (mkRat 3 25).den=25 from by kernel_rfl];decide)
theorem r425:Wr (mkRat 4 25):=wr_q (by rw [show (mkRat 4 25).num=4 from by kernel_rfl];decide) (by rw [show (mkRat 4 25).den=25 from by kernel_rfl];decide)
theorem r2825:Wr (mkRat 28 25):=wr_q (by rw [show (mkRat 28 25).num=28 from by kernel_rfl];decide) (by rw [show (mkRat 28 25).den=25 from by kernel_rfl];decide)
theorem ePlaceHalf:jX 21 [(.fv (.ag [.lit (.string ⟨#[49]⟩),.lit (.string ⟨#[48]⟩),.lit (.string ⟨#[48]⟩),.lit (.string ⟨#[51]⟩),.lit (.string ⟨#[52]⟩),.lit (.string ⟨#[48]⟩),.lit (.string ⟨#[45,52]⟩),.lit (.string ⟨#[51]⟩),.lit (.string ⟨#[48]⟩),.lit (.string ⟨#[48]⟩),.lit (.string ⟨#[48]⟩),.lit (.string ⟨#[53]⟩)]):AV Kn),(.fv (.ag [.lit (.int .i64 (1)),.lit (.int .i64 (0)),.lit (.int .i64 (0)),.lit (.string ⟨#[49]⟩)]):AV Kn)] (.tup [.ag [.lit (.int .i64 (3)),.lit (.int .i64 (4)),.lit (.int .i64 (0)),.lit (.string ⟨#[50,56]⟩)],.sc z0]):=by
 have h:=yV (o1:=((1:Int):Rat)) (o2:=((0:Int):Rat)) (o3:=((0:Int):Rat)) (x1:=((3:Int):Rat)) (x2:=((4:Int):Rat)) (x3:=((0:Int):Rat)) (y1:=((-4:Int):Rat)) (y2:=((3:Int):Rat)) (y3:=((0:Int):Rat)) (z1:=((0:Int):Rat)) (z2:=((0:Int):Rat)) (z3:=((5:Int):Rat)) (n1:=1) (n2:=0) (n3:=0) (d:=((1:Int):Rat)) (k1:=3) (k2:=4) (k3:=0) (e:=((28:Int):Rat)) fvF (hv100 r1) ⟨nR (by kernel_rfl),nR (by kernel_rfl),nR (by kernel_rfl)⟩ (q1:=mkRat 3 25) (q2:=mkRat 4 25) (q3:=((0:Int):Rat)) (by kernel_rfl) (by kernel_rfl) (by kernel_rfl) ⟨r325.lf.mono (by decide),r425.lf.mono (by decide),r0.lf.mono (by decide),by rw [show ((1:Int):Rat)+dt (mkRat 3 25) (mkRat 4 25) ((0:Int):Rat) ((1:Int):Rat) ((0:Int):Rat) ((0:Int):Rat)=mkRat 28 25 from by kernel_rfl];exact r2825.lf.mono (by decide),fun ⟨e,_,_⟩=>nR (a:=mkRat 3 25) (by kernel_rfl) e,by kernel_rfl,by kernel_rfl,by kernel_rfl,by kernel_rfl,by constructor <;> omega,by constructor <;> omega,by constructor <;> omega,r28⟩
 simp only [vS,vD,gX,rM,hS,lM,gY,x0,x1,x28,x3,x4,x5,xm4] at h
 exact h.lits (.ag (.txt (.txt (.txt (.txt (.txt (.txt (.txt (.txt (.txt (.txt (.txt (.txt (.nil))))))))))))) (.ag (.same (.same (.same (.txt .nil)))) .nil)) (.ag (.same (.same (.same (.txt .nil)))) (.same .nil))
theorem td_100:jF 80 [num ((1:Int):Rat),vc ((0:Int):Rat) ((0:Int):Rat) ((1:Int):Rat),vc ((1:Int):Rat) ((0:Int):Rat) ((0:Int):Rat)] (vc ((0:Int):Rat) ((1:Int):Rat) ((0:Int):Rat)):=by
 have h:=turnedF (w:=((1:Int):Rat)) (u1:=((0:Int):Rat)) (u2:=((0:Int):Rat)) (u3:=((1:Int):Rat)) (v1:=((1:Int):Rat)) (v2:=((0:Int):Rat)) (v3:=((0:Int):Rat)) (r1.lf.mono (by decide)) (r0.lf.mono (by decide)) (r0.lf.mono (by decide)) (r1.lf.mono (by decide)) (r1.lf.mono (by decide)) (r0.lf.mono (by decide)) (r0.lf.mono (by decide)) (nR (by kernel_rfl))
 exact vc_eq h (by kernel_rfl) (by kernel_rfl) (by kernel_rfl)
theorem td_010:jF 80 [num ((1:Int):Rat),vc ((0:Int):Rat) ((0:Int):Rat) ((1:Int):Rat),vc ((0:Int):Rat) ((1:Int):Rat) ((0:Int):Rat)] (vc ((-1:Int):Rat) ((0:Int):Rat) ((0:Int):Rat)):=by
 have h:=turnedF (w:=((1:Int):Rat)) (u1:=((0:Int):Rat)) (u2:=((0:Int):Rat)) (u3:=((1:Int):Rat)) (v1:=((0:Int):Rat)) (v2:=((1:Int):Rat)) (v3:=((0:Int):Rat)) (r1.lf.mono (by decide)) (r0.lf.mono (by decide)) (r0.lf.mono (by decide)) (r1.lf.mono (by decide)) (r0.lf.mono (by decide)) (r1.lf.mono (by decide)) (r0.lf.mono (by decide)) (nR (by kernel_rfl))
 exact vc_eq h (by kernel_rfl) (by kernel_rfl) (by kernel_rfl)
theorem td_001:jF 80 [num ((1:Int):Rat),vc ((0:Int):Rat) ((0:Int):Rat) ((1:Int):Rat),vc ((0:Int):Rat) ((0:Int):Rat) ((1:Int):Rat)] (vc ((0:Int):Rat) ((0:Int):Rat) ((1:Int):Rat)):=by
 have h:=turnedF (w:=((1:Int):Rat)) (u1:=((0:Int):Rat)) (u2:=((0:Int):Rat)) (u3:=((1:Int):Rat)) (v1:=((0:Int):Rat)) (v2:=((0:Int):Rat)) (v3:=((1:Int):Rat)) (r1.lf.mono (by decide)) (r0.lf.mono (by decide)) (r0.lf.mono (by decide)) (r1.lf.mono (by decide)) (r0.lf.mono (by decide)) (r0.lf.mono (by decide)) (r1.lf.mono (by decide)) (nR (by kernel_rfl))
 exact vc_eq h (by kernel_rfl) (by kernel_rfl) (by kernel_rfl)
theorem eTurn:jX 22 [(.fv (.ag [.lit (.string ⟨#[49]⟩),.lit (.string ⟨#[48]⟩),.lit (.string ⟨#[48]⟩),.lit (.string ⟨#[49]⟩)]):AV Kn)] (.tup [.ag [.lit (.string ⟨#[48]⟩),.lit (.string ⟨#[48]⟩),.lit (.string ⟨#[48]⟩),.lit (.string ⟨#[48]⟩),.lit (.string ⟨#[49]⟩),.lit (.string ⟨#[48]⟩),.lit (.string ⟨#[45,49]⟩),.lit (.string ⟨#[48]⟩),.lit (.string ⟨#[48]⟩),.lit (.string ⟨#[48]⟩),.lit (.string ⟨#[48]⟩),.lit (.string ⟨#[49]⟩)],.sc z0]):=by
 have h:=apiTurnF (w:=((1:Int):Rat)) (u1:=((0:Int):Rat)) (u2:=((0:Int):Rat)) (u3:=((1:Int):Rat)) (b:=false) r1 ⟨r0,r0,r1⟩ (by kernel_rfl) (fun h=>by cases h) td_100 td_010 td_001 ⟨⟨r0,r0,r0⟩,⟨r0,r1,r0⟩,⟨rm1,r0,r0⟩,⟨r0,r0,r1⟩⟩
 simp only [vS,vD,gX,rM,hS,lM,gY,x0,x1,xm1] at h
 exact h.lits (.ag (.txt (.txt (.txt (.txt .nil)))) .nil) (.ag (.txt (.txt (.txt (.txt (.txt (.txt (.txt (.txt (.txt (.txt (.txt (.txt (.nil))))))))))))) (.same .nil))
theorem eCompose:jX 23 [(.fv (.ag [.lit (.string ⟨#[49]⟩),.lit (.string ⟨#[48]⟩),.lit (.string ⟨#[48]⟩),.lit (.string ⟨#[51]⟩),.lit (.string ⟨#[52]⟩),.lit (.string ⟨#[48]⟩),.lit (.string ⟨#[45,52]⟩),.lit (.string ⟨#[51]⟩),.lit (.string ⟨#[48]⟩),.lit (.string ⟨#[48]⟩),.lit (.string ⟨#[48]⟩),.lit (.string ⟨#[53]⟩)]):AV Kn),(.fv (.ag [.lit (.string ⟨#[49]⟩),.lit (.string ⟨#[48]⟩),.lit (.string ⟨#[48]⟩),.lit (.string ⟨#[51]⟩),.lit (.string ⟨#[52]⟩),.lit (.string ⟨#[48]⟩),.lit (.string ⟨#[45,52]⟩),.lit (.string ⟨#[51]⟩),.lit (.string ⟨#[48]⟩),.lit (.string ⟨#[48]⟩),.lit (.string ⟨#[48]⟩),.lit (.string ⟨#[53]⟩)]):AV Kn)] (.tup [.ag [.lit (.string ⟨#[52]⟩),.lit (.string ⟨#[52]⟩),.lit (.string ⟨#[48]⟩),.lit (.string ⟨#[45,55]⟩),.lit (.string ⟨#[50,52]⟩),.lit (.string ⟨#[48]⟩),.lit (.string ⟨#[45,50,52]⟩),.lit (.string ⟨#[45,55]⟩),.lit (.string ⟨#[48]⟩),.lit (.string ⟨#[48]⟩),.lit (.string ⟨#[48]⟩),.lit (.string ⟨#[50,53]⟩)],.sc z0]):=by
 have h:=apiComposeF fvF fvF (q1:=((4:Int):Rat)) (q2:=((4:Int):Rat)) (q3:=((0:Int):Rat)) (r1:=((-7:Int):Rat)) (r2:=((24:Int):Rat)) (r3:=((0:Int):Rat)) (s1:=((-24:Int):Rat)) (s2:=((-7:Int):Rat)) (s3:=((0:Int):Rat)) (t1:=((0:Int):Rat)) (t2:=((0:Int):Rat)) (t3:=((25:Int):Rat)) (by kernel_rfl) (by kernel_rfl) (by kernel_rfl) (by kernel_rfl) (by kernel_rfl) (by kernel_rfl) (by kernel_rfl) (by kernel_rfl) (by kernel_rfl) (by kernel_rfl) (by kernel_rfl) (by kernel_rfl) ⟨⟨r4,r4,r0⟩,⟨rm7,r24,r0⟩,⟨rm24,rm7,r0⟩,⟨r0,r0,r25⟩⟩ (by kernel_rfl) (by kernel_rfl) (by kernel_rfl)
 simp only [vS,vD,gX,rM,hS,lM,gY,x0,x1,x24,x25,x3,x4,x5,xm24,xm4,xm7] at h
 exact h.lits (.ag (.txt (.txt (.txt (.txt (.txt (.txt (.txt (.txt (.txt (.txt (.txt (.txt (.nil))))))))))))) (.ag (.txt (.txt (.txt (.txt (.txt (.txt (.txt (.txt (.txt (.txt (.txt (.txt (.nil))))))))))))) .nil)) (.ag (.txt (.txt (.txt (.txt (.txt (.txt (.txt (.txt (.txt (.txt (.txt (.txt (.nil))))))))))))) (.same .nil))
theorem eMeet:jX 24 [(.fv (.ag [.lit (.int .i64 (1)),.lit (.int .i64 (1)),.lit (.int .i64 (1)),.lit (.string ⟨#[49,48]⟩)]):AV Kn),(.fv (.ag [.lit (.string ⟨#[48]⟩),.lit (.string ⟨#[48]⟩),.lit (.string ⟨#[48]⟩)]):AV Kn),(.fv (.ag [.lit (.string ⟨#[49]⟩),.lit (.string ⟨#[49]⟩),.lit (.string ⟨#[48]⟩)]):AV Kn)] (.tup [.ag [.lit (.string ⟨#[53]⟩),.lit (.string ⟨#[53]⟩),.lit (.string ⟨#[48]⟩)],.sc z0]):=by
 have h:=apiMeetF (z1:=1) (z2:=1) (z3:=1) (d:=((10:Int):Rat)) (p1:=((0:Int):Rat)) (p2:=((0:Int):Rat)) (p3:=((0:Int):Rat)) (v1:=((1:Int):Rat)) (v2:=((1:Int):Rat)) (v3:=((0:Int):Rat)) (m1:=((5:Int):Rat)) (m2:=((5:Int):Rat)) (m3:=((0:Int):Rat)) (hv111 r10) ⟨r0,r0,r0⟩ ⟨r1,r1,r0⟩ (nR (by kernel_rfl)) (by kernel_rfl) (by kernel_rfl) (by kernel_rfl) ⟨r5,r5,r0⟩
 simp only [vS,vD,gX,rM,hS,lM,gY,x0,x1,x10,x5] at h
 exact h.lits (.ag (.same (.same (.same (.txt .nil)))) (.ag (.txt (.txt (.txt .nil))) (.ag (.txt (.txt (.txt .nil))) .nil))) (.ag (.txt (.txt (.txt .nil))) (.same .nil))
theorem eSide:jX 25 [(.fv (.ag [.lit (.int .i64 (3)),.lit (.int .i64 (0)),.lit (.int .i64 (-2)),.lit (.string ⟨#[51,48]⟩)]):AV Kn),(.fv (.ag [.lit (.string ⟨#[49,48]⟩),.lit (.string ⟨#[55]⟩),.lit (.string ⟨#[49]⟩)]):AV Kn)] (.tup [.sc (.lit (.int .i64 (-1))),.sc z0]):=by
 have h:=apiSideF (z1:=3) (z2:=0) (z3 := -2) (d:=((30:Int):Rat)) (p1:=((10:Int):Rat)) (p2:=((7:Int):Rat)) (p3:=((1:Int):Rat)) (s := -1) (hv302 r30) ⟨r10,r7,r1⟩ (by kernel_rfl)
 simp only [vS,vD,gX,rM,hS,lM,gY,x1,x10,x30,x7] at h
 exact h.lits (.ag (.same (.same (.same (.txt .nil)))) (.ag (.txt (.txt (.txt .nil))) .nil)) (.same (.same .nil))
set_option maxRecDepth 100000 in
theorem yI:jX 4 ([]:List (AV Kn)) (bl true):=by
 refine jY Tryz.func4 fun w00 hI=>?_
 refine jW hI 9 [lt ⟨#[49,50,46,53,48]⟩] (eParse) ?_
 refine jC 15 [it (2),it (0),it (4)] (lv_2_0_4) ?_
 refine jC 15 [it (-1),it (0),it (-2)] (lv_m1_0_m2) ?_
 refine jW hI 14 [(.fv (.ag [.lit (.string ⟨#[50]⟩),.lit (.string ⟨#[48]⟩),.lit (.string ⟨#[52]⟩)])),(.fv (.ag [.lit (.string ⟨#[45,49]⟩),.lit (.string ⟨#[48]⟩),.lit (.string ⟨#[45,50]⟩)]))] (eAlong) ?_
 refine jW hI 16 [(.fv (.ag [.lit (.string ⟨#[49,47,50]⟩),.lit (.string ⟨#[48]⟩),.lit (.string ⟨#[45,49,47,51]⟩)])),lt ⟨#[53]⟩] (eMake) ?_
 refine jC 15 [it (1),it (0),it (0)] (lv_1_0_0) ?_
 refine jC 15 [it (0),it (1),it (0)] (lv_0_1_0) ?_
 refine jC 15 [it (0),it (0),it (1)] (lv_0_0_1) ?_
 refine jW hI 17 [(.fv (.ag [.lit (.string ⟨#[49]⟩),.lit (.string ⟨#[48]⟩),.lit (.string ⟨#[48]⟩)])),(.fv (.ag [.lit (.string ⟨#[48]⟩),.lit (.string ⟨#[49]⟩),.lit (.string ⟨#[48]⟩)])),(.fv (.ag [.lit (.string ⟨#[48]⟩),.lit (.string ⟨#[48]⟩),.lit (.string ⟨#[49]⟩)]))] (eThrough) ?_
 refine jC 15 [it (0),it (0),it (0)] (lv_0_0_0) ?_
 refine jW hI 18 [(.fv (.ag [.lit (.int .i64 (1)),.lit (.int .i64 (1)),.lit (.int .i64 (1)),.lit (.string ⟨#[49]⟩)])),(.fv (.ag [.lit (.string ⟨#[48]⟩),.lit (.string ⟨#[48]⟩),.lit (.string ⟨#[48]⟩)]))] (eMirror) ?_
 refine jC 20 [] (lframe) ?_
 refine jC 15 [it (1),it (1),it (1)] (lv_1_1_1) ?_
 refine jW hI 19 [(.fv (.ag [.lit (.string ⟨#[49]⟩),.lit (.string ⟨#[48]⟩),.lit (.string ⟨#[48]⟩),.lit (.string ⟨#[51]⟩),.lit (.string ⟨#[52]⟩),.lit (.string ⟨#[48]⟩),.lit (.string ⟨#[45,52]⟩),.lit (.string ⟨#[51]⟩),.lit (.string ⟨#[48]⟩),.lit (.string ⟨#[48]⟩),.lit (.string ⟨#[48]⟩),.lit (.string ⟨#[53]⟩)])),(.fv (.ag [.lit (.string ⟨#[49]⟩),.lit (.string ⟨#[49]⟩),.lit (.string ⟨#[49]⟩)]))] (ePlace) ?_
 refine jC 20 [] (lframe) ?_
 refine jW hI 21 [(.fv (.ag [.lit (.string ⟨#[49]⟩),.lit (.string ⟨#[48]⟩),.lit (.string ⟨#[48]⟩),.lit (.string ⟨#[51]⟩),.lit (.string ⟨#[52]⟩),.lit (.string ⟨#[48]⟩),.lit (.string ⟨#[45,52]⟩),.lit (.string ⟨#[51]⟩),.lit (.string ⟨#[48]⟩),.lit (.string ⟨#[48]⟩),.lit (.string ⟨#[48]⟩),.lit (.string ⟨#[53]⟩)])),(.fv (.ag [.lit (.int .i64 (1)),.lit (.int .i64 (0)),.lit (.int .i64 (0)),.lit (.string ⟨#[49]⟩)]))] (ePlaceHalf) ?_
 refine jW hI 22 [(.fv (.ag [.lit (.string ⟨#[49]⟩),.lit (.string ⟨#[48]⟩),.lit (.string ⟨#[48]⟩),.lit (.string ⟨#[49]⟩)]))] (eTurn) ?_
 refine jC 20 [] (lframe) ?_
 refine jC 20 [] (lframe) ?_
 refine jW hI 23 [(.fv (.ag [.lit (.string ⟨#[49]⟩),.lit (.string ⟨#[48]⟩),.lit (.string ⟨#[48]⟩),.lit (.string ⟨#[51]⟩),.lit (.string ⟨#[52]⟩),.lit (.string ⟨#[48]⟩),.lit (.string ⟨#[45,52]⟩),.lit (.string ⟨#[51]⟩),.lit (.string ⟨#[48]⟩),.lit (.string ⟨#[48]⟩),.lit (.string ⟨#[48]⟩),.lit (.string ⟨#[53]⟩)])),(.fv (.ag [.lit (.string ⟨#[49]⟩),.lit (.string ⟨#[48]⟩),.lit (.string ⟨#[48]⟩),.lit (.string ⟨#[51]⟩),.lit (.string ⟨#[52]⟩),.lit (.string ⟨#[48]⟩),.lit (.string ⟨#[45,52]⟩),.lit (.string ⟨#[51]⟩),.lit (.string ⟨#[48]⟩),.lit (.string ⟨#[48]⟩),.lit (.string ⟨#[48]⟩),.lit (.string ⟨#[53]⟩)]))] (eCompose) ?_
 refine jC 15 [it (0),it (0),it (0)] (lv_0_0_0) ?_
 refine jC 15 [it (1),it (1),it (0)] (lv_1_1_0) ?_
 refine jW hI 24 [(.fv (.ag [.lit (.int .i64 (1)),.lit (.int .i64 (1)),.lit (.int .i64 (1)),.lit (.string ⟨#[49,48]⟩)])),(.fv (.ag [.lit (.string ⟨#[48]⟩),.lit (.string ⟨#[48]⟩),.lit (.string ⟨#[48]⟩)])),(.fv (.ag [.lit (.string ⟨#[49]⟩),.lit (.string ⟨#[49]⟩),.lit (.string ⟨#[48]⟩)]))] (eMeet) ?_
 refine jC 15 [it (0),it (7),it (5)] (lv_0_7_5) ?_
 refine jC 15 [it (0),it (1),it (0)] (lv_0_1_0) ?_
 refine jC 15 [it (-1),it (0),it (0)] (lv_m1_0_0) ?_
 refine jC 15 [it (4),it (4),it (0)] (lv_4_4_0) ?_
 refine jC 15 [it (-7),it (24),it (0)] (lv_m7_24_0) ?_
 refine jC 15 [it (5),it (5),it (0)] (lv_5_5_0) ?_
 refine jC 15 [it (10),it (7),it (1)] (lv_10_7_1) ?_
 refine jW hI 25 [(.fv (.ag [.lit (.int .i64 (3)),.lit (.int .i64 (0)),.lit (.int .i64 (-2)),.lit (.string ⟨#[51,48]⟩)])),(.fv (.ag [.lit (.string ⟨#[49,48]⟩),.lit (.string ⟨#[55]⟩),.lit (.string ⟨#[49]⟩)]))] (eSide) ?_
 refine jC 5 [lt ⟨#[112,111,115,116,95,49]⟩] (isNameF (b:=true) (by kernel_rfl)) ?_
 refine jC 5 [lt ⟨#[49,112,111,115,116]⟩] (isNameF (b:=false) (by kernel_rfl)) ?_
 exact jR Tryz.func4
def Bq (k:Nat) (q:Rat):Prop:=q.num.natAbs<10^k∧q.den<10^k
theorem Bq.mono {k l:Nat} {q:Rat} (h:Bq k q) (hk:k≤l):Bq l q :=
 ⟨Nat.lt_of_lt_of_le h.1 (Nat.pow_le_pow_right (by omega) hk),Nat.lt_of_lt_of_le h.2 (Nat.pow_le_pow_right (by omega) hk)⟩
theorem Bq.mul {j k:Nat} {p q:Rat} (hp:Bq j p) (hq:Bq k q):Bq (j+k) (p*q):=by
 rw [Rat.mul_def']
 obtain ⟨h1,h2⟩:=eA (p.num*q.num) (Nat.ne_of_gt (Nat.mul_pos p.den_pos q.den_pos))
 rw [Int.natAbs_mul] at h1
 refine ⟨Nat.lt_of_le_of_lt h1 ?_,Nat.lt_of_le_of_lt h2 ?_⟩
 ·rw [Nat.pow_add];exact Nat.mul_lt_mul'' hp.1 hq.1
 ·rw [Nat.pow_add];exact Nat.mul_lt_mul'' hp.2 hq.2
theorem Bq.add {j k:Nat} {p q:Rat} (hp:Bq j p) (hq:Bq k q):Bq (j+k+1) (p+q):=by
 rw [Rat.add_def']
 obtain ⟨h1,h2⟩:=eA (p.num*q.den+q.num*p.den) (Nat.ne_of_gt (Nat.mul_pos p.den_pos q.den_pos))
 have a1:p.num.natAbs*q.den<10^(j+k):=by rw [Nat.pow_add];exact Nat.mul_lt_mul'' hp.1 hq.2
 have a2:q.num.natAbs*p.den<10^(j+k):=by rw [Nat.pow_add,Nat.mul_comm];exact Nat.mul_lt_mul'' hp.2 hq.1
 have a3:p.den*q.den<10^(j+k):=by rw [Nat.pow_add];exact Nat.mul_lt_mul'' hp.2 hq.2
 have a4:10^(j+k+1)=10^(j+k)*10:=Nat.pow_succ _ _
 have a5:=Int.natAbs_add_le (p.num*q.den) (q.num*p.den)
 rw [Int.natAbs_mul,Int.natAbs_mul,Int.natAbs_natCast,Int.natAbs_natCast] at a5
 exact ⟨by omega,by omega⟩
theorem Bq.neg {k:Nat} {p:Rat} (hp:Bq k p):Bq k (-p):=by
 refine ⟨?_,hp.2⟩
 rw [Rat.neg_num,Int.natAbs_neg];exact hp.1
theorem Bq.sub {j k:Nat} {p q:Rat} (hp:Bq j p) (hq:Bq k q):Bq (j+k+1) (p-q):=by
 rw [Rat.sub_eq_add_neg]
 exact hp.add hq.neg
theorem Bq.inv {k:Nat} {p:Rat} (hp:Bq k p):Bq k p⁻¹:=by
 by_cases h0:p=0
 ·subst h0;rw [Rat.inv_zero];exact hp
 ·obtain ⟨_,e1,e2⟩:=Parts.inv (Parts.self p) h0
  exact ⟨by rw [← e1];exact hp.2,by rw [← e2];exact hp.1⟩
theorem Bq.div {j k:Nat} {p q:Rat} (hp:Bq j p) (hq:Bq k q):Bq (j+k) (p/q):=by
 rw [Rat.div_def]
 exact hp.mul hq.inv
theorem Bq.dt {k l n:Nat} {a b c x y z:Rat} (h1:Bq k a) (h2:Bq k b) (h3:Bq k c) (g1:Bq l x) (g2:Bq l y) (g3:Bq l z) (hn:3*(k+l)+2≤n):Bq n (dt a b c x y z) :=
 (((h1.mul g1).add (h2.mul g2)).add (h3.mul g3)).mono (by omega)
theorem Bq.wr {k:Nat} {q:Rat} (h:Bq k q) (hk:k≤600):Wr q:=by
 have h':=h.mono (l:=599+1) hk
 exact ⟨decB_size h'.1,decB_size h'.2⟩
theorem Bq.zs {k:Nat} {q:Rat} (h:Bq k q) (hk:k≤10000):Zs 10000 q:=by
 have h':=h.mono (l:=10000+1) (by omega)
 exact h'
theorem dec_and {p q r:Prop} [Decidable p] [Decidable q] [Decidable r] (h:¬ (p∧q∧r)):(decide p&&decide q&&decide r)=false:=by
 rw [Bool.eq_false_iff]
 intro hh
 simp only [Bool.and_eq_true,decide_eq_true_eq] at hh
 exact h ⟨hh.1.1,hh.1.2,hh.2⟩
abbrev nz (d:Nat):AV Kr := .fv (.ag [.lit (.bool true),.sp (yZ d)])
theorem signedNF {d:Nat}:jF 113 [rl true,di d] (iz (-(d:Int))):=by
 intro β w vs hv
 obtain ⟨v,u,rfl,h1,h2⟩:=dQ hv
 rw [bU h1]
 have := @eB true d β w [.bool true,u] ⟨_,_,rfl,dE,u,[],rfl,h2,rfl⟩
 simpa [iN] using this
theorem nN {n:Int} {c:Nat} (hc:n = -(c:Int)):jF 45 [pz c] (iz n):=by
 rw [hc]
 refine jT Tryz.func45 fun w00=>?_
 refine jB 113 [rl true,di c] signedNF ?_
 exact jS Tryz.func45
theorem minusNZ {d:Nat}:jF 45 [nz d] (iz (d:Int)):=by
 refine jT Tryz.func45 fun w00=>?_
 refine jB 113 [rl false,di d] kX ?_
 exact jS Tryz.func45
theorem uH {d:Nat}:jF 45 [nz d] (pz d):=rres minusNZ fun _ _ _ h=>iz_pz h
section
variable {n:Int} {d:Nat}
theorem fractionNF {c:Nat} (hc:n = -(c:Int)) (hn:Bd n.natAbs) (hd:Bd d) (hd0:0<d) (hp:n.natAbs<B9^100000000) (hq:d<B9^100000000) (hs1:(aS (iN (decide (n<0)) (n.natAbs/Nat.gcd n.natAbs d))).size≤1000000000) (hs2:(aS ((d/Nat.gcd n.natAbs d:Nat):Int)).size≤1000000000) :
 jF 46 [pz c,nz d] (rS (if d/Nat.gcd n.natAbs d=1 then aS (iN (decide (n<0)) (n.natAbs/Nat.gcd n.natAbs d)) else aS (iN (decide (n<0)) (n.natAbs/Nat.gcd n.natAbs d))++⟨#[47]⟩++aS ((d/Nat.gcd n.natAbs d:Nat):Int))):=by
 have hg:0<Nat.gcd n.natAbs d:=Nat.gcd_pos_of_pos_right _ hd0
 have hq0:0<d/Nat.gcd n.natAbs d:=Nat.div_pos (Nat.gcd_le_right _ hd0) hg
 have hq1:d/Nat.gcd n.natAbs d≤d:=Nat.div_le_self _ _
 have hp1:(iN (decide (n<0)) (n.natAbs/Nat.gcd n.natAbs d)).natAbs<B9^100000000:=by rw [nL];exact Nat.lt_of_le_of_lt (Nat.div_le_self _ _) hp
 have hq2:((d/Nat.gcd n.natAbs d:Nat):Int).natAbs<B9^100000000:=by rw [Int.natAbs_natCast];exact Nat.lt_of_le_of_lt hq1 hq
 generalize hG:Nat.gcd n.natAbs d=g at *
 generalize hP:iN (decide (n<0)) (n.natAbs/g)=p at *
 generalize hQ:d/g=q at *
 by_cases h1:q=1
 ·rw [if_pos h1]
  refine jT Tryz.func46 fun w00=>?_
  refine jB 45 [pz c] (nN hc) ?_
  refine jB 45 [nz d] uH ?_
  refine jB 32 [di n.natAbs,di d] (by have:=iB hn hd;rw [hG] at this;exact this) ?_
  refine jB 93 [di n.natAbs,di g] (nV hn hg) ?_
  refine jB 93 [di d,di g] (by have:=nV (a:=d) (b:=g) hd hg;rw [hQ] at this;exact this) ?_
  refine jB 113 [rb (decide (n<0)),di (n.natAbs/g)] (by have := @eB (decide (n<0)) (n.natAbs/g);rw [hP] at this;exact this) ?_
  refine jB 118 [iz p] (kW hp1) ?_
  refine jL (.call ⟨.builtin .len,#[.tmp 41],#[67]⟩) (.tmp 41) (.tmp 41) (di q) (di q) (.fv (.sc (.lit (.int .i64 1)))) (fun ρ o β w ho hx _=>?_) ?_
  ·obtain ⟨ad,c,e,_⟩:=fQ (bA.1 hx) hq0 (by rw [h1];exact dM)
   exact ⟨_,gE ho e,dU rfl⟩
  refine jL (.indexAddr 67 (.tmp 45) (.const (.int .i64 0))) (.tmp 45) (.const (.int .i64 0)) (di q) (.fv (.sc (.lit (.int .i64 0)))) (rP q) (fun ρ o β w ho hx hy=>?_) ?_
  ·obtain ⟨ad,c,e,hc⟩:=fQ (bA.1 hx) hq0 (by rw [h1];exact dM)
   exact ⟨_,iZ ho e (bU hy) (by omega),⟨ad,rfl,hc⟩⟩
  refine jL (.load 3 (.tmp 46)) (.tmp 46) (.tmp 46) (rP q) (rP q) (.fv (.sc (.lit (.int .i64 1)))) (fun ρ o β w ho hx _=>?_) ?_
  ·obtain ⟨ad,e,hc⟩:=hx
   injection e with e
   rw [h1] at hc
   exact ⟨_,oR ho e hc,dU rfl⟩
  exact jS Tryz.func46
 ·rw [if_neg h1]
  have hcat1:(aS p).size+(⟨#[47]⟩:ByteArray).size≤9223372036854775807:=by
   have:(⟨#[47]⟩:ByteArray).size=1:=rfl
   omega
  have hcat2:(aS p++⟨#[47]⟩:ByteArray).size+(aS (q:Int)).size≤9223372036854775807:=by
   have:(⟨#[47]⟩:ByteArray).size=1:=rfl
   rw [ByteArray.size_append]
   omega
  by_cases h2:q<B9
  ·refine jT Tryz.func46 fun w00=>?_
   refine jB 45 [pz c] (nN hc) ?_
   refine jB 45 [nz d] uH ?_
   refine jB 32 [di n.natAbs,di d] (by have:=iB hn hd;rw [hG] at this;exact this) ?_
   refine jB 93 [di n.natAbs,di g] (nV hn hg) ?_
   refine jB 93 [di d,di g] (by have:=nV (a:=d) (b:=g) hd hg;rw [hQ] at this;exact this) ?_
   refine jB 113 [rb (decide (n<0)),di (n.natAbs/g)] (by have := @eB (decide (n<0)) (n.natAbs/g);rw [hP] at this;exact this) ?_
   refine jB 118 [iz p] (kW hp1) ?_
   refine jL (.call ⟨.builtin .len,#[.tmp 41],#[67]⟩) (.tmp 41) (.tmp 41) (di q) (di q) (.fv (.sc (.lit (.int .i64 1)))) (fun ρ o β w ho hx _=>?_) ?_
   ·obtain ⟨ad,c,e,_⟩:=fQ (bA.1 hx) hq0 h2
    exact ⟨_,gE ho e,dU rfl⟩
   refine jL (.indexAddr 67 (.tmp 45) (.const (.int .i64 0))) (.tmp 45) (.const (.int .i64 0)) (di q) (.fv (.sc (.lit (.int .i64 0)))) (rP q) (fun ρ o β w ho hx hy=>?_) ?_
   ·obtain ⟨ad,c,e,hc⟩:=fQ (bA.1 hx) hq0 h2
    exact ⟨_,iZ ho e (bU hy) (by omega),⟨ad,rfl,hc⟩⟩
   refine jL (.load 3 (.tmp 46)) (.tmp 46) (.tmp 46) (rP q) (rP q) (rI q) (fun ρ o β w ho hx _=>?_) ?_
   ·obtain ⟨ad,e,hc⟩:=hx
    injection e with e
    exact ⟨_,oR ho e hc,dE⟩
   refine jL (.binOp .eql 3 (.tmp 47) (.const (.int .i64 1)) 3) (.tmp 47) (.const (.int .i64 1)) (rI q) (.fv (.sc (.lit (.int .i64 1)))) (rl false) (fun ρ o β w ho hx hy=>⟨.bool false,fL ho (bG hx) (bU hy) (by simp;omega),dU rfl⟩) ?_
   refine jL (.binOp .add 9 (.tmp 51) (.const (.string ⟨#[47]⟩)) 9) (.tmp 51) (.const (.string ⟨#[47]⟩)) (rS (aS p)) (.fv (.sc (.lit (.string ⟨#[47]⟩)))) (rS (aS p++⟨#[47]⟩)) (fun ρ o β w ho hx hy=>⟨_,dN ho (bG hx) (bU hy) hcat1,dE⟩) ?_
   refine jB 113 [rl false,di q] kX ?_
   refine jB 118 [iz (q:Int)] (kW hq2) ?_
   refine jL (.binOp .add 9 (.tmp 52) (.tmp 55) 9) (.tmp 52) (.tmp 55) (rS (aS p++⟨#[47]⟩)) (rS (aS (q:Int))) (rS (aS p++⟨#[47]⟩++aS (q:Int))) (fun ρ o β w ho hx hy=>⟨_,dN ho (bG hx) (bG hy) hcat2,dE⟩) ?_
   exact jS Tryz.func46
  ·refine jT Tryz.func46 fun w00=>?_
   refine jB 45 [pz c] (nN hc) ?_
   refine jB 45 [nz d] uH ?_
   refine jB 32 [di n.natAbs,di d] (by have:=iB hn hd;rw [hG] at this;exact this) ?_
   refine jB 93 [di n.natAbs,di g] (nV hn hg) ?_
   refine jB 93 [di d,di g] (by have:=nV (a:=d) (b:=g) hd hg;rw [hQ] at this;exact this) ?_
   refine jB 113 [rb (decide (n<0)),di (n.natAbs/g)] (by have := @eB (decide (n<0)) (n.natAbs/g);rw [hP] at this;exact this) ?_
   refine jB 118 [iz p] (kW hp1) ?_
   refine jL (.call ⟨.builtin .len,#[.tmp 41],#[67]⟩) (.tmp 41) (.tmp 41) (di q) (di q) rNe (fun ρ o β w ho hx _=>?_) ?_
   ·obtain ⟨A,m,c,e,hm⟩:=sV (bA.1 hx) (Nat.le_of_not_lt h2)
    exact ⟨_,gE ho e,⟨(m:Int),rfl,by omega⟩⟩
   refine jL (.binOp .eql 3 (.tmp 42) (.const (.int .i64 1)) 3) (.tmp 42) (.const (.int .i64 1)) rNe (.fv (.sc (.lit (.int .i64 1)))) (rl false) (fun ρ o β w ho hx hy=>?_) ?_
   ·obtain ⟨m,e,hm⟩:=hx
    injection e with e
    exact ⟨.bool false,fL ho e (bU hy) (by simpa using hm),dU rfl⟩
   refine jL (.binOp .add 9 (.tmp 51) (.const (.string ⟨#[47]⟩)) 9) (.tmp 51) (.const (.string ⟨#[47]⟩)) (rS (aS p)) (.fv (.sc (.lit (.string ⟨#[47]⟩)))) (rS (aS p++⟨#[47]⟩)) (fun ρ o β w ho hx hy=>⟨_,dN ho (bG hx) (bU hy) hcat1,dE⟩) ?_
   refine jB 113 [rl false,di q] kX ?_
   refine jB 118 [iz (q:Int)] (kW hq2) ?_
   refine jL (.binOp .add 9 (.tmp 52) (.tmp 55) 9) (.tmp 52) (.tmp 55) (rS (aS p++⟨#[47]⟩)) (rS (aS (q:Int))) (rS (aS p++⟨#[47]⟩++aS (q:Int))) (fun ρ o β w ho hx hy=>⟨_,dN ho (bG hx) (bG hy) hcat2,dE⟩) ?_
   exact jS Tryz.func46
end
theorem fracNW {n:Int} {c d k:Nat} (hc:n = -(c:Int)) (hk:k≤1000000) (hn:n.natAbs<10^(k+1)) (hd:d<10^(k+1)) (h0:0<d):jF 46 [pz c,nz d] (rS (writeB (mkRat n d))):=by
 have h:=fractionNF (n:=n) (d:=d) hc (lA hn (by omega)) (lA hd (by omega)) h0 (uF hn (by omega)) (uF hd (by omega))
  (by have:=kK (k:=k) (z:=iN (decide (n<0)) (n.natAbs/Nat.gcd n.natAbs d)) (by rw [nL];exact Nat.lt_of_le_of_lt (Nat.div_le_self _ _) hn);omega)
  (by have:=kK (k:=k) (z:=((d/Nat.gcd n.natAbs d:Nat):Int)) (by rw [Int.natAbs_natCast];exact Nat.lt_of_le_of_lt (Nat.div_le_self _ _) hd);omega)
 rw [kY n h0] at h
 exact h
section
variable {p q:Rat}
theorem kn_o {f:FuncId} {s u:ByteArray} (h:jF f [rS s] (rS u)):jF f [tx s] (tx u):=by
 intro β w vs hv
 obtain ⟨v,rfl,h1⟩:=cL hv
 rw [aJ h1]
 exact (h β w [.string s] ⟨_,_,rfl,dE,rfl⟩).mono fun e w' ⟨v,e1,e2,e3⟩=>⟨v,e1,e2,by rw [bG e3];exact aQ⟩
theorem kn_IL {f:FuncId} {s:ByteArray} {z:Int} (h:jF f [rS s] (rI z)):jF f [tx s] (it z):=by
 intro β w vs hv
 obtain ⟨v,rfl,h1⟩:=cL hv
 rw [aJ h1]
 exact (h β w [.string s] ⟨_,_,rfl,dE,rfl⟩).mono fun e w' ⟨v,e1,e2,e3⟩=>⟨v,e1,e2,by rw [bG e3];exact aV rfl⟩
theorem refCheckF {s:ByteArray} {z:Int} (hs:s.size≤9223372036854775807) (hz:dR s=z):jF 8 [tx s] (it z):=kn_IL (hz▸checkAnyF hs)
end
section
variable {f:FuncId} {w00:World} {Out:Value→World→Prop}
theorem klenT {c:Cfg Kn} (t:Tmp) (T:TypeId) (hT:Tryz.prog.underlying T=some .string) (s:ByteArray) (hc:(c.op.map fun o=>o.op,c.okT (.fv (.sc (eC s.size))),c.ev (.tmp t))=(some (.call ⟨.builtin .len,#[.tmp t],#[T]⟩),true,tx s))
 (hg:Ok Tryz.prog f w00 Out (bJ Tryz.prog 1000 (c.give (.fv (.sc (eC s.size)))))):Ok Tryz.prog f w00 Out c:=by
 simp only [Prod.mk.injEq] at hc
 obtain ⟨h1,h2,h3⟩:=hc
 exact qY _ (.tmp t) (.tmp t) (tx s) (tx s) (.fv (.sc (eC s.size))) (by rw [h1,h2,h3]) (by simp [Op.operands,Call.operands]) (by simp [Op.operands,Call.operands])
  (fun ρ o β w ho hx _=>⟨_,vX ho hT (aJ hx),aQ⟩) hg
theorem jP{c:Cfg Kn} (t:Tmp) (T:TypeId) (hT:Tryz.prog.underlying T=some .string) (s:ByteArray)(hg:Ok Tryz.prog f w00 Out (bJ Tryz.prog 1000 (c.give (.fv (.sc (eC s.size))))))(hc:(c.op.map fun o=>o.op,c.okT (.fv (.sc (eC s.size))),c.ev (.tmp t))=(some (.call ⟨.builtin .len,#[.tmp t],#[T]⟩),true,tx s):=by kernel_rfl):Ok Tryz.prog f w00 Out c:=klenT t T hT s hc hg
end
section
variable {p q:Rat}
theorem wr_len {q:Rat} (h:Wr q):(writeB q).size≤1000000000:=by
 have h1:=h.n
 have h2:=h.d
 have:=tA q.num
 rw [pU]
 split <;> omega
theorem refLargeF (h:Wr q):jF 47 [tx (writeB q)] (it 0):=by
 have h1:=h.n
 have h2:=h.d
 have hl:=tA q.num
 refine jG Tryz.func47 fun w00=>?_
 refine jC 120 [tx (writeB q)] (kn_o (numF (wr_len h))) ?_
 refine jC 119 [tx (aS q.num)] (kn_o (absTF (by omega))) ?_
 refine jP 5 26 Tryz.underlying26 (decB q.num.natAbs) ?_
 refine jM 6 (decB q.num.natAbs).size 600 false (by rw [decide_eq_false_iff_not];omega) ?_
 refine jC 121 [tx (writeB q)] (kn_o (denOfF (wr_len h))) ?_
 refine jP 10 26 Tryz.underlying26 (decB q.den) ?_
 refine jM 11 (decB q.den).size 600 false (by rw [decide_eq_false_iff_not];omega) ?_
 exact jR Tryz.func47
end
end Ab
namespace Ab
open Go.RowKit
theorem equal3 {P:Program} {T e:TypeId} {x0 x1 x2 y0 y1 y2:Value} {r0 r1 r2:Bool} (d:Nat) (hT:P.underlying T=some (.array 3 e)) (he:P.cellsOf e=1) (ha:∀ w,(isAgg e).run P w = .ok false w) (hs:∀ w,(sizeOf e).run P w = .ok 1 w)
 (h0:∀ w,(Op.equalIn d e x0 y0).run P w = .ok r0 w) (h1:∀ w,(Op.equalIn d e x1 y1).run P w = .ok r1 w) (h2:∀ w,(Op.equalIn d e x2 y2).run P w = .ok r2 w) (w:World) :
 (Op.equalIn (d+1) T (.agg #[x0,x1,x2]) (.agg #[y0,y1,y2])).run P w = .ok (r0&&r1&&r2) w:=by
 rw [Op.equalIn]
 simp only [Sem.run_bind,run_underlying hT,Result.andThen_ok,hs]
 simp only [Std.Legacy.Range.forIn_eq_forIn_range',Std.Legacy.Range.size,Nat.sub_zero,Nat.add_sub_cancel,Nat.div_one,List.range'_succ,List.range'_zero,List.forIn_cons,List.forIn_nil]
 simp [go_sem,ha,hs,h0,h1,h2]
 cases r0 <;> cases r1 <;> cases r2 <;> simp
end Ab
namespace Ab
open Go.RowKit Pl
theorem jne_run {o:Oper} {ρ:Operand→Value} {w:World} {x y:Operand} {a b:Int} {r:Bool} {T T' : TypeId} (ho:o.op = .binOp .neq T x y T') (hx:ρ x = .int .i64 a) (hy:ρ y = .int .i64 b) (h:(!(a==b))=r) :
 (execOp ρ o).run Tryz.prog w = .ok (.value (.bool r)) w:=by
 simp only [execOp,ho,hx,hy]
 refine bM ?_
 rw [← h]
 exact bX (by kernel_rfl) w
theorem iss_run {o:Oper} {ρ:Operand→Value} {w:World} {x y:Operand} {a b:Int} {r:Bool} (ho:o.op = .binOp .lss 3 x y 3) (hx:ρ x = .int .i64 a) (hy:ρ y = .int .i64 b) (h:decide (a<b)=r) :
 (execOp ρ o).run Tryz.prog w = .ok (.value (.bool r)) w:=by
 simp only [execOp,ho,hx,hy]
 refine bM ?_
 rw [← h]
 exact bX (by kernel_rfl) w
theorem guard_eq {T:TypeId} {xs ys:Array Value} {x y:Operand} (h:Tryz.prog.eqGuardType Tryz.prog.depth T=false) (w:World):(eqGuard .eql T x y (.agg xs) (.agg ys)).run Tryz.prog w = .ok () w:=by
 simp [eqGuard,Sem.run_bind,run_program,h]
theorem agg_eq {o:Oper} {ρ:Operand→Value} {w:World} {x y:Operand} {xs ys:Array Value} {T T' : TypeId} {r:Bool} (hg:Tryz.prog.eqGuardType Tryz.prog.depth T=false) (h:(Op.equal T (.agg xs) (.agg ys)).run Tryz.prog w = .ok r w) (ho:o.op = .binOp .eql T x y T') (hx:ρ x = .agg xs) (hy:ρ y = .agg ys) :
 (execOp ρ o).run Tryz.prog w = .ok (.value (.bool r)) w:=by
 simp only [execOp,ho,hx,hy]
 refine bM ?_
 simp only [Sem.run_bind,guard_eq hg,Result.andThen_ok]
 show (do pure (Value.bool (← Op.equal T (.agg xs) (.agg ys))):Sem Value).run Tryz.prog w=_
 rw [Sem.run_bind,h]
 rfl
theorem equalZ (a b c x y z:Int) (w:World):(Op.equal 40 (.agg #[.int .i64 a,.int .i64 b,.int .i64 c]) (.agg #[.int .i64 x,.int .i64 y,.int .i64 z])).run Tryz.prog w = .ok (a==x&&b==y&&c==z) w :=
 equal3 9999 (e:=3) (by kernel_rfl) (by kernel_rfl) (fun w=>by kernel_rfl) (fun w=>by kernel_rfl) (fun w=>run_equalIn_int w _ _ _ .i64 _ _ (by kernel_rfl)) (fun w=>run_equalIn_int w _ _ _ .i64 _ _ (by kernel_rfl)) (fun w=>run_equalIn_int w _ _ _ .i64 _ _ (by kernel_rfl)) w
abbrev i3 (a b c:Int):AV Kn := .fv (.ag [eC a,eC b,eC c])
theorem i3_is {a b c:Int} {β:List Nat} {v:Value} {w:World} (h:(i3 a b c).holds β v w):v = .agg #[.int .i64 a,.int .i64 b,.int .i64 c]:=by
 obtain ⟨cs,rfl,x1,r1,rfl,h1,x2,r2,rfl,h2,x3,r3,rfl,h3,e⟩:=h
 rw [show r3 = [] from e,show x1=_ from h1,show x2=_ from h2,show x3=_ from h3]
 rfl
theorem l3_is {a b c:Value} {β:List Nat} {v:Value} {w:World} (h:(.fv (.ag [.lit a,.lit b,.lit c]):AV Kn).holds β v w):v = .agg #[a,b,c]:=by
 obtain ⟨cs,rfl,x1,r1,rfl,h1,x2,r2,rfl,h2,x3,r3,rfl,h3,e⟩:=h
 rw [show r3 = [] from e,h1.1,h2.1,h3.1]
 rfl
section
variable {f:FuncId} {w00:World} {Out:Value→World→Prop} {c:Cfg Kn}
theorem klt (x y:Operand) (a b:Int) (r:Bool) (Y:AV Kn) (hY:∀ β v w,Y.holds β v w→v = .int .i64 b) (h:decide (a<b)=r) (hg:Ok Tryz.prog f w00 Out (bJ Tryz.prog 1000 (c.give (bl r))))
 (hc:(c.op.map fun o=>o.op,c.okT (bl r),c.ev x,c.ev y)=(some (.binOp .lss 3 x y 3),true,.fv (.sc (eC a)),Y):=by kernel_rfl):Ok Tryz.prog f w00 Out c :=
 qY (.binOp .lss 3 x y 3) x y _ _ (bl r) hc (by simp [Op.operands]) (by simp [Op.operands]) (fun ρ o β w ho hx hy=>⟨_,iss_run ho (aJ hx) (hY _ _ _ hy) h,aV rfl⟩) hg
theorem kgg (x y:Operand) (a b:Int) (r:Bool) (Y:AV Kn) (hY:∀ β v w,Y.holds β v w→v = .int .i64 b) (h:decide (b<a)=r) (hg:Ok Tryz.prog f w00 Out (bJ Tryz.prog 1000 (c.give (bl r))))
 (hc:(c.op.map fun o=>o.op,c.okT (bl r),c.ev x,c.ev y)=(some (.binOp .gtr 3 x y 3),true,.fv (.sc (eC a)),Y):=by kernel_rfl):Ok Tryz.prog f w00 Out c :=
 qY (.binOp .gtr 3 x y 3) x y _ _ (bl r) hc (by simp [Op.operands]) (by simp [Op.operands]) (fun ρ o β w ho hx hy=>⟨_,xR ho (aJ hx) (hY _ _ _ hy) h,aV rfl⟩) hg
theorem fM {b:Int} (β:List Nat) (v:Value) (w:World) (h:(it b).holds β v w):v = .int .i64 b:=aK h
theorem oV {b:Int} (β:List Nat) (v:Value) (w:World) (h:(.fv (.sc (eC b)):AV Kn).holds β v w):v = .int .i64 b:=aJ h
theorem kz3 (x y:Operand) (a b d:Int) (r:Bool) (h:(a==0&&b==0&&d==0)=r) (hg:Ok Tryz.prog f w00 Out (bJ Tryz.prog 1000 (c.give (bl r))))
 (hc:(c.op.map fun o=>o.op,c.okT (bl r),c.ev x,c.ev y)=(some (.binOp .eql 40 x y 40),true,i3 a b d,iv 0 0 0):=by kernel_rfl):Ok Tryz.prog f w00 Out c :=
 qY (.binOp .eql 40 x y 40) x y _ _ (bl r) hc (by simp [Op.operands]) (by simp [Op.operands]) (fun ρ o β w ho hx hy=>⟨_,agg_eq (by kernel_rfl) (h▸equalZ a b d 0 0 0 w) ho (i3_is hx) (l3_is hy),aV rfl⟩) hg
theorem kneg (t:Tmp) (a:Int) (ha:vW a) (ha2:vW (-a)) (hg:Ok Tryz.prog f w00 Out (bJ Tryz.prog 1000 (c.give (.fv (.sc (eC (-a)))))))
 (hc:(c.op.map fun o=>o.op,c.okT (.fv (.sc (eC (-a)))),c.ev (.tmp t),c.ev (.tmp t))=(some (.unOp .neg 3 (.tmp t)),true,.fv (.sc (eC a)),.fv (.sc (eC a))):=by kernel_rfl):Ok Tryz.prog f w00 Out c :=
 qY (.unOp .neg 3 (.tmp t)) (.tmp t) (.tmp t) _ _ (.fv (.sc (eC (-a)))) hc (by simp [Op.operands]) (by simp [Op.operands]) (fun ρ o β w ho hx hy=>⟨_,by
  simp only [execOp,ho,aJ hx]
  refine bM ?_
  have e:IntKind.i64.wrap (-a) = -a:=by rw [IntWalk.i64_left,IntWalk.wrap64_in _ ⟨by have:=ha2.1;omega,by have:=ha2.2;omega⟩]
  simp [go_sem,e],aQ⟩) hg
theorem kabs (t u:Tmp) (a:Int) (hg:Ok Tryz.prog f w00 Out (bJ Tryz.prog 1000 (c.give (.fv (.sc (eC (a.natAbs:Int)))))))
 (hc:(c.op.map fun o=>o.op,c.okT (.fv (.sc (eC (a.natAbs:Int)))),c.ev (.tmp t),c.ev (.tmp u))=(some (.call ⟨.builtin .max,#[.tmp t,.tmp u],#[3,3]⟩),true,.fv (.sc (eC a)),.fv (.sc (eC (-a)))):=by kernel_rfl):Ok Tryz.prog f w00 Out c :=
 qY (.call ⟨.builtin .max,#[.tmp t,.tmp u],#[3,3]⟩) (.tmp t) (.tmp u) _ _ (.fv (.sc (eC (a.natAbs:Int)))) hc (by simp [Op.operands,Call.operands]) (by simp [Op.operands,Call.operands]) (fun ρ o β w ho hx hy=>⟨_,by
  have e:max a (-a)=(a.natAbs:Int):=by rw [Int.max_def];split <;> omega
  rw [← e]
  simp only [execOp,ho]
  refine bM ?_
  simp [go_sem,aJ hx,aJ hy],aQ⟩) hg
theorem kcvu (t:Tmp) (a:Nat) (ha:a<9223372036854775808) (hg:Ok Tryz.prog f w00 Out (bJ Tryz.prog 1000 (c.give (.fv (.sc (.lit (.int .u64 (a:Int))))))))
 (hc:(c.op.map fun o=>o.op,c.okT (.fv (.sc (.lit (.int .u64 (a:Int))))),c.ev (.tmp t),c.ev (.tmp t))=(some (.convert 3 145 (.tmp t)),true,.fv (.sc (eC (a:Int))),.fv (.sc (eC (a:Int)))):=by kernel_rfl):Ok Tryz.prog f w00 Out c :=
 qY (.convert 3 145 (.tmp t)) (.tmp t) (.tmp t) _ _ (.fv (.sc (.lit (.int .u64 (a:Int))))) hc (by simp [Op.operands]) (by simp [Op.operands]) (fun ρ o β w ho hx hy=>⟨_,by
  simp only [execOp,ho,aJ hx]
  refine bM ?_
  have e:IntKind.u64.wrap (a:Int)=a:=by simp [IntKind.wrap,IntKind.bits,IntKind.signed];omega
  simp [go_sem,e],aV rfl⟩) hg
end
abbrev hA (a b c:Int) (s:ByteArray):AV Kn := .fv (.ag [eC a,eC b,eC c,eJ s])
abbrev hL (a b c:Int) (s:ByteArray):AV Kn := .fv (.ag [.lit (.int .i64 a),.lit (.int .i64 b),.lit (.int .i64 c),eJ s])
theorem iv_i3 {a b c:Int} (β:List Nat) (v:Value) (w:World) (h:(iv a b c).holds β v w):(i3 a b c).holds β v w:=by
 obtain ⟨cs,e,x1,r1,e1,h1,x2,r2,e2,h2,x3,r3,e3,h3,hr⟩:=h
 exact ⟨cs,e,x1,r1,e1,h1.1,x2,r2,e2,h2.1,x3,r3,e3,h3.1,hr⟩
abbrev Bg (z:Int):Prop:=z < -999999999∨999999999<z
section
variable {a b c:Int} {s:ByteArray}
theorem checkNormalF (h0:¬ (a=0∧b=0∧c=0)) (ha:¬ Bg a) (hb:¬ Bg b) (hc:¬ Bg c) (hg:Int.gcd (Int.gcd a b:Int) c=1):jF 130 [iv a b c] (it 0):=by
 have w:∀ {x:Int},¬ Bg x→x.natAbs<aD:=fun h=>by unfold Bg at h;rw [aM];omega
 have g1:=dW (a:=0) (b:=a.natAbs) (by rw [aM];omega) (w ha)
 have l1:Nat.gcd 0 a.natAbs<aD:=by rw [Nat.gcd_zero_left];exact w ha
 have g2:=dW l1 (w hb)
 have l2:Nat.gcd (Nat.gcd 0 a.natAbs) b.natAbs<aD:=by
  rw [Nat.gcd_zero_left]
  by_cases e:a=0
  ·rw [e];simpa using w hb
  ·exact Nat.lt_of_le_of_lt (Nat.gcd_le_left _ (by omega)) (w ha)
 have g3:=dW l2 (w hc)
 have e3:Nat.gcd (Nat.gcd (Nat.gcd 0 a.natAbs) b.natAbs) c.natAbs=1:=by
  rw [Nat.gcd_zero_left]
  exact hg
 rw [e3] at g3
 generalize Nat.gcd (Nat.gcd 0 a.natAbs) b.natAbs=x2 at *
 generalize Nat.gcd 0 a.natAbs=x1 at *
 unfold Bg at ha hb hc
 refine Fits.args (l := [i3 a b c]) ?_ fun β vs w ⟨v,r,e,h,hr⟩=>⟨v,r,e,iv_i3 β v w h,hr⟩
 refine jG Tryz.func130 fun w00=>?_
 refine kz3 (.tmp 6) (.tmp 7) a b c false (by rw [Bool.eq_false_iff];simp;omega) ?_
 refine klt (.tmp 13) (.const (.int .i64 (-999999999))) a (-999999999) false _ fM (by rw [decide_eq_false_iff_not];omega) ?_
 refine kgg (.tmp 16) (.const (.int .i64 999999999)) a 999999999 false _ fM (by rw [decide_eq_false_iff_not];omega) ?_
 refine kneg 21 a (by constructor <;> omega) (by constructor <;> omega) ?_
 refine kabs 20 22 a ?_
 refine kcvu 23 a.natAbs (by omega) ?_
 refine jC 149 [.fv (.sc (.lit (.int .u64 ((0:Nat):Int)))),.fv (.sc (.lit (.int .u64 (a.natAbs:Int))))] (g1) ?_
 refine klt (.tmp 13) (.const (.int .i64 (-999999999))) b (-999999999) false _ fM (by rw [decide_eq_false_iff_not];omega) ?_
 refine kgg (.tmp 16) (.const (.int .i64 999999999)) b 999999999 false _ fM (by rw [decide_eq_false_iff_not];omega) ?_
 refine kneg 21 b (by constructor <;> omega) (by constructor <;> omega) ?_
 refine kabs 20 22 b ?_
 refine kcvu 23 b.natAbs (by omega) ?_
 refine jC 149 [.fv (.sc (.lit (.int .u64 (x1:Int)))),.fv (.sc (.lit (.int .u64 (b.natAbs:Int))))] (g2) ?_
 refine klt (.tmp 13) (.const (.int .i64 (-999999999))) c (-999999999) false _ fM (by rw [decide_eq_false_iff_not];omega) ?_
 refine kgg (.tmp 16) (.const (.int .i64 999999999)) c 999999999 false _ fM (by rw [decide_eq_false_iff_not];omega) ?_
 refine kneg 21 c (by constructor <;> omega) (by constructor <;> omega) ?_
 refine kabs 20 22 c ?_
 refine kcvu 23 c.natAbs (by omega) ?_
 refine jC 149 [.fv (.sc (.lit (.int .u64 (x2:Int)))),.fv (.sc (.lit (.int .u64 (c.natAbs:Int))))] (g3) ?_
 exact jR Tryz.func130
end
section
variable {a b c:Int} {s:ByteArray}
abbrev In (k x:Int):Prop := -k≤x∧x≤k
end
theorem bq_int {z:Int} {k:Nat} (h:z.natAbs<10^k) (hk:0<k):Bq k (z:Rat):=by
 refine ⟨by rw [Rat.num_intCast];exact h,?_⟩
 rw [Rat.den_intCast]
 have:=Nat.pow_le_pow_right (n:=10) (by omega) hk
 omega
section
variable {a1 a2 a3 b1 b2 b3 c1 c2 c3 m1 m2 m3:Rat} {z1 z2 z3:Int}
structure Thr (a1 a2 a3 b1 b2 b3 c1 c2 c3:Rat) (z1 z2 z3:Int) (e:Rat):Prop where
 e1:fP ((b2-a2)*(c3-a3)-(b3-a3)*(c2-a2)) ((b3-a3)*(c1-a1)-(b1-a1)*(c3-a3)) ((b1-a1)*(c2-a2)-(b2-a2)*(c1-a1))*((b2-a2)*(c3-a3)-(b3-a3)*(c2-a2))=z1
 e2:fP ((b2-a2)*(c3-a3)-(b3-a3)*(c2-a2)) ((b3-a3)*(c1-a1)-(b1-a1)*(c3-a3)) ((b1-a1)*(c2-a2)-(b2-a2)*(c1-a1))*((b3-a3)*(c1-a1)-(b1-a1)*(c3-a3))=z2
 e3:fP ((b2-a2)*(c3-a3)-(b3-a3)*(c2-a2)) ((b3-a3)*(c1-a1)-(b1-a1)*(c3-a3)) ((b1-a1)*(c2-a2)-(b2-a2)*(c1-a1))*((b1-a1)*(c2-a2)-(b2-a2)*(c1-a1))=z3
 ed:e=dt z1 z2 z3 a1 a2 a3
 h0:¬ (z1=0∧z2=0∧z3=0)
 s1:Sz z1
 s2:Sz z2
 s3:Sz z3
 g:Int.gcd (Int.gcd z1 z2:Int) z3=1
 b:Bq 300 e
 w:jX 17 [vS a1 a2 a3,vS b1 b2 b3,vS c1 c2 c3] (rM z1 z2 z3 e)
end
end Ab
namespace Ab
open Go.RowKit
section
variable {Kc:Value→Bool} {P:Program} {f:FuncId} {w00:World} {Out:Value→World→Prop}
theorem put_put (a:Act) (d:Tmp) (u v:Value):(a.put (some d) u).put (some d) v=a.put (some d) v:=by
 simp [Act.put]
end
end Ab
namespace Ab
open Go.RowKit Pl
abbrev Tx:=Nat→ByteArray
abbrev m3:ByteArray:=⟨#[45,51]⟩
theorem hv_of {z1 z2 z3:Int} {d:Rat} (h0:¬ (z1=0∧z2=0∧z3=0)) (h1:¬ Bg z1) (h2:¬ Bg z2) (h3:¬ Bg z3) (hg:Int.gcd (Int.gcd z1 z2:Int) z3=1) (hd:Wr d):Hv z1 z2 z3 d :=
 ⟨by unfold Bg at h1;omega,by unfold Bg at h2;omega,by unfold Bg at h3;omega,hd,checkNormalF h0 h1 h2 h3 hg⟩
structure On (x1 x2 x3 y1 y2 y3 z1 z2 z3:Rat):Prop where
 xx:dt x1 x2 x3 x1 x2 x3=1
 yy:dt y1 y2 y3 y1 y2 y3=1
 zz:dt z1 z2 z3 z1 z2 z3=1
 xy:dt x1 x2 x3 y1 y2 y3=0
 yz:dt y1 y2 y3 z1 z2 z3=0
 zx:dt z1 z2 z3 x1 x2 x3=0
 c1:y2*z3-y3*z2=x1
 c2:y3*z1-y1*z3=x2
 c3:y1*z2-y2*z1=x3
structure Rt (x1 x2 x3 y1 y2 y3 z1 z2 z3:Rat):Prop extends On x1 x2 x3 y1 y2 y3 z1 z2 z3 where
 d1:z2*x3-z3*x2=y1
 d2:z3*x1-z1*x3=y2
 d3:z1*x2-z2*x1=y3
 f1:x2*y3-x3*y2=z1
 f2:x3*y1-x1*y3=z2
 f3:x1*y2-x2*y1=z3
section
variable {x1 x2 x3 y1 y2 y3 z1 z2 z3 u1 u2 u3 v1 v2 v3 w1 w2 w3:Rat}
theorem Rt.dot (h:Rt x1 x2 x3 y1 y2 y3 z1 z2 z3):dt (ld u1 u2 u3 x1 y1 z1) (ld u1 u2 u3 x2 y2 z2) (ld u1 u2 u3 x3 y3 z3) (ld v1 v2 v3 x1 y1 z1) (ld v1 v2 v3 x2 y2 z2) (ld v1 v2 v3 x3 y3 z3)=dt u1 u2 u3 v1 v2 v3:=by
 have e:dt (ld u1 u2 u3 x1 y1 z1) (ld u1 u2 u3 x2 y2 z2) (ld u1 u2 u3 x3 y3 z3) (ld v1 v2 v3 x1 y1 z1) (ld v1 v2 v3 x2 y2 z2) (ld v1 v2 v3 x3 y3 z3) =
  u1*v1*dt x1 x2 x3 x1 x2 x3+u2*v2*dt y1 y2 y3 y1 y2 y3+u3*v3*dt z1 z2 z3 z1 z2 z3+(u1*v2+u2*v1)*dt x1 x2 x3 y1 y2 y3+(u2*v3+u3*v2)*dt y1 y2 y3 z1 z2 z3+(u3*v1+u1*v3)*dt z1 z2 z3 x1 x2 x3:=by clear h;unfold dt ld;grind
 rw [e,h.xx,h.yy,h.zz,h.xy,h.yz,h.zx]
 unfold dt
 grind
theorem yJ (a2 a3 b2 b3 c2 c3:Rat):ld u1 u2 u3 a2 b2 c2*ld v1 v2 v3 a3 b3 c3-ld u1 u2 u3 a3 b3 c3*ld v1 v2 v3 a2 b2 c2=ld (u2*v3-u3*v2) (u3*v1-u1*v3) (u1*v2-u2*v1) (b2*c3-b3*c2) (c2*a3-c3*a2) (a2*b3-a3*b2):=by
 unfold ld
 grind
theorem On.mul (h:Rt x1 x2 x3 y1 y2 y3 z1 z2 z3) (k:On u1 u2 u3 v1 v2 v3 w1 w2 w3):On (ld u1 u2 u3 x1 y1 z1) (ld u1 u2 u3 x2 y2 z2) (ld u1 u2 u3 x3 y3 z3) (ld v1 v2 v3 x1 y1 z1) (ld v1 v2 v3 x2 y2 z2) (ld v1 v2 v3 x3 y3 z3) (ld w1 w2 w3 x1 y1 z1) (ld w1 w2 w3 x2 y2 z2) (ld w1 w2 w3 x3 y3 z3) :=
 ⟨h.dot.trans k.xx,h.dot.trans k.yy,h.dot.trans k.zz,h.dot.trans k.xy,h.dot.trans k.yz,h.dot.trans k.zx,
  by rw [yJ,k.c1,k.c2,k.c3,h.c1,h.d1,h.f1],by rw [yJ,k.c1,k.c2,k.c3,h.c2,h.d2,h.f2],by rw [yJ,k.c1,k.c2,k.c3,h.c3,h.d3,h.f3]⟩
theorem On.sgn (h:On x1 x2 x3 y1 y2 y3 z1 z2 z3):dt x1 x2 x3 (y2*z3-y3*z2) (y3*z1-y1*z3) (y1*z2-y2*z1)=1:=by
 rw [h.c1,h.c2,h.c3];exact h.xx
end
structure Bn (k:Nat) (x1 x2 x3 y1 y2 y3 z1 z2 z3:Rat):Prop where
 x1:Bq k x1
 x2:Bq k x2
 x3:Bq k x3
 y1:Bq k y1
 y2:Bq k y2
 y3:Bq k y3
 z1:Bq k z1
 z2:Bq k z2
 z3:Bq k z3
section
variable {x1 x2 x3 y1 y2 y3 z1 z2 z3 u1 u2 u3 v1 v2 v3 w1 w2 w3 p1 p2 p3 m1 m2 m3:Rat} {k:Nat}
theorem Bn.wf (h:Bn k x1 x2 x3 y1 y2 y3 z1 z2 z3) (hk:k≤600):Wf ((0:Int):Rat) ((0:Int):Rat) ((0:Int):Rat) x1 x2 x3 y1 y2 y3 z1 z2 z3 :=
 have b0:Wr ((0:Int):Rat):=(bq_int (k:=1) (by decide) (by omega)).wr (by omega)
 ⟨⟨b0,b0,b0⟩,⟨h.x1.wr hk,h.x2.wr hk,h.x3.wr hk⟩,⟨h.y1.wr hk,h.y2.wr hk,h.y3.wr hk⟩,⟨h.z1.wr hk,h.z2.wr hk,h.z3.wr hk⟩⟩
theorem zero_no {a b c:Rat} (h:dt a b c a b c=1) (h1:a=0) (h2:b=0) (h3:c=0):False:=by
 have e:dt a b c a b c=0:=by rw [h1,h2,h3];unfold dt;grind
 rw [e] at h
 exact absurd h (by decide)
theorem one_ne {a b c:Rat} (h:dt a b c a b c=1):(decide (a=0)&&decide (b=0)&&decide (c=0))=false:=dec_and fun ⟨h1,h2,h3⟩=>zero_no h h1 h2 h3
theorem On.fv (h:On x1 x2 x3 y1 y2 y3 z1 z2 z3) (b:Bn k x1 x2 x3 y1 y2 y3 z1 z2 z3) (hk:k≤600):Fv ((0:Int):Rat) ((0:Int):Rat) ((0:Int):Rat) x1 x2 x3 y1 y2 y3 z1 z2 z3 :=
 Fr.fv_of (b.wf hk) ⟨one_ne h.xx,one_ne h.yy,one_ne h.zz,h.xy,h.yz,h.zx,by rw [h.sgn];rfl⟩
end
theorem gcd_neg3 (z1 z2 z3:Int):Int.gcd (Int.gcd (-z1) (-z2):Int) (-z3)=Int.gcd (Int.gcd z1 z2:Int) z3:=by
 rw [Int.neg_gcd,Int.gcd_neg,Int.gcd_neg]
section
variable {a1 a2 a3 b1 b2 b3 c1 c2 c3 d1 d2 d3:Rat} {z1 z2 z3 i1 i2 i3 j1 j2 j3:Int} {e u v:Rat}
theorem Thr.hv (h:Thr a1 a2 a3 b1 b2 b3 c1 c2 c3 z1 z2 z3 e):Hv z1 z2 z3 e:=by
 have h1:=h.s1
 have h2:=h.s2
 have h3:=h.s3
 exact hv_of h.h0 (by unfold Bg;omega) (by unfold Bg;omega) (by unfold Bg;omega) h.g (h.b.wr (by omega))
theorem Thr.op (h:Thr a1 a2 a3 b1 b2 b3 c1 c2 c3 z1 z2 z3 e):Hv (-z1) (-z2) (-z3) (-e):=by
 have h1:=h.s1
 have h2:=h.s2
 have h3:=h.s3
 exact hv_of (fun ⟨a,b,c⟩=>h.h0 ⟨by omega,by omega,by omega⟩) (by unfold Bg;omega) (by unfold Bg;omega) (by unfold Bg;omega) (by rw [gcd_neg3];exact h.g) (h.b.neg.wr (by omega))
end
abbrev one:ByteArray:=⟨#[49]⟩
abbrev nul:ByteArray:=⟨#[48]⟩
abbrev Bz (z:Int):Prop:=z=1∨z=3∨z=4∨z=6∨z=7
theorem numberBad {z:Int} (hz:Bz z):jF 12 [lt ⟨#[]⟩,it z,it z,lt ⟨#[]⟩] (bl true):=by
 rcases hz with rfl|rfl|rfl|rfl|rfl <;> (refine jG Tryz.func12 fun w00=>?_;exact kret Tryz.func12 (by kernel_rfl))
theorem numberOk {q:Rat} (h:Wr q):jF 12 [tx (writeB q),it 0,it 0,tx (writeB q)] (bl true):=by
 have hl:=refLargeF h
 generalize writeB q=s at *
 refine jG Tryz.func12 fun w00=>?_
 refine jC 47 [tx s] (hl) ?_
 refine jK (.binOp .eql 26 (.tmp 25) (.tmp 26) 26) (.tmp 25) (.tmp 26) (tx s) (tx s) (bl true) (fun ρ o β w ho hx hy=>⟨_,lK ho (aJ hx) (aJ hy) (beq_self_eq_true _),aV rfl⟩) ?_
 exact jR Tryz.func12
abbrev lo (n:Int) (s:ByteArray):Bool:=decide (n<(s.size:Nat))
section
variable {a b c d x y u:ByteArray} {n:Int} {T:TypeId} {r:Bool}
abbrev Sl (s:ByteArray):Prop:=s.size≤40
abbrev Sl3 (a b c:ByteArray):Prop:=Sl a∧Sl b∧Sl c
theorem Sl.rb {s:ByteArray} (h:Sl s):Rb s:=by have h:s.size≤40:=h;show s.size<_;omega
theorem Sl3.rb (h:Sl3 a b c):Rb3 a b c:=⟨Sl.rb h.1,Sl.rb h.2.1,Sl.rb h.2.2⟩
end
section
variable {n1 n2 n3:Int} {d p1 p2 p3 v1 v2 v3 e:Rat} {k:Nat}
structure Qh (n1 n2 n3:Int) (d p1 p2 p3:Rat):Prop where
 m1:vW n1
 m2:vW n2
 m3:vW n3
 q1:Bq 10 (n1:Rat)
 q2:Bq 10 (n2:Rat)
 q3:Bq 10 (n3:Rat)
 d:Bq 30 d
 p1:Bq 30 p1
 p2:Bq 30 p2
 p3:Bq 30 p3
abbrev exR (n1 n2 n3:Int) (d p1 p2 p3:Rat):Rat:=dt (n1:Rat) n2 n3 p1 p2 p3-d
abbrev nnR (n1 n2 n3:Int):Rat:=dt (n1:Rat) n2 n3 n1 n2 n3
theorem Qh.ex (h:Qh n1 n2 n3 d p1 p2 p3):Bq 153 (exR n1 n2 n3 d p1 p2 p3):=(Bq.dt h.q1 h.q2 h.q3 h.p1 h.p2 h.p3 (n:=122) (by omega)).sub h.d
theorem Qh.nn (h:Qh n1 n2 n3 d p1 p2 p3):Bq 62 (nnR n1 n2 n3):=Bq.dt h.q1 h.q2 h.q3 h.q1 h.q2 h.q3 (by omega)
abbrev ft (n1 n2 n3:Int) (d p1 p2 p3:Rat) (p:Rat) (n:Int):Rat:=p-exR n1 n2 n3 d p1 p2 p3/nnR n1 n2 n3*n
theorem Qh.way (h:Qh n1 n2 n3 d p1 p2 p3):Bq 215 (exR n1 n2 n3 d p1 p2 p3/nnR n1 n2 n3):=h.ex.div h.nn
theorem Qh.f1 (h:Qh n1 n2 n3 d p1 p2 p3):Bq 256 (ft n1 n2 n3 d p1 p2 p3 p1 n1):=h.p1.sub (h.way.mul h.q1)
theorem Qh.f2 (h:Qh n1 n2 n3 d p1 p2 p3):Bq 256 (ft n1 n2 n3 d p1 p2 p3 p2 n2):=h.p2.sub (h.way.mul h.q2)
theorem Qh.f3 (h:Qh n1 n2 n3 d p1 p2 p3):Bq 256 (ft n1 n2 n3 d p1 p2 p3 p3 n3):=h.p3.sub (h.way.mul h.q3)
end
section
variable {f:FuncId} {w00:World} {Out:Value→World→Prop} {c:Cfg Kn}
theorem keqG (x y:Operand) (a b:Int) (r:Bool) (X Y:AV Kn) (hX:∀ β v w,X.holds β v w→v = .int .i64 a) (hY:∀ β v w,Y.holds β v w→v = .int .i64 b) (h:(a==b)=r) (hg:Ok Tryz.prog f w00 Out (bJ Tryz.prog 1000 (c.give (bl r))))
 (hc:(c.op.map fun o=>o.op,c.okT (bl r),c.ev x,c.ev y)=(some (.binOp .eql 3 x y 3),true,X,Y):=by kernel_rfl):Ok Tryz.prog f w00 Out c :=
 qY (.binOp .eql 3 x y 3) x y _ _ (bl r) hc (by simp [Op.operands]) (by simp [Op.operands]) (fun ρ o β w ho hx hy=>⟨_,fL ho (hX _ _ _ hx) (hY _ _ _ hy) h,aV rfl⟩) hg
theorem kneG (x y:Operand) (a b:Int) (r:Bool) (X Y:AV Kn) (hX:∀ β v w,X.holds β v w→v = .int .i64 a) (hY:∀ β v w,Y.holds β v w→v = .int .i64 b) (h:(!(a==b))=r) (hg:Ok Tryz.prog f w00 Out (bJ Tryz.prog 1000 (c.give (bl r))))
 (hc:(c.op.map fun o=>o.op,c.okT (bl r),c.ev x,c.ev y)=(some (.binOp .neq 3 x y 3),true,X,Y):=by kernel_rfl):Ok Tryz.prog f w00 Out c :=
 qY (.binOp .neq 3 x y 3) x y _ _ (bl r) hc (by simp [Op.operands]) (by simp [Op.operands]) (fun ρ o β w ho hx hy=>⟨_,jne_run ho (hX _ _ _ hx) (hY _ _ _ hy) h,aV rfl⟩) hg
end
section
variable {q n1 n2 n3 d e F:Rat} {z1 z2 z3:Int}
theorem writeLargeF (hq:Lf 20 q) (hs:(decB q.num.natAbs).size≤1000000000) (h:¬ Wr q):jX 38 [num q] (noS 4):=by
 by_cases hn:(decB q.num.natAbs).size≤600
 ·have h1:decide ((600:Int)<((decB q.num.natAbs).size:Int))=false:=by rw [decide_eq_false_iff_not];omega
  have h2:decide ((600:Int)<((decB q.den).size:Int))=true:=by
   rw [decide_eq_true_eq]
   have:¬ (decB q.den).size≤600:=fun hd=>h ⟨hn,hd⟩
   omega
  refine jY Tryz.func38 fun w00 hI=>?_
  refine jW hI 109 [num q] (xQ hq hs) ?_
  refine jC 110 [tx (overB q),lt ⟨#[45]⟩] (trimF tY) ?_
  refine jO 12 (decB q.num.natAbs) ?_
  refine jM 13 (decB q.num.natAbs).size 600 false h1 ?_
  refine jO 16 (decB q.den) ?_
  refine jM 17 (decB q.den).size 600 true h2 ?_
  exact jR Tryz.func38
 ·have h1:decide ((600:Int)<((decB q.num.natAbs).size:Int))=true:=by rw [decide_eq_true_eq];omega
  refine jY Tryz.func38 fun w00 hI=>?_
  refine jW hI 109 [num q] (xQ hq hs) ?_
  refine jC 110 [tx (overB q),lt ⟨#[45]⟩] (trimF tY) ?_
  refine jO 12 (decB q.num.natAbs) ?_
  refine jM 13 (decB q.num.natAbs).size 600 true h1 ?_
  exact jR Tryz.func38
theorem refLargeBig (hz:Zs 10000 q) (h:¬ Wr q):jF 47 [tx (writeB q)] (it 4):=by
 have hl:=tA q.num
 have hs:(writeB q).size≤1000000000:=by have:=zs_len hz;omega
 have ht:(aS q.num).size≤1000000000:=by have:=(zs_size hz (aR _)).1;omega
 by_cases hn:(decB q.num.natAbs).size≤600
 ·have hd:¬ (decB q.den).size≤600:=fun hd=>h ⟨hn,hd⟩
  refine jG Tryz.func47 fun w00=>?_
  refine jC 120 [tx (writeB q)] (kn_o (numF hs)) ?_
  refine jC 119 [tx (aS q.num)] (kn_o (absTF ht)) ?_
  refine jP 5 26 Tryz.underlying26 (decB q.num.natAbs) ?_
  refine jM 6 (decB q.num.natAbs).size 600 false (by rw [decide_eq_false_iff_not];omega) ?_
  refine jC 121 [tx (writeB q)] (kn_o (denOfF hs)) ?_
  refine jP 10 26 Tryz.underlying26 (decB q.den) ?_
  refine jM 11 (decB q.den).size 600 true (by rw [decide_eq_true_eq];omega) ?_
  exact jR Tryz.func47
 ·refine jG Tryz.func47 fun w00=>?_
  refine jC 120 [tx (writeB q)] (kn_o (numF hs)) ?_
  refine jC 119 [tx (aS q.num)] (kn_o (absTF ht)) ?_
  refine jP 5 26 Tryz.underlying26 (decB q.num.natAbs) ?_
  refine jM 6 (decB q.num.natAbs).size 600 true (by rw [decide_eq_true_eq];omega) ?_
  exact jR Tryz.func47
end
theorem repeatAll {c:Nat} {z:ByteArray} (hc:c≤100000) (hz:(⟨(Lib.repeatL [48] c).toArray⟩:ByteArray)=z):jF 97 [lt ⟨#[48]⟩,.fv (.sc (eC c))] (tx z):=by
 intro β w vs hv
 obtain ⟨v,u,rfl,h1,h3⟩:=dQ hv
 rw [aK h1,aJ h3]
 have hsz:(⟨#[48]⟩:ByteArray).size=1:=rfl
 refine (Tryz.strings_Repeat ⟨#[48]⟩ c w (by omega) (by rw [hsz];omega)).mono fun e w' ⟨e1,e2⟩=>⟨_,e1,e2,?_⟩
 rw [show (⟨#[48]⟩:ByteArray).data.toList = [48] from rfl,hz]
 exact aQ
theorem trimZF {s z:ByteArray} (hs:s.size≤1000000000) (hz:(⟨(Lib.trimB s.data.toList 48).toArray⟩:ByteArray)=z):jF 98 [tx s,lt ⟨#[48]⟩] (tx z):=by
 intro β w vs hv
 obtain ⟨v,u,rfl,h1,h3⟩:=dQ hv
 rw [aJ h1,aK h3]
 refine (Tryz.strings_Trim_one s 48 (by decide) w (by omega)).mono fun e w' ⟨e1,e2⟩=>⟨_,e1,?_,?_⟩
 ·rcases e2 with e2|e2 <;> rw [e2]
  ·exact aB _ _
  ·exact (aB _ _).drew
 ·rw [hz]
  exact aQ
abbrev noP (z:Int):AV Kn := .tup [.sc (.lit (.string ⟨#[]⟩)),.sc (.lit (.string ⟨#[]⟩)),.sc (lz z)]
section
variable {s a b z:ByteArray} {k:Nat}
theorem partsWhole (hs:s.size≤10000) (hk:¬ bD s<s.size) (hd:(bK s&&decide (s.size≠0))=true):jF 34 [tx s] (.tup [.sc (eJ s),.sc (eJ ⟨#[49]⟩),.sc z0]):=by
 have hc:(s++⟨#[47,49]⟩:ByteArray)[s.size]?=some 47:=by
  have hlt:s.size<(s++⟨#[47,49]⟩:ByteArray).size:=by
   rw [ByteArray.size_append]
   have:(⟨#[47,49]⟩:ByteArray).size=2:=rfl
   omega
  rw [getElem?_pos (s++⟨#[47,49]⟩:ByteArray) s.size hlt]
  have e:=Lib.data_getElem? _ _ hlt
  rw [← e,show (s++⟨#[47,49]⟩:ByteArray).data.toList=s.data.toList ++ [47,49] by simp,List.getElem?_append_right (by rw [Lib.size_eq];exact aR _),← Lib.size_eq,Nat.sub_self]
  rfl
 have hi:Lib.indexAny s.data.toList [47,46] = -1:=by rw [gF,if_neg hk]
 have h2:(⟨#[47,49]⟩:ByteArray).size=2:=rfl
 obtain ⟨u,hu⟩:∃ u:ByteArray,s++⟨#[47,49]⟩=u:=⟨_,rfl⟩
 have husz:u.size=s.size+2:=by rw [← hu,ByteArray.size_append];rfl
 have ha:u.extract 0 s.size=s:=by rw [← hu];exact Ab.ba_ext (by simp;rw [Lib.size_eq,List.take_length])
 have hb:u.extract (s.size+1) u.size=⟨#[49]⟩:=by rw [husz,← hu];exact Ab.ba_ext (by simp)
 obtain ⟨k,hks⟩:∃ k:Nat,k=s.size:=⟨_,rfl⟩
 refine jG Tryz.func34 fun w00=>?_
 refine jC 95 [tx s,lt ⟨#[47,46]⟩] (fH (by omega) hi) ?_
 refine jK (.binOp .lss 3 (.tmp 10) (.const (.int .i64 0)) 3) (.tmp 10) (.const (.int .i64 0)) (.fv (.sc (eC (-1)))) (it 0) (bl true) (fun ρ o β w ho hx hy=>⟨_,kG ho (aJ hx) (aK hy) (by decide),aV rfl⟩) ?_
 refine jK (.binOp .add 9 (.tmp 12) (.const (.string ⟨#[47,49]⟩)) 9) (.tmp 12) (.const (.string ⟨#[47,49]⟩)) (tx s) (lt ⟨#[47,49]⟩) (tx u) (fun ρ o β w ho hx hy=>⟨_,by rw [← hu];exact dN ho (aJ hx) (aK hy) (by omega),aQ⟩) ?_
 refine jO 14 s ?_
 refine jK (.slice 9 (.tmp 16) none (some (.tmp 17)) none) (.tmp 16) (.tmp 17) (tx u) (.fv (.sc (eC s.size))) (tx s) (fun ρ o β w ho hx hy=>?_) ?_
 ·have:=fU (w:=w) ho Tryz.underlying9 (aJ hx) (aJ hy) (by omega)
  rw [ha] at this
  exact ⟨_,this,aQ⟩
 refine jK (.binOp .add 3 (.tmp 20) (.const (.int .i64 1)) 3) (.tmp 20) (.const (.int .i64 1)) (.fv (.sc (eC s.size))) (it 1) (.fv (.sc (eC ((s.size+1:Nat):Int)))) (fun ρ o β w ho hx hy=>⟨_,iC ho (aJ hx) (aK hy) (by omega),aQ⟩) ?_
 refine jK (.slice 9 (.tmp 19) (some (.tmp 21)) none none) (.tmp 19) (.tmp 21) (tx u) (.fv (.sc (eC ((s.size+1:Nat):Int)))) (tx ⟨#[49]⟩) (fun ρ o β w ho hx hy=>?_) ?_
 ·have:=fV (w:=w) ho Tryz.underlying9 (aJ hx) (aJ hy) (by omega)
  rw [hb] at this
  exact ⟨_,this,aQ⟩
 refine jC 96 [tx s] (cA hd) ?_
 refine jC 96 [tx ⟨#[49]⟩] (cA (b:=true) (by decide)) ?_
 refine jK (.index 9 (.tmp 33) (.tmp 34)) (.tmp 33) (.tmp 34) (tx u) (.fv (.sc (eC s.size))) (.fv (.sc (.lit (.int .u8 47)))) (fun ρ o β w ho hx hy=>⟨_,fA ho Tryz.underlying9 (aJ hx) (aJ hy) (by rw [← hu];exact hc),aV rfl⟩) ?_
 refine jC 98 [tx ⟨#[49]⟩,lt ⟨#[48]⟩] (trimZF (by decide) (z:=⟨#[49]⟩) (by decide)) ?_
 refine jK (.binOp .eql 9 (.tmp 46) (.const (.string ⟨#[]⟩)) 9) (.tmp 46) (.const (.string ⟨#[]⟩)) (tx ⟨#[49]⟩) (lt ⟨#[]⟩) (bl false) (fun ρ o β w ho hx hy=>⟨_,lK ho (aJ hx) (aK hy) (eH fun e=>absurd (congrArg ByteArray.size e) (by decide)),aV rfl⟩) ?_
 exact jR Tryz.func34
theorem zJ (hs:s.size≤10000) (hk:¬ bD s<s.size) (hd:(bK s&&decide (s.size≠0))=false):jF 34 [tx s] (noP 28):=by
 have hi:Lib.indexAny s.data.toList [47,46] = -1:=by rw [gF,if_neg hk]
 have h2:(⟨#[47,49]⟩:ByteArray).size=2:=rfl
 obtain ⟨u,hu⟩:∃ u:ByteArray,s++⟨#[47,49]⟩=u:=⟨_,rfl⟩
 have husz:u.size=s.size+2:=by rw [← hu,ByteArray.size_append];rfl
 have ha:u.extract 0 s.size=s:=by rw [← hu];exact Ab.ba_ext (by simp;rw [Lib.size_eq,List.take_length])
 have hb:u.extract (s.size+1) u.size=⟨#[49]⟩:=by rw [husz,← hu];exact Ab.ba_ext (by simp)
 obtain ⟨k,hks⟩:∃ k:Nat,k=s.size:=⟨_,rfl⟩
 refine jG Tryz.func34 fun w00=>?_
 refine jC 95 [tx s,lt ⟨#[47,46]⟩] (fH (by omega) hi) ?_
 refine jK (.binOp .lss 3 (.tmp 10) (.const (.int .i64 0)) 3) (.tmp 10) (.const (.int .i64 0)) (.fv (.sc (eC (-1)))) (it 0) (bl true) (fun ρ o β w ho hx hy=>⟨_,kG ho (aJ hx) (aK hy) (by decide),aV rfl⟩) ?_
 refine jK (.binOp .add 9 (.tmp 12) (.const (.string ⟨#[47,49]⟩)) 9) (.tmp 12) (.const (.string ⟨#[47,49]⟩)) (tx s) (lt ⟨#[47,49]⟩) (tx u) (fun ρ o β w ho hx hy=>⟨_,by rw [← hu];exact dN ho (aJ hx) (aK hy) (by omega),aQ⟩) ?_
 refine jO 14 s ?_
 refine jK (.slice 9 (.tmp 16) none (some (.tmp 17)) none) (.tmp 16) (.tmp 17) (tx u) (.fv (.sc (eC s.size))) (tx s) (fun ρ o β w ho hx hy=>?_) ?_
 ·have:=fU (w:=w) ho Tryz.underlying9 (aJ hx) (aJ hy) (by omega)
  rw [ha] at this
  exact ⟨_,this,aQ⟩
 refine jK (.binOp .add 3 (.tmp 20) (.const (.int .i64 1)) 3) (.tmp 20) (.const (.int .i64 1)) (.fv (.sc (eC s.size))) (it 1) (.fv (.sc (eC ((s.size+1:Nat):Int)))) (fun ρ o β w ho hx hy=>⟨_,iC ho (aJ hx) (aK hy) (by omega),aQ⟩) ?_
 refine jK (.slice 9 (.tmp 19) (some (.tmp 21)) none none) (.tmp 19) (.tmp 21) (tx u) (.fv (.sc (eC ((s.size+1:Nat):Int)))) (tx ⟨#[49]⟩) (fun ρ o β w ho hx hy=>?_) ?_
 ·have:=fV (w:=w) ho Tryz.underlying9 (aJ hx) (aJ hy) (by omega)
  rw [hb] at this
  exact ⟨_,this,aQ⟩
 refine jC 96 [tx s] (cA hd) ?_
 exact jR Tryz.func34
section
variable (hs:s.size≤10000) (hp:bD s=k) (hk:k<s.size) (ha:s.extract 0 k=a) (hb:s.extract (k+1) s.size=b)
include hs hp hk ha hb
theorem partsBadA (da:(bK a&&decide (a.size≠0))=false):jF 34 [tx s] (noP 28):=by
 have hi:Lib.indexAny s.data.toList [47,46]=(k:Int):=by rw [gF,hp,if_pos hk]
 refine jG Tryz.func34 fun w00=>?_
 refine jC 95 [tx s,lt ⟨#[47,46]⟩] (fH (by omega) hi) ?_
 refine jK (.binOp .lss 3 (.tmp 10) (.const (.int .i64 0)) 3) (.tmp 10) (.const (.int .i64 0)) (.fv (.sc (eC k))) (it 0) (bl false) (fun ρ o β w ho hx hy=>⟨_,kG ho (aJ hx) (aK hy) (by rw [decide_eq_false_iff_not];omega),aV rfl⟩) ?_
 refine jK (.slice 9 (.tmp 16) none (some (.tmp 17)) none) (.tmp 16) (.tmp 17) (tx s) (.fv (.sc (eC k))) (tx a) (fun ρ o β w ho hx hy=>?_) ?_
 ·have:=fU (w:=w) ho Tryz.underlying9 (aJ hx) (aJ hy) (by omega)
  rw [ha] at this
  exact ⟨_,this,aQ⟩
 refine jK (.binOp .add 3 (.tmp 20) (.const (.int .i64 1)) 3) (.tmp 20) (.const (.int .i64 1)) (.fv (.sc (eC k))) (it 1) (.fv (.sc (eC ((k+1:Nat):Int)))) (fun ρ o β w ho hx hy=>⟨_,iC ho (aJ hx) (aK hy) (by omega),aQ⟩) ?_
 refine jK (.slice 9 (.tmp 19) (some (.tmp 21)) none none) (.tmp 19) (.tmp 21) (tx s) (.fv (.sc (eC ((k+1:Nat):Int)))) (tx b) (fun ρ o β w ho hx hy=>?_) ?_
 ·have:=fV (w:=w) ho Tryz.underlying9 (aJ hx) (aJ hy) (by omega)
  rw [hb] at this
  exact ⟨_,this,aQ⟩
 refine jC 96 [tx a] (cA da) ?_
 exact jR Tryz.func34
theorem partsBadB (da:(bK a&&decide (a.size≠0))=true) (db:(bK b&&decide (b.size≠0))=false):jF 34 [tx s] (noP 28):=by
 have hi:Lib.indexAny s.data.toList [47,46]=(k:Int):=by rw [gF,hp,if_pos hk]
 refine jG Tryz.func34 fun w00=>?_
 refine jC 95 [tx s,lt ⟨#[47,46]⟩] (fH (by omega) hi) ?_
 refine jK (.binOp .lss 3 (.tmp 10) (.const (.int .i64 0)) 3) (.tmp 10) (.const (.int .i64 0)) (.fv (.sc (eC k))) (it 0) (bl false) (fun ρ o β w ho hx hy=>⟨_,kG ho (aJ hx) (aK hy) (by rw [decide_eq_false_iff_not];omega),aV rfl⟩) ?_
 refine jK (.slice 9 (.tmp 16) none (some (.tmp 17)) none) (.tmp 16) (.tmp 17) (tx s) (.fv (.sc (eC k))) (tx a) (fun ρ o β w ho hx hy=>?_) ?_
 ·have:=fU (w:=w) ho Tryz.underlying9 (aJ hx) (aJ hy) (by omega)
  rw [ha] at this
  exact ⟨_,this,aQ⟩
 refine jK (.binOp .add 3 (.tmp 20) (.const (.int .i64 1)) 3) (.tmp 20) (.const (.int .i64 1)) (.fv (.sc (eC k))) (it 1) (.fv (.sc (eC ((k+1:Nat):Int)))) (fun ρ o β w ho hx hy=>⟨_,iC ho (aJ hx) (aK hy) (by omega),aQ⟩) ?_
 refine jK (.slice 9 (.tmp 19) (some (.tmp 21)) none none) (.tmp 19) (.tmp 21) (tx s) (.fv (.sc (eC ((k+1:Nat):Int)))) (tx b) (fun ρ o β w ho hx hy=>?_) ?_
 ·have:=fV (w:=w) ho Tryz.underlying9 (aJ hx) (aJ hy) (by omega)
  rw [hb] at this
  exact ⟨_,this,aQ⟩
 refine jC 96 [tx a] (cA da) ?_
 refine jC 96 [tx b] (cA db) ?_
 exact jR Tryz.func34
theorem partsSlash (da:(bK a&&decide (a.size≠0))=true) (db:(bK b&&decide (b.size≠0))=true) (hc:s[k]?=some 47) (hz:(⟨(Lib.trimB b.data.toList 48).toArray⟩:ByteArray)=z) (hr:(z.toList==(⟨#[]⟩:ByteArray).toList)=false):jF 34 [tx s] (.tup [.sc (eJ a),.sc (eJ b),.sc z0]):=by
 have hbsz:b.size≤s.size:=by rw [← hb,ByteArray.size_extract];omega
 have hi:Lib.indexAny s.data.toList [47,46]=(k:Int):=by rw [gF,hp,if_pos hk]
 refine jG Tryz.func34 fun w00=>?_
 refine jC 95 [tx s,lt ⟨#[47,46]⟩] (fH (by omega) hi) ?_
 refine jK (.binOp .lss 3 (.tmp 10) (.const (.int .i64 0)) 3) (.tmp 10) (.const (.int .i64 0)) (.fv (.sc (eC k))) (it 0) (bl false) (fun ρ o β w ho hx hy=>⟨_,kG ho (aJ hx) (aK hy) (by rw [decide_eq_false_iff_not];omega),aV rfl⟩) ?_
 refine jK (.slice 9 (.tmp 16) none (some (.tmp 17)) none) (.tmp 16) (.tmp 17) (tx s) (.fv (.sc (eC k))) (tx a) (fun ρ o β w ho hx hy=>?_) ?_
 ·have:=fU (w:=w) ho Tryz.underlying9 (aJ hx) (aJ hy) (by omega)
  rw [ha] at this
  exact ⟨_,this,aQ⟩
 refine jK (.binOp .add 3 (.tmp 20) (.const (.int .i64 1)) 3) (.tmp 20) (.const (.int .i64 1)) (.fv (.sc (eC k))) (it 1) (.fv (.sc (eC ((k+1:Nat):Int)))) (fun ρ o β w ho hx hy=>⟨_,iC ho (aJ hx) (aK hy) (by omega),aQ⟩) ?_
 refine jK (.slice 9 (.tmp 19) (some (.tmp 21)) none none) (.tmp 19) (.tmp 21) (tx s) (.fv (.sc (eC ((k+1:Nat):Int)))) (tx b) (fun ρ o β w ho hx hy=>?_) ?_
 ·have:=fV (w:=w) ho Tryz.underlying9 (aJ hx) (aJ hy) (by omega)
  rw [hb] at this
  exact ⟨_,this,aQ⟩
 refine jC 96 [tx a] (cA da) ?_
 refine jC 96 [tx b] (cA db) ?_
 refine jK (.index 9 (.tmp 33) (.tmp 34)) (.tmp 33) (.tmp 34) (tx s) (.fv (.sc (eC k))) (.fv (.sc (.lit (.int .u8 47)))) (fun ρ o β w ho hx hy=>⟨_,fA ho Tryz.underlying9 (aJ hx) (aJ hy) hc,aV rfl⟩) ?_
 refine jC 98 [tx b,lt ⟨#[48]⟩] (trimZF (by omega) hz) ?_
 refine jK (.binOp .eql 9 (.tmp 46) (.const (.string ⟨#[]⟩)) 9) (.tmp 46) (.const (.string ⟨#[]⟩)) (tx z) (lt ⟨#[]⟩) (bl false) (fun ρ o β w ho hx hy=>⟨_,lK ho (aJ hx) (aK hy) hr,aV rfl⟩) ?_
 exact jR Tryz.func34
theorem partsZero (da:(bK a&&decide (a.size≠0))=true) (db:(bK b&&decide (b.size≠0))=true) (hc:s[k]?=some 47) (hz:(⟨(Lib.trimB b.data.toList 48).toArray⟩:ByteArray)=z) (hr:(z.toList==(⟨#[]⟩:ByteArray).toList)=true):jF 34 [tx s] (noP 6):=by
 have hbsz:b.size≤s.size:=by rw [← hb,ByteArray.size_extract];omega
 have hi:Lib.indexAny s.data.toList [47,46]=(k:Int):=by rw [gF,hp,if_pos hk]
 refine jG Tryz.func34 fun w00=>?_
 refine jC 95 [tx s,lt ⟨#[47,46]⟩] (fH (by omega) hi) ?_
 refine jK (.binOp .lss 3 (.tmp 10) (.const (.int .i64 0)) 3) (.tmp 10) (.const (.int .i64 0)) (.fv (.sc (eC k))) (it 0) (bl false) (fun ρ o β w ho hx hy=>⟨_,kG ho (aJ hx) (aK hy) (by rw [decide_eq_false_iff_not];omega),aV rfl⟩) ?_
 refine jK (.slice 9 (.tmp 16) none (some (.tmp 17)) none) (.tmp 16) (.tmp 17) (tx s) (.fv (.sc (eC k))) (tx a) (fun ρ o β w ho hx hy=>?_) ?_
 ·have:=fU (w:=w) ho Tryz.underlying9 (aJ hx) (aJ hy) (by omega)
  rw [ha] at this
  exact ⟨_,this,aQ⟩
 refine jK (.binOp .add 3 (.tmp 20) (.const (.int .i64 1)) 3) (.tmp 20) (.const (.int .i64 1)) (.fv (.sc (eC k))) (it 1) (.fv (.sc (eC ((k+1:Nat):Int)))) (fun ρ o β w ho hx hy=>⟨_,iC ho (aJ hx) (aK hy) (by omega),aQ⟩) ?_
 refine jK (.slice 9 (.tmp 19) (some (.tmp 21)) none none) (.tmp 19) (.tmp 21) (tx s) (.fv (.sc (eC ((k+1:Nat):Int)))) (tx b) (fun ρ o β w ho hx hy=>?_) ?_
 ·have:=fV (w:=w) ho Tryz.underlying9 (aJ hx) (aJ hy) (by omega)
  rw [hb] at this
  exact ⟨_,this,aQ⟩
 refine jC 96 [tx a] (cA da) ?_
 refine jC 96 [tx b] (cA db) ?_
 refine jK (.index 9 (.tmp 33) (.tmp 34)) (.tmp 33) (.tmp 34) (tx s) (.fv (.sc (eC k))) (.fv (.sc (.lit (.int .u8 47)))) (fun ρ o β w ho hx hy=>⟨_,fA ho Tryz.underlying9 (aJ hx) (aJ hy) hc,aV rfl⟩) ?_
 refine jC 98 [tx b,lt ⟨#[48]⟩] (trimZF (by omega) hz) ?_
 refine jK (.binOp .eql 9 (.tmp 46) (.const (.string ⟨#[]⟩)) 9) (.tmp 46) (.const (.string ⟨#[]⟩)) (tx z) (lt ⟨#[]⟩) (bl true) (fun ρ o β w ho hx hy=>⟨_,lK ho (aJ hx) (aK hy) hr,aV rfl⟩) ?_
 exact jR Tryz.func34
end
end
def e92:Nat:=8192
def fN (s:ByteArray):Bool:=bK s&&decide (s.size≠0)
def pA (s:ByteArray):ByteArray:=(aN s).extract 0 (bD (aN s))
def pB (s:ByteArray):ByteArray:=(aN s).extract (bD (aN s)+1) (aN s).size
abbrev iF (s:ByteArray):Prop:=bD (aN s)<(aN s).size
abbrev eG (s:ByteArray):Prop:=(aN s)[bD (aN s)]?=some 46
def pE (s:ByteArray):Int :=
 if 4096<s.size then 29
 else if fN (pA s)=false then 28
 else if iF s∧fN (pB s)=false then 28
 else if iF s∧¬ eG s∧aO (aC (pB s))=0 then 6
 else 0
def pN (s:ByteArray):Nat:=if eG s then aO (aC (pA s))*10^(pB s).size+aO (aC (pB s)) else aO (aC (pA s))
def pD (s:ByteArray):Nat:=if eG s then 10^(pB s).size else if iF s then aO (aC (pB s)) else 1
def pQ (s:ByteArray):Rat:=mkRat (sg (cR s) (pN s)) (pD s)
theorem bO {s:ByteArray} (h:fN s=true):AllDig (aC s)∧0<s.size:=by
 simp only [fN,Bool.and_eq_true,decide_eq_true_eq] at h
 exact ⟨bF.1 h.1,by omega⟩
theorem oW (s:ByteArray):(aN s).size≤s.size:=rK s
theorem vZ (s:ByteArray):(pA s).size≤s.size:=by have:=oW s;rw [pA,ByteArray.size_extract];omega
theorem pB_size (s:ByteArray):(pB s).size≤s.size:=by have:=oW s;rw [pB,ByteArray.size_extract];omega
theorem iV {s:ByteArray} (h:pE s=0):s.size≤4096∧fN (pA s)=true∧(iF s→fN (pB s)=true)∧(iF s→¬ eG s→0<aO (aC (pB s))):=by
 unfold pE at h
 split at h
 ·exact absurd h (by decide)
 ·split at h
  ·exact absurd h (by decide)
  ·split at h
   ·exact absurd h (by decide)
   ·split at h
    ·exact absurd h (by decide)
    ·rename_i h1 h2 h3 h4
     refine ⟨by omega,by simpa using h2,fun hp=>?_,fun hp hd=>?_⟩
     ·by_cases hb:fN (pB s)=true
      ·exact hb
      ·exact absurd ⟨hp,by simpa using hb⟩ h3
     ·have:aO (aC (pB s))≠0:=fun e=>h4 ⟨hp,hd,e⟩
      omega
theorem wB {s:ByteArray} (h:eG s):iF s:=by
 by_cases hp:iF s
 ·exact hp
 ·rw [eG,getElem?_neg (aN s) _ hp] at h
  exact absurd h (by simp)
theorem iO {s:ByteArray} (h:iF s) (hd:¬ eG s):(aN s)[bD (aN s)]?=some 47:=by
 rcases pointB_get h with e|e
 ·rw [getElem?_pos (aN s) _ h,e]
 ·exact absurd (show eG s by rw [eG,getElem?_pos (aN s) _ h,e]) hd
theorem pN_lt {s:ByteArray} (h:pE s=0):pN s<10^e92∧pD s<10^e92∧0<pD s:=by
 obtain ⟨h1,h2,h3,h4⟩:=iV h
 have a1:=eV (bO h2).1
 have a2:=vZ s
 have a3:=pB_size s
 rw [aE] at a1
 have he:e92=2*4096:=rfl
 have up:∀ {n k:Nat},n<10^k→k≤e92→n<10^e92:=fun h hk=>Nat.lt_of_lt_of_le h (Nat.pow_le_pow_right (by omega) hk)
 by_cases hd:eG s
 ·have hp:=wB hd
  have b1:=eV (bO (h3 hp)).1
  rw [aE] at b1
  rw [pN,pD,if_pos hd,if_pos hd]
  refine ⟨?_,?_,Nat.pow_pos (by omega)⟩
  ·refine up (k:=(pA s).size+(pB s).size) ?_ (by omega)
   rw [Nat.pow_add]
   have:=Nat.mul_le_mul_right (10^(pB s).size) (Nat.succ_le_of_lt a1)
   rw [Nat.succ_mul] at this
   omega
  ·refine up (k:=(pB s).size+1) ?_ (by omega)
   exact Nat.pow_lt_pow_right (by omega) (by omega)
 ·rw [pN,pD,if_neg hd,if_neg hd]
  refine ⟨up a1 (by omega),?_,?_⟩
  ·split
   ·rename_i hp
    have b1:=eV (bO (h3 hp)).1
    rw [aE] at b1
    exact up b1 (by omega)
   ·exact Nat.one_lt_pow (by omega) (by omega)
  ·split
   ·rename_i hp;exact h4 hp hd
   ·omega
theorem natOf_zero {l:List UInt8} (h:AllDig l):aO l=0↔∀ c∈l,c=48:=by
 induction l with
 | nil=>simp [natOf_nil]
 | cons c r ih =>
   have hc:=h c (List.mem_cons_self ..)
   have ih:=ih fun x hx=>h x (List.mem_cons_of_mem _ hx)
   rw [kL,List.forall_mem_cons,← ih]
   constructor
   ·intro e
    have e1:(c.toNat-48)*10^r.length=0:=by omega
    have p:0<10^r.length:=Nat.pow_pos (by omega)
    rcases Nat.mul_eq_zero.1 e1 with e2|e2
    ·exact ⟨UInt8.toNat_inj.1 (by show c.toNat=48;omega),by omega⟩
    ·omega
   ·rintro ⟨rfl,e⟩
    rw [e]
    simp
theorem drop_nil {p:UInt8→Bool}:∀ {l:List UInt8},l.dropWhile p = []↔∀ c∈l,p c=true
 | []=>by simp
 | c::l=>by
   rw [List.dropWhile_cons,List.forall_mem_cons,← drop_nil (l:=l)]
   cases h:p c <;> simp
theorem take_all {p:UInt8→Bool}:∀ {l:List UInt8} {c:UInt8},c∈l.takeWhile p→p c=true
 | [],c,h=>by simp at h
 | x :: l,c,h=>by
   rw [List.takeWhile_cons] at h
   split at h
   ·rename_i hx
    rcases List.mem_cons.1 h with rfl|h
    ·exact hx
    ·exact take_all h
   ·simp at h
theorem trim_nil {l:List UInt8}:Lib.trimB l 48 = []↔∀ c∈l,c=48:=by
 unfold Lib.trimB Lib.trimLeftB Lib.trimRightB
 rw [drop_nil]
 constructor
 ·intro h c hc
  have hc2:c∈l.reverse:=List.mem_reverse.2 hc
  rw [← List.takeWhile_append_dropWhile (p:=(· == (48:UInt8))) (l:=l.reverse)] at hc2
  rcases List.mem_append.1 hc2 with h1|h1
  ·simpa using take_all h1
  ·simpa using h c (List.mem_reverse.2 h1)
 ·intro h c hc
  have h1:=List.mem_reverse.1 hc
  have:=List.mem_reverse.1 ((List.dropWhile_sublist _).mem h1)
  simp [h c this]
theorem trim_test {b:ByteArray} (hd:AllDig (aC b)):((⟨(Lib.trimB b.data.toList 48).toArray⟩:ByteArray).toList==(⟨#[]⟩:ByteArray).toList)=decide (aO (aC b)=0):=by
 rw [Go.ByteArray.toList_eq,Go.ByteArray.toList_eq]
 rw [Bool.eq_iff_iff,decide_eq_true_eq,natOf_zero hd,beq_iff_eq]
 exact trim_nil
theorem wC {A:ByteArray} {n:Nat} (hs:A.size≤100000) (hd:AllDig (aC A)) (hn:aO (aC A)=n):jF 36 [tx A] (nt n):=by
 intro β w vs hv
 obtain ⟨v,rfl,h1⟩:=cL hv
 rw [aJ h1]
 refine (nQ A w hs hd).mono fun e' w' ⟨u,e1,h1,h2⟩=>⟨u,e1,h2,?_⟩
 rw [hn] at h1
 exact dK.2 h1
theorem uI (a b:ByteArray):aC (a++b)=aC a++aC b:=by simp [aC]
theorem dig_app {a b:ByteArray} (ha:AllDig (aC a)) (hb:AllDig (aC b)):AllDig (aC (a++b)):=by
 rw [uI]
 intro c hc
 rcases List.mem_append.1 hc with h|h
 ·exact ha c h
 ·exact hb c h
section
variable {s:ByteArray} {z:Int}
theorem partsOk (h:pE s=0):∃ A B:ByteArray,jF 34 [tx (aN s)] (.tup [.sc (eJ A),.sc (eJ B),.sc z0])∧AllDig (aC A)∧AllDig (aC B)∧aO (aC A)=pN s∧aO (aC B)=pD s∧A.size≤100000∧B.size≤100000:=by
 obtain ⟨h1,h2,h3,h4⟩:=iV h
 have s0:=oW s
 have s1:=vZ s
 have s2:=pB_size s
 by_cases hp:iF s
 ·have ob:=h3 hp
  by_cases hd:eG s
  ·have hsz:(⟨#[49]⟩:ByteArray).size=1:=rfl
   obtain ⟨z,hz⟩:∃ z:ByteArray,(⟨(Lib.repeatL [48] (pB s).size).toArray⟩:ByteArray)=z:=⟨_,rfl⟩
   have zb:aC z=List.replicate (pB s).size 48:=by rw [← hz,← rep_one];simp [aC]
   have zs:z.size=(pB s).size:=by rw [← aE,zb,List.length_replicate]
   have zd:AllDig (aC z):=by
    rw [zb]
    intro c hc
    rw [List.eq_of_mem_replicate hc]
    exact ⟨by decide,by decide⟩
   have zn:aO (aC z)=0:=by
    have:=uL (pB s).size []
    rw [List.append_nil,natOf_nil] at this
    rw [zb,this]
   have d1:AllDig (aC ⟨#[49]⟩):=by intro c hc;simp [aC] at hc;subst hc;exact ⟨by decide,by decide⟩
   refine ⟨pA s++pB s,⟨#[49]⟩++z,partsDot (a:=pA s) (b:=pB s) (fH (by omega) (by rw [gF,if_pos hp])) hp (by omega) rfl rfl (bO h2).1 (bO h2).2 (bO ob).1 (bO ob).2 hd (repeatAll (by omega) hz) (by omega),dig_app (bO h2).1 (bO ob).1,dig_app d1 zd,?_,?_,by rw [ByteArray.size_append];omega,by rw [ByteArray.size_append];omega⟩
   ·rw [uI,eO,aE,pN,if_pos hd]
   ·rw [uI,eO,aE,pD,if_pos hd,zn,zs]
    show aO [49]*_+0=_
    rw [show aO [49]=1 from rfl]
    omega
  ·have hn:=h4 hp hd
   refine ⟨pA s,pB s,partsSlash (by omega) rfl hp rfl rfl h2 ob (iO hp hd) rfl ?_,(bO h2).1,(bO ob).1,?_,?_,by omega,by omega⟩
   ·show ((⟨(Lib.trimB (pB s).data.toList 48).toArray⟩:ByteArray).toList==(⟨#[]⟩:ByteArray).toList)=false
    rw [trim_test (bO ob).1,decide_eq_false_iff_not]
    omega
   ·rw [pN,if_neg hd]
   ·rw [pD,if_neg hd,if_pos hp]
 ·have hd:¬ eG s:=fun hd=>hp (wB hd)
  have e:pA s=aN s:=by
   have:=cM (aN s)
   rw [pA,show bD (aN s)=(aN s).size by omega]
   exact ba_ext (by simp)
  rw [e] at h2
  refine ⟨aN s,⟨#[49]⟩,partsWhole (by omega) hp h2,(bO h2).1,?_,?_,?_,by omega,by decide⟩
  ·intro c hc;simp [aC] at hc;subst hc;exact ⟨by decide,by decide⟩
  ·rw [pN,if_neg hd,e]
  ·rw [pD,if_neg hd,if_neg hp];rfl
theorem partsBad (hs:s.size≤4096) (hz:pE s=z) (h0:z≠0):jF 34 [tx (aN s)] (noP z)∧(z=28∨z=6):=by
 have s0:=oW s
 have s2:=pB_size s
 unfold pE at hz
 rw [if_neg (by omega)] at hz
 by_cases h2:fN (pA s)=false
 ·rw [if_pos h2] at hz
  subst hz
  refine ⟨?_,.inl rfl⟩
  by_cases hp:iF s
  ·exact partsBadA (by omega) rfl hp rfl rfl h2
  ·have e:pA s=aN s:=by
    have:=cM (aN s)
    rw [pA,show bD (aN s)=(aN s).size by omega]
    exact ba_ext (by simp)
   rw [e] at h2
   exact zJ (by omega) hp h2
 ·rw [if_neg h2] at hz
  have h2:fN (pA s)=true:=by simpa using h2
  by_cases h3:iF s∧fN (pB s)=false
  ·rw [if_pos h3] at hz
   subst hz
   exact ⟨partsBadB (by omega) rfl h3.1 rfl rfl h2 h3.2,.inl rfl⟩
  ·rw [if_neg h3] at hz
   by_cases h4:iF s∧¬ eG s∧aO (aC (pB s))=0
   ·rw [if_pos h4] at hz
    subst hz
    have ob:fN (pB s)=true:=by
     by_cases hb:fN (pB s)=true
     ·exact hb
     ·exact absurd ⟨h4.1,by simpa using hb⟩ h3
    refine ⟨partsZero (by omega) rfl h4.1 rfl rfl h2 ob (iO h4.1 h4.2.1) rfl ?_,.inr rfl⟩
    show ((⟨(Lib.trimB (pB s).data.toList 48).toArray⟩:ByteArray).toList==(⟨#[]⟩:ByteArray).toList)=true
    rw [trim_test (bO ob).1,decide_eq_true_eq]
    exact h4.2.2
   ·rw [if_neg h4] at hz
    exact absurd hz.symm h0
theorem uJ (h:pE s=0):(pQ s).num.natAbs<10^e92∧(pQ s).den<10^e92:=by
 obtain ⟨h1,h2,h3⟩:=pN_lt h
 obtain ⟨d1,d2⟩:=mF (sg (cR s) (pN s)) (d:=pD s) (by omega)
 refine ⟨?_,Nat.lt_of_le_of_lt (Nat.le_of_dvd h3 d2) h2⟩
 have e:(sg (cR s) (pN s)).natAbs=pN s:=by cases cR s <;> simp [sg]
 rw [e] at d1
 rcases Nat.eq_zero_or_pos (pN s) with h0|h0
 ·have:pQ s=0:=by
   rw [pQ,h0,show sg (cR s) 0=0 by cases cR s <;> rfl]
   exact Rat.zero_mkRat _
  rw [this]
  exact Nat.pow_pos (by omega)
 ·exact Nat.lt_of_le_of_lt (Nat.le_of_dvd h0 d1) h1
theorem parseOkF (h:pE s=0) (hw:Wr (pQ s)):jX 9 [tx s] (.tup [.sc (eJ (writeB (pQ s))),.sc z0]):=by
 obtain ⟨A,B,hf,dA,dB,nA,nB,sA,sB⟩:=partsOk h
 obtain ⟨l1,l2,l3⟩:=pN_lt h
 obtain ⟨b1,b2⟩:=uJ h
 have hl:Lf 20 (pQ s):=⟨gO 20 e92 (by decide) b1,gO 20 e92 (by decide) b2⟩
 refine jY Tryz.func9 fun w00 hI=>?_
 refine jO 9 s ?_
 refine jM 10 s.size 4096 false (by rw [decide_eq_false_iff_not];have:=(iV h).1;omega) ?_
 refine jC 33 [tx s,lt ⟨#[45]⟩] (bT rfl rfl) ?_
 refine jC 34 [tx (aN s)] (hf) ?_
 refine jC 36 [tx A] (wC sA dA nA) ?_
 refine jC 36 [tx B] (wC sB dB nB) ?_
 refine jC 35 [bl (cR s),nt (pN s),nt (pD s)] (lW (gO 40 e92 (by decide) l1) (gO 40 e92 (by decide) l2) l3) ?_
 refine jC 37 [fra (pQ s)] (gV) ?_
 refine jW hI 38 [num (pQ s)] (oO hl hw.n hw.d) ?_
 exact jR Tryz.func9
theorem parseLargeF (h:pE s=0) (hw:¬ Wr (pQ s)):jX 9 [tx s] (noS 4):=by
 obtain ⟨A,B,hf,dA,dB,nA,nB,sA,sB⟩:=partsOk h
 obtain ⟨l1,l2,l3⟩:=pN_lt h
 obtain ⟨b1,b2⟩:=uJ h
 have hl:Lf 20 (pQ s):=⟨gO 20 e92 (by decide) b1,gO 20 e92 (by decide) b2⟩
 have hk:∀ k:Nat,k+1=e92→(decB (pQ s).num.natAbs).size≤k+1:=fun k hk=>decB_size (by rw [hk];exact b1)
 have hs:(decB (pQ s).num.natAbs).size≤1000000000:=by have:=hk 8191 rfl;omega
 refine jY Tryz.func9 fun w00 hI=>?_
 refine jO 9 s ?_
 refine jM 10 s.size 4096 false (by rw [decide_eq_false_iff_not];have:=(iV h).1;omega) ?_
 refine jC 33 [tx s,lt ⟨#[45]⟩] (bT rfl rfl) ?_
 refine jC 34 [tx (aN s)] (hf) ?_
 refine jC 36 [tx A] (wC sA dA nA) ?_
 refine jC 36 [tx B] (wC sB dB nB) ?_
 refine jC 35 [bl (cR s),nt (pN s),nt (pD s)] (lW (gO 40 e92 (by decide) l1) (gO 40 e92 (by decide) l2) l3) ?_
 refine jC 37 [fra (pQ s)] (gV) ?_
 refine jW hI 38 [num (pQ s)] (writeLargeF hl hs hw) ?_
 exact jR Tryz.func9
theorem parseBadF (hz:pE s=z) (h0:z≠0):jX 9 [tx s] (noS z):=by
 by_cases hs:4096<s.size
 ·have:z=29:=by rw [← hz,pE,if_pos hs]
  subst this
  refine jY Tryz.func9 fun w00 hI=>?_
  refine jO 9 s ?_
  refine jM 10 s.size 4096 true (by rw [decide_eq_true_eq];omega) ?_
  exact jR Tryz.func9
 ·obtain ⟨hf,hv⟩:=partsBad (by omega) hz h0
  rcases hv with rfl|rfl <;> (
   refine jY Tryz.func9 fun w00 hI=>?_
   refine jO 9 s ?_
   refine jM 10 s.size 4096 false (by rw [decide_eq_false_iff_not];omega) ?_
   refine jC 33 [tx s,lt ⟨#[45]⟩] (bT rfl rfl) ?_
   refine jC 34 [tx (aN s)] (hf) ?_
   exact kret Tryz.func9 (by kernel_rfl))
end
abbrev noR (z:Int):AV Kr := .tup [.sc (.lit (.string ⟨#[]⟩)),.sc (.lit (.int .i64 z))]
theorem digitsF {s:ByteArray} (hs:s.size≤9223372036854775807):jF 40 [rS s] (rb (bK s)):=by
 intro β w vs hv
 obtain ⟨v,rfl,h1⟩:=cL hv
 rw [bG h1]
 exact (rG s w hs).mono fun e w' ⟨e1,e2⟩=>⟨_,e1,by rw [e2];exact aB _ _,dE⟩
theorem cE {s:ByteArray} {r:Bool} (hs:s.size≤9223372036854775807) (h:bK s=r):jF 40 [rS s] (rl r):=by
 intro β w vs hv
 obtain ⟨v,rfl,h1⟩:=cL hv
 rw [bG h1]
 exact (rG s w hs).mono fun e w' ⟨e1,e2⟩=>⟨_,e1,by rw [e2];exact aB _ _,by rw [h];exact dU rfl⟩
section
variable {Out:Value→World→Prop} {f:FuncId} {w00:World} {c:Cfg Kr}
theorem jE (t:Tmp) (k:Nat) (r:Bool) (h:((k:Int)==0)=r) (hg:Ok Tryz.prog f w00 Out (bJ Tryz.prog 1000 (c.give (rl r))))
 (hc:(c.op.map fun o=>o.op,c.okT (rl r),c.ev (.tmp t),c.ev (.const (.int .i64 0)))=(some (.binOp .eql 3 (.tmp t) (.const (.int .i64 0)) 3),true,rI (k:Int),.fv (.sc (.lit (.int .i64 0)))):=by kernel_rfl):Ok Tryz.prog f w00 Out c :=
 jZ (.binOp .eql 3 (.tmp t) (.const (.int .i64 0)) 3) (.tmp t) (.const (.int .i64 0)) _ _ (rl r) hc (by simp [Op.operands]) (by simp [Op.operands]) (fun ρ o β w ho hx hy=>⟨_,fL ho (bG hx) (bU hy) h,dU rfl⟩) hg
theorem nS (t u:Tmp) (a b:Int) (r:Bool) (h:(a==b)=r) (hg:Ok Tryz.prog f w00 Out (bJ Tryz.prog 1000 (c.give (rl r))))
 (hc:(c.op.map fun o=>o.op,c.okT (rl r),c.ev (.tmp t),c.ev (.tmp u))=(some (.binOp .eql 3 (.tmp t) (.tmp u) 3),true,rI a,rI b):=by kernel_rfl):Ok Tryz.prog f w00 Out c :=
 jZ (.binOp .eql 3 (.tmp t) (.tmp u) 3) (.tmp t) (.tmp u) _ _ (rl r) hc (by simp [Op.operands]) (by simp [Op.operands]) (fun ρ o β w ho hx hy=>⟨_,fL ho (bG hx) (bG hy) h,dU rfl⟩) hg
end
section
variable {s t a b:ByteArray} {k:Nat} {z:Int}
theorem refParseLong (hs:4096<s.size) (hm:s.size≤1000000000):jF 10 [rS s] (noR 29):=by
 refine jT Tryz.func10 fun w00=>?_
 refine aY 10 9 Tryz.underlying9 s ?_
 refine iD 11 4096 (s.size:Nat) true (by rw [decide_eq_true_iff];omega) ?_
 exact jS Tryz.func10
theorem refSynNeg (hs:s.size≤4096) (h0:0<s.size) (hn:cR s=true) (ht:s.extract 1 s.size=t) (hk:bD t=k)
 (ha:t.extract 0 k=a) (hb:t.extract (k+1) t.size=b) (hz:(if fN a=false then 28 else if k<t.size∧fN b=false then 28 else 0)=z) (hz0:z=28):jF 10 [rS s] (noR z):=by
 have hts:t.size≤4096:=by rw [← ht,ByteArray.size_extract];omega
 have hkl:k≤t.size:=by rw [← hk];exact cM t
 have hasz:a.size=k:=by rw [← ha,ByteArray.size_extract];omega
 have hbsz:b.size=t.size-(k+1):=by rw [← hb,ByteArray.size_extract];omega
 have hno:fN a=true→(k<t.size→fN b=true)→¬ (if k<t.size∧fN b=false then 28 else 0)=z:=fun h1 h2 h3=>by
  rw [if_neg (fun h=>absurd ((h2 h.1).symm.trans h.2) (by decide))] at h3
  omega
 refine jT Tryz.func10 fun w00=>?_
 refine aY 10 9 Tryz.underlying9 s ?_
 refine iD 11 4096 (s.size:Nat) false (by rw [decide_eq_false_iff_not];omega) ?_
 refine aY 14 9 Tryz.underlying9 s ?_
 refine iD 15 0 (s.size:Nat) true (by rw [decide_eq_true_iff];omega) ?_
 refine ridn 18 s (jA hn) ?_
 refine rsl1 22 9 Tryz.underlying9 s t (by omega) ht ?_
 refine jB 39 [rS t] (gG (by omega)) ?_
 rw [hk]
 by_cases k0:k=0
 ·refine jE 26 k true (by rw [k0];rfl) ?_
  have:z=28:=by
   rw [← hz,if_pos]
   rw [fN,show a.size=0 by omega]
   simp
  subst this
  exact jS Tryz.func10
 refine jE 26 k false (by simp;omega) ?_
 refine gK 29 30 9 Tryz.underlying9 t k a hkl ha ?_
 cases da:bK a with
 | false =>
   have fa:=cE (s:=a) (by omega) da
   have:z=28:=by
    rw [← hz,if_pos]
    rw [fN,da]
    rfl
   subst this
   refine jB 40 [rS a] fa ?_
   exact jS Tryz.func10
 | true =>
   have fa:=cE (s:=a) (by omega) da
   have oa:fN a=true:=by rw [fN,da,Bool.true_and,decide_eq_true_eq];omega
   rw [if_neg (by rw [oa];exact Bool.noConfusion)] at hz
   refine jB 40 [rS a] fa ?_
   refine aY 37 9 Tryz.underlying9 t ?_
   by_cases hlt:k<t.size
   ·refine cJ 36 38 (k:Int) (t.size:Nat) true (by rw [decide_eq_true_iff];omega) ?_
    refine fE 41 k (by omega) ?_
    refine aY 43 9 Tryz.underlying9 t ?_
    by_cases kb:k+1=t.size
    ·refine nS 42 44 ((k+1:Nat):Int) (t.size:Nat) true (by rw [kb];simp) ?_
     have:z=28:=by
      rw [← hz,if_pos]
      exact ⟨hlt,by rw [fN,show b.size=0 by omega];simp⟩
     subst this
     exact jS Tryz.func10
    refine nS 42 44 ((k+1:Nat):Int) (t.size:Nat) false (by simp;omega) ?_
    refine fE 48 k (by omega) ?_
    refine kZ 47 49 9 Tryz.underlying9 t (k+1) b (by omega) hb ?_
    cases db:bK b with
    | false =>
      have fb:=cE (s:=b) (by omega) db
      have:z=28:=by
       rw [← hz,if_pos]
       exact ⟨hlt,by rw [fN,db];rfl⟩
      subst this
      refine jB 40 [rS b] fb ?_
      exact jS Tryz.func10
    | true =>
      have ob:fN b=true:=by rw [fN,db,Bool.true_and,decide_eq_true_eq];omega
      exact absurd hz (hno oa (fun _=>ob))
   ·exact absurd hz (hno oa (fun h=>absurd h hlt))
theorem refSynPos (hs:s.size≤4096) (h0:0<s.size) (hn:cR s=false) (hk:bD s=k)
 (ha:s.extract 0 k=a) (hb:s.extract (k+1) s.size=b) (hz:(if fN a=false then 28 else if k<s.size∧fN b=false then 28 else 0)=z) (hz0:z=28):jF 10 [rS s] (noR z):=by
 obtain ⟨c,hc,hc45⟩:=jD h0 hn
 have hkl:k≤s.size:=by rw [← hk];exact cM s
 have hasz:a.size=k:=by rw [← ha,ByteArray.size_extract];omega
 have hbsz:b.size=s.size-(k+1):=by rw [← hb,ByteArray.size_extract];omega
 have hno:fN a=true→(k<s.size→fN b=true)→¬ (if k<s.size∧fN b=false then 28 else 0)=z:=fun h1 h2 h3=>by
  rw [if_neg (fun h=>absurd ((h2 h.1).symm.trans h.2) (by decide))] at h3
  omega
 refine jT Tryz.func10 fun w00=>?_
 refine aY 10 9 Tryz.underlying9 s ?_
 refine iD 11 4096 (s.size:Nat) false (by rw [decide_eq_false_iff_not];omega) ?_
 refine aY 14 9 Tryz.underlying9 s ?_
 refine iD 15 0 (s.size:Nat) true (by rw [decide_eq_true_iff];omega) ?_
 refine ridp 18 s c hc ?_
 refine zA 19 c hc45 ?_
 refine jB 39 [rS s] (gG (by omega)) ?_
 rw [hk]
 by_cases k0:k=0
 ·refine jE 26 k true (by rw [k0];rfl) ?_
  have:z=28:=by
   rw [← hz,if_pos]
   rw [fN,show a.size=0 by omega]
   simp
  subst this
  exact jS Tryz.func10
 refine jE 26 k false (by simp;omega) ?_
 refine gK 29 30 9 Tryz.underlying9 s k a hkl ha ?_
 cases da:bK a with
 | false =>
   have fa:=cE (s:=a) (by omega) da
   have:z=28:=by
    rw [← hz,if_pos]
    rw [fN,da]
    rfl
   subst this
   refine jB 40 [rS a] fa ?_
   exact jS Tryz.func10
 | true =>
   have fa:=cE (s:=a) (by omega) da
   have oa:fN a=true:=by rw [fN,da,Bool.true_and,decide_eq_true_eq];omega
   rw [if_neg (by rw [oa];exact Bool.noConfusion)] at hz
   refine jB 40 [rS a] fa ?_
   refine aY 37 9 Tryz.underlying9 s ?_
   by_cases hlt:k<s.size
   ·refine cJ 36 38 (k:Int) (s.size:Nat) true (by rw [decide_eq_true_iff];omega) ?_
    refine fE 41 k (by omega) ?_
    refine aY 43 9 Tryz.underlying9 s ?_
    by_cases kb:k+1=s.size
    ·refine nS 42 44 ((k+1:Nat):Int) (s.size:Nat) true (by rw [kb];simp) ?_
     have:z=28:=by
      rw [← hz,if_pos]
      exact ⟨hlt,by rw [fN,show b.size=0 by omega];simp⟩
     subst this
     exact jS Tryz.func10
    refine nS 42 44 ((k+1:Nat):Int) (s.size:Nat) false (by simp;omega) ?_
    refine fE 48 k (by omega) ?_
    refine kZ 47 49 9 Tryz.underlying9 s (k+1) b (by omega) hb ?_
    cases db:bK b with
    | false =>
      have fb:=cE (s:=b) (by omega) db
      have:z=28:=by
       rw [← hz,if_pos]
       exact ⟨hlt,by rw [fN,db];rfl⟩
      subst this
      refine jB 40 [rS b] fb ?_
      exact jS Tryz.func10
    | true =>
      have ob:fN b=true:=by rw [fN,db,Bool.true_and,decide_eq_true_eq];omega
      exact absurd hz (hno oa (fun _=>ob))
   ·exact absurd hz (hno oa (fun h=>absurd h hlt))
theorem refSynNil (h0:s.size=0):jF 10 [rS s] (noR 28):=by
 have hk:bD s=0:=by have:=cM s;omega
 refine jT Tryz.func10 fun w00=>?_
 refine aY 10 9 Tryz.underlying9 s ?_
 refine iD 11 4096 (s.size:Nat) false (by rw [decide_eq_false_iff_not];omega) ?_
 refine aY 14 9 Tryz.underlying9 s ?_
 refine iD 15 0 (s.size:Nat) false (by rw [decide_eq_false_iff_not];omega) ?_
 refine jB 39 [rS s] (gG (by omega)) ?_
 rw [hk]
 refine jE 26 0 true rfl ?_
 exact jS Tryz.func10
theorem refSyn (hs:s.size≤4096) (hz:fN (pA s)=false∨iF s∧fN (pB s)=false):jF 10 [rS s] (noR 28):=by
 have e:(if fN (pA s)=false then (28:Int) else if iF s∧fN (pB s)=false then 28 else 0)=28:=by
  by_cases h:fN (pA s)=false
  ·rw [if_pos h]
  ·rw [if_neg h,if_pos (hz.resolve_left h)]
 rcases Nat.eq_zero_or_pos s.size with h0|h0
 ·exact refSynNil h0
 cases hn:cR s with
 | true =>
   have ht:aN s=s.extract 1 s.size:=if_pos hn
   refine refSynNeg hs h0 hn ht.symm rfl rfl rfl ?_ rfl
   exact e
 | false =>
   have ht:aN s=s:=if_neg (by rw [hn];exact Bool.false_ne_true)
   simp only [pA,pB,iF,ht] at e
   exact refSynPos hs h0 hn rfl rfl rfl e rfl
end
end Ab
end Go.Proofs.YtnhafhpmocabiaaGreatDoor
