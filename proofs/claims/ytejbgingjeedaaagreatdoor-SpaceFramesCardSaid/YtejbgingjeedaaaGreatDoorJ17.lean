/- Parts of the proof, joined. -/
import Derived.Test.YtejbgingjeedaaaGreatDoorJ16
import Derived.KernelRfl
set_option linter.unusedSimpArgs false
set_option linter.unusedVariables false
namespace Go.Proofs.YtejbgingjeedaaaGreatDoor.Fr
open Go.RowKit Go.Shelf Go.Proofs.YtejbgingjeedaaaGreatDoor Go.Proofs.YtejbgingjeedaaaGreatDoor.Ab Pl
attribute [local go_sem] Oper.semAt_some
def RV (a b c:Rat) (z:Int) (W:World) (e:Ending) (w' : World):Prop := ∃ k:C9,e = .returned (.tuple #[k.val,.int .i64 z])∧Vc w' k.val a b c∧Below W.heap.size W w'
theorem qR {x y z:Int} (hx:Ev x) (hy:Ev y) (hz:f2 x y=z) (w:World) (g:Nat) (T:TypeId) (hh:w.heap[g]?=some (.cells #[.int .i64 x,.int .i64 y] T (0,0))):Calls Tryz.prog 69 #[.slice (some ⟨g,0,none⟩) 2 2] w fun e w'=>e = .returned (.int .i64 z)∧Below w.heap.size w w':=by
 refine (aAe (T:=T) hx hy hz [] w [.slice (some ⟨g,0,none⟩) 2 2] ⟨_,_,rfl,⟨g,[.int .i64 x,.int .i64 y],rfl,hh,[.int .i64 x],_,rfl,⟨rfl,rfl⟩,[.int .i64 y],_,rfl,⟨rfl,rfl⟩,rfl⟩,rfl⟩).mono ?_
 rintro e w' ⟨v,e1,e2,h1⟩
 have h5:[v] = [.int .i64 z]:=h1.1
 injection h5 with h5
 exact ⟨by rw [e1,h5],e2⟩
def InvE (ev:List (Fin 3)→Int) (w:World) (k:C9) (B E R:Nat) (o1 o2 o3 x1 x2 x3 y1 y2 y3 z1 z2 z3:Rat) (pre:List (Fin 3)) (W:World):Prop :=
 ∃ x y z:C9,W.heap[B]?=some (.cells (frL k x y z).toArray 74 (0,0))∧((0:Fin 3)∈pre→Vc W x.val x1 x2 x3)∧((1:Fin 3)∈pre→Vc W y.val y1 y2 y3)∧((2:Fin 3)∈pre→Vc W z.val z1 z2 z3) ∧
   W.heap[E]?=some (.cells #[.int .i64 (ev pre)] 31 (0,0))∧W.heap[R]?=some (.cells (frL C9.zero C9.zero C9.zero C9.zero).toArray 74 (0,0))∧Vc W k.val o1 o2 o3∧Below w.heap.size w W
section
variable {w:World} {k:C9} {B E R:Nat} {o1 o2 o3 x1 x2 x3 y1 y2 y3 z1 z2 z3:Rat}
theorem oP {u v:Int} {W w2 X1 w5:World} {a b c a' b' c' : C9} {o9 o2:Obj} {S n:Nat} (hbl:Below W.heap.size W w2) (hB:W.heap[B]?=some (.cells (frL k a b c).toArray 74 (0,0))) (hE:W.heap[E]?=some (.cells #[.int .i64 u] 31 (0,0))) (hEB:¬ E=B)
 (hT:Turned B (.cells (frL k a' b' c').toArray 74 (0,0)) (w2.alloc o9) X1) (h5:Below (X1.alloc o2).heap.size (X1.alloc o2) w5) (hn:n≤W.heap.size) (hnB:n≤B) (hnE:n≤E) :
 (w5.setCell ⟨E,0,none⟩ (.int .i64 v)).heap[B]?=some (.cells (frL k a' b' c').toArray 74 (0,0))∧(w5.setCell ⟨E,0,none⟩ (.int .i64 v)).heap[E]?=some (.cells #[.int .i64 v] 31 (0,0)) ∧
 (∀ g,g<W.heap.size→¬ g=B→¬ g=E→(w5.setCell ⟨E,0,none⟩ (.int .i64 v)).heap[g]?=W.heap[g]?)∧Go.Proofs.YtejbgingjeedaaaGreatDoor.Ext Kn w2 (w5.setCell ⟨E,0,none⟩ (.int .i64 v))∧Go.Proofs.YtejbgingjeedaaaGreatDoor.Ext Kn W w2∧KeepsFrom S W (w5.setCell ⟨E,0,none⟩ (.int .i64 v))∧Below n W (w5.setCell ⟨E,0,none⟩ (.int .i64 v)):=by
 have hBlt:=(Array.getElem?_eq_some_iff.1 hB).1
 have hElt:=(Array.getElem?_eq_some_iff.1 hE).1
 have hs2:=hbl.size
 have ba:Below w2.heap.size w2 (w2.alloc o9):=(Below.refl _ _).alloc (Nat.le_refl _) _
 have sa:(w2.alloc o9).heap.size=w2.heap.size+1:=by simp
 have hBa:(w2.alloc o9).heap[B]?=some (.cells (frL k a b c).toArray 74 (0,0)):=(ba.block B (by omega)).trans ((hbl.block B hBlt).trans hB)
 have sx:X1.heap.size=w2.heap.size+1:=hT.size.trans sa
 have bb:Below X1.heap.size X1 (X1.alloc o2):=(Below.refl _ _).alloc (Nat.le_refl _) _
 have sb:(X1.alloc o2).heap.size=w2.heap.size+2:=by simp [sx]
 have hs5:=h5.size
 have keep:∀ g,g<W.heap.size→¬ g=B→w5.heap[g]?=W.heap[g]?:=fun g hg hne=>(h5.block g (by omega)).trans ((bb.block g (by omega)).trans ((hT.block g hne).trans ((ba.block g (by omega)).trans (hbl.block g hg))))
 have hE5:w5.heap[E]?=some (.cells #[.int .i64 u] 31 (0,0)):=(keep E hElt hEB).trans hE
 have hTE:Turned E (.cells #[.int .i64 v] 31 (0,0)) w5 (w5.setCell ⟨E,0,none⟩ (.int .i64 v)):=cW (i:=0) hE5 (.int .i64 v)
 have hB5:w5.heap[B]?=some (.cells (frL k a' b' c').toArray 74 (0,0)):=(h5.block B (by omega)).trans ((bb.block B (by omega)).trans hT.at_)
 have bn:Below n W w5:=(sM ((hbl.mono hn).trans (ba.mono (by omega))) hT hnB).trans ((bb.mono (by omega)).trans (h5.mono (by omega)))
 refine ⟨(hTE.block B (fun e=>hEB e.symm)).trans hB5,hTE.at_,fun g hg h1 h2=>(hTE.block g h2).trans (keep g hg h1),?_,Go.Proofs.YtejbgingjeedaaaGreatDoor.Ext.of_below hbl,?_,sM bn hTE hnE⟩
 ·exact (Go.Proofs.YtejbgingjeedaaaGreatDoor.Ext.of_below ba).trans ((hT.ext hBa (mH _ _ _ _ _)).trans ((Go.Proofs.YtejbgingjeedaaaGreatDoor.Ext.of_below bb).trans ((Go.Proofs.YtejbgingjeedaaaGreatDoor.Ext.of_below h5).trans (hTE.ext hE5 (by simp [Go.Proofs.YtejbgingjeedaaaGreatDoor.hotObj,Kn])))))
 ·exact (fS hbl).trans ((fS ba).trans ((sN hT hBa rfl).trans ((fS bb).trans ((fS h5).trans (sN hTE hE5 rfl)))))
theorem sP {ev:List (Fin 3)→Int} {S:Nat} (hS:w.heap.size≤S):OwnFrom S (InvE ev w k B E R o1 o2 o3 x1 x2 x3 y1 y2 y3 z1 z2 z3):=by
 rintro pre W W' row ⟨x,y,z,hB,v0,v1,v2,hE,hR,hk,hb⟩ hg hr
 have hr' : ∀ r,row=some r→∃ o:Obj,W.heap[r]?=some o∧o.isCells=false:=fun r e=>(hr r e).2
 have hx:=tV hg hr'
 refine ⟨x,y,z,(grownBy_keeps_cells hg hr' hB rfl).trans hB,fun h=>Vc.kext (v0 h) hx,fun h=>Vc.kext (v1 h) hx,fun h=>Vc.kext (v2 h) hx,(grownBy_keeps_cells hg hr' hE rfl).trans hE,(grownBy_keeps_cells hg hr' hR rfl).trans hR,Vc.kext hk hx,?_⟩
 exact hb.grown hg hb.size (fun k e=>Nat.le_trans hS (hr k e).1)
end
set_option maxRecDepth 100000 in
set_option maxHeartbeats 4000000 in
theorem readFrame_gen (a1 a2 a3 b1 b2 b3 c1 c2 c3 d1 d2 d3:ByteArray) (o1 o2 o3 x1 x2 x3 y1 y2 y3 z1 z2 z3:Rat) (eo ex ey ez zq zc:Int) (heo:Ev eo) (hex:Ev ex) (hey:Ev ey) (hez:Ev ez) (hZ:f2 (f2 (f2 eo ex) ey) ez=zq)
 (cO' : ∀ W,Gl W→Calls Tryz.prog 37 #[.agg #[.string a1,.string a2,.string a3]] W (RV o1 o2 o3 eo W)) (cX' : ∀ W,Gl W→Calls Tryz.prog 37 #[.agg #[.string b1,.string b2,.string b3]] W (RV x1 x2 x3 ex W))
 (cY' : ∀ W,Gl W→Calls Tryz.prog 37 #[.agg #[.string c1,.string c2,.string c3]] W (RV y1 y2 y3 ey W)) (cZ' : ∀ W,Gl W→Calls Tryz.prog 37 #[.agg #[.string d1,.string d2,.string d3]] W (RV z1 z2 z3 ez W))
 (hC:zq=0→∀ (W:World) (o x y z:C9),Vc W o.val o1 o2 o3→Vc W x.val x1 x2 x3→Vc W y.val y1 y2 y3→Vc W z.val z1 z2 z3→Calls Tryz.prog 98 #[.agg (frL o x y z).toArray] W fun e w'=>e = .returned (.int .i64 zc)∧Below W.heap.size W w') (w:World) (hG:Gl w) :
 Calls Tryz.prog 35 #[.agg #[.string a1,.string a2,.string a3,.string b1,.string b2,.string b3,.string c1,.string c2,.string c3,.string d1,.string d2,.string d3]] w fun e w' => ∃ o x y z:C9,e = .returned (.tuple #[.agg (if zq=0 then frL o x y z else frL C9.zero C9.zero C9.zero C9.zero).toArray,.int .i64 (if zq=0 then zc else zq)])∧Vc w' o.val o1 o2 o3∧Vc w' x.val x1 x2 x3∧Vc w' y.val y1 y2 y3∧Vc w' z.val z1 z2 z3∧Below w.heap.size w w':=by
 have cO:=aH cO'
 have cX:=aH cX'
 have cY:=aH cY'
 have cZ:=aH cZ'
 have HC:=aH hC
 clear cO' cX' cY' cZ' hC
 obtain ⟨ev,hevd⟩:∃ ev:List (Fin 3)→Int,ev=fun pre=>pre.foldl (fun e i=>f2 e (if i=0 then ex else if i=1 then ey else ez)) eo:=⟨_,rfl⟩
 have ev0:ev []=eo:=by rw [hevd];rfl
 have evs:∀ (pre:List (Fin 3)) (i:Fin 3),ev (pre ++ [i])=f2 (ev pre) (if i=0 then ex else if i=1 then ey else ez):=fun pre i=>by rw [hevd];simp [List.foldl_append]
 have ev3:ev [0,1,2]=zq:=by rw [hevd,← hZ];rfl
 have hev:∀ pre,Ev (ev pre):=fun pre=>by
  rw [hevd]
  show Ev (pre.foldl _ eo)
  revert heo
  generalize eo=e0
  induction pre generalizing e0 with
  | nil=>exact fun h=>h
  | cons i l ih =>
    intro h
    refine ih _ (aAd h ?_)
    split
    ·exact hex
    ·split <;> assumption
 have p0:∀ pre,ev (pre ++ [0])=f2 (ev pre) ex:=fun pre=>evs pre 0
 have p1:∀ pre,ev (pre ++ [1])=f2 (ev pre) ey:=fun pre=>evs pre 1
 have p2:∀ pre,ev (pre ++ [2])=f2 (ev pre) ez:=fun pre=>evs pre 2
 clear hevd hZ evs
 refine (callsIn_wide (n:=6)).1 ?_
 refine callsIn_of_wp_marks Tryz.func35 rfl trivial ?_ rfl
 simp only [Tryz.ntmps35,List.size_toArray,List.length_cons,List.length_nil,Nat.reduceAdd,Nat.reduceSub,Array.replicate_succ,Array.replicate_zero,List.push_toArray,List.append_toArray,List.nil_append,List.cons_append]
 refine wpIn_wide.2 ?_
 go_wp2_with fail
 obtain ⟨Z,hZ⟩:∃ Z:Array Value,Z=(frL C9.zero C9.zero C9.zero C9.zero).toArray:=⟨_,rfl⟩
 have hW1:∃ W1,W1=(w.alloc (.cells #[.string a1,.string a2,.string a3,.string b1,.string b2,.string b3,.string c1,.string c2,.string c3,.string d1,.string d2,.string d3] 26 (0,0))).alloc (.cells Z 74 (0,0)):=⟨_,rfl⟩
 obtain ⟨W1,hW1⟩:=hW1
 change Calls _ _ _ ((w.alloc (.cells #[.string a1,.string a2,.string a3,.string b1,.string b2,.string b3,.string c1,.string c2,.string c3,.string d1,.string d2,.string d3] 26 (0,0))).alloc (.cells (frL C9.zero C9.zero C9.zero C9.zero).toArray 74 (0,0))) _
 rw [← hZ,← hW1]
 have hs1:W1.heap.size=w.heap.size+2:=by rw [hW1];simp
 have hb1:Below w.heap.size w W1:=by rw [hW1];exact ((Below.refl _ w).alloc (Nat.le_refl _) _).alloc (by simp) _
 have hf1:W1.heap[w.heap.size]?=some (.cells #[.string a1,.string a2,.string a3,.string b1,.string b2,.string b3,.string c1,.string c2,.string c3,.string d1,.string d2,.string d3] 26 (0,0)):=by rw [hW1];exact (Below.heap_alloc _ _ _ (by simp)).trans (World.alloc_heap_new w _)
 have hr1:W1.heap[w.heap.size+1]?=some (.cells Z 74 (0,0)):=by rw [hW1];have:=World.alloc_heap_new (w.alloc (.cells #[.string a1,.string a2,.string a3,.string b1,.string b2,.string b3,.string c1,.string c2,.string c3,.string d1,.string d2,.string d3] 26 (0,0))) (.cells Z 74 (0,0));rwa [World.size_alloc] at this
 clear hW1
 refine (cO.out W1 (hG.below hb1)).mono ?_
 rintro e w1 ⟨k,rfl,hk,hb⟩
 have hs2:=hb.size
 have hf2:=(hb.block w.heap.size (by omega)).trans hf1
 have hr2:=(hb.block (w.heap.size+1) (by omega)).trans hr1
 have hb2:=hb1.trans (hb.mono (by omega))
 clear hf1 hr1 hb1 hb
 simp only [C9.val]
 have HID:=aH (aI hf2 (aI hr2 (aI hb2 hk)))
 clear hf2 hr2 hb2 hk
 have HZ:=aH hZ
 clear hZ
 go_wp2_with (first|(refine yR rfl 74 _ rfl (frL k C9.zero C9.zero C9.zero).toArray (by kernel_rfl) ?_)|(refine stop_store 74 _ _ rfl ?_))
 refine ⟨store_new3 rfl 74 _ _ rfl w1 _ _ _ (frL k C9.zero C9.zero C9.zero).toArray rfl rfl (by kernel_rfl) (by kernel_rfl) (by kernel_rfl) ?_⟩
 intro W3 g1 g2 g3 g4 g5
 have hf3:=(g2.block w.heap.size (by omega)).trans HID.out.1
 have f0:W3.cell? ⟨w.heap.size,0,none⟩=some (.string a1):=by simp [World.cell?,hf3]
 have f1:W3.cell? ⟨w.heap.size,1,none⟩=some (.string a2):=by simp [World.cell?,hf3]
 have f2:W3.cell? ⟨w.heap.size,2,none⟩=some (.string a3):=by simp [World.cell?,hf3]
 have f3:W3.cell? ⟨w.heap.size,3,none⟩=some (.string b1):=by simp [World.cell?,hf3]
 have f4:W3.cell? ⟨w.heap.size,4,none⟩=some (.string b2):=by simp [World.cell?,hf3]
 have f5:W3.cell? ⟨w.heap.size,5,none⟩=some (.string b3):=by simp [World.cell?,hf3]
 have f6:W3.cell? ⟨w.heap.size,6,none⟩=some (.string c1):=by simp [World.cell?,hf3]
 have f7:W3.cell? ⟨w.heap.size,7,none⟩=some (.string c2):=by simp [World.cell?,hf3]
 have f8:W3.cell? ⟨w.heap.size,8,none⟩=some (.string c3):=by simp [World.cell?,hf3]
 have f9:W3.cell? ⟨w.heap.size,9,none⟩=some (.string d1):=by simp [World.cell?,hf3]
 have f10:W3.cell? ⟨w.heap.size,10,none⟩=some (.string d2):=by simp [World.cell?,hf3]
 have f11:W3.cell? ⟨w.heap.size,11,none⟩=some (.string d3):=by simp [World.cell?,hf3]
 clear hf3
 have HID2:=aH (aI g1 (aI g2 (aI g3 (aI g4 g5))))
 clear g1 g2 g3 g4 g5
 go_wp2_with fail
 refine (axes_any _ _ _ _ _ _ _ _ _ _ _ _ _).mono ?_
 rintro e w4 ⟨rfl,rfl⟩
 go_wp2_with fail
 obtain ⟨v0,h0⟩:∃ v0:Value,v0 = .agg #[.string a1,.string a2,.string a3,.string b1,.string b2,.string b3,.string c1,.string c2,.string c3,.string d1,.string d2,.string d3]:=⟨_,rfl⟩
 obtain ⟨v11,h11⟩:∃ v:Value,v = .tuple #[.agg #[.int .i64 k.n1,.int .i64 k.d1,.pointer k.p1,.int .i64 k.n2,.int .i64 k.d2,.pointer k.p2,.int .i64 k.n3,.int .i64 k.d3,.pointer k.p3],.int .i64 eo]:=⟨_,rfl⟩
 obtain ⟨v13,h13⟩:∃ v:Value,v = .agg #[.string a1,.string a2,.string a3]:=⟨_,rfl⟩
 obtain ⟨v15,h15⟩:∃ v:Value,v = .agg #[.int .i64 k.n1,.int .i64 k.d1,.pointer k.p1,.int .i64 k.n2,.int .i64 k.d2,.pointer k.p2,.int .i64 k.n3,.int .i64 k.d3,.pointer k.p3]:=⟨_,rfl⟩
 obtain ⟨v18,h18⟩:∃ v:Value,v = .agg (frL k C9.zero C9.zero C9.zero).toArray:=⟨_,rfl⟩
 rw [← h0,← h11,← h13,← h15,← h18]
 obtain ⟨g1,g2,g3,g4,g5⟩:=HID2.out
 obtain ⟨hf2,hr2,hb2,hk⟩:=HID.out
 have hsz2:=hb2.size
 have hsW3:w1.heap.size+3=W3.heap.size:=g1.symm
 obtain ⟨W4,hW4⟩:∃ W4,W3.alloc (.cells #[.string a1,.string a2,.string a3,.string b1,.string b2,.string b3,.string c1,.string c2,.string c3,.string d1,.string d2,.string d3] 26 (0,0))=W4:=⟨_,rfl⟩
 have hF:W4.heap[W3.heap.size]?=some (.cells #[.string a1,.string a2,.string a3,.string b1,.string b2,.string b3,.string c1,.string c2,.string c3,.string d1,.string d2,.string d3] 26 (0,0)):=by rw [← hW4];exact World.alloc_heap_new _ _
 have hs4:W4.heap.size=W3.heap.size+1:=by rw [← hW4];simp
 have hb4:Below W3.heap.size W3 W4:=by rw [← hW4];exact (Below.refl _ _).alloc (Nat.le_refl _) _
 have hb3:Below w1.heap.size w1 W4:=g2.trans (hb4.mono (by omega))
 have hinv:InvE ev w k (w1.heap.size+1+1) (w1.heap.size+1) (w.heap.size+1) o1 o2 o3 x1 x2 x3 y1 y2 y3 z1 z2 z3 [] W4:=by
  refine ⟨C9.zero,C9.zero,C9.zero,(hb4.block _ (by omega)).trans g5,fun h=>absurd h (by simp),fun h=>absurd h (by simp),fun h=>absurd h (by simp),(by rw [ev0];exact (hb4.block _ (by omega)).trans g4),?_,hk.below hb3,hb2.trans (hb3.mono (by omega))⟩
  rw [← HZ.out]
  exact (hb3.block _ (by omega)).trans hr2
 rw [hW4]
 have hEB:¬ (w1.heap.size+1:Nat)=w1.heap.size+1+1:=by omega
 have hRB:¬ (w.heap.size+1:Nat)=w1.heap.size+1+1:=by omega
 have hRE:¬ (w.heap.size+1:Nat)=w1.heap.size+1:=by omega
 have hBs:w1.heap.size+1+1<W4.heap.size:=by omega
 have hEs:w1.heap.size+1<W4.heap.size:=by omega
 have hRs:w.heap.size+1<W4.heap.size:=by omega
 have hE0:w.heap.size≤w1.heap.size+1:=by omega
 have hB0:w.heap.size≤w1.heap.size+1+1:=by omega
 have hwW4:w.heap.size≤W4.heap.size:=by omega
 clear g1 g2 g3 g4 g5 hf2 hr2 hb2 hk hsz2 hsW3 hb4 hb3 hW4 h0 h11 h13 h15 h18 HID HID2 f0 f1 f2 f3 f4 f5 f6 f7 f8 f9 f10 f11 hs1 hs2 hs4
 generalize w1.heap.size+1+1=B at *
 generalize w1.heap.size+1=E at *
 generalize w1.heap.size=p4 at *
 generalize W3.heap.size=q3 at *
 refine (wpIn_wide (n:=6)).1 ?_
 refine wpIn_rangeFunc_ownH (F:=Fence.wide) rfl (by omega) (gf:=149) (lb := #[.pointer (some ⟨q3,0,none⟩)]) rfl trivial (enters_of Tryz.func149 (by kernel_rfl) rfl)
  (axes_stops Fence.wide (6-1) trivial rfl (by omega) q3 w.heap.size a1 a2 a3 b1 b2 b3 c1 c2 c3 d1 d2 d3 W4 hwW4 hF) belowK_t (belowK_b (by omega)) (Below.refl _ _) (fun _=>rfl)
  (InvE ev w k B E (w.heap.size+1) o1 o2 o3 x1 x2 x3 y1 y2 y3 z1 z2 z3) (fun _ _ _=>False) (sP hwW4) (fun _ _ _ _ _ hs _ _=>hs) hinv
  (fun x a' W => ∃ Bx,((x=0∧W.heap[Bx]?=some (.cells #[.string b1,.string b2,.string b3] 24 (0,0))∧a' = { tmps := #[v0,.pointer (some ⟨w.heap.size,0,none⟩),.pointer (some ⟨w.heap.size+1,0,none⟩),.int .i64 0,.pointer (some ⟨p4,0,none⟩),.pointer (some ⟨E,0,none⟩),.pointer (some ⟨B,0,none⟩),.int .i64 0,.pointer (some ⟨Bx,0,none⟩),undef,undef,v11,.pointer (some ⟨w.heap.size,0,none⟩),v13,v11,v15,.int .i64 eo,v15,v18,v0,.func (.func 149) #[] #[.pointer (some ⟨q3,0,none⟩)],.int .i64 0,.agg #[.string b1,.string b2,.string b3],undef,undef,undef,undef,undef,undef,undef,undef,undef,undef,undef,undef,undef,undef,undef,undef,undef,undef,undef,undef],defers := [] })∨(x=1∧W.heap[Bx]?=some (.cells #[.string c1,.string c2,.string c3] 24 (0,0))∧a' = { tmps := #[v0,.pointer (some ⟨w.heap.size,0,none⟩),.pointer (some ⟨w.heap.size+1,0,none⟩),.int .i64 0,.pointer (some ⟨p4,0,none⟩),.pointer (some ⟨E,0,none⟩),.pointer (some ⟨B,0,none⟩),.int .i64 1,.pointer (some ⟨Bx,0,none⟩),undef,undef,v11,.pointer (some ⟨w.heap.size,0,none⟩),v13,v11,v15,.int .i64 eo,v15,v18,v0,.func (.func 149) #[] #[.pointer (some ⟨q3,0,none⟩)],.int .i64 1,.agg #[.string c1,.string c2,.string c3],undef,undef,undef,undef,undef,undef,undef,undef,undef,undef,undef,undef,undef,undef,undef,undef,undef,undef,undef,undef],defers := [] })∨(x=2∧W.heap[Bx]?=some (.cells #[.string d1,.string d2,.string d3] 24 (0,0))∧a' = { tmps := #[v0,.pointer (some ⟨w.heap.size,0,none⟩),.pointer (some ⟨w.heap.size+1,0,none⟩),.int .i64 0,.pointer (some ⟨p4,0,none⟩),.pointer (some ⟨E,0,none⟩),.pointer (some ⟨B,0,none⟩),.int .i64 2,.pointer (some ⟨Bx,0,none⟩),undef,undef,v11,.pointer (some ⟨w.heap.size,0,none⟩),v13,v11,v15,.int .i64 eo,v15,v18,v0,.func (.func 149) #[] #[.pointer (some ⟨q3,0,none⟩)],.int .i64 2,.agg #[.string d1,.string d2,.string d3],undef,undef,undef,undef,undef,undef,undef,undef,undef,undef,undef,undef,undef,undef,undef,undef,undef,undef,undef,undef],defers := [] }))) ?hAx ?assign ?body ?done ?stop
 case hAx =>
  rintro x a' _ X Y row ⟨Bx,h2⟩ hg hr
  refine ⟨Bx,?_⟩
  rcases h2 with ⟨rfl,h3,h4⟩|⟨rfl,h3,h4⟩|⟨rfl,h3,h4⟩
  ·exact .inl ⟨rfl,(grownBy_keeps_cells hg (fun r e=>(hr r e).2) h3 rfl).trans h3,h4⟩
  ·exact .inr (.inl ⟨rfl,(grownBy_keeps_cells hg (fun r e=>(hr r e).2) h3 rfl).trans h3,h4⟩)
  ·exact .inr (.inr ⟨rfl,(grownBy_keeps_cells hg (fun r e=>(hr r e).2) h3 rfl).trans h3,h4⟩)
 case assign =>
  rintro l pre x W K hi hK
  have hiw:w.heap.size≤W.heap.size:=by obtain ⟨_,_,_,_,_,_,_,_,_,_,hb⟩:=hi;exact hb.size
  rcases fin3 x with rfl|rfl|rfl
  ·simp only [axE,axV]
   gi_wp2
   exact hK _ _ ((KeepsOthers.alloc _ _).from _) ((Below.refl _ W).alloc hiw _) ((sP hwW4).alloc _ hi) ⟨W.heap.size,.inl ⟨by first|rfl|trivial,World.alloc_heap_new _ _,rfl⟩⟩
  ·simp only [axE,axV]
   gi_wp2
   exact hK _ _ ((KeepsOthers.alloc _ _).from _) ((Below.refl _ W).alloc hiw _) ((sP hwW4).alloc _ hi) ⟨W.heap.size,.inr (.inl ⟨by first|rfl|trivial,World.alloc_heap_new _ _,rfl⟩)⟩
  ·simp only [axE,axV]
   gi_wp2
   exact hK _ _ ((KeepsOthers.alloc _ _).from _) ((Below.refl _ W).alloc hiw _) ((sP hwW4).alloc _ hi) ⟨W.heap.size,.inr (.inr ⟨by first|rfl|trivial,World.alloc_heap_new _ _,rfl⟩)⟩
 case body =>
  rintro l pre x a' W _ _ ⟨x',y',z',hB,u0,u1,u2,hE,hR,hk,hbW⟩ ⟨Bx,h3⟩ _
  obtain ⟨u,hu⟩:∃ u,ev pre=u:=⟨_,rfl⟩
  have hue:=hev pre
  rw [hu] at hE hue
  have hBlt:=(Array.getElem?_eq_some_iff.1 hB).1
  have hElt:=(Array.getElem?_eq_some_iff.1 hE).1
  have hRlt:=(Array.getElem?_eq_some_iff.1 hR).1
  have hGW:=aH (hG.below hbW)
  have HW:=aH (aI hE (aI hR (aI hk hbW)))
  have HU:=aH (aI u0 (aI u1 u2))
  have HBB:=aH hB
  clear hB u0 u1 u2 hE hR hk hbW
  rcases h3 with ⟨rfl,h3,rfl⟩|⟨rfl,h3,rfl⟩|⟨rfl,h3,rfl⟩
  ·have cb0:W.cell? ⟨Bx,0,none⟩=some (.string b1):=by simp [World.cell?,h3]
   have cb1:W.cell? ⟨Bx,1,none⟩=some (.string b2):=by simp [World.cell?,h3]
   have cb2:W.cell? ⟨Bx,2,none⟩=some (.string b3):=by simp [World.cell?,h3]
   clear h3
   gi_wp2
   refine ⟨trivial,(CallsIn.inRound l (callsIn_wide.2 (cX.out W hGW.out))).mono ?_⟩
   rintro e w2 ⟨m,rfl,hm,hbl⟩
   have hs2:=hbl.size
   have hB2:=(hbl.block B hBlt).trans HBB.out
   have hE2:=(hbl.block E hElt).trans HW.out.1
   have q0:∀ o,(w2.alloc o).cell? ⟨B,9,none⟩=some (.int .i64 x'.n1):=bB (by omega) (by simp [World.cell?,hB2,frL,C9.cells])
   have r0:∀ o,(w2.alloc o).frozen? ⟨B,9,none⟩=false:=bH (by omega) hB2
   have q1:∀ o,(w2.alloc o).cell? ⟨B,10,none⟩=some (.int .i64 x'.d1):=bB (by omega) (by simp [World.cell?,hB2,frL,C9.cells])
   have r1:∀ o,(w2.alloc o).frozen? ⟨B,10,none⟩=false:=bH (by omega) hB2
   have q2:∀ o,(w2.alloc o).cell? ⟨B,11,none⟩=some (.pointer x'.p1):=bB (by omega) (by simp [World.cell?,hB2,frL,C9.cells])
   have r2:∀ o,(w2.alloc o).frozen? ⟨B,11,none⟩=false:=bH (by omega) hB2
   have q3:∀ o,(w2.alloc o).cell? ⟨B,12,none⟩=some (.int .i64 x'.n2):=bB (by omega) (by simp [World.cell?,hB2,frL,C9.cells])
   have r3:∀ o,(w2.alloc o).frozen? ⟨B,12,none⟩=false:=bH (by omega) hB2
   have q4:∀ o,(w2.alloc o).cell? ⟨B,13,none⟩=some (.int .i64 x'.d2):=bB (by omega) (by simp [World.cell?,hB2,frL,C9.cells])
   have r4:∀ o,(w2.alloc o).frozen? ⟨B,13,none⟩=false:=bH (by omega) hB2
   have q5:∀ o,(w2.alloc o).cell? ⟨B,14,none⟩=some (.pointer x'.p2):=bB (by omega) (by simp [World.cell?,hB2,frL,C9.cells])
   have r5:∀ o,(w2.alloc o).frozen? ⟨B,14,none⟩=false:=bH (by omega) hB2
   have q6:∀ o,(w2.alloc o).cell? ⟨B,15,none⟩=some (.int .i64 x'.n3):=bB (by omega) (by simp [World.cell?,hB2,frL,C9.cells])
   have r6:∀ o,(w2.alloc o).frozen? ⟨B,15,none⟩=false:=bH (by omega) hB2
   have q7:∀ o,(w2.alloc o).cell? ⟨B,16,none⟩=some (.int .i64 x'.d3):=bB (by omega) (by simp [World.cell?,hB2,frL,C9.cells])
   have r7:∀ o,(w2.alloc o).frozen? ⟨B,16,none⟩=false:=bH (by omega) hB2
   have q8:∀ o,(w2.alloc o).cell? ⟨B,17,none⟩=some (.pointer x'.p3):=bB (by omega) (by simp [World.cell?,hB2,frL,C9.cells])
   have r8:∀ o,(w2.alloc o).frozen? ⟨B,17,none⟩=false:=bH (by omega) hB2
   have qE:∀ o,(w2.alloc o).cell? ⟨E,0,none⟩=some (.int .i64 u):=bB (by omega) (by simp [World.cell?,hE2])
   have H2:=aH (aI hm (aI hbl (aI hB2 hE2)))
   clear hm hbl hB2 hE2
   simp only [C9.val]
   gi_wp2
   obtain ⟨hm,hbl,hB2,hE2⟩:=H2.out
   obtain ⟨hE,hR,hk,hbW⟩:=HW.out
   obtain ⟨u0,u1,u2⟩:=HU.out
   have hBa:(w2.alloc (.cells #[.int .i64 m.n1,.int .i64 m.d1,.pointer m.p1,.int .i64 m.n2,.int .i64 m.d2,.pointer m.p2,.int .i64 m.n3,.int .i64 m.d3,.pointer m.p3] 71 (0,0))).heap[B]?=some (.cells (frL k x' y' z').toArray 74 (0,0)):=(((Below.refl _ w2).alloc (Nat.le_refl _) _).block B (by omega)).trans hB2
   have hT:Turned B (.cells (frL k m y' z').toArray 74 (0,0)) (w2.alloc (.cells #[.int .i64 m.n1,.int .i64 m.d1,.pointer m.p1,.int .i64 m.n2,.int .i64 m.d2,.pointer m.p2,.int .i64 m.n3,.int .i64 m.d3,.pointer m.p3] 71 (0,0))) ((((((((((w2.alloc (.cells #[.int .i64 m.n1,.int .i64 m.d1,.pointer m.p1,.int .i64 m.n2,.int .i64 m.d2,.pointer m.p2,.int .i64 m.n3,.int .i64 m.d3,.pointer m.p3] 71 (0,0))).setCell ⟨B,9,none⟩ (.int .i64 m.n1)).setCell ⟨B,10,none⟩ (.int .i64 m.d1)).setCell ⟨B,11,none⟩ (.pointer m.p1)).setCell ⟨B,12,none⟩ (.int .i64 m.n2)).setCell ⟨B,13,none⟩ (.int .i64 m.d2)).setCell ⟨B,14,none⟩ (.pointer m.p2)).setCell ⟨B,15,none⟩ (.int .i64 m.n3)).setCell ⟨B,16,none⟩ (.int .i64 m.d3)).setCell ⟨B,17,none⟩ (.pointer m.p3)):=turn9 9 hBa _ _ _ _ _ _ _ _ _ (by kernel_rfl)
   obtain ⟨X1,hX1⟩:∃ X1,(((((((((w2.alloc (.cells #[.int .i64 m.n1,.int .i64 m.d1,.pointer m.p1,.int .i64 m.n2,.int .i64 m.d2,.pointer m.p2,.int .i64 m.n3,.int .i64 m.d3,.pointer m.p3] 71 (0,0))).setCell ⟨B,9,none⟩ (.int .i64 m.n1)).setCell ⟨B,10,none⟩ (.int .i64 m.d1)).setCell ⟨B,11,none⟩ (.pointer m.p1)).setCell ⟨B,12,none⟩ (.int .i64 m.n2)).setCell ⟨B,13,none⟩ (.int .i64 m.d2)).setCell ⟨B,14,none⟩ (.pointer m.p2)).setCell ⟨B,15,none⟩ (.int .i64 m.n3)).setCell ⟨B,16,none⟩ (.int .i64 m.d3)).setCell ⟨B,17,none⟩ (.pointer m.p3)=X1:=⟨_,rfl⟩
   rw [hX1] at hT ⊢
   have hsX:X1.heap.size=w2.heap.size+1:=by rw [hT.size];simp
   have hh:(X1.alloc (.cells #[.int .i64 u,.int .i64 ex] 31 (0,0))).heap[w2.heap.size+1]?=some (.cells #[.int .i64 u,.int .i64 ex] 31 (0,0)):=by rw [← hsX];exact World.alloc_heap_new _ _
   clear hX1 hBa
   obtain ⟨v,hv⟩:∃ v,f2 u ex=v:=⟨_,rfl⟩
   refine ⟨trivial,(CallsIn.inRound l (callsIn_wide.2 (qR hue hex hv _ (w2.heap.size+1) 31 hh))).mono ?_⟩
   rintro e w5 ⟨rfl,h5⟩
   obtain ⟨r1,r2,r3,r4,r4',r5,r6⟩:=oP (u:=u) (v:=v) (k:=k) (S:=W4.heap.size) (n:=w.heap.size) hbl HBB.out hE hEB hT h5 hbW.size hB0 hE0
   have hE5:w5.heap[E]?=some (.cells #[.int .i64 u] 31 (0,0)):=by have hs5:=h5.size;exact (h5.block E (by simp;omega)).trans ((((Below.refl _ X1).alloc (Nat.le_refl _) _).block E (by omega)).trans ((hT.block E hEB).trans ((((Below.refl _ w2).alloc (Nat.le_refl _) _).block E (by omega)).trans hE2)))
   have qE5:w5.cell? ⟨E,0,none⟩=some (.int .i64 u):=by simp [World.cell?,hE5]
   have rE5:w5.frozen? ⟨E,0,none⟩=false:=aW hE5 0
   have HF:KeepsFrom W4.heap.size W (w5.setCell ⟨E,0,none⟩ (.int .i64 v))∧Below w.heap.size W (w5.setCell ⟨E,0,none⟩ (.int .i64 v))∧InvE ev w k B E (w.heap.size+1) o1 o2 o3 x1 x2 x3 y1 y2 y3 z1 z2 z3 (pre ++ [0]) (w5.setCell ⟨E,0,none⟩ (.int .i64 v)) :=
    ⟨r5,r6,m,y',z',r1,fun _=>Vc.kext hm r4,fun h=>Vc.kext (Vc.kext (u1 (by simpa using h)) r4') r4,fun h=>Vc.kext (Vc.kext (u2 (by simpa using h)) r4') r4,(by rw [p0 pre,hu,hv];exact r2),(r3 _ hRlt hRB hRE).trans hR,Vc.kext (Vc.kext hk r4') r4,hbW.trans r6⟩
   have HG:=aH HF
   clear HF r1 r2 r3 r4 r4' r5 r6 hE5 hT hm hbl hB2 hE2 hE hR hk hbW u0 u1 u2 hh h5 hsX HW HU H2 hu hue
   gi_wp2
   exact HG.out
  ·have cb0:W.cell? ⟨Bx,0,none⟩=some (.string c1):=by simp [World.cell?,h3]
   have cb1:W.cell? ⟨Bx,1,none⟩=some (.string c2):=by simp [World.cell?,h3]
   have cb2:W.cell? ⟨Bx,2,none⟩=some (.string c3):=by simp [World.cell?,h3]
   clear h3
   gi_wp2
   refine ⟨trivial,(CallsIn.inRound l (callsIn_wide.2 (cY.out W hGW.out))).mono ?_⟩
   rintro e w2 ⟨m,rfl,hm,hbl⟩
   have hs2:=hbl.size
   have hB2:=(hbl.block B hBlt).trans HBB.out
   have hE2:=(hbl.block E hElt).trans HW.out.1
   have q0:∀ o,(w2.alloc o).cell? ⟨B,18,none⟩=some (.int .i64 y'.n1):=bB (by omega) (by simp [World.cell?,hB2,frL,C9.cells])
   have r0:∀ o,(w2.alloc o).frozen? ⟨B,18,none⟩=false:=bH (by omega) hB2
   have q1:∀ o,(w2.alloc o).cell? ⟨B,19,none⟩=some (.int .i64 y'.d1):=bB (by omega) (by simp [World.cell?,hB2,frL,C9.cells])
   have r1:∀ o,(w2.alloc o).frozen? ⟨B,19,none⟩=false:=bH (by omega) hB2
   have q2:∀ o,(w2.alloc o).cell? ⟨B,20,none⟩=some (.pointer y'.p1):=bB (by omega) (by simp [World.cell?,hB2,frL,C9.cells])
   have r2:∀ o,(w2.alloc o).frozen? ⟨B,20,none⟩=false:=bH (by omega) hB2
   have q3:∀ o,(w2.alloc o).cell? ⟨B,21,none⟩=some (.int .i64 y'.n2):=bB (by omega) (by simp [World.cell?,hB2,frL,C9.cells])
   have r3:∀ o,(w2.alloc o).frozen? ⟨B,21,none⟩=false:=bH (by omega) hB2
   have q4:∀ o,(w2.alloc o).cell? ⟨B,22,none⟩=some (.int .i64 y'.d2):=bB (by omega) (by simp [World.cell?,hB2,frL,C9.cells])
   have r4:∀ o,(w2.alloc o).frozen? ⟨B,22,none⟩=false:=bH (by omega) hB2
   have q5:∀ o,(w2.alloc o).cell? ⟨B,23,none⟩=some (.pointer y'.p2):=bB (by omega) (by simp [World.cell?,hB2,frL,C9.cells])
   have r5:∀ o,(w2.alloc o).frozen? ⟨B,23,none⟩=false:=bH (by omega) hB2
   have q6:∀ o,(w2.alloc o).cell? ⟨B,24,none⟩=some (.int .i64 y'.n3):=bB (by omega) (by simp [World.cell?,hB2,frL,C9.cells])
   have r6:∀ o,(w2.alloc o).frozen? ⟨B,24,none⟩=false:=bH (by omega) hB2
   have q7:∀ o,(w2.alloc o).cell? ⟨B,25,none⟩=some (.int .i64 y'.d3):=bB (by omega) (by simp [World.cell?,hB2,frL,C9.cells])
   have r7:∀ o,(w2.alloc o).frozen? ⟨B,25,none⟩=false:=bH (by omega) hB2
   have q8:∀ o,(w2.alloc o).cell? ⟨B,26,none⟩=some (.pointer y'.p3):=bB (by omega) (by simp [World.cell?,hB2,frL,C9.cells])
   have r8:∀ o,(w2.alloc o).frozen? ⟨B,26,none⟩=false:=bH (by omega) hB2
   have qE:∀ o,(w2.alloc o).cell? ⟨E,0,none⟩=some (.int .i64 u):=bB (by omega) (by simp [World.cell?,hE2])
   have H2:=aH (aI hm (aI hbl (aI hB2 hE2)))
   clear hm hbl hB2 hE2
   simp only [C9.val]
   gi_wp2
   obtain ⟨hm,hbl,hB2,hE2⟩:=H2.out
   obtain ⟨hE,hR,hk,hbW⟩:=HW.out
   obtain ⟨u0,u1,u2⟩:=HU.out
   have hBa:(w2.alloc (.cells #[.int .i64 m.n1,.int .i64 m.d1,.pointer m.p1,.int .i64 m.n2,.int .i64 m.d2,.pointer m.p2,.int .i64 m.n3,.int .i64 m.d3,.pointer m.p3] 71 (0,0))).heap[B]?=some (.cells (frL k x' y' z').toArray 74 (0,0)):=(((Below.refl _ w2).alloc (Nat.le_refl _) _).block B (by omega)).trans hB2
   have hT:Turned B (.cells (frL k x' m z').toArray 74 (0,0)) (w2.alloc (.cells #[.int .i64 m.n1,.int .i64 m.d1,.pointer m.p1,.int .i64 m.n2,.int .i64 m.d2,.pointer m.p2,.int .i64 m.n3,.int .i64 m.d3,.pointer m.p3] 71 (0,0))) ((((((((((w2.alloc (.cells #[.int .i64 m.n1,.int .i64 m.d1,.pointer m.p1,.int .i64 m.n2,.int .i64 m.d2,.pointer m.p2,.int .i64 m.n3,.int .i64 m.d3,.pointer m.p3] 71 (0,0))).setCell ⟨B,18,none⟩ (.int .i64 m.n1)).setCell ⟨B,19,none⟩ (.int .i64 m.d1)).setCell ⟨B,20,none⟩ (.pointer m.p1)).setCell ⟨B,21,none⟩ (.int .i64 m.n2)).setCell ⟨B,22,none⟩ (.int .i64 m.d2)).setCell ⟨B,23,none⟩ (.pointer m.p2)).setCell ⟨B,24,none⟩ (.int .i64 m.n3)).setCell ⟨B,25,none⟩ (.int .i64 m.d3)).setCell ⟨B,26,none⟩ (.pointer m.p3)):=turn9 18 hBa _ _ _ _ _ _ _ _ _ (by kernel_rfl)
   obtain ⟨X1,hX1⟩:∃ X1,(((((((((w2.alloc (.cells #[.int .i64 m.n1,.int .i64 m.d1,.pointer m.p1,.int .i64 m.n2,.int .i64 m.d2,.pointer m.p2,.int .i64 m.n3,.int .i64 m.d3,.pointer m.p3] 71 (0,0))).setCell ⟨B,18,none⟩ (.int .i64 m.n1)).setCell ⟨B,19,none⟩ (.int .i64 m.d1)).setCell ⟨B,20,none⟩ (.pointer m.p1)).setCell ⟨B,21,none⟩ (.int .i64 m.n2)).setCell ⟨B,22,none⟩ (.int .i64 m.d2)).setCell ⟨B,23,none⟩ (.pointer m.p2)).setCell ⟨B,24,none⟩ (.int .i64 m.n3)).setCell ⟨B,25,none⟩ (.int .i64 m.d3)).setCell ⟨B,26,none⟩ (.pointer m.p3)=X1:=⟨_,rfl⟩
   rw [hX1] at hT ⊢
   have hsX:X1.heap.size=w2.heap.size+1:=by rw [hT.size];simp
   have hh:(X1.alloc (.cells #[.int .i64 u,.int .i64 ey] 31 (0,0))).heap[w2.heap.size+1]?=some (.cells #[.int .i64 u,.int .i64 ey] 31 (0,0)):=by rw [← hsX];exact World.alloc_heap_new _ _
   clear hX1 hBa
   obtain ⟨v,hv⟩:∃ v,f2 u ey=v:=⟨_,rfl⟩
   refine ⟨trivial,(CallsIn.inRound l (callsIn_wide.2 (qR hue hey hv _ (w2.heap.size+1) 31 hh))).mono ?_⟩
   rintro e w5 ⟨rfl,h5⟩
   obtain ⟨r1,r2,r3,r4,r4',r5,r6⟩:=oP (u:=u) (v:=v) (k:=k) (S:=W4.heap.size) (n:=w.heap.size) hbl HBB.out hE hEB hT h5 hbW.size hB0 hE0
   have hE5:w5.heap[E]?=some (.cells #[.int .i64 u] 31 (0,0)):=by have hs5:=h5.size;exact (h5.block E (by simp;omega)).trans ((((Below.refl _ X1).alloc (Nat.le_refl _) _).block E (by omega)).trans ((hT.block E hEB).trans ((((Below.refl _ w2).alloc (Nat.le_refl _) _).block E (by omega)).trans hE2)))
   have qE5:w5.cell? ⟨E,0,none⟩=some (.int .i64 u):=by simp [World.cell?,hE5]
   have rE5:w5.frozen? ⟨E,0,none⟩=false:=aW hE5 0
   have HF:KeepsFrom W4.heap.size W (w5.setCell ⟨E,0,none⟩ (.int .i64 v))∧Below w.heap.size W (w5.setCell ⟨E,0,none⟩ (.int .i64 v))∧InvE ev w k B E (w.heap.size+1) o1 o2 o3 x1 x2 x3 y1 y2 y3 z1 z2 z3 (pre ++ [1]) (w5.setCell ⟨E,0,none⟩ (.int .i64 v)) :=
    ⟨r5,r6,x',m,z',r1,fun h=>Vc.kext (Vc.kext (u0 (by simpa using h)) r4') r4,fun _=>Vc.kext hm r4,fun h=>Vc.kext (Vc.kext (u2 (by simpa using h)) r4') r4,(by rw [p1 pre,hu,hv];exact r2),(r3 _ hRlt hRB hRE).trans hR,Vc.kext (Vc.kext hk r4') r4,hbW.trans r6⟩
   have HG:=aH HF
   clear HF r1 r2 r3 r4 r4' r5 r6 hE5 hT hm hbl hB2 hE2 hE hR hk hbW u0 u1 u2 hh h5 hsX HW HU H2 hu hue
   gi_wp2
   exact HG.out
  ·have cb0:W.cell? ⟨Bx,0,none⟩=some (.string d1):=by simp [World.cell?,h3]
   have cb1:W.cell? ⟨Bx,1,none⟩=some (.string d2):=by simp [World.cell?,h3]
   have cb2:W.cell? ⟨Bx,2,none⟩=some (.string d3):=by simp [World.cell?,h3]
   clear h3
   gi_wp2
   refine ⟨trivial,(CallsIn.inRound l (callsIn_wide.2 (cZ.out W hGW.out))).mono ?_⟩
   rintro e w2 ⟨m,rfl,hm,hbl⟩
   have hs2:=hbl.size
   have hB2:=(hbl.block B hBlt).trans HBB.out
   have hE2:=(hbl.block E hElt).trans HW.out.1
   have q0:∀ o,(w2.alloc o).cell? ⟨B,27,none⟩=some (.int .i64 z'.n1):=bB (by omega) (by simp [World.cell?,hB2,frL,C9.cells])
   have r0:∀ o,(w2.alloc o).frozen? ⟨B,27,none⟩=false:=bH (by omega) hB2
   have q1:∀ o,(w2.alloc o).cell? ⟨B,28,none⟩=some (.int .i64 z'.d1):=bB (by omega) (by simp [World.cell?,hB2,frL,C9.cells])
   have r1:∀ o,(w2.alloc o).frozen? ⟨B,28,none⟩=false:=bH (by omega) hB2
   have q2:∀ o,(w2.alloc o).cell? ⟨B,29,none⟩=some (.pointer z'.p1):=bB (by omega) (by simp [World.cell?,hB2,frL,C9.cells])
   have r2:∀ o,(w2.alloc o).frozen? ⟨B,29,none⟩=false:=bH (by omega) hB2
   have q3:∀ o,(w2.alloc o).cell? ⟨B,30,none⟩=some (.int .i64 z'.n2):=bB (by omega) (by simp [World.cell?,hB2,frL,C9.cells])
   have r3:∀ o,(w2.alloc o).frozen? ⟨B,30,none⟩=false:=bH (by omega) hB2
   have q4:∀ o,(w2.alloc o).cell? ⟨B,31,none⟩=some (.int .i64 z'.d2):=bB (by omega) (by simp [World.cell?,hB2,frL,C9.cells])
   have r4:∀ o,(w2.alloc o).frozen? ⟨B,31,none⟩=false:=bH (by omega) hB2
   have q5:∀ o,(w2.alloc o).cell? ⟨B,32,none⟩=some (.pointer z'.p2):=bB (by omega) (by simp [World.cell?,hB2,frL,C9.cells])
   have r5:∀ o,(w2.alloc o).frozen? ⟨B,32,none⟩=false:=bH (by omega) hB2
   have q6:∀ o,(w2.alloc o).cell? ⟨B,33,none⟩=some (.int .i64 z'.n3):=bB (by omega) (by simp [World.cell?,hB2,frL,C9.cells])
   have r6:∀ o,(w2.alloc o).frozen? ⟨B,33,none⟩=false:=bH (by omega) hB2
   have q7:∀ o,(w2.alloc o).cell? ⟨B,34,none⟩=some (.int .i64 z'.d3):=bB (by omega) (by simp [World.cell?,hB2,frL,C9.cells])
   have r7:∀ o,(w2.alloc o).frozen? ⟨B,34,none⟩=false:=bH (by omega) hB2
   have q8:∀ o,(w2.alloc o).cell? ⟨B,35,none⟩=some (.pointer z'.p3):=bB (by omega) (by simp [World.cell?,hB2,frL,C9.cells])
   have r8:∀ o,(w2.alloc o).frozen? ⟨B,35,none⟩=false:=bH (by omega) hB2
   have qE:∀ o,(w2.alloc o).cell? ⟨E,0,none⟩=some (.int .i64 u):=bB (by omega) (by simp [World.cell?,hE2])
   have H2:=aH (aI hm (aI hbl (aI hB2 hE2)))
   clear hm hbl hB2 hE2
   simp only [C9.val]
   gi_wp2
   obtain ⟨hm,hbl,hB2,hE2⟩:=H2.out
   obtain ⟨hE,hR,hk,hbW⟩:=HW.out
   obtain ⟨u0,u1,u2⟩:=HU.out
   have hBa:(w2.alloc (.cells #[.int .i64 m.n1,.int .i64 m.d1,.pointer m.p1,.int .i64 m.n2,.int .i64 m.d2,.pointer m.p2,.int .i64 m.n3,.int .i64 m.d3,.pointer m.p3] 71 (0,0))).heap[B]?=some (.cells (frL k x' y' z').toArray 74 (0,0)):=(((Below.refl _ w2).alloc (Nat.le_refl _) _).block B (by omega)).trans hB2
   have hT:Turned B (.cells (frL k x' y' m).toArray 74 (0,0)) (w2.alloc (.cells #[.int .i64 m.n1,.int .i64 m.d1,.pointer m.p1,.int .i64 m.n2,.int .i64 m.d2,.pointer m.p2,.int .i64 m.n3,.int .i64 m.d3,.pointer m.p3] 71 (0,0))) ((((((((((w2.alloc (.cells #[.int .i64 m.n1,.int .i64 m.d1,.pointer m.p1,.int .i64 m.n2,.int .i64 m.d2,.pointer m.p2,.int .i64 m.n3,.int .i64 m.d3,.pointer m.p3] 71 (0,0))).setCell ⟨B,27,none⟩ (.int .i64 m.n1)).setCell ⟨B,28,none⟩ (.int .i64 m.d1)).setCell ⟨B,29,none⟩ (.pointer m.p1)).setCell ⟨B,30,none⟩ (.int .i64 m.n2)).setCell ⟨B,31,none⟩ (.int .i64 m.d2)).setCell ⟨B,32,none⟩ (.pointer m.p2)).setCell ⟨B,33,none⟩ (.int .i64 m.n3)).setCell ⟨B,34,none⟩ (.int .i64 m.d3)).setCell ⟨B,35,none⟩ (.pointer m.p3)):=turn9 27 hBa _ _ _ _ _ _ _ _ _ (by kernel_rfl)
   obtain ⟨X1,hX1⟩:∃ X1,(((((((((w2.alloc (.cells #[.int .i64 m.n1,.int .i64 m.d1,.pointer m.p1,.int .i64 m.n2,.int .i64 m.d2,.pointer m.p2,.int .i64 m.n3,.int .i64 m.d3,.pointer m.p3] 71 (0,0))).setCell ⟨B,27,none⟩ (.int .i64 m.n1)).setCell ⟨B,28,none⟩ (.int .i64 m.d1)).setCell ⟨B,29,none⟩ (.pointer m.p1)).setCell ⟨B,30,none⟩ (.int .i64 m.n2)).setCell ⟨B,31,none⟩ (.int .i64 m.d2)).setCell ⟨B,32,none⟩ (.pointer m.p2)).setCell ⟨B,33,none⟩ (.int .i64 m.n3)).setCell ⟨B,34,none⟩ (.int .i64 m.d3)).setCell ⟨B,35,none⟩ (.pointer m.p3)=X1:=⟨_,rfl⟩
   rw [hX1] at hT ⊢
   have hsX:X1.heap.size=w2.heap.size+1:=by rw [hT.size];simp
   have hh:(X1.alloc (.cells #[.int .i64 u,.int .i64 ez] 31 (0,0))).heap[w2.heap.size+1]?=some (.cells #[.int .i64 u,.int .i64 ez] 31 (0,0)):=by rw [← hsX];exact World.alloc_heap_new _ _
   clear hX1 hBa
   obtain ⟨v,hv⟩:∃ v,f2 u ez=v:=⟨_,rfl⟩
   refine ⟨trivial,(CallsIn.inRound l (callsIn_wide.2 (qR hue hez hv _ (w2.heap.size+1) 31 hh))).mono ?_⟩
   rintro e w5 ⟨rfl,h5⟩
   obtain ⟨r1,r2,r3,r4,r4',r5,r6⟩:=oP (u:=u) (v:=v) (k:=k) (S:=W4.heap.size) (n:=w.heap.size) hbl HBB.out hE hEB hT h5 hbW.size hB0 hE0
   have hE5:w5.heap[E]?=some (.cells #[.int .i64 u] 31 (0,0)):=by have hs5:=h5.size;exact (h5.block E (by simp;omega)).trans ((((Below.refl _ X1).alloc (Nat.le_refl _) _).block E (by omega)).trans ((hT.block E hEB).trans ((((Below.refl _ w2).alloc (Nat.le_refl _) _).block E (by omega)).trans hE2)))
   have qE5:w5.cell? ⟨E,0,none⟩=some (.int .i64 u):=by simp [World.cell?,hE5]
   have rE5:w5.frozen? ⟨E,0,none⟩=false:=aW hE5 0
   have HF:KeepsFrom W4.heap.size W (w5.setCell ⟨E,0,none⟩ (.int .i64 v))∧Below w.heap.size W (w5.setCell ⟨E,0,none⟩ (.int .i64 v))∧InvE ev w k B E (w.heap.size+1) o1 o2 o3 x1 x2 x3 y1 y2 y3 z1 z2 z3 (pre ++ [2]) (w5.setCell ⟨E,0,none⟩ (.int .i64 v)) :=
    ⟨r5,r6,x',y',m,r1,fun h=>Vc.kext (Vc.kext (u0 (by simpa using h)) r4') r4,fun h=>Vc.kext (Vc.kext (u1 (by simpa using h)) r4') r4,fun _=>Vc.kext hm r4,(by rw [p2 pre,hu,hv];exact r2),(r3 _ hRlt hRB hRE).trans hR,Vc.kext (Vc.kext hk r4') r4,hbW.trans r6⟩
   have HG:=aH HF
   clear HF r1 r2 r3 r4 r4' r5 r6 hE5 hT hm hbl hB2 hE2 hE hR hk hbW u0 u1 u2 hh h5 hsX HW HU H2 hu hue
   gi_wp2
   exact HG.out
 case done =>
  rintro D ys W hD rfl ⟨x',y',z',hB,u0,u1,u2,hE,hR,hk,hbW⟩ hK
  rw [ev3] at hE
  have vx:=u0 (by simp)
  have vy:=u1 (by simp)
  have vz:=u2 (by simp)
  by_cases hZ0:zq=0
  ·subst hZ0
   have qE:W.cell? ⟨E,0,none⟩=some (.int .i64 0):=by simp [World.cell?,hE]
   have HW:=aH (aI hB (aI hR (aI hk (aI vx (aI vy (aI vz (aI hbW hK)))))))
   clear u0 u1 u2 hB hR hk vx vy vz hbW hK hE
   go_wp2_with fail
   refine wp_region_ty Kn [w.heap.size+1] (by kernel_rfl) (by kernel_rfl) ?_
   refine bQ (.agg (frL k x' y' z').toArray) rfl (fun A w' hB hk=>?_) ?_
   ·simp [known,specOf,Kd.spec,Sp.is,isVar,Oper.looksAt,Op.operands,Call.operands,Act.eval] at hk
    exact load_all rfl (by first|exact hk|simpa [Act.eval] using hk) (hB.blk HW.out.1 (by simp;omega)) Tryz.underlying74 rfl (by kernel_rfl)
   refine bQ (.agg (frL k x' y' z').toArray) rfl (fun A w' hB hk=>?_) ?_
   ·simp [known,specOf,Kd.spec,Sp.is,isVar,Oper.looksAt,Op.operands,Call.operands,Act.eval] at hk
    exact load_all rfl (by first|exact hk|simpa [Act.eval] using hk) (hB.blk HW.out.1 (by simp;omega)) Tryz.underlying74 rfl (by kernel_rfl)
   refine aO (Sp.is (.int .i64 zc)) (Sp.is_stable _ _) rfl (fun A w' hB hk=>?_) ?_
   ·simp [known,specOf,Kd.spec,Sp.is,isVar,Oper.looksAt,Op.operands,Call.operands,Act.eval] at hk
    simp [go_sem,hk]
    refine aG ?_
    have hx:=Base.extT hB HW.out.2.1 (mH _ _ _ _ _)
    exact (HC.out (by first|trivial|rfl) _ _ _ _ _ (Vc.kext HW.out.2.2.1 hx) (Vc.kext HW.out.2.2.2.1 hx) (Vc.kext HW.out.2.2.2.2.1 hx) (Vc.kext HW.out.2.2.2.2.2.1 hx)).mono (fun e w'' ⟨e1,e2⟩=>⟨_,e1,e2,rfl⟩)
   refine gR (w.heap.size+1) (.cells (frL C9.zero C9.zero C9.zero C9.zero).toArray 74 (0,0)) (fun o _=>o = .cells (frL k x' y' z').toArray 74 (0,0)) (fun _ _ _ h _=>h) rfl rfl (by simp) HW.out.2.1 (mH _ _ _ _ _) (fun A w' hB hk h0=>?_) ?_
   ·simp [known,specOf,Kd.spec,Sp.is,isVar,Oper.looksAt,Op.operands,Call.operands,Act.eval] at hk
    have hst:=lB (P:=Tryz.prog) (ρ:=A.eval) (w:=w') (o := { dst:=none,op:=Op.store 74 (Operand.tmp 2) (Operand.tmp 40),type:=0,pos := "frame.go:38",after := #[{ on:=0,ground:=Ground.data },{ on:=2,ground:=Ground.chain },{ on:=0,ground:=Ground.phase },{ on:=1,ground:=Ground.textOnly Departure.lateStores },{ on:=2,ground:=Ground.textOnly Departure.lateStoresUnsure }],guard:=none }) (T':=74) (g:=w.heap.size+1) (off:=0) (n:=36) (cs:=frL C9.zero C9.zero C9.zero C9.zero) (es:=frL k x' y' z') rfl (by simp [Act.eval,hk]) (by simp [Act.eval,hk,Value.cells]) (by kernel_rfl) rfl (frL_one _ _ _ _) h0 (show 0+36≤36 by omega)
    have e:List.take 0 (frL C9.zero C9.zero C9.zero C9.zero)++frL k x' y' z'++List.drop (0+(frL k x' y' z').length) (frL C9.zero C9.zero C9.zero C9.zero)=frL k x' y' z':=by kernel_rfl
    rw [e] at hst
    rw [hst.1]
    exact ⟨_,⟨hst.2.os,hst.2.tape,hst.2.output,hst.2.size,hst.2.at_,hst.2.block⟩,rfl⟩
   refine aV _ ?_ (by first|exact .inl rfl|exact .inr rfl) (by rfl) (by simp [specOf,Kd.spec];rfl) ?_ rfl ?_
   ·exact Sp.is_stable _ _
   refine ⟨by first|rfl|decide,fun f w2 hB hF hAp=>?_⟩;simp [Final1,Sp.is,isVar] at hF;simp only [frameOf]
   obtain ⟨f3,hw2,_,_,_⟩:=hF
   have hDR:¬ D=w.heap.size+1:=by
    intro e
    have h1:=HW.out.2.1
    have h2:=HW.out.2.2.2.2.2.2.2
    rw [e,h1] at h2
    injection h2 with h2
    cases h2
   have hK2:=hB.blk HW.out.2.2.2.2.2.2.2 (by simp;omega)
   have HV:=aH (aI hw2 (aI hB hK2))
   clear hAp
   have HBB:=aH hB
   clear hB
   go_wp2
   have hB:=HBB.out
   refine ⟨by simp,.inl ⟨_,_,rfl,run_takeDeferred hK2,?_⟩⟩
   have hg5:(w2.putObj D (.deferred none)).heap[w.heap.size+1]?=some (.cells (frL k x' y' z').toArray 74 (0,0)):=(World.putObj_heap_other (by omega)).trans hw2
   have hl:=run_loadVar_mid (P:=Tryz.prog) (w2.putObj D (.deferred none)) (w.heap.size+1) 0 74 (((frL k x' y' z').drop 0).take 36) _ (qW hg5 0 36) Tryz.underlying74 rfl (by kernel_rfl)
   have e36:((frL k x' y' z').drop 0).take 36=frL k x' y' z':=by kernel_rfl
   rw [e36] at hl
   have hbe:=Base.belowT hB HW.out.2.2.2.2.2.2.1 (by omega)
   have hx1:=Base.extT hB HW.out.2.1 (mH _ _ _ _ _)
   have hx2:Go.Proofs.YtejbgingjeedaaaGreatDoor.Ext Kn w2 (w2.putObj D (.deferred none)):=tV (grownBy_putObj' w2 D _) (fun r e=>by cases e;exact ⟨_,hK2,rfl⟩)
   have hDw:w.heap.size≤D:=by omega
   refine ⟨.tuple #[.agg (frL k x' y' z').toArray,.int .i64 zc],?_,k,x',y',z',rfl,Vc.kext (Vc.kext HW.out.2.2.1 hx1) hx2,Vc.kext (Vc.kext HW.out.2.2.2.1 hx1) hx2,Vc.kext (Vc.kext HW.out.2.2.2.2.1 hx1) hx2,Vc.kext (Vc.kext HW.out.2.2.2.2.2.1 hx1) hx2,hbe.trans (belowK_b (w:=w) (Nat.le_refl _) w2 D _ _ hDw hK2 rfl rfl)⟩
   refine (kD (vs := [.agg (frL k x' y' z').toArray,.int .i64 zc]) ?_).trans rfl
   show (List.mapM (wK _) [.cell 2 74,.tmp 3]).run _ _=_
   simp [List.mapM_cons,wK,Act.put,asAddr,Sem.run_bind,Result.andThen,hl,f3]
  ·have n1:(zq==0)=false:=by rw [beq_eq_false_iff_ne];exact hZ0
   have qE:W.cell? ⟨E,0,none⟩=some (.int .i64 zq):=by simp [World.cell?,hE]
   have HW:=aH (aI hE (aI hR (aI hk (aI vx (aI vy (aI vz (aI hbW hK)))))))
   clear u0 u1 u2 hB hR hk vx vy vz hbW hK hE
   go_wp2_with fail
   refine wp_region_ty Kn [w.heap.size+1] (by kernel_rfl) (by kernel_rfl) ?_
   refine bQ (.agg (frL C9.zero C9.zero C9.zero C9.zero).toArray) rfl (fun A w' hB hk=>?_) ?_
   ·refine bJ ?_
    exact bT (by kernel_rfl) _
   refine bQ (.int .i64 zq) rfl (fun A w' hB hk=>?_) ?_
   ·simp [known,specOf,Kd.spec,Sp.is,isVar,Oper.looksAt,Op.operands,Call.operands,Act.eval] at hk
    have hc:=hB.blk HW.out.1 (by simp;omega)
    have hc:w'.cell? ⟨E,0,none⟩=some (.int .i64 zq):=by simp [World.cell?,hc]
    simp [go_sem,hk,hc]
   refine gR (w.heap.size+1) (.cells (frL C9.zero C9.zero C9.zero C9.zero).toArray 74 (0,0)) (fun o _=>o = .cells (frL C9.zero C9.zero C9.zero C9.zero).toArray 74 (0,0)) (fun _ _ _ h _=>h) rfl rfl (by simp) HW.out.2.1 (mH _ _ _ _ _) (fun A w' hB hk h0=>?_) ?_
   ·simp [known,specOf,Kd.spec,Sp.is,isVar,Oper.looksAt,Op.operands,Call.operands,Act.eval] at hk
    have hst:=lB (P:=Tryz.prog) (ρ:=A.eval) (w:=w') (o := { dst:=none,op:=Op.store 74 (Operand.tmp 2) (Operand.tmp 38),type:=0,pos := "frame.go:36",after := #[{ on:=0,ground:=Ground.data },{ on:=0,ground:=Ground.phase },{ on:=1,ground:=Ground.textOnly Departure.lateStores }],guard:=none }) (T':=74) (g:=w.heap.size+1) (off:=0) (n:=36) (cs:=frL C9.zero C9.zero C9.zero C9.zero) (es:=frL C9.zero C9.zero C9.zero C9.zero) rfl (by simp [Act.eval,hk]) (by simp [Act.eval,hk,Value.cells]) (by kernel_rfl) rfl (frL_one _ _ _ _) h0 (show 0+36≤36 by omega)
    have e:List.take 0 (frL C9.zero C9.zero C9.zero C9.zero)++frL C9.zero C9.zero C9.zero C9.zero++List.drop (0+(frL C9.zero C9.zero C9.zero C9.zero).length) (frL C9.zero C9.zero C9.zero C9.zero)=frL C9.zero C9.zero C9.zero C9.zero:=by kernel_rfl
    rw [e] at hst
    rw [hst.1]
    exact ⟨_,⟨hst.2.os,hst.2.tape,hst.2.output,hst.2.size,hst.2.at_,hst.2.block⟩,rfl⟩
   refine aV _ ?_ (by first|exact .inl rfl|exact .inr rfl) (by rfl) (by simp [specOf,Kd.spec];rfl) ?_ rfl ?_
   ·exact Sp.is_stable _ _
   refine ⟨by first|rfl|decide,fun f w2 hB hF hAp=>?_⟩;simp [Final1,Sp.is,isVar] at hF;simp only [frameOf]
   obtain ⟨f3,hw2,_⟩:=hF
   have hDR:¬ D=w.heap.size+1:=by
    intro e
    have h1:=HW.out.2.1
    have h2:=HW.out.2.2.2.2.2.2.2
    rw [e,h1] at h2
    injection h2 with h2
    cases h2
   have hK2:=hB.blk HW.out.2.2.2.2.2.2.2 (by simp;omega)
   have HV:=aH (aI hw2 (aI hB hK2))
   clear hAp
   have HBB:=aH hB
   clear hB
   go_wp2
   have hB:=HBB.out
   refine ⟨by simp,.inl ⟨_,_,rfl,run_takeDeferred hK2,?_⟩⟩
   have hg5:(w2.putObj D (.deferred none)).heap[w.heap.size+1]?=some (.cells (frL C9.zero C9.zero C9.zero C9.zero).toArray 74 (0,0)):=(World.putObj_heap_other (by omega)).trans hw2
   have hl:=run_loadVar_mid (P:=Tryz.prog) (w2.putObj D (.deferred none)) (w.heap.size+1) 0 74 (((frL C9.zero C9.zero C9.zero C9.zero).drop 0).take 36) _ (qW hg5 0 36) Tryz.underlying74 rfl (by kernel_rfl)
   have e36:((frL C9.zero C9.zero C9.zero C9.zero).drop 0).take 36=frL C9.zero C9.zero C9.zero C9.zero:=by kernel_rfl
   rw [e36] at hl
   have hbe:=Base.belowT hB HW.out.2.2.2.2.2.2.1 (by omega)
   have hx1:=Base.extT hB HW.out.2.1 (mH _ _ _ _ _)
   have hx2:Go.Proofs.YtejbgingjeedaaaGreatDoor.Ext Kn w2 (w2.putObj D (.deferred none)):=tV (grownBy_putObj' w2 D _) (fun r e=>by cases e;exact ⟨_,hK2,rfl⟩)
   have hDw:w.heap.size≤D:=by omega
   refine ⟨.tuple #[.agg (frL C9.zero C9.zero C9.zero C9.zero).toArray,.int .i64 zq],?_,rfl,⟨k,Vc.kext (Vc.kext HW.out.2.2.1 hx1) hx2⟩,⟨x',Vc.kext (Vc.kext HW.out.2.2.2.1 hx1) hx2⟩,⟨y',Vc.kext (Vc.kext HW.out.2.2.2.2.1 hx1) hx2⟩,⟨z',Vc.kext (Vc.kext HW.out.2.2.2.2.2.1 hx1) hx2⟩,hbe.trans (belowK_b (w:=w) (Nat.le_refl _) w2 D _ _ hDw hK2 rfl rfl)⟩
   refine (kD (vs := [.agg (frL C9.zero C9.zero C9.zero C9.zero).toArray,.int .i64 zq]) ?_).trans rfl
   show (List.mapM (wK _) [.cell 2 74,.tmp 3]).run _ _=_
   simp [List.mapM_cons,wK,Act.put,asAddr,Sem.run_bind,Result.andThen,hl,f3]
 case stop=>rintro D c pre W _ _ h _;exact h.elim
end Go.Proofs.YtejbgingjeedaaaGreatDoor.Fr
namespace Go.Proofs.YtejbgingjeedaaaGreatDoor.Fr
open Go.RowKit Go.Shelf Go.Proofs.YtejbgingjeedaaaGreatDoor Go.Proofs.YtejbgingjeedaaaGreatDoor.Ab Pl
set_option maxRecDepth 100000 in
theorem yU (o1 o2 o3 x1 x2 x3 y1 y2 y3 z1 z2 z3:Rat) (ho:kA o1 o2 o3) (hx:kA x1 x2 x3) (hy:kA y1 y2 y3) (hz:kA z1 z2 z3) (lm:Lm 25 x1 x2 x3 y1 y2 y3 z1 z2 z3) (hax:Ax x1 x2 x3 y1 y2 y3 z1 z2 z3) (w:World) (hG:Gl w) :
 Calls Tryz.prog 35 #[.agg #[.string (writeB o1),.string (writeB o2),.string (writeB o3),.string (writeB x1),.string (writeB x2),.string (writeB x3),.string (writeB y1),.string (writeB y2),.string (writeB y3),.string (writeB z1),.string (writeB z2),.string (writeB z3)]] w fun e w' => ∃ o x y z:C9,e = .returned (.tuple #[.agg (frL o x y z).toArray,.int .i64 0])∧Vc w' o.val o1 o2 o3∧Vc w' x.val x1 x2 x3∧Vc w' y.val y1 y2 y3∧Vc w' z.val z1 z2 z3∧Below w.heap.size w w':=by
 have h:=readFrame_gen (writeB o1) (writeB o2) (writeB o3) (writeB x1) (writeB x2) (writeB x3) (writeB y1) (writeB y2) (writeB y3) (writeB z1) (writeB z2) (writeB z3) o1 o2 o3 x1 x2 x3 y1 y2 y3 z1 z2 z3 0 0 0 0 0 0
  (.inl rfl) (.inl rfl) (.inl rfl) (.inl rfl) rfl (fun W hW=>kM ho W hW) (fun W hW=>kM hx W hW) (fun W hW=>kM hy W hW) (fun W hW=>kM hz W hW)
  (fun _ _ _ _ _ _ v0 v1 v2 v3=>check_any v0 v1 v2 v3 lm hax) w hG
 rw [if_pos rfl] at h
 simpa only [if_true] using h
theorem holds_txt {β:List Nat} {w:World}:∀ (l:List ByteArray) (cs:List Value),holdsL β (l.map bY) cs w→cs=l.map Value.string
 | [],cs,h=>h
 | b::l,cs,⟨x,y,e,h1,h2⟩=>by
   have h1:x = [.string b]:=h1
   rw [e,h1,holds_txt l y h2]
   rfl
section
variable {o1 o2 o3 x1 x2 x3 y1 y2 y3 z1 z2 z3:Rat}
theorem readFrameF (h:Wf o1 o2 o3 x1 x2 x3 y1 y2 y3 z1 z2 z3) (hax:Ax x1 x2 x3 y1 y2 y3 z1 z2 z3):FitsW Tryz.prog Gl 35 [gW o1 o2 o3 x1 x2 x3 y1 y2 y3 z1 z2 z3] (okFr o1 o2 o3 x1 x2 x3 y1 y2 y3 z1 z2 z3):=by
 intro β w vs hG hv
 obtain ⟨v,rfl,cs,rfl,h1⟩:=dE hv
 have e:=holds_txt [writeB o1,writeB o2,writeB o3,writeB x1,writeB x2,writeB x3,writeB y1,writeB y2,writeB y3,writeB z1,writeB z2,writeB z3] cs h1
 rw [e]
 refine (yU o1 o2 o3 x1 x2 x3 y1 y2 y3 z1 z2 z3 h.o h.x h.y h.z (h.lm.mono (by decide)) hax w hG).mono ?_
 rintro e w' ⟨o,x,y,z,e1,v0,v1,v2,v3,hb⟩
 exact ⟨_,e1,hb,[.agg (frL o x y z).toArray,.int .i64 0],rfl,_,_,rfl,fr_holds v0 v1 v2 v3,_,_,rfl,⟨rfl,rfl⟩,rfl⟩
theorem fv_of (h:Wf o1 o2 o3 x1 x2 x3 y1 y2 y3 z1 z2 z3) (hax:Ax x1 x2 x3 y1 y2 y3 z1 z2 z3):Fv o1 o2 o3 x1 x2 x3 y1 y2 y3 z1 z2 z3:=⟨h,hax,readFrameF h hax⟩
end
end Go.Proofs.YtejbgingjeedaaaGreatDoor.Fr
namespace Go.Proofs.YtejbgingjeedaaaGreatDoor.Ab
open Go.RowKit Go.Proofs.YtejbgingjeedaaaGreatDoor Pl
inductive AvL:List (AV Kn)→List (AV Kn)→Prop where
 | nil:AvL [] []
 | ag {k m l l'}:LitL k m→AvL l l'→AvL (.fv (.ag k)::l) (.fv (.ag m)::l')
 | txt {b:ByteArray} {l l'}:AvL l l'→AvL (.fv (.sc (bY b))::l) (.fv (.sc (.lit (.string b)))::l')
 | same {x:AV Kn} {l l'}:AvL l l'→AvL (x::l) (x::l')
theorem AvL.to {β:List Nat} {w:World} {l m:List (AV Kn)} (h:AvL l m):∀ {vs:List Value},holdsA β m vs w→holdsA β l vs w:=by
 induction h with
 | nil=>intro vs h;exact h
 | ag hl _ ih=>rintro vs ⟨v,r,e,h1,h2⟩;exact ⟨v,r,e,(ag_lit hl).2 h1,ih h2⟩
 | txt _ ih=>rintro vs ⟨v,r,e,h1,h2⟩;exact ⟨v,r,e,sc_lit.2 h1,ih h2⟩
 | same _ ih=>rintro vs ⟨v,r,e,h1,h2⟩;exact ⟨v,r,e,h1,ih h2⟩
inductive FvL:List (FV Kn)→List (FV Kn)→Prop where
 | nil:FvL [] []
 | ag {k m l l'}:LitL k m→FvL l l'→FvL (.ag k::l) (.ag m::l')
 | txt {b:ByteArray} {l l'}:FvL l l'→FvL (.sc (bY b)::l) (.sc (.lit (.string b))::l')
 | same {x:FV Kn} {l l'}:FvL l l'→FvL (x::l) (x::l')
theorem FvL.to {β:List Nat} {w:World} {l m:List (FV Kn)} (h:FvL l m):∀ {vs:List Value},holdsF β l vs w→holdsF β m vs w:=by
 induction h with
 | nil=>intro vs h;exact h
 | ag hl _ ih=>rintro vs ⟨v,r,e,h1,h2⟩;exact ⟨v,r,e,(ag_lit hl).1 h1,ih h2⟩
 | txt _ ih=>rintro vs ⟨v,r,e,h1,h2⟩;exact ⟨v,r,e,(sc_lit (β:=β)).1 h1,ih h2⟩
 | same _ ih=>rintro vs ⟨v,r,e,h1,h2⟩;exact ⟨v,r,e,h1,ih h2⟩
theorem FitsW.lits {P:Program} {I:World→Prop} {f:FuncId} {l l' : List (AV Kn)} {r r' : List (FV Kn)} (h:FitsW P I f l (.tup r)) (ha:AvL l l') (hr:FvL r r'):FitsW P I f l' (.tup r') :=
 (h.args fun _ _ _ hv=>ha.to hv).res fun _ _ _ ⟨vs,e,hv⟩=>⟨vs,e,hr.to hv⟩
theorem Fits.lits {P:Program} {f:FuncId} {l l' : List (AV Kn)} {k m:List (Seg Kn)} (h:Fits P f l (.fv (.ag k))) (ha:AvL l l') (hr:LitL k m):Fits P f l' (.fv (.ag m)):=fun β w vs hv =>
 (h β w vs (ha.to hv)).mono fun e w' ⟨v,e1,e2,e3⟩=>⟨v,e1,e2,(ag_lit hr).1 e3⟩
theorem vc_eq {P:Program} {f:FuncId} {l:List (AV Kn)} {a b c a' b' c' : Rat} (h:Fits P f l (vc a b c)) (e1:a=a') (e2:b=b') (e3:c=c'):Fits P f l (vc a' b' c'):=by
 subst e1
 subst e2
 subst e3
 exact h
theorem wr_q {q:Rat} (hn:q.num.natAbs<1000000000) (hd:q.den<1000000000):Wr q :=
 ⟨Nat.le_trans (decB_size (k:=8) hn) (by decide),Nat.le_trans (decB_size (k:=8) hd) (by decide)⟩
theorem oQ {z:Int} (h:z.natAbs<1000000000):Wr (z:Rat):=wr_q h (show 1<1000000000 by omega)
theorem jX {q:Rat} {n:Int} {d:Nat} {a b:ByteArray} (hn:q.num=n) (hd:q.den=d) (h1:d≠1) (ha:aQ n=a) (hb:decB d=b):writeB q=a++(⟨#[47]⟩++b):=by
 rw [fF (by rw [hd];exact h1),hn,hd,ha,hb]
theorem x0:writeB ((0:Int):Rat)=⟨#[48]⟩:=dD (by omega) (bN (n:=0) (by omega))
theorem x1:writeB ((1:Int):Rat)=⟨#[49]⟩:=dD (by omega) (bN (n:=1) (by omega))
theorem x2:writeB ((2:Int):Rat)=⟨#[50]⟩:=dD (by omega) (bN (n:=2) (by omega))
theorem x3:writeB ((3:Int):Rat)=⟨#[51]⟩:=dD (by omega) (bN (n:=3) (by omega))
theorem x4:writeB ((4:Int):Rat)=⟨#[52]⟩:=dD (by omega) (bN (n:=4) (by omega))
theorem x5:writeB ((5:Int):Rat)=⟨#[53]⟩:=dD (by omega) (bN (n:=5) (by omega))
theorem x7:writeB ((7:Int):Rat)=⟨#[55]⟩:=dD (by omega) (bN (n:=7) (by omega))
theorem x10:writeB ((10:Int):Rat)=⟨#[49,48]⟩:=dD (by omega) (mG (n:=10) (by omega) (by omega))
theorem x24:writeB ((24:Int):Rat)=⟨#[50,52]⟩:=dD (by omega) (mG (n:=24) (by omega) (by omega))
theorem x25:writeB ((25:Int):Rat)=⟨#[50,53]⟩:=dD (by omega) (mG (n:=25) (by omega) (by omega))
theorem x28:writeB ((28:Int):Rat)=⟨#[50,56]⟩:=dD (by omega) (mG (n:=28) (by omega) (by omega))
theorem x30:writeB ((30:Int):Rat)=⟨#[51,48]⟩:=dD (by omega) (mG (n:=30) (by omega) (by omega))
theorem xm1:writeB ((-1:Int):Rat)=⟨#[45,49]⟩:=(fQ (z := -1) (by omega) (b:=⟨#[49]⟩) (by rw [show Int.natAbs (-1)=1 from rfl];exact bN (n:=1) (by omega))).trans (ba_ext rfl)
theorem xm2:writeB ((-2:Int):Rat)=⟨#[45,50]⟩:=(fQ (z := -2) (by omega) (b:=⟨#[50]⟩) (by rw [show Int.natAbs (-2)=2 from rfl];exact bN (n:=2) (by omega))).trans (ba_ext rfl)
theorem xm4:writeB ((-4:Int):Rat)=⟨#[45,52]⟩:=(fQ (z := -4) (by omega) (b:=⟨#[52]⟩) (by rw [show Int.natAbs (-4)=4 from rfl];exact bN (n:=4) (by omega))).trans (ba_ext rfl)
theorem xm7:writeB ((-7:Int):Rat)=⟨#[45,55]⟩:=(fQ (z := -7) (by omega) (b:=⟨#[55]⟩) (by rw [show Int.natAbs (-7)=7 from rfl];exact bN (n:=7) (by omega))).trans (ba_ext rfl)
theorem xm24:writeB ((-24:Int):Rat)=⟨#[45,50,52]⟩:=(fQ (z := -24) (by omega) (b:=⟨#[50,52]⟩) (by rw [show Int.natAbs (-24)=24 from rfl];exact mG (n:=24) (by omega) (by omega))).trans (ba_ext rfl)
theorem r0:Wr ((0:Int):Rat):=oQ (by decide)
theorem r1:Wr ((1:Int):Rat):=oQ (by decide)
theorem r2:Wr ((2:Int):Rat):=oQ (by decide)
theorem r3:Wr ((3:Int):Rat):=oQ (by decide)
theorem r4:Wr ((4:Int):Rat):=oQ (by decide)
theorem r5:Wr ((5:Int):Rat):=oQ (by decide)
theorem r7:Wr ((7:Int):Rat):=oQ (by decide)
theorem r10:Wr ((10:Int):Rat):=oQ (by decide)
theorem r24:Wr ((24:Int):Rat):=oQ (by decide)
theorem r25:Wr ((25:Int):Rat):=oQ (by decide)
theorem r28:Wr ((28:Int):Rat):=oQ (by decide)
theorem r30:Wr ((30:Int):Rat):=oQ (by decide)
theorem rm1:Wr ((-1:Int):Rat):=oQ (by decide)
theorem rm2:Wr ((-2:Int):Rat):=oQ (by decide)
theorem rm4:Wr ((-4:Int):Rat):=oQ (by decide)
theorem rm7:Wr ((-7:Int):Rat):=oQ (by decide)
theorem rm24:Wr ((-24:Int):Rat):=oQ (by decide)
theorem nh12:(mkRat (1) 2).num=1:=by kernel_rfl
theorem dh12:(mkRat (1) 2).den=2:=by kernel_rfl
theorem xh12:writeB (mkRat (1) 2)=⟨#[49,47,50]⟩:=(jX nh12 dh12 (by decide) (a:=⟨#[49]⟩) ((dI (1)).trans x1) (bN (n:=2) (by omega))).trans (ba_ext rfl)
theorem rh12:Wr (mkRat (1) 2):=wr_q (by rw [nh12];decide) (by rw [dh12];decide)
theorem nm13:(mkRat (-1) 3).num = -1:=by kernel_rfl
theorem dm13:(mkRat (-1) 3).den=3:=by kernel_rfl
theorem xm13:writeB (mkRat (-1) 3)=⟨#[45,49,47,51]⟩:=(jX nm13 dm13 (by decide) (a:=⟨#[45,49]⟩) ((dI (-1)).trans xm1) (bN (n:=3) (by omega))).trans (ba_ext rfl)
theorem rm13:Wr (mkRat (-1) 3):=wr_q (by rw [nm13];decide) (by rw [dm13];decide)
theorem nq252:(mkRat (25) 2).num=25:=by kernel_rfl
theorem dq252:(mkRat (25) 2).den=2:=by kernel_rfl
theorem xq252:writeB (mkRat (25) 2)=⟨#[50,53,47,50]⟩:=(jX nq252 dq252 (by decide) (a:=⟨#[50,53]⟩) ((dI (25)).trans x25) (bN (n:=2) (by omega))).trans (ba_ext rfl)
theorem rq252:Wr (mkRat (25) 2):=wr_q (by rw [nq252];decide) (by rw [dq252];decide)
theorem nm12:(mkRat (-1) 2).num = -1:=by kernel_rfl
theorem dm12:(mkRat (-1) 2).den=2:=by kernel_rfl
theorem xm12:writeB (mkRat (-1) 2)=⟨#[45,49,47,50]⟩:=(jX nm12 dm12 (by decide) (a:=⟨#[45,49]⟩) ((dI (-1)).trans xm1) (bN (n:=2) (by omega))).trans (ba_ext rfl)
theorem rm12:Wr (mkRat (-1) 2):=wr_q (by rw [nm12];decide) (by rw [dm12];decide)
theorem nq23:(mkRat (2) 3).num=2:=by kernel_rfl
theorem dq23:(mkRat (2) 3).den=3:=by kernel_rfl
theorem xq23:writeB (mkRat (2) 3)=⟨#[50,47,51]⟩:=(jX nq23 dq23 (by decide) (a:=⟨#[50]⟩) ((dI (2)).trans x2) (bN (n:=3) (by omega))).trans (ba_ext rfl)
theorem rq23:Wr (mkRat (2) 3):=wr_q (by rw [nq23];decide) (by rw [dq23];decide)
theorem lv_2_0_4:Fits Tryz.prog 22 [it (2),it (0),it (4)] (.fv (.ag [.lit (.string ⟨#[50]⟩),.lit (.string ⟨#[48]⟩),.lit (.string ⟨#[52]⟩)]):AV Kn):=by
 have h:=dM (a:=2) (b:=0) (c:=4) (by constructor <;> omega) (by constructor <;> omega) (by constructor <;> omega)
 simp only [vS,uQ,fX,qV,hS,gW,gF,x0,x2,x4] at h
 exact h.lits (.same (.same (.same .nil))) (.txt (.txt (.txt .nil)))
theorem lv_m1_0_m2:Fits Tryz.prog 22 [it (-1),it (0),it (-2)] (.fv (.ag [.lit (.string ⟨#[45,49]⟩),.lit (.string ⟨#[48]⟩),.lit (.string ⟨#[45,50]⟩)]):AV Kn):=by
 have h:=dM (a := -1) (b:=0) (c := -2) (by constructor <;> omega) (by constructor <;> omega) (by constructor <;> omega)
 simp only [vS,uQ,fX,qV,hS,gW,gF,x0,xm1,xm2] at h
 exact h.lits (.same (.same (.same .nil))) (.txt (.txt (.txt .nil)))
theorem lv_1_0_0:Fits Tryz.prog 22 [it (1),it (0),it (0)] (.fv (.ag [.lit (.string ⟨#[49]⟩),.lit (.string ⟨#[48]⟩),.lit (.string ⟨#[48]⟩)]):AV Kn):=by
 have h:=dM (a:=1) (b:=0) (c:=0) (by constructor <;> omega) (by constructor <;> omega) (by constructor <;> omega)
 simp only [vS,uQ,fX,qV,hS,gW,gF,x0,x1] at h
 exact h.lits (.same (.same (.same .nil))) (.txt (.txt (.txt .nil)))
theorem lv_0_1_0:Fits Tryz.prog 22 [it (0),it (1),it (0)] (.fv (.ag [.lit (.string ⟨#[48]⟩),.lit (.string ⟨#[49]⟩),.lit (.string ⟨#[48]⟩)]):AV Kn):=by
 have h:=dM (a:=0) (b:=1) (c:=0) (by constructor <;> omega) (by constructor <;> omega) (by constructor <;> omega)
 simp only [vS,uQ,fX,qV,hS,gW,gF,x0,x1] at h
 exact h.lits (.same (.same (.same .nil))) (.txt (.txt (.txt .nil)))
theorem lv_0_0_1:Fits Tryz.prog 22 [it (0),it (0),it (1)] (.fv (.ag [.lit (.string ⟨#[48]⟩),.lit (.string ⟨#[48]⟩),.lit (.string ⟨#[49]⟩)]):AV Kn):=by
 have h:=dM (a:=0) (b:=0) (c:=1) (by constructor <;> omega) (by constructor <;> omega) (by constructor <;> omega)
 simp only [vS,uQ,fX,qV,hS,gW,gF,x0,x1] at h
 exact h.lits (.same (.same (.same .nil))) (.txt (.txt (.txt .nil)))
theorem lv_0_0_0:Fits Tryz.prog 22 [it (0),it (0),it (0)] (.fv (.ag [.lit (.string ⟨#[48]⟩),.lit (.string ⟨#[48]⟩),.lit (.string ⟨#[48]⟩)]):AV Kn):=by
 have h:=dM (a:=0) (b:=0) (c:=0) (by constructor <;> omega) (by constructor <;> omega) (by constructor <;> omega)
 simp only [vS,uQ,fX,qV,hS,gW,gF,x0] at h
 exact h.lits (.same (.same (.same .nil))) (.txt (.txt (.txt .nil)))
theorem lv_1_1_1:Fits Tryz.prog 22 [it (1),it (1),it (1)] (.fv (.ag [.lit (.string ⟨#[49]⟩),.lit (.string ⟨#[49]⟩),.lit (.string ⟨#[49]⟩)]):AV Kn):=by
 have h:=dM (a:=1) (b:=1) (c:=1) (by constructor <;> omega) (by constructor <;> omega) (by constructor <;> omega)
 simp only [vS,uQ,fX,qV,hS,gW,gF,x1] at h
 exact h.lits (.same (.same (.same .nil))) (.txt (.txt (.txt .nil)))
theorem lv_1_1_0:Fits Tryz.prog 22 [it (1),it (1),it (0)] (.fv (.ag [.lit (.string ⟨#[49]⟩),.lit (.string ⟨#[49]⟩),.lit (.string ⟨#[48]⟩)]):AV Kn):=by
 have h:=dM (a:=1) (b:=1) (c:=0) (by constructor <;> omega) (by constructor <;> omega) (by constructor <;> omega)
 simp only [vS,uQ,fX,qV,hS,gW,gF,x0,x1] at h
 exact h.lits (.same (.same (.same .nil))) (.txt (.txt (.txt .nil)))
theorem lv_0_7_5:Fits Tryz.prog 22 [it (0),it (7),it (5)] (.fv (.ag [.lit (.string ⟨#[48]⟩),.lit (.string ⟨#[55]⟩),.lit (.string ⟨#[53]⟩)]):AV Kn):=by
 have h:=dM (a:=0) (b:=7) (c:=5) (by constructor <;> omega) (by constructor <;> omega) (by constructor <;> omega)
 simp only [vS,uQ,fX,qV,hS,gW,gF,x0,x5,x7] at h
 exact h.lits (.same (.same (.same .nil))) (.txt (.txt (.txt .nil)))
theorem lv_m1_0_0:Fits Tryz.prog 22 [it (-1),it (0),it (0)] (.fv (.ag [.lit (.string ⟨#[45,49]⟩),.lit (.string ⟨#[48]⟩),.lit (.string ⟨#[48]⟩)]):AV Kn):=by
 have h:=dM (a := -1) (b:=0) (c:=0) (by constructor <;> omega) (by constructor <;> omega) (by constructor <;> omega)
 simp only [vS,uQ,fX,qV,hS,gW,gF,x0,xm1] at h
 exact h.lits (.same (.same (.same .nil))) (.txt (.txt (.txt .nil)))
theorem lv_4_4_0:Fits Tryz.prog 22 [it (4),it (4),it (0)] (.fv (.ag [.lit (.string ⟨#[52]⟩),.lit (.string ⟨#[52]⟩),.lit (.string ⟨#[48]⟩)]):AV Kn):=by
 have h:=dM (a:=4) (b:=4) (c:=0) (by constructor <;> omega) (by constructor <;> omega) (by constructor <;> omega)
 simp only [vS,uQ,fX,qV,hS,gW,gF,x0,x4] at h
 exact h.lits (.same (.same (.same .nil))) (.txt (.txt (.txt .nil)))
theorem lv_m7_24_0:Fits Tryz.prog 22 [it (-7),it (24),it (0)] (.fv (.ag [.lit (.string ⟨#[45,55]⟩),.lit (.string ⟨#[50,52]⟩),.lit (.string ⟨#[48]⟩)]):AV Kn):=by
 have h:=dM (a := -7) (b:=24) (c:=0) (by constructor <;> omega) (by constructor <;> omega) (by constructor <;> omega)
 simp only [vS,uQ,fX,qV,hS,gW,gF,x0,x24,xm7] at h
 exact h.lits (.same (.same (.same .nil))) (.txt (.txt (.txt .nil)))
theorem lv_5_5_0:Fits Tryz.prog 22 [it (5),it (5),it (0)] (.fv (.ag [.lit (.string ⟨#[53]⟩),.lit (.string ⟨#[53]⟩),.lit (.string ⟨#[48]⟩)]):AV Kn):=by
 have h:=dM (a:=5) (b:=5) (c:=0) (by constructor <;> omega) (by constructor <;> omega) (by constructor <;> omega)
 simp only [vS,uQ,fX,qV,hS,gW,gF,x0,x5] at h
 exact h.lits (.same (.same (.same .nil))) (.txt (.txt (.txt .nil)))
theorem lv_10_7_1:Fits Tryz.prog 22 [it (10),it (7),it (1)] (.fv (.ag [.lit (.string ⟨#[49,48]⟩),.lit (.string ⟨#[55]⟩),.lit (.string ⟨#[49]⟩)]):AV Kn):=by
 have h:=dM (a:=10) (b:=7) (c:=1) (by constructor <;> omega) (by constructor <;> omega) (by constructor <;> omega)
 simp only [vS,uQ,fX,qV,hS,gW,gF,x1,x10,x7] at h
 exact h.lits (.same (.same (.same .nil))) (.txt (.txt (.txt .nil)))
theorem lframe:Fits Tryz.prog 26 ([]:List (AV Kn)) (.fv (.ag [.lit (.string ⟨#[49]⟩),.lit (.string ⟨#[48]⟩),.lit (.string ⟨#[48]⟩),.lit (.string ⟨#[51]⟩),.lit (.string ⟨#[52]⟩),.lit (.string ⟨#[48]⟩),.lit (.string ⟨#[45,52]⟩),.lit (.string ⟨#[51]⟩),.lit (.string ⟨#[48]⟩),.lit (.string ⟨#[48]⟩),.lit (.string ⟨#[48]⟩),.lit (.string ⟨#[53]⟩)]):AV Kn):=by
 have h:=lawFrameF
 simp only [vS,uQ,fX,qV,hS,gW,gF,x0,x1,x3,x4,x5,xm4] at h
 exact h.lits .nil (.txt (.txt (.txt (.txt (.txt (.txt (.txt (.txt (.txt (.txt (.txt (.txt (.nil)))))))))))))
theorem wfF:Wf ((1:Int):Rat) ((0:Int):Rat) ((0:Int):Rat) ((3:Int):Rat) ((4:Int):Rat) ((0:Int):Rat) ((-4:Int):Rat) ((3:Int):Rat) ((0:Int):Rat) ((0:Int):Rat) ((0:Int):Rat) ((5:Int):Rat):=⟨⟨r1,r0,r0⟩,⟨r3,r4,r0⟩,⟨rm4,r3,r0⟩,⟨r0,r0,r5⟩⟩
theorem axF:Ax ((3:Int):Rat) ((4:Int):Rat) ((0:Int):Rat) ((-4:Int):Rat) ((3:Int):Rat) ((0:Int):Rat) ((0:Int):Rat) ((0:Int):Rat) ((5:Int):Rat):=⟨by kernel_rfl,by kernel_rfl,by kernel_rfl,by kernel_rfl,by kernel_rfl,by kernel_rfl,by kernel_rfl⟩
theorem fvF:Fv ((1:Int):Rat) ((0:Int):Rat) ((0:Int):Rat) ((3:Int):Rat) ((4:Int):Rat) ((0:Int):Rat) ((-4:Int):Rat) ((3:Int):Rat) ((0:Int):Rat) ((0:Int):Rat) ((0:Int):Rat) ((5:Int):Rat):=Go.Proofs.YtejbgingjeedaaaGreatDoor.Fr.fv_of wfF axF
theorem hv111 {d:Rat} (h:Wr d):Hv 1 1 1 d:=⟨by constructor <;> omega,by constructor <;> omega,by constructor <;> omega,h,ck_111⟩
theorem hv100 {d:Rat} (h:Wr d):Hv 1 0 0 d:=⟨by constructor <;> omega,by constructor <;> omega,by constructor <;> omega,h,ck_100⟩
theorem hv302 {d:Rat} (h:Wr d):Hv 3 0 (-2) d:=⟨by constructor <;> omega,by constructor <;> omega,by constructor <;> omega,h,ck_302⟩
theorem nJ {a:Rat} (h:decide (a=0)=false):a≠0:=of_decide_eq_false h
theorem asc_1250:∀ (j:Nat) (b:UInt8),(⟨#[49,50,46,53,48]⟩:ByteArray).data.toList[j]?=some b→b.toNat<128:=by
 intro j b h
 have:=List.mem_of_getElem? h
 simp at this
 rcases this with rfl|rfl|rfl|rfl|rfl <;> decide
theorem dig_12:AllDig (aC ⟨#[49,50]⟩):=by intro c hc;simp [aC] at hc;rcases hc with rfl|rfl <;> decide
theorem dig_50:AllDig (aC ⟨#[53,48]⟩):=by intro c hc;simp [aC] at hc;rcases hc with rfl|rfl <;> decide
theorem dec_100:decB 100=⟨#[49,48,48]⟩:=by unfold decB;rw [eQ (by omega),eQ (by omega),cT (by omega)];rfl
theorem dec_1250:decB 1250=⟨#[49,50,53,48]⟩:=by unfold decB;rw [eQ (by omega),eQ (by omega),eQ (by omega),cT (by omega)];rfl
theorem q1250:mkRat (sg false 1250) 100=mkRat 25 2:=by kernel_rfl
theorem lv_small {n k:Nat} (h:n<1000000000):Lv k n:=(Lv.one n (by rw [aJ];omega)).mono (Nat.zero_le _)
theorem eParse:FitsW Tryz.prog Gl 20 [lt ⟨#[49,50,46,53,48]⟩] (.tup [.sc (.lit (.string ⟨#[50,53,47,50]⟩)),.sc z0]):=by
 have hp:Fits Tryz.prog 54 [tx ⟨#[49,50,46,53,48]⟩] (.tup [.sc (bY (decB 1250)),.sc (bY (decB 100)),.sc z0]):=by
  have h:=partsDot (s:=⟨#[49,50,46,53,48]⟩) (a:=⟨#[49,50]⟩) (b:=⟨#[53,48]⟩) (z:=⟨#[48,48]⟩) (k:=2) (indexAnyF (by decide) asc_1250 (by kernel_rfl)) (by decide) (by decide) (ba_ext rfl) (ba_ext rfl) dig_12 (by decide) dig_50 (by decide) rfl (repeatF (by decide) (by decide) (ba_ext (by kernel_rfl))) (by decide)
  have e1:(⟨#[49,50]⟩++⟨#[53,48]⟩:ByteArray)=decB 1250:=dec_1250.symm
  have e2:(⟨#[49]⟩++⟨#[48,48]⟩:ByteArray)=decB 100:=dec_100.symm
  rw [e1,e2] at h
  exact h
 have h:=parseF' (s:=⟨#[49,50,46,53,48]⟩) (n:=1250) (d:=100) (by decide) (by kernel_rfl) hp (by rw [dec_1250];decide) (by rw [dec_100];decide) (lv_small (by decide)) (lv_small (by decide)) (by decide) (by rw [q1250];exact rq252.lf.mono (by decide)) (by rw [q1250];exact rq252.n) (by rw [q1250];exact rq252.d)
 rw [q1250,xq252] at h
 exact h.lits (.txt .nil) (.txt (.same .nil))
theorem eAlong:FitsW Tryz.prog Gl 21 [(.fv (.ag [.lit (.string ⟨#[50]⟩),.lit (.string ⟨#[48]⟩),.lit (.string ⟨#[52]⟩)]):AV Kn),(.fv (.ag [.lit (.string ⟨#[45,49]⟩),.lit (.string ⟨#[48]⟩),.lit (.string ⟨#[45,50]⟩)]):AV Kn)] (.tup [.sc (.lit (.string ⟨#[45,49,47,50]⟩)),.sc z0]):=by
 have h:=apiAlongF (a:=((2:Int):Rat)) (b:=((0:Int):Rat)) (c:=((4:Int):Rat)) (x:=((-1:Int):Rat)) (y:=((0:Int):Rat)) (z:=((-2:Int):Rat)) ⟨r2,r0,r4⟩ ⟨rm1,r0,rm2⟩ (by kernel_rfl) (by kernel_rfl) (nJ (by kernel_rfl)) (by rw [show dt ((-1:Int):Rat) ((0:Int):Rat) ((-2:Int):Rat) ((2:Int):Rat) ((0:Int):Rat) ((4:Int):Rat)/dt ((2:Int):Rat) ((0:Int):Rat) ((4:Int):Rat) ((2:Int):Rat) ((0:Int):Rat) ((4:Int):Rat)=mkRat (-1) 2 from by kernel_rfl];exact rm12)
 rw [show dt ((-1:Int):Rat) ((0:Int):Rat) ((-2:Int):Rat) ((2:Int):Rat) ((0:Int):Rat) ((4:Int):Rat)/dt ((2:Int):Rat) ((0:Int):Rat) ((4:Int):Rat) ((2:Int):Rat) ((0:Int):Rat) ((4:Int):Rat)=mkRat (-1) 2 from by kernel_rfl] at h
 simp only [vS,uQ,fX,qV,hS,gW,gF,x0,x2,x4,xm1,xm12,xm2] at h
 exact h.lits (.ag (.txt (.txt (.txt .nil))) (.ag (.txt (.txt (.txt .nil))) .nil)) (.txt (.same .nil))
theorem eMake:FitsW Tryz.prog Gl 23 [(.fv (.ag [.lit (.string ⟨#[49,47,50]⟩),.lit (.string ⟨#[48]⟩),.lit (.string ⟨#[45,49,47,51]⟩)]):AV Kn),lt ⟨#[53]⟩] (.tup [.ag [.lit (.int .i64 (3)),.lit (.int .i64 (0)),.lit (.int .i64 (-2)),.lit (.string ⟨#[51,48]⟩)],.sc z0]):=by
 have h:=apiMakeHalfF (n1:=mkRat 1 2) (n2:=((0:Int):Rat)) (n3:=mkRat (-1) 3) (d:=((5:Int):Rat)) (z1:=3) (z2:=0) (z3 := -2) (e:=((30:Int):Rat)) ⟨rh12,r0,rm13⟩ r5 ⟨rh12.lf.mono (by decide),r0.lf.mono (by decide),rm13.lf.mono (by decide),r5.lf.mono (by decide),fun ⟨e,_,_⟩=>nJ (a:=mkRat 1 2) (by kernel_rfl) e,by kernel_rfl,by kernel_rfl,by kernel_rfl,by kernel_rfl,by constructor <;> omega,by constructor <;> omega,by constructor <;> omega,r30⟩
 simp only [vS,uQ,fX,qV,hS,gW,gF,x0,x30,x5,xh12,xm13] at h
 exact h.lits (.ag (.txt (.txt (.txt .nil))) (.txt .nil)) (.ag (.same (.same (.same (.txt .nil)))) (.same .nil))
theorem eThrough:FitsW Tryz.prog Gl 24 [(.fv (.ag [.lit (.string ⟨#[49]⟩),.lit (.string ⟨#[48]⟩),.lit (.string ⟨#[48]⟩)]):AV Kn),(.fv (.ag [.lit (.string ⟨#[48]⟩),.lit (.string ⟨#[49]⟩),.lit (.string ⟨#[48]⟩)]):AV Kn),(.fv (.ag [.lit (.string ⟨#[48]⟩),.lit (.string ⟨#[48]⟩),.lit (.string ⟨#[49]⟩)]):AV Kn)] (.tup [.ag [.lit (.int .i64 (1)),.lit (.int .i64 (1)),.lit (.int .i64 (1)),.lit (.string ⟨#[49]⟩)],.sc z0]):=by
 have h:=apiThroughF (a1:=((1:Int):Rat)) (a2:=((0:Int):Rat)) (a3:=((0:Int):Rat)) (b1:=((0:Int):Rat)) (b2:=((1:Int):Rat)) (b3:=((0:Int):Rat)) (c1:=((0:Int):Rat)) (c2:=((0:Int):Rat)) (c3:=((1:Int):Rat)) (m1:=((1:Int):Rat)) (m2:=((1:Int):Rat)) (m3:=((1:Int):Rat)) (z1:=1) (z2:=1) (z3:=1) (e:=((1:Int):Rat)) ⟨r1,r0,r0⟩ ⟨r0,r1,r0⟩ ⟨r0,r0,r1⟩ (by kernel_rfl) (by kernel_rfl) (by kernel_rfl) ⟨r1.lf.mono (by decide),r1.lf.mono (by decide),r1.lf.mono (by decide),by rw [show dt ((1:Int):Rat) ((1:Int):Rat) ((1:Int):Rat) ((1:Int):Rat) ((0:Int):Rat) ((0:Int):Rat)=((1:Int):Rat) from by kernel_rfl];exact r1.lf.mono (by decide),fun ⟨e,_,_⟩=>nJ (a:=((1:Int):Rat)) (by kernel_rfl) e,by kernel_rfl,by kernel_rfl,by kernel_rfl,by kernel_rfl,by constructor <;> omega,by constructor <;> omega,by constructor <;> omega,r1⟩
 simp only [vS,uQ,fX,qV,hS,gW,gF,x0,x1] at h
 exact h.lits (.ag (.txt (.txt (.txt .nil))) (.ag (.txt (.txt (.txt .nil))) (.ag (.txt (.txt (.txt .nil))) .nil))) (.ag (.same (.same (.same (.txt .nil)))) (.same .nil))
theorem eMirror:FitsW Tryz.prog Gl 25 [(.fv (.ag [.lit (.int .i64 (1)),.lit (.int .i64 (1)),.lit (.int .i64 (1)),.lit (.string ⟨#[49]⟩)]):AV Kn),(.fv (.ag [.lit (.string ⟨#[48]⟩),.lit (.string ⟨#[48]⟩),.lit (.string ⟨#[48]⟩)]):AV Kn)] (.tup [.ag [.lit (.string ⟨#[50,47,51]⟩),.lit (.string ⟨#[50,47,51]⟩),.lit (.string ⟨#[50,47,51]⟩)],.sc z0]):=by
 have h:=apiMirrorF (z1:=1) (z2:=1) (z3:=1) (d:=((1:Int):Rat)) (p1:=((0:Int):Rat)) (p2:=((0:Int):Rat)) (p3:=((0:Int):Rat)) (m1:=mkRat 2 3) (m2:=mkRat 2 3) (m3:=mkRat 2 3) (hv111 r1) ⟨r0,r0,r0⟩ (nJ (by kernel_rfl)) (by kernel_rfl) (by kernel_rfl) (by kernel_rfl) ⟨rq23,rq23,rq23⟩
 simp only [vS,uQ,fX,qV,hS,gW,gF,x0,x1,xq23] at h
 exact h.lits (.ag (.same (.same (.same (.txt .nil)))) (.ag (.txt (.txt (.txt .nil))) .nil)) (.ag (.txt (.txt (.txt .nil))) (.same .nil))
theorem ePlace:FitsW Tryz.prog Gl 9 [(.fv (.ag [.lit (.string ⟨#[49]⟩),.lit (.string ⟨#[48]⟩),.lit (.string ⟨#[48]⟩),.lit (.string ⟨#[51]⟩),.lit (.string ⟨#[52]⟩),.lit (.string ⟨#[48]⟩),.lit (.string ⟨#[45,52]⟩),.lit (.string ⟨#[51]⟩),.lit (.string ⟨#[48]⟩),.lit (.string ⟨#[48]⟩),.lit (.string ⟨#[48]⟩),.lit (.string ⟨#[53]⟩)]):AV Kn),(.fv (.ag [.lit (.string ⟨#[49]⟩),.lit (.string ⟨#[49]⟩),.lit (.string ⟨#[49]⟩)]):AV Kn)] (.tup [.ag [.lit (.string ⟨#[48]⟩),.lit (.string ⟨#[55]⟩),.lit (.string ⟨#[53]⟩)],.sc z0]):=by
 have h:=zP (o1:=((1:Int):Rat)) (o2:=((0:Int):Rat)) (o3:=((0:Int):Rat)) (x1:=((3:Int):Rat)) (x2:=((4:Int):Rat)) (x3:=((0:Int):Rat)) (y1:=((-4:Int):Rat)) (y2:=((3:Int):Rat)) (y3:=((0:Int):Rat)) (z1:=((0:Int):Rat)) (z2:=((0:Int):Rat)) (z3:=((5:Int):Rat)) (p1:=((1:Int):Rat)) (p2:=((1:Int):Rat)) (p3:=((1:Int):Rat)) (m1:=((0:Int):Rat)) (m2:=((7:Int):Rat)) (m3:=((5:Int):Rat)) fvF ⟨r1,r1,r1⟩ (by kernel_rfl) (by kernel_rfl) (by kernel_rfl) ⟨r0,r7,r5⟩
 simp only [vS,uQ,fX,qV,hS,gW,gF,x0,x1,x3,x4,x5,x7,xm4] at h
 exact h.lits (.ag (.txt (.txt (.txt (.txt (.txt (.txt (.txt (.txt (.txt (.txt (.txt (.txt (.nil))))))))))))) (.ag (.txt (.txt (.txt .nil))) .nil)) (.ag (.txt (.txt (.txt .nil))) (.same .nil))
theorem r325:Wr (mkRat 3 25):=wr_q (by rw [show (mkRat 3 25).num=3 from by kernel_rfl];decide) (by rw [show (mkRat 3 25).den=25 from by kernel_rfl];decide)
theorem r425:Wr (mkRat 4 25):=wr_q (by rw [show (mkRat 4 25).num=4 from by kernel_rfl];decide) (by rw [show (mkRat 4 25).den=25 from by kernel_rfl];decide)
theorem r2825:Wr (mkRat 28 25):=wr_q (by rw [show (mkRat 28 25).num=28 from by kernel_rfl];decide) (by rw [show (mkRat 28 25).den=25 from by kernel_rfl];decide)
theorem ePlaceHalf:FitsW Tryz.prog Gl 27 [(.fv (.ag [.lit (.string ⟨#[49]⟩),.lit (.string ⟨#[48]⟩),.lit (.string ⟨#[48]⟩),.lit (.string ⟨#[51]⟩),.lit (.string ⟨#[52]⟩),.lit (.string ⟨#[48]⟩),.lit (.string ⟨#[45,52]⟩),.lit (.string ⟨#[51]⟩),.lit (.string ⟨#[48]⟩),.lit (.string ⟨#[48]⟩),.lit (.string ⟨#[48]⟩),.lit (.string ⟨#[53]⟩)]):AV Kn),(.fv (.ag [.lit (.int .i64 (1)),.lit (.int .i64 (0)),.lit (.int .i64 (0)),.lit (.string ⟨#[49]⟩)]):AV Kn)] (.tup [.ag [.lit (.int .i64 (3)),.lit (.int .i64 (4)),.lit (.int .i64 (0)),.lit (.string ⟨#[50,56]⟩)],.sc z0]):=by
 have h:=yM (o1:=((1:Int):Rat)) (o2:=((0:Int):Rat)) (o3:=((0:Int):Rat)) (x1:=((3:Int):Rat)) (x2:=((4:Int):Rat)) (x3:=((0:Int):Rat)) (y1:=((-4:Int):Rat)) (y2:=((3:Int):Rat)) (y3:=((0:Int):Rat)) (z1:=((0:Int):Rat)) (z2:=((0:Int):Rat)) (z3:=((5:Int):Rat)) (n1:=1) (n2:=0) (n3:=0) (d:=((1:Int):Rat)) (k1:=3) (k2:=4) (k3:=0) (e:=((28:Int):Rat)) fvF (hv100 r1) ⟨nJ (by kernel_rfl),nJ (by kernel_rfl),nJ (by kernel_rfl)⟩ (q1:=mkRat 3 25) (q2:=mkRat 4 25) (q3:=((0:Int):Rat)) (by kernel_rfl) (by kernel_rfl) (by kernel_rfl) ⟨r325.lf.mono (by decide),r425.lf.mono (by decide),r0.lf.mono (by decide),by rw [show ((1:Int):Rat)+dt (mkRat 3 25) (mkRat 4 25) ((0:Int):Rat) ((1:Int):Rat) ((0:Int):Rat) ((0:Int):Rat)=mkRat 28 25 from by kernel_rfl];exact r2825.lf.mono (by decide),fun ⟨e,_,_⟩=>nJ (a:=mkRat 3 25) (by kernel_rfl) e,by kernel_rfl,by kernel_rfl,by kernel_rfl,by kernel_rfl,by constructor <;> omega,by constructor <;> omega,by constructor <;> omega,r28⟩
 simp only [vS,uQ,fX,qV,hS,gW,gF,x0,x1,x28,x3,x4,x5,xm4] at h
 exact h.lits (.ag (.txt (.txt (.txt (.txt (.txt (.txt (.txt (.txt (.txt (.txt (.txt (.txt (.nil))))))))))))) (.ag (.same (.same (.same (.txt .nil)))) .nil)) (.ag (.same (.same (.same (.txt .nil)))) (.same .nil))
theorem td_100:Fits Tryz.prog 83 [num ((1:Int):Rat),vc ((0:Int):Rat) ((0:Int):Rat) ((1:Int):Rat),vc ((1:Int):Rat) ((0:Int):Rat) ((0:Int):Rat)] (vc ((0:Int):Rat) ((1:Int):Rat) ((0:Int):Rat)):=by
 have h:=turnedF (w:=((1:Int):Rat)) (u1:=((0:Int):Rat)) (u2:=((0:Int):Rat)) (u3:=((1:Int):Rat)) (v1:=((1:Int):Rat)) (v2:=((0:Int):Rat)) (v3:=((0:Int):Rat)) (r1.lf.mono (by decide)) (r0.lf.mono (by decide)) (r0.lf.mono (by decide)) (r1.lf.mono (by decide)) (r1.lf.mono (by decide)) (r0.lf.mono (by decide)) (r0.lf.mono (by decide)) (nJ (by kernel_rfl))
 exact vc_eq h (by kernel_rfl) (by kernel_rfl) (by kernel_rfl)
theorem td_010:Fits Tryz.prog 83 [num ((1:Int):Rat),vc ((0:Int):Rat) ((0:Int):Rat) ((1:Int):Rat),vc ((0:Int):Rat) ((1:Int):Rat) ((0:Int):Rat)] (vc ((-1:Int):Rat) ((0:Int):Rat) ((0:Int):Rat)):=by
 have h:=turnedF (w:=((1:Int):Rat)) (u1:=((0:Int):Rat)) (u2:=((0:Int):Rat)) (u3:=((1:Int):Rat)) (v1:=((0:Int):Rat)) (v2:=((1:Int):Rat)) (v3:=((0:Int):Rat)) (r1.lf.mono (by decide)) (r0.lf.mono (by decide)) (r0.lf.mono (by decide)) (r1.lf.mono (by decide)) (r0.lf.mono (by decide)) (r1.lf.mono (by decide)) (r0.lf.mono (by decide)) (nJ (by kernel_rfl))
 exact vc_eq h (by kernel_rfl) (by kernel_rfl) (by kernel_rfl)
theorem td_001:Fits Tryz.prog 83 [num ((1:Int):Rat),vc ((0:Int):Rat) ((0:Int):Rat) ((1:Int):Rat),vc ((0:Int):Rat) ((0:Int):Rat) ((1:Int):Rat)] (vc ((0:Int):Rat) ((0:Int):Rat) ((1:Int):Rat)):=by
 have h:=turnedF (w:=((1:Int):Rat)) (u1:=((0:Int):Rat)) (u2:=((0:Int):Rat)) (u3:=((1:Int):Rat)) (v1:=((0:Int):Rat)) (v2:=((0:Int):Rat)) (v3:=((1:Int):Rat)) (r1.lf.mono (by decide)) (r0.lf.mono (by decide)) (r0.lf.mono (by decide)) (r1.lf.mono (by decide)) (r0.lf.mono (by decide)) (r0.lf.mono (by decide)) (r1.lf.mono (by decide)) (nJ (by kernel_rfl))
 exact vc_eq h (by kernel_rfl) (by kernel_rfl) (by kernel_rfl)
theorem eTurn:FitsW Tryz.prog Gl 28 [(.fv (.ag [.lit (.string ⟨#[49]⟩),.lit (.string ⟨#[48]⟩),.lit (.string ⟨#[48]⟩),.lit (.string ⟨#[49]⟩)]):AV Kn)] (.tup [.ag [.lit (.string ⟨#[48]⟩),.lit (.string ⟨#[48]⟩),.lit (.string ⟨#[48]⟩),.lit (.string ⟨#[48]⟩),.lit (.string ⟨#[49]⟩),.lit (.string ⟨#[48]⟩),.lit (.string ⟨#[45,49]⟩),.lit (.string ⟨#[48]⟩),.lit (.string ⟨#[48]⟩),.lit (.string ⟨#[48]⟩),.lit (.string ⟨#[48]⟩),.lit (.string ⟨#[49]⟩)],.sc z0]):=by
 have h:=apiTurnF (w:=((1:Int):Rat)) (u1:=((0:Int):Rat)) (u2:=((0:Int):Rat)) (u3:=((1:Int):Rat)) (b:=false) r1 ⟨r0,r0,r1⟩ (by kernel_rfl) (fun h=>by cases h) td_100 td_010 td_001 ⟨⟨r0,r0,r0⟩,⟨r0,r1,r0⟩,⟨rm1,r0,r0⟩,⟨r0,r0,r1⟩⟩
 simp only [vS,uQ,fX,qV,hS,gW,gF,x0,x1,xm1] at h
 exact h.lits (.ag (.txt (.txt (.txt (.txt .nil)))) .nil) (.ag (.txt (.txt (.txt (.txt (.txt (.txt (.txt (.txt (.txt (.txt (.txt (.txt (.nil))))))))))))) (.same .nil))
theorem eCompose:FitsW Tryz.prog Gl 29 [(.fv (.ag [.lit (.string ⟨#[49]⟩),.lit (.string ⟨#[48]⟩),.lit (.string ⟨#[48]⟩),.lit (.string ⟨#[51]⟩),.lit (.string ⟨#[52]⟩),.lit (.string ⟨#[48]⟩),.lit (.string ⟨#[45,52]⟩),.lit (.string ⟨#[51]⟩),.lit (.string ⟨#[48]⟩),.lit (.string ⟨#[48]⟩),.lit (.string ⟨#[48]⟩),.lit (.string ⟨#[53]⟩)]):AV Kn),(.fv (.ag [.lit (.string ⟨#[49]⟩),.lit (.string ⟨#[48]⟩),.lit (.string ⟨#[48]⟩),.lit (.string ⟨#[51]⟩),.lit (.string ⟨#[52]⟩),.lit (.string ⟨#[48]⟩),.lit (.string ⟨#[45,52]⟩),.lit (.string ⟨#[51]⟩),.lit (.string ⟨#[48]⟩),.lit (.string ⟨#[48]⟩),.lit (.string ⟨#[48]⟩),.lit (.string ⟨#[53]⟩)]):AV Kn)] (.tup [.ag [.lit (.string ⟨#[52]⟩),.lit (.string ⟨#[52]⟩),.lit (.string ⟨#[48]⟩),.lit (.string ⟨#[45,55]⟩),.lit (.string ⟨#[50,52]⟩),.lit (.string ⟨#[48]⟩),.lit (.string ⟨#[45,50,52]⟩),.lit (.string ⟨#[45,55]⟩),.lit (.string ⟨#[48]⟩),.lit (.string ⟨#[48]⟩),.lit (.string ⟨#[48]⟩),.lit (.string ⟨#[50,53]⟩)],.sc z0]):=by
 have h:=apiComposeF fvF fvF (q1:=((4:Int):Rat)) (q2:=((4:Int):Rat)) (q3:=((0:Int):Rat)) (r1:=((-7:Int):Rat)) (r2:=((24:Int):Rat)) (r3:=((0:Int):Rat)) (s1:=((-24:Int):Rat)) (s2:=((-7:Int):Rat)) (s3:=((0:Int):Rat)) (t1:=((0:Int):Rat)) (t2:=((0:Int):Rat)) (t3:=((25:Int):Rat)) (by kernel_rfl) (by kernel_rfl) (by kernel_rfl) (by kernel_rfl) (by kernel_rfl) (by kernel_rfl) (by kernel_rfl) (by kernel_rfl) (by kernel_rfl) (by kernel_rfl) (by kernel_rfl) (by kernel_rfl) ⟨⟨r4,r4,r0⟩,⟨rm7,r24,r0⟩,⟨rm24,rm7,r0⟩,⟨r0,r0,r25⟩⟩ (by kernel_rfl) (by kernel_rfl) (by kernel_rfl)
 simp only [vS,uQ,fX,qV,hS,gW,gF,x0,x1,x24,x25,x3,x4,x5,xm24,xm4,xm7] at h
 exact h.lits (.ag (.txt (.txt (.txt (.txt (.txt (.txt (.txt (.txt (.txt (.txt (.txt (.txt (.nil))))))))))))) (.ag (.txt (.txt (.txt (.txt (.txt (.txt (.txt (.txt (.txt (.txt (.txt (.txt (.nil))))))))))))) .nil)) (.ag (.txt (.txt (.txt (.txt (.txt (.txt (.txt (.txt (.txt (.txt (.txt (.txt (.nil))))))))))))) (.same .nil))
theorem eMeet:FitsW Tryz.prog Gl 30 [(.fv (.ag [.lit (.int .i64 (1)),.lit (.int .i64 (1)),.lit (.int .i64 (1)),.lit (.string ⟨#[49,48]⟩)]):AV Kn),(.fv (.ag [.lit (.string ⟨#[48]⟩),.lit (.string ⟨#[48]⟩),.lit (.string ⟨#[48]⟩)]):AV Kn),(.fv (.ag [.lit (.string ⟨#[49]⟩),.lit (.string ⟨#[49]⟩),.lit (.string ⟨#[48]⟩)]):AV Kn)] (.tup [.ag [.lit (.string ⟨#[53]⟩),.lit (.string ⟨#[53]⟩),.lit (.string ⟨#[48]⟩)],.sc z0]):=by
 have h:=apiMeetF (z1:=1) (z2:=1) (z3:=1) (d:=((10:Int):Rat)) (p1:=((0:Int):Rat)) (p2:=((0:Int):Rat)) (p3:=((0:Int):Rat)) (v1:=((1:Int):Rat)) (v2:=((1:Int):Rat)) (v3:=((0:Int):Rat)) (m1:=((5:Int):Rat)) (m2:=((5:Int):Rat)) (m3:=((0:Int):Rat)) (hv111 r10) ⟨r0,r0,r0⟩ ⟨r1,r1,r0⟩ (nJ (by kernel_rfl)) (by kernel_rfl) (by kernel_rfl) (by kernel_rfl) ⟨r5,r5,r0⟩
 simp only [vS,uQ,fX,qV,hS,gW,gF,x0,x1,x10,x5] at h
 exact h.lits (.ag (.same (.same (.same (.txt .nil)))) (.ag (.txt (.txt (.txt .nil))) (.ag (.txt (.txt (.txt .nil))) .nil))) (.ag (.txt (.txt (.txt .nil))) (.same .nil))
theorem eSide:FitsW Tryz.prog Gl 31 [(.fv (.ag [.lit (.int .i64 (3)),.lit (.int .i64 (0)),.lit (.int .i64 (-2)),.lit (.string ⟨#[51,48]⟩)]):AV Kn),(.fv (.ag [.lit (.string ⟨#[49,48]⟩),.lit (.string ⟨#[55]⟩),.lit (.string ⟨#[49]⟩)]):AV Kn)] (.tup [.sc (.lit (.int .i64 (-1))),.sc z0]):=by
 have h:=apiSideF (z1:=3) (z2:=0) (z3 := -2) (d:=((30:Int):Rat)) (p1:=((10:Int):Rat)) (p2:=((7:Int):Rat)) (p3:=((1:Int):Rat)) (s := -1) (hv302 r30) ⟨r10,r7,r1⟩ (by kernel_rfl)
 simp only [vS,uQ,fX,qV,hS,gW,gF,x1,x10,x30,x7] at h
 exact h.lits (.ag (.same (.same (.same (.txt .nil)))) (.ag (.txt (.txt (.txt .nil))) .nil)) (.same (.same .nil))
set_option maxRecDepth 100000 in
theorem qS:FitsW Tryz.prog Gl 4 ([]:List (AV Kn)) (bl true):=by
 refine cA Tryz.func4 (by kernel_rfl) fun w00 hG=>?_;have hI:=aS hG
 refine jW hI 20 [lt ⟨#[49,50,46,53,48]⟩] (eParse) Tryz.call20 ?_
 refine jC 22 [it (2),it (0),it (4)] (lv_2_0_4) Tryz.call22 ?_
 refine jC 22 [it (-1),it (0),it (-2)] (lv_m1_0_m2) Tryz.call22 ?_
 refine jW hI 21 [(.fv (.ag [.lit (.string ⟨#[50]⟩),.lit (.string ⟨#[48]⟩),.lit (.string ⟨#[52]⟩)])),(.fv (.ag [.lit (.string ⟨#[45,49]⟩),.lit (.string ⟨#[48]⟩),.lit (.string ⟨#[45,50]⟩)]))] (eAlong) Tryz.call21 ?_
 refine jW hI 23 [(.fv (.ag [.lit (.string ⟨#[49,47,50]⟩),.lit (.string ⟨#[48]⟩),.lit (.string ⟨#[45,49,47,51]⟩)])),lt ⟨#[53]⟩] (eMake) Tryz.call23 ?_
 refine jC 22 [it (1),it (0),it (0)] (lv_1_0_0) Tryz.call22 ?_
 refine jC 22 [it (0),it (1),it (0)] (lv_0_1_0) Tryz.call22 ?_
 refine jC 22 [it (0),it (0),it (1)] (lv_0_0_1) Tryz.call22 ?_
 refine jW hI 24 [(.fv (.ag [.lit (.string ⟨#[49]⟩),.lit (.string ⟨#[48]⟩),.lit (.string ⟨#[48]⟩)])),(.fv (.ag [.lit (.string ⟨#[48]⟩),.lit (.string ⟨#[49]⟩),.lit (.string ⟨#[48]⟩)])),(.fv (.ag [.lit (.string ⟨#[48]⟩),.lit (.string ⟨#[48]⟩),.lit (.string ⟨#[49]⟩)]))] (eThrough) Tryz.call24 ?_
 refine jC 22 [it (0),it (0),it (0)] (lv_0_0_0) Tryz.call22 ?_
 refine jW hI 25 [(.fv (.ag [.lit (.int .i64 (1)),.lit (.int .i64 (1)),.lit (.int .i64 (1)),.lit (.string ⟨#[49]⟩)])),(.fv (.ag [.lit (.string ⟨#[48]⟩),.lit (.string ⟨#[48]⟩),.lit (.string ⟨#[48]⟩)]))] (eMirror) Tryz.call25 ?_
 refine jC 26 [] (lframe) Tryz.call26 ?_
 refine jC 22 [it (1),it (1),it (1)] (lv_1_1_1) Tryz.call22 ?_
 refine jW hI 9 [(.fv (.ag [.lit (.string ⟨#[49]⟩),.lit (.string ⟨#[48]⟩),.lit (.string ⟨#[48]⟩),.lit (.string ⟨#[51]⟩),.lit (.string ⟨#[52]⟩),.lit (.string ⟨#[48]⟩),.lit (.string ⟨#[45,52]⟩),.lit (.string ⟨#[51]⟩),.lit (.string ⟨#[48]⟩),.lit (.string ⟨#[48]⟩),.lit (.string ⟨#[48]⟩),.lit (.string ⟨#[53]⟩)])),(.fv (.ag [.lit (.string ⟨#[49]⟩),.lit (.string ⟨#[49]⟩),.lit (.string ⟨#[49]⟩)]))] (ePlace) Tryz.call9 ?_
 refine jC 26 [] (lframe) Tryz.call26 ?_
 refine jW hI 27 [(.fv (.ag [.lit (.string ⟨#[49]⟩),.lit (.string ⟨#[48]⟩),.lit (.string ⟨#[48]⟩),.lit (.string ⟨#[51]⟩),.lit (.string ⟨#[52]⟩),.lit (.string ⟨#[48]⟩),.lit (.string ⟨#[45,52]⟩),.lit (.string ⟨#[51]⟩),.lit (.string ⟨#[48]⟩),.lit (.string ⟨#[48]⟩),.lit (.string ⟨#[48]⟩),.lit (.string ⟨#[53]⟩)])),(.fv (.ag [.lit (.int .i64 (1)),.lit (.int .i64 (0)),.lit (.int .i64 (0)),.lit (.string ⟨#[49]⟩)]))] (ePlaceHalf) Tryz.call27 ?_
 refine jW hI 28 [(.fv (.ag [.lit (.string ⟨#[49]⟩),.lit (.string ⟨#[48]⟩),.lit (.string ⟨#[48]⟩),.lit (.string ⟨#[49]⟩)]))] (eTurn) Tryz.call28 ?_
 refine jC 26 [] (lframe) Tryz.call26 ?_
 refine jC 26 [] (lframe) Tryz.call26 ?_
 refine jW hI 29 [(.fv (.ag [.lit (.string ⟨#[49]⟩),.lit (.string ⟨#[48]⟩),.lit (.string ⟨#[48]⟩),.lit (.string ⟨#[51]⟩),.lit (.string ⟨#[52]⟩),.lit (.string ⟨#[48]⟩),.lit (.string ⟨#[45,52]⟩),.lit (.string ⟨#[51]⟩),.lit (.string ⟨#[48]⟩),.lit (.string ⟨#[48]⟩),.lit (.string ⟨#[48]⟩),.lit (.string ⟨#[53]⟩)])),(.fv (.ag [.lit (.string ⟨#[49]⟩),.lit (.string ⟨#[48]⟩),.lit (.string ⟨#[48]⟩),.lit (.string ⟨#[51]⟩),.lit (.string ⟨#[52]⟩),.lit (.string ⟨#[48]⟩),.lit (.string ⟨#[45,52]⟩),.lit (.string ⟨#[51]⟩),.lit (.string ⟨#[48]⟩),.lit (.string ⟨#[48]⟩),.lit (.string ⟨#[48]⟩),.lit (.string ⟨#[53]⟩)]))] (eCompose) Tryz.call29 ?_
 refine jC 22 [it (0),it (0),it (0)] (lv_0_0_0) Tryz.call22 ?_
 refine jC 22 [it (1),it (1),it (0)] (lv_1_1_0) Tryz.call22 ?_
 refine jW hI 30 [(.fv (.ag [.lit (.int .i64 (1)),.lit (.int .i64 (1)),.lit (.int .i64 (1)),.lit (.string ⟨#[49,48]⟩)])),(.fv (.ag [.lit (.string ⟨#[48]⟩),.lit (.string ⟨#[48]⟩),.lit (.string ⟨#[48]⟩)])),(.fv (.ag [.lit (.string ⟨#[49]⟩),.lit (.string ⟨#[49]⟩),.lit (.string ⟨#[48]⟩)]))] (eMeet) Tryz.call30 ?_
 refine jC 22 [it (0),it (7),it (5)] (lv_0_7_5) Tryz.call22 ?_
 refine jC 22 [it (0),it (1),it (0)] (lv_0_1_0) Tryz.call22 ?_
 refine jC 22 [it (-1),it (0),it (0)] (lv_m1_0_0) Tryz.call22 ?_
 refine jC 22 [it (4),it (4),it (0)] (lv_4_4_0) Tryz.call22 ?_
 refine jC 22 [it (-7),it (24),it (0)] (lv_m7_24_0) Tryz.call22 ?_
 refine jC 22 [it (5),it (5),it (0)] (lv_5_5_0) Tryz.call22 ?_
 refine jC 22 [it (10),it (7),it (1)] (lv_10_7_1) Tryz.call22 ?_
 refine jW hI 31 [(.fv (.ag [.lit (.int .i64 (3)),.lit (.int .i64 (0)),.lit (.int .i64 (-2)),.lit (.string ⟨#[51,48]⟩)])),(.fv (.ag [.lit (.string ⟨#[49,48]⟩),.lit (.string ⟨#[55]⟩),.lit (.string ⟨#[49]⟩)]))] (eSide) Tryz.call31 ?_
 refine jC 32 [lt ⟨#[112,111,115,116,95,49]⟩] (isNameF (b:=true) (by kernel_rfl)) Tryz.call32 ?_
 refine jC 32 [lt ⟨#[49,112,111,115,116]⟩] (isNameF (b:=false) (by kernel_rfl)) Tryz.call32 ?_
 exact jR Tryz.func4
end Go.Proofs.YtejbgingjeedaaaGreatDoor.Ab
