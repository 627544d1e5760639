/- Parts of the proof, joined. -/
import Derived.Test.YtagahkpgdakofaaGreatDoorJ7
import Derived.RangeFuncNested
import Derived.RangeFuncBound
import Derived.RangeFuncCalls
import Derived.RangeFuncLeaves
import Derived.Shelf.Abstract
import Derived.Shelf.RegionOpen
import Derived.WalkKit
import Derived.OwnWalkIn
import Derived.TacticsInMore
import Derived.LoopNIn
import Derived.LoopIn
import Derived.KernelRfl
import Derived.Test.YtagahkpgdakofaaGreatDoorProg
import Derived.Test.YtagahkpgdakofaaGreatDoorJ6
import Derived.Laws.Tables
import Derived.Laws.CopyOwn
import Derived.Test.YtagahkpgdakofaaGreatDoorJ5
set_option maxHeartbeats 4000000
set_option linter.unusedSimpArgs false
set_option linter.unusedVariables false
set_option linter.constructorNameAsVariable false
namespace Go.Proofs.YtagahkpgdakofaaGreatDoor
namespace Ab
open Go.RowKit Pl
theorem cutPrefixNo {s:ByteArray} (h:Lib.hasPrefix s.data.toList [45]=false):jF 53 [tx s,lt ⟨#[45]⟩] (.tup [.sc (bS s),.sc (.lit (.bool false))]):=by
 intro β w vs hv
 obtain ⟨v,u,rfl,h1,h2⟩:=dZ hv
 rw [aQ h1,aN h2]
 have es:(⟨(Lib.trimPrefix s.data.toList [45]).toArray⟩:ByteArray)=s:=ba_ext (by unfold Lib.trimPrefix;rw [h];simp)
 refine (Tryz.strings_CutPrefix s ⟨#[45]⟩ w).mono fun e w' ⟨e1,e2⟩=>⟨_,e1,by rw [e2];exact aB _ _,?_⟩
 rw [show (⟨#[45]⟩:ByteArray).data.toList = [45] from rfl,es,h]
 exact ⟨[.string s,.bool false],rfl,_,_,rfl,bG (β:=β),_,_,rfl,⟨rfl,rfl⟩,rfl⟩
theorem ascii_two:∀ (j:Nat) (b:UInt8),(⟨#[47,46]⟩:ByteArray).data.toList[j]?=some b→b.toNat<128:=by
 intro j b h
 have:=List.mem_of_getElem? h
 simp at this
 rcases this with rfl|rfl <;> decide
theorem indexAnyF {s:ByteArray} {k:Int} (hs:s.size<4294967281) (ha:∀ (j:Nat) (b:UInt8),s.data.toList[j]?=some b→b.toNat<128) (h:Lib.indexAny s.data.toList [47,46]=k):jF 109 [tx s,lt ⟨#[47,46]⟩] (.fv (.sc (iP k))):=by
 intro β w vs hv
 obtain ⟨v,u,rfl,h1,h2⟩:=dZ hv
 rw [aQ h1,aN h2]
 refine (Tryz.strings_IndexAny_laid s ⟨#[47,46]⟩ w hs (by decide) ha ascii_two).mono fun e w' ⟨e1,e2⟩=>⟨_,e1,e2,?_⟩
 rw [show (⟨#[47,46]⟩:ByteArray).data.toList = [47,46] from rfl,h]
 exact bG
theorem repeatF {c:Nat} {z:ByteArray} (h2:2≤c) (hc:c≤100000) (hz:(⟨(Lib.repeatL [48] c).toArray⟩:ByteArray)=z):jF 111 [lt ⟨#[48]⟩,.fv (.sc (iP c))] (tx z):=by
 intro β w vs hv
 obtain ⟨v,u,rfl,h1,h3⟩:=dZ hv
 rw [aN h1,aQ h3]
 have hsz:(⟨#[48]⟩:ByteArray).size=1:=rfl
 refine (Tryz.strings_Repeat_main ⟨#[48]⟩ c w h2 (by omega) (by rw [hsz];omega) (by rw [hsz];omega)).mono fun e w' ⟨e1,e2⟩=>⟨_,e1,e2,?_⟩
 rw [show (⟨#[48]⟩:ByteArray).data.toList = [48] from rfl,hz]
 exact bG
section
variable {s a b z:ByteArray} {k:Nat}
theorem partsDot (hi:jF 109 [tx s,lt ⟨#[47,46]⟩] (.fv (.sc (iP k)))) (hk:k<s.size) (hs:s.size≤10000) (ha:s.extract 0 k=a) (hb:s.extract (k+1) s.size=b) (da:AllDig (aC a)) (da0:0<a.size) (db:AllDig (aC b)) (db0:0<b.size)
 (hdot:s[k]?=some 46) (hr:jF 111 [lt ⟨#[48]⟩,.fv (.sc (iP b.size))] (tx z)) (hz:z.size≤10000):jF 54 [tx s] (.tup [.sc (bS (a++b)),.sc (bS (⟨#[49]⟩++z)),.sc z0]):=by
 have hasz:a.size≤s.size:=by rw [← ha,ByteArray.size_extract];omega
 have hbsz:b.size≤s.size:=by rw [← hb,ByteArray.size_extract];omega
 refine jG Tryz.func54 fun w00=>?_
 refine jC 109 [tx s,lt ⟨#[47,46]⟩] (hi) ?_
 refine jK (.binOp .lss 3 (.tmp 10) (.const (.int .i64 0)) 3) (.tmp 10) (.const (.int .i64 0)) (.fv (.sc (iP k))) (it 0) (bl false) (fun ρ o β w ho hx hy=>⟨_,lss_run ho (aQ hx) (aN hy) (by rw [decide_eq_false_iff_not];omega),bB rfl⟩) ?_
 refine jK (.slice 9 (.tmp 16) none (some (.tmp 17)) none) (.tmp 16) (.tmp 17) (tx s) (.fv (.sc (iP k))) (tx a) (fun ρ o β w ho hx hy=>?_) ?_
 ·have:=oJ (w:=w) ho Tryz.underlying9 (aQ hx) (aQ hy) (by omega)
  rw [ha] at this
  exact ⟨_,this,bG⟩
 refine jK (.binOp .add 3 (.tmp 20) (.const (.int .i64 1)) 3) (.tmp 20) (.const (.int .i64 1)) (.fv (.sc (iP k))) (it 1) (.fv (.sc (iP ((k+1:Nat):Int)))) (fun ρ o β w ho hx hy=>⟨_,sG ho (aQ hx) (aN hy) (by omega),bG⟩) ?_
 refine jK (.slice 9 (.tmp 19) (some (.tmp 21)) none none) (.tmp 19) (.tmp 21) (tx s) (.fv (.sc (iP ((k+1:Nat):Int)))) (tx b) (fun ρ o β w ho hx hy=>?_) ?_
 ·have:=oK (w:=w) ho Tryz.underlying9 (aQ hx) (aQ hy) (by omega)
  rw [hb] at this
  exact ⟨_,this,bG⟩
 refine jC 110 [tx a] (pA da da0) ?_
 refine jC 110 [tx b] (pA db db0) ?_
 refine jK (.index 9 (.tmp 33) (.tmp 34)) (.tmp 33) (.tmp 34) (tx s) (.fv (.sc (iP k))) (.fv (.sc (.lit (.int .u8 46)))) (fun ρ o β w ho hx hy=>⟨_,lU ho Tryz.underlying9 (aQ hx) (aQ hy) hdot,bB rfl⟩) ?_
 refine jK (.binOp .add 9 (.tmp 37) (.tmp 38) 9) (.tmp 37) (.tmp 38) (tx a) (tx b) (tx (a++b)) (fun ρ o β w ho hx hy=>⟨_,eN ho (aQ hx) (aQ hy) (by omega),bG⟩) ?_
 refine jO 40 b ?_
 refine jC 111 [lt ⟨#[48]⟩,.fv (.sc (iP b.size))] (hr) ?_
 refine jK (.binOp .add 9 (.const (.string ⟨#[49]⟩)) (.tmp 42) 9) (.const (.string ⟨#[49]⟩)) (.tmp 42) (lt ⟨#[49]⟩) (tx z) (tx (⟨#[49]⟩++z)) (fun ρ o β w ho hx hy=>⟨_,eN ho (aN hx) (aQ hy) (by have:(⟨#[49]⟩:ByteArray).size=1:=rfl;omega),bG⟩) ?_
 exact jR Tryz.func54
theorem parseF' {n d:Nat} (hs:s.size≤4096) (hp:Lib.hasPrefix s.data.toList [45]=false) (hpt:jF 54 [tx s] (.tup [.sc (bS (decB n)),.sc (bS (decB d)),.sc z0])) (hn:(decB n).size≤100000) (hd:(decB d).size≤100000) (ln:Lv 40 n) (ld:Lv 40 d) (d0:0<d)
 (lq:Lf 20 (mkRat (sg false n) d)) (w1:(decB (mkRat (sg false n) d).num.natAbs).size≤600) (w2:(decB (mkRat (sg false n) d).den).size≤600):jX 20 [tx s] (.tup [.sc (bS (writeB (mkRat (sg false n) d))),.sc z0]):=by
 refine jY Tryz.func20 fun w00 hI=>?_
 refine jO 9 s ?_
 refine jM 10 s.size 4096 false (by rw [decide_eq_false_iff_not];omega) ?_
 refine jC 53 [tx s,lt ⟨#[45]⟩] (cutPrefixNo hp) ?_
 refine jC 54 [tx s] (hpt) ?_
 refine jC 56 [tx (decB n)] (bO hn) ?_
 refine jC 56 [tx (decB d)] (bO hd) ?_
 refine jC 55 [bl false,nt n,nt d] (oF ln ld d0) ?_
 refine jC 57 [fra (mkRat (sg false n) d)] (iY) ?_
 refine jW hI 58 [num (mkRat (sg false n) d)] (tO lq w1 w2) ?_
 exact jR Tryz.func20
end
end Ab
namespace Fr
open Go.RowKit Go.Shelf
attribute [local go_sem] Oper.semAt_some
def axV (x1 x2 x3 y1 y2 y3 z1 z2 z3:ByteArray):Fin 3→Value
 | 0 => .agg #[.string x1,.string x2,.string x3]
 | 1 => .agg #[.string y1,.string y2,.string y3]
 | 2 => .agg #[.string z1,.string z2,.string z3]
def axE (x1 x2 x3 y1 y2 y3 z1 z2 z3:ByteArray) (i:Fin 3):Array Value := #[.int .i64 ((i.val:Nat):Int),axV x1 x2 x3 y1 y2 y3 z1 z2 z3 i]
theorem ix0 (w:World) (x1 x2 x3 y1 y2 y3 z1 z2 z3:ByteArray):(Sem.run Tryz.prog (Instr.index 185 (.agg #[.string x1,.string x2,.string x3,.string y1,.string y2,.string y3,.string z1,.string z2,.string z3]) (.int .i64 0)) w) = .ok (.agg #[.string x1,.string x2,.string x3]) w:=by
 kernel_rfl
theorem ix1 (w:World) (x1 x2 x3 y1 y2 y3 z1 z2 z3:ByteArray):(Sem.run Tryz.prog (Instr.index 185 (.agg #[.string x1,.string x2,.string x3,.string y1,.string y2,.string y3,.string z1,.string z2,.string z3]) (.int .i64 1)) w) = .ok (.agg #[.string y1,.string y2,.string y3]) w:=by
 kernel_rfl
theorem ix2 (w:World) (x1 x2 x3 y1 y2 y3 z1 z2 z3:ByteArray):(Sem.run Tryz.prog (Instr.index 185 (.agg #[.string x1,.string x2,.string x3,.string y1,.string y2,.string y3,.string z1,.string z2,.string z3]) (.int .i64 2)) w) = .ok (.agg #[.string z1,.string z2,.string z3]) w:=by
 kernel_rfl
set_option maxRecDepth 100000 in
theorem axes1_in (F:Fence) (n:Nat) (h8:F.fn 150) (hro:F.round=none) (hn:1≤n) (l Bf n₀:Nat) (o1 o2 o3 x1 x2 x3 y1 y2 y3 z1 z2 z3:ByteArray) (J Jx:List (Fin 3)→World→Prop)
 (hY:∀ pre x W,J pre W→pre.length<3→YieldAt F (n-1) Tryz.prog l (axE x1 x2 x3 y1 y2 y3 z1 z2 z3 x) W fun e W' =>
  (e = .returned (.bool true)∧J (pre ++ [x]) W'∧Below n₀ W W')∨(e = .returned (.bool false)∧Jx (pre ++ [x]) W'))
 (W:World) (hJ:AbidesFrom W.heap.size J) (hn0:n₀≤W.heap.size) (hB:W.heap[Bf]?=some (.cells #[.string o1,.string o2,.string o3,.string x1,.string x2,.string x3,.string y1,.string y2,.string y3,.string z1,.string z2,.string z3] 26 (0,0))) (h0:J [] W) :
 CallsIn F n Tryz.prog 150 #[.func (.yield l) #[] #[],.pointer (some ⟨Bf,0,none⟩)] W fun e W'=>(∃ v,e = .returned v) ∧
  ((∃ ys,ys = [0,1,2]∧J ys W')∨(∃ pre,True∧Jx pre W')):=by
 refine callsIn_of_wp Tryz.func150 rfl h8 ?_ hro
 simp only [Tryz.ntmps150,List.size_toArray,List.length_cons,List.length_nil,Nat.reduceAdd,Nat.reduceSub,Array.replicate_succ,Array.replicate_zero,List.push_toArray,List.append_toArray,List.nil_append,List.cons_append]
 have c3:W.cell? ⟨Bf,3,none⟩=some (.string x1):=by simp [World.cell?,hB]
 have c4:W.cell? ⟨Bf,4,none⟩=some (.string x2):=by simp [World.cell?,hB]
 have c5:W.cell? ⟨Bf,5,none⟩=some (.string x3):=by simp [World.cell?,hB]
 have c6:W.cell? ⟨Bf,6,none⟩=some (.string y1):=by simp [World.cell?,hB]
 have c7:W.cell? ⟨Bf,7,none⟩=some (.string y2):=by simp [World.cell?,hB]
 have c8:W.cell? ⟨Bf,8,none⟩=some (.string y3):=by simp [World.cell?,hB]
 have c9:W.cell? ⟨Bf,9,none⟩=some (.string z1):=by simp [World.cell?,hB]
 have c10:W.cell? ⟨Bf,10,none⟩=some (.string z2):=by simp [World.cell?,hB]
 have c11:W.cell? ⟨Bf,11,none⟩=some (.string z3):=by simp [World.cell?,hB]
 clear hB
 gi_wp2
 gi_loopw [12] (fun i wr=>(i = .int .i64 0∧J [] wr∨i = .int .i64 1∧J [0] wr∨i = .int .i64 2∧J [0,1] wr∨i = .int .i64 3∧J [0,1,2] wr)∧n₀≤wr.heap.size) (fun i _=>3-(intOf i).toNat)
 case atStart=>exact ⟨.inl ⟨rfl,h0⟩,hn0⟩
 case round =>
  obtain ⟨hc,hnr⟩:=hrel
  rcases hc with ⟨rfl,hJs⟩|⟨rfl,hJs⟩|⟨rfl,hJs⟩|⟨rfl,hJs⟩
  ·have hix:=ix0 wr x1 x2 x3 y1 y2 y3 z1 z2 z3
   have hJa:=hJ [] wr (wr.alloc (.cells #[.string x1,.string x2,.string x3] 24)) none hJs (World.grownBy_alloc _ _ none) (fun r e=>by cases e)
   obtain ⟨fn,tmps,assign,body,hy,hR⟩:=hY [] 0 _ hJa (by simp)
   change (Sem.run Tryz.prog (Instr.yield l #[.int .i64 0,.agg #[.string x1,.string x2,.string x3]]) _)=_ at hy
   gi_wp2
   refine hR.mono ?_
   rintro e W3 (⟨rfl,hJ3,hk3⟩|⟨rfl,hJx3⟩)
   ·have hs3:n₀≤W3.heap.size:=by have:=hk3.size;simp at this;omega
    gi_wp2
    go_roundw
    case rel=>exact ⟨.inr (.inl ⟨rfl,hJ3⟩),hs3⟩
    case measure=>simp [intOf]
   ·gi_wp2
    refine bodyPost_ret (results_none rfl _ _ _) rfl ?_
    exact ⟨⟨_,rfl⟩,.inr ⟨_,trivial,hJx3⟩⟩
  ·have hix:=ix1 wr x1 x2 x3 y1 y2 y3 z1 z2 z3
   have hJa:=hJ [0] wr (wr.alloc (.cells #[.string y1,.string y2,.string y3] 24)) none hJs (World.grownBy_alloc _ _ none) (fun r e=>by cases e)
   obtain ⟨fn,tmps,assign,body,hy,hR⟩:=hY [0] 1 _ hJa (by simp)
   change (Sem.run Tryz.prog (Instr.yield l #[.int .i64 1,.agg #[.string y1,.string y2,.string y3]]) _)=_ at hy
   gi_wp2
   refine hR.mono ?_
   rintro e W3 (⟨rfl,hJ3,hk3⟩|⟨rfl,hJx3⟩)
   ·have hs3:n₀≤W3.heap.size:=by have:=hk3.size;simp at this;omega
    gi_wp2
    go_roundw
    case rel=>exact ⟨.inr (.inr (.inl ⟨rfl,hJ3⟩)),hs3⟩
    case measure=>simp [intOf]
   ·gi_wp2
    refine bodyPost_ret (results_none rfl _ _ _) rfl ?_
    exact ⟨⟨_,rfl⟩,.inr ⟨_,trivial,hJx3⟩⟩
  ·have hix:=ix2 wr x1 x2 x3 y1 y2 y3 z1 z2 z3
   have hJa:=hJ [0,1] wr (wr.alloc (.cells #[.string z1,.string z2,.string z3] 24)) none hJs (World.grownBy_alloc _ _ none) (fun r e=>by cases e)
   obtain ⟨fn,tmps,assign,body,hy,hR⟩:=hY [0,1] 2 _ hJa (by simp)
   change (Sem.run Tryz.prog (Instr.yield l #[.int .i64 2,.agg #[.string z1,.string z2,.string z3]]) _)=_ at hy
   gi_wp2
   refine hR.mono ?_
   rintro e W3 (⟨rfl,hJ3,hk3⟩|⟨rfl,hJx3⟩)
   ·have hs3:n₀≤W3.heap.size:=by have:=hk3.size;simp at this;omega
    gi_wp2
    go_roundw
    case rel=>exact ⟨.inr (.inr (.inr ⟨rfl,hJ3⟩)),hs3⟩
    case measure=>simp [intOf]
   ·gi_wp2
    refine bodyPost_ret (results_none rfl _ _ _) rfl ?_
    exact ⟨⟨_,rfl⟩,.inr ⟨_,trivial,hJx3⟩⟩
  ·gi_wp2
   go_end0
   exact ⟨⟨_,rfl⟩,.inl ⟨_,rfl,hJs⟩⟩
theorem axes_stops (F:Fence) (n:Nat) (h8:F.fn 150) (hro:F.round=none) (hn:1≤n) (Bf n₀:Nat) (o1 o2 o3 x1 x2 x3 y1 y2 y3 z1 z2 z3:ByteArray) (w:World) (hn0:n₀≤w.heap.size)
 (hB:w.heap[Bf]?=some (.cells #[.string o1,.string o2,.string o3,.string x1,.string x2,.string x3,.string y1,.string y2,.string y3,.string z1,.string z2,.string z3] 26 (0,0))) :
 SeqStopsK F n Tryz.prog 150 #[.pointer (some ⟨Bf,0,none⟩)] (axE x1 x2 x3 y1 y2 y3 z1 z2 z3) (Below n₀) (fun ys=>ys = [0,1,2]) (fun _=>True) 3 w:=fun l J Jx W hW hJ _ hY h0 =>
 axes1_in F n h8 hro hn l Bf n₀ o1 o2 o3 x1 x2 x3 y1 y2 y3 z1 z2 z3 J Jx hY W hJ (Nat.le_trans hn0 hW.size) ((hW.block Bf (by rcases Nat.lt_or_ge Bf w.heap.size with h|h;exact h;rw [Array.getElem?_eq_none h] at hB;cases hB)).trans hB) h0
theorem axes_any (o1 o2 o3 x1 x2 x3 y1 y2 y3 z1 z2 z3:ByteArray) (w:World):Calls Tryz.prog 97 #[.agg #[.string o1,.string o2,.string o3,.string x1,.string x2,.string x3,.string y1,.string y2,.string y3,.string z1,.string z2,.string z3]] w fun e w' =>
 e = .returned (.func (.func 150) #[] #[.pointer (some ⟨w.heap.size,0,none⟩)])∧w'=w.alloc (.cells #[.string o1,.string o2,.string o3,.string x1,.string x2,.string x3,.string y1,.string y2,.string y3,.string z1,.string z2,.string z3] 26 (0,0)):=by
 refine (callsIn_wide (n:=3)).1 ?_
 refine callsIn_of_wp Tryz.func97 rfl trivial ?_ rfl
 simp only [Tryz.ntmps97,List.size_toArray,List.length_cons,List.length_nil,Nat.reduceAdd,Nat.reduceSub,Array.replicate_succ,Array.replicate_zero,List.push_toArray,List.append_toArray,List.nil_append,List.cons_append]
 gi_wp2
 refine bodyPost_ret (results_tmp rfl _ _ _) rfl ?_
 exact ⟨rfl,rfl⟩
end Fr
namespace Fr
open Go.RowKit Go.Shelf Ab Pl
structure C9 where
 n1:Int
 d1:Int
 p1:Option Addr
 n2:Int
 d2:Int
 p2:Option Addr
 n3:Int
 d3:Int
 p3:Option Addr
def C9.cells (k:C9):List Value := [.int .i64 k.n1,.int .i64 k.d1,.pointer k.p1,.int .i64 k.n2,.int .i64 k.d2,.pointer k.p2,.int .i64 k.n3,.int .i64 k.d3,.pointer k.p3]
def C9.val (k:C9):Value := .agg #[.int .i64 k.n1,.int .i64 k.d1,.pointer k.p1,.int .i64 k.n2,.int .i64 k.d2,.pointer k.p2,.int .i64 k.n3,.int .i64 k.d3,.pointer k.p3]
def C9.zero:C9:=⟨0,0,none,0,0,none,0,0,none⟩
theorem vc9 {w:World} {v:Value} {a b c:Rat} (h:Vc w v a b c):∃ k:C9,v=k.val∧Vc w k.val a b c:=by
 obtain ⟨n1,d1,p1,n2,d2,p2,n3,d3,p3,rfl,h1,h2,h3⟩:=h
 exact ⟨⟨n1,d1,p1,n2,d2,p2,n3,d3,p3⟩,rfl,n1,d1,p1,n2,d2,p2,n3,d3,p3,rfl,h1,h2,h3⟩
theorem sO {β:List Nat} {w:World} {k:C9} {a b c:Rat} (h:Vc w k.val a b c):holdsL β [nb a,nb b,nb c] k.cells w:=by
 obtain ⟨cs,e,hl⟩:=(rO (β:=β)).2 h
 injection e with e
 have e:=congrArg Array.toList e
 have e:k.cells=cs:=e
 rw [e]
 exact hl
def frL (o x y z:C9):List Value:=o.cells++x.cells++y.cells++z.cells
theorem kR {a b c:Rat} (h:kF a b c) (w:World) (hG:Gl w):Calls Tryz.prog 37 #[.agg #[.string (writeB a),.string (writeB b),.string (writeB c)]] w fun e w' => ∃ k:C9,e = .returned (.tuple #[k.val,.int .i64 0])∧Vc w' k.val a b c∧Below w.heap.size w w':=by
 refine (gI h [] w [.agg #[.string (writeB a),.string (writeB b),.string (writeB c)]] hG ⟨_,_,rfl,⟨[.string (writeB a),.string (writeB b),.string (writeB c)],rfl,[.string (writeB a)],_,rfl,rfl,[.string (writeB b)],_,rfl,rfl,[.string (writeB c)],_,rfl,rfl,rfl⟩,rfl⟩).mono ?_
 rintro e w' ⟨v,e1,e2,vs,rfl,u,r,rfl,h1,u2,r2,rfl,h2,h3⟩
 obtain ⟨k,rfl,h4⟩:=vc9 (rO.1 h1)
 have h5:[u2] = [.int .i64 0]:=h2.1
 injection h5 with h5
 rw [show r2 = [] from h3,h5] at e1
 exact ⟨k,e1,h4,e2⟩
section
variable {o1 o2 o3 x1 x2 x3 y1 y2 y3 z1 z2 z3:Rat}
theorem fr_holds {β:List Nat} {w:World} {o x y z:C9} (ho:Vc w o.val o1 o2 o3) (hx:Vc w x.val x1 x2 x3) (hy:Vc w y.val y1 y2 y3) (hz:Vc w z.val z1 z2 z3) :
 (lC o1 o2 o3 x1 x2 x3 y1 y2 y3 z1 z2 z3).holds β (.agg (frL o x y z).toArray) w :=
 ⟨frL o x y z,rfl,(((sO ho).append (sO hx)).append (sO hy)).append (sO hz)⟩
theorem check_any {w:World} {o x y z:C9} (ho:Vc w o.val o1 o2 o3) (hx:Vc w x.val x1 x2 x3) (hy:Vc w y.val y1 y2 y3) (hz:Vc w z.val z1 z2 z3) (l:Lm 25 x1 x2 x3 y1 y2 y3 z1 z2 z3) (h:Ax x1 x2 x3 y1 y2 y3 z1 z2 z3) :
 Calls Tryz.prog 98 #[.agg (frL o x y z).toArray] w fun e w'=>e = .returned (.int .i64 0)∧Below w.heap.size w w':=by
 refine (checkF (o1:=o1) (o2:=o2) (o3:=o3) l h [] w [.agg (frL o x y z).toArray] ⟨_,_,rfl,fr_holds ho hx hy hz,rfl⟩).mono ?_
 rintro e w' ⟨v,e1,e2,h1⟩
 have h5:[v] = [.int .i64 0]:=h1.1
 injection h5 with h5
 exact ⟨by rw [e1,h5],e2⟩
end
attribute [local go_sem] Oper.semAt_some
theorem yX {P:Program} {ops:Array Oper} {rest:List Oper} {o:Oper} {a:Act} {w:World} {Q:Exit→Act→World→Prop} (hg:o.guard=none) (t:TypeId) (parts:Array (Nat×Operand)) (ho:o.op = .build t parts) (cs:Array Value)
 (hb:P.built t (parts.map fun (i,x)=>(i,a.eval x)).toList=some cs) (h:wpList P ops Q rest (a.put o.dst (.agg cs)) w):wpList P ops Q (o::rest) a w :=
 wpList_build hg t parts ho (by rw [hb];rfl) (by rw [hb];exact h)
theorem store_new3 {P:Program} {ops:Array Oper} {rest:List Oper} {o:Oper} {a:Act} {Q:Exit→Act→World→Prop} (hgd:o.guard=none) (ty:TypeId) (x y:Operand) (ho:o.op = .store ty x y) (w1:World) (A B:Obj) (old cells:Array Value)
 (hx:a.eval x = .pointer (some ⟨w1.heap.size+1+1,0,none⟩)) (hy:a.eval y = .agg cells) (hi:(P.info? ty).map (·.size)=some cells.size) (hold:old.size=cells.size) (h1:cells.all (·.oneCell')=true)
 (h:∀ W3:World,W3.heap.size=w1.heap.size+3→Below w1.heap.size w1 W3→W3.heap[w1.heap.size]?=some A→W3.heap[w1.heap.size+1]?=some B→W3.heap[w1.heap.size+2]?=some (.cells cells ty (0,0))→wpList P ops Q rest (a.put o.dst undef) W3) :
 wpList P ops Q (o::rest) a (((w1.alloc A).alloc B).alloc (.cells old ty (0,0))):=by
 have hg:(((w1.alloc A).alloc B).alloc (.cells old ty (0,0))).heap[w1.heap.size+1+1]?=some (.cells old ty (0,0)):=by
  have:=World.alloc_heap_new ((w1.alloc A).alloc B) (.cells old ty (0,0))
  rwa [World.size_alloc,World.size_alloc] at this
 refine wpList_store_row hgd ty x y ho (w1.heap.size+1+1) cells hx hy ty old hg hi hold h1 (h _ (by rw [setRow_size];simp) ?_ ?_ ?_ (setRow_heap _ _ _ _ _ _ hg))
 ·exact below_setRow ((((aB _ w1).alloc (aR _) _).alloc (by simp) _).alloc (by simp;omega) _) (by omega) _
 ·rw [setRow_other _ _ _ _ (by omega)]
  exact (Below.heap_alloc _ _ _ (by simp;omega)).trans ((Below.heap_alloc _ _ _ (by simp)).trans (World.alloc_heap_new w1 A))
 ·rw [setRow_other _ _ _ _ (by omega)]
  refine (Below.heap_alloc _ _ _ (by simp)).trans ?_
  have:=World.alloc_heap_new (w1.alloc A) B
  rwa [World.size_alloc] at this
structure Stopped (p:Prop):Prop where
 out:p
theorem stop_store {P:Program} {ops:Array Oper} {rest:List Oper} {o:Oper} {a:Act} {w:World} {Q:Exit→Act→World→Prop} (ty:TypeId) (x y:Operand) (ho:o.op = .store ty x y) (h:Stopped (wpList P ops Q (o::rest) a w)):wpList P ops Q (o::rest) a w:=h.out
theorem uA {W W' : World} {row:Option Nat} (hg:W.grownBy W' row) (hrow:∀ r,row=some r→∃ o:Obj,W.heap[r]?=some o∧o.isCells=false):Go.Proofs.YtagahkpgdakofaaGreatDoor.Ext Kn W W':=by
 refine ⟨hg.size,fun g o h ho=>?_⟩
 have hc:o.isCells=true:=by cases o <;> first|rfl|(simp [Go.Proofs.YtagahkpgdakofaaGreatDoor.hotObj] at ho)
 exact (grownBy_keeps_cells hg hrow h hc).trans h
theorem Vc.kext {w w' : World} {v:Value} {a b c:Rat} (h:Vc w v a b c) (hx:Go.Proofs.YtagahkpgdakofaaGreatDoor.Ext Kn w w'):Vc w' v a b c:=h.ext (fun _=>rfl) (fun _=>rfl) hx
theorem load_all {P:Program} {ρ:Operand→Value} {o:Oper} {w:World} {T T' : TypeId} {x:Operand} {g:Nat} {cs:List Value} {d:TypeDesc} (ho:o.op = .load T x) (hx:ρ x = .pointer (some ⟨g,0,none⟩)) (hg:w.heap[g]?=some (.cells cs.toArray T' (0,0)))
 (hd:P.underlying T=some d) (hr:d.isRow=true) (hi:(P.info? T).map (·.size)=some cs.length):(execOp ρ o).run P w = .ok (.value (.agg cs.toArray)) w:=by
 have h:=run_loadVar_mid w g 0 T ((cs.drop 0).take cs.length) d (qY hg 0 cs.length) hd hr (by rw [hi,List.drop_zero,List.take_length])
 rw [List.drop_zero,List.take_length] at h
 simp only [execOp,ho,Instr.loadAt,hx,Instr.sureAddr]
 exact bI (by simpa [Sem.run_bind] using h)
theorem frL_one (o x y z:C9):∀ c∈frL o x y z,c.oneCell'=true:=by
 have h:(frL o x y z).all (·.oneCell')=true:=rfl
 exact fun c hc=>List.all_eq_true.1 h c hc
theorem fin3:∀ x:Fin 3,x=0∨x=1∨x=2:=by decide
theorem sP {w:World} {b i:Nat} {v:Value} (hlt:b<w.heap.size) (h:w.cell? ⟨b,i,none⟩=some v) (o:Obj):(w.alloc o).cell? ⟨b,i,none⟩=some v :=
 (((aB _ w).alloc (aR _) o).cell (p:=⟨b,i,none⟩) hlt).trans h
theorem gJ {w:World} {b i:Nat} {cs:Array Value} {t:TypeId} (hlt:b<w.heap.size) (h:w.heap[b]?=some (.cells cs t (0,0))) (o:Obj):(w.alloc o).frozen? ⟨b,i,none⟩=false :=
 aY ((((aB _ w).alloc (aR _) o).block b hlt).trans h) i
theorem sQ {n g:Nat} {o:Obj} {A X Y:World} (hb:Below n A X) (h:Turned g o X Y) (hn:n≤g):Below n A Y :=
 ⟨h.os.trans hb.os,h.tape.trans hb.tape,h.output.trans hb.output,by rw [h.size];exact hb.size,fun k hk=>(h.block k (by omega)).trans (hb.block k hk)⟩
theorem sR {g S:Nat} {o o0:Obj} {X Y:World} (h:Turned g o X Y) (h0:X.heap[g]?=some o0) (hc:o0.isCells=true):KeepsFrom S X Y:=by
 refine ⟨by rw [h.size];exact aR _,fun k o' _ hk ho=>?_⟩
 have:k≠g:=by
  rintro rfl
  rw [h0] at hk
  injection hk with hk
  rw [hk,ho] at hc
  cases hc
 exact (h.block k this).trans hk
theorem fL {S:Nat} {W W' : World} (h:Below W.heap.size W W'):KeepsFrom S W W':=⟨h.size,fun k o _ hk _=>(h.block k (Array.getElem?_eq_some_iff.1 hk).1).trans hk⟩
section
variable {w:World} {k:C9} {B E R:Nat} {o1 o2 o3 x1 x2 x3 y1 y2 y3 z1 z2 z3:Rat}
theorem mI (o x y z:C9) (T:TypeId):Go.Proofs.YtagahkpgdakofaaGreatDoor.hotObj Kn (.cells (frL o x y z).toArray T (0,0))=false:=by simp [Go.Proofs.YtagahkpgdakofaaGreatDoor.hotObj,frL,C9.cells,Kn]
theorem turn9 {w:World} {B:Nat} {T:TypeId} {cs cs' : Array Value} (off:Nat) (h:w.heap[B]?=some (.cells cs T (0,0))) (u0 u1 u2 u3 u4 u5 u6 u7 u8:Value)
 (e:((((((((cs.setIfInBounds off u0).setIfInBounds (off+1) u1).setIfInBounds (off+2) u2).setIfInBounds (off+3) u3).setIfInBounds (off+4) u4).setIfInBounds (off+5) u5).setIfInBounds (off+6) u6).setIfInBounds (off+7) u7).setIfInBounds (off+8) u8=cs') :
 Turned B (.cells cs' T (0,0)) w (((((((((w.setCell ⟨B,off,none⟩ u0).setCell ⟨B,off+1,none⟩ u1).setCell ⟨B,off+2,none⟩ u2).setCell ⟨B,off+3,none⟩ u3).setCell ⟨B,off+4,none⟩ u4).setCell ⟨B,off+5,none⟩ u5).setCell ⟨B,off+6,none⟩ u6).setCell ⟨B,off+7,none⟩ u7).setCell ⟨B,off+8,none⟩ u8):=by
 subst e
 have t0:=cR (i:=off) h u0
 have t1:=t0.trans (cR (i:=off+1) t0.at_ u1)
 have t2:=t1.trans (cR (i:=off+2) t1.at_ u2)
 have t3:=t2.trans (cR (i:=off+3) t2.at_ u3)
 have t4:=t3.trans (cR (i:=off+4) t3.at_ u4)
 have t5:=t4.trans (cR (i:=off+5) t4.at_ u5)
 have t6:=t5.trans (cR (i:=off+6) t5.at_ u6)
 have t7:=t6.trans (cR (i:=off+7) t6.at_ u7)
 exact t7.trans (cR (i:=off+8) t7.at_ u8)
end
end Fr
section
open Go.RowKit Pl
def dig (c:Nat):Bool:=decide (48≤c)&&decide (c≤57)
theorem digitsB_all {s:ByteArray} (h:∀ (j:Nat) (hj:j<s.size),dig (s[j]'hj).toNat=true):dN s=true:=by
 unfold dN
 rw [List.all_eq_true]
 intro c hc
 obtain ⟨j,hj,e⟩:=List.mem_iff_getElem.1 hc
 have hj2:j<s.size:=by rw [← aE];exact hj
 have h1:=cI hj2
 rw [List.getElem?_eq_getElem hj,e] at h1
 injection h1 with h1
 rw [h1]
 exact h j hj2
theorem dig_bad {c:Nat} (h:dig c=false):c<48∨57<c:=by
 simp only [dig,Bool.and_eq_false_iff,decide_eq_false_iff_not] at h
 omega
set_option maxRecDepth 100000 in
theorem isDigits_all (s:ByteArray) (w:World):Calls Tryz.prog 110 #[.string s] w fun e w'=>e = .returned (.bool (dN s&&decide (s.size≠0)))∧Below w.heap.size w w':=by
 have hne:(!(s.toList==(⟨#[]⟩:ByteArray).toList))=decide (s.size≠0):=by
  rw [Go.ByteArray.toList_eq,Go.ByteArray.toList_eq]
  have hl:=aE s
  unfold aC at hl
  cases hb:s.data.toList with
  | nil=>rw [hb] at hl;simp at hl;simp [← hl]
  | cons c l =>
    rw [hb] at hl
    simp at hl
    have:s.size≠0:=by omega
    simp [this]
 go_enter Tryz.func110,Tryz.ntmps110
 go_wp2
 go_loopw [4] (fun _ wr => ∃ pos:Nat,wr=w.iter s pos∧pos≤s.size∧∀ (j:Nat) (hj:j<s.size),j<pos→dig (s[j]'hj).toNat=true) (fun _ wr=>s.size-wr.iterPos w.heap.size)
 case atStart=>exact ⟨0,rfl,Nat.zero_le _,fun j _ h=>absurd h (Nat.not_lt_zero _)⟩
 case round =>
  obtain ⟨pos,rfl,hpos,hok⟩:=hrel
  by_cases hp:pos<s.size
  ·obtain ⟨c,k,hdc,hk,hgood⟩:∃ c k,Utf8.decode s pos=(c,k)∧1≤k∧(dig c=true→(∀ hj:pos<s.size,dig (s[pos]'hj).toNat=true)∧k=1)∧(dig c=false→∀ hj:pos<s.size,dig (s[pos]'hj).toNat=false):=by
    by_cases ha:(s[pos]'hp).toNat<128
    ·exact ⟨_,_,decode_ascii s pos hp ha,aR _,fun h=>⟨fun _=>h,rfl⟩,fun h _=>h⟩
    ·obtain ⟨h1,h2⟩:=decode_high s pos hp (by omega)
     refine ⟨(Utf8.decode s pos).1,(Utf8.decode s pos).2,rfl,h2,fun h=>?_,fun _ _=>?_⟩
     ·simp [dig] at h
      omega
     ·simp [dig]
      omega
   have hnx:∀ ty,(Instr.next (.pointer (some ⟨w.heap.size,0,none⟩)) true ty).run Tryz.prog (w.iter s pos) = .ok (.tuple #[.bool true,.int .i64 pos,.int .i32 (c:Int)]) (w.iter s (pos+k)):=fun ty=>by
    have:=run_next_any (P:=Tryz.prog) w s pos ty hp
    rw [hdc] at this
    exact this
   have HH:=aH (aI hp (aI hpos (aI hok (aI hk hgood))))
   clear hdc hp hpos hok hk hgood hne
   by_cases g1:48≤c
   ·by_cases g2:c≤57
    ·have k1:(48:Int)≤c:=by omega
     have k2:(c:Int)≤57:=by omega
     have G:=aH (show dig c=true by simp [dig,g1,g2])
     clear g1 g2
     go_wp2
     go_roundw
     case rel =>
      obtain ⟨hp,hpos,hok,hk,hg,_⟩:=HH.out
      obtain ⟨g1,rfl⟩:=hg G.out
      refine ⟨pos+1,rfl,hp,fun j hj hjp=>?_⟩
      by_cases hjj:j=pos
      ·subst hjj;exact g1 hj
      ·exact hok j hj (by omega)
     case measure =>
      have:=HH.out.1
      have:=HH.out.2.2.2.1
      simp
      omega
    ·have k1:(48:Int)≤c:=by omega
     have k2:(57:Int)<c:=by omega
     have G:=aH (show dig c=false by simp [dig];omega)
     clear g1 g2
     go_wp2
     go_ret
     obtain ⟨hp,_,_,_,_,hg⟩:=HH.out
     exact ⟨by rw [kK hp (dig_bad (hg G.out hp))];rfl,eS _ _ _⟩
   ·have k1:(c:Int)<48:=by omega
    have G:=aH (show dig c=false by simp [dig];omega)
    clear g1
    go_wp2
    go_ret
    obtain ⟨hp,_,_,_,_,hg⟩:=HH.out
    exact ⟨by rw [kK hp (dig_bad (hg G.out hp))];rfl,eS _ _ _⟩
  ·have hnx:∀ ty,(Instr.next (.pointer (some ⟨w.heap.size,0,none⟩)) true ty).run Tryz.prog (w.iter s pos)=_:=fun ty=>run_next_end w s pos ty hp
   have H2:=aH (show dN s=true from digitsB_all fun j hj=>hok j hj (by omega))
   have H3:=aH hne
   clear hok hp hpos hne
   obtain ⟨b,hb⟩:∃ b,b=(!(s.toList==(⟨#[]⟩:ByteArray).toList)):=⟨_,rfl⟩
   go_wp2
   go_ret
   refine ⟨?_,eS _ _ _⟩
   have e:=H3.out
   rw [H2.out,Bool.true_and,← e]
   simp
end
namespace Ab
open Go.RowKit Pl
theorem nF {s:ByteArray} {b:Bool} (h:(dN s&&decide (s.size≠0))=b):jF 110 [tx s] (bl b):=by
 intro β w vs hv
 obtain ⟨v,rfl,h1⟩:=cW hv
 rw [aQ h1]
 exact (isDigits_all s w).mono fun e w' ⟨e1,e2⟩=>⟨_,e1,e2,by rw [h];exact bB rfl⟩
theorem bF {s:ByteArray} {b:Bool} (h:decF s=b):jF 135 [tx s] (bl b):=by
 by_cases h0:(dN s&&decide (s.size≠0))=false
 ·have:b=false:=by
   rw [← h]
   unfold decF
   split
   ·rfl
   ·rename_i hz
    split
    ·rfl
    ·rw [decide_eq_true hz,Bool.and_true] at h0
     exact h0
  subst this
  refine jG Tryz.func135 fun w00=>?_
  refine jC 110 [tx s] (nF h0) ?_
  exact jR Tryz.func135
 rw [Bool.not_eq_false] at h0
 obtain ⟨h1,h2⟩:=Bool.and_eq_true_iff.1 h0
 have h2:s.size≠0:=of_decide_eq_true h2
 have hp:0<s.size:=by omega
 obtain ⟨c,hc⟩:∃ c,s[0]?=some c:=⟨_,getElem?_pos s 0 hp⟩
 have hh:(aC s).head?=some c:=by
  rw [List.head?_eq_getElem?,cI hp,← hc,getElem?_pos s 0 hp]
 unfold decF at h
 rw [if_neg h2,hh,h1] at h
 by_cases e:c=48
 ·have q1:(((c.toNat:Nat):Int) != 48)=false:=by rw [e];rfl
  have q2:(((s.size:Nat):Int)==1)=b:=by
   rw [← h,e]
   by_cases g:1<s.size
   ·rw [if_pos ⟨g,rfl⟩,beq_eq_false_iff_ne];omega
   ·rw [if_neg (fun k=>g k.1),beq_iff_eq];omega
  refine jG Tryz.func135 fun w00=>?_
  refine jC 110 [tx s] (nF h0) ?_
  refine jK (.index 9 (.tmp 6) (.const (.int .i64 0))) (.tmp 6) (.const (.int .i64 0)) (tx s) (it 0) (.fv (.sc (isB c.toNat))) (fun ρ o β w ho hx hy=>⟨_,lU (i:=0) ho Tryz.underlying9 (aQ hx) (aN hy) hc,bG⟩) ?_
  refine jK (.binOp .neq 5 (.tmp 7) (.const (.int .u8 48)) 5) (.tmp 7) (.const (.int .u8 48)) (.fv (.sc (isB c.toNat))) (.fv (.sc (.lit (.int .u8 48)))) (bl false) (fun ρ o β w ho hx hy=>⟨_,mY ho (aQ hx) (aN hy) q1,bB rfl⟩) ?_
  refine jO 10 s ?_
  refine jK (.binOp .eql 3 (.tmp 11) (.const (.int .i64 1)) 3) (.tmp 11) (.const (.int .i64 1)) (.fv (.sc (iP s.size))) (it 1) (bl b) (fun ρ o β w ho hx hy=>⟨_,zQ ho (aQ hx) (aN hy) q2,bB rfl⟩) ?_
  exact jR Tryz.func135
 ·have q1:(((c.toNat:Nat):Int) != 48)=true:=by
   rw [bne_iff_ne]
   intro k
   exact e (UInt8.toNat_inj.1 (by have:(48:UInt8).toNat=48:=rfl;omega))
  rw [if_neg (fun k=>e (by injection k.2))] at h
  subst h
  refine jG Tryz.func135 fun w00=>?_
  refine jC 110 [tx s] (nF h0) ?_
  refine jK (.index 9 (.tmp 6) (.const (.int .i64 0))) (.tmp 6) (.const (.int .i64 0)) (tx s) (it 0) (.fv (.sc (isB c.toNat))) (fun ρ o β w ho hx hy=>⟨_,lU (i:=0) ho Tryz.underlying9 (aQ hx) (aN hy) hc,bG⟩) ?_
  refine jK (.binOp .neq 5 (.tmp 7) (.const (.int .u8 48)) 5) (.tmp 7) (.const (.int .u8 48)) (.fv (.sc (isB c.toNat))) (.fv (.sc (.lit (.int .u8 48)))) (bl true) (fun ρ o β w ho hx hy=>⟨_,mY ho (aQ hx) (aN hy) q1,bB rfl⟩) ?_
  exact jR Tryz.func135
end Ab
namespace Ab
open Go.RowKit Pl
theorem index47:∀ l:List UInt8,Lib.index l [47]=if l.findIdx (fun c=>c==47)<l.length then ((l.findIdx (fun c=>c==47):Nat):Int) else -1
 | []=>rfl
 | c :: l=>by
   by_cases hc:c=47
   ·subst hc
    unfold Lib.index
    simp [List.isPrefixOf,List.findIdx_cons]
   ·have h2:([47]:List UInt8).isPrefixOf (c::l)=false:=by
     simp [List.isPrefixOf]
     exact fun e=>hc e.symm
    have h3:(c==47)=false:=by rw [beq_eq_false_iff_ne];exact hc
    unfold Lib.index
    rw [h2,index47 l,List.findIdx_cons,h3]
    simp only [cond_false,List.length_cons]
    by_cases hl:l.findIdx (fun c=>c==47)<l.length
    ·have:(((l.findIdx (fun c=>c==47):Nat):Int) == -1)=false:=by rw [beq_eq_false_iff_ne];omega
     rw [if_pos hl,if_pos (show l.findIdx (fun c=>c==47)+1<l.length+1 by omega),this]
     simp
    ·rw [if_neg hl,if_neg (show ¬ l.findIdx (fun c=>c==47)+1<l.length+1 by omega)]
     rfl
theorem cut_slash {t:ByteArray} (h:aJ t<t.size):Lib.cut t.data.toList [47]=((t.extract 0 (aJ t)).data.toList,(t.extract (aJ t+1) t.size).data.toList,true):=by
 have e:Lib.index t.data.toList [47]=((aJ t:Nat):Int):=by
  have:=index47 (aC t)
  rw [if_pos (show (aC t).findIdx (fun c=>c==47)<(aC t).length by rw [aE];exact h)] at this
  exact this
 have e1:(t.extract 0 (aJ t)).data.toList=t.data.toList.take (aJ t):=by
  show aC (t.extract 0 (aJ t))=_
  rw [aS,List.drop_zero]
  rfl
 have e2:(t.extract (aJ t+1) t.size).data.toList=t.data.toList.drop (aJ t+1):=by
  show aC (t.extract (aJ t+1) t.size)=_
  rw [aS,List.take_of_length_le (by rw [aE];exact aR _)]
  rfl
 rw [e1,e2]
 unfold Lib.cut
 rw [e,if_pos (by omega)]
 simp
theorem cut_none {t:ByteArray} (h:¬ aJ t<t.size):Lib.cut t.data.toList [47]=(t.data.toList,(⟨#[]⟩:ByteArray).data.toList,false):=by
 have e:Lib.index t.data.toList [47] = -1:=by
  have:=index47 (aC t)
  rw [if_neg (show ¬ (aC t).findIdx (fun c=>c==47)<(aC t).length by rw [aE];exact h)] at this
  exact this
 unfold Lib.cut
 rw [e]
 rfl
theorem cG {s t:ByteArray} {b:Bool} (ht:bE s=t) (hb:gW s=b):jF 53 [tx s,lt ⟨#[45]⟩] (.tup [.sc (bS t),.sc (.lit (.bool b))]):=by
 intro β w vs hv
 obtain ⟨v,u,rfl,h1,h2⟩:=dZ hv
 rw [aQ h1,aN h2]
 have key:(⟨(Lib.trimPrefix s.data.toList [45]).toArray⟩:ByteArray)=t∧Lib.hasPrefix s.data.toList [45]=b:=by
  have hp:Lib.hasPrefix s.data.toList [45]=gW s:=by
   show ([45]:List UInt8).isPrefixOf (aC s)=((aC s).head?==some 45)
   cases aC s with
   | nil=>rfl
   | cons c l =>
     rw [Bool.eq_iff_iff]
     simp [List.isPrefixOf]
     exact ⟨fun e=>e.symm,fun e=>e.symm⟩
  refine ⟨?_,by rw [hp,hb]⟩
  unfold Lib.trimPrefix
  rw [hp,← ht]
  unfold bE
  split
  ·refine ba_ext ?_
   show _=aC (s.extract 1 s.size)
   rw [aS,List.take_of_length_le (by rw [aE];exact aR _)]
   rfl
  ·exact ba_ext (by simp)
 refine (Tryz.strings_CutPrefix s ⟨#[45]⟩ w).mono fun e w' ⟨e1,e2⟩=>⟨_,e1,by rw [e2];exact aB _ _,?_⟩
 rw [show (⟨#[45]⟩:ByteArray).data.toList = [45] from rfl,key.1,key.2]
 exact ⟨[.string t,.bool b],rfl,_,_,rfl,bG (β:=β),_,_,rfl,⟨rfl,rfl⟩,rfl⟩
theorem yE (s:ByteArray):(bE s).size≤s.size:=by
 unfold bE
 split
 ·rw [ByteArray.size_extract];omega
 ·exact aR _
abbrev badN (z:Int):AV Kn := .tup [.ag [.lit (.int .i64 0),.lit (.int .i64 0),.lit (.pointer none)],.sc (.lit (.int .i64 z))]
theorem gcdAnyF {n m:Nat} (h1:(decB n).size≤600) (h2:(decB m).size≤600) (hm:m≠0):jF 116 [nt n,nt m] (nt (Nat.gcd n m)) :=
 xP ((nA (k:=5) (by omega)).mono (by decide)) ((nA (k:=5) (by omega)).mono (by decide)) (.inr (Nat.pos_of_ne_zero hm))
section
variable {s t a d:ByteArray} {z:Int}
theorem yY {b:Bool} (hs:s.size<4294967281) (hz:bT s=z) (h0:z≠0) (ht:bE s=t) (hb:gW s=b) (hlt:aJ t<t.size) (ha:t.extract 0 (aJ t)=a) (hd:t.extract (aJ t+1) t.size=d):jX 67 [tx s] (badN z):=by
 have hts:t.size<4294967281:=by have:=yE s;rw [ht] at this;omega
 have hcut:=cut_slash hlt
 have hsa:a.size=aJ t:=by rw [← ha,ByteArray.size_extract];omega
 have hsd:d.size=t.size-a.size-1:=by rw [hsa,← hd,ByteArray.size_extract];omega
 rw [ha,hd] at hcut
 unfold bT at hz
 rw [ht,ha,hd,hb,← hsa,← hsd] at hz
 simp only [show a.size<t.size from by omega,true_and] at hz
 have c0:∀ x:ByteArray,decF x=true∨decF x=false:=fun x=>by cases decF x <;> simp
 cases b with
 | true =>
   rcases c0 a with c1|c1
   ·rw [c1] at hz
    by_cases a0:a=zeroT
    ·rw [if_pos (.inr ⟨rfl,a0⟩)] at hz
     subst hz
     refine jY Tryz.func67 fun w00 hI=>?_
     refine jC 53 [tx s,lt ⟨#[45]⟩] (cG ht hb) ?_
     refine jW hI 134 [tx t,lt ⟨#[47]⟩] (rX (a:=a) (b:=d) (r:=true) hts hcut) ?_
     refine jC 135 [tx a] (bF c1) ?_
     refine jQ 31 a ⟨#[48]⟩ true (by rw [a0];exact beq_self_eq_true _) ?_
     exact jR Tryz.func67
    rw [if_neg (by rintro (h|h);exact absurd h (by decide);exact a0 h.2)] at hz
    refine jY Tryz.func67 fun w00 hI=>?_
    refine jC 53 [tx s,lt ⟨#[45]⟩] (cG ht hb) ?_
    refine jW hI 134 [tx t,lt ⟨#[47]⟩] (rX (a:=a) (b:=d) (r:=true) hts hcut) ?_
    refine jC 135 [tx a] (bF c1) ?_
    refine jQ 31 a ⟨#[48]⟩ false (dS a0) ?_
    rcases c0 d with d1|d1
    ·rw [d1] at hz
     by_cases d0:d=zeroT
     ·rw [if_pos (.inr (.inl d0))] at hz
      subst hz
      refine jC 135 [tx d] (bF d1) ?_
      refine jQ 43 d ⟨#[48]⟩ true (by rw [d0];exact beq_self_eq_true _) ?_
      exact jR Tryz.func67
     by_cases d2:d=oneT
     ·rw [if_pos (.inr (.inr d2))] at hz
      subst hz
      refine jC 135 [tx d] (bF d1) ?_
      refine jQ 43 d ⟨#[48]⟩ false (dS d0) ?_
      refine jQ 47 d ⟨#[49]⟩ true (by rw [d2];exact beq_self_eq_true _) ?_
      exact jR Tryz.func67
     rw [if_neg (by rintro (h|h|h);exact absurd h (by decide);exact d0 h;exact d2 h)] at hz
     refine jC 135 [tx d] (bF d1) ?_
     refine jQ 43 d ⟨#[48]⟩ false (dS d0) ?_
     refine jQ 47 d ⟨#[49]⟩ false (dS d2) ?_
     refine jO 53 a ?_
     by_cases l1:600<a.size
     ·rw [if_pos (.inl l1)] at hz
      subst hz
      refine jM 54 a.size 600 true (by rw [decide_eq_true_iff];omega) ?_
      exact jR Tryz.func67
     refine jM 54 a.size 600 false (by rw [decide_eq_false_iff_not];omega) ?_
     refine jO 57 d ?_
     by_cases l2:600<d.size
     ·rw [if_pos (.inr l2)] at hz
      subst hz
      refine jM 58 d.size 600 true (by rw [decide_eq_true_iff];omega) ?_
      exact jR Tryz.func67
     refine jM 58 d.size 600 false (by rw [decide_eq_false_iff_not];omega) ?_
     rw [if_neg (by omega)] at hz
     have hae:=iC c1
     have hde:=iC d1
     generalize aU (aC a)=n at hae hz
     generalize aU (aC d)=m at hde hz
     subst hae
     subst hde
     have hm0:m≠0:=fun e=>d0 (by rw [e,dec0];rfl)
     by_cases hg:Nat.gcd n m=1
     ·rw [if_neg (fun h=>h hg)] at hz
      exact absurd hz.symm h0
     rw [if_pos hg] at hz
     subst hz
     refine jC 56 [tx (decB n)] (bO (by omega)) ?_
     refine jC 56 [tx (decB m)] (bO (by omega)) ?_
     refine jC 116 [nt n,nt m] (gcdAnyF (by omega) (by omega) hm0) ?_
     refine jC 115 [nt (Nat.gcd n m)] (isOneF (b:=false) (by rw [decide_eq_false_iff_not];exact hg)) ?_
     exact jR Tryz.func67
    ·rw [if_pos (.inl d1)] at hz
     subst hz
     refine jC 135 [tx d] (bF d1) ?_
     exact jR Tryz.func67
   ·rw [if_pos (.inl c1)] at hz
    subst hz
    refine jY Tryz.func67 fun w00 hI=>?_
    refine jC 53 [tx s,lt ⟨#[45]⟩] (cG ht hb) ?_
    refine jW hI 134 [tx t,lt ⟨#[47]⟩] (rX (a:=a) (b:=d) (r:=true) hts hcut) ?_
    refine jC 135 [tx a] (bF c1) ?_
    exact jR Tryz.func67
 | false =>
   rcases c0 a with c1|c1
   ·rw [c1] at hz
    rw [if_neg (by rintro (h|h);exact absurd h (by decide);exact absurd h.1 (by decide))] at hz
    refine jY Tryz.func67 fun w00 hI=>?_
    refine jC 53 [tx s,lt ⟨#[45]⟩] (cG ht hb) ?_
    refine jW hI 134 [tx t,lt ⟨#[47]⟩] (rX (a:=a) (b:=d) (r:=true) hts hcut) ?_
    refine jC 135 [tx a] (bF c1) ?_
    rcases c0 d with d1|d1
    ·rw [d1] at hz
     by_cases d0:d=zeroT
     ·rw [if_pos (.inr (.inl d0))] at hz
      subst hz
      refine jC 135 [tx d] (bF d1) ?_
      refine jQ 43 d ⟨#[48]⟩ true (by rw [d0];exact beq_self_eq_true _) ?_
      exact jR Tryz.func67
     by_cases d2:d=oneT
     ·rw [if_pos (.inr (.inr d2))] at hz
      subst hz
      refine jC 135 [tx d] (bF d1) ?_
      refine jQ 43 d ⟨#[48]⟩ false (dS d0) ?_
      refine jQ 47 d ⟨#[49]⟩ true (by rw [d2];exact beq_self_eq_true _) ?_
      exact jR Tryz.func67
     rw [if_neg (by rintro (h|h|h);exact absurd h (by decide);exact d0 h;exact d2 h)] at hz
     refine jC 135 [tx d] (bF d1) ?_
     refine jQ 43 d ⟨#[48]⟩ false (dS d0) ?_
     refine jQ 47 d ⟨#[49]⟩ false (dS d2) ?_
     refine jO 53 a ?_
     by_cases l1:600<a.size
     ·rw [if_pos (.inl l1)] at hz
      subst hz
      refine jM 54 a.size 600 true (by rw [decide_eq_true_iff];omega) ?_
      exact jR Tryz.func67
     refine jM 54 a.size 600 false (by rw [decide_eq_false_iff_not];omega) ?_
     refine jO 57 d ?_
     by_cases l2:600<d.size
     ·rw [if_pos (.inr l2)] at hz
      subst hz
      refine jM 58 d.size 600 true (by rw [decide_eq_true_iff];omega) ?_
      exact jR Tryz.func67
     refine jM 58 d.size 600 false (by rw [decide_eq_false_iff_not];omega) ?_
     rw [if_neg (by omega)] at hz
     have hae:=iC c1
     have hde:=iC d1
     generalize aU (aC a)=n at hae hz
     generalize aU (aC d)=m at hde hz
     subst hae
     subst hde
     have hm0:m≠0:=fun e=>d0 (by rw [e,dec0];rfl)
     by_cases hg:Nat.gcd n m=1
     ·rw [if_neg (fun h=>h hg)] at hz
      exact absurd hz.symm h0
     rw [if_pos hg] at hz
     subst hz
     refine jC 56 [tx (decB n)] (bO (by omega)) ?_
     refine jC 56 [tx (decB m)] (bO (by omega)) ?_
     refine jC 116 [nt n,nt m] (gcdAnyF (by omega) (by omega) hm0) ?_
     refine jC 115 [nt (Nat.gcd n m)] (isOneF (b:=false) (by rw [decide_eq_false_iff_not];exact hg)) ?_
     exact jR Tryz.func67
    ·rw [if_pos (.inl d1)] at hz
     subst hz
     refine jC 135 [tx d] (bF d1) ?_
     exact jR Tryz.func67
   ·rw [if_pos (.inl c1)] at hz
    subst hz
    refine jY Tryz.func67 fun w00 hI=>?_
    refine jC 53 [tx s,lt ⟨#[45]⟩] (cG ht hb) ?_
    refine jW hI 134 [tx t,lt ⟨#[47]⟩] (rX (a:=a) (b:=d) (r:=true) hts hcut) ?_
    refine jC 135 [tx a] (bF c1) ?_
    exact jR Tryz.func67
theorem yZ {b:Bool} (hs:s.size<4294967281) (hz:bT s=z) (h0:z≠0) (ht:bE s=t) (hb:gW s=b) (hlt:¬ aJ t<t.size):jX 67 [tx s] (badN z):=by
 have hts:t.size<4294967281:=by have:=yE s;rw [ht] at this;omega
 have hcut:=cut_none hlt
 have hk:aJ t=t.size:=by have:=cA t;omega
 have g3:decide ((600:Int)<(((⟨#[49]⟩:ByteArray).size:Nat):Int))=false:=by decide
 unfold bT at hz
 rw [ht,hb,hk,vY] at hz
 simp only [Nat.lt_irrefl,false_and,if_false] at hz
 have c0:∀ x:ByteArray,decF x=true∨decF x=false:=fun x=>by cases decF x <;> simp
 cases b with
 | true =>
   rcases c0 t with c1|c1
   ·rw [c1] at hz
    by_cases a0:t=zeroT
    ·rw [if_pos (.inr ⟨rfl,a0⟩)] at hz
     subst hz
     refine jY Tryz.func67 fun w00 hI=>?_
     refine jC 53 [tx s,lt ⟨#[45]⟩] (cG ht hb) ?_
     refine jW hI 134 [tx t,lt ⟨#[47]⟩] (rX (a:=t) (b:=⟨#[]⟩) (r:=false) hts hcut) ?_
     refine jC 135 [tx t] (bF c1) ?_
     refine jQ 31 t ⟨#[48]⟩ true (by rw [a0];exact beq_self_eq_true _) ?_
     exact jR Tryz.func67
    rw [if_neg (by rintro (h|h);exact absurd h (by decide);exact a0 h.2)] at hz
    have hl:600<t.size:=by
     by_cases g:600<t.size
     ·exact g
     ·rw [if_neg (by omega)] at hz;exact absurd hz.symm h0
    rw [if_pos (.inl hl)] at hz
    subst hz
    refine jY Tryz.func67 fun w00 hI=>?_
    refine jC 53 [tx s,lt ⟨#[45]⟩] (cG ht hb) ?_
    refine jW hI 134 [tx t,lt ⟨#[47]⟩] (rX (a:=t) (b:=⟨#[]⟩) (r:=false) hts hcut) ?_
    refine jC 135 [tx t] (bF c1) ?_
    refine jQ 31 t ⟨#[48]⟩ false (dS a0) ?_
    refine jO 53 t ?_
    refine jM 54 t.size 600 true (by rw [decide_eq_true_iff];omega) ?_
    exact jR Tryz.func67
   ·rw [if_pos (.inl c1)] at hz
    subst hz
    refine jY Tryz.func67 fun w00 hI=>?_
    refine jC 53 [tx s,lt ⟨#[45]⟩] (cG ht hb) ?_
    refine jW hI 134 [tx t,lt ⟨#[47]⟩] (rX (a:=t) (b:=⟨#[]⟩) (r:=false) hts hcut) ?_
    refine jC 135 [tx t] (bF c1) ?_
    exact jR Tryz.func67
 | false =>
   rcases c0 t with c1|c1
   ·rw [c1] at hz
    rw [if_neg (by rintro (h|h);exact absurd h (by decide);exact absurd h.1 (by decide))] at hz
    have hl:600<t.size:=by
     by_cases g:600<t.size
     ·exact g
     ·rw [if_neg (by omega)] at hz;exact absurd hz.symm h0
    rw [if_pos (.inl hl)] at hz
    subst hz
    refine jY Tryz.func67 fun w00 hI=>?_
    refine jC 53 [tx s,lt ⟨#[45]⟩] (cG ht hb) ?_
    refine jW hI 134 [tx t,lt ⟨#[47]⟩] (rX (a:=t) (b:=⟨#[]⟩) (r:=false) hts hcut) ?_
    refine jC 135 [tx t] (bF c1) ?_
    refine jO 53 t ?_
    refine jM 54 t.size 600 true (by rw [decide_eq_true_iff];omega) ?_
    exact jR Tryz.func67
   ·rw [if_pos (.inl c1)] at hz
    subst hz
    refine jY Tryz.func67 fun w00 hI=>?_
    refine jC 53 [tx s,lt ⟨#[45]⟩] (cG ht hb) ?_
    refine jW hI 134 [tx t,lt ⟨#[47]⟩] (rX (a:=t) (b:=⟨#[]⟩) (r:=false) hts hcut) ?_
    refine jC 135 [tx t] (bF c1) ?_
    exact jR Tryz.func67
theorem readBadF (hs:s.size<4294967281) (hz:bT s=z) (h0:z≠0):jX 67 [tx s] (badN z):=by
 by_cases h:aJ (bE s)<(bE s).size
 ·exact yY hs hz h0 rfl rfl h rfl rfl
 ·exact yZ hs hz h0 rfl rfl h
end
noncomputable def cL (s:ByteArray):Rat:=if h:bT s=0 then Classical.choose (qQ h) else 0
theorem valB_ok {s:ByteArray} (h:bT s=0):s=writeB (cL s)∧Wr (cL s):=by
 unfold cL
 rw [dif_pos h]
 have:=Classical.choose_spec (qQ h)
 exact ⟨this.1,this.2.1,this.2.2⟩
theorem valB_bad {s:ByteArray} (h:bT s≠0):cL s=0:=dif_neg h
abbrev okN (q:Rat) (z:Int):AV Kn := .tup [.ag [nb q],.sc (.lit (.int .i64 z))]
theorem yF {s:ByteArray} {z:Int} (hs:s.size<4294967281) (hz:bT s=z):jX 67 [tx s] (okN (cL s) z):=by
 by_cases h:z=0
 ·subst h
  obtain ⟨e,hw⟩:=valB_ok hz
  have:=xU hw
  rw [← e] at this
  exact this
 ·rw [valB_bad (by rw [hz];exact h)]
  refine FitsW.res (readBadF hs hz h) fun β v w hv=>?_
  obtain ⟨vs,rfl,x,r,rfl,hx,hr⟩:=hv
  exact ⟨_,rfl,x,r,rfl,zero_num hx,hr⟩
theorem dB (s:ByteArray):bT s=0∨bT s=1∨bT s=4:=by
 unfold bT
 split
 ·exact .inr (.inl rfl)
 split
 ·exact .inr (.inl rfl)
 split
 ·exact .inr (.inr rfl)
 split
 ·exact .inr (.inl rfl)
 ·exact .inl rfl
def f2 (x y:Int):Int:=if x=0 then y else x
def f3 (x y z:Int):Int:=f2 x (f2 y z)
abbrev Ev (z:Int):Prop:=z=0∨z=1∨z=4
theorem f2_ev {x y:Int} (hx:Ev x) (hy:Ev y):Ev (f2 x y):=by unfold f2;split <;> assumption
theorem sS {x y:Int} (h:f2 x y=0):x=0∧y=0:=by
 unfold f2 at h
 split at h
 ·rename_i e;exact ⟨e,h⟩
 ·rename_i e;exact absurd h e
theorem f2_r {x y:Int} (h:x=0):f2 x y=y:=if_pos h
abbrev lz (z:Int):Seg Kn := .lit (.int .i64 z)
theorem first2Any {T:TypeId} {x y z:Int} (hx:Ev x) (hy:Ev y) (hz:f2 x y=z):jF 69 [.fv (.nsl 2 T [lz x,lz y])] (it z):=by
 rcases hx with rfl|rfl|rfl
 ·have hz:y=z:=hz
  subst hz
  rcases hy with rfl|rfl|rfl <;> (refine nL Tryz.func69 (by kernel_rfl) fun w00=>?_;exact kret Tryz.func69 (by kernel_rfl))
 ·have hz:1=z:=hz
  subst hz
  refine nL Tryz.func69 (by kernel_rfl) fun w00=>?_
  exact jR Tryz.func69
 ·have hz:4=z:=hz
  subst hz
  refine nL Tryz.func69 (by kernel_rfl) fun w00=>?_
  exact jR Tryz.func69
theorem first3Any {T:TypeId} {x y u z:Int} (hx:Ev x) (hy:Ev y) (hu:Ev u) (hz:f3 x y u=z):jF 69 [.fv (.nsl 3 T [lz x,lz y,lz u])] (it z):=by
 rcases hx with rfl|rfl|rfl
 ·rcases hy with rfl|rfl|rfl
  ·have hz:u=z:=hz
   subst hz
   rcases hu with rfl|rfl|rfl <;> (refine nL Tryz.func69 (by kernel_rfl) fun w00=>?_;exact kret Tryz.func69 (by kernel_rfl))
  ·have hz:1=z:=hz
   subst hz
   refine nL Tryz.func69 (by kernel_rfl) fun w00=>?_
   exact jR Tryz.func69
  ·have hz:4=z:=hz
   subst hz
   refine nL Tryz.func69 (by kernel_rfl) fun w00=>?_
   exact jR Tryz.func69
 ·have hz:1=z:=hz
  subst hz
  refine nL Tryz.func69 (by kernel_rfl) fun w00=>?_
  exact jR Tryz.func69
 ·have hz:4=z:=hz
  subst hz
  refine nL Tryz.func69 (by kernel_rfl) fun w00=>?_
  exact jR Tryz.func69
abbrev Rb (s:ByteArray):Prop:=s.size<4294967281
abbrev Rb3 (a b c:ByteArray):Prop:=Rb a∧Rb b∧Rb c
abbrev c3 (a b c:ByteArray):Int:=f3 (bT a) (bT b) (bT c)
theorem kS (a b c:ByteArray):Ev (c3 a b c):=f2_ev (dB _) (f2_ev (dB _) (dB _))
section
variable {a b c x y u:ByteArray} {z:Int}
theorem oP (h:Rb3 a b c) (hz:c3 a b c=z):jX 37 [t3 a b c] (.tup [.ag [nb (cL a),nb (cL b),nb (cL c)],.sc (lz z)]):=by
 refine jY Tryz.func37 fun w00 hI=>?_
 refine jW hI 67 [tx a] (yF h.1 rfl) ?_
 refine jW hI 67 [tx b] (yF h.2.1 rfl) ?_
 refine jW hI 67 [tx c] (yF h.2.2 rfl) ?_
 refine kcallS 69 3 3 141 [lz (bT a),lz (bT b),lz (bT c)] (first3Any (dB _) (dB _) (dB _) hz) (by kernel_rfl) Tryz.call69 ?_
 exact jR Tryz.func37
end
end Ab
namespace Fr
open Go.RowKit Go.Shelf Ab Pl
attribute [local go_sem] Oper.semAt_some
def m9 (m:C9):Obj := .cells #[.int .i64 m.n1,.int .i64 m.d1,.pointer m.p1,.int .i64 m.n2,.int .i64 m.d2,.pointer m.p2,.int .i64 m.n3,.int .i64 m.d3,.pointer m.p3] 71 (0,0)
def st9 (X:World) (B a b c d e f g h i:Nat) (m:C9):World:=((((((((X.setCell ⟨B,a,none⟩ (.int .i64 m.n1)).setCell ⟨B,b,none⟩ (.int .i64 m.d1)).setCell ⟨B,c,none⟩ (.pointer m.p1)).setCell ⟨B,d,none⟩ (.int .i64 m.n2)).setCell ⟨B,e,none⟩ (.int .i64 m.d2)).setCell ⟨B,f,none⟩ (.pointer m.p2)).setCell ⟨B,g,none⟩ (.int .i64 m.n3)).setCell ⟨B,h,none⟩ (.int .i64 m.d3)).setCell ⟨B,i,none⟩ (.pointer m.p3)
abbrev N9 (cs:Array Value) (t:C9) (a b c d e f g h i:Nat):Prop:=cs[a]?=some (.int .i64 t.n1)∧cs[b]?=some (.int .i64 t.d1)∧cs[c]?=some (.pointer t.p1)∧cs[d]?=some (.int .i64 t.n2)∧cs[e]?=some (.int .i64 t.d2)∧cs[f]?=some (.pointer t.p2)∧cs[g]?=some (.int .i64 t.n3)∧cs[h]?=some (.int .i64 t.d3)∧cs[i]?=some (.pointer t.p3)
theorem up9 {w:World} {B a b c d e f g h i:Nat} {cs:Array Value} {T:TypeId} (t:C9) (hlt:B<w.heap.size) (hb:w.heap[B]?=some (.cells cs T (0,0))) (hc:N9 cs t a b c d e f g h i):(∀ o,(w.alloc o).cell? ⟨B,a,none⟩=some (.int .i64 t.n1))∧(∀ o,(w.alloc o).frozen? ⟨B,a,none⟩=false)∧(∀ o,(w.alloc o).cell? ⟨B,b,none⟩=some (.int .i64 t.d1))∧(∀ o,(w.alloc o).frozen? ⟨B,b,none⟩=false)∧(∀ o,(w.alloc o).cell? ⟨B,c,none⟩=some (.pointer t.p1))∧(∀ o,(w.alloc o).frozen? ⟨B,c,none⟩=false)∧(∀ o,(w.alloc o).cell? ⟨B,d,none⟩=some (.int .i64 t.n2))∧(∀ o,(w.alloc o).frozen? ⟨B,d,none⟩=false)∧(∀ o,(w.alloc o).cell? ⟨B,e,none⟩=some (.int .i64 t.d2))∧(∀ o,(w.alloc o).frozen? ⟨B,e,none⟩=false)∧(∀ o,(w.alloc o).cell? ⟨B,f,none⟩=some (.pointer t.p2))∧(∀ o,(w.alloc o).frozen? ⟨B,f,none⟩=false)∧(∀ o,(w.alloc o).cell? ⟨B,g,none⟩=some (.int .i64 t.n3))∧(∀ o,(w.alloc o).frozen? ⟨B,g,none⟩=false)∧(∀ o,(w.alloc o).cell? ⟨B,h,none⟩=some (.int .i64 t.d3))∧(∀ o,(w.alloc o).frozen? ⟨B,h,none⟩=false)∧(∀ o,(w.alloc o).cell? ⟨B,i,none⟩=some (.pointer t.p3))∧(∀ o,(w.alloc o).frozen? ⟨B,i,none⟩=false):=by
 obtain ⟨c0,c1,c2,c3,c4,c5,c6,c7,c8⟩:=hc
 have k:∀ {j:Nat} {v:Value},cs[j]?=some v→∀ o,(w.alloc o).cell? ⟨B,j,none⟩=some v:=fun hj=>sP hlt (by simp [World.cell?,hb,hj])
 exact ⟨k c0,gJ hlt hb,k c1,gJ hlt hb,k c2,gJ hlt hb,k c3,gJ hlt hb,k c4,gJ hlt hb,k c5,gJ hlt hb,k c6,gJ hlt hb,k c7,gJ hlt hb,k c8,gJ hlt hb⟩
def RV (a b c:Rat) (z:Int) (W:World) (e:Ending) (w' : World):Prop := ∃ k:C9,e = .returned (.tuple #[k.val,.int .i64 z])∧Vc w' k.val a b c∧Below W.heap.size W w'
theorem qT {x y z:Int} (hx:Ev x) (hy:Ev y) (hz:f2 x y=z) (w:World) (g:Nat) (T:TypeId) (hh:w.heap[g]?=some (.cells #[.int .i64 x,.int .i64 y] T (0,0))):Calls Tryz.prog 69 #[.slice (some ⟨g,0,none⟩) 2 2] w fun e w'=>e = .returned (.int .i64 z)∧Below w.heap.size w w':=by
 refine (first2Any (T:=T) hx hy hz [] w [.slice (some ⟨g,0,none⟩) 2 2] ⟨_,_,rfl,⟨g,[.int .i64 x,.int .i64 y],rfl,hh,[.int .i64 x],_,rfl,⟨rfl,rfl⟩,[.int .i64 y],_,rfl,⟨rfl,rfl⟩,rfl⟩,rfl⟩).mono ?_
 rintro e w' ⟨v,e1,e2,h1⟩
 have h5:[v] = [.int .i64 z]:=h1.1
 injection h5 with h5
 exact ⟨by rw [e1,h5],e2⟩
def InvE (ev:List (Fin 3)→Int) (w:World) (k:C9) (B E R:Nat) (o1 o2 o3 x1 x2 x3 y1 y2 y3 z1 z2 z3:Rat) (pre:List (Fin 3)) (W:World):Prop :=
 ∃ x y z:C9,W.heap[B]?=some (.cells (frL k x y z).toArray 74 (0,0))∧((0:Fin 3)∈pre→Vc W x.val x1 x2 x3)∧((1:Fin 3)∈pre→Vc W y.val y1 y2 y3)∧((2:Fin 3)∈pre→Vc W z.val z1 z2 z3) ∧
   W.heap[E]?=some (.cells #[.int .i64 (ev pre)] 31 (0,0))∧W.heap[R]?=some (.cells (frL C9.zero C9.zero C9.zero C9.zero).toArray 74 (0,0))∧Vc W k.val o1 o2 o3∧Below w.heap.size w W
section
variable {w:World} {k:C9} {B E R:Nat} {o1 o2 o3 x1 x2 x3 y1 y2 y3 z1 z2 z3:Rat}
theorem oQ {u v:Int} {W w2 X1 w5:World} {a b c a' b' c' : C9} {o9 o2:Obj} {S n:Nat} (hbl:Below W.heap.size W w2) (hB:W.heap[B]?=some (.cells (frL k a b c).toArray 74 (0,0))) (hE:W.heap[E]?=some (.cells #[.int .i64 u] 31 (0,0))) (hEB:¬ E=B)
 (hT:Turned B (.cells (frL k a' b' c').toArray 74 (0,0)) (w2.alloc o9) X1) (h5:Below (X1.alloc o2).heap.size (X1.alloc o2) w5) (hn:n≤W.heap.size) (hnB:n≤B) (hnE:n≤E) :
 (w5.setCell ⟨E,0,none⟩ (.int .i64 v)).heap[B]?=some (.cells (frL k a' b' c').toArray 74 (0,0))∧(w5.setCell ⟨E,0,none⟩ (.int .i64 v)).heap[E]?=some (.cells #[.int .i64 v] 31 (0,0)) ∧
 (∀ g,g<W.heap.size→¬ g=B→¬ g=E→(w5.setCell ⟨E,0,none⟩ (.int .i64 v)).heap[g]?=W.heap[g]?)∧Go.Proofs.YtagahkpgdakofaaGreatDoor.Ext Kn w2 (w5.setCell ⟨E,0,none⟩ (.int .i64 v))∧Go.Proofs.YtagahkpgdakofaaGreatDoor.Ext Kn W w2∧KeepsFrom S W (w5.setCell ⟨E,0,none⟩ (.int .i64 v))∧Below n W (w5.setCell ⟨E,0,none⟩ (.int .i64 v)):=by
 have hBlt:=(Array.getElem?_eq_some_iff.1 hB).1
 have hElt:=(Array.getElem?_eq_some_iff.1 hE).1
 have hs2:=hbl.size
 have ba:Below w2.heap.size w2 (w2.alloc o9):=(aB _ _).alloc (aR _) _
 have sa:(w2.alloc o9).heap.size=w2.heap.size+1:=by simp
 have hBa:(w2.alloc o9).heap[B]?=some (.cells (frL k a b c).toArray 74 (0,0)):=(ba.block B (by omega)).trans ((hbl.block B hBlt).trans hB)
 have sx:X1.heap.size=w2.heap.size+1:=hT.size.trans sa
 have bb:Below X1.heap.size X1 (X1.alloc o2):=(aB _ _).alloc (aR _) _
 have sb:(X1.alloc o2).heap.size=w2.heap.size+2:=by simp [sx]
 have hs5:=h5.size
 have keep:∀ g,g<W.heap.size→¬ g=B→w5.heap[g]?=W.heap[g]?:=fun g hg hne=>(h5.block g (by omega)).trans ((bb.block g (by omega)).trans ((hT.block g hne).trans ((ba.block g (by omega)).trans (hbl.block g hg))))
 have hE5:w5.heap[E]?=some (.cells #[.int .i64 u] 31 (0,0)):=(keep E hElt hEB).trans hE
 have hTE:Turned E (.cells #[.int .i64 v] 31 (0,0)) w5 (w5.setCell ⟨E,0,none⟩ (.int .i64 v)):=cR (i:=0) hE5 (.int .i64 v)
 have hB5:w5.heap[B]?=some (.cells (frL k a' b' c').toArray 74 (0,0)):=(h5.block B (by omega)).trans ((bb.block B (by omega)).trans hT.at_)
 have bn:Below n W w5:=(sQ ((hbl.mono hn).trans (ba.mono (by omega))) hT hnB).trans ((bb.mono (by omega)).trans (h5.mono (by omega)))
 refine ⟨(hTE.block B (fun e=>hEB e.symm)).trans hB5,hTE.at_,fun g hg h1 h2=>(hTE.block g h2).trans (keep g hg h1),?_,Go.Proofs.YtagahkpgdakofaaGreatDoor.Ext.of_below hbl,?_,sQ bn hTE hnE⟩
 ·exact (Go.Proofs.YtagahkpgdakofaaGreatDoor.Ext.of_below ba).trans ((hT.ext hBa (mI _ _ _ _ _)).trans ((Go.Proofs.YtagahkpgdakofaaGreatDoor.Ext.of_below bb).trans ((Go.Proofs.YtagahkpgdakofaaGreatDoor.Ext.of_below h5).trans (hTE.ext hE5 (by simp [Go.Proofs.YtagahkpgdakofaaGreatDoor.hotObj,Kn])))))
 ·exact (fL hbl).trans ((fL ba).trans ((sR hT hBa rfl).trans ((fL bb).trans ((fL h5).trans (sR hTE hE5 rfl)))))
theorem sT {ev:List (Fin 3)→Int} {S:Nat} (hS:w.heap.size≤S):OwnFrom S (InvE ev w k B E R o1 o2 o3 x1 x2 x3 y1 y2 y3 z1 z2 z3):=by
 rintro pre W W' row ⟨x,y,z,hB,v0,v1,v2,hE,hR,hk,hb⟩ hg hr
 have hr' : ∀ r,row=some r→∃ o:Obj,W.heap[r]?=some o∧o.isCells=false:=fun r e=>(hr r e).2
 have hx:=uA hg hr'
 refine ⟨x,y,z,(grownBy_keeps_cells hg hr' hB rfl).trans hB,fun h=>Vc.kext (v0 h) hx,fun h=>Vc.kext (v1 h) hx,fun h=>Vc.kext (v2 h) hx,(grownBy_keeps_cells hg hr' hE rfl).trans hE,(grownBy_keeps_cells hg hr' hR rfl).trans hR,Vc.kext hk hx,?_⟩
 exact hb.grown hg hb.size (fun k e=>Nat.le_trans hS (hr k e).1)
end
set_option maxRecDepth 100000 in
theorem readFrame_gen (a1 a2 a3 b1 b2 b3 c1 c2 c3 d1 d2 d3:ByteArray) (o1 o2 o3 x1 x2 x3 y1 y2 y3 z1 z2 z3:Rat) (eo ex ey ez zq zc:Int) (heo:Ev eo) (hex:Ev ex) (hey:Ev ey) (hez:Ev ez) (hZ:f2 (f2 (f2 eo ex) ey) ez=zq)
 (cO' : ∀ W,Gl W→Calls Tryz.prog 37 #[.agg #[.string a1,.string a2,.string a3]] W (RV o1 o2 o3 eo W)) (cX' : ∀ W,Gl W→Calls Tryz.prog 37 #[.agg #[.string b1,.string b2,.string b3]] W (RV x1 x2 x3 ex W))
 (cY' : ∀ W,Gl W→Calls Tryz.prog 37 #[.agg #[.string c1,.string c2,.string c3]] W (RV y1 y2 y3 ey W)) (cZ' : ∀ W,Gl W→Calls Tryz.prog 37 #[.agg #[.string d1,.string d2,.string d3]] W (RV z1 z2 z3 ez W))
 (hC:zq=0→∀ (W:World) (o x y z:C9),Vc W o.val o1 o2 o3→Vc W x.val x1 x2 x3→Vc W y.val y1 y2 y3→Vc W z.val z1 z2 z3→Calls Tryz.prog 98 #[.agg (frL o x y z).toArray] W fun e w'=>e = .returned (.int .i64 zc)∧Below W.heap.size W w') (w:World) (hG:Gl w) :
 Calls Tryz.prog 35 #[.agg #[.string a1,.string a2,.string a3,.string b1,.string b2,.string b3,.string c1,.string c2,.string c3,.string d1,.string d2,.string d3]] w fun e w' => ∃ o x y z:C9,e = .returned (.tuple #[.agg (if zq=0 then frL o x y z else frL C9.zero C9.zero C9.zero C9.zero).toArray,.int .i64 (if zq=0 then zc else zq)])∧Vc w' o.val o1 o2 o3∧Vc w' x.val x1 x2 x3∧Vc w' y.val y1 y2 y3∧Vc w' z.val z1 z2 z3∧Below w.heap.size w w':=by
 have cO:=aH cO'
 have cX:=aH cX'
 have cY:=aH cY'
 have cZ:=aH cZ'
 have HC:=aH hC
 clear cO' cX' cY' cZ' hC
 obtain ⟨ev,hevd⟩:∃ ev:List (Fin 3)→Int,ev=fun pre=>pre.foldl (fun e i=>f2 e (if i=0 then ex else if i=1 then ey else ez)) eo:=⟨_,rfl⟩
 have ev0:ev []=eo:=by rw [hevd];rfl
 have evs:∀ (pre:List (Fin 3)) (i:Fin 3),ev (pre ++ [i])=f2 (ev pre) (if i=0 then ex else if i=1 then ey else ez):=fun pre i=>by rw [hevd];simp [List.foldl_append]
 have ev3:ev [0,1,2]=zq:=by rw [hevd,← hZ];rfl
 have hev:∀ pre,Ev (ev pre):=fun pre=>by
  rw [hevd]
  show Ev (pre.foldl _ eo)
  revert heo
  generalize eo=e0
  induction pre generalizing e0 with
  | nil=>exact fun h=>h
  | cons i l ih =>
    intro h
    refine ih _ (f2_ev h ?_)
    split
    ·exact hex
    ·split <;> assumption
 have p0:∀ pre,ev (pre ++ [0])=f2 (ev pre) ex:=fun pre=>evs pre 0
 have p1:∀ pre,ev (pre ++ [1])=f2 (ev pre) ey:=fun pre=>evs pre 1
 have p2:∀ pre,ev (pre ++ [2])=f2 (ev pre) ez:=fun pre=>evs pre 2
 clear hevd hZ evs
 refine (callsIn_wide (n:=6)).1 ?_
 refine callsIn_of_wp_marks Tryz.func35 rfl trivial ?_ rfl
 simp only [Tryz.ntmps35,List.size_toArray,List.length_cons,List.length_nil,Nat.reduceAdd,Nat.reduceSub,Array.replicate_succ,Array.replicate_zero,List.push_toArray,List.append_toArray,List.nil_append,List.cons_append]
 refine wpIn_wide.2 ?_
 go_wp2_with fail
 obtain ⟨Z,hZ⟩:∃ Z:Array Value,Z=(frL C9.zero C9.zero C9.zero C9.zero).toArray:=⟨_,rfl⟩
 have hW1:∃ W1,W1=(w.alloc (.cells #[.string a1,.string a2,.string a3,.string b1,.string b2,.string b3,.string c1,.string c2,.string c3,.string d1,.string d2,.string d3] 26 (0,0))).alloc (.cells Z 74 (0,0)):=⟨_,rfl⟩
 obtain ⟨W1,hW1⟩:=hW1
 change Calls _ _ _ ((w.alloc (.cells #[.string a1,.string a2,.string a3,.string b1,.string b2,.string b3,.string c1,.string c2,.string c3,.string d1,.string d2,.string d3] 26 (0,0))).alloc (.cells (frL C9.zero C9.zero C9.zero C9.zero).toArray 74 (0,0))) _
 rw [← hZ,← hW1]
 have hs1:W1.heap.size=w.heap.size+2:=by rw [hW1];simp
 have hb1:Below w.heap.size w W1:=by rw [hW1];exact ((aB _ w).alloc (aR _) _).alloc (by simp) _
 have hf1:W1.heap[w.heap.size]?=some (.cells #[.string a1,.string a2,.string a3,.string b1,.string b2,.string b3,.string c1,.string c2,.string c3,.string d1,.string d2,.string d3] 26 (0,0)):=by rw [hW1];exact (Below.heap_alloc _ _ _ (by simp)).trans (World.alloc_heap_new w _)
 have hr1:W1.heap[w.heap.size+1]?=some (.cells Z 74 (0,0)):=by rw [hW1];have:=World.alloc_heap_new (w.alloc (.cells #[.string a1,.string a2,.string a3,.string b1,.string b2,.string b3,.string c1,.string c2,.string c3,.string d1,.string d2,.string d3] 26 (0,0))) (.cells Z 74 (0,0));rwa [World.size_alloc] at this
 clear hW1
 refine (cO.out W1 (hG.below hb1)).mono ?_
 rintro e w1 ⟨k,rfl,hk,hb⟩
 have hs2:=hb.size
 have hf2:=(hb.block w.heap.size (by omega)).trans hf1
 have hr2:=(hb.block (w.heap.size+1) (by omega)).trans hr1
 have hb2:=hb1.trans (hb.mono (by omega))
 clear hf1 hr1 hb1 hb
 simp only [C9.val]
 have HID:=aH (aI hf2 (aI hr2 (aI hb2 hk)))
 clear hf2 hr2 hb2 hk
 have HZ:=aH hZ
 clear hZ
 go_wp2_with (first|(refine yX rfl 74 _ rfl (frL k C9.zero C9.zero C9.zero).toArray (by kernel_rfl) ?_)|(refine stop_store 74 _ _ rfl ?_))
 refine ⟨store_new3 rfl 74 _ _ rfl w1 _ _ _ (frL k C9.zero C9.zero C9.zero).toArray rfl rfl (by kernel_rfl) (by kernel_rfl) (by kernel_rfl) ?_⟩
 intro W3 g1 g2 g3 g4 g5
 have hf3:=(g2.block w.heap.size (by omega)).trans HID.out.1
 have f0:W3.cell? ⟨w.heap.size,0,none⟩=some (.string a1):=by simp [World.cell?,hf3]
 have f1:W3.cell? ⟨w.heap.size,1,none⟩=some (.string a2):=by simp [World.cell?,hf3]
 have f2:W3.cell? ⟨w.heap.size,2,none⟩=some (.string a3):=by simp [World.cell?,hf3]
 have f3:W3.cell? ⟨w.heap.size,3,none⟩=some (.string b1):=by simp [World.cell?,hf3]
 have f4:W3.cell? ⟨w.heap.size,4,none⟩=some (.string b2):=by simp [World.cell?,hf3]
 have f5:W3.cell? ⟨w.heap.size,5,none⟩=some (.string b3):=by simp [World.cell?,hf3]
 have f6:W3.cell? ⟨w.heap.size,6,none⟩=some (.string c1):=by simp [World.cell?,hf3]
 have f7:W3.cell? ⟨w.heap.size,7,none⟩=some (.string c2):=by simp [World.cell?,hf3]
 have f8:W3.cell? ⟨w.heap.size,8,none⟩=some (.string c3):=by simp [World.cell?,hf3]
 have f9:W3.cell? ⟨w.heap.size,9,none⟩=some (.string d1):=by simp [World.cell?,hf3]
 have f10:W3.cell? ⟨w.heap.size,10,none⟩=some (.string d2):=by simp [World.cell?,hf3]
 have f11:W3.cell? ⟨w.heap.size,11,none⟩=some (.string d3):=by simp [World.cell?,hf3]
 clear hf3
 have HID2:=aH (aI g1 (aI g2 (aI g3 (aI g4 g5))))
 clear g1 g2 g3 g4 g5
 go_wp2_with fail
 refine (axes_any _ _ _ _ _ _ _ _ _ _ _ _ _).mono ?_
 rintro e w4 ⟨rfl,rfl⟩
 go_wp2_with fail
 obtain ⟨v0,h0⟩:∃ v0:Value,v0 = .agg #[.string a1,.string a2,.string a3,.string b1,.string b2,.string b3,.string c1,.string c2,.string c3,.string d1,.string d2,.string d3]:=⟨_,rfl⟩
 obtain ⟨v11,h11⟩:∃ v:Value,v = .tuple #[.agg #[.int .i64 k.n1,.int .i64 k.d1,.pointer k.p1,.int .i64 k.n2,.int .i64 k.d2,.pointer k.p2,.int .i64 k.n3,.int .i64 k.d3,.pointer k.p3],.int .i64 eo]:=⟨_,rfl⟩
 obtain ⟨v13,h13⟩:∃ v:Value,v = .agg #[.string a1,.string a2,.string a3]:=⟨_,rfl⟩
 obtain ⟨v15,h15⟩:∃ v:Value,v = .agg #[.int .i64 k.n1,.int .i64 k.d1,.pointer k.p1,.int .i64 k.n2,.int .i64 k.d2,.pointer k.p2,.int .i64 k.n3,.int .i64 k.d3,.pointer k.p3]:=⟨_,rfl⟩
 obtain ⟨v18,h18⟩:∃ v:Value,v = .agg (frL k C9.zero C9.zero C9.zero).toArray:=⟨_,rfl⟩
 rw [← h0,← h11,← h13,← h15,← h18]
 obtain ⟨g1,g2,g3,g4,g5⟩:=HID2.out
 obtain ⟨hf2,hr2,hb2,hk⟩:=HID.out
 have hsz2:=hb2.size
 have hsW3:w1.heap.size+3=W3.heap.size:=g1.symm
 obtain ⟨W4,hW4⟩:∃ W4,W3.alloc (.cells #[.string a1,.string a2,.string a3,.string b1,.string b2,.string b3,.string c1,.string c2,.string c3,.string d1,.string d2,.string d3] 26 (0,0))=W4:=⟨_,rfl⟩
 have hF:W4.heap[W3.heap.size]?=some (.cells #[.string a1,.string a2,.string a3,.string b1,.string b2,.string b3,.string c1,.string c2,.string c3,.string d1,.string d2,.string d3] 26 (0,0)):=by rw [← hW4];exact World.alloc_heap_new _ _
 have hs4:W4.heap.size=W3.heap.size+1:=by rw [← hW4];simp
 have hb4:Below W3.heap.size W3 W4:=by rw [← hW4];exact (aB _ _).alloc (aR _) _
 have hb3:Below w1.heap.size w1 W4:=g2.trans (hb4.mono (by omega))
 have hinv:InvE ev w k (w1.heap.size+1+1) (w1.heap.size+1) (w.heap.size+1) o1 o2 o3 x1 x2 x3 y1 y2 y3 z1 z2 z3 [] W4:=by
  refine ⟨C9.zero,C9.zero,C9.zero,(hb4.block _ (by omega)).trans g5,fun h=>absurd h (by simp),fun h=>absurd h (by simp),fun h=>absurd h (by simp),(by rw [ev0];exact (hb4.block _ (by omega)).trans g4),?_,hk.below hb3,hb2.trans (hb3.mono (by omega))⟩
  rw [← HZ.out]
  exact (hb3.block _ (by omega)).trans hr2
 rw [hW4]
 have hEB:¬ (w1.heap.size+1:Nat)=w1.heap.size+1+1:=by omega
 have hRB:¬ (w.heap.size+1:Nat)=w1.heap.size+1+1:=by omega
 have hRE:¬ (w.heap.size+1:Nat)=w1.heap.size+1:=by omega
 have hBs:w1.heap.size+1+1<W4.heap.size:=by omega
 have hEs:w1.heap.size+1<W4.heap.size:=by omega
 have hRs:w.heap.size+1<W4.heap.size:=by omega
 have hE0:w.heap.size≤w1.heap.size+1:=by omega
 have hB0:w.heap.size≤w1.heap.size+1+1:=by omega
 have hwW4:w.heap.size≤W4.heap.size:=by omega
 clear g1 g2 g3 g4 g5 hf2 hr2 hb2 hk hsz2 hsW3 hb4 hb3 hW4 h0 h11 h13 h15 h18 HID HID2 f0 f1 f2 f3 f4 f5 f6 f7 f8 f9 f10 f11 hs1 hs2 hs4
 generalize w1.heap.size+1+1=B at *
 generalize w1.heap.size+1=E at *
 generalize w1.heap.size=p4 at *
 generalize W3.heap.size=q3 at *
 refine (wpIn_wide (n:=6)).1 ?_
 refine wpIn_rangeFunc_ownH (F:=Fence.wide) rfl (by omega) (gf:=150) (lb := #[.pointer (some ⟨q3,0,none⟩)]) rfl trivial (enters_of Tryz.func150 (by kernel_rfl) rfl)
  (axes_stops Fence.wide (6-1) trivial rfl (by omega) q3 w.heap.size a1 a2 a3 b1 b2 b3 c1 c2 c3 d1 d2 d3 W4 hwW4 hF) belowK_t (belowK_b (by omega)) (aB _ _) (fun _=>rfl)
  (InvE ev w k B E (w.heap.size+1) o1 o2 o3 x1 x2 x3 y1 y2 y3 z1 z2 z3) (fun _ _ _=>False) (sT hwW4) (fun _ _ _ _ _ hs _ _=>hs) hinv
  (fun x a' W => ∃ Bx,((x=0∧W.heap[Bx]?=some (.cells #[.string b1,.string b2,.string b3] 24 (0,0))∧a' = { tmps := #[v0,.pointer (some ⟨w.heap.size,0,none⟩),.pointer (some ⟨w.heap.size+1,0,none⟩),.int .i64 0,.pointer (some ⟨p4,0,none⟩),.pointer (some ⟨E,0,none⟩),.pointer (some ⟨B,0,none⟩),.int .i64 0,.pointer (some ⟨Bx,0,none⟩),undef,undef,v11,.pointer (some ⟨w.heap.size,0,none⟩),v13,v11,v15,.int .i64 eo,v15,v18,v0,.func (.func 150) #[] #[.pointer (some ⟨q3,0,none⟩)],.int .i64 0,.agg #[.string b1,.string b2,.string b3],undef,undef,undef,undef,undef,undef,undef,undef,undef,undef,undef,undef,undef,undef,undef,undef,undef,undef,undef,undef],defers := [] })∨(x=1∧W.heap[Bx]?=some (.cells #[.string c1,.string c2,.string c3] 24 (0,0))∧a' = { tmps := #[v0,.pointer (some ⟨w.heap.size,0,none⟩),.pointer (some ⟨w.heap.size+1,0,none⟩),.int .i64 0,.pointer (some ⟨p4,0,none⟩),.pointer (some ⟨E,0,none⟩),.pointer (some ⟨B,0,none⟩),.int .i64 1,.pointer (some ⟨Bx,0,none⟩),undef,undef,v11,.pointer (some ⟨w.heap.size,0,none⟩),v13,v11,v15,.int .i64 eo,v15,v18,v0,.func (.func 150) #[] #[.pointer (some ⟨q3,0,none⟩)],.int .i64 1,.agg #[.string c1,.string c2,.string c3],undef,undef,undef,undef,undef,undef,undef,undef,undef,undef,undef,undef,undef,undef,undef,undef,undef,undef,undef,undef],defers := [] })∨(x=2∧W.heap[Bx]?=some (.cells #[.string d1,.string d2,.string d3] 24 (0,0))∧a' = { tmps := #[v0,.pointer (some ⟨w.heap.size,0,none⟩),.pointer (some ⟨w.heap.size+1,0,none⟩),.int .i64 0,.pointer (some ⟨p4,0,none⟩),.pointer (some ⟨E,0,none⟩),.pointer (some ⟨B,0,none⟩),.int .i64 2,.pointer (some ⟨Bx,0,none⟩),undef,undef,v11,.pointer (some ⟨w.heap.size,0,none⟩),v13,v11,v15,.int .i64 eo,v15,v18,v0,.func (.func 150) #[] #[.pointer (some ⟨q3,0,none⟩)],.int .i64 2,.agg #[.string d1,.string d2,.string d3],undef,undef,undef,undef,undef,undef,undef,undef,undef,undef,undef,undef,undef,undef,undef,undef,undef,undef,undef,undef],defers := [] }))) ?hAx ?assign ?body ?done ?stop
 case hAx =>
  rintro x a' _ X Y row ⟨Bx,h2⟩ hg hr
  refine ⟨Bx,?_⟩
  rcases h2 with ⟨rfl,h3,h4⟩|⟨rfl,h3,h4⟩|⟨rfl,h3,h4⟩
  ·exact .inl ⟨rfl,(grownBy_keeps_cells hg (fun r e=>(hr r e).2) h3 rfl).trans h3,h4⟩
  ·exact .inr (.inl ⟨rfl,(grownBy_keeps_cells hg (fun r e=>(hr r e).2) h3 rfl).trans h3,h4⟩)
  ·exact .inr (.inr ⟨rfl,(grownBy_keeps_cells hg (fun r e=>(hr r e).2) h3 rfl).trans h3,h4⟩)
 case assign =>
  rintro l pre x W K hi hK
  have hiw:w.heap.size≤W.heap.size:=by obtain ⟨_,_,_,_,_,_,_,_,_,_,hb⟩:=hi;exact hb.size
  rcases fin3 x with rfl|rfl|rfl
  ·simp only [axE,axV]
   gi_wp2
   exact hK _ _ ((KeepsOthers.alloc _ _).from _) ((aB _ W).alloc hiw _) ((sT hwW4).alloc _ hi) ⟨W.heap.size,.inl ⟨by first|rfl|trivial,World.alloc_heap_new _ _,rfl⟩⟩
  ·simp only [axE,axV]
   gi_wp2
   exact hK _ _ ((KeepsOthers.alloc _ _).from _) ((aB _ W).alloc hiw _) ((sT hwW4).alloc _ hi) ⟨W.heap.size,.inr (.inl ⟨by first|rfl|trivial,World.alloc_heap_new _ _,rfl⟩)⟩
  ·simp only [axE,axV]
   gi_wp2
   exact hK _ _ ((KeepsOthers.alloc _ _).from _) ((aB _ W).alloc hiw _) ((sT hwW4).alloc _ hi) ⟨W.heap.size,.inr (.inr ⟨by first|rfl|trivial,World.alloc_heap_new _ _,rfl⟩)⟩
 case body =>
  rintro l pre x a' W _ _ ⟨x',y',z',hB,u0,u1,u2,hE,hR,hk,hbW⟩ ⟨Bx,h3⟩ _
  obtain ⟨u,hu⟩:∃ u,ev pre=u:=⟨_,rfl⟩
  have hue:=hev pre
  rw [hu] at hE hue
  have hBlt:=(Array.getElem?_eq_some_iff.1 hB).1
  have hElt:=(Array.getElem?_eq_some_iff.1 hE).1
  have hRlt:=(Array.getElem?_eq_some_iff.1 hR).1
  have hGW:=aH (hG.below hbW)
  have HW:=aH (aI hE (aI hR (aI hk hbW)))
  have HU:=aH (aI u0 (aI u1 u2))
  have HBB:=aH hB
  clear hB u0 u1 u2 hE hR hk hbW
  rcases h3 with ⟨rfl,h3,rfl⟩|⟨rfl,h3,rfl⟩|⟨rfl,h3,rfl⟩
  ·have cb0:W.cell? ⟨Bx,0,none⟩=some (.string b1):=by simp [World.cell?,h3]
   have cb1:W.cell? ⟨Bx,1,none⟩=some (.string b2):=by simp [World.cell?,h3]
   have cb2:W.cell? ⟨Bx,2,none⟩=some (.string b3):=by simp [World.cell?,h3]
   clear h3
   gi_wp2
   refine ⟨trivial,(CallsIn.inRound l (callsIn_wide.2 (cX.out W hGW.out))).mono ?_⟩
   rintro e w2 ⟨m,rfl,hm,hbl⟩
   have hs2:=hbl.size
   have hB2:=(hbl.block B hBlt).trans HBB.out
   have hE2:=(hbl.block E hElt).trans HW.out.1
   obtain ⟨q0,r0,q1,r1,q2,r2,q3,r3,q4,r4,q5,r5,q6,r6,q7,r7,q8,r8⟩:=up9 x' (show B<w2.heap.size by omega) hB2 (⟨rfl,rfl,rfl,rfl,rfl,rfl,rfl,rfl,rfl⟩:N9 _ _ 9 10 11 12 13 14 15 16 17)
   have qE:∀ o,(w2.alloc o).cell? ⟨E,0,none⟩=some (.int .i64 u):=sP (by omega) (by simp [World.cell?,hE2])
   have H2:=aH (aI hm (aI hbl (aI hB2 hE2)))
   clear hm hbl hB2 hE2
   simp only [C9.val]
   gi_wp2
   obtain ⟨hm,hbl,hB2,hE2⟩:=H2.out
   obtain ⟨hE,hR,hk,hbW⟩:=HW.out
   obtain ⟨u0,u1,u2⟩:=HU.out
   have hBa:(w2.alloc (m9 m)).heap[B]?=some (.cells (frL k x' y' z').toArray 74 (0,0)):=(((aB _ w2).alloc (aR _) _).block B (by omega)).trans hB2
   have hT:Turned B (.cells (frL k m y' z').toArray 74 (0,0)) (w2.alloc (m9 m)) (st9 (w2.alloc (m9 m)) B 9 10 11 12 13 14 15 16 17 m):=turn9 9 hBa _ _ _ _ _ _ _ _ _ (by kernel_rfl)
   obtain ⟨X1,hX1⟩:∃ X1,st9 (w2.alloc (m9 m)) B 9 10 11 12 13 14 15 16 17 m=X1:=⟨_,rfl⟩
   rw [hX1] at hT
   unfold st9 m9 at hX1
   rw [hX1]
   have hsX:X1.heap.size=w2.heap.size+1:=by rw [hT.size];simp
   have hh:(X1.alloc (.cells #[.int .i64 u,.int .i64 ex] 31 (0,0))).heap[w2.heap.size+1]?=some (.cells #[.int .i64 u,.int .i64 ex] 31 (0,0)):=by rw [← hsX];exact World.alloc_heap_new _ _
   clear hX1 hBa
   obtain ⟨v,hv⟩:∃ v,f2 u ex=v:=⟨_,rfl⟩
   refine ⟨trivial,(CallsIn.inRound l (callsIn_wide.2 (qT hue hex hv _ (w2.heap.size+1) 31 hh))).mono ?_⟩
   rintro e w5 ⟨rfl,h5⟩
   obtain ⟨r1,r2,r3,r4,r4',r5,r6⟩:=oQ (u:=u) (v:=v) (k:=k) (S:=W4.heap.size) (n:=w.heap.size) hbl HBB.out hE hEB hT h5 hbW.size hB0 hE0
   have hE5:w5.heap[E]?=some (.cells #[.int .i64 u] 31 (0,0)):=by have hs5:=h5.size;exact (h5.block E (by simp;omega)).trans ((((aB _ X1).alloc (aR _) _).block E (by omega)).trans ((hT.block E hEB).trans ((((aB _ w2).alloc (aR _) _).block E (by omega)).trans hE2)))
   have qE5:w5.cell? ⟨E,0,none⟩=some (.int .i64 u):=by simp [World.cell?,hE5]
   have rE5:w5.frozen? ⟨E,0,none⟩=false:=aY hE5 0
   have HF:KeepsFrom W4.heap.size W (w5.setCell ⟨E,0,none⟩ (.int .i64 v))∧Below w.heap.size W (w5.setCell ⟨E,0,none⟩ (.int .i64 v))∧InvE ev w k B E (w.heap.size+1) o1 o2 o3 x1 x2 x3 y1 y2 y3 z1 z2 z3 (pre ++ [0]) (w5.setCell ⟨E,0,none⟩ (.int .i64 v)) :=
    ⟨r5,r6,m,y',z',r1,fun _=>Vc.kext hm r4,fun h=>Vc.kext (Vc.kext (u1 (by simpa using h)) r4') r4,fun h=>Vc.kext (Vc.kext (u2 (by simpa using h)) r4') r4,(by rw [p0 pre,hu,hv];exact r2),(r3 _ hRlt hRB hRE).trans hR,Vc.kext (Vc.kext hk r4') r4,hbW.trans r6⟩
   have HG:=aH HF
   clear HF r1 r2 r3 r4 r4' r5 r6 hE5 hT hm hbl hB2 hE2 hE hR hk hbW u0 u1 u2 hh h5 hsX HW HU H2 hu hue
   gi_wp2
   exact HG.out
  ·have cb0:W.cell? ⟨Bx,0,none⟩=some (.string c1):=by simp [World.cell?,h3]
   have cb1:W.cell? ⟨Bx,1,none⟩=some (.string c2):=by simp [World.cell?,h3]
   have cb2:W.cell? ⟨Bx,2,none⟩=some (.string c3):=by simp [World.cell?,h3]
   clear h3
   gi_wp2
   refine ⟨trivial,(CallsIn.inRound l (callsIn_wide.2 (cY.out W hGW.out))).mono ?_⟩
   rintro e w2 ⟨m,rfl,hm,hbl⟩
   have hs2:=hbl.size
   have hB2:=(hbl.block B hBlt).trans HBB.out
   have hE2:=(hbl.block E hElt).trans HW.out.1
   obtain ⟨q0,r0,q1,r1,q2,r2,q3,r3,q4,r4,q5,r5,q6,r6,q7,r7,q8,r8⟩:=up9 y' (show B<w2.heap.size by omega) hB2 (⟨rfl,rfl,rfl,rfl,rfl,rfl,rfl,rfl,rfl⟩:N9 _ _ 18 19 20 21 22 23 24 25 26)
   have qE:∀ o,(w2.alloc o).cell? ⟨E,0,none⟩=some (.int .i64 u):=sP (by omega) (by simp [World.cell?,hE2])
   have H2:=aH (aI hm (aI hbl (aI hB2 hE2)))
   clear hm hbl hB2 hE2
   simp only [C9.val]
   gi_wp2
   obtain ⟨hm,hbl,hB2,hE2⟩:=H2.out
   obtain ⟨hE,hR,hk,hbW⟩:=HW.out
   obtain ⟨u0,u1,u2⟩:=HU.out
   have hBa:(w2.alloc (m9 m)).heap[B]?=some (.cells (frL k x' y' z').toArray 74 (0,0)):=(((aB _ w2).alloc (aR _) _).block B (by omega)).trans hB2
   have hT:Turned B (.cells (frL k x' m z').toArray 74 (0,0)) (w2.alloc (m9 m)) (st9 (w2.alloc (m9 m)) B 18 19 20 21 22 23 24 25 26 m):=turn9 18 hBa _ _ _ _ _ _ _ _ _ (by kernel_rfl)
   obtain ⟨X1,hX1⟩:∃ X1,st9 (w2.alloc (m9 m)) B 18 19 20 21 22 23 24 25 26 m=X1:=⟨_,rfl⟩
   rw [hX1] at hT
   unfold st9 m9 at hX1
   rw [hX1]
   have hsX:X1.heap.size=w2.heap.size+1:=by rw [hT.size];simp
   have hh:(X1.alloc (.cells #[.int .i64 u,.int .i64 ey] 31 (0,0))).heap[w2.heap.size+1]?=some (.cells #[.int .i64 u,.int .i64 ey] 31 (0,0)):=by rw [← hsX];exact World.alloc_heap_new _ _
   clear hX1 hBa
   obtain ⟨v,hv⟩:∃ v,f2 u ey=v:=⟨_,rfl⟩
   refine ⟨trivial,(CallsIn.inRound l (callsIn_wide.2 (qT hue hey hv _ (w2.heap.size+1) 31 hh))).mono ?_⟩
   rintro e w5 ⟨rfl,h5⟩
   obtain ⟨r1,r2,r3,r4,r4',r5,r6⟩:=oQ (u:=u) (v:=v) (k:=k) (S:=W4.heap.size) (n:=w.heap.size) hbl HBB.out hE hEB hT h5 hbW.size hB0 hE0
   have hE5:w5.heap[E]?=some (.cells #[.int .i64 u] 31 (0,0)):=by have hs5:=h5.size;exact (h5.block E (by simp;omega)).trans ((((aB _ X1).alloc (aR _) _).block E (by omega)).trans ((hT.block E hEB).trans ((((aB _ w2).alloc (aR _) _).block E (by omega)).trans hE2)))
   have qE5:w5.cell? ⟨E,0,none⟩=some (.int .i64 u):=by simp [World.cell?,hE5]
   have rE5:w5.frozen? ⟨E,0,none⟩=false:=aY hE5 0
   have HF:KeepsFrom W4.heap.size W (w5.setCell ⟨E,0,none⟩ (.int .i64 v))∧Below w.heap.size W (w5.setCell ⟨E,0,none⟩ (.int .i64 v))∧InvE ev w k B E (w.heap.size+1) o1 o2 o3 x1 x2 x3 y1 y2 y3 z1 z2 z3 (pre ++ [1]) (w5.setCell ⟨E,0,none⟩ (.int .i64 v)) :=
    ⟨r5,r6,x',m,z',r1,fun h=>Vc.kext (Vc.kext (u0 (by simpa using h)) r4') r4,fun _=>Vc.kext hm r4,fun h=>Vc.kext (Vc.kext (u2 (by simpa using h)) r4') r4,(by rw [p1 pre,hu,hv];exact r2),(r3 _ hRlt hRB hRE).trans hR,Vc.kext (Vc.kext hk r4') r4,hbW.trans r6⟩
   have HG:=aH HF
   clear HF r1 r2 r3 r4 r4' r5 r6 hE5 hT hm hbl hB2 hE2 hE hR hk hbW u0 u1 u2 hh h5 hsX HW HU H2 hu hue
   gi_wp2
   exact HG.out
  ·have cb0:W.cell? ⟨Bx,0,none⟩=some (.string d1):=by simp [World.cell?,h3]
   have cb1:W.cell? ⟨Bx,1,none⟩=some (.string d2):=by simp [World.cell?,h3]
   have cb2:W.cell? ⟨Bx,2,none⟩=some (.string d3):=by simp [World.cell?,h3]
   clear h3
   gi_wp2
   refine ⟨trivial,(CallsIn.inRound l (callsIn_wide.2 (cZ.out W hGW.out))).mono ?_⟩
   rintro e w2 ⟨m,rfl,hm,hbl⟩
   have hs2:=hbl.size
   have hB2:=(hbl.block B hBlt).trans HBB.out
   have hE2:=(hbl.block E hElt).trans HW.out.1
   obtain ⟨q0,r0,q1,r1,q2,r2,q3,r3,q4,r4,q5,r5,q6,r6,q7,r7,q8,r8⟩:=up9 z' (show B<w2.heap.size by omega) hB2 (⟨rfl,rfl,rfl,rfl,rfl,rfl,rfl,rfl,rfl⟩:N9 _ _ 27 28 29 30 31 32 33 34 35)
   have qE:∀ o,(w2.alloc o).cell? ⟨E,0,none⟩=some (.int .i64 u):=sP (by omega) (by simp [World.cell?,hE2])
   have H2:=aH (aI hm (aI hbl (aI hB2 hE2)))
   clear hm hbl hB2 hE2
   simp only [C9.val]
   gi_wp2
   obtain ⟨hm,hbl,hB2,hE2⟩:=H2.out
   obtain ⟨hE,hR,hk,hbW⟩:=HW.out
   obtain ⟨u0,u1,u2⟩:=HU.out
   have hBa:(w2.alloc (m9 m)).heap[B]?=some (.cells (frL k x' y' z').toArray 74 (0,0)):=(((aB _ w2).alloc (aR _) _).block B (by omega)).trans hB2
   have hT:Turned B (.cells (frL k x' y' m).toArray 74 (0,0)) (w2.alloc (m9 m)) (st9 (w2.alloc (m9 m)) B 27 28 29 30 31 32 33 34 35 m):=turn9 27 hBa _ _ _ _ _ _ _ _ _ (by kernel_rfl)
   obtain ⟨X1,hX1⟩:∃ X1,st9 (w2.alloc (m9 m)) B 27 28 29 30 31 32 33 34 35 m=X1:=⟨_,rfl⟩
   rw [hX1] at hT
   unfold st9 m9 at hX1
   rw [hX1]
   have hsX:X1.heap.size=w2.heap.size+1:=by rw [hT.size];simp
   have hh:(X1.alloc (.cells #[.int .i64 u,.int .i64 ez] 31 (0,0))).heap[w2.heap.size+1]?=some (.cells #[.int .i64 u,.int .i64 ez] 31 (0,0)):=by rw [← hsX];exact World.alloc_heap_new _ _
   clear hX1 hBa
   obtain ⟨v,hv⟩:∃ v,f2 u ez=v:=⟨_,rfl⟩
   refine ⟨trivial,(CallsIn.inRound l (callsIn_wide.2 (qT hue hez hv _ (w2.heap.size+1) 31 hh))).mono ?_⟩
   rintro e w5 ⟨rfl,h5⟩
   obtain ⟨r1,r2,r3,r4,r4',r5,r6⟩:=oQ (u:=u) (v:=v) (k:=k) (S:=W4.heap.size) (n:=w.heap.size) hbl HBB.out hE hEB hT h5 hbW.size hB0 hE0
   have hE5:w5.heap[E]?=some (.cells #[.int .i64 u] 31 (0,0)):=by have hs5:=h5.size;exact (h5.block E (by simp;omega)).trans ((((aB _ X1).alloc (aR _) _).block E (by omega)).trans ((hT.block E hEB).trans ((((aB _ w2).alloc (aR _) _).block E (by omega)).trans hE2)))
   have qE5:w5.cell? ⟨E,0,none⟩=some (.int .i64 u):=by simp [World.cell?,hE5]
   have rE5:w5.frozen? ⟨E,0,none⟩=false:=aY hE5 0
   have HF:KeepsFrom W4.heap.size W (w5.setCell ⟨E,0,none⟩ (.int .i64 v))∧Below w.heap.size W (w5.setCell ⟨E,0,none⟩ (.int .i64 v))∧InvE ev w k B E (w.heap.size+1) o1 o2 o3 x1 x2 x3 y1 y2 y3 z1 z2 z3 (pre ++ [2]) (w5.setCell ⟨E,0,none⟩ (.int .i64 v)) :=
    ⟨r5,r6,x',y',m,r1,fun h=>Vc.kext (Vc.kext (u0 (by simpa using h)) r4') r4,fun h=>Vc.kext (Vc.kext (u1 (by simpa using h)) r4') r4,fun _=>Vc.kext hm r4,(by rw [p2 pre,hu,hv];exact r2),(r3 _ hRlt hRB hRE).trans hR,Vc.kext (Vc.kext hk r4') r4,hbW.trans r6⟩
   have HG:=aH HF
   clear HF r1 r2 r3 r4 r4' r5 r6 hE5 hT hm hbl hB2 hE2 hE hR hk hbW u0 u1 u2 hh h5 hsX HW HU H2 hu hue
   gi_wp2
   exact HG.out
 case done =>
  rintro D ys W hD rfl ⟨x',y',z',hB,u0,u1,u2,hE,hR,hk,hbW⟩ hK
  rw [ev3] at hE
  have vx:=u0 (by simp)
  have vy:=u1 (by simp)
  have vz:=u2 (by simp)
  by_cases hZ0:zq=0
  ·subst hZ0
   have qE:W.cell? ⟨E,0,none⟩=some (.int .i64 0):=by simp [World.cell?,hE]
   have HW:=aH (aI hB (aI hR (aI hk (aI vx (aI vy (aI vz (aI hbW hK)))))))
   clear u0 u1 u2 hB hR hk vx vy vz hbW hK hE
   go_wp2_with fail
   refine wp_region_ty Kn [w.heap.size+1] (by kernel_rfl) (by kernel_rfl) ?_
   refine bM (.agg (frL k x' y' z').toArray) rfl (fun A w' hB hk=>?_) ?_
   ·simp [known,specOf,Kd.spec,Sp.is,isVar,Oper.looksAt,Op.operands,Call.operands,Act.eval] at hk
    exact load_all rfl (by first|exact hk|simpa [Act.eval] using hk) (hB.blk HW.out.1 (by simp;omega)) Tryz.underlying74 rfl (by kernel_rfl)
   refine bM (.agg (frL k x' y' z').toArray) rfl (fun A w' hB hk=>?_) ?_
   ·simp [known,specOf,Kd.spec,Sp.is,isVar,Oper.looksAt,Op.operands,Call.operands,Act.eval] at hk
    exact load_all rfl (by first|exact hk|simpa [Act.eval] using hk) (hB.blk HW.out.1 (by simp;omega)) Tryz.underlying74 rfl (by kernel_rfl)
   refine aO (Sp.is (.int .i64 zc)) (Sp.is_stable _ _) rfl (fun A w' hB hk=>?_) ?_
   ·simp [known,specOf,Kd.spec,Sp.is,isVar,Oper.looksAt,Op.operands,Call.operands,Act.eval] at hk
    simp [go_sem,hk]
    refine aG ?_
    have hx:=Base.extT hB HW.out.2.1 (mI _ _ _ _ _)
    exact (HC.out (by first|trivial|rfl) _ _ _ _ _ (Vc.kext HW.out.2.2.1 hx) (Vc.kext HW.out.2.2.2.1 hx) (Vc.kext HW.out.2.2.2.2.1 hx) (Vc.kext HW.out.2.2.2.2.2.1 hx)).mono (fun e w'' ⟨e1,e2⟩=>⟨_,e1,e2,rfl⟩)
   refine gN (w.heap.size+1) (.cells (frL C9.zero C9.zero C9.zero C9.zero).toArray 74 (0,0)) (fun o _=>o = .cells (frL k x' y' z').toArray 74 (0,0)) (fun _ _ _ h _=>h) rfl rfl (by simp) HW.out.2.1 (mI _ _ _ _ _) (fun A w' hB hk h0=>?_) ?_
   ·simp [known,specOf,Kd.spec,Sp.is,isVar,Oper.looksAt,Op.operands,Call.operands,Act.eval] at hk
    have hst:=lH (P:=Tryz.prog) (ρ:=A.eval) (w:=w') (o := { dst:=none,op:=Op.store 74 (Operand.tmp 2) (Operand.tmp 40),type:=0,pos := "frame.go:38",after := #[{ on:=0,ground:=Ground.data },{ on:=2,ground:=Ground.chain },{ on:=0,ground:=Ground.phase },{ on:=1,ground:=Ground.textOnly Departure.lateStores },{ on:=2,ground:=Ground.textOnly Departure.lateStoresUnsure }],guard:=none }) (T':=74) (g:=w.heap.size+1) (off:=0) (n:=36) (cs:=frL C9.zero C9.zero C9.zero C9.zero) (es:=frL k x' y' z') rfl (by simp [Act.eval,hk]) (by simp [Act.eval,hk,Value.cells]) (by kernel_rfl) rfl (frL_one _ _ _ _) h0 (show 0+36≤36 by omega)
    have e:List.take 0 (frL C9.zero C9.zero C9.zero C9.zero)++frL k x' y' z'++List.drop (0+(frL k x' y' z').length) (frL C9.zero C9.zero C9.zero C9.zero)=frL k x' y' z':=by kernel_rfl
    rw [e] at hst
    rw [hst.1]
    exact ⟨_,⟨hst.2.os,hst.2.tape,hst.2.output,hst.2.size,hst.2.at_,hst.2.block⟩,rfl⟩
   refine aX _ ?_ (by first|exact .inl rfl|exact .inr rfl) (by rfl) (by simp [specOf,Kd.spec];rfl) ?_ rfl ?_
   ·exact Sp.is_stable _ _
   refine ⟨by first|rfl|decide,fun f w2 hB hF hAp=>?_⟩;simp [Final1,Sp.is,isVar] at hF;simp only [frameOf]
   obtain ⟨f3,hw2,_,_,_⟩:=hF
   have hDR:¬ D=w.heap.size+1:=by
    intro e
    have h1:=HW.out.2.1
    have h2:=HW.out.2.2.2.2.2.2.2
    rw [e,h1] at h2
    injection h2 with h2
    cases h2
   have hK2:=hB.blk HW.out.2.2.2.2.2.2.2 (by simp;omega)
   have HV:=aH (aI hw2 (aI hB hK2))
   clear hAp
   have HBB:=aH hB
   clear hB
   go_wp2
   have hB:=HBB.out
   refine ⟨by simp,.inl ⟨_,_,rfl,run_takeDeferred hK2,?_⟩⟩
   have hg5:(w2.putObj D (.deferred none)).heap[w.heap.size+1]?=some (.cells (frL k x' y' z').toArray 74 (0,0)):=(World.putObj_heap_other (by omega)).trans hw2
   have hl:=run_loadVar_mid (P:=Tryz.prog) (w2.putObj D (.deferred none)) (w.heap.size+1) 0 74 (((frL k x' y' z').drop 0).take 36) _ (qY hg5 0 36) Tryz.underlying74 rfl (by kernel_rfl)
   have e36:((frL k x' y' z').drop 0).take 36=frL k x' y' z':=by kernel_rfl
   rw [e36] at hl
   have hbe:=Base.belowT hB HW.out.2.2.2.2.2.2.1 (by omega)
   have hx1:=Base.extT hB HW.out.2.1 (mI _ _ _ _ _)
   have hx2:Go.Proofs.YtagahkpgdakofaaGreatDoor.Ext Kn w2 (w2.putObj D (.deferred none)):=uA (grownBy_putObj' w2 D _) (fun r e=>by cases e;exact ⟨_,hK2,rfl⟩)
   have hDw:w.heap.size≤D:=by omega
   refine ⟨.tuple #[.agg (frL k x' y' z').toArray,.int .i64 zc],?_,k,x',y',z',rfl,Vc.kext (Vc.kext HW.out.2.2.1 hx1) hx2,Vc.kext (Vc.kext HW.out.2.2.2.1 hx1) hx2,Vc.kext (Vc.kext HW.out.2.2.2.2.1 hx1) hx2,Vc.kext (Vc.kext HW.out.2.2.2.2.2.1 hx1) hx2,hbe.trans (belowK_b (w:=w) (aR _) w2 D _ _ hDw hK2 rfl rfl)⟩
   refine (kH (vs := [.agg (frL k x' y' z').toArray,.int .i64 zc]) ?_).trans rfl
   show (List.mapM (wQ _) [.cell 2 74,.tmp 3]).run _ _=_
   simp [List.mapM_cons,wQ,Act.put,asAddr,Sem.run_bind,Result.andThen,hl,f3]
  ·have n1:(zq==0)=false:=by rw [beq_eq_false_iff_ne];exact hZ0
   have qE:W.cell? ⟨E,0,none⟩=some (.int .i64 zq):=by simp [World.cell?,hE]
   have HW:=aH (aI hE (aI hR (aI hk (aI vx (aI vy (aI vz (aI hbW hK)))))))
   clear u0 u1 u2 hB hR hk vx vy vz hbW hK hE
   go_wp2_with fail
   refine wp_region_ty Kn [w.heap.size+1] (by kernel_rfl) (by kernel_rfl) ?_
   refine bM (.agg (frL C9.zero C9.zero C9.zero C9.zero).toArray) rfl (fun A w' hB hk=>?_) ?_
   ·refine bI ?_
    exact bW (by kernel_rfl) _
   refine bM (.int .i64 zq) rfl (fun A w' hB hk=>?_) ?_
   ·simp [known,specOf,Kd.spec,Sp.is,isVar,Oper.looksAt,Op.operands,Call.operands,Act.eval] at hk
    have hc:=hB.blk HW.out.1 (by simp;omega)
    have hc:w'.cell? ⟨E,0,none⟩=some (.int .i64 zq):=by simp [World.cell?,hc]
    simp [go_sem,hk,hc]
   refine gN (w.heap.size+1) (.cells (frL C9.zero C9.zero C9.zero C9.zero).toArray 74 (0,0)) (fun o _=>o = .cells (frL C9.zero C9.zero C9.zero C9.zero).toArray 74 (0,0)) (fun _ _ _ h _=>h) rfl rfl (by simp) HW.out.2.1 (mI _ _ _ _ _) (fun A w' hB hk h0=>?_) ?_
   ·simp [known,specOf,Kd.spec,Sp.is,isVar,Oper.looksAt,Op.operands,Call.operands,Act.eval] at hk
    have hst:=lH (P:=Tryz.prog) (ρ:=A.eval) (w:=w') (o := { dst:=none,op:=Op.store 74 (Operand.tmp 2) (Operand.tmp 38),type:=0,pos := "frame.go:36",after := #[{ on:=0,ground:=Ground.data },{ on:=0,ground:=Ground.phase },{ on:=1,ground:=Ground.textOnly Departure.lateStores }],guard:=none }) (T':=74) (g:=w.heap.size+1) (off:=0) (n:=36) (cs:=frL C9.zero C9.zero C9.zero C9.zero) (es:=frL C9.zero C9.zero C9.zero C9.zero) rfl (by simp [Act.eval,hk]) (by simp [Act.eval,hk,Value.cells]) (by kernel_rfl) rfl (frL_one _ _ _ _) h0 (show 0+36≤36 by omega)
    have e:List.take 0 (frL C9.zero C9.zero C9.zero C9.zero)++frL C9.zero C9.zero C9.zero C9.zero++List.drop (0+(frL C9.zero C9.zero C9.zero C9.zero).length) (frL C9.zero C9.zero C9.zero C9.zero)=frL C9.zero C9.zero C9.zero C9.zero:=by kernel_rfl
    rw [e] at hst
    rw [hst.1]
    exact ⟨_,⟨hst.2.os,hst.2.tape,hst.2.output,hst.2.size,hst.2.at_,hst.2.block⟩,rfl⟩
   refine aX _ ?_ (by first|exact .inl rfl|exact .inr rfl) (by rfl) (by simp [specOf,Kd.spec];rfl) ?_ rfl ?_
   ·exact Sp.is_stable _ _
   refine ⟨by first|rfl|decide,fun f w2 hB hF hAp=>?_⟩;simp [Final1,Sp.is,isVar] at hF;simp only [frameOf]
   obtain ⟨f3,hw2,_⟩:=hF
   have hDR:¬ D=w.heap.size+1:=by
    intro e
    have h1:=HW.out.2.1
    have h2:=HW.out.2.2.2.2.2.2.2
    rw [e,h1] at h2
    injection h2 with h2
    cases h2
   have hK2:=hB.blk HW.out.2.2.2.2.2.2.2 (by simp;omega)
   have HV:=aH (aI hw2 (aI hB hK2))
   clear hAp
   have HBB:=aH hB
   clear hB
   go_wp2
   have hB:=HBB.out
   refine ⟨by simp,.inl ⟨_,_,rfl,run_takeDeferred hK2,?_⟩⟩
   have hg5:(w2.putObj D (.deferred none)).heap[w.heap.size+1]?=some (.cells (frL C9.zero C9.zero C9.zero C9.zero).toArray 74 (0,0)):=(World.putObj_heap_other (by omega)).trans hw2
   have hl:=run_loadVar_mid (P:=Tryz.prog) (w2.putObj D (.deferred none)) (w.heap.size+1) 0 74 (((frL C9.zero C9.zero C9.zero C9.zero).drop 0).take 36) _ (qY hg5 0 36) Tryz.underlying74 rfl (by kernel_rfl)
   have e36:((frL C9.zero C9.zero C9.zero C9.zero).drop 0).take 36=frL C9.zero C9.zero C9.zero C9.zero:=by kernel_rfl
   rw [e36] at hl
   have hbe:=Base.belowT hB HW.out.2.2.2.2.2.2.1 (by omega)
   have hx1:=Base.extT hB HW.out.2.1 (mI _ _ _ _ _)
   have hx2:Go.Proofs.YtagahkpgdakofaaGreatDoor.Ext Kn w2 (w2.putObj D (.deferred none)):=uA (grownBy_putObj' w2 D _) (fun r e=>by cases e;exact ⟨_,hK2,rfl⟩)
   have hDw:w.heap.size≤D:=by omega
   refine ⟨.tuple #[.agg (frL C9.zero C9.zero C9.zero C9.zero).toArray,.int .i64 zq],?_,rfl,⟨k,Vc.kext (Vc.kext HW.out.2.2.1 hx1) hx2⟩,⟨x',Vc.kext (Vc.kext HW.out.2.2.2.1 hx1) hx2⟩,⟨y',Vc.kext (Vc.kext HW.out.2.2.2.2.1 hx1) hx2⟩,⟨z',Vc.kext (Vc.kext HW.out.2.2.2.2.2.1 hx1) hx2⟩,hbe.trans (belowK_b (w:=w) (aR _) w2 D _ _ hDw hK2 rfl rfl)⟩
   refine (kH (vs := [.agg (frL C9.zero C9.zero C9.zero C9.zero).toArray,.int .i64 zq]) ?_).trans rfl
   show (List.mapM (wQ _) [.cell 2 74,.tmp 3]).run _ _=_
   simp [List.mapM_cons,wQ,Act.put,asAddr,Sem.run_bind,Result.andThen,hl,f3]
 case stop=>rintro D c pre W _ _ h _;exact h.elim
end Fr
namespace Fr
open Go.RowKit Go.Shelf Ab Pl
set_option maxRecDepth 100000 in
theorem zA (o1 o2 o3 x1 x2 x3 y1 y2 y3 z1 z2 z3:Rat) (ho:kF o1 o2 o3) (hx:kF x1 x2 x3) (hy:kF y1 y2 y3) (hz:kF z1 z2 z3) (lm:Lm 25 x1 x2 x3 y1 y2 y3 z1 z2 z3) (hax:Ax x1 x2 x3 y1 y2 y3 z1 z2 z3) (w:World) (hG:Gl w) :
 Calls Tryz.prog 35 #[.agg #[.string (writeB o1),.string (writeB o2),.string (writeB o3),.string (writeB x1),.string (writeB x2),.string (writeB x3),.string (writeB y1),.string (writeB y2),.string (writeB y3),.string (writeB z1),.string (writeB z2),.string (writeB z3)]] w fun e w' => ∃ o x y z:C9,e = .returned (.tuple #[.agg (frL o x y z).toArray,.int .i64 0])∧Vc w' o.val o1 o2 o3∧Vc w' x.val x1 x2 x3∧Vc w' y.val y1 y2 y3∧Vc w' z.val z1 z2 z3∧Below w.heap.size w w':=by
 have h:=readFrame_gen (writeB o1) (writeB o2) (writeB o3) (writeB x1) (writeB x2) (writeB x3) (writeB y1) (writeB y2) (writeB y3) (writeB z1) (writeB z2) (writeB z3) o1 o2 o3 x1 x2 x3 y1 y2 y3 z1 z2 z3 0 0 0 0 0 0
  (.inl rfl) (.inl rfl) (.inl rfl) (.inl rfl) rfl (fun W hW=>kR ho W hW) (fun W hW=>kR hx W hW) (fun W hW=>kR hy W hW) (fun W hW=>kR hz W hW)
  (fun _ _ _ _ _ _ v0 v1 v2 v3=>check_any v0 v1 v2 v3 lm hax) w hG
 rw [if_pos rfl] at h
 simpa only [if_true] using h
theorem holds_txt {β:List Nat} {w:World}:∀ (l:List ByteArray) (cs:List Value),holdsL β (l.map bS) cs w→cs=l.map Value.string
 | [],cs,h=>h
 | b::l,cs,⟨x,y,e,h1,h2⟩=>by
   have h1:x = [.string b]:=h1
   rw [e,h1,holds_txt l y h2]
   rfl
section
variable {o1 o2 o3 x1 x2 x3 y1 y2 y3 z1 z2 z3:Rat}
theorem readFrameF (h:Wf o1 o2 o3 x1 x2 x3 y1 y2 y3 z1 z2 z3) (hax:Ax x1 x2 x3 y1 y2 y3 z1 z2 z3):jX 35 [gR o1 o2 o3 x1 x2 x3 y1 y2 y3 z1 z2 z3] (okFr o1 o2 o3 x1 x2 x3 y1 y2 y3 z1 z2 z3):=by
 intro β w vs hG hv
 obtain ⟨v,rfl,cs,rfl,h1⟩:=cW hv
 have e:=holds_txt [writeB o1,writeB o2,writeB o3,writeB x1,writeB x2,writeB x3,writeB y1,writeB y2,writeB y3,writeB z1,writeB z2,writeB z3] cs h1
 rw [e]
 refine (zA o1 o2 o3 x1 x2 x3 y1 y2 y3 z1 z2 z3 h.o h.x h.y h.z (h.lm.mono (by decide)) hax w hG).mono ?_
 rintro e w' ⟨o,x,y,z,e1,v0,v1,v2,v3,hb⟩
 exact ⟨_,e1,hb,[.agg (frL o x y z).toArray,.int .i64 0],rfl,_,_,rfl,fr_holds v0 v1 v2 v3,_,_,rfl,⟨rfl,rfl⟩,rfl⟩
theorem fv_of (h:Wf o1 o2 o3 x1 x2 x3 y1 y2 y3 z1 z2 z3) (hax:Ax x1 x2 x3 y1 y2 y3 z1 z2 z3):Fv o1 o2 o3 x1 x2 x3 y1 y2 y3 z1 z2 z3:=⟨h,hax,readFrameF h hax⟩
end
end Fr
namespace Ab
open Go.RowKit Pl
inductive AvL:List (AV Kn)→List (AV Kn)→Prop where
 | nil:AvL [] []
 | ag {k m l l'}:LitL k m→AvL l l'→AvL (.fv (.ag k)::l) (.fv (.ag m)::l')
 | txt {b:ByteArray} {l l'}:AvL l l'→AvL (.fv (.sc (bS b))::l) (.fv (.sc (.lit (.string b)))::l')
 | same {x:AV Kn} {l l'}:AvL l l'→AvL (x::l) (x::l')
theorem AvL.to {β:List Nat} {w:World} {l m:List (AV Kn)} (h:AvL l m):∀ {vs:List Value},holdsA β m vs w→holdsA β l vs w:=by
 induction h with
 | nil=>intro vs h;exact h
 | ag hl _ ih=>rintro vs ⟨v,r,e,h1,h2⟩;exact ⟨v,r,e,(ag_lit hl).2 h1,ih h2⟩
 | txt _ ih=>rintro vs ⟨v,r,e,h1,h2⟩;exact ⟨v,r,e,sc_lit.2 h1,ih h2⟩
 | same _ ih=>rintro vs ⟨v,r,e,h1,h2⟩;exact ⟨v,r,e,h1,ih h2⟩
inductive FvL:List (FV Kn)→List (FV Kn)→Prop where
 | nil:FvL [] []
 | ag {k m l l'}:LitL k m→FvL l l'→FvL (.ag k::l) (.ag m::l')
 | txt {b:ByteArray} {l l'}:FvL l l'→FvL (.sc (bS b)::l) (.sc (.lit (.string b))::l')
 | same {x:FV Kn} {l l'}:FvL l l'→FvL (x::l) (x::l')
theorem FvL.to {β:List Nat} {w:World} {l m:List (FV Kn)} (h:FvL l m):∀ {vs:List Value},holdsF β l vs w→holdsF β m vs w:=by
 induction h with
 | nil=>intro vs h;exact h
 | ag hl _ ih=>rintro vs ⟨v,r,e,h1,h2⟩;exact ⟨v,r,e,(ag_lit hl).1 h1,ih h2⟩
 | txt _ ih=>rintro vs ⟨v,r,e,h1,h2⟩;exact ⟨v,r,e,(sc_lit (β:=β)).1 h1,ih h2⟩
 | same _ ih=>rintro vs ⟨v,r,e,h1,h2⟩;exact ⟨v,r,e,h1,ih h2⟩
theorem FitsW.lits {P:Program} {I:World→Prop} {f:FuncId} {l l' : List (AV Kn)} {r r' : List (FV Kn)} (h:FitsW P I f l (.tup r)) (ha:AvL l l') (hr:FvL r r'):FitsW P I f l' (.tup r') :=
 (h.args fun _ _ _ hv=>ha.to hv).res fun _ _ _ ⟨vs,e,hv⟩=>⟨vs,e,hr.to hv⟩
theorem Fits.lits {P:Program} {f:FuncId} {l l' : List (AV Kn)} {k m:List (Seg Kn)} (h:Fits P f l (.fv (.ag k))) (ha:AvL l l') (hr:LitL k m):Fits P f l' (.fv (.ag m)):=fun β w vs hv =>
 (h β w vs (ha.to hv)).mono fun e w' ⟨v,e1,e2,e3⟩=>⟨v,e1,e2,(ag_lit hr).1 e3⟩
theorem vc_eq {P:Program} {f:FuncId} {l:List (AV Kn)} {a b c a' b' c' : Rat} (h:Fits P f l (vc a b c)) (e1:a=a') (e2:b=b') (e3:c=c'):Fits P f l (vc a' b' c'):=by
 subst e1
 subst e2
 subst e3
 exact h
theorem wr_q {q:Rat} (hn:q.num.natAbs<1000000000) (hd:q.den<1000000000):Wr q :=
 ⟨Nat.le_trans (decB_size (k:=8) hn) (by decide),Nat.le_trans (decB_size (k:=8) hd) (by decide)⟩
theorem oR {z:Int} (h:z.natAbs<1000000000):Wr (z:Rat):=wr_q h (show 1<1000000000 by omega)
theorem kD {q:Rat} {n:Int} {d:Nat} {a b:ByteArray} (hn:q.num=n) (hd:q.den=d) (h1:d≠1) (ha:aP n=a) (hb:decB d=b):writeB q=a++(⟨#[47]⟩++b):=by
 rw [eY (by rw [hd];exact h1),hn,hd,ha,hb]
theorem x0:writeB ((0:Int):Rat)=⟨#[48]⟩:=cV (by omega) (bL (n:=0) (by omega))
theorem x1:writeB ((1:Int):Rat)=⟨#[49]⟩:=cV (by omega) (bL (n:=1) (by omega))
theorem x2:writeB ((2:Int):Rat)=⟨#[50]⟩:=cV (by omega) (bL (n:=2) (by omega))
theorem x3:writeB ((3:Int):Rat)=⟨#[51]⟩:=cV (by omega) (bL (n:=3) (by omega))
theorem x4:writeB ((4:Int):Rat)=⟨#[52]⟩:=cV (by omega) (bL (n:=4) (by omega))
theorem x5:writeB ((5:Int):Rat)=⟨#[53]⟩:=cV (by omega) (bL (n:=5) (by omega))
theorem x7:writeB ((7:Int):Rat)=⟨#[55]⟩:=cV (by omega) (bL (n:=7) (by omega))
theorem x10:writeB ((10:Int):Rat)=⟨#[49,48]⟩:=cV (by omega) (mH (n:=10) (by omega) (by omega))
theorem x24:writeB ((24:Int):Rat)=⟨#[50,52]⟩:=cV (by omega) (mH (n:=24) (by omega) (by omega))
theorem x25:writeB ((25:Int):Rat)=⟨#[50,53]⟩:=cV (by omega) (mH (n:=25) (by omega) (by omega))
theorem x28:writeB ((28:Int):Rat)=⟨#[50,56]⟩:=cV (by omega) (mH (n:=28) (by omega) (by omega))
theorem x30:writeB ((30:Int):Rat)=⟨#[51,48]⟩:=cV (by omega) (mH (n:=30) (by omega) (by omega))
theorem xm1:writeB ((-1:Int):Rat)=⟨#[45,49]⟩:=(fK (z := -1) (by omega) (b:=⟨#[49]⟩) (by rw [show Int.natAbs (-1)=1 from rfl];exact bL (n:=1) (by omega))).trans (ba_ext rfl)
theorem xm2:writeB ((-2:Int):Rat)=⟨#[45,50]⟩:=(fK (z := -2) (by omega) (b:=⟨#[50]⟩) (by rw [show Int.natAbs (-2)=2 from rfl];exact bL (n:=2) (by omega))).trans (ba_ext rfl)
theorem xm4:writeB ((-4:Int):Rat)=⟨#[45,52]⟩:=(fK (z := -4) (by omega) (b:=⟨#[52]⟩) (by rw [show Int.natAbs (-4)=4 from rfl];exact bL (n:=4) (by omega))).trans (ba_ext rfl)
theorem xm7:writeB ((-7:Int):Rat)=⟨#[45,55]⟩:=(fK (z := -7) (by omega) (b:=⟨#[55]⟩) (by rw [show Int.natAbs (-7)=7 from rfl];exact bL (n:=7) (by omega))).trans (ba_ext rfl)
theorem xm24:writeB ((-24:Int):Rat)=⟨#[45,50,52]⟩:=(fK (z := -24) (by omega) (b:=⟨#[50,52]⟩) (by rw [show Int.natAbs (-24)=24 from rfl];exact mH (n:=24) (by omega) (by omega))).trans (ba_ext rfl)
theorem r0:Wr ((0:Int):Rat):=oR (by decide)
theorem r1:Wr ((1:Int):Rat):=oR (by decide)
theorem r2:Wr ((2:Int):Rat):=oR (by decide)
theorem r3:Wr ((3:Int):Rat):=oR (by decide)
theorem r4:Wr ((4:Int):Rat):=oR (by decide)
theorem r5:Wr ((5:Int):Rat):=oR (by decide)
theorem r7:Wr ((7:Int):Rat):=oR (by decide)
theorem r10:Wr ((10:Int):Rat):=oR (by decide)
theorem r24:Wr ((24:Int):Rat):=oR (by decide)
theorem r25:Wr ((25:Int):Rat):=oR (by decide)
theorem r28:Wr ((28:Int):Rat):=oR (by decide)
theorem r30:Wr ((30:Int):Rat):=oR (by decide)
theorem rm1:Wr ((-1:Int):Rat):=oR (by decide)
theorem rm2:Wr ((-2:Int):Rat):=oR (by decide)
theorem rm4:Wr ((-4:Int):Rat):=oR (by decide)
theorem rm7:Wr ((-7:Int):Rat):=oR (by decide)
theorem rm24:Wr ((-24:Int):Rat):=oR (by decide)
theorem nh12:(mkRat (1) 2).num=1:=by kernel_rfl
theorem dh12:(mkRat (1) 2).den=2:=by kernel_rfl
theorem xh12:writeB (mkRat (1) 2)=⟨#[49,47,50]⟩:=(kD nh12 dh12 (by decide) (a:=⟨#[49]⟩) ((dC (1)).trans x1) (bL (n:=2) (by omega))).trans (ba_ext rfl)
theorem rh12:Wr (mkRat (1) 2):=wr_q (by rw [nh12];decide) (by rw [dh12];decide)
theorem nm13:(mkRat (-1) 3).num = -1:=by kernel_rfl
theorem dm13:(mkRat (-1) 3).den=3:=by kernel_rfl
theorem xm13:writeB (mkRat (-1) 3)=⟨#[45,49,47,51]⟩:=(kD nm13 dm13 (by decide) (a:=⟨#[45,49]⟩) ((dC (-1)).trans xm1) (bL (n:=3) (by omega))).trans (ba_ext rfl)
theorem rm13:Wr (mkRat (-1) 3):=wr_q (by rw [nm13];decide) (by rw [dm13];decide)
theorem nq252:(mkRat (25) 2).num=25:=by kernel_rfl
theorem dq252:(mkRat (25) 2).den=2:=by kernel_rfl
theorem xq252:writeB (mkRat (25) 2)=⟨#[50,53,47,50]⟩:=(kD nq252 dq252 (by decide) (a:=⟨#[50,53]⟩) ((dC (25)).trans x25) (bL (n:=2) (by omega))).trans (ba_ext rfl)
theorem rq252:Wr (mkRat (25) 2):=wr_q (by rw [nq252];decide) (by rw [dq252];decide)
theorem nm12:(mkRat (-1) 2).num = -1:=by kernel_rfl
theorem dm12:(mkRat (-1) 2).den=2:=by kernel_rfl
theorem xm12:writeB (mkRat (-1) 2)=⟨#[45,49,47,50]⟩:=(kD nm12 dm12 (by decide) (a:=⟨#[45,49]⟩) ((dC (-1)).trans xm1) (bL (n:=2) (by omega))).trans (ba_ext rfl)
theorem rm12:Wr (mkRat (-1) 2):=wr_q (by rw [nm12];decide) (by rw [dm12];decide)
theorem nq23:(mkRat (2) 3).num=2:=by kernel_rfl
theorem dq23:(mkRat (2) 3).den=3:=by kernel_rfl
theorem xq23:writeB (mkRat (2) 3)=⟨#[50,47,51]⟩:=(kD nq23 dq23 (by decide) (a:=⟨#[50]⟩) ((dC (2)).trans x2) (bL (n:=3) (by omega))).trans (ba_ext rfl)
theorem rq23:Wr (mkRat (2) 3):=wr_q (by rw [nq23];decide) (by rw [dq23];decide)
theorem lv_2_0_4:jF 22 [it (2),it (0),it (4)] (.fv (.ag [.lit (.string ⟨#[50]⟩),.lit (.string ⟨#[48]⟩),.lit (.string ⟨#[52]⟩)]):AV Kn):=by
 have h:=dG (a:=2) (b:=0) (c:=4) (by constructor <;> omega) (by constructor <;> omega) (by constructor <;> omega)
 simp only [vS,uV,fP,qX,hS,gR,fW,x0,x2,x4] at h
 exact h.lits (.same (.same (.same .nil))) (.txt (.txt (.txt .nil)))
theorem lv_m1_0_m2:jF 22 [it (-1),it (0),it (-2)] (.fv (.ag [.lit (.string ⟨#[45,49]⟩),.lit (.string ⟨#[48]⟩),.lit (.string ⟨#[45,50]⟩)]):AV Kn):=by
 have h:=dG (a := -1) (b:=0) (c := -2) (by constructor <;> omega) (by constructor <;> omega) (by constructor <;> omega)
 simp only [vS,uV,fP,qX,hS,gR,fW,x0,xm1,xm2] at h
 exact h.lits (.same (.same (.same .nil))) (.txt (.txt (.txt .nil)))
theorem lv_1_0_0:jF 22 [it (1),it (0),it (0)] (.fv (.ag [.lit (.string ⟨#[49]⟩),.lit (.string ⟨#[48]⟩),.lit (.string ⟨#[48]⟩)]):AV Kn):=by
 have h:=dG (a:=1) (b:=0) (c:=0) (by constructor <;> omega) (by constructor <;> omega) (by constructor <;> omega)
 simp only [vS,uV,fP,qX,hS,gR,fW,x0,x1] at h
 exact h.lits (.same (.same (.same .nil))) (.txt (.txt (.txt .nil)))
theorem lv_0_1_0:jF 22 [it (0),it (1),it (0)] (.fv (.ag [.lit (.string ⟨#[48]⟩),.lit (.string ⟨#[49]⟩),.lit (.string ⟨#[48]⟩)]):AV Kn):=by
 have h:=dG (a:=0) (b:=1) (c:=0) (by constructor <;> omega) (by constructor <;> omega) (by constructor <;> omega)
 simp only [vS,uV,fP,qX,hS,gR,fW,x0,x1] at h
 exact h.lits (.same (.same (.same .nil))) (.txt (.txt (.txt .nil)))
theorem lv_0_0_1:jF 22 [it (0),it (0),it (1)] (.fv (.ag [.lit (.string ⟨#[48]⟩),.lit (.string ⟨#[48]⟩),.lit (.string ⟨#[49]⟩)]):AV Kn):=by
 have h:=dG (a:=0) (b:=0) (c:=1) (by constructor <;> omega) (by constructor <;> omega) (by constructor <;> omega)
 simp only [vS,uV,fP,qX,hS,gR,fW,x0,x1] at h
 exact h.lits (.same (.same (.same .nil))) (.txt (.txt (.txt .nil)))
theorem lv_0_0_0:jF 22 [it (0),it (0),it (0)] (.fv (.ag [.lit (.string ⟨#[48]⟩),.lit (.string ⟨#[48]⟩),.lit (.string ⟨#[48]⟩)]):AV Kn):=by
 have h:=dG (a:=0) (b:=0) (c:=0) (by constructor <;> omega) (by constructor <;> omega) (by constructor <;> omega)
 simp only [vS,uV,fP,qX,hS,gR,fW,x0] at h
 exact h.lits (.same (.same (.same .nil))) (.txt (.txt (.txt .nil)))
theorem lv_1_1_1:jF 22 [it (1),it (1),it (1)] (.fv (.ag [.lit (.string ⟨#[49]⟩),.lit (.string ⟨#[49]⟩),.lit (.string ⟨#[49]⟩)]):AV Kn):=by
 have h:=dG (a:=1) (b:=1) (c:=1) (by constructor <;> omega) (by constructor <;> omega) (by constructor <;> omega)
 simp only [vS,uV,fP,qX,hS,gR,fW,x1] at h
 exact h.lits (.same (.same (.same .nil))) (.txt (.txt (.txt .nil)))
theorem lv_1_1_0:jF 22 [it (1),it (1),it (0)] (.fv (.ag [.lit (.string ⟨#[49]⟩),.lit (.string ⟨#[49]⟩),.lit (.string ⟨#[48]⟩)]):AV Kn):=by
 have h:=dG (a:=1) (b:=1) (c:=0) (by constructor <;> omega) (by constructor <;> omega) (by constructor <;> omega)
 simp only [vS,uV,fP,qX,hS,gR,fW,x0,x1] at h
 exact h.lits (.same (.same (.same .nil))) (.txt (.txt (.txt .nil)))
theorem lv_0_7_5:jF 22 [it (0),it (7),it (5)] (.fv (.ag [.lit (.string ⟨#[48]⟩),.lit (.string ⟨#[55]⟩),.lit (.string ⟨#[53]⟩)]):AV Kn):=by
 have h:=dG (a:=0) (b:=7) (c:=5) (by constructor <;> omega) (by constructor <;> omega) (by constructor <;> omega)
 simp only [vS,uV,fP,qX,hS,gR,fW,x0,x5,x7] at h
 exact h.lits (.same (.same (.same .nil))) (.txt (.txt (.txt .nil)))
theorem lv_m1_0_0:jF 22 [it (-1),it (0),it (0)] (.fv (.ag [.lit (.string ⟨#[45,49]⟩),.lit (.string ⟨#[48]⟩),.lit (.string ⟨#[48]⟩)]):AV Kn):=by
 have h:=dG (a := -1) (b:=0) (c:=0) (by constructor <;> omega) (by constructor <;> omega) (by constructor <;> omega)
 simp only [vS,uV,fP,qX,hS,gR,fW,x0,xm1] at h
 exact h.lits (.same (.same (.same .nil))) (.txt (.txt (.txt .nil)))
theorem lv_4_4_0:jF 22 [it (4),it (4),it (0)] (.fv (.ag [.lit (.string ⟨#[52]⟩),.lit (.string ⟨#[52]⟩),.lit (.string ⟨#[48]⟩)]):AV Kn):=by
 have h:=dG (a:=4) (b:=4) (c:=0) (by constructor <;> omega) (by constructor <;> omega) (by constructor <;> omega)
 simp only [vS,uV,fP,qX,hS,gR,fW,x0,x4] at h
 exact h.lits (.same (.same (.same .nil))) (.txt (.txt (.txt .nil)))
theorem lv_m7_24_0:jF 22 [it (-7),it (24),it (0)] (.fv (.ag [.lit (.string ⟨#[45,55]⟩),.lit (.string ⟨#[50,52]⟩),.lit (.string ⟨#[48]⟩)]):AV Kn):=by
 have h:=dG (a := -7) (b:=24) (c:=0) (by constructor <;> omega) (by constructor <;> omega) (by constructor <;> omega)
 simp only [vS,uV,fP,qX,hS,gR,fW,x0,x24,xm7] at h
 exact h.lits (.same (.same (.same .nil))) (.txt (.txt (.txt .nil)))
theorem lv_5_5_0:jF 22 [it (5),it (5),it (0)] (.fv (.ag [.lit (.string ⟨#[53]⟩),.lit (.string ⟨#[53]⟩),.lit (.string ⟨#[48]⟩)]):AV Kn):=by
 have h:=dG (a:=5) (b:=5) (c:=0) (by constructor <;> omega) (by constructor <;> omega) (by constructor <;> omega)
 simp only [vS,uV,fP,qX,hS,gR,fW,x0,x5] at h
 exact h.lits (.same (.same (.same .nil))) (.txt (.txt (.txt .nil)))
theorem lv_10_7_1:jF 22 [it (10),it (7),it (1)] (.fv (.ag [.lit (.string ⟨#[49,48]⟩),.lit (.string ⟨#[55]⟩),.lit (.string ⟨#[49]⟩)]):AV Kn):=by
 have h:=dG (a:=10) (b:=7) (c:=1) (by constructor <;> omega) (by constructor <;> omega) (by constructor <;> omega)
 simp only [vS,uV,fP,qX,hS,gR,fW,x1,x10,x7] at h
 exact h.lits (.same (.same (.same .nil))) (.txt (.txt (.txt .nil)))
theorem lframe:jF 26 ([]:List (AV Kn)) (.fv (.ag [.lit (.string ⟨#[49]⟩),.lit (.string ⟨#[48]⟩),.lit (.string ⟨#[48]⟩),.lit (.string ⟨#[51]⟩),.lit (.string ⟨#[52]⟩),.lit (.string ⟨#[48]⟩),.lit (.string ⟨#[45,52]⟩),.lit (.string ⟨#[51]⟩),.lit (.string ⟨#[48]⟩),.lit (.string ⟨#[48]⟩),.lit (.string ⟨#[48]⟩),.lit (.string ⟨#[53]⟩)]):AV Kn):=by
 have h:=lawFrameF
 simp only [vS,uV,fP,qX,hS,gR,fW,x0,x1,x3,x4,x5,xm4] at h
 exact h.lits .nil (.txt (.txt (.txt (.txt (.txt (.txt (.txt (.txt (.txt (.txt (.txt (.txt (.nil)))))))))))))
theorem wfF:Wf ((1:Int):Rat) ((0:Int):Rat) ((0:Int):Rat) ((3:Int):Rat) ((4:Int):Rat) ((0:Int):Rat) ((-4:Int):Rat) ((3:Int):Rat) ((0:Int):Rat) ((0:Int):Rat) ((0:Int):Rat) ((5:Int):Rat):=⟨⟨r1,r0,r0⟩,⟨r3,r4,r0⟩,⟨rm4,r3,r0⟩,⟨r0,r0,r5⟩⟩
theorem axF:Ax ((3:Int):Rat) ((4:Int):Rat) ((0:Int):Rat) ((-4:Int):Rat) ((3:Int):Rat) ((0:Int):Rat) ((0:Int):Rat) ((0:Int):Rat) ((5:Int):Rat):=⟨by kernel_rfl,by kernel_rfl,by kernel_rfl,by kernel_rfl,by kernel_rfl,by kernel_rfl,by kernel_rfl⟩
theorem fvF:Fv ((1:Int):Rat) ((0:Int):Rat) ((0:Int):Rat) ((3:Int):Rat) ((4:Int):Rat) ((0:Int):Rat) ((-4:Int):Rat) ((3:Int):Rat) ((0:Int):Rat) ((0:Int):Rat) ((0:Int):Rat) ((5:Int):Rat):=Go.Proofs.YtagahkpgdakofaaGreatDoor.Fr.fv_of wfF axF
theorem hv111 {d:Rat} (h:Wr d):Hv 1 1 1 d:=⟨by constructor <;> omega,by constructor <;> omega,by constructor <;> omega,h,ck_111⟩
theorem hv100 {d:Rat} (h:Wr d):Hv 1 0 0 d:=⟨by constructor <;> omega,by constructor <;> omega,by constructor <;> omega,h,ck_100⟩
theorem hv302 {d:Rat} (h:Wr d):Hv 3 0 (-2) d:=⟨by constructor <;> omega,by constructor <;> omega,by constructor <;> omega,h,ck_302⟩
theorem nJ {a:Rat} (h:decide (a=0)=false):a≠0:=of_decide_eq_false h
theorem asc_1250:∀ (j:Nat) (b:UInt8),(⟨#[49,50,46,53,48]⟩:ByteArray).data.toList[j]?=some b→b.toNat<128:=by
 intro j b h
 have:=List.mem_of_getElem? h
 simp at this
 rcases this with rfl|rfl|rfl|rfl|rfl <;> decide
theorem dig_12:AllDig (aC ⟨#[49,50]⟩):=by intro c hc;simp [aC] at hc;rcases hc with rfl|rfl <;> decide
theorem dig_50:AllDig (aC ⟨#[53,48]⟩):=by intro c hc;simp [aC] at hc;rcases hc with rfl|rfl <;> decide
theorem dec_100:decB 100=⟨#[49,48,48]⟩:=by unfold decB;rw [eI (by omega),eI (by omega),cM (by omega)];rfl
theorem dec_1250:decB 1250=⟨#[49,50,53,48]⟩:=by unfold decB;rw [eI (by omega),eI (by omega),eI (by omega),cM (by omega)];rfl
theorem q1250:mkRat (sg false 1250) 100=mkRat 25 2:=by kernel_rfl
theorem lv_small {n k:Nat} (h:n<1000000000):Lv k n:=(Lv.one n (by rw [aL];omega)).mono (Nat.zero_le _)
theorem eParse:jX 20 [lt ⟨#[49,50,46,53,48]⟩] (.tup [.sc (.lit (.string ⟨#[50,53,47,50]⟩)),.sc z0]):=by
 have hp:jF 54 [tx ⟨#[49,50,46,53,48]⟩] (.tup [.sc (bS (decB 1250)),.sc (bS (decB 100)),.sc z0]):=by
  have h:=partsDot (s:=⟨#[49,50,46,53,48]⟩) (a:=⟨#[49,50]⟩) (b:=⟨#[53,48]⟩) (z:=⟨#[48,48]⟩) (k:=2) (indexAnyF (by decide) asc_1250 (by kernel_rfl)) (by decide) (by decide) (ba_ext rfl) (ba_ext rfl) dig_12 (by decide) dig_50 (by decide) rfl (repeatF (by decide) (by decide) (ba_ext (by kernel_rfl))) (by decide)
  have e1:(⟨#[49,50]⟩++⟨#[53,48]⟩:ByteArray)=decB 1250:=dec_1250.symm
  have e2:(⟨#[49]⟩++⟨#[48,48]⟩:ByteArray)=decB 100:=dec_100.symm
  rw [e1,e2] at h
  exact h
 have h:=parseF' (s:=⟨#[49,50,46,53,48]⟩) (n:=1250) (d:=100) (by decide) (by kernel_rfl) hp (by rw [dec_1250];decide) (by rw [dec_100];decide) (lv_small (by decide)) (lv_small (by decide)) (by decide) (by rw [q1250];exact rq252.lf.mono (by decide)) (by rw [q1250];exact rq252.n) (by rw [q1250];exact rq252.d)
 rw [q1250,xq252] at h
 exact h.lits (.txt .nil) (.txt (.same .nil))
theorem eAlong:jX 21 [(.fv (.ag [.lit (.string ⟨#[50]⟩),.lit (.string ⟨#[48]⟩),.lit (.string ⟨#[52]⟩)]):AV Kn),(.fv (.ag [.lit (.string ⟨#[45,49]⟩),.lit (.string ⟨#[48]⟩),.lit (.string ⟨#[45,50]⟩)]):AV Kn)] (.tup [.sc (.lit (.string ⟨#[45,49,47,50]⟩)),.sc z0]):=by
 have h:=apiAlongF (a:=((2:Int):Rat)) (b:=((0:Int):Rat)) (c:=((4:Int):Rat)) (x:=((-1:Int):Rat)) (y:=((0:Int):Rat)) (z:=((-2:Int):Rat)) ⟨r2,r0,r4⟩ ⟨rm1,r0,rm2⟩ (by kernel_rfl) (by kernel_rfl) (nJ (by kernel_rfl)) (by rw [show dt ((-1:Int):Rat) ((0:Int):Rat) ((-2:Int):Rat) ((2:Int):Rat) ((0:Int):Rat) ((4:Int):Rat)/dt ((2:Int):Rat) ((0:Int):Rat) ((4:Int):Rat) ((2:Int):Rat) ((0:Int):Rat) ((4:Int):Rat)=mkRat (-1) 2 from by kernel_rfl];exact rm12)
 rw [show dt ((-1:Int):Rat) ((0:Int):Rat) ((-2:Int):Rat) ((2:Int):Rat) ((0:Int):Rat) ((4:Int):Rat)/dt ((2:Int):Rat) ((0:Int):Rat) ((4:Int):Rat) ((2:Int):Rat) ((0:Int):Rat) ((4:Int):Rat)=mkRat (-1) 2 from by kernel_rfl] at h
 simp only [vS,uV,fP,qX,hS,gR,fW,x0,x2,x4,xm1,xm12,xm2] at h
 exact h.lits (.ag (.txt (.txt (.txt .nil))) (.ag (.txt (.txt (.txt .nil))) .nil)) (.txt (.same .nil))
theorem eMake:jX 23 [(.fv (.ag [.lit (.string ⟨#[49,47,50]⟩),.lit (.string ⟨#[48]⟩),.lit (.string ⟨#[45,49,47,51]⟩)]):AV Kn),lt ⟨#[53]⟩] (.tup [.ag [.lit (.int .i64 (3)),.lit (.int .i64 (0)),.lit (.int .i64 (-2)),.lit (.string ⟨#[51,48]⟩)],.sc z0]):=by
 have h:=apiMakeHalfF (n1:=mkRat 1 2) (n2:=((0:Int):Rat)) (n3:=mkRat (-1) 3) (d:=((5:Int):Rat)) (z1:=3) (z2:=0) (z3 := -2) (e:=((30:Int):Rat)) ⟨rh12,r0,rm13⟩ r5 ⟨rh12.lf.mono (by decide),r0.lf.mono (by decide),rm13.lf.mono (by decide),r5.lf.mono (by decide),fun ⟨e,_,_⟩=>nJ (a:=mkRat 1 2) (by kernel_rfl) e,by kernel_rfl,by kernel_rfl,by kernel_rfl,by kernel_rfl,by constructor <;> omega,by constructor <;> omega,by constructor <;> omega,r30⟩
 simp only [vS,uV,fP,qX,hS,gR,fW,x0,x30,x5,xh12,xm13] at h
 exact h.lits (.ag (.txt (.txt (.txt .nil))) (.txt .nil)) (.ag (.same (.same (.same (.txt .nil)))) (.same .nil))
theorem eThrough:jX 24 [(.fv (.ag [.lit (.string ⟨#[49]⟩),.lit (.string ⟨#[48]⟩),.lit (.string ⟨#[48]⟩)]):AV Kn),(.fv (.ag [.lit (.string ⟨#[48]⟩),.lit (.string ⟨#[49]⟩),.lit (.string ⟨#[48]⟩)]):AV Kn),(.fv (.ag [.lit (.string ⟨#[48]⟩),.lit (.string ⟨#[48]⟩),.lit (.string ⟨#[49]⟩)]):AV Kn)] (.tup [.ag [.lit (.int .i64 (1)),.lit (.int .i64 (1)),.lit (.int .i64 (1)),.lit (.string ⟨#[49]⟩)],.sc z0]):=by
 have h:=apiThroughF (a1:=((1:Int):Rat)) (a2:=((0:Int):Rat)) (a3:=((0:Int):Rat)) (b1:=((0:Int):Rat)) (b2:=((1:Int):Rat)) (b3:=((0:Int):Rat)) (c1:=((0:Int):Rat)) (c2:=((0:Int):Rat)) (c3:=((1:Int):Rat)) (m1:=((1:Int):Rat)) (m2:=((1:Int):Rat)) (m3:=((1:Int):Rat)) (z1:=1) (z2:=1) (z3:=1) (e:=((1:Int):Rat)) ⟨r1,r0,r0⟩ ⟨r0,r1,r0⟩ ⟨r0,r0,r1⟩ (by kernel_rfl) (by kernel_rfl) (by kernel_rfl) ⟨r1.lf.mono (by decide),r1.lf.mono (by decide),r1.lf.mono (by decide),by rw [show dt ((1:Int):Rat) ((1:Int):Rat) ((1:Int):Rat) ((1:Int):Rat) ((0:Int):Rat) ((0:Int):Rat)=((1:Int):Rat) from by kernel_rfl];exact r1.lf.mono (by decide),fun ⟨e,_,_⟩=>nJ (a:=((1:Int):Rat)) (by kernel_rfl) e,by kernel_rfl,by kernel_rfl,by kernel_rfl,by kernel_rfl,by constructor <;> omega,by constructor <;> omega,by constructor <;> omega,r1⟩
 simp only [vS,uV,fP,qX,hS,gR,fW,x0,x1] at h
 exact h.lits (.ag (.txt (.txt (.txt .nil))) (.ag (.txt (.txt (.txt .nil))) (.ag (.txt (.txt (.txt .nil))) .nil))) (.ag (.same (.same (.same (.txt .nil)))) (.same .nil))
theorem eMirror:jX 25 [(.fv (.ag [.lit (.int .i64 (1)),.lit (.int .i64 (1)),.lit (.int .i64 (1)),.lit (.string ⟨#[49]⟩)]):AV Kn),(.fv (.ag [.lit (.string ⟨#[48]⟩),.lit (.string ⟨#[48]⟩),.lit (.string ⟨#[48]⟩)]):AV Kn)] (.tup [.ag [.lit (.string ⟨#[50,47,51]⟩),.lit (.string ⟨#[50,47,51]⟩),.lit (.string ⟨#[50,47,51]⟩)],.sc z0]):=by
 have h:=apiMirrorF (z1:=1) (z2:=1) (z3:=1) (d:=((1:Int):Rat)) (p1:=((0:Int):Rat)) (p2:=((0:Int):Rat)) (p3:=((0:Int):Rat)) (m1:=mkRat 2 3) (m2:=mkRat 2 3) (m3:=mkRat 2 3) (hv111 r1) ⟨r0,r0,r0⟩ (nJ (by kernel_rfl)) (by kernel_rfl) (by kernel_rfl) (by kernel_rfl) ⟨rq23,rq23,rq23⟩
 simp only [vS,uV,fP,qX,hS,gR,fW,x0,x1,xq23] at h
 exact h.lits (.ag (.same (.same (.same (.txt .nil)))) (.ag (.txt (.txt (.txt .nil))) .nil)) (.ag (.txt (.txt (.txt .nil))) (.same .nil))
theorem ePlace:jX 9 [(.fv (.ag [.lit (.string ⟨#[49]⟩),.lit (.string ⟨#[48]⟩),.lit (.string ⟨#[48]⟩),.lit (.string ⟨#[51]⟩),.lit (.string ⟨#[52]⟩),.lit (.string ⟨#[48]⟩),.lit (.string ⟨#[45,52]⟩),.lit (.string ⟨#[51]⟩),.lit (.string ⟨#[48]⟩),.lit (.string ⟨#[48]⟩),.lit (.string ⟨#[48]⟩),.lit (.string ⟨#[53]⟩)]):AV Kn),(.fv (.ag [.lit (.string ⟨#[49]⟩),.lit (.string ⟨#[49]⟩),.lit (.string ⟨#[49]⟩)]):AV Kn)] (.tup [.ag [.lit (.string ⟨#[48]⟩),.lit (.string ⟨#[55]⟩),.lit (.string ⟨#[53]⟩)],.sc z0]):=by
 have h:=zW (o1:=((1:Int):Rat)) (o2:=((0:Int):Rat)) (o3:=((0:Int):Rat)) (x1:=((3:Int):Rat)) (x2:=((4:Int):Rat)) (x3:=((0:Int):Rat)) (y1:=((-4:Int):Rat)) (y2:=((3:Int):Rat)) (y3:=((0:Int):Rat)) (z1:=((0:Int):Rat)) (z2:=((0:Int):Rat)) (z3:=((5:Int):Rat)) (p1:=((1:Int):Rat)) (p2:=((1:Int):Rat)) (p3:=((1:Int):Rat)) (m1:=((0:Int):Rat)) (m2:=((7:Int):Rat)) (m3:=((5:Int):Rat)) fvF ⟨r1,r1,r1⟩ (by kernel_rfl) (by kernel_rfl) (by kernel_rfl) ⟨r0,r7,r5⟩
 simp only [vS,uV,fP,qX,hS,gR,fW,x0,x1,x3,x4,x5,x7,xm4] at h
 exact h.lits (.ag (.txt (.txt (.txt (.txt (.txt (.txt (.txt (.txt (.txt (.txt (.txt (.txt (.nil))))))))))))) (.ag (.txt (.txt (.txt .nil))) .nil)) (.ag (.txt (.txt (.txt .nil))) (.same .nil))
theorem r325:Wr (mkRat 3 25):=wr_q (by rw [show (mkRat 3 25).num=3 from by kernel_rfl];decide) (by rw [show (mkRat 3 25).den=25 from by kernel_rfl];decide)
theorem r425:Wr (mkRat 4 25):=wr_q (by rw [show (mkRat 4 25).num=4 from by kernel_rfl];decide) (by rw [show (mkRat 4 25).den=25 from by kernel_rfl];decide)
theorem r2825:Wr (mkRat 28 25):=wr_q (by rw [show (mkRat 28 25).num=28 from by kernel_rfl];decide) (by rw [show (mkRat 28 25).den=25 from by kernel_rfl];decide)
theorem ePlaceHalf:jX 27 [(.fv (.ag [.lit (.string ⟨#[49]⟩),.lit (.string ⟨#[48]⟩),.lit (.string ⟨#[48]⟩),.lit (.string ⟨#[51]⟩),.lit (.string ⟨#[52]⟩),.lit (.string ⟨#[48]⟩),.lit (.string ⟨#[45,52]⟩),.lit (.string ⟨#[51]⟩),.lit (.string ⟨#[48]⟩),.lit (.string ⟨#[48]⟩),.lit (.string ⟨#[48]⟩),.lit (.string ⟨#[53]⟩)]):AV Kn),(.fv (.ag [.lit (.int .i64 (1)),.lit (.int .i64 (0)),.lit (.int .i64 (0)),.lit (.string ⟨#[49]⟩)]):AV Kn)] (.tup [.ag [.lit (.int .i64 (3)),.lit (.int .i64 (4)),.lit (.int .i64 (0)),.lit (.string ⟨#[50,56]⟩)],.sc z0]):=by
 have h:=yS (o1:=((1:Int):Rat)) (o2:=((0:Int):Rat)) (o3:=((0:Int):Rat)) (x1:=((3:Int):Rat)) (x2:=((4:Int):Rat)) (x3:=((0:Int):Rat)) (y1:=((-4:Int):Rat)) (y2:=((3:Int):Rat)) (y3:=((0:Int):Rat)) (z1:=((0:Int):Rat)) (z2:=((0:Int):Rat)) (z3:=((5:Int):Rat)) (n1:=1) (n2:=0) (n3:=0) (d:=((1:Int):Rat)) (k1:=3) (k2:=4) (k3:=0) (e:=((28:Int):Rat)) fvF (hv100 r1) ⟨nJ (by kernel_rfl),nJ (by kernel_rfl),nJ (by kernel_rfl)⟩ (q1:=mkRat 3 25) (q2:=mkRat 4 25) (q3:=((0:Int):Rat)) (by kernel_rfl) (by kernel_rfl) (by kernel_rfl) ⟨r325.lf.mono (by decide),r425.lf.mono (by decide),r0.lf.mono (by decide),by rw [show ((1:Int):Rat)+dt (mkRat 3 25) (mkRat 4 25) ((0:Int):Rat) ((1:Int):Rat) ((0:Int):Rat) ((0:Int):Rat)=mkRat 28 25 from by kernel_rfl];exact r2825.lf.mono (by decide),fun ⟨e,_,_⟩=>nJ (a:=mkRat 3 25) (by kernel_rfl) e,by kernel_rfl,by kernel_rfl,by kernel_rfl,by kernel_rfl,by constructor <;> omega,by constructor <;> omega,by constructor <;> omega,r28⟩
 simp only [vS,uV,fP,qX,hS,gR,fW,x0,x1,x28,x3,x4,x5,xm4] at h
 exact h.lits (.ag (.txt (.txt (.txt (.txt (.txt (.txt (.txt (.txt (.txt (.txt (.txt (.txt (.nil))))))))))))) (.ag (.same (.same (.same (.txt .nil)))) .nil)) (.ag (.same (.same (.same (.txt .nil)))) (.same .nil))
theorem td_100:jF 83 [num ((1:Int):Rat),vc ((0:Int):Rat) ((0:Int):Rat) ((1:Int):Rat),vc ((1:Int):Rat) ((0:Int):Rat) ((0:Int):Rat)] (vc ((0:Int):Rat) ((1:Int):Rat) ((0:Int):Rat)):=by
 have h:=turnedF (w:=((1:Int):Rat)) (u1:=((0:Int):Rat)) (u2:=((0:Int):Rat)) (u3:=((1:Int):Rat)) (v1:=((1:Int):Rat)) (v2:=((0:Int):Rat)) (v3:=((0:Int):Rat)) (r1.lf.mono (by decide)) (r0.lf.mono (by decide)) (r0.lf.mono (by decide)) (r1.lf.mono (by decide)) (r1.lf.mono (by decide)) (r0.lf.mono (by decide)) (r0.lf.mono (by decide)) (nJ (by kernel_rfl))
 exact vc_eq h (by kernel_rfl) (by kernel_rfl) (by kernel_rfl)
theorem td_010:jF 83 [num ((1:Int):Rat),vc ((0:Int):Rat) ((0:Int):Rat) ((1:Int):Rat),vc ((0:Int):Rat) ((1:Int):Rat) ((0:Int):Rat)] (vc ((-1:Int):Rat) ((0:Int):Rat) ((0:Int):Rat)):=by
 have h:=turnedF (w:=((1:Int):Rat)) (u1:=((0:Int):Rat)) (u2:=((0:Int):Rat)) (u3:=((1:Int):Rat)) (v1:=((0:Int):Rat)) (v2:=((1:Int):Rat)) (v3:=((0:Int):Rat)) (r1.lf.mono (by decide)) (r0.lf.mono (by decide)) (r0.lf.mono (by decide)) (r1.lf.mono (by decide)) (r0.lf.mono (by decide)) (r1.lf.mono (by decide)) (r0.lf.mono (by decide)) (nJ (by kernel_rfl))
 exact vc_eq h (by kernel_rfl) (by kernel_rfl) (by kernel_rfl)
theorem td_001:jF 83 [num ((1:Int):Rat),vc ((0:Int):Rat) ((0:Int):Rat) ((1:Int):Rat),vc ((0:Int):Rat) ((0:Int):Rat) ((1:Int):Rat)] (vc ((0:Int):Rat) ((0:Int):Rat) ((1:Int):Rat)):=by
 have h:=turnedF (w:=((1:Int):Rat)) (u1:=((0:Int):Rat)) (u2:=((0:Int):Rat)) (u3:=((1:Int):Rat)) (v1:=((0:Int):Rat)) (v2:=((0:Int):Rat)) (v3:=((1:Int):Rat)) (r1.lf.mono (by decide)) (r0.lf.mono (by decide)) (r0.lf.mono (by decide)) (r1.lf.mono (by decide)) (r0.lf.mono (by decide)) (r0.lf.mono (by decide)) (r1.lf.mono (by decide)) (nJ (by kernel_rfl))
 exact vc_eq h (by kernel_rfl) (by kernel_rfl) (by kernel_rfl)
theorem eTurn:jX 28 [(.fv (.ag [.lit (.string ⟨#[49]⟩),.lit (.string ⟨#[48]⟩),.lit (.string ⟨#[48]⟩),.lit (.string ⟨#[49]⟩)]):AV Kn)] (.tup [.ag [.lit (.string ⟨#[48]⟩),.lit (.string ⟨#[48]⟩),.lit (.string ⟨#[48]⟩),.lit (.string ⟨#[48]⟩),.lit (.string ⟨#[49]⟩),.lit (.string ⟨#[48]⟩),.lit (.string ⟨#[45,49]⟩),.lit (.string ⟨#[48]⟩),.lit (.string ⟨#[48]⟩),.lit (.string ⟨#[48]⟩),.lit (.string ⟨#[48]⟩),.lit (.string ⟨#[49]⟩)],.sc z0]):=by
 have h:=apiTurnF (w:=((1:Int):Rat)) (u1:=((0:Int):Rat)) (u2:=((0:Int):Rat)) (u3:=((1:Int):Rat)) (b:=false) r1 ⟨r0,r0,r1⟩ (by kernel_rfl) (fun h=>by cases h) td_100 td_010 td_001 ⟨⟨r0,r0,r0⟩,⟨r0,r1,r0⟩,⟨rm1,r0,r0⟩,⟨r0,r0,r1⟩⟩
 simp only [vS,uV,fP,qX,hS,gR,fW,x0,x1,xm1] at h
 exact h.lits (.ag (.txt (.txt (.txt (.txt .nil)))) .nil) (.ag (.txt (.txt (.txt (.txt (.txt (.txt (.txt (.txt (.txt (.txt (.txt (.txt (.nil))))))))))))) (.same .nil))
theorem eCompose:jX 29 [(.fv (.ag [.lit (.string ⟨#[49]⟩),.lit (.string ⟨#[48]⟩),.lit (.string ⟨#[48]⟩),.lit (.string ⟨#[51]⟩),.lit (.string ⟨#[52]⟩),.lit (.string ⟨#[48]⟩),.lit (.string ⟨#[45,52]⟩),.lit (.string ⟨#[51]⟩),.lit (.string ⟨#[48]⟩),.lit (.string ⟨#[48]⟩),.lit (.string ⟨#[48]⟩),.lit (.string ⟨#[53]⟩)]):AV Kn),(.fv (.ag [.lit (.string ⟨#[49]⟩),.lit (.string ⟨#[48]⟩),.lit (.string ⟨#[48]⟩),.lit (.string ⟨#[51]⟩),.lit (.string ⟨#[52]⟩),.lit (.string ⟨#[48]⟩),.lit (.string ⟨#[45,52]⟩),.lit (.string ⟨#[51]⟩),.lit (.string ⟨#[48]⟩),.lit (.string ⟨#[48]⟩),.lit (.string ⟨#[48]⟩),.lit (.string ⟨#[53]⟩)]):AV Kn)] (.tup [.ag [.lit (.string ⟨#[52]⟩),.lit (.string ⟨#[52]⟩),.lit (.string ⟨#[48]⟩),.lit (.string ⟨#[45,55]⟩),.lit (.string ⟨#[50,52]⟩),.lit (.string ⟨#[48]⟩),.lit (.string ⟨#[45,50,52]⟩),.lit (.string ⟨#[45,55]⟩),.lit (.string ⟨#[48]⟩),.lit (.string ⟨#[48]⟩),.lit (.string ⟨#[48]⟩),.lit (.string ⟨#[50,53]⟩)],.sc z0]):=by
 have h:=apiComposeF fvF fvF (q1:=((4:Int):Rat)) (q2:=((4:Int):Rat)) (q3:=((0:Int):Rat)) (r1:=((-7:Int):Rat)) (r2:=((24:Int):Rat)) (r3:=((0:Int):Rat)) (s1:=((-24:Int):Rat)) (s2:=((-7:Int):Rat)) (s3:=((0:Int):Rat)) (t1:=((0:Int):Rat)) (t2:=((0:Int):Rat)) (t3:=((25:Int):Rat)) (by kernel_rfl) (by kernel_rfl) (by kernel_rfl) (by kernel_rfl) (by kernel_rfl) (by kernel_rfl) (by kernel_rfl) (by kernel_rfl) (by kernel_rfl) (by kernel_rfl) (by kernel_rfl) (by kernel_rfl) ⟨⟨r4,r4,r0⟩,⟨rm7,r24,r0⟩,⟨rm24,rm7,r0⟩,⟨r0,r0,r25⟩⟩ (by kernel_rfl) (by kernel_rfl) (by kernel_rfl)
 simp only [vS,uV,fP,qX,hS,gR,fW,x0,x1,x24,x25,x3,x4,x5,xm24,xm4,xm7] at h
 exact h.lits (.ag (.txt (.txt (.txt (.txt (.txt (.txt (.txt (.txt (.txt (.txt (.txt (.txt (.nil))))))))))))) (.ag (.txt (.txt (.txt (.txt (.txt (.txt (.txt (.txt (.txt (.txt (.txt (.txt (.nil))))))))))))) .nil)) (.ag (.txt (.txt (.txt (.txt (.txt (.txt (.txt (.txt (.txt (.txt (.txt (.txt (.nil))))))))))))) (.same .nil))
theorem eMeet:jX 30 [(.fv (.ag [.lit (.int .i64 (1)),.lit (.int .i64 (1)),.lit (.int .i64 (1)),.lit (.string ⟨#[49,48]⟩)]):AV Kn),(.fv (.ag [.lit (.string ⟨#[48]⟩),.lit (.string ⟨#[48]⟩),.lit (.string ⟨#[48]⟩)]):AV Kn),(.fv (.ag [.lit (.string ⟨#[49]⟩),.lit (.string ⟨#[49]⟩),.lit (.string ⟨#[48]⟩)]):AV Kn)] (.tup [.ag [.lit (.string ⟨#[53]⟩),.lit (.string ⟨#[53]⟩),.lit (.string ⟨#[48]⟩)],.sc z0]):=by
 have h:=apiMeetF (z1:=1) (z2:=1) (z3:=1) (d:=((10:Int):Rat)) (p1:=((0:Int):Rat)) (p2:=((0:Int):Rat)) (p3:=((0:Int):Rat)) (v1:=((1:Int):Rat)) (v2:=((1:Int):Rat)) (v3:=((0:Int):Rat)) (m1:=((5:Int):Rat)) (m2:=((5:Int):Rat)) (m3:=((0:Int):Rat)) (hv111 r10) ⟨r0,r0,r0⟩ ⟨r1,r1,r0⟩ (nJ (by kernel_rfl)) (by kernel_rfl) (by kernel_rfl) (by kernel_rfl) ⟨r5,r5,r0⟩
 simp only [vS,uV,fP,qX,hS,gR,fW,x0,x1,x10,x5] at h
 exact h.lits (.ag (.same (.same (.same (.txt .nil)))) (.ag (.txt (.txt (.txt .nil))) (.ag (.txt (.txt (.txt .nil))) .nil))) (.ag (.txt (.txt (.txt .nil))) (.same .nil))
theorem eSide:jX 31 [(.fv (.ag [.lit (.int .i64 (3)),.lit (.int .i64 (0)),.lit (.int .i64 (-2)),.lit (.string ⟨#[51,48]⟩)]):AV Kn),(.fv (.ag [.lit (.string ⟨#[49,48]⟩),.lit (.string ⟨#[55]⟩),.lit (.string ⟨#[49]⟩)]):AV Kn)] (.tup [.sc (.lit (.int .i64 (-1))),.sc z0]):=by
 have h:=apiSideF (z1:=3) (z2:=0) (z3 := -2) (d:=((30:Int):Rat)) (p1:=((10:Int):Rat)) (p2:=((7:Int):Rat)) (p3:=((1:Int):Rat)) (s := -1) (hv302 r30) ⟨r10,r7,r1⟩ (by kernel_rfl)
 simp only [vS,uV,fP,qX,hS,gR,fW,x1,x10,x30,x7] at h
 exact h.lits (.ag (.same (.same (.same (.txt .nil)))) (.ag (.txt (.txt (.txt .nil))) .nil)) (.same (.same .nil))
set_option maxRecDepth 100000 in
theorem qU:jX 4 ([]:List (AV Kn)) (bl true):=by
 refine jY Tryz.func4 fun w00 hI=>?_
 refine jW hI 20 [lt ⟨#[49,50,46,53,48]⟩] (eParse) ?_
 refine jC 22 [it (2),it (0),it (4)] (lv_2_0_4) ?_
 refine jC 22 [it (-1),it (0),it (-2)] (lv_m1_0_m2) ?_
 refine jW hI 21 [(.fv (.ag [.lit (.string ⟨#[50]⟩),.lit (.string ⟨#[48]⟩),.lit (.string ⟨#[52]⟩)])),(.fv (.ag [.lit (.string ⟨#[45,49]⟩),.lit (.string ⟨#[48]⟩),.lit (.string ⟨#[45,50]⟩)]))] (eAlong) ?_
 refine jW hI 23 [(.fv (.ag [.lit (.string ⟨#[49,47,50]⟩),.lit (.string ⟨#[48]⟩),.lit (.string ⟨#[45,49,47,51]⟩)])),lt ⟨#[53]⟩] (eMake) ?_
 refine jC 22 [it (1),it (0),it (0)] (lv_1_0_0) ?_
 refine jC 22 [it (0),it (1),it (0)] (lv_0_1_0) ?_
 refine jC 22 [it (0),it (0),it (1)] (lv_0_0_1) ?_
 refine jW hI 24 [(.fv (.ag [.lit (.string ⟨#[49]⟩),.lit (.string ⟨#[48]⟩),.lit (.string ⟨#[48]⟩)])),(.fv (.ag [.lit (.string ⟨#[48]⟩),.lit (.string ⟨#[49]⟩),.lit (.string ⟨#[48]⟩)])),(.fv (.ag [.lit (.string ⟨#[48]⟩),.lit (.string ⟨#[48]⟩),.lit (.string ⟨#[49]⟩)]))] (eThrough) ?_
 refine jC 22 [it (0),it (0),it (0)] (lv_0_0_0) ?_
 refine jW hI 25 [(.fv (.ag [.lit (.int .i64 (1)),.lit (.int .i64 (1)),.lit (.int .i64 (1)),.lit (.string ⟨#[49]⟩)])),(.fv (.ag [.lit (.string ⟨#[48]⟩),.lit (.string ⟨#[48]⟩),.lit (.string ⟨#[48]⟩)]))] (eMirror) ?_
 refine jC 26 [] (lframe) ?_
 refine jC 22 [it (1),it (1),it (1)] (lv_1_1_1) ?_
 refine jW hI 9 [(.fv (.ag [.lit (.string ⟨#[49]⟩),.lit (.string ⟨#[48]⟩),.lit (.string ⟨#[48]⟩),.lit (.string ⟨#[51]⟩),.lit (.string ⟨#[52]⟩),.lit (.string ⟨#[48]⟩),.lit (.string ⟨#[45,52]⟩),.lit (.string ⟨#[51]⟩),.lit (.string ⟨#[48]⟩),.lit (.string ⟨#[48]⟩),.lit (.string ⟨#[48]⟩),.lit (.string ⟨#[53]⟩)])),(.fv (.ag [.lit (.string ⟨#[49]⟩),.lit (.string ⟨#[49]⟩),.lit (.string ⟨#[49]⟩)]))] (ePlace) ?_
 refine jC 26 [] (lframe) ?_
 refine jW hI 27 [(.fv (.ag [.lit (.string ⟨#[49]⟩),.lit (.string ⟨#[48]⟩),.lit (.string ⟨#[48]⟩),.lit (.string ⟨#[51]⟩),.lit (.string ⟨#[52]⟩),.lit (.string ⟨#[48]⟩),.lit (.string ⟨#[45,52]⟩),.lit (.string ⟨#[51]⟩),.lit (.string ⟨#[48]⟩),.lit (.string ⟨#[48]⟩),.lit (.string ⟨#[48]⟩),.lit (.string ⟨#[53]⟩)])),(.fv (.ag [.lit (.int .i64 (1)),.lit (.int .i64 (0)),.lit (.int .i64 (0)),.lit (.string ⟨#[49]⟩)]))] (ePlaceHalf) ?_
 refine jW hI 28 [(.fv (.ag [.lit (.string ⟨#[49]⟩),.lit (.string ⟨#[48]⟩),.lit (.string ⟨#[48]⟩),.lit (.string ⟨#[49]⟩)]))] (eTurn) ?_
 refine jC 26 [] (lframe) ?_
 refine jC 26 [] (lframe) ?_
 refine jW hI 29 [(.fv (.ag [.lit (.string ⟨#[49]⟩),.lit (.string ⟨#[48]⟩),.lit (.string ⟨#[48]⟩),.lit (.string ⟨#[51]⟩),.lit (.string ⟨#[52]⟩),.lit (.string ⟨#[48]⟩),.lit (.string ⟨#[45,52]⟩),.lit (.string ⟨#[51]⟩),.lit (.string ⟨#[48]⟩),.lit (.string ⟨#[48]⟩),.lit (.string ⟨#[48]⟩),.lit (.string ⟨#[53]⟩)])),(.fv (.ag [.lit (.string ⟨#[49]⟩),.lit (.string ⟨#[48]⟩),.lit (.string ⟨#[48]⟩),.lit (.string ⟨#[51]⟩),.lit (.string ⟨#[52]⟩),.lit (.string ⟨#[48]⟩),.lit (.string ⟨#[45,52]⟩),.lit (.string ⟨#[51]⟩),.lit (.string ⟨#[48]⟩),.lit (.string ⟨#[48]⟩),.lit (.string ⟨#[48]⟩),.lit (.string ⟨#[53]⟩)]))] (eCompose) ?_
 refine jC 22 [it (0),it (0),it (0)] (lv_0_0_0) ?_
 refine jC 22 [it (1),it (1),it (0)] (lv_1_1_0) ?_
 refine jW hI 30 [(.fv (.ag [.lit (.int .i64 (1)),.lit (.int .i64 (1)),.lit (.int .i64 (1)),.lit (.string ⟨#[49,48]⟩)])),(.fv (.ag [.lit (.string ⟨#[48]⟩),.lit (.string ⟨#[48]⟩),.lit (.string ⟨#[48]⟩)])),(.fv (.ag [.lit (.string ⟨#[49]⟩),.lit (.string ⟨#[49]⟩),.lit (.string ⟨#[48]⟩)]))] (eMeet) ?_
 refine jC 22 [it (0),it (7),it (5)] (lv_0_7_5) ?_
 refine jC 22 [it (0),it (1),it (0)] (lv_0_1_0) ?_
 refine jC 22 [it (-1),it (0),it (0)] (lv_m1_0_0) ?_
 refine jC 22 [it (4),it (4),it (0)] (lv_4_4_0) ?_
 refine jC 22 [it (-7),it (24),it (0)] (lv_m7_24_0) ?_
 refine jC 22 [it (5),it (5),it (0)] (lv_5_5_0) ?_
 refine jC 22 [it (10),it (7),it (1)] (lv_10_7_1) ?_
 refine jW hI 31 [(.fv (.ag [.lit (.int .i64 (3)),.lit (.int .i64 (0)),.lit (.int .i64 (-2)),.lit (.string ⟨#[51,48]⟩)])),(.fv (.ag [.lit (.string ⟨#[49,48]⟩),.lit (.string ⟨#[55]⟩),.lit (.string ⟨#[49]⟩)]))] (eSide) ?_
 refine jC 32 [lt ⟨#[112,111,115,116,95,49]⟩] (isNameF (b:=true) (by kernel_rfl)) ?_
 refine jC 32 [lt ⟨#[49,112,111,115,116]⟩] (isNameF (b:=false) (by kernel_rfl)) ?_
 exact jR Tryz.func4
abbrev hA (a b c:Int) (s:ByteArray):AV Kn := .fv (.ag [iP a,iP b,iP c,bS s])
abbrev hL (a b c:Int) (s:ByteArray):AV Kn := .fv (.ag [.lit (.int .i64 a),.lit (.int .i64 b),.lit (.int .i64 c),bS s])
theorem iv_i3 {a b c:Int} (β:List Nat) (v:Value) (w:World) (h:(iv a b c).holds β v w):(i3 a b c).holds β v w:=by
 obtain ⟨cs,e,x1,r1,e1,h1,x2,r2,e2,h2,x3,r3,e3,h3,hr⟩:=h
 exact ⟨cs,e,x1,r1,e1,h1.1,x2,r2,e2,h2.1,x3,r3,e3,h3.1,hr⟩
abbrev Bg (z:Int):Prop:=z < -999999999∨999999999<z
section
variable {a b c:Int} {s:ByteArray}
theorem checkNormalF (h0:¬ (a=0∧b=0∧c=0)) (ha:¬ Bg a) (hb:¬ Bg b) (hc:¬ Bg c) (hg:Int.gcd (Int.gcd a b:Int) c=1):jF 138 [iv a b c] (it 0):=by
 have w:∀ {x:Int},¬ Bg x→x.natAbs<aD:=fun h=>by unfold Bg at h;rw [aL];omega
 have g1:=dJ (a:=0) (b:=a.natAbs) (by rw [aL];omega) (w ha)
 have l1:Nat.gcd 0 a.natAbs<aD:=by rw [Nat.gcd_zero_left];exact w ha
 have g2:=dJ l1 (w hb)
 have l2:Nat.gcd (Nat.gcd 0 a.natAbs) b.natAbs<aD:=by
  rw [Nat.gcd_zero_left]
  by_cases e:a=0
  ·rw [e];simpa using w hb
  ·exact Nat.lt_of_le_of_lt (Nat.gcd_le_left _ (by omega)) (w ha)
 have g3:=dJ l2 (w hc)
 have e3:Nat.gcd (Nat.gcd (Nat.gcd 0 a.natAbs) b.natAbs) c.natAbs=1:=by
  rw [Nat.gcd_zero_left]
  exact hg
 rw [e3] at g3
 generalize Nat.gcd (Nat.gcd 0 a.natAbs) b.natAbs=x2 at *
 generalize Nat.gcd 0 a.natAbs=x1 at *
 unfold Bg at ha hb hc
 refine Fits.args (l := [i3 a b c]) ?_ fun β vs w ⟨v,r,e,h,hr⟩=>⟨v,r,e,iv_i3 β v w h,hr⟩
 refine jG Tryz.func138 fun w00=>?_
 refine kz3 (.tmp 6) (.tmp 7) a b c false (by rw [Bool.eq_false_iff];simp;omega) ?_
 refine klt (.tmp 13) (.const (.int .i64 (-999999999))) a (-999999999) false _ cU (by rw [decide_eq_false_iff_not];omega) ?_
 refine kgg (.tmp 16) (.const (.int .i64 999999999)) a 999999999 false _ cU (by rw [decide_eq_false_iff_not];omega) ?_
 refine kneg 21 a (by constructor <;> omega) (by constructor <;> omega) ?_
 refine kabs 20 22 a ?_
 refine kcvu 23 a.natAbs (by omega) ?_
 refine jC 183 [.fv (.sc (.lit (.int .u64 ((0:Nat):Int)))),.fv (.sc (.lit (.int .u64 (a.natAbs:Int))))] (g1) ?_
 refine klt (.tmp 13) (.const (.int .i64 (-999999999))) b (-999999999) false _ cU (by rw [decide_eq_false_iff_not];omega) ?_
 refine kgg (.tmp 16) (.const (.int .i64 999999999)) b 999999999 false _ cU (by rw [decide_eq_false_iff_not];omega) ?_
 refine kneg 21 b (by constructor <;> omega) (by constructor <;> omega) ?_
 refine kabs 20 22 b ?_
 refine kcvu 23 b.natAbs (by omega) ?_
 refine jC 183 [.fv (.sc (.lit (.int .u64 (x1:Int)))),.fv (.sc (.lit (.int .u64 (b.natAbs:Int))))] (g2) ?_
 refine klt (.tmp 13) (.const (.int .i64 (-999999999))) c (-999999999) false _ cU (by rw [decide_eq_false_iff_not];omega) ?_
 refine kgg (.tmp 16) (.const (.int .i64 999999999)) c 999999999 false _ cU (by rw [decide_eq_false_iff_not];omega) ?_
 refine kneg 21 c (by constructor <;> omega) (by constructor <;> omega) ?_
 refine kabs 20 22 c ?_
 refine kcvu 23 c.natAbs (by omega) ?_
 refine jC 183 [.fv (.sc (.lit (.int .u64 (x2:Int)))),.fv (.sc (.lit (.int .u64 (c.natAbs:Int))))] (g3) ?_
 exact jR Tryz.func138
end
def Bq (k:Nat) (q:Rat):Prop:=q.num.natAbs<10^k∧q.den<10^k
theorem Bq.mono {k l:Nat} {q:Rat} (h:Bq k q) (hk:k≤l):Bq l q :=
 ⟨Nat.lt_of_lt_of_le h.1 (Nat.pow_le_pow_right (by omega) hk),Nat.lt_of_lt_of_le h.2 (Nat.pow_le_pow_right (by omega) hk)⟩
theorem Bq.mul {j k:Nat} {p q:Rat} (hp:Bq j p) (hq:Bq k q):Bq (j+k) (p*q):=by
 rw [Rat.mul_def']
 obtain ⟨h1,h2⟩:=dM (p.num*q.num) (Nat.ne_of_gt (Nat.mul_pos p.den_pos q.den_pos))
 rw [Int.natAbs_mul] at h1
 refine ⟨Nat.lt_of_le_of_lt h1 ?_,Nat.lt_of_le_of_lt h2 ?_⟩
 ·rw [Nat.pow_add];exact Nat.mul_lt_mul'' hp.1 hq.1
 ·rw [Nat.pow_add];exact Nat.mul_lt_mul'' hp.2 hq.2
theorem Bq.add {j k:Nat} {p q:Rat} (hp:Bq j p) (hq:Bq k q):Bq (j+k+1) (p+q):=by
 rw [Rat.add_def']
 obtain ⟨h1,h2⟩:=dM (p.num*q.den+q.num*p.den) (Nat.ne_of_gt (Nat.mul_pos p.den_pos q.den_pos))
 have a1:p.num.natAbs*q.den<10^(j+k):=by rw [Nat.pow_add];exact Nat.mul_lt_mul'' hp.1 hq.2
 have a2:q.num.natAbs*p.den<10^(j+k):=by rw [Nat.pow_add,Nat.mul_comm];exact Nat.mul_lt_mul'' hp.2 hq.1
 have a3:p.den*q.den<10^(j+k):=by rw [Nat.pow_add];exact Nat.mul_lt_mul'' hp.2 hq.2
 have a4:10^(j+k+1)=10^(j+k)*10:=Nat.pow_succ _ _
 have a5:=Int.natAbs_add_le (p.num*q.den) (q.num*p.den)
 rw [Int.natAbs_mul,Int.natAbs_mul,Int.natAbs_natCast,Int.natAbs_natCast] at a5
 exact ⟨by omega,by omega⟩
theorem Bq.neg {k:Nat} {p:Rat} (hp:Bq k p):Bq k (-p):=by
 refine ⟨?_,hp.2⟩
 rw [Rat.neg_num,Int.natAbs_neg];exact hp.1
theorem Bq.sub {j k:Nat} {p q:Rat} (hp:Bq j p) (hq:Bq k q):Bq (j+k+1) (p-q):=by
 rw [Rat.sub_eq_add_neg]
 exact hp.add hq.neg
theorem Bq.inv {k:Nat} {p:Rat} (hp:Bq k p):Bq k p⁻¹:=by
 by_cases h0:p=0
 ·subst h0;rw [Rat.inv_zero];exact hp
 ·obtain ⟨_,e1,e2⟩:=Parts.inv (Parts.self p) h0
  exact ⟨by rw [← e1];exact hp.2,by rw [← e2];exact hp.1⟩
theorem Bq.div {j k:Nat} {p q:Rat} (hp:Bq j p) (hq:Bq k q):Bq (j+k) (p/q):=by
 rw [Rat.div_def]
 exact hp.mul hq.inv
theorem Bq.dt {k l n:Nat} {a b c x y z:Rat} (h1:Bq k a) (h2:Bq k b) (h3:Bq k c) (g1:Bq l x) (g2:Bq l y) (g3:Bq l z) (hn:3*(k+l)+2≤n):Bq n (dt a b c x y z) :=
 (((h1.mul g1).add (h2.mul g2)).add (h3.mul g3)).mono (by omega)
theorem Bq.wr {k:Nat} {q:Rat} (h:Bq k q) (hk:k≤600):Wr q:=by
 have h':=h.mono (l:=599+1) hk
 exact ⟨decB_size h'.1,decB_size h'.2⟩
theorem Bq.zs {k:Nat} {q:Rat} (h:Bq k q) (hk:k≤10000):Zs 10000 q:=by
 have h':=h.mono (l:=10000+1) (by omega)
 exact h'
theorem bq_of {k:Nat} {q:Rat} (h:Fw k q):Bq k q:=⟨nD h.1,nD h.2⟩
theorem uB (x:Rat):0≤x*x:=by
 rcases Rat.le_total (a:=0) (b:=x) with h|h
 ·exact Rat.mul_nonneg h h
 ·have h' : 0≤-x:=by grind
  have:=Rat.mul_nonneg h' h'
  grind
theorem uC {x y z:Rat} (h:dt x y z x y z=0):x=0∧y=0∧z=0:=by
 have h1:=uB x
 have h2:=uB y
 have h3:=uB z
 have a1:x*x=0:=by grind
 have a2:y*y=0:=by grind
 have a3:z*z=0:=by grind
 exact ⟨by grind,by grind,by grind⟩
theorem sU {q:Rat} (h:q≠0):q.num≠0:=fun e=>h (Rat.num_eq_zero.1 e)
theorem dec_and {p q r:Prop} [Decidable p] [Decidable q] [Decidable r] (h:¬ (p∧q∧r)):(decide p&&decide q&&decide r)=false:=by
 rw [Bool.eq_false_iff]
 intro hh
 simp only [Bool.and_eq_true,decide_eq_true_eq] at hh
 exact h ⟨hh.1.1,hh.1.2,hh.2⟩
section
variable {a b c:Int} {s:ByteArray}
abbrev In (k x:Int):Prop := -k≤x∧x≤k
end
section
variable {a b c x y z d:Rat} {k l n:Nat}
theorem subV (h1:Bq k a) (h2:Bq k b) (h3:Bq k c) (g1:Bq l x) (g2:Bq l y) (g3:Bq l z) (hk:k≤10000) (hl:l≤10000):jF 50 [vS a b c,vS x y z] (vS (a-x) (b-y) (c-z)) :=
 subVecR (nE (subR (h1.zs hk) (g1.zs hl))) (nE (subR (h2.zs hk) (g2.zs hl))) (nE (subR (h3.zs hk) (g3.zs hl)))
theorem dotV (h1:Bq k a) (h2:Bq k b) (h3:Bq k c) (g1:Bq l x) (g2:Bq l y) (g3:Bq l z) (hk:2*(k+l)<10000):jF 52 [vS a b c,vS x y z] (tx (writeB (dt a b c x y z))) :=
 dotR (nE (kP (h1.zs (by omega)) (g1.zs (by omega)))) (nE (kP (h2.zs (by omega)) (g2.zs (by omega)))) (nE (pE ((h1.mul g1).zs (by omega)) ((h2.mul g2).zs (by omega))))
  (nE (kP (h3.zs (by omega)) (g3.zs (by omega)))) (nE (pE (((h1.mul g1).add (h2.mul g2)).zs (by omega)) ((h3.mul g3).zs (by omega))))
theorem squareV (h1:Bq k a) (h2:Bq k b) (h3:Bq k c) (hk:4*k<10000):jF 46 [vS a b c] (tx (writeB (dt a b c a b c))):=squareR (dotV h1 h2 h3 h1 h2 h3 (by omega))
end
theorem bq_int {z:Int} {k:Nat} (h:z.natAbs<10^k) (hk:0<k):Bq k (z:Rat):=by
 refine ⟨by rw [Rat.num_intCast];exact h,?_⟩
 rw [Rat.den_intCast]
 have:=Nat.pow_le_pow_right (n:=10) (by omega) hk
 omega
theorem chkB {k:Nat} {q:Rat} (h:Bq k q) (hk:k≤600):jF 102 [tx (writeB q)] (it 0):=chkF (h.wr hk).n (h.wr hk).d
section
variable {a1 a2 a3 b1 b2 b3 c1 c2 c3 m1 m2 m3:Rat} {z1 z2 z3:Int}
structure Thr (a1 a2 a3 b1 b2 b3 c1 c2 c3:Rat) (z1 z2 z3:Int) (e:Rat):Prop where
 e1:fG ((b2-a2)*(c3-a3)-(b3-a3)*(c2-a2)) ((b3-a3)*(c1-a1)-(b1-a1)*(c3-a3)) ((b1-a1)*(c2-a2)-(b2-a2)*(c1-a1))*((b2-a2)*(c3-a3)-(b3-a3)*(c2-a2))=z1
 e2:fG ((b2-a2)*(c3-a3)-(b3-a3)*(c2-a2)) ((b3-a3)*(c1-a1)-(b1-a1)*(c3-a3)) ((b1-a1)*(c2-a2)-(b2-a2)*(c1-a1))*((b3-a3)*(c1-a1)-(b1-a1)*(c3-a3))=z2
 e3:fG ((b2-a2)*(c3-a3)-(b3-a3)*(c2-a2)) ((b3-a3)*(c1-a1)-(b1-a1)*(c3-a3)) ((b1-a1)*(c2-a2)-(b2-a2)*(c1-a1))*((b1-a1)*(c2-a2)-(b2-a2)*(c1-a1))=z3
 ed:e=dt z1 z2 z3 a1 a2 a3
 h0:¬ (z1=0∧z2=0∧z3=0)
 s1:Sz z1
 s2:Sz z2
 s3:Sz z3
 g:Int.gcd (Int.gcd z1 z2:Int) z3=1
 b:Bq 300 e
 w:jX 24 [vS a1 a2 a3,vS b1 b2 b3,vS c1 c2 c3] (qX z1 z2 z3 e)
end
end Ab
namespace Ab
open Go.RowKit
section
variable {Kc:Value→Bool} {P:Program} {f:FuncId} {w00:World} {Out:Value→World→Prop}
theorem put_put (a:Act) (d:Tmp) (u v:Value):(a.put (some d) u).put (some d) v=a.put (some d) v:=by
 simp [Act.put]
theorem good_own {ops:Array Oper} {o:Oper} {rest:List Oper} {k:List Item} {st:St Kc} {n:Nat} {T:TypeId} {l:List (Seg Kc)} {d:Tmp} (ho:zC P (evL st.slot) (st.blocks.map some) o = .nsl n T l) (hd:o.dst=some d) (hw:pJ st.slot ops o=some true)
 (hg:iJ P f w00 Out (.plain ops rest k { st with slots:=st.slots.set d (.fv (.sc (.slc st.blocks.length 0 n n))),blocks:=st.blocks ++ [(T,l)] })):iJ P f w00 Out (.plain ops (o::rest) k st):=by
 intro β a w hR
 refine iD (hR.wants hw) ?_
 have hs:∀ y∈o.op.operands,(evL st.slot y).holds β (a.eval y) w:=fun y _=>hR.ev y
 unfold Oper.wp
 obtain ⟨cs,e,hl⟩:=opA_nsl ho hs
 rw [e]
 simp only [Oper.upon,hd]
 have h1:=hR.new (d:=d) (T:=T) hl
 have hnew:(β ++ [w.heap.size])[st.blocks.length]?=some w.heap.size:=by rw [← hR.len];simp
 have h2:=h1.put (dst:=some d) (x := .fv (.sc (.slc st.blocks.length 0 n n))) (v := .slice (some ⟨w.heap.size,0,none⟩) n n) ⟨w.heap.size,hnew,rfl⟩
 rw [put_put] at h2
 simp only [St.put,setS,List.set_set] at h2
 exact hg _ _ _ h2
def Cfg.own (P:Program) (c:Cfg Kc):Option (Cfg Kc):=match c with
 | .plain ops (o::rest) k st=>match zC P (evL st.slot) (st.blocks.map some) o,o.dst with
   | .nsl n T l,some d=>if pJ st.slot ops o=some true then some (.plain ops rest k { st with slots:=st.slots.set d (.fv (.sc (.slc st.blocks.length 0 n n))),blocks:=st.blocks ++ [(T,l)] }) else none
   | _,_=>none
 | _=>none
theorem Ok.own {c c' : Cfg Kc} (h:c.own P=some c') (hg:Ok P f w00 Out c'):Ok P f w00 Out c:=by
 unfold Cfg.own at h
 split at h
 ·split at h
  ·rename_i ho hd
   split at h
   ·rename_i hw
    injection h with h
    subst h
    exact ⟨good_own ho hd hw hg.good⟩
   ·cases h
  ·cases h
 ·cases h
end
theorem kgoN {f:FuncId} {fn:Func} {args:List (AV Kn)} {x:AV Kn} (n:Nat) (hfn:Tryz.prog.funcs[f]?=some fn) (hc:(fn.body.isSome,decide (args.length≤fn.ntmps),x.noPtr,args.all AV.noPtr)=(true,true,true,true))
 (h:∀ w00,Ok Tryz.prog f w00 (fun v w=>x.holds [] v w) (cD Tryz.prog n (oD fn args))):jF f args x:=by
 simp only [Prod.mk.injEq] at hc
 exact fits_go hfn hc.1 hc.2.1 hc.2.2.1 hc.2.2.2 fun w00=>Ok.go (by kernel_rfl) lR n (h w00)
section
variable {f:FuncId} {w00:World} {Out:Value→World→Prop} {c:Cfg Kn}
theorem kown (h:(c.own Tryz.prog).isSome=true) (hg:Ok Tryz.prog f w00 Out (cD Tryz.prog 1000 ((c.own Tryz.prog).getD c))):Ok Tryz.prog f w00 Out c:=by
 obtain ⟨c',hc⟩:=Option.isSome_iff_exists.1 h
 rw [hc] at hg
 exact Ok.own hc (Ok.go (by kernel_rfl) lR 1000 hg)
end
end Ab
namespace Ab
open Go.RowKit Pl
section
variable {o1 o2 o3 x1 x2 x3 y1 y2 y3 z1 z2 z3:Rat}
theorem isZeroT {s:ByteArray} {r:Bool} (h:(s.toList==(⟨#[48]⟩:ByteArray).toList)=r):jF 94 [tx s] (bl r):=by
 refine jG Tryz.func94 fun w00=>?_
 refine jK (.binOp .eql 22 (.tmp 3) (.const (.string ⟨#[48]⟩)) 22) (.tmp 3) (.const (.string ⟨#[48]⟩)) (tx s) (lt ⟨#[48]⟩) (bl r) (fun ρ o β w ho hx hy=>⟨_,rT ho (aQ hx) (aN hy) h,bB rfl⟩) ?_
 exact jR Tryz.func94
theorem isOriginT {a b c:ByteArray} {r:Bool} (h:(a.toList==(⟨#[48]⟩:ByteArray).toList&&b.toList==(⟨#[48]⟩:ByteArray).toList&&c.toList==(⟨#[48]⟩:ByteArray).toList)=r):jF 33 [t3 a b c] (bl r):=by
 refine jG Tryz.func33 fun w00=>?_
 refine jC 93 [] (originF) ?_
 refine jK (.binOp .eql 24 (.tmp 3) (.tmp 4) 24) (.tmp 3) (.tmp 4) (t3 a b c) (.fv (.ag [.lit (.string ⟨#[48]⟩),.lit (.string ⟨#[48]⟩),.lit (.string ⟨#[48]⟩)])) (bl r) (fun ρ o β w ho hx hy=>⟨_,agg_eq (by kernel_rfl) (h▸equalT a b c _ _ _ w) ho (s3_is hx) (l3_is hy),bB rfl⟩) ?_
 exact jR Tryz.func33
theorem crossR {a b c d e f p1 p2 p3 p4 p5 p6 r1 r2 r3:ByteArray} (h1:jF 106 [tx b,tx f] (tx p1)) (h2:jF 106 [tx c,tx e] (tx p2)) (h3:jF 105 [tx p1,tx p2] (tx r1)) (h4:jF 106 [tx c,tx d] (tx p3)) (h5:jF 106 [tx a,tx f] (tx p4)) (h6:jF 105 [tx p3,tx p4] (tx r2))
 (h7:jF 106 [tx a,tx e] (tx p5)) (h8:jF 106 [tx b,tx d] (tx p6)) (h9:jF 105 [tx p5,tx p6] (tx r3)):jF 149 [t3 a b c,t3 d e f] (t3 r1 r2 r3):=by
 refine jG Tryz.func149 fun w00=>?_
 refine jC 106 [tx b,tx f] (h1) ?_
 refine jC 106 [tx c,tx e] (h2) ?_
 refine jC 105 [tx p1,tx p2] (h3) ?_
 refine jC 106 [tx c,tx d] (h4) ?_
 refine jC 106 [tx a,tx f] (h5) ?_
 refine jC 105 [tx p3,tx p4] (h6) ?_
 refine jC 106 [tx a,tx e] (h7) ?_
 refine jC 106 [tx b,tx d] (h8) ?_
 refine jC 105 [tx p5,tx p6] (h9) ?_
 exact jR Tryz.func149
variable {k l:Nat}
theorem crossV {a b c x y z:Rat} (h1:Bq k a) (h2:Bq k b) (h3:Bq k c) (g1:Bq l x) (g2:Bq l y) (g3:Bq l z) (hk:k+l≤10000):jF 149 [vS a b c,vS x y z] (vS (b*z-c*y) (c*x-a*z) (a*y-b*x)) :=
 have m:∀ {p q:Rat},Bq k p→Bq l q→jF 106 [tx (writeB p),tx (writeB q)] (tx (writeB (p*q))):=fun hp hq=>nE (kP (hp.zs (by omega)) (hq.zs (by omega)))
 have s:∀ {p q r t:Rat},Bq k p→Bq l q→Bq k r→Bq l t→jF 105 [tx (writeB (p*q)),tx (writeB (r*t))] (tx (writeB (p*q-r*t))):=fun hp hq hr ht=>nE (subR ((hp.mul hq).zs (by omega)) ((hr.mul ht).zs (by omega)))
 crossR (m h2 g3) (m h3 g2) (s h2 g3 h3 g2) (m h3 g1) (m h1 g3) (s h3 g1 h1 g3) (m h1 g2) (m h2 g1) (s h1 g2 h2 g1)
theorem detR {a b c d e f g h i p q r v:ByteArray} (h1:jF 149 [t3 d e f,t3 g h i] (t3 p q r)) (h2:jF 52 [t3 a b c,t3 p q r] (tx v)):jF 96 [t3 a b c,t3 d e f,t3 g h i] (tx v):=by
 refine jG Tryz.func96 fun w00=>?_
 refine jC 149 [t3 d e f,t3 g h i] (h1) ?_
 refine jC 52 [t3 a b c,t3 p q r] (h2) ?_
 exact jR Tryz.func96
abbrev zB (o1 o2 o3 x1 x2 x3 y1 y2 y3 z1 z2 z3:ByteArray):AV Kn := .fv (.ag [bS o1,bS o2,bS o3,bS x1,bS x2,bS x3,bS y1,bS y2,bS y3,bS z1,bS z2,bS z3])
theorem stretchR {o1 o2 o3 x1 x2 x3 y1 y2 y3 z1 z2 z3 p q r:ByteArray} (h1:jF 46 [t3 x1 x2 x3] (tx p)) (h2:jF 46 [t3 y1 y2 y3] (tx q)) (h3:jF 46 [t3 z1 z2 z3] (tx r)):jF 15 [zB o1 o2 o3 x1 x2 x3 y1 y2 y3 z1 z2 z3] (t3 p q r):=by
 refine jG Tryz.func15 fun w00=>?_
 refine jC 46 [t3 x1 x2 x3] (h1) ?_
 refine jC 46 [t3 y1 y2 y3] (h2) ?_
 refine jC 46 [t3 z1 z2 z3] (h3) ?_
 exact jR Tryz.func15
end
theorem equalV (d:Nat) (a b c x y z:ByteArray) (w:World):(Op.equalIn (d+2) 24 (.agg #[.string a,.string b,.string c]) (.agg #[.string x,.string y,.string z])).run Tryz.prog w = .ok (a.toList==x.toList&&b.toList==y.toList&&c.toList==z.toList) w :=
 equal3 (d+1) (e:=22) (by kernel_rfl) (by kernel_rfl) (fun w=>by kernel_rfl) (fun w=>by kernel_rfl) (fun w=>run_equalIn_string w _ _ _ _ (by kernel_rfl)) (fun w=>run_equalIn_string w _ _ _ _ (by kernel_rfl)) (fun w=>run_equalIn_string w _ _ _ _ (by kernel_rfl)) w
theorem equalFr (a0 a1 a2 a3 a4 a5 a6 a7 a8 a9 b0 b1:ByteArray) (w:World):(Op.equal 26 (.agg #[.string a0,.string a1,.string a2,.string a3,.string a4,.string a5,.string a6,.string a7,.string a8,.string a9,.string b0,.string b1])
 (.agg #[.string a0,.string a1,.string a2,.string a3,.string a4,.string a5,.string a6,.string a7,.string a8,.string a9,.string b0,.string b1])).run Tryz.prog w = .ok true w:=by
 have u:=Tryz.isAgg24
 have z:=Tryz.sizeOf24
 have k:=fun (a b c:ByteArray) (w:World)=>equalV 9997 a b c a b c w
 simp only [beq_self_eq_true,Bool.and_self] at k
 unfold Op.equal Op.maxDepth
 rw [show (10000:Nat)=9999+1 from rfl,run_equalIn_struct w 9999 _ _ _ (by kernel_rfl) (by kernel_rfl)]
 simp only [Program.fieldsOf,Tryz.underlying26]
 simp [go_sem,u,z,Op.eqFields,k]
theorem vL {β:List Nat} {s:ByteArray} {l:List (Seg Kn)} {cs:List Value} {w:World} (h:holdsL β (bS s::l) cs w):∃ r,cs = .string s::r∧holdsL β l r w:=by
 obtain ⟨a,b,rfl,h1,h2⟩:=h
 rw [show a=_ from h1]
 exact ⟨b,rfl,h2⟩
theorem fr_is {a0 a1 a2 a3 a4 a5 a6 a7 a8 a9 b0 b1:ByteArray} {β:List Nat} {v:Value} {w:World} (h:(zB a0 a1 a2 a3 a4 a5 a6 a7 a8 a9 b0 b1).holds β v w) :
 v = .agg #[.string a0,.string a1,.string a2,.string a3,.string a4,.string a5,.string a6,.string a7,.string a8,.string a9,.string b0,.string b1]:=by
 obtain ⟨cs,rfl,h⟩:=h
 obtain ⟨r0,e0,h0⟩:=vL h
 obtain ⟨r1,e1,h1⟩:=vL h0
 obtain ⟨r2,e2,h2⟩:=vL h1
 obtain ⟨r3,e3,h3⟩:=vL h2
 obtain ⟨r4,e4,h4⟩:=vL h3
 obtain ⟨r5,e5,h5⟩:=vL h4
 obtain ⟨r6,e6,h6⟩:=vL h5
 obtain ⟨r7,e7,h7⟩:=vL h6
 obtain ⟨r8,e8,h8⟩:=vL h7
 obtain ⟨r9,e9,h9⟩:=vL h8
 obtain ⟨r10,e10,h10⟩:=vL h9
 obtain ⟨r11,e11,h11⟩:=vL h10
 rw [e0,e1,e2,e3,e4,e5,e6,e7,e8,e9,e10,e11,show r11 = [] from h11]
abbrev Tx:=Nat→ByteArray
abbrev m3:ByteArray:=⟨#[45,51]⟩
theorem hv_of {z1 z2 z3:Int} {d:Rat} (h0:¬ (z1=0∧z2=0∧z3=0)) (h1:¬ Bg z1) (h2:¬ Bg z2) (h3:¬ Bg z3) (hg:Int.gcd (Int.gcd z1 z2:Int) z3=1) (hd:Wr d):Hv z1 z2 z3 d :=
 ⟨by unfold Bg at h1;omega,by unfold Bg at h2;omega,by unfold Bg at h3;omega,hd,checkNormalF h0 h1 h2 h3 hg⟩
structure On (x1 x2 x3 y1 y2 y3 z1 z2 z3:Rat):Prop where
 xx:dt x1 x2 x3 x1 x2 x3=1
 yy:dt y1 y2 y3 y1 y2 y3=1
 zz:dt z1 z2 z3 z1 z2 z3=1
 xy:dt x1 x2 x3 y1 y2 y3=0
 yz:dt y1 y2 y3 z1 z2 z3=0
 zx:dt z1 z2 z3 x1 x2 x3=0
 c1:y2*z3-y3*z2=x1
 c2:y3*z1-y1*z3=x2
 c3:y1*z2-y2*z1=x3
section
variable {x1 x2 x3 y1 y2 y3 z1 z2 z3 u1 u2 u3 v1 v2 v3 w1 w2 w3:Rat}
theorem On.sgn (h:On x1 x2 x3 y1 y2 y3 z1 z2 z3):dt x1 x2 x3 (y2*z3-y3*z2) (y3*z1-y1*z3) (y1*z2-y2*z1)=1:=by
 rw [h.c1,h.c2,h.c3];exact h.xx
end
theorem kn_L {f:FuncId} {s:ByteArray} {z:Int} (h:jF f [rS s] (.fv (.sc (.lit (.int .i64 z))))):jF f [tx s] (it z):=by
 intro β w vs hv
 obtain ⟨v,rfl,h1⟩:=cW hv
 rw [aQ h1]
 exact (h β w [.string s] ⟨_,_,rfl,cJ,rfl⟩).mono fun e w' ⟨v,e1,e2,e3⟩=>⟨v,e1,e2,by rw [bV e3];exact bB rfl⟩
structure Bn (k:Nat) (x1 x2 x3 y1 y2 y3 z1 z2 z3:Rat):Prop where
 x1:Bq k x1
 x2:Bq k x2
 x3:Bq k x3
 y1:Bq k y1
 y2:Bq k y2
 y3:Bq k y3
 z1:Bq k z1
 z2:Bq k z2
 z3:Bq k z3
section
variable {x1 x2 x3 y1 y2 y3 z1 z2 z3 u1 u2 u3 v1 v2 v3 w1 w2 w3 p1 p2 p3 m1 m2 m3:Rat} {k:Nat}
theorem Bn.wf (h:Bn k x1 x2 x3 y1 y2 y3 z1 z2 z3) (hk:k≤600):Wf ((0:Int):Rat) ((0:Int):Rat) ((0:Int):Rat) x1 x2 x3 y1 y2 y3 z1 z2 z3 :=
 have b0:Wr ((0:Int):Rat):=(bq_int (k:=1) (by decide) (by omega)).wr (by omega)
 ⟨⟨b0,b0,b0⟩,⟨h.x1.wr hk,h.x2.wr hk,h.x3.wr hk⟩,⟨h.y1.wr hk,h.y2.wr hk,h.y3.wr hk⟩,⟨h.z1.wr hk,h.z2.wr hk,h.z3.wr hk⟩⟩
theorem zero_no {a b c:Rat} (h:dt a b c a b c=1) (h1:a=0) (h2:b=0) (h3:c=0):False:=by
 have e:dt a b c a b c=0:=by rw [h1,h2,h3];unfold dt;grind
 rw [e] at h
 exact absurd h (by decide)
theorem one_ne {a b c:Rat} (h:dt a b c a b c=1):(decide (a=0)&&decide (b=0)&&decide (c=0))=false:=dec_and fun ⟨h1,h2,h3⟩=>zero_no h h1 h2 h3
theorem On.fv (h:On x1 x2 x3 y1 y2 y3 z1 z2 z3) (b:Bn k x1 x2 x3 y1 y2 y3 z1 z2 z3) (hk:k≤600):Fv ((0:Int):Rat) ((0:Int):Rat) ((0:Int):Rat) x1 x2 x3 y1 y2 y3 z1 z2 z3 :=
 Fr.fv_of (b.wf hk) ⟨one_ne h.xx,one_ne h.yy,one_ne h.zz,h.xy,h.yz,h.zx,by rw [h.sgn];rfl⟩
end
theorem t0_eq {q:Rat} (h:q=0):((writeB q).toList==(⟨#[48]⟩:ByteArray).toList)=true:=by
 have e:writeB q=⟨#[48]⟩:=by rw [h];exact w0
 rw [e]
 exact beq_self_eq_true _
theorem t0_ne {q:Rat} (h:q≠0):((writeB q).toList==(⟨#[48]⟩:ByteArray).toList)=false:=dS (kZ (sU h))
theorem gcd_neg3 (z1 z2 z3:Int):Int.gcd (Int.gcd (-z1) (-z2):Int) (-z3)=Int.gcd (Int.gcd z1 z2:Int) z3:=by
 rw [Int.neg_gcd,Int.gcd_neg,Int.gcd_neg]
section
variable {a1 a2 a3 b1 b2 b3 c1 c2 c3 d1 d2 d3:Rat} {z1 z2 z3 i1 i2 i3 j1 j2 j3:Int} {e u v:Rat}
theorem Thr.hv (h:Thr a1 a2 a3 b1 b2 b3 c1 c2 c3 z1 z2 z3 e):Hv z1 z2 z3 e:=by
 have h1:=h.s1
 have h2:=h.s2
 have h3:=h.s3
 exact hv_of h.h0 (by unfold Bg;omega) (by unfold Bg;omega) (by unfold Bg;omega) h.g (h.b.wr (by omega))
theorem Thr.op (h:Thr a1 a2 a3 b1 b2 b3 c1 c2 c3 z1 z2 z3 e):Hv (-z1) (-z2) (-z3) (-e):=by
 have h1:=h.s1
 have h2:=h.s2
 have h3:=h.s3
 exact hv_of (fun ⟨a,b,c⟩=>h.h0 ⟨by omega,by omega,by omega⟩) (by unfold Bg;omega) (by unfold Bg;omega) (by unfold Bg;omega) (by rw [gcd_neg3];exact h.g) (h.b.neg.wr (by omega))
end
open Classical in
theorem t0_dec (q:Rat):((writeB q).toList==(⟨#[48]⟩:ByteArray).toList)=decide (q=0):=by
 by_cases h:q=0
 ·rw [decide_eq_true h,t0_eq h]
 ·rw [decide_eq_false h,t0_ne h]
theorem isZeroQ (q:Rat):jF 94 [tx (writeB q)] (bl (decide (q=0))):=isZeroT (t0_dec q)
theorem signQ (q:Rat):jF 95 [tx (writeB q)] (it (nK q)):=by
 unfold nK bN
 by_cases h:q.num<0
 ·rw [if_pos h];exact kn_L (signFn h)
 ·rw [if_neg h]
  by_cases h' : 0<q.num
  ·rw [if_pos h'];exact kn_L (signFp h')
  ·rw [if_neg h'];exact kn_L (signF0 (by omega))
section
variable {o1 o2 o3 x1 x2 x3 y1 y2 y3 z1 z2 z3 p q r v:ByteArray} {b1 b2 b3 b4 i1 i2 i3:Bool} {s z n:Int}
theorem shapeZ (h1:jF 52 [t3 x1 x2 x3,t3 y1 y2 y3] (tx p)) (j1:jF 94 [tx p] (bl i1)) (h2:jF 52 [t3 y1 y2 y3,t3 z1 z2 z3] (tx q)) (j2:jF 94 [tx q] (bl i2)) (h3:jF 52 [t3 z1 z2 z3,t3 x1 x2 x3] (tx r)) (j3:jF 94 [tx r] (bl i3))
 (h4:jF 96 [t3 x1 x2 x3,t3 y1 y2 y3,t3 z1 z2 z3] (tx v)) (h5:jF 95 [tx v] (it s)) (hs:s=1∨s=0∨s = -1) (hz:z=if (i1&&i2&&i3&&s==1)=true then 0 else 15):jF 34 [zB o1 o2 o3 x1 x2 x3 y1 y2 y3 z1 z2 z3] (it z):=by
 refine jG Tryz.func34 fun w00=>?_
 refine jC 52 [t3 x1 x2 x3,t3 y1 y2 y3] (h1) ?_
 cases i1
 ·obtain rfl:z=15:=hz
  refine jC 94 [tx p] (j1) ?_
  exact jR Tryz.func34
 refine jC 94 [tx p] (j1) ?_
 refine jC 52 [t3 y1 y2 y3,t3 z1 z2 z3] (h2) ?_
 cases i2
 ·obtain rfl:z=15:=hz
  refine jC 94 [tx q] (j2) ?_
  exact jR Tryz.func34
 refine jC 94 [tx q] (j2) ?_
 refine jC 52 [t3 z1 z2 z3,t3 x1 x2 x3] (h3) ?_
 cases i3
 ·obtain rfl:z=15:=hz
  refine jC 94 [tx r] (j3) ?_
  exact jR Tryz.func34
 refine jC 94 [tx r] (j3) ?_
 refine jC 96 [t3 x1 x2 x3,t3 y1 y2 y3,t3 z1 z2 z3] (h4) ?_
 rcases hs with rfl|rfl|rfl
 ·obtain rfl:z=0:=hz
  refine jC 95 [tx v] (h5) ?_
  exact jR Tryz.func34
 ·obtain rfl:z=15:=hz
  refine jC 95 [tx v] (h5) ?_
  exact jR Tryz.func34
 ·obtain rfl:z=15:=hz
  refine jC 95 [tx v] (h5) ?_
  exact jR Tryz.func34
theorem checkFrameZ (h1:jF 16 [t3 o1 o2 o3] (it 0)) (h2:jF 16 [t3 x1 x2 x3] (it 0)) (h3:jF 16 [t3 y1 y2 y3] (it 0)) (h4:jF 16 [t3 z1 z2 z3] (it 0))
 (j1:jF 33 [t3 x1 x2 x3] (bl i1)) (j2:jF 33 [t3 y1 y2 y3] (bl i2)) (j3:jF 33 [t3 z1 z2 z3] (bl i3)) (h5:jF 34 [zB o1 o2 o3 x1 x2 x3 y1 y2 y3 z1 z2 z3] (it s)) (hz:z=if (i1 || i2 || i3)=true then 6 else s) :
 jF 7 [zB o1 o2 o3 x1 x2 x3 y1 y2 y3 z1 z2 z3] (it z):=by
 refine kgoN 15 Tryz.func7 (by kernel_rfl) fun w00=>?_
 refine kown (by kernel_rfl) ?_
 refine jC 16 [t3 o1 o2 o3] (h1) ?_
 refine jC 16 [t3 x1 x2 x3] (h2) ?_
 refine jC 16 [t3 y1 y2 y3] (h3) ?_
 refine jC 16 [t3 z1 z2 z3] (h4) ?_
 cases i1
 ·refine jC 33 [t3 x1 x2 x3] (j1) ?_
  cases i2
  ·refine jC 33 [t3 y1 y2 y3] (j2) ?_
   cases i3
   ·obtain rfl:z=s:=hz
    refine jC 33 [t3 z1 z2 z3] (j3) ?_
    refine jC 34 [zB o1 o2 o3 x1 x2 x3 y1 y2 y3 z1 z2 z3] (h5) ?_
    exact jR Tryz.func7
   ·obtain rfl:z=6:=hz
    refine jC 33 [t3 z1 z2 z3] (j3) ?_
    exact jR Tryz.func7
  ·obtain rfl:z=6:=hz
   refine jC 33 [t3 y1 y2 y3] (j2) ?_
   exact jR Tryz.func7
 ·obtain rfl:z=6:=hz
  refine jC 33 [t3 x1 x2 x3] (j1) ?_
  exact jR Tryz.func7
end
section
variable {o1 o2 o3 x1 x2 x3 y1 y2 y3 z1 z2 z3:Rat} {k:Nat}
theorem uD (a b c:Rat):jF 33 [vS a b c] (bl (decide (a=0)&&decide (b=0)&&decide (c=0))):=isOriginT (by rw [t0_dec,t0_dec,t0_dec])
end
section
variable {o1 o2 o3 x1 x2 x3 y1 y2 y3 z1 z2 z3:Rat}
theorem yG {r1 r2 r3:Bool} (h:Lm 31 x1 x2 x3 y1 y2 y3 z1 z2 z3) (e1:decide (dt x1 x2 x3 y1 y2 y3=0)=r1) (e2:decide (dt y1 y2 y3 z1 z2 z3=0)=r2) (e3:decide (dt z1 z2 z3 x1 x2 x3=0)=r3) :
 jF 147 [lC o1 o2 o3 x1 x2 x3 y1 y2 y3 z1 z2 z3] (bl (r1&&r2&&r3)):=by
 refine jG Tryz.func147 fun w00=>?_
 refine jC 62 [vc x1 x2 x3,vc y1 y2 y3] (nM h.x1 h.x2 h.x3 h.y1 h.y2 h.y3) ?_
 refine jC 81 [num (dt x1 x2 x3 y1 y2 y3)] (gG e1) ?_
 cases r1
 ·exact jR Tryz.func147
 refine jC 62 [vc y1 y2 y3,vc z1 z2 z3] (nM h.y1 h.y2 h.y3 h.z1 h.z2 h.z3) ?_
 refine jC 81 [num (dt y1 y2 y3 z1 z2 z3)] (gG e2) ?_
 cases r2
 ·exact jR Tryz.func147
 refine jC 62 [vc z1 z2 z3,vc x1 x2 x3] (nM h.z1 h.z2 h.z3 h.x1 h.x2 h.x3) ?_
 refine jC 81 [num (dt z1 z2 z3 x1 x2 x3)] (gG e3) ?_
 cases r3 <;> (exact kret Tryz.func147 (by kernel_rfl))
abbrev ax0 (a b c:Rat):Bool:=decide (a=0)&&decide (b=0)&&decide (c=0)
abbrev detR3 (x1 x2 x3 y1 y2 y3 z1 z2 z3:Rat):Rat:=dt x1 x2 x3 (y2*z3-y3*z2) (y3*z1-y1*z3) (y1*z2-y2*z1)
abbrev orB (x1 x2 x3 y1 y2 y3 z1 z2 z3:Rat):Bool:=decide (dt x1 x2 x3 y1 y2 y3=0)&&decide (dt y1 y2 y3 z1 z2 z3=0)&&decide (dt z1 z2 z3 x1 x2 x3=0)
def ckF (x1 x2 x3 y1 y2 y3 z1 z2 z3:Rat):Int :=
 if (ax0 x1 x2 x3 || ax0 y1 y2 y3 || ax0 z1 z2 z3)=true then 6 else if orB x1 x2 x3 y1 y2 y3 z1 z2 z3=true∧¬ nK (detR3 x1 x2 x3 y1 y2 y3 z1 z2 z3)<0 then 0 else 15
theorem sV (q:Rat):nK q=1∨nK q=0∨nK q = -1:=by
 unfold nK bN
 split
 ·exact .inr (.inr rfl)
 ·split
  ·exact .inl rfl
  ·exact .inr (.inl rfl)
theorem checkFrAnyF {z:Int} (l:Lm 25 x1 x2 x3 y1 y2 y3 z1 z2 z3) (hz:ckF x1 x2 x3 y1 y2 y3 z1 z2 z3=z):jF 98 [lC o1 o2 o3 x1 x2 x3 y1 y2 y3 z1 z2 z3] (it z):=by
 have hor:=yG (o1:=o1) (o2:=o2) (o3:=o3) (Lm.mono l (by decide)) (x1:=x1) (x2:=x2) (x3:=x3) (y1:=y1) (y2:=y2) (y3:=y3) (z1:=z1) (z2:=z2) (z3:=z3) rfl rfl rfl
 obtain ⟨a1,a2,a3,b1,b2,b3,c1,c2,c3⟩:=l
 obtain ⟨s,hs⟩:∃ s,nK (detR3 x1 x2 x3 y1 y2 y3 z1 z2 z3)=s:=⟨_,rfl⟩
 have hsv:s=1∨s=0∨s = -1:=hs▸sV _
 have hsF:jF 90 [num (dt x1 x2 x3 (y2*z3-y3*z2) (y3*z1-y1*z3) (y1*z2-y2*z1))] (it s):=by
  rw [← hs]
  exact signF
 obtain ⟨r1,e1⟩:∃ r,ax0 x1 x2 x3=r:=⟨_,rfl⟩
 obtain ⟨r2,e2⟩:∃ r,ax0 y1 y2 y3=r:=⟨_,rfl⟩
 obtain ⟨r3,e3⟩:∃ r,ax0 z1 z2 z3=r:=⟨_,rfl⟩
 obtain ⟨r4,e4⟩:∃ r,orB x1 x2 x3 y1 y2 y3 z1 z2 z3=r:=⟨_,rfl⟩
 unfold ckF at hz
 rw [e1,e2,e3,e4,hs] at hz
 have hor:jF 147 [lC o1 o2 o3 x1 x2 x3 y1 y2 y3 z1 z2 z3] (bl r4):=by rw [← e4];exact hor
 refine jG Tryz.func98 fun w00=>?_
 refine jC 60 [vc x1 x2 x3] (eR e1) ?_
 cases r1
 case true =>
  obtain rfl:z=6:=hz.symm
  exact jR Tryz.func98
 refine jC 60 [vc y1 y2 y3] (eR e2) ?_
 cases r2
 case true =>
  obtain rfl:z=6:=hz.symm
  exact jR Tryz.func98
 refine jC 60 [vc z1 z2 z3] (eR e3) ?_
 cases r3
 case true =>
  obtain rfl:z=6:=hz.symm
  exact jR Tryz.func98
 refine jC 147 _ (hor) ?_
 cases r4
 case false =>
  obtain rfl:z=15:=by rw [← hz];rfl
  exact jR Tryz.func98
 refine jC 61 [vc y1 y2 y3,vc z1 z2 z3] (xO (by repeat' (first|exact Lf.mono (by assumption) (by decide)|refine Lf.muln ?_ ?_ (by decide)|refine Lf.addn ?_ ?_ (by decide)|refine Lf.subn ?_ ?_ (by decide))) (by repeat' (first|exact Lf.mono (by assumption) (by decide)|refine Lf.muln ?_ ?_ (by decide)|refine Lf.addn ?_ ?_ (by decide)|refine Lf.subn ?_ ?_ (by decide))) (by repeat' (first|exact Lf.mono (by assumption) (by decide)|refine Lf.muln ?_ ?_ (by decide)|refine Lf.addn ?_ ?_ (by decide)|refine Lf.subn ?_ ?_ (by decide))) (by repeat' (first|exact Lf.mono (by assumption) (by decide)|refine Lf.muln ?_ ?_ (by decide)|refine Lf.addn ?_ ?_ (by decide)|refine Lf.subn ?_ ?_ (by decide))) (by repeat' (first|exact Lf.mono (by assumption) (by decide)|refine Lf.muln ?_ ?_ (by decide)|refine Lf.addn ?_ ?_ (by decide)|refine Lf.subn ?_ ?_ (by decide))) (by repeat' (first|exact Lf.mono (by assumption) (by decide)|refine Lf.muln ?_ ?_ (by decide)|refine Lf.addn ?_ ?_ (by decide)|refine Lf.subn ?_ ?_ (by decide)))) ?_
 refine jC 62 [vc x1 x2 x3,vc (y2*z3-y3*z2) (y3*z1-y1*z3) (y1*z2-y2*z1)] (nM (by repeat' (first|exact Lf.mono (by assumption) (by decide)|refine Lf.muln ?_ ?_ (by decide)|refine Lf.addn ?_ ?_ (by decide)|refine Lf.subn ?_ ?_ (by decide))) (by repeat' (first|exact Lf.mono (by assumption) (by decide)|refine Lf.muln ?_ ?_ (by decide)|refine Lf.addn ?_ ?_ (by decide)|refine Lf.subn ?_ ?_ (by decide))) (by repeat' (first|exact Lf.mono (by assumption) (by decide)|refine Lf.muln ?_ ?_ (by decide)|refine Lf.addn ?_ ?_ (by decide)|refine Lf.subn ?_ ?_ (by decide))) (by repeat' (first|exact Lf.mono (by assumption) (by decide)|refine Lf.muln ?_ ?_ (by decide)|refine Lf.addn ?_ ?_ (by decide)|refine Lf.subn ?_ ?_ (by decide))) (by repeat' (first|exact Lf.mono (by assumption) (by decide)|refine Lf.muln ?_ ?_ (by decide)|refine Lf.addn ?_ ?_ (by decide)|refine Lf.subn ?_ ?_ (by decide))) (by repeat' (first|exact Lf.mono (by assumption) (by decide)|refine Lf.muln ?_ ?_ (by decide)|refine Lf.addn ?_ ?_ (by decide)|refine Lf.subn ?_ ?_ (by decide)))) ?_
 refine jC 90 [num (dt x1 x2 x3 (y2*z3-y3*z2) (y3*z1-y1*z3) (y1*z2-y2*z1))] (hsF) ?_
 rcases hsv with rfl|rfl|rfl
 ·obtain rfl:z=0:=by rw [← hz];rfl
  exact jR Tryz.func98
 ·obtain rfl:z=0:=by rw [← hz];rfl
  exact jR Tryz.func98
 ·obtain rfl:z=15:=by rw [← hz];rfl
  exact jR Tryz.func98
end
structure F12 where
 o1:ByteArray
 o2:ByteArray
 o3:ByteArray
 x1:ByteArray
 x2:ByteArray
 x3:ByteArray
 y1:ByteArray
 y2:ByteArray
 y3:ByteArray
 z1:ByteArray
 z2:ByteArray
 z3:ByteArray
abbrev F12.av (f:F12):AV Kn := .fv (.ag [bS f.o1,bS f.o2,bS f.o3,bS f.x1,bS f.x2,bS f.x3,bS f.y1,bS f.y2,bS f.y3,bS f.z1,bS f.z2,bS f.z3])
structure F12.Rb (f:F12):Prop where
 o:Rb3 f.o1 f.o2 f.o3
 x:Rb3 f.x1 f.x2 f.x3
 y:Rb3 f.y1 f.y2 f.y3
 z:Rb3 f.z1 f.z2 f.z3
def F12.ct (f:F12):Int:=f2 (f2 (f2 (c3 f.o1 f.o2 f.o3) (c3 f.x1 f.x2 f.x3)) (c3 f.y1 f.y2 f.y3)) (c3 f.z1 f.z2 f.z3)
noncomputable def F12.ck (f:F12):Int:=if f.ct=0 then ckF (cL f.x1) (cL f.x2) (cL f.x3) (cL f.y1) (cL f.y2) (cL f.y3) (cL f.z1) (cL f.z2) (cL f.z3) else f.ct
theorem lA (s:ByteArray):Wr (cL s):=by
 by_cases h:bT s=0
 ·exact (valB_ok h).2
 ·rw [valB_bad h]
  have h0:decB 0=⟨#[48]⟩:=dec0
  have h1:decB 1=⟨#[49]⟩:=dec1
  exact ⟨by show (decB 0).size≤600;rw [h0];decide,by show (decB 1).size≤600;rw [h1];decide⟩
theorem rv_of {a b c:ByteArray} {z:Int} (h:Rb3 a b c) (hz:c3 a b c=z) (W:World) (hG:Gl W):Calls Tryz.prog 37 #[.agg #[.string a,.string b,.string c]] W (Fr.RV (cL a) (cL b) (cL c) z W):=by
 refine (oP h hz [] W [.agg #[.string a,.string b,.string c]] hG ⟨_,_,rfl,⟨[.string a,.string b,.string c],rfl,[.string a],_,rfl,rfl,[.string b],_,rfl,rfl,[.string c],_,rfl,rfl,rfl⟩,rfl⟩).mono ?_
 rintro e w' ⟨v,e1,e2,vs,rfl,u,r,rfl,h1,u2,r2,rfl,h2,h3⟩
 obtain ⟨k,rfl,h4⟩:=Fr.vc9 (rO.1 h1)
 have h5:[u2] = [.int .i64 z]:=h2.1
 injection h5 with h5
 rw [show r2 = [] from h3,h5] at e1
 exact ⟨k,e1,h4,e2⟩
def csF:CS Kn where
 size:=36
 cold:=true
 pred cs _:=cs.length=36∧∀ c∈cs,c.oneCell'=true∧Kn c=false
 stable _ _ _ h _:=h
 len _ _ h:=h.1
 one _ _ h c hc:=(h.2 c hc).1
 iscold _ _ _ h c hc:=(h.2 c hc).2
theorem lB (f:F12) (h:f.Rb) {z:Int} (hz:f.ck=z) (h0:z≠0):jX 35 [f.av] (.tup [.ag [.sp csF],.sc (lz z)]):=by
 intro β w vs hG hv
 obtain ⟨v,rfl,cs,rfl,h1⟩:=cW hv
 have e:=Fr.holds_txt [f.o1,f.o2,f.o3,f.x1,f.x2,f.x3,f.y1,f.y2,f.y3,f.z1,f.z2,f.z3] cs h1
 rw [e]
 have lm:Lm 25 (cL f.x1) (cL f.x2) (cL f.x3) (cL f.y1) (cL f.y2) (cL f.y3) (cL f.z1) (cL f.z2) (cL f.z3) :=
  Lm.mono ⟨(lA _).lf,(lA _).lf,(lA _).lf,(lA _).lf,(lA _).lf,(lA _).lf,(lA _).lf,(lA _).lf,(lA _).lf⟩ (by decide)
 obtain ⟨zc,hzc⟩:∃ zc,ckF (cL f.x1) (cL f.x2) (cL f.x3) (cL f.y1) (cL f.y2) (cL f.y3) (cL f.z1) (cL f.z2) (cL f.z3)=zc:=⟨_,rfl⟩
 have hzz:(if f.ct=0 then zc else f.ct)=z:=by rw [← hz,← hzc];rfl
 refine (Fr.readFrame_gen f.o1 f.o2 f.o3 f.x1 f.x2 f.x3 f.y1 f.y2 f.y3 f.z1 f.z2 f.z3 _ _ _ _ _ _ _ _ _ _ _ _ _ _ _ _ f.ct zc (kS _ _ _) (kS _ _ _) (kS _ _ _) (kS _ _ _) rfl (rv_of h.o rfl) (rv_of h.x rfl) (rv_of h.y rfl) (rv_of h.z rfl) (fun _ W o x y z k0 k1 k2 k3=>?_) w hG).mono ?_
 ·refine (checkFrAnyF (z:=zc) lm hzc [] W [.agg (Fr.frL o x y z).toArray] ⟨_,_,rfl,Fr.fr_holds k0 k1 k2 k3,rfl⟩).mono ?_
  rintro e w' ⟨v,e1,e2,h1⟩
  have h5:[v] = [.int .i64 zc]:=h1.1
  injection h5 with h5
  exact ⟨by rw [e1,h5],e2⟩
 rintro e w' ⟨o,x,y,z',e1,v0,v1,v2,v3,hb⟩
 rw [hzz] at e1
 have hcs:∀ a b c d:Fr.C9,csF.pred (Fr.frL a b c d) w':=fun a b c d=>⟨rfl,fun v hv=>⟨Fr.frL_one a b c d v hv,by
  have hh:(Fr.frL a b c d).all (fun c => !(Kn c))=true:=by simp [Fr.frL,Fr.C9.cells,Kn]
  have:=List.all_eq_true.1 hh v hv
  simpa using this⟩⟩
 by_cases ht:f.ct=0
 ·rw [if_pos ht] at e1
  exact ⟨_,e1,hb,[.agg (Fr.frL o x y z').toArray,.int .i64 z],rfl,_,_,rfl,⟨_,rfl,_,[],(List.append_nil _).symm,hcs _ _ _ _,rfl⟩,_,_,rfl,⟨rfl,rfl⟩,rfl⟩
 ·rw [if_neg ht] at e1
  exact ⟨_,e1,hb,[.agg (Fr.frL Fr.C9.zero Fr.C9.zero Fr.C9.zero Fr.C9.zero).toArray,.int .i64 z],rfl,_,_,rfl,⟨_,rfl,_,[],(List.append_nil _).symm,hcs _ _ _ _,rfl⟩,_,_,rfl,⟨rfl,rfl⟩,rfl⟩
abbrev nz (d:Nat):AV Kr := .fv (.ag [.lit (.bool true),.sp (pH d)])
theorem signedNF {d:Nat}:jF 215 [rl true,di d] (iz (-(d:Int))):=by
 intro β w vs hv
 obtain ⟨v,u,rfl,h1,h2⟩:=dZ hv
 rw [bV h1]
 have := @eU true d β w [.bool true,u] ⟨_,_,rfl,cJ,u,[],rfl,h2,rfl⟩
 simpa [gU] using this
theorem minusP {n:Int} {c:Nat} (hc:n = -(c:Int)):jF 214 [pz c] (iz n):=by
 rw [hc]
 refine jT Tryz.func214 fun w00=>?_
 refine jB 215 [rl true,di c] signedNF ?_
 exact jS Tryz.func214
theorem minusNZ {d:Nat}:jF 214 [nz d] (iz (d:Int)):=by
 refine jT Tryz.func214 fun w00=>?_
 refine jB 215 [rl false,di d] oI ?_
 exact jS Tryz.func214
theorem minusN {d:Nat}:jF 214 [nz d] (pz d):=mE minusNZ fun _ _ _ h=>iz_pz h
section
variable {n:Int} {d:Nat}
theorem fractionNF {c:Nat} (hc:n = -(c:Int)) (hn:Bd n.natAbs) (hd:Bd d) (hd0:0<d) (hp:n.natAbs<B9^100000000) (hq:d<B9^100000000) (hs1:(aP (gU (decide (n<0)) (n.natAbs/Nat.gcd n.natAbs d))).size≤1000000000) (hs2:(aP ((d/Nat.gcd n.natAbs d:Nat):Int)).size≤1000000000) :
 jF 158 [pz c,nz d] (rS (if d/Nat.gcd n.natAbs d=1 then aP (gU (decide (n<0)) (n.natAbs/Nat.gcd n.natAbs d)) else aP (gU (decide (n<0)) (n.natAbs/Nat.gcd n.natAbs d))++⟨#[47]⟩++aP ((d/Nat.gcd n.natAbs d:Nat):Int))):=by
 have hg:0<Nat.gcd n.natAbs d:=Nat.gcd_pos_of_pos_right _ hd0
 have hq0:0<d/Nat.gcd n.natAbs d:=Nat.div_pos (Nat.gcd_le_right _ hd0) hg
 have hq1:d/Nat.gcd n.natAbs d≤d:=Nat.div_le_self _ _
 have hp1:(gU (decide (n<0)) (n.natAbs/Nat.gcd n.natAbs d)).natAbs<B9^100000000:=by rw [sD];exact Nat.lt_of_le_of_lt (Nat.div_le_self _ _) hp
 have hq2:((d/Nat.gcd n.natAbs d:Nat):Int).natAbs<B9^100000000:=by rw [Int.natAbs_natCast];exact Nat.lt_of_le_of_lt hq1 hq
 generalize hG:Nat.gcd n.natAbs d=g at *
 generalize hP:gU (decide (n<0)) (n.natAbs/g)=p at *
 generalize hQ:d/g=q at *
 by_cases h1:q=1
 ·rw [if_pos h1]
  refine jT Tryz.func158 fun w00=>?_
  refine jB 214 [pz c] (minusP hc) ?_
  refine jB 214 [nz d] minusN ?_
  refine jB 155 [di n.natAbs,di d] (by have:=kL hn hd;rw [hG] at this;exact this) ?_
  refine jB 210 [di n.natAbs,di g] (vJ hn hg) ?_
  refine jB 210 [di d,di g] (by have:=vJ (a:=d) (b:=g) hd hg;rw [hQ] at this;exact this) ?_
  refine jB 215 [rb (decide (n<0)),di (n.natAbs/g)] (by have := @eU (decide (n<0)) (n.natAbs/g);rw [hP] at this;exact this) ?_
  refine jB 195 [iz p] (pX hp1) ?_
  refine jL (.call ⟨.builtin .len,#[.tmp 41],#[187]⟩) (.tmp 41) (.tmp 41) (di q) (di q) (.fv (.sc (.lit (.int .i64 1)))) (fun ρ o β w ho hx _=>?_) ?_
  ·obtain ⟨ad,c,e,_⟩:=iQ (bC.1 hx) hq0 (by rw [h1];exact dQ)
   exact ⟨_,kY ho e,eV rfl⟩
  refine jL (.indexAddr 187 (.tmp 45) (.const (.int .i64 0))) (.tmp 45) (.const (.int .i64 0)) (di q) (.fv (.sc (.lit (.int .i64 0)))) (rP q) (fun ρ o β w ho hx hy=>?_) ?_
  ·obtain ⟨ad,c,e,hc⟩:=iQ (bC.1 hx) hq0 (by rw [h1];exact dQ)
   exact ⟨_,mD ho e (bV hy) (by omega),⟨ad,rfl,hc⟩⟩
  refine jL (.load 3 (.tmp 46)) (.tmp 46) (.tmp 46) (rP q) (rP q) (.fv (.sc (.lit (.int .i64 1)))) (fun ρ o β w ho hx _=>?_) ?_
  ·obtain ⟨ad,e,hc⟩:=hx
   injection e with e
   rw [h1] at hc
   exact ⟨_,tV ho e hc,eV rfl⟩
  exact jS Tryz.func158
 ·rw [if_neg h1]
  have hcat1:(aP p).size+(⟨#[47]⟩:ByteArray).size≤9223372036854775807:=by
   have:(⟨#[47]⟩:ByteArray).size=1:=rfl
   omega
  have hcat2:(aP p++⟨#[47]⟩:ByteArray).size+(aP (q:Int)).size≤9223372036854775807:=by
   have:(⟨#[47]⟩:ByteArray).size=1:=rfl
   rw [ByteArray.size_append]
   omega
  by_cases h2:q<B9
  ·refine jT Tryz.func158 fun w00=>?_
   refine jB 214 [pz c] (minusP hc) ?_
   refine jB 214 [nz d] minusN ?_
   refine jB 155 [di n.natAbs,di d] (by have:=kL hn hd;rw [hG] at this;exact this) ?_
   refine jB 210 [di n.natAbs,di g] (vJ hn hg) ?_
   refine jB 210 [di d,di g] (by have:=vJ (a:=d) (b:=g) hd hg;rw [hQ] at this;exact this) ?_
   refine jB 215 [rb (decide (n<0)),di (n.natAbs/g)] (by have := @eU (decide (n<0)) (n.natAbs/g);rw [hP] at this;exact this) ?_
   refine jB 195 [iz p] (pX hp1) ?_
   refine jL (.call ⟨.builtin .len,#[.tmp 41],#[187]⟩) (.tmp 41) (.tmp 41) (di q) (di q) (.fv (.sc (.lit (.int .i64 1)))) (fun ρ o β w ho hx _=>?_) ?_
   ·obtain ⟨ad,c,e,_⟩:=iQ (bC.1 hx) hq0 h2
    exact ⟨_,kY ho e,eV rfl⟩
   refine jL (.indexAddr 187 (.tmp 45) (.const (.int .i64 0))) (.tmp 45) (.const (.int .i64 0)) (di q) (.fv (.sc (.lit (.int .i64 0)))) (rP q) (fun ρ o β w ho hx hy=>?_) ?_
   ·obtain ⟨ad,c,e,hc⟩:=iQ (bC.1 hx) hq0 h2
    exact ⟨_,mD ho e (bV hy) (by omega),⟨ad,rfl,hc⟩⟩
   refine jL (.load 3 (.tmp 46)) (.tmp 46) (.tmp 46) (rP q) (rP q) (rI q) (fun ρ o β w ho hx _=>?_) ?_
   ·obtain ⟨ad,e,hc⟩:=hx
    injection e with e
    exact ⟨_,tV ho e hc,cJ⟩
   refine jL (.binOp .eql 3 (.tmp 47) (.const (.int .i64 1)) 3) (.tmp 47) (.const (.int .i64 1)) (rI q) (.fv (.sc (.lit (.int .i64 1)))) (rl false) (fun ρ o β w ho hx hy=>⟨.bool false,iZ ho (bA hx) (bV hy) (by simp;omega),eV rfl⟩) ?_
   refine jL (.binOp .add 9 (.tmp 51) (.const (.string ⟨#[47]⟩)) 9) (.tmp 51) (.const (.string ⟨#[47]⟩)) (rS (aP p)) (.fv (.sc (.lit (.string ⟨#[47]⟩)))) (rS (aP p++⟨#[47]⟩)) (fun ρ o β w ho hx hy=>⟨_,eN ho (bA hx) (bV hy) hcat1,cJ⟩) ?_
   refine jB 215 [rl false,di q] oI ?_
   refine jB 195 [iz (q:Int)] (pX hq2) ?_
   refine jL (.binOp .add 9 (.tmp 52) (.tmp 55) 9) (.tmp 52) (.tmp 55) (rS (aP p++⟨#[47]⟩)) (rS (aP (q:Int))) (rS (aP p++⟨#[47]⟩++aP (q:Int))) (fun ρ o β w ho hx hy=>⟨_,eN ho (bA hx) (bA hy) hcat2,cJ⟩) ?_
   exact jS Tryz.func158
  ·refine jT Tryz.func158 fun w00=>?_
   refine jB 214 [pz c] (minusP hc) ?_
   refine jB 214 [nz d] minusN ?_
   refine jB 155 [di n.natAbs,di d] (by have:=kL hn hd;rw [hG] at this;exact this) ?_
   refine jB 210 [di n.natAbs,di g] (vJ hn hg) ?_
   refine jB 210 [di d,di g] (by have:=vJ (a:=d) (b:=g) hd hg;rw [hQ] at this;exact this) ?_
   refine jB 215 [rb (decide (n<0)),di (n.natAbs/g)] (by have := @eU (decide (n<0)) (n.natAbs/g);rw [hP] at this;exact this) ?_
   refine jB 195 [iz p] (pX hp1) ?_
   refine jL (.call ⟨.builtin .len,#[.tmp 41],#[187]⟩) (.tmp 41) (.tmp 41) (di q) (di q) rNe (fun ρ o β w ho hx _=>?_) ?_
   ·obtain ⟨A,m,c,e,hm⟩:=vX (bC.1 hx) (Nat.le_of_not_lt h2)
    exact ⟨_,kY ho e,⟨(m:Int),rfl,by omega⟩⟩
   refine jL (.binOp .eql 3 (.tmp 42) (.const (.int .i64 1)) 3) (.tmp 42) (.const (.int .i64 1)) rNe (.fv (.sc (.lit (.int .i64 1)))) (rl false) (fun ρ o β w ho hx hy=>?_) ?_
   ·obtain ⟨m,e,hm⟩:=hx
    injection e with e
    exact ⟨.bool false,iZ ho e (bV hy) (by simpa using hm),eV rfl⟩
   refine jL (.binOp .add 9 (.tmp 51) (.const (.string ⟨#[47]⟩)) 9) (.tmp 51) (.const (.string ⟨#[47]⟩)) (rS (aP p)) (.fv (.sc (.lit (.string ⟨#[47]⟩)))) (rS (aP p++⟨#[47]⟩)) (fun ρ o β w ho hx hy=>⟨_,eN ho (bA hx) (bV hy) hcat1,cJ⟩) ?_
   refine jB 215 [rl false,di q] oI ?_
   refine jB 195 [iz (q:Int)] (pX hq2) ?_
   refine jL (.binOp .add 9 (.tmp 52) (.tmp 55) 9) (.tmp 52) (.tmp 55) (rS (aP p++⟨#[47]⟩)) (rS (aP (q:Int))) (rS (aP p++⟨#[47]⟩++aP (q:Int))) (fun ρ o β w ho hx hy=>⟨_,eN ho (bA hx) (bA hy) hcat2,cJ⟩) ?_
   exact jS Tryz.func158
end
theorem fracNW {n:Int} {c d k:Nat} (hc:n = -(c:Int)) (hk:k≤1000000) (hn:n.natAbs<10^(k+1)) (hd:d<10^(k+1)) (h0:0<d):jF 158 [pz c,nz d] (rS (writeB (mkRat n d))):=by
 have h:=fractionNF (n:=n) (d:=d) hc (fU hn (by omega)) (fU hd (by omega)) h0 (bd1_of hn (by omega)) (bd1_of hd (by omega))
  (by have:=pD (k:=k) (z:=gU (decide (n<0)) (n.natAbs/Nat.gcd n.natAbs d)) (by rw [sD];exact Nat.lt_of_le_of_lt (Nat.div_le_self _ _) hn);omega)
  (by have:=pD (k:=k) (z:=((d/Nat.gcd n.natAbs d:Nat):Int)) (by rw [Int.natAbs_natCast];exact Nat.lt_of_le_of_lt (Nat.div_le_self _ _) hd);omega)
 rw [qP n h0] at h
 exact h
section
variable {p q:Rat}
theorem inv_pos {m:Nat} (h:q.num=(m:Int)):mkRat (q.den:Int) m=q⁻¹:=by
 rw [Rat.inv_def,h,Rat.divInt_ofNat]
theorem inv_neg {m:Nat} (h:q.num = -(m:Int)):mkRat (-(q.den:Int)) m=q⁻¹:=by
 rw [Rat.inv_def,h,Rat.divInt_neg',Rat.divInt_ofNat]
theorem prt_neg {m:Nat} (h:q.num = -(m:Int)) (h0:0<m) {β:List Nat} {v:Value} {w:World} (k:(AV.fv (.ag [rB (decide (q.num<0)),.sp (pH q.num.natAbs)]):AV Kr).holds β v w):(nz m).holds β v w:=by
 have e1:decide (q.num<0)=true:=by rw [decide_eq_true_iff];omega
 have e2:q.num.natAbs=m:=by omega
 rw [e1,e2] at k
 obtain ⟨cs,rfl,a,r,rfl,h1,h2⟩:=k
 exact ⟨_,rfl,a,r,rfl,⟨h1,rfl⟩,h2⟩
theorem prt_pos {m:Nat} (h:q.num=(m:Int)) {β:List Nat} {v:Value} {w:World} (k:(AV.fv (.ag [rB (decide (q.num<0)),.sp (pH q.num.natAbs)]):AV Kr).holds β v w):(pz m).holds β v w:=by
 have k' : (iz q.num).holds β v w:=k
 rw [h] at k'
 exact iz_pz k'
theorem fracPZ {k:Nat} (hk:k≤1000000) (hq:Zs k q) (h0:0<q.num.natAbs):jF 158 [iz (q.den:Int),pz q.num.natAbs] (rS (writeB (mkRat (q.den:Int) q.num.natAbs))) :=
 fracW (n:=(q.den:Int)) (k:=k) hk (by rw [Int.natAbs_natCast];exact hq.2) hq.1 h0
theorem fracNZ {k:Nat} (hk:k≤1000000) (hq:Zs k q) (h0:0<q.num.natAbs):jF 158 [pz q.den,nz q.num.natAbs] (rS (writeB (mkRat (-((q.den:Nat):Int)) q.num.natAbs))) :=
 fracNW (k:=k) rfl hk (by rw [Int.natAbs_neg,Int.natAbs_natCast];exact hq.2) hq.1 h0
theorem recipF (hq:Zs 10000 q) (h0:q≠0):jF 107 [rS (writeB q)] (rS (writeB q⁻¹)):=by
 obtain ⟨s1,s2⟩:=sI hq (by omega)
 have hn:=sU h0
 have hfr:jF 158 [pz q.den,.fv (.ag [rB (decide (q.num<0)),.sp (pH q.num.natAbs)])] (rS (writeB q⁻¹)):=by
  by_cases hs:q.num<0
  ·have e:q.num = -((q.num.natAbs:Nat):Int):=by omega
   rw [← inv_neg e]
   refine rargs (fracNZ (k:=10000) (by omega) hq (by omega)) fun β vs w ⟨v,r,e1,h1,u,r2,e2,h2,h3⟩=>⟨v,r,e1,h1,u,r2,e2,prt_neg e (by omega) h2,h3⟩
  ·have e:q.num=((q.num.natAbs:Nat):Int):=by omega
   rw [← inv_pos e]
   refine rargs (fracPZ (k:=10000) (by omega) hq (by omega)) fun β vs w ⟨v,r,e1,h1,u,r2,e2,h2,h3⟩=>⟨v,r,e1,pz_iz h1,u,r2,e2,prt_pos e h2,h3⟩
 refine jT Tryz.func107 fun w00=>?_
 refine jB 154 [rS (writeB q)] (yD s1 s2) ?_
 refine jB 158 [pz q.den,.fv (.ag [rB (decide (q.num<0)),.sp (pH q.num.natAbs)])] hfr ?_
 exact jS Tryz.func107
theorem zs_inv {k:Nat} (h:Zs k q) (h0:q≠0):Zs k q⁻¹:=by
 have hn:=sU h0
 have hd:=q.den_pos
 by_cases hs:q.num<0
 ·have e:q.num = -((q.num.natAbs:Nat):Int):=by omega
  rw [← inv_neg e]
  obtain ⟨e1,e2⟩:=sH (-(q.den:Int)) (d:=q.num.natAbs) (by omega)
  have g:Nat.gcd (-(q.den:Int)).natAbs q.num.natAbs=1:=by rw [Int.natAbs_neg,Int.natAbs_natCast,Nat.gcd_comm];exact q.reduced
  rw [g] at e1 e2
  refine ⟨by rw [e1];simpa using h.2,by rw [e2];simpa using h.1⟩
 ·have e:q.num=((q.num.natAbs:Nat):Int):=by omega
  rw [← inv_pos e]
  obtain ⟨e1,e2⟩:=sH ((q.den:Int)) (d:=q.num.natAbs) (by omega)
  have g:Nat.gcd ((q.den:Int)).natAbs q.num.natAbs=1:=by rw [Int.natAbs_natCast,Nat.gcd_comm];exact q.reduced
  rw [g] at e1 e2
  refine ⟨by rw [e1];simpa using h.2,by rw [e2];simpa using h.1⟩
theorem refDivF (hp:Zs 10000 p) (hq:Zs 10000 q) (h0:q≠0):jF 51 [rS (writeB p),rS (writeB q)] (rS (writeB (p/q))):=by
 rw [Rat.div_def]
 refine jT Tryz.func51 fun w00=>?_
 refine jB 107 [rS (writeB q)] (recipF hq h0) ?_
 refine jB 106 [rS (writeB p),rS (writeB q⁻¹)] (kP hp (zs_inv hq h0)) ?_
 exact jS Tryz.func51
theorem kn_o {f:FuncId} {s u:ByteArray} (h:jF f [rS s] (rS u)):jF f [tx s] (tx u):=by
 intro β w vs hv
 obtain ⟨v,rfl,h1⟩:=cW hv
 rw [aQ h1]
 exact (h β w [.string s] ⟨_,_,rfl,cJ,rfl⟩).mono fun e w' ⟨v,e1,e2,e3⟩=>⟨v,e1,e2,by rw [bA e3];exact bG⟩
theorem kn_IL {f:FuncId} {s:ByteArray} {z:Int} (h:jF f [rS s] (rI z)):jF f [tx s] (it z):=by
 intro β w vs hv
 obtain ⟨v,rfl,h1⟩:=cW hv
 rw [aQ h1]
 exact (h β w [.string s] ⟨_,_,rfl,cJ,rfl⟩).mono fun e w' ⟨v,e1,e2,e3⟩=>⟨v,e1,e2,by rw [bA e3];exact bB rfl⟩
theorem uE {s:ByteArray} {z:Int} (hs:s.size≤9223372036854775807) (hz:bT s=z):jF 102 [tx s] (it z):=kn_IL (hz▸checkAnyF hs)
end
section
variable {f:FuncId} {w00:World} {Out:Value→World→Prop}
theorem klenT {c:Cfg Kn} (t:Tmp) (T:TypeId) (hT:Tryz.prog.underlying T=some .string) (s:ByteArray) (hc:(c.op.map fun o=>o.op,c.okT (.fv (.sc (iP s.size))),c.ev (.tmp t))=(some (.call ⟨.builtin .len,#[.tmp t],#[T]⟩),true,tx s))
 (hg:Ok Tryz.prog f w00 Out (cD Tryz.prog 1000 (c.give (.fv (.sc (iP s.size)))))):Ok Tryz.prog f w00 Out c:=by
 simp only [Prod.mk.injEq] at hc
 obtain ⟨h1,h2,h3⟩:=hc
 exact qH _ (.tmp t) (.tmp t) (tx s) (tx s) (.fv (.sc (iP s.size))) (by rw [h1,h2,h3]) (by simp [Op.operands,Call.operands]) (by simp [Op.operands,Call.operands])
  (fun ρ o β w ho hx _=>⟨_,vT ho hT (aQ hx),bG⟩) hg
theorem jP{c:Cfg Kn} (t:Tmp) (T:TypeId) (hT:Tryz.prog.underlying T=some .string) (s:ByteArray)(hg:Ok Tryz.prog f w00 Out (cD Tryz.prog 1000 (c.give (.fv (.sc (iP s.size))))))(hc:(c.op.map fun o=>o.op,c.okT (.fv (.sc (iP s.size))),c.ev (.tmp t))=(some (.call ⟨.builtin .len,#[.tmp t],#[T]⟩),true,tx s):=by kernel_rfl):Ok Tryz.prog f w00 Out c:=klenT t T hT s hc hg
end
section
variable {p q:Rat}
theorem wr_len {q:Rat} (h:Wr q):(writeB q).size≤1000000000:=by
 have h1:=h.n
 have h2:=h.d
 have:=sN q.num
 rw [jH]
 split <;> omega
theorem uF (h:Wr q):jF 151 [tx (writeB q)] (it 0):=by
 have h1:=h.n
 have h2:=h.d
 have hl:=sN q.num
 refine jG Tryz.func151 fun w00=>?_
 refine jC 206 [tx (writeB q)] (kn_o (numF (wr_len h))) ?_
 refine jC 205 [tx (aP q.num)] (kn_o (absTF (by omega))) ?_
 refine jP 5 22 Tryz.underlying22 (decB q.num.natAbs) ?_
 refine jM 6 (decB q.num.natAbs).size 600 false (by rw [decide_eq_false_iff_not];omega) ?_
 refine jC 207 [tx (writeB q)] (kn_o (denOfF (wr_len h))) ?_
 refine jP 10 22 Tryz.underlying22 (decB q.den) ?_
 refine jM 11 (decB q.den).size 600 false (by rw [decide_eq_false_iff_not];omega) ?_
 exact jR Tryz.func151
end
abbrev Bz (z:Int):Prop:=z=1∨z=3∨z=4∨z=6∨z=7
end Ab
end Go.Proofs.YtagahkpgdakofaaGreatDoor
