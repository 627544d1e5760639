/- Parts of the proof, joined. -/
import Derived.Test.YtbhcckhbbclemaaGreatDoorJ35
import Derived.Test.YtbhcckhbbclemaaGreatDoorJ33
import Derived.RangeFuncNested
import Derived.RangeFuncBound
import Derived.RangeFuncCalls
import Derived.RangeFuncLeaves
import Derived.Shelf.Abstract
import Derived.Shelf.RegionOpen
import Derived.WalkKit
import Derived.OwnWalkIn
import Derived.TacticsInMore
import Derived.LoopNIn
import Derived.LoopIn
import Derived.KernelRfl
import Derived.Test.YtbhcckhbbclemaaGreatDoorProg
import Derived.Test.YtbhcckhbbclemaaGreatDoorJ25
set_option linter.unusedSimpArgs false
set_option linter.unusedVariables false
namespace Go.Proofs.YtbhcckhbbclemaaGreatDoor.Ab
open Go.RowKit Go.Proofs.YtbhcckhbbclemaaGreatDoor Pl
theorem cutPrefixNo {s:ByteArray} (h:Lib.hasPrefix s.data.toList [45]=false):Fits Tryz.prog 61 [tx s,lt ⟨#[45]⟩] (.tup [.sc (isS s),.sc (.lit (.bool false))]):=by
 intro β w vs hv
 obtain ⟨v,u,rfl,h1,h2⟩:=args2 hv
 rw [hold_is h1,hold_lit h2]
 have es:(⟨(Lib.trimPrefix s.data.toList [45]).toArray⟩:ByteArray)=s:=ba_ext (by unfold Lib.trimPrefix;rw [h];simp)
 refine (Tryz.strings_CutPrefix s ⟨#[45]⟩ w).mono fun e w' ⟨e1,e2⟩=>⟨_,e1,by rw [e2];exact Below.refl _ _,?_⟩
 rw [show (⟨#[45]⟩:ByteArray).data.toList = [45] from rfl,es,h]
 exact ⟨[.string s,.bool false],rfl,_,_,rfl,is_hold (β:=β),_,_,rfl,⟨rfl,rfl⟩,rfl⟩
theorem ascii_two:∀ (j:Nat) (b:UInt8),(⟨#[47,46]⟩:ByteArray).data.toList[j]?=some b→b.toNat<128:=by
 intro j b h
 have:=List.mem_of_getElem? h
 simp at this
 rcases this with rfl|rfl <;> decide
theorem indexAnyF {s:ByteArray} {k:Int} (hs:s.size<4294967281) (ha:∀ (j:Nat) (b:UInt8),s.data.toList[j]?=some b→b.toNat<128) (h:Lib.indexAny s.data.toList [47,46]=k):Fits Tryz.prog 124 [tx s,lt ⟨#[47,46]⟩] (.fv (.sc (isI k))):=by
 intro β w vs hv
 obtain ⟨v,u,rfl,h1,h2⟩:=args2 hv
 rw [hold_is h1,hold_lit h2]
 refine (Tryz.strings_IndexAny_laid s ⟨#[47,46]⟩ w hs (by decide) ha ascii_two).mono fun e w' ⟨e1,e2⟩=>⟨_,e1,e2,?_⟩
 rw [show (⟨#[47,46]⟩:ByteArray).data.toList = [47,46] from rfl,h]
 exact is_hold
theorem repeatF {c:Nat} {z:ByteArray} (h2:2≤c) (hc:c≤100000) (hz:(⟨(Lib.repeatL [48] c).toArray⟩:ByteArray)=z):Fits Tryz.prog 126 [lt ⟨#[48]⟩,.fv (.sc (isI c))] (tx z):=by
 intro β w vs hv
 obtain ⟨v,u,rfl,h1,h3⟩:=args2 hv
 rw [hold_lit h1,hold_is h3]
 have hsz:(⟨#[48]⟩:ByteArray).size=1:=rfl
 refine (Tryz.strings_Repeat_main ⟨#[48]⟩ c w h2 (by omega) (by rw [hsz];omega) (by rw [hsz];omega)).mono fun e w' ⟨e1,e2⟩=>⟨_,e1,e2,?_⟩
 rw [show (⟨#[48]⟩:ByteArray).data.toList = [48] from rfl,hz]
 exact is_hold
section
variable {s a b z:ByteArray} {k:Nat}
theorem partsDot (hi:Fits Tryz.prog 124 [tx s,lt ⟨#[47,46]⟩] (.fv (.sc (isI k)))) (hk:k<s.size) (hs:s.size≤10000) (ha:s.extract 0 k=a) (hb:s.extract (k+1) s.size=b) (da:AllDig (bytesOf a)) (da0:0<a.size) (db:AllDig (bytesOf b)) (db0:0<b.size)
 (hdot:s[k]?=some 46) (hr:Fits Tryz.prog 126 [lt ⟨#[48]⟩,.fv (.sc (isI b.size))] (tx z)) (hz:z.size≤10000):Fits Tryz.prog 62 [tx s] (.tup [.sc (isS (a++b)),.sc (isS (⟨#[49]⟩++z)),.sc z0]):=by
 have hasz:a.size≤s.size:=by rw [← ha,ByteArray.size_extract];omega
 have hbsz:b.size≤s.size:=by rw [← hb,ByteArray.size_extract];omega
 refine kgo Tryz.func62 (by kernel_rfl) fun w00=>?_
 refine kcall 124 [tx s,lt ⟨#[47,46]⟩] (hi) (by kernel_rfl) Tryz.call124 ?_
 refine kop2 (.binOp .lss 3 (.tmp 10) (.const (.int .i64 0)) 3) (.tmp 10) (.const (.int .i64 0)) (.fv (.sc (isI k))) (it 0) (bl false) (by kernel_rfl) (by simp [Op.operands]) (by simp [Op.operands]) (fun ρ o β w ho hx hy=>⟨_,lss_run ho (hold_is hx) (hold_lit hy) (by rw [decide_eq_false_iff_not];omega),lit_hold rfl⟩) ?_
 refine kop2 (.slice 9 (.tmp 16) none (some (.tmp 17)) none) (.tmp 16) (.tmp 17) (tx s) (.fv (.sc (isI k))) (tx a) (by kernel_rfl) (by simp [Op.operands]) (by simp [Op.operands]) (fun ρ o β w ho hx hy=>?_) ?_
 ·have:=slice_hi (w:=w) ho Tryz.underlying9 (hold_is hx) (hold_is hy) (by omega)
  rw [ha] at this
  exact ⟨_,this,is_hold⟩
 refine kop2 (.binOp .add 3 (.tmp 20) (.const (.int .i64 1)) 3) (.tmp 20) (.const (.int .i64 1)) (.fv (.sc (isI k))) (it 1) (.fv (.sc (isI ((k+1:Nat):Int)))) (by kernel_rfl) (by simp [Op.operands]) (by simp [Op.operands]) (fun ρ o β w ho hx hy=>⟨_,add1_run ho (hold_is hx) (hold_lit hy) (by omega),is_hold⟩) ?_
 refine kop2 (.slice 9 (.tmp 19) (some (.tmp 21)) none none) (.tmp 19) (.tmp 21) (tx s) (.fv (.sc (isI ((k+1:Nat):Int)))) (tx b) (by kernel_rfl) (by simp [Op.operands]) (by simp [Op.operands]) (fun ρ o β w ho hx hy=>?_) ?_
 ·have:=slice_lo (w:=w) ho Tryz.underlying9 (hold_is hx) (hold_is hy) (by omega)
  rw [hb] at this
  exact ⟨_,this,is_hold⟩
 refine kcall 125 [tx a] (isDigitsF da da0) (by kernel_rfl) Tryz.call125 ?_
 refine kcall 125 [tx b] (isDigitsF db db0) (by kernel_rfl) Tryz.call125 ?_
 refine kop2 (.index 9 (.tmp 33) (.tmp 34)) (.tmp 33) (.tmp 34) (tx s) (.fv (.sc (isI k))) (.fv (.sc (.lit (.int .u8 46)))) (by kernel_rfl) (by simp [Op.operands]) (by simp [Op.operands]) (fun ρ o β w ho hx hy=>⟨_,index_run ho Tryz.underlying9 (hold_is hx) (hold_is hy) hdot,lit_hold rfl⟩) ?_
 refine kop2 (.binOp .add 9 (.tmp 37) (.tmp 38) 9) (.tmp 37) (.tmp 38) (tx a) (tx b) (tx (a++b)) (by kernel_rfl) (by simp [Op.operands]) (by simp [Op.operands]) (fun ρ o β w ho hx hy=>⟨_,cat_run ho (hold_is hx) (hold_is hy) (by omega),is_hold⟩) ?_
 refine klen 40 b (by kernel_rfl) ?_
 refine kcall 126 [lt ⟨#[48]⟩,.fv (.sc (isI b.size))] (hr) (by kernel_rfl) Tryz.call126 ?_
 refine kop2 (.binOp .add 9 (.const (.string ⟨#[49]⟩)) (.tmp 42) 9) (.const (.string ⟨#[49]⟩)) (.tmp 42) (lt ⟨#[49]⟩) (tx z) (tx (⟨#[49]⟩++z)) (by kernel_rfl) (by simp [Op.operands]) (by simp [Op.operands]) (fun ρ o β w ho hx hy=>⟨_,cat_run ho (hold_lit hx) (hold_is hy) (by have:(⟨#[49]⟩:ByteArray).size=1:=rfl;omega),is_hold⟩) ?_
 exact kret Tryz.func62 (by kernel_rfl)
theorem parseF' {n d:Nat} (hs:s.size≤4096) (hp:Lib.hasPrefix s.data.toList [45]=false) (hpt:Fits Tryz.prog 62 [tx s] (.tup [.sc (isS (decB n)),.sc (isS (decB d)),.sc z0])) (hn:(decB n).size≤100000) (hd:(decB d).size≤100000) (ln:Lv 40 n) (ld:Lv 40 d) (d0:0<d)
 (lq:Lf 20 (mkRat (sg false n) d)) (w1:(decB (mkRat (sg false n) d).num.natAbs).size≤600) (w2:(decB (mkRat (sg false n) d).den).size≤600):FitsW Tryz.prog Gl 18 [tx s] (.tup [.sc (isS (writeB (mkRat (sg false n) d))),.sc z0]):=by
 refine kgoW Tryz.func18 (by kernel_rfl) fun w00 hG=>?_;have hI:=keepGl hG
 refine klen 9 s (by kernel_rfl) ?_
 refine kgt 10 s.size 4096 false (by rw [decide_eq_false_iff_not];omega) (by kernel_rfl) ?_
 refine kcall 61 [tx s,lt ⟨#[45]⟩] (cutPrefixNo hp) (by kernel_rfl) Tryz.call61 ?_
 refine kcall 62 [tx s] (hpt) (by kernel_rfl) Tryz.call62 ?_
 refine kcall 64 [tx (decB n)] (naturalTextF hn) (by kernel_rfl) Tryz.call64 ?_
 refine kcall 64 [tx (decB d)] (naturalTextF hd) (by kernel_rfl) Tryz.call64 ?_
 refine kcall 63 [bl false,nt n,nt d] (ratioF ln ld d0) (by kernel_rfl) Tryz.call63 ?_
 refine kcall 65 [fra (mkRat (sg false n) d)] (numberF) (by kernel_rfl) Tryz.call65 ?_
 refine kcallW hI 66 [num (mkRat (sg false n) d)] (writeF lq w1 w2) (by kernel_rfl) Tryz.call66 ?_
 exact kret Tryz.func18 (by kernel_rfl)
end
end Go.Proofs.YtbhcckhbbclemaaGreatDoor.Ab
namespace Go.Proofs.YtbhcckhbbclemaaGreatDoor.Fr
open Go.RowKit Go.Shelf
attribute [local go_sem] Oper.semAt_some
def axV (x1 x2 x3 y1 y2 y3 z1 z2 z3:ByteArray):Fin 3→Value
 | 0 => .agg #[.string x1,.string x2,.string x3]
 | 1 => .agg #[.string y1,.string y2,.string y3]
 | 2 => .agg #[.string z1,.string z2,.string z3]
def axE (x1 x2 x3 y1 y2 y3 z1 z2 z3:ByteArray) (i:Fin 3):Array Value := #[.int .i64 ((i.val:Nat):Int),axV x1 x2 x3 y1 y2 y3 z1 z2 z3 i]
theorem ix0 (w:World) (x1 x2 x3 y1 y2 y3 z1 z2 z3:ByteArray):(Sem.run Tryz.prog (Instr.index 209 (.agg #[.string x1,.string x2,.string x3,.string y1,.string y2,.string y3,.string z1,.string z2,.string z3]) (.int .i64 0)) w) = .ok (.agg #[.string x1,.string x2,.string x3]) w:=by
 kernel_rfl
theorem ix1 (w:World) (x1 x2 x3 y1 y2 y3 z1 z2 z3:ByteArray):(Sem.run Tryz.prog (Instr.index 209 (.agg #[.string x1,.string x2,.string x3,.string y1,.string y2,.string y3,.string z1,.string z2,.string z3]) (.int .i64 1)) w) = .ok (.agg #[.string y1,.string y2,.string y3]) w:=by
 kernel_rfl
theorem ix2 (w:World) (x1 x2 x3 y1 y2 y3 z1 z2 z3:ByteArray):(Sem.run Tryz.prog (Instr.index 209 (.agg #[.string x1,.string x2,.string x3,.string y1,.string y2,.string y3,.string z1,.string z2,.string z3]) (.int .i64 2)) w) = .ok (.agg #[.string z1,.string z2,.string z3]) w:=by
 kernel_rfl
set_option maxRecDepth 100000 in
set_option maxHeartbeats 2000000 in
theorem axes1_in (F:Fence) (n:Nat) (h8:F.fn 163) (hro:F.round=none) (hn:1≤n) (l Bf n₀:Nat) (o1 o2 o3 x1 x2 x3 y1 y2 y3 z1 z2 z3:ByteArray) (J Jx:List (Fin 3)→World→Prop)
 (hY:∀ pre x W,J pre W→pre.length<3→YieldAt F (n-1) Tryz.prog l (axE x1 x2 x3 y1 y2 y3 z1 z2 z3 x) W fun e W' =>
  (e = .returned (.bool true)∧J (pre ++ [x]) W'∧Below n₀ W W')∨(e = .returned (.bool false)∧Jx (pre ++ [x]) W'))
 (W:World) (hJ:AbidesFrom W.heap.size J) (hn0:n₀≤W.heap.size) (hB:W.heap[Bf]?=some (.cells #[.string o1,.string o2,.string o3,.string x1,.string x2,.string x3,.string y1,.string y2,.string y3,.string z1,.string z2,.string z3] 32 (0,0))) (h0:J [] W) :
 CallsIn F n Tryz.prog 163 #[.func (.yield l) #[] #[],.pointer (some ⟨Bf,0,none⟩)] W fun e W'=>(∃ v,e = .returned v) ∧
  ((∃ ys,ys = [0,1,2]∧J ys W')∨(∃ pre,True∧Jx pre W')):=by
 refine callsIn_of_wp Tryz.func163 rfl h8 ?_ hro
 simp only [Tryz.ntmps163,List.size_toArray,List.length_cons,List.length_nil,Nat.reduceAdd,Nat.reduceSub,Array.replicate_succ,Array.replicate_zero,List.push_toArray,List.append_toArray,List.nil_append,List.cons_append]
 have c3:W.cell? ⟨Bf,3,none⟩=some (.string x1):=by simp [World.cell?,hB]
 have c4:W.cell? ⟨Bf,4,none⟩=some (.string x2):=by simp [World.cell?,hB]
 have c5:W.cell? ⟨Bf,5,none⟩=some (.string x3):=by simp [World.cell?,hB]
 have c6:W.cell? ⟨Bf,6,none⟩=some (.string y1):=by simp [World.cell?,hB]
 have c7:W.cell? ⟨Bf,7,none⟩=some (.string y2):=by simp [World.cell?,hB]
 have c8:W.cell? ⟨Bf,8,none⟩=some (.string y3):=by simp [World.cell?,hB]
 have c9:W.cell? ⟨Bf,9,none⟩=some (.string z1):=by simp [World.cell?,hB]
 have c10:W.cell? ⟨Bf,10,none⟩=some (.string z2):=by simp [World.cell?,hB]
 have c11:W.cell? ⟨Bf,11,none⟩=some (.string z3):=by simp [World.cell?,hB]
 clear hB
 gi_wp2
 gi_loopw [12] (fun i wr=>(i = .int .i64 0∧J [] wr∨i = .int .i64 1∧J [0] wr∨i = .int .i64 2∧J [0,1] wr∨i = .int .i64 3∧J [0,1,2] wr)∧n₀≤wr.heap.size) (fun i _=>3-(intOf i).toNat)
 case atStart=>exact ⟨.inl ⟨rfl,h0⟩,hn0⟩
 case round =>
  obtain ⟨hc,hnr⟩:=hrel
  rcases hc with ⟨rfl,hJs⟩|⟨rfl,hJs⟩|⟨rfl,hJs⟩|⟨rfl,hJs⟩
  ·have hix:=ix0 wr x1 x2 x3 y1 y2 y3 z1 z2 z3
   have hJa:=hJ [] wr (wr.alloc (.cells #[.string x1,.string x2,.string x3] 25)) none hJs (World.grownBy_alloc _ _ none) (fun r e=>by cases e)
   obtain ⟨fn,tmps,assign,body,hy,hR⟩:=hY [] 0 _ hJa (by simp)
   change (Sem.run Tryz.prog (Instr.yield l #[.int .i64 0,.agg #[.string x1,.string x2,.string x3]]) _)=_ at hy
   gi_wp2
   refine hR.mono ?_
   rintro e W3 (⟨rfl,hJ3,hk3⟩|⟨rfl,hJx3⟩)
   ·have hs3:n₀≤W3.heap.size:=by have:=hk3.size;simp at this;omega
    gi_wp2
    go_roundw
    case rel=>exact ⟨.inr (.inl ⟨rfl,hJ3⟩),hs3⟩
    case measure=>simp [intOf]
   ·gi_wp2
    refine bodyPost_ret (results_none rfl _ _ _) rfl ?_
    exact ⟨⟨_,rfl⟩,.inr ⟨_,trivial,hJx3⟩⟩
  ·have hix:=ix1 wr x1 x2 x3 y1 y2 y3 z1 z2 z3
   have hJa:=hJ [0] wr (wr.alloc (.cells #[.string y1,.string y2,.string y3] 25)) none hJs (World.grownBy_alloc _ _ none) (fun r e=>by cases e)
   obtain ⟨fn,tmps,assign,body,hy,hR⟩:=hY [0] 1 _ hJa (by simp)
   change (Sem.run Tryz.prog (Instr.yield l #[.int .i64 1,.agg #[.string y1,.string y2,.string y3]]) _)=_ at hy
   gi_wp2
   refine hR.mono ?_
   rintro e W3 (⟨rfl,hJ3,hk3⟩|⟨rfl,hJx3⟩)
   ·have hs3:n₀≤W3.heap.size:=by have:=hk3.size;simp at this;omega
    gi_wp2
    go_roundw
    case rel=>exact ⟨.inr (.inr (.inl ⟨rfl,hJ3⟩)),hs3⟩
    case measure=>simp [intOf]
   ·gi_wp2
    refine bodyPost_ret (results_none rfl _ _ _) rfl ?_
    exact ⟨⟨_,rfl⟩,.inr ⟨_,trivial,hJx3⟩⟩
  ·have hix:=ix2 wr x1 x2 x3 y1 y2 y3 z1 z2 z3
   have hJa:=hJ [0,1] wr (wr.alloc (.cells #[.string z1,.string z2,.string z3] 25)) none hJs (World.grownBy_alloc _ _ none) (fun r e=>by cases e)
   obtain ⟨fn,tmps,assign,body,hy,hR⟩:=hY [0,1] 2 _ hJa (by simp)
   change (Sem.run Tryz.prog (Instr.yield l #[.int .i64 2,.agg #[.string z1,.string z2,.string z3]]) _)=_ at hy
   gi_wp2
   refine hR.mono ?_
   rintro e W3 (⟨rfl,hJ3,hk3⟩|⟨rfl,hJx3⟩)
   ·have hs3:n₀≤W3.heap.size:=by have:=hk3.size;simp at this;omega
    gi_wp2
    go_roundw
    case rel=>exact ⟨.inr (.inr (.inr ⟨rfl,hJ3⟩)),hs3⟩
    case measure=>simp [intOf]
   ·gi_wp2
    refine bodyPost_ret (results_none rfl _ _ _) rfl ?_
    exact ⟨⟨_,rfl⟩,.inr ⟨_,trivial,hJx3⟩⟩
  ·gi_wp2
   go_end0
   exact ⟨⟨_,rfl⟩,.inl ⟨_,rfl,hJs⟩⟩
theorem axes_stops (F:Fence) (n:Nat) (h8:F.fn 163) (hro:F.round=none) (hn:1≤n) (Bf n₀:Nat) (o1 o2 o3 x1 x2 x3 y1 y2 y3 z1 z2 z3:ByteArray) (w:World) (hn0:n₀≤w.heap.size)
 (hB:w.heap[Bf]?=some (.cells #[.string o1,.string o2,.string o3,.string x1,.string x2,.string x3,.string y1,.string y2,.string y3,.string z1,.string z2,.string z3] 32 (0,0))) :
 SeqStopsK F n Tryz.prog 163 #[.pointer (some ⟨Bf,0,none⟩)] (axE x1 x2 x3 y1 y2 y3 z1 z2 z3) (Below n₀) (fun ys=>ys = [0,1,2]) (fun _=>True) 3 w:=fun l J Jx W hW hJ _ hY h0 =>
 axes1_in F n h8 hro hn l Bf n₀ o1 o2 o3 x1 x2 x3 y1 y2 y3 z1 z2 z3 J Jx hY W hJ (Nat.le_trans hn0 hW.size) ((hW.block Bf (by rcases Nat.lt_or_ge Bf w.heap.size with h|h;exact h;rw [Array.getElem?_eq_none h] at hB;cases hB)).trans hB) h0
set_option maxHeartbeats 1000000 in
theorem axes_any (o1 o2 o3 x1 x2 x3 y1 y2 y3 z1 z2 z3:ByteArray) (w:World):Calls Tryz.prog 106 #[.agg #[.string o1,.string o2,.string o3,.string x1,.string x2,.string x3,.string y1,.string y2,.string y3,.string z1,.string z2,.string z3]] w fun e w' =>
 e = .returned (.func (.func 163) #[] #[.pointer (some ⟨w.heap.size,0,none⟩)])∧w'=w.alloc (.cells #[.string o1,.string o2,.string o3,.string x1,.string x2,.string x3,.string y1,.string y2,.string y3,.string z1,.string z2,.string z3] 32 (0,0)):=by
 refine (callsIn_wide (n:=3)).1 ?_
 refine callsIn_of_wp Tryz.func106 rfl trivial ?_ rfl
 simp only [Tryz.ntmps106,List.size_toArray,List.length_cons,List.length_nil,Nat.reduceAdd,Nat.reduceSub,Array.replicate_succ,Array.replicate_zero,List.push_toArray,List.append_toArray,List.nil_append,List.cons_append]
 gi_wp2
 refine bodyPost_ret (results_tmp rfl _ _ _) rfl ?_
 exact ⟨rfl,rfl⟩
end Go.Proofs.YtbhcckhbbclemaaGreatDoor.Fr
namespace Go.Proofs.YtbhcckhbbclemaaGreatDoor.Fr
open Go.RowKit Go.Shelf Go.Proofs.YtbhcckhbbclemaaGreatDoor Go.Proofs.YtbhcckhbbclemaaGreatDoor.Ab Pl
structure C9 where
 n1:Int
 d1:Int
 p1:Option Addr
 n2:Int
 d2:Int
 p2:Option Addr
 n3:Int
 d3:Int
 p3:Option Addr
def C9.cells (k:C9):List Value := [.int .i64 k.n1,.int .i64 k.d1,.pointer k.p1,.int .i64 k.n2,.int .i64 k.d2,.pointer k.p2,.int .i64 k.n3,.int .i64 k.d3,.pointer k.p3]
def C9.val (k:C9):Value := .agg #[.int .i64 k.n1,.int .i64 k.d1,.pointer k.p1,.int .i64 k.n2,.int .i64 k.d2,.pointer k.p2,.int .i64 k.n3,.int .i64 k.d3,.pointer k.p3]
def C9.zero:C9:=⟨0,0,none,0,0,none,0,0,none⟩
theorem vc9 {w:World} {v:Value} {a b c:Rat} (h:Vc w v a b c):∃ k:C9,v=k.val∧Vc w k.val a b c:=by
 obtain ⟨n1,d1,p1,n2,d2,p2,n3,d3,p3,rfl,h1,h2,h3⟩:=h
 exact ⟨⟨n1,d1,p1,n2,d2,p2,n3,d3,p3⟩,rfl,n1,d1,p1,n2,d2,p2,n3,d3,p3,rfl,h1,h2,h3⟩
theorem vc_cells {β:List Nat} {w:World} {k:C9} {a b c:Rat} (h:Vc w k.val a b c):holdsL β [nb a,nb b,nb c] k.cells w:=by
 obtain ⟨cs,e,hl⟩:=(vc_holds (β:=β)).2 h
 injection e with e
 have e:=congrArg Array.toList e
 have e:k.cells=cs:=e
 rw [e]
 exact hl
def frL (o x y z:C9):List Value:=o.cells++x.cells++y.cells++z.cells
theorem readVec_any {a b c:Rat} (h:Wr3 a b c) (w:World) (hG:Gl w):Calls Tryz.prog 31 #[.agg #[.string (writeB a),.string (writeB b),.string (writeB c)]] w fun e w' => ∃ k:C9,e = .returned (.tuple #[k.val,.int .i64 0])∧Vc w' k.val a b c∧Below w.heap.size w w':=by
 refine (readVecF h [] w [.agg #[.string (writeB a),.string (writeB b),.string (writeB c)]] hG ⟨_,_,rfl,⟨[.string (writeB a),.string (writeB b),.string (writeB c)],rfl,[.string (writeB a)],_,rfl,rfl,[.string (writeB b)],_,rfl,rfl,[.string (writeB c)],_,rfl,rfl,rfl⟩,rfl⟩).mono ?_
 rintro e w' ⟨v,e1,e2,vs,rfl,u,r,rfl,h1,u2,r2,rfl,h2,h3⟩
 obtain ⟨k,rfl,h4⟩:=vc9 (vc_holds.1 h1)
 have h5:[u2] = [.int .i64 0]:=h2.1
 injection h5 with h5
 rw [show r2 = [] from h3,h5] at e1
 exact ⟨k,e1,h4,e2⟩
theorem first_any (w:World) (g:Nat) (T:TypeId) (hh:w.heap[g]?=some (.cells #[.int .i64 0,.int .i64 0] T (0,0))):Calls Tryz.prog 74 #[.slice (some ⟨g,0,none⟩) 2 2] w fun e w'=>e = .returned (.int .i64 0)∧Below w.heap.size w w':=by
 refine (first2F (T:=T) [] w [.slice (some ⟨g,0,none⟩) 2 2] ⟨_,_,rfl,⟨g,[.int .i64 0,.int .i64 0],rfl,hh,[.int .i64 0],_,rfl,⟨rfl,rfl⟩,[.int .i64 0],_,rfl,⟨rfl,rfl⟩,rfl⟩,rfl⟩).mono ?_
 rintro e w' ⟨v,e1,e2,h1⟩
 have h5:[v] = [.int .i64 0]:=h1.1
 injection h5 with h5
 exact ⟨by rw [e1,h5],e2⟩
section
variable {o1 o2 o3 x1 x2 x3 y1 y2 y3 z1 z2 z3:Rat}
theorem fr_holds {β:List Nat} {w:World} {o x y z:C9} (ho:Vc w o.val o1 o2 o3) (hx:Vc w x.val x1 x2 x3) (hy:Vc w y.val y1 y2 y3) (hz:Vc w z.val z1 z2 z3) :
 (frm o1 o2 o3 x1 x2 x3 y1 y2 y3 z1 z2 z3).holds β (.agg (frL o x y z).toArray) w :=
 ⟨frL o x y z,rfl,(((vc_cells ho).append (vc_cells hx)).append (vc_cells hy)).append (vc_cells hz)⟩
theorem check_any {w:World} {o x y z:C9} (ho:Vc w o.val o1 o2 o3) (hx:Vc w x.val x1 x2 x3) (hy:Vc w y.val y1 y2 y3) (hz:Vc w z.val z1 z2 z3) (l:Lm 25 x1 x2 x3 y1 y2 y3 z1 z2 z3) (h:Ax x1 x2 x3 y1 y2 y3 z1 z2 z3) :
 Calls Tryz.prog 107 #[.agg (frL o x y z).toArray] w fun e w'=>e = .returned (.int .i64 0)∧Below w.heap.size w w':=by
 refine (checkF (o1:=o1) (o2:=o2) (o3:=o3) l h [] w [.agg (frL o x y z).toArray] ⟨_,_,rfl,fr_holds ho hx hy hz,rfl⟩).mono ?_
 rintro e w' ⟨v,e1,e2,h1⟩
 have h5:[v] = [.int .i64 0]:=h1.1
 injection h5 with h5
 exact ⟨by rw [e1,h5],e2⟩
end
end Go.Proofs.YtbhcckhbbclemaaGreatDoor.Fr
