/- Parts of the proof, joined. -/
import Derived.Test.YtjijolobkpcpnaaGreatDoorJ7
import Derived.Test.YtjijolobkpcpnaaGreatDoorJ6
import Derived.Test.YtjijolobkpcpnaaGreatDoorJ1
import Derived.Laws.Tables
import Derived.Laws.StructEq
import Derived.RangeFuncNested
import Derived.RangeFuncBound
import Derived.RangeFuncCalls
import Derived.RangeFuncLeaves
import Derived.Shelf.Abstract
import Derived.Shelf.RegionOpen
import Derived.WalkKit
import Derived.OwnWalkIn
import Derived.TacticsInMore
import Derived.LoopNIn
import Derived.LoopIn
import Derived.KernelRfl
import Derived.Test.YtjijolobkpcpnaaGreatDoorProg
import Derived.Laws.CopyOwn
import Derived.Test.YtjijolobkpcpnaaGreatDoorJ5
import Derived.ProofKit
import Derived.OpenShut
import Derived.Deep.DeepHandedRow
import Derived.Deep.DeepWitnessRowRef
import Derived.Lib.LaidTab
import Derived.Stop.LaidErr
import Derived.Shelf.Vars
import Derived.Lay
import Derived.ChangeArms
set_option maxHeartbeats 4000000
set_option linter.unusedSimpArgs false
set_option linter.unusedVariables false
set_option linter.constructorNameAsVariable false
namespace Go.Proofs.YtjijolobkpcpnaaGreatDoor
namespace Ab
open Go.RowKit Pl
abbrev t3 (a b c:ByteArray):AV Kn := .fv (.ag [bV a,bV b,bV c])
theorem chkF {q:Rat} (h1:(decB q.num.natAbs).size≤600) (h2:(decB q.den).size≤600):jF 90 [tx (writeB q)] (it 0):=by
 have hw:=iX q
 have ht:=oK q.num
 have h:=kn_I (tO (s:=writeB q) (by split at hw <;> omega))
 rw [uQ h1 h2] at h
 intro β w vs hv
 exact (h β w vs hv).mono fun e w' ⟨v,e1,e2,e3⟩=>⟨v,e1,e2,by rw [aW e3];exact bC rfl⟩
section
variable {a b c:ByteArray} {n:Int}
theorem fewVecT (h1:jF 28 [tx a,it n] (bl true)) (h2:jF 28 [tx b,it n] (bl true)) (h3:jF 28 [tx c,it n] (bl true)):jF 6 [t3 a b c,it n] (bl true):=by
 refine jG Tryz.func6 fun w00=>?_
 refine jC 28 [tx a,it n] (h1) ?_
 refine jC 28 [tx b,it n] (h2) ?_
 refine jC 28 [tx c,it n] (h3) ?_
 exact jR Tryz.func6
theorem fewVecF1 (h1:jF 28 [tx a,it n] (bl false)):jF 6 [t3 a b c,it n] (bl false):=by
 refine jG Tryz.func6 fun w00=>?_
 refine jC 28 [tx a,it n] (h1) ?_
 exact jR Tryz.func6
theorem fewVecF2 (h1:jF 28 [tx a,it n] (bl true)) (h2:jF 28 [tx b,it n] (bl false)):jF 6 [t3 a b c,it n] (bl false):=by
 refine jG Tryz.func6 fun w00=>?_
 refine jC 28 [tx a,it n] (h1) ?_
 refine jC 28 [tx b,it n] (h2) ?_
 exact jR Tryz.func6
theorem fewVecF3 (h1:jF 28 [tx a,it n] (bl true)) (h2:jF 28 [tx b,it n] (bl true)) (h3:jF 28 [tx c,it n] (bl false)):jF 6 [t3 a b c,it n] (bl false):=by
 refine jG Tryz.func6 fun w00=>?_
 refine jC 28 [tx a,it n] (h1) ?_
 refine jC 28 [tx b,it n] (h2) ?_
 refine jC 28 [tx c,it n] (h3) ?_
 exact jR Tryz.func6
theorem checkRow3 {T:TypeId} (h1:jF 90 [tx a] (it 0)) (h2:jF 90 [tx b] (it 0)) (h3:jF 90 [tx c] (it 0)):jF 59 [.fv (.nsl 3 T [bV a,bV b,bV c])] (it 0):=by
 refine kgoS Tryz.func59 (by kernel_rfl) fun w00=>?_
 refine jC 90 [tx a] (h1) ?_
 refine jC 90 [tx b] (h2) ?_
 refine jC 90 [tx c] (h3) ?_
 exact jR Tryz.func59
theorem iY (h1:jF 90 [tx a] (it 0)) (h2:jF 90 [tx b] (it 0)) (h3:jF 90 [tx c] (it 0)):jF 16 [t3 a b c] (it 0):=by
 refine jG Tryz.func16 fun w00=>?_
 refine jC 59 [.fv (.nsl 3 22 [bV a,bV b,bV c])] (checkRow3 h1 h2 h3) ?_
 exact jR Tryz.func16
end
theorem originF:jF 102 ([]:List (AV Kn)) (.fv (.ag [.lit (.string ⟨#[48]⟩),.lit (.string ⟨#[48]⟩),.lit (.string ⟨#[48]⟩)])):=by
 refine jG Tryz.func102 fun w00=>?_
 exact jR Tryz.func102
theorem uR (q:Rat):aZ (-q)=aZ q:=by
 unfold aZ
 rw [Rat.neg_den,Rat.neg_num,Int.natAbs_neg]
theorem zs_len {k:Nat} {q:Rat} (h:Zs k q):(writeB q).size≤2*k+4:=by
 have h1:=rH h.1
 have h2:=rH h.2
 have:=iX q
 have:=oK q.num
 split at * <;> omega
theorem negR {q:Rat} (hs:(writeB q).size≤1000000000):jF 12 [rS (writeB q)] (rS (writeB (-q))):=by
 by_cases h:q.num<0
 ·rw [dV (q := -q) (by rw [Rat.neg_num];omega),uR]
  have hg:=signFn h
  obtain ⟨f1,hc,f3,f4,f5⟩:=gR h
  generalize aZ q=u at *
  generalize writeB q=s at *
  refine jT Tryz.func12 fun w00=>?_
  refine jB 48 [rS s] hg ?_
  refine rsl1 6 22 Tryz.underlying22 s u f1 f3 ?_
  exact jS Tryz.func12
 ·by_cases h0:q.num=0
  ·have e:-q=q:=by
    have:q=0:=Rat.num_eq_zero.1 h0
    rw [this]
    rfl
   rw [e]
   have hg:=signF0 h0
   generalize writeB q=s at *
   refine jT Tryz.func12 fun w00=>?_
   refine jB 48 [rS s] hg ?_
   refine jB 48 [rS s] hg ?_
   exact jS Tryz.func12
  ·rw [lW (q := -q) (by rw [Rat.neg_num];omega),uR,← dV h]
   have hg:=signFp (q:=q) (by omega)
   have hcat:(⟨#[45]⟩:ByteArray).size+(writeB q).size≤9223372036854775807:=by rw [aAv];omega
   generalize writeB q=s at *
   refine jT Tryz.func12 fun w00=>?_
   refine jB 48 [rS s] hg ?_
   refine jB 48 [rS s] hg ?_
   refine jL (.binOp .add 22 (.const (.string ⟨#[45]⟩)) (.tmp 12) 22) (.const (.string ⟨#[45]⟩)) (.tmp 12) (.fv (.sc (.lit (.string ⟨#[45]⟩)))) (rS s) (rS (⟨#[45]⟩++s)) (fun ρ o β w ho hx hy=>⟨_,gV ho (bT hx) (bA hy) hcat,cW⟩) ?_
   exact jS Tryz.func12
theorem zs_neg {k:Nat} {q:Rat} (h:Zs k q):Zs k (-q):=by
 unfold Zs
 rw [Rat.neg_den,Rat.neg_num,Int.natAbs_neg]
 exact h
theorem subR {p q:Rat} (hp:Zs 10000 p) (hq:Zs 10000 q):jF 212 [rS (writeB p),rS (writeB q)] (rS (writeB (p-q))):=by
 have h1:=negR (q:=q) (by have:=zs_len hq;omega)
 have h2:=aAx hp (zs_neg hq)
 rw [← Rat.sub_eq_add_neg] at h2
 generalize writeB (p-q)=x at *
 generalize writeB (-q)=y at *
 generalize writeB p=a at *
 generalize writeB q=b at *
 refine jT Tryz.func212 fun w00=>?_
 refine jB 12 [rS b] h1 ?_
 refine jB 60 [rS a,rS y] h2 ?_
 exact jS Tryz.func212
section
variable {a b c d e f:ByteArray} {x y z u v:ByteArray}
theorem dotR (h1:jF 13 [tx a,tx d] (tx x)) (h2:jF 13 [tx b,tx e] (tx y)) (h3:jF 60 [tx x,tx y] (tx u)) (h4:jF 13 [tx c,tx f] (tx z)) (h5:jF 60 [tx u,tx z] (tx v)):jF 17 [t3 a b c,t3 d e f] (tx v):=by
 refine jG Tryz.func17 fun w00=>?_
 refine jC 13 [tx a,tx d] (h1) ?_
 refine jC 13 [tx b,tx e] (h2) ?_
 refine jC 60 [tx x,tx y] (h3) ?_
 refine jC 13 [tx c,tx f] (h4) ?_
 refine jC 60 [tx u,tx z] (h5) ?_
 exact jR Tryz.func17
theorem squareR (h:jF 17 [t3 a b c,t3 a b c] (tx v)):jF 42 [t3 a b c] (tx v):=by
 refine jG Tryz.func42 fun w00=>?_
 refine jC 17 [t3 a b c,t3 a b c] (h) ?_
 exact jR Tryz.func42
end
end Ab
section
open Go.RowKit Pl
end
namespace Ab
open Go.RowKit Pl
end Ab
namespace Ab
open Go.RowKit
theorem equal3 {P:Program} {T e:TypeId} {x0 x1 x2 y0 y1 y2:Value} {r0 r1 r2:Bool} (d:Nat) (hT:P.underlying T=some (.array 3 e)) (he:P.cellsOf e=1) (ha:∀ w,(isAgg e).run P w = .ok false w) (hs:∀ w,(sizeOf e).run P w = .ok 1 w)
 (h0:∀ w,(Op.equalIn d e x0 y0).run P w = .ok r0 w) (h1:∀ w,(Op.equalIn d e x1 y1).run P w = .ok r1 w) (h2:∀ w,(Op.equalIn d e x2 y2).run P w = .ok r2 w) (w:World) :
 (Op.equalIn (d+1) T (.agg #[x0,x1,x2]) (.agg #[y0,y1,y2])).run P w = .ok (r0&&r1&&r2) w:=by
 rw [Op.equalIn]
 simp only [Sem.run_bind,run_underlying hT,Result.andThen_ok,hs]
 simp only [Std.Legacy.Range.forIn_eq_forIn_range',Std.Legacy.Range.size,Nat.sub_zero,Nat.add_sub_cancel,Nat.div_one,List.range'_succ,List.range'_zero,List.forIn_cons,List.forIn_nil]
 simp [go_sem,ha,hs,h0,h1,h2]
 cases r0 <;> cases r1 <;> cases r2 <;> simp
theorem equal4 {P:Program} {T e:TypeId} {x0 x1 x2 x3 y0 y1 y2 y3:Value} {r0 r1 r2 r3:Bool} (d:Nat) (hT:P.underlying T=some (.array 4 e)) (he:P.cellsOf e=1) (ha:∀ w,(isAgg e).run P w = .ok false w) (hs:∀ w,(sizeOf e).run P w = .ok 1 w)
 (h0:∀ w,(Op.equalIn d e x0 y0).run P w = .ok r0 w) (h1:∀ w,(Op.equalIn d e x1 y1).run P w = .ok r1 w) (h2:∀ w,(Op.equalIn d e x2 y2).run P w = .ok r2 w) (h3:∀ w,(Op.equalIn d e x3 y3).run P w = .ok r3 w) (w:World) :
 (Op.equalIn (d+1) T (.agg #[x0,x1,x2,x3]) (.agg #[y0,y1,y2,y3])).run P w = .ok (r0&&r1&&r2&&r3) w:=by
 rw [Op.equalIn]
 simp only [Sem.run_bind,run_underlying hT,Result.andThen_ok,hs]
 simp only [Std.Legacy.Range.forIn_eq_forIn_range',Std.Legacy.Range.size,Nat.sub_zero,Nat.add_sub_cancel,Nat.div_one,List.range'_succ,List.range'_zero,List.forIn_cons,List.forIn_nil]
 simp [go_sem,ha,hs,h0,h1,h2,h3]
 cases r0 <;> cases r1 <;> cases r2 <;> cases r3 <;> simp
end Ab
namespace Ab
open Go.RowKit Pl
theorem guard_eq {T:TypeId} {xs ys:Array Value} {x y:Operand} (h:Tryz.prog.eqGuardType Tryz.prog.depth T=false) (w:World):(eqGuard .eql T x y (.agg xs) (.agg ys)).run Tryz.prog w = .ok () w:=by
 simp [eqGuard,Sem.run_bind,run_program,h]
theorem guard_ne {T:TypeId} {xs ys:Array Value} {x y:Operand} (h:Tryz.prog.eqGuardType Tryz.prog.depth T=false) (w:World):(eqGuard .neq T x y (.agg xs) (.agg ys)).run Tryz.prog w = .ok () w:=by
 simp [eqGuard,Sem.run_bind,run_program,h]
theorem agg_eq {o:Oper} {ρ:Operand→Value} {w:World} {x y:Operand} {xs ys:Array Value} {T T' : TypeId} {r:Bool} (hg:Tryz.prog.eqGuardType Tryz.prog.depth T=false) (h:(Op.equal T (.agg xs) (.agg ys)).run Tryz.prog w = .ok r w) (ho:o.op = .binOp .eql T x y T') (hx:ρ x = .agg xs) (hy:ρ y = .agg ys) :
 (execOp ρ o).run Tryz.prog w = .ok (.value (.bool r)) w:=by
 simp only [execOp,ho,hx,hy]
 refine bI ?_
 simp only [Sem.run_bind,guard_eq hg,Result.andThen_ok]
 show (do pure (Value.bool (← Op.equal T (.agg xs) (.agg ys))):Sem Value).run Tryz.prog w=_
 rw [Sem.run_bind,h]
 rfl
theorem agg_ne {o:Oper} {ρ:Operand→Value} {w:World} {x y:Operand} {xs ys:Array Value} {T T' : TypeId} {r:Bool} (hg:Tryz.prog.eqGuardType Tryz.prog.depth T=false) (h:(Op.equal T (.agg xs) (.agg ys)).run Tryz.prog w = .ok r w) (ho:o.op = .binOp .neq T x y T') (hx:ρ x = .agg xs) (hy:ρ y = .agg ys) :
 (execOp ρ o).run Tryz.prog w = .ok (.value (.bool (!r))) w:=by
 simp only [execOp,ho,hx,hy]
 refine bI ?_
 simp only [Sem.run_bind,guard_ne hg,Result.andThen_ok]
 show (do pure (Value.bool (!(← Op.equal T (.agg xs) (.agg ys)))):Sem Value).run Tryz.prog w=_
 rw [Sem.run_bind,h]
 rfl
theorem equalT (a b c x y z:ByteArray) (w:World):(Op.equal 25 (.agg #[.string a,.string b,.string c]) (.agg #[.string x,.string y,.string z])).run Tryz.prog w = .ok (a.toList==x.toList&&b.toList==y.toList&&c.toList==z.toList) w :=
 equal3 9999 (e:=22) (by kernel_rfl) (by kernel_rfl) (fun w=>by kernel_rfl) (fun w=>by kernel_rfl) (fun w=>run_equalIn_string w _ _ _ _ (by kernel_rfl)) (fun w=>run_equalIn_string w _ _ _ _ (by kernel_rfl)) (fun w=>run_equalIn_string w _ _ _ _ (by kernel_rfl)) w
theorem s3_is {a b c:ByteArray} {β:List Nat} {v:Value} {w:World} (h:(.fv (.ag [bV a,bV b,bV c]):AV Kn).holds β v w):v = .agg #[.string a,.string b,.string c]:=by
 obtain ⟨cs,rfl,x1,r1,rfl,h1,x2,r2,rfl,h2,x3,r3,rfl,h3,e⟩:=h
 rw [show r3 = [] from e,show x1=_ from h1,show x2=_ from h2,show x3=_ from h3]
 rfl
theorem l3_is {a b c:Value} {β:List Nat} {v:Value} {w:World} (h:(.fv (.ag [.lit a,.lit b,.lit c]):AV Kn).holds β v w):v = .agg #[a,b,c]:=by
 obtain ⟨cs,rfl,x1,r1,rfl,h1,x2,r2,rfl,h2,x3,r3,rfl,h3,e⟩:=h
 rw [show r3 = [] from e,h1.1,h2.1,h3.1]
 rfl
section
variable {f:FuncId} {w00:World} {Out:Value→World→Prop} {c:Cfg Kn}
theorem kv3 (x y:Operand) (a b d:ByteArray) (hg:Ok Tryz.prog f w00 Out (cK Tryz.prog 1000 (c.give (bl false))))
 (hc:(c.op.map fun o=>o.op,c.okT (bl false),c.ev x,c.ev y)=(some (.binOp .neq 25 x y 25),true,.fv (.ag [bV a,bV b,bV d]),.fv (.ag [bV a,bV b,bV d])):=by kernel_rfl):Ok Tryz.prog f w00 Out c :=
 xR (.binOp .neq 25 x y 25) x y _ _ (bl false) hc (by simp [Op.operands]) (by simp [Op.operands]) (fun ρ o β w ho hx hy=>⟨_,by
  have e:=equalT a b d a b d w
  simp only [beq_self_eq_true,Bool.and_self] at e
  exact agg_ne (by kernel_rfl) e ho (s3_is hx) (s3_is hy),bC rfl⟩) hg
theorem ktx (x y:Tmp) (s:ByteArray) (hg:Ok Tryz.prog f w00 Out (cK Tryz.prog 1000 (c.give (bl true))))
 (hc:(c.op.map fun o=>o.op,c.okT (bl true),c.ev (.tmp x),c.ev (.tmp y))=(some (.binOp .eql 22 (.tmp x) (.tmp y) 22),true,tx s,tx s):=by kernel_rfl):Ok Tryz.prog f w00 Out c :=
 xR (.binOp .eql 22 (.tmp x) (.tmp y) 22) (.tmp x) (.tmp y) _ _ (bl true) hc (by simp [Op.operands]) (by simp [Op.operands]) (fun ρ o β w ho hx hy=>⟨_,oT ho (aW hx) (aW hy) (beq_self_eq_true _),bC rfl⟩) hg
end
theorem cutPrefixNo {s:ByteArray} (h:Lib.hasPrefix s.data.toList [45]=false):jF 61 [tx s,lt ⟨#[45]⟩] (.tup [.sc (bV s),.sc (.lit (.bool false))]):=by
 intro β w vs hv
 obtain ⟨v,u,rfl,h1,h2⟩:=eG hv
 rw [aW h1,aO h2]
 have es:(⟨(Lib.trimPrefix s.data.toList [45]).toArray⟩:ByteArray)=s:=ba_ext (by unfold Lib.trimPrefix;rw [h];simp)
 refine (Tryz.strings_CutPrefix s ⟨#[45]⟩ w).mono fun e w' ⟨e1,e2⟩=>⟨_,e1,by rw [e2];exact aB _ _,?_⟩
 rw [show (⟨#[45]⟩:ByteArray).data.toList = [45] from rfl,es,h]
 exact ⟨[.string s,.bool false],rfl,_,_,rfl,bL (β:=β),_,_,rfl,⟨rfl,rfl⟩,rfl⟩
theorem ascii_two:∀ (j:Nat) (b:UInt8),(⟨#[47,46]⟩:ByteArray).data.toList[j]?=some b→b.toNat<128:=by
 intro j b h
 have:=List.mem_of_getElem? h
 simp at this
 rcases this with rfl|rfl <;> decide
theorem indexAnyF {s:ByteArray} {k:Int} (hs:s.size<4294967281) (ha:∀ (j:Nat) (b:UInt8),s.data.toList[j]?=some b→b.toNat<128) (h:Lib.indexAny s.data.toList [47,46]=k):jF 124 [tx s,lt ⟨#[47,46]⟩] (.fv (.sc (sK k))):=by
 intro β w vs hv
 obtain ⟨v,u,rfl,h1,h2⟩:=eG hv
 rw [aW h1,aO h2]
 refine (Tryz.strings_IndexAny_laid s ⟨#[47,46]⟩ w hs (by decide) ha ascii_two).mono fun e w' ⟨e1,e2⟩=>⟨_,e1,e2,?_⟩
 rw [show (⟨#[47,46]⟩:ByteArray).data.toList = [47,46] from rfl,h]
 exact bL
theorem repeatF {c:Nat} {z:ByteArray} (h2:2≤c) (hc:c≤100000) (hz:(⟨(Lib.repeatL [48] c).toArray⟩:ByteArray)=z):jF 126 [lt ⟨#[48]⟩,.fv (.sc (sK c))] (tx z):=by
 intro β w vs hv
 obtain ⟨v,u,rfl,h1,h3⟩:=eG hv
 rw [aO h1,aW h3]
 have hsz:(⟨#[48]⟩:ByteArray).size=1:=rfl
 refine (Tryz.strings_Repeat_main ⟨#[48]⟩ c w h2 (by omega) (by rw [hsz];omega) (by rw [hsz];omega)).mono fun e w' ⟨e1,e2⟩=>⟨_,e1,e2,?_⟩
 rw [show (⟨#[48]⟩:ByteArray).data.toList = [48] from rfl,hz]
 exact bL
section
variable {s a b z:ByteArray} {k:Nat}
theorem partsDot (hi:jF 124 [tx s,lt ⟨#[47,46]⟩] (.fv (.sc (sK k)))) (hk:k<s.size) (hs:s.size≤10000) (ha:s.extract 0 k=a) (hb:s.extract (k+1) s.size=b) (da:AllDig (aC a)) (da0:0<a.size) (db:AllDig (aC b)) (db0:0<b.size)
 (hdot:s[k]?=some 46) (hr:jF 126 [lt ⟨#[48]⟩,.fv (.sc (sK b.size))] (tx z)) (hz:z.size≤10000):jF 62 [tx s] (.tup [.sc (bV (a++b)),.sc (bV (⟨#[49]⟩++z)),.sc z0]):=by
 have hasz:a.size≤s.size:=by rw [← ha,ByteArray.size_extract];omega
 have hbsz:b.size≤s.size:=by rw [← hb,ByteArray.size_extract];omega
 refine jG Tryz.func62 fun w00=>?_
 refine jC 124 [tx s,lt ⟨#[47,46]⟩] (hi) ?_
 refine jK (.binOp .lss 3 (.tmp 10) (.const (.int .i64 0)) 3) (.tmp 10) (.const (.int .i64 0)) (.fv (.sc (sK k))) (it 0) (bl false) (fun ρ o β w ho hx hy=>⟨_,lss_run ho (aW hx) (aO hy) (by rw [decide_eq_false_iff_not];omega),bC rfl⟩) ?_
 refine jK (.slice 9 (.tmp 16) none (some (.tmp 17)) none) (.tmp 16) (.tmp 17) (tx s) (.fv (.sc (sK k))) (tx a) (fun ρ o β w ho hx hy=>?_) ?_
 ·have:=oE (w:=w) ho Tryz.underlying9 (aW hx) (aW hy) (by omega)
  rw [ha] at this
  exact ⟨_,this,bL⟩
 refine jK (.binOp .add 3 (.tmp 20) (.const (.int .i64 1)) 3) (.tmp 20) (.const (.int .i64 1)) (.fv (.sc (sK k))) (it 1) (.fv (.sc (sK ((k+1:Nat):Int)))) (fun ρ o β w ho hx hy=>⟨_,rW ho (aW hx) (aO hy) (by omega),bL⟩) ?_
 refine jK (.slice 9 (.tmp 19) (some (.tmp 21)) none none) (.tmp 19) (.tmp 21) (tx s) (.fv (.sc (sK ((k+1:Nat):Int)))) (tx b) (fun ρ o β w ho hx hy=>?_) ?_
 ·have:=oF (w:=w) ho Tryz.underlying9 (aW hx) (aW hy) (by omega)
  rw [hb] at this
  exact ⟨_,this,bL⟩
 refine jC 125 [tx a] (oU da da0) ?_
 refine jC 125 [tx b] (oU db db0) ?_
 refine jK (.index 9 (.tmp 33) (.tmp 34)) (.tmp 33) (.tmp 34) (tx s) (.fv (.sc (sK k))) (.fv (.sc (.lit (.int .u8 46)))) (fun ρ o β w ho hx hy=>⟨_,tD ho Tryz.underlying9 (aW hx) (aW hy) hdot,bC rfl⟩) ?_
 refine jK (.binOp .add 9 (.tmp 37) (.tmp 38) 9) (.tmp 37) (.tmp 38) (tx a) (tx b) (tx (a++b)) (fun ρ o β w ho hx hy=>⟨_,gV ho (aW hx) (aW hy) (by omega),bL⟩) ?_
 refine jO 40 b ?_
 refine jC 126 [lt ⟨#[48]⟩,.fv (.sc (sK b.size))] (hr) ?_
 refine jK (.binOp .add 9 (.const (.string ⟨#[49]⟩)) (.tmp 42) 9) (.const (.string ⟨#[49]⟩)) (.tmp 42) (lt ⟨#[49]⟩) (tx z) (tx (⟨#[49]⟩++z)) (fun ρ o β w ho hx hy=>⟨_,gV ho (aO hx) (aW hy) (by have:(⟨#[49]⟩:ByteArray).size=1:=rfl;omega),bL⟩) ?_
 exact jR Tryz.func62
theorem parseF' {n d:Nat} (hs:s.size≤4096) (hp:Lib.hasPrefix s.data.toList [45]=false) (hpt:jF 62 [tx s] (.tup [.sc (bV (decB n)),.sc (bV (decB d)),.sc z0])) (hn:(decB n).size≤100000) (hd:(decB d).size≤100000) (ln:Lv 40 n) (ld:Lv 40 d) (d0:0<d)
 (lq:Lf 20 (mkRat (sg false n) d)) (w1:(decB (mkRat (sg false n) d).num.natAbs).size≤600) (w2:(decB (mkRat (sg false n) d).den).size≤600):jX 18 [tx s] (.tup [.sc (bV (writeB (mkRat (sg false n) d))),.sc z0]):=by
 refine jY Tryz.func18 fun w00 hI=>?_
 refine jO 9 s ?_
 refine jM 10 s.size 4096 false (by rw [decide_eq_false_iff_not];omega) ?_
 refine jC 61 [tx s,lt ⟨#[45]⟩] (cutPrefixNo hp) ?_
 refine jC 62 [tx s] (hpt) ?_
 refine jC 64 [tx (decB n)] (dG hn) ?_
 refine jC 64 [tx (decB d)] (dG hd) ?_
 refine jC 63 [bl false,nt n,nt d] (oA ln ld d0) ?_
 refine jC 65 [fra (mkRat (sg false n) d)] (iT) ?_
 refine jW hI 66 [num (mkRat (sg false n) d)] (tC lq w1 w2) ?_
 exact jR Tryz.func18
end
end Ab
namespace Fr
open Go.RowKit Go.Shelf
attribute [local go_sem] Oper.semAt_some
def axV (x1 x2 x3 y1 y2 y3 z1 z2 z3:ByteArray):Fin 3→Value
 | 0 => .agg #[.string x1,.string x2,.string x3]
 | 1 => .agg #[.string y1,.string y2,.string y3]
 | 2 => .agg #[.string z1,.string z2,.string z3]
def axE (x1 x2 x3 y1 y2 y3 z1 z2 z3:ByteArray) (i:Fin 3):Array Value := #[.int .i64 ((i.val:Nat):Int),axV x1 x2 x3 y1 y2 y3 z1 z2 z3 i]
theorem ix0 (w:World) (x1 x2 x3 y1 y2 y3 z1 z2 z3:ByteArray):(Sem.run Tryz.prog (Instr.index 209 (.agg #[.string x1,.string x2,.string x3,.string y1,.string y2,.string y3,.string z1,.string z2,.string z3]) (.int .i64 0)) w) = .ok (.agg #[.string x1,.string x2,.string x3]) w:=by
 kernel_rfl
theorem ix1 (w:World) (x1 x2 x3 y1 y2 y3 z1 z2 z3:ByteArray):(Sem.run Tryz.prog (Instr.index 209 (.agg #[.string x1,.string x2,.string x3,.string y1,.string y2,.string y3,.string z1,.string z2,.string z3]) (.int .i64 1)) w) = .ok (.agg #[.string y1,.string y2,.string y3]) w:=by
 kernel_rfl
theorem ix2 (w:World) (x1 x2 x3 y1 y2 y3 z1 z2 z3:ByteArray):(Sem.run Tryz.prog (Instr.index 209 (.agg #[.string x1,.string x2,.string x3,.string y1,.string y2,.string y3,.string z1,.string z2,.string z3]) (.int .i64 2)) w) = .ok (.agg #[.string z1,.string z2,.string z3]) w:=by
 kernel_rfl
set_option maxRecDepth 100000 in
theorem axes1_in (F:Fence) (n:Nat) (h8:F.fn 164) (hro:F.round=none) (hn:1≤n) (l Bf n₀:Nat) (o1 o2 o3 x1 x2 x3 y1 y2 y3 z1 z2 z3:ByteArray) (J Jx:List (Fin 3)→World→Prop)
 (hY:∀ pre x W,J pre W→pre.length<3→YieldAt F (n-1) Tryz.prog l (axE x1 x2 x3 y1 y2 y3 z1 z2 z3 x) W fun e W' =>
  (e = .returned (.bool true)∧J (pre ++ [x]) W'∧Below n₀ W W')∨(e = .returned (.bool false)∧Jx (pre ++ [x]) W'))
 (W:World) (hJ:AbidesFrom W.heap.size J) (hn0:n₀≤W.heap.size) (hB:W.heap[Bf]?=some (.cells #[.string o1,.string o2,.string o3,.string x1,.string x2,.string x3,.string y1,.string y2,.string y3,.string z1,.string z2,.string z3] 32 (0,0))) (h0:J [] W) :
 CallsIn F n Tryz.prog 164 #[.func (.yield l) #[] #[],.pointer (some ⟨Bf,0,none⟩)] W fun e W'=>(∃ v,e = .returned v) ∧
  ((∃ ys,ys = [0,1,2]∧J ys W')∨(∃ pre,True∧Jx pre W')):=by
 refine callsIn_of_wp Tryz.func164 rfl h8 ?_ hro
 simp only [Tryz.ntmps164,List.size_toArray,List.length_cons,List.length_nil,Nat.reduceAdd,Nat.reduceSub,Array.replicate_succ,Array.replicate_zero,List.push_toArray,List.append_toArray,List.nil_append,List.cons_append]
 have c3:W.cell? ⟨Bf,3,none⟩=some (.string x1):=by simp [World.cell?,hB]
 have c4:W.cell? ⟨Bf,4,none⟩=some (.string x2):=by simp [World.cell?,hB]
 have c5:W.cell? ⟨Bf,5,none⟩=some (.string x3):=by simp [World.cell?,hB]
 have c6:W.cell? ⟨Bf,6,none⟩=some (.string y1):=by simp [World.cell?,hB]
 have c7:W.cell? ⟨Bf,7,none⟩=some (.string y2):=by simp [World.cell?,hB]
 have c8:W.cell? ⟨Bf,8,none⟩=some (.string y3):=by simp [World.cell?,hB]
 have c9:W.cell? ⟨Bf,9,none⟩=some (.string z1):=by simp [World.cell?,hB]
 have c10:W.cell? ⟨Bf,10,none⟩=some (.string z2):=by simp [World.cell?,hB]
 have c11:W.cell? ⟨Bf,11,none⟩=some (.string z3):=by simp [World.cell?,hB]
 clear hB
 gi_wp2
 gi_loopw [12] (fun i wr=>(i = .int .i64 0∧J [] wr∨i = .int .i64 1∧J [0] wr∨i = .int .i64 2∧J [0,1] wr∨i = .int .i64 3∧J [0,1,2] wr)∧n₀≤wr.heap.size) (fun i _=>3-(intOf i).toNat)
 case atStart=>exact ⟨.inl ⟨rfl,h0⟩,hn0⟩
 case round =>
  obtain ⟨hc,hnr⟩:=hrel
  rcases hc with ⟨rfl,hJs⟩|⟨rfl,hJs⟩|⟨rfl,hJs⟩|⟨rfl,hJs⟩
  ·have hix:=ix0 wr x1 x2 x3 y1 y2 y3 z1 z2 z3
   have hJa:=hJ [] wr (wr.alloc (.cells #[.string x1,.string x2,.string x3] 25)) none hJs (World.grownBy_alloc _ _ none) (fun r e=>by cases e)
   obtain ⟨fn,tmps,assign,body,hy,hR⟩:=hY [] 0 _ hJa (by simp)
   change (Sem.run Tryz.prog (Instr.yield l #[.int .i64 0,.agg #[.string x1,.string x2,.string x3]]) _)=_ at hy
   gi_wp2
   refine hR.mono ?_
   rintro e W3 (⟨rfl,hJ3,hk3⟩|⟨rfl,hJx3⟩)
   ·have hs3:n₀≤W3.heap.size:=by have:=hk3.size;simp at this;omega
    gi_wp2
    go_roundw
    case rel=>exact ⟨.inr (.inl ⟨rfl,hJ3⟩),hs3⟩
    case measure=>simp [intOf]
   ·gi_wp2
    refine bodyPost_ret (results_none rfl _ _ _) rfl ?_
    exact ⟨⟨_,rfl⟩,.inr ⟨_,trivial,hJx3⟩⟩
  ·have hix:=ix1 wr x1 x2 x3 y1 y2 y3 z1 z2 z3
   have hJa:=hJ [0] wr (wr.alloc (.cells #[.string y1,.string y2,.string y3] 25)) none hJs (World.grownBy_alloc _ _ none) (fun r e=>by cases e)
   obtain ⟨fn,tmps,assign,body,hy,hR⟩:=hY [0] 1 _ hJa (by simp)
   change (Sem.run Tryz.prog (Instr.yield l #[.int .i64 1,.agg #[.string y1,.string y2,.string y3]]) _)=_ at hy
   gi_wp2
   refine hR.mono ?_
   rintro e W3 (⟨rfl,hJ3,hk3⟩|⟨rfl,hJx3⟩)
   ·have hs3:n₀≤W3.heap.size:=by have:=hk3.size;simp at this;omega
    gi_wp2
    go_roundw
    case rel=>exact ⟨.inr (.inr (.inl ⟨rfl,hJ3⟩)),hs3⟩
    case measure=>simp [intOf]
   ·gi_wp2
    refine bodyPost_ret (results_none rfl _ _ _) rfl ?_
    exact ⟨⟨_,rfl⟩,.inr ⟨_,trivial,hJx3⟩⟩
  ·have hix:=ix2 wr x1 x2 x3 y1 y2 y3 z1 z2 z3
   have hJa:=hJ [0,1] wr (wr.alloc (.cells #[.string z1,.string z2,.string z3] 25)) none hJs (World.grownBy_alloc _ _ none) (fun r e=>by cases e)
   obtain ⟨fn,tmps,assign,body,hy,hR⟩:=hY [0,1] 2 _ hJa (by simp)
   change (Sem.run Tryz.prog (Instr.yield l #[.int .i64 2,.agg #[.string z1,.string z2,.string z3]]) _)=_ at hy
   gi_wp2
   refine hR.mono ?_
   rintro e W3 (⟨rfl,hJ3,hk3⟩|⟨rfl,hJx3⟩)
   ·have hs3:n₀≤W3.heap.size:=by have:=hk3.size;simp at this;omega
    gi_wp2
    go_roundw
    case rel=>exact ⟨.inr (.inr (.inr ⟨rfl,hJ3⟩)),hs3⟩
    case measure=>simp [intOf]
   ·gi_wp2
    refine bodyPost_ret (results_none rfl _ _ _) rfl ?_
    exact ⟨⟨_,rfl⟩,.inr ⟨_,trivial,hJx3⟩⟩
  ·gi_wp2
   go_end0
   exact ⟨⟨_,rfl⟩,.inl ⟨_,rfl,hJs⟩⟩
theorem axes_stops (F:Fence) (n:Nat) (h8:F.fn 164) (hro:F.round=none) (hn:1≤n) (Bf n₀:Nat) (o1 o2 o3 x1 x2 x3 y1 y2 y3 z1 z2 z3:ByteArray) (w:World) (hn0:n₀≤w.heap.size)
 (hB:w.heap[Bf]?=some (.cells #[.string o1,.string o2,.string o3,.string x1,.string x2,.string x3,.string y1,.string y2,.string y3,.string z1,.string z2,.string z3] 32 (0,0))) :
 SeqStopsK F n Tryz.prog 164 #[.pointer (some ⟨Bf,0,none⟩)] (axE x1 x2 x3 y1 y2 y3 z1 z2 z3) (Below n₀) (fun ys=>ys = [0,1,2]) (fun _=>True) 3 w:=fun l J Jx W hW hJ _ hY h0 =>
 axes1_in F n h8 hro hn l Bf n₀ o1 o2 o3 x1 x2 x3 y1 y2 y3 z1 z2 z3 J Jx hY W hJ (Nat.le_trans hn0 hW.size) ((hW.block Bf (by rcases Nat.lt_or_ge Bf w.heap.size with h|h;exact h;rw [Array.getElem?_eq_none h] at hB;cases hB)).trans hB) h0
theorem axes_any (o1 o2 o3 x1 x2 x3 y1 y2 y3 z1 z2 z3:ByteArray) (w:World):Calls Tryz.prog 106 #[.agg #[.string o1,.string o2,.string o3,.string x1,.string x2,.string x3,.string y1,.string y2,.string y3,.string z1,.string z2,.string z3]] w fun e w' =>
 e = .returned (.func (.func 164) #[] #[.pointer (some ⟨w.heap.size,0,none⟩)])∧w'=w.alloc (.cells #[.string o1,.string o2,.string o3,.string x1,.string x2,.string x3,.string y1,.string y2,.string y3,.string z1,.string z2,.string z3] 32 (0,0)):=by
 refine (callsIn_wide (n:=3)).1 ?_
 refine callsIn_of_wp Tryz.func106 rfl trivial ?_ rfl
 simp only [Tryz.ntmps106,List.size_toArray,List.length_cons,List.length_nil,Nat.reduceAdd,Nat.reduceSub,Array.replicate_succ,Array.replicate_zero,List.push_toArray,List.append_toArray,List.nil_append,List.cons_append]
 gi_wp2
 refine bodyPost_ret (results_tmp rfl _ _ _) rfl ?_
 exact ⟨rfl,rfl⟩
end Fr
namespace Fr
open Go.RowKit Go.Shelf Ab Pl
structure C9 where
 n1:Int
 d1:Int
 p1:Option Addr
 n2:Int
 d2:Int
 p2:Option Addr
 n3:Int
 d3:Int
 p3:Option Addr
def C9.cells (k:C9):List Value := [.int .i64 k.n1,.int .i64 k.d1,.pointer k.p1,.int .i64 k.n2,.int .i64 k.d2,.pointer k.p2,.int .i64 k.n3,.int .i64 k.d3,.pointer k.p3]
def C9.val (k:C9):Value := .agg #[.int .i64 k.n1,.int .i64 k.d1,.pointer k.p1,.int .i64 k.n2,.int .i64 k.d2,.pointer k.p2,.int .i64 k.n3,.int .i64 k.d3,.pointer k.p3]
def C9.zero:C9:=⟨0,0,none,0,0,none,0,0,none⟩
theorem vc9 {w:World} {v:Value} {a b c:Rat} (h:Vc w v a b c):∃ k:C9,v=k.val∧Vc w k.val a b c:=by
 obtain ⟨n1,d1,p1,n2,d2,p2,n3,d3,p3,rfl,h1,h2,h3⟩:=h
 exact ⟨⟨n1,d1,p1,n2,d2,p2,n3,d3,p3⟩,rfl,n1,d1,p1,n2,d2,p2,n3,d3,p3,rfl,h1,h2,h3⟩
theorem sC {β:List Nat} {w:World} {k:C9} {a b c:Rat} (h:Vc w k.val a b c):holdsL β [nb a,nb b,nb c] k.cells w:=by
 obtain ⟨cs,e,hl⟩:=(wU (β:=β)).2 h
 injection e with e
 have e:=congrArg Array.toList e
 have e:k.cells=cs:=e
 rw [e]
 exact hl
def fG (o x y z:C9):List Value:=o.cells++x.cells++y.cells++z.cells
theorem kV {a b c:Rat} (h:mH a b c) (w:World) (hG:Gl w):Calls Tryz.prog 31 #[.agg #[.string (writeB a),.string (writeB b),.string (writeB c)]] w fun e w' => ∃ k:C9,e = .returned (.tuple #[k.val,.int .i64 0])∧Vc w' k.val a b c∧Below w.heap.size w w':=by
 refine (gC h [] w [.agg #[.string (writeB a),.string (writeB b),.string (writeB c)]] hG ⟨_,_,rfl,⟨[.string (writeB a),.string (writeB b),.string (writeB c)],rfl,[.string (writeB a)],_,rfl,rfl,[.string (writeB b)],_,rfl,rfl,[.string (writeB c)],_,rfl,rfl,rfl⟩,rfl⟩).mono ?_
 rintro e w' ⟨v,e1,e2,vs,rfl,u,r,rfl,h1,u2,r2,rfl,h2,h3⟩
 obtain ⟨k,rfl,h4⟩:=vc9 (wU.1 h1)
 have h5:[u2] = [.int .i64 0]:=h2.1
 injection h5 with h5
 rw [show r2 = [] from h3,h5] at e1
 exact ⟨k,e1,h4,e2⟩
section
variable {o1 o2 o3 x1 x2 x3 y1 y2 y3 z1 z2 z3:Rat}
theorem fr_holds {β:List Nat} {w:World} {o x y z:C9} (ho:Vc w o.val o1 o2 o3) (hx:Vc w x.val x1 x2 x3) (hy:Vc w y.val y1 y2 y3) (hz:Vc w z.val z1 z2 z3) :
 (lS o1 o2 o3 x1 x2 x3 y1 y2 y3 z1 z2 z3).holds β (.agg (fG o x y z).toArray) w :=
 ⟨fG o x y z,rfl,(((sC ho).append (sC hx)).append (sC hy)).append (sC hz)⟩
theorem check_any {w:World} {o x y z:C9} (ho:Vc w o.val o1 o2 o3) (hx:Vc w x.val x1 x2 x3) (hy:Vc w y.val y1 y2 y3) (hz:Vc w z.val z1 z2 z3) (l:Lm 25 x1 x2 x3 y1 y2 y3 z1 z2 z3) (h:Ax x1 x2 x3 y1 y2 y3 z1 z2 z3) :
 Calls Tryz.prog 107 #[.agg (fG o x y z).toArray] w fun e w'=>e = .returned (.int .i64 0)∧Below w.heap.size w w':=by
 refine (checkF (o1:=o1) (o2:=o2) (o3:=o3) l h [] w [.agg (fG o x y z).toArray] ⟨_,_,rfl,fr_holds ho hx hy hz,rfl⟩).mono ?_
 rintro e w' ⟨v,e1,e2,h1⟩
 have h5:[v] = [.int .i64 0]:=h1.1
 injection h5 with h5
 exact ⟨by rw [e1,h5],e2⟩
end
attribute [local go_sem] Oper.semAt_some
theorem yA {P:Program} {ops:Array Oper} {rest:List Oper} {o:Oper} {a:Act} {w:World} {Q:Exit→Act→World→Prop} (hg:o.guard=none) (t:TypeId) (parts:Array (Nat×Operand)) (ho:o.op = .build t parts) (cs:Array Value)
 (hb:P.built t (parts.map fun (i,x)=>(i,a.eval x)).toList=some cs) (h:wpList P ops Q rest (a.put o.dst (.agg cs)) w):wpList P ops Q (o::rest) a w :=
 wpList_build hg t parts ho (by rw [hb];rfl) (by rw [hb];exact h)
theorem store_new3 {P:Program} {ops:Array Oper} {rest:List Oper} {o:Oper} {a:Act} {Q:Exit→Act→World→Prop} (hgd:o.guard=none) (ty:TypeId) (x y:Operand) (ho:o.op = .store ty x y) (w1:World) (A B:Obj) (old cells:Array Value)
 (hx:a.eval x = .pointer (some ⟨w1.heap.size+1+1,0,none⟩)) (hy:a.eval y = .agg cells) (hi:(P.info? ty).map (·.size)=some cells.size) (hold:old.size=cells.size) (h1:cells.all (·.oneCell')=true)
 (h:∀ W3:World,W3.heap.size=w1.heap.size+3→Below w1.heap.size w1 W3→W3.heap[w1.heap.size]?=some A→W3.heap[w1.heap.size+1]?=some B→W3.heap[w1.heap.size+2]?=some (.cells cells ty (0,0))→wpList P ops Q rest (a.put o.dst undef) W3) :
 wpList P ops Q (o::rest) a (((w1.alloc A).alloc B).alloc (.cells old ty (0,0))):=by
 have hg:(((w1.alloc A).alloc B).alloc (.cells old ty (0,0))).heap[w1.heap.size+1+1]?=some (.cells old ty (0,0)):=by
  have:=World.alloc_heap_new ((w1.alloc A).alloc B) (.cells old ty (0,0))
  rwa [World.size_alloc,World.size_alloc] at this
 refine wpList_store_row hgd ty x y ho (w1.heap.size+1+1) cells hx hy ty old hg hi hold h1 (h _ (by rw [setRow_size];simp) ?_ ?_ ?_ (setRow_heap _ _ _ _ _ _ hg))
 ·exact below_setRow ((((aB _ w1).alloc (aR _) _).alloc (by simp) _).alloc (by simp;omega) _) (by omega) _
 ·rw [setRow_other _ _ _ _ (by omega)]
  exact (Below.heap_alloc _ _ _ (by simp;omega)).trans ((Below.heap_alloc _ _ _ (by simp)).trans (World.alloc_heap_new w1 A))
 ·rw [setRow_other _ _ _ _ (by omega)]
  refine (Below.heap_alloc _ _ _ (by simp)).trans ?_
  have:=World.alloc_heap_new (w1.alloc A) B
  rwa [World.size_alloc] at this
structure Stopped (p:Prop):Prop where
 out:p
theorem stop_store {P:Program} {ops:Array Oper} {rest:List Oper} {o:Oper} {a:Act} {w:World} {Q:Exit→Act→World→Prop} (ty:TypeId) (x y:Operand) (ho:o.op = .store ty x y) (h:Stopped (wpList P ops Q (o::rest) a w)):wpList P ops Q (o::rest) a w:=h.out
theorem tP {W W' : World} {row:Option Nat} (hg:W.grownBy W' row) (hrow:∀ r,row=some r→∃ o:Obj,W.heap[r]?=some o∧o.isCells=false):Go.Proofs.YtjijolobkpcpnaaGreatDoor.Ext Kn W W':=by
 refine ⟨hg.size,fun g o h ho=>?_⟩
 have hc:o.isCells=true:=by cases o <;> first|rfl|(simp [Go.Proofs.YtjijolobkpcpnaaGreatDoor.hotObj] at ho)
 exact (grownBy_keeps_cells hg hrow h hc).trans h
theorem Vc.kext {w w' : World} {v:Value} {a b c:Rat} (h:Vc w v a b c) (hx:Go.Proofs.YtjijolobkpcpnaaGreatDoor.Ext Kn w w'):Vc w' v a b c:=h.ext (fun _=>rfl) (fun _=>rfl) hx
theorem load_all {P:Program} {ρ:Operand→Value} {o:Oper} {w:World} {T T' : TypeId} {x:Operand} {g:Nat} {cs:List Value} {d:TypeDesc} (ho:o.op = .load T x) (hx:ρ x = .pointer (some ⟨g,0,none⟩)) (hg:w.heap[g]?=some (.cells cs.toArray T' (0,0)))
 (hd:P.underlying T=some d) (hr:d.isRow=true) (hi:(P.info? T).map (·.size)=some cs.length):(execOp ρ o).run P w = .ok (.value (.agg cs.toArray)) w:=by
 have h:=run_loadVar_mid w g 0 T ((cs.drop 0).take cs.length) d (qO hg 0 cs.length) hd hr (by rw [hi,List.drop_zero,List.take_length])
 rw [List.drop_zero,List.take_length] at h
 simp only [execOp,ho,Instr.loadAt,hx,Instr.sureAddr]
 exact bI (by simpa [Sem.run_bind] using h)
theorem frL_one (o x y z:C9):∀ c∈fG o x y z,c.oneCell'=true:=by
 have h:(fG o x y z).all (·.oneCell')=true:=rfl
 exact fun c hc=>List.all_eq_true.1 h c hc
theorem fin3:∀ x:Fin 3,x=0∨x=1∨x=2:=by decide
theorem sD {w:World} {b i:Nat} {v:Value} (hlt:b<w.heap.size) (h:w.cell? ⟨b,i,none⟩=some v) (o:Obj):(w.alloc o).cell? ⟨b,i,none⟩=some v :=
 (((aB _ w).alloc (aR _) o).cell (p:=⟨b,i,none⟩) hlt).trans h
theorem gH {w:World} {b i:Nat} {cs:Array Value} {t:TypeId} (hlt:b<w.heap.size) (h:w.heap[b]?=some (.cells cs t (0,0))) (o:Obj):(w.alloc o).frozen? ⟨b,i,none⟩=false :=
 aY ((((aB _ w).alloc (aR _) o).block b hlt).trans h) i
theorem sE {n g:Nat} {o:Obj} {A X Y:World} (hb:Below n A X) (h:Turned g o X Y) (hn:n≤g):Below n A Y :=
 ⟨h.os.trans hb.os,h.tape.trans hb.tape,h.output.trans hb.output,by rw [h.size];exact hb.size,fun k hk=>(h.block k (by omega)).trans (hb.block k hk)⟩
theorem sG {g S:Nat} {o o0:Obj} {X Y:World} (h:Turned g o X Y) (h0:X.heap[g]?=some o0) (hc:o0.isCells=true):KeepsFrom S X Y:=by
 refine ⟨by rw [h.size];exact aR _,fun k o' _ hk ho=>?_⟩
 have:k≠g:=by
  rintro rfl
  rw [h0] at hk
  injection hk with hk
  rw [hk,ho] at hc
  cases hc
 exact (h.block k this).trans hk
theorem fH {S:Nat} {W W' : World} (h:Below W.heap.size W W'):KeepsFrom S W W':=⟨h.size,fun k o _ hk _=>(h.block k (Array.getElem?_eq_some_iff.1 hk).1).trans hk⟩
section
variable {w:World} {k:C9} {B E R:Nat} {o1 o2 o3 x1 x2 x3 y1 y2 y3 z1 z2 z3:Rat}
theorem mF (o x y z:C9) (T:TypeId):Go.Proofs.YtjijolobkpcpnaaGreatDoor.hotObj Kn (.cells (fG o x y z).toArray T (0,0))=false:=by simp [Go.Proofs.YtjijolobkpcpnaaGreatDoor.hotObj,fG,C9.cells,Kn]
theorem turn9 {w:World} {B:Nat} {T:TypeId} {cs cs' : Array Value} (off:Nat) (h:w.heap[B]?=some (.cells cs T (0,0))) (u0 u1 u2 u3 u4 u5 u6 u7 u8:Value)
 (e:((((((((cs.setIfInBounds off u0).setIfInBounds (off+1) u1).setIfInBounds (off+2) u2).setIfInBounds (off+3) u3).setIfInBounds (off+4) u4).setIfInBounds (off+5) u5).setIfInBounds (off+6) u6).setIfInBounds (off+7) u7).setIfInBounds (off+8) u8=cs') :
 Turned B (.cells cs' T (0,0)) w (((((((((w.setCell ⟨B,off,none⟩ u0).setCell ⟨B,off+1,none⟩ u1).setCell ⟨B,off+2,none⟩ u2).setCell ⟨B,off+3,none⟩ u3).setCell ⟨B,off+4,none⟩ u4).setCell ⟨B,off+5,none⟩ u5).setCell ⟨B,off+6,none⟩ u6).setCell ⟨B,off+7,none⟩ u7).setCell ⟨B,off+8,none⟩ u8):=by
 subst e
 have t0:=cR (i:=off) h u0
 have t1:=t0.trans (cR (i:=off+1) t0.at_ u1)
 have t2:=t1.trans (cR (i:=off+2) t1.at_ u2)
 have t3:=t2.trans (cR (i:=off+3) t2.at_ u3)
 have t4:=t3.trans (cR (i:=off+4) t3.at_ u4)
 have t5:=t4.trans (cR (i:=off+5) t4.at_ u5)
 have t6:=t5.trans (cR (i:=off+6) t5.at_ u6)
 have t7:=t6.trans (cR (i:=off+7) t6.at_ u7)
 exact t7.trans (cR (i:=off+8) t7.at_ u8)
end
end Fr
section
open Go.RowKit Pl
end
namespace Ab
open Go.RowKit Pl
end Ab
namespace Ab
open Go.RowKit Pl
def f2 (x y:Int):Int:=if x=0 then y else x
def f3 (x y z:Int):Int:=f2 x (f2 y z)
abbrev Ev (z:Int):Prop:=z=0∨z=1∨z=4
theorem f2_ev {x y:Int} (hx:Ev x) (hy:Ev y):Ev (f2 x y):=by unfold f2;split <;> assumption
abbrev lz (z:Int):Seg Kn := .lit (.int .i64 z)
theorem first2Any {T:TypeId} {x y z:Int} (hx:Ev x) (hy:Ev y) (hz:f2 x y=z):jF 74 [.fv (.nsl 2 T [lz x,lz y])] (it z):=by
 rcases hx with rfl|rfl|rfl
 ·have hz:y=z:=hz
  subst hz
  rcases hy with rfl|rfl|rfl <;> (refine kgoS Tryz.func74 (by kernel_rfl) fun w00=>?_;exact kret Tryz.func74 (by kernel_rfl))
 ·have hz:1=z:=hz
  subst hz
  refine kgoS Tryz.func74 (by kernel_rfl) fun w00=>?_
  exact jR Tryz.func74
 ·have hz:4=z:=hz
  subst hz
  refine kgoS Tryz.func74 (by kernel_rfl) fun w00=>?_
  exact jR Tryz.func74
abbrev c3 (a b c:ByteArray):Int:=f3 (fN a) (fN b) (fN c)
end Ab
namespace Fr
open Go.RowKit Go.Shelf Ab Pl
attribute [local go_sem] Oper.semAt_some
def m9 (m:C9):Obj := .cells #[.int .i64 m.n1,.int .i64 m.d1,.pointer m.p1,.int .i64 m.n2,.int .i64 m.d2,.pointer m.p2,.int .i64 m.n3,.int .i64 m.d3,.pointer m.p3] 69 (0,0)
def st9 (X:World) (B a b c d e f g h i:Nat) (m:C9):World:=((((((((X.setCell ⟨B,a,none⟩ (.int .i64 m.n1)).setCell ⟨B,b,none⟩ (.int .i64 m.d1)).setCell ⟨B,c,none⟩ (.pointer m.p1)).setCell ⟨B,d,none⟩ (.int .i64 m.n2)).setCell ⟨B,e,none⟩ (.int .i64 m.d2)).setCell ⟨B,f,none⟩ (.pointer m.p2)).setCell ⟨B,g,none⟩ (.int .i64 m.n3)).setCell ⟨B,h,none⟩ (.int .i64 m.d3)).setCell ⟨B,i,none⟩ (.pointer m.p3)
abbrev N9 (cs:Array Value) (t:C9) (a b c d e f g h i:Nat):Prop:=cs[a]?=some (.int .i64 t.n1)∧cs[b]?=some (.int .i64 t.d1)∧cs[c]?=some (.pointer t.p1)∧cs[d]?=some (.int .i64 t.n2)∧cs[e]?=some (.int .i64 t.d2)∧cs[f]?=some (.pointer t.p2)∧cs[g]?=some (.int .i64 t.n3)∧cs[h]?=some (.int .i64 t.d3)∧cs[i]?=some (.pointer t.p3)
theorem up9 {w:World} {B a b c d e f g h i:Nat} {cs:Array Value} {T:TypeId} (t:C9) (hlt:B<w.heap.size) (hb:w.heap[B]?=some (.cells cs T (0,0))) (hc:N9 cs t a b c d e f g h i):(∀ o,(w.alloc o).cell? ⟨B,a,none⟩=some (.int .i64 t.n1))∧(∀ o,(w.alloc o).frozen? ⟨B,a,none⟩=false)∧(∀ o,(w.alloc o).cell? ⟨B,b,none⟩=some (.int .i64 t.d1))∧(∀ o,(w.alloc o).frozen? ⟨B,b,none⟩=false)∧(∀ o,(w.alloc o).cell? ⟨B,c,none⟩=some (.pointer t.p1))∧(∀ o,(w.alloc o).frozen? ⟨B,c,none⟩=false)∧(∀ o,(w.alloc o).cell? ⟨B,d,none⟩=some (.int .i64 t.n2))∧(∀ o,(w.alloc o).frozen? ⟨B,d,none⟩=false)∧(∀ o,(w.alloc o).cell? ⟨B,e,none⟩=some (.int .i64 t.d2))∧(∀ o,(w.alloc o).frozen? ⟨B,e,none⟩=false)∧(∀ o,(w.alloc o).cell? ⟨B,f,none⟩=some (.pointer t.p2))∧(∀ o,(w.alloc o).frozen? ⟨B,f,none⟩=false)∧(∀ o,(w.alloc o).cell? ⟨B,g,none⟩=some (.int .i64 t.n3))∧(∀ o,(w.alloc o).frozen? ⟨B,g,none⟩=false)∧(∀ o,(w.alloc o).cell? ⟨B,h,none⟩=some (.int .i64 t.d3))∧(∀ o,(w.alloc o).frozen? ⟨B,h,none⟩=false)∧(∀ o,(w.alloc o).cell? ⟨B,i,none⟩=some (.pointer t.p3))∧(∀ o,(w.alloc o).frozen? ⟨B,i,none⟩=false):=by
 obtain ⟨c0,c1,c2,c3,c4,c5,c6,c7,c8⟩:=hc
 have k:∀ {j:Nat} {v:Value},cs[j]?=some v→∀ o,(w.alloc o).cell? ⟨B,j,none⟩=some v:=fun hj=>sD hlt (by simp [World.cell?,hb,hj])
 exact ⟨k c0,gH hlt hb,k c1,gH hlt hb,k c2,gH hlt hb,k c3,gH hlt hb,k c4,gH hlt hb,k c5,gH hlt hb,k c6,gH hlt hb,k c7,gH hlt hb,k c8,gH hlt hb⟩
def RV (a b c:Rat) (z:Int) (W:World) (e:Ending) (w' : World):Prop := ∃ k:C9,e = .returned (.tuple #[k.val,.int .i64 z])∧Vc w' k.val a b c∧Below W.heap.size W w'
theorem qJ {x y z:Int} (hx:Ev x) (hy:Ev y) (hz:f2 x y=z) (w:World) (g:Nat) (T:TypeId) (hh:w.heap[g]?=some (.cells #[.int .i64 x,.int .i64 y] T (0,0))):Calls Tryz.prog 74 #[.slice (some ⟨g,0,none⟩) 2 2] w fun e w'=>e = .returned (.int .i64 z)∧Below w.heap.size w w':=by
 refine (first2Any (T:=T) hx hy hz [] w [.slice (some ⟨g,0,none⟩) 2 2] ⟨_,_,rfl,⟨g,[.int .i64 x,.int .i64 y],rfl,hh,[.int .i64 x],_,rfl,⟨rfl,rfl⟩,[.int .i64 y],_,rfl,⟨rfl,rfl⟩,rfl⟩,rfl⟩).mono ?_
 rintro e w' ⟨v,e1,e2,h1⟩
 have h5:[v] = [.int .i64 z]:=h1.1
 injection h5 with h5
 exact ⟨by rw [e1,h5],e2⟩
def InvE (ev:List (Fin 3)→Int) (w:World) (k:C9) (B E R:Nat) (o1 o2 o3 x1 x2 x3 y1 y2 y3 z1 z2 z3:Rat) (pre:List (Fin 3)) (W:World):Prop :=
 ∃ x y z:C9,W.heap[B]?=some (.cells (fG k x y z).toArray 81 (0,0))∧((0:Fin 3)∈pre→Vc W x.val x1 x2 x3)∧((1:Fin 3)∈pre→Vc W y.val y1 y2 y3)∧((2:Fin 3)∈pre→Vc W z.val z1 z2 z3) ∧
   W.heap[E]?=some (.cells #[.int .i64 (ev pre)] 33 (0,0))∧W.heap[R]?=some (.cells (fG C9.zero C9.zero C9.zero C9.zero).toArray 81 (0,0))∧Vc W k.val o1 o2 o3∧Below w.heap.size w W
section
variable {w:World} {k:C9} {B E R:Nat} {o1 o2 o3 x1 x2 x3 y1 y2 y3 z1 z2 z3:Rat}
theorem oL {u v:Int} {W w2 X1 w5:World} {a b c a' b' c' : C9} {o9 o2:Obj} {S n:Nat} (hbl:Below W.heap.size W w2) (hB:W.heap[B]?=some (.cells (fG k a b c).toArray 81 (0,0))) (hE:W.heap[E]?=some (.cells #[.int .i64 u] 33 (0,0))) (hEB:¬ E=B)
 (hT:Turned B (.cells (fG k a' b' c').toArray 81 (0,0)) (w2.alloc o9) X1) (h5:Below (X1.alloc o2).heap.size (X1.alloc o2) w5) (hn:n≤W.heap.size) (hnB:n≤B) (hnE:n≤E) :
 (w5.setCell ⟨E,0,none⟩ (.int .i64 v)).heap[B]?=some (.cells (fG k a' b' c').toArray 81 (0,0))∧(w5.setCell ⟨E,0,none⟩ (.int .i64 v)).heap[E]?=some (.cells #[.int .i64 v] 33 (0,0)) ∧
 (∀ g,g<W.heap.size→¬ g=B→¬ g=E→(w5.setCell ⟨E,0,none⟩ (.int .i64 v)).heap[g]?=W.heap[g]?)∧Go.Proofs.YtjijolobkpcpnaaGreatDoor.Ext Kn w2 (w5.setCell ⟨E,0,none⟩ (.int .i64 v))∧Go.Proofs.YtjijolobkpcpnaaGreatDoor.Ext Kn W w2∧KeepsFrom S W (w5.setCell ⟨E,0,none⟩ (.int .i64 v))∧Below n W (w5.setCell ⟨E,0,none⟩ (.int .i64 v)):=by
 have hBlt:=(Array.getElem?_eq_some_iff.1 hB).1
 have hElt:=(Array.getElem?_eq_some_iff.1 hE).1
 have hs2:=hbl.size
 have ba:Below w2.heap.size w2 (w2.alloc o9):=(aB _ _).alloc (aR _) _
 have sa:(w2.alloc o9).heap.size=w2.heap.size+1:=by simp
 have hBa:(w2.alloc o9).heap[B]?=some (.cells (fG k a b c).toArray 81 (0,0)):=(ba.block B (by omega)).trans ((hbl.block B hBlt).trans hB)
 have sx:X1.heap.size=w2.heap.size+1:=hT.size.trans sa
 have bb:Below X1.heap.size X1 (X1.alloc o2):=(aB _ _).alloc (aR _) _
 have sb:(X1.alloc o2).heap.size=w2.heap.size+2:=by simp [sx]
 have hs5:=h5.size
 have keep:∀ g,g<W.heap.size→¬ g=B→w5.heap[g]?=W.heap[g]?:=fun g hg hne=>(h5.block g (by omega)).trans ((bb.block g (by omega)).trans ((hT.block g hne).trans ((ba.block g (by omega)).trans (hbl.block g hg))))
 have hE5:w5.heap[E]?=some (.cells #[.int .i64 u] 33 (0,0)):=(keep E hElt hEB).trans hE
 have hTE:Turned E (.cells #[.int .i64 v] 33 (0,0)) w5 (w5.setCell ⟨E,0,none⟩ (.int .i64 v)):=cR (i:=0) hE5 (.int .i64 v)
 have hB5:w5.heap[B]?=some (.cells (fG k a' b' c').toArray 81 (0,0)):=(h5.block B (by omega)).trans ((bb.block B (by omega)).trans hT.at_)
 have bn:Below n W w5:=(sE ((hbl.mono hn).trans (ba.mono (by omega))) hT hnB).trans ((bb.mono (by omega)).trans (h5.mono (by omega)))
 refine ⟨(hTE.block B (fun e=>hEB e.symm)).trans hB5,hTE.at_,fun g hg h1 h2=>(hTE.block g h2).trans (keep g hg h1),?_,Go.Proofs.YtjijolobkpcpnaaGreatDoor.Ext.of_below hbl,?_,sE bn hTE hnE⟩
 ·exact (Go.Proofs.YtjijolobkpcpnaaGreatDoor.Ext.of_below ba).trans ((hT.ext hBa (mF _ _ _ _ _)).trans ((Go.Proofs.YtjijolobkpcpnaaGreatDoor.Ext.of_below bb).trans ((Go.Proofs.YtjijolobkpcpnaaGreatDoor.Ext.of_below h5).trans (hTE.ext hE5 (by simp [Go.Proofs.YtjijolobkpcpnaaGreatDoor.hotObj,Kn])))))
 ·exact (fH hbl).trans ((fH ba).trans ((sG hT hBa rfl).trans ((fH bb).trans ((fH h5).trans (sG hTE hE5 rfl)))))
theorem sH {ev:List (Fin 3)→Int} {S:Nat} (hS:w.heap.size≤S):OwnFrom S (InvE ev w k B E R o1 o2 o3 x1 x2 x3 y1 y2 y3 z1 z2 z3):=by
 rintro pre W W' row ⟨x,y,z,hB,v0,v1,v2,hE,hR,hk,hb⟩ hg hr
 have hr' : ∀ r,row=some r→∃ o:Obj,W.heap[r]?=some o∧o.isCells=false:=fun r e=>(hr r e).2
 have hx:=tP hg hr'
 refine ⟨x,y,z,(grownBy_keeps_cells hg hr' hB rfl).trans hB,fun h=>Vc.kext (v0 h) hx,fun h=>Vc.kext (v1 h) hx,fun h=>Vc.kext (v2 h) hx,(grownBy_keeps_cells hg hr' hE rfl).trans hE,(grownBy_keeps_cells hg hr' hR rfl).trans hR,Vc.kext hk hx,?_⟩
 exact hb.grown hg hb.size (fun k e=>Nat.le_trans hS (hr k e).1)
end
set_option maxRecDepth 100000 in
theorem yB (a1 a2 a3 b1 b2 b3 c1 c2 c3 d1 d2 d3:ByteArray) (o1 o2 o3 x1 x2 x3 y1 y2 y3 z1 z2 z3:Rat) (eo ex ey ez zq zc:Int) (heo:Ev eo) (hex:Ev ex) (hey:Ev ey) (hez:Ev ez) (hZ:f2 (f2 (f2 eo ex) ey) ez=zq)
 (cO' : ∀ W,Gl W→Calls Tryz.prog 31 #[.agg #[.string a1,.string a2,.string a3]] W (RV o1 o2 o3 eo W)) (cX' : ∀ W,Gl W→Calls Tryz.prog 31 #[.agg #[.string b1,.string b2,.string b3]] W (RV x1 x2 x3 ex W))
 (cY' : ∀ W,Gl W→Calls Tryz.prog 31 #[.agg #[.string c1,.string c2,.string c3]] W (RV y1 y2 y3 ey W)) (cZ' : ∀ W,Gl W→Calls Tryz.prog 31 #[.agg #[.string d1,.string d2,.string d3]] W (RV z1 z2 z3 ez W))
 (hC:zq=0→∀ (W:World) (o x y z:C9),Vc W o.val o1 o2 o3→Vc W x.val x1 x2 x3→Vc W y.val y1 y2 y3→Vc W z.val z1 z2 z3→Calls Tryz.prog 107 #[.agg (fG o x y z).toArray] W fun e w'=>e = .returned (.int .i64 zc)∧Below W.heap.size W w') (w:World) (hG:Gl w) :
 Calls Tryz.prog 44 #[.agg #[.string a1,.string a2,.string a3,.string b1,.string b2,.string b3,.string c1,.string c2,.string c3,.string d1,.string d2,.string d3]] w fun e w' => ∃ o x y z:C9,e = .returned (.tuple #[.agg (if zq=0 then fG o x y z else fG C9.zero C9.zero C9.zero C9.zero).toArray,.int .i64 (if zq=0 then zc else zq)])∧Vc w' o.val o1 o2 o3∧Vc w' x.val x1 x2 x3∧Vc w' y.val y1 y2 y3∧Vc w' z.val z1 z2 z3∧Below w.heap.size w w':=by
 have cO:=aH cO'
 have cX:=aH cX'
 have cY:=aH cY'
 have cZ:=aH cZ'
 have HC:=aH hC
 clear cO' cX' cY' cZ' hC
 obtain ⟨ev,hevd⟩:∃ ev:List (Fin 3)→Int,ev=fun pre=>pre.foldl (fun e i=>f2 e (if i=0 then ex else if i=1 then ey else ez)) eo:=⟨_,rfl⟩
 have ev0:ev []=eo:=by rw [hevd];rfl
 have evs:∀ (pre:List (Fin 3)) (i:Fin 3),ev (pre ++ [i])=f2 (ev pre) (if i=0 then ex else if i=1 then ey else ez):=fun pre i=>by rw [hevd];simp [List.foldl_append]
 have ev3:ev [0,1,2]=zq:=by rw [hevd,← hZ];rfl
 have hev:∀ pre,Ev (ev pre):=fun pre=>by
  rw [hevd]
  show Ev (pre.foldl _ eo)
  revert heo
  generalize eo=e0
  induction pre generalizing e0 with
  | nil=>exact fun h=>h
  | cons i l ih =>
    intro h
    refine ih _ (f2_ev h ?_)
    split
    ·exact hex
    ·split <;> assumption
 have p0:∀ pre,ev (pre ++ [0])=f2 (ev pre) ex:=fun pre=>evs pre 0
 have p1:∀ pre,ev (pre ++ [1])=f2 (ev pre) ey:=fun pre=>evs pre 1
 have p2:∀ pre,ev (pre ++ [2])=f2 (ev pre) ez:=fun pre=>evs pre 2
 clear hevd hZ evs
 refine (callsIn_wide (n:=6)).1 ?_
 refine callsIn_of_wp_marks Tryz.func44 rfl trivial ?_ rfl
 simp only [Tryz.ntmps44,List.size_toArray,List.length_cons,List.length_nil,Nat.reduceAdd,Nat.reduceSub,Array.replicate_succ,Array.replicate_zero,List.push_toArray,List.append_toArray,List.nil_append,List.cons_append]
 refine wpIn_wide.2 ?_
 go_wp2_with fail
 obtain ⟨Z,hZ⟩:∃ Z:Array Value,Z=(fG C9.zero C9.zero C9.zero C9.zero).toArray:=⟨_,rfl⟩
 have hW1:∃ W1,W1=(w.alloc (.cells #[.string a1,.string a2,.string a3,.string b1,.string b2,.string b3,.string c1,.string c2,.string c3,.string d1,.string d2,.string d3] 32 (0,0))).alloc (.cells Z 81 (0,0)):=⟨_,rfl⟩
 obtain ⟨W1,hW1⟩:=hW1
 change Calls _ _ _ ((w.alloc (.cells #[.string a1,.string a2,.string a3,.string b1,.string b2,.string b3,.string c1,.string c2,.string c3,.string d1,.string d2,.string d3] 32 (0,0))).alloc (.cells (fG C9.zero C9.zero C9.zero C9.zero).toArray 81 (0,0))) _
 rw [← hZ,← hW1]
 have hs1:W1.heap.size=w.heap.size+2:=by rw [hW1];simp
 have hb1:Below w.heap.size w W1:=by rw [hW1];exact ((aB _ w).alloc (aR _) _).alloc (by simp) _
 have hf1:W1.heap[w.heap.size]?=some (.cells #[.string a1,.string a2,.string a3,.string b1,.string b2,.string b3,.string c1,.string c2,.string c3,.string d1,.string d2,.string d3] 32 (0,0)):=by rw [hW1];exact (Below.heap_alloc _ _ _ (by simp)).trans (World.alloc_heap_new w _)
 have hr1:W1.heap[w.heap.size+1]?=some (.cells Z 81 (0,0)):=by rw [hW1];have:=World.alloc_heap_new (w.alloc (.cells #[.string a1,.string a2,.string a3,.string b1,.string b2,.string b3,.string c1,.string c2,.string c3,.string d1,.string d2,.string d3] 32 (0,0))) (.cells Z 81 (0,0));rwa [World.size_alloc] at this
 clear hW1
 refine (cO.out W1 (hG.below hb1)).mono ?_
 rintro e w1 ⟨k,rfl,hk,hb⟩
 have hs2:=hb.size
 have hf2:=(hb.block w.heap.size (by omega)).trans hf1
 have hr2:=(hb.block (w.heap.size+1) (by omega)).trans hr1
 have hb2:=hb1.trans (hb.mono (by omega))
 clear hf1 hr1 hb1 hb
 simp only [C9.val]
 have HID:=aH (aI hf2 (aI hr2 (aI hb2 hk)))
 clear hf2 hr2 hb2 hk
 have HZ:=aH hZ
 clear hZ
 go_wp2_with (first|(refine yA rfl 81 _ rfl (fG k C9.zero C9.zero C9.zero).toArray (by kernel_rfl) ?_)|(refine stop_store 81 _ _ rfl ?_))
 refine ⟨store_new3 rfl 81 _ _ rfl w1 _ _ _ (fG k C9.zero C9.zero C9.zero).toArray rfl rfl (by kernel_rfl) (by kernel_rfl) (by kernel_rfl) ?_⟩
 intro W3 g1 g2 g3 g4 g5
 have hf3:=(g2.block w.heap.size (by omega)).trans HID.out.1
 have f0:W3.cell? ⟨w.heap.size,0,none⟩=some (.string a1):=by simp [World.cell?,hf3]
 have f1:W3.cell? ⟨w.heap.size,1,none⟩=some (.string a2):=by simp [World.cell?,hf3]
 have f2:W3.cell? ⟨w.heap.size,2,none⟩=some (.string a3):=by simp [World.cell?,hf3]
 have f3:W3.cell? ⟨w.heap.size,3,none⟩=some (.string b1):=by simp [World.cell?,hf3]
 have f4:W3.cell? ⟨w.heap.size,4,none⟩=some (.string b2):=by simp [World.cell?,hf3]
 have f5:W3.cell? ⟨w.heap.size,5,none⟩=some (.string b3):=by simp [World.cell?,hf3]
 have f6:W3.cell? ⟨w.heap.size,6,none⟩=some (.string c1):=by simp [World.cell?,hf3]
 have f7:W3.cell? ⟨w.heap.size,7,none⟩=some (.string c2):=by simp [World.cell?,hf3]
 have f8:W3.cell? ⟨w.heap.size,8,none⟩=some (.string c3):=by simp [World.cell?,hf3]
 have f9:W3.cell? ⟨w.heap.size,9,none⟩=some (.string d1):=by simp [World.cell?,hf3]
 have f10:W3.cell? ⟨w.heap.size,10,none⟩=some (.string d2):=by simp [World.cell?,hf3]
 have f11:W3.cell? ⟨w.heap.size,11,none⟩=some (.string d3):=by simp [World.cell?,hf3]
 clear hf3
 have HID2:=aH (aI g1 (aI g2 (aI g3 (aI g4 g5))))
 clear g1 g2 g3 g4 g5
 go_wp2_with fail
 refine (axes_any _ _ _ _ _ _ _ _ _ _ _ _ _).mono ?_
 rintro e w4 ⟨rfl,rfl⟩
 go_wp2_with fail
 obtain ⟨v0,h0⟩:∃ v0:Value,v0 = .agg #[.string a1,.string a2,.string a3,.string b1,.string b2,.string b3,.string c1,.string c2,.string c3,.string d1,.string d2,.string d3]:=⟨_,rfl⟩
 obtain ⟨v11,h11⟩:∃ v:Value,v = .tuple #[.agg #[.int .i64 k.n1,.int .i64 k.d1,.pointer k.p1,.int .i64 k.n2,.int .i64 k.d2,.pointer k.p2,.int .i64 k.n3,.int .i64 k.d3,.pointer k.p3],.int .i64 eo]:=⟨_,rfl⟩
 obtain ⟨v13,h13⟩:∃ v:Value,v = .agg #[.string a1,.string a2,.string a3]:=⟨_,rfl⟩
 obtain ⟨v15,h15⟩:∃ v:Value,v = .agg #[.int .i64 k.n1,.int .i64 k.d1,.pointer k.p1,.int .i64 k.n2,.int .i64 k.d2,.pointer k.p2,.int .i64 k.n3,.int .i64 k.d3,.pointer k.p3]:=⟨_,rfl⟩
 obtain ⟨v18,h18⟩:∃ v:Value,v = .agg (fG k C9.zero C9.zero C9.zero).toArray:=⟨_,rfl⟩
 rw [← h0,← h11,← h13,← h15,← h18]
 obtain ⟨g1,g2,g3,g4,g5⟩:=HID2.out
 obtain ⟨hf2,hr2,hb2,hk⟩:=HID.out
 have hsz2:=hb2.size
 have hsW3:w1.heap.size+3=W3.heap.size:=g1.symm
 obtain ⟨W4,hW4⟩:∃ W4,W3.alloc (.cells #[.string a1,.string a2,.string a3,.string b1,.string b2,.string b3,.string c1,.string c2,.string c3,.string d1,.string d2,.string d3] 32 (0,0))=W4:=⟨_,rfl⟩
 have hF:W4.heap[W3.heap.size]?=some (.cells #[.string a1,.string a2,.string a3,.string b1,.string b2,.string b3,.string c1,.string c2,.string c3,.string d1,.string d2,.string d3] 32 (0,0)):=by rw [← hW4];exact World.alloc_heap_new _ _
 have hs4:W4.heap.size=W3.heap.size+1:=by rw [← hW4];simp
 have hb4:Below W3.heap.size W3 W4:=by rw [← hW4];exact (aB _ _).alloc (aR _) _
 have hb3:Below w1.heap.size w1 W4:=g2.trans (hb4.mono (by omega))
 have hinv:InvE ev w k (w1.heap.size+1+1) (w1.heap.size+1) (w.heap.size+1) o1 o2 o3 x1 x2 x3 y1 y2 y3 z1 z2 z3 [] W4:=by
  refine ⟨C9.zero,C9.zero,C9.zero,(hb4.block _ (by omega)).trans g5,fun h=>absurd h (by simp),fun h=>absurd h (by simp),fun h=>absurd h (by simp),(by rw [ev0];exact (hb4.block _ (by omega)).trans g4),?_,hk.below hb3,hb2.trans (hb3.mono (by omega))⟩
  rw [← HZ.out]
  exact (hb3.block _ (by omega)).trans hr2
 rw [hW4]
 have hEB:¬ (w1.heap.size+1:Nat)=w1.heap.size+1+1:=by omega
 have hRB:¬ (w.heap.size+1:Nat)=w1.heap.size+1+1:=by omega
 have hRE:¬ (w.heap.size+1:Nat)=w1.heap.size+1:=by omega
 have hBs:w1.heap.size+1+1<W4.heap.size:=by omega
 have hEs:w1.heap.size+1<W4.heap.size:=by omega
 have hRs:w.heap.size+1<W4.heap.size:=by omega
 have hE0:w.heap.size≤w1.heap.size+1:=by omega
 have hB0:w.heap.size≤w1.heap.size+1+1:=by omega
 have hwW4:w.heap.size≤W4.heap.size:=by omega
 clear g1 g2 g3 g4 g5 hf2 hr2 hb2 hk hsz2 hsW3 hb4 hb3 hW4 h0 h11 h13 h15 h18 HID HID2 f0 f1 f2 f3 f4 f5 f6 f7 f8 f9 f10 f11 hs1 hs2 hs4
 generalize w1.heap.size+1+1=B at *
 generalize w1.heap.size+1=E at *
 generalize w1.heap.size=p4 at *
 generalize W3.heap.size=q3 at *
 refine (wpIn_wide (n:=6)).1 ?_
 refine wpIn_rangeFunc_ownH (F:=Fence.wide) rfl (by omega) (gf:=164) (lb := #[.pointer (some ⟨q3,0,none⟩)]) rfl trivial (enters_of Tryz.func164 (by kernel_rfl) rfl)
  (axes_stops Fence.wide (6-1) trivial rfl (by omega) q3 w.heap.size a1 a2 a3 b1 b2 b3 c1 c2 c3 d1 d2 d3 W4 hwW4 hF) belowK_t (belowK_b (by omega)) (aB _ _) (fun _=>rfl)
  (InvE ev w k B E (w.heap.size+1) o1 o2 o3 x1 x2 x3 y1 y2 y3 z1 z2 z3) (fun _ _ _=>False) (sH hwW4) (fun _ _ _ _ _ hs _ _=>hs) hinv
  (fun x a' W => ∃ Bx,((x=0∧W.heap[Bx]?=some (.cells #[.string b1,.string b2,.string b3] 25 (0,0))∧a' = { tmps := #[v0,.pointer (some ⟨w.heap.size,0,none⟩),.pointer (some ⟨w.heap.size+1,0,none⟩),.int .i64 0,.pointer (some ⟨p4,0,none⟩),.pointer (some ⟨E,0,none⟩),.pointer (some ⟨B,0,none⟩),.int .i64 0,.pointer (some ⟨Bx,0,none⟩),undef,undef,v11,.pointer (some ⟨w.heap.size,0,none⟩),v13,v11,v15,.int .i64 eo,v15,v18,v0,.func (.func 164) #[] #[.pointer (some ⟨q3,0,none⟩)],.int .i64 0,.agg #[.string b1,.string b2,.string b3],undef,undef,undef,undef,undef,undef,undef,undef,undef,undef,undef,undef,undef,undef,undef,undef,undef,undef,undef,undef],defers := [] })∨(x=1∧W.heap[Bx]?=some (.cells #[.string c1,.string c2,.string c3] 25 (0,0))∧a' = { tmps := #[v0,.pointer (some ⟨w.heap.size,0,none⟩),.pointer (some ⟨w.heap.size+1,0,none⟩),.int .i64 0,.pointer (some ⟨p4,0,none⟩),.pointer (some ⟨E,0,none⟩),.pointer (some ⟨B,0,none⟩),.int .i64 1,.pointer (some ⟨Bx,0,none⟩),undef,undef,v11,.pointer (some ⟨w.heap.size,0,none⟩),v13,v11,v15,.int .i64 eo,v15,v18,v0,.func (.func 164) #[] #[.pointer (some ⟨q3,0,none⟩)],.int .i64 1,.agg #[.string c1,.string c2,.string c3],undef,undef,undef,undef,undef,undef,undef,undef,undef,undef,undef,undef,undef,undef,undef,undef,undef,undef,undef,undef],defers := [] })∨(x=2∧W.heap[Bx]?=some (.cells #[.string d1,.string d2,.string d3] 25 (0,0))∧a' = { tmps := #[v0,.pointer (some ⟨w.heap.size,0,none⟩),.pointer (some ⟨w.heap.size+1,0,none⟩),.int .i64 0,.pointer (some ⟨p4,0,none⟩),.pointer (some ⟨E,0,none⟩),.pointer (some ⟨B,0,none⟩),.int .i64 2,.pointer (some ⟨Bx,0,none⟩),undef,undef,v11,.pointer (some ⟨w.heap.size,0,none⟩),v13,v11,v15,.int .i64 eo,v15,v18,v0,.func (.func 164) #[] #[.pointer (some ⟨q3,0,none⟩)],.int .i64 2,.agg #[.string d1,.string d2,.string d3],undef,undef,undef,undef,undef,undef,undef,undef,undef,undef,undef,undef,undef,undef,undef,undef,undef,undef,undef,undef],defers := [] }))) ?hAx ?assign ?body ?done ?stop
 case hAx =>
  rintro x a' _ X Y row ⟨Bx,h2⟩ hg hr
  refine ⟨Bx,?_⟩
  rcases h2 with ⟨rfl,h3,h4⟩|⟨rfl,h3,h4⟩|⟨rfl,h3,h4⟩
  ·exact .inl ⟨rfl,(grownBy_keeps_cells hg (fun r e=>(hr r e).2) h3 rfl).trans h3,h4⟩
  ·exact .inr (.inl ⟨rfl,(grownBy_keeps_cells hg (fun r e=>(hr r e).2) h3 rfl).trans h3,h4⟩)
  ·exact .inr (.inr ⟨rfl,(grownBy_keeps_cells hg (fun r e=>(hr r e).2) h3 rfl).trans h3,h4⟩)
 case assign =>
  rintro l pre x W K hi hK
  have hiw:w.heap.size≤W.heap.size:=by obtain ⟨_,_,_,_,_,_,_,_,_,_,hb⟩:=hi;exact hb.size
  rcases fin3 x with rfl|rfl|rfl
  ·simp only [axE,axV]
   gi_wp2
   exact hK _ _ ((KeepsOthers.alloc _ _).from _) ((aB _ W).alloc hiw _) ((sH hwW4).alloc _ hi) ⟨W.heap.size,.inl ⟨by first|rfl|trivial,World.alloc_heap_new _ _,rfl⟩⟩
  ·simp only [axE,axV]
   gi_wp2
   exact hK _ _ ((KeepsOthers.alloc _ _).from _) ((aB _ W).alloc hiw _) ((sH hwW4).alloc _ hi) ⟨W.heap.size,.inr (.inl ⟨by first|rfl|trivial,World.alloc_heap_new _ _,rfl⟩)⟩
  ·simp only [axE,axV]
   gi_wp2
   exact hK _ _ ((KeepsOthers.alloc _ _).from _) ((aB _ W).alloc hiw _) ((sH hwW4).alloc _ hi) ⟨W.heap.size,.inr (.inr ⟨by first|rfl|trivial,World.alloc_heap_new _ _,rfl⟩)⟩
 case body =>
  rintro l pre x a' W _ _ ⟨x',y',z',hB,u0,u1,u2,hE,hR,hk,hbW⟩ ⟨Bx,h3⟩ _
  obtain ⟨u,hu⟩:∃ u,ev pre=u:=⟨_,rfl⟩
  have hue:=hev pre
  rw [hu] at hE hue
  have hBlt:=(Array.getElem?_eq_some_iff.1 hB).1
  have hElt:=(Array.getElem?_eq_some_iff.1 hE).1
  have hRlt:=(Array.getElem?_eq_some_iff.1 hR).1
  have hGW:=aH (hG.below hbW)
  have HW:=aH (aI hE (aI hR (aI hk hbW)))
  have HU:=aH (aI u0 (aI u1 u2))
  have HBB:=aH hB
  clear hB u0 u1 u2 hE hR hk hbW
  rcases h3 with ⟨rfl,h3,rfl⟩|⟨rfl,h3,rfl⟩|⟨rfl,h3,rfl⟩
  ·have cb0:W.cell? ⟨Bx,0,none⟩=some (.string b1):=by simp [World.cell?,h3]
   have cb1:W.cell? ⟨Bx,1,none⟩=some (.string b2):=by simp [World.cell?,h3]
   have cb2:W.cell? ⟨Bx,2,none⟩=some (.string b3):=by simp [World.cell?,h3]
   clear h3
   gi_wp2
   refine ⟨trivial,(CallsIn.inRound l (callsIn_wide.2 (cX.out W hGW.out))).mono ?_⟩
   rintro e w2 ⟨m,rfl,hm,hbl⟩
   have hs2:=hbl.size
   have hB2:=(hbl.block B hBlt).trans HBB.out
   have hE2:=(hbl.block E hElt).trans HW.out.1
   obtain ⟨q0,r0,q1,r1,q2,r2,q3,r3,q4,r4,q5,r5,q6,r6,q7,r7,q8,r8⟩:=up9 x' (show B<w2.heap.size by omega) hB2 (⟨rfl,rfl,rfl,rfl,rfl,rfl,rfl,rfl,rfl⟩:N9 _ _ 9 10 11 12 13 14 15 16 17)
   have qE:∀ o,(w2.alloc o).cell? ⟨E,0,none⟩=some (.int .i64 u):=sD (by omega) (by simp [World.cell?,hE2])
   have H2:=aH (aI hm (aI hbl (aI hB2 hE2)))
   clear hm hbl hB2 hE2
   simp only [C9.val]
   gi_wp2
   obtain ⟨hm,hbl,hB2,hE2⟩:=H2.out
   obtain ⟨hE,hR,hk,hbW⟩:=HW.out
   obtain ⟨u0,u1,u2⟩:=HU.out
   have hBa:(w2.alloc (m9 m)).heap[B]?=some (.cells (fG k x' y' z').toArray 81 (0,0)):=(((aB _ w2).alloc (aR _) _).block B (by omega)).trans hB2
   have hT:Turned B (.cells (fG k m y' z').toArray 81 (0,0)) (w2.alloc (m9 m)) (st9 (w2.alloc (m9 m)) B 9 10 11 12 13 14 15 16 17 m):=turn9 9 hBa _ _ _ _ _ _ _ _ _ (by kernel_rfl)
   obtain ⟨X1,hX1⟩:∃ X1,st9 (w2.alloc (m9 m)) B 9 10 11 12 13 14 15 16 17 m=X1:=⟨_,rfl⟩
   rw [hX1] at hT
   unfold st9 m9 at hX1
   rw [hX1]
   have hsX:X1.heap.size=w2.heap.size+1:=by rw [hT.size];simp
   have hh:(X1.alloc (.cells #[.int .i64 u,.int .i64 ex] 33 (0,0))).heap[w2.heap.size+1]?=some (.cells #[.int .i64 u,.int .i64 ex] 33 (0,0)):=by rw [← hsX];exact World.alloc_heap_new _ _
   clear hX1 hBa
   obtain ⟨v,hv⟩:∃ v,f2 u ex=v:=⟨_,rfl⟩
   refine ⟨trivial,(CallsIn.inRound l (callsIn_wide.2 (qJ hue hex hv _ (w2.heap.size+1) 33 hh))).mono ?_⟩
   rintro e w5 ⟨rfl,h5⟩
   obtain ⟨r1,r2,r3,r4,r4',r5,r6⟩:=oL (u:=u) (v:=v) (k:=k) (S:=W4.heap.size) (n:=w.heap.size) hbl HBB.out hE hEB hT h5 hbW.size hB0 hE0
   have hE5:w5.heap[E]?=some (.cells #[.int .i64 u] 33 (0,0)):=by have hs5:=h5.size;exact (h5.block E (by simp;omega)).trans ((((aB _ X1).alloc (aR _) _).block E (by omega)).trans ((hT.block E hEB).trans ((((aB _ w2).alloc (aR _) _).block E (by omega)).trans hE2)))
   have qE5:w5.cell? ⟨E,0,none⟩=some (.int .i64 u):=by simp [World.cell?,hE5]
   have rE5:w5.frozen? ⟨E,0,none⟩=false:=aY hE5 0
   have HF:KeepsFrom W4.heap.size W (w5.setCell ⟨E,0,none⟩ (.int .i64 v))∧Below w.heap.size W (w5.setCell ⟨E,0,none⟩ (.int .i64 v))∧InvE ev w k B E (w.heap.size+1) o1 o2 o3 x1 x2 x3 y1 y2 y3 z1 z2 z3 (pre ++ [0]) (w5.setCell ⟨E,0,none⟩ (.int .i64 v)) :=
    ⟨r5,r6,m,y',z',r1,fun _=>Vc.kext hm r4,fun h=>Vc.kext (Vc.kext (u1 (by simpa using h)) r4') r4,fun h=>Vc.kext (Vc.kext (u2 (by simpa using h)) r4') r4,(by rw [p0 pre,hu,hv];exact r2),(r3 _ hRlt hRB hRE).trans hR,Vc.kext (Vc.kext hk r4') r4,hbW.trans r6⟩
   have HG:=aH HF
   clear HF r1 r2 r3 r4 r4' r5 r6 hE5 hT hm hbl hB2 hE2 hE hR hk hbW u0 u1 u2 hh h5 hsX HW HU H2 hu hue
   gi_wp2
   exact HG.out
  ·have cb0:W.cell? ⟨Bx,0,none⟩=some (.string c1):=by simp [World.cell?,h3]
   have cb1:W.cell? ⟨Bx,1,none⟩=some (.string c2):=by simp [World.cell?,h3]
   have cb2:W.cell? ⟨Bx,2,none⟩=some (.string c3):=by simp [World.cell?,h3]
   clear h3
   gi_wp2
   refine ⟨trivial,(CallsIn.inRound l (callsIn_wide.2 (cY.out W hGW.out))).mono ?_⟩
   rintro e w2 ⟨m,rfl,hm,hbl⟩
   have hs2:=hbl.size
   have hB2:=(hbl.block B hBlt).trans HBB.out
   have hE2:=(hbl.block E hElt).trans HW.out.1
   obtain ⟨q0,r0,q1,r1,q2,r2,q3,r3,q4,r4,q5,r5,q6,r6,q7,r7,q8,r8⟩:=up9 y' (show B<w2.heap.size by omega) hB2 (⟨rfl,rfl,rfl,rfl,rfl,rfl,rfl,rfl,rfl⟩:N9 _ _ 18 19 20 21 22 23 24 25 26)
   have qE:∀ o,(w2.alloc o).cell? ⟨E,0,none⟩=some (.int .i64 u):=sD (by omega) (by simp [World.cell?,hE2])
   have H2:=aH (aI hm (aI hbl (aI hB2 hE2)))
   clear hm hbl hB2 hE2
   simp only [C9.val]
   gi_wp2
   obtain ⟨hm,hbl,hB2,hE2⟩:=H2.out
   obtain ⟨hE,hR,hk,hbW⟩:=HW.out
   obtain ⟨u0,u1,u2⟩:=HU.out
   have hBa:(w2.alloc (m9 m)).heap[B]?=some (.cells (fG k x' y' z').toArray 81 (0,0)):=(((aB _ w2).alloc (aR _) _).block B (by omega)).trans hB2
   have hT:Turned B (.cells (fG k x' m z').toArray 81 (0,0)) (w2.alloc (m9 m)) (st9 (w2.alloc (m9 m)) B 18 19 20 21 22 23 24 25 26 m):=turn9 18 hBa _ _ _ _ _ _ _ _ _ (by kernel_rfl)
   obtain ⟨X1,hX1⟩:∃ X1,st9 (w2.alloc (m9 m)) B 18 19 20 21 22 23 24 25 26 m=X1:=⟨_,rfl⟩
   rw [hX1] at hT
   unfold st9 m9 at hX1
   rw [hX1]
   have hsX:X1.heap.size=w2.heap.size+1:=by rw [hT.size];simp
   have hh:(X1.alloc (.cells #[.int .i64 u,.int .i64 ey] 33 (0,0))).heap[w2.heap.size+1]?=some (.cells #[.int .i64 u,.int .i64 ey] 33 (0,0)):=by rw [← hsX];exact World.alloc_heap_new _ _
   clear hX1 hBa
   obtain ⟨v,hv⟩:∃ v,f2 u ey=v:=⟨_,rfl⟩
   refine ⟨trivial,(CallsIn.inRound l (callsIn_wide.2 (qJ hue hey hv _ (w2.heap.size+1) 33 hh))).mono ?_⟩
   rintro e w5 ⟨rfl,h5⟩
   obtain ⟨r1,r2,r3,r4,r4',r5,r6⟩:=oL (u:=u) (v:=v) (k:=k) (S:=W4.heap.size) (n:=w.heap.size) hbl HBB.out hE hEB hT h5 hbW.size hB0 hE0
   have hE5:w5.heap[E]?=some (.cells #[.int .i64 u] 33 (0,0)):=by have hs5:=h5.size;exact (h5.block E (by simp;omega)).trans ((((aB _ X1).alloc (aR _) _).block E (by omega)).trans ((hT.block E hEB).trans ((((aB _ w2).alloc (aR _) _).block E (by omega)).trans hE2)))
   have qE5:w5.cell? ⟨E,0,none⟩=some (.int .i64 u):=by simp [World.cell?,hE5]
   have rE5:w5.frozen? ⟨E,0,none⟩=false:=aY hE5 0
   have HF:KeepsFrom W4.heap.size W (w5.setCell ⟨E,0,none⟩ (.int .i64 v))∧Below w.heap.size W (w5.setCell ⟨E,0,none⟩ (.int .i64 v))∧InvE ev w k B E (w.heap.size+1) o1 o2 o3 x1 x2 x3 y1 y2 y3 z1 z2 z3 (pre ++ [1]) (w5.setCell ⟨E,0,none⟩ (.int .i64 v)) :=
    ⟨r5,r6,x',m,z',r1,fun h=>Vc.kext (Vc.kext (u0 (by simpa using h)) r4') r4,fun _=>Vc.kext hm r4,fun h=>Vc.kext (Vc.kext (u2 (by simpa using h)) r4') r4,(by rw [p1 pre,hu,hv];exact r2),(r3 _ hRlt hRB hRE).trans hR,Vc.kext (Vc.kext hk r4') r4,hbW.trans r6⟩
   have HG:=aH HF
   clear HF r1 r2 r3 r4 r4' r5 r6 hE5 hT hm hbl hB2 hE2 hE hR hk hbW u0 u1 u2 hh h5 hsX HW HU H2 hu hue
   gi_wp2
   exact HG.out
  ·have cb0:W.cell? ⟨Bx,0,none⟩=some (.string d1):=by simp [World.cell?,h3]
   have cb1:W.cell? ⟨Bx,1,none⟩=some (.string d2):=by simp [World.cell?,h3]
   have cb2:W.cell? ⟨Bx,2,none⟩=some (.string d3):=by simp [World.cell?,h3]
   clear h3
   gi_wp2
   refine ⟨trivial,(CallsIn.inRound l (callsIn_wide.2 (cZ.out W hGW.out))).mono ?_⟩
   rintro e w2 ⟨m,rfl,hm,hbl⟩
   have hs2:=hbl.size
   have hB2:=(hbl.block B hBlt).trans HBB.out
   have hE2:=(hbl.block E hElt).trans HW.out.1
   obtain ⟨q0,r0,q1,r1,q2,r2,q3,r3,q4,r4,q5,r5,q6,r6,q7,r7,q8,r8⟩:=up9 z' (show B<w2.heap.size by omega) hB2 (⟨rfl,rfl,rfl,rfl,rfl,rfl,rfl,rfl,rfl⟩:N9 _ _ 27 28 29 30 31 32 33 34 35)
   have qE:∀ o,(w2.alloc o).cell? ⟨E,0,none⟩=some (.int .i64 u):=sD (by omega) (by simp [World.cell?,hE2])
   have H2:=aH (aI hm (aI hbl (aI hB2 hE2)))
   clear hm hbl hB2 hE2
   simp only [C9.val]
   gi_wp2
   obtain ⟨hm,hbl,hB2,hE2⟩:=H2.out
   obtain ⟨hE,hR,hk,hbW⟩:=HW.out
   obtain ⟨u0,u1,u2⟩:=HU.out
   have hBa:(w2.alloc (m9 m)).heap[B]?=some (.cells (fG k x' y' z').toArray 81 (0,0)):=(((aB _ w2).alloc (aR _) _).block B (by omega)).trans hB2
   have hT:Turned B (.cells (fG k x' y' m).toArray 81 (0,0)) (w2.alloc (m9 m)) (st9 (w2.alloc (m9 m)) B 27 28 29 30 31 32 33 34 35 m):=turn9 27 hBa _ _ _ _ _ _ _ _ _ (by kernel_rfl)
   obtain ⟨X1,hX1⟩:∃ X1,st9 (w2.alloc (m9 m)) B 27 28 29 30 31 32 33 34 35 m=X1:=⟨_,rfl⟩
   rw [hX1] at hT
   unfold st9 m9 at hX1
   rw [hX1]
   have hsX:X1.heap.size=w2.heap.size+1:=by rw [hT.size];simp
   have hh:(X1.alloc (.cells #[.int .i64 u,.int .i64 ez] 33 (0,0))).heap[w2.heap.size+1]?=some (.cells #[.int .i64 u,.int .i64 ez] 33 (0,0)):=by rw [← hsX];exact World.alloc_heap_new _ _
   clear hX1 hBa
   obtain ⟨v,hv⟩:∃ v,f2 u ez=v:=⟨_,rfl⟩
   refine ⟨trivial,(CallsIn.inRound l (callsIn_wide.2 (qJ hue hez hv _ (w2.heap.size+1) 33 hh))).mono ?_⟩
   rintro e w5 ⟨rfl,h5⟩
   obtain ⟨r1,r2,r3,r4,r4',r5,r6⟩:=oL (u:=u) (v:=v) (k:=k) (S:=W4.heap.size) (n:=w.heap.size) hbl HBB.out hE hEB hT h5 hbW.size hB0 hE0
   have hE5:w5.heap[E]?=some (.cells #[.int .i64 u] 33 (0,0)):=by have hs5:=h5.size;exact (h5.block E (by simp;omega)).trans ((((aB _ X1).alloc (aR _) _).block E (by omega)).trans ((hT.block E hEB).trans ((((aB _ w2).alloc (aR _) _).block E (by omega)).trans hE2)))
   have qE5:w5.cell? ⟨E,0,none⟩=some (.int .i64 u):=by simp [World.cell?,hE5]
   have rE5:w5.frozen? ⟨E,0,none⟩=false:=aY hE5 0
   have HF:KeepsFrom W4.heap.size W (w5.setCell ⟨E,0,none⟩ (.int .i64 v))∧Below w.heap.size W (w5.setCell ⟨E,0,none⟩ (.int .i64 v))∧InvE ev w k B E (w.heap.size+1) o1 o2 o3 x1 x2 x3 y1 y2 y3 z1 z2 z3 (pre ++ [2]) (w5.setCell ⟨E,0,none⟩ (.int .i64 v)) :=
    ⟨r5,r6,x',y',m,r1,fun h=>Vc.kext (Vc.kext (u0 (by simpa using h)) r4') r4,fun h=>Vc.kext (Vc.kext (u1 (by simpa using h)) r4') r4,fun _=>Vc.kext hm r4,(by rw [p2 pre,hu,hv];exact r2),(r3 _ hRlt hRB hRE).trans hR,Vc.kext (Vc.kext hk r4') r4,hbW.trans r6⟩
   have HG:=aH HF
   clear HF r1 r2 r3 r4 r4' r5 r6 hE5 hT hm hbl hB2 hE2 hE hR hk hbW u0 u1 u2 hh h5 hsX HW HU H2 hu hue
   gi_wp2
   exact HG.out
 case done =>
  rintro D ys W hD rfl ⟨x',y',z',hB,u0,u1,u2,hE,hR,hk,hbW⟩ hK
  rw [ev3] at hE
  have vx:=u0 (by simp)
  have vy:=u1 (by simp)
  have vz:=u2 (by simp)
  by_cases hZ0:zq=0
  ·subst hZ0
   have qE:W.cell? ⟨E,0,none⟩=some (.int .i64 0):=by simp [World.cell?,hE]
   have HW:=aH (aI hB (aI hR (aI hk (aI vx (aI vy (aI vz (aI hbW hK)))))))
   clear u0 u1 u2 hB hR hk vx vy vz hbW hK hE
   go_wp2_with fail
   refine wp_region_ty Kn [w.heap.size+1] (by kernel_rfl) (by kernel_rfl) ?_
   refine bJ (.agg (fG k x' y' z').toArray) rfl (fun A w' hB hk=>?_) ?_
   ·simp [known,specOf,Kd.spec,Sp.is,isVar,Oper.looksAt,Op.operands,Call.operands,Act.eval] at hk
    exact load_all rfl (by first|exact hk|simpa [Act.eval] using hk) (hB.blk HW.out.1 (by simp;omega)) Tryz.underlying81 rfl (by kernel_rfl)
   refine bJ (.agg (fG k x' y' z').toArray) rfl (fun A w' hB hk=>?_) ?_
   ·simp [known,specOf,Kd.spec,Sp.is,isVar,Oper.looksAt,Op.operands,Call.operands,Act.eval] at hk
    exact load_all rfl (by first|exact hk|simpa [Act.eval] using hk) (hB.blk HW.out.1 (by simp;omega)) Tryz.underlying81 rfl (by kernel_rfl)
   refine aN (Sp.is (.int .i64 zc)) (Sp.is_stable _ _) rfl (fun A w' hB hk=>?_) ?_
   ·simp [known,specOf,Kd.spec,Sp.is,isVar,Oper.looksAt,Op.operands,Call.operands,Act.eval] at hk
    simp [go_sem,hk]
    refine aF ?_
    have hx:=Base.extT hB HW.out.2.1 (mF _ _ _ _ _)
    exact (HC.out (by first|trivial|rfl) _ _ _ _ _ (Vc.kext HW.out.2.2.1 hx) (Vc.kext HW.out.2.2.2.1 hx) (Vc.kext HW.out.2.2.2.2.1 hx) (Vc.kext HW.out.2.2.2.2.2.1 hx)).mono (fun e w'' ⟨e1,e2⟩=>⟨_,e1,e2,rfl⟩)
   refine gK (w.heap.size+1) (.cells (fG C9.zero C9.zero C9.zero C9.zero).toArray 81 (0,0)) (fun o _=>o = .cells (fG k x' y' z').toArray 81 (0,0)) (fun _ _ _ h _=>h) rfl rfl (by simp) HW.out.2.1 (mF _ _ _ _ _) (fun A w' hB hk h0=>?_) ?_
   ·simp [known,specOf,Kd.spec,Sp.is,isVar,Oper.looksAt,Op.operands,Call.operands,Act.eval] at hk
    have hst:=lG (P:=Tryz.prog) (ρ:=A.eval) (w:=w') (o := { dst:=none,op:=Op.store 81 (Operand.tmp 2) (Operand.tmp 40),type:=0,pos := "frame.go:38",after := #[{ on:=0,ground:=Ground.data },{ on:=2,ground:=Ground.chain },{ on:=0,ground:=Ground.phase },{ on:=1,ground:=Ground.textOnly Departure.lateStores },{ on:=2,ground:=Ground.textOnly Departure.lateStoresUnsure }],guard:=none }) (T':=81) (g:=w.heap.size+1) (off:=0) (n:=36) (cs:=fG C9.zero C9.zero C9.zero C9.zero) (es:=fG k x' y' z') rfl (by simp [Act.eval,hk]) (by simp [Act.eval,hk,Value.cells]) (by kernel_rfl) rfl (frL_one _ _ _ _) h0 (show 0+36≤36 by omega)
    have e:List.take 0 (fG C9.zero C9.zero C9.zero C9.zero)++fG k x' y' z'++List.drop (0+(fG k x' y' z').length) (fG C9.zero C9.zero C9.zero C9.zero)=fG k x' y' z':=by kernel_rfl
    rw [e] at hst
    rw [hst.1]
    exact ⟨_,⟨hst.2.os,hst.2.tape,hst.2.output,hst.2.size,hst.2.at_,hst.2.block⟩,rfl⟩
   refine aV _ ?_ (by first|exact .inl rfl|exact .inr rfl) (by rfl) (by simp [specOf,Kd.spec];rfl) ?_ rfl ?_
   ·exact Sp.is_stable _ _
   refine ⟨by first|rfl|decide,fun f w2 hB hF hAp=>?_⟩;simp [Final1,Sp.is,isVar] at hF;simp only [frameOf]
   obtain ⟨f3,hw2,_,_,_⟩:=hF
   have hDR:¬ D=w.heap.size+1:=by
    intro e
    have h1:=HW.out.2.1
    have h2:=HW.out.2.2.2.2.2.2.2
    rw [e,h1] at h2
    injection h2 with h2
    cases h2
   have hK2:=hB.blk HW.out.2.2.2.2.2.2.2 (by simp;omega)
   have HV:=aH (aI hw2 (aI hB hK2))
   clear hAp
   have HBB:=aH hB
   clear hB
   go_wp2
   have hB:=HBB.out
   refine ⟨by simp,.inl ⟨_,_,rfl,run_takeDeferred hK2,?_⟩⟩
   have hg5:(w2.putObj D (.deferred none)).heap[w.heap.size+1]?=some (.cells (fG k x' y' z').toArray 81 (0,0)):=(World.putObj_heap_other (by omega)).trans hw2
   have hl:=run_loadVar_mid (P:=Tryz.prog) (w2.putObj D (.deferred none)) (w.heap.size+1) 0 81 (((fG k x' y' z').drop 0).take 36) _ (qO hg5 0 36) Tryz.underlying81 rfl (by kernel_rfl)
   have e36:((fG k x' y' z').drop 0).take 36=fG k x' y' z':=by kernel_rfl
   rw [e36] at hl
   have hbe:=Base.belowT hB HW.out.2.2.2.2.2.2.1 (by omega)
   have hx1:=Base.extT hB HW.out.2.1 (mF _ _ _ _ _)
   have hx2:Go.Proofs.YtjijolobkpcpnaaGreatDoor.Ext Kn w2 (w2.putObj D (.deferred none)):=tP (grownBy_putObj' w2 D _) (fun r e=>by cases e;exact ⟨_,hK2,rfl⟩)
   have hDw:w.heap.size≤D:=by omega
   refine ⟨.tuple #[.agg (fG k x' y' z').toArray,.int .i64 zc],?_,k,x',y',z',rfl,Vc.kext (Vc.kext HW.out.2.2.1 hx1) hx2,Vc.kext (Vc.kext HW.out.2.2.2.1 hx1) hx2,Vc.kext (Vc.kext HW.out.2.2.2.2.1 hx1) hx2,Vc.kext (Vc.kext HW.out.2.2.2.2.2.1 hx1) hx2,hbe.trans (belowK_b (w:=w) (aR _) w2 D _ _ hDw hK2 rfl rfl)⟩
   refine (kL (vs := [.agg (fG k x' y' z').toArray,.int .i64 zc]) ?_).trans rfl
   show (List.mapM (vV _) [.cell 2 81,.tmp 3]).run _ _=_
   simp [List.mapM_cons,vV,Act.put,asAddr,Sem.run_bind,Result.andThen,hl,f3]
  ·have n1:(zq==0)=false:=by rw [beq_eq_false_iff_ne];exact hZ0
   have qE:W.cell? ⟨E,0,none⟩=some (.int .i64 zq):=by simp [World.cell?,hE]
   have HW:=aH (aI hE (aI hR (aI hk (aI vx (aI vy (aI vz (aI hbW hK)))))))
   clear u0 u1 u2 hB hR hk vx vy vz hbW hK hE
   go_wp2_with fail
   refine wp_region_ty Kn [w.heap.size+1] (by kernel_rfl) (by kernel_rfl) ?_
   refine bJ (.agg (fG C9.zero C9.zero C9.zero C9.zero).toArray) rfl (fun A w' hB hk=>?_) ?_
   ·refine bI ?_
    exact bQ (by kernel_rfl) _
   refine bJ (.int .i64 zq) rfl (fun A w' hB hk=>?_) ?_
   ·simp [known,specOf,Kd.spec,Sp.is,isVar,Oper.looksAt,Op.operands,Call.operands,Act.eval] at hk
    have hc:=hB.blk HW.out.1 (by simp;omega)
    have hc:w'.cell? ⟨E,0,none⟩=some (.int .i64 zq):=by simp [World.cell?,hc]
    simp [go_sem,hk,hc]
   refine gK (w.heap.size+1) (.cells (fG C9.zero C9.zero C9.zero C9.zero).toArray 81 (0,0)) (fun o _=>o = .cells (fG C9.zero C9.zero C9.zero C9.zero).toArray 81 (0,0)) (fun _ _ _ h _=>h) rfl rfl (by simp) HW.out.2.1 (mF _ _ _ _ _) (fun A w' hB hk h0=>?_) ?_
   ·simp [known,specOf,Kd.spec,Sp.is,isVar,Oper.looksAt,Op.operands,Call.operands,Act.eval] at hk
    have hst:=lG (P:=Tryz.prog) (ρ:=A.eval) (w:=w') (o := { dst:=none,op:=Op.store 81 (Operand.tmp 2) (Operand.tmp 38),type:=0,pos := "frame.go:36",after := #[{ on:=0,ground:=Ground.data },{ on:=0,ground:=Ground.phase },{ on:=1,ground:=Ground.textOnly Departure.lateStores }],guard:=none }) (T':=81) (g:=w.heap.size+1) (off:=0) (n:=36) (cs:=fG C9.zero C9.zero C9.zero C9.zero) (es:=fG C9.zero C9.zero C9.zero C9.zero) rfl (by simp [Act.eval,hk]) (by simp [Act.eval,hk,Value.cells]) (by kernel_rfl) rfl (frL_one _ _ _ _) h0 (show 0+36≤36 by omega)
    have e:List.take 0 (fG C9.zero C9.zero C9.zero C9.zero)++fG C9.zero C9.zero C9.zero C9.zero++List.drop (0+(fG C9.zero C9.zero C9.zero C9.zero).length) (fG C9.zero C9.zero C9.zero C9.zero)=fG C9.zero C9.zero C9.zero C9.zero:=by kernel_rfl
    rw [e] at hst
    rw [hst.1]
    exact ⟨_,⟨hst.2.os,hst.2.tape,hst.2.output,hst.2.size,hst.2.at_,hst.2.block⟩,rfl⟩
   refine aV _ ?_ (by first|exact .inl rfl|exact .inr rfl) (by rfl) (by simp [specOf,Kd.spec];rfl) ?_ rfl ?_
   ·exact Sp.is_stable _ _
   refine ⟨by first|rfl|decide,fun f w2 hB hF hAp=>?_⟩;simp [Final1,Sp.is,isVar] at hF;simp only [frameOf]
   obtain ⟨f3,hw2,_⟩:=hF
   have hDR:¬ D=w.heap.size+1:=by
    intro e
    have h1:=HW.out.2.1
    have h2:=HW.out.2.2.2.2.2.2.2
    rw [e,h1] at h2
    injection h2 with h2
    cases h2
   have hK2:=hB.blk HW.out.2.2.2.2.2.2.2 (by simp;omega)
   have HV:=aH (aI hw2 (aI hB hK2))
   clear hAp
   have HBB:=aH hB
   clear hB
   go_wp2
   have hB:=HBB.out
   refine ⟨by simp,.inl ⟨_,_,rfl,run_takeDeferred hK2,?_⟩⟩
   have hg5:(w2.putObj D (.deferred none)).heap[w.heap.size+1]?=some (.cells (fG C9.zero C9.zero C9.zero C9.zero).toArray 81 (0,0)):=(World.putObj_heap_other (by omega)).trans hw2
   have hl:=run_loadVar_mid (P:=Tryz.prog) (w2.putObj D (.deferred none)) (w.heap.size+1) 0 81 (((fG C9.zero C9.zero C9.zero C9.zero).drop 0).take 36) _ (qO hg5 0 36) Tryz.underlying81 rfl (by kernel_rfl)
   have e36:((fG C9.zero C9.zero C9.zero C9.zero).drop 0).take 36=fG C9.zero C9.zero C9.zero C9.zero:=by kernel_rfl
   rw [e36] at hl
   have hbe:=Base.belowT hB HW.out.2.2.2.2.2.2.1 (by omega)
   have hx1:=Base.extT hB HW.out.2.1 (mF _ _ _ _ _)
   have hx2:Go.Proofs.YtjijolobkpcpnaaGreatDoor.Ext Kn w2 (w2.putObj D (.deferred none)):=tP (grownBy_putObj' w2 D _) (fun r e=>by cases e;exact ⟨_,hK2,rfl⟩)
   have hDw:w.heap.size≤D:=by omega
   refine ⟨.tuple #[.agg (fG C9.zero C9.zero C9.zero C9.zero).toArray,.int .i64 zq],?_,rfl,⟨k,Vc.kext (Vc.kext HW.out.2.2.1 hx1) hx2⟩,⟨x',Vc.kext (Vc.kext HW.out.2.2.2.1 hx1) hx2⟩,⟨y',Vc.kext (Vc.kext HW.out.2.2.2.2.1 hx1) hx2⟩,⟨z',Vc.kext (Vc.kext HW.out.2.2.2.2.2.1 hx1) hx2⟩,hbe.trans (belowK_b (w:=w) (aR _) w2 D _ _ hDw hK2 rfl rfl)⟩
   refine (kL (vs := [.agg (fG C9.zero C9.zero C9.zero C9.zero).toArray,.int .i64 zq]) ?_).trans rfl
   show (List.mapM (vV _) [.cell 2 81,.tmp 3]).run _ _=_
   simp [List.mapM_cons,vV,Act.put,asAddr,Sem.run_bind,Result.andThen,hl,f3]
 case stop=>rintro D c pre W _ _ h _;exact h.elim
end Fr
namespace Fr
open Go.RowKit Go.Shelf Ab Pl
set_option maxRecDepth 100000 in
theorem yC (o1 o2 o3 x1 x2 x3 y1 y2 y3 z1 z2 z3:Rat) (ho:mH o1 o2 o3) (hx:mH x1 x2 x3) (hy:mH y1 y2 y3) (hz:mH z1 z2 z3) (lm:Lm 25 x1 x2 x3 y1 y2 y3 z1 z2 z3) (hax:Ax x1 x2 x3 y1 y2 y3 z1 z2 z3) (w:World) (hG:Gl w) :
 Calls Tryz.prog 44 #[.agg #[.string (writeB o1),.string (writeB o2),.string (writeB o3),.string (writeB x1),.string (writeB x2),.string (writeB x3),.string (writeB y1),.string (writeB y2),.string (writeB y3),.string (writeB z1),.string (writeB z2),.string (writeB z3)]] w fun e w' => ∃ o x y z:C9,e = .returned (.tuple #[.agg (fG o x y z).toArray,.int .i64 0])∧Vc w' o.val o1 o2 o3∧Vc w' x.val x1 x2 x3∧Vc w' y.val y1 y2 y3∧Vc w' z.val z1 z2 z3∧Below w.heap.size w w':=by
 have h:=yB (writeB o1) (writeB o2) (writeB o3) (writeB x1) (writeB x2) (writeB x3) (writeB y1) (writeB y2) (writeB y3) (writeB z1) (writeB z2) (writeB z3) o1 o2 o3 x1 x2 x3 y1 y2 y3 z1 z2 z3 0 0 0 0 0 0
  (.inl rfl) (.inl rfl) (.inl rfl) (.inl rfl) rfl (fun W hW=>kV ho W hW) (fun W hW=>kV hx W hW) (fun W hW=>kV hy W hW) (fun W hW=>kV hz W hW)
  (fun _ _ _ _ _ _ v0 v1 v2 v3=>check_any v0 v1 v2 v3 lm hax) w hG
 rw [if_pos rfl] at h
 simpa only [if_true] using h
theorem zL {β:List Nat} {w:World}:∀ (l:List ByteArray) (cs:List Value),holdsL β (l.map bV) cs w→cs=l.map Value.string
 | [],cs,h=>h
 | b::l,cs,⟨x,y,e,h1,h2⟩=>by
   have h1:x = [.string b]:=h1
   rw [e,h1,zL l y h2]
   rfl
section
variable {o1 o2 o3 x1 x2 x3 y1 y2 y3 z1 z2 z3:Rat}
theorem readFrameF (h:Wf o1 o2 o3 x1 x2 x3 y1 y2 y3 z1 z2 z3) (hax:Ax x1 x2 x3 y1 y2 y3 z1 z2 z3):jX 44 [kJ o1 o2 o3 x1 x2 x3 y1 y2 y3 z1 z2 z3] (okFr o1 o2 o3 x1 x2 x3 y1 y2 y3 z1 z2 z3):=by
 intro β w vs hG hv
 obtain ⟨v,rfl,cs,rfl,h1⟩:=dN hv
 have e:=zL [writeB o1,writeB o2,writeB o3,writeB x1,writeB x2,writeB x3,writeB y1,writeB y2,writeB y3,writeB z1,writeB z2,writeB z3] cs h1
 rw [e]
 refine (yC o1 o2 o3 x1 x2 x3 y1 y2 y3 z1 z2 z3 h.o h.x h.y h.z (h.lm.mono (by decide)) hax w hG).mono ?_
 rintro e w' ⟨o,x,y,z,e1,v0,v1,v2,v3,hb⟩
 exact ⟨_,e1,hb,[.agg (fG o x y z).toArray,.int .i64 0],rfl,_,_,rfl,fr_holds v0 v1 v2 v3,_,_,rfl,⟨rfl,rfl⟩,rfl⟩
theorem fv_of (h:Wf o1 o2 o3 x1 x2 x3 y1 y2 y3 z1 z2 z3) (hax:Ax x1 x2 x3 y1 y2 y3 z1 z2 z3):Fv o1 o2 o3 x1 x2 x3 y1 y2 y3 z1 z2 z3:=⟨h,hax,readFrameF h hax⟩
end
end Fr
namespace Ab
open Go.RowKit Pl
inductive AvL:List (AV Kn)→List (AV Kn)→Prop where
 | nil:AvL [] []
 | ag {k m l l'}:LitL k m→AvL l l'→AvL (.fv (.ag k)::l) (.fv (.ag m)::l')
 | txt {b:ByteArray} {l l'}:AvL l l'→AvL (.fv (.sc (bV b))::l) (.fv (.sc (.lit (.string b)))::l')
 | same {x:AV Kn} {l l'}:AvL l l'→AvL (x::l) (x::l')
theorem AvL.to {β:List Nat} {w:World} {l m:List (AV Kn)} (h:AvL l m):∀ {vs:List Value},holdsA β m vs w→holdsA β l vs w:=by
 induction h with
 | nil=>intro vs h;exact h
 | ag hl _ ih=>rintro vs ⟨v,r,e,h1,h2⟩;exact ⟨v,r,e,(aAz hl).2 h1,ih h2⟩
 | txt _ ih=>rintro vs ⟨v,r,e,h1,h2⟩;exact ⟨v,r,e,sc_lit.2 h1,ih h2⟩
 | same _ ih=>rintro vs ⟨v,r,e,h1,h2⟩;exact ⟨v,r,e,h1,ih h2⟩
inductive FvL:List (FV Kn)→List (FV Kn)→Prop where
 | nil:FvL [] []
 | ag {k m l l'}:LitL k m→FvL l l'→FvL (.ag k::l) (.ag m::l')
 | txt {b:ByteArray} {l l'}:FvL l l'→FvL (.sc (bV b)::l) (.sc (.lit (.string b))::l')
 | same {x:FV Kn} {l l'}:FvL l l'→FvL (x::l) (x::l')
theorem FvL.to {β:List Nat} {w:World} {l m:List (FV Kn)} (h:FvL l m):∀ {vs:List Value},holdsF β l vs w→holdsF β m vs w:=by
 induction h with
 | nil=>intro vs h;exact h
 | ag hl _ ih=>rintro vs ⟨v,r,e,h1,h2⟩;exact ⟨v,r,e,(aAz hl).1 h1,ih h2⟩
 | txt _ ih=>rintro vs ⟨v,r,e,h1,h2⟩;exact ⟨v,r,e,(sc_lit (β:=β)).1 h1,ih h2⟩
 | same _ ih=>rintro vs ⟨v,r,e,h1,h2⟩;exact ⟨v,r,e,h1,ih h2⟩
theorem FitsW.lits {P:Program} {I:World→Prop} {f:FuncId} {l l' : List (AV Kn)} {r r' : List (FV Kn)} (h:FitsW P I f l (.tup r)) (ha:AvL l l') (hr:FvL r r'):FitsW P I f l' (.tup r') :=
 (h.args fun _ _ _ hv=>ha.to hv).res fun _ _ _ ⟨vs,e,hv⟩=>⟨vs,e,hr.to hv⟩
theorem Fits.lits {P:Program} {f:FuncId} {l l' : List (AV Kn)} {k m:List (Seg Kn)} (h:Fits P f l (.fv (.ag k))) (ha:AvL l l') (hr:LitL k m):Fits P f l' (.fv (.ag m)):=fun β w vs hv =>
 (h β w vs (ha.to hv)).mono fun e w' ⟨v,e1,e2,e3⟩=>⟨v,e1,e2,(aAz hr).1 e3⟩
theorem vc_eq {P:Program} {f:FuncId} {l:List (AV Kn)} {a b c a' b' c' : Rat} (h:Fits P f l (vc a b c)) (e1:a=a') (e2:b=b') (e3:c=c'):Fits P f l (vc a' b' c'):=by
 subst e1
 subst e2
 subst e3
 exact h
theorem aBb {q:Rat} (hn:q.num.natAbs<1000000000) (hd:q.den<1000000000):Wr q :=
 ⟨Nat.le_trans (decB_size (k:=8) hn) (by decide),Nat.le_trans (decB_size (k:=8) hd) (by decide)⟩
theorem oM {z:Int} (h:z.natAbs<1000000000):Wr (z:Rat):=aBb h (show 1<1000000000 by omega)
theorem kD {q:Rat} {n:Int} {d:Nat} {a b:ByteArray} (hn:q.num=n) (hd:q.den=d) (h1:d≠1) (ha:aX n=a) (hb:decB d=b):writeB q=a++(⟨#[47]⟩++b):=by
 rw [eU (by rw [hd];exact h1),hn,hd,ha,hb]
theorem x0:writeB ((0:Int):Rat)=⟨#[48]⟩:=dD (by omega) (bF (n:=0) (by omega))
theorem x1:writeB ((1:Int):Rat)=⟨#[49]⟩:=dD (by omega) (bF (n:=1) (by omega))
theorem x2:writeB ((2:Int):Rat)=⟨#[50]⟩:=dD (by omega) (bF (n:=2) (by omega))
theorem x3:writeB ((3:Int):Rat)=⟨#[51]⟩:=dD (by omega) (bF (n:=3) (by omega))
theorem x4:writeB ((4:Int):Rat)=⟨#[52]⟩:=dD (by omega) (bF (n:=4) (by omega))
theorem x5:writeB ((5:Int):Rat)=⟨#[53]⟩:=dD (by omega) (bF (n:=5) (by omega))
theorem x7:writeB ((7:Int):Rat)=⟨#[55]⟩:=dD (by omega) (bF (n:=7) (by omega))
theorem x10:writeB ((10:Int):Rat)=⟨#[49,48]⟩:=dD (by omega) (mE (n:=10) (by omega) (by omega))
theorem x24:writeB ((24:Int):Rat)=⟨#[50,52]⟩:=dD (by omega) (mE (n:=24) (by omega) (by omega))
theorem x25:writeB ((25:Int):Rat)=⟨#[50,53]⟩:=dD (by omega) (mE (n:=25) (by omega) (by omega))
theorem x28:writeB ((28:Int):Rat)=⟨#[50,56]⟩:=dD (by omega) (mE (n:=28) (by omega) (by omega))
theorem x30:writeB ((30:Int):Rat)=⟨#[51,48]⟩:=dD (by omega) (mE (n:=30) (by omega) (by omega))
theorem xm1:writeB ((-1:Int):Rat)=⟨#[45,49]⟩:=(eL (z := -1) (by omega) (b:=⟨#[49]⟩) (by rw [show Int.natAbs (-1)=1 from rfl];exact bF (n:=1) (by omega))).trans (ba_ext rfl)
theorem xm2:writeB ((-2:Int):Rat)=⟨#[45,50]⟩:=(eL (z := -2) (by omega) (b:=⟨#[50]⟩) (by rw [show Int.natAbs (-2)=2 from rfl];exact bF (n:=2) (by omega))).trans (ba_ext rfl)
theorem xm4:writeB ((-4:Int):Rat)=⟨#[45,52]⟩:=(eL (z := -4) (by omega) (b:=⟨#[52]⟩) (by rw [show Int.natAbs (-4)=4 from rfl];exact bF (n:=4) (by omega))).trans (ba_ext rfl)
theorem xm7:writeB ((-7:Int):Rat)=⟨#[45,55]⟩:=(eL (z := -7) (by omega) (b:=⟨#[55]⟩) (by rw [show Int.natAbs (-7)=7 from rfl];exact bF (n:=7) (by omega))).trans (ba_ext rfl)
theorem xm24:writeB ((-24:Int):Rat)=⟨#[45,50,52]⟩:=(eL (z := -24) (by omega) (b:=⟨#[50,52]⟩) (by rw [show Int.natAbs (-24)=24 from rfl];exact mE (n:=24) (by omega) (by omega))).trans (ba_ext rfl)
theorem r0:Wr ((0:Int):Rat):=oM (by decide)
theorem r1:Wr ((1:Int):Rat):=oM (by decide)
theorem r2:Wr ((2:Int):Rat):=oM (by decide)
theorem r3:Wr ((3:Int):Rat):=oM (by decide)
theorem r4:Wr ((4:Int):Rat):=oM (by decide)
theorem r5:Wr ((5:Int):Rat):=oM (by decide)
theorem r7:Wr ((7:Int):Rat):=oM (by decide)
theorem r10:Wr ((10:Int):Rat):=oM (by decide)
theorem r24:Wr ((24:Int):Rat):=oM (by decide)
theorem r25:Wr ((25:Int):Rat):=oM (by decide)
theorem r28:Wr ((28:Int):Rat):=oM (by decide)
theorem r30:Wr ((30:Int):Rat):=oM (by decide)
theorem rm1:Wr ((-1:Int):Rat):=oM (by decide)
theorem rm2:Wr ((-2:Int):Rat):=oM (by decide)
theorem rm4:Wr ((-4:Int):Rat):=oM (by decide)
theorem rm7:Wr ((-7:Int):Rat):=oM (by decide)
theorem rm24:Wr ((-24:Int):Rat):=oM (by decide)
theorem nh12:(mkRat (1) 2).num=1:=by kernel_rfl
theorem dh12:(mkRat (1) 2).den=2:=by kernel_rfl
theorem xh12:writeB (mkRat (1) 2)=⟨#[49,47,50]⟩:=(kD nh12 dh12 (by decide) (a:=⟨#[49]⟩) ((dI (1)).trans x1) (bF (n:=2) (by omega))).trans (ba_ext rfl)
theorem rh12:Wr (mkRat (1) 2):=aBb (by rw [nh12];decide) (by rw [dh12];decide)
theorem nm13:(mkRat (-1) 3).num = -1:=by kernel_rfl
theorem dm13:(mkRat (-1) 3).den=3:=by kernel_rfl
theorem xm13:writeB (mkRat (-1) 3)=⟨#[45,49,47,51]⟩:=(kD nm13 dm13 (by decide) (a:=⟨#[45,49]⟩) ((dI (-1)).trans xm1) (bF (n:=3) (by omega))).trans (ba_ext rfl)
theorem rm13:Wr (mkRat (-1) 3):=aBb (by rw [nm13];decide) (by rw [dm13];decide)
theorem nq252:(mkRat (25) 2).num=25:=by kernel_rfl
theorem dq252:(mkRat (25) 2).den=2:=by kernel_rfl
theorem xq252:writeB (mkRat (25) 2)=⟨#[50,53,47,50]⟩:=(kD nq252 dq252 (by decide) (a:=⟨#[50,53]⟩) ((dI (25)).trans x25) (bF (n:=2) (by omega))).trans (ba_ext rfl)
theorem rq252:Wr (mkRat (25) 2):=aBb (by rw [nq252];decide) (by rw [dq252];decide)
theorem nm12:(mkRat (-1) 2).num = -1:=by kernel_rfl
theorem dm12:(mkRat (-1) 2).den=2:=by kernel_rfl
theorem xm12:writeB (mkRat (-1) 2)=⟨#[45,49,47,50]⟩:=(kD nm12 dm12 (by decide) (a:=⟨#[45,49]⟩) ((dI (-1)).trans xm1) (bF (n:=2) (by omega))).trans (ba_ext rfl)
theorem rm12:Wr (mkRat (-1) 2):=aBb (by rw [nm12];decide) (by rw [dm12];decide)
theorem nq23:(mkRat (2) 3).num=2:=by kernel_rfl
theorem dq23:(mkRat (2) 3).den=3:=by kernel_rfl
theorem xq23:writeB (mkRat (2) 3)=⟨#[50,47,51]⟩:=(kD nq23 dq23 (by decide) (a:=⟨#[50]⟩) ((dI (2)).trans x2) (bF (n:=3) (by omega))).trans (ba_ext rfl)
theorem rq23:Wr (mkRat (2) 3):=aBb (by rw [nq23];decide) (by rw [dq23];decide)
theorem lv_2_0_4:jF 10 [it (2),it (0),it (4)] (.fv (.ag [.lit (.string ⟨#[50]⟩),.lit (.string ⟨#[48]⟩),.lit (.string ⟨#[52]⟩)]):AV Kn):=by
 have h:=dH (a:=2) (b:=0) (c:=4) (by constructor <;> omega) (by constructor <;> omega) (by constructor <;> omega)
 simp only [vS,uJ,gE,rL,hS,kJ,fR,x0,x2,x4] at h
 exact h.lits (.same (.same (.same .nil))) (.txt (.txt (.txt .nil)))
theorem lv_m1_0_m2:jF 10 [it (-1),it (0),it (-2)] (.fv (.ag [.lit (.string ⟨#[45,49]⟩),.lit (.string ⟨#[48]⟩),.lit (.string ⟨#[45,50]⟩)]):AV Kn):=by
 have h:=dH (a := -1) (b:=0) (c := -2) (by constructor <;> omega) (by constructor <;> omega) (by constructor <;> omega)
 simp only [vS,uJ,gE,rL,hS,kJ,fR,x0,xm1,xm2] at h
 exact h.lits (.same (.same (.same .nil))) (.txt (.txt (.txt .nil)))
theorem lv_1_0_0:jF 10 [it (1),it (0),it (0)] (.fv (.ag [.lit (.string ⟨#[49]⟩),.lit (.string ⟨#[48]⟩),.lit (.string ⟨#[48]⟩)]):AV Kn):=by
 have h:=dH (a:=1) (b:=0) (c:=0) (by constructor <;> omega) (by constructor <;> omega) (by constructor <;> omega)
 simp only [vS,uJ,gE,rL,hS,kJ,fR,x0,x1] at h
 exact h.lits (.same (.same (.same .nil))) (.txt (.txt (.txt .nil)))
theorem lv_0_1_0:jF 10 [it (0),it (1),it (0)] (.fv (.ag [.lit (.string ⟨#[48]⟩),.lit (.string ⟨#[49]⟩),.lit (.string ⟨#[48]⟩)]):AV Kn):=by
 have h:=dH (a:=0) (b:=1) (c:=0) (by constructor <;> omega) (by constructor <;> omega) (by constructor <;> omega)
 simp only [vS,uJ,gE,rL,hS,kJ,fR,x0,x1] at h
 exact h.lits (.same (.same (.same .nil))) (.txt (.txt (.txt .nil)))
theorem lv_0_0_1:jF 10 [it (0),it (0),it (1)] (.fv (.ag [.lit (.string ⟨#[48]⟩),.lit (.string ⟨#[48]⟩),.lit (.string ⟨#[49]⟩)]):AV Kn):=by
 have h:=dH (a:=0) (b:=0) (c:=1) (by constructor <;> omega) (by constructor <;> omega) (by constructor <;> omega)
 simp only [vS,uJ,gE,rL,hS,kJ,fR,x0,x1] at h
 exact h.lits (.same (.same (.same .nil))) (.txt (.txt (.txt .nil)))
theorem lv_0_0_0:jF 10 [it (0),it (0),it (0)] (.fv (.ag [.lit (.string ⟨#[48]⟩),.lit (.string ⟨#[48]⟩),.lit (.string ⟨#[48]⟩)]):AV Kn):=by
 have h:=dH (a:=0) (b:=0) (c:=0) (by constructor <;> omega) (by constructor <;> omega) (by constructor <;> omega)
 simp only [vS,uJ,gE,rL,hS,kJ,fR,x0] at h
 exact h.lits (.same (.same (.same .nil))) (.txt (.txt (.txt .nil)))
theorem lv_1_1_1:jF 10 [it (1),it (1),it (1)] (.fv (.ag [.lit (.string ⟨#[49]⟩),.lit (.string ⟨#[49]⟩),.lit (.string ⟨#[49]⟩)]):AV Kn):=by
 have h:=dH (a:=1) (b:=1) (c:=1) (by constructor <;> omega) (by constructor <;> omega) (by constructor <;> omega)
 simp only [vS,uJ,gE,rL,hS,kJ,fR,x1] at h
 exact h.lits (.same (.same (.same .nil))) (.txt (.txt (.txt .nil)))
theorem lv_1_1_0:jF 10 [it (1),it (1),it (0)] (.fv (.ag [.lit (.string ⟨#[49]⟩),.lit (.string ⟨#[49]⟩),.lit (.string ⟨#[48]⟩)]):AV Kn):=by
 have h:=dH (a:=1) (b:=1) (c:=0) (by constructor <;> omega) (by constructor <;> omega) (by constructor <;> omega)
 simp only [vS,uJ,gE,rL,hS,kJ,fR,x0,x1] at h
 exact h.lits (.same (.same (.same .nil))) (.txt (.txt (.txt .nil)))
theorem lv_0_7_5:jF 10 [it (0),it (7),it (5)] (.fv (.ag [.lit (.string ⟨#[48]⟩),.lit (.string ⟨#[55]⟩),.lit (.string ⟨#[53]⟩)]):AV Kn):=by
 have h:=dH (a:=0) (b:=7) (c:=5) (by constructor <;> omega) (by constructor <;> omega) (by constructor <;> omega)
 simp only [vS,uJ,gE,rL,hS,kJ,fR,x0,x5,x7] at h
 exact h.lits (.same (.same (.same .nil))) (.txt (.txt (.txt .nil)))
theorem lv_m1_0_0:jF 10 [it (-1),it (0),it (0)] (.fv (.ag [.lit (.string ⟨#[45,49]⟩),.lit (.string ⟨#[48]⟩),.lit (.string ⟨#[48]⟩)]):AV Kn):=by
 have h:=dH (a := -1) (b:=0) (c:=0) (by constructor <;> omega) (by constructor <;> omega) (by constructor <;> omega)
 simp only [vS,uJ,gE,rL,hS,kJ,fR,x0,xm1] at h
 exact h.lits (.same (.same (.same .nil))) (.txt (.txt (.txt .nil)))
theorem lv_4_4_0:jF 10 [it (4),it (4),it (0)] (.fv (.ag [.lit (.string ⟨#[52]⟩),.lit (.string ⟨#[52]⟩),.lit (.string ⟨#[48]⟩)]):AV Kn):=by
 have h:=dH (a:=4) (b:=4) (c:=0) (by constructor <;> omega) (by constructor <;> omega) (by constructor <;> omega)
 simp only [vS,uJ,gE,rL,hS,kJ,fR,x0,x4] at h
 exact h.lits (.same (.same (.same .nil))) (.txt (.txt (.txt .nil)))
theorem lv_m7_24_0:jF 10 [it (-7),it (24),it (0)] (.fv (.ag [.lit (.string ⟨#[45,55]⟩),.lit (.string ⟨#[50,52]⟩),.lit (.string ⟨#[48]⟩)]):AV Kn):=by
 have h:=dH (a := -7) (b:=24) (c:=0) (by constructor <;> omega) (by constructor <;> omega) (by constructor <;> omega)
 simp only [vS,uJ,gE,rL,hS,kJ,fR,x0,x24,xm7] at h
 exact h.lits (.same (.same (.same .nil))) (.txt (.txt (.txt .nil)))
theorem lv_5_5_0:jF 10 [it (5),it (5),it (0)] (.fv (.ag [.lit (.string ⟨#[53]⟩),.lit (.string ⟨#[53]⟩),.lit (.string ⟨#[48]⟩)]):AV Kn):=by
 have h:=dH (a:=5) (b:=5) (c:=0) (by constructor <;> omega) (by constructor <;> omega) (by constructor <;> omega)
 simp only [vS,uJ,gE,rL,hS,kJ,fR,x0,x5] at h
 exact h.lits (.same (.same (.same .nil))) (.txt (.txt (.txt .nil)))
theorem lv_10_7_1:jF 10 [it (10),it (7),it (1)] (.fv (.ag [.lit (.string ⟨#[49,48]⟩),.lit (.string ⟨#[55]⟩),.lit (.string ⟨#[49]⟩)]):AV Kn):=by
 have h:=dH (a:=10) (b:=7) (c:=1) (by constructor <;> omega) (by constructor <;> omega) (by constructor <;> omega)
 simp only [vS,uJ,gE,rL,hS,kJ,fR,x1,x10,x7] at h
 exact h.lits (.same (.same (.same .nil))) (.txt (.txt (.txt .nil)))
theorem aBc:jF 23 ([]:List (AV Kn)) (.fv (.ag [.lit (.string ⟨#[49]⟩),.lit (.string ⟨#[48]⟩),.lit (.string ⟨#[48]⟩),.lit (.string ⟨#[51]⟩),.lit (.string ⟨#[52]⟩),.lit (.string ⟨#[48]⟩),.lit (.string ⟨#[45,52]⟩),.lit (.string ⟨#[51]⟩),.lit (.string ⟨#[48]⟩),.lit (.string ⟨#[48]⟩),.lit (.string ⟨#[48]⟩),.lit (.string ⟨#[53]⟩)]):AV Kn):=by
 have h:=lawFrameF
 simp only [vS,uJ,gE,rL,hS,kJ,fR,x0,x1,x3,x4,x5,xm4] at h
 exact h.lits .nil (.txt (.txt (.txt (.txt (.txt (.txt (.txt (.txt (.txt (.txt (.txt (.txt (.nil)))))))))))))
theorem wfF:Wf ((1:Int):Rat) ((0:Int):Rat) ((0:Int):Rat) ((3:Int):Rat) ((4:Int):Rat) ((0:Int):Rat) ((-4:Int):Rat) ((3:Int):Rat) ((0:Int):Rat) ((0:Int):Rat) ((0:Int):Rat) ((5:Int):Rat):=⟨⟨r1,r0,r0⟩,⟨r3,r4,r0⟩,⟨rm4,r3,r0⟩,⟨r0,r0,r5⟩⟩
theorem axF:Ax ((3:Int):Rat) ((4:Int):Rat) ((0:Int):Rat) ((-4:Int):Rat) ((3:Int):Rat) ((0:Int):Rat) ((0:Int):Rat) ((0:Int):Rat) ((5:Int):Rat):=⟨by kernel_rfl,by kernel_rfl,by kernel_rfl,by kernel_rfl,by kernel_rfl,by kernel_rfl,by kernel_rfl⟩
theorem fvF:Fv ((1:Int):Rat) ((0:Int):Rat) ((0:Int):Rat) ((3:Int):Rat) ((4:Int):Rat) ((0:Int):Rat) ((-4:Int):Rat) ((3:Int):Rat) ((0:Int):Rat) ((0:Int):Rat) ((0:Int):Rat) ((5:Int):Rat):=Go.Proofs.YtjijolobkpcpnaaGreatDoor.Fr.fv_of wfF axF
theorem hv111 {d:Rat} (h:Wr d):Hv 1 1 1 d:=⟨by constructor <;> omega,by constructor <;> omega,by constructor <;> omega,h,ck_111⟩
theorem hv100 {d:Rat} (h:Wr d):Hv 1 0 0 d:=⟨by constructor <;> omega,by constructor <;> omega,by constructor <;> omega,h,ck_100⟩
theorem hv302 {d:Rat} (h:Wr d):Hv 3 0 (-2) d:=⟨by constructor <;> omega,by constructor <;> omega,by constructor <;> omega,h,ck_302⟩
theorem nG {a:Rat} (h:decide (a=0)=false):a≠0:=of_decide_eq_false h
theorem asc_1250:∀ (j:Nat) (b:UInt8),(⟨#[49,50,46,53,48]⟩:ByteArray).data.toList[j]?=some b→b.toNat<128:=by
 intro j b h
 have:=List.mem_of_getElem? h
 simp at this
 rcases this with rfl|rfl|rfl|rfl|rfl <;> decide
theorem dig_12:AllDig (aC ⟨#[49,50]⟩):=by intro c hc;simp [aC] at hc;rcases hc with rfl|rfl <;> decide
theorem dig_50:AllDig (aC ⟨#[53,48]⟩):=by intro c hc;simp [aC] at hc;rcases hc with rfl|rfl <;> decide
theorem dec_100:decB 100=⟨#[49,48,48]⟩:=by unfold decB;rw [eI (by omega),eI (by omega),cL (by omega)];rfl
theorem dec_1250:decB 1250=⟨#[49,50,53,48]⟩:=by unfold decB;rw [eI (by omega),eI (by omega),eI (by omega),cL (by omega)];rfl
theorem q1250:mkRat (sg false 1250) 100=mkRat 25 2:=by kernel_rfl
theorem lv_small {n k:Nat} (h:n<1000000000):Lv k n:=(Lv.one n (by rw [aL];omega)).mono (Nat.zero_le _)
theorem eParse:jX 18 [lt ⟨#[49,50,46,53,48]⟩] (.tup [.sc (.lit (.string ⟨#[50,53,47,50]⟩)),.sc z0]):=by
 have hp:jF 62 [tx ⟨#[49,50,46,53,48]⟩] (.tup [.sc (bV (decB 1250)),.sc (bV (decB 100)),.sc z0]):=by
  have h:=partsDot (s:=⟨#[49,50,46,53,48]⟩) (a:=⟨#[49,50]⟩) (b:=⟨#[53,48]⟩) (z:=⟨#[48,48]⟩) (k:=2) (indexAnyF (by decide) asc_1250 (by kernel_rfl)) (by decide) (by decide) (ba_ext rfl) (ba_ext rfl) dig_12 (by decide) dig_50 (by decide) rfl (repeatF (by decide) (by decide) (ba_ext (by kernel_rfl))) (by decide)
  have e1:(⟨#[49,50]⟩++⟨#[53,48]⟩:ByteArray)=decB 1250:=dec_1250.symm
  have e2:(⟨#[49]⟩++⟨#[48,48]⟩:ByteArray)=decB 100:=dec_100.symm
  rw [e1,e2] at h
  exact h
 have h:=parseF' (s:=⟨#[49,50,46,53,48]⟩) (n:=1250) (d:=100) (by decide) (by kernel_rfl) hp (by rw [dec_1250];decide) (by rw [dec_100];decide) (lv_small (by decide)) (lv_small (by decide)) (by decide) (by rw [q1250];exact rq252.lf.mono (by decide)) (by rw [q1250];exact rq252.n) (by rw [q1250];exact rq252.d)
 rw [q1250,xq252] at h
 exact h.lits (.txt .nil) (.txt (.same .nil))
theorem eAlong:jX 19 [(.fv (.ag [.lit (.string ⟨#[50]⟩),.lit (.string ⟨#[48]⟩),.lit (.string ⟨#[52]⟩)]):AV Kn),(.fv (.ag [.lit (.string ⟨#[45,49]⟩),.lit (.string ⟨#[48]⟩),.lit (.string ⟨#[45,50]⟩)]):AV Kn)] (.tup [.sc (.lit (.string ⟨#[45,49,47,50]⟩)),.sc z0]):=by
 have h:=apiAlongF (a:=((2:Int):Rat)) (b:=((0:Int):Rat)) (c:=((4:Int):Rat)) (x:=((-1:Int):Rat)) (y:=((0:Int):Rat)) (z:=((-2:Int):Rat)) ⟨r2,r0,r4⟩ ⟨rm1,r0,rm2⟩ (by kernel_rfl) (by kernel_rfl) (nG (by kernel_rfl)) (by rw [show dt ((-1:Int):Rat) ((0:Int):Rat) ((-2:Int):Rat) ((2:Int):Rat) ((0:Int):Rat) ((4:Int):Rat)/dt ((2:Int):Rat) ((0:Int):Rat) ((4:Int):Rat) ((2:Int):Rat) ((0:Int):Rat) ((4:Int):Rat)=mkRat (-1) 2 from by kernel_rfl];exact rm12)
 rw [show dt ((-1:Int):Rat) ((0:Int):Rat) ((-2:Int):Rat) ((2:Int):Rat) ((0:Int):Rat) ((4:Int):Rat)/dt ((2:Int):Rat) ((0:Int):Rat) ((4:Int):Rat) ((2:Int):Rat) ((0:Int):Rat) ((4:Int):Rat)=mkRat (-1) 2 from by kernel_rfl] at h
 simp only [vS,uJ,gE,rL,hS,kJ,fR,x0,x2,x4,xm1,xm12,xm2] at h
 exact h.lits (.ag (.txt (.txt (.txt .nil))) (.ag (.txt (.txt (.txt .nil))) .nil)) (.txt (.same .nil))
theorem eMake:jX 20 [(.fv (.ag [.lit (.string ⟨#[49,47,50]⟩),.lit (.string ⟨#[48]⟩),.lit (.string ⟨#[45,49,47,51]⟩)]):AV Kn),lt ⟨#[53]⟩] (.tup [.ag [.lit (.int .i64 (3)),.lit (.int .i64 (0)),.lit (.int .i64 (-2)),.lit (.string ⟨#[51,48]⟩)],.sc z0]):=by
 have h:=aAi (n1:=mkRat 1 2) (n2:=((0:Int):Rat)) (n3:=mkRat (-1) 3) (d:=((5:Int):Rat)) (z1:=3) (z2:=0) (z3 := -2) (e:=((30:Int):Rat)) ⟨rh12,r0,rm13⟩ r5 ⟨rh12.lf.mono (by decide),r0.lf.mono (by decide),rm13.lf.mono (by decide),r5.lf.mono (by decide),fun ⟨e,_,_⟩=>nG (a:=mkRat 1 2) (by kernel_rfl) e,by kernel_rfl,by kernel_rfl,by kernel_rfl,by kernel_rfl,by constructor <;> omega,by constructor <;> omega,by constructor <;> omega,r30⟩
 simp only [vS,uJ,gE,rL,hS,kJ,fR,x0,x30,x5,xh12,xm13] at h
 exact h.lits (.ag (.txt (.txt (.txt .nil))) (.txt .nil)) (.ag (.same (.same (.same (.txt .nil)))) (.same .nil))
theorem eThrough:jX 21 [(.fv (.ag [.lit (.string ⟨#[49]⟩),.lit (.string ⟨#[48]⟩),.lit (.string ⟨#[48]⟩)]):AV Kn),(.fv (.ag [.lit (.string ⟨#[48]⟩),.lit (.string ⟨#[49]⟩),.lit (.string ⟨#[48]⟩)]):AV Kn),(.fv (.ag [.lit (.string ⟨#[48]⟩),.lit (.string ⟨#[48]⟩),.lit (.string ⟨#[49]⟩)]):AV Kn)] (.tup [.ag [.lit (.int .i64 (1)),.lit (.int .i64 (1)),.lit (.int .i64 (1)),.lit (.string ⟨#[49]⟩)],.sc z0]):=by
 have h:=apiThroughF (a1:=((1:Int):Rat)) (a2:=((0:Int):Rat)) (a3:=((0:Int):Rat)) (b1:=((0:Int):Rat)) (b2:=((1:Int):Rat)) (b3:=((0:Int):Rat)) (c1:=((0:Int):Rat)) (c2:=((0:Int):Rat)) (c3:=((1:Int):Rat)) (m1:=((1:Int):Rat)) (m2:=((1:Int):Rat)) (m3:=((1:Int):Rat)) (z1:=1) (z2:=1) (z3:=1) (e:=((1:Int):Rat)) ⟨r1,r0,r0⟩ ⟨r0,r1,r0⟩ ⟨r0,r0,r1⟩ (by kernel_rfl) (by kernel_rfl) (by kernel_rfl) ⟨r1.lf.mono (by decide),r1.lf.mono (by decide),r1.lf.mono (by decide),by rw [show dt ((1:Int):Rat) ((1:Int):Rat) ((1:Int):Rat) ((1:Int):Rat) ((0:Int):Rat) ((0:Int):Rat)=((1:Int):Rat) from by kernel_rfl];exact r1.lf.mono (by decide),fun ⟨e,_,_⟩=>nG (a:=((1:Int):Rat)) (by kernel_rfl) e,by kernel_rfl,by kernel_rfl,by kernel_rfl,by kernel_rfl,by constructor <;> omega,by constructor <;> omega,by constructor <;> omega,r1⟩
 simp only [vS,uJ,gE,rL,hS,kJ,fR,x0,x1] at h
 exact h.lits (.ag (.txt (.txt (.txt .nil))) (.ag (.txt (.txt (.txt .nil))) (.ag (.txt (.txt (.txt .nil))) .nil))) (.ag (.same (.same (.same (.txt .nil)))) (.same .nil))
theorem eMirror:jX 22 [(.fv (.ag [.lit (.int .i64 (1)),.lit (.int .i64 (1)),.lit (.int .i64 (1)),.lit (.string ⟨#[49]⟩)]):AV Kn),(.fv (.ag [.lit (.string ⟨#[48]⟩),.lit (.string ⟨#[48]⟩),.lit (.string ⟨#[48]⟩)]):AV Kn)] (.tup [.ag [.lit (.string ⟨#[50,47,51]⟩),.lit (.string ⟨#[50,47,51]⟩),.lit (.string ⟨#[50,47,51]⟩)],.sc z0]):=by
 have h:=apiMirrorF (z1:=1) (z2:=1) (z3:=1) (d:=((1:Int):Rat)) (p1:=((0:Int):Rat)) (p2:=((0:Int):Rat)) (p3:=((0:Int):Rat)) (m1:=mkRat 2 3) (m2:=mkRat 2 3) (m3:=mkRat 2 3) (hv111 r1) ⟨r0,r0,r0⟩ (nG (by kernel_rfl)) (by kernel_rfl) (by kernel_rfl) (by kernel_rfl) ⟨rq23,rq23,rq23⟩
 simp only [vS,uJ,gE,rL,hS,kJ,fR,x0,x1,xq23] at h
 exact h.lits (.ag (.same (.same (.same (.txt .nil)))) (.ag (.txt (.txt (.txt .nil))) .nil)) (.ag (.txt (.txt (.txt .nil))) (.same .nil))
theorem ePlace:jX 15 [(.fv (.ag [.lit (.string ⟨#[49]⟩),.lit (.string ⟨#[48]⟩),.lit (.string ⟨#[48]⟩),.lit (.string ⟨#[51]⟩),.lit (.string ⟨#[52]⟩),.lit (.string ⟨#[48]⟩),.lit (.string ⟨#[45,52]⟩),.lit (.string ⟨#[51]⟩),.lit (.string ⟨#[48]⟩),.lit (.string ⟨#[48]⟩),.lit (.string ⟨#[48]⟩),.lit (.string ⟨#[53]⟩)]):AV Kn),(.fv (.ag [.lit (.string ⟨#[49]⟩),.lit (.string ⟨#[49]⟩),.lit (.string ⟨#[49]⟩)]):AV Kn)] (.tup [.ag [.lit (.string ⟨#[48]⟩),.lit (.string ⟨#[55]⟩),.lit (.string ⟨#[53]⟩)],.sc z0]):=by
 have h:=yX (o1:=((1:Int):Rat)) (o2:=((0:Int):Rat)) (o3:=((0:Int):Rat)) (x1:=((3:Int):Rat)) (x2:=((4:Int):Rat)) (x3:=((0:Int):Rat)) (y1:=((-4:Int):Rat)) (y2:=((3:Int):Rat)) (y3:=((0:Int):Rat)) (z1:=((0:Int):Rat)) (z2:=((0:Int):Rat)) (z3:=((5:Int):Rat)) (p1:=((1:Int):Rat)) (p2:=((1:Int):Rat)) (p3:=((1:Int):Rat)) (m1:=((0:Int):Rat)) (m2:=((7:Int):Rat)) (m3:=((5:Int):Rat)) fvF ⟨r1,r1,r1⟩ (by kernel_rfl) (by kernel_rfl) (by kernel_rfl) ⟨r0,r7,r5⟩
 simp only [vS,uJ,gE,rL,hS,kJ,fR,x0,x1,x3,x4,x5,x7,xm4] at h
 exact h.lits (.ag (.txt (.txt (.txt (.txt (.txt (.txt (.txt (.txt (.txt (.txt (.txt (.txt (.nil))))))))))))) (.ag (.txt (.txt (.txt .nil))) .nil)) (.ag (.txt (.txt (.txt .nil))) (.same .nil))
theorem r325:Wr (mkRat 3 25):=aBb (by rw [show (mkRat 3 25).num=3 from by kernel_rfl];decide) (by rw [show (mkRat 3 25).den=25 from by kernel_rfl];decide)
theorem r425:Wr (mkRat 4 25):=aBb (by rw [show (mkRat 4 25).num=4 from by kernel_rfl];decide) (by rw [show (mkRat 4 25).den=25 from by kernel_rfl];decide)
theorem r2825:Wr (mkRat 28 25):=aBb (by rw [show (mkRat 28 25).num=28 from by kernel_rfl];decide) (by rw [show (mkRat 28 25).den=25 from by kernel_rfl];decide)
theorem ePlaceHalf:jX 24 [(.fv (.ag [.lit (.string ⟨#[49]⟩),.lit (.string ⟨#[48]⟩),.lit (.string ⟨#[48]⟩),.lit (.string ⟨#[51]⟩),.lit (.string ⟨#[52]⟩),.lit (.string ⟨#[48]⟩),.lit (.string ⟨#[45,52]⟩),.lit (.string ⟨#[51]⟩),.lit (.string ⟨#[48]⟩),.lit (.string ⟨#[48]⟩),.lit (.string ⟨#[48]⟩),.lit (.string ⟨#[53]⟩)]):AV Kn),(.fv (.ag [.lit (.int .i64 (1)),.lit (.int .i64 (0)),.lit (.int .i64 (0)),.lit (.string ⟨#[49]⟩)]):AV Kn)] (.tup [.ag [.lit (.int .i64 (3)),.lit (.int .i64 (4)),.lit (.int .i64 (0)),.lit (.string ⟨#[50,56]⟩)],.sc z0]):=by
 have h:=xU (o1:=((1:Int):Rat)) (o2:=((0:Int):Rat)) (o3:=((0:Int):Rat)) (x1:=((3:Int):Rat)) (x2:=((4:Int):Rat)) (x3:=((0:Int):Rat)) (y1:=((-4:Int):Rat)) (y2:=((3:Int):Rat)) (y3:=((0:Int):Rat)) (z1:=((0:Int):Rat)) (z2:=((0:Int):Rat)) (z3:=((5:Int):Rat)) (n1:=1) (n2:=0) (n3:=0) (d:=((1:Int):Rat)) (k1:=3) (k2:=4) (k3:=0) (e:=((28:Int):Rat)) fvF (hv100 r1) ⟨nG (by kernel_rfl),nG (by kernel_rfl),nG (by kernel_rfl)⟩ (q1:=mkRat 3 25) (q2:=mkRat 4 25) (q3:=((0:Int):Rat)) (by kernel_rfl) (by kernel_rfl) (by kernel_rfl) ⟨r325.lf.mono (by decide),r425.lf.mono (by decide),r0.lf.mono (by decide),by rw [show ((1:Int):Rat)+dt (mkRat 3 25) (mkRat 4 25) ((0:Int):Rat) ((1:Int):Rat) ((0:Int):Rat) ((0:Int):Rat)=mkRat 28 25 from by kernel_rfl];exact r2825.lf.mono (by decide),fun ⟨e,_,_⟩=>nG (a:=mkRat 3 25) (by kernel_rfl) e,by kernel_rfl,by kernel_rfl,by kernel_rfl,by kernel_rfl,by constructor <;> omega,by constructor <;> omega,by constructor <;> omega,r28⟩
 simp only [vS,uJ,gE,rL,hS,kJ,fR,x0,x1,x28,x3,x4,x5,xm4] at h
 exact h.lits (.ag (.txt (.txt (.txt (.txt (.txt (.txt (.txt (.txt (.txt (.txt (.txt (.txt (.nil))))))))))))) (.ag (.same (.same (.same (.txt .nil)))) .nil)) (.ag (.same (.same (.same (.txt .nil)))) (.same .nil))
theorem td_100:jF 35 [num ((1:Int):Rat),vc ((0:Int):Rat) ((0:Int):Rat) ((1:Int):Rat),vc ((1:Int):Rat) ((0:Int):Rat) ((0:Int):Rat)] (vc ((0:Int):Rat) ((1:Int):Rat) ((0:Int):Rat)):=by
 have h:=oW (w:=((1:Int):Rat)) (u1:=((0:Int):Rat)) (u2:=((0:Int):Rat)) (u3:=((1:Int):Rat)) (v1:=((1:Int):Rat)) (v2:=((0:Int):Rat)) (v3:=((0:Int):Rat)) (r1.lf.mono (by decide)) (r0.lf.mono (by decide)) (r0.lf.mono (by decide)) (r1.lf.mono (by decide)) (r1.lf.mono (by decide)) (r0.lf.mono (by decide)) (r0.lf.mono (by decide)) (nG (by kernel_rfl))
 exact vc_eq h (by kernel_rfl) (by kernel_rfl) (by kernel_rfl)
theorem td_010:jF 35 [num ((1:Int):Rat),vc ((0:Int):Rat) ((0:Int):Rat) ((1:Int):Rat),vc ((0:Int):Rat) ((1:Int):Rat) ((0:Int):Rat)] (vc ((-1:Int):Rat) ((0:Int):Rat) ((0:Int):Rat)):=by
 have h:=oW (w:=((1:Int):Rat)) (u1:=((0:Int):Rat)) (u2:=((0:Int):Rat)) (u3:=((1:Int):Rat)) (v1:=((0:Int):Rat)) (v2:=((1:Int):Rat)) (v3:=((0:Int):Rat)) (r1.lf.mono (by decide)) (r0.lf.mono (by decide)) (r0.lf.mono (by decide)) (r1.lf.mono (by decide)) (r0.lf.mono (by decide)) (r1.lf.mono (by decide)) (r0.lf.mono (by decide)) (nG (by kernel_rfl))
 exact vc_eq h (by kernel_rfl) (by kernel_rfl) (by kernel_rfl)
theorem td_001:jF 35 [num ((1:Int):Rat),vc ((0:Int):Rat) ((0:Int):Rat) ((1:Int):Rat),vc ((0:Int):Rat) ((0:Int):Rat) ((1:Int):Rat)] (vc ((0:Int):Rat) ((0:Int):Rat) ((1:Int):Rat)):=by
 have h:=oW (w:=((1:Int):Rat)) (u1:=((0:Int):Rat)) (u2:=((0:Int):Rat)) (u3:=((1:Int):Rat)) (v1:=((0:Int):Rat)) (v2:=((0:Int):Rat)) (v3:=((1:Int):Rat)) (r1.lf.mono (by decide)) (r0.lf.mono (by decide)) (r0.lf.mono (by decide)) (r1.lf.mono (by decide)) (r0.lf.mono (by decide)) (r0.lf.mono (by decide)) (r1.lf.mono (by decide)) (nG (by kernel_rfl))
 exact vc_eq h (by kernel_rfl) (by kernel_rfl) (by kernel_rfl)
theorem eTurn:jX 7 [(.fv (.ag [.lit (.string ⟨#[49]⟩),.lit (.string ⟨#[48]⟩),.lit (.string ⟨#[48]⟩),.lit (.string ⟨#[49]⟩)]):AV Kn)] (.tup [.ag [.lit (.string ⟨#[48]⟩),.lit (.string ⟨#[48]⟩),.lit (.string ⟨#[48]⟩),.lit (.string ⟨#[48]⟩),.lit (.string ⟨#[49]⟩),.lit (.string ⟨#[48]⟩),.lit (.string ⟨#[45,49]⟩),.lit (.string ⟨#[48]⟩),.lit (.string ⟨#[48]⟩),.lit (.string ⟨#[48]⟩),.lit (.string ⟨#[48]⟩),.lit (.string ⟨#[49]⟩)],.sc z0]):=by
 have h:=apiTurnF (w:=((1:Int):Rat)) (u1:=((0:Int):Rat)) (u2:=((0:Int):Rat)) (u3:=((1:Int):Rat)) (b:=false) r1 ⟨r0,r0,r1⟩ (by kernel_rfl) (fun h=>by cases h) td_100 td_010 td_001 ⟨⟨r0,r0,r0⟩,⟨r0,r1,r0⟩,⟨rm1,r0,r0⟩,⟨r0,r0,r1⟩⟩
 simp only [vS,uJ,gE,rL,hS,kJ,fR,x0,x1,xm1] at h
 exact h.lits (.ag (.txt (.txt (.txt (.txt .nil)))) .nil) (.ag (.txt (.txt (.txt (.txt (.txt (.txt (.txt (.txt (.txt (.txt (.txt (.txt (.nil))))))))))))) (.same .nil))
theorem eCompose:jX 14 [(.fv (.ag [.lit (.string ⟨#[49]⟩),.lit (.string ⟨#[48]⟩),.lit (.string ⟨#[48]⟩),.lit (.string ⟨#[51]⟩),.lit (.string ⟨#[52]⟩),.lit (.string ⟨#[48]⟩),.lit (.string ⟨#[45,52]⟩),.lit (.string ⟨#[51]⟩),.lit (.string ⟨#[48]⟩),.lit (.string ⟨#[48]⟩),.lit (.string ⟨#[48]⟩),.lit (.string ⟨#[53]⟩)]):AV Kn),(.fv (.ag [.lit (.string ⟨#[49]⟩),.lit (.string ⟨#[48]⟩),.lit (.string ⟨#[48]⟩),.lit (.string ⟨#[51]⟩),.lit (.string ⟨#[52]⟩),.lit (.string ⟨#[48]⟩),.lit (.string ⟨#[45,52]⟩),.lit (.string ⟨#[51]⟩),.lit (.string ⟨#[48]⟩),.lit (.string ⟨#[48]⟩),.lit (.string ⟨#[48]⟩),.lit (.string ⟨#[53]⟩)]):AV Kn)] (.tup [.ag [.lit (.string ⟨#[52]⟩),.lit (.string ⟨#[52]⟩),.lit (.string ⟨#[48]⟩),.lit (.string ⟨#[45,55]⟩),.lit (.string ⟨#[50,52]⟩),.lit (.string ⟨#[48]⟩),.lit (.string ⟨#[45,50,52]⟩),.lit (.string ⟨#[45,55]⟩),.lit (.string ⟨#[48]⟩),.lit (.string ⟨#[48]⟩),.lit (.string ⟨#[48]⟩),.lit (.string ⟨#[50,53]⟩)],.sc z0]):=by
 have h:=uK fvF fvF (q1:=((4:Int):Rat)) (q2:=((4:Int):Rat)) (q3:=((0:Int):Rat)) (r1:=((-7:Int):Rat)) (r2:=((24:Int):Rat)) (r3:=((0:Int):Rat)) (s1:=((-24:Int):Rat)) (s2:=((-7:Int):Rat)) (s3:=((0:Int):Rat)) (t1:=((0:Int):Rat)) (t2:=((0:Int):Rat)) (t3:=((25:Int):Rat)) (by kernel_rfl) (by kernel_rfl) (by kernel_rfl) (by kernel_rfl) (by kernel_rfl) (by kernel_rfl) (by kernel_rfl) (by kernel_rfl) (by kernel_rfl) (by kernel_rfl) (by kernel_rfl) (by kernel_rfl) ⟨⟨r4,r4,r0⟩,⟨rm7,r24,r0⟩,⟨rm24,rm7,r0⟩,⟨r0,r0,r25⟩⟩ (by kernel_rfl) (by kernel_rfl) (by kernel_rfl)
 simp only [vS,uJ,gE,rL,hS,kJ,fR,x0,x1,x24,x25,x3,x4,x5,xm24,xm4,xm7] at h
 exact h.lits (.ag (.txt (.txt (.txt (.txt (.txt (.txt (.txt (.txt (.txt (.txt (.txt (.txt (.nil))))))))))))) (.ag (.txt (.txt (.txt (.txt (.txt (.txt (.txt (.txt (.txt (.txt (.txt (.txt (.nil))))))))))))) .nil)) (.ag (.txt (.txt (.txt (.txt (.txt (.txt (.txt (.txt (.txt (.txt (.txt (.txt (.nil))))))))))))) (.same .nil))
theorem eMeet:jX 25 [(.fv (.ag [.lit (.int .i64 (1)),.lit (.int .i64 (1)),.lit (.int .i64 (1)),.lit (.string ⟨#[49,48]⟩)]):AV Kn),(.fv (.ag [.lit (.string ⟨#[48]⟩),.lit (.string ⟨#[48]⟩),.lit (.string ⟨#[48]⟩)]):AV Kn),(.fv (.ag [.lit (.string ⟨#[49]⟩),.lit (.string ⟨#[49]⟩),.lit (.string ⟨#[48]⟩)]):AV Kn)] (.tup [.ag [.lit (.string ⟨#[53]⟩),.lit (.string ⟨#[53]⟩),.lit (.string ⟨#[48]⟩)],.sc z0]):=by
 have h:=apiMeetF (z1:=1) (z2:=1) (z3:=1) (d:=((10:Int):Rat)) (p1:=((0:Int):Rat)) (p2:=((0:Int):Rat)) (p3:=((0:Int):Rat)) (v1:=((1:Int):Rat)) (v2:=((1:Int):Rat)) (v3:=((0:Int):Rat)) (m1:=((5:Int):Rat)) (m2:=((5:Int):Rat)) (m3:=((0:Int):Rat)) (hv111 r10) ⟨r0,r0,r0⟩ ⟨r1,r1,r0⟩ (nG (by kernel_rfl)) (by kernel_rfl) (by kernel_rfl) (by kernel_rfl) ⟨r5,r5,r0⟩
 simp only [vS,uJ,gE,rL,hS,kJ,fR,x0,x1,x10,x5] at h
 exact h.lits (.ag (.same (.same (.same (.txt .nil)))) (.ag (.txt (.txt (.txt .nil))) (.ag (.txt (.txt (.txt .nil))) .nil))) (.ag (.txt (.txt (.txt .nil))) (.same .nil))
theorem eSide:jX 26 [(.fv (.ag [.lit (.int .i64 (3)),.lit (.int .i64 (0)),.lit (.int .i64 (-2)),.lit (.string ⟨#[51,48]⟩)]):AV Kn),(.fv (.ag [.lit (.string ⟨#[49,48]⟩),.lit (.string ⟨#[55]⟩),.lit (.string ⟨#[49]⟩)]):AV Kn)] (.tup [.sc (.lit (.int .i64 (-1))),.sc z0]):=by
 have h:=apiSideF (z1:=3) (z2:=0) (z3 := -2) (d:=((30:Int):Rat)) (p1:=((10:Int):Rat)) (p2:=((7:Int):Rat)) (p3:=((1:Int):Rat)) (s := -1) (hv302 r30) ⟨r10,r7,r1⟩ (by kernel_rfl)
 simp only [vS,uJ,gE,rL,hS,kJ,fR,x1,x10,x30,x7] at h
 exact h.lits (.ag (.same (.same (.same (.txt .nil)))) (.ag (.txt (.txt (.txt .nil))) .nil)) (.same (.same .nil))
set_option maxRecDepth 100000 in
theorem qK:jX 4 ([]:List (AV Kn)) (bl true):=by
 refine jY Tryz.func4 fun w00 hI=>?_
 refine jW hI 18 [lt ⟨#[49,50,46,53,48]⟩] (eParse) ?_
 refine jC 10 [it (2),it (0),it (4)] (lv_2_0_4) ?_
 refine jC 10 [it (-1),it (0),it (-2)] (lv_m1_0_m2) ?_
 refine jW hI 19 [(.fv (.ag [.lit (.string ⟨#[50]⟩),.lit (.string ⟨#[48]⟩),.lit (.string ⟨#[52]⟩)])),(.fv (.ag [.lit (.string ⟨#[45,49]⟩),.lit (.string ⟨#[48]⟩),.lit (.string ⟨#[45,50]⟩)]))] (eAlong) ?_
 refine jW hI 20 [(.fv (.ag [.lit (.string ⟨#[49,47,50]⟩),.lit (.string ⟨#[48]⟩),.lit (.string ⟨#[45,49,47,51]⟩)])),lt ⟨#[53]⟩] (eMake) ?_
 refine jC 10 [it (1),it (0),it (0)] (lv_1_0_0) ?_
 refine jC 10 [it (0),it (1),it (0)] (lv_0_1_0) ?_
 refine jC 10 [it (0),it (0),it (1)] (lv_0_0_1) ?_
 refine jW hI 21 [(.fv (.ag [.lit (.string ⟨#[49]⟩),.lit (.string ⟨#[48]⟩),.lit (.string ⟨#[48]⟩)])),(.fv (.ag [.lit (.string ⟨#[48]⟩),.lit (.string ⟨#[49]⟩),.lit (.string ⟨#[48]⟩)])),(.fv (.ag [.lit (.string ⟨#[48]⟩),.lit (.string ⟨#[48]⟩),.lit (.string ⟨#[49]⟩)]))] (eThrough) ?_
 refine jC 10 [it (0),it (0),it (0)] (lv_0_0_0) ?_
 refine jW hI 22 [(.fv (.ag [.lit (.int .i64 (1)),.lit (.int .i64 (1)),.lit (.int .i64 (1)),.lit (.string ⟨#[49]⟩)])),(.fv (.ag [.lit (.string ⟨#[48]⟩),.lit (.string ⟨#[48]⟩),.lit (.string ⟨#[48]⟩)]))] (eMirror) ?_
 refine jC 23 [] (aBc) ?_
 refine jC 10 [it (1),it (1),it (1)] (lv_1_1_1) ?_
 refine jW hI 15 [(.fv (.ag [.lit (.string ⟨#[49]⟩),.lit (.string ⟨#[48]⟩),.lit (.string ⟨#[48]⟩),.lit (.string ⟨#[51]⟩),.lit (.string ⟨#[52]⟩),.lit (.string ⟨#[48]⟩),.lit (.string ⟨#[45,52]⟩),.lit (.string ⟨#[51]⟩),.lit (.string ⟨#[48]⟩),.lit (.string ⟨#[48]⟩),.lit (.string ⟨#[48]⟩),.lit (.string ⟨#[53]⟩)])),(.fv (.ag [.lit (.string ⟨#[49]⟩),.lit (.string ⟨#[49]⟩),.lit (.string ⟨#[49]⟩)]))] (ePlace) ?_
 refine jC 23 [] (aBc) ?_
 refine jW hI 24 [(.fv (.ag [.lit (.string ⟨#[49]⟩),.lit (.string ⟨#[48]⟩),.lit (.string ⟨#[48]⟩),.lit (.string ⟨#[51]⟩),.lit (.string ⟨#[52]⟩),.lit (.string ⟨#[48]⟩),.lit (.string ⟨#[45,52]⟩),.lit (.string ⟨#[51]⟩),.lit (.string ⟨#[48]⟩),.lit (.string ⟨#[48]⟩),.lit (.string ⟨#[48]⟩),.lit (.string ⟨#[53]⟩)])),(.fv (.ag [.lit (.int .i64 (1)),.lit (.int .i64 (0)),.lit (.int .i64 (0)),.lit (.string ⟨#[49]⟩)]))] (ePlaceHalf) ?_
 refine jW hI 7 [(.fv (.ag [.lit (.string ⟨#[49]⟩),.lit (.string ⟨#[48]⟩),.lit (.string ⟨#[48]⟩),.lit (.string ⟨#[49]⟩)]))] (eTurn) ?_
 refine jC 23 [] (aBc) ?_
 refine jC 23 [] (aBc) ?_
 refine jW hI 14 [(.fv (.ag [.lit (.string ⟨#[49]⟩),.lit (.string ⟨#[48]⟩),.lit (.string ⟨#[48]⟩),.lit (.string ⟨#[51]⟩),.lit (.string ⟨#[52]⟩),.lit (.string ⟨#[48]⟩),.lit (.string ⟨#[45,52]⟩),.lit (.string ⟨#[51]⟩),.lit (.string ⟨#[48]⟩),.lit (.string ⟨#[48]⟩),.lit (.string ⟨#[48]⟩),.lit (.string ⟨#[53]⟩)])),(.fv (.ag [.lit (.string ⟨#[49]⟩),.lit (.string ⟨#[48]⟩),.lit (.string ⟨#[48]⟩),.lit (.string ⟨#[51]⟩),.lit (.string ⟨#[52]⟩),.lit (.string ⟨#[48]⟩),.lit (.string ⟨#[45,52]⟩),.lit (.string ⟨#[51]⟩),.lit (.string ⟨#[48]⟩),.lit (.string ⟨#[48]⟩),.lit (.string ⟨#[48]⟩),.lit (.string ⟨#[53]⟩)]))] (eCompose) ?_
 refine jC 10 [it (0),it (0),it (0)] (lv_0_0_0) ?_
 refine jC 10 [it (1),it (1),it (0)] (lv_1_1_0) ?_
 refine jW hI 25 [(.fv (.ag [.lit (.int .i64 (1)),.lit (.int .i64 (1)),.lit (.int .i64 (1)),.lit (.string ⟨#[49,48]⟩)])),(.fv (.ag [.lit (.string ⟨#[48]⟩),.lit (.string ⟨#[48]⟩),.lit (.string ⟨#[48]⟩)])),(.fv (.ag [.lit (.string ⟨#[49]⟩),.lit (.string ⟨#[49]⟩),.lit (.string ⟨#[48]⟩)]))] (eMeet) ?_
 refine jC 10 [it (0),it (7),it (5)] (lv_0_7_5) ?_
 refine jC 10 [it (0),it (1),it (0)] (lv_0_1_0) ?_
 refine jC 10 [it (-1),it (0),it (0)] (lv_m1_0_0) ?_
 refine jC 10 [it (4),it (4),it (0)] (lv_4_4_0) ?_
 refine jC 10 [it (-7),it (24),it (0)] (lv_m7_24_0) ?_
 refine jC 10 [it (5),it (5),it (0)] (lv_5_5_0) ?_
 refine jC 10 [it (10),it (7),it (1)] (lv_10_7_1) ?_
 refine jW hI 26 [(.fv (.ag [.lit (.int .i64 (3)),.lit (.int .i64 (0)),.lit (.int .i64 (-2)),.lit (.string ⟨#[51,48]⟩)])),(.fv (.ag [.lit (.string ⟨#[49,48]⟩),.lit (.string ⟨#[55]⟩),.lit (.string ⟨#[49]⟩)]))] (eSide) ?_
 refine jC 27 [lt ⟨#[112,111,115,116,95,49]⟩] (isNameF (b:=true) (by kernel_rfl)) ?_
 refine jC 27 [lt ⟨#[49,112,111,115,116]⟩] (isNameF (b:=false) (by kernel_rfl)) ?_
 exact jR Tryz.func4
abbrev hA (a b c:Int) (s:ByteArray):AV Kn := .fv (.ag [sK a,sK b,sK c,bV s])
abbrev hL (a b c:Int) (s:ByteArray):AV Kn := .fv (.ag [.lit (.int .i64 a),.lit (.int .i64 b),.lit (.int .i64 c),bV s])
def Bq (k:Nat) (q:Rat):Prop:=q.num.natAbs<10^k∧q.den<10^k
theorem Bq.mono {k l:Nat} {q:Rat} (h:Bq k q) (hk:k≤l):Bq l q :=
 ⟨Nat.lt_of_lt_of_le h.1 (Nat.pow_le_pow_right (by omega) hk),Nat.lt_of_lt_of_le h.2 (Nat.pow_le_pow_right (by omega) hk)⟩
theorem Bq.mul {j k:Nat} {p q:Rat} (hp:Bq j p) (hq:Bq k q):Bq (j+k) (p*q):=by
 rw [Rat.mul_def']
 obtain ⟨h1,h2⟩:=dF (p.num*q.num) (Nat.ne_of_gt (Nat.mul_pos p.den_pos q.den_pos))
 rw [Int.natAbs_mul] at h1
 refine ⟨Nat.lt_of_le_of_lt h1 ?_,Nat.lt_of_le_of_lt h2 ?_⟩
 ·rw [Nat.pow_add];exact Nat.mul_lt_mul'' hp.1 hq.1
 ·rw [Nat.pow_add];exact Nat.mul_lt_mul'' hp.2 hq.2
theorem Bq.add {j k:Nat} {p q:Rat} (hp:Bq j p) (hq:Bq k q):Bq (j+k+1) (p+q):=by
 rw [Rat.add_def']
 obtain ⟨h1,h2⟩:=dF (p.num*q.den+q.num*p.den) (Nat.ne_of_gt (Nat.mul_pos p.den_pos q.den_pos))
 have a1:p.num.natAbs*q.den<10^(j+k):=by rw [Nat.pow_add];exact Nat.mul_lt_mul'' hp.1 hq.2
 have a2:q.num.natAbs*p.den<10^(j+k):=by rw [Nat.pow_add,Nat.mul_comm];exact Nat.mul_lt_mul'' hp.2 hq.1
 have a3:p.den*q.den<10^(j+k):=by rw [Nat.pow_add];exact Nat.mul_lt_mul'' hp.2 hq.2
 have a4:10^(j+k+1)=10^(j+k)*10:=Nat.pow_succ _ _
 have a5:=Int.natAbs_add_le (p.num*q.den) (q.num*p.den)
 rw [Int.natAbs_mul,Int.natAbs_mul,Int.natAbs_natCast,Int.natAbs_natCast] at a5
 exact ⟨by omega,by omega⟩
theorem Bq.neg {k:Nat} {p:Rat} (hp:Bq k p):Bq k (-p):=by
 refine ⟨?_,hp.2⟩
 rw [Rat.neg_num,Int.natAbs_neg];exact hp.1
theorem Bq.dt {k l n:Nat} {a b c x y z:Rat} (h1:Bq k a) (h2:Bq k b) (h3:Bq k c) (g1:Bq l x) (g2:Bq l y) (g3:Bq l z) (hn:3*(k+l)+2≤n):Bq n (dt a b c x y z) :=
 (((h1.mul g1).add (h2.mul g2)).add (h3.mul g3)).mono (by omega)
theorem Bq.wr {k:Nat} {q:Rat} (h:Bq k q) (hk:k≤600):Wr q:=by
 have h':=h.mono (l:=599+1) hk
 exact ⟨decB_size h'.1,decB_size h'.2⟩
theorem Bq.zs {k:Nat} {q:Rat} (h:Bq k q) (hk:k≤10000):Zs 10000 q:=by
 have h':=h.mono (l:=10000+1) (by omega)
 exact h'
theorem kW {k:Nat} {q:Rat} (h:Fw k q):Bq k q:=⟨nC h.1,nC h.2⟩
theorem oZ (x:Rat):0≤x*x:=by
 rcases Rat.le_total (a:=0) (b:=x) with h|h
 ·exact Rat.mul_nonneg h h
 ·have h' : 0≤-x:=by grind
  have:=Rat.mul_nonneg h' h'
  grind
theorem numr_ne {q:Rat} (h:q≠0):q.num≠0:=fun e=>h (Rat.num_eq_zero.1 e)
theorem vJ {p q r:Prop} [Decidable p] [Decidable q] [Decidable r] (h:¬ (p∧q∧r)):(decide p&&decide q&&decide r)=false:=by
 rw [Bool.eq_false_iff]
 intro hh
 simp only [Bool.and_eq_true,decide_eq_true_eq] at hh
 exact h ⟨hh.1.1,hh.1.2,hh.2⟩
section
variable {a b c:Int} {s:ByteArray}
abbrev In (k x:Int):Prop := -k≤x∧x≤k
end
section
variable {a b c x y z d:Rat} {k l n:Nat}
theorem dotV (h1:Bq k a) (h2:Bq k b) (h3:Bq k c) (g1:Bq l x) (g2:Bq l y) (g3:Bq l z) (hk:2*(k+l)<10000):jF 17 [vS a b c,vS x y z] (tx (writeB (dt a b c x y z))) :=
 dotR (kn_S (sA (h1.zs (by omega)) (g1.zs (by omega)))) (kn_S (sA (h2.zs (by omega)) (g2.zs (by omega)))) (kn_S (aAx ((h1.mul g1).zs (by omega)) ((h2.mul g2).zs (by omega))))
  (kn_S (sA (h3.zs (by omega)) (g3.zs (by omega)))) (kn_S (aAx (((h1.mul g1).add (h2.mul g2)).zs (by omega)) ((h3.mul g3).zs (by omega))))
theorem aBd (h1:Bq k a) (h2:Bq k b) (h3:Bq k c) (hk:4*k<10000):jF 42 [vS a b c] (tx (writeB (dt a b c a b c))):=squareR (dotV h1 h2 h3 h1 h2 h3 (by omega))
end
theorem aBe {z:Int} {k:Nat} (h:z.natAbs<10^k) (hk:0<k):Bq k (z:Rat):=by
 refine ⟨by rw [Rat.num_intCast];exact h,?_⟩
 rw [Rat.den_intCast]
 have:=Nat.pow_le_pow_right (n:=10) (by omega) hk
 omega
theorem nH {k:Nat} {q:Rat} (h:Bq k q) (hk:k≤600):jF 90 [tx (writeB q)] (it 0):=chkF (h.wr hk).n (h.wr hk).d
def Fy (k:Nat) (s:ByteArray):Prop := ∃ q,s=writeB q∧Fw k q
section
variable {a b c d:ByteArray} {n:Int} {T:TypeId}
abbrev q4 (a b c d:ByteArray):List (Seg Kn) := [bV a,bV b,bV c,bV d]
theorem fewListT (h1:jF 28 [tx a,it n] (bl true)) (h2:jF 28 [tx b,it n] (bl true)) (h3:jF 28 [tx c,it n] (bl true)) (h4:jF 28 [tx d,it n] (bl true)):jF 5 [.fv (.nsl 4 T (q4 a b c d)),it 4,it n] (bl true):=by
 refine kgoSA Tryz.func5 (by kernel_rfl) fun w00=>?_
 refine jC 28 [tx a,it n] (h1) ?_
 refine jC 28 [tx b,it n] (h2) ?_
 refine jC 28 [tx c,it n] (h3) ?_
 refine jC 28 [tx d,it n] (h4) ?_
 exact jR Tryz.func5
theorem fewListF {y:ByteArray→Bool} (h:∀ s,jF 28 [tx s,it n] (bl (y s))) (hn:(y a&&y b&&y c&&y d)=false):jF 5 [.fv (.nsl 4 T (q4 a b c d)),it 4,it n] (bl false):=by
 have ha:=h a
 have hb:=h b
 have hc:=h c
 have hd:=h d
 clear h
 generalize y a=a1 at *
 generalize y b=b1 at *
 generalize y c=c1 at *
 generalize y d=d1 at *
 refine kgoSA Tryz.func5 (by kernel_rfl) fun w00=>?_
 cases a1
 ·refine jC 28 [tx a,it n] (ha) ?_
  exact jR Tryz.func5
 refine jC 28 [tx a,it n] (ha) ?_
 cases b1
 ·refine jC 28 [tx b,it n] (hb) ?_
  exact jR Tryz.func5
 refine jC 28 [tx b,it n] (hb) ?_
 cases c1
 ·refine jC 28 [tx c,it n] (hc) ?_
  exact jR Tryz.func5
 refine jC 28 [tx c,it n] (hc) ?_
 cases d1
 ·refine jC 28 [tx d,it n] (hd) ?_
  exact jR Tryz.func5
 ·cases hn
end
section
variable {o1 o2 o3 x1 x2 x3 y1 y2 y3 z1 z2 z3:Rat}
theorem isZeroT {s:ByteArray} {r:Bool} (h:(s.toList==(⟨#[48]⟩:ByteArray).toList)=r):jF 103 [tx s] (bl r):=by
 refine jG Tryz.func103 fun w00=>?_
 refine jK (.binOp .eql 22 (.tmp 3) (.const (.string ⟨#[48]⟩)) 22) (.tmp 3) (.const (.string ⟨#[48]⟩)) (tx s) (lt ⟨#[48]⟩) (bl r) (fun ρ o β w ho hx hy=>⟨_,oT ho (aW hx) (aO hy) h,bC rfl⟩) ?_
 exact jR Tryz.func103
theorem isOriginT {a b c:ByteArray} {r:Bool} (h:(a.toList==(⟨#[48]⟩:ByteArray).toList&&b.toList==(⟨#[48]⟩:ByteArray).toList&&c.toList==(⟨#[48]⟩:ByteArray).toList)=r):jF 40 [t3 a b c] (bl r):=by
 refine jG Tryz.func40 fun w00=>?_
 refine jC 102 [] (originF) ?_
 refine jK (.binOp .eql 25 (.tmp 3) (.tmp 4) 25) (.tmp 3) (.tmp 4) (t3 a b c) (.fv (.ag [.lit (.string ⟨#[48]⟩),.lit (.string ⟨#[48]⟩),.lit (.string ⟨#[48]⟩)])) (bl r) (fun ρ o β w ho hx hy=>⟨_,agg_eq (by kernel_rfl) (h▸equalT a b c _ _ _ w) ho (s3_is hx) (l3_is hy),bC rfl⟩) ?_
 exact jR Tryz.func40
theorem crossR {a b c d e f p1 p2 p3 p4 p5 p6 r1 r2 r3:ByteArray} (h1:jF 13 [tx b,tx f] (tx p1)) (h2:jF 13 [tx c,tx e] (tx p2)) (h3:jF 212 [tx p1,tx p2] (tx r1)) (h4:jF 13 [tx c,tx d] (tx p3)) (h5:jF 13 [tx a,tx f] (tx p4)) (h6:jF 212 [tx p3,tx p4] (tx r2))
 (h7:jF 13 [tx a,tx e] (tx p5)) (h8:jF 13 [tx b,tx d] (tx p6)) (h9:jF 212 [tx p5,tx p6] (tx r3)):jF 163 [t3 a b c,t3 d e f] (t3 r1 r2 r3):=by
 refine jG Tryz.func163 fun w00=>?_
 refine jC 13 [tx b,tx f] (h1) ?_
 refine jC 13 [tx c,tx e] (h2) ?_
 refine jC 212 [tx p1,tx p2] (h3) ?_
 refine jC 13 [tx c,tx d] (h4) ?_
 refine jC 13 [tx a,tx f] (h5) ?_
 refine jC 212 [tx p3,tx p4] (h6) ?_
 refine jC 13 [tx a,tx e] (h7) ?_
 refine jC 13 [tx b,tx d] (h8) ?_
 refine jC 212 [tx p5,tx p6] (h9) ?_
 exact jR Tryz.func163
variable {k l:Nat}
theorem crossV {a b c x y z:Rat} (h1:Bq k a) (h2:Bq k b) (h3:Bq k c) (g1:Bq l x) (g2:Bq l y) (g3:Bq l z) (hk:k+l≤10000):jF 163 [vS a b c,vS x y z] (vS (b*z-c*y) (c*x-a*z) (a*y-b*x)) :=
 have m:∀ {p q:Rat},Bq k p→Bq l q→jF 13 [tx (writeB p),tx (writeB q)] (tx (writeB (p*q))):=fun hp hq=>kn_S (sA (hp.zs (by omega)) (hq.zs (by omega)))
 have s:∀ {p q r t:Rat},Bq k p→Bq l q→Bq k r→Bq l t→jF 212 [tx (writeB (p*q)),tx (writeB (r*t))] (tx (writeB (p*q-r*t))):=fun hp hq hr ht=>kn_S (subR ((hp.mul hq).zs (by omega)) ((hr.mul ht).zs (by omega)))
 crossR (m h2 g3) (m h3 g2) (s h2 g3 h3 g2) (m h3 g1) (m h1 g3) (s h3 g1 h1 g3) (m h1 g2) (m h2 g1) (s h1 g2 h2 g1)
theorem detR {a b c d e f g h i p q r v:ByteArray} (h1:jF 163 [t3 d e f,t3 g h i] (t3 p q r)) (h2:jF 17 [t3 a b c,t3 p q r] (tx v)):jF 104 [t3 a b c,t3 d e f,t3 g h i] (tx v):=by
 refine jG Tryz.func104 fun w00=>?_
 refine jC 163 [t3 d e f,t3 g h i] (h1) ?_
 refine jC 17 [t3 a b c,t3 p q r] (h2) ?_
 exact jR Tryz.func104
abbrev aBf (o1 o2 o3 x1 x2 x3 y1 y2 y3 z1 z2 z3:ByteArray):AV Kn := .fv (.ag [bV o1,bV o2,bV o3,bV x1,bV x2,bV x3,bV y1,bV y2,bV y3,bV z1,bV z2,bV z3])
theorem shapeR {o1 o2 o3 x1 x2 x3 y1 y2 y3 z1 z2 z3 p q r v:ByteArray} (h1:jF 17 [t3 x1 x2 x3,t3 y1 y2 y3] (tx p)) (i1:jF 103 [tx p] (bl true)) (h2:jF 17 [t3 y1 y2 y3,t3 z1 z2 z3] (tx q)) (i2:jF 103 [tx q] (bl true)) (h3:jF 17 [t3 z1 z2 z3,t3 x1 x2 x3] (tx r)) (i3:jF 103 [tx r] (bl true))
 (h4:jF 104 [t3 x1 x2 x3,t3 y1 y2 y3,t3 z1 z2 z3] (tx v)) (h5:jF 48 [tx v] (it 1)):jF 41 [aBf o1 o2 o3 x1 x2 x3 y1 y2 y3 z1 z2 z3] (it 0):=by
 refine jG Tryz.func41 fun w00=>?_
 refine jC 17 [t3 x1 x2 x3,t3 y1 y2 y3] (h1) ?_
 refine jC 103 [tx p] (i1) ?_
 refine jC 17 [t3 y1 y2 y3,t3 z1 z2 z3] (h2) ?_
 refine jC 103 [tx q] (i2) ?_
 refine jC 17 [t3 z1 z2 z3,t3 x1 x2 x3] (h3) ?_
 refine jC 103 [tx r] (i3) ?_
 refine jC 104 [t3 x1 x2 x3,t3 y1 y2 y3,t3 z1 z2 z3] (h4) ?_
 refine jC 48 [tx v] (h5) ?_
 exact jR Tryz.func41
theorem checkFrameR {o1 o2 o3 x1 x2 x3 y1 y2 y3 z1 z2 z3:ByteArray} (h1:jF 16 [t3 o1 o2 o3] (it 0)) (h2:jF 16 [t3 x1 x2 x3] (it 0)) (h3:jF 16 [t3 y1 y2 y3] (it 0)) (h4:jF 16 [t3 z1 z2 z3] (it 0))
 (i2:jF 40 [t3 x1 x2 x3] (bl false)) (i3:jF 40 [t3 y1 y2 y3] (bl false)) (i4:jF 40 [t3 z1 z2 z3] (bl false)) (h5:jF 41 [aBf o1 o2 o3 x1 x2 x3 y1 y2 y3 z1 z2 z3] (it 0)):jF 8 [aBf o1 o2 o3 x1 x2 x3 y1 y2 y3 z1 z2 z3] (it 0):=by
 refine kgoN 15 Tryz.func8 (by kernel_rfl) fun w00=>?_
 refine kown (by kernel_rfl) ?_
 refine jC 16 [t3 o1 o2 o3] (h1) ?_
 refine jC 16 [t3 x1 x2 x3] (h2) ?_
 refine jC 16 [t3 y1 y2 y3] (h3) ?_
 refine jC 16 [t3 z1 z2 z3] (h4) ?_
 refine jC 40 [t3 x1 x2 x3] (i2) ?_
 refine jC 40 [t3 y1 y2 y3] (i3) ?_
 refine jC 40 [t3 z1 z2 z3] (i4) ?_
 refine jC 41 [aBf o1 o2 o3 x1 x2 x3 y1 y2 y3 z1 z2 z3] (h5) ?_
 exact jR Tryz.func8
theorem stretchR {o1 o2 o3 x1 x2 x3 y1 y2 y3 z1 z2 z3 p q r:ByteArray} (h1:jF 42 [t3 x1 x2 x3] (tx p)) (h2:jF 42 [t3 y1 y2 y3] (tx q)) (h3:jF 42 [t3 z1 z2 z3] (tx r)):jF 9 [aBf o1 o2 o3 x1 x2 x3 y1 y2 y3 z1 z2 z3] (t3 p q r):=by
 refine jG Tryz.func9 fun w00=>?_
 refine jC 42 [t3 x1 x2 x3] (h1) ?_
 refine jC 42 [t3 y1 y2 y3] (h2) ?_
 refine jC 42 [t3 z1 z2 z3] (h3) ?_
 exact jR Tryz.func9
end
theorem equalV (d:Nat) (a b c x y z:ByteArray) (w:World):(Op.equalIn (d+2) 25 (.agg #[.string a,.string b,.string c]) (.agg #[.string x,.string y,.string z])).run Tryz.prog w = .ok (a.toList==x.toList&&b.toList==y.toList&&c.toList==z.toList) w :=
 equal3 (d+1) (e:=22) (by kernel_rfl) (by kernel_rfl) (fun w=>by kernel_rfl) (fun w=>by kernel_rfl) (fun w=>run_equalIn_string w _ _ _ _ (by kernel_rfl)) (fun w=>run_equalIn_string w _ _ _ _ (by kernel_rfl)) (fun w=>run_equalIn_string w _ _ _ _ (by kernel_rfl)) w
theorem equalFr (a0 a1 a2 a3 a4 a5 a6 a7 a8 a9 b0 b1:ByteArray) (w:World):(Op.equal 32 (.agg #[.string a0,.string a1,.string a2,.string a3,.string a4,.string a5,.string a6,.string a7,.string a8,.string a9,.string b0,.string b1])
 (.agg #[.string a0,.string a1,.string a2,.string a3,.string a4,.string a5,.string a6,.string a7,.string a8,.string a9,.string b0,.string b1])).run Tryz.prog w = .ok true w:=by
 have u:=Tryz.isAgg25
 have z:=Tryz.sizeOf25
 have k:=fun (a b c:ByteArray) (w:World)=>equalV 9997 a b c a b c w
 simp only [beq_self_eq_true,Bool.and_self] at k
 unfold Op.equal Op.maxDepth
 rw [show (10000:Nat)=9999+1 from rfl,run_equalIn_struct w 9999 _ _ _ (by kernel_rfl) (by kernel_rfl)]
 simp only [Program.fieldsOf,Tryz.underlying32]
 simp [go_sem,u,z,Op.eqFields,k]
theorem equalQ (a b c d x y z v:ByteArray) (w:World):(Op.equal 23 (.agg #[.string a,.string b,.string c,.string d]) (.agg #[.string x,.string y,.string z,.string v])).run Tryz.prog w = .ok (a.toList==x.toList&&b.toList==y.toList&&c.toList==z.toList&&d.toList==v.toList) w :=
 equal4 9999 (e:=22) (by kernel_rfl) (by kernel_rfl) (fun w=>by kernel_rfl) (fun w=>by kernel_rfl) (fun w=>run_equalIn_string w _ _ _ _ (by kernel_rfl)) (fun w=>run_equalIn_string w _ _ _ _ (by kernel_rfl)) (fun w=>run_equalIn_string w _ _ _ _ (by kernel_rfl)) (fun w=>run_equalIn_string w _ _ _ _ (by kernel_rfl)) w
theorem pD {β:List Nat} {s:ByteArray} {l:List (Seg Kn)} {cs:List Value} {w:World} (h:holdsL β (bV s::l) cs w):∃ r,cs = .string s::r∧holdsL β l r w:=by
 obtain ⟨a,b,rfl,h1,h2⟩:=h
 rw [show a=_ from h1]
 exact ⟨b,rfl,h2⟩
theorem fr_is {a0 a1 a2 a3 a4 a5 a6 a7 a8 a9 b0 b1:ByteArray} {β:List Nat} {v:Value} {w:World} (h:(aBf a0 a1 a2 a3 a4 a5 a6 a7 a8 a9 b0 b1).holds β v w) :
 v = .agg #[.string a0,.string a1,.string a2,.string a3,.string a4,.string a5,.string a6,.string a7,.string a8,.string a9,.string b0,.string b1]:=by
 obtain ⟨cs,rfl,h⟩:=h
 obtain ⟨r0,e0,h0⟩:=pD h
 obtain ⟨r1,e1,h1⟩:=pD h0
 obtain ⟨r2,e2,h2⟩:=pD h1
 obtain ⟨r3,e3,h3⟩:=pD h2
 obtain ⟨r4,e4,h4⟩:=pD h3
 obtain ⟨r5,e5,h5⟩:=pD h4
 obtain ⟨r6,e6,h6⟩:=pD h5
 obtain ⟨r7,e7,h7⟩:=pD h6
 obtain ⟨r8,e8,h8⟩:=pD h7
 obtain ⟨r9,e9,h9⟩:=pD h8
 obtain ⟨r10,e10,h10⟩:=pD h9
 obtain ⟨r11,e11,h11⟩:=pD h10
 rw [e0,e1,e2,e3,e4,e5,e6,e7,e8,e9,e10,e11,show r11 = [] from h11]
theorem q4_is {a b c d:ByteArray} {β:List Nat} {v:Value} {w:World} (h:(.fv (.ag (q4 a b c d)):AV Kn).holds β v w):v = .agg #[.string a,.string b,.string c,.string d]:=by
 obtain ⟨cs,rfl,h⟩:=h
 obtain ⟨r0,e0,h0⟩:=pD h
 obtain ⟨r1,e1,h1⟩:=pD h0
 obtain ⟨r2,e2,h2⟩:=pD h1
 obtain ⟨r3,e3,h3⟩:=pD h2
 rw [e0,e1,e2,e3,show r3 = [] from h3]
abbrev z48:Seg Kn := .lit (.string ⟨#[48]⟩)
theorem l4_is {a b c d:Value} {β:List Nat} {v:Value} {w:World} (h:(.fv (.ag [.lit a,.lit b,.lit c,.lit d]):AV Kn).holds β v w):v = .agg #[a,b,c,d]:=by
 obtain ⟨cs,rfl,x1,r1,rfl,h1,x2,r2,rfl,h2,x3,r3,rfl,h3,x4,r4,rfl,h4,e⟩:=h
 rw [show r4 = [] from e,h1.1,h2.1,h3.1,h4.1]
 rfl
section
variable {f:FuncId} {w00:World} {Out:Value→World→Prop} {c:Cfg Kn}
theorem kf12 (x y:Operand) (a0 a1 a2 a3 a4 a5 a6 a7 a8 a9 b0 b1:ByteArray) (hg:Ok Tryz.prog f w00 Out (cK Tryz.prog 1000 (c.give (bl false))))
 (hc:(c.op.map fun o=>o.op,c.okT (bl false),c.ev x,c.ev y)=(some (.binOp .neq 32 x y 32),true,aBf a0 a1 a2 a3 a4 a5 a6 a7 a8 a9 b0 b1,aBf a0 a1 a2 a3 a4 a5 a6 a7 a8 a9 b0 b1):=by kernel_rfl):Ok Tryz.prog f w00 Out c :=
 xR (.binOp .neq 32 x y 32) x y _ _ (bl false) hc (by simp [Op.operands]) (by simp [Op.operands]) (fun ρ o β w ho hx hy=>⟨_,agg_ne (by kernel_rfl) (equalFr a0 a1 a2 a3 a4 a5 a6 a7 a8 a9 b0 b1 w) ho (fr_is hx) (fr_is hy),bC rfl⟩) hg
theorem kq4 (x y:Operand) (p q r s:ByteArray) (b:Bool) (h:(p.toList==(⟨#[48]⟩:ByteArray).toList&&q.toList==(⟨#[48]⟩:ByteArray).toList&&r.toList==(⟨#[48]⟩:ByteArray).toList&&s.toList==(⟨#[48]⟩:ByteArray).toList)=b) (hg:Ok Tryz.prog f w00 Out (cK Tryz.prog 1000 (c.give (bl b))))
 (hc:(c.op.map fun o=>o.op,c.okT (bl b),c.ev x,c.ev y)=(some (.binOp .eql 23 x y 23),true,.fv (.ag (q4 p q r s)),.fv (.ag [z48,z48,z48,z48])):=by kernel_rfl):Ok Tryz.prog f w00 Out c :=
 xR (.binOp .eql 23 x y 23) x y _ _ (bl b) hc (by simp [Op.operands]) (by simp [Op.operands]) (fun ρ o β w ho hx hy=>⟨_,agg_eq (by kernel_rfl) (h▸equalQ p q r s _ _ _ _ w) ho (q4_is hx) (l4_is hy),bC rfl⟩) hg
end
abbrev e0:Seg Kn := .lit (.string ⟨#[]⟩)
theorem aBg {w u1 u2 u3:Rat} (hw:Wr w) (hu:mH u1 u2 u3) (h0:w=0) (h1:(decide (u1=0)&&decide (u2=0)&&decide (u3=0))=true):jX 7 [.fv (.ag (q4 (writeB w) (writeB u1) (writeB u2) (writeB u3)))] (.tup [.ag [e0,e0,e0,e0,e0,e0,e0,e0,e0,e0,e0,e0],.sc (.lit (.int .i64 6))]):=by
 refine jY Tryz.func7 fun w00 hI=>?_
 refine jW hI 29 [iK 30,tx (writeB w),iK 31,vS u1 u2 u3] (readRV hw hu) ?_
 refine jC 32 [num w] (iS (by rw [decide_eq_true_eq];exact h0)) ?_
 refine jC 33 [vc u1 u2 u3] (gB h1) ?_
 exact jR Tryz.func7
abbrev Tx:=Nat→ByteArray
abbrev Q4 (q:Tx):AV Kn := .fv (.ag (q4 (q 0) (q 1) (q 2) (q 3)))
abbrev V3 (v:Tx):AV Kn:=t3 (v 0) (v 1) (v 2)
abbrev FR (f:Tx):AV Kn:=aBf (f 0) (f 1) (f 2) (f 3) (f 4) (f 5) (f 6) (f 7) (f 8) (f 9) (f 10) (f 11)
abbrev okV3 (v:Tx):AV Kn := .tup [.ag [bV (v 0),bV (v 1),bV (v 2)],.sc z0]
abbrev aBh (f:Tx):AV Kn := .tup [.ag [bV (f 0),bV (f 1),bV (f 2),bV (f 3),bV (f 4),bV (f 5),bV (f 6),bV (f 7),bV (f 8),bV (f 9),bV (f 10),bV (f 11)],.sc z0]
abbrev P6 (p s:Tx):AV Kn := .fv (.ag [bV (p 0),bV (p 1),bV (p 2),bV (s 0),bV (s 1),bV (s 2)])
abbrev oN (q:Tx):Bool:=(q 0).toList==(⟨#[48]⟩:ByteArray).toList&&(q 1).toList==(⟨#[48]⟩:ByteArray).toList&&(q 2).toList==(⟨#[48]⟩:ByteArray).toList&&(q 3).toList==(⟨#[48]⟩:ByteArray).toList
abbrev FL (q:Tx) (b:Bool):Prop:=jF 5 [.fv (.nsl 4 23 (q4 (q 0) (q 1) (q 2) (q 3))),it 4,it 3] (bl b)
abbrev FV3 (p:Tx) (b:Bool):Prop:=jF 6 [V3 p,it 3] (bl b)
abbrev xK (q:AV Kn) (x:AV Kn):Prop:=jX 7 [q] x
abbrev qL (f p x:Tx):Prop:=jX 15 [FR f,V3 p] (okV3 x)
abbrev one3:AV Kn:=vS ((1:Int):Rat) ((1:Int):Rat) ((1:Int):Rat)
abbrev m3:ByteArray:=⟨#[45,51]⟩
section
variable {q r c m f g i h p s a b x y:Tx} {d:ByteArray}
set_option maxRecDepth 100000 in
theorem turns_walk (l1:FL q true) (l2:FL r true) (v1:FV3 p true) (v2:FV3 s true) (hq:oN q=false) (hr:oN r=false) (cF:xK (Q4 q) (aBh f)) (cG:xK (Q4 r) (aBh g)) (kF:jF 8 [FR f] (it 0)) (kG:jF 8 [FR g] (it 0)) (sF:jF 9 [FR f] one3)
 (cI:jX 11 [FR f] (aBh i)) (n1:jF 12 [tx (q 1)] (tx (c 1))) (n2:jF 12 [tx (q 2)] (tx (c 2))) (n3:jF 12 [tx (q 3)] (tx (c 3))) (cC:xK (.fv (.ag (q4 (q 0) (c 1) (c 2) (c 3)))) (aBh i))
 (w0:jF 13 [lt m3,tx (q 0)] (tx (m 0))) (w1:jF 13 [lt m3,tx (q 1)] (tx (m 1))) (w2:jF 13 [lt m3,tx (q 2)] (tx (m 2))) (w3:jF 13 [lt m3,tx (q 3)] (tx (m 3))) (cM:xK (Q4 m) (aBh f))
 (cH:jX 14 [FR f,FR g] (aBh h)) (cA:qL f p a) (cB:qL f s b) (kA:jF 16 [V3 a] (it 0)) (kB:jF 16 [V3 b] (it 0)) (kH:jF 8 [FR h] (it 0))
 (cX:qL g p x) (cY:qL f x y) (cZ:qL h p y) (cU:qL i a p) (dA:jF 17 [V3 a,V3 b] (tx d)) (dB:jF 17 [V3 p,V3 s] (tx d)):jX 3 [Q4 q,Q4 r,P6 p s] (bl true):=by
 have i1:xS 1:=by constructor <;> omega
 refine jY Tryz.func3 fun w00 hI=>?_
 refine jW hI 4 [] (qK) ?_
 refine kQ 5 0 4 23 _ [it 4,it 3] l1 (by kernel_rfl) Tryz.call5 ?_
 refine kQ 5 1 4 23 _ [it 4,it 3] l2 (by kernel_rfl) Tryz.call5 ?_
 refine jC 6 [V3 p,it 3] (v1) ?_
 refine jC 6 [V3 s,it 3] (v2) ?_
 refine kq4 (.tmp 60) (.tmp 61) (q 0) (q 1) (q 2) (q 3) false hq ?_
 refine kq4 (.tmp 64) (.tmp 65) (r 0) (r 1) (r 2) (r 3) false hr ?_
 refine jW hI 7 [Q4 q] (cF) ?_
 refine jW hI 7 [Q4 r] (cG) ?_
 refine jC 8 [FR f] (kF) ?_
 refine jC 8 [FR g] (kG) ?_
 refine jC 9 [FR f] (sF) ?_
 refine jC 10 [it 1,it 1,it 1] (dH i1 i1 i1) ?_
 refine kv3 (.tmp 101) (.tmp 102) (writeB ((1:Int):Rat)) (writeB ((1:Int):Rat)) (writeB ((1:Int):Rat)) ?_
 refine jW hI 11 [FR f] (cI) ?_
 refine jC 12 [tx (q 1)] (n1) ?_
 refine jC 12 [tx (q 2)] (n2) ?_
 refine jC 12 [tx (q 3)] (n3) ?_
 refine jW hI 7 [.fv (.ag (q4 (q 0) (c 1) (c 2) (c 3)))] (cC) ?_
 refine jC 13 [lt m3,tx (q 0)] (w0) ?_
 refine jC 13 [lt m3,tx (q 1)] (w1) ?_
 refine jC 13 [lt m3,tx (q 2)] (w2) ?_
 refine jC 13 [lt m3,tx (q 3)] (w3) ?_
 refine jW hI 7 [Q4 m] (cM) ?_
 refine jW hI 14 [FR f,FR g] (cH) ?_
 refine jW hI 15 [FR f,V3 p] (cA) ?_
 refine jW hI 15 [FR f,V3 s] (cB) ?_
 refine kf12 (.tmp 176) (.tmp 177) (i 0) (i 1) (i 2) (i 3) (i 4) (i 5) (i 6) (i 7) (i 8) (i 9) (i 10) (i 11) ?_
 refine kf12 (.tmp 181) (.tmp 182) (f 0) (f 1) (f 2) (f 3) (f 4) (f 5) (f 6) (f 7) (f 8) (f 9) (f 10) (f 11) ?_
 refine jC 16 [V3 a] (kA) ?_
 refine jC 16 [V3 b] (kB) ?_
 refine jC 8 [FR h] (kH) ?_
 refine jW hI 15 [FR g,V3 p] (cX) ?_
 refine jW hI 15 [FR f,V3 x] (cY) ?_
 refine jW hI 15 [FR h,V3 p] (cZ) ?_
 refine jW hI 15 [FR i,V3 a] (cU) ?_
 refine kv3 (.tmp 235) (.tmp 236) (y 0) (y 1) (y 2) ?_
 refine kv3 (.tmp 240) (.tmp 242) (p 0) (p 1) (p 2) ?_
 refine jC 17 [V3 a,V3 b] (dA) ?_
 refine jC 17 [V3 p,V3 s] (dB) ?_
 refine ktx 247 252 d ?_
 exact jR Tryz.func3
abbrev zero4:AV Kn := .fv (.ag [z48,z48,z48,z48])
abbrev zeroF:AV Kn := .tup [.ag [e0,e0,e0,e0,e0,e0,e0,e0,e0,e0,e0,e0],.sc (.lit (.int .i64 6))]
set_option maxRecDepth 100000 in
theorem turns_zero (l1:FL q true) (l2:FL r true) (v1:FV3 p true) (v2:FV3 s true) (hz:oN q=true∨oN q=false∧oN r=true) (cZ:xK zero4 zeroF):jX 3 [Q4 q,Q4 r,P6 p s] (bl true):=by
 refine jY Tryz.func3 fun w00 hI=>?_
 refine jW hI 4 [] (qK) ?_
 refine kQ 5 0 4 23 _ [it 4,it 3] l1 (by kernel_rfl) Tryz.call5 ?_
 refine kQ 5 1 4 23 _ [it 4,it 3] l2 (by kernel_rfl) Tryz.call5 ?_
 refine jC 6 [V3 p,it 3] (v1) ?_
 refine jC 6 [V3 s,it 3] (v2) ?_
 rcases hz with hq|⟨hq,hr⟩
 ·refine kq4 (.tmp 60) (.tmp 61) (q 0) (q 1) (q 2) (q 3) true hq ?_
  refine jW hI 7 [zero4] (cZ) ?_
  exact jR Tryz.func3
 ·refine kq4 (.tmp 60) (.tmp 61) (q 0) (q 1) (q 2) (q 3) false hq ?_
  refine kq4 (.tmp 64) (.tmp 65) (r 0) (r 1) (r 2) (r 3) true hr ?_
  refine jW hI 7 [zero4] (cZ) ?_
  exact jR Tryz.func3
set_option maxRecDepth 100000 in
theorem sI {b1 b2 b3 b4:Bool} (l1:FL q b1) (l2:FL r b2) (v1:FV3 p b3) (v2:FV3 s b4) (hb:(b1&&b2&&b3&&b4)=false):jX 3 [Q4 q,Q4 r,P6 p s] (bl true):=by
 refine jY Tryz.func3 fun w00 hI=>?_
 refine jW hI 4 [] (qK) ?_
 cases b1
 ·refine kQ 5 0 4 23 _ [it 4,it 3] l1 (by kernel_rfl) Tryz.call5 ?_
  refine jW hI 4 [] (qK) ?_
  exact jR Tryz.func3
 refine kQ 5 0 4 23 _ [it 4,it 3] l1 (by kernel_rfl) Tryz.call5 ?_
 cases b2
 ·refine kQ 5 1 4 23 _ [it 4,it 3] l2 (by kernel_rfl) Tryz.call5 ?_
  refine jW hI 4 [] (qK) ?_
  exact jR Tryz.func3
 refine kQ 5 1 4 23 _ [it 4,it 3] l2 (by kernel_rfl) Tryz.call5 ?_
 cases b3
 ·refine jC 6 [V3 p,it 3] (v1) ?_
  refine jW hI 4 [] (qK) ?_
  exact jR Tryz.func3
 refine jC 6 [V3 p,it 3] (v1) ?_
 cases b4
 ·refine jC 6 [V3 s,it 3] (v2) ?_
  refine jW hI 4 [] (qK) ?_
  exact jR Tryz.func3
 ·cases hb
end
abbrev nm (w a b c:Rat):Rat:=w*w+a*a+b*b+c*c
def rd (w a b c:Rat):Rat:=(w*w+a*a-b*b-c*c)/nm w a b c
def ro (w a b c:Rat):Rat:=((2:Int):Rat)*(a*b+w*c)/nm w a b c
structure On (x1 x2 x3 y1 y2 y3 z1 z2 z3:Rat):Prop where
 xx:dt x1 x2 x3 x1 x2 x3=1
 yy:dt y1 y2 y3 y1 y2 y3=1
 zz:dt z1 z2 z3 z1 z2 z3=1
 xy:dt x1 x2 x3 y1 y2 y3=0
 yz:dt y1 y2 y3 z1 z2 z3=0
 zx:dt z1 z2 z3 x1 x2 x3=0
 c1:y2*z3-y3*z2=x1
 c2:y3*z1-y1*z3=x2
 c3:y1*z2-y2*z1=x3
structure Rt (x1 x2 x3 y1 y2 y3 z1 z2 z3:Rat):Prop extends On x1 x2 x3 y1 y2 y3 z1 z2 z3 where
 d1:z2*x3-z3*x2=y1
 d2:z3*x1-z1*x3=y2
 d3:z1*x2-z2*x1=y3
 f1:x2*y3-x3*y2=z1
 f2:x3*y1-x1*y3=z2
 f3:x1*y2-x2*y1=z3
theorem dotk {k N a1 a2 a3 b1 b2 b3 e:Rat} (h:k*N=1) (he:a1*b1+a2*b2+a3*b3=N*N*e):dt (k*a1) (k*a2) (k*a3) (k*b1) (k*b2) (k*b3)=e:=by
 have h1:dt (k*a1) (k*a2) (k*a3) (k*b1) (k*b2) (k*b3)=k*k*(a1*b1+a2*b2+a3*b3):=by grind
 have h2:k*k*(N*N*e)=k*N*(k*N)*e:=by grind
 rw [h1,he,h2,h]
 grind
theorem aBi {k N a2 a3 b2 b3 e:Rat} (h:k*N=1) (he:a2*b3-a3*b2=N*e):k*a2*(k*b3)-k*a3*(k*b2)=k*e:=by
 have h1:k*a2*(k*b3)-k*a3*(k*b2)=k*k*(a2*b3-a3*b2):=by grind
 have h2:k*k*(N*e)=k*N*(k*e):=by grind
 rw [h1,he,h2,h]
 grind
theorem rt_of {w a b c:Rat} (h:nm w a b c≠0):Rt (rd w a b c) (ro w a b c) (ro w a c (-b)) (ro w b a (-c)) (rd w b a c) (ro w b c a) (ro w c a b) (ro w c b (-a)) (rd w c a b):=by
 obtain ⟨k,hk⟩:∃ k,k=(nm w a b c)⁻¹:=⟨_,rfl⟩
 have h1:k*nm w a b c=1:=by rw [hk];exact Rat.inv_mul_cancel _ h
 have e1:∀ x:Rat,x/nm w a b c=k*x:=fun x=>by rw [hk,Rat.div_def,Rat.mul_comm]
 have n1:nm w b a c=nm w a b c:=by unfold nm;grind
 have n2:nm w a c (-b)=nm w a b c:=by unfold nm;grind
 have n3:nm w b a (-c)=nm w a b c:=by unfold nm;grind
 have n4:nm w b c a=nm w a b c:=by unfold nm;grind
 have n5:nm w c a b=nm w a b c:=by unfold nm;grind
 have n6:nm w c b (-a)=nm w a b c:=by unfold nm;grind
 unfold rd ro
 simp only [n1,n2,n3,n4,n5,n6,e1]
 clear e1 hk n1 n2 n3 n4 n5 n6
 have s2:((2:Int):Rat)=2:=rfl
 rw [s2]
 clear s2
 refine ⟨⟨dotk h1 ?_,dotk h1 ?_,dotk h1 ?_,dotk h1 ?_,dotk h1 ?_,dotk h1 ?_,aBi h1 ?_,aBi h1 ?_,aBi h1 ?_⟩,aBi h1 ?_,aBi h1 ?_,aBi h1 ?_,aBi h1 ?_,aBi h1 ?_,aBi h1 ?_⟩ <;> (clear h1 h;unfold nm;grind)
section
variable {x1 x2 x3 y1 y2 y3 z1 z2 z3 u1 u2 u3 v1 v2 v3 w1 w2 w3:Rat}
theorem Rt.dot (h:Rt x1 x2 x3 y1 y2 y3 z1 z2 z3):dt (ld u1 u2 u3 x1 y1 z1) (ld u1 u2 u3 x2 y2 z2) (ld u1 u2 u3 x3 y3 z3) (ld v1 v2 v3 x1 y1 z1) (ld v1 v2 v3 x2 y2 z2) (ld v1 v2 v3 x3 y3 z3)=dt u1 u2 u3 v1 v2 v3:=by
 have e:dt (ld u1 u2 u3 x1 y1 z1) (ld u1 u2 u3 x2 y2 z2) (ld u1 u2 u3 x3 y3 z3) (ld v1 v2 v3 x1 y1 z1) (ld v1 v2 v3 x2 y2 z2) (ld v1 v2 v3 x3 y3 z3) =
  u1*v1*dt x1 x2 x3 x1 x2 x3+u2*v2*dt y1 y2 y3 y1 y2 y3+u3*v3*dt z1 z2 z3 z1 z2 z3+(u1*v2+u2*v1)*dt x1 x2 x3 y1 y2 y3+(u2*v3+u3*v2)*dt y1 y2 y3 z1 z2 z3+(u3*v1+u1*v3)*dt z1 z2 z3 x1 x2 x3:=by clear h;unfold dt ld;grind
 rw [e,h.xx,h.yy,h.zz,h.xy,h.yz,h.zx]
 unfold dt
 grind
theorem xL (a2 a3 b2 b3 c2 c3:Rat):ld u1 u2 u3 a2 b2 c2*ld v1 v2 v3 a3 b3 c3-ld u1 u2 u3 a3 b3 c3*ld v1 v2 v3 a2 b2 c2=ld (u2*v3-u3*v2) (u3*v1-u1*v3) (u1*v2-u2*v1) (b2*c3-b3*c2) (c2*a3-c3*a2) (a2*b3-a3*b2):=by
 unfold ld
 grind
theorem On.mul (h:Rt x1 x2 x3 y1 y2 y3 z1 z2 z3) (k:On u1 u2 u3 v1 v2 v3 w1 w2 w3):On (ld u1 u2 u3 x1 y1 z1) (ld u1 u2 u3 x2 y2 z2) (ld u1 u2 u3 x3 y3 z3) (ld v1 v2 v3 x1 y1 z1) (ld v1 v2 v3 x2 y2 z2) (ld v1 v2 v3 x3 y3 z3) (ld w1 w2 w3 x1 y1 z1) (ld w1 w2 w3 x2 y2 z2) (ld w1 w2 w3 x3 y3 z3) :=
 ⟨h.dot.trans k.xx,h.dot.trans k.yy,h.dot.trans k.zz,h.dot.trans k.xy,h.dot.trans k.yz,h.dot.trans k.zx,
  by rw [xL,k.c1,k.c2,k.c3,h.c1,h.d1,h.f1],by rw [xL,k.c1,k.c2,k.c3,h.c2,h.d2,h.f2],by rw [xL,k.c1,k.c2,k.c3,h.c3,h.d3,h.f3]⟩
theorem On.sgn (h:On x1 x2 x3 y1 y2 y3 z1 z2 z3):dt x1 x2 x3 (y2*z3-y3*z2) (y3*z1-y1*z3) (y1*z2-y2*z1)=1:=by
 rw [h.c1,h.c2,h.c3];exact h.xx
theorem Rt.back (h:On x1 x2 x3 y1 y2 y3 z1 z2 z3):ld (ld u1 u2 u3 x1 y1 z1) (ld u1 u2 u3 x2 y2 z2) (ld u1 u2 u3 x3 y3 z3) x1 x2 x3=u1∧ld (ld u1 u2 u3 x1 y1 z1) (ld u1 u2 u3 x2 y2 z2) (ld u1 u2 u3 x3 y3 z3) y1 y2 y3=u2∧ld (ld u1 u2 u3 x1 y1 z1) (ld u1 u2 u3 x2 y2 z2) (ld u1 u2 u3 x3 y3 z3) z1 z2 z3=u3:=by
 have a1:=h.xx
 have a2:=h.yy
 have a3:=h.zz
 have b1:=h.xy
 have b2:=h.yz
 have b3:=h.zx
 clear h
 refine ⟨?_,?_,?_⟩
 ·have e:ld (ld u1 u2 u3 x1 y1 z1) (ld u1 u2 u3 x2 y2 z2) (ld u1 u2 u3 x3 y3 z3) x1 x2 x3=u1*dt x1 x2 x3 x1 x2 x3+u2*dt x1 x2 x3 y1 y2 y3+u3*dt z1 z2 z3 x1 x2 x3:=by clear a1 a2 a3 b1 b2 b3;unfold ld dt;grind
  rw [e,a1,b1,b3];grind
 ·have e:ld (ld u1 u2 u3 x1 y1 z1) (ld u1 u2 u3 x2 y2 z2) (ld u1 u2 u3 x3 y3 z3) y1 y2 y3=u1*dt x1 x2 x3 y1 y2 y3+u2*dt y1 y2 y3 y1 y2 y3+u3*dt y1 y2 y3 z1 z2 z3:=by clear a1 a2 a3 b1 b2 b3;unfold ld dt;grind
  rw [e,b1,a2,b2];grind
 ·have e:ld (ld u1 u2 u3 x1 y1 z1) (ld u1 u2 u3 x2 y2 z2) (ld u1 u2 u3 x3 y3 z3) z1 z2 z3=u1*dt z1 z2 z3 x1 x2 x3+u2*dt y1 y2 y3 z1 z2 z3+u3*dt z1 z2 z3 z1 z2 z3:=by clear a1 a2 a3 b1 b2 b3;unfold ld dt;grind
  rw [e,b3,b2,a3];grind
theorem ld_ld {p1 p2 p3:Rat}:ld (ld p1 p2 p3 u1 v1 w1) (ld p1 p2 p3 u2 v2 w2) (ld p1 p2 p3 u3 v3 w3) x1 y1 z1=ld p1 p2 p3 (ld u1 u2 u3 x1 y1 z1) (ld v1 v2 v3 x1 y1 z1) (ld w1 w2 w3 x1 y1 z1):=by unfold ld;grind
end
theorem bq_quot {m:Int} {n k:Nat} {x:Rat} (hn:0<n) (hx:x*n=m) (hm:m.natAbs<10^k) (hk:n<10^k):Bq k x:=by
 have e:x=mkRat m n:=by
  rw [Rat.mkRat_eq_div,← hx]
  have:(n:Rat)≠0:=by exact_mod_cast (by omega:n≠0)
  rw [Rat.div_def,Rat.mul_assoc,Rat.mul_inv_cancel _ this,Rat.mul_one]
 obtain ⟨h1,h2⟩:=dF m (d:=n) (by omega)
 rw [e]
 exact ⟨by omega,by omega⟩
theorem one_den {a b c d:Rat} (ha:Bq 3 a) (hb:Bq 3 b) (hc:Bq 3 c) (hd:Bq 3 d):∃ (D:Rat) (A B C E:Int),D≠0∧a*D=A∧b*D=B∧c*D=C∧d*D=E∧A.natAbs<10^12∧B.natAbs<10^12∧C.natAbs<10^12∧E.natAbs<10^12:=by
 have key:∀ q:Rat,q*(q.den:Rat)=q.num:=fun q=>by
  have h0:(q.den:Rat)≠0:=by exact_mod_cast q.den_nz
  have h1:q=q.num/q.den:=by rw [← Rat.mkRat_eq_div,Rat.mkRat_self]
  have h2:q.num/(q.den:Rat)*q.den=q.num:=by rw [Rat.div_def,Rat.mul_assoc,Rat.inv_mul_cancel _ h0,Rat.mul_one]
  rw [← h1] at h2
  exact h2
 have mz:∀ {x y:Rat},x≠0→y≠0→x*y≠0:=fun hx hy e=>(Rat.mul_eq_zero.1 e).elim hx hy
 have nz:∀ q:Rat,(q.den:Rat)≠0:=fun q=>by exact_mod_cast q.den_nz
 have sz:∀ {x:Int} {l m n:Nat},x.natAbs<10^3→l<10^3→m<10^3→n<10^3→(x*(l*m*n:Nat)).natAbs<10^12:=fun h1 h2 h3 h4=>by
  rw [Int.natAbs_mul,Int.natAbs_natCast]
  exact Nat.mul_lt_mul'' (c:=10^3) (d:=10^9) h1 (Nat.mul_lt_mul'' (c:=10^6) (d:=10^3) (Nat.mul_lt_mul'' (c:=10^3) (d:=10^3) h2 h3) h4)
 refine ⟨a.den*b.den*c.den*d.den,a.num*(b.den*c.den*d.den:Nat),b.num*(a.den*c.den*d.den:Nat),c.num*(a.den*b.den*d.den:Nat),d.num*(a.den*b.den*c.den:Nat),?_,?_,?_,?_,?_,sz ha.1 hb.2 hc.2 hd.2,sz hb.1 ha.2 hc.2 hd.2,sz hc.1 ha.2 hb.2 hd.2,sz hd.1 ha.2 hb.2 hc.2⟩
 ·have h1:=nz a
  have h2:=nz b
  have h3:=nz c
  have h4:=nz d
  exact mz (mz (mz h1 h2) h3) h4
 all_goals push_cast
 ·rw [← key a];grind
 ·rw [← key b];grind
 ·rw [← key c];grind
 ·rw [← key d];grind
theorem tQ {x y:Int} (hx:x.natAbs<10^12) (hy:y.natAbs<10^12):(x*y).natAbs<10^24:=by
 rw [Int.natAbs_mul]
 exact Nat.mul_lt_mul'' (c:=10^12) (d:=10^12) hx hy
theorem nD {w a b c:Rat} (hw:Bq 3 w) (ha:Bq 3 a) (hb:Bq 3 b) (hc:Bq 3 c) (h:nm w a b c≠0):Bq 25 (rd w a b c)∧Bq 25 (ro w a b c)∧Bq 25 (ro w a b (-c)):=by
 obtain ⟨D,W,A,B,C,hD,e0,e1,e2,e3,s0,s1,s2,s3⟩:=one_den hw ha hb hc
 have p0:=tQ s0 s0
 have p1:=tQ s1 s1
 have p2:=tQ s2 s2
 have p3:=tQ s3 s3
 have p4:=tQ s1 s2
 have p5:=tQ s0 s3
 have q0:0≤W*W:=by rw [← Int.natAbs_mul_self];omega
 have q1:0≤A*A:=by rw [← Int.natAbs_mul_self];omega
 have q2:0≤B*B:=by rw [← Int.natAbs_mul_self];omega
 have q3:0≤C*C:=by rw [← Int.natAbs_mul_self];omega
 have f0:w*w*(D*D)=((W*W:Int):Rat):=by push_cast;rw [← e0];grind
 have f1:a*a*(D*D)=((A*A:Int):Rat):=by push_cast;rw [← e1];grind
 have f2:b*b*(D*D)=((B*B:Int):Rat):=by push_cast;rw [← e2];grind
 have f3:c*c*(D*D)=((C*C:Int):Rat):=by push_cast;rw [← e3];grind
 have f4:a*b*(D*D)=((A*B:Int):Rat):=by push_cast;rw [← e1,← e2];grind
 have f5:w*c*(D*D)=((W*C:Int):Rat):=by push_cast;rw [← e0,← e3];grind
 generalize W*W=w2 at *
 generalize A*A=a2 at *
 generalize B*B=b2 at *
 generalize C*C=c2 at *
 generalize A*B=ab at *
 generalize W*C=wc at *
 obtain ⟨n,hn⟩:∃ n:Nat,(n:Int)=w2+a2+b2+c2:=⟨(w2+a2+b2+c2).toNat,by omega⟩
 have hN:nm w a b c*(D*D)=(n:Rat):=by
  have:(n:Rat)=((w2+a2+b2+c2:Int):Rat):=by rw [← hn];rfl
  rw [this]
  push_cast
  rw [← f0,← f1,← f2,← f3]
  unfold nm
  grind
 have hD2:D*D≠0:=fun e=>(Rat.mul_eq_zero.1 e).elim hD hD
 have hn0:n≠0:=fun e=>by
  rw [e] at hN
  rcases Rat.mul_eq_zero.1 hN with h'|h'
  ·exact h h'
  ·exact hD2 h'
 have hlt:n<10^25:=by omega
 have q:∀ {t:Rat} {m:Int},t*(D*D)=m→m.natAbs<10^25→Bq 25 (t/nm w a b c):=fun {t m} ht hm=>by
  refine bq_quot (n:=n) (m:=m) (by omega) ?_ hm hlt
  rw [← hN,← ht,Rat.div_def]
  have:(nm w a b c)⁻¹*nm w a b c=1:=Rat.inv_mul_cancel _ h
  generalize (nm w a b c)⁻¹=i at *
  generalize nm w a b c=N at *
  grind
 have n2:nm w a b (-c)=nm w a b c:=by unfold nm;grind
 have t2:((2:Int):Rat)=2:=rfl
 unfold rd ro
 rw [n2,t2]
 refine ⟨q (m:=w2+a2-b2-c2) ?_ (by omega),q (m:=2*(ab+wc)) ?_ (by omega),q (m:=2*(ab-wc)) ?_ (by omega)⟩
 ·push_cast;rw [← f0,← f1,← f2,← f3];grind
 ·push_cast;rw [← f4,← f5];grind
 ·push_cast;rw [← f4,← f5];grind
theorem kn_1 {f:FuncId} {s u:ByteArray} (h:jF f [rS s] (rS u)):jF f [tx s] (tx u):=by
 intro β w vs hv
 obtain ⟨v,rfl,h1⟩:=dN hv
 rw [aW h1]
 exact (h β w [.string s] ⟨_,_,rfl,cW,rfl⟩).mono fun e w' ⟨v,e1,e2,e3⟩=>⟨v,e1,e2,by rw [bA e3];exact bL⟩
theorem kn_L {f:FuncId} {s:ByteArray} {z:Int} (h:jF f [rS s] (.fv (.sc (.lit (.int .i64 z))))):jF f [tx s] (it z):=by
 intro β w vs hv
 obtain ⟨v,rfl,h1⟩:=dN hv
 rw [aW h1]
 exact (h β w [.string s] ⟨_,_,rfl,cW,rfl⟩).mono fun e w' ⟨v,e1,e2,e3⟩=>⟨v,e1,e2,by rw [bT e3];exact bC rfl⟩
def tx3 (a b c:Rat):Tx:=fun n=>match n with|0=>writeB a|1=>writeB b|_=>writeB c
def tx4 (a b c d:Rat):Tx:=fun n=>match n with|0=>writeB a|1=>writeB b|2=>writeB c|_=>writeB d
def T9 (x1 x2 x3 y1 y2 y3 z1 z2 z3:Rat):Tx:=fun n=>match n with
 | 0=>writeB ((0:Int):Rat)|1=>writeB ((0:Int):Rat)|2=>writeB ((0:Int):Rat)|3=>writeB x1|4=>writeB x2|5=>writeB x3|6=>writeB y1|7=>writeB y2|8=>writeB y3|9=>writeB z1|10=>writeB z2|_=>writeB z3
structure Bn (k:Nat) (x1 x2 x3 y1 y2 y3 z1 z2 z3:Rat):Prop where
 x1:Bq k x1
 x2:Bq k x2
 x3:Bq k x3
 y1:Bq k y1
 y2:Bq k y2
 y3:Bq k y3
 z1:Bq k z1
 z2:Bq k z2
 z3:Bq k z3
section
variable {x1 x2 x3 y1 y2 y3 z1 z2 z3 u1 u2 u3 v1 v2 v3 w1 w2 w3 p1 p2 p3 m1 m2 m3:Rat} {k:Nat}
theorem Bn.wf (h:Bn k x1 x2 x3 y1 y2 y3 z1 z2 z3) (hk:k≤600):Wf ((0:Int):Rat) ((0:Int):Rat) ((0:Int):Rat) x1 x2 x3 y1 y2 y3 z1 z2 z3 :=
 have b0:Wr ((0:Int):Rat):=(aBe (k:=1) (by decide) (by omega)).wr (by omega)
 ⟨⟨b0,b0,b0⟩,⟨h.x1.wr hk,h.x2.wr hk,h.x3.wr hk⟩,⟨h.y1.wr hk,h.y2.wr hk,h.y3.wr hk⟩,⟨h.z1.wr hk,h.z2.wr hk,h.z3.wr hk⟩⟩
theorem zero_no {a b c:Rat} (h:dt a b c a b c=1) (h1:a=0) (h2:b=0) (h3:c=0):False:=by
 have e:dt a b c a b c=0:=by rw [h1,h2,h3];unfold dt;grind
 rw [e] at h
 exact absurd h (by decide)
theorem one_ne {a b c:Rat} (h:dt a b c a b c=1):(decide (a=0)&&decide (b=0)&&decide (c=0))=false:=vJ fun ⟨h1,h2,h3⟩=>zero_no h h1 h2 h3
theorem On.fv (h:On x1 x2 x3 y1 y2 y3 z1 z2 z3) (b:Bn k x1 x2 x3 y1 y2 y3 z1 z2 z3) (hk:k≤600):Fv ((0:Int):Rat) ((0:Int):Rat) ((0:Int):Rat) x1 x2 x3 y1 y2 y3 z1 z2 z3 :=
 Fr.fv_of (b.wf hk) ⟨one_ne h.xx,one_ne h.yy,one_ne h.zz,h.xy,h.yz,h.zx,by rw [h.sgn];rfl⟩
theorem pA (h:Fv ((0:Int):Rat) ((0:Int):Rat) ((0:Int):Rat) x1 x2 x3 y1 y2 y3 z1 z2 z3) (k:mH p1 p2 p3) (e1:ld p1 p2 p3 x1 y1 z1=m1) (e2:ld p1 p2 p3 x2 y2 z2=m2) (e3:ld p1 p2 p3 x3 y3 z3=m3) (hr:mH m1 m2 m3):qL (T9 x1 x2 x3 y1 y2 y3 z1 z2 z3) (tx3 p1 p2 p3) (tx3 m1 m2 m3) :=
 have z:∀ x:Rat,((0:Int):Rat)+x=x:=fun x=>Rat.zero_add x
 yX h k ((z _).trans e1) ((z _).trans e2) ((z _).trans e3) hr
theorem aBj {c:Rat} (h:c≠0):((writeB c).toList==(⟨#[48]⟩:ByteArray).toList)=false:=kT (lB (numr_ne h))
theorem tR {a b c:Rat} (h:dt a b c a b c=1):jF 40 [vS a b c] (bl false):=isOriginT (by
 by_cases h1:a=0
 ·by_cases h2:b=0
  ·rw [aBj fun h3=>zero_no h h1 h2 h3,Bool.and_false]
  ·rw [aBj h2,Bool.and_false,Bool.false_and]
 ·rw [aBj h1,Bool.false_and,Bool.false_and])
theorem dot_no {a b c x y z:Rat} (h1:Bq k a) (h2:Bq k b) (h3:Bq k c) (g1:Bq k x) (g2:Bq k y) (g3:Bq k z) (hk:k≤600) (h:dt a b c x y z=0):jF 17 [vS a b c,vS x y z] (tx (writeB ((0:Int):Rat))):=by
 have:=dotV h1 h2 h3 g1 g2 g3 (by omega)
 rw [h] at this
 exact this
theorem On.ck (h:On x1 x2 x3 y1 y2 y3 z1 z2 z3) (b:Bn k x1 x2 x3 y1 y2 y3 z1 z2 z3) (hk:k≤600):jF 8 [FR (T9 x1 x2 x3 y1 y2 y3 z1 z2 z3)] (it 0):=by
 have b0:Bq 1 ((0:Int):Rat):=aBe (by decide) (by omega)
 have i0:jF 103 [tx (writeB ((0:Int):Rat))] (bl true):=isZeroT (by rw [w0];exact beq_self_eq_true _)
 have hc:=crossV b.y1 b.y2 b.y3 b.z1 b.z2 b.z3 (by omega)
 rw [h.c1,h.c2,h.c3] at hc
 have hd:=dotV b.x1 b.x2 b.x3 b.x1 b.x2 b.x3 (by omega)
 rw [h.xx] at hd
 exact checkFrameR (iY (nH b0 (by omega)) (nH b0 (by omega)) (nH b0 (by omega))) (iY (nH b.x1 hk) (nH b.x2 hk) (nH b.x3 hk)) (iY (nH b.y1 hk) (nH b.y2 hk) (nH b.y3 hk)) (iY (nH b.z1 hk) (nH b.z2 hk) (nH b.z3 hk))
  (tR h.xx) (tR h.yy) (tR h.zz) (shapeR (dot_no b.x1 b.x2 b.x3 b.y1 b.y2 b.y3 hk h.xy) i0 (dot_no b.y1 b.y2 b.y3 b.z1 b.z2 b.z3 hk h.yz) i0 (dot_no b.z1 b.z2 b.z3 b.x1 b.x2 b.x3 hk h.zx) i0 (detR hc hd) (kn_L (signFp (q:=1) (by decide))))
theorem On.st (h:On x1 x2 x3 y1 y2 y3 z1 z2 z3) (b:Bn k x1 x2 x3 y1 y2 y3 z1 z2 z3) (hk:k≤600):jF 9 [FR (T9 x1 x2 x3 y1 y2 y3 z1 z2 z3)] one3:=by
 have s1:=aBd b.x1 b.x2 b.x3 (by omega)
 have s2:=aBd b.y1 b.y2 b.y3 (by omega)
 have s3:=aBd b.z1 b.z2 b.z3 (by omega)
 rw [h.xx] at s1
 rw [h.yy] at s2
 rw [h.zz] at s3
 exact stretchR s1 s2 s3
theorem kE {a b c x y z:Rat} {l n:Nat} (h1:Bq k a) (h2:Bq k b) (h3:Bq k c) (g1:Bq l x) (g2:Bq l y) (g3:Bq l z) (hn:3*(k+l)+2≤n):Bq n (ld a b c x y z):=Bq.dt h1 h2 h3 g1 g2 g3 hn
theorem fI {a b c:Rat} (h:dt x1 x2 x3 x1 x2 x3=1):mlt a b c x1 x2 x3=dt a b c x1 x2 x3:=by
 unfold mlt
 rw [h,Rat.div_def]
 have:=Rat.inv_mul_cancel (1:Rat) (by decide)
 rw [Rat.mul_one] at this
 rw [this,Rat.mul_one]
theorem inv_W (h:On x1 x2 x3 y1 y2 y3 z1 z2 z3) (i:On x1 y1 z1 x2 y2 z2 x3 y3 z3) (b:Bn k x1 x2 x3 y1 y2 y3 z1 z2 z3) (hk:k≤600):jX 11 [FR (T9 x1 x2 x3 y1 y2 y3 z1 z2 z3)] (aBh (T9 x1 y1 z1 x2 y2 z2 x3 y3 z3)):=by
 have t0:((0:Int):Rat)=0:=rfl
 have t1:((1:Int):Rat)=1:=rfl
 have n1:(1:Rat)≠0:=by decide
 have hb:Bn k x1 y1 z1 x2 y2 z2 x3 y3 z3:=⟨b.x1,b.y1,b.z1,b.x2,b.y2,b.z2,b.x3,b.y3,b.z3⟩
 exact apiInverseF (h.fv b hk) ⟨by rw [h.xx];exact n1,by rw [h.yy];exact n1,by rw [h.zz];exact n1⟩
  (by rw [fI h.xx,t0];unfold dt;grind) (by rw [fI h.yy,t0];unfold dt;grind) (by rw [fI h.zz,t0];unfold dt;grind)
  (by rw [fI h.xx,t0,t1];unfold dt;grind) (by rw [fI h.yy,t0,t1];unfold dt;grind) (by rw [fI h.zz,t0,t1];unfold dt;grind)
  (by rw [fI h.xx,t0,t1];unfold dt;grind) (by rw [fI h.yy,t0,t1];unfold dt;grind) (by rw [fI h.zz,t0,t1];unfold dt;grind)
  (by rw [fI h.xx,t0,t1];unfold dt;grind) (by rw [fI h.yy,t0,t1];unfold dt;grind) (by rw [fI h.zz,t0,t1];unfold dt;grind)
  (hb.wf hk) i.xy i.yz i.zx
theorem comp_W (h:Rt x1 x2 x3 y1 y2 y3 z1 z2 z3) (g:On u1 u2 u3 v1 v2 v3 w1 w2 w3) (b:Bn k x1 x2 x3 y1 y2 y3 z1 z2 z3) (b' : Bn k u1 u2 u3 v1 v2 v3 w1 w2 w3) (hk:6*k+2≤600) :
 jX 14 [FR (T9 x1 x2 x3 y1 y2 y3 z1 z2 z3),FR (T9 u1 u2 u3 v1 v2 v3 w1 w2 w3)] (aBh (T9 (ld u1 u2 u3 x1 y1 z1) (ld u1 u2 u3 x2 y2 z2) (ld u1 u2 u3 x3 y3 z3) (ld v1 v2 v3 x1 y1 z1) (ld v1 v2 v3 x2 y2 z2) (ld v1 v2 v3 x3 y3 z3) (ld w1 w2 w3 x1 y1 z1) (ld w1 w2 w3 x2 y2 z2) (ld w1 w2 w3 x3 y3 z3))) ∧
 Bn (6*k+2) (ld u1 u2 u3 x1 y1 z1) (ld u1 u2 u3 x2 y2 z2) (ld u1 u2 u3 x3 y3 z3) (ld v1 v2 v3 x1 y1 z1) (ld v1 v2 v3 x2 y2 z2) (ld v1 v2 v3 x3 y3 z3) (ld w1 w2 w3 x1 y1 z1) (ld w1 w2 w3 x2 y2 z2) (ld w1 w2 w3 x3 y3 z3):=by
 have t0:((0:Int):Rat)=0:=rfl
 have z:∀ a b c:Rat,((0:Int):Rat)+ld ((0:Int):Rat) ((0:Int):Rat) ((0:Int):Rat) a b c=((0:Int):Rat):=fun a b c=>by rw [t0];unfold ld;grind
 have o:=On.mul h g
 have B:Bn (6*k+2) (ld u1 u2 u3 x1 y1 z1) (ld u1 u2 u3 x2 y2 z2) (ld u1 u2 u3 x3 y3 z3) (ld v1 v2 v3 x1 y1 z1) (ld v1 v2 v3 x2 y2 z2) (ld v1 v2 v3 x3 y3 z3) (ld w1 w2 w3 x1 y1 z1) (ld w1 w2 w3 x2 y2 z2) (ld w1 w2 w3 x3 y3 z3) :=
  ⟨kE b'.x1 b'.x2 b'.x3 b.x1 b.y1 b.z1 (by omega),kE b'.x1 b'.x2 b'.x3 b.x2 b.y2 b.z2 (by omega),kE b'.x1 b'.x2 b'.x3 b.x3 b.y3 b.z3 (by omega),
   kE b'.y1 b'.y2 b'.y3 b.x1 b.y1 b.z1 (by omega),kE b'.y1 b'.y2 b'.y3 b.x2 b.y2 b.z2 (by omega),kE b'.y1 b'.y2 b'.y3 b.x3 b.y3 b.z3 (by omega),
   kE b'.z1 b'.z2 b'.z3 b.x1 b.y1 b.z1 (by omega),kE b'.z1 b'.z2 b'.z3 b.x2 b.y2 b.z2 (by omega),kE b'.z1 b'.z2 b'.z3 b.x3 b.y3 b.z3 (by omega)⟩
 exact ⟨uK (h.toOn.fv b (by omega)) (g.fv b' (by omega)) (z _ _ _) (z _ _ _) (z _ _ _) rfl rfl rfl rfl rfl rfl rfl rfl rfl (B.wf hk) o.xy o.yz o.zx,B⟩
end
theorem t0_eq {q:Rat} (h:q=0):((writeB q).toList==(⟨#[48]⟩:ByteArray).toList)=true:=by
 have e:writeB q=⟨#[48]⟩:=by rw [h];exact w0
 rw [e]
 exact beq_self_eq_true _
theorem sJ {w s D c v u N Q:Rat} (hN:w*w+s=N) (hQ:(w*w-s)*v+2*w*c+2*D*u=Q):tc w s D c v u=Q/N:=by
 have t1:((1:Int):Rat)=1:=rfl
 have t2:((2:Int):Rat)=2:=rfl
 unfold tc
 rw [hN,t1,t2,hQ,Rat.div_def,Rat.one_mul,Rat.div_def,Rat.mul_comm]
section
variable {w a b c:Rat}
abbrev FT (w a b c:Rat):Tx:=T9 (rd w a b c) (ro w a b c) (ro w a c (-b)) (ro w b a (-c)) (rd w b a c) (ro w b c a) (ro w c a b) (ro w c b (-a)) (rd w c a b)
theorem nm_zero (h:w=0) (h1:a=0) (h2:b=0) (h3:c=0):nm w a b c=0:=by rw [h,h1,h2,h3];unfold nm;grind
theorem nm_ne (h:¬ (w=0∧a=0∧b=0∧c=0)):nm w a b c≠0:=fun e=>by
 have h0:=oZ w
 have h1:=oZ a
 have h2:=oZ b
 have h3:=oZ c
 unfold nm at e
 have k0:w*w=0:=by grind
 have k1:a*a=0:=by grind
 have k2:b*b=0:=by grind
 have k3:c*c=0:=by grind
 exact h ⟨by grind,by grind,by grind,by grind⟩
theorem aBk {k:Nat} (hw:Wr w) (ha:Wr a) (hb:Wr b) (hc:Wr c) (h:nm w a b c≠0) (hB:Bn k (rd w a b c) (ro w a b c) (ro w a c (-b)) (ro w b a (-c)) (rd w b a c) (ro w b c a) (ro w c a b) (ro w c b (-a)) (rd w c a b)) (hk:k≤600):xK (Q4 (tx4 w a b c)) (aBh (FT w a b c)):=by
 have l:∀ {q:Rat},Wr q→Lf 8 q:=fun hq=>hq.lf.mono (by decide)
 have i1:Lf 8 ((1:Int):Rat):=Lf.int (Lv.one _ (by rw [aL];decide))
 have i0:Lf 8 ((0:Int):Rat):=Lf.int (Lv.one _ (by rw [aL];decide))
 have t0:((0:Int):Rat)=0:=rfl
 have t1:((1:Int):Rat)=1:=rfl
 have t2:((2:Int):Rat)=2:=rfl
 have hn:w*w+dt a b c a b c≠0:=fun e=>h (by unfold nm;rw [← e];unfold dt;grind)
 have f1:=oW (l hw) (l ha) (l hb) (l hc) i1 i0 i0 hn
 have f2:=oW (l hw) (l ha) (l hb) (l hc) i0 i1 i0 hn
 have f3:=oW (l hw) (l ha) (l hb) (l hc) i0 i0 i1 hn
 simp only [t0,t1] at f1 f2 f3
 rw [sJ (N:=nm w a b c) (Q:=w*w+a*a-b*b-c*c) (by unfold nm dt;grind) (by unfold dt;grind),sJ (N:=nm w a b c) (Q:=2*(a*b+w*c)) (by unfold nm dt;grind) (by unfold dt;grind),sJ (N:=nm w a c (-b)) (Q:=2*(a*c+w * -b)) (by unfold nm dt;grind) (by unfold dt;grind)] at f1
 rw [sJ (N:=nm w b a (-c)) (Q:=2*(b*a+w * -c)) (by unfold nm dt;grind) (by unfold dt;grind),sJ (N:=nm w b a c) (Q:=w*w+b*b-a*a-c*c) (by unfold nm dt;grind) (by unfold dt;grind),sJ (N:=nm w b c a) (Q:=2*(b*c+w*a)) (by unfold nm dt;grind) (by unfold dt;grind)] at f2
 rw [sJ (N:=nm w c a b) (Q:=2*(c*a+w*b)) (by unfold nm dt;grind) (by unfold dt;grind),sJ (N:=nm w c b (-a)) (Q:=2*(c*b+w * -a)) (by unfold nm dt;grind) (by unfold dt;grind),sJ (N:=nm w c a b) (Q:=w*w+c*c-a*a-b*b) (by unfold nm dt;grind) (by unfold dt;grind)] at f3
 refine apiTurnF (b:=decide (w=0)) hw ⟨ha,hb,hc⟩ rfl (fun h0=>vJ fun ⟨h1,h2,h3⟩=>h (nm_zero (of_decide_eq_true h0) h1 h2 h3)) ?_ ?_ ?_ (hB.wf hk)
 ·exact f1
 ·exact f2
 ·exact f3
theorem aBl:rd w (-a) (-b) (-c)=rd w a b c:=by
 have e:∀ x:Rat,-x * -x=x*x:=fun x=>by grind
 unfold rd nm
 rw [e,e,e]
theorem pB:ro w (-a) (-b) (-c)=ro w b a (-c):=by
 unfold ro nm
 have e1:w*w + -a * -a + -b * -b + -c * -c=w*w+b*b+a*a + -c * -c:=by grind
 have e2:-a * -b+w * -c=b*a+w * -c:=by grind
 rw [e1,e2]
theorem zM {p q t:Rat} (ht:t≠0):t*t*p/(t*t*q)=p/q:=by
 by_cases hq:q=0
 ·rw [hq,Rat.mul_zero,Rat.div_def,Rat.div_def,Rat.inv_zero,Rat.mul_zero,Rat.mul_zero]
 ·have h2:t*t*q≠0:=fun e=>(Rat.mul_eq_zero.1 e).elim (fun e=>(Rat.mul_eq_zero.1 e).elim ht ht) hq
  have h1:(t*t*q)⁻¹*(t*t*q)=1:=Rat.inv_mul_cancel _ h2
  have h3:q⁻¹*q=1:=Rat.inv_mul_cancel _ hq
  rw [Rat.div_def,Rat.div_def]
  generalize (t*t*q)⁻¹=i at *
  generalize q⁻¹=j at *
  have:i*(t*t)=j:=by
   have e:i*(t*t)*q=1:=by rw [← h1];grind
   calc i*(t*t)=i*(t*t)*(j*q):=by rw [h3,Rat.mul_one]
    _=i*(t*t)*q*j:=by grind
    _=j:=by rw [e,Rat.one_mul]
  rw [← this]
  grind
theorem mG {t:Rat} (ht:t≠0):rd (t*w) (t*a) (t*b) (t*c)=rd w a b c:=by
 have e1:t*w*(t*w)+t*a*(t*a)-t*b*(t*b)-t*c*(t*c)=t*t*(w*w+a*a-b*b-c*c):=by grind
 have e2:nm (t*w) (t*a) (t*b) (t*c)=t*t*nm w a b c:=by unfold nm;grind
 unfold rd
 rw [e1,e2,zM ht]
theorem kI {t:Rat} (ht:t≠0):ro (t*w) (t*a) (t*b) (t*c)=ro w a b c:=by
 have e1:((2:Int):Rat)*(t*a*(t*b)+t*w*(t*c))=t*t*(((2:Int):Rat)*(a*b+w*c)):=by grind
 have e2:nm (t*w) (t*a) (t*b) (t*c)=t*t*nm w a b c:=by unfold nm;grind
 unfold ro
 rw [e1,e2,zM ht]
theorem iZ {t:Rat} (ht:t≠0):ro (t*w) (t*a) (t*b) (-(t*c))=ro w a b (-c):=by
 have e:-(t*c)=t * -c:=by grind
 rw [e,kI ht]
end
section
variable {w a b c w' a' b' c' p1 p2 p3 s1 s2 s3:Rat}
theorem bn_rot (hw:Bq 3 w) (ha:Bq 3 a) (hb:Bq 3 b) (hc:Bq 3 c) (h:nm w a b c≠0):Bn 25 (rd w a b c) (ro w a b c) (ro w a c (-b)) (ro w b a (-c)) (rd w b a c) (ro w b c a) (ro w c a b) (ro w c b (-a)) (rd w c a b) :=
 have n1:nm w a c b≠0:=fun e=>h (by rw [← e];unfold nm;grind)
 have n2:nm w b a c≠0:=fun e=>h (by rw [← e];unfold nm;grind)
 have n3:nm w b c a≠0:=fun e=>h (by rw [← e];unfold nm;grind)
 have n4:nm w c a b≠0:=fun e=>h (by rw [← e];unfold nm;grind)
 have n5:nm w c b a≠0:=fun e=>h (by rw [← e];unfold nm;grind)
 ⟨(nD hw ha hb hc h).1,(nD hw ha hb hc h).2.1,(nD hw ha hc hb n1).2.2,(nD hw hb ha hc n2).2.2,(nD hw hb ha hc n2).1,(nD hw hb hc ha n3).2.1,(nD hw hc ha hb n4).2.1,(nD hw hc hb ha n5).2.2,(nD hw hc ha hb n4).1⟩
theorem mul_lit {s u:ByteArray} {q:Rat} (h:jF 13 [tx (writeB ((-3:Int):Rat)),tx s] (tx u)):jF 13 [lt m3,tx s] (tx u):=by
 have e:writeB ((-3:Int):Rat)=m3:=(eL (z := -3) (b:=⟨#[UInt8.ofNat (48+3)]⟩) (by omega) (by rw [show (-3:Int).natAbs=3 from rfl];exact bF (n:=3) (by omega))).trans (by kernel_rfl)
 rw [e] at h
 exact Fits.args h fun β vs w ⟨v,r,e,h,hr⟩=>⟨v,r,e,sc_lit.2 h,hr⟩
theorem turnsR (fw:Bq 3 w) (fa:Bq 3 a) (fb:Bq 3 b) (fc:Bq 3 c) (gw:Bq 3 w') (ga:Bq 3 a') (gb:Bq 3 b') (gc:Bq 3 c') (hp1:Bq 3 p1) (hp2:Bq 3 p2) (hp3:Bq 3 p3) (hs1:Bq 3 s1) (hs2:Bq 3 s2) (hs3:Bq 3 s3)
 (l1:FL (tx4 w a b c) true) (l2:FL (tx4 w' a' b' c') true) (v1:FV3 (tx3 p1 p2 p3) true) (v2:FV3 (tx3 s1 s2 s3) true) (hq:oN (tx4 w a b c)=false) (hr:oN (tx4 w' a' b' c')=false) (nq:nm w a b c≠0) (nr:nm w' a' b' c'≠0) :
 jX 3 [Q4 (tx4 w a b c),Q4 (tx4 w' a' b' c'),P6 (tx3 p1 p2 p3) (tx3 s1 s2 s3)] (bl true):=by
 have B:=bn_rot fw fa fb fc nq
 have B':=bn_rot gw ga gb gc nr
 have R:=rt_of nq
 have R':=(rt_of nr).toOn
 have W:∀ {q:Rat},Bq 3 q→Wr q:=fun h=>h.wr (by omega)
 have cF:=aBk (W fw) (W fa) (W fb) (W fc) nq B (by omega)
 have cG:=aBk (W gw) (W ga) (W gb) (W gc) nr B' (by omega)
 -- the conjugate
 have nc:nm w (-a) (-b) (-c)≠0:=fun e=>nq (by rw [← e];unfold nm;grind)
 have Rc:=(rt_of nc).toOn
 have Bc:=bn_rot fw fa.neg fb.neg fc.neg nc
 have cC:=aBk (W fw) (W fa.neg) (W fb.neg) (W fc.neg) nc Bc (by omega)
 unfold FT at cC
 have j1:ro w (-a) (-c) (- -b)=ro w c a b:=by rw [pB,Rat.neg_neg]
 have j2:ro w (-b) (-a) (- -c)=ro w a b c:=by rw [pB,Rat.neg_neg]
 have j3:ro w (-c) (-b) (- -a)=ro w b c a:=by rw [pB,Rat.neg_neg]
 have j4:ro w (-b) (-c) (-a)=ro w c b (-a):=pB
 have j5:ro w (-c) (-a) (-b)=ro w a c (-b):=pB
 rw [aBl,aBl,aBl,pB,j1,j2,j3,j4,j5] at cC Rc
 -- three times as much, the other way
 have h3:((-3:Int):Rat)≠0:=by decide
 have b3:Bq 1 ((-3:Int):Rat):=aBe (by decide) (by omega)
 have M:∀ {q:Rat},Bq 3 q→Wr (((-3:Int):Rat)*q):=fun h=>(b3.mul h).wr (by omega)
 have n3:nm (((-3:Int):Rat)*w) (((-3:Int):Rat)*a) (((-3:Int):Rat)*b) (((-3:Int):Rat)*c)≠0:=fun e=>by
  have e2:nm (((-3:Int):Rat)*w) (((-3:Int):Rat)*a) (((-3:Int):Rat)*b) (((-3:Int):Rat)*c)=((-3:Int):Rat)*((-3:Int):Rat)*nm w a b c:=by unfold nm;grind
  rw [e2] at e
  exact (Rat.mul_eq_zero.1 e).elim (fun e=>(Rat.mul_eq_zero.1 e).elim h3 h3) nq
 have cM:=aBk (k:=25) (M fw) (M fa) (M fb) (M fc) n3 (by rw [mG h3,mG h3,mG h3,kI h3,kI h3,kI h3,iZ h3,iZ h3,iZ h3];exact B) (by omega)
 unfold FT at cM
 rw [mG h3,mG h3,mG h3,kI h3,kI h3,kI h3,iZ h3,iZ h3,iZ h3] at cM
 have mm:∀ {q:Rat},Bq 3 q→jF 13 [lt m3,tx (writeB q)] (tx (writeB (((-3:Int):Rat)*q))):=fun {q} h=>mul_lit (q:=q) (kn_S (sA (b3.zs (by omega)) (h.zs (by omega))))
 have ng:∀ {q:Rat},Bq 3 q→jF 12 [tx (writeB q)] (tx (writeB (-q))):=fun h=>kn_1 (negR (by have:=zs_len (h.zs (by omega));omega))
 unfold FT at cF cG
 generalize rd w a b c=x1 at *
 generalize ro w a b c=x2 at *
 generalize ro w a c (-b)=x3 at *
 generalize ro w b a (-c)=y1 at *
 generalize rd w b a c=y2 at *
 generalize ro w b c a=y3 at *
 generalize ro w c a b=z1 at *
 generalize ro w c b (-a)=z2 at *
 generalize rd w c a b=z3 at *
 generalize rd w' a' b' c'=u1 at *
 generalize ro w' a' b' c'=u2 at *
 generalize ro w' a' c' (-b')=u3 at *
 generalize ro w' b' a' (-c')=v1' at *
 generalize rd w' b' a' c'=v2' at *
 generalize ro w' b' c' a'=v3' at *
 generalize ro w' c' a' b'=w1' at *
 generalize ro w' c' b' (-a')=w2' at *
 generalize rd w' c' a' b'=w3' at *
 have O:=R.toOn
 have Fo:=O.fv B (by omega)
 have Go':=R'.fv B' (by omega)
 obtain ⟨cH,BH⟩:=comp_W R R' B B' (by omega)
 have OH:=On.mul R R'
 have Ho:=OH.fv BH (by omega)
 have BI:Bn 25 x1 y1 z1 x2 y2 z2 x3 y3 z3:=⟨B.x1,B.y1,B.z1,B.x2,B.y2,B.z2,B.x3,B.y3,B.z3⟩
 have wp:mH p1 p2 p3:=⟨W hp1,W hp2,W hp3⟩
 have ws:mH s1 s2 s3:=⟨W hs1,W hs2,W hs3⟩
 have pa:∀ {i1 i2 i3 j1 j2 j3 k1 k2 k3 t1 t2 t3:Rat},Bn 25 i1 i2 i3 j1 j2 j3 k1 k2 k3→Bq 3 t1→Bq 3 t2→Bq 3 t3→Bq 86 (ld t1 t2 t3 i1 j1 k1)∧Bq 86 (ld t1 t2 t3 i2 j2 k2)∧Bq 86 (ld t1 t2 t3 i3 j3 k3):=fun b h1 h2 h3 =>
  ⟨kE h1 h2 h3 b.x1 b.y1 b.z1 (by omega),kE h1 h2 h3 b.x2 b.y2 b.z2 (by omega),kE h1 h2 h3 b.x3 b.y3 b.z3 (by omega)⟩
 have W3:∀ {k:Nat} {i j t:Rat},k≤600→Bq k i∧Bq k j∧Bq k t→mH i j t:=fun hk h=>⟨h.1.wr hk,h.2.1.wr hk,h.2.2.wr hk⟩
 have qa:=pa B hp1 hp2 hp3
 have qb:=pa B hs1 hs2 hs3
 have qx:=pa B' hp1 hp2 hp3
 have qy:Bq 335 (ld (ld p1 p2 p3 u1 v1' w1') (ld p1 p2 p3 u2 v2' w2') (ld p1 p2 p3 u3 v3' w3') x1 y1 z1)∧Bq 335 (ld (ld p1 p2 p3 u1 v1' w1') (ld p1 p2 p3 u2 v2' w2') (ld p1 p2 p3 u3 v3' w3') x2 y2 z2)∧Bq 335 (ld (ld p1 p2 p3 u1 v1' w1') (ld p1 p2 p3 u2 v2' w2') (ld p1 p2 p3 u3 v3' w3') x3 y3 z3) :=
  ⟨kE qx.1 qx.2.1 qx.2.2 B.x1 B.y1 B.z1 (by omega),kE qx.1 qx.2.1 qx.2.2 B.x2 B.y2 B.z2 (by omega),kE qx.1 qx.2.1 qx.2.2 B.x3 B.y3 B.z3 (by omega)⟩
 have cA:=pA Fo wp rfl rfl rfl (W3 (by omega) qa)
 have cB:=pA Fo ws rfl rfl rfl (W3 (by omega) qb)
 have cX:=pA Go' wp rfl rfl rfl (W3 (by omega) qx)
 have cY:=pA Fo (W3 (by omega) qx) rfl rfl rfl (W3 (by omega) qy)
 have cZ:=pA Ho wp ld_ld.symm ld_ld.symm ld_ld.symm (W3 (by omega) qy)
 have bk:=Rt.back (u1:=p1) (u2:=p2) (u3:=p3) O
 have cU:=pA (Rc.fv BI (by omega)) (W3 (by omega) qa) bk.1 bk.2.1 bk.2.2 wp
 have dA:=dotV qa.1 qa.2.1 qa.2.2 qb.1 qb.2.1 qb.2.2 (by omega)
 rw [R.dot] at dA
 exact turns_walk (c:=tx4 w (-a) (-b) (-c)) (m:=tx4 (((-3:Int):Rat)*w) (((-3:Int):Rat)*a) (((-3:Int):Rat)*b) (((-3:Int):Rat)*c)) l1 l2 v1 v2 hq hr cF cG (O.ck B (by omega)) (R'.ck B' (by omega)) (O.st B (by omega)) (inv_W O Rc B (by omega)) (ng fa) (ng fb) (ng fc) cC (mm fw) (mm fa) (mm fb) (mm fc) cM cH cA cB
  (iY (nH qa.1 (by omega)) (nH qa.2.1 (by omega)) (nH qa.2.2 (by omega))) (iY (nH qb.1 (by omega)) (nH qb.2.1 (by omega)) (nH qb.2.2 (by omega))) (OH.ck BH (by omega)) cX cY cZ cU dA (dotV hp1 hp2 hp3 hs1 hs2 hs3 (by omega))
end
open Classical in
theorem uS (s:ByteArray):jF 28 [tx s,it 3] (bl (decide (Fy 3 s))):=by
 by_cases h:Fy 3 s
 ·rw [decide_eq_true h]
  obtain ⟨q,rfl,h⟩:=h
  exact kn_F (few3Yes h)
 ·rw [decide_eq_false h]
  exact kn_F (few3No h)
open Classical in
theorem fewVecB (p:Tx):FV3 p (decide (Fy 3 (p 0))&&decide (Fy 3 (p 1))&&decide (Fy 3 (p 2))):=by
 have h0:=uS (p 0)
 have h1:=uS (p 1)
 have h2:=uS (p 2)
 generalize decide (Fy 3 (p 0))=a at *
 generalize decide (Fy 3 (p 1))=b at *
 generalize decide (Fy 3 (p 2))=c at *
 cases a
 ·exact fewVecF1 h0
 ·cases b
  ·exact fewVecF2 h0 h1
  ·cases c
   ·exact fewVecF3 h0 h1 h2
   ·exact fewVecT h0 h1 h2
open Classical in
theorem fewListB (q:Tx):FL q (decide (Fy 3 (q 0))&&decide (Fy 3 (q 1))&&decide (Fy 3 (q 2))&&decide (Fy 3 (q 3))):=by
 cases e:(decide (Fy 3 (q 0))&&decide (Fy 3 (q 1))&&decide (Fy 3 (q 2))&&decide (Fy 3 (q 3))) with
 | false=>exact fewListF (y:=fun s=>decide (Fy 3 s)) uS e
 | true =>
   simp only [Bool.and_eq_true] at e
   have h0:=uS (q 0)
   have h1:=uS (q 1)
   have h2:=uS (q 2)
   have h3:=uS (q 3)
   rw [e.1.1.1] at h0
   rw [e.1.1.2] at h1
   rw [e.1.2] at h2
   rw [e.2] at h3
   exact fewListT h0 h1 h2 h3
theorem isZ4_no {w a b c:Rat} (h:oN (tx4 w a b c)=false):nm w a b c≠0:=nm_ne fun ⟨h0,h1,h2,h3⟩=>by
 have:oN (tx4 w a b c)=true:=by
  show ((writeB w).toList==(⟨#[48]⟩:ByteArray).toList&&(writeB a).toList==(⟨#[48]⟩:ByteArray).toList&&(writeB b).toList==(⟨#[48]⟩:ByteArray).toList&&(writeB c).toList==(⟨#[48]⟩:ByteArray).toList)=true
  rw [t0_eq h0,t0_eq h1,t0_eq h2,t0_eq h3]
  rfl
 rw [this] at h
 cases h
theorem turn0:xK zero4 zeroF:=by
 have b0:Wr ((0:Int):Rat):=(aBe (k:=1) (by decide) (by omega)).wr (by omega)
 have h:=aBg b0 ⟨b0,b0,b0⟩ rfl rfl
 rw [w0] at h
 exact h.args fun β vs w ⟨v,r,e,h,hr⟩=>⟨v,r,e,(aAz (.txt (.txt (.txt (.txt .nil))))).2 h,hr⟩
open Classical in
theorem turnsF (q r p s:Tx):jX 3 [Q4 q,Q4 r,P6 p s] (bl true):=by
 have l1:=fewListB q
 have l2:=fewListB r
 have v1:=fewVecB p
 have v2:=fewVecB s
 by_cases h1:Fy 3 (q 0)∧Fy 3 (q 1)∧Fy 3 (q 2)∧Fy 3 (q 3)
 ·by_cases h2:Fy 3 (r 0)∧Fy 3 (r 1)∧Fy 3 (r 2)∧Fy 3 (r 3)
  ·by_cases h3:Fy 3 (p 0)∧Fy 3 (p 1)∧Fy 3 (p 2)
   ·by_cases h4:Fy 3 (s 0)∧Fy 3 (s 1)∧Fy 3 (s 2)
    ·obtain ⟨⟨w,e0,f0⟩,⟨a,e1,f1⟩,⟨b,e2,f2⟩,⟨c,e3,f3⟩⟩:=h1
     obtain ⟨⟨w',e4,f4⟩,⟨a',e5,f5⟩,⟨b',e6,f6⟩,⟨c',e7,f7⟩⟩:=h2
     obtain ⟨⟨p1,k1,g1⟩,⟨p2,k2,g2⟩,⟨p3,k3,g3⟩⟩:=h3
     obtain ⟨⟨s1,k4,g4⟩,⟨s2,k5,g5⟩,⟨s3,k6,g6⟩⟩:=h4
     simp only [show Fy 3 (q 0) from ⟨w,e0,f0⟩,show Fy 3 (q 1) from ⟨a,e1,f1⟩,show Fy 3 (q 2) from ⟨b,e2,f2⟩,show Fy 3 (q 3) from ⟨c,e3,f3⟩,decide_true,Bool.and_self] at l1
     simp only [show Fy 3 (r 0) from ⟨w',e4,f4⟩,show Fy 3 (r 1) from ⟨a',e5,f5⟩,show Fy 3 (r 2) from ⟨b',e6,f6⟩,show Fy 3 (r 3) from ⟨c',e7,f7⟩,decide_true,Bool.and_self] at l2
     simp only [show Fy 3 (p 0) from ⟨p1,k1,g1⟩,show Fy 3 (p 1) from ⟨p2,k2,g2⟩,show Fy 3 (p 2) from ⟨p3,k3,g3⟩,decide_true,Bool.and_self] at v1
     simp only [show Fy 3 (s 0) from ⟨s1,k4,g4⟩,show Fy 3 (s 1) from ⟨s2,k5,g5⟩,show Fy 3 (s 2) from ⟨s3,k6,g6⟩,decide_true,Bool.and_self] at v2
     by_cases hz:oN q=true∨oN q=false∧oN r=true
     ·exact turns_zero l1 l2 v1 v2 hz turn0
     ·have hq:oN q=false:=by
       cases e:oN q with
       | true=>exact absurd (.inl e) hz
       | false=>rfl
      have hr:oN r=false:=by
       cases e:oN r with
       | true=>exact absurd (.inr ⟨hq,e⟩) hz
       | false=>rfl
      show jX 3 [.fv (.ag (q4 (q 0) (q 1) (q 2) (q 3))),.fv (.ag (q4 (r 0) (r 1) (r 2) (r 3))),.fv (.ag [bV (p 0),bV (p 1),bV (p 2),bV (s 0),bV (s 1),bV (s 2)])] (bl true)
      unfold oN at hq hr
      unfold FL at l1 l2
      unfold FV3 V3 at v1 v2
      rw [e0,e1,e2,e3] at l1 hq
      rw [e4,e5,e6,e7] at l2 hr
      rw [k1,k2,k3] at v1
      rw [k4,k5,k6] at v2
      rw [e0,e1,e2,e3,e4,e5,e6,e7,k1,k2,k3,k4,k5,k6]
      exact turnsR (kW f0) (kW f1) (kW f2) (kW f3) (kW f4) (kW f5) (kW f6) (kW f7) (kW g1) (kW g2) (kW g3) (kW g4) (kW g5) (kW g6) l1 l2 v1 v2 hq hr (isZ4_no hq) (isZ4_no hr)
    ·exact sI l1 l2 v1 v2 (by rw [vJ (p:=Fy 3 (s 0)) h4,Bool.and_false])
   ·exact sI l1 l2 v1 v2 (by rw [vJ (p:=Fy 3 (p 0)) h3,Bool.and_false,Bool.false_and])
  ·exact sI l1 l2 v1 v2 (by
    have:(decide (Fy 3 (r 0))&&decide (Fy 3 (r 1))&&decide (Fy 3 (r 2))&&decide (Fy 3 (r 3)))=false:=by
     rw [Bool.eq_false_iff];intro e;simp only [Bool.and_eq_true,decide_eq_true_eq] at e;exact h2 ⟨e.1.1.1,e.1.1.2,e.1.2,e.2⟩
    rw [this,Bool.and_false,Bool.false_and,Bool.false_and])
 ·exact sI l1 l2 v1 v2 (by
   have:(decide (Fy 3 (q 0))&&decide (Fy 3 (q 1))&&decide (Fy 3 (q 2))&&decide (Fy 3 (q 3)))=false:=by
    rw [Bool.eq_false_iff];intro e;simp only [Bool.and_eq_true,decide_eq_true_eq] at e;exact h1 ⟨e.1.1.1,e.1.1.2,e.1.2,e.2⟩
   rw [this,Bool.false_and,Bool.false_and,Bool.false_and])
end Ab
namespace Ab
open Go.ChangeShapes Go.WideShapes Go.ChangeAt Go.RowKit
theorem gPow:Tryz.prog.globalNamed "internal/strconv.uint64pow10" = some 7:=by kernel_rfl
theorem gl_of {W:World} {r:List (String×DataW Unit)} (h:laidMet Tryz.prog (("internal/strconv.uint64pow10",Lib.tabData .u64 Lib.pow10Tab)::r) W) (hs:W.ShapedOpen Tryz.prog):Gl W :=
 ⟨Lib.tabIs_of_head (t:=295) (e:=175) (n:=20) gPow (by kernel_rfl) (by kernel_rfl) (by kernel_rfl) (by kernel_rfl) (by kernel_rfl) h,
  Go.Proofs.cell_of_shapedOpen_int (zero := #[.int .i64 0]) (t:=3) hs (of_decide_eq_true (by kernel_rfl)) (by kernel_rfl) rfl (by kernel_rfl) (by kernel_rfl) (by kernel_rfl)⟩
end Ab
namespace Ab
open Go.ChangeShapes Go.WideShapes Go.RowKit
def tS (P:Program):Nat→TypeId→Nat→Option Bool
 | 0,_,_=>none
 | d+1,T,i=>match P.underlying T with
   | some (.int .i64)=>if i=0 then some false else none
   | some .string=>if i=0 then some true else none
   | some (.array n e)=>if 0<P.cellsOf e∧i/P.cellsOf e<n then tS P d e (i%P.cellsOf e) else none
   | some (.struct fs)=>(fs.toList.find? fun f=>decide (f.offset≤i∧i<f.offset+P.cellsOf f.type)).bind fun f=>tS P d f.type (i-f.offset)
   | _=>none
def isKind:Bool→Value→Prop
 | true,c => ∃ s:ByteArray,c = .string s∧s.size≤maxLen
 | false,c => ∃ n:Int,c = .int .i64 n∧(Lit.int .i64 n).wf=true
section
variable {H:Type} {enc:TypeId×Value→H} {P:Program} {w:World} {base:Nat} {spare:Nat→Bool} {held:Bool}
theorem piece {cs:List Value} {o n r:Nat} {c:Value} (h:((cs.drop o).take n)[r]?=some c):cs[o+r]?=some c:=by
 rw [List.getElem?_take] at h
 split at h
 ·rw [List.getElem?_drop] at h;exact h
 ·cases h
theorem trod_kind:∀ (d:Nat) {T:TypeId} {fuel i:Nat} {cs:List Value} {x:DataW H×List MemPlace} {k:Bool},DataW.trod enc P w base spare held fuel T cs=some x→tS P d T i=some k→∃ c,cs[i]?=some c∧isKind k c:=by
 intro d
 induction d with
 | zero=>intro T fuel i cs x k _ hk;cases hk
 | succ d ih =>
   intro T fuel i cs x k h hk
   unfold tS at hk
   split at hk
   ·rename_i hu
    split at hk <;> cases hk
    rename_i h0
    subst h0
    cases fuel with
    | zero=>cases h
    | succ m =>
      unfold DataW.trod at h
      rw [hu] at h
      split at h <;> simp_all
      obtain ⟨⟨_,hw⟩,_⟩:=h
      cases ‹IntKind.i64=_›
      exact ⟨_,rfl,hw⟩
   ·rename_i hu
    split at hk <;> cases hk
    rename_i h0
    subst h0
    cases fuel with
    | zero=>cases h
    | succ m =>
      unfold DataW.trod at h
      rw [hu] at h
      split at h <;> simp_all
      exact ⟨_,rfl,h.1⟩
   ·rename_i n e hu
    split at hk
    ·rename_i hi
     obtain ⟨xs,m,_,_,_,hlen,hat⟩:=DataW.trod_array hu h
     have hq:=hat (i/P.cellsOf e) hi.2
     rw [List.getElem?_eq_getElem (by omega)] at hq
     obtain ⟨c,hc,hk'⟩:=ih hq hk
     refine ⟨c,?_,hk'⟩
     have:=piece hc
     rw [Nat.mul_comm,Nat.div_add_mod] at this
     exact this
    ·cases hk
   ·rename_i fs hu
    rw [Option.bind_eq_some_iff] at hk
    obtain ⟨f,hf,hk⟩:=hk
    have hp:=List.find?_some hf
    simp only [decide_eq_true_eq] at hp
    obtain ⟨j,hj,hje⟩:=List.getElem_of_mem (List.mem_of_find?_eq_some hf)
    obtain ⟨xs,n,_,_,_,hlen,hat⟩:=DataW.trod_struct hu h
    have hq:=hat j f (by rw [← hje];simp)
    rw [List.getElem?_eq_getElem (by simp at hj;omega)] at hq
    obtain ⟨c,hc,hk'⟩:=ih hq hk
    refine ⟨c,?_,hk'⟩
    have:=piece hc
    rw [show f.offset+(i-f.offset)=i by omega] at this
    exact this
   ·cases hk
def qM (P:Program):Nat→TypeId→Bool
 | 0,_=>false
 | d+1,T=>match P.underlying T with
   | some (.int _)|some .string=>true
   | some (.array _ e)=>qM P d e
   | some (.struct fs)=>fs.toList.all fun f=>qM P d f.type
   | _=>false
theorem tT {α β:Type} {f g:α→Option (β×List MemPlace)}:∀ {l:List α} {xs:List (β×List MemPlace)},l.mapM f=some xs→(∀ a∈l,∀ x,f a=some x→g a=some x∧x.2 = [])→l.mapM g=some xs∧xs.flatMap (·.2) = []
 | [],xs,h,_=>by simp at h;subst h;exact ⟨rfl,rfl⟩
 | a::l,xs,h,hs=>by
   rw [List.mapM_cons] at h
   simp only [bind,Option.bind_eq_some_iff,pure,Option.some.injEq] at h
   obtain ⟨y,hy,ys,hys,rfl⟩:=h
   obtain ⟨g1,g2⟩:=hs a (by simp) y hy
   obtain ⟨i1,i2⟩:=tT hys fun b hb=>hs b (by simp [hb])
   exact ⟨by rw [List.mapM_cons,g1,i1];rfl,by simp [g2,i2]⟩
def SameRead (enc:TypeId×Value→H) (P:Program) (w:World) (base:Nat) (spare:Nat→Bool) (held:Bool) (w' : World) (base' : Nat) (spare' : Nat→Bool) (d:Nat):Prop :=
 ∀ (T:TypeId) (fuel:Nat) (cs:List Value) (x:DataW H×List MemPlace),qM P d T=true→DataW.trod enc P w base spare held fuel T cs=some x→DataW.trod enc P w' base' spare' held fuel T cs=some x∧x.2 = []
theorem trod_plain {w' : World} {base' : Nat} {spare' : Nat→Bool}:∀ d:Nat,SameRead enc P w base spare held w' base' spare' d:=by
 intro d
 induction d with
 | zero=>intro T fuel cs x hp;cases hp
 | succ d ih =>
   intro T fuel cs x hp h
   cases fuel with
   | zero=>cases h
   | succ m =>
     unfold qM at hp
     unfold DataW.trod at h ⊢
     split at hp
     ·rename_i hu
      rw [hu] at h ⊢
      split at h <;> simp_all <;> (obtain ⟨_,h⟩:=h;rw [← h])
     ·rename_i hu
      rw [hu] at h ⊢
      split at h <;> simp_all <;> (obtain ⟨_,h⟩:=h;rw [← h])
     ·rename_i hu
      rw [hu] at h ⊢
      split at h <;> simp_all
      obtain ⟨hl,xs,hxs,rfl⟩:=h
      obtain ⟨g1,g2⟩:=tT hxs fun a _ x hx=>ih _ _ _ _ hp hx
      exact ⟨⟨xs,g1,rfl⟩,g2⟩
     ·rename_i hu
      rw [hu] at h ⊢
      split at h <;> simp_all
      obtain ⟨hl,xs,hxs,rfl⟩:=h
      obtain ⟨g1,g2⟩:=tT hxs fun a ha x hx=>ih _ _ _ _ (by obtain ⟨j,hj,rfl⟩:=List.getElem_of_mem ha;simpa using hp j (by simpa using hj)) hx
      exact ⟨⟨xs,g1,rfl⟩,g2⟩
     ·cases hp
theorem qN {w' : World} {base' : Nat} {spare' : Nat→Bool} {T:TypeId} {v:Value} {D:DataW H} {p:List MemPlace} (hp:qM P 10 T=true) (h:DataW.Trod enc P w base spare held T v D p):p = []∧DataW.Trod enc P w' base' spare' held T v D []:=by
 obtain ⟨fuel,hf⟩:=h
 obtain ⟨h1,h2⟩:=trod_plain (w':=w') (base':=base') (spare':=spare') 10 _ _ _ _ hp hf
 simp only at h2
 subst h2
 exact ⟨rfl,fuel,h1⟩
theorem agg_of {r:Reach} {b0 n:Nat} {T:TypeId} {v:Value} (hu:(match P.underlying T with|some (.struct _)|some (.array _ _)=>true|_=>false)=true) (hC:P.cellsOf T=n) (hv:Value.okWide P w r b0 T v):∃ cs:Array Value,v = .agg cs∧cs.size=n:=by
 split at hu
 ·rename_i hs
  simp only [Value.okWide,hs] at hv
  obtain ⟨cs,h1,h2,_⟩:=hv
  exact ⟨cs,h1,h2.trans hC⟩
 ·rename_i hs
  simp only [Value.okWide,hs] at hv
  obtain ⟨cs,h1,h2,_⟩:=hv
  exact ⟨cs,h1,h2.trans hC⟩
 ·cases hu
theorem cell_at {T:TypeId} {cs:Array Value} {D:DataW H} {p:List MemPlace} {k:Bool} (i:Nat) (h:DataW.Trod enc P w base spare held T (.agg cs) D p) (hk:tS P 10 T i=some k):∃ c,cs[i]?=some c∧isKind k c:=by
 obtain ⟨fuel,hf⟩:=h
 obtain ⟨c,h1,h2⟩:=trod_kind 10 hf hk
 exact ⟨c,by simpa [Value.cells] using h1,h2⟩
theorem tU {r:Reach} {b0 n:Nat} {T:TypeId} {v:Value} {D:DataW H} {p:List MemPlace} (hu:(match P.underlying T with|some (.struct _)|some (.array _ _)=>true|_=>false)=true) (hC:P.cellsOf T=n)
 (hk:((List.range n).all fun i=>tS P 10 T i==some true)=true) (hv:Value.okWide P w r b0 T v) (h:DataW.Trod enc P w base spare held T v D p):∃ l:List ByteArray,l.length=n∧v = .agg (l.map Value.string).toArray:=by
 obtain ⟨cs,rfl,hs⟩:=agg_of hu hC hv
 refine ⟨cs.toList.map fun v=>match v with | .string s=>s|_=>default,by simp [hs],?_⟩
 congr 1
 apply Array.toList_inj.1
 rw [List.map_map]
 apply List.ext_getElem
 ·simp
 ·intro i h1 h2
  have hi:i<n:=by simpa [hs] using h1
  have hk':=List.all_eq_true.1 hk i (List.mem_range.2 hi)
  obtain ⟨c,e,s,rfl,_⟩:=cell_at i h (eq_of_beq hk')
  have e2:cs.toList[i] = .string s:=by
   have:=Array.getElem?_eq_some_iff.1 e
   simpa using this.2
  simp [e2]
end
end Ab
end Go.Proofs.YtjijolobkpcpnaaGreatDoor
