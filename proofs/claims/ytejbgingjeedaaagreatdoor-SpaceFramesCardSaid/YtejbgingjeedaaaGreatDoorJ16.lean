/- Parts of the proof, joined. -/
import Derived.Test.YtejbgingjeedaaaGreatDoorJ15
import Derived.Test.YtejbgingjeedaaaGreatDoorJ12
import Derived.Test.YtejbgingjeedaaaGreatDoorJ2
import Derived.Laws.Tables
import Derived.Laws.StructEq
import Derived.Test.YtejbgingjeedaaaGreatDoorJ11
import Derived.RangeFuncNested
import Derived.RangeFuncBound
import Derived.RangeFuncCalls
import Derived.RangeFuncLeaves
import Derived.Shelf.Abstract
import Derived.Shelf.RegionOpen
import Derived.WalkKit
import Derived.OwnWalkIn
import Derived.TacticsInMore
import Derived.LoopNIn
import Derived.LoopIn
import Derived.KernelRfl
import Derived.Test.YtejbgingjeedaaaGreatDoorProg
import Derived.Laws.CopyOwn
set_option linter.unusedSimpArgs false
set_option linter.unusedVariables false
namespace Go.Proofs.YtejbgingjeedaaaGreatDoor.Ab
open Go.RowKit Go.Proofs.YtejbgingjeedaaaGreatDoor Pl
abbrev t3 (a b c:ByteArray):AV Kn := .fv (.ag [bY a,bY b,bY c])
theorem chkF {q:Rat} (h1:(decB q.num.natAbs).size≤600) (h2:(decB q.den).size≤600):Fits Tryz.prog 102 [tx (writeB q)] (it 0):=by
 have hw:=jM q
 have ht:=sK q.num
 have h:=kn_I (aAc (s:=writeB q) (by split at hw <;> omega))
 rw [uU h1 h2] at h
 intro β w vs hv
 exact (h β w vs hv).mono fun e w' ⟨v,e1,e2,e3⟩=>⟨v,e1,e2,by rw [aP e3];exact aX rfl⟩
section
variable {a b c:ByteArray} {n:Int}
theorem checkRow3 {T:TypeId} (h1:Fits Tryz.prog 102 [tx a] (it 0)) (h2:Fits Tryz.prog 102 [tx b] (it 0)) (h3:Fits Tryz.prog 102 [tx c] (it 0)):Fits Tryz.prog 47 [.fv (.nsl 3 T [bY a,bY b,bY c])] (it 0):=by
 refine nL Tryz.func47 (by kernel_rfl) fun w00=>?_
 refine jC 102 [tx a] (h1) Tryz.call102 ?_
 refine jC 102 [tx b] (h2) Tryz.call102 ?_
 refine jC 102 [tx c] (h3) Tryz.call102 ?_
 exact jR Tryz.func47
theorem checkVec3 (h1:Fits Tryz.prog 102 [tx a] (it 0)) (h2:Fits Tryz.prog 102 [tx b] (it 0)) (h3:Fits Tryz.prog 102 [tx c] (it 0)):Fits Tryz.prog 16 [t3 a b c] (it 0):=by
 refine jG Tryz.func16 fun w00=>?_
 refine jC 47 [.fv (.nsl 3 22 [bY a,bY b,bY c])] (checkRow3 h1 h2 h3) Tryz.call47 ?_
 exact jR Tryz.func16
end
theorem originF:Fits Tryz.prog 93 ([]:List (AV Kn)) (.fv (.ag [.lit (.string ⟨#[48]⟩),.lit (.string ⟨#[48]⟩),.lit (.string ⟨#[48]⟩)])):=by
 refine jG Tryz.func93 fun w00=>?_
 exact jR Tryz.func93
section
variable {a b c d e f:ByteArray} {x y z:ByteArray}
theorem addVecR (h1:Fits Tryz.prog 103 [tx a,tx d] (tx x)) (h2:Fits Tryz.prog 103 [tx b,tx e] (tx y)) (h3:Fits Tryz.prog 103 [tx c,tx f] (tx z)):Fits Tryz.prog 48 [t3 a b c,t3 d e f] (t3 x y z):=by
 refine jG Tryz.func48 fun w00=>?_
 refine jC 103 [tx a,tx d] (h1) Tryz.call103 ?_
 refine jC 103 [tx b,tx e] (h2) Tryz.call103 ?_
 refine jC 103 [tx c,tx f] (h3) Tryz.call103 ?_
 exact jR Tryz.func48
end
theorem uW (q:Rat):aY (-q)=aY q:=by
 unfold aY
 rw [Rat.neg_den,Rat.neg_num,Int.natAbs_neg]
theorem zs_len {k:Nat} {q:Rat} (h:Zs k q):(writeB q).size≤2*k+4:=by
 have h1:=rQ h.1
 have h2:=rQ h.2
 have:=jM q
 have:=sK q.num
 split at * <;> omega
theorem negR {q:Rat} (hs:(writeB q).size≤1000000000):Fits Tryz.prog 160 [rS (writeB q)] (rS (writeB (-q))):=by
 by_cases h:q.num<0
 ·rw [eB (q := -q) (by rw [Rat.neg_num];omega),uW]
  have hg:=signFn h
  obtain ⟨f1,hc,f3,f4,f5⟩:=iA h
  generalize aY q=u at *
  generalize writeB q=s at *
  refine jT Tryz.func160 fun w00=>?_
  refine jB 95 [rS s] hg Tryz.call95 ?_
  refine rsl1 6 22 Tryz.underlying22 s u f1 f3 ?_
  exact jS Tryz.func160
 ·by_cases h0:q.num=0
  ·have e:-q=q:=by
    have:q=0:=Rat.num_eq_zero.1 h0
    rw [this]
    rfl
   rw [e]
   have hg:=signF0 h0
   generalize writeB q=s at *
   refine jT Tryz.func160 fun w00=>?_
   refine jB 95 [rS s] hg Tryz.call95 ?_
   refine jB 95 [rS s] hg Tryz.call95 ?_
   exact jS Tryz.func160
  ·rw [lU (q := -q) (by rw [Rat.neg_num];omega),uW,← eB h]
   have hg:=signFp (q:=q) (by omega)
   have hcat:(⟨#[45]⟩:ByteArray).size+(writeB q).size≤9223372036854775807:=by rw [size45];omega
   generalize writeB q=s at *
   refine jT Tryz.func160 fun w00=>?_
   refine jB 95 [rS s] hg Tryz.call95 ?_
   refine jB 95 [rS s] hg Tryz.call95 ?_
   refine bD (.binOp .add 22 (.const (.string ⟨#[45]⟩)) (.tmp 12) 22) (.const (.string ⟨#[45]⟩)) (.tmp 12) (.fv (.sc (.lit (.string ⟨#[45]⟩)))) (rS s) (rS (⟨#[45]⟩++s)) (by kernel_rfl) (by simp [Op.operands]) (by simp [Op.operands]) (fun ρ o β w ho hx hy=>⟨_,eW ho (bZ hx) (aZ hy) hcat,cN⟩) ?_
   exact jS Tryz.func160
theorem zs_neg {k:Nat} {q:Rat} (h:Zs k q):Zs k (-q):=by
 unfold Zs
 rw [Rat.neg_den,Rat.neg_num,Int.natAbs_neg]
 exact h
theorem subR {p q:Rat} (hp:Zs 10000 p) (hq:Zs 10000 q):Fits Tryz.prog 105 [rS (writeB p),rS (writeB q)] (rS (writeB (p-q))):=by
 have h1:=negR (q:=q) (by have:=zs_len hq;omega)
 have h2:=pC hp (zs_neg hq)
 rw [← Rat.sub_eq_add_neg] at h2
 generalize writeB (p-q)=x at *
 generalize writeB (-q)=y at *
 generalize writeB p=a at *
 generalize writeB q=b at *
 refine jT Tryz.func105 fun w00=>?_
 refine jB 160 [rS b] h1 Tryz.call160 ?_
 refine jB 103 [rS a,rS y] h2 Tryz.call103 ?_
 exact jS Tryz.func105
section
variable {a b c d e f:ByteArray} {x y z u v:ByteArray}
theorem subVecR (h1:Fits Tryz.prog 105 [tx a,tx d] (tx x)) (h2:Fits Tryz.prog 105 [tx b,tx e] (tx y)) (h3:Fits Tryz.prog 105 [tx c,tx f] (tx z)):Fits Tryz.prog 50 [t3 a b c,t3 d e f] (t3 x y z):=by
 refine jG Tryz.func50 fun w00=>?_
 refine jC 105 [tx a,tx d] (h1) Tryz.call105 ?_
 refine jC 105 [tx b,tx e] (h2) Tryz.call105 ?_
 refine jC 105 [tx c,tx f] (h3) Tryz.call105 ?_
 exact jR Tryz.func50
theorem dotR (h1:Fits Tryz.prog 106 [tx a,tx d] (tx x)) (h2:Fits Tryz.prog 106 [tx b,tx e] (tx y)) (h3:Fits Tryz.prog 103 [tx x,tx y] (tx u)) (h4:Fits Tryz.prog 106 [tx c,tx f] (tx z)) (h5:Fits Tryz.prog 103 [tx u,tx z] (tx v)):Fits Tryz.prog 52 [t3 a b c,t3 d e f] (tx v):=by
 refine jG Tryz.func52 fun w00=>?_
 refine jC 106 [tx a,tx d] (h1) Tryz.call106 ?_
 refine jC 106 [tx b,tx e] (h2) Tryz.call106 ?_
 refine jC 103 [tx x,tx y] (h3) Tryz.call103 ?_
 refine jC 106 [tx c,tx f] (h4) Tryz.call106 ?_
 refine jC 103 [tx u,tx z] (h5) Tryz.call103 ?_
 exact jR Tryz.func52
theorem squareR (h:Fits Tryz.prog 52 [t3 a b c,t3 a b c] (tx v)):Fits Tryz.prog 46 [t3 a b c] (tx v):=by
 refine jG Tryz.func46 fun w00=>?_
 refine jC 52 [t3 a b c,t3 a b c] (h) Tryz.call52 ?_
 exact jR Tryz.func46
end
end Go.Proofs.YtejbgingjeedaaaGreatDoor.Ab
namespace Go.Proofs.YtejbgingjeedaaaGreatDoor
open Go.RowKit Pl
end Go.Proofs.YtejbgingjeedaaaGreatDoor
namespace Go.Proofs.YtejbgingjeedaaaGreatDoor.Ab
open Go.RowKit Go.Proofs.YtejbgingjeedaaaGreatDoor Pl
end Go.Proofs.YtejbgingjeedaaaGreatDoor.Ab
namespace Go.Proofs.YtejbgingjeedaaaGreatDoor.Ab
open Go.RowKit Go.Proofs.YtejbgingjeedaaaGreatDoor
theorem equal3 {P:Program} {T e:TypeId} {x0 x1 x2 y0 y1 y2:Value} {r0 r1 r2:Bool} (d:Nat) (hT:P.underlying T=some (.array 3 e)) (he:P.cellsOf e=1) (ha:∀ w,(isAgg e).run P w = .ok false w) (hs:∀ w,(sizeOf e).run P w = .ok 1 w)
 (h0:∀ w,(Op.equalIn d e x0 y0).run P w = .ok r0 w) (h1:∀ w,(Op.equalIn d e x1 y1).run P w = .ok r1 w) (h2:∀ w,(Op.equalIn d e x2 y2).run P w = .ok r2 w) (w:World) :
 (Op.equalIn (d+1) T (.agg #[x0,x1,x2]) (.agg #[y0,y1,y2])).run P w = .ok (r0&&r1&&r2) w:=by
 rw [Op.equalIn]
 simp only [Sem.run_bind,run_underlying hT,Result.andThen_ok,hs]
 simp only [Std.Legacy.Range.forIn_eq_forIn_range',Std.Legacy.Range.size,Nat.sub_zero,Nat.add_sub_cancel,Nat.div_one,List.range'_succ,List.range'_zero,List.forIn_cons,List.forIn_nil]
 simp [go_sem,ha,hs,h0,h1,h2]
 cases r0 <;> cases r1 <;> cases r2 <;> simp
end Go.Proofs.YtejbgingjeedaaaGreatDoor.Ab
namespace Go.Proofs.YtejbgingjeedaaaGreatDoor.Ab
open Go.RowKit Go.Proofs.YtejbgingjeedaaaGreatDoor Pl
theorem iss_run {o:Oper} {ρ:Operand→Value} {w:World} {x y:Operand} {a b:Int} {r:Bool} (ho:o.op = .binOp .lss 3 x y 3) (hx:ρ x = .int .i64 a) (hy:ρ y = .int .i64 b) (h:decide (a<b)=r) :
 (execOp ρ o).run Tryz.prog w = .ok (.value (.bool r)) w:=by
 simp only [execOp,ho,hx,hy]
 refine bJ ?_
 rw [← h]
 exact bT (by kernel_rfl) w
theorem guard_eq {T:TypeId} {xs ys:Array Value} {x y:Operand} (h:Tryz.prog.eqGuardType Tryz.prog.depth T=false) (w:World):(eqGuard .eql T x y (.agg xs) (.agg ys)).run Tryz.prog w = .ok () w:=by
 simp [eqGuard,Sem.run_bind,run_program,h]
theorem agg_eq {o:Oper} {ρ:Operand→Value} {w:World} {x y:Operand} {xs ys:Array Value} {T T' : TypeId} {r:Bool} (hg:Tryz.prog.eqGuardType Tryz.prog.depth T=false) (h:(Op.equal T (.agg xs) (.agg ys)).run Tryz.prog w = .ok r w) (ho:o.op = .binOp .eql T x y T') (hx:ρ x = .agg xs) (hy:ρ y = .agg ys) :
 (execOp ρ o).run Tryz.prog w = .ok (.value (.bool r)) w:=by
 simp only [execOp,ho,hx,hy]
 refine bJ ?_
 simp only [Sem.run_bind,guard_eq hg,Result.andThen_ok]
 show (do pure (Value.bool (← Op.equal T (.agg xs) (.agg ys))):Sem Value).run Tryz.prog w=_
 rw [Sem.run_bind,h]
 rfl
theorem equalZ (a b c x y z:Int) (w:World):(Op.equal 49 (.agg #[.int .i64 a,.int .i64 b,.int .i64 c]) (.agg #[.int .i64 x,.int .i64 y,.int .i64 z])).run Tryz.prog w = .ok (a==x&&b==y&&c==z) w :=
 equal3 9999 (e:=3) (by kernel_rfl) (by kernel_rfl) (fun w=>by kernel_rfl) (fun w=>by kernel_rfl) (fun w=>run_equalIn_int w _ _ _ .i64 _ _ (by kernel_rfl)) (fun w=>run_equalIn_int w _ _ _ .i64 _ _ (by kernel_rfl)) (fun w=>run_equalIn_int w _ _ _ .i64 _ _ (by kernel_rfl)) w
theorem equalT (a b c x y z:ByteArray) (w:World):(Op.equal 24 (.agg #[.string a,.string b,.string c]) (.agg #[.string x,.string y,.string z])).run Tryz.prog w = .ok (a.toList==x.toList&&b.toList==y.toList&&c.toList==z.toList) w :=
 equal3 9999 (e:=22) (by kernel_rfl) (by kernel_rfl) (fun w=>by kernel_rfl) (fun w=>by kernel_rfl) (fun w=>run_equalIn_string w _ _ _ _ (by kernel_rfl)) (fun w=>run_equalIn_string w _ _ _ _ (by kernel_rfl)) (fun w=>run_equalIn_string w _ _ _ _ (by kernel_rfl)) w
abbrev i3 (a b c:Int):AV Kn := .fv (.ag [jZ a,jZ b,jZ c])
theorem i3_is {a b c:Int} {β:List Nat} {v:Value} {w:World} (h:(i3 a b c).holds β v w):v = .agg #[.int .i64 a,.int .i64 b,.int .i64 c]:=by
 obtain ⟨cs,rfl,x1,r1,rfl,h1,x2,r2,rfl,h2,x3,r3,rfl,h3,e⟩:=h
 rw [show r3 = [] from e,show x1=_ from h1,show x2=_ from h2,show x3=_ from h3]
 rfl
theorem s3_is {a b c:ByteArray} {β:List Nat} {v:Value} {w:World} (h:(.fv (.ag [bY a,bY b,bY c]):AV Kn).holds β v w):v = .agg #[.string a,.string b,.string c]:=by
 obtain ⟨cs,rfl,x1,r1,rfl,h1,x2,r2,rfl,h2,x3,r3,rfl,h3,e⟩:=h
 rw [show r3 = [] from e,show x1=_ from h1,show x2=_ from h2,show x3=_ from h3]
 rfl
theorem l3_is {a b c:Value} {β:List Nat} {v:Value} {w:World} (h:(.fv (.ag [.lit a,.lit b,.lit c]):AV Kn).holds β v w):v = .agg #[a,b,c]:=by
 obtain ⟨cs,rfl,x1,r1,rfl,h1,x2,r2,rfl,h2,x3,r3,rfl,h3,e⟩:=h
 rw [show r3 = [] from e,h1.1,h2.1,h3.1]
 rfl
section
variable {f:FuncId} {w00:World} {Out:Value→World→Prop} {c:Cfg Kn}
theorem klt (x y:Operand) (a b:Int) (r:Bool) (Y:AV Kn) (hY:∀ β v w,Y.holds β v w→v = .int .i64 b) (h:decide (a<b)=r) (hg:Ok Tryz.prog f w00 Out (dC Tryz.prog 1000 (c.give (bl r))))
 (hc:(c.op.map fun o=>o.op,c.okT (bl r),c.ev x,c.ev y)=(some (.binOp .lss 3 x y 3),true,.fv (.sc (jZ a)),Y):=by kernel_rfl):Ok Tryz.prog f w00 Out c :=
 dW (.binOp .lss 3 x y 3) x y _ _ (bl r) hc (by simp [Op.operands]) (by simp [Op.operands]) (fun ρ o β w ho hx hy=>⟨_,iss_run ho (aP hx) (hY _ _ _ hy) h,aX rfl⟩) hg
theorem kgg (x y:Operand) (a b:Int) (r:Bool) (Y:AV Kn) (hY:∀ β v w,Y.holds β v w→v = .int .i64 b) (h:decide (b<a)=r) (hg:Ok Tryz.prog f w00 Out (dC Tryz.prog 1000 (c.give (bl r))))
 (hc:(c.op.map fun o=>o.op,c.okT (bl r),c.ev x,c.ev y)=(some (.binOp .gtr 3 x y 3),true,.fv (.sc (jZ a)),Y):=by kernel_rfl):Ok Tryz.prog f w00 Out c :=
 dW (.binOp .gtr 3 x y 3) x y _ _ (bl r) hc (by simp [Op.operands]) (by simp [Op.operands]) (fun ρ o β w ho hx hy=>⟨_,qI ho (aP hx) (hY _ _ _ hy) h,aX rfl⟩) hg
theorem dB {b:Int} (β:List Nat) (v:Value) (w:World) (h:(it b).holds β v w):v = .int .i64 b:=aN h
theorem kz3 (x y:Operand) (a b d:Int) (r:Bool) (h:(a==0&&b==0&&d==0)=r) (hg:Ok Tryz.prog f w00 Out (dC Tryz.prog 1000 (c.give (bl r))))
 (hc:(c.op.map fun o=>o.op,c.okT (bl r),c.ev x,c.ev y)=(some (.binOp .eql 49 x y 49),true,i3 a b d,iv 0 0 0):=by kernel_rfl):Ok Tryz.prog f w00 Out c :=
 dW (.binOp .eql 49 x y 49) x y _ _ (bl r) hc (by simp [Op.operands]) (by simp [Op.operands]) (fun ρ o β w ho hx hy=>⟨_,agg_eq (by kernel_rfl) (h▸equalZ a b d 0 0 0 w) ho (i3_is hx) (l3_is hy),aX rfl⟩) hg
theorem kneg (t:Tmp) (a:Int) (ha:yK a) (ha2:yK (-a)) (hg:Ok Tryz.prog f w00 Out (dC Tryz.prog 1000 (c.give (.fv (.sc (jZ (-a)))))))
 (hc:(c.op.map fun o=>o.op,c.okT (.fv (.sc (jZ (-a)))),c.ev (.tmp t),c.ev (.tmp t))=(some (.unOp .neg 3 (.tmp t)),true,.fv (.sc (jZ a)),.fv (.sc (jZ a))):=by kernel_rfl):Ok Tryz.prog f w00 Out c :=
 dW (.unOp .neg 3 (.tmp t)) (.tmp t) (.tmp t) _ _ (.fv (.sc (jZ (-a)))) hc (by simp [Op.operands]) (by simp [Op.operands]) (fun ρ o β w ho hx hy=>⟨_,by
  simp only [execOp,ho,aP hx]
  refine bJ ?_
  have e:IntKind.i64.wrap (-a) = -a:=by rw [IntWalk.i64_left,IntWalk.wrap64_in _ ⟨by have:=ha2.1;omega,by have:=ha2.2;omega⟩]
  simp [go_sem,e],bG⟩) hg
theorem kabs (t u:Tmp) (a:Int) (hg:Ok Tryz.prog f w00 Out (dC Tryz.prog 1000 (c.give (.fv (.sc (jZ (a.natAbs:Int)))))))
 (hc:(c.op.map fun o=>o.op,c.okT (.fv (.sc (jZ (a.natAbs:Int)))),c.ev (.tmp t),c.ev (.tmp u))=(some (.call ⟨.builtin .max,#[.tmp t,.tmp u],#[3,3]⟩),true,.fv (.sc (jZ a)),.fv (.sc (jZ (-a)))):=by kernel_rfl):Ok Tryz.prog f w00 Out c :=
 dW (.call ⟨.builtin .max,#[.tmp t,.tmp u],#[3,3]⟩) (.tmp t) (.tmp u) _ _ (.fv (.sc (jZ (a.natAbs:Int)))) hc (by simp [Op.operands,Call.operands]) (by simp [Op.operands,Call.operands]) (fun ρ o β w ho hx hy=>⟨_,by
  have e:max a (-a)=(a.natAbs:Int):=by rw [Int.max_def];split <;> omega
  rw [← e]
  simp only [execOp,ho]
  refine bJ ?_
  simp [go_sem,aP hx,aP hy],bG⟩) hg
theorem kcvu (t:Tmp) (a:Nat) (ha:a<9223372036854775808) (hg:Ok Tryz.prog f w00 Out (dC Tryz.prog 1000 (c.give (.fv (.sc (.lit (.int .u64 (a:Int))))))))
 (hc:(c.op.map fun o=>o.op,c.okT (.fv (.sc (.lit (.int .u64 (a:Int))))),c.ev (.tmp t),c.ev (.tmp t))=(some (.convert 3 154 (.tmp t)),true,.fv (.sc (jZ (a:Int))),.fv (.sc (jZ (a:Int)))):=by kernel_rfl):Ok Tryz.prog f w00 Out c :=
 dW (.convert 3 154 (.tmp t)) (.tmp t) (.tmp t) _ _ (.fv (.sc (.lit (.int .u64 (a:Int))))) hc (by simp [Op.operands]) (by simp [Op.operands]) (fun ρ o β w ho hx hy=>⟨_,by
  simp only [execOp,ho,aP hx]
  refine bJ ?_
  have e:IntKind.u64.wrap (a:Int)=a:=by simp [IntKind.wrap,IntKind.bits,IntKind.signed];omega
  simp [go_sem,e],aX rfl⟩) hg
end
theorem cutPrefixNo {s:ByteArray} (h:Lib.hasPrefix s.data.toList [45]=false):Fits Tryz.prog 53 [tx s,lt ⟨#[45]⟩] (.tup [.sc (bY s),.sc (.lit (.bool false))]):=by
 intro β w vs hv
 obtain ⟨v,u,rfl,h1,h2⟩:=eG hv
 rw [aP h1,aN h2]
 have es:(⟨(Lib.trimPrefix s.data.toList [45]).toArray⟩:ByteArray)=s:=ba_ext (by unfold Lib.trimPrefix;rw [h];simp)
 refine (Tryz.strings_CutPrefix s ⟨#[45]⟩ w).mono fun e w' ⟨e1,e2⟩=>⟨_,e1,by rw [e2];exact Below.refl _ _,?_⟩
 rw [show (⟨#[45]⟩:ByteArray).data.toList = [45] from rfl,es,h]
 exact ⟨[.string s,.bool false],rfl,_,_,rfl,bG (β:=β),_,_,rfl,⟨rfl,rfl⟩,rfl⟩
theorem ascii_two:∀ (j:Nat) (b:UInt8),(⟨#[47,46]⟩:ByteArray).data.toList[j]?=some b→b.toNat<128:=by
 intro j b h
 have:=List.mem_of_getElem? h
 simp at this
 rcases this with rfl|rfl <;> decide
theorem indexAnyF {s:ByteArray} {k:Int} (hs:s.size<4294967281) (ha:∀ (j:Nat) (b:UInt8),s.data.toList[j]?=some b→b.toNat<128) (h:Lib.indexAny s.data.toList [47,46]=k):Fits Tryz.prog 109 [tx s,lt ⟨#[47,46]⟩] (.fv (.sc (jZ k))):=by
 intro β w vs hv
 obtain ⟨v,u,rfl,h1,h2⟩:=eG hv
 rw [aP h1,aN h2]
 refine (Tryz.strings_IndexAny_laid s ⟨#[47,46]⟩ w hs (by decide) ha ascii_two).mono fun e w' ⟨e1,e2⟩=>⟨_,e1,e2,?_⟩
 rw [show (⟨#[47,46]⟩:ByteArray).data.toList = [47,46] from rfl,h]
 exact bG
theorem repeatF {c:Nat} {z:ByteArray} (h2:2≤c) (hc:c≤100000) (hz:(⟨(Lib.repeatL [48] c).toArray⟩:ByteArray)=z):Fits Tryz.prog 111 [lt ⟨#[48]⟩,.fv (.sc (jZ c))] (tx z):=by
 intro β w vs hv
 obtain ⟨v,u,rfl,h1,h3⟩:=eG hv
 rw [aN h1,aP h3]
 have hsz:(⟨#[48]⟩:ByteArray).size=1:=rfl
 refine (Tryz.strings_Repeat_main ⟨#[48]⟩ c w h2 (by omega) (by rw [hsz];omega) (by rw [hsz];omega)).mono fun e w' ⟨e1,e2⟩=>⟨_,e1,e2,?_⟩
 rw [show (⟨#[48]⟩:ByteArray).data.toList = [48] from rfl,hz]
 exact bG
section
variable {s a b z:ByteArray} {k:Nat}
theorem partsDot (hi:Fits Tryz.prog 109 [tx s,lt ⟨#[47,46]⟩] (.fv (.sc (jZ k)))) (hk:k<s.size) (hs:s.size≤10000) (ha:s.extract 0 k=a) (hb:s.extract (k+1) s.size=b) (da:AllDig (aC a)) (da0:0<a.size) (db:AllDig (aC b)) (db0:0<b.size)
 (hdot:s[k]?=some 46) (hr:Fits Tryz.prog 111 [lt ⟨#[48]⟩,.fv (.sc (jZ b.size))] (tx z)) (hz:z.size≤10000):Fits Tryz.prog 54 [tx s] (.tup [.sc (bY (a++b)),.sc (bY (⟨#[49]⟩++z)),.sc z0]):=by
 have hasz:a.size≤s.size:=by rw [← ha,ByteArray.size_extract];omega
 have hbsz:b.size≤s.size:=by rw [← hb,ByteArray.size_extract];omega
 refine jG Tryz.func54 fun w00=>?_
 refine jC 109 [tx s,lt ⟨#[47,46]⟩] (hi) Tryz.call109 ?_
 refine dW (.binOp .lss 3 (.tmp 10) (.const (.int .i64 0)) 3) (.tmp 10) (.const (.int .i64 0)) (.fv (.sc (jZ k))) (it 0) (bl false) (by kernel_rfl) (by simp [Op.operands]) (by simp [Op.operands]) (fun ρ o β w ho hx hy=>⟨_,lss_run ho (aP hx) (aN hy) (by rw [decide_eq_false_iff_not];omega),aX rfl⟩) ?_
 refine dW (.slice 9 (.tmp 16) none (some (.tmp 17)) none) (.tmp 16) (.tmp 17) (tx s) (.fv (.sc (jZ k))) (tx a) (by kernel_rfl) (by simp [Op.operands]) (by simp [Op.operands]) (fun ρ o β w ho hx hy=>?_) ?_
 ·have:=oI (w:=w) ho Tryz.underlying9 (aP hx) (aP hy) (by omega)
  rw [ha] at this
  exact ⟨_,this,bG⟩
 refine dW (.binOp .add 3 (.tmp 20) (.const (.int .i64 1)) 3) (.tmp 20) (.const (.int .i64 1)) (.fv (.sc (jZ k))) (it 1) (.fv (.sc (jZ ((k+1:Nat):Int)))) (by kernel_rfl) (by simp [Op.operands]) (by simp [Op.operands]) (fun ρ o β w ho hx hy=>⟨_,sD ho (aP hx) (aN hy) (by omega),bG⟩) ?_
 refine dW (.slice 9 (.tmp 19) (some (.tmp 21)) none none) (.tmp 19) (.tmp 21) (tx s) (.fv (.sc (jZ ((k+1:Nat):Int)))) (tx b) (by kernel_rfl) (by simp [Op.operands]) (by simp [Op.operands]) (fun ρ o β w ho hx hy=>?_) ?_
 ·have:=oJ (w:=w) ho Tryz.underlying9 (aP hx) (aP hy) (by omega)
  rw [hb] at this
  exact ⟨_,this,bG⟩
 refine jC 110 [tx a] (oZ da da0) Tryz.call110 ?_
 refine jC 110 [tx b] (oZ db db0) Tryz.call110 ?_
 refine dW (.index 9 (.tmp 33) (.tmp 34)) (.tmp 33) (.tmp 34) (tx s) (.fv (.sc (jZ k))) (.fv (.sc (.lit (.int .u8 46)))) (by kernel_rfl) (by simp [Op.operands]) (by simp [Op.operands]) (fun ρ o β w ho hx hy=>⟨_,lS ho Tryz.underlying9 (aP hx) (aP hy) hdot,aX rfl⟩) ?_
 refine dW (.binOp .add 9 (.tmp 37) (.tmp 38) 9) (.tmp 37) (.tmp 38) (tx a) (tx b) (tx (a++b)) (by kernel_rfl) (by simp [Op.operands]) (by simp [Op.operands]) (fun ρ o β w ho hx hy=>⟨_,eW ho (aP hx) (aP hy) (by omega),bG⟩) ?_
 refine lR 40 b (by kernel_rfl) ?_
 refine jC 111 [lt ⟨#[48]⟩,.fv (.sc (jZ b.size))] (hr) Tryz.call111 ?_
 refine dW (.binOp .add 9 (.const (.string ⟨#[49]⟩)) (.tmp 42) 9) (.const (.string ⟨#[49]⟩)) (.tmp 42) (lt ⟨#[49]⟩) (tx z) (tx (⟨#[49]⟩++z)) (by kernel_rfl) (by simp [Op.operands]) (by simp [Op.operands]) (fun ρ o β w ho hx hy=>⟨_,eW ho (aN hx) (aP hy) (by have:(⟨#[49]⟩:ByteArray).size=1:=rfl;omega),bG⟩) ?_
 exact jR Tryz.func54
theorem parseF' {n d:Nat} (hs:s.size≤4096) (hp:Lib.hasPrefix s.data.toList [45]=false) (hpt:Fits Tryz.prog 54 [tx s] (.tup [.sc (bY (decB n)),.sc (bY (decB d)),.sc z0])) (hn:(decB n).size≤100000) (hd:(decB d).size≤100000) (ln:Lv 40 n) (ld:Lv 40 d) (d0:0<d)
 (lq:Lf 20 (mkRat (sg false n) d)) (w1:(decB (mkRat (sg false n) d).num.natAbs).size≤600) (w2:(decB (mkRat (sg false n) d).den).size≤600):FitsW Tryz.prog Gl 20 [tx s] (.tup [.sc (bY (writeB (mkRat (sg false n) d))),.sc z0]):=by
 refine cA Tryz.func20 (by kernel_rfl) fun w00 hG=>?_;have hI:=aS hG
 refine lR 9 s (by kernel_rfl) ?_
 refine yL 10 s.size 4096 false (by rw [decide_eq_false_iff_not];omega) (by kernel_rfl) ?_
 refine jC 53 [tx s,lt ⟨#[45]⟩] (cutPrefixNo hp) Tryz.call53 ?_
 refine jC 54 [tx s] (hpt) Tryz.call54 ?_
 refine jC 56 [tx (decB n)] (bU hn) Tryz.call56 ?_
 refine jC 56 [tx (decB d)] (bU hd) Tryz.call56 ?_
 refine jC 55 [bl false,nt n,nt d] (oE ln ld d0) Tryz.call55 ?_
 refine jC 57 [fra (mkRat (sg false n) d)] (jH) Tryz.call57 ?_
 refine jW hI 58 [num (mkRat (sg false n) d)] (tK lq w1 w2) Tryz.call58 ?_
 exact jR Tryz.func20
end
end Go.Proofs.YtejbgingjeedaaaGreatDoor.Ab
namespace Go.Proofs.YtejbgingjeedaaaGreatDoor.Fr
open Go.RowKit Go.Shelf
attribute [local go_sem] Oper.semAt_some
def axV (x1 x2 x3 y1 y2 y3 z1 z2 z3:ByteArray):Fin 3→Value
 | 0 => .agg #[.string x1,.string x2,.string x3]
 | 1 => .agg #[.string y1,.string y2,.string y3]
 | 2 => .agg #[.string z1,.string z2,.string z3]
def axE (x1 x2 x3 y1 y2 y3 z1 z2 z3:ByteArray) (i:Fin 3):Array Value := #[.int .i64 ((i.val:Nat):Int),axV x1 x2 x3 y1 y2 y3 z1 z2 z3 i]
theorem ix0 (w:World) (x1 x2 x3 y1 y2 y3 z1 z2 z3:ByteArray):(Sem.run Tryz.prog (Instr.index 185 (.agg #[.string x1,.string x2,.string x3,.string y1,.string y2,.string y3,.string z1,.string z2,.string z3]) (.int .i64 0)) w) = .ok (.agg #[.string x1,.string x2,.string x3]) w:=by
 kernel_rfl
theorem ix1 (w:World) (x1 x2 x3 y1 y2 y3 z1 z2 z3:ByteArray):(Sem.run Tryz.prog (Instr.index 185 (.agg #[.string x1,.string x2,.string x3,.string y1,.string y2,.string y3,.string z1,.string z2,.string z3]) (.int .i64 1)) w) = .ok (.agg #[.string y1,.string y2,.string y3]) w:=by
 kernel_rfl
theorem ix2 (w:World) (x1 x2 x3 y1 y2 y3 z1 z2 z3:ByteArray):(Sem.run Tryz.prog (Instr.index 185 (.agg #[.string x1,.string x2,.string x3,.string y1,.string y2,.string y3,.string z1,.string z2,.string z3]) (.int .i64 2)) w) = .ok (.agg #[.string z1,.string z2,.string z3]) w:=by
 kernel_rfl
set_option maxRecDepth 100000 in
set_option maxHeartbeats 2000000 in
theorem axes1_in (F:Fence) (n:Nat) (h8:F.fn 149) (hro:F.round=none) (hn:1≤n) (l Bf n₀:Nat) (o1 o2 o3 x1 x2 x3 y1 y2 y3 z1 z2 z3:ByteArray) (J Jx:List (Fin 3)→World→Prop)
 (hY:∀ pre x W,J pre W→pre.length<3→YieldAt F (n-1) Tryz.prog l (axE x1 x2 x3 y1 y2 y3 z1 z2 z3 x) W fun e W' =>
  (e = .returned (.bool true)∧J (pre ++ [x]) W'∧Below n₀ W W')∨(e = .returned (.bool false)∧Jx (pre ++ [x]) W'))
 (W:World) (hJ:AbidesFrom W.heap.size J) (hn0:n₀≤W.heap.size) (hB:W.heap[Bf]?=some (.cells #[.string o1,.string o2,.string o3,.string x1,.string x2,.string x3,.string y1,.string y2,.string y3,.string z1,.string z2,.string z3] 26 (0,0))) (h0:J [] W) :
 CallsIn F n Tryz.prog 149 #[.func (.yield l) #[] #[],.pointer (some ⟨Bf,0,none⟩)] W fun e W'=>(∃ v,e = .returned v) ∧
  ((∃ ys,ys = [0,1,2]∧J ys W')∨(∃ pre,True∧Jx pre W')):=by
 refine callsIn_of_wp Tryz.func149 rfl h8 ?_ hro
 simp only [Tryz.ntmps149,List.size_toArray,List.length_cons,List.length_nil,Nat.reduceAdd,Nat.reduceSub,Array.replicate_succ,Array.replicate_zero,List.push_toArray,List.append_toArray,List.nil_append,List.cons_append]
 have c3:W.cell? ⟨Bf,3,none⟩=some (.string x1):=by simp [World.cell?,hB]
 have c4:W.cell? ⟨Bf,4,none⟩=some (.string x2):=by simp [World.cell?,hB]
 have c5:W.cell? ⟨Bf,5,none⟩=some (.string x3):=by simp [World.cell?,hB]
 have c6:W.cell? ⟨Bf,6,none⟩=some (.string y1):=by simp [World.cell?,hB]
 have c7:W.cell? ⟨Bf,7,none⟩=some (.string y2):=by simp [World.cell?,hB]
 have c8:W.cell? ⟨Bf,8,none⟩=some (.string y3):=by simp [World.cell?,hB]
 have c9:W.cell? ⟨Bf,9,none⟩=some (.string z1):=by simp [World.cell?,hB]
 have c10:W.cell? ⟨Bf,10,none⟩=some (.string z2):=by simp [World.cell?,hB]
 have c11:W.cell? ⟨Bf,11,none⟩=some (.string z3):=by simp [World.cell?,hB]
 clear hB
 gi_wp2
 gi_loopw [12] (fun i wr=>(i = .int .i64 0∧J [] wr∨i = .int .i64 1∧J [0] wr∨i = .int .i64 2∧J [0,1] wr∨i = .int .i64 3∧J [0,1,2] wr)∧n₀≤wr.heap.size) (fun i _=>3-(intOf i).toNat)
 case atStart=>exact ⟨.inl ⟨rfl,h0⟩,hn0⟩
 case round =>
  obtain ⟨hc,hnr⟩:=hrel
  rcases hc with ⟨rfl,hJs⟩|⟨rfl,hJs⟩|⟨rfl,hJs⟩|⟨rfl,hJs⟩
  ·have hix:=ix0 wr x1 x2 x3 y1 y2 y3 z1 z2 z3
   have hJa:=hJ [] wr (wr.alloc (.cells #[.string x1,.string x2,.string x3] 24)) none hJs (World.grownBy_alloc _ _ none) (fun r e=>by cases e)
   obtain ⟨fn,tmps,assign,body,hy,hR⟩:=hY [] 0 _ hJa (by simp)
   change (Sem.run Tryz.prog (Instr.yield l #[.int .i64 0,.agg #[.string x1,.string x2,.string x3]]) _)=_ at hy
   gi_wp2
   refine hR.mono ?_
   rintro e W3 (⟨rfl,hJ3,hk3⟩|⟨rfl,hJx3⟩)
   ·have hs3:n₀≤W3.heap.size:=by have:=hk3.size;simp at this;omega
    gi_wp2
    go_roundw
    case rel=>exact ⟨.inr (.inl ⟨rfl,hJ3⟩),hs3⟩
    case measure=>simp [intOf]
   ·gi_wp2
    refine bodyPost_ret (results_none rfl _ _ _) rfl ?_
    exact ⟨⟨_,rfl⟩,.inr ⟨_,trivial,hJx3⟩⟩
  ·have hix:=ix1 wr x1 x2 x3 y1 y2 y3 z1 z2 z3
   have hJa:=hJ [0] wr (wr.alloc (.cells #[.string y1,.string y2,.string y3] 24)) none hJs (World.grownBy_alloc _ _ none) (fun r e=>by cases e)
   obtain ⟨fn,tmps,assign,body,hy,hR⟩:=hY [0] 1 _ hJa (by simp)
   change (Sem.run Tryz.prog (Instr.yield l #[.int .i64 1,.agg #[.string y1,.string y2,.string y3]]) _)=_ at hy
   gi_wp2
   refine hR.mono ?_
   rintro e W3 (⟨rfl,hJ3,hk3⟩|⟨rfl,hJx3⟩)
   ·have hs3:n₀≤W3.heap.size:=by have:=hk3.size;simp at this;omega
    gi_wp2
    go_roundw
    case rel=>exact ⟨.inr (.inr (.inl ⟨rfl,hJ3⟩)),hs3⟩
    case measure=>simp [intOf]
   ·gi_wp2
    refine bodyPost_ret (results_none rfl _ _ _) rfl ?_
    exact ⟨⟨_,rfl⟩,.inr ⟨_,trivial,hJx3⟩⟩
  ·have hix:=ix2 wr x1 x2 x3 y1 y2 y3 z1 z2 z3
   have hJa:=hJ [0,1] wr (wr.alloc (.cells #[.string z1,.string z2,.string z3] 24)) none hJs (World.grownBy_alloc _ _ none) (fun r e=>by cases e)
   obtain ⟨fn,tmps,assign,body,hy,hR⟩:=hY [0,1] 2 _ hJa (by simp)
   change (Sem.run Tryz.prog (Instr.yield l #[.int .i64 2,.agg #[.string z1,.string z2,.string z3]]) _)=_ at hy
   gi_wp2
   refine hR.mono ?_
   rintro e W3 (⟨rfl,hJ3,hk3⟩|⟨rfl,hJx3⟩)
   ·have hs3:n₀≤W3.heap.size:=by have:=hk3.size;simp at this;omega
    gi_wp2
    go_roundw
    case rel=>exact ⟨.inr (.inr (.inr ⟨rfl,hJ3⟩)),hs3⟩
    case measure=>simp [intOf]
   ·gi_wp2
    refine bodyPost_ret (results_none rfl _ _ _) rfl ?_
    exact ⟨⟨_,rfl⟩,.inr ⟨_,trivial,hJx3⟩⟩
  ·gi_wp2
   go_end0
   exact ⟨⟨_,rfl⟩,.inl ⟨_,rfl,hJs⟩⟩
theorem axes_stops (F:Fence) (n:Nat) (h8:F.fn 149) (hro:F.round=none) (hn:1≤n) (Bf n₀:Nat) (o1 o2 o3 x1 x2 x3 y1 y2 y3 z1 z2 z3:ByteArray) (w:World) (hn0:n₀≤w.heap.size)
 (hB:w.heap[Bf]?=some (.cells #[.string o1,.string o2,.string o3,.string x1,.string x2,.string x3,.string y1,.string y2,.string y3,.string z1,.string z2,.string z3] 26 (0,0))) :
 SeqStopsK F n Tryz.prog 149 #[.pointer (some ⟨Bf,0,none⟩)] (axE x1 x2 x3 y1 y2 y3 z1 z2 z3) (Below n₀) (fun ys=>ys = [0,1,2]) (fun _=>True) 3 w:=fun l J Jx W hW hJ _ hY h0 =>
 axes1_in F n h8 hro hn l Bf n₀ o1 o2 o3 x1 x2 x3 y1 y2 y3 z1 z2 z3 J Jx hY W hJ (Nat.le_trans hn0 hW.size) ((hW.block Bf (by rcases Nat.lt_or_ge Bf w.heap.size with h|h;exact h;rw [Array.getElem?_eq_none h] at hB;cases hB)).trans hB) h0
set_option maxHeartbeats 1000000 in
theorem axes_any (o1 o2 o3 x1 x2 x3 y1 y2 y3 z1 z2 z3:ByteArray) (w:World):Calls Tryz.prog 97 #[.agg #[.string o1,.string o2,.string o3,.string x1,.string x2,.string x3,.string y1,.string y2,.string y3,.string z1,.string z2,.string z3]] w fun e w' =>
 e = .returned (.func (.func 149) #[] #[.pointer (some ⟨w.heap.size,0,none⟩)])∧w'=w.alloc (.cells #[.string o1,.string o2,.string o3,.string x1,.string x2,.string x3,.string y1,.string y2,.string y3,.string z1,.string z2,.string z3] 26 (0,0)):=by
 refine (callsIn_wide (n:=3)).1 ?_
 refine callsIn_of_wp Tryz.func97 rfl trivial ?_ rfl
 simp only [Tryz.ntmps97,List.size_toArray,List.length_cons,List.length_nil,Nat.reduceAdd,Nat.reduceSub,Array.replicate_succ,Array.replicate_zero,List.push_toArray,List.append_toArray,List.nil_append,List.cons_append]
 gi_wp2
 refine bodyPost_ret (results_tmp rfl _ _ _) rfl ?_
 exact ⟨rfl,rfl⟩
end Go.Proofs.YtejbgingjeedaaaGreatDoor.Fr
namespace Go.Proofs.YtejbgingjeedaaaGreatDoor.Fr
open Go.RowKit Go.Shelf Go.Proofs.YtejbgingjeedaaaGreatDoor Go.Proofs.YtejbgingjeedaaaGreatDoor.Ab Pl
structure C9 where
 n1:Int
 d1:Int
 p1:Option Addr
 n2:Int
 d2:Int
 p2:Option Addr
 n3:Int
 d3:Int
 p3:Option Addr
def C9.cells (k:C9):List Value := [.int .i64 k.n1,.int .i64 k.d1,.pointer k.p1,.int .i64 k.n2,.int .i64 k.d2,.pointer k.p2,.int .i64 k.n3,.int .i64 k.d3,.pointer k.p3]
def C9.val (k:C9):Value := .agg #[.int .i64 k.n1,.int .i64 k.d1,.pointer k.p1,.int .i64 k.n2,.int .i64 k.d2,.pointer k.p2,.int .i64 k.n3,.int .i64 k.d3,.pointer k.p3]
def C9.zero:C9:=⟨0,0,none,0,0,none,0,0,none⟩
theorem vc9 {w:World} {v:Value} {a b c:Rat} (h:Vc w v a b c):∃ k:C9,v=k.val∧Vc w k.val a b c:=by
 obtain ⟨n1,d1,p1,n2,d2,p2,n3,d3,p3,rfl,h1,h2,h3⟩:=h
 exact ⟨⟨n1,d1,p1,n2,d2,p2,n3,d3,p3⟩,rfl,n1,d1,p1,n2,d2,p2,n3,d3,p3,rfl,h1,h2,h3⟩
theorem sL {β:List Nat} {w:World} {k:C9} {a b c:Rat} (h:Vc w k.val a b c):holdsL β [nb a,nb b,nb c] k.cells w:=by
 obtain ⟨cs,e,hl⟩:=(rM (β:=β)).2 h
 injection e with e
 have e:=congrArg Array.toList e
 have e:k.cells=cs:=e
 rw [e]
 exact hl
def frL (o x y z:C9):List Value:=o.cells++x.cells++y.cells++z.cells
theorem kM {a b c:Rat} (h:kA a b c) (w:World) (hG:Gl w):Calls Tryz.prog 37 #[.agg #[.string (writeB a),.string (writeB b),.string (writeB c)]] w fun e w' => ∃ k:C9,e = .returned (.tuple #[k.val,.int .i64 0])∧Vc w' k.val a b c∧Below w.heap.size w w':=by
 refine (gN h [] w [.agg #[.string (writeB a),.string (writeB b),.string (writeB c)]] hG ⟨_,_,rfl,⟨[.string (writeB a),.string (writeB b),.string (writeB c)],rfl,[.string (writeB a)],_,rfl,rfl,[.string (writeB b)],_,rfl,rfl,[.string (writeB c)],_,rfl,rfl,rfl⟩,rfl⟩).mono ?_
 rintro e w' ⟨v,e1,e2,vs,rfl,u,r,rfl,h1,u2,r2,rfl,h2,h3⟩
 obtain ⟨k,rfl,h4⟩:=vc9 (rM.1 h1)
 have h5:[u2] = [.int .i64 0]:=h2.1
 injection h5 with h5
 rw [show r2 = [] from h3,h5] at e1
 exact ⟨k,e1,h4,e2⟩
section
variable {o1 o2 o3 x1 x2 x3 y1 y2 y3 z1 z2 z3:Rat}
theorem fr_holds {β:List Nat} {w:World} {o x y z:C9} (ho:Vc w o.val o1 o2 o3) (hx:Vc w x.val x1 x2 x3) (hy:Vc w y.val y1 y2 y3) (hz:Vc w z.val z1 z2 z3) :
 (kY o1 o2 o3 x1 x2 x3 y1 y2 y3 z1 z2 z3).holds β (.agg (frL o x y z).toArray) w :=
 ⟨frL o x y z,rfl,(((sL ho).append (sL hx)).append (sL hy)).append (sL hz)⟩
theorem check_any {w:World} {o x y z:C9} (ho:Vc w o.val o1 o2 o3) (hx:Vc w x.val x1 x2 x3) (hy:Vc w y.val y1 y2 y3) (hz:Vc w z.val z1 z2 z3) (l:Lm 25 x1 x2 x3 y1 y2 y3 z1 z2 z3) (h:Ax x1 x2 x3 y1 y2 y3 z1 z2 z3) :
 Calls Tryz.prog 98 #[.agg (frL o x y z).toArray] w fun e w'=>e = .returned (.int .i64 0)∧Below w.heap.size w w':=by
 refine (checkF (o1:=o1) (o2:=o2) (o3:=o3) l h [] w [.agg (frL o x y z).toArray] ⟨_,_,rfl,fr_holds ho hx hy hz,rfl⟩).mono ?_
 rintro e w' ⟨v,e1,e2,h1⟩
 have h5:[v] = [.int .i64 0]:=h1.1
 injection h5 with h5
 exact ⟨by rw [e1,h5],e2⟩
end
attribute [local go_sem] Oper.semAt_some
theorem yR {P:Program} {ops:Array Oper} {rest:List Oper} {o:Oper} {a:Act} {w:World} {Q:Exit→Act→World→Prop} (hg:o.guard=none) (t:TypeId) (parts:Array (Nat×Operand)) (ho:o.op = .build t parts) (cs:Array Value)
 (hb:P.built t (parts.map fun (i,x)=>(i,a.eval x)).toList=some cs) (h:wpList P ops Q rest (a.put o.dst (.agg cs)) w):wpList P ops Q (o::rest) a w :=
 wpList_build hg t parts ho (by rw [hb];rfl) (by rw [hb];exact h)
theorem store_new3 {P:Program} {ops:Array Oper} {rest:List Oper} {o:Oper} {a:Act} {Q:Exit→Act→World→Prop} (hgd:o.guard=none) (ty:TypeId) (x y:Operand) (ho:o.op = .store ty x y) (w1:World) (A B:Obj) (old cells:Array Value)
 (hx:a.eval x = .pointer (some ⟨w1.heap.size+1+1,0,none⟩)) (hy:a.eval y = .agg cells) (hi:(P.info? ty).map (·.size)=some cells.size) (hold:old.size=cells.size) (h1:cells.all (·.oneCell')=true)
 (h:∀ W3:World,W3.heap.size=w1.heap.size+3→Below w1.heap.size w1 W3→W3.heap[w1.heap.size]?=some A→W3.heap[w1.heap.size+1]?=some B→W3.heap[w1.heap.size+2]?=some (.cells cells ty (0,0))→wpList P ops Q rest (a.put o.dst undef) W3) :
 wpList P ops Q (o::rest) a (((w1.alloc A).alloc B).alloc (.cells old ty (0,0))):=by
 have hg:(((w1.alloc A).alloc B).alloc (.cells old ty (0,0))).heap[w1.heap.size+1+1]?=some (.cells old ty (0,0)):=by
  have:=World.alloc_heap_new ((w1.alloc A).alloc B) (.cells old ty (0,0))
  rwa [World.size_alloc,World.size_alloc] at this
 refine wpList_store_row hgd ty x y ho (w1.heap.size+1+1) cells hx hy ty old hg hi hold h1 (h _ (by rw [setRow_size];simp) ?_ ?_ ?_ (setRow_heap _ _ _ _ _ _ hg))
 ·exact below_setRow ((((Below.refl _ w1).alloc (Nat.le_refl _) _).alloc (by simp) _).alloc (by simp;omega) _) (by omega) _
 ·rw [setRow_other _ _ _ _ (by omega)]
  exact (Below.heap_alloc _ _ _ (by simp;omega)).trans ((Below.heap_alloc _ _ _ (by simp)).trans (World.alloc_heap_new w1 A))
 ·rw [setRow_other _ _ _ _ (by omega)]
  refine (Below.heap_alloc _ _ _ (by simp)).trans ?_
  have:=World.alloc_heap_new (w1.alloc A) B
  rwa [World.size_alloc] at this
structure Stopped (p:Prop):Prop where
 out:p
theorem stop_store {P:Program} {ops:Array Oper} {rest:List Oper} {o:Oper} {a:Act} {w:World} {Q:Exit→Act→World→Prop} (ty:TypeId) (x y:Operand) (ho:o.op = .store ty x y) (h:Stopped (wpList P ops Q (o::rest) a w)):wpList P ops Q (o::rest) a w:=h.out
theorem tV {W W' : World} {row:Option Nat} (hg:W.grownBy W' row) (hrow:∀ r,row=some r→∃ o:Obj,W.heap[r]?=some o∧o.isCells=false):Go.Proofs.YtejbgingjeedaaaGreatDoor.Ext Kn W W':=by
 refine ⟨hg.size,fun g o h ho=>?_⟩
 have hc:o.isCells=true:=by cases o <;> first|rfl|(simp [Go.Proofs.YtejbgingjeedaaaGreatDoor.hotObj] at ho)
 exact (grownBy_keeps_cells hg hrow h hc).trans h
theorem Vc.kext {w w' : World} {v:Value} {a b c:Rat} (h:Vc w v a b c) (hx:Go.Proofs.YtejbgingjeedaaaGreatDoor.Ext Kn w w'):Vc w' v a b c:=h.ext (fun _=>rfl) (fun _=>rfl) hx
theorem load_all {P:Program} {ρ:Operand→Value} {o:Oper} {w:World} {T T' : TypeId} {x:Operand} {g:Nat} {cs:List Value} {d:TypeDesc} (ho:o.op = .load T x) (hx:ρ x = .pointer (some ⟨g,0,none⟩)) (hg:w.heap[g]?=some (.cells cs.toArray T' (0,0)))
 (hd:P.underlying T=some d) (hr:d.isRow=true) (hi:(P.info? T).map (·.size)=some cs.length):(execOp ρ o).run P w = .ok (.value (.agg cs.toArray)) w:=by
 have h:=run_loadVar_mid w g 0 T ((cs.drop 0).take cs.length) d (qW hg 0 cs.length) hd hr (by rw [hi,List.drop_zero,List.take_length])
 rw [List.drop_zero,List.take_length] at h
 simp only [execOp,ho,Instr.loadAt,hx,Instr.sureAddr]
 exact bJ (by simpa [Sem.run_bind] using h)
theorem frL_one (o x y z:C9):∀ c∈frL o x y z,c.oneCell'=true:=by
 have h:(frL o x y z).all (·.oneCell')=true:=rfl
 exact fun c hc=>List.all_eq_true.1 h c hc
theorem fin3:∀ x:Fin 3,x=0∨x=1∨x=2:=by decide
theorem bB {w:World} {b i:Nat} {v:Value} (hlt:b<w.heap.size) (h:w.cell? ⟨b,i,none⟩=some v) (o:Obj):(w.alloc o).cell? ⟨b,i,none⟩=some v :=
 (((Below.refl _ w).alloc (Nat.le_refl _) o).cell (p:=⟨b,i,none⟩) hlt).trans h
theorem bH {w:World} {b i:Nat} {cs:Array Value} {t:TypeId} (hlt:b<w.heap.size) (h:w.heap[b]?=some (.cells cs t (0,0))) (o:Obj):(w.alloc o).frozen? ⟨b,i,none⟩=false :=
 aW ((((Below.refl _ w).alloc (Nat.le_refl _) o).block b hlt).trans h) i
theorem sM {n g:Nat} {o:Obj} {A X Y:World} (hb:Below n A X) (h:Turned g o X Y) (hn:n≤g):Below n A Y :=
 ⟨h.os.trans hb.os,h.tape.trans hb.tape,h.output.trans hb.output,by rw [h.size];exact hb.size,fun k hk=>(h.block k (by omega)).trans (hb.block k hk)⟩
theorem sN {g S:Nat} {o o0:Obj} {X Y:World} (h:Turned g o X Y) (h0:X.heap[g]?=some o0) (hc:o0.isCells=true):KeepsFrom S X Y:=by
 refine ⟨by rw [h.size];exact Nat.le_refl _,fun k o' _ hk ho=>?_⟩
 have:k≠g:=by
  rintro rfl
  rw [h0] at hk
  injection hk with hk
  rw [hk,ho] at hc
  cases hc
 exact (h.block k this).trans hk
theorem fS {S:Nat} {W W' : World} (h:Below W.heap.size W W'):KeepsFrom S W W':=⟨h.size,fun k o _ hk _=>(h.block k (Array.getElem?_eq_some_iff.1 hk).1).trans hk⟩
section
variable {w:World} {k:C9} {B E R:Nat} {o1 o2 o3 x1 x2 x3 y1 y2 y3 z1 z2 z3:Rat}
theorem mH (o x y z:C9) (T:TypeId):Go.Proofs.YtejbgingjeedaaaGreatDoor.hotObj Kn (.cells (frL o x y z).toArray T (0,0))=false:=by simp [Go.Proofs.YtejbgingjeedaaaGreatDoor.hotObj,frL,C9.cells,Kn]
theorem turn9 {w:World} {B:Nat} {T:TypeId} {cs cs' : Array Value} (off:Nat) (h:w.heap[B]?=some (.cells cs T (0,0))) (u0 u1 u2 u3 u4 u5 u6 u7 u8:Value)
 (e:((((((((cs.setIfInBounds off u0).setIfInBounds (off+1) u1).setIfInBounds (off+2) u2).setIfInBounds (off+3) u3).setIfInBounds (off+4) u4).setIfInBounds (off+5) u5).setIfInBounds (off+6) u6).setIfInBounds (off+7) u7).setIfInBounds (off+8) u8=cs') :
 Turned B (.cells cs' T (0,0)) w (((((((((w.setCell ⟨B,off,none⟩ u0).setCell ⟨B,off+1,none⟩ u1).setCell ⟨B,off+2,none⟩ u2).setCell ⟨B,off+3,none⟩ u3).setCell ⟨B,off+4,none⟩ u4).setCell ⟨B,off+5,none⟩ u5).setCell ⟨B,off+6,none⟩ u6).setCell ⟨B,off+7,none⟩ u7).setCell ⟨B,off+8,none⟩ u8):=by
 subst e
 have t0:=cW (i:=off) h u0
 have t1:=t0.trans (cW (i:=off+1) t0.at_ u1)
 have t2:=t1.trans (cW (i:=off+2) t1.at_ u2)
 have t3:=t2.trans (cW (i:=off+3) t2.at_ u3)
 have t4:=t3.trans (cW (i:=off+4) t3.at_ u4)
 have t5:=t4.trans (cW (i:=off+5) t4.at_ u5)
 have t6:=t5.trans (cW (i:=off+6) t5.at_ u6)
 have t7:=t6.trans (cW (i:=off+7) t6.at_ u7)
 exact t7.trans (cW (i:=off+8) t7.at_ u8)
end
end Go.Proofs.YtejbgingjeedaaaGreatDoor.Fr
namespace Go.Proofs.YtejbgingjeedaaaGreatDoor
open Go.RowKit Pl
def dig (c:Nat):Bool:=decide (48≤c)&&decide (c≤57)
theorem digitsB_all {s:ByteArray} (h:∀ (j:Nat) (hj:j<s.size),dig (s[j]'hj).toNat=true):dT s=true:=by
 unfold dT
 rw [List.all_eq_true]
 intro c hc
 obtain ⟨j,hj,e⟩:=List.mem_iff_getElem.1 hc
 have hj2:j<s.size:=by rw [← aE];exact hj
 have h1:=cM hj2
 rw [List.getElem?_eq_getElem hj,e] at h1
 injection h1 with h1
 rw [h1]
 exact h j hj2
theorem dig_bad {c:Nat} (h:dig c=false):c<48∨57<c:=by
 simp only [dig,Bool.and_eq_false_iff,decide_eq_false_iff_not] at h
 omega
set_option maxRecDepth 100000 in
theorem isDigits_all (s:ByteArray) (w:World):Calls Tryz.prog 110 #[.string s] w fun e w'=>e = .returned (.bool (dT s&&decide (s.size≠0)))∧Below w.heap.size w w':=by
 have hne:(!(s.toList==(⟨#[]⟩:ByteArray).toList))=decide (s.size≠0):=by
  rw [Go.ByteArray.toList_eq,Go.ByteArray.toList_eq]
  have hl:=aE s
  unfold aC at hl
  cases hb:s.data.toList with
  | nil=>rw [hb] at hl;simp at hl;simp [← hl]
  | cons c l =>
    rw [hb] at hl
    simp at hl
    have:s.size≠0:=by omega
    simp [this]
 go_enter Tryz.func110,Tryz.ntmps110
 go_wp2
 go_loopw [4] (fun _ wr => ∃ pos:Nat,wr=w.iter s pos∧pos≤s.size∧∀ (j:Nat) (hj:j<s.size),j<pos→dig (s[j]'hj).toNat=true) (fun _ wr=>s.size-wr.iterPos w.heap.size)
 case atStart=>exact ⟨0,rfl,Nat.zero_le _,fun j _ h=>absurd h (Nat.not_lt_zero _)⟩
 case round =>
  obtain ⟨pos,rfl,hpos,hok⟩:=hrel
  by_cases hp:pos<s.size
  ·obtain ⟨c,k,hdc,hk,hgood⟩:∃ c k,Utf8.decode s pos=(c,k)∧1≤k∧(dig c=true→(∀ hj:pos<s.size,dig (s[pos]'hj).toNat=true)∧k=1)∧(dig c=false→∀ hj:pos<s.size,dig (s[pos]'hj).toNat=false):=by
    by_cases ha:(s[pos]'hp).toNat<128
    ·exact ⟨_,_,decode_ascii s pos hp ha,Nat.le_refl _,fun h=>⟨fun _=>h,rfl⟩,fun h _=>h⟩
    ·obtain ⟨h1,h2⟩:=decode_high s pos hp (by omega)
     refine ⟨(Utf8.decode s pos).1,(Utf8.decode s pos).2,rfl,h2,fun h=>?_,fun _ _=>?_⟩
     ·simp [dig] at h
      omega
     ·simp [dig]
      omega
   have hnx:∀ ty,(Instr.next (.pointer (some ⟨w.heap.size,0,none⟩)) true ty).run Tryz.prog (w.iter s pos) = .ok (.tuple #[.bool true,.int .i64 pos,.int .i32 (c:Int)]) (w.iter s (pos+k)):=fun ty=>by
    have:=run_next_any (P:=Tryz.prog) w s pos ty hp
    rw [hdc] at this
    exact this
   have HH:=aH (aI hp (aI hpos (aI hok (aI hk hgood))))
   clear hdc hp hpos hok hk hgood hne
   by_cases g1:48≤c
   ·by_cases g2:c≤57
    ·have k1:(48:Int)≤c:=by omega
     have k2:(c:Int)≤57:=by omega
     have G:=aH (show dig c=true by simp [dig,g1,g2])
     clear g1 g2
     go_wp2
     go_roundw
     case rel =>
      obtain ⟨hp,hpos,hok,hk,hg,_⟩:=HH.out
      obtain ⟨g1,rfl⟩:=hg G.out
      refine ⟨pos+1,rfl,hp,fun j hj hjp=>?_⟩
      by_cases hjj:j=pos
      ·subst hjj;exact g1 hj
      ·exact hok j hj (by omega)
     case measure =>
      have:=HH.out.1
      have:=HH.out.2.2.2.1
      simp
      omega
    ·have k1:(48:Int)≤c:=by omega
     have k2:(57:Int)<c:=by omega
     have G:=aH (show dig c=false by simp [dig];omega)
     clear g1 g2
     go_wp2
     go_ret
     obtain ⟨hp,_,_,_,_,hg⟩:=HH.out
     exact ⟨by rw [kG hp (dig_bad (hg G.out hp))];rfl,fA _ _ _⟩
   ·have k1:(c:Int)<48:=by omega
    have G:=aH (show dig c=false by simp [dig];omega)
    clear g1
    go_wp2
    go_ret
    obtain ⟨hp,_,_,_,_,hg⟩:=HH.out
    exact ⟨by rw [kG hp (dig_bad (hg G.out hp))];rfl,fA _ _ _⟩
  ·have hnx:∀ ty,(Instr.next (.pointer (some ⟨w.heap.size,0,none⟩)) true ty).run Tryz.prog (w.iter s pos)=_:=fun ty=>run_next_end w s pos ty hp
   have H2:=aH (show dT s=true from digitsB_all fun j hj=>hok j hj (by omega))
   have H3:=aH hne
   clear hok hp hpos hne
   obtain ⟨b,hb⟩:∃ b,b=(!(s.toList==(⟨#[]⟩:ByteArray).toList)):=⟨_,rfl⟩
   go_wp2
   go_ret
   refine ⟨?_,fA _ _ _⟩
   have e:=H3.out
   rw [H2.out,Bool.true_and,← e]
   simp
end Go.Proofs.YtejbgingjeedaaaGreatDoor
namespace Go.Proofs.YtejbgingjeedaaaGreatDoor.Ab
open Go.RowKit Go.Proofs.YtejbgingjeedaaaGreatDoor Pl
theorem nF {s:ByteArray} {b:Bool} (h:(dT s&&decide (s.size≠0))=b):Fits Tryz.prog 110 [tx s] (bl b):=by
 intro β w vs hv
 obtain ⟨v,rfl,h1⟩:=dE hv
 rw [aP h1]
 exact (isDigits_all s w).mono fun e w' ⟨e1,e2⟩=>⟨_,e1,e2,by rw [h];exact aX rfl⟩
theorem bF {s:ByteArray} {b:Bool} (h:decF s=b):Fits Tryz.prog 134 [tx s] (bl b):=by
 by_cases h0:(dT s&&decide (s.size≠0))=false
 ·have:b=false:=by
   rw [← h]
   unfold decF
   split
   ·rfl
   ·rename_i hz
    split
    ·rfl
    ·rw [decide_eq_true hz,Bool.and_true] at h0
     exact h0
  subst this
  refine jG Tryz.func134 fun w00=>?_
  refine jC 110 [tx s] (nF h0) Tryz.call110 ?_
  exact jR Tryz.func134
 rw [Bool.not_eq_false] at h0
 obtain ⟨h1,h2⟩:=Bool.and_eq_true_iff.1 h0
 have h2:s.size≠0:=of_decide_eq_true h2
 have hp:0<s.size:=by omega
 obtain ⟨c,hc⟩:∃ c,s[0]?=some c:=⟨_,getElem?_pos s 0 hp⟩
 have hh:(aC s).head?=some c:=by
  rw [List.head?_eq_getElem?,cM hp,← hc,getElem?_pos s 0 hp]
 unfold decF at h
 rw [if_neg h2,hh,h1] at h
 by_cases e:c=48
 ·have q1:(((c.toNat:Nat):Int) != 48)=false:=by rw [e];rfl
  have q2:(((s.size:Nat):Int)==1)=b:=by
   rw [← h,e]
   by_cases g:1<s.size
   ·rw [if_pos ⟨g,rfl⟩,beq_eq_false_iff_ne];omega
   ·rw [if_neg (fun k=>g k.1),beq_iff_eq];omega
  refine jG Tryz.func134 fun w00=>?_
  refine jC 110 [tx s] (nF h0) Tryz.call110 ?_
  refine dW (.index 9 (.tmp 6) (.const (.int .i64 0))) (.tmp 6) (.const (.int .i64 0)) (tx s) (it 0) (.fv (.sc (isB c.toNat))) (by kernel_rfl) (by simp [Op.operands]) (by simp [Op.operands]) (fun ρ o β w ho hx hy=>⟨_,lS (i:=0) ho Tryz.underlying9 (aP hx) (aN hy) hc,bG⟩) ?_
  refine dW (.binOp .neq 5 (.tmp 7) (.const (.int .u8 48)) 5) (.tmp 7) (.const (.int .u8 48)) (.fv (.sc (isB c.toNat))) (.fv (.sc (.lit (.int .u8 48)))) (bl false) (by kernel_rfl) (by simp [Op.operands]) (by simp [Op.operands]) (fun ρ o β w ho hx hy=>⟨_,mX ho (aP hx) (aN hy) q1,aX rfl⟩) ?_
  refine lR 10 s (by kernel_rfl) ?_
  refine dW (.binOp .eql 3 (.tmp 11) (.const (.int .i64 1)) 3) (.tmp 11) (.const (.int .i64 1)) (.fv (.sc (jZ s.size))) (it 1) (bl b) (by kernel_rfl) (by simp [Op.operands]) (by simp [Op.operands]) (fun ρ o β w ho hx hy=>⟨_,zL ho (aP hx) (aN hy) q2,aX rfl⟩) ?_
  exact jR Tryz.func134
 ·have q1:(((c.toNat:Nat):Int) != 48)=true:=by
   rw [bne_iff_ne]
   intro k
   exact e (UInt8.toNat_inj.1 (by have:(48:UInt8).toNat=48:=rfl;omega))
  rw [if_neg (fun k=>e (by injection k.2))] at h
  subst h
  refine jG Tryz.func134 fun w00=>?_
  refine jC 110 [tx s] (nF h0) Tryz.call110 ?_
  refine dW (.index 9 (.tmp 6) (.const (.int .i64 0))) (.tmp 6) (.const (.int .i64 0)) (tx s) (it 0) (.fv (.sc (isB c.toNat))) (by kernel_rfl) (by simp [Op.operands]) (by simp [Op.operands]) (fun ρ o β w ho hx hy=>⟨_,lS (i:=0) ho Tryz.underlying9 (aP hx) (aN hy) hc,bG⟩) ?_
  refine dW (.binOp .neq 5 (.tmp 7) (.const (.int .u8 48)) 5) (.tmp 7) (.const (.int .u8 48)) (.fv (.sc (isB c.toNat))) (.fv (.sc (.lit (.int .u8 48)))) (bl true) (by kernel_rfl) (by simp [Op.operands]) (by simp [Op.operands]) (fun ρ o β w ho hx hy=>⟨_,mX ho (aP hx) (aN hy) q1,aX rfl⟩) ?_
  exact jR Tryz.func134
end Go.Proofs.YtejbgingjeedaaaGreatDoor.Ab
namespace Go.Proofs.YtejbgingjeedaaaGreatDoor.Ab
open Go.RowKit Go.Proofs.YtejbgingjeedaaaGreatDoor Pl
theorem index47:∀ l:List UInt8,Lib.index l [47]=if l.findIdx (fun c=>c==47)<l.length then ((l.findIdx (fun c=>c==47):Nat):Int) else -1
 | []=>rfl
 | c :: l=>by
   by_cases hc:c=47
   ·subst hc
    unfold Lib.index
    simp [List.isPrefixOf,List.findIdx_cons]
   ·have h2:([47]:List UInt8).isPrefixOf (c::l)=false:=by
     simp [List.isPrefixOf]
     exact fun e=>hc e.symm
    have h3:(c==47)=false:=by rw [beq_eq_false_iff_ne];exact hc
    unfold Lib.index
    rw [h2,index47 l,List.findIdx_cons,h3]
    simp only [cond_false,List.length_cons]
    by_cases hl:l.findIdx (fun c=>c==47)<l.length
    ·have:(((l.findIdx (fun c=>c==47):Nat):Int) == -1)=false:=by rw [beq_eq_false_iff_ne];omega
     rw [if_pos hl,if_pos (show l.findIdx (fun c=>c==47)+1<l.length+1 by omega),this]
     simp
    ·rw [if_neg hl,if_neg (show ¬ l.findIdx (fun c=>c==47)+1<l.length+1 by omega)]
     rfl
theorem cut_slash {t:ByteArray} (h:aK t<t.size):Lib.cut t.data.toList [47]=((t.extract 0 (aK t)).data.toList,(t.extract (aK t+1) t.size).data.toList,true):=by
 have e:Lib.index t.data.toList [47]=((aK t:Nat):Int):=by
  have:=index47 (aC t)
  rw [if_pos (show (aC t).findIdx (fun c=>c==47)<(aC t).length by rw [aE];exact h)] at this
  exact this
 have e1:(t.extract 0 (aK t)).data.toList=t.data.toList.take (aK t):=by
  show aC (t.extract 0 (aK t))=_
  rw [aR,List.drop_zero]
  rfl
 have e2:(t.extract (aK t+1) t.size).data.toList=t.data.toList.drop (aK t+1):=by
  show aC (t.extract (aK t+1) t.size)=_
  rw [aR,List.take_of_length_le (by rw [aE];exact Nat.le_refl _)]
  rfl
 rw [e1,e2]
 unfold Lib.cut
 rw [e,if_pos (by omega)]
 simp
theorem cut_none {t:ByteArray} (h:¬ aK t<t.size):Lib.cut t.data.toList [47]=(t.data.toList,(⟨#[]⟩:ByteArray).data.toList,false):=by
 have e:Lib.index t.data.toList [47] = -1:=by
  have:=index47 (aC t)
  rw [if_neg (show ¬ (aC t).findIdx (fun c=>c==47)<(aC t).length by rw [aE];exact h)] at this
  exact this
 unfold Lib.cut
 rw [e]
 rfl
theorem cK {s t:ByteArray} {b:Bool} (ht:bE s=t) (hb:iB s=b):Fits Tryz.prog 53 [tx s,lt ⟨#[45]⟩] (.tup [.sc (bY t),.sc (.lit (.bool b))]):=by
 intro β w vs hv
 obtain ⟨v,u,rfl,h1,h2⟩:=eG hv
 rw [aP h1,aN h2]
 have key:(⟨(Lib.trimPrefix s.data.toList [45]).toArray⟩:ByteArray)=t∧Lib.hasPrefix s.data.toList [45]=b:=by
  have hp:Lib.hasPrefix s.data.toList [45]=iB s:=by
   show ([45]:List UInt8).isPrefixOf (aC s)=((aC s).head?==some 45)
   cases aC s with
   | nil=>rfl
   | cons c l =>
     rw [Bool.eq_iff_iff]
     simp [List.isPrefixOf]
     exact ⟨fun e=>e.symm,fun e=>e.symm⟩
  refine ⟨?_,by rw [hp,hb]⟩
  unfold Lib.trimPrefix
  rw [hp,← ht]
  unfold bE
  split
  ·refine ba_ext ?_
   show _=aC (s.extract 1 s.size)
   rw [aR,List.take_of_length_le (by rw [aE];exact Nat.le_refl _)]
   rfl
  ·exact ba_ext (by simp)
 refine (Tryz.strings_CutPrefix s ⟨#[45]⟩ w).mono fun e w' ⟨e1,e2⟩=>⟨_,e1,by rw [e2];exact Below.refl _ _,?_⟩
 rw [show (⟨#[45]⟩:ByteArray).data.toList = [45] from rfl,key.1,key.2]
 exact ⟨[.string t,.bool b],rfl,_,_,rfl,bG (β:=β),_,_,rfl,⟨rfl,rfl⟩,rfl⟩
theorem xX (s:ByteArray):(bE s).size≤s.size:=by
 unfold bE
 split
 ·rw [ByteArray.size_extract];omega
 ·exact Nat.le_refl _
abbrev badN (z:Int):AV Kn := .tup [.ag [.lit (.int .i64 0),.lit (.int .i64 0),.lit (.pointer none)],.sc (.lit (.int .i64 z))]
theorem gcdAnyF {n m:Nat} (h1:(decB n).size≤600) (h2:(decB m).size≤600) (hm:m≠0):Fits Tryz.prog 116 [nt n,nt m] (nt (Nat.gcd n m)) :=
 gV ((mZ (k:=5) (by omega)).mono (by decide)) ((mZ (k:=5) (by omega)).mono (by decide)) (.inr (Nat.pos_of_ne_zero hm))
section
variable {s t a d:ByteArray} {z:Int}
theorem yS {b:Bool} (hs:s.size<4294967281) (hz:bW s=z) (h0:z≠0) (ht:bE s=t) (hb:iB s=b) (hlt:aK t<t.size) (ha:t.extract 0 (aK t)=a) (hd:t.extract (aK t+1) t.size=d):FitsW Tryz.prog Gl 67 [tx s] (badN z):=by
 have hts:t.size<4294967281:=by have:=xX s;rw [ht] at this;omega
 have hcut:=cut_slash hlt
 have hsa:a.size=aK t:=by rw [← ha,ByteArray.size_extract];omega
 have hsd:d.size=t.size-a.size-1:=by rw [hsa,← hd,ByteArray.size_extract];omega
 rw [ha,hd] at hcut
 unfold bW at hz
 rw [ht,ha,hd,hb,← hsa,← hsd] at hz
 simp only [show a.size<t.size from by omega,true_and] at hz
 have c0:∀ x:ByteArray,decF x=true∨decF x=false:=fun x=>by cases decF x <;> simp
 cases b with
 | true =>
   rcases c0 a with c1|c1
   ·rw [c1] at hz
    by_cases a0:a=zeroT
    ·rw [if_pos (.inr ⟨rfl,a0⟩)] at hz
     subst hz
     refine cA Tryz.func67 (by kernel_rfl) fun w00 hG=>?_;have hI:=aS hG
     refine jC 53 [tx s,lt ⟨#[45]⟩] (cK ht hb) Tryz.call53 ?_
     refine jW hI 133 [tx t,lt ⟨#[47]⟩] (rT (a:=a) (b:=d) (r:=true) hts hcut) Tryz.call133 ?_
     refine jC 134 [tx a] (bF c1) Tryz.call134 ?_
     refine lW 31 a ⟨#[48]⟩ true (by rw [a0];exact beq_self_eq_true _) (by kernel_rfl) ?_
     exact jR Tryz.func67
    rw [if_neg (by rintro (h|h);exact absurd h (by decide);exact a0 h.2)] at hz
    refine cA Tryz.func67 (by kernel_rfl) fun w00 hG=>?_;have hI:=aS hG
    refine jC 53 [tx s,lt ⟨#[45]⟩] (cK ht hb) Tryz.call53 ?_
    refine jW hI 133 [tx t,lt ⟨#[47]⟩] (rT (a:=a) (b:=d) (r:=true) hts hcut) Tryz.call133 ?_
    refine jC 134 [tx a] (bF c1) Tryz.call134 ?_
    refine lW 31 a ⟨#[48]⟩ false (dZ a0) (by kernel_rfl) ?_
    rcases c0 d with d1|d1
    ·rw [d1] at hz
     by_cases d0:d=zeroT
     ·rw [if_pos (.inr (.inl d0))] at hz
      subst hz
      refine jC 134 [tx d] (bF d1) Tryz.call134 ?_
      refine lW 43 d ⟨#[48]⟩ true (by rw [d0];exact beq_self_eq_true _) (by kernel_rfl) ?_
      exact jR Tryz.func67
     by_cases d2:d=oneT
     ·rw [if_pos (.inr (.inr d2))] at hz
      subst hz
      refine jC 134 [tx d] (bF d1) Tryz.call134 ?_
      refine lW 43 d ⟨#[48]⟩ false (dZ d0) (by kernel_rfl) ?_
      refine lW 47 d ⟨#[49]⟩ true (by rw [d2];exact beq_self_eq_true _) (by kernel_rfl) ?_
      exact jR Tryz.func67
     rw [if_neg (by rintro (h|h|h);exact absurd h (by decide);exact d0 h;exact d2 h)] at hz
     refine jC 134 [tx d] (bF d1) Tryz.call134 ?_
     refine lW 43 d ⟨#[48]⟩ false (dZ d0) (by kernel_rfl) ?_
     refine lW 47 d ⟨#[49]⟩ false (dZ d2) (by kernel_rfl) ?_
     refine lR 53 a (by kernel_rfl) ?_
     by_cases l1:600<a.size
     ·rw [if_pos (.inl l1)] at hz
      subst hz
      refine yL 54 a.size 600 true (by rw [decide_eq_true_iff];omega) (by kernel_rfl) ?_
      exact jR Tryz.func67
     refine yL 54 a.size 600 false (by rw [decide_eq_false_iff_not];omega) (by kernel_rfl) ?_
     refine lR 57 d (by kernel_rfl) ?_
     by_cases l2:600<d.size
     ·rw [if_pos (.inr l2)] at hz
      subst hz
      refine yL 58 d.size 600 true (by rw [decide_eq_true_iff];omega) (by kernel_rfl) ?_
      exact jR Tryz.func67
     refine yL 58 d.size 600 false (by rw [decide_eq_false_iff_not];omega) (by kernel_rfl) ?_
     rw [if_neg (by omega)] at hz
     have hae:=iH c1
     have hde:=iH d1
     generalize aT (aC a)=n at hae hz
     generalize aT (aC d)=m at hde hz
     subst hae
     subst hde
     have hm0:m≠0:=fun e=>d0 (by rw [e,dec0];rfl)
     by_cases hg:Nat.gcd n m=1
     ·rw [if_neg (fun h=>h hg)] at hz
      exact absurd hz.symm h0
     rw [if_pos hg] at hz
     subst hz
     refine jC 56 [tx (decB n)] (bU (by omega)) Tryz.call56 ?_
     refine jC 56 [tx (decB m)] (bU (by omega)) Tryz.call56 ?_
     refine jC 116 [nt n,nt m] (gcdAnyF (by omega) (by omega) hm0) Tryz.call116 ?_
     refine jC 115 [nt (Nat.gcd n m)] (isOneF (b:=false) (by rw [decide_eq_false_iff_not];exact hg)) Tryz.call115 ?_
     exact jR Tryz.func67
    ·rw [if_pos (.inl d1)] at hz
     subst hz
     refine jC 134 [tx d] (bF d1) Tryz.call134 ?_
     exact jR Tryz.func67
   ·rw [if_pos (.inl c1)] at hz
    subst hz
    refine cA Tryz.func67 (by kernel_rfl) fun w00 hG=>?_;have hI:=aS hG
    refine jC 53 [tx s,lt ⟨#[45]⟩] (cK ht hb) Tryz.call53 ?_
    refine jW hI 133 [tx t,lt ⟨#[47]⟩] (rT (a:=a) (b:=d) (r:=true) hts hcut) Tryz.call133 ?_
    refine jC 134 [tx a] (bF c1) Tryz.call134 ?_
    exact jR Tryz.func67
 | false =>
   rcases c0 a with c1|c1
   ·rw [c1] at hz
    rw [if_neg (by rintro (h|h);exact absurd h (by decide);exact absurd h.1 (by decide))] at hz
    refine cA Tryz.func67 (by kernel_rfl) fun w00 hG=>?_;have hI:=aS hG
    refine jC 53 [tx s,lt ⟨#[45]⟩] (cK ht hb) Tryz.call53 ?_
    refine jW hI 133 [tx t,lt ⟨#[47]⟩] (rT (a:=a) (b:=d) (r:=true) hts hcut) Tryz.call133 ?_
    refine jC 134 [tx a] (bF c1) Tryz.call134 ?_
    rcases c0 d with d1|d1
    ·rw [d1] at hz
     by_cases d0:d=zeroT
     ·rw [if_pos (.inr (.inl d0))] at hz
      subst hz
      refine jC 134 [tx d] (bF d1) Tryz.call134 ?_
      refine lW 43 d ⟨#[48]⟩ true (by rw [d0];exact beq_self_eq_true _) (by kernel_rfl) ?_
      exact jR Tryz.func67
     by_cases d2:d=oneT
     ·rw [if_pos (.inr (.inr d2))] at hz
      subst hz
      refine jC 134 [tx d] (bF d1) Tryz.call134 ?_
      refine lW 43 d ⟨#[48]⟩ false (dZ d0) (by kernel_rfl) ?_
      refine lW 47 d ⟨#[49]⟩ true (by rw [d2];exact beq_self_eq_true _) (by kernel_rfl) ?_
      exact jR Tryz.func67
     rw [if_neg (by rintro (h|h|h);exact absurd h (by decide);exact d0 h;exact d2 h)] at hz
     refine jC 134 [tx d] (bF d1) Tryz.call134 ?_
     refine lW 43 d ⟨#[48]⟩ false (dZ d0) (by kernel_rfl) ?_
     refine lW 47 d ⟨#[49]⟩ false (dZ d2) (by kernel_rfl) ?_
     refine lR 53 a (by kernel_rfl) ?_
     by_cases l1:600<a.size
     ·rw [if_pos (.inl l1)] at hz
      subst hz
      refine yL 54 a.size 600 true (by rw [decide_eq_true_iff];omega) (by kernel_rfl) ?_
      exact jR Tryz.func67
     refine yL 54 a.size 600 false (by rw [decide_eq_false_iff_not];omega) (by kernel_rfl) ?_
     refine lR 57 d (by kernel_rfl) ?_
     by_cases l2:600<d.size
     ·rw [if_pos (.inr l2)] at hz
      subst hz
      refine yL 58 d.size 600 true (by rw [decide_eq_true_iff];omega) (by kernel_rfl) ?_
      exact jR Tryz.func67
     refine yL 58 d.size 600 false (by rw [decide_eq_false_iff_not];omega) (by kernel_rfl) ?_
     rw [if_neg (by omega)] at hz
     have hae:=iH c1
     have hde:=iH d1
     generalize aT (aC a)=n at hae hz
     generalize aT (aC d)=m at hde hz
     subst hae
     subst hde
     have hm0:m≠0:=fun e=>d0 (by rw [e,dec0];rfl)
     by_cases hg:Nat.gcd n m=1
     ·rw [if_neg (fun h=>h hg)] at hz
      exact absurd hz.symm h0
     rw [if_pos hg] at hz
     subst hz
     refine jC 56 [tx (decB n)] (bU (by omega)) Tryz.call56 ?_
     refine jC 56 [tx (decB m)] (bU (by omega)) Tryz.call56 ?_
     refine jC 116 [nt n,nt m] (gcdAnyF (by omega) (by omega) hm0) Tryz.call116 ?_
     refine jC 115 [nt (Nat.gcd n m)] (isOneF (b:=false) (by rw [decide_eq_false_iff_not];exact hg)) Tryz.call115 ?_
     exact jR Tryz.func67
    ·rw [if_pos (.inl d1)] at hz
     subst hz
     refine jC 134 [tx d] (bF d1) Tryz.call134 ?_
     exact jR Tryz.func67
   ·rw [if_pos (.inl c1)] at hz
    subst hz
    refine cA Tryz.func67 (by kernel_rfl) fun w00 hG=>?_;have hI:=aS hG
    refine jC 53 [tx s,lt ⟨#[45]⟩] (cK ht hb) Tryz.call53 ?_
    refine jW hI 133 [tx t,lt ⟨#[47]⟩] (rT (a:=a) (b:=d) (r:=true) hts hcut) Tryz.call133 ?_
    refine jC 134 [tx a] (bF c1) Tryz.call134 ?_
    exact jR Tryz.func67
theorem yT {b:Bool} (hs:s.size<4294967281) (hz:bW s=z) (h0:z≠0) (ht:bE s=t) (hb:iB s=b) (hlt:¬ aK t<t.size):FitsW Tryz.prog Gl 67 [tx s] (badN z):=by
 have hts:t.size<4294967281:=by have:=xX s;rw [ht] at this;omega
 have hcut:=cut_none hlt
 have hk:aK t=t.size:=by have:=cG t;omega
 have g3:decide ((600:Int)<(((⟨#[49]⟩:ByteArray).size:Nat):Int))=false:=by decide
 unfold bW at hz
 rw [ht,hb,hk,vT] at hz
 simp only [Nat.lt_irrefl,false_and,if_false] at hz
 have c0:∀ x:ByteArray,decF x=true∨decF x=false:=fun x=>by cases decF x <;> simp
 cases b with
 | true =>
   rcases c0 t with c1|c1
   ·rw [c1] at hz
    by_cases a0:t=zeroT
    ·rw [if_pos (.inr ⟨rfl,a0⟩)] at hz
     subst hz
     refine cA Tryz.func67 (by kernel_rfl) fun w00 hG=>?_;have hI:=aS hG
     refine jC 53 [tx s,lt ⟨#[45]⟩] (cK ht hb) Tryz.call53 ?_
     refine jW hI 133 [tx t,lt ⟨#[47]⟩] (rT (a:=t) (b:=⟨#[]⟩) (r:=false) hts hcut) Tryz.call133 ?_
     refine jC 134 [tx t] (bF c1) Tryz.call134 ?_
     refine lW 31 t ⟨#[48]⟩ true (by rw [a0];exact beq_self_eq_true _) (by kernel_rfl) ?_
     exact jR Tryz.func67
    rw [if_neg (by rintro (h|h);exact absurd h (by decide);exact a0 h.2)] at hz
    have hl:600<t.size:=by
     by_cases g:600<t.size
     ·exact g
     ·rw [if_neg (by omega)] at hz;exact absurd hz.symm h0
    rw [if_pos (.inl hl)] at hz
    subst hz
    refine cA Tryz.func67 (by kernel_rfl) fun w00 hG=>?_;have hI:=aS hG
    refine jC 53 [tx s,lt ⟨#[45]⟩] (cK ht hb) Tryz.call53 ?_
    refine jW hI 133 [tx t,lt ⟨#[47]⟩] (rT (a:=t) (b:=⟨#[]⟩) (r:=false) hts hcut) Tryz.call133 ?_
    refine jC 134 [tx t] (bF c1) Tryz.call134 ?_
    refine lW 31 t ⟨#[48]⟩ false (dZ a0) (by kernel_rfl) ?_
    refine lR 53 t (by kernel_rfl) ?_
    refine yL 54 t.size 600 true (by rw [decide_eq_true_iff];omega) (by kernel_rfl) ?_
    exact jR Tryz.func67
   ·rw [if_pos (.inl c1)] at hz
    subst hz
    refine cA Tryz.func67 (by kernel_rfl) fun w00 hG=>?_;have hI:=aS hG
    refine jC 53 [tx s,lt ⟨#[45]⟩] (cK ht hb) Tryz.call53 ?_
    refine jW hI 133 [tx t,lt ⟨#[47]⟩] (rT (a:=t) (b:=⟨#[]⟩) (r:=false) hts hcut) Tryz.call133 ?_
    refine jC 134 [tx t] (bF c1) Tryz.call134 ?_
    exact jR Tryz.func67
 | false =>
   rcases c0 t with c1|c1
   ·rw [c1] at hz
    rw [if_neg (by rintro (h|h);exact absurd h (by decide);exact absurd h.1 (by decide))] at hz
    have hl:600<t.size:=by
     by_cases g:600<t.size
     ·exact g
     ·rw [if_neg (by omega)] at hz;exact absurd hz.symm h0
    rw [if_pos (.inl hl)] at hz
    subst hz
    refine cA Tryz.func67 (by kernel_rfl) fun w00 hG=>?_;have hI:=aS hG
    refine jC 53 [tx s,lt ⟨#[45]⟩] (cK ht hb) Tryz.call53 ?_
    refine jW hI 133 [tx t,lt ⟨#[47]⟩] (rT (a:=t) (b:=⟨#[]⟩) (r:=false) hts hcut) Tryz.call133 ?_
    refine jC 134 [tx t] (bF c1) Tryz.call134 ?_
    refine lR 53 t (by kernel_rfl) ?_
    refine yL 54 t.size 600 true (by rw [decide_eq_true_iff];omega) (by kernel_rfl) ?_
    exact jR Tryz.func67
   ·rw [if_pos (.inl c1)] at hz
    subst hz
    refine cA Tryz.func67 (by kernel_rfl) fun w00 hG=>?_;have hI:=aS hG
    refine jC 53 [tx s,lt ⟨#[45]⟩] (cK ht hb) Tryz.call53 ?_
    refine jW hI 133 [tx t,lt ⟨#[47]⟩] (rT (a:=t) (b:=⟨#[]⟩) (r:=false) hts hcut) Tryz.call133 ?_
    refine jC 134 [tx t] (bF c1) Tryz.call134 ?_
    exact jR Tryz.func67
theorem readBadF (hs:s.size<4294967281) (hz:bW s=z) (h0:z≠0):FitsW Tryz.prog Gl 67 [tx s] (badN z):=by
 by_cases h:aK (bE s)<(bE s).size
 ·exact yS hs hz h0 rfl rfl h rfl rfl
 ·exact yT hs hz h0 rfl rfl h
end
noncomputable def cR (s:ByteArray):Rat:=if h:bW s=0 then Classical.choose (qO h) else 0
theorem valB_ok {s:ByteArray} (h:bW s=0):s=writeB (cR s)∧Wr (cR s):=by
 unfold cR
 rw [dif_pos h]
 have:=Classical.choose_spec (qO h)
 exact ⟨this.1,this.2.1,this.2.2⟩
theorem valB_bad {s:ByteArray} (h:bW s≠0):cR s=0:=dif_neg h
abbrev okN (q:Rat) (z:Int):AV Kn := .tup [.ag [nb q],.sc (.lit (.int .i64 z))]
theorem xY {s:ByteArray} {z:Int} (hs:s.size<4294967281) (hz:bW s=z):FitsW Tryz.prog Gl 67 [tx s] (okN (cR s) z):=by
 by_cases h:z=0
 ·subst h
  obtain ⟨e,hw⟩:=valB_ok hz
  have:=xN hw
  rw [← e] at this
  exact this
 ·rw [valB_bad (by rw [hz];exact h)]
  refine FitsW.res (readBadF hs hz h) fun β v w hv=>?_
  obtain ⟨vs,rfl,x,r,rfl,hx,hr⟩:=hv
  exact ⟨_,rfl,x,r,rfl,zero_num hx,hr⟩
theorem dG (s:ByteArray):bW s=0∨bW s=1∨bW s=4:=by
 unfold bW
 split
 ·exact .inr (.inl rfl)
 split
 ·exact .inr (.inl rfl)
 split
 ·exact .inr (.inr rfl)
 split
 ·exact .inr (.inl rfl)
 ·exact .inl rfl
def f2 (x y:Int):Int:=if x=0 then y else x
def f3 (x y z:Int):Int:=f2 x (f2 y z)
abbrev Ev (z:Int):Prop:=z=0∨z=1∨z=4
theorem aAd {x y:Int} (hx:Ev x) (hy:Ev y):Ev (f2 x y):=by unfold f2;split <;> assumption
theorem sO {x y:Int} (h:f2 x y=0):x=0∧y=0:=by
 unfold f2 at h
 split at h
 ·rename_i e;exact ⟨e,h⟩
 ·rename_i e;exact absurd h e
theorem f2_r {x y:Int} (h:x=0):f2 x y=y:=if_pos h
abbrev lz (z:Int):Seg Kn := .lit (.int .i64 z)
theorem aAe {T:TypeId} {x y z:Int} (hx:Ev x) (hy:Ev y) (hz:f2 x y=z):Fits Tryz.prog 69 [.fv (.nsl 2 T [lz x,lz y])] (it z):=by
 rcases hx with rfl|rfl|rfl
 ·have hz:y=z:=hz
  subst hz
  rcases hy with rfl|rfl|rfl <;> (refine nL Tryz.func69 (by kernel_rfl) fun w00=>?_;exact kret Tryz.func69 (by kernel_rfl))
 ·have hz:1=z:=hz
  subst hz
  refine nL Tryz.func69 (by kernel_rfl) fun w00=>?_
  exact jR Tryz.func69
 ·have hz:4=z:=hz
  subst hz
  refine nL Tryz.func69 (by kernel_rfl) fun w00=>?_
  exact jR Tryz.func69
theorem first3Any {T:TypeId} {x y u z:Int} (hx:Ev x) (hy:Ev y) (hu:Ev u) (hz:f3 x y u=z):Fits Tryz.prog 69 [.fv (.nsl 3 T [lz x,lz y,lz u])] (it z):=by
 rcases hx with rfl|rfl|rfl
 ·rcases hy with rfl|rfl|rfl
  ·have hz:u=z:=hz
   subst hz
   rcases hu with rfl|rfl|rfl <;> (refine nL Tryz.func69 (by kernel_rfl) fun w00=>?_;exact kret Tryz.func69 (by kernel_rfl))
  ·have hz:1=z:=hz
   subst hz
   refine nL Tryz.func69 (by kernel_rfl) fun w00=>?_
   exact jR Tryz.func69
  ·have hz:4=z:=hz
   subst hz
   refine nL Tryz.func69 (by kernel_rfl) fun w00=>?_
   exact jR Tryz.func69
 ·have hz:1=z:=hz
  subst hz
  refine nL Tryz.func69 (by kernel_rfl) fun w00=>?_
  exact jR Tryz.func69
 ·have hz:4=z:=hz
  subst hz
  refine nL Tryz.func69 (by kernel_rfl) fun w00=>?_
  exact jR Tryz.func69
abbrev Rb (s:ByteArray):Prop:=s.size<4294967281
abbrev Rb3 (a b c:ByteArray):Prop:=Rb a∧Rb b∧Rb c
abbrev c3 (a b c:ByteArray):Int:=f3 (bW a) (bW b) (bW c)
theorem kN (a b c:ByteArray):Ev (c3 a b c):=aAd (dG _) (aAd (dG _) (dG _))
section
variable {a b c x y u:ByteArray} {z:Int}
theorem oO (h:Rb3 a b c) (hz:c3 a b c=z):FitsW Tryz.prog Gl 37 [t3 a b c] (.tup [.ag [nb (cR a),nb (cR b),nb (cR c)],.sc (lz z)]):=by
 refine cA Tryz.func37 (by kernel_rfl) fun w00 hG=>?_;have hI:=aS hG
 refine jW hI 67 [tx a] (xY h.1 rfl) Tryz.call67 ?_
 refine jW hI 67 [tx b] (xY h.2.1 rfl) Tryz.call67 ?_
 refine jW hI 67 [tx c] (xY h.2.2 rfl) Tryz.call67 ?_
 refine kcallS 69 3 3 141 [lz (bW a),lz (bW b),lz (bW c)] (first3Any (dG _) (dG _) (dG _) hz) (by kernel_rfl) Tryz.call69 ?_
 exact jR Tryz.func37
end
end Go.Proofs.YtejbgingjeedaaaGreatDoor.Ab
