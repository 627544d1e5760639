/- Parts of the proof, joined. -/
import Derived.Test.YtghlkblebhhahaaGreatDoorJ7
import Derived.Test.YtghlkblebhhahaaGreatDoorJ6
import Derived.Test.YtghlkblebhhahaaGreatDoorJ1
import Derived.Laws.Tables
import Derived.Laws.StructEq
import Derived.Test.YtghlkblebhhahaaGreatDoorJ5
import Derived.RangeFuncNested
import Derived.RangeFuncBound
import Derived.RangeFuncCalls
import Derived.RangeFuncLeaves
import Derived.Shelf.Abstract
import Derived.Shelf.RegionOpen
import Derived.WalkKit
import Derived.OwnWalkIn
import Derived.TacticsInMore
import Derived.LoopNIn
import Derived.LoopIn
import Derived.KernelRfl
import Derived.Test.YtghlkblebhhahaaGreatDoorProg
import Derived.Laws.CopyOwn
set_option maxHeartbeats 4000000
set_option linter.unusedSimpArgs false
set_option linter.unusedVariables false
set_option linter.constructorNameAsVariable false
namespace Go.Proofs.YtghlkblebhhahaaGreatDoor
namespace Ab
open Go.RowKit Pl
abbrev t3 (a b c:ByteArray):AV Kn := .fv (.ag [dD a,dD b,dD c])
theorem chkF {q:Rat} (h1:(decB q.num.natAbs).size≤600) (h2:(decB q.den).size≤600):jF 51 [tx (writeB q)] (it 0):=by
 have hw:=iX q
 have ht:=oI q.num
 have h:=kn_I (oX (s:=writeB q) (by split at hw <;> omega))
 rw [uN h1 h2] at h
 intro β w vs hv
 exact (h β w vs hv).mono fun e w' ⟨v,e1,e2,e3⟩=>⟨v,e1,e2,by rw [aQ e3];exact bE rfl⟩
section
variable {a b c:ByteArray} {n:Int}
theorem fewVecT (h1:jF 28 [tx a,it n] (bl true)) (h2:jF 28 [tx b,it n] (bl true)) (h3:jF 28 [tx c,it n] (bl true)):jF 6 [t3 a b c,it n] (bl true):=by
 refine jG Tryz.func6 fun w00=>?_
 refine jC 28 [tx a,it n] (h1) ?_
 refine jC 28 [tx b,it n] (h2) ?_
 refine jC 28 [tx c,it n] (h3) ?_
 exact jR Tryz.func6
theorem fewVecF1 (h1:jF 28 [tx a,it n] (bl false)):jF 6 [t3 a b c,it n] (bl false):=by
 refine jG Tryz.func6 fun w00=>?_
 refine jC 28 [tx a,it n] (h1) ?_
 exact jR Tryz.func6
theorem fewVecF2 (h1:jF 28 [tx a,it n] (bl true)) (h2:jF 28 [tx b,it n] (bl false)):jF 6 [t3 a b c,it n] (bl false):=by
 refine jG Tryz.func6 fun w00=>?_
 refine jC 28 [tx a,it n] (h1) ?_
 refine jC 28 [tx b,it n] (h2) ?_
 exact jR Tryz.func6
theorem fewVecF3 (h1:jF 28 [tx a,it n] (bl true)) (h2:jF 28 [tx b,it n] (bl true)) (h3:jF 28 [tx c,it n] (bl false)):jF 6 [t3 a b c,it n] (bl false):=by
 refine jG Tryz.func6 fun w00=>?_
 refine jC 28 [tx a,it n] (h1) ?_
 refine jC 28 [tx b,it n] (h2) ?_
 refine jC 28 [tx c,it n] (h3) ?_
 exact jR Tryz.func6
theorem checkRow3 {T:TypeId} (h1:jF 51 [tx a] (it 0)) (h2:jF 51 [tx b] (it 0)) (h3:jF 51 [tx c] (it 0)):jF 35 [.fv (.nsl 3 T [dD a,dD b,dD c])] (it 0):=by
 refine kgoS Tryz.func35 (by kernel_rfl) fun w00=>?_
 refine jC 51 [tx a] (h1) ?_
 refine jC 51 [tx b] (h2) ?_
 refine jC 51 [tx c] (h3) ?_
 exact jR Tryz.func35
theorem tM (h1:jF 51 [tx a] (it 0)) (h2:jF 51 [tx b] (it 0)) (h3:jF 51 [tx c] (it 0)):jF 10 [t3 a b c] (it 0):=by
 refine jG Tryz.func10 fun w00=>?_
 refine jC 35 [.fv (.nsl 3 22 [dD a,dD b,dD c])] (checkRow3 h1 h2 h3) ?_
 exact jR Tryz.func10
end
theorem originF:jF 142 ([]:List (AV Kn)) (.fv (.ag [.lit (.string ⟨#[48]⟩),.lit (.string ⟨#[48]⟩),.lit (.string ⟨#[48]⟩)])):=by
 refine jG Tryz.func142 fun w00=>?_
 exact jR Tryz.func142
section
variable {a b c d e f:ByteArray} {x y z:ByteArray}
theorem addVecR (h1:jF 37 [tx a,tx d] (tx x)) (h2:jF 37 [tx b,tx e] (tx y)) (h3:jF 37 [tx c,tx f] (tx z)):jF 12 [t3 a b c,t3 d e f] (t3 x y z):=by
 refine jG Tryz.func12 fun w00=>?_
 refine jC 37 [tx a,tx d] (h1) ?_
 refine jC 37 [tx b,tx e] (h2) ?_
 refine jC 37 [tx c,tx f] (h3) ?_
 exact jR Tryz.func12
end
theorem uO (q:Rat):bC (-q)=bC q:=by
 unfold bC
 rw [Rat.neg_den,Rat.neg_num,Int.natAbs_neg]
theorem zs_len {k:Nat} {q:Rat} (h:Zs k q):(writeB q).size≤2*k+4:=by
 have h1:=rK h.1
 have h2:=rK h.2
 have:=iX q
 have:=oI q.num
 split at * <;> omega
theorem negR {q:Rat} (hs:(writeB q).size≤1000000000):jF 259 [rS (writeB q)] (rS (writeB (-q))):=by
 by_cases h:q.num<0
 ·rw [dU (q := -q) (by rw [Rat.neg_num];omega),uO]
  have hg:=signFn h
  obtain ⟨f1,hc,f3,f4,f5⟩:=gM h
  generalize bC q=u at *
  generalize writeB q=s at *
  refine jT Tryz.func259 fun w00=>?_
  refine jB 145 [rS s] hg ?_
  refine rsl1 6 22 Tryz.underlying22 s u f1 f3 ?_
  exact jS Tryz.func259
 ·by_cases h0:q.num=0
  ·have e:-q=q:=by
    have:q=0:=Rat.num_eq_zero.1 h0
    rw [this]
    rfl
   rw [e]
   have hg:=signF0 h0
   generalize writeB q=s at *
   refine jT Tryz.func259 fun w00=>?_
   refine jB 145 [rS s] hg ?_
   refine jB 145 [rS s] hg ?_
   exact jS Tryz.func259
  ·rw [lP (q := -q) (by rw [Rat.neg_num];omega),uO,← dU h]
   have hg:=signFp (q:=q) (by omega)
   have hcat:(⟨#[45]⟩:ByteArray).size+(writeB q).size≤9223372036854775807:=by rw [size45];omega
   generalize writeB q=s at *
   refine jT Tryz.func259 fun w00=>?_
   refine jB 145 [rS s] hg ?_
   refine jB 145 [rS s] hg ?_
   refine jL (.binOp .add 22 (.const (.string ⟨#[45]⟩)) (.tmp 12) 22) (.const (.string ⟨#[45]⟩)) (.tmp 12) (.fv (.sc (.lit (.string ⟨#[45]⟩)))) (rS s) (rS (⟨#[45]⟩++s)) (fun ρ o β w ho hx hy=>⟨_,gR ho (bZ hx) (bD hy) hcat,dC⟩) ?_
   exact jS Tryz.func259
theorem zs_neg {k:Nat} {q:Rat} (h:Zs k q):Zs k (-q):=by
 unfold Zs
 rw [Rat.neg_den,Rat.neg_num,Int.natAbs_neg]
 exact h
theorem subR {p q:Rat} (hp:Zs 10000 p) (hq:Zs 10000 q):jF 238 [rS (writeB p),rS (writeB q)] (rS (writeB (p-q))):=by
 have h1:=negR (q:=q) (by have:=zs_len hq;omega)
 have h2:=vJ hp (zs_neg hq)
 rw [← Rat.sub_eq_add_neg] at h2
 generalize writeB (p-q)=x at *
 generalize writeB (-q)=y at *
 generalize writeB p=a at *
 generalize writeB q=b at *
 refine jT Tryz.func238 fun w00=>?_
 refine jB 259 [rS b] h1 ?_
 refine jB 37 [rS a,rS y] h2 ?_
 exact jS Tryz.func238
section
variable {a b c d e f:ByteArray} {x y z u v:ByteArray}
theorem dotR (h1:jF 202 [tx a,tx d] (tx x)) (h2:jF 202 [tx b,tx e] (tx y)) (h3:jF 37 [tx x,tx y] (tx u)) (h4:jF 202 [tx c,tx f] (tx z)) (h5:jF 37 [tx u,tx z] (tx v)):jF 144 [t3 a b c,t3 d e f] (tx v):=by
 refine jG Tryz.func144 fun w00=>?_
 refine jC 202 [tx a,tx d] (h1) ?_
 refine jC 202 [tx b,tx e] (h2) ?_
 refine jC 37 [tx x,tx y] (h3) ?_
 refine jC 202 [tx c,tx f] (h4) ?_
 refine jC 37 [tx u,tx z] (h5) ?_
 exact jR Tryz.func144
end
end Ab
section
open Go.RowKit Pl
theorem gcd_tmod (x y:Int):Int.gcd y (x.tmod y)=Int.gcd x y:=by
 unfold Int.gcd
 rw [Int.natAbs_tmod,Nat.gcd_comm x.natAbs,Nat.gcd_rec y.natAbs x.natAbs,Nat.gcd_comm]
theorem intGcd_any (a b:Int) (w:World) (ha:-999999999≤a∧a≤999999999) (hb:-999999999≤b∧b≤999999999):Calls Tryz.prog 50 #[.int .i64 a,.int .i64 b] w fun e w'=>e = .returned (.int .i64 (Int.gcd a b:Nat))∧Below w.heap.size w w':=by
 have HA:=aH (aI ha hb)
 clear ha hb
 go_enter Tryz.func50,Tryz.ntmps50
 go_wp2
 go_loopw [0,1] (fun av bv wr => ∃ x y:Int,av = .int .i64 x∧bv = .int .i64 y∧Hid (Int.gcd x y=Int.gcd a b∧(-999999999≤x∧x≤999999999)∧(-999999999≤y∧y≤999999999))∧Below w.heap.size w wr) (fun _ bv _=>(intOf bv).natAbs)
 case atStart=>exact ⟨a,b,rfl,rfl,⟨rfl,HA.out⟩,aB _ _⟩
 case round =>
  obtain ⟨x,y,rfl,rfl,hi,hbw⟩:=hrel
  by_cases h0:y=0
  ·subst h0
   have HR:=aH (show x.natAbs=Int.gcd a b by rw [← hi.out.1,Int.gcd_zero_right])
   obtain ⟨_,hx,_⟩:=hi.out
   clear hi
   go_wp2
   all_goals go_ret
   all_goals refine ⟨?_,hbw⟩
   all_goals rw [← HR.out]
   all_goals show Ending.returned (.int .i64 (max x (-x)))=_
   all_goals have e:max x (-x)=(x.natAbs:Int):=by rw [Int.max_def];split <;> omega
   all_goals rw [e]
  ·by_cases h1:y = -1
   ·subst h1
    obtain ⟨hg,hx,_⟩:=hi.out
    have HG:=aH (show Int.gcd (-1) 0=Int.gcd a b by rw [← hg,← gcd_tmod x (-1)];congr 1;rw [Int.tmod_neg,Int.tmod_one])
    clear hi hg
    go_wp2
    go_quiet (fail)
    have hb2:=bW hbw nq
    clear hbw
    generalize wr.drewN nq=w2 at *
    go_wp2
    go_roundw
    case rel=>exact ⟨-1,0,rfl,by first|rfl|simp,⟨HG.out,by omega,by omega⟩,hb2⟩
    case measure=>simp [intOf]
   ·obtain ⟨r,hr⟩:∃ r,r=x.tmod y:=⟨_,rfl⟩
    have hlt:r.natAbs<y.natAbs:=by rw [hr,Int.natAbs_tmod];exact Nat.mod_lt _ (by omega)
    have HR:=aH (show (Int.gcd y r=Int.gcd a b∧(-999999999≤y∧y≤999999999)∧(-999999999≤r∧r≤999999999))∧r.natAbs<y.natAbs∧x.tmod y=r by
     obtain ⟨hg,hx,hy⟩:=hi.out
     exact ⟨⟨by rw [hr,gcd_tmod];exact hg,hy,by omega,by omega⟩,hlt,hr.symm⟩)
    have hz0:(y==0)=false:=by simp;omega
    have hz1:¬ y=0:=h0
    have hz3:(y == -1)=false:=by simp;omega
    clear hi hr hlt
    go_wp2
    go_quiet (fail)
    have hb2:=bW hbw nq
    clear hbw
    generalize wr.drewN nq=w2 at *
    go_wp2
    go_roundw
    case rel =>
     obtain ⟨h1,h2,h3⟩:=HR.out
     exact ⟨y,r,rfl,by first|(rw [h3];done)|rfl,h1,hb2⟩
    case measure =>
     obtain ⟨h1,h2,h3⟩:=HR.out
     simp only [intOf]
     rw [h3]
     exact h2
end
namespace Ab
open Go.RowKit Pl
theorem intGcdF {a b:Int} (ha:-999999999≤a∧a≤999999999) (hb:-999999999≤b∧b≤999999999):jF 50 [.fv (.sc (gC a)),.fv (.sc (gC b))] (.fv (.sc (gC (Int.gcd a b:Nat)))):=by
 intro β w vs hv
 obtain ⟨v,_,rfl,hv1,u,_,rfl,hv2,rfl⟩:=hv
 obtain rfl:=aQ hv1
 obtain rfl:=aQ hv2
 exact (intGcd_any a b w ha hb).mono fun e w' ⟨e1,e2⟩=>⟨_,e1,e2,bK⟩
theorem size_gcd {a b:Int} (ha:-999999999≤a∧a≤999999999) (hb:-999999999≤b∧b≤999999999):-999999999≤(Int.gcd a b:Int)∧(Int.gcd a b:Int)≤999999999:=by
 refine ⟨by omega,?_⟩
 by_cases h:a=0
 ·subst h
  rw [Int.gcd_zero_left]
  omega
 ·have:=Int.gcd_le_natAbs_left (a:=a) b h
  omega
end Ab
namespace Ab
open Go.RowKit
theorem equal3 {P:Program} {T e:TypeId} {x0 x1 x2 y0 y1 y2:Value} {r0 r1 r2:Bool} (d:Nat) (hT:P.underlying T=some (.array 3 e)) (he:P.cellsOf e=1) (ha:∀ w,(isAgg e).run P w = .ok false w) (hs:∀ w,(sizeOf e).run P w = .ok 1 w)
 (h0:∀ w,(Op.equalIn d e x0 y0).run P w = .ok r0 w) (h1:∀ w,(Op.equalIn d e x1 y1).run P w = .ok r1 w) (h2:∀ w,(Op.equalIn d e x2 y2).run P w = .ok r2 w) (w:World) :
 (Op.equalIn (d+1) T (.agg #[x0,x1,x2]) (.agg #[y0,y1,y2])).run P w = .ok (r0&&r1&&r2) w:=by
 rw [Op.equalIn]
 simp only [Sem.run_bind,run_underlying hT,Result.andThen_ok,hs]
 simp only [Std.Legacy.Range.forIn_eq_forIn_range',Std.Legacy.Range.size,Nat.sub_zero,Nat.add_sub_cancel,Nat.div_one,List.range'_succ,List.range'_zero,List.forIn_cons,List.forIn_nil]
 simp [go_sem,ha,hs,h0,h1,h2]
 cases r0 <;> cases r1 <;> cases r2 <;> simp
end Ab
namespace Ab
open Go.RowKit Pl
theorem jne_run {o:Oper} {ρ:Operand→Value} {w:World} {x y:Operand} {a b:Int} {r:Bool} {T T' : TypeId} (ho:o.op = .binOp .neq T x y T') (hx:ρ x = .int .i64 a) (hy:ρ y = .int .i64 b) (h:(!(a==b))=r) :
 (execOp ρ o).run Tryz.prog w = .ok (.value (.bool r)) w:=by
 simp only [execOp,ho,hx,hy]
 refine bH ?_
 rw [← h]
 exact bL (by kernel_rfl) w
theorem iss_run {o:Oper} {ρ:Operand→Value} {w:World} {x y:Operand} {a b:Int} {r:Bool} (ho:o.op = .binOp .lss 3 x y 3) (hx:ρ x = .int .i64 a) (hy:ρ y = .int .i64 b) (h:decide (a<b)=r) :
 (execOp ρ o).run Tryz.prog w = .ok (.value (.bool r)) w:=by
 simp only [execOp,ho,hx,hy]
 refine bH ?_
 rw [← h]
 exact bL (by kernel_rfl) w
theorem guard_eq {T:TypeId} {xs ys:Array Value} {x y:Operand} (h:Tryz.prog.eqGuardType Tryz.prog.depth T=false) (w:World):(eqGuard .eql T x y (.agg xs) (.agg ys)).run Tryz.prog w = .ok () w:=by
 simp [eqGuard,Sem.run_bind,run_program,h]
theorem guard_ne {T:TypeId} {xs ys:Array Value} {x y:Operand} (h:Tryz.prog.eqGuardType Tryz.prog.depth T=false) (w:World):(eqGuard .neq T x y (.agg xs) (.agg ys)).run Tryz.prog w = .ok () w:=by
 simp [eqGuard,Sem.run_bind,run_program,h]
theorem agg_eq {o:Oper} {ρ:Operand→Value} {w:World} {x y:Operand} {xs ys:Array Value} {T T' : TypeId} {r:Bool} (hg:Tryz.prog.eqGuardType Tryz.prog.depth T=false) (h:(Op.equal T (.agg xs) (.agg ys)).run Tryz.prog w = .ok r w) (ho:o.op = .binOp .eql T x y T') (hx:ρ x = .agg xs) (hy:ρ y = .agg ys) :
 (execOp ρ o).run Tryz.prog w = .ok (.value (.bool r)) w:=by
 simp only [execOp,ho,hx,hy]
 refine bH ?_
 simp only [Sem.run_bind,guard_eq hg,Result.andThen_ok]
 show (do pure (Value.bool (← Op.equal T (.agg xs) (.agg ys))):Sem Value).run Tryz.prog w=_
 rw [Sem.run_bind,h]
 rfl
theorem agg_ne {o:Oper} {ρ:Operand→Value} {w:World} {x y:Operand} {xs ys:Array Value} {T T' : TypeId} {r:Bool} (hg:Tryz.prog.eqGuardType Tryz.prog.depth T=false) (h:(Op.equal T (.agg xs) (.agg ys)).run Tryz.prog w = .ok r w) (ho:o.op = .binOp .neq T x y T') (hx:ρ x = .agg xs) (hy:ρ y = .agg ys) :
 (execOp ρ o).run Tryz.prog w = .ok (.value (.bool (!r))) w:=by
 simp only [execOp,ho,hx,hy]
 refine bH ?_
 simp only [Sem.run_bind,guard_ne hg,Result.andThen_ok]
 show (do pure (Value.bool (!(← Op.equal T (.agg xs) (.agg ys)))):Sem Value).run Tryz.prog w=_
 rw [Sem.run_bind,h]
 rfl
theorem equalZ (a b c x y z:Int) (w:World):(Op.equal 27 (.agg #[.int .i64 a,.int .i64 b,.int .i64 c]) (.agg #[.int .i64 x,.int .i64 y,.int .i64 z])).run Tryz.prog w = .ok (a==x&&b==y&&c==z) w :=
 equal3 9999 (e:=3) (by kernel_rfl) (by kernel_rfl) (fun w=>by kernel_rfl) (fun w=>by kernel_rfl) (fun w=>run_equalIn_int w _ _ _ .i64 _ _ (by kernel_rfl)) (fun w=>run_equalIn_int w _ _ _ .i64 _ _ (by kernel_rfl)) (fun w=>run_equalIn_int w _ _ _ .i64 _ _ (by kernel_rfl)) w
theorem equalT (a b c x y z:ByteArray) (w:World):(Op.equal 24 (.agg #[.string a,.string b,.string c]) (.agg #[.string x,.string y,.string z])).run Tryz.prog w = .ok (a.toList==x.toList&&b.toList==y.toList&&c.toList==z.toList) w :=
 equal3 9999 (e:=22) (by kernel_rfl) (by kernel_rfl) (fun w=>by kernel_rfl) (fun w=>by kernel_rfl) (fun w=>run_equalIn_string w _ _ _ _ (by kernel_rfl)) (fun w=>run_equalIn_string w _ _ _ _ (by kernel_rfl)) (fun w=>run_equalIn_string w _ _ _ _ (by kernel_rfl)) w
abbrev i3 (a b c:Int):AV Kn := .fv (.ag [gC a,gC b,gC c])
theorem i3_is {a b c:Int} {β:List Nat} {v:Value} {w:World} (h:(i3 a b c).holds β v w):v = .agg #[.int .i64 a,.int .i64 b,.int .i64 c]:=by
 obtain ⟨cs,rfl,x1,r1,rfl,h1,x2,r2,rfl,h2,x3,r3,rfl,h3,e⟩:=h
 rw [show r3 = [] from e,show x1=_ from h1,show x2=_ from h2,show x3=_ from h3]
 rfl
theorem s3_is {a b c:ByteArray} {β:List Nat} {v:Value} {w:World} (h:(.fv (.ag [dD a,dD b,dD c]):AV Kn).holds β v w):v = .agg #[.string a,.string b,.string c]:=by
 obtain ⟨cs,rfl,x1,r1,rfl,h1,x2,r2,rfl,h2,x3,r3,rfl,h3,e⟩:=h
 rw [show r3 = [] from e,show x1=_ from h1,show x2=_ from h2,show x3=_ from h3]
 rfl
theorem l3_is {a b c:Value} {β:List Nat} {v:Value} {w:World} (h:(.fv (.ag [.lit a,.lit b,.lit c]):AV Kn).holds β v w):v = .agg #[a,b,c]:=by
 obtain ⟨cs,rfl,x1,r1,rfl,h1,x2,r2,rfl,h2,x3,r3,rfl,h3,e⟩:=h
 rw [show r3 = [] from e,h1.1,h2.1,h3.1]
 rfl
section
variable {f:FuncId} {w00:World} {Out:Value→World→Prop} {c:Cfg Kn}
theorem klt (x y:Operand) (a b:Int) (r:Bool) (Y:AV Kn) (hY:∀ β v w,Y.holds β v w→v = .int .i64 b) (h:decide (a<b)=r) (hg:Ok Tryz.prog f w00 Out (cI Tryz.prog 1000 (c.give (bl r))))
 (hc:(c.op.map fun o=>o.op,c.okT (bl r),c.ev x,c.ev y)=(some (.binOp .lss 3 x y 3),true,.fv (.sc (gC a)),Y):=by kernel_rfl):Ok Tryz.prog f w00 Out c :=
 oZ (.binOp .lss 3 x y 3) x y _ _ (bl r) hc (by simp [Op.operands]) (by simp [Op.operands]) (fun ρ o β w ho hx hy=>⟨_,iss_run ho (aQ hx) (hY _ _ _ hy) h,bE rfl⟩) hg
theorem kgg (x y:Operand) (a b:Int) (r:Bool) (Y:AV Kn) (hY:∀ β v w,Y.holds β v w→v = .int .i64 b) (h:decide (b<a)=r) (hg:Ok Tryz.prog f w00 Out (cI Tryz.prog 1000 (c.give (bl r))))
 (hc:(c.op.map fun o=>o.op,c.okT (bl r),c.ev x,c.ev y)=(some (.binOp .gtr 3 x y 3),true,.fv (.sc (gC a)),Y):=by kernel_rfl):Ok Tryz.prog f w00 Out c :=
 oZ (.binOp .gtr 3 x y 3) x y _ _ (bl r) hc (by simp [Op.operands]) (by simp [Op.operands]) (fun ρ o β w ho hx hy=>⟨_,xA ho (aQ hx) (hY _ _ _ hy) h,bE rfl⟩) hg
theorem kne (x y:Operand) (a b:Int) (r:Bool) (Y:AV Kn) (hY:∀ β v w,Y.holds β v w→v = .int .i64 b) (h:(!(a==b))=r) (hg:Ok Tryz.prog f w00 Out (cI Tryz.prog 1000 (c.give (bl r))))
 (hc:(c.op.map fun o=>o.op,c.okT (bl r),c.ev x,c.ev y)=(some (.binOp .neq 3 x y 3),true,.fv (.sc (gC a)),Y):=by kernel_rfl):Ok Tryz.prog f w00 Out c :=
 oZ (.binOp .neq 3 x y 3) x y _ _ (bl r) hc (by simp [Op.operands]) (by simp [Op.operands]) (fun ρ o β w ho hx hy=>⟨_,jne_run ho (aQ hx) (hY _ _ _ hy) h,bE rfl⟩) hg
theorem bG {b:Int} (β:List Nat) (v:Value) (w:World) (h:(it b).holds β v w):v = .int .i64 b:=aO h
theorem kz3 (x y:Operand) (a b d:Int) (r:Bool) (h:(a==0&&b==0&&d==0)=r) (hg:Ok Tryz.prog f w00 Out (cI Tryz.prog 1000 (c.give (bl r))))
 (hc:(c.op.map fun o=>o.op,c.okT (bl r),c.ev x,c.ev y)=(some (.binOp .eql 27 x y 27),true,i3 a b d,iv 0 0 0):=by kernel_rfl):Ok Tryz.prog f w00 Out c :=
 oZ (.binOp .eql 27 x y 27) x y _ _ (bl r) hc (by simp [Op.operands]) (by simp [Op.operands]) (fun ρ o β w ho hx hy=>⟨_,agg_eq (by kernel_rfl) (h▸equalZ a b d 0 0 0 w) ho (i3_is hx) (l3_is hy),bE rfl⟩) hg
theorem kv3 (x y:Operand) (a b d:ByteArray) (hg:Ok Tryz.prog f w00 Out (cI Tryz.prog 1000 (c.give (bl false))))
 (hc:(c.op.map fun o=>o.op,c.okT (bl false),c.ev x,c.ev y)=(some (.binOp .neq 24 x y 24),true,.fv (.ag [dD a,dD b,dD d]),.fv (.ag [dD a,dD b,dD d])):=by kernel_rfl):Ok Tryz.prog f w00 Out c :=
 oZ (.binOp .neq 24 x y 24) x y _ _ (bl false) hc (by simp [Op.operands]) (by simp [Op.operands]) (fun ρ o β w ho hx hy=>⟨_,by
  have e:=equalT a b d a b d w
  simp only [beq_self_eq_true,Bool.and_self] at e
  exact agg_ne (by kernel_rfl) e ho (s3_is hx) (s3_is hy),bE rfl⟩) hg
theorem kneg (t:Tmp) (a:Int) (ha:wX a) (ha2:wX (-a)) (hg:Ok Tryz.prog f w00 Out (cI Tryz.prog 1000 (c.give (.fv (.sc (gC (-a)))))))
 (hc:(c.op.map fun o=>o.op,c.okT (.fv (.sc (gC (-a)))),c.ev (.tmp t),c.ev (.tmp t))=(some (.unOp .neg 3 (.tmp t)),true,.fv (.sc (gC a)),.fv (.sc (gC a))):=by kernel_rfl):Ok Tryz.prog f w00 Out c :=
 oZ (.unOp .neg 3 (.tmp t)) (.tmp t) (.tmp t) _ _ (.fv (.sc (gC (-a)))) hc (by simp [Op.operands]) (by simp [Op.operands]) (fun ρ o β w ho hx hy=>⟨_,by
  simp only [execOp,ho,aQ hx]
  refine bH ?_
  have e:IntKind.i64.wrap (-a) = -a:=by rw [IntWalk.i64_left,IntWalk.wrap64_in _ ⟨by have:=ha2.1;omega,by have:=ha2.2;omega⟩]
  simp [go_sem,e],bK⟩) hg
theorem kabs (t u:Tmp) (a:Int) (hg:Ok Tryz.prog f w00 Out (cI Tryz.prog 1000 (c.give (.fv (.sc (gC (a.natAbs:Int)))))))
 (hc:(c.op.map fun o=>o.op,c.okT (.fv (.sc (gC (a.natAbs:Int)))),c.ev (.tmp t),c.ev (.tmp u))=(some (.call ⟨.builtin .max,#[.tmp t,.tmp u],#[3,3]⟩),true,.fv (.sc (gC a)),.fv (.sc (gC (-a)))):=by kernel_rfl):Ok Tryz.prog f w00 Out c :=
 oZ (.call ⟨.builtin .max,#[.tmp t,.tmp u],#[3,3]⟩) (.tmp t) (.tmp u) _ _ (.fv (.sc (gC (a.natAbs:Int)))) hc (by simp [Op.operands,Call.operands]) (by simp [Op.operands,Call.operands]) (fun ρ o β w ho hx hy=>⟨_,by
  have e:max a (-a)=(a.natAbs:Int):=by rw [Int.max_def];split <;> omega
  rw [← e]
  simp only [execOp,ho]
  refine bH ?_
  simp [go_sem,aQ hx,aQ hy],bK⟩) hg
theorem kcvu (t:Tmp) (a:Nat) (ha:a<9223372036854775808) (hg:Ok Tryz.prog f w00 Out (cI Tryz.prog 1000 (c.give (.fv (.sc (.lit (.int .u64 (a:Int))))))))
 (hc:(c.op.map fun o=>o.op,c.okT (.fv (.sc (.lit (.int .u64 (a:Int))))),c.ev (.tmp t),c.ev (.tmp t))=(some (.convert 3 160 (.tmp t)),true,.fv (.sc (gC (a:Int))),.fv (.sc (gC (a:Int)))):=by kernel_rfl):Ok Tryz.prog f w00 Out c :=
 oZ (.convert 3 160 (.tmp t)) (.tmp t) (.tmp t) _ _ (.fv (.sc (.lit (.int .u64 (a:Int))))) hc (by simp [Op.operands]) (by simp [Op.operands]) (fun ρ o β w ho hx hy=>⟨_,by
  simp only [execOp,ho,aQ hx]
  refine bH ?_
  have e:IntKind.u64.wrap (a:Int)=a:=by simp [IntKind.wrap,IntKind.bits,IntKind.signed];omega
  simp [go_sem,e],bE rfl⟩) hg
end
theorem cutPrefixNo {s:ByteArray} (h:Lib.hasPrefix s.data.toList [45]=false):jF 54 [tx s,lt ⟨#[45]⟩] (.tup [.sc (dD s),.sc (.lit (.bool false))]):=by
 intro β w vs hv
 obtain ⟨v,u,rfl,h1,h2⟩:=eF hv
 rw [aQ h1,aO h2]
 have es:(⟨(Lib.trimPrefix s.data.toList [45]).toArray⟩:ByteArray)=s:=ba_ext (by unfold Lib.trimPrefix;rw [h];simp)
 refine (Tryz.strings_CutPrefix s ⟨#[45]⟩ w).mono fun e w' ⟨e1,e2⟩=>⟨_,e1,by rw [e2];exact aB _ _,?_⟩
 rw [show (⟨#[45]⟩:ByteArray).data.toList = [45] from rfl,es,h]
 exact ⟨[.string s,.bool false],rfl,_,_,rfl,bK (β:=β),_,_,rfl,⟨rfl,rfl⟩,rfl⟩
theorem ascii_two:∀ (j:Nat) (b:UInt8),(⟨#[47,46]⟩:ByteArray).data.toList[j]?=some b→b.toNat<128:=by
 intro j b h
 have:=List.mem_of_getElem? h
 simp at this
 rcases this with rfl|rfl <;> decide
theorem indexAnyF {s:ByteArray} {k:Int} (hs:s.size<4294967281) (ha:∀ (j:Nat) (b:UInt8),s.data.toList[j]?=some b→b.toNat<128) (h:Lib.indexAny s.data.toList [47,46]=k):jF 118 [tx s,lt ⟨#[47,46]⟩] (.fv (.sc (gC k))):=by
 intro β w vs hv
 obtain ⟨v,u,rfl,h1,h2⟩:=eF hv
 rw [aQ h1,aO h2]
 refine (Tryz.strings_IndexAny_laid s ⟨#[47,46]⟩ w hs (by decide) ha ascii_two).mono fun e w' ⟨e1,e2⟩=>⟨_,e1,e2,?_⟩
 rw [show (⟨#[47,46]⟩:ByteArray).data.toList = [47,46] from rfl,h]
 exact bK
theorem repeatF {c:Nat} {z:ByteArray} (h2:2≤c) (hc:c≤100000) (hz:(⟨(Lib.repeatL [48] c).toArray⟩:ByteArray)=z):jF 120 [lt ⟨#[48]⟩,.fv (.sc (gC c))] (tx z):=by
 intro β w vs hv
 obtain ⟨v,u,rfl,h1,h3⟩:=eF hv
 rw [aO h1,aQ h3]
 have hsz:(⟨#[48]⟩:ByteArray).size=1:=rfl
 refine (Tryz.strings_Repeat_main ⟨#[48]⟩ c w h2 (by omega) (by rw [hsz];omega) (by rw [hsz];omega)).mono fun e w' ⟨e1,e2⟩=>⟨_,e1,e2,?_⟩
 rw [show (⟨#[48]⟩:ByteArray).data.toList = [48] from rfl,hz]
 exact bK
section
variable {s a b z:ByteArray} {k:Nat}
theorem partsDot (hi:jF 118 [tx s,lt ⟨#[47,46]⟩] (.fv (.sc (gC k)))) (hk:k<s.size) (hs:s.size≤10000) (ha:s.extract 0 k=a) (hb:s.extract (k+1) s.size=b) (da:AllDig (aC a)) (da0:0<a.size) (db:AllDig (aC b)) (db0:0<b.size)
 (hdot:s[k]?=some 46) (hr:jF 120 [lt ⟨#[48]⟩,.fv (.sc (gC b.size))] (tx z)) (hz:z.size≤10000):jF 55 [tx s] (.tup [.sc (dD (a++b)),.sc (dD (⟨#[49]⟩++z)),.sc z0]):=by
 have hasz:a.size≤s.size:=by rw [← ha,ByteArray.size_extract];omega
 have hbsz:b.size≤s.size:=by rw [← hb,ByteArray.size_extract];omega
 refine jG Tryz.func55 fun w00=>?_
 refine jC 118 [tx s,lt ⟨#[47,46]⟩] (hi) ?_
 refine jK (.binOp .lss 3 (.tmp 10) (.const (.int .i64 0)) 3) (.tmp 10) (.const (.int .i64 0)) (.fv (.sc (gC k))) (it 0) (bl false) (fun ρ o β w ho hx hy=>⟨_,lss_run ho (aQ hx) (aO hy) (by rw [decide_eq_false_iff_not];omega),bE rfl⟩) ?_
 refine jK (.slice 9 (.tmp 16) none (some (.tmp 17)) none) (.tmp 16) (.tmp 17) (tx s) (.fv (.sc (gC k))) (tx a) (fun ρ o β w ho hx hy=>?_) ?_
 ·have:=oC (w:=w) ho Tryz.underlying9 (aQ hx) (aQ hy) (by omega)
  rw [ha] at this
  exact ⟨_,this,bK⟩
 refine jK (.binOp .add 3 (.tmp 20) (.const (.int .i64 1)) 3) (.tmp 20) (.const (.int .i64 1)) (.fv (.sc (gC k))) (it 1) (.fv (.sc (gC ((k+1:Nat):Int)))) (fun ρ o β w ho hx hy=>⟨_,rZ ho (aQ hx) (aO hy) (by omega),bK⟩) ?_
 refine jK (.slice 9 (.tmp 19) (some (.tmp 21)) none none) (.tmp 19) (.tmp 21) (tx s) (.fv (.sc (gC ((k+1:Nat):Int)))) (tx b) (fun ρ o β w ho hx hy=>?_) ?_
 ·have:=oD (w:=w) ho Tryz.underlying9 (aQ hx) (aQ hy) (by omega)
  rw [hb] at this
  exact ⟨_,this,bK⟩
 refine jC 119 [tx a] (oU da da0) ?_
 refine jC 119 [tx b] (oU db db0) ?_
 refine jK (.index 9 (.tmp 33) (.tmp 34)) (.tmp 33) (.tmp 34) (tx s) (.fv (.sc (gC k))) (.fv (.sc (.lit (.int .u8 46)))) (fun ρ o β w ho hx hy=>⟨_,tC ho Tryz.underlying9 (aQ hx) (aQ hy) hdot,bE rfl⟩) ?_
 refine jK (.binOp .add 9 (.tmp 37) (.tmp 38) 9) (.tmp 37) (.tmp 38) (tx a) (tx b) (tx (a++b)) (fun ρ o β w ho hx hy=>⟨_,gR ho (aQ hx) (aQ hy) (by omega),bK⟩) ?_
 refine jO 40 b ?_
 refine jC 120 [lt ⟨#[48]⟩,.fv (.sc (gC b.size))] (hr) ?_
 refine jK (.binOp .add 9 (.const (.string ⟨#[49]⟩)) (.tmp 42) 9) (.const (.string ⟨#[49]⟩)) (.tmp 42) (lt ⟨#[49]⟩) (tx z) (tx (⟨#[49]⟩++z)) (fun ρ o β w ho hx hy=>⟨_,gR ho (aO hx) (aQ hy) (by have:(⟨#[49]⟩:ByteArray).size=1:=rfl;omega),bK⟩) ?_
 exact jR Tryz.func55
theorem parseF' {n d:Nat} (hs:s.size≤4096) (hp:Lib.hasPrefix s.data.toList [45]=false) (hpt:jF 55 [tx s] (.tup [.sc (dD (decB n)),.sc (dD (decB d)),.sc z0])) (hn:(decB n).size≤100000) (hd:(decB d).size≤100000) (ln:Lv 40 n) (ld:Lv 40 d) (d0:0<d)
 (lq:Lf 20 (mkRat (sg false n) d)) (w1:(decB (mkRat (sg false n) d).num.natAbs).size≤600) (w2:(decB (mkRat (sg false n) d).den).size≤600):jX 17 [tx s] (.tup [.sc (dD (writeB (mkRat (sg false n) d))),.sc z0]):=by
 refine jY Tryz.func17 fun w00 hI=>?_
 refine jO 9 s ?_
 refine jM 10 s.size 4096 false (by rw [decide_eq_false_iff_not];omega) ?_
 refine jC 54 [tx s,lt ⟨#[45]⟩] (cutPrefixNo hp) ?_
 refine jC 55 [tx s] (hpt) ?_
 refine jC 57 [tx (decB n)] (dF hn) ?_
 refine jC 57 [tx (decB d)] (dF hd) ?_
 refine jC 56 [bl false,nt n,nt d] (nY ln ld d0) ?_
 refine jC 58 [fra (mkRat (sg false n) d)] (iP) ?_
 refine jW hI 59 [num (mkRat (sg false n) d)] (qB lq w1 w2) ?_
 exact jR Tryz.func17
end
end Ab
namespace Fr
open Go.RowKit Go.Shelf
attribute [local go_sem] Oper.semAt_some
def axV (x1 x2 x3 y1 y2 y3 z1 z2 z3:ByteArray):Fin 3→Value
 | 0 => .agg #[.string x1,.string x2,.string x3]
 | 1 => .agg #[.string y1,.string y2,.string y3]
 | 2 => .agg #[.string z1,.string z2,.string z3]
def axE (x1 x2 x3 y1 y2 y3 z1 z2 z3:ByteArray) (i:Fin 3):Array Value := #[.int .i64 ((i.val:Nat):Int),axV x1 x2 x3 y1 y2 y3 z1 z2 z3 i]
theorem ix0 (w:World) (x1 x2 x3 y1 y2 y3 z1 z2 z3:ByteArray):(Sem.run Tryz.prog (Instr.index 191 (.agg #[.string x1,.string x2,.string x3,.string y1,.string y2,.string y3,.string z1,.string z2,.string z3]) (.int .i64 0)) w) = .ok (.agg #[.string x1,.string x2,.string x3]) w:=by
 kernel_rfl
theorem ix1 (w:World) (x1 x2 x3 y1 y2 y3 z1 z2 z3:ByteArray):(Sem.run Tryz.prog (Instr.index 191 (.agg #[.string x1,.string x2,.string x3,.string y1,.string y2,.string y3,.string z1,.string z2,.string z3]) (.int .i64 1)) w) = .ok (.agg #[.string y1,.string y2,.string y3]) w:=by
 kernel_rfl
theorem ix2 (w:World) (x1 x2 x3 y1 y2 y3 z1 z2 z3:ByteArray):(Sem.run Tryz.prog (Instr.index 191 (.agg #[.string x1,.string x2,.string x3,.string y1,.string y2,.string y3,.string z1,.string z2,.string z3]) (.int .i64 2)) w) = .ok (.agg #[.string z1,.string z2,.string z3]) w:=by
 kernel_rfl
set_option maxRecDepth 100000 in
theorem axes1_in (F:Fence) (n:Nat) (h8:F.fn 147) (hro:F.round=none) (hn:1≤n) (l Bf n₀:Nat) (o1 o2 o3 x1 x2 x3 y1 y2 y3 z1 z2 z3:ByteArray) (J Jx:List (Fin 3)→World→Prop)
 (hY:∀ pre x W,J pre W→pre.length<3→YieldAt F (n-1) Tryz.prog l (axE x1 x2 x3 y1 y2 y3 z1 z2 z3 x) W fun e W' =>
  (e = .returned (.bool true)∧J (pre ++ [x]) W'∧Below n₀ W W')∨(e = .returned (.bool false)∧Jx (pre ++ [x]) W'))
 (W:World) (hJ:AbidesFrom W.heap.size J) (hn0:n₀≤W.heap.size) (hB:W.heap[Bf]?=some (.cells #[.string o1,.string o2,.string o3,.string x1,.string x2,.string x3,.string y1,.string y2,.string y3,.string z1,.string z2,.string z3] 26 (0,0))) (h0:J [] W) :
 CallsIn F n Tryz.prog 147 #[.func (.yield l) #[] #[],.pointer (some ⟨Bf,0,none⟩)] W fun e W'=>(∃ v,e = .returned v) ∧
  ((∃ ys,ys = [0,1,2]∧J ys W')∨(∃ pre,True∧Jx pre W')):=by
 refine callsIn_of_wp Tryz.func147 rfl h8 ?_ hro
 simp only [Tryz.ntmps147,List.size_toArray,List.length_cons,List.length_nil,Nat.reduceAdd,Nat.reduceSub,Array.replicate_succ,Array.replicate_zero,List.push_toArray,List.append_toArray,List.nil_append,List.cons_append]
 have c3:W.cell? ⟨Bf,3,none⟩=some (.string x1):=by simp [World.cell?,hB]
 have c4:W.cell? ⟨Bf,4,none⟩=some (.string x2):=by simp [World.cell?,hB]
 have c5:W.cell? ⟨Bf,5,none⟩=some (.string x3):=by simp [World.cell?,hB]
 have c6:W.cell? ⟨Bf,6,none⟩=some (.string y1):=by simp [World.cell?,hB]
 have c7:W.cell? ⟨Bf,7,none⟩=some (.string y2):=by simp [World.cell?,hB]
 have c8:W.cell? ⟨Bf,8,none⟩=some (.string y3):=by simp [World.cell?,hB]
 have c9:W.cell? ⟨Bf,9,none⟩=some (.string z1):=by simp [World.cell?,hB]
 have c10:W.cell? ⟨Bf,10,none⟩=some (.string z2):=by simp [World.cell?,hB]
 have c11:W.cell? ⟨Bf,11,none⟩=some (.string z3):=by simp [World.cell?,hB]
 clear hB
 gi_wp2
 gi_loopw [12] (fun i wr=>(i = .int .i64 0∧J [] wr∨i = .int .i64 1∧J [0] wr∨i = .int .i64 2∧J [0,1] wr∨i = .int .i64 3∧J [0,1,2] wr)∧n₀≤wr.heap.size) (fun i _=>3-(intOf i).toNat)
 case atStart=>exact ⟨.inl ⟨rfl,h0⟩,hn0⟩
 case round =>
  obtain ⟨hc,hnr⟩:=hrel
  rcases hc with ⟨rfl,hJs⟩|⟨rfl,hJs⟩|⟨rfl,hJs⟩|⟨rfl,hJs⟩
  ·have hix:=ix0 wr x1 x2 x3 y1 y2 y3 z1 z2 z3
   have hJa:=hJ [] wr (wr.alloc (.cells #[.string x1,.string x2,.string x3] 24)) none hJs (World.grownBy_alloc _ _ none) (fun r e=>by cases e)
   obtain ⟨fn,tmps,assign,body,hy,hR⟩:=hY [] 0 _ hJa (by simp)
   change (Sem.run Tryz.prog (Instr.yield l #[.int .i64 0,.agg #[.string x1,.string x2,.string x3]]) _)=_ at hy
   gi_wp2
   refine hR.mono ?_
   rintro e W3 (⟨rfl,hJ3,hk3⟩|⟨rfl,hJx3⟩)
   ·have hs3:n₀≤W3.heap.size:=by have:=hk3.size;simp at this;omega
    gi_wp2
    go_roundw
    case rel=>exact ⟨.inr (.inl ⟨rfl,hJ3⟩),hs3⟩
    case measure=>simp [intOf]
   ·gi_wp2
    refine bodyPost_ret (results_none rfl _ _ _) rfl ?_
    exact ⟨⟨_,rfl⟩,.inr ⟨_,trivial,hJx3⟩⟩
  ·have hix:=ix1 wr x1 x2 x3 y1 y2 y3 z1 z2 z3
   have hJa:=hJ [0] wr (wr.alloc (.cells #[.string y1,.string y2,.string y3] 24)) none hJs (World.grownBy_alloc _ _ none) (fun r e=>by cases e)
   obtain ⟨fn,tmps,assign,body,hy,hR⟩:=hY [0] 1 _ hJa (by simp)
   change (Sem.run Tryz.prog (Instr.yield l #[.int .i64 1,.agg #[.string y1,.string y2,.string y3]]) _)=_ at hy
   gi_wp2
   refine hR.mono ?_
   rintro e W3 (⟨rfl,hJ3,hk3⟩|⟨rfl,hJx3⟩)
   ·have hs3:n₀≤W3.heap.size:=by have:=hk3.size;simp at this;omega
    gi_wp2
    go_roundw
    case rel=>exact ⟨.inr (.inr (.inl ⟨rfl,hJ3⟩)),hs3⟩
    case measure=>simp [intOf]
   ·gi_wp2
    refine bodyPost_ret (results_none rfl _ _ _) rfl ?_
    exact ⟨⟨_,rfl⟩,.inr ⟨_,trivial,hJx3⟩⟩
  ·have hix:=ix2 wr x1 x2 x3 y1 y2 y3 z1 z2 z3
   have hJa:=hJ [0,1] wr (wr.alloc (.cells #[.string z1,.string z2,.string z3] 24)) none hJs (World.grownBy_alloc _ _ none) (fun r e=>by cases e)
   obtain ⟨fn,tmps,assign,body,hy,hR⟩:=hY [0,1] 2 _ hJa (by simp)
   change (Sem.run Tryz.prog (Instr.yield l #[.int .i64 2,.agg #[.string z1,.string z2,.string z3]]) _)=_ at hy
   gi_wp2
   refine hR.mono ?_
   rintro e W3 (⟨rfl,hJ3,hk3⟩|⟨rfl,hJx3⟩)
   ·have hs3:n₀≤W3.heap.size:=by have:=hk3.size;simp at this;omega
    gi_wp2
    go_roundw
    case rel=>exact ⟨.inr (.inr (.inr ⟨rfl,hJ3⟩)),hs3⟩
    case measure=>simp [intOf]
   ·gi_wp2
    refine bodyPost_ret (results_none rfl _ _ _) rfl ?_
    exact ⟨⟨_,rfl⟩,.inr ⟨_,trivial,hJx3⟩⟩
  ·gi_wp2
   go_end0
   exact ⟨⟨_,rfl⟩,.inl ⟨_,rfl,hJs⟩⟩
theorem axes_stops (F:Fence) (n:Nat) (h8:F.fn 147) (hro:F.round=none) (hn:1≤n) (Bf n₀:Nat) (o1 o2 o3 x1 x2 x3 y1 y2 y3 z1 z2 z3:ByteArray) (w:World) (hn0:n₀≤w.heap.size)
 (hB:w.heap[Bf]?=some (.cells #[.string o1,.string o2,.string o3,.string x1,.string x2,.string x3,.string y1,.string y2,.string y3,.string z1,.string z2,.string z3] 26 (0,0))) :
 SeqStopsK F n Tryz.prog 147 #[.pointer (some ⟨Bf,0,none⟩)] (axE x1 x2 x3 y1 y2 y3 z1 z2 z3) (Below n₀) (fun ys=>ys = [0,1,2]) (fun _=>True) 3 w:=fun l J Jx W hW hJ _ hY h0 =>
 axes1_in F n h8 hro hn l Bf n₀ o1 o2 o3 x1 x2 x3 y1 y2 y3 z1 z2 z3 J Jx hY W hJ (Nat.le_trans hn0 hW.size) ((hW.block Bf (by rcases Nat.lt_or_ge Bf w.heap.size with h|h;exact h;rw [Array.getElem?_eq_none h] at hB;cases hB)).trans hB) h0
theorem axes_any (o1 o2 o3 x1 x2 x3 y1 y2 y3 z1 z2 z3:ByteArray) (w:World):Calls Tryz.prog 89 #[.agg #[.string o1,.string o2,.string o3,.string x1,.string x2,.string x3,.string y1,.string y2,.string y3,.string z1,.string z2,.string z3]] w fun e w' =>
 e = .returned (.func (.func 147) #[] #[.pointer (some ⟨w.heap.size,0,none⟩)])∧w'=w.alloc (.cells #[.string o1,.string o2,.string o3,.string x1,.string x2,.string x3,.string y1,.string y2,.string y3,.string z1,.string z2,.string z3] 26 (0,0)):=by
 refine (callsIn_wide (n:=3)).1 ?_
 refine callsIn_of_wp Tryz.func89 rfl trivial ?_ rfl
 simp only [Tryz.ntmps89,List.size_toArray,List.length_cons,List.length_nil,Nat.reduceAdd,Nat.reduceSub,Array.replicate_succ,Array.replicate_zero,List.push_toArray,List.append_toArray,List.nil_append,List.cons_append]
 gi_wp2
 refine bodyPost_ret (results_tmp rfl _ _ _) rfl ?_
 exact ⟨rfl,rfl⟩
end Fr
namespace Fr
open Go.RowKit Go.Shelf Ab Pl
structure C9 where
 n1:Int
 d1:Int
 p1:Option Addr
 n2:Int
 d2:Int
 p2:Option Addr
 n3:Int
 d3:Int
 p3:Option Addr
def C9.cells (k:C9):List Value := [.int .i64 k.n1,.int .i64 k.d1,.pointer k.p1,.int .i64 k.n2,.int .i64 k.d2,.pointer k.p2,.int .i64 k.n3,.int .i64 k.d3,.pointer k.p3]
def C9.val (k:C9):Value := .agg #[.int .i64 k.n1,.int .i64 k.d1,.pointer k.p1,.int .i64 k.n2,.int .i64 k.d2,.pointer k.p2,.int .i64 k.n3,.int .i64 k.d3,.pointer k.p3]
def C9.zero:C9:=⟨0,0,none,0,0,none,0,0,none⟩
theorem vc9 {w:World} {v:Value} {a b c:Rat} (h:Vc w v a b c):∃ k:C9,v=k.val∧Vc w k.val a b c:=by
 obtain ⟨n1,d1,p1,n2,d2,p2,n3,d3,p3,rfl,h1,h2,h3⟩:=h
 exact ⟨⟨n1,d1,p1,n2,d2,p2,n3,d3,p3⟩,rfl,n1,d1,p1,n2,d2,p2,n3,d3,p3,rfl,h1,h2,h3⟩
theorem sE {β:List Nat} {w:World} {k:C9} {a b c:Rat} (h:Vc w k.val a b c):holdsL β [nb a,nb b,nb c] k.cells w:=by
 obtain ⟨cs,e,hl⟩:=(wW (β:=β)).2 h
 injection e with e
 have e:=congrArg Array.toList e
 have e:k.cells=cs:=e
 rw [e]
 exact hl
def fE (o x y z:C9):List Value:=o.cells++x.cells++y.cells++z.cells
theorem kL {a b c:Rat} (h:mT a b c) (w:World) (hG:Gl w):Calls Tryz.prog 31 #[.agg #[.string (writeB a),.string (writeB b),.string (writeB c)]] w fun e w' => ∃ k:C9,e = .returned (.tuple #[k.val,.int .i64 0])∧Vc w' k.val a b c∧Below w.heap.size w w':=by
 refine (fX h [] w [.agg #[.string (writeB a),.string (writeB b),.string (writeB c)]] hG ⟨_,_,rfl,⟨[.string (writeB a),.string (writeB b),.string (writeB c)],rfl,[.string (writeB a)],_,rfl,rfl,[.string (writeB b)],_,rfl,rfl,[.string (writeB c)],_,rfl,rfl,rfl⟩,rfl⟩).mono ?_
 rintro e w' ⟨v,e1,e2,vs,rfl,u,r,rfl,h1,u2,r2,rfl,h2,h3⟩
 obtain ⟨k,rfl,h4⟩:=vc9 (wW.1 h1)
 have h5:[u2] = [.int .i64 0]:=h2.1
 injection h5 with h5
 rw [show r2 = [] from h3,h5] at e1
 exact ⟨k,e1,h4,e2⟩
section
variable {o1 o2 o3 x1 x2 x3 y1 y2 y3 z1 z2 z3:Rat}
theorem fr_holds {β:List Nat} {w:World} {o x y z:C9} (ho:Vc w o.val o1 o2 o3) (hx:Vc w x.val x1 x2 x3) (hy:Vc w y.val y1 y2 y3) (hz:Vc w z.val z1 z2 z3) :
 (mB o1 o2 o3 x1 x2 x3 y1 y2 y3 z1 z2 z3).holds β (.agg (fE o x y z).toArray) w :=
 ⟨fE o x y z,rfl,(((sE ho).append (sE hx)).append (sE hy)).append (sE hz)⟩
theorem check_any {w:World} {o x y z:C9} (ho:Vc w o.val o1 o2 o3) (hx:Vc w x.val x1 x2 x3) (hy:Vc w y.val y1 y2 y3) (hz:Vc w z.val z1 z2 z3) (l:Lm 25 x1 x2 x3 y1 y2 y3 z1 z2 z3) (h:Ax x1 x2 x3 y1 y2 y3 z1 z2 z3) :
 Calls Tryz.prog 90 #[.agg (fE o x y z).toArray] w fun e w'=>e = .returned (.int .i64 0)∧Below w.heap.size w w':=by
 refine (checkF (o1:=o1) (o2:=o2) (o3:=o3) l h [] w [.agg (fE o x y z).toArray] ⟨_,_,rfl,fr_holds ho hx hy hz,rfl⟩).mono ?_
 rintro e w' ⟨v,e1,e2,h1⟩
 have h5:[v] = [.int .i64 0]:=h1.1
 injection h5 with h5
 exact ⟨by rw [e1,h5],e2⟩
end
attribute [local go_sem] Oper.semAt_some
theorem yG {P:Program} {ops:Array Oper} {rest:List Oper} {o:Oper} {a:Act} {w:World} {Q:Exit→Act→World→Prop} (hg:o.guard=none) (t:TypeId) (parts:Array (Nat×Operand)) (ho:o.op = .build t parts) (cs:Array Value)
 (hb:P.built t (parts.map fun (i,x)=>(i,a.eval x)).toList=some cs) (h:wpList P ops Q rest (a.put o.dst (.agg cs)) w):wpList P ops Q (o::rest) a w :=
 wpList_build hg t parts ho (by rw [hb];rfl) (by rw [hb];exact h)
theorem store_new3 {P:Program} {ops:Array Oper} {rest:List Oper} {o:Oper} {a:Act} {Q:Exit→Act→World→Prop} (hgd:o.guard=none) (ty:TypeId) (x y:Operand) (ho:o.op = .store ty x y) (w1:World) (A B:Obj) (old cells:Array Value)
 (hx:a.eval x = .pointer (some ⟨w1.heap.size+1+1,0,none⟩)) (hy:a.eval y = .agg cells) (hi:(P.info? ty).map (·.size)=some cells.size) (hold:old.size=cells.size) (h1:cells.all (·.oneCell')=true)
 (h:∀ W3:World,W3.heap.size=w1.heap.size+3→Below w1.heap.size w1 W3→W3.heap[w1.heap.size]?=some A→W3.heap[w1.heap.size+1]?=some B→W3.heap[w1.heap.size+2]?=some (.cells cells ty (0,0))→wpList P ops Q rest (a.put o.dst undef) W3) :
 wpList P ops Q (o::rest) a (((w1.alloc A).alloc B).alloc (.cells old ty (0,0))):=by
 have hg:(((w1.alloc A).alloc B).alloc (.cells old ty (0,0))).heap[w1.heap.size+1+1]?=some (.cells old ty (0,0)):=by
  have:=World.alloc_heap_new ((w1.alloc A).alloc B) (.cells old ty (0,0))
  rwa [World.size_alloc,World.size_alloc] at this
 refine wpList_store_row hgd ty x y ho (w1.heap.size+1+1) cells hx hy ty old hg hi hold h1 (h _ (by rw [setRow_size];simp) ?_ ?_ ?_ (setRow_heap _ _ _ _ _ _ hg))
 ·exact below_setRow ((((aB _ w1).alloc (aR _) _).alloc (by simp) _).alloc (by simp;omega) _) (by omega) _
 ·rw [setRow_other _ _ _ _ (by omega)]
  exact (Below.heap_alloc _ _ _ (by simp;omega)).trans ((Below.heap_alloc _ _ _ (by simp)).trans (World.alloc_heap_new w1 A))
 ·rw [setRow_other _ _ _ _ (by omega)]
  refine (Below.heap_alloc _ _ _ (by simp)).trans ?_
  have:=World.alloc_heap_new (w1.alloc A) B
  rwa [World.size_alloc] at this
structure Stopped (p:Prop):Prop where
 out:p
theorem stop_store {P:Program} {ops:Array Oper} {rest:List Oper} {o:Oper} {a:Act} {w:World} {Q:Exit→Act→World→Prop} (ty:TypeId) (x y:Operand) (ho:o.op = .store ty x y) (h:Stopped (wpList P ops Q (o::rest) a w)):wpList P ops Q (o::rest) a w:=h.out
theorem tN {W W' : World} {row:Option Nat} (hg:W.grownBy W' row) (hrow:∀ r,row=some r→∃ o:Obj,W.heap[r]?=some o∧o.isCells=false):Go.Proofs.YtghlkblebhhahaaGreatDoor.Ext Kn W W':=by
 refine ⟨hg.size,fun g o h ho=>?_⟩
 have hc:o.isCells=true:=by cases o <;> first|rfl|(simp [Go.Proofs.YtghlkblebhhahaaGreatDoor.hotObj] at ho)
 exact (grownBy_keeps_cells hg hrow h hc).trans h
theorem Vc.kext {w w' : World} {v:Value} {a b c:Rat} (h:Vc w v a b c) (hx:Go.Proofs.YtghlkblebhhahaaGreatDoor.Ext Kn w w'):Vc w' v a b c:=h.ext (fun _=>rfl) (fun _=>rfl) hx
theorem load_all {P:Program} {ρ:Operand→Value} {o:Oper} {w:World} {T T' : TypeId} {x:Operand} {g:Nat} {cs:List Value} {d:TypeDesc} (ho:o.op = .load T x) (hx:ρ x = .pointer (some ⟨g,0,none⟩)) (hg:w.heap[g]?=some (.cells cs.toArray T' (0,0)))
 (hd:P.underlying T=some d) (hr:d.isRow=true) (hi:(P.info? T).map (·.size)=some cs.length):(execOp ρ o).run P w = .ok (.value (.agg cs.toArray)) w:=by
 have h:=run_loadVar_mid w g 0 T ((cs.drop 0).take cs.length) d (qQ hg 0 cs.length) hd hr (by rw [hi,List.drop_zero,List.take_length])
 rw [List.drop_zero,List.take_length] at h
 simp only [execOp,ho,Instr.loadAt,hx,Instr.sureAddr]
 exact bH (by simpa [Sem.run_bind] using h)
theorem frL_one (o x y z:C9):∀ c∈fE o x y z,c.oneCell'=true:=by
 have h:(fE o x y z).all (·.oneCell')=true:=rfl
 exact fun c hc=>List.all_eq_true.1 h c hc
theorem fin3:∀ x:Fin 3,x=0∨x=1∨x=2:=by decide
theorem sF {w:World} {b i:Nat} {v:Value} (hlt:b<w.heap.size) (h:w.cell? ⟨b,i,none⟩=some v) (o:Obj):(w.alloc o).cell? ⟨b,i,none⟩=some v :=
 (((aB _ w).alloc (aR _) o).cell (p:=⟨b,i,none⟩) hlt).trans h
theorem gB {w:World} {b i:Nat} {cs:Array Value} {t:TypeId} (hlt:b<w.heap.size) (h:w.heap[b]?=some (.cells cs t (0,0))) (o:Obj):(w.alloc o).frozen? ⟨b,i,none⟩=false :=
 bA ((((aB _ w).alloc (aR _) o).block b hlt).trans h) i
theorem sG {n g:Nat} {o:Obj} {A X Y:World} (hb:Below n A X) (h:Turned g o X Y) (hn:n≤g):Below n A Y :=
 ⟨h.os.trans hb.os,h.tape.trans hb.tape,h.output.trans hb.output,by rw [h.size];exact hb.size,fun k hk=>(h.block k (by omega)).trans (hb.block k hk)⟩
theorem sH {g S:Nat} {o o0:Obj} {X Y:World} (h:Turned g o X Y) (h0:X.heap[g]?=some o0) (hc:o0.isCells=true):KeepsFrom S X Y:=by
 refine ⟨by rw [h.size];exact aR _,fun k o' _ hk ho=>?_⟩
 have:k≠g:=by
  rintro rfl
  rw [h0] at hk
  injection hk with hk
  rw [hk,ho] at hc
  cases hc
 exact (h.block k this).trans hk
theorem fF {S:Nat} {W W' : World} (h:Below W.heap.size W W'):KeepsFrom S W W':=⟨h.size,fun k o _ hk _=>(h.block k (Array.getElem?_eq_some_iff.1 hk).1).trans hk⟩
section
variable {w:World} {k:C9} {B E R:Nat} {o1 o2 o3 x1 x2 x3 y1 y2 y3 z1 z2 z3:Rat}
theorem mA (o x y z:C9) (T:TypeId):Go.Proofs.YtghlkblebhhahaaGreatDoor.hotObj Kn (.cells (fE o x y z).toArray T (0,0))=false:=by simp [Go.Proofs.YtghlkblebhhahaaGreatDoor.hotObj,fE,C9.cells,Kn]
theorem turn9 {w:World} {B:Nat} {T:TypeId} {cs cs' : Array Value} (off:Nat) (h:w.heap[B]?=some (.cells cs T (0,0))) (u0 u1 u2 u3 u4 u5 u6 u7 u8:Value)
 (e:((((((((cs.setIfInBounds off u0).setIfInBounds (off+1) u1).setIfInBounds (off+2) u2).setIfInBounds (off+3) u3).setIfInBounds (off+4) u4).setIfInBounds (off+5) u5).setIfInBounds (off+6) u6).setIfInBounds (off+7) u7).setIfInBounds (off+8) u8=cs') :
 Turned B (.cells cs' T (0,0)) w (((((((((w.setCell ⟨B,off,none⟩ u0).setCell ⟨B,off+1,none⟩ u1).setCell ⟨B,off+2,none⟩ u2).setCell ⟨B,off+3,none⟩ u3).setCell ⟨B,off+4,none⟩ u4).setCell ⟨B,off+5,none⟩ u5).setCell ⟨B,off+6,none⟩ u6).setCell ⟨B,off+7,none⟩ u7).setCell ⟨B,off+8,none⟩ u8):=by
 subst e
 have t0:=cT (i:=off) h u0
 have t1:=t0.trans (cT (i:=off+1) t0.at_ u1)
 have t2:=t1.trans (cT (i:=off+2) t1.at_ u2)
 have t3:=t2.trans (cT (i:=off+3) t2.at_ u3)
 have t4:=t3.trans (cT (i:=off+4) t3.at_ u4)
 have t5:=t4.trans (cT (i:=off+5) t4.at_ u5)
 have t6:=t5.trans (cT (i:=off+6) t5.at_ u6)
 have t7:=t6.trans (cT (i:=off+7) t6.at_ u7)
 exact t7.trans (cT (i:=off+8) t7.at_ u8)
end
end Fr
section
open Go.RowKit Pl
end
namespace Ab
open Go.RowKit Pl
end Ab
namespace Ab
open Go.RowKit Pl
def f2 (x y:Int):Int:=if x=0 then y else x
def f3 (x y z:Int):Int:=f2 x (f2 y z)
abbrev Ev (z:Int):Prop:=z=0∨z=1∨z=4
theorem f2_ev {x y:Int} (hx:Ev x) (hy:Ev y):Ev (f2 x y):=by unfold f2;split <;> assumption
abbrev lz (z:Int):Seg Kn := .lit (.int .i64 z)
theorem first2Any {T:TypeId} {x y z:Int} (hx:Ev x) (hy:Ev y) (hz:f2 x y=z):jF 66 [.fv (.nsl 2 T [lz x,lz y])] (it z):=by
 rcases hx with rfl|rfl|rfl
 ·have hz:y=z:=hz
  subst hz
  rcases hy with rfl|rfl|rfl <;> (refine kgoS Tryz.func66 (by kernel_rfl) fun w00=>?_;exact kret Tryz.func66 (by kernel_rfl))
 ·have hz:1=z:=hz
  subst hz
  refine kgoS Tryz.func66 (by kernel_rfl) fun w00=>?_
  exact jR Tryz.func66
 ·have hz:4=z:=hz
  subst hz
  refine kgoS Tryz.func66 (by kernel_rfl) fun w00=>?_
  exact jR Tryz.func66
abbrev c3 (a b c:ByteArray):Int:=f3 (eR a) (eR b) (eR c)
end Ab
namespace Fr
open Go.RowKit Go.Shelf Ab Pl
attribute [local go_sem] Oper.semAt_some
def m9 (m:C9):Obj := .cells #[.int .i64 m.n1,.int .i64 m.d1,.pointer m.p1,.int .i64 m.n2,.int .i64 m.d2,.pointer m.p2,.int .i64 m.n3,.int .i64 m.d3,.pointer m.p3] 65 (0,0)
def st9 (X:World) (B a b c d e f g h i:Nat) (m:C9):World:=((((((((X.setCell ⟨B,a,none⟩ (.int .i64 m.n1)).setCell ⟨B,b,none⟩ (.int .i64 m.d1)).setCell ⟨B,c,none⟩ (.pointer m.p1)).setCell ⟨B,d,none⟩ (.int .i64 m.n2)).setCell ⟨B,e,none⟩ (.int .i64 m.d2)).setCell ⟨B,f,none⟩ (.pointer m.p2)).setCell ⟨B,g,none⟩ (.int .i64 m.n3)).setCell ⟨B,h,none⟩ (.int .i64 m.d3)).setCell ⟨B,i,none⟩ (.pointer m.p3)
abbrev N9 (cs:Array Value) (t:C9) (a b c d e f g h i:Nat):Prop:=cs[a]?=some (.int .i64 t.n1)∧cs[b]?=some (.int .i64 t.d1)∧cs[c]?=some (.pointer t.p1)∧cs[d]?=some (.int .i64 t.n2)∧cs[e]?=some (.int .i64 t.d2)∧cs[f]?=some (.pointer t.p2)∧cs[g]?=some (.int .i64 t.n3)∧cs[h]?=some (.int .i64 t.d3)∧cs[i]?=some (.pointer t.p3)
theorem up9 {w:World} {B a b c d e f g h i:Nat} {cs:Array Value} {T:TypeId} (t:C9) (hlt:B<w.heap.size) (hb:w.heap[B]?=some (.cells cs T (0,0))) (hc:N9 cs t a b c d e f g h i):(∀ o,(w.alloc o).cell? ⟨B,a,none⟩=some (.int .i64 t.n1))∧(∀ o,(w.alloc o).frozen? ⟨B,a,none⟩=false)∧(∀ o,(w.alloc o).cell? ⟨B,b,none⟩=some (.int .i64 t.d1))∧(∀ o,(w.alloc o).frozen? ⟨B,b,none⟩=false)∧(∀ o,(w.alloc o).cell? ⟨B,c,none⟩=some (.pointer t.p1))∧(∀ o,(w.alloc o).frozen? ⟨B,c,none⟩=false)∧(∀ o,(w.alloc o).cell? ⟨B,d,none⟩=some (.int .i64 t.n2))∧(∀ o,(w.alloc o).frozen? ⟨B,d,none⟩=false)∧(∀ o,(w.alloc o).cell? ⟨B,e,none⟩=some (.int .i64 t.d2))∧(∀ o,(w.alloc o).frozen? ⟨B,e,none⟩=false)∧(∀ o,(w.alloc o).cell? ⟨B,f,none⟩=some (.pointer t.p2))∧(∀ o,(w.alloc o).frozen? ⟨B,f,none⟩=false)∧(∀ o,(w.alloc o).cell? ⟨B,g,none⟩=some (.int .i64 t.n3))∧(∀ o,(w.alloc o).frozen? ⟨B,g,none⟩=false)∧(∀ o,(w.alloc o).cell? ⟨B,h,none⟩=some (.int .i64 t.d3))∧(∀ o,(w.alloc o).frozen? ⟨B,h,none⟩=false)∧(∀ o,(w.alloc o).cell? ⟨B,i,none⟩=some (.pointer t.p3))∧(∀ o,(w.alloc o).frozen? ⟨B,i,none⟩=false):=by
 obtain ⟨c0,c1,c2,c3,c4,c5,c6,c7,c8⟩:=hc
 have k:∀ {j:Nat} {v:Value},cs[j]?=some v→∀ o,(w.alloc o).cell? ⟨B,j,none⟩=some v:=fun hj=>sF hlt (by simp [World.cell?,hb,hj])
 exact ⟨k c0,gB hlt hb,k c1,gB hlt hb,k c2,gB hlt hb,k c3,gB hlt hb,k c4,gB hlt hb,k c5,gB hlt hb,k c6,gB hlt hb,k c7,gB hlt hb,k c8,gB hlt hb⟩
def RV (a b c:Rat) (z:Int) (W:World) (e:Ending) (w' : World):Prop := ∃ k:C9,e = .returned (.tuple #[k.val,.int .i64 z])∧Vc w' k.val a b c∧Below W.heap.size W w'
theorem qM {x y z:Int} (hx:Ev x) (hy:Ev y) (hz:f2 x y=z) (w:World) (g:Nat) (T:TypeId) (hh:w.heap[g]?=some (.cells #[.int .i64 x,.int .i64 y] T (0,0))):Calls Tryz.prog 66 #[.slice (some ⟨g,0,none⟩) 2 2] w fun e w'=>e = .returned (.int .i64 z)∧Below w.heap.size w w':=by
 refine (first2Any (T:=T) hx hy hz [] w [.slice (some ⟨g,0,none⟩) 2 2] ⟨_,_,rfl,⟨g,[.int .i64 x,.int .i64 y],rfl,hh,[.int .i64 x],_,rfl,⟨rfl,rfl⟩,[.int .i64 y],_,rfl,⟨rfl,rfl⟩,rfl⟩,rfl⟩).mono ?_
 rintro e w' ⟨v,e1,e2,h1⟩
 have h5:[v] = [.int .i64 z]:=h1.1
 injection h5 with h5
 exact ⟨by rw [e1,h5],e2⟩
def InvE (ev:List (Fin 3)→Int) (w:World) (k:C9) (B E R:Nat) (o1 o2 o3 x1 x2 x3 y1 y2 y3 z1 z2 z3:Rat) (pre:List (Fin 3)) (W:World):Prop :=
 ∃ x y z:C9,W.heap[B]?=some (.cells (fE k x y z).toArray 68 (0,0))∧((0:Fin 3)∈pre→Vc W x.val x1 x2 x3)∧((1:Fin 3)∈pre→Vc W y.val y1 y2 y3)∧((2:Fin 3)∈pre→Vc W z.val z1 z2 z3) ∧
   W.heap[E]?=some (.cells #[.int .i64 (ev pre)] 34 (0,0))∧W.heap[R]?=some (.cells (fE C9.zero C9.zero C9.zero C9.zero).toArray 68 (0,0))∧Vc W k.val o1 o2 o3∧Below w.heap.size w W
section
variable {w:World} {k:C9} {B E R:Nat} {o1 o2 o3 x1 x2 x3 y1 y2 y3 z1 z2 z3:Rat}
theorem oJ {u v:Int} {W w2 X1 w5:World} {a b c a' b' c' : C9} {o9 o2:Obj} {S n:Nat} (hbl:Below W.heap.size W w2) (hB:W.heap[B]?=some (.cells (fE k a b c).toArray 68 (0,0))) (hE:W.heap[E]?=some (.cells #[.int .i64 u] 34 (0,0))) (hEB:¬ E=B)
 (hT:Turned B (.cells (fE k a' b' c').toArray 68 (0,0)) (w2.alloc o9) X1) (h5:Below (X1.alloc o2).heap.size (X1.alloc o2) w5) (hn:n≤W.heap.size) (hnB:n≤B) (hnE:n≤E) :
 (w5.setCell ⟨E,0,none⟩ (.int .i64 v)).heap[B]?=some (.cells (fE k a' b' c').toArray 68 (0,0))∧(w5.setCell ⟨E,0,none⟩ (.int .i64 v)).heap[E]?=some (.cells #[.int .i64 v] 34 (0,0)) ∧
 (∀ g,g<W.heap.size→¬ g=B→¬ g=E→(w5.setCell ⟨E,0,none⟩ (.int .i64 v)).heap[g]?=W.heap[g]?)∧Go.Proofs.YtghlkblebhhahaaGreatDoor.Ext Kn w2 (w5.setCell ⟨E,0,none⟩ (.int .i64 v))∧Go.Proofs.YtghlkblebhhahaaGreatDoor.Ext Kn W w2∧KeepsFrom S W (w5.setCell ⟨E,0,none⟩ (.int .i64 v))∧Below n W (w5.setCell ⟨E,0,none⟩ (.int .i64 v)):=by
 have hBlt:=(Array.getElem?_eq_some_iff.1 hB).1
 have hElt:=(Array.getElem?_eq_some_iff.1 hE).1
 have hs2:=hbl.size
 have ba:Below w2.heap.size w2 (w2.alloc o9):=(aB _ _).alloc (aR _) _
 have sa:(w2.alloc o9).heap.size=w2.heap.size+1:=by simp
 have hBa:(w2.alloc o9).heap[B]?=some (.cells (fE k a b c).toArray 68 (0,0)):=(ba.block B (by omega)).trans ((hbl.block B hBlt).trans hB)
 have sx:X1.heap.size=w2.heap.size+1:=hT.size.trans sa
 have bb:Below X1.heap.size X1 (X1.alloc o2):=(aB _ _).alloc (aR _) _
 have sb:(X1.alloc o2).heap.size=w2.heap.size+2:=by simp [sx]
 have hs5:=h5.size
 have keep:∀ g,g<W.heap.size→¬ g=B→w5.heap[g]?=W.heap[g]?:=fun g hg hne=>(h5.block g (by omega)).trans ((bb.block g (by omega)).trans ((hT.block g hne).trans ((ba.block g (by omega)).trans (hbl.block g hg))))
 have hE5:w5.heap[E]?=some (.cells #[.int .i64 u] 34 (0,0)):=(keep E hElt hEB).trans hE
 have hTE:Turned E (.cells #[.int .i64 v] 34 (0,0)) w5 (w5.setCell ⟨E,0,none⟩ (.int .i64 v)):=cT (i:=0) hE5 (.int .i64 v)
 have hB5:w5.heap[B]?=some (.cells (fE k a' b' c').toArray 68 (0,0)):=(h5.block B (by omega)).trans ((bb.block B (by omega)).trans hT.at_)
 have bn:Below n W w5:=(sG ((hbl.mono hn).trans (ba.mono (by omega))) hT hnB).trans ((bb.mono (by omega)).trans (h5.mono (by omega)))
 refine ⟨(hTE.block B (fun e=>hEB e.symm)).trans hB5,hTE.at_,fun g hg h1 h2=>(hTE.block g h2).trans (keep g hg h1),?_,Go.Proofs.YtghlkblebhhahaaGreatDoor.Ext.of_below hbl,?_,sG bn hTE hnE⟩
 ·exact (Go.Proofs.YtghlkblebhhahaaGreatDoor.Ext.of_below ba).trans ((hT.ext hBa (mA _ _ _ _ _)).trans ((Go.Proofs.YtghlkblebhhahaaGreatDoor.Ext.of_below bb).trans ((Go.Proofs.YtghlkblebhhahaaGreatDoor.Ext.of_below h5).trans (hTE.ext hE5 (by simp [Go.Proofs.YtghlkblebhhahaaGreatDoor.hotObj,Kn])))))
 ·exact (fF hbl).trans ((fF ba).trans ((sH hT hBa rfl).trans ((fF bb).trans ((fF h5).trans (sH hTE hE5 rfl)))))
theorem sI {ev:List (Fin 3)→Int} {S:Nat} (hS:w.heap.size≤S):OwnFrom S (InvE ev w k B E R o1 o2 o3 x1 x2 x3 y1 y2 y3 z1 z2 z3):=by
 rintro pre W W' row ⟨x,y,z,hB,v0,v1,v2,hE,hR,hk,hb⟩ hg hr
 have hr' : ∀ r,row=some r→∃ o:Obj,W.heap[r]?=some o∧o.isCells=false:=fun r e=>(hr r e).2
 have hx:=tN hg hr'
 refine ⟨x,y,z,(grownBy_keeps_cells hg hr' hB rfl).trans hB,fun h=>Vc.kext (v0 h) hx,fun h=>Vc.kext (v1 h) hx,fun h=>Vc.kext (v2 h) hx,(grownBy_keeps_cells hg hr' hE rfl).trans hE,(grownBy_keeps_cells hg hr' hR rfl).trans hR,Vc.kext hk hx,?_⟩
 exact hb.grown hg hb.size (fun k e=>Nat.le_trans hS (hr k e).1)
end
set_option maxRecDepth 100000 in
theorem yH (a1 a2 a3 b1 b2 b3 c1 c2 c3 d1 d2 d3:ByteArray) (o1 o2 o3 x1 x2 x3 y1 y2 y3 z1 z2 z3:Rat) (eo ex ey ez zq zc:Int) (heo:Ev eo) (hex:Ev ex) (hey:Ev ey) (hez:Ev ez) (hZ:f2 (f2 (f2 eo ex) ey) ez=zq)
 (cO' : ∀ W,Gl W→Calls Tryz.prog 31 #[.agg #[.string a1,.string a2,.string a3]] W (RV o1 o2 o3 eo W)) (cX' : ∀ W,Gl W→Calls Tryz.prog 31 #[.agg #[.string b1,.string b2,.string b3]] W (RV x1 x2 x3 ex W))
 (cY' : ∀ W,Gl W→Calls Tryz.prog 31 #[.agg #[.string c1,.string c2,.string c3]] W (RV y1 y2 y3 ey W)) (cZ' : ∀ W,Gl W→Calls Tryz.prog 31 #[.agg #[.string d1,.string d2,.string d3]] W (RV z1 z2 z3 ez W))
 (hC:zq=0→∀ (W:World) (o x y z:C9),Vc W o.val o1 o2 o3→Vc W x.val x1 x2 x3→Vc W y.val y1 y2 y3→Vc W z.val z1 z2 z3→Calls Tryz.prog 90 #[.agg (fE o x y z).toArray] W fun e w'=>e = .returned (.int .i64 zc)∧Below W.heap.size W w') (w:World) (hG:Gl w) :
 Calls Tryz.prog 30 #[.agg #[.string a1,.string a2,.string a3,.string b1,.string b2,.string b3,.string c1,.string c2,.string c3,.string d1,.string d2,.string d3]] w fun e w' => ∃ o x y z:C9,e = .returned (.tuple #[.agg (if zq=0 then fE o x y z else fE C9.zero C9.zero C9.zero C9.zero).toArray,.int .i64 (if zq=0 then zc else zq)])∧Vc w' o.val o1 o2 o3∧Vc w' x.val x1 x2 x3∧Vc w' y.val y1 y2 y3∧Vc w' z.val z1 z2 z3∧Below w.heap.size w w':=by
 have cO:=aH cO'
 have cX:=aH cX'
 have cY:=aH cY'
 have cZ:=aH cZ'
 have HC:=aH hC
 clear cO' cX' cY' cZ' hC
 obtain ⟨ev,hevd⟩:∃ ev:List (Fin 3)→Int,ev=fun pre=>pre.foldl (fun e i=>f2 e (if i=0 then ex else if i=1 then ey else ez)) eo:=⟨_,rfl⟩
 have ev0:ev []=eo:=by rw [hevd];rfl
 have evs:∀ (pre:List (Fin 3)) (i:Fin 3),ev (pre ++ [i])=f2 (ev pre) (if i=0 then ex else if i=1 then ey else ez):=fun pre i=>by rw [hevd];simp [List.foldl_append]
 have ev3:ev [0,1,2]=zq:=by rw [hevd,← hZ];rfl
 have hev:∀ pre,Ev (ev pre):=fun pre=>by
  rw [hevd]
  show Ev (pre.foldl _ eo)
  revert heo
  generalize eo=e0
  induction pre generalizing e0 with
  | nil=>exact fun h=>h
  | cons i l ih =>
    intro h
    refine ih _ (f2_ev h ?_)
    split
    ·exact hex
    ·split <;> assumption
 have p0:∀ pre,ev (pre ++ [0])=f2 (ev pre) ex:=fun pre=>evs pre 0
 have p1:∀ pre,ev (pre ++ [1])=f2 (ev pre) ey:=fun pre=>evs pre 1
 have p2:∀ pre,ev (pre ++ [2])=f2 (ev pre) ez:=fun pre=>evs pre 2
 clear hevd hZ evs
 refine (callsIn_wide (n:=6)).1 ?_
 refine callsIn_of_wp_marks Tryz.func30 rfl trivial ?_ rfl
 simp only [Tryz.ntmps30,List.size_toArray,List.length_cons,List.length_nil,Nat.reduceAdd,Nat.reduceSub,Array.replicate_succ,Array.replicate_zero,List.push_toArray,List.append_toArray,List.nil_append,List.cons_append]
 refine wpIn_wide.2 ?_
 go_wp2_with fail
 obtain ⟨Z,hZ⟩:∃ Z:Array Value,Z=(fE C9.zero C9.zero C9.zero C9.zero).toArray:=⟨_,rfl⟩
 have hW1:∃ W1,W1=(w.alloc (.cells #[.string a1,.string a2,.string a3,.string b1,.string b2,.string b3,.string c1,.string c2,.string c3,.string d1,.string d2,.string d3] 26 (0,0))).alloc (.cells Z 68 (0,0)):=⟨_,rfl⟩
 obtain ⟨W1,hW1⟩:=hW1
 change Calls _ _ _ ((w.alloc (.cells #[.string a1,.string a2,.string a3,.string b1,.string b2,.string b3,.string c1,.string c2,.string c3,.string d1,.string d2,.string d3] 26 (0,0))).alloc (.cells (fE C9.zero C9.zero C9.zero C9.zero).toArray 68 (0,0))) _
 rw [← hZ,← hW1]
 have hs1:W1.heap.size=w.heap.size+2:=by rw [hW1];simp
 have hb1:Below w.heap.size w W1:=by rw [hW1];exact ((aB _ w).alloc (aR _) _).alloc (by simp) _
 have hf1:W1.heap[w.heap.size]?=some (.cells #[.string a1,.string a2,.string a3,.string b1,.string b2,.string b3,.string c1,.string c2,.string c3,.string d1,.string d2,.string d3] 26 (0,0)):=by rw [hW1];exact (Below.heap_alloc _ _ _ (by simp)).trans (World.alloc_heap_new w _)
 have hr1:W1.heap[w.heap.size+1]?=some (.cells Z 68 (0,0)):=by rw [hW1];have:=World.alloc_heap_new (w.alloc (.cells #[.string a1,.string a2,.string a3,.string b1,.string b2,.string b3,.string c1,.string c2,.string c3,.string d1,.string d2,.string d3] 26 (0,0))) (.cells Z 68 (0,0));rwa [World.size_alloc] at this
 clear hW1
 refine (cO.out W1 (hG.below hb1)).mono ?_
 rintro e w1 ⟨k,rfl,hk,hb⟩
 have hs2:=hb.size
 have hf2:=(hb.block w.heap.size (by omega)).trans hf1
 have hr2:=(hb.block (w.heap.size+1) (by omega)).trans hr1
 have hb2:=hb1.trans (hb.mono (by omega))
 clear hf1 hr1 hb1 hb
 simp only [C9.val]
 have HID:=aH (aI hf2 (aI hr2 (aI hb2 hk)))
 clear hf2 hr2 hb2 hk
 have HZ:=aH hZ
 clear hZ
 go_wp2_with (first|(refine yG rfl 68 _ rfl (fE k C9.zero C9.zero C9.zero).toArray (by kernel_rfl) ?_)|(refine stop_store 68 _ _ rfl ?_))
 refine ⟨store_new3 rfl 68 _ _ rfl w1 _ _ _ (fE k C9.zero C9.zero C9.zero).toArray rfl rfl (by kernel_rfl) (by kernel_rfl) (by kernel_rfl) ?_⟩
 intro W3 g1 g2 g3 g4 g5
 have hf3:=(g2.block w.heap.size (by omega)).trans HID.out.1
 have f0:W3.cell? ⟨w.heap.size,0,none⟩=some (.string a1):=by simp [World.cell?,hf3]
 have f1:W3.cell? ⟨w.heap.size,1,none⟩=some (.string a2):=by simp [World.cell?,hf3]
 have f2:W3.cell? ⟨w.heap.size,2,none⟩=some (.string a3):=by simp [World.cell?,hf3]
 have f3:W3.cell? ⟨w.heap.size,3,none⟩=some (.string b1):=by simp [World.cell?,hf3]
 have f4:W3.cell? ⟨w.heap.size,4,none⟩=some (.string b2):=by simp [World.cell?,hf3]
 have f5:W3.cell? ⟨w.heap.size,5,none⟩=some (.string b3):=by simp [World.cell?,hf3]
 have f6:W3.cell? ⟨w.heap.size,6,none⟩=some (.string c1):=by simp [World.cell?,hf3]
 have f7:W3.cell? ⟨w.heap.size,7,none⟩=some (.string c2):=by simp [World.cell?,hf3]
 have f8:W3.cell? ⟨w.heap.size,8,none⟩=some (.string c3):=by simp [World.cell?,hf3]
 have f9:W3.cell? ⟨w.heap.size,9,none⟩=some (.string d1):=by simp [World.cell?,hf3]
 have f10:W3.cell? ⟨w.heap.size,10,none⟩=some (.string d2):=by simp [World.cell?,hf3]
 have f11:W3.cell? ⟨w.heap.size,11,none⟩=some (.string d3):=by simp [World.cell?,hf3]
 clear hf3
 have HID2:=aH (aI g1 (aI g2 (aI g3 (aI g4 g5))))
 clear g1 g2 g3 g4 g5
 go_wp2_with fail
 refine (axes_any _ _ _ _ _ _ _ _ _ _ _ _ _).mono ?_
 rintro e w4 ⟨rfl,rfl⟩
 go_wp2_with fail
 obtain ⟨v0,h0⟩:∃ v0:Value,v0 = .agg #[.string a1,.string a2,.string a3,.string b1,.string b2,.string b3,.string c1,.string c2,.string c3,.string d1,.string d2,.string d3]:=⟨_,rfl⟩
 obtain ⟨v11,h11⟩:∃ v:Value,v = .tuple #[.agg #[.int .i64 k.n1,.int .i64 k.d1,.pointer k.p1,.int .i64 k.n2,.int .i64 k.d2,.pointer k.p2,.int .i64 k.n3,.int .i64 k.d3,.pointer k.p3],.int .i64 eo]:=⟨_,rfl⟩
 obtain ⟨v13,h13⟩:∃ v:Value,v = .agg #[.string a1,.string a2,.string a3]:=⟨_,rfl⟩
 obtain ⟨v15,h15⟩:∃ v:Value,v = .agg #[.int .i64 k.n1,.int .i64 k.d1,.pointer k.p1,.int .i64 k.n2,.int .i64 k.d2,.pointer k.p2,.int .i64 k.n3,.int .i64 k.d3,.pointer k.p3]:=⟨_,rfl⟩
 obtain ⟨v18,h18⟩:∃ v:Value,v = .agg (fE k C9.zero C9.zero C9.zero).toArray:=⟨_,rfl⟩
 rw [← h0,← h11,← h13,← h15,← h18]
 obtain ⟨g1,g2,g3,g4,g5⟩:=HID2.out
 obtain ⟨hf2,hr2,hb2,hk⟩:=HID.out
 have hsz2:=hb2.size
 have hsW3:w1.heap.size+3=W3.heap.size:=g1.symm
 obtain ⟨W4,hW4⟩:∃ W4,W3.alloc (.cells #[.string a1,.string a2,.string a3,.string b1,.string b2,.string b3,.string c1,.string c2,.string c3,.string d1,.string d2,.string d3] 26 (0,0))=W4:=⟨_,rfl⟩
 have hF:W4.heap[W3.heap.size]?=some (.cells #[.string a1,.string a2,.string a3,.string b1,.string b2,.string b3,.string c1,.string c2,.string c3,.string d1,.string d2,.string d3] 26 (0,0)):=by rw [← hW4];exact World.alloc_heap_new _ _
 have hs4:W4.heap.size=W3.heap.size+1:=by rw [← hW4];simp
 have hb4:Below W3.heap.size W3 W4:=by rw [← hW4];exact (aB _ _).alloc (aR _) _
 have hb3:Below w1.heap.size w1 W4:=g2.trans (hb4.mono (by omega))
 have hinv:InvE ev w k (w1.heap.size+1+1) (w1.heap.size+1) (w.heap.size+1) o1 o2 o3 x1 x2 x3 y1 y2 y3 z1 z2 z3 [] W4:=by
  refine ⟨C9.zero,C9.zero,C9.zero,(hb4.block _ (by omega)).trans g5,fun h=>absurd h (by simp),fun h=>absurd h (by simp),fun h=>absurd h (by simp),(by rw [ev0];exact (hb4.block _ (by omega)).trans g4),?_,hk.below hb3,hb2.trans (hb3.mono (by omega))⟩
  rw [← HZ.out]
  exact (hb3.block _ (by omega)).trans hr2
 rw [hW4]
 have hEB:¬ (w1.heap.size+1:Nat)=w1.heap.size+1+1:=by omega
 have hRB:¬ (w.heap.size+1:Nat)=w1.heap.size+1+1:=by omega
 have hRE:¬ (w.heap.size+1:Nat)=w1.heap.size+1:=by omega
 have hBs:w1.heap.size+1+1<W4.heap.size:=by omega
 have hEs:w1.heap.size+1<W4.heap.size:=by omega
 have hRs:w.heap.size+1<W4.heap.size:=by omega
 have hE0:w.heap.size≤w1.heap.size+1:=by omega
 have hB0:w.heap.size≤w1.heap.size+1+1:=by omega
 have hwW4:w.heap.size≤W4.heap.size:=by omega
 clear g1 g2 g3 g4 g5 hf2 hr2 hb2 hk hsz2 hsW3 hb4 hb3 hW4 h0 h11 h13 h15 h18 HID HID2 f0 f1 f2 f3 f4 f5 f6 f7 f8 f9 f10 f11 hs1 hs2 hs4
 generalize w1.heap.size+1+1=B at *
 generalize w1.heap.size+1=E at *
 generalize w1.heap.size=p4 at *
 generalize W3.heap.size=q3 at *
 refine (wpIn_wide (n:=6)).1 ?_
 refine wpIn_rangeFunc_ownH (F:=Fence.wide) rfl (by omega) (gf:=147) (lb := #[.pointer (some ⟨q3,0,none⟩)]) rfl trivial (enters_of Tryz.func147 (by kernel_rfl) rfl)
  (axes_stops Fence.wide (6-1) trivial rfl (by omega) q3 w.heap.size a1 a2 a3 b1 b2 b3 c1 c2 c3 d1 d2 d3 W4 hwW4 hF) belowK_t (belowK_b (by omega)) (aB _ _) (fun _=>rfl)
  (InvE ev w k B E (w.heap.size+1) o1 o2 o3 x1 x2 x3 y1 y2 y3 z1 z2 z3) (fun _ _ _=>False) (sI hwW4) (fun _ _ _ _ _ hs _ _=>hs) hinv
  (fun x a' W => ∃ Bx,((x=0∧W.heap[Bx]?=some (.cells #[.string b1,.string b2,.string b3] 24 (0,0))∧a' = { tmps := #[v0,.pointer (some ⟨w.heap.size,0,none⟩),.pointer (some ⟨w.heap.size+1,0,none⟩),.int .i64 0,.pointer (some ⟨p4,0,none⟩),.pointer (some ⟨E,0,none⟩),.pointer (some ⟨B,0,none⟩),.int .i64 0,.pointer (some ⟨Bx,0,none⟩),undef,undef,v11,.pointer (some ⟨w.heap.size,0,none⟩),v13,v11,v15,.int .i64 eo,v15,v18,v0,.func (.func 147) #[] #[.pointer (some ⟨q3,0,none⟩)],.int .i64 0,.agg #[.string b1,.string b2,.string b3],undef,undef,undef,undef,undef,undef,undef,undef,undef,undef,undef,undef,undef,undef,undef,undef,undef,undef,undef,undef],defers := [] })∨(x=1∧W.heap[Bx]?=some (.cells #[.string c1,.string c2,.string c3] 24 (0,0))∧a' = { tmps := #[v0,.pointer (some ⟨w.heap.size,0,none⟩),.pointer (some ⟨w.heap.size+1,0,none⟩),.int .i64 0,.pointer (some ⟨p4,0,none⟩),.pointer (some ⟨E,0,none⟩),.pointer (some ⟨B,0,none⟩),.int .i64 1,.pointer (some ⟨Bx,0,none⟩),undef,undef,v11,.pointer (some ⟨w.heap.size,0,none⟩),v13,v11,v15,.int .i64 eo,v15,v18,v0,.func (.func 147) #[] #[.pointer (some ⟨q3,0,none⟩)],.int .i64 1,.agg #[.string c1,.string c2,.string c3],undef,undef,undef,undef,undef,undef,undef,undef,undef,undef,undef,undef,undef,undef,undef,undef,undef,undef,undef,undef],defers := [] })∨(x=2∧W.heap[Bx]?=some (.cells #[.string d1,.string d2,.string d3] 24 (0,0))∧a' = { tmps := #[v0,.pointer (some ⟨w.heap.size,0,none⟩),.pointer (some ⟨w.heap.size+1,0,none⟩),.int .i64 0,.pointer (some ⟨p4,0,none⟩),.pointer (some ⟨E,0,none⟩),.pointer (some ⟨B,0,none⟩),.int .i64 2,.pointer (some ⟨Bx,0,none⟩),undef,undef,v11,.pointer (some ⟨w.heap.size,0,none⟩),v13,v11,v15,.int .i64 eo,v15,v18,v0,.func (.func 147) #[] #[.pointer (some ⟨q3,0,none⟩)],.int .i64 2,.agg #[.string d1,.string d2,.string d3],undef,undef,undef,undef,undef,undef,undef,undef,undef,undef,undef,undef,undef,undef,undef,undef,undef,undef,undef,undef],defers := [] }))) ?hAx ?assign ?body ?done ?stop
 case hAx =>
  rintro x a' _ X Y row ⟨Bx,h2⟩ hg hr
  refine ⟨Bx,?_⟩
  rcases h2 with ⟨rfl,h3,h4⟩|⟨rfl,h3,h4⟩|⟨rfl,h3,h4⟩
  ·exact .inl ⟨rfl,(grownBy_keeps_cells hg (fun r e=>(hr r e).2) h3 rfl).trans h3,h4⟩
  ·exact .inr (.inl ⟨rfl,(grownBy_keeps_cells hg (fun r e=>(hr r e).2) h3 rfl).trans h3,h4⟩)
  ·exact .inr (.inr ⟨rfl,(grownBy_keeps_cells hg (fun r e=>(hr r e).2) h3 rfl).trans h3,h4⟩)
 case assign =>
  rintro l pre x W K hi hK
  have hiw:w.heap.size≤W.heap.size:=by obtain ⟨_,_,_,_,_,_,_,_,_,_,hb⟩:=hi;exact hb.size
  rcases fin3 x with rfl|rfl|rfl
  ·simp only [axE,axV]
   gi_wp2
   exact hK _ _ ((KeepsOthers.alloc _ _).from _) ((aB _ W).alloc hiw _) ((sI hwW4).alloc _ hi) ⟨W.heap.size,.inl ⟨by first|rfl|trivial,World.alloc_heap_new _ _,rfl⟩⟩
  ·simp only [axE,axV]
   gi_wp2
   exact hK _ _ ((KeepsOthers.alloc _ _).from _) ((aB _ W).alloc hiw _) ((sI hwW4).alloc _ hi) ⟨W.heap.size,.inr (.inl ⟨by first|rfl|trivial,World.alloc_heap_new _ _,rfl⟩)⟩
  ·simp only [axE,axV]
   gi_wp2
   exact hK _ _ ((KeepsOthers.alloc _ _).from _) ((aB _ W).alloc hiw _) ((sI hwW4).alloc _ hi) ⟨W.heap.size,.inr (.inr ⟨by first|rfl|trivial,World.alloc_heap_new _ _,rfl⟩)⟩
 case body =>
  rintro l pre x a' W _ _ ⟨x',y',z',hB,u0,u1,u2,hE,hR,hk,hbW⟩ ⟨Bx,h3⟩ _
  obtain ⟨u,hu⟩:∃ u,ev pre=u:=⟨_,rfl⟩
  have hue:=hev pre
  rw [hu] at hE hue
  have hBlt:=(Array.getElem?_eq_some_iff.1 hB).1
  have hElt:=(Array.getElem?_eq_some_iff.1 hE).1
  have hRlt:=(Array.getElem?_eq_some_iff.1 hR).1
  have hGW:=aH (hG.below hbW)
  have HW:=aH (aI hE (aI hR (aI hk hbW)))
  have HU:=aH (aI u0 (aI u1 u2))
  have HBB:=aH hB
  clear hB u0 u1 u2 hE hR hk hbW
  rcases h3 with ⟨rfl,h3,rfl⟩|⟨rfl,h3,rfl⟩|⟨rfl,h3,rfl⟩
  ·have cb0:W.cell? ⟨Bx,0,none⟩=some (.string b1):=by simp [World.cell?,h3]
   have cb1:W.cell? ⟨Bx,1,none⟩=some (.string b2):=by simp [World.cell?,h3]
   have cb2:W.cell? ⟨Bx,2,none⟩=some (.string b3):=by simp [World.cell?,h3]
   clear h3
   gi_wp2
   refine ⟨trivial,(CallsIn.inRound l (callsIn_wide.2 (cX.out W hGW.out))).mono ?_⟩
   rintro e w2 ⟨m,rfl,hm,hbl⟩
   have hs2:=hbl.size
   have hB2:=(hbl.block B hBlt).trans HBB.out
   have hE2:=(hbl.block E hElt).trans HW.out.1
   obtain ⟨q0,r0,q1,r1,q2,r2,q3,r3,q4,r4,q5,r5,q6,r6,q7,r7,q8,r8⟩:=up9 x' (show B<w2.heap.size by omega) hB2 (⟨rfl,rfl,rfl,rfl,rfl,rfl,rfl,rfl,rfl⟩:N9 _ _ 9 10 11 12 13 14 15 16 17)
   have qE:∀ o,(w2.alloc o).cell? ⟨E,0,none⟩=some (.int .i64 u):=sF (by omega) (by simp [World.cell?,hE2])
   have H2:=aH (aI hm (aI hbl (aI hB2 hE2)))
   clear hm hbl hB2 hE2
   simp only [C9.val]
   gi_wp2
   obtain ⟨hm,hbl,hB2,hE2⟩:=H2.out
   obtain ⟨hE,hR,hk,hbW⟩:=HW.out
   obtain ⟨u0,u1,u2⟩:=HU.out
   have hBa:(w2.alloc (m9 m)).heap[B]?=some (.cells (fE k x' y' z').toArray 68 (0,0)):=(((aB _ w2).alloc (aR _) _).block B (by omega)).trans hB2
   have hT:Turned B (.cells (fE k m y' z').toArray 68 (0,0)) (w2.alloc (m9 m)) (st9 (w2.alloc (m9 m)) B 9 10 11 12 13 14 15 16 17 m):=turn9 9 hBa _ _ _ _ _ _ _ _ _ (by kernel_rfl)
   obtain ⟨X1,hX1⟩:∃ X1,st9 (w2.alloc (m9 m)) B 9 10 11 12 13 14 15 16 17 m=X1:=⟨_,rfl⟩
   rw [hX1] at hT
   unfold st9 m9 at hX1
   rw [hX1]
   have hsX:X1.heap.size=w2.heap.size+1:=by rw [hT.size];simp
   have hh:(X1.alloc (.cells #[.int .i64 u,.int .i64 ex] 34 (0,0))).heap[w2.heap.size+1]?=some (.cells #[.int .i64 u,.int .i64 ex] 34 (0,0)):=by rw [← hsX];exact World.alloc_heap_new _ _
   clear hX1 hBa
   obtain ⟨v,hv⟩:∃ v,f2 u ex=v:=⟨_,rfl⟩
   refine ⟨trivial,(CallsIn.inRound l (callsIn_wide.2 (qM hue hex hv _ (w2.heap.size+1) 34 hh))).mono ?_⟩
   rintro e w5 ⟨rfl,h5⟩
   obtain ⟨r1,r2,r3,r4,r4',r5,r6⟩:=oJ (u:=u) (v:=v) (k:=k) (S:=W4.heap.size) (n:=w.heap.size) hbl HBB.out hE hEB hT h5 hbW.size hB0 hE0
   have hE5:w5.heap[E]?=some (.cells #[.int .i64 u] 34 (0,0)):=by have hs5:=h5.size;exact (h5.block E (by simp;omega)).trans ((((aB _ X1).alloc (aR _) _).block E (by omega)).trans ((hT.block E hEB).trans ((((aB _ w2).alloc (aR _) _).block E (by omega)).trans hE2)))
   have qE5:w5.cell? ⟨E,0,none⟩=some (.int .i64 u):=by simp [World.cell?,hE5]
   have rE5:w5.frozen? ⟨E,0,none⟩=false:=bA hE5 0
   have HF:KeepsFrom W4.heap.size W (w5.setCell ⟨E,0,none⟩ (.int .i64 v))∧Below w.heap.size W (w5.setCell ⟨E,0,none⟩ (.int .i64 v))∧InvE ev w k B E (w.heap.size+1) o1 o2 o3 x1 x2 x3 y1 y2 y3 z1 z2 z3 (pre ++ [0]) (w5.setCell ⟨E,0,none⟩ (.int .i64 v)) :=
    ⟨r5,r6,m,y',z',r1,fun _=>Vc.kext hm r4,fun h=>Vc.kext (Vc.kext (u1 (by simpa using h)) r4') r4,fun h=>Vc.kext (Vc.kext (u2 (by simpa using h)) r4') r4,(by rw [p0 pre,hu,hv];exact r2),(r3 _ hRlt hRB hRE).trans hR,Vc.kext (Vc.kext hk r4') r4,hbW.trans r6⟩
   have HG:=aH HF
   clear HF r1 r2 r3 r4 r4' r5 r6 hE5 hT hm hbl hB2 hE2 hE hR hk hbW u0 u1 u2 hh h5 hsX HW HU H2 hu hue
   gi_wp2
   exact HG.out
  ·have cb0:W.cell? ⟨Bx,0,none⟩=some (.string c1):=by simp [World.cell?,h3]
   have cb1:W.cell? ⟨Bx,1,none⟩=some (.string c2):=by simp [World.cell?,h3]
   have cb2:W.cell? ⟨Bx,2,none⟩=some (.string c3):=by simp [World.cell?,h3]
   clear h3
   gi_wp2
   refine ⟨trivial,(CallsIn.inRound l (callsIn_wide.2 (cY.out W hGW.out))).mono ?_⟩
   rintro e w2 ⟨m,rfl,hm,hbl⟩
   have hs2:=hbl.size
   have hB2:=(hbl.block B hBlt).trans HBB.out
   have hE2:=(hbl.block E hElt).trans HW.out.1
   obtain ⟨q0,r0,q1,r1,q2,r2,q3,r3,q4,r4,q5,r5,q6,r6,q7,r7,q8,r8⟩:=up9 y' (show B<w2.heap.size by omega) hB2 (⟨rfl,rfl,rfl,rfl,rfl,rfl,rfl,rfl,rfl⟩:N9 _ _ 18 19 20 21 22 23 24 25 26)
   have qE:∀ o,(w2.alloc o).cell? ⟨E,0,none⟩=some (.int .i64 u):=sF (by omega) (by simp [World.cell?,hE2])
   have H2:=aH (aI hm (aI hbl (aI hB2 hE2)))
   clear hm hbl hB2 hE2
   simp only [C9.val]
   gi_wp2
   obtain ⟨hm,hbl,hB2,hE2⟩:=H2.out
   obtain ⟨hE,hR,hk,hbW⟩:=HW.out
   obtain ⟨u0,u1,u2⟩:=HU.out
   have hBa:(w2.alloc (m9 m)).heap[B]?=some (.cells (fE k x' y' z').toArray 68 (0,0)):=(((aB _ w2).alloc (aR _) _).block B (by omega)).trans hB2
   have hT:Turned B (.cells (fE k x' m z').toArray 68 (0,0)) (w2.alloc (m9 m)) (st9 (w2.alloc (m9 m)) B 18 19 20 21 22 23 24 25 26 m):=turn9 18 hBa _ _ _ _ _ _ _ _ _ (by kernel_rfl)
   obtain ⟨X1,hX1⟩:∃ X1,st9 (w2.alloc (m9 m)) B 18 19 20 21 22 23 24 25 26 m=X1:=⟨_,rfl⟩
   rw [hX1] at hT
   unfold st9 m9 at hX1
   rw [hX1]
   have hsX:X1.heap.size=w2.heap.size+1:=by rw [hT.size];simp
   have hh:(X1.alloc (.cells #[.int .i64 u,.int .i64 ey] 34 (0,0))).heap[w2.heap.size+1]?=some (.cells #[.int .i64 u,.int .i64 ey] 34 (0,0)):=by rw [← hsX];exact World.alloc_heap_new _ _
   clear hX1 hBa
   obtain ⟨v,hv⟩:∃ v,f2 u ey=v:=⟨_,rfl⟩
   refine ⟨trivial,(CallsIn.inRound l (callsIn_wide.2 (qM hue hey hv _ (w2.heap.size+1) 34 hh))).mono ?_⟩
   rintro e w5 ⟨rfl,h5⟩
   obtain ⟨r1,r2,r3,r4,r4',r5,r6⟩:=oJ (u:=u) (v:=v) (k:=k) (S:=W4.heap.size) (n:=w.heap.size) hbl HBB.out hE hEB hT h5 hbW.size hB0 hE0
   have hE5:w5.heap[E]?=some (.cells #[.int .i64 u] 34 (0,0)):=by have hs5:=h5.size;exact (h5.block E (by simp;omega)).trans ((((aB _ X1).alloc (aR _) _).block E (by omega)).trans ((hT.block E hEB).trans ((((aB _ w2).alloc (aR _) _).block E (by omega)).trans hE2)))
   have qE5:w5.cell? ⟨E,0,none⟩=some (.int .i64 u):=by simp [World.cell?,hE5]
   have rE5:w5.frozen? ⟨E,0,none⟩=false:=bA hE5 0
   have HF:KeepsFrom W4.heap.size W (w5.setCell ⟨E,0,none⟩ (.int .i64 v))∧Below w.heap.size W (w5.setCell ⟨E,0,none⟩ (.int .i64 v))∧InvE ev w k B E (w.heap.size+1) o1 o2 o3 x1 x2 x3 y1 y2 y3 z1 z2 z3 (pre ++ [1]) (w5.setCell ⟨E,0,none⟩ (.int .i64 v)) :=
    ⟨r5,r6,x',m,z',r1,fun h=>Vc.kext (Vc.kext (u0 (by simpa using h)) r4') r4,fun _=>Vc.kext hm r4,fun h=>Vc.kext (Vc.kext (u2 (by simpa using h)) r4') r4,(by rw [p1 pre,hu,hv];exact r2),(r3 _ hRlt hRB hRE).trans hR,Vc.kext (Vc.kext hk r4') r4,hbW.trans r6⟩
   have HG:=aH HF
   clear HF r1 r2 r3 r4 r4' r5 r6 hE5 hT hm hbl hB2 hE2 hE hR hk hbW u0 u1 u2 hh h5 hsX HW HU H2 hu hue
   gi_wp2
   exact HG.out
  ·have cb0:W.cell? ⟨Bx,0,none⟩=some (.string d1):=by simp [World.cell?,h3]
   have cb1:W.cell? ⟨Bx,1,none⟩=some (.string d2):=by simp [World.cell?,h3]
   have cb2:W.cell? ⟨Bx,2,none⟩=some (.string d3):=by simp [World.cell?,h3]
   clear h3
   gi_wp2
   refine ⟨trivial,(CallsIn.inRound l (callsIn_wide.2 (cZ.out W hGW.out))).mono ?_⟩
   rintro e w2 ⟨m,rfl,hm,hbl⟩
   have hs2:=hbl.size
   have hB2:=(hbl.block B hBlt).trans HBB.out
   have hE2:=(hbl.block E hElt).trans HW.out.1
   obtain ⟨q0,r0,q1,r1,q2,r2,q3,r3,q4,r4,q5,r5,q6,r6,q7,r7,q8,r8⟩:=up9 z' (show B<w2.heap.size by omega) hB2 (⟨rfl,rfl,rfl,rfl,rfl,rfl,rfl,rfl,rfl⟩:N9 _ _ 27 28 29 30 31 32 33 34 35)
   have qE:∀ o,(w2.alloc o).cell? ⟨E,0,none⟩=some (.int .i64 u):=sF (by omega) (by simp [World.cell?,hE2])
   have H2:=aH (aI hm (aI hbl (aI hB2 hE2)))
   clear hm hbl hB2 hE2
   simp only [C9.val]
   gi_wp2
   obtain ⟨hm,hbl,hB2,hE2⟩:=H2.out
   obtain ⟨hE,hR,hk,hbW⟩:=HW.out
   obtain ⟨u0,u1,u2⟩:=HU.out
   have hBa:(w2.alloc (m9 m)).heap[B]?=some (.cells (fE k x' y' z').toArray 68 (0,0)):=(((aB _ w2).alloc (aR _) _).block B (by omega)).trans hB2
   have hT:Turned B (.cells (fE k x' y' m).toArray 68 (0,0)) (w2.alloc (m9 m)) (st9 (w2.alloc (m9 m)) B 27 28 29 30 31 32 33 34 35 m):=turn9 27 hBa _ _ _ _ _ _ _ _ _ (by kernel_rfl)
   obtain ⟨X1,hX1⟩:∃ X1,st9 (w2.alloc (m9 m)) B 27 28 29 30 31 32 33 34 35 m=X1:=⟨_,rfl⟩
   rw [hX1] at hT
   unfold st9 m9 at hX1
   rw [hX1]
   have hsX:X1.heap.size=w2.heap.size+1:=by rw [hT.size];simp
   have hh:(X1.alloc (.cells #[.int .i64 u,.int .i64 ez] 34 (0,0))).heap[w2.heap.size+1]?=some (.cells #[.int .i64 u,.int .i64 ez] 34 (0,0)):=by rw [← hsX];exact World.alloc_heap_new _ _
   clear hX1 hBa
   obtain ⟨v,hv⟩:∃ v,f2 u ez=v:=⟨_,rfl⟩
   refine ⟨trivial,(CallsIn.inRound l (callsIn_wide.2 (qM hue hez hv _ (w2.heap.size+1) 34 hh))).mono ?_⟩
   rintro e w5 ⟨rfl,h5⟩
   obtain ⟨r1,r2,r3,r4,r4',r5,r6⟩:=oJ (u:=u) (v:=v) (k:=k) (S:=W4.heap.size) (n:=w.heap.size) hbl HBB.out hE hEB hT h5 hbW.size hB0 hE0
   have hE5:w5.heap[E]?=some (.cells #[.int .i64 u] 34 (0,0)):=by have hs5:=h5.size;exact (h5.block E (by simp;omega)).trans ((((aB _ X1).alloc (aR _) _).block E (by omega)).trans ((hT.block E hEB).trans ((((aB _ w2).alloc (aR _) _).block E (by omega)).trans hE2)))
   have qE5:w5.cell? ⟨E,0,none⟩=some (.int .i64 u):=by simp [World.cell?,hE5]
   have rE5:w5.frozen? ⟨E,0,none⟩=false:=bA hE5 0
   have HF:KeepsFrom W4.heap.size W (w5.setCell ⟨E,0,none⟩ (.int .i64 v))∧Below w.heap.size W (w5.setCell ⟨E,0,none⟩ (.int .i64 v))∧InvE ev w k B E (w.heap.size+1) o1 o2 o3 x1 x2 x3 y1 y2 y3 z1 z2 z3 (pre ++ [2]) (w5.setCell ⟨E,0,none⟩ (.int .i64 v)) :=
    ⟨r5,r6,x',y',m,r1,fun h=>Vc.kext (Vc.kext (u0 (by simpa using h)) r4') r4,fun h=>Vc.kext (Vc.kext (u1 (by simpa using h)) r4') r4,fun _=>Vc.kext hm r4,(by rw [p2 pre,hu,hv];exact r2),(r3 _ hRlt hRB hRE).trans hR,Vc.kext (Vc.kext hk r4') r4,hbW.trans r6⟩
   have HG:=aH HF
   clear HF r1 r2 r3 r4 r4' r5 r6 hE5 hT hm hbl hB2 hE2 hE hR hk hbW u0 u1 u2 hh h5 hsX HW HU H2 hu hue
   gi_wp2
   exact HG.out
 case done =>
  rintro D ys W hD rfl ⟨x',y',z',hB,u0,u1,u2,hE,hR,hk,hbW⟩ hK
  rw [ev3] at hE
  have vx:=u0 (by simp)
  have vy:=u1 (by simp)
  have vz:=u2 (by simp)
  by_cases hZ0:zq=0
  ·subst hZ0
   have qE:W.cell? ⟨E,0,none⟩=some (.int .i64 0):=by simp [World.cell?,hE]
   have HW:=aH (aI hB (aI hR (aI hk (aI vx (aI vy (aI vz (aI hbW hK)))))))
   clear u0 u1 u2 hB hR hk vx vy vz hbW hK hE
   go_wp2_with fail
   refine wp_region_ty Kn [w.heap.size+1] (by kernel_rfl) (by kernel_rfl) ?_
   refine bQ (.agg (fE k x' y' z').toArray) rfl (fun A w' hB hk=>?_) ?_
   ·simp [known,specOf,Kd.spec,Sp.is,isVar,Oper.looksAt,Op.operands,Call.operands,Act.eval] at hk
    exact load_all rfl (by first|exact hk|simpa [Act.eval] using hk) (hB.blk HW.out.1 (by simp;omega)) Tryz.underlying68 rfl (by kernel_rfl)
   refine bQ (.agg (fE k x' y' z').toArray) rfl (fun A w' hB hk=>?_) ?_
   ·simp [known,specOf,Kd.spec,Sp.is,isVar,Oper.looksAt,Op.operands,Call.operands,Act.eval] at hk
    exact load_all rfl (by first|exact hk|simpa [Act.eval] using hk) (hB.blk HW.out.1 (by simp;omega)) Tryz.underlying68 rfl (by kernel_rfl)
   refine aN (Sp.is (.int .i64 zc)) (Sp.is_stable _ _) rfl (fun A w' hB hk=>?_) ?_
   ·simp [known,specOf,Kd.spec,Sp.is,isVar,Oper.looksAt,Op.operands,Call.operands,Act.eval] at hk
    simp [go_sem,hk]
    refine aF ?_
    have hx:=Base.extT hB HW.out.2.1 (mA _ _ _ _ _)
    exact (HC.out (by first|trivial|rfl) _ _ _ _ _ (Vc.kext HW.out.2.2.1 hx) (Vc.kext HW.out.2.2.2.1 hx) (Vc.kext HW.out.2.2.2.2.1 hx) (Vc.kext HW.out.2.2.2.2.2.1 hx)).mono (fun e w'' ⟨e1,e2⟩=>⟨_,e1,e2,rfl⟩)
   refine gH (w.heap.size+1) (.cells (fE C9.zero C9.zero C9.zero C9.zero).toArray 68 (0,0)) (fun o _=>o = .cells (fE k x' y' z').toArray 68 (0,0)) (fun _ _ _ h _=>h) rfl rfl (by simp) HW.out.2.1 (mA _ _ _ _ _) (fun A w' hB hk h0=>?_) ?_
   ·simp [known,specOf,Kd.spec,Sp.is,isVar,Oper.looksAt,Op.operands,Call.operands,Act.eval] at hk
    have hst:=kY (P:=Tryz.prog) (ρ:=A.eval) (w:=w') (o := { dst:=none,op:=Op.store 68 (Operand.tmp 2) (Operand.tmp 40),type:=0,pos := "frame.go:38",after := #[{ on:=0,ground:=Ground.data },{ on:=2,ground:=Ground.chain },{ on:=0,ground:=Ground.phase },{ on:=1,ground:=Ground.textOnly Departure.lateStores },{ on:=2,ground:=Ground.textOnly Departure.lateStoresUnsure }],guard:=none }) (T':=68) (g:=w.heap.size+1) (off:=0) (n:=36) (cs:=fE C9.zero C9.zero C9.zero C9.zero) (es:=fE k x' y' z') rfl (by simp [Act.eval,hk]) (by simp [Act.eval,hk,Value.cells]) (by kernel_rfl) rfl (frL_one _ _ _ _) h0 (show 0+36≤36 by omega)
    have e:List.take 0 (fE C9.zero C9.zero C9.zero C9.zero)++fE k x' y' z'++List.drop (0+(fE k x' y' z').length) (fE C9.zero C9.zero C9.zero C9.zero)=fE k x' y' z':=by kernel_rfl
    rw [e] at hst
    rw [hst.1]
    exact ⟨_,⟨hst.2.os,hst.2.tape,hst.2.output,hst.2.size,hst.2.at_,hst.2.block⟩,rfl⟩
   refine aY _ ?_ (by first|exact .inl rfl|exact .inr rfl) (by rfl) (by simp [specOf,Kd.spec];rfl) ?_ rfl ?_
   ·exact Sp.is_stable _ _
   refine ⟨by first|rfl|decide,fun f w2 hB hF hAp=>?_⟩;simp [Final1,Sp.is,isVar] at hF;simp only [frameOf]
   obtain ⟨f3,hw2,_,_,_⟩:=hF
   have hDR:¬ D=w.heap.size+1:=by
    intro e
    have h1:=HW.out.2.1
    have h2:=HW.out.2.2.2.2.2.2.2
    rw [e,h1] at h2
    injection h2 with h2
    cases h2
   have hK2:=hB.blk HW.out.2.2.2.2.2.2.2 (by simp;omega)
   have HV:=aH (aI hw2 (aI hB hK2))
   clear hAp
   have HBB:=aH hB
   clear hB
   go_wp2
   have hB:=HBB.out
   refine ⟨by simp,.inl ⟨_,_,rfl,run_takeDeferred hK2,?_⟩⟩
   have hg5:(w2.putObj D (.deferred none)).heap[w.heap.size+1]?=some (.cells (fE k x' y' z').toArray 68 (0,0)):=(World.putObj_heap_other (by omega)).trans hw2
   have hl:=run_loadVar_mid (P:=Tryz.prog) (w2.putObj D (.deferred none)) (w.heap.size+1) 0 68 (((fE k x' y' z').drop 0).take 36) _ (qQ hg5 0 36) Tryz.underlying68 rfl (by kernel_rfl)
   have e36:((fE k x' y' z').drop 0).take 36=fE k x' y' z':=by kernel_rfl
   rw [e36] at hl
   have hbe:=Base.belowT hB HW.out.2.2.2.2.2.2.1 (by omega)
   have hx1:=Base.extT hB HW.out.2.1 (mA _ _ _ _ _)
   have hx2:Go.Proofs.YtghlkblebhhahaaGreatDoor.Ext Kn w2 (w2.putObj D (.deferred none)):=tN (grownBy_putObj' w2 D _) (fun r e=>by cases e;exact ⟨_,hK2,rfl⟩)
   have hDw:w.heap.size≤D:=by omega
   refine ⟨.tuple #[.agg (fE k x' y' z').toArray,.int .i64 zc],?_,k,x',y',z',rfl,Vc.kext (Vc.kext HW.out.2.2.1 hx1) hx2,Vc.kext (Vc.kext HW.out.2.2.2.1 hx1) hx2,Vc.kext (Vc.kext HW.out.2.2.2.2.1 hx1) hx2,Vc.kext (Vc.kext HW.out.2.2.2.2.2.1 hx1) hx2,hbe.trans (belowK_b (w:=w) (aR _) w2 D _ _ hDw hK2 rfl rfl)⟩
   refine (kC (vs := [.agg (fE k x' y' z').toArray,.int .i64 zc]) ?_).trans rfl
   show (List.mapM (vW _) [.cell 2 68,.tmp 3]).run _ _=_
   simp [List.mapM_cons,vW,Act.put,asAddr,Sem.run_bind,Result.andThen,hl,f3]
  ·have n1:(zq==0)=false:=by rw [beq_eq_false_iff_ne];exact hZ0
   have qE:W.cell? ⟨E,0,none⟩=some (.int .i64 zq):=by simp [World.cell?,hE]
   have HW:=aH (aI hE (aI hR (aI hk (aI vx (aI vy (aI vz (aI hbW hK)))))))
   clear u0 u1 u2 hB hR hk vx vy vz hbW hK hE
   go_wp2_with fail
   refine wp_region_ty Kn [w.heap.size+1] (by kernel_rfl) (by kernel_rfl) ?_
   refine bQ (.agg (fE C9.zero C9.zero C9.zero C9.zero).toArray) rfl (fun A w' hB hk=>?_) ?_
   ·refine bH ?_
    exact bL (by kernel_rfl) _
   refine bQ (.int .i64 zq) rfl (fun A w' hB hk=>?_) ?_
   ·simp [known,specOf,Kd.spec,Sp.is,isVar,Oper.looksAt,Op.operands,Call.operands,Act.eval] at hk
    have hc:=hB.blk HW.out.1 (by simp;omega)
    have hc:w'.cell? ⟨E,0,none⟩=some (.int .i64 zq):=by simp [World.cell?,hc]
    simp [go_sem,hk,hc]
   refine gH (w.heap.size+1) (.cells (fE C9.zero C9.zero C9.zero C9.zero).toArray 68 (0,0)) (fun o _=>o = .cells (fE C9.zero C9.zero C9.zero C9.zero).toArray 68 (0,0)) (fun _ _ _ h _=>h) rfl rfl (by simp) HW.out.2.1 (mA _ _ _ _ _) (fun A w' hB hk h0=>?_) ?_
   ·simp [known,specOf,Kd.spec,Sp.is,isVar,Oper.looksAt,Op.operands,Call.operands,Act.eval] at hk
    have hst:=kY (P:=Tryz.prog) (ρ:=A.eval) (w:=w') (o := { dst:=none,op:=Op.store 68 (Operand.tmp 2) (Operand.tmp 38),type:=0,pos := "frame.go:36",after := #[{ on:=0,ground:=Ground.data },{ on:=0,ground:=Ground.phase },{ on:=1,ground:=Ground.textOnly Departure.lateStores }],guard:=none }) (T':=68) (g:=w.heap.size+1) (off:=0) (n:=36) (cs:=fE C9.zero C9.zero C9.zero C9.zero) (es:=fE C9.zero C9.zero C9.zero C9.zero) rfl (by simp [Act.eval,hk]) (by simp [Act.eval,hk,Value.cells]) (by kernel_rfl) rfl (frL_one _ _ _ _) h0 (show 0+36≤36 by omega)
    have e:List.take 0 (fE C9.zero C9.zero C9.zero C9.zero)++fE C9.zero C9.zero C9.zero C9.zero++List.drop (0+(fE C9.zero C9.zero C9.zero C9.zero).length) (fE C9.zero C9.zero C9.zero C9.zero)=fE C9.zero C9.zero C9.zero C9.zero:=by kernel_rfl
    rw [e] at hst
    rw [hst.1]
    exact ⟨_,⟨hst.2.os,hst.2.tape,hst.2.output,hst.2.size,hst.2.at_,hst.2.block⟩,rfl⟩
   refine aY _ ?_ (by first|exact .inl rfl|exact .inr rfl) (by rfl) (by simp [specOf,Kd.spec];rfl) ?_ rfl ?_
   ·exact Sp.is_stable _ _
   refine ⟨by first|rfl|decide,fun f w2 hB hF hAp=>?_⟩;simp [Final1,Sp.is,isVar] at hF;simp only [frameOf]
   obtain ⟨f3,hw2,_⟩:=hF
   have hDR:¬ D=w.heap.size+1:=by
    intro e
    have h1:=HW.out.2.1
    have h2:=HW.out.2.2.2.2.2.2.2
    rw [e,h1] at h2
    injection h2 with h2
    cases h2
   have hK2:=hB.blk HW.out.2.2.2.2.2.2.2 (by simp;omega)
   have HV:=aH (aI hw2 (aI hB hK2))
   clear hAp
   have HBB:=aH hB
   clear hB
   go_wp2
   have hB:=HBB.out
   refine ⟨by simp,.inl ⟨_,_,rfl,run_takeDeferred hK2,?_⟩⟩
   have hg5:(w2.putObj D (.deferred none)).heap[w.heap.size+1]?=some (.cells (fE C9.zero C9.zero C9.zero C9.zero).toArray 68 (0,0)):=(World.putObj_heap_other (by omega)).trans hw2
   have hl:=run_loadVar_mid (P:=Tryz.prog) (w2.putObj D (.deferred none)) (w.heap.size+1) 0 68 (((fE C9.zero C9.zero C9.zero C9.zero).drop 0).take 36) _ (qQ hg5 0 36) Tryz.underlying68 rfl (by kernel_rfl)
   have e36:((fE C9.zero C9.zero C9.zero C9.zero).drop 0).take 36=fE C9.zero C9.zero C9.zero C9.zero:=by kernel_rfl
   rw [e36] at hl
   have hbe:=Base.belowT hB HW.out.2.2.2.2.2.2.1 (by omega)
   have hx1:=Base.extT hB HW.out.2.1 (mA _ _ _ _ _)
   have hx2:Go.Proofs.YtghlkblebhhahaaGreatDoor.Ext Kn w2 (w2.putObj D (.deferred none)):=tN (grownBy_putObj' w2 D _) (fun r e=>by cases e;exact ⟨_,hK2,rfl⟩)
   have hDw:w.heap.size≤D:=by omega
   refine ⟨.tuple #[.agg (fE C9.zero C9.zero C9.zero C9.zero).toArray,.int .i64 zq],?_,rfl,⟨k,Vc.kext (Vc.kext HW.out.2.2.1 hx1) hx2⟩,⟨x',Vc.kext (Vc.kext HW.out.2.2.2.1 hx1) hx2⟩,⟨y',Vc.kext (Vc.kext HW.out.2.2.2.2.1 hx1) hx2⟩,⟨z',Vc.kext (Vc.kext HW.out.2.2.2.2.2.1 hx1) hx2⟩,hbe.trans (belowK_b (w:=w) (aR _) w2 D _ _ hDw hK2 rfl rfl)⟩
   refine (kC (vs := [.agg (fE C9.zero C9.zero C9.zero C9.zero).toArray,.int .i64 zq]) ?_).trans rfl
   show (List.mapM (vW _) [.cell 2 68,.tmp 3]).run _ _=_
   simp [List.mapM_cons,vW,Act.put,asAddr,Sem.run_bind,Result.andThen,hl,f3]
 case stop=>rintro D c pre W _ _ h _;exact h.elim
end Fr
namespace Fr
open Go.RowKit Go.Shelf Ab Pl
set_option maxRecDepth 100000 in
theorem yI (o1 o2 o3 x1 x2 x3 y1 y2 y3 z1 z2 z3:Rat) (ho:mT o1 o2 o3) (hx:mT x1 x2 x3) (hy:mT y1 y2 y3) (hz:mT z1 z2 z3) (lm:Lm 25 x1 x2 x3 y1 y2 y3 z1 z2 z3) (hax:Ax x1 x2 x3 y1 y2 y3 z1 z2 z3) (w:World) (hG:Gl w) :
 Calls Tryz.prog 30 #[.agg #[.string (writeB o1),.string (writeB o2),.string (writeB o3),.string (writeB x1),.string (writeB x2),.string (writeB x3),.string (writeB y1),.string (writeB y2),.string (writeB y3),.string (writeB z1),.string (writeB z2),.string (writeB z3)]] w fun e w' => ∃ o x y z:C9,e = .returned (.tuple #[.agg (fE o x y z).toArray,.int .i64 0])∧Vc w' o.val o1 o2 o3∧Vc w' x.val x1 x2 x3∧Vc w' y.val y1 y2 y3∧Vc w' z.val z1 z2 z3∧Below w.heap.size w w':=by
 have h:=yH (writeB o1) (writeB o2) (writeB o3) (writeB x1) (writeB x2) (writeB x3) (writeB y1) (writeB y2) (writeB y3) (writeB z1) (writeB z2) (writeB z3) o1 o2 o3 x1 x2 x3 y1 y2 y3 z1 z2 z3 0 0 0 0 0 0
  (.inl rfl) (.inl rfl) (.inl rfl) (.inl rfl) rfl (fun W hW=>kL ho W hW) (fun W hW=>kL hx W hW) (fun W hW=>kL hy W hW) (fun W hW=>kL hz W hW)
  (fun _ _ _ _ _ _ v0 v1 v2 v3=>check_any v0 v1 v2 v3 lm hax) w hG
 rw [if_pos rfl] at h
 simpa only [if_true] using h
theorem zV {β:List Nat} {w:World}:∀ (l:List ByteArray) (cs:List Value),holdsL β (l.map dD) cs w→cs=l.map Value.string
 | [],cs,h=>h
 | b::l,cs,⟨x,y,e,h1,h2⟩=>by
   have h1:x = [.string b]:=h1
   rw [e,h1,zV l y h2]
   rfl
section
variable {o1 o2 o3 x1 x2 x3 y1 y2 y3 z1 z2 z3:Rat}
theorem readFrameF (h:Wf o1 o2 o3 x1 x2 x3 y1 y2 y3 z1 z2 z3) (hax:Ax x1 x2 x3 y1 y2 y3 z1 z2 z3):jX 30 [iI o1 o2 o3 x1 x2 x3 y1 y2 y3 z1 z2 z3] (okFr o1 o2 o3 x1 x2 x3 y1 y2 y3 z1 z2 z3):=by
 intro β w vs hG hv
 obtain ⟨v,rfl,cs,rfl,h1⟩:=dL hv
 have e:=zV [writeB o1,writeB o2,writeB o3,writeB x1,writeB x2,writeB x3,writeB y1,writeB y2,writeB y3,writeB z1,writeB z2,writeB z3] cs h1
 rw [e]
 refine (yI o1 o2 o3 x1 x2 x3 y1 y2 y3 z1 z2 z3 h.o h.x h.y h.z (h.lm.mono (by decide)) hax w hG).mono ?_
 rintro e w' ⟨o,x,y,z,e1,v0,v1,v2,v3,hb⟩
 exact ⟨_,e1,hb,[.agg (fE o x y z).toArray,.int .i64 0],rfl,_,_,rfl,fr_holds v0 v1 v2 v3,_,_,rfl,⟨rfl,rfl⟩,rfl⟩
theorem fv_of (h:Wf o1 o2 o3 x1 x2 x3 y1 y2 y3 z1 z2 z3) (hax:Ax x1 x2 x3 y1 y2 y3 z1 z2 z3):Fv o1 o2 o3 x1 x2 x3 y1 y2 y3 z1 z2 z3:=⟨h,hax,readFrameF h hax⟩
end
end Fr
namespace Ab
open Go.RowKit Pl
inductive AvL:List (AV Kn)→List (AV Kn)→Prop where
 | nil:AvL [] []
 | ag {k m l l'}:LitL k m→AvL l l'→AvL (.fv (.ag k)::l) (.fv (.ag m)::l')
 | txt {b:ByteArray} {l l'}:AvL l l'→AvL (.fv (.sc (dD b))::l) (.fv (.sc (.lit (.string b)))::l')
 | same {x:AV Kn} {l l'}:AvL l l'→AvL (x::l) (x::l')
theorem AvL.to {β:List Nat} {w:World} {l m:List (AV Kn)} (h:AvL l m):∀ {vs:List Value},holdsA β m vs w→holdsA β l vs w:=by
 induction h with
 | nil=>intro vs h;exact h
 | ag hl _ ih=>rintro vs ⟨v,r,e,h1,h2⟩;exact ⟨v,r,e,(ag_lit hl).2 h1,ih h2⟩
 | txt _ ih=>rintro vs ⟨v,r,e,h1,h2⟩;exact ⟨v,r,e,sc_lit.2 h1,ih h2⟩
 | same _ ih=>rintro vs ⟨v,r,e,h1,h2⟩;exact ⟨v,r,e,h1,ih h2⟩
inductive FvL:List (FV Kn)→List (FV Kn)→Prop where
 | nil:FvL [] []
 | ag {k m l l'}:LitL k m→FvL l l'→FvL (.ag k::l) (.ag m::l')
 | txt {b:ByteArray} {l l'}:FvL l l'→FvL (.sc (dD b)::l) (.sc (.lit (.string b))::l')
 | same {x:FV Kn} {l l'}:FvL l l'→FvL (x::l) (x::l')
theorem FvL.to {β:List Nat} {w:World} {l m:List (FV Kn)} (h:FvL l m):∀ {vs:List Value},holdsF β l vs w→holdsF β m vs w:=by
 induction h with
 | nil=>intro vs h;exact h
 | ag hl _ ih=>rintro vs ⟨v,r,e,h1,h2⟩;exact ⟨v,r,e,(ag_lit hl).1 h1,ih h2⟩
 | txt _ ih=>rintro vs ⟨v,r,e,h1,h2⟩;exact ⟨v,r,e,(sc_lit (β:=β)).1 h1,ih h2⟩
 | same _ ih=>rintro vs ⟨v,r,e,h1,h2⟩;exact ⟨v,r,e,h1,ih h2⟩
theorem FitsW.lits {P:Program} {I:World→Prop} {f:FuncId} {l l' : List (AV Kn)} {r r' : List (FV Kn)} (h:FitsW P I f l (.tup r)) (ha:AvL l l') (hr:FvL r r'):FitsW P I f l' (.tup r') :=
 (h.args fun _ _ _ hv=>ha.to hv).res fun _ _ _ ⟨vs,e,hv⟩=>⟨vs,e,hr.to hv⟩
theorem Fits.lits {P:Program} {f:FuncId} {l l' : List (AV Kn)} {k m:List (Seg Kn)} (h:Fits P f l (.fv (.ag k))) (ha:AvL l l') (hr:LitL k m):Fits P f l' (.fv (.ag m)):=fun β w vs hv =>
 (h β w vs (ha.to hv)).mono fun e w' ⟨v,e1,e2,e3⟩=>⟨v,e1,e2,(ag_lit hr).1 e3⟩
theorem vc_eq {P:Program} {f:FuncId} {l:List (AV Kn)} {a b c a' b' c' : Rat} (h:Fits P f l (vc a b c)) (e1:a=a') (e2:b=b') (e3:c=c'):Fits P f l (vc a' b' c'):=by
 subst e1
 subst e2
 subst e3
 exact h
theorem wr_q {q:Rat} (hn:q.num.natAbs<1000000000) (hd:q.den<1000000000):Wr q :=
 ⟨Nat.le_trans (decB_size (k:=8) hn) (by decide),Nat.le_trans (decB_size (k:=8) hd) (by decide)⟩
theorem oK {z:Int} (h:z.natAbs<1000000000):Wr (z:Rat):=wr_q h (show 1<1000000000 by omega)
theorem jV {q:Rat} {n:Int} {d:Nat} {a b:ByteArray} (hn:q.num=n) (hd:q.den=d) (h1:d≠1) (ha:aZ n=a) (hb:decB d=b):writeB q=a++(⟨#[47]⟩++b):=by
 rw [eQ (by rw [hd];exact h1),hn,hd,ha,hb]
theorem x0:writeB ((0:Int):Rat)=⟨#[48]⟩:=dB (by omega) (bO (n:=0) (by omega))
theorem x1:writeB ((1:Int):Rat)=⟨#[49]⟩:=dB (by omega) (bO (n:=1) (by omega))
theorem x2:writeB ((2:Int):Rat)=⟨#[50]⟩:=dB (by omega) (bO (n:=2) (by omega))
theorem x3:writeB ((3:Int):Rat)=⟨#[51]⟩:=dB (by omega) (bO (n:=3) (by omega))
theorem x4:writeB ((4:Int):Rat)=⟨#[52]⟩:=dB (by omega) (bO (n:=4) (by omega))
theorem x5:writeB ((5:Int):Rat)=⟨#[53]⟩:=dB (by omega) (bO (n:=5) (by omega))
theorem x7:writeB ((7:Int):Rat)=⟨#[55]⟩:=dB (by omega) (bO (n:=7) (by omega))
theorem x10:writeB ((10:Int):Rat)=⟨#[49,48]⟩:=dB (by omega) (lZ (n:=10) (by omega) (by omega))
theorem x24:writeB ((24:Int):Rat)=⟨#[50,52]⟩:=dB (by omega) (lZ (n:=24) (by omega) (by omega))
theorem x25:writeB ((25:Int):Rat)=⟨#[50,53]⟩:=dB (by omega) (lZ (n:=25) (by omega) (by omega))
theorem x28:writeB ((28:Int):Rat)=⟨#[50,56]⟩:=dB (by omega) (lZ (n:=28) (by omega) (by omega))
theorem x30:writeB ((30:Int):Rat)=⟨#[51,48]⟩:=dB (by omega) (lZ (n:=30) (by omega) (by omega))
theorem xm1:writeB ((-1:Int):Rat)=⟨#[45,49]⟩:=(fD (z := -1) (by omega) (b:=⟨#[49]⟩) (by rw [show Int.natAbs (-1)=1 from rfl];exact bO (n:=1) (by omega))).trans (ba_ext rfl)
theorem xm2:writeB ((-2:Int):Rat)=⟨#[45,50]⟩:=(fD (z := -2) (by omega) (b:=⟨#[50]⟩) (by rw [show Int.natAbs (-2)=2 from rfl];exact bO (n:=2) (by omega))).trans (ba_ext rfl)
theorem xm4:writeB ((-4:Int):Rat)=⟨#[45,52]⟩:=(fD (z := -4) (by omega) (b:=⟨#[52]⟩) (by rw [show Int.natAbs (-4)=4 from rfl];exact bO (n:=4) (by omega))).trans (ba_ext rfl)
theorem xm7:writeB ((-7:Int):Rat)=⟨#[45,55]⟩:=(fD (z := -7) (by omega) (b:=⟨#[55]⟩) (by rw [show Int.natAbs (-7)=7 from rfl];exact bO (n:=7) (by omega))).trans (ba_ext rfl)
theorem xm24:writeB ((-24:Int):Rat)=⟨#[45,50,52]⟩:=(fD (z := -24) (by omega) (b:=⟨#[50,52]⟩) (by rw [show Int.natAbs (-24)=24 from rfl];exact lZ (n:=24) (by omega) (by omega))).trans (ba_ext rfl)
theorem r0:Wr ((0:Int):Rat):=oK (by decide)
theorem r1:Wr ((1:Int):Rat):=oK (by decide)
theorem r2:Wr ((2:Int):Rat):=oK (by decide)
theorem r3:Wr ((3:Int):Rat):=oK (by decide)
theorem r4:Wr ((4:Int):Rat):=oK (by decide)
theorem r5:Wr ((5:Int):Rat):=oK (by decide)
theorem r7:Wr ((7:Int):Rat):=oK (by decide)
theorem r10:Wr ((10:Int):Rat):=oK (by decide)
theorem r24:Wr ((24:Int):Rat):=oK (by decide)
theorem r25:Wr ((25:Int):Rat):=oK (by decide)
theorem r28:Wr ((28:Int):Rat):=oK (by decide)
theorem r30:Wr ((30:Int):Rat):=oK (by decide)
theorem rm1:Wr ((-1:Int):Rat):=oK (by decide)
theorem rm2:Wr ((-2:Int):Rat):=oK (by decide)
theorem rm4:Wr ((-4:Int):Rat):=oK (by decide)
theorem rm7:Wr ((-7:Int):Rat):=oK (by decide)
theorem rm24:Wr ((-24:Int):Rat):=oK (by decide)
theorem nh12:(mkRat (1) 2).num=1:=by kernel_rfl
theorem dh12:(mkRat (1) 2).den=2:=by kernel_rfl
theorem xh12:writeB (mkRat (1) 2)=⟨#[49,47,50]⟩:=(jV nh12 dh12 (by decide) (a:=⟨#[49]⟩) ((dG (1)).trans x1) (bO (n:=2) (by omega))).trans (ba_ext rfl)
theorem rh12:Wr (mkRat (1) 2):=wr_q (by rw [nh12];decide) (by rw [dh12];decide)
theorem nm13:(mkRat (-1) 3).num = -1:=by kernel_rfl
theorem dm13:(mkRat (-1) 3).den=3:=by kernel_rfl
theorem xm13:writeB (mkRat (-1) 3)=⟨#[45,49,47,51]⟩:=(jV nm13 dm13 (by decide) (a:=⟨#[45,49]⟩) ((dG (-1)).trans xm1) (bO (n:=3) (by omega))).trans (ba_ext rfl)
theorem rm13:Wr (mkRat (-1) 3):=wr_q (by rw [nm13];decide) (by rw [dm13];decide)
theorem nq252:(mkRat (25) 2).num=25:=by kernel_rfl
theorem dq252:(mkRat (25) 2).den=2:=by kernel_rfl
theorem xq252:writeB (mkRat (25) 2)=⟨#[50,53,47,50]⟩:=(jV nq252 dq252 (by decide) (a:=⟨#[50,53]⟩) ((dG (25)).trans x25) (bO (n:=2) (by omega))).trans (ba_ext rfl)
theorem rq252:Wr (mkRat (25) 2):=wr_q (by rw [nq252];decide) (by rw [dq252];decide)
theorem nm12:(mkRat (-1) 2).num = -1:=by kernel_rfl
theorem dm12:(mkRat (-1) 2).den=2:=by kernel_rfl
theorem xm12:writeB (mkRat (-1) 2)=⟨#[45,49,47,50]⟩:=(jV nm12 dm12 (by decide) (a:=⟨#[45,49]⟩) ((dG (-1)).trans xm1) (bO (n:=2) (by omega))).trans (ba_ext rfl)
theorem rm12:Wr (mkRat (-1) 2):=wr_q (by rw [nm12];decide) (by rw [dm12];decide)
theorem nq23:(mkRat (2) 3).num=2:=by kernel_rfl
theorem dq23:(mkRat (2) 3).den=3:=by kernel_rfl
theorem xq23:writeB (mkRat (2) 3)=⟨#[50,47,51]⟩:=(jV nq23 dq23 (by decide) (a:=⟨#[50]⟩) ((dG (2)).trans x2) (bO (n:=3) (by omega))).trans (ba_ext rfl)
theorem rq23:Wr (mkRat (2) 3):=wr_q (by rw [nq23];decide) (by rw [dq23];decide)
theorem lv_2_0_4:jF 11 [it (2),it (0),it (4)] (.fv (.ag [.lit (.string ⟨#[50]⟩),.lit (.string ⟨#[48]⟩),.lit (.string ⟨#[52]⟩)]):AV Kn):=by
 have h:=dA (a:=2) (b:=0) (c:=4) (by constructor <;> omega) (by constructor <;> omega) (by constructor <;> omega)
 simp only [vS,uH,fN,pA,hS,iI,fY,x0,x2,x4] at h
 exact h.lits (.same (.same (.same .nil))) (.txt (.txt (.txt .nil)))
theorem lv_m1_0_m2:jF 11 [it (-1),it (0),it (-2)] (.fv (.ag [.lit (.string ⟨#[45,49]⟩),.lit (.string ⟨#[48]⟩),.lit (.string ⟨#[45,50]⟩)]):AV Kn):=by
 have h:=dA (a := -1) (b:=0) (c := -2) (by constructor <;> omega) (by constructor <;> omega) (by constructor <;> omega)
 simp only [vS,uH,fN,pA,hS,iI,fY,x0,xm1,xm2] at h
 exact h.lits (.same (.same (.same .nil))) (.txt (.txt (.txt .nil)))
theorem lv_1_0_0:jF 11 [it (1),it (0),it (0)] (.fv (.ag [.lit (.string ⟨#[49]⟩),.lit (.string ⟨#[48]⟩),.lit (.string ⟨#[48]⟩)]):AV Kn):=by
 have h:=dA (a:=1) (b:=0) (c:=0) (by constructor <;> omega) (by constructor <;> omega) (by constructor <;> omega)
 simp only [vS,uH,fN,pA,hS,iI,fY,x0,x1] at h
 exact h.lits (.same (.same (.same .nil))) (.txt (.txt (.txt .nil)))
theorem lv_0_1_0:jF 11 [it (0),it (1),it (0)] (.fv (.ag [.lit (.string ⟨#[48]⟩),.lit (.string ⟨#[49]⟩),.lit (.string ⟨#[48]⟩)]):AV Kn):=by
 have h:=dA (a:=0) (b:=1) (c:=0) (by constructor <;> omega) (by constructor <;> omega) (by constructor <;> omega)
 simp only [vS,uH,fN,pA,hS,iI,fY,x0,x1] at h
 exact h.lits (.same (.same (.same .nil))) (.txt (.txt (.txt .nil)))
theorem lv_0_0_1:jF 11 [it (0),it (0),it (1)] (.fv (.ag [.lit (.string ⟨#[48]⟩),.lit (.string ⟨#[48]⟩),.lit (.string ⟨#[49]⟩)]):AV Kn):=by
 have h:=dA (a:=0) (b:=0) (c:=1) (by constructor <;> omega) (by constructor <;> omega) (by constructor <;> omega)
 simp only [vS,uH,fN,pA,hS,iI,fY,x0,x1] at h
 exact h.lits (.same (.same (.same .nil))) (.txt (.txt (.txt .nil)))
theorem lv_0_0_0:jF 11 [it (0),it (0),it (0)] (.fv (.ag [.lit (.string ⟨#[48]⟩),.lit (.string ⟨#[48]⟩),.lit (.string ⟨#[48]⟩)]):AV Kn):=by
 have h:=dA (a:=0) (b:=0) (c:=0) (by constructor <;> omega) (by constructor <;> omega) (by constructor <;> omega)
 simp only [vS,uH,fN,pA,hS,iI,fY,x0] at h
 exact h.lits (.same (.same (.same .nil))) (.txt (.txt (.txt .nil)))
theorem lv_1_1_1:jF 11 [it (1),it (1),it (1)] (.fv (.ag [.lit (.string ⟨#[49]⟩),.lit (.string ⟨#[49]⟩),.lit (.string ⟨#[49]⟩)]):AV Kn):=by
 have h:=dA (a:=1) (b:=1) (c:=1) (by constructor <;> omega) (by constructor <;> omega) (by constructor <;> omega)
 simp only [vS,uH,fN,pA,hS,iI,fY,x1] at h
 exact h.lits (.same (.same (.same .nil))) (.txt (.txt (.txt .nil)))
theorem lv_1_1_0:jF 11 [it (1),it (1),it (0)] (.fv (.ag [.lit (.string ⟨#[49]⟩),.lit (.string ⟨#[49]⟩),.lit (.string ⟨#[48]⟩)]):AV Kn):=by
 have h:=dA (a:=1) (b:=1) (c:=0) (by constructor <;> omega) (by constructor <;> omega) (by constructor <;> omega)
 simp only [vS,uH,fN,pA,hS,iI,fY,x0,x1] at h
 exact h.lits (.same (.same (.same .nil))) (.txt (.txt (.txt .nil)))
theorem lv_0_7_5:jF 11 [it (0),it (7),it (5)] (.fv (.ag [.lit (.string ⟨#[48]⟩),.lit (.string ⟨#[55]⟩),.lit (.string ⟨#[53]⟩)]):AV Kn):=by
 have h:=dA (a:=0) (b:=7) (c:=5) (by constructor <;> omega) (by constructor <;> omega) (by constructor <;> omega)
 simp only [vS,uH,fN,pA,hS,iI,fY,x0,x5,x7] at h
 exact h.lits (.same (.same (.same .nil))) (.txt (.txt (.txt .nil)))
theorem lv_m1_0_0:jF 11 [it (-1),it (0),it (0)] (.fv (.ag [.lit (.string ⟨#[45,49]⟩),.lit (.string ⟨#[48]⟩),.lit (.string ⟨#[48]⟩)]):AV Kn):=by
 have h:=dA (a := -1) (b:=0) (c:=0) (by constructor <;> omega) (by constructor <;> omega) (by constructor <;> omega)
 simp only [vS,uH,fN,pA,hS,iI,fY,x0,xm1] at h
 exact h.lits (.same (.same (.same .nil))) (.txt (.txt (.txt .nil)))
theorem lv_4_4_0:jF 11 [it (4),it (4),it (0)] (.fv (.ag [.lit (.string ⟨#[52]⟩),.lit (.string ⟨#[52]⟩),.lit (.string ⟨#[48]⟩)]):AV Kn):=by
 have h:=dA (a:=4) (b:=4) (c:=0) (by constructor <;> omega) (by constructor <;> omega) (by constructor <;> omega)
 simp only [vS,uH,fN,pA,hS,iI,fY,x0,x4] at h
 exact h.lits (.same (.same (.same .nil))) (.txt (.txt (.txt .nil)))
theorem lv_m7_24_0:jF 11 [it (-7),it (24),it (0)] (.fv (.ag [.lit (.string ⟨#[45,55]⟩),.lit (.string ⟨#[50,52]⟩),.lit (.string ⟨#[48]⟩)]):AV Kn):=by
 have h:=dA (a := -7) (b:=24) (c:=0) (by constructor <;> omega) (by constructor <;> omega) (by constructor <;> omega)
 simp only [vS,uH,fN,pA,hS,iI,fY,x0,x24,xm7] at h
 exact h.lits (.same (.same (.same .nil))) (.txt (.txt (.txt .nil)))
theorem lv_5_5_0:jF 11 [it (5),it (5),it (0)] (.fv (.ag [.lit (.string ⟨#[53]⟩),.lit (.string ⟨#[53]⟩),.lit (.string ⟨#[48]⟩)]):AV Kn):=by
 have h:=dA (a:=5) (b:=5) (c:=0) (by constructor <;> omega) (by constructor <;> omega) (by constructor <;> omega)
 simp only [vS,uH,fN,pA,hS,iI,fY,x0,x5] at h
 exact h.lits (.same (.same (.same .nil))) (.txt (.txt (.txt .nil)))
theorem lv_10_7_1:jF 11 [it (10),it (7),it (1)] (.fv (.ag [.lit (.string ⟨#[49,48]⟩),.lit (.string ⟨#[55]⟩),.lit (.string ⟨#[49]⟩)]):AV Kn):=by
 have h:=dA (a:=10) (b:=7) (c:=1) (by constructor <;> omega) (by constructor <;> omega) (by constructor <;> omega)
 simp only [vS,uH,fN,pA,hS,iI,fY,x1,x10,x7] at h
 exact h.lits (.same (.same (.same .nil))) (.txt (.txt (.txt .nil)))
theorem lframe:jF 22 ([]:List (AV Kn)) (.fv (.ag [.lit (.string ⟨#[49]⟩),.lit (.string ⟨#[48]⟩),.lit (.string ⟨#[48]⟩),.lit (.string ⟨#[51]⟩),.lit (.string ⟨#[52]⟩),.lit (.string ⟨#[48]⟩),.lit (.string ⟨#[45,52]⟩),.lit (.string ⟨#[51]⟩),.lit (.string ⟨#[48]⟩),.lit (.string ⟨#[48]⟩),.lit (.string ⟨#[48]⟩),.lit (.string ⟨#[53]⟩)]):AV Kn):=by
 have h:=lawFrameF
 simp only [vS,uH,fN,pA,hS,iI,fY,x0,x1,x3,x4,x5,xm4] at h
 exact h.lits .nil (.txt (.txt (.txt (.txt (.txt (.txt (.txt (.txt (.txt (.txt (.txt (.txt (.nil)))))))))))))
theorem wfF:Wf ((1:Int):Rat) ((0:Int):Rat) ((0:Int):Rat) ((3:Int):Rat) ((4:Int):Rat) ((0:Int):Rat) ((-4:Int):Rat) ((3:Int):Rat) ((0:Int):Rat) ((0:Int):Rat) ((0:Int):Rat) ((5:Int):Rat):=⟨⟨r1,r0,r0⟩,⟨r3,r4,r0⟩,⟨rm4,r3,r0⟩,⟨r0,r0,r5⟩⟩
theorem axF:Ax ((3:Int):Rat) ((4:Int):Rat) ((0:Int):Rat) ((-4:Int):Rat) ((3:Int):Rat) ((0:Int):Rat) ((0:Int):Rat) ((0:Int):Rat) ((5:Int):Rat):=⟨by kernel_rfl,by kernel_rfl,by kernel_rfl,by kernel_rfl,by kernel_rfl,by kernel_rfl,by kernel_rfl⟩
theorem fvF:Fv ((1:Int):Rat) ((0:Int):Rat) ((0:Int):Rat) ((3:Int):Rat) ((4:Int):Rat) ((0:Int):Rat) ((-4:Int):Rat) ((3:Int):Rat) ((0:Int):Rat) ((0:Int):Rat) ((0:Int):Rat) ((5:Int):Rat):=Go.Proofs.YtghlkblebhhahaaGreatDoor.Fr.fv_of wfF axF
theorem hv111 {d:Rat} (h:Wr d):Hv 1 1 1 d:=⟨by constructor <;> omega,by constructor <;> omega,by constructor <;> omega,h,ck_111⟩
theorem hv100 {d:Rat} (h:Wr d):Hv 1 0 0 d:=⟨by constructor <;> omega,by constructor <;> omega,by constructor <;> omega,h,ck_100⟩
theorem hv302 {d:Rat} (h:Wr d):Hv 3 0 (-2) d:=⟨by constructor <;> omega,by constructor <;> omega,by constructor <;> omega,h,ck_302⟩
theorem nD {a:Rat} (h:decide (a=0)=false):a≠0:=of_decide_eq_false h
theorem asc_1250:∀ (j:Nat) (b:UInt8),(⟨#[49,50,46,53,48]⟩:ByteArray).data.toList[j]?=some b→b.toNat<128:=by
 intro j b h
 have:=List.mem_of_getElem? h
 simp at this
 rcases this with rfl|rfl|rfl|rfl|rfl <;> decide
theorem dig_12:AllDig (aC ⟨#[49,50]⟩):=by intro c hc;simp [aC] at hc;rcases hc with rfl|rfl <;> decide
theorem dig_50:AllDig (aC ⟨#[53,48]⟩):=by intro c hc;simp [aC] at hc;rcases hc with rfl|rfl <;> decide
theorem dec_100:decB 100=⟨#[49,48,48]⟩:=by unfold decB;rw [eG (by omega),eG (by omega),cN (by omega)];rfl
theorem dec_1250:decB 1250=⟨#[49,50,53,48]⟩:=by unfold decB;rw [eG (by omega),eG (by omega),eG (by omega),cN (by omega)];rfl
theorem q1250:mkRat (sg false 1250) 100=mkRat 25 2:=by kernel_rfl
theorem lv_small {n k:Nat} (h:n<1000000000):Lv k n:=(Lv.one n (by rw [aL];omega)).mono (Nat.zero_le _)
theorem eParse:jX 17 [lt ⟨#[49,50,46,53,48]⟩] (.tup [.sc (.lit (.string ⟨#[50,53,47,50]⟩)),.sc z0]):=by
 have hp:jF 55 [tx ⟨#[49,50,46,53,48]⟩] (.tup [.sc (dD (decB 1250)),.sc (dD (decB 100)),.sc z0]):=by
  have h:=partsDot (s:=⟨#[49,50,46,53,48]⟩) (a:=⟨#[49,50]⟩) (b:=⟨#[53,48]⟩) (z:=⟨#[48,48]⟩) (k:=2) (indexAnyF (by decide) asc_1250 (by kernel_rfl)) (by decide) (by decide) (ba_ext rfl) (ba_ext rfl) dig_12 (by decide) dig_50 (by decide) rfl (repeatF (by decide) (by decide) (ba_ext (by kernel_rfl))) (by decide)
  have e1:(⟨#[49,50]⟩++⟨#[53,48]⟩:ByteArray)=decB 1250:=dec_1250.symm
  have e2:(⟨#[49]⟩++⟨#[48,48]⟩:ByteArray)=decB 100:=dec_100.symm
  rw [e1,e2] at h
  exact h
 have h:=parseF' (s:=⟨#[49,50,46,53,48]⟩) (n:=1250) (d:=100) (by decide) (by kernel_rfl) hp (by rw [dec_1250];decide) (by rw [dec_100];decide) (lv_small (by decide)) (lv_small (by decide)) (by decide) (by rw [q1250];exact rq252.lf.mono (by decide)) (by rw [q1250];exact rq252.n) (by rw [q1250];exact rq252.d)
 rw [q1250,xq252] at h
 exact h.lits (.txt .nil) (.txt (.same .nil))
theorem eAlong:jX 18 [(.fv (.ag [.lit (.string ⟨#[50]⟩),.lit (.string ⟨#[48]⟩),.lit (.string ⟨#[52]⟩)]):AV Kn),(.fv (.ag [.lit (.string ⟨#[45,49]⟩),.lit (.string ⟨#[48]⟩),.lit (.string ⟨#[45,50]⟩)]):AV Kn)] (.tup [.sc (.lit (.string ⟨#[45,49,47,50]⟩)),.sc z0]):=by
 have h:=apiAlongF (a:=((2:Int):Rat)) (b:=((0:Int):Rat)) (c:=((4:Int):Rat)) (x:=((-1:Int):Rat)) (y:=((0:Int):Rat)) (z:=((-2:Int):Rat)) ⟨r2,r0,r4⟩ ⟨rm1,r0,rm2⟩ (by kernel_rfl) (by kernel_rfl) (nD (by kernel_rfl)) (by rw [show dt ((-1:Int):Rat) ((0:Int):Rat) ((-2:Int):Rat) ((2:Int):Rat) ((0:Int):Rat) ((4:Int):Rat)/dt ((2:Int):Rat) ((0:Int):Rat) ((4:Int):Rat) ((2:Int):Rat) ((0:Int):Rat) ((4:Int):Rat)=mkRat (-1) 2 from by kernel_rfl];exact rm12)
 rw [show dt ((-1:Int):Rat) ((0:Int):Rat) ((-2:Int):Rat) ((2:Int):Rat) ((0:Int):Rat) ((4:Int):Rat)/dt ((2:Int):Rat) ((0:Int):Rat) ((4:Int):Rat) ((2:Int):Rat) ((0:Int):Rat) ((4:Int):Rat)=mkRat (-1) 2 from by kernel_rfl] at h
 simp only [vS,uH,fN,pA,hS,iI,fY,x0,x2,x4,xm1,xm12,xm2] at h
 exact h.lits (.ag (.txt (.txt (.txt .nil))) (.ag (.txt (.txt (.txt .nil))) .nil)) (.txt (.same .nil))
theorem eMake:jX 19 [(.fv (.ag [.lit (.string ⟨#[49,47,50]⟩),.lit (.string ⟨#[48]⟩),.lit (.string ⟨#[45,49,47,51]⟩)]):AV Kn),lt ⟨#[53]⟩] (.tup [.ag [.lit (.int .i64 (3)),.lit (.int .i64 (0)),.lit (.int .i64 (-2)),.lit (.string ⟨#[51,48]⟩)],.sc z0]):=by
 have h:=apiMakeHalfF (n1:=mkRat 1 2) (n2:=((0:Int):Rat)) (n3:=mkRat (-1) 3) (d:=((5:Int):Rat)) (z1:=3) (z2:=0) (z3 := -2) (e:=((30:Int):Rat)) ⟨rh12,r0,rm13⟩ r5 ⟨rh12.lf.mono (by decide),r0.lf.mono (by decide),rm13.lf.mono (by decide),r5.lf.mono (by decide),fun ⟨e,_,_⟩=>nD (a:=mkRat 1 2) (by kernel_rfl) e,by kernel_rfl,by kernel_rfl,by kernel_rfl,by kernel_rfl,by constructor <;> omega,by constructor <;> omega,by constructor <;> omega,r30⟩
 simp only [vS,uH,fN,pA,hS,iI,fY,x0,x30,x5,xh12,xm13] at h
 exact h.lits (.ag (.txt (.txt (.txt .nil))) (.txt .nil)) (.ag (.same (.same (.same (.txt .nil)))) (.same .nil))
theorem eThrough:jX 20 [(.fv (.ag [.lit (.string ⟨#[49]⟩),.lit (.string ⟨#[48]⟩),.lit (.string ⟨#[48]⟩)]):AV Kn),(.fv (.ag [.lit (.string ⟨#[48]⟩),.lit (.string ⟨#[49]⟩),.lit (.string ⟨#[48]⟩)]):AV Kn),(.fv (.ag [.lit (.string ⟨#[48]⟩),.lit (.string ⟨#[48]⟩),.lit (.string ⟨#[49]⟩)]):AV Kn)] (.tup [.ag [.lit (.int .i64 (1)),.lit (.int .i64 (1)),.lit (.int .i64 (1)),.lit (.string ⟨#[49]⟩)],.sc z0]):=by
 have h:=apiThroughF (a1:=((1:Int):Rat)) (a2:=((0:Int):Rat)) (a3:=((0:Int):Rat)) (b1:=((0:Int):Rat)) (b2:=((1:Int):Rat)) (b3:=((0:Int):Rat)) (c1:=((0:Int):Rat)) (c2:=((0:Int):Rat)) (c3:=((1:Int):Rat)) (m1:=((1:Int):Rat)) (m2:=((1:Int):Rat)) (m3:=((1:Int):Rat)) (z1:=1) (z2:=1) (z3:=1) (e:=((1:Int):Rat)) ⟨r1,r0,r0⟩ ⟨r0,r1,r0⟩ ⟨r0,r0,r1⟩ (by kernel_rfl) (by kernel_rfl) (by kernel_rfl) ⟨r1.lf.mono (by decide),r1.lf.mono (by decide),r1.lf.mono (by decide),by rw [show dt ((1:Int):Rat) ((1:Int):Rat) ((1:Int):Rat) ((1:Int):Rat) ((0:Int):Rat) ((0:Int):Rat)=((1:Int):Rat) from by kernel_rfl];exact r1.lf.mono (by decide),fun ⟨e,_,_⟩=>nD (a:=((1:Int):Rat)) (by kernel_rfl) e,by kernel_rfl,by kernel_rfl,by kernel_rfl,by kernel_rfl,by constructor <;> omega,by constructor <;> omega,by constructor <;> omega,r1⟩
 simp only [vS,uH,fN,pA,hS,iI,fY,x0,x1] at h
 exact h.lits (.ag (.txt (.txt (.txt .nil))) (.ag (.txt (.txt (.txt .nil))) (.ag (.txt (.txt (.txt .nil))) .nil))) (.ag (.same (.same (.same (.txt .nil)))) (.same .nil))
theorem eMirror:jX 21 [(.fv (.ag [.lit (.int .i64 (1)),.lit (.int .i64 (1)),.lit (.int .i64 (1)),.lit (.string ⟨#[49]⟩)]):AV Kn),(.fv (.ag [.lit (.string ⟨#[48]⟩),.lit (.string ⟨#[48]⟩),.lit (.string ⟨#[48]⟩)]):AV Kn)] (.tup [.ag [.lit (.string ⟨#[50,47,51]⟩),.lit (.string ⟨#[50,47,51]⟩),.lit (.string ⟨#[50,47,51]⟩)],.sc z0]):=by
 have h:=apiMirrorF (z1:=1) (z2:=1) (z3:=1) (d:=((1:Int):Rat)) (p1:=((0:Int):Rat)) (p2:=((0:Int):Rat)) (p3:=((0:Int):Rat)) (m1:=mkRat 2 3) (m2:=mkRat 2 3) (m3:=mkRat 2 3) (hv111 r1) ⟨r0,r0,r0⟩ (nD (by kernel_rfl)) (by kernel_rfl) (by kernel_rfl) (by kernel_rfl) ⟨rq23,rq23,rq23⟩
 simp only [vS,uH,fN,pA,hS,iI,fY,x0,x1,xq23] at h
 exact h.lits (.ag (.same (.same (.same (.txt .nil)))) (.ag (.txt (.txt (.txt .nil))) .nil)) (.ag (.txt (.txt (.txt .nil))) (.same .nil))
theorem ePlace:jX 8 [(.fv (.ag [.lit (.string ⟨#[49]⟩),.lit (.string ⟨#[48]⟩),.lit (.string ⟨#[48]⟩),.lit (.string ⟨#[51]⟩),.lit (.string ⟨#[52]⟩),.lit (.string ⟨#[48]⟩),.lit (.string ⟨#[45,52]⟩),.lit (.string ⟨#[51]⟩),.lit (.string ⟨#[48]⟩),.lit (.string ⟨#[48]⟩),.lit (.string ⟨#[48]⟩),.lit (.string ⟨#[53]⟩)]):AV Kn),(.fv (.ag [.lit (.string ⟨#[49]⟩),.lit (.string ⟨#[49]⟩),.lit (.string ⟨#[49]⟩)]):AV Kn)] (.tup [.ag [.lit (.string ⟨#[48]⟩),.lit (.string ⟨#[55]⟩),.lit (.string ⟨#[53]⟩)],.sc z0]):=by
 have h:=lR (o1:=((1:Int):Rat)) (o2:=((0:Int):Rat)) (o3:=((0:Int):Rat)) (x1:=((3:Int):Rat)) (x2:=((4:Int):Rat)) (x3:=((0:Int):Rat)) (y1:=((-4:Int):Rat)) (y2:=((3:Int):Rat)) (y3:=((0:Int):Rat)) (z1:=((0:Int):Rat)) (z2:=((0:Int):Rat)) (z3:=((5:Int):Rat)) (p1:=((1:Int):Rat)) (p2:=((1:Int):Rat)) (p3:=((1:Int):Rat)) (m1:=((0:Int):Rat)) (m2:=((7:Int):Rat)) (m3:=((5:Int):Rat)) fvF ⟨r1,r1,r1⟩ (by kernel_rfl) (by kernel_rfl) (by kernel_rfl) ⟨r0,r7,r5⟩
 simp only [vS,uH,fN,pA,hS,iI,fY,x0,x1,x3,x4,x5,x7,xm4] at h
 exact h.lits (.ag (.txt (.txt (.txt (.txt (.txt (.txt (.txt (.txt (.txt (.txt (.txt (.txt (.nil))))))))))))) (.ag (.txt (.txt (.txt .nil))) .nil)) (.ag (.txt (.txt (.txt .nil))) (.same .nil))
theorem r325:Wr (mkRat 3 25):=wr_q (by rw [show (mkRat 3 25).num=3 from by kernel_rfl];decide) (by rw [show (mkRat 3 25).den=25 from by kernel_rfl];decide)
theorem r425:Wr (mkRat 4 25):=wr_q (by rw [show (mkRat 4 25).num=4 from by kernel_rfl];decide) (by rw [show (mkRat 4 25).den=25 from by kernel_rfl];decide)
theorem r2825:Wr (mkRat 28 25):=wr_q (by rw [show (mkRat 28 25).num=28 from by kernel_rfl];decide) (by rw [show (mkRat 28 25).den=25 from by kernel_rfl];decide)
theorem ePlaceHalf:jX 13 [(.fv (.ag [.lit (.string ⟨#[49]⟩),.lit (.string ⟨#[48]⟩),.lit (.string ⟨#[48]⟩),.lit (.string ⟨#[51]⟩),.lit (.string ⟨#[52]⟩),.lit (.string ⟨#[48]⟩),.lit (.string ⟨#[45,52]⟩),.lit (.string ⟨#[51]⟩),.lit (.string ⟨#[48]⟩),.lit (.string ⟨#[48]⟩),.lit (.string ⟨#[48]⟩),.lit (.string ⟨#[53]⟩)]):AV Kn),(.fv (.ag [.lit (.int .i64 (1)),.lit (.int .i64 (0)),.lit (.int .i64 (0)),.lit (.string ⟨#[49]⟩)]):AV Kn)] (.tup [.ag [.lit (.int .i64 (3)),.lit (.int .i64 (4)),.lit (.int .i64 (0)),.lit (.string ⟨#[50,56]⟩)],.sc z0]):=by
 have h:=yA (o1:=((1:Int):Rat)) (o2:=((0:Int):Rat)) (o3:=((0:Int):Rat)) (x1:=((3:Int):Rat)) (x2:=((4:Int):Rat)) (x3:=((0:Int):Rat)) (y1:=((-4:Int):Rat)) (y2:=((3:Int):Rat)) (y3:=((0:Int):Rat)) (z1:=((0:Int):Rat)) (z2:=((0:Int):Rat)) (z3:=((5:Int):Rat)) (n1:=1) (n2:=0) (n3:=0) (d:=((1:Int):Rat)) (k1:=3) (k2:=4) (k3:=0) (e:=((28:Int):Rat)) fvF (hv100 r1) ⟨nD (by kernel_rfl),nD (by kernel_rfl),nD (by kernel_rfl)⟩ (q1:=mkRat 3 25) (q2:=mkRat 4 25) (q3:=((0:Int):Rat)) (by kernel_rfl) (by kernel_rfl) (by kernel_rfl) ⟨r325.lf.mono (by decide),r425.lf.mono (by decide),r0.lf.mono (by decide),by rw [show ((1:Int):Rat)+dt (mkRat 3 25) (mkRat 4 25) ((0:Int):Rat) ((1:Int):Rat) ((0:Int):Rat) ((0:Int):Rat)=mkRat 28 25 from by kernel_rfl];exact r2825.lf.mono (by decide),fun ⟨e,_,_⟩=>nD (a:=mkRat 3 25) (by kernel_rfl) e,by kernel_rfl,by kernel_rfl,by kernel_rfl,by kernel_rfl,by constructor <;> omega,by constructor <;> omega,by constructor <;> omega,r28⟩
 simp only [vS,uH,fN,pA,hS,iI,fY,x0,x1,x28,x3,x4,x5,xm4] at h
 exact h.lits (.ag (.txt (.txt (.txt (.txt (.txt (.txt (.txt (.txt (.txt (.txt (.txt (.txt (.nil))))))))))))) (.ag (.same (.same (.same (.txt .nil)))) .nil)) (.ag (.same (.same (.same (.txt .nil)))) (.same .nil))
theorem td_100:jF 75 [num ((1:Int):Rat),vc ((0:Int):Rat) ((0:Int):Rat) ((1:Int):Rat),vc ((1:Int):Rat) ((0:Int):Rat) ((0:Int):Rat)] (vc ((0:Int):Rat) ((1:Int):Rat) ((0:Int):Rat)):=by
 have h:=turnedF (w:=((1:Int):Rat)) (u1:=((0:Int):Rat)) (u2:=((0:Int):Rat)) (u3:=((1:Int):Rat)) (v1:=((1:Int):Rat)) (v2:=((0:Int):Rat)) (v3:=((0:Int):Rat)) (r1.lf.mono (by decide)) (r0.lf.mono (by decide)) (r0.lf.mono (by decide)) (r1.lf.mono (by decide)) (r1.lf.mono (by decide)) (r0.lf.mono (by decide)) (r0.lf.mono (by decide)) (nD (by kernel_rfl))
 exact vc_eq h (by kernel_rfl) (by kernel_rfl) (by kernel_rfl)
theorem td_010:jF 75 [num ((1:Int):Rat),vc ((0:Int):Rat) ((0:Int):Rat) ((1:Int):Rat),vc ((0:Int):Rat) ((1:Int):Rat) ((0:Int):Rat)] (vc ((-1:Int):Rat) ((0:Int):Rat) ((0:Int):Rat)):=by
 have h:=turnedF (w:=((1:Int):Rat)) (u1:=((0:Int):Rat)) (u2:=((0:Int):Rat)) (u3:=((1:Int):Rat)) (v1:=((0:Int):Rat)) (v2:=((1:Int):Rat)) (v3:=((0:Int):Rat)) (r1.lf.mono (by decide)) (r0.lf.mono (by decide)) (r0.lf.mono (by decide)) (r1.lf.mono (by decide)) (r0.lf.mono (by decide)) (r1.lf.mono (by decide)) (r0.lf.mono (by decide)) (nD (by kernel_rfl))
 exact vc_eq h (by kernel_rfl) (by kernel_rfl) (by kernel_rfl)
theorem td_001:jF 75 [num ((1:Int):Rat),vc ((0:Int):Rat) ((0:Int):Rat) ((1:Int):Rat),vc ((0:Int):Rat) ((0:Int):Rat) ((1:Int):Rat)] (vc ((0:Int):Rat) ((0:Int):Rat) ((1:Int):Rat)):=by
 have h:=turnedF (w:=((1:Int):Rat)) (u1:=((0:Int):Rat)) (u2:=((0:Int):Rat)) (u3:=((1:Int):Rat)) (v1:=((0:Int):Rat)) (v2:=((0:Int):Rat)) (v3:=((1:Int):Rat)) (r1.lf.mono (by decide)) (r0.lf.mono (by decide)) (r0.lf.mono (by decide)) (r1.lf.mono (by decide)) (r0.lf.mono (by decide)) (r0.lf.mono (by decide)) (r1.lf.mono (by decide)) (nD (by kernel_rfl))
 exact vc_eq h (by kernel_rfl) (by kernel_rfl) (by kernel_rfl)
theorem eTurn:jX 23 [(.fv (.ag [.lit (.string ⟨#[49]⟩),.lit (.string ⟨#[48]⟩),.lit (.string ⟨#[48]⟩),.lit (.string ⟨#[49]⟩)]):AV Kn)] (.tup [.ag [.lit (.string ⟨#[48]⟩),.lit (.string ⟨#[48]⟩),.lit (.string ⟨#[48]⟩),.lit (.string ⟨#[48]⟩),.lit (.string ⟨#[49]⟩),.lit (.string ⟨#[48]⟩),.lit (.string ⟨#[45,49]⟩),.lit (.string ⟨#[48]⟩),.lit (.string ⟨#[48]⟩),.lit (.string ⟨#[48]⟩),.lit (.string ⟨#[48]⟩),.lit (.string ⟨#[49]⟩)],.sc z0]):=by
 have h:=apiTurnF (w:=((1:Int):Rat)) (u1:=((0:Int):Rat)) (u2:=((0:Int):Rat)) (u3:=((1:Int):Rat)) (b:=false) r1 ⟨r0,r0,r1⟩ (by kernel_rfl) (fun h=>by cases h) td_100 td_010 td_001 ⟨⟨r0,r0,r0⟩,⟨r0,r1,r0⟩,⟨rm1,r0,r0⟩,⟨r0,r0,r1⟩⟩
 simp only [vS,uH,fN,pA,hS,iI,fY,x0,x1,xm1] at h
 exact h.lits (.ag (.txt (.txt (.txt (.txt .nil)))) .nil) (.ag (.txt (.txt (.txt (.txt (.txt (.txt (.txt (.txt (.txt (.txt (.txt (.txt (.nil))))))))))))) (.same .nil))
theorem eCompose:jX 24 [(.fv (.ag [.lit (.string ⟨#[49]⟩),.lit (.string ⟨#[48]⟩),.lit (.string ⟨#[48]⟩),.lit (.string ⟨#[51]⟩),.lit (.string ⟨#[52]⟩),.lit (.string ⟨#[48]⟩),.lit (.string ⟨#[45,52]⟩),.lit (.string ⟨#[51]⟩),.lit (.string ⟨#[48]⟩),.lit (.string ⟨#[48]⟩),.lit (.string ⟨#[48]⟩),.lit (.string ⟨#[53]⟩)]):AV Kn),(.fv (.ag [.lit (.string ⟨#[49]⟩),.lit (.string ⟨#[48]⟩),.lit (.string ⟨#[48]⟩),.lit (.string ⟨#[51]⟩),.lit (.string ⟨#[52]⟩),.lit (.string ⟨#[48]⟩),.lit (.string ⟨#[45,52]⟩),.lit (.string ⟨#[51]⟩),.lit (.string ⟨#[48]⟩),.lit (.string ⟨#[48]⟩),.lit (.string ⟨#[48]⟩),.lit (.string ⟨#[53]⟩)]):AV Kn)] (.tup [.ag [.lit (.string ⟨#[52]⟩),.lit (.string ⟨#[52]⟩),.lit (.string ⟨#[48]⟩),.lit (.string ⟨#[45,55]⟩),.lit (.string ⟨#[50,52]⟩),.lit (.string ⟨#[48]⟩),.lit (.string ⟨#[45,50,52]⟩),.lit (.string ⟨#[45,55]⟩),.lit (.string ⟨#[48]⟩),.lit (.string ⟨#[48]⟩),.lit (.string ⟨#[48]⟩),.lit (.string ⟨#[50,53]⟩)],.sc z0]):=by
 have h:=apiComposeF fvF fvF (q1:=((4:Int):Rat)) (q2:=((4:Int):Rat)) (q3:=((0:Int):Rat)) (r1:=((-7:Int):Rat)) (r2:=((24:Int):Rat)) (r3:=((0:Int):Rat)) (s1:=((-24:Int):Rat)) (s2:=((-7:Int):Rat)) (s3:=((0:Int):Rat)) (t1:=((0:Int):Rat)) (t2:=((0:Int):Rat)) (t3:=((25:Int):Rat)) (by kernel_rfl) (by kernel_rfl) (by kernel_rfl) (by kernel_rfl) (by kernel_rfl) (by kernel_rfl) (by kernel_rfl) (by kernel_rfl) (by kernel_rfl) (by kernel_rfl) (by kernel_rfl) (by kernel_rfl) ⟨⟨r4,r4,r0⟩,⟨rm7,r24,r0⟩,⟨rm24,rm7,r0⟩,⟨r0,r0,r25⟩⟩ (by kernel_rfl) (by kernel_rfl) (by kernel_rfl)
 simp only [vS,uH,fN,pA,hS,iI,fY,x0,x1,x24,x25,x3,x4,x5,xm24,xm4,xm7] at h
 exact h.lits (.ag (.txt (.txt (.txt (.txt (.txt (.txt (.txt (.txt (.txt (.txt (.txt (.txt (.nil))))))))))))) (.ag (.txt (.txt (.txt (.txt (.txt (.txt (.txt (.txt (.txt (.txt (.txt (.txt (.nil))))))))))))) .nil)) (.ag (.txt (.txt (.txt (.txt (.txt (.txt (.txt (.txt (.txt (.txt (.txt (.txt (.nil))))))))))))) (.same .nil))
theorem eMeet:jX 25 [(.fv (.ag [.lit (.int .i64 (1)),.lit (.int .i64 (1)),.lit (.int .i64 (1)),.lit (.string ⟨#[49,48]⟩)]):AV Kn),(.fv (.ag [.lit (.string ⟨#[48]⟩),.lit (.string ⟨#[48]⟩),.lit (.string ⟨#[48]⟩)]):AV Kn),(.fv (.ag [.lit (.string ⟨#[49]⟩),.lit (.string ⟨#[49]⟩),.lit (.string ⟨#[48]⟩)]):AV Kn)] (.tup [.ag [.lit (.string ⟨#[53]⟩),.lit (.string ⟨#[53]⟩),.lit (.string ⟨#[48]⟩)],.sc z0]):=by
 have h:=apiMeetF (z1:=1) (z2:=1) (z3:=1) (d:=((10:Int):Rat)) (p1:=((0:Int):Rat)) (p2:=((0:Int):Rat)) (p3:=((0:Int):Rat)) (v1:=((1:Int):Rat)) (v2:=((1:Int):Rat)) (v3:=((0:Int):Rat)) (m1:=((5:Int):Rat)) (m2:=((5:Int):Rat)) (m3:=((0:Int):Rat)) (hv111 r10) ⟨r0,r0,r0⟩ ⟨r1,r1,r0⟩ (nD (by kernel_rfl)) (by kernel_rfl) (by kernel_rfl) (by kernel_rfl) ⟨r5,r5,r0⟩
 simp only [vS,uH,fN,pA,hS,iI,fY,x0,x1,x10,x5] at h
 exact h.lits (.ag (.same (.same (.same (.txt .nil)))) (.ag (.txt (.txt (.txt .nil))) (.ag (.txt (.txt (.txt .nil))) .nil))) (.ag (.txt (.txt (.txt .nil))) (.same .nil))
theorem eSide:jX 16 [(.fv (.ag [.lit (.int .i64 (3)),.lit (.int .i64 (0)),.lit (.int .i64 (-2)),.lit (.string ⟨#[51,48]⟩)]):AV Kn),(.fv (.ag [.lit (.string ⟨#[49,48]⟩),.lit (.string ⟨#[55]⟩),.lit (.string ⟨#[49]⟩)]):AV Kn)] (.tup [.sc (.lit (.int .i64 (-1))),.sc z0]):=by
 have h:=rO (z1:=3) (z2:=0) (z3 := -2) (d:=((30:Int):Rat)) (p1:=((10:Int):Rat)) (p2:=((7:Int):Rat)) (p3:=((1:Int):Rat)) (s := -1) (hv302 r30) ⟨r10,r7,r1⟩ (by kernel_rfl)
 simp only [vS,uH,fN,pA,hS,iI,fY,x1,x10,x30,x7] at h
 exact h.lits (.ag (.same (.same (.same (.txt .nil)))) (.ag (.txt (.txt (.txt .nil))) .nil)) (.same (.same .nil))
set_option maxRecDepth 100000 in
theorem xP:jX 4 ([]:List (AV Kn)) (bl true):=by
 refine jY Tryz.func4 fun w00 hI=>?_
 refine jW hI 17 [lt ⟨#[49,50,46,53,48]⟩] (eParse) ?_
 refine jC 11 [it (2),it (0),it (4)] (lv_2_0_4) ?_
 refine jC 11 [it (-1),it (0),it (-2)] (lv_m1_0_m2) ?_
 refine jW hI 18 [(.fv (.ag [.lit (.string ⟨#[50]⟩),.lit (.string ⟨#[48]⟩),.lit (.string ⟨#[52]⟩)])),(.fv (.ag [.lit (.string ⟨#[45,49]⟩),.lit (.string ⟨#[48]⟩),.lit (.string ⟨#[45,50]⟩)]))] (eAlong) ?_
 refine jW hI 19 [(.fv (.ag [.lit (.string ⟨#[49,47,50]⟩),.lit (.string ⟨#[48]⟩),.lit (.string ⟨#[45,49,47,51]⟩)])),lt ⟨#[53]⟩] (eMake) ?_
 refine jC 11 [it (1),it (0),it (0)] (lv_1_0_0) ?_
 refine jC 11 [it (0),it (1),it (0)] (lv_0_1_0) ?_
 refine jC 11 [it (0),it (0),it (1)] (lv_0_0_1) ?_
 refine jW hI 20 [(.fv (.ag [.lit (.string ⟨#[49]⟩),.lit (.string ⟨#[48]⟩),.lit (.string ⟨#[48]⟩)])),(.fv (.ag [.lit (.string ⟨#[48]⟩),.lit (.string ⟨#[49]⟩),.lit (.string ⟨#[48]⟩)])),(.fv (.ag [.lit (.string ⟨#[48]⟩),.lit (.string ⟨#[48]⟩),.lit (.string ⟨#[49]⟩)]))] (eThrough) ?_
 refine jC 11 [it (0),it (0),it (0)] (lv_0_0_0) ?_
 refine jW hI 21 [(.fv (.ag [.lit (.int .i64 (1)),.lit (.int .i64 (1)),.lit (.int .i64 (1)),.lit (.string ⟨#[49]⟩)])),(.fv (.ag [.lit (.string ⟨#[48]⟩),.lit (.string ⟨#[48]⟩),.lit (.string ⟨#[48]⟩)]))] (eMirror) ?_
 refine jC 22 [] (lframe) ?_
 refine jC 11 [it (1),it (1),it (1)] (lv_1_1_1) ?_
 refine jW hI 8 [(.fv (.ag [.lit (.string ⟨#[49]⟩),.lit (.string ⟨#[48]⟩),.lit (.string ⟨#[48]⟩),.lit (.string ⟨#[51]⟩),.lit (.string ⟨#[52]⟩),.lit (.string ⟨#[48]⟩),.lit (.string ⟨#[45,52]⟩),.lit (.string ⟨#[51]⟩),.lit (.string ⟨#[48]⟩),.lit (.string ⟨#[48]⟩),.lit (.string ⟨#[48]⟩),.lit (.string ⟨#[53]⟩)])),(.fv (.ag [.lit (.string ⟨#[49]⟩),.lit (.string ⟨#[49]⟩),.lit (.string ⟨#[49]⟩)]))] (ePlace) ?_
 refine jC 22 [] (lframe) ?_
 refine jW hI 13 [(.fv (.ag [.lit (.string ⟨#[49]⟩),.lit (.string ⟨#[48]⟩),.lit (.string ⟨#[48]⟩),.lit (.string ⟨#[51]⟩),.lit (.string ⟨#[52]⟩),.lit (.string ⟨#[48]⟩),.lit (.string ⟨#[45,52]⟩),.lit (.string ⟨#[51]⟩),.lit (.string ⟨#[48]⟩),.lit (.string ⟨#[48]⟩),.lit (.string ⟨#[48]⟩),.lit (.string ⟨#[53]⟩)])),(.fv (.ag [.lit (.int .i64 (1)),.lit (.int .i64 (0)),.lit (.int .i64 (0)),.lit (.string ⟨#[49]⟩)]))] (ePlaceHalf) ?_
 refine jW hI 23 [(.fv (.ag [.lit (.string ⟨#[49]⟩),.lit (.string ⟨#[48]⟩),.lit (.string ⟨#[48]⟩),.lit (.string ⟨#[49]⟩)]))] (eTurn) ?_
 refine jC 22 [] (lframe) ?_
 refine jC 22 [] (lframe) ?_
 refine jW hI 24 [(.fv (.ag [.lit (.string ⟨#[49]⟩),.lit (.string ⟨#[48]⟩),.lit (.string ⟨#[48]⟩),.lit (.string ⟨#[51]⟩),.lit (.string ⟨#[52]⟩),.lit (.string ⟨#[48]⟩),.lit (.string ⟨#[45,52]⟩),.lit (.string ⟨#[51]⟩),.lit (.string ⟨#[48]⟩),.lit (.string ⟨#[48]⟩),.lit (.string ⟨#[48]⟩),.lit (.string ⟨#[53]⟩)])),(.fv (.ag [.lit (.string ⟨#[49]⟩),.lit (.string ⟨#[48]⟩),.lit (.string ⟨#[48]⟩),.lit (.string ⟨#[51]⟩),.lit (.string ⟨#[52]⟩),.lit (.string ⟨#[48]⟩),.lit (.string ⟨#[45,52]⟩),.lit (.string ⟨#[51]⟩),.lit (.string ⟨#[48]⟩),.lit (.string ⟨#[48]⟩),.lit (.string ⟨#[48]⟩),.lit (.string ⟨#[53]⟩)]))] (eCompose) ?_
 refine jC 11 [it (0),it (0),it (0)] (lv_0_0_0) ?_
 refine jC 11 [it (1),it (1),it (0)] (lv_1_1_0) ?_
 refine jW hI 25 [(.fv (.ag [.lit (.int .i64 (1)),.lit (.int .i64 (1)),.lit (.int .i64 (1)),.lit (.string ⟨#[49,48]⟩)])),(.fv (.ag [.lit (.string ⟨#[48]⟩),.lit (.string ⟨#[48]⟩),.lit (.string ⟨#[48]⟩)])),(.fv (.ag [.lit (.string ⟨#[49]⟩),.lit (.string ⟨#[49]⟩),.lit (.string ⟨#[48]⟩)]))] (eMeet) ?_
 refine jC 11 [it (0),it (7),it (5)] (lv_0_7_5) ?_
 refine jC 11 [it (0),it (1),it (0)] (lv_0_1_0) ?_
 refine jC 11 [it (-1),it (0),it (0)] (lv_m1_0_0) ?_
 refine jC 11 [it (4),it (4),it (0)] (lv_4_4_0) ?_
 refine jC 11 [it (-7),it (24),it (0)] (lv_m7_24_0) ?_
 refine jC 11 [it (5),it (5),it (0)] (lv_5_5_0) ?_
 refine jC 11 [it (10),it (7),it (1)] (lv_10_7_1) ?_
 refine jW hI 16 [(.fv (.ag [.lit (.int .i64 (3)),.lit (.int .i64 (0)),.lit (.int .i64 (-2)),.lit (.string ⟨#[51,48]⟩)])),(.fv (.ag [.lit (.string ⟨#[49,48]⟩),.lit (.string ⟨#[55]⟩),.lit (.string ⟨#[49]⟩)]))] (eSide) ?_
 refine jC 26 [lt ⟨#[112,111,115,116,95,49]⟩] (isNameF (b:=true) (by kernel_rfl)) ?_
 refine jC 26 [lt ⟨#[49,112,111,115,116]⟩] (isNameF (b:=false) (by kernel_rfl)) ?_
 exact jR Tryz.func4
theorem uP {f:FuncId} {w00:World} {c:Cfg Kn} {fn:Func} {z:Int} (hfn:Tryz.prog.funcs[f]?=some fn) (hc:c.res Tryz.prog fn=some (it z)):Ok Tryz.prog f w00 (fun v w=>(AV.fv (.sc (gC z)):AV Kn).holds [] v w) c :=
 ⟨vX hfn (it z) hc fun _ _ _ h=>h.1⟩
abbrev hA (a b c:Int) (s:ByteArray):AV Kn := .fv (.ag [gC a,gC b,gC c,dD s])
abbrev hL (a b c:Int) (s:ByteArray):AV Kn := .fv (.ag [.lit (.int .i64 a),.lit (.int .i64 b),.lit (.int .i64 c),dD s])
theorem hL_A {a b c:Int} {s:ByteArray} (β:List Nat) (v:Value) (w:World) (h:(hL a b c s).holds β v w):(hA a b c s).holds β v w:=by
 obtain ⟨cs,e,x1,r1,e1,h1,x2,r2,e2,h2,x3,r3,e3,h3,hr⟩:=h
 exact ⟨cs,e,x1,r1,e1,h1.1,x2,r2,e2,h2.1,x3,r3,e3,h3.1,hr⟩
theorem iv_i3 {a b c:Int} (β:List Nat) (v:Value) (w:World) (h:(iv a b c).holds β v w):(i3 a b c).holds β v w:=by
 obtain ⟨cs,e,x1,r1,e1,h1,x2,r2,e2,h2,x3,r3,e3,h3,hr⟩:=h
 exact ⟨cs,e,x1,r1,e1,h1.1,x2,r2,e2,h2.1,x3,r3,e3,h3.1,hr⟩
abbrev Bg (z:Int):Prop:=z < -999999999∨999999999<z
def hkZ (a b c k:Int):Int:=if a=0∧b=0∧c=0 then 6 else if Bg a∨Bg b∨Bg c then 3 else if Int.gcd (Int.gcd a b:Int) c≠1 then 1 else k
section
variable {a b c:Int} {s:ByteArray}
theorem xQ {k z:Int} (hk:jF 51 [tx s] (.fv (.sc (gC k)))) (hz:hkZ a b c k=z):jF 15 [hA a b c s] (.fv (.sc (gC z))):=by
 unfold hkZ at hz
 refine jG Tryz.func15 fun w00=>?_
 by_cases h0:a=0∧b=0∧c=0
 ·obtain rfl:z=6:=by rw [← hz,if_pos h0]
  refine kz3 (.tmp 5) (.tmp 6) a b c true (by simp [h0]) ?_
  exact uP Tryz.func15 (by kernel_rfl)
 rw [if_neg h0] at hz
 refine kz3 (.tmp 5) (.tmp 6) a b c false (by rw [Bool.eq_false_iff];simp;omega) ?_
 have e3:∀ {x:Int},x=a∨x=b∨x=c→Bg x→z=3:=fun hx h=>by
  rw [← hz,if_pos (by rcases hx with rfl|rfl|rfl <;> simp only [h,true_or,or_true])]
 by_cases a1:a < -999999999
 ·obtain rfl:=e3 (.inl rfl) (.inl a1)
  refine klt (.tmp 15) (.const (.int .i64 (-999999999))) a _ true _ bG (decide_eq_true a1) ?_
  exact uP Tryz.func15 (by kernel_rfl)
 refine klt (.tmp 15) (.const (.int .i64 (-999999999))) a _ false _ bG (decide_eq_false a1) ?_
 by_cases a2:999999999<a
 ·obtain rfl:=e3 (.inl rfl) (.inr a2)
  refine kgg (.tmp 21) (.const (.int .i64 999999999)) a _ true _ bG (decide_eq_true a2) ?_
  exact uP Tryz.func15 (by kernel_rfl)
 refine kgg (.tmp 21) (.const (.int .i64 999999999)) a _ false _ bG (decide_eq_false a2) ?_
 by_cases b1:b < -999999999
 ·obtain rfl:=e3 (.inr (.inl rfl)) (.inl b1)
  refine klt (.tmp 15) (.const (.int .i64 (-999999999))) b _ true _ bG (decide_eq_true b1) ?_
  exact uP Tryz.func15 (by kernel_rfl)
 refine klt (.tmp 15) (.const (.int .i64 (-999999999))) b _ false _ bG (decide_eq_false b1) ?_
 by_cases b2:999999999<b
 ·obtain rfl:=e3 (.inr (.inl rfl)) (.inr b2)
  refine kgg (.tmp 21) (.const (.int .i64 999999999)) b _ true _ bG (decide_eq_true b2) ?_
  exact uP Tryz.func15 (by kernel_rfl)
 refine kgg (.tmp 21) (.const (.int .i64 999999999)) b _ false _ bG (decide_eq_false b2) ?_
 by_cases c1:c < -999999999
 ·obtain rfl:=e3 (.inr (.inr rfl)) (.inl c1)
  refine klt (.tmp 15) (.const (.int .i64 (-999999999))) c _ true _ bG (decide_eq_true c1) ?_
  exact uP Tryz.func15 (by kernel_rfl)
 refine klt (.tmp 15) (.const (.int .i64 (-999999999))) c _ false _ bG (decide_eq_false c1) ?_
 by_cases c2:999999999<c
 ·obtain rfl:=e3 (.inr (.inr rfl)) (.inr c2)
  refine kgg (.tmp 21) (.const (.int .i64 999999999)) c _ true _ bG (decide_eq_true c2) ?_
  exact uP Tryz.func15 (by kernel_rfl)
 refine kgg (.tmp 21) (.const (.int .i64 999999999)) c _ false _ bG (decide_eq_false c2) ?_
 rw [if_neg (by unfold Bg;omega)] at hz
 have hg:=intGcdF (a:=a) (b:=b) (by omega) (by omega)
 have hs:=size_gcd (a:=a) (b:=b) (by omega) (by omega)
 have hg2:=intGcdF (a:=(Int.gcd a b:Int)) (b:=c) hs (by omega)
 clear e3 hs
 generalize (Int.gcd a b:Int)=g at *
 generalize Int.gcd g c=g2 at *
 refine jC 50 [.fv (.sc (gC a)),.fv (.sc (gC b))] (hg) ?_
 refine jC 50 [.fv (.sc (gC g)),.fv (.sc (gC c))] (hg2) ?_
 by_cases g1:g2=1
 ·rw [if_neg (by omega)] at hz
  subst hz
  refine kne (.tmp 34) (.const (.int .i64 1)) (g2:Int) 1 false _ bG (by rw [g1];rfl) ?_
  refine jC 51 [tx s] (hk) ?_
  exact jR Tryz.func15
 ·obtain rfl:z=1:=by rw [← hz,if_pos g1]
  refine kne (.tmp 34) (.const (.int .i64 1)) (g2:Int) 1 true _ bG (by simp;omega) ?_
  exact uP Tryz.func15 (by kernel_rfl)
theorem checkNormalF (h0:¬ (a=0∧b=0∧c=0)) (ha:¬ Bg a) (hb:¬ Bg b) (hc:¬ Bg c) (hg:Int.gcd (Int.gcd a b:Int) c=1):jF 99 [iv a b c] (it 0):=by
 have w:∀ {x:Int},¬ Bg x→x.natAbs<aD:=fun h=>by unfold Bg at h;rw [aL];omega
 have g1:=dO (a:=0) (b:=a.natAbs) (by rw [aL];omega) (w ha)
 have l1:Nat.gcd 0 a.natAbs<aD:=by rw [Nat.gcd_zero_left];exact w ha
 have g2:=dO l1 (w hb)
 have l2:Nat.gcd (Nat.gcd 0 a.natAbs) b.natAbs<aD:=by
  rw [Nat.gcd_zero_left]
  by_cases e:a=0
  ·rw [e];simpa using w hb
  ·exact Nat.lt_of_le_of_lt (Nat.gcd_le_left _ (by omega)) (w ha)
 have g3:=dO l2 (w hc)
 have e3:Nat.gcd (Nat.gcd (Nat.gcd 0 a.natAbs) b.natAbs) c.natAbs=1:=by
  rw [Nat.gcd_zero_left]
  exact hg
 rw [e3] at g3
 generalize Nat.gcd (Nat.gcd 0 a.natAbs) b.natAbs=x2 at *
 generalize Nat.gcd 0 a.natAbs=x1 at *
 unfold Bg at ha hb hc
 refine Fits.args (l := [i3 a b c]) ?_ fun β vs w ⟨v,r,e,h,hr⟩=>⟨v,r,e,iv_i3 β v w h,hr⟩
 refine jG Tryz.func99 fun w00=>?_
 refine kz3 (.tmp 6) (.tmp 7) a b c false (by rw [Bool.eq_false_iff];simp;omega) ?_
 refine klt (.tmp 13) (.const (.int .i64 (-999999999))) a (-999999999) false _ bG (by rw [decide_eq_false_iff_not];omega) ?_
 refine kgg (.tmp 16) (.const (.int .i64 999999999)) a 999999999 false _ bG (by rw [decide_eq_false_iff_not];omega) ?_
 refine kneg 21 a (by constructor <;> omega) (by constructor <;> omega) ?_
 refine kabs 20 22 a ?_
 refine kcvu 23 a.natAbs (by omega) ?_
 refine jC 161 [.fv (.sc (.lit (.int .u64 ((0:Nat):Int)))),.fv (.sc (.lit (.int .u64 (a.natAbs:Int))))] (g1) ?_
 refine klt (.tmp 13) (.const (.int .i64 (-999999999))) b (-999999999) false _ bG (by rw [decide_eq_false_iff_not];omega) ?_
 refine kgg (.tmp 16) (.const (.int .i64 999999999)) b 999999999 false _ bG (by rw [decide_eq_false_iff_not];omega) ?_
 refine kneg 21 b (by constructor <;> omega) (by constructor <;> omega) ?_
 refine kabs 20 22 b ?_
 refine kcvu 23 b.natAbs (by omega) ?_
 refine jC 161 [.fv (.sc (.lit (.int .u64 (x1:Int)))),.fv (.sc (.lit (.int .u64 (b.natAbs:Int))))] (g2) ?_
 refine klt (.tmp 13) (.const (.int .i64 (-999999999))) c (-999999999) false _ bG (by rw [decide_eq_false_iff_not];omega) ?_
 refine kgg (.tmp 16) (.const (.int .i64 999999999)) c 999999999 false _ bG (by rw [decide_eq_false_iff_not];omega) ?_
 refine kneg 21 c (by constructor <;> omega) (by constructor <;> omega) ?_
 refine kabs 20 22 c ?_
 refine kcvu 23 c.natAbs (by omega) ?_
 refine jC 161 [.fv (.sc (.lit (.int .u64 (x2:Int)))),.fv (.sc (.lit (.int .u64 (c.natAbs:Int))))] (g3) ?_
 exact jR Tryz.func99
end
def csPs:CS Kn where
 size:=1
 cold:=true
 pred cs _ := ∃ a:Addr,cs = [.pointer (some a)]
 stable _ _ _ h _:=h
 len _ _ h:=by obtain ⟨a,h⟩:=h;rw [h];rfl
 one _ _ h:=by obtain ⟨a,h⟩:=h;rw [h];intro c hc;rw [List.mem_singleton] at hc;rw [hc];rfl
 iscold _ _ _ h:=by obtain ⟨a,h⟩:=h;rw [h];intro c hc;rw [List.mem_singleton] at hc;rw [hc];rfl
abbrev sInt (z:Int):List (Seg Kn) := [.lit (.int .i64 z),z0,.lit (.pointer none)]
abbrev sBig:List (Seg Kn) := [z0,z0,.sp csPs]
theorem iR {z:Int} (h:Sm (z:Rat)) {β:List Nat} {cs:List Value} {w:World} (k:(csNb (z:Rat)).pred cs w):holdsL β (sInt z) cs w:=by
 rcases k with ⟨_,e⟩|⟨h2,_⟩
 ·injection e with e
  have:=congrArg Array.toList e
  have e:cs = [.int .i64 z,.int .i64 0,.pointer none]:=by simpa using this
  rw [e]
  exact ⟨[_],_,rfl,⟨rfl,rfl⟩,[_],_,rfl,⟨rfl,rfl⟩,[_],_,rfl,⟨rfl,rfl⟩,rfl⟩
 ·exact absurd h h2
theorem seg_big {q:Rat} (h:¬ Sm q) {β:List Nat} {cs:List Value} {w:World} (k:(csNb q).pred cs w):holdsL β sBig cs w:=by
 rcases k with ⟨h2,_⟩|⟨_,g,s1,s2,e,_⟩
 ·exact absurd h2 h
 ·injection e with e
  have e:cs = [.int .i64 0,.int .i64 0,.pointer (some ⟨g,0,none⟩)]:=congrArg Array.toList e
  rw [e]
  exact ⟨[_],_,rfl,⟨rfl,rfl⟩,[_],_,rfl,⟨rfl,rfl⟩,[_],_,rfl,⟨_,rfl⟩,rfl⟩
theorem tO {q:Rat} {β:List Nat} {cs:List Value} {w:World} (k:(csNb q).pred cs w):holdsL β [nb q] cs w:=⟨cs,[],by simp,k,rfl⟩
theorem nE {z:Int} (hz:Sz z):Sm (z:Rat):=by
 constructor
 ·rw [Rat.num_intCast,dM];omega
 ·rw [Rat.den_intCast,dM];omega
theorem tP {q1 q2 q3 d:Rat} {s1 s2 s3:List (Seg Kn)} (h1:∀ β cs w,(csNb q1).pred cs w→holdsL β s1 cs w) (h2:∀ β cs w,(csNb q2).pred cs w→holdsL β s2 cs w) (h3:∀ β cs w,(csNb q3).pred cs w→holdsL β s3 cs w) (β:List Nat) (v:Value) (w:World)
 (h:(hf q1 q2 q3 d).holds β v w):(AV.fv (.ag (s1++(s2++(s3 ++ [nb d])))):AV Kn).holds β v w:=by
 obtain ⟨cs,rfl,x1,r1,rfl,k1,x2,r2,rfl,k2,x3,r3,rfl,k3,hr⟩:=h
 exact ⟨_,rfl,holdsL.append (h1 β x1 w k1) (holdsL.append (h2 β x2 w k2) (holdsL.append (h3 β x3 w k3) hr))⟩
theorem pne_run {o:Oper} {ρ:Operand→Value} {w:World} {x:Operand} {a:Addr} {T T' : TypeId} (hT:T=61) (ho:o.op = .binOp .neq T x (.const (.pointer none)) T') (hx:ρ x = .pointer (some a)) (hy:ρ (.const (.pointer none)) = .pointer none) :
 (execOp ρ o).run Tryz.prog w = .ok (.value (.bool true)) w:=by
 subst hT
 simp only [execOp,ho,hx,hy]
 refine bH ?_
 exact bL (by kernel_rfl) w
theorem magM {z:Int} (h:Sm (z:Rat)):jF 110 [it z] (.fv (.sc (isU (z.natAbs:Int)))):=by
 have hz:=h.1
 rw [Rat.num_intCast,dM] at hz
 intro β w vs hv
 obtain ⟨v,rfl,h1⟩:=dL hv
 rw [aO h1]
 exact (dS z w (by omega) (by omega)).mono fun e w' ⟨e1,e2⟩=>⟨_,e1,by rw [← e2];exact aB _ _,bK⟩
section
variable {f:FuncId} {w00:World} {Out:Value→World→Prop} {c:Cfg Kn}
theorem kbig (t:Tmp) (hg:Ok Tryz.prog f w00 Out (cI Tryz.prog 1000 (c.give (bl true))))
 (hc:(c.op.map fun o=>o.op,c.okT (bl true),c.ev (.tmp t),c.ev (.const (.pointer none)))=(some (.binOp .neq 61 (.tmp t) (.const (.pointer none)) 61),true,.fv (.sc (.sp csPs)),.fv (.sc (.lit (.pointer none)))):=by kernel_rfl):Ok Tryz.prog f w00 Out c :=
 oZ _ (.tmp t) (.const (.pointer none)) _ _ (bl true) hc (by simp [Op.operands]) (by simp [Op.operands]) (fun ρ o β w ho hx hy=>by
  obtain ⟨a,e⟩:=hx
  injection e with e
  exact ⟨_,pne_run rfl ho e (aO hy),bE rfl⟩) hg
end
abbrev qN:AV Kn := .tup [.ag [.lit (.int .i64 0),.lit (.int .i64 0),.lit (.int .i64 0),.lit (.string ⟨#[]⟩)],.sc (.lit (.int .i64 4))]
section
variable {n1 n2 n3 d e:Rat} {z1 z2 z3:Int}
structure Big (n1 n2 n3 d:Rat) (z1 z2 z3:Int) (e:Rat):Prop where
 l1:Lf 30 n1
 l2:Lf 30 n2
 l3:Lf 30 n3
 ld:Lf 38 d
 h0:¬ (n1=0∧n2=0∧n3=0)
 e1:bB n1 n2 n3*n1=z1
 e2:bB n1 n2 n3*n2=z2
 e3:bB n1 n2 n3*n3=z3
 ed:d*bB n1 n2 n3=e
 s:¬ (Sz z1∧Sz z2∧Sz z3)
 wr:Wr e
theorem hWriteLargeF (h:Big n1 n2 n3 d z1 z2 z3 e):jX 46 [hf n1 n2 n3 d] qN:=by
 have g:∀ {z:Int},Sz z→decide ((999999999:Int)<(z.natAbs:Int))=false:=fun hz=>by rw [decide_eq_false_iff_not];omega
 have b:∀ {z:Int},¬ Sz z→decide ((999999999:Int)<(z.natAbs:Int))=true:=fun hz=>by rw [decide_eq_true_iff];omega
 have hR:=reducedF h.l1 h.l2 h.l3 h.ld h.h0
 rw [h.e1,h.e2,h.e3,h.ed] at hR
 have cw:=qB (h.wr.lf.mono (by decide)) h.wr.n h.wr.d
 by_cases s1:Sz z1
 ·by_cases s2:Sz z2
  ·have s3:¬ Sz z3:=fun s3=>h.s ⟨s1,s2,s3⟩
   by_cases m:Sm (z3:Rat)
   ·have gr:=Fits.res hR (tP (fun _ _ _=>iR (nE s1)) (fun _ _ _=>iR (nE s2)) (fun _ _ _=>iR m))
    refine jY Tryz.func46 fun w00 hI=>?_
    refine jC 109 [hf n1 n2 n3 d] (gr) ?_
    refine jW hI 59 [num e] (cw) ?_
    refine jC 110 [it z1] (magM (nE s1)) ?_
    refine jN 34 z1.natAbs 999999999 false (g s1) ?_
    refine jC 110 [it z2] (magM (nE s2)) ?_
    refine jN 34 z2.natAbs 999999999 false (g s2) ?_
    refine jC 110 [it z3] (magM m) ?_
    refine jN 34 z3.natAbs 999999999 true (b s3) ?_
    exact jR Tryz.func46
   ·have gr:=Fits.res hR (tP (fun _ _ _=>iR (nE s1)) (fun _ _ _=>iR (nE s2)) (fun _ _ _=>seg_big m))
    refine jY Tryz.func46 fun w00 hI=>?_
    refine jC 109 [hf n1 n2 n3 d] (gr) ?_
    refine jW hI 59 [num e] (cw) ?_
    refine jC 110 [it z1] (magM (nE s1)) ?_
    refine jN 34 z1.natAbs 999999999 false (g s1) ?_
    refine jC 110 [it z2] (magM (nE s2)) ?_
    refine jN 34 z2.natAbs 999999999 false (g s2) ?_
    refine kbig 29 ?_
    exact jR Tryz.func46
  ·by_cases m:Sm (z2:Rat)
   ·have gr:=Fits.res hR (tP (fun _ _ _=>iR (nE s1)) (fun _ _ _=>iR m) (fun _ _ _=>tO))
    refine jY Tryz.func46 fun w00 hI=>?_
    refine jC 109 [hf n1 n2 n3 d] (gr) ?_
    refine jW hI 59 [num e] (cw) ?_
    refine jC 110 [it z1] (magM (nE s1)) ?_
    refine jN 34 z1.natAbs 999999999 false (g s1) ?_
    refine jC 110 [it z2] (magM m) ?_
    refine jN 34 z2.natAbs 999999999 true (b s2) ?_
    exact jR Tryz.func46
   ·have gr:=Fits.res hR (tP (fun _ _ _=>iR (nE s1)) (fun _ _ _=>seg_big m) (fun _ _ _=>tO))
    refine jY Tryz.func46 fun w00 hI=>?_
    refine jC 109 [hf n1 n2 n3 d] (gr) ?_
    refine jW hI 59 [num e] (cw) ?_
    refine jC 110 [it z1] (magM (nE s1)) ?_
    refine jN 34 z1.natAbs 999999999 false (g s1) ?_
    refine kbig 29 ?_
    exact jR Tryz.func46
 ·by_cases m:Sm (z1:Rat)
  ·have gr:=Fits.res hR (tP (fun _ _ _=>iR m) (fun _ _ _=>tO) (fun _ _ _=>tO))
   refine jY Tryz.func46 fun w00 hI=>?_
   refine jC 109 [hf n1 n2 n3 d] (gr) ?_
   refine jW hI 59 [num e] (cw) ?_
   refine jC 110 [it z1] (magM m) ?_
   refine jN 34 z1.natAbs 999999999 true (b s1) ?_
   exact jR Tryz.func46
  ·have gr:=Fits.res hR (tP (fun _ _ _=>seg_big m) (fun _ _ _=>tO) (fun _ _ _=>tO))
   refine jY Tryz.func46 fun w00 hI=>?_
   refine jC 109 [hf n1 n2 n3 d] (gr) ?_
   refine jW hI 59 [num e] (cw) ?_
   refine kbig 29 ?_
   exact jR Tryz.func46
end
def Bq (k:Nat) (q:Rat):Prop:=q.num.natAbs<10^k∧q.den<10^k
theorem Bq.mono {k l:Nat} {q:Rat} (h:Bq k q) (hk:k≤l):Bq l q :=
 ⟨Nat.lt_of_lt_of_le h.1 (Nat.pow_le_pow_right (by omega) hk),Nat.lt_of_lt_of_le h.2 (Nat.pow_le_pow_right (by omega) hk)⟩
theorem Bq.mul {j k:Nat} {p q:Rat} (hp:Bq j p) (hq:Bq k q):Bq (j+k) (p*q):=by
 rw [Rat.mul_def']
 obtain ⟨h1,h2⟩:=cE (p.num*q.num) (Nat.ne_of_gt (Nat.mul_pos p.den_pos q.den_pos))
 rw [Int.natAbs_mul] at h1
 refine ⟨Nat.lt_of_le_of_lt h1 ?_,Nat.lt_of_le_of_lt h2 ?_⟩
 ·rw [Nat.pow_add];exact Nat.mul_lt_mul'' hp.1 hq.1
 ·rw [Nat.pow_add];exact Nat.mul_lt_mul'' hp.2 hq.2
theorem Bq.add {j k:Nat} {p q:Rat} (hp:Bq j p) (hq:Bq k q):Bq (j+k+1) (p+q):=by
 rw [Rat.add_def']
 obtain ⟨h1,h2⟩:=cE (p.num*q.den+q.num*p.den) (Nat.ne_of_gt (Nat.mul_pos p.den_pos q.den_pos))
 have a1:p.num.natAbs*q.den<10^(j+k):=by rw [Nat.pow_add];exact Nat.mul_lt_mul'' hp.1 hq.2
 have a2:q.num.natAbs*p.den<10^(j+k):=by rw [Nat.pow_add,Nat.mul_comm];exact Nat.mul_lt_mul'' hp.2 hq.1
 have a3:p.den*q.den<10^(j+k):=by rw [Nat.pow_add];exact Nat.mul_lt_mul'' hp.2 hq.2
 have a4:10^(j+k+1)=10^(j+k)*10:=Nat.pow_succ _ _
 have a5:=Int.natAbs_add_le (p.num*q.den) (q.num*p.den)
 rw [Int.natAbs_mul,Int.natAbs_mul,Int.natAbs_natCast,Int.natAbs_natCast] at a5
 exact ⟨by omega,by omega⟩
theorem Bq.neg {k:Nat} {p:Rat} (hp:Bq k p):Bq k (-p):=by
 refine ⟨?_,hp.2⟩
 rw [Rat.neg_num,Int.natAbs_neg];exact hp.1
theorem Bq.sub {j k:Nat} {p q:Rat} (hp:Bq j p) (hq:Bq k q):Bq (j+k+1) (p-q):=by
 rw [Rat.sub_eq_add_neg]
 exact hp.add hq.neg
theorem Bq.inv {k:Nat} {p:Rat} (hp:Bq k p):Bq k p⁻¹:=by
 by_cases h0:p=0
 ·subst h0;rw [Rat.inv_zero];exact hp
 ·obtain ⟨_,e1,e2⟩:=Parts.inv (Parts.self p) h0
  exact ⟨by rw [← e1];exact hp.2,by rw [← e2];exact hp.1⟩
theorem Bq.div {j k:Nat} {p q:Rat} (hp:Bq j p) (hq:Bq k q):Bq (j+k) (p/q):=by
 rw [Rat.div_def]
 exact hp.mul hq.inv
theorem Bq.dt {k l n:Nat} {a b c x y z:Rat} (h1:Bq k a) (h2:Bq k b) (h3:Bq k c) (g1:Bq l x) (g2:Bq l y) (g3:Bq l z) (hn:3*(k+l)+2≤n):Bq n (dt a b c x y z) :=
 (((h1.mul g1).add (h2.mul g2)).add (h3.mul g3)).mono (by omega)
theorem Bq.wr {k:Nat} {q:Rat} (h:Bq k q) (hk:k≤600):Wr q:=by
 have h':=h.mono (l:=599+1) hk
 exact ⟨decB_size h'.1,decB_size h'.2⟩
theorem Bq.zs {k:Nat} {q:Rat} (h:Bq k q) (hk:k≤10000):Zs 10000 q:=by
 have h':=h.mono (l:=10000+1) (by omega)
 exact h'
theorem xR {k:Nat} {q:Rat} (h:Fw k q):Bq k q:=⟨mZ h.1,mZ h.2⟩
theorem tQ (x:Rat):0≤x*x:=by
 rcases Rat.le_total (a:=0) (b:=x) with h|h
 ·exact Rat.mul_nonneg h h
 ·have h' : 0≤-x:=by grind
  have:=Rat.mul_nonneg h' h'
  grind
theorem sum_sq {x y z:Rat} (h:dt x y z x y z=0):x=0∧y=0∧z=0:=by
 have h1:=tQ x
 have h2:=tQ y
 have h3:=tQ z
 have a1:x*x=0:=by grind
 have a2:y*y=0:=by grind
 have a3:z*z=0:=by grind
 exact ⟨by grind,by grind,by grind⟩
theorem numr_ne {q:Rat} (h:q≠0):q.num≠0:=fun e=>h (Rat.num_eq_zero.1 e)
theorem dec_and {p q r:Prop} [Decidable p] [Decidable q] [Decidable r] (h:¬ (p∧q∧r)):(decide p&&decide q&&decide r)=false:=by
 rw [Bool.eq_false_iff]
 intro hh
 simp only [Bool.and_eq_true,decide_eq_true_eq] at hh
 exact h ⟨hh.1.1,hh.1.2,hh.2⟩
section
variable {a b c:Int} {s:ByteArray}
abbrev In (k x:Int):Prop := -k≤x∧x≤k
end
section
variable {a b c x y z d:Rat} {k l n:Nat}
theorem dotV (h1:Bq k a) (h2:Bq k b) (h3:Bq k c) (g1:Bq l x) (g2:Bq l y) (g3:Bq l z) (hk:2*(k+l)<10000):jF 144 [vS a b c,vS x y z] (tx (writeB (dt a b c x y z))) :=
 dotR (kn_S (vI (h1.zs (by omega)) (g1.zs (by omega)))) (kn_S (vI (h2.zs (by omega)) (g2.zs (by omega)))) (kn_S (vJ ((h1.mul g1).zs (by omega)) ((h2.mul g2).zs (by omega))))
  (kn_S (vI (h3.zs (by omega)) (g3.zs (by omega)))) (kn_S (vJ (((h1.mul g1).add (h2.mul g2)).zs (by omega)) ((h3.mul g3).zs (by omega))))
end
theorem bq_int {z:Int} {k:Nat} (h:z.natAbs<10^k) (hk:0<k):Bq k (z:Rat):=by
 refine ⟨by rw [Rat.num_intCast];exact h,?_⟩
 rw [Rat.den_intCast]
 have:=Nat.pow_le_pow_right (n:=10) (by omega) hk
 omega
theorem yJ {k:Nat} {q:Rat} (h:Bq k q) (hk:k≤600):jF 51 [tx (writeB q)] (it 0):=chkF (h.wr hk).n (h.wr hk).d
def Fy (k:Nat) (s:ByteArray):Prop := ∃ q,s=writeB q∧Fw k q
theorem zW {a b c:ByteArray} {n:Int} {k:Nat} (yes:∀ s,Fy k s→jF 28 [tx s,it n] (bl true)) (no:∀ s,¬ Fy k s→jF 28 [tx s,it n] (bl false)) :
 (Fy k a∧Fy k b∧Fy k c∧jF 6 [t3 a b c,it n] (bl true))∨jF 6 [t3 a b c,it n] (bl false):=by
 by_cases h1:Fy k a
 ·by_cases h2:Fy k b
  ·by_cases h3:Fy k c
   ·exact .inl ⟨h1,h2,h3,fewVecT (yes _ h1) (yes _ h2) (yes _ h3)⟩
   ·exact .inr (fewVecF3 (yes _ h1) (yes _ h2) (no _ h3))
  ·exact .inr (fewVecF2 (yes _ h1) (no _ h2))
 ·exact .inr (fewVecF1 (no _ h1))
section
variable {a1 a2 a3 b1 b2 b3 c1 c2 c3 m1 m2 m3:Rat} {z1 z2 z3:Int}
theorem lcm_lt {x y i j:Nat} (hx:x<10^i) (hy:y<10^j):Nat.lcm x y<10^(i+j):=by
 unfold Nat.lcm
 refine Nat.lt_of_le_of_lt (Nat.div_le_self _ _) ?_
 rw [Nat.pow_add]
 exact Nat.mul_lt_mul'' hx hy
theorem bq_whole {k:Nat} (h1:Bq k m1) (h2:Bq k m2) (h3:Bq k m3) {L G:Nat} (hG0:0<G) (hw:bB m1 m2 m3=mkRat L G) (hL:L=Nat.lcm m3.den (Nat.lcm m2.den (Nat.lcm m1.den 1))) (g1:G ∣ m1.num.natAbs) (g2:G ∣ m2.num.natAbs) (g3:G ∣ m3.num.natAbs) (h0:¬ (m1=0∧m2=0∧m3=0)):Bq (3*k+1) (bB m1 m2 m3):=by
 have hl:L<10^(3*k+1):=by
  rw [hL,show 3*k+1=k+(k+(k+1)) by omega]
  exact lcm_lt h3.2 (lcm_lt h2.2 (lcm_lt h1.2 (by decide)))
 have le:∀ {q:Rat},Bq k q→G ∣ q.num.natAbs→q≠0→G<10^k:=fun {q} h g hq=>by
  have h0:q.num≠0:=numr_ne hq
  exact Nat.lt_of_le_of_lt (Nat.le_of_dvd (by omega) g) h.1
 have hg:G<10^k:=by
  by_cases n1:m1=0
  ·by_cases n2:m2=0
   ·exact le h3 g3 fun n3=>h0 ⟨n1,n2,n3⟩
   ·exact le h2 g2 n2
  ·exact le h1 g1 n1
 have hg' : G<10^(3*k+1):=Nat.lt_of_lt_of_le hg (Nat.pow_le_pow_right (by omega) (by omega))
 obtain ⟨e1,e2⟩:=cE (L:Int) (d:=G) (by omega)
 rw [hw]
 exact ⟨by omega,by omega⟩
structure Thr (a1 a2 a3 b1 b2 b3 c1 c2 c3:Rat) (z1 z2 z3:Int) (e:Rat):Prop where
 e1:bB ((b2-a2)*(c3-a3)-(b3-a3)*(c2-a2)) ((b3-a3)*(c1-a1)-(b1-a1)*(c3-a3)) ((b1-a1)*(c2-a2)-(b2-a2)*(c1-a1))*((b2-a2)*(c3-a3)-(b3-a3)*(c2-a2))=z1
 e2:bB ((b2-a2)*(c3-a3)-(b3-a3)*(c2-a2)) ((b3-a3)*(c1-a1)-(b1-a1)*(c3-a3)) ((b1-a1)*(c2-a2)-(b2-a2)*(c1-a1))*((b3-a3)*(c1-a1)-(b1-a1)*(c3-a3))=z2
 e3:bB ((b2-a2)*(c3-a3)-(b3-a3)*(c2-a2)) ((b3-a3)*(c1-a1)-(b1-a1)*(c3-a3)) ((b1-a1)*(c2-a2)-(b2-a2)*(c1-a1))*((b1-a1)*(c2-a2)-(b2-a2)*(c1-a1))=z3
 ed:e=dt z1 z2 z3 a1 a2 a3
 h0:¬ (z1=0∧z2=0∧z3=0)
 s1:Sz z1
 s2:Sz z2
 s3:Sz z3
 g:Int.gcd (Int.gcd z1 z2:Int) z3=1
 b:Bq 300 e
 w:jX 20 [vS a1 a2 a3,vS b1 b2 b3,vS c1 c2 c3] (pA z1 z2 z3 e)
end
end Ab
namespace Ab
open Go.RowKit
section
variable {Kc:Value→Bool} {P:Program} {f:FuncId} {w00:World} {Out:Value→World→Prop}
theorem put_put (a:Act) (d:Tmp) (u v:Value):(a.put (some d) u).put (some d) v=a.put (some d) v:=by
 simp [Act.put]
theorem good_own {ops:Array Oper} {o:Oper} {rest:List Oper} {k:List Item} {st:St Kc} {n:Nat} {T:TypeId} {l:List (Seg Kc)} {d:Tmp} (ho:yL P (evL st.slot) (st.blocks.map some) o = .nsl n T l) (hd:o.dst=some d) (hw:pD st.slot ops o=some true)
 (hg:iB P f w00 Out (.plain ops rest k { st with slots:=st.slots.set d (.fv (.sc (.slc st.blocks.length 0 n n))),blocks:=st.blocks ++ [(T,l)] })):iB P f w00 Out (.plain ops (o::rest) k st):=by
 intro β a w hR
 refine gU (hR.wants hw) ?_
 have hs:∀ y∈o.op.operands,(evL st.slot y).holds β (a.eval y) w:=fun y _=>hR.ev y
 unfold Oper.wp
 obtain ⟨cs,e,hl⟩:=aAc ho hs
 rw [e]
 simp only [Oper.upon,hd]
 have h1:=hR.new (d:=d) (T:=T) hl
 have hnew:(β ++ [w.heap.size])[st.blocks.length]?=some w.heap.size:=by rw [← hR.len];simp
 have h2:=h1.put (dst:=some d) (x := .fv (.sc (.slc st.blocks.length 0 n n))) (v := .slice (some ⟨w.heap.size,0,none⟩) n n) ⟨w.heap.size,hnew,rfl⟩
 rw [put_put] at h2
 simp only [St.put,setS,List.set_set] at h2
 exact hg _ _ _ h2
def Cfg.own (P:Program) (c:Cfg Kc):Option (Cfg Kc):=match c with
 | .plain ops (o::rest) k st=>match yL P (evL st.slot) (st.blocks.map some) o,o.dst with
   | .nsl n T l,some d=>if pD st.slot ops o=some true then some (.plain ops rest k { st with slots:=st.slots.set d (.fv (.sc (.slc st.blocks.length 0 n n))),blocks:=st.blocks ++ [(T,l)] }) else none
   | _,_=>none
 | _=>none
theorem Ok.own {c c' : Cfg Kc} (h:c.own P=some c') (hg:Ok P f w00 Out c'):Ok P f w00 Out c:=by
 unfold Cfg.own at h
 split at h
 ·split at h
  ·rename_i ho hd
   split at h
   ·rename_i hw
    injection h with h
    subst h
    exact ⟨good_own ho hd hw hg.good⟩
   ·cases h
  ·cases h
 ·cases h
end
theorem kgoN {f:FuncId} {fn:Func} {args:List (AV Kn)} {x:AV Kn} (n:Nat) (hfn:Tryz.prog.funcs[f]?=some fn) (hc:(fn.body.isSome,decide (args.length≤fn.ntmps),x.noPtr,args.all AV.noPtr)=(true,true,true,true))
 (h:∀ w00,Ok Tryz.prog f w00 (fun v w=>x.holds [] v w) (cI Tryz.prog n (nW fn args))):jF f args x:=by
 simp only [Prod.mk.injEq] at hc
 exact fits_go hfn hc.1 hc.2.1 hc.2.2.1 hc.2.2.2 fun w00=>Ok.go (by kernel_rfl) nC n (h w00)
section
variable {f:FuncId} {w00:World} {Out:Value→World→Prop} {c:Cfg Kn}
theorem kown (h:(c.own Tryz.prog).isSome=true) (hg:Ok Tryz.prog f w00 Out (cI Tryz.prog 1000 ((c.own Tryz.prog).getD c))):Ok Tryz.prog f w00 Out c:=by
 obtain ⟨c',hc⟩:=Option.isSome_iff_exists.1 h
 rw [hc] at hg
 exact Ok.own hc (Ok.go (by kernel_rfl) nC 1000 hg)
end
end Ab
namespace Ab
open Go.RowKit Pl
section
variable {o1 o2 o3 x1 x2 x3 y1 y2 y3 z1 z2 z3:Rat}
theorem isZeroT {s:ByteArray} {r:Bool} (h:(s.toList==(⟨#[48]⟩:ByteArray).toList)=r):jF 143 [tx s] (bl r):=by
 refine jG Tryz.func143 fun w00=>?_
 refine jK (.binOp .eql 22 (.tmp 3) (.const (.string ⟨#[48]⟩)) 22) (.tmp 3) (.const (.string ⟨#[48]⟩)) (tx s) (lt ⟨#[48]⟩) (bl r) (fun ρ o β w ho hx hy=>⟨_,rJ ho (aQ hx) (aO hy) h,bE rfl⟩) ?_
 exact jR Tryz.func143
theorem isOriginT {a b c:ByteArray} {r:Bool} (h:(a.toList==(⟨#[48]⟩:ByteArray).toList&&b.toList==(⟨#[48]⟩:ByteArray).toList&&c.toList==(⟨#[48]⟩:ByteArray).toList)=r):jF 84 [t3 a b c] (bl r):=by
 refine jG Tryz.func84 fun w00=>?_
 refine jC 142 [] (originF) ?_
 refine jK (.binOp .eql 24 (.tmp 3) (.tmp 4) 24) (.tmp 3) (.tmp 4) (t3 a b c) (.fv (.ag [.lit (.string ⟨#[48]⟩),.lit (.string ⟨#[48]⟩),.lit (.string ⟨#[48]⟩)])) (bl r) (fun ρ o β w ho hx hy=>⟨_,agg_eq (by kernel_rfl) (h▸equalT a b c _ _ _ w) ho (s3_is hx) (l3_is hy),bE rfl⟩) ?_
 exact jR Tryz.func84
theorem crossR {a b c d e f p1 p2 p3 p4 p5 p6 r1 r2 r3:ByteArray} (h1:jF 202 [tx b,tx f] (tx p1)) (h2:jF 202 [tx c,tx e] (tx p2)) (h3:jF 238 [tx p1,tx p2] (tx r1)) (h4:jF 202 [tx c,tx d] (tx p3)) (h5:jF 202 [tx a,tx f] (tx p4)) (h6:jF 238 [tx p3,tx p4] (tx r2))
 (h7:jF 202 [tx a,tx e] (tx p5)) (h8:jF 202 [tx b,tx d] (tx p6)) (h9:jF 238 [tx p5,tx p6] (tx r3)):jF 203 [t3 a b c,t3 d e f] (t3 r1 r2 r3):=by
 refine jG Tryz.func203 fun w00=>?_
 refine jC 202 [tx b,tx f] (h1) ?_
 refine jC 202 [tx c,tx e] (h2) ?_
 refine jC 238 [tx p1,tx p2] (h3) ?_
 refine jC 202 [tx c,tx d] (h4) ?_
 refine jC 202 [tx a,tx f] (h5) ?_
 refine jC 238 [tx p3,tx p4] (h6) ?_
 refine jC 202 [tx a,tx e] (h7) ?_
 refine jC 202 [tx b,tx d] (h8) ?_
 refine jC 238 [tx p5,tx p6] (h9) ?_
 exact jR Tryz.func203
variable {k l:Nat}
theorem crossV {a b c x y z:Rat} (h1:Bq k a) (h2:Bq k b) (h3:Bq k c) (g1:Bq l x) (g2:Bq l y) (g3:Bq l z) (hk:k+l≤10000):jF 203 [vS a b c,vS x y z] (vS (b*z-c*y) (c*x-a*z) (a*y-b*x)) :=
 have m:∀ {p q:Rat},Bq k p→Bq l q→jF 202 [tx (writeB p),tx (writeB q)] (tx (writeB (p*q))):=fun hp hq=>kn_S (vI (hp.zs (by omega)) (hq.zs (by omega)))
 have s:∀ {p q r t:Rat},Bq k p→Bq l q→Bq k r→Bq l t→jF 238 [tx (writeB (p*q)),tx (writeB (r*t))] (tx (writeB (p*q-r*t))):=fun hp hq hr ht=>kn_S (subR ((hp.mul hq).zs (by omega)) ((hr.mul ht).zs (by omega)))
 crossR (m h2 g3) (m h3 g2) (s h2 g3 h3 g2) (m h3 g1) (m h1 g3) (s h3 g1 h1 g3) (m h1 g2) (m h2 g1) (s h1 g2 h2 g1)
theorem detR {a b c d e f g h i p q r v:ByteArray} (h1:jF 203 [t3 d e f,t3 g h i] (t3 p q r)) (h2:jF 144 [t3 a b c,t3 p q r] (tx v)):jF 146 [t3 a b c,t3 d e f,t3 g h i] (tx v):=by
 refine jG Tryz.func146 fun w00=>?_
 refine jC 203 [t3 d e f,t3 g h i] (h1) ?_
 refine jC 144 [t3 a b c,t3 p q r] (h2) ?_
 exact jR Tryz.func146
abbrev yK (o1 o2 o3 x1 x2 x3 y1 y2 y3 z1 z2 z3:ByteArray):AV Kn := .fv (.ag [dD o1,dD o2,dD o3,dD x1,dD x2,dD x3,dD y1,dD y2,dD y3,dD z1,dD z2,dD z3])
end
abbrev Tx:=Nat→ByteArray
abbrev V3 (v:Tx):AV Kn:=t3 (v 0) (v 1) (v 2)
abbrev okV3 (v:Tx):AV Kn := .tup [.ag [dD (v 0),dD (v 1),dD (v 2)],.sc z0]
abbrev m3:ByteArray:=⟨#[45,51]⟩
theorem equalZd (d:Nat) (a b c x y z:Int) (w:World):(Op.equalIn (d+2) 27 (.agg #[.int .i64 a,.int .i64 b,.int .i64 c]) (.agg #[.int .i64 x,.int .i64 y,.int .i64 z])).run Tryz.prog w = .ok (a==x&&b==y&&c==z) w :=
 equal3 (d+1) (e:=3) (by kernel_rfl) (by kernel_rfl) (fun w=>by kernel_rfl) (fun w=>by kernel_rfl) (fun w=>run_equalIn_int w _ _ _ .i64 _ _ (by kernel_rfl)) (fun w=>run_equalIn_int w _ _ _ .i64 _ _ (by kernel_rfl)) (fun w=>run_equalIn_int w _ _ _ .i64 _ _ (by kernel_rfl)) w
theorem equalHf (a b c:Int) (s:ByteArray) (w:World):(Op.equal 29 (.agg #[.int .i64 a,.int .i64 b,.int .i64 c,.string s]) (.agg #[.int .i64 a,.int .i64 b,.int .i64 c,.string s])).run Tryz.prog w = .ok true w:=by
 have u:=Tryz.isAgg27
 have z:=Tryz.sizeOf27
 have u2:=Tryz.isAgg22
 have z2:=Tryz.sizeOf22
 have k:=fun (w:World)=>equalZd 9997 a b c a b c w
 have k2:=fun (w:World)=>run_equalIn_string (P:=Tryz.prog) w 9998 22 s s (by kernel_rfl)
 simp only [beq_self_eq_true,Bool.and_self] at k k2
 unfold Op.equal Op.maxDepth
 rw [show (10000:Nat)=9999+1 from rfl,run_equalIn_struct w 9999 _ _ _ (by kernel_rfl) (by kernel_rfl)]
 simp only [Program.fieldsOf,Tryz.underlying29]
 simp [go_sem,u,z,u2,z2,Op.eqFields,k,k2]
theorem hL_is {a b c:Int} {s:ByteArray} {β:List Nat} {v:Value} {w:World} (h:(hL a b c s).holds β v w):v = .agg #[.int .i64 a,.int .i64 b,.int .i64 c,.string s]:=by
 obtain ⟨cs,rfl,x1,r1,rfl,h1,x2,r2,rfl,h2,x3,r3,rfl,h3,x4,r4,rfl,h4,e⟩:=h
 rw [show r4 = [] from e,h1.1,h2.1,h3.1,show x4=_ from h4]
 rfl
abbrev okL (a b c:Int) (s:ByteArray):AV Kn := .tup [.ag [.lit (.int .i64 a),.lit (.int .i64 b),.lit (.int .i64 c),dD s],.sc z0]
abbrev qP (a b c d:Tx):AV Kn:=yK (a 0) (a 1) (a 2) (b 0) (b 1) (b 2) (c 0) (c 1) (c 2) (d 0) (d 1) (d 2)
abbrev SdW (h:AV Kn) (p:Tx) (n:Int):Prop:=jX 16 [h,V3 p] (.tup [.sc (.lit (.int .i64 n)),.sc z0])
theorem hv_of {z1 z2 z3:Int} {d:Rat} (h0:¬ (z1=0∧z2=0∧z3=0)) (h1:¬ Bg z1) (h2:¬ Bg z2) (h3:¬ Bg z3) (hg:Int.gcd (Int.gcd z1 z2:Int) z3=1) (hd:Wr d):Hv z1 z2 z3 d :=
 ⟨by unfold Bg at h1;omega,by unfold Bg at h2;omega,by unfold Bg at h3;omega,hd,checkNormalF h0 h1 h2 h3 hg⟩
theorem kn_L {f:FuncId} {s:ByteArray} {z:Int} (h:jF f [rS s] (.fv (.sc (.lit (.int .i64 z))))):jF f [tx s] (it z):=by
 intro β w vs hv
 obtain ⟨v,rfl,h1⟩:=dL hv
 rw [aQ h1]
 exact (h β w [.string s] ⟨_,_,rfl,dC,rfl⟩).mono fun e w' ⟨v,e1,e2,e3⟩=>⟨v,e1,e2,by rw [bZ e3];exact bE rfl⟩
def tx3 (a b c:Rat):Tx:=fun n=>match n with|0=>writeB a|1=>writeB b|_=>writeB c
section
variable {x1 x2 x3 y1 y2 y3 z1 z2 z3 u1 u2 u3 v1 v2 v3 w1 w2 w3 p1 p2 p3 m1 m2 m3:Rat} {k:Nat}
theorem ld_bq {a b c x y z:Rat} {l n:Nat} (h1:Bq k a) (h2:Bq k b) (h3:Bq k c) (g1:Bq l x) (g2:Bq l y) (g3:Bq l z) (hn:3*(k+l)+2≤n):Bq n (ld a b c x y z):=Bq.dt h1 h2 h3 g1 g2 g3 hn
end
theorem t0_eq {q:Rat} (h:q=0):((writeB q).toList==(⟨#[48]⟩:ByteArray).toList)=true:=by
 have e:writeB q=⟨#[48]⟩:=by rw [h];exact w0
 rw [e]
 exact beq_self_eq_true _
theorem t0_ne {q:Rat} (h:q≠0):((writeB q).toList==(⟨#[48]⟩:ByteArray).toList)=false:=kJ (kU (numr_ne h))
theorem gcd_neg3 (z1 z2 z3:Int):Int.gcd (Int.gcd (-z1) (-z2):Int) (-z3)=Int.gcd (Int.gcd z1 z2:Int) z3:=by
 rw [Int.neg_gcd,Int.gcd_neg,Int.gcd_neg]
section
variable {z1 z2 z3:Int} {e:Rat}
theorem pQ (h0:¬ (z1=0∧z2=0∧z3=0)) (h1:Sz z1) (h2:Sz z2) (h3:Sz z3) (hg:Int.gcd (Int.gcd z1 z2:Int) z3=1) {k:Nat} (hb:Bq k e) (hk:k≤600):jF 15 [hL z1 z2 z3 (writeB e)] (it 0):=by
 have c:jF 51 [tx (writeB e)] (.fv (.sc (gC 0))):=(yJ hb hk).res fun _ _ _ h=>h.1
 have hz:hkZ z1 z2 z3 0=0:=by
  unfold hkZ
  rw [if_neg h0,if_neg (by unfold Bg;omega),if_neg (by rw [hg];decide)]
 have:=xQ c hz
 exact Fits.res (Fits.args (l := [hA z1 z2 z3 (writeB e)]) this fun β vs w ⟨v,r,e,h,hr⟩=>⟨v,r,e,hL_A β v w h,hr⟩) fun _ v _ h=>by rw [aQ h];exact bE rfl
variable {p1 p2 p3:Rat}
end
section
variable {a1 a2 a3 b1 b2 b3 c1 c2 c3 d1 d2 d3:Rat} {z1 z2 z3 i1 i2 i3 j1 j2 j3:Int} {e u v:Rat}
theorem Thr.hv (h:Thr a1 a2 a3 b1 b2 b3 c1 c2 c3 z1 z2 z3 e):Hv z1 z2 z3 e:=by
 have h1:=h.s1
 have h2:=h.s2
 have h3:=h.s3
 exact hv_of h.h0 (by unfold Bg;omega) (by unfold Bg;omega) (by unfold Bg;omega) h.g (h.b.wr (by omega))
theorem Thr.op (h:Thr a1 a2 a3 b1 b2 b3 c1 c2 c3 z1 z2 z3 e):Hv (-z1) (-z2) (-z3) (-e):=by
 have h1:=h.s1
 have h2:=h.s2
 have h3:=h.s3
 exact hv_of (fun ⟨a,b,c⟩=>h.h0 ⟨by omega,by omega,by omega⟩) (by unfold Bg;omega) (by unfold Bg;omega) (by unfold Bg;omega) (by rw [gcd_neg3];exact h.g) (h.b.neg.wr (by omega))
end
open Classical in
theorem t0_dec (q:Rat):((writeB q).toList==(⟨#[48]⟩:ByteArray).toList)=decide (q=0):=by
 by_cases h:q=0
 ·rw [decide_eq_true h,t0_eq h]
 ·rw [decide_eq_false h,t0_ne h]
theorem isZeroQ (q:Rat):jF 143 [tx (writeB q)] (bl (decide (q=0))):=isZeroT (t0_dec q)
theorem signQ (q:Rat):jF 145 [tx (writeB q)] (it (lJ q)):=by
 unfold lJ bS
 by_cases h:q.num<0
 ·rw [if_pos h];exact kn_L (signFn h)
 ·rw [if_neg h]
  by_cases h' : 0<q.num
  ·rw [if_pos h'];exact kn_L (signFp h')
  ·rw [if_neg h'];exact kn_L (signF0 (by omega))
section
variable {o1 o2 o3 x1 x2 x3 y1 y2 y3 z1 z2 z3 p q r v:ByteArray} {b1 b2 b3 b4 i1 i2 i3:Bool} {s z n:Int}
theorem shapeZ (h1:jF 144 [t3 x1 x2 x3,t3 y1 y2 y3] (tx p)) (j1:jF 143 [tx p] (bl i1)) (h2:jF 144 [t3 y1 y2 y3,t3 z1 z2 z3] (tx q)) (j2:jF 143 [tx q] (bl i2)) (h3:jF 144 [t3 z1 z2 z3,t3 x1 x2 x3] (tx r)) (j3:jF 143 [tx r] (bl i3))
 (h4:jF 146 [t3 x1 x2 x3,t3 y1 y2 y3,t3 z1 z2 z3] (tx v)) (h5:jF 145 [tx v] (it s)) (hs:s=1∨s=0∨s = -1) (hz:z=if (i1&&i2&&i3&&s==1)=true then 0 else 15):jF 85 [yK o1 o2 o3 x1 x2 x3 y1 y2 y3 z1 z2 z3] (it z):=by
 refine jG Tryz.func85 fun w00=>?_
 refine jC 144 [t3 x1 x2 x3,t3 y1 y2 y3] (h1) ?_
 cases i1
 ·obtain rfl:z=15:=hz
  refine jC 143 [tx p] (j1) ?_
  exact jR Tryz.func85
 refine jC 143 [tx p] (j1) ?_
 refine jC 144 [t3 y1 y2 y3,t3 z1 z2 z3] (h2) ?_
 cases i2
 ·obtain rfl:z=15:=hz
  refine jC 143 [tx q] (j2) ?_
  exact jR Tryz.func85
 refine jC 143 [tx q] (j2) ?_
 refine jC 144 [t3 z1 z2 z3,t3 x1 x2 x3] (h3) ?_
 cases i3
 ·obtain rfl:z=15:=hz
  refine jC 143 [tx r] (j3) ?_
  exact jR Tryz.func85
 refine jC 143 [tx r] (j3) ?_
 refine jC 146 [t3 x1 x2 x3,t3 y1 y2 y3,t3 z1 z2 z3] (h4) ?_
 rcases hs with rfl|rfl|rfl
 ·obtain rfl:z=0:=hz
  refine jC 145 [tx v] (h5) ?_
  exact jR Tryz.func85
 ·obtain rfl:z=15:=hz
  refine jC 145 [tx v] (h5) ?_
  exact jR Tryz.func85
 ·obtain rfl:z=15:=hz
  refine jC 145 [tx v] (h5) ?_
  exact jR Tryz.func85
theorem checkFrameZ (h1:jF 10 [t3 o1 o2 o3] (it 0)) (h2:jF 10 [t3 x1 x2 x3] (it 0)) (h3:jF 10 [t3 y1 y2 y3] (it 0)) (h4:jF 10 [t3 z1 z2 z3] (it 0))
 (j1:jF 84 [t3 x1 x2 x3] (bl i1)) (j2:jF 84 [t3 y1 y2 y3] (bl i2)) (j3:jF 84 [t3 z1 z2 z3] (bl i3)) (h5:jF 85 [yK o1 o2 o3 x1 x2 x3 y1 y2 y3 z1 z2 z3] (it s)) (hz:z=if (i1 || i2 || i3)=true then 6 else s) :
 jF 27 [yK o1 o2 o3 x1 x2 x3 y1 y2 y3 z1 z2 z3] (it z):=by
 refine kgoN 15 Tryz.func27 (by kernel_rfl) fun w00=>?_
 refine kown (by kernel_rfl) ?_
 refine jC 10 [t3 o1 o2 o3] (h1) ?_
 refine jC 10 [t3 x1 x2 x3] (h2) ?_
 refine jC 10 [t3 y1 y2 y3] (h3) ?_
 refine jC 10 [t3 z1 z2 z3] (h4) ?_
 cases i1
 ·refine jC 84 [t3 x1 x2 x3] (j1) ?_
  cases i2
  ·refine jC 84 [t3 y1 y2 y3] (j2) ?_
   cases i3
   ·obtain rfl:z=s:=hz
    refine jC 84 [t3 z1 z2 z3] (j3) ?_
    refine jC 85 [yK o1 o2 o3 x1 x2 x3 y1 y2 y3 z1 z2 z3] (h5) ?_
    exact jR Tryz.func27
   ·obtain rfl:z=6:=hz
    refine jC 84 [t3 z1 z2 z3] (j3) ?_
    exact jR Tryz.func27
  ·obtain rfl:z=6:=hz
   refine jC 84 [t3 y1 y2 y3] (j2) ?_
   exact jR Tryz.func27
 ·obtain rfl:z=6:=hz
  refine jC 84 [t3 x1 x2 x3] (j1) ?_
  exact jR Tryz.func27
theorem fewFrameZ (h1:jF 6 [t3 o1 o2 o3,it n] (bl true)) (h2:jF 6 [t3 x1 x2 x3,it n] (bl true)) (h3:jF 6 [t3 y1 y2 y3,it n] (bl true)) (h4:jF 6 [t3 z1 z2 z3,it n] (bl true))
 (h5:jF 27 [yK o1 o2 o3 x1 x2 x3 y1 y2 y3 z1 z2 z3] (it s)) (hs:s=0∨s=6∨s=15):jF 5 [yK o1 o2 o3 x1 x2 x3 y1 y2 y3 z1 z2 z3,it n] (bl (s==0)):=by
 refine jG Tryz.func5 fun w00=>?_
 refine jC 6 [t3 o1 o2 o3,it n] (h1) ?_
 refine jC 6 [t3 x1 x2 x3,it n] (h2) ?_
 refine jC 6 [t3 y1 y2 y3,it n] (h3) ?_
 refine jC 6 [t3 z1 z2 z3,it n] (h4) ?_
 rcases hs with rfl|rfl|rfl
 iterate 3 (
  ·refine jC 27 [yK o1 o2 o3 x1 x2 x3 y1 y2 y3 z1 z2 z3] (h5) ?_
   exact kret Tryz.func5 (by kernel_rfl))
theorem kM (h1:jF 6 [t3 o1 o2 o3,it n] (bl b1)) (h2:jF 6 [t3 x1 x2 x3,it n] (bl b2)) (h3:jF 6 [t3 y1 y2 y3,it n] (bl b3)) (h4:jF 6 [t3 z1 z2 z3,it n] (bl b4)) (hb:(b1&&b2&&b3&&b4)=false) :
 jF 5 [yK o1 o2 o3 x1 x2 x3 y1 y2 y3 z1 z2 z3,it n] (bl false):=by
 refine jG Tryz.func5 fun w00=>?_
 cases b1
 ·refine jC 6 [t3 o1 o2 o3,it n] (h1) ?_
  exact jR Tryz.func5
 refine jC 6 [t3 o1 o2 o3,it n] (h1) ?_
 cases b2
 ·refine jC 6 [t3 x1 x2 x3,it n] (h2) ?_
  exact jR Tryz.func5
 refine jC 6 [t3 x1 x2 x3,it n] (h2) ?_
 cases b3
 ·refine jC 6 [t3 y1 y2 y3,it n] (h3) ?_
  exact jR Tryz.func5
 refine jC 6 [t3 y1 y2 y3,it n] (h3) ?_
 cases b4
 ·refine jC 6 [t3 z1 z2 z3,it n] (h4) ?_
  exact jR Tryz.func5
 ·cases hb
end
structure Gd (x1 x2 x3 y1 y2 y3 z1 z2 z3:Rat):Prop where
 xy:dt x1 x2 x3 y1 y2 y3=0
 yz:dt y1 y2 y3 z1 z2 z3=0
 zx:dt z1 z2 z3 x1 x2 x3=0
 det:0<(dt x1 x2 x3 (y2*z3-y3*z2) (y3*z1-y1*z3) (y1*z2-y2*z1)).num
section
variable {o1 o2 o3 x1 x2 x3 y1 y2 y3 z1 z2 z3:Rat} {k:Nat}
theorem zX (q:Rat):lJ q=1∨lJ q=0∨lJ q = -1:=by
 unfold lJ bS
 split
 ·exact .inr (.inr rfl)
 ·split
  ·exact .inl rfl
  ·exact .inr (.inl rfl)
theorem tR (a b c:Rat):jF 84 [vS a b c] (bl (decide (a=0)&&decide (b=0)&&decide (c=0))):=isOriginT (by rw [t0_dec,t0_dec,t0_dec])
theorem checkFrameQ (ho:Bq k o1∧Bq k o2∧Bq k o3) (hx:Bq k x1∧Bq k x2∧Bq k x3) (hy:Bq k y1∧Bq k y2∧Bq k y3) (hz:Bq k z1∧Bq k z2∧Bq k z3) (hk:k≤600) :
 ∃ s,jF 27 [yK (writeB o1) (writeB o2) (writeB o3) (writeB x1) (writeB x2) (writeB x3) (writeB y1) (writeB y2) (writeB y3) (writeB z1) (writeB z2) (writeB z3)] (it s)∧(s=0∨s=6∨s=15)∧(s=0→Gd x1 x2 x3 y1 y2 y3 z1 z2 z3):=by
 have cv:∀ {a b c:Rat},Bq k a∧Bq k b∧Bq k c→jF 10 [t3 (writeB a) (writeB b) (writeB c)] (it 0):=fun h=>tM (yJ h.1 hk) (yJ h.2.1 hk) (yJ h.2.2 hk)
 have hc:=crossV hy.1 hy.2.1 hy.2.2 hz.1 hz.2.1 hz.2.2 (by omega)
 have c1:Bq (k+k+(k+k)+1) (y2*z3-y3*z2):=(hy.2.1.mul hz.2.2).sub (hy.2.2.mul hz.2.1)
 have c2:Bq (k+k+(k+k)+1) (y3*z1-y1*z3):=(hy.2.2.mul hz.1).sub (hy.1.mul hz.2.2)
 have c3:Bq (k+k+(k+k)+1) (y1*z2-y2*z1):=(hy.1.mul hz.2.1).sub (hy.2.1.mul hz.1)
 have hd:=dotV hx.1 hx.2.1 hx.2.2 c1 c2 c3 (by omega)
 have hS:=shapeZ (o1:=writeB o1) (o2:=writeB o2) (o3:=writeB o3) (dotV hx.1 hx.2.1 hx.2.2 hy.1 hy.2.1 hy.2.2 (by omega)) (isZeroQ _) (dotV hy.1 hy.2.1 hy.2.2 hz.1 hz.2.1 hz.2.2 (by omega)) (isZeroQ _) (dotV hz.1 hz.2.1 hz.2.2 hx.1 hx.2.1 hx.2.2 (by omega)) (isZeroQ _) (detR hc hd) (signQ _) (zX _) rfl
 have hC:=checkFrameZ (cv ho) (cv hx) (cv hy) (cv hz) (tR x1 x2 x3) (tR y1 y2 y3) (tR z1 z2 z3) hS rfl
 refine ⟨_,hC,?_,?_⟩
 ·split
  ·exact .inr (.inl rfl)
  ·split
   ·exact .inl rfl
   ·exact .inr (.inr rfl)
 ·intro h
  split at h
  ·cases h
  ·split at h
   ·rename_i g
    simp only [Bool.and_eq_true,decide_eq_true_eq,beq_iff_eq] at g
    refine ⟨g.1.1.1,g.1.1.2,g.1.2,?_⟩
    have g2:=g.2
    unfold lJ bS at g2
    split at g2
    ·cases g2
    ·split at g2
     ·assumption
     ·cases g2
   ·cases h
theorem fewFrame_or {a b c d:Tx} {n:Int} (hk:k≤600) (yes:∀ s,Fy k s→jF 28 [tx s,it n] (bl true)) (no:∀ s,¬ Fy k s→jF 28 [tx s,it n] (bl false)) :
 (∃ o1 o2 o3 x1 x2 x3 y1 y2 y3 z1 z2 z3,(a 0=writeB o1∧a 1=writeB o2∧a 2=writeB o3)∧(b 0=writeB x1∧b 1=writeB x2∧b 2=writeB x3)∧(c 0=writeB y1∧c 1=writeB y2∧c 2=writeB y3)∧(d 0=writeB z1∧d 1=writeB z2∧d 2=writeB z3)∧(Bq k o1∧Bq k o2∧Bq k o3)∧(Bq k x1∧Bq k x2∧Bq k x3)∧(Bq k y1∧Bq k y2∧Bq k y3)∧(Bq k z1∧Bq k z2∧Bq k z3)∧Gd x1 x2 x3 y1 y2 y3 z1 z2 z3∧jF 5 [qP a b c d,it n] (bl true)) ∨
  jF 5 [qP a b c d,it n] (bl false):=by
 have F:∀ (p:Tx),(∃ x y z,(p 0=writeB x∧p 1=writeB y∧p 2=writeB z)∧(Bq k x∧Bq k y∧Bq k z)∧jF 6 [V3 p,it n] (bl true))∨jF 6 [V3 p,it n] (bl false):=fun p =>
  (zW yes no).imp (fun ⟨⟨x,e1,f1⟩,⟨y,e2,f2⟩,⟨z,e3,f3⟩,h⟩=>⟨x,y,z,⟨e1,e2,e3⟩,⟨xR f1,xR f2,xR f3⟩,h⟩) id
 have N:∀ (p:Tx),∃ t,jF 6 [V3 p,it n] (bl t):=fun p=>(F p).elim (fun ⟨_,_,_,_,_,h⟩=>⟨_,h⟩) fun h=>⟨_,h⟩
 obtain ⟨t2,n2⟩:=N b
 obtain ⟨t3,n3⟩:=N c
 obtain ⟨t4,n4⟩:=N d
 rcases F a with ⟨o1,o2,o3,ea,ka,v1⟩|v1
 ·rcases F b with ⟨x1,x2,x3,eb,kb,v2⟩|v2
  ·rcases F c with ⟨y1,y2,y3,ec,kc,v3⟩|v3
   ·rcases F d with ⟨z1,z2,z3,ed,kd,v4⟩|v4
    ·obtain ⟨s,hC,hs,hg⟩:=checkFrameQ ka kb kc kd hk
     rw [← ea.1,← ea.2.1,← ea.2.2,← eb.1,← eb.2.1,← eb.2.2,← ec.1,← ec.2.1,← ec.2.2,← ed.1,← ed.2.1,← ed.2.2] at hC
     have:=fewFrameZ v1 v2 v3 v4 hC hs
     by_cases h0:s=0
     ·subst h0
      exact .inl ⟨o1,o2,o3,x1,x2,x3,y1,y2,y3,z1,z2,z3,ea,eb,ec,ed,ka,kb,kc,kd,hg rfl,this⟩
     ·right
      rw [beq_eq_false_iff_ne.2 h0] at this
      exact this
    ·exact .inr (kM v1 v2 v3 v4 rfl)
   ·exact .inr (kM v1 v2 v3 n4 rfl)
  ·exact .inr (kM v1 v2 n3 n4 rfl)
 ·exact .inr (kM v1 n2 n3 n4 rfl)
end
section
variable {m1 m2 m3 d:Rat}
theorem tS (h0:¬ (m1=0∧m2=0∧m3=0)):0<bB m1 m2 m3:=by
 obtain ⟨_,_,_,_,_,_,_,L,G,hL0,hG0,hw,_⟩:=qG h0
 rw [hw,Rat.mkRat_eq_div,Rat.div_def]
 have h1:(0:Rat)<(L:Int):=by exact_mod_cast hL0
 have h2:(0:Rat)<(G:Nat):=by exact_mod_cast hG0
 exact Rat.mul_pos h1 (Rat.inv_pos.2 h2)
theorem hw_out {k j:Nat} (q1:Bq k m1) (q2:Bq k m2) (q3:Bq k m3) (qd:Bq j d) (hk:j+(3*k+1)≤600) (h0:¬ (m1=0∧m2=0∧m3=0)) :
 (∃ z1 z2 z3:Int,bB m1 m2 m3*m1=z1∧bB m1 m2 m3*m2=z2∧bB m1 m2 m3*m3=z3∧Sz z1∧Sz z2∧Sz z3∧Int.gcd (Int.gcd z1 z2:Int) z3=1∧Bq (3*k+1) (bB m1 m2 m3)∧Bq (j+(3*k+1)) (d*bB m1 m2 m3)∧jX 46 [hf m1 m2 m3 d] (pA z1 z2 z3 (d*bB m1 m2 m3))) ∨
  jX 46 [hf m1 m2 m3 d] qN:=by
 have l:∀ {q:Rat} {k:Nat},Bq k q→k≤600→Lf 30 q:=fun h hk=>(h.wr hk).lf.mono (by decide)
 obtain ⟨z1,z2,z3,f1,f2,f3,hg,L,G,hL0,hG0,hw,hL,g1,g2,g3⟩:=qG h0
 have qw:=bq_whole q1 q2 q3 hG0 hw hL g1 g2 g3 h0
 have qe:=qd.mul qw
 have ld:Lf 38 d:=(l qd (by omega)).mono (by decide)
 by_cases hs:Sz z1∧Sz z2∧Sz z3
 ·exact .inl ⟨z1,z2,z3,f1,f2,f3,hs.1,hs.2.1,hs.2.2,hg,qw,qe,rN ⟨l q1 (by omega),l q2 (by omega),l q3 (by omega),ld,h0,f1,f2,f3,rfl,hs.1,hs.2.1,hs.2.2,qe.wr hk⟩⟩
 ·exact .inr (hWriteLargeF ⟨l q1 (by omega),l q2 (by omega),l q3 (by omega),ld,h0,f1,f2,f3,rfl,hs,qe.wr hk⟩)
end
section
variable {o1 o2 o3 x1 x2 x3 y1 y2 y3 z1 z2 z3 p1 p2 p3:Rat} {n1 n2 n3:Int} {d e:Rat} {k1 k2 k3:Int} {x:AV Kn}
theorem uQ (h:Fv o1 o2 o3 x1 x2 x3 y1 y2 y3 z1 z2 z3) (k:Hv n1 n2 n3 d) (h0:Sq0 x1 x2 x3 y1 y2 y3 z1 z2 z3) {q1 q2 q3:Rat}
 (e1:ld (n1/dt x1 x2 x3 x1 x2 x3) (n2/dt y1 y2 y3 y1 y2 y3) (n3/dt z1 z2 z3 z1 z2 z3) x1 y1 z1=q1) (e2:ld (n1/dt x1 x2 x3 x1 x2 x3) (n2/dt y1 y2 y3 y1 y2 y3) (n3/dt z1 z2 z3 z1 z2 z3) x2 y2 z2=q2) (e3:ld (n1/dt x1 x2 x3 x1 x2 x3) (n2/dt y1 y2 y3 y1 y2 y3) (n3/dt z1 z2 z3 z1 z2 z3) x3 y3 z3=q3)
 (l1:Lf 30 q1) (l2:Lf 30 q2) (l3:Lf 30 q3) (hx:x=pA k1 k2 k3 e∨x=qN) (hm:jX 46 [hf q1 q2 q3 (d+dt q1 q2 q3 o1 o2 o3)] x):jX 13 [iI o1 o2 o3 x1 x2 x3 y1 y2 y3 z1 z2 z3,hS n1 n2 n3 d] x:=by
 obtain ⟨a1,a2,a3,b1,b2,b3,c1,c2,c3⟩:=h.w.lm
 obtain ⟨g1,g2,g3⟩:=uW h.w.o
 have ld':=k.d.lf
 have t1:=bY k.s1 (k:=10)
 have t2:=bY k.s2 (k:=10)
 have t3:=bY k.s3 (k:=10)
 have s1:Lf 10 (dt x1 x2 x3 x1 x2 x3):=by repeat' (first|exact Lf.mono (by assumption) (by decide)|refine Lf.muln ?_ ?_ (by decide)|refine Lf.addn ?_ ?_ (by decide)|refine Lf.subn ?_ ?_ (by decide))
 have s2:Lf 10 (dt y1 y2 y3 y1 y2 y3):=by repeat' (first|exact Lf.mono (by assumption) (by decide)|refine Lf.muln ?_ ?_ (by decide)|refine Lf.addn ?_ ?_ (by decide)|refine Lf.subn ?_ ?_ (by decide))
 have s3:Lf 10 (dt z1 z2 z3 z1 z2 z3):=by repeat' (first|exact Lf.mono (by assumption) (by decide)|refine Lf.muln ?_ ?_ (by decide)|refine Lf.addn ?_ ?_ (by decide)|refine Lf.subn ?_ ?_ (by decide))
 have r1:=mV t1 s1 (aR 11)
 have r2:=mV t2 s2 (aR 11)
 have r3:=mV t3 s3 (aR 11)
 have j:jF 41 [gE 42,vc n1 n2 n3,vc (dt x1 x2 x3 x1 x2 x3) (dt y1 y2 y3 y1 y2 y3) (dt z1 z2 z3 z1 z2 z3)] (vc (n1/dt x1 x2 x3 x1 x2 x3) (n2/dt y1 y2 y3 y1 y2 y3) (n3/dt z1 z2 z3 z1 z2 z3)) :=
  yY Tryz.call42 (lK (t1.mono (by decide)) (s1.mono (by decide)) h0.x) (lK (t2.mono (by decide)) (s2.mono (by decide)) h0.y) (lK (t3.mono (by decide)) (s3.mono (by decide)) h0.z)
 have hl:jF 40 [mB o1 o2 o3 x1 x2 x3 y1 y2 y3 z1 z2 z3,vc (n1/dt x1 x2 x3 x1 x2 x3) (n2/dt y1 y2 y3 y1 y2 y3) (n3/dt z1 z2 z3 z1 z2 z3)] (vc q1 q2 q3):=by
  rw [← e1,← e2,← e3]
  exact yZ (h.w.lm.mono (by decide)) ⟨r1.mono (by decide),r2.mono (by decide),r3.mono (by decide)⟩
 have hp:jF 44 [num d,num (dt q1 q2 q3 o1 o2 o3)] (num (d+dt q1 q2 q3 o1 o2 o3)):=rG (by repeat' (first|exact Lf.mono (by assumption) (by decide)|refine Lf.muln ?_ ?_ (by decide)|refine Lf.addn ?_ ?_ (by decide)|refine Lf.subn ?_ ?_ (by decide))) (by repeat' (first|exact Lf.mono (by assumption) (by decide)|refine Lf.muln ?_ ?_ (by decide)|refine Lf.addn ?_ ?_ (by decide)|refine Lf.subn ?_ ?_ (by decide)))
 have hd:jF 45 [vc q1 q2 q3,vc o1 o2 o3] (num (dt q1 q2 q3 o1 o2 o3)):=nF (by repeat' (first|exact Lf.mono (by assumption) (by decide)|refine Lf.muln ?_ ?_ (by decide)|refine Lf.addn ?_ ?_ (by decide)|refine Lf.subn ?_ ?_ (by decide))) (by repeat' (first|exact Lf.mono (by assumption) (by decide)|refine Lf.muln ?_ ?_ (by decide)|refine Lf.addn ?_ ?_ (by decide)|refine Lf.subn ?_ ?_ (by decide))) (by repeat' (first|exact Lf.mono (by assumption) (by decide)|refine Lf.muln ?_ ?_ (by decide)|refine Lf.addn ?_ ?_ (by decide)|refine Lf.subn ?_ ?_ (by decide))) (by repeat' (first|exact Lf.mono (by assumption) (by decide)|refine Lf.muln ?_ ?_ (by decide)|refine Lf.addn ?_ ?_ (by decide)|refine Lf.subn ?_ ?_ (by decide))) (by repeat' (first|exact Lf.mono (by assumption) (by decide)|refine Lf.muln ?_ ?_ (by decide)|refine Lf.addn ?_ ?_ (by decide)|refine Lf.subn ?_ ?_ (by decide))) (by repeat' (first|exact Lf.mono (by assumption) (by decide)|refine Lf.muln ?_ ?_ (by decide)|refine Lf.addn ?_ ?_ (by decide)|refine Lf.subn ?_ ?_ (by decide)))
 have hs:=wY (o1:=o1) (o2:=o2) (o3:=o3) (h.w.lm.mono (by decide))
 rcases hx with rfl|rfl
 iterate 2 (
  ·refine jY Tryz.func13 fun w00 hI=>?_
   refine jW hI 38 [gE 30,iI o1 o2 o3 x1 x2 x3 y1 y2 y3 z1 z2 z3,gE 39,hS n1 n2 n3 d] (readFH h k) ?_
   refine jC 43 [mB o1 o2 o3 x1 x2 x3 y1 y2 y3 z1 z2 z3] (hs) ?_
   refine jC 41 [gE 42,vc n1 n2 n3,vc (dt x1 x2 x3 x1 x2 x3) (dt y1 y2 y3 y1 y2 y3) (dt z1 z2 z3 z1 z2 z3)] (j) ?_
   refine jC 40 [mB o1 o2 o3 x1 x2 x3 y1 y2 y3 z1 z2 z3,vc (n1/dt x1 x2 x3 x1 x2 x3) (n2/dt y1 y2 y3 y1 y2 y3) (n3/dt z1 z2 z3 z1 z2 z3)] (hl) ?_
   refine jC 45 [vc q1 q2 q3,vc o1 o2 o3] (hd) ?_
   refine jC 44 [num d,num (dt q1 q2 q3 o1 o2 o3)] (hp) ?_
   refine jW hI 46 [hf q1 q2 q3 (d+dt q1 q2 q3 o1 o2 o3)] (hm) ?_
   exact kret Tryz.func13 (by kernel_rfl))
theorem kO (h:Fv o1 o2 o3 x1 x2 x3 y1 y2 y3 z1 z2 z3) (k:Hv n1 n2 n3 d) (hx:x=pA k1 k2 k3 e∨x=qN) (hm:jX 46 [hf (dt n1 n2 n3 x1 x2 x3) (dt n1 n2 n3 y1 y2 y3) (dt n1 n2 n3 z1 z2 z3) (-(dt n1 n2 n3 o1 o2 o3-d))] x) :
 jX 14 [iI o1 o2 o3 x1 x2 x3 y1 y2 y3 z1 z2 z3,hS n1 n2 n3 d] x:=by
 obtain ⟨a1,a2,a3,b1,b2,b3,c1,c2,c3⟩:=h.w.lm.mono (l:=31) (by decide)
 have ho:=(uW h.w.o).mono (l:=31) (by decide)
 have he:=eachVNc Tryz.call45 (nF (bY k.s1) (bY k.s2) (bY k.s3) a1 a2 a3) (nF (bY k.s1) (bY k.s2) (bY k.s3) b1 b2 b3) (nF (bY k.s1) (bY k.s2) (bY k.s3) c1 c2 c3)
 have hE:=vE (bY k.s1) (bY k.s2) (bY k.s3) (k.d.lf.mono (by decide)) ho.a ho.b ho.c
 rcases hx with rfl|rfl
 iterate 2 (
  ·refine jY Tryz.func14 fun w00 hI=>?_
   refine jW hI 38 [gE 30,iI o1 o2 o3 x1 x2 x3 y1 y2 y3 z1 z2 z3,gE 39,hS n1 n2 n3 d] (readFH h k) ?_
   refine jC 47 [cloV 45 n1 n2 n3,mt x1 x2 x3 y1 y2 y3 z1 z2 z3] (he) ?_
   refine jC 48 [hf n1 n2 n3 d,vc o1 o2 o3] (hE) ?_
   refine jC 49 [num (dt n1 n2 n3 o1 o2 o3-d)] (negatedF) ?_
   refine jW hI 46 [hf (dt n1 n2 n3 x1 x2 x3) (dt n1 n2 n3 y1 y2 y3) (dt n1 n2 n3 z1 z2 z3) (-(dt n1 n2 n3 o1 o2 o3-d))] (hm) ?_
   exact kret Tryz.func14 (by kernel_rfl))
end
theorem sgnR_scale {F t:Rat} (hF:0<F):lJ (F*t)=lJ t:=by
 have a:0≤(F*t).num↔0≤t.num:=by
  rw [Rat.num_nonneg,Rat.num_nonneg]
  refine ⟨fun h=>Rat.not_lt.1 fun hn=>?_,fun h=>Rat.mul_nonneg (Rat.le_of_lt hF) h⟩
  have:=(Rat.mul_lt_mul_left hF).2 hn
  rw [Rat.mul_zero] at this
  exact Rat.not_lt.2 h this
 have b:(F*t).num=0↔t.num=0:=by
  rw [Rat.num_eq_zero,Rat.num_eq_zero,Rat.mul_eq_zero]
  exact ⟨fun h=>h.elim (fun e=>absurd (e▸hF) (by decide)) id,.inr⟩
 unfold lJ bS
 generalize (F*t).num=A at *
 generalize t.num=B at *
 repeat' split
 all_goals first|rfl|omega
theorem num_den (t:Rat):t*t.den=t.num:=by
 have h1:(t.den:Rat)≠0:=by exact_mod_cast t.den_nz
 have h2:t=t.num/t.den:=by rw [← Rat.mkRat_eq_div,Rat.mkRat_self]
 have h3:t.num/(t.den:Rat)*t.den=t.num:=by rw [Rat.div_def,Rat.mul_assoc,Rat.inv_mul_cancel _ h1,Rat.mul_one]
 rw [← h2] at h3
 exact h3
theorem prim_one {t:Rat} {n1 n2 n3 z1 z2 z3:Int} (ht:0<t) (e1:t*n1=z1) (e2:t*n2=z2) (e3:t*n3=z3) (hn:Int.gcd (Int.gcd n1 n2:Int) n3=1) (hz:Int.gcd (Int.gcd z1 z2:Int) z3=1):t=1:=by
 have key:∀ {n z:Int},t*n=z→t.den ∣ n.natAbs∧t.num.natAbs ∣ z.natAbs:=fun {n z} e=>by
  have h:t.num*n=z*t.den:=by
   have:((t.num*n:Int):Rat)=((z*t.den:Int):Rat):=by
    push_cast
    rw [← e,← num_den t]
    grind
   exact_mod_cast this
  have h':=congrArg Int.natAbs h
  rw [Int.natAbs_mul,Int.natAbs_mul,Int.natAbs_natCast] at h'
  exact ⟨t.reduced.symm.dvd_of_dvd_mul_left ⟨z.natAbs,by rw [h',Nat.mul_comm]⟩,t.reduced.dvd_of_dvd_mul_right ⟨n.natAbs,h'.symm⟩⟩
 have a1:=key e1
 have a2:=key e2
 have a3:=key e3
 have hd:t.den ∣ 1:=by
  rw [← hn]
  exact Nat.dvd_gcd (Nat.dvd_gcd a1.1 a2.1) a3.1
 have hm:t.num.natAbs ∣ 1:=by
  rw [← hz]
  exact Nat.dvd_gcd (Nat.dvd_gcd a1.2 a2.2) a3.2
 have k1:=Nat.dvd_one.1 hd
 have k2:=Nat.dvd_one.1 hm
 have k3:0≤t.num:=Rat.num_nonneg.2 (Rat.le_of_lt ht)
 have k4:t.num=1:=by omega
 have:=num_den t
 rw [k1,k4] at this
 have t1:((1:Nat):Rat)=1:=rfl
 have t2:((1:Int):Rat)=1:=rfl
 rw [t1,t2,Rat.mul_one] at this
 exact this
theorem whole_scale {n1 n2 n3:Int} {F:Rat} (hF:0<F) (h0:¬ (n1=0∧n2=0∧n3=0)) (hg:Int.gcd (Int.gcd n1 n2:Int) n3=1):bB (F*n1) (F*n2) (F*n3)*F=1:=by
 have hne:F≠0:=fun e=>absurd (e▸hF) (by decide)
 have z:∀ {n:Int},F*n=0→n=0:=fun h=>by
  have:=(Rat.mul_eq_zero.1 h).resolve_left hne
  exact_mod_cast this
 have h0' : ¬ (F*n1=0∧F*n2=0∧F*n3=0):=fun ⟨a,b,c⟩=>h0 ⟨z a,z b,z c⟩
 obtain ⟨z1,z2,z3,e1,e2,e3,hz,_⟩:=qG h0'
 have hp:=Rat.mul_pos (tS h0') hF
 exact prim_one hp (by rw [Rat.mul_assoc];exact e1) (by rw [Rat.mul_assoc];exact e2) (by rw [Rat.mul_assoc];exact e3) hg hz
section
variable {x1 x2 x3 y1 y2 y3 z1 z2 z3 p1 p2 p3 t1 t2 t3:Rat}
abbrev kV (x1 x2 x3 y1 y2 y3 z1 z2 z3:Rat):Rat:=dt x1 x2 x3 (y2*z3-y3*z2) (y3*z1-y1*z3) (y1*z2-y2*z1)
theorem Gd.d0 (h:Gd x1 x2 x3 y1 y2 y3 z1 z2 z3):kV x1 x2 x3 y1 y2 y3 z1 z2 z3≠0:=fun e=>by
 have:=h.det
 rw [show dt x1 x2 x3 (y2*z3-y3*z2) (y3*z1-y1*z3) (y1*z2-y2*z1)=0 from e] at this
 exact absurd this (by decide)
theorem det_zx {a b c:Rat} (h1:a=0) (h2:b=0) (h3:c=0):kV a b c y1 y2 y3 z1 z2 z3=0:=by subst h1 h2 h3;unfold kV dt;grind
theorem oY:kV y1 y2 y3 z1 z2 z3 x1 x2 x3=kV x1 x2 x3 y1 y2 y3 z1 z2 z3:=by unfold kV dt;grind
theorem Gd.sq (h:Gd x1 x2 x3 y1 y2 y3 z1 z2 z3):Sq0 x1 x2 x3 y1 y2 y3 z1 z2 z3 :=
 ⟨fun e=>h.d0 (let ⟨a,b,c⟩:=sum_sq e;det_zx a b c),fun e=>h.d0 (let ⟨a,b,c⟩:=sum_sq e;by rw [← oY];exact det_zx a b c),fun e=>h.d0 (let ⟨a,b,c⟩:=sum_sq e;by rw [← oY,← oY];exact det_zx a b c)⟩
theorem sgn_pos {q:Rat} (h:0<q.num):lJ q=1:=by
 unfold lJ bS
 rw [if_neg (by omega),if_pos h]
theorem dt_000 {a b c:Rat} (h1:a=0) (h2:b=0) (h3:c=0):dt a b c a b c=0:=by rw [h1,h2,h3];unfold dt;grind
theorem Gd.ax (h:Gd x1 x2 x3 y1 y2 y3 z1 z2 z3):Ax x1 x2 x3 y1 y2 y3 z1 z2 z3 :=
 ⟨dec_and fun ⟨a,b,c⟩=>h.sq.x (dt_000 a b c),dec_and fun ⟨a,b,c⟩=>h.sq.y (dt_000 a b c),dec_and fun ⟨a,b,c⟩=>h.sq.z (dt_000 a b c),h.xy,h.yz,h.zx,sgn_pos h.det⟩
theorem cof (xy:dt x1 x2 x3 y1 y2 y3=0) (zx:dt z1 z2 z3 x1 x2 x3=0) :
 dt x1 x2 x3 x1 x2 x3*(y2*z3-y3*z2)=kV x1 x2 x3 y1 y2 y3 z1 z2 z3*x1∧dt x1 x2 x3 x1 x2 x3*(y3*z1-y1*z3)=kV x1 x2 x3 y1 y2 y3 z1 z2 z3*x2∧dt x1 x2 x3 x1 x2 x3*(y1*z2-y2*z1)=kV x1 x2 x3 y1 y2 y3 z1 z2 z3*x3:=by
 have e1:dt x1 x2 x3 x1 x2 x3*(y2*z3-y3*z2)=kV x1 x2 x3 y1 y2 y3 z1 z2 z3*x1-dt z1 z2 z3 x1 x2 x3*(x2*y3-x3*y2)+dt x1 x2 x3 y1 y2 y3*(x2*z3-x3*z2):=by clear xy zx;unfold kV dt;grind
 have e2:dt x1 x2 x3 x1 x2 x3*(y3*z1-y1*z3)=kV x1 x2 x3 y1 y2 y3 z1 z2 z3*x2-dt z1 z2 z3 x1 x2 x3*(x3*y1-x1*y3)+dt x1 x2 x3 y1 y2 y3*(x3*z1-x1*z3):=by clear xy zx e1;unfold kV dt;grind
 have e3:dt x1 x2 x3 x1 x2 x3*(y1*z2-y2*z1)=kV x1 x2 x3 y1 y2 y3 z1 z2 z3*x3-dt z1 z2 z3 x1 x2 x3*(x1*y2-x2*y1)+dt x1 x2 x3 y1 y2 y3*(x1*z2-x2*z1):=by clear xy zx e1 e2;unfold kV dt;grind
 have z0:∀ q:Rat,q-0+0=q:=fun q=>by grind
 rw [xy,zx,Rat.zero_mul,Rat.zero_mul,z0] at e1 e2 e3
 exact ⟨e1,e2,e3⟩
theorem sJ {s c x d D q:Rat} (hs:s≠0) (hD:D*d=1) (e:s*c=d*x):q/s*x=D*(q*c):=by
 have h:s⁻¹*s=1:=Rat.inv_mul_cancel _ hs
 rw [Rat.div_def]
 generalize s⁻¹=i at *
 calc q*i*x=q*i*(D*d)*x:=by rw [hD,Rat.mul_one]
  _=q*i*D*(d*x):=by grind
  _=i*s*(D*(q*c)):=by rw [← e];grind
  _=D*(q*c):=by rw [h,Rat.one_mul]
theorem Gd.back (h:Gd x1 x2 x3 y1 y2 y3 z1 z2 z3) (t1 t2 t3:Rat) :
 ld (dt t1 t2 t3 x1 x2 x3/dt x1 x2 x3 x1 x2 x3) (dt t1 t2 t3 y1 y2 y3/dt y1 y2 y3 y1 y2 y3) (dt t1 t2 t3 z1 z2 z3/dt z1 z2 z3 z1 z2 z3) x1 y1 z1=t1 ∧
 ld (dt t1 t2 t3 x1 x2 x3/dt x1 x2 x3 x1 x2 x3) (dt t1 t2 t3 y1 y2 y3/dt y1 y2 y3 y1 y2 y3) (dt t1 t2 t3 z1 z2 z3/dt z1 z2 z3 z1 z2 z3) x2 y2 z2=t2 ∧
 ld (dt t1 t2 t3 x1 x2 x3/dt x1 x2 x3 x1 x2 x3) (dt t1 t2 t3 y1 y2 y3/dt y1 y2 y3 y1 y2 y3) (dt t1 t2 t3 z1 z2 z3/dt z1 z2 z3 z1 z2 z3) x3 y3 z3=t3:=by
 have cx:=cof h.xy h.zx
 have cy:=cof h.yz h.xy
 have cz:=cof h.zx h.yz
 rw [oY] at cy
 rw [oY,oY] at cz
 have hD:(kV x1 x2 x3 y1 y2 y3 z1 z2 z3)⁻¹*kV x1 x2 x3 y1 y2 y3 z1 z2 z3=1:=Rat.inv_mul_cancel _ h.d0
 have s:=h.sq
 unfold ld
 rw [sJ s.x hD cx.1,sJ s.y hD cy.1,sJ s.z hD cz.1,sJ s.x hD cx.2.1,sJ s.y hD cy.2.1,sJ s.z hD cz.2.1,sJ s.x hD cx.2.2,sJ s.y hD cy.2.2,sJ s.z hD cz.2.2]
 clear cx cy cz s h
 have e:∀ D a b c t:Rat,a+b+c=kV x1 x2 x3 y1 y2 y3 z1 z2 z3*t→D*kV x1 x2 x3 y1 y2 y3 z1 z2 z3=1→D*a+D*b+D*c=t:=fun D a b c t h1 h2=>by
  calc D*a+D*b+D*c=D*(a+b+c):=by grind
   _=D*kV x1 x2 x3 y1 y2 y3 z1 z2 z3*t:=by rw [h1,Rat.mul_assoc]
   _=t:=by rw [h2,Rat.one_mul]
 refine ⟨e _ _ _ _ _ ?_ hD,e _ _ _ _ _ ?_ hD,e _ _ _ _ _ ?_ hD⟩ <;> (clear e hD;unfold kV dt;grind)
theorem oL {a s:Rat} (hs:s≠0):a*s/s=a:=by rw [Rat.div_def,Rat.mul_assoc,Rat.mul_inv_cancel _ hs,Rat.mul_one]
theorem oM {a s:Rat} (hs:s≠0):a/s*s=a:=by rw [Rat.div_def,Rat.mul_assoc,Rat.inv_mul_cancel _ hs,Rat.mul_one]
theorem Gd.fwd (h:Gd x1 x2 x3 y1 y2 y3 z1 z2 z3) (p1 p2 p3:Rat) :
 dt (ld p1 p2 p3 x1 y1 z1) (ld p1 p2 p3 x2 y2 z2) (ld p1 p2 p3 x3 y3 z3) x1 x2 x3=p1*dt x1 x2 x3 x1 x2 x3 ∧
 dt (ld p1 p2 p3 x1 y1 z1) (ld p1 p2 p3 x2 y2 z2) (ld p1 p2 p3 x3 y3 z3) y1 y2 y3=p2*dt y1 y2 y3 y1 y2 y3 ∧
 dt (ld p1 p2 p3 x1 y1 z1) (ld p1 p2 p3 x2 y2 z2) (ld p1 p2 p3 x3 y3 z3) z1 z2 z3=p3*dt z1 z2 z3 z1 z2 z3:=by
 have e1:dt (ld p1 p2 p3 x1 y1 z1) (ld p1 p2 p3 x2 y2 z2) (ld p1 p2 p3 x3 y3 z3) x1 x2 x3=p1*dt x1 x2 x3 x1 x2 x3+p2*dt x1 x2 x3 y1 y2 y3+p3*dt z1 z2 z3 x1 x2 x3:=by clear h;unfold ld dt;grind
 have e2:dt (ld p1 p2 p3 x1 y1 z1) (ld p1 p2 p3 x2 y2 z2) (ld p1 p2 p3 x3 y3 z3) y1 y2 y3=p2*dt y1 y2 y3 y1 y2 y3+p1*dt x1 x2 x3 y1 y2 y3+p3*dt y1 y2 y3 z1 z2 z3:=by clear h e1;unfold ld dt;grind
 have e3:dt (ld p1 p2 p3 x1 y1 z1) (ld p1 p2 p3 x2 y2 z2) (ld p1 p2 p3 x3 y3 z3) z1 z2 z3=p3*dt z1 z2 z3 z1 z2 z3+p1*dt z1 z2 z3 x1 x2 x3+p2*dt y1 y2 y3 z1 z2 z3:=by clear h e1 e2;unfold ld dt;grind
 rw [h.xy,h.zx,Rat.mul_zero,Rat.mul_zero,Rat.add_zero,Rat.add_zero] at e1
 rw [h.xy,h.yz,Rat.mul_zero,Rat.mul_zero,Rat.add_zero,Rat.add_zero] at e2
 rw [h.yz,h.zx,Rat.mul_zero,Rat.mul_zero,Rat.add_zero,Rat.add_zero] at e3
 exact ⟨e1,e2,e3⟩
theorem dt_ld (n1 n2 n3 b1 b2 b3:Rat):dt n1 n2 n3 (ld b1 b2 b3 x1 y1 z1) (ld b1 b2 b3 x2 y2 z2) (ld b1 b2 b3 x3 y3 z3)=dt (dt n1 n2 n3 x1 x2 x3) (dt n1 n2 n3 y1 y2 y3) (dt n1 n2 n3 z1 z2 z3) b1 b2 b3:=by unfold ld dt;grind
end
end Ab
end Go.Proofs.YtghlkblebhhahaaGreatDoor
