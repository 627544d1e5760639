/- Parts of the proof, joined. -/
import Derived.Test.YtbhccgffnghlkaaGreatDoorJ15
import Derived.Test.YtbhccgffnghlkaaGreatDoorJ14
import Derived.Test.YtbhccgffnghlkaaGreatDoorJ12
import Derived.Test.YtbhccgffnghlkaaGreatDoorJ2
import Derived.Laws.Tables
import Derived.Laws.StructEq
import Derived.Test.YtbhccgffnghlkaaGreatDoorJ11
import Derived.RangeFuncNested
import Derived.RangeFuncBound
import Derived.RangeFuncCalls
import Derived.RangeFuncLeaves
import Derived.Shelf.Abstract
import Derived.Shelf.RegionOpen
import Derived.WalkKit
import Derived.OwnWalkIn
import Derived.TacticsInMore
import Derived.LoopNIn
import Derived.LoopIn
import Derived.KernelRfl
import Derived.Test.YtbhccgffnghlkaaGreatDoorProg
set_option linter.unusedSimpArgs false
set_option linter.unusedVariables false
namespace Go.Proofs.YtbhccgffnghlkaaGreatDoor.Ab
open Go.RowKit Go.Proofs.YtbhccgffnghlkaaGreatDoor Pl
section
variable {h1 h2 h3 a1 a2 a3 b1 b2 b3 d e f u1 u2 u3 v1 v2 v3 w1 w2 w3 V:Rat}
structure Cr (h1 h2 h3 a1 a2 a3 b1 b2 b3 u1 u2 u3 v1 v2 v3 w1 w2 w3 V:Rat):Prop where
 cu1:a2*b3-a3*b2=u1
 cu2:a3*b1-a1*b3=u2
 cu3:a1*b2-a2*b1=u3
 cv1:b2*h3-b3*h2=v1
 cv2:b3*h1-b1*h3=v2
 cv3:b1*h2-b2*h1=v3
 cw1:h2*a3-h3*a2=w1
 cw2:h3*a1-h1*a3=w2
 cw3:h1*a2-h2*a1=w3
 cV:dt h1 h2 h3 u1 u2 u3=V
structure L9 (k:Nat) (h1 h2 h3 a1 a2 a3 b1 b2 b3:Rat):Prop where
 h:Lv3 k h1 h2 h3
 a:Lv3 k a1 a2 a3
 b:Lv3 k b1 b2 b3
theorem cr_lf (l:L9 6 h1 h2 h3 a1 a2 a3 b1 b2 b3) (c:Cr h1 h2 h3 a1 a2 a3 b1 b2 b3 u1 u2 u3 v1 v2 v3 w1 w2 w3 V):L9 9 u1 u2 u3 v1 v2 v3 w1 w2 w3∧Lf 14 V:=by
 obtain ⟨⟨x1,x2,x3⟩,⟨y1,y2,y3⟩,⟨z1,z2,z3⟩⟩:=l
 obtain ⟨eu1,eu2,eu3,ev1,ev2,ev3,ew1,ew2,ew3,eV⟩:=c
 subst eu1 eu2 eu3 ev1 ev2 ev3 ew1 ew2 ew3 eV
 refine ⟨⟨⟨?_,?_,?_⟩,⟨?_,?_,?_⟩,⟨?_,?_,?_⟩⟩,?_⟩ <;> (repeat' (first|exact Lf.mono (by assumption) (by decide)|refine Lf.muln ?_ ?_ (by decide)|refine Lf.addn ?_ ?_ (by decide)|refine Lf.subn ?_ ?_ (by decide)))
theorem crossingF (l:L9 6 h1 h2 h3 a1 a2 a3 b1 b2 b3) (ld:Lf 6 d) (le:Lf 6 e) (lf:Lf 6 f) (c:Cr h1 h2 h3 a1 a2 a3 b1 b2 b3 u1 u2 u3 v1 v2 v3 w1 w2 w3 V) (h0:V≠0) :
 Fits Tryz.prog 44 [hf h1 h2 h3 d,hf a1 a2 a3 e,hf b1 b2 b3 f] (.tup [.ag [nb (((1:Int):Rat)/V*(d*u1+e*v1+f*w1)),nb (((1:Int):Rat)/V*(d*u2+e*v2+f*w2)),nb (((1:Int):Rat)/V*(d*u3+e*v3+f*w3))],.sc (.lit (.bool true))]):=by
 obtain ⟨⟨lu,lv,lw⟩,lV⟩:=cr_lf l c
 obtain ⟨⟨x1,x2,x3⟩,⟨y1,y2,y3⟩,⟨z1,z2,z3⟩⟩:=l
 obtain ⟨p1,p2,p3⟩:=lu
 obtain ⟨q1,q2,q3⟩:=lv
 obtain ⟨r1,r2,r3⟩:=lw
 have i1:Lf 14 ((1:Int):Rat):=Lf.int (Lv.one _ (by rw [W64_eq];decide))
 have lq:=lf_quot i1 lV (Nat.le_refl 15)
 have hu:Fits Tryz.prog 30 [vc a1 a2 a3,vc b1 b2 b3] (vc u1 u2 u3):=by
  rw [← c.cu1,← c.cu2,← c.cu3];exact crossF (by repeat' (first|exact Lf.mono (by assumption) (by decide)|refine Lf.muln ?_ ?_ (by decide)|refine Lf.addn ?_ ?_ (by decide)|refine Lf.subn ?_ ?_ (by decide))) (by repeat' (first|exact Lf.mono (by assumption) (by decide)|refine Lf.muln ?_ ?_ (by decide)|refine Lf.addn ?_ ?_ (by decide)|refine Lf.subn ?_ ?_ (by decide))) (by repeat' (first|exact Lf.mono (by assumption) (by decide)|refine Lf.muln ?_ ?_ (by decide)|refine Lf.addn ?_ ?_ (by decide)|refine Lf.subn ?_ ?_ (by decide))) (by repeat' (first|exact Lf.mono (by assumption) (by decide)|refine Lf.muln ?_ ?_ (by decide)|refine Lf.addn ?_ ?_ (by decide)|refine Lf.subn ?_ ?_ (by decide))) (by repeat' (first|exact Lf.mono (by assumption) (by decide)|refine Lf.muln ?_ ?_ (by decide)|refine Lf.addn ?_ ?_ (by decide)|refine Lf.subn ?_ ?_ (by decide))) (by repeat' (first|exact Lf.mono (by assumption) (by decide)|refine Lf.muln ?_ ?_ (by decide)|refine Lf.addn ?_ ?_ (by decide)|refine Lf.subn ?_ ?_ (by decide)))
 have hv:Fits Tryz.prog 30 [vc b1 b2 b3,vc h1 h2 h3] (vc v1 v2 v3):=by
  rw [← c.cv1,← c.cv2,← c.cv3];exact crossF (by repeat' (first|exact Lf.mono (by assumption) (by decide)|refine Lf.muln ?_ ?_ (by decide)|refine Lf.addn ?_ ?_ (by decide)|refine Lf.subn ?_ ?_ (by decide))) (by repeat' (first|exact Lf.mono (by assumption) (by decide)|refine Lf.muln ?_ ?_ (by decide)|refine Lf.addn ?_ ?_ (by decide)|refine Lf.subn ?_ ?_ (by decide))) (by repeat' (first|exact Lf.mono (by assumption) (by decide)|refine Lf.muln ?_ ?_ (by decide)|refine Lf.addn ?_ ?_ (by decide)|refine Lf.subn ?_ ?_ (by decide))) (by repeat' (first|exact Lf.mono (by assumption) (by decide)|refine Lf.muln ?_ ?_ (by decide)|refine Lf.addn ?_ ?_ (by decide)|refine Lf.subn ?_ ?_ (by decide))) (by repeat' (first|exact Lf.mono (by assumption) (by decide)|refine Lf.muln ?_ ?_ (by decide)|refine Lf.addn ?_ ?_ (by decide)|refine Lf.subn ?_ ?_ (by decide))) (by repeat' (first|exact Lf.mono (by assumption) (by decide)|refine Lf.muln ?_ ?_ (by decide)|refine Lf.addn ?_ ?_ (by decide)|refine Lf.subn ?_ ?_ (by decide)))
 have hw:Fits Tryz.prog 30 [vc h1 h2 h3,vc a1 a2 a3] (vc w1 w2 w3):=by
  rw [← c.cw1,← c.cw2,← c.cw3];exact crossF (by repeat' (first|exact Lf.mono (by assumption) (by decide)|refine Lf.muln ?_ ?_ (by decide)|refine Lf.addn ?_ ?_ (by decide)|refine Lf.subn ?_ ?_ (by decide))) (by repeat' (first|exact Lf.mono (by assumption) (by decide)|refine Lf.muln ?_ ?_ (by decide)|refine Lf.addn ?_ ?_ (by decide)|refine Lf.subn ?_ ?_ (by decide))) (by repeat' (first|exact Lf.mono (by assumption) (by decide)|refine Lf.muln ?_ ?_ (by decide)|refine Lf.addn ?_ ?_ (by decide)|refine Lf.subn ?_ ?_ (by decide))) (by repeat' (first|exact Lf.mono (by assumption) (by decide)|refine Lf.muln ?_ ?_ (by decide)|refine Lf.addn ?_ ?_ (by decide)|refine Lf.subn ?_ ?_ (by decide))) (by repeat' (first|exact Lf.mono (by assumption) (by decide)|refine Lf.muln ?_ ?_ (by decide)|refine Lf.addn ?_ ?_ (by decide)|refine Lf.subn ?_ ?_ (by decide))) (by repeat' (first|exact Lf.mono (by assumption) (by decide)|refine Lf.muln ?_ ?_ (by decide)|refine Lf.addn ?_ ?_ (by decide)|refine Lf.subn ?_ ?_ (by decide)))
 have hV:Fits Tryz.prog 32 [vc h1 h2 h3,vc u1 u2 u3] (num V):=by
  rw [← c.cV];exact dotF (by repeat' (first|exact Lf.mono (by assumption) (by decide)|refine Lf.muln ?_ ?_ (by decide)|refine Lf.addn ?_ ?_ (by decide)|refine Lf.subn ?_ ?_ (by decide))) (by repeat' (first|exact Lf.mono (by assumption) (by decide)|refine Lf.muln ?_ ?_ (by decide)|refine Lf.addn ?_ ?_ (by decide)|refine Lf.subn ?_ ?_ (by decide))) (by repeat' (first|exact Lf.mono (by assumption) (by decide)|refine Lf.muln ?_ ?_ (by decide)|refine Lf.addn ?_ ?_ (by decide)|refine Lf.subn ?_ ?_ (by decide))) (by repeat' (first|exact Lf.mono (by assumption) (by decide)|refine Lf.muln ?_ ?_ (by decide)|refine Lf.addn ?_ ?_ (by decide)|refine Lf.subn ?_ ?_ (by decide))) (by repeat' (first|exact Lf.mono (by assumption) (by decide)|refine Lf.muln ?_ ?_ (by decide)|refine Lf.addn ?_ ?_ (by decide)|refine Lf.subn ?_ ?_ (by decide))) (by repeat' (first|exact Lf.mono (by assumption) (by decide)|refine Lf.muln ?_ ?_ (by decide)|refine Lf.addn ?_ ?_ (by decide)|refine Lf.subn ?_ ?_ (by decide)))
 have hi:decide (V=0)=false:=by rw [decide_eq_false_iff_not];exact h0
 refine kgo Tryz.func44 (by kernel_rfl) fun w00=>?_
 refine kcall 30 [vc a1 a2 a3,vc b1 b2 b3] (hu) (by kernel_rfl) Tryz.call30 ?_
 refine kcall 30 [vc b1 b2 b3,vc h1 h2 h3] (hv) (by kernel_rfl) Tryz.call30 ?_
 refine kcall 30 [vc h1 h2 h3,vc a1 a2 a3] (hw) (by kernel_rfl) Tryz.call30 ?_
 refine kcall 32 [vc h1 h2 h3,vc u1 u2 u3] (hV) (by kernel_rfl) Tryz.call32 ?_
 refine kcall 69 [num V] (isZeroF hi) (by kernel_rfl) Tryz.call69 ?_
 refine kcall 58 [vc u1 u2 u3,num d] (scaledF (by repeat' (first|exact Lf.mono (by assumption) (by decide)|refine Lf.muln ?_ ?_ (by decide)|refine Lf.addn ?_ ?_ (by decide)|refine Lf.subn ?_ ?_ (by decide))) (by repeat' (first|exact Lf.mono (by assumption) (by decide)|refine Lf.muln ?_ ?_ (by decide)|refine Lf.addn ?_ ?_ (by decide)|refine Lf.subn ?_ ?_ (by decide))) (by repeat' (first|exact Lf.mono (by assumption) (by decide)|refine Lf.muln ?_ ?_ (by decide)|refine Lf.addn ?_ ?_ (by decide)|refine Lf.subn ?_ ?_ (by decide))) (by repeat' (first|exact Lf.mono (by assumption) (by decide)|refine Lf.muln ?_ ?_ (by decide)|refine Lf.addn ?_ ?_ (by decide)|refine Lf.subn ?_ ?_ (by decide)))) (by kernel_rfl) Tryz.call58 ?_
 refine kcall 58 [vc v1 v2 v3,num e] (scaledF (by repeat' (first|exact Lf.mono (by assumption) (by decide)|refine Lf.muln ?_ ?_ (by decide)|refine Lf.addn ?_ ?_ (by decide)|refine Lf.subn ?_ ?_ (by decide))) (by repeat' (first|exact Lf.mono (by assumption) (by decide)|refine Lf.muln ?_ ?_ (by decide)|refine Lf.addn ?_ ?_ (by decide)|refine Lf.subn ?_ ?_ (by decide))) (by repeat' (first|exact Lf.mono (by assumption) (by decide)|refine Lf.muln ?_ ?_ (by decide)|refine Lf.addn ?_ ?_ (by decide)|refine Lf.subn ?_ ?_ (by decide))) (by repeat' (first|exact Lf.mono (by assumption) (by decide)|refine Lf.muln ?_ ?_ (by decide)|refine Lf.addn ?_ ?_ (by decide)|refine Lf.subn ?_ ?_ (by decide)))) (by kernel_rfl) Tryz.call58 ?_
 refine kcall 56 [vc (d*u1) (d*u2) (d*u3),vc (e*v1) (e*v2) (e*v3)] (vplusF (by repeat' (first|exact Lf.mono (by assumption) (by decide)|refine Lf.muln ?_ ?_ (by decide)|refine Lf.addn ?_ ?_ (by decide)|refine Lf.subn ?_ ?_ (by decide))) (by repeat' (first|exact Lf.mono (by assumption) (by decide)|refine Lf.muln ?_ ?_ (by decide)|refine Lf.addn ?_ ?_ (by decide)|refine Lf.subn ?_ ?_ (by decide))) (by repeat' (first|exact Lf.mono (by assumption) (by decide)|refine Lf.muln ?_ ?_ (by decide)|refine Lf.addn ?_ ?_ (by decide)|refine Lf.subn ?_ ?_ (by decide))) (by repeat' (first|exact Lf.mono (by assumption) (by decide)|refine Lf.muln ?_ ?_ (by decide)|refine Lf.addn ?_ ?_ (by decide)|refine Lf.subn ?_ ?_ (by decide))) (by repeat' (first|exact Lf.mono (by assumption) (by decide)|refine Lf.muln ?_ ?_ (by decide)|refine Lf.addn ?_ ?_ (by decide)|refine Lf.subn ?_ ?_ (by decide))) (by repeat' (first|exact Lf.mono (by assumption) (by decide)|refine Lf.muln ?_ ?_ (by decide)|refine Lf.addn ?_ ?_ (by decide)|refine Lf.subn ?_ ?_ (by decide)))) (by kernel_rfl) Tryz.call56 ?_
 refine kcall 58 [vc w1 w2 w3,num f] (scaledF (by repeat' (first|exact Lf.mono (by assumption) (by decide)|refine Lf.muln ?_ ?_ (by decide)|refine Lf.addn ?_ ?_ (by decide)|refine Lf.subn ?_ ?_ (by decide))) (by repeat' (first|exact Lf.mono (by assumption) (by decide)|refine Lf.muln ?_ ?_ (by decide)|refine Lf.addn ?_ ?_ (by decide)|refine Lf.subn ?_ ?_ (by decide))) (by repeat' (first|exact Lf.mono (by assumption) (by decide)|refine Lf.muln ?_ ?_ (by decide)|refine Lf.addn ?_ ?_ (by decide)|refine Lf.subn ?_ ?_ (by decide))) (by repeat' (first|exact Lf.mono (by assumption) (by decide)|refine Lf.muln ?_ ?_ (by decide)|refine Lf.addn ?_ ?_ (by decide)|refine Lf.subn ?_ ?_ (by decide)))) (by kernel_rfl) Tryz.call58 ?_
 refine kcall 56 [vc (d*u1+e*v1) (d*u2+e*v2) (d*u3+e*v3),vc (f*w1) (f*w2) (f*w3)] (vplusF (by repeat' (first|exact Lf.mono (by assumption) (by decide)|refine Lf.muln ?_ ?_ (by decide)|refine Lf.addn ?_ ?_ (by decide)|refine Lf.subn ?_ ?_ (by decide))) (by repeat' (first|exact Lf.mono (by assumption) (by decide)|refine Lf.muln ?_ ?_ (by decide)|refine Lf.addn ?_ ?_ (by decide)|refine Lf.subn ?_ ?_ (by decide))) (by repeat' (first|exact Lf.mono (by assumption) (by decide)|refine Lf.muln ?_ ?_ (by decide)|refine Lf.addn ?_ ?_ (by decide)|refine Lf.subn ?_ ?_ (by decide))) (by repeat' (first|exact Lf.mono (by assumption) (by decide)|refine Lf.muln ?_ ?_ (by decide)|refine Lf.addn ?_ ?_ (by decide)|refine Lf.subn ?_ ?_ (by decide))) (by repeat' (first|exact Lf.mono (by assumption) (by decide)|refine Lf.muln ?_ ?_ (by decide)|refine Lf.addn ?_ ?_ (by decide)|refine Lf.subn ?_ ?_ (by decide))) (by repeat' (first|exact Lf.mono (by assumption) (by decide)|refine Lf.muln ?_ ?_ (by decide)|refine Lf.addn ?_ ?_ (by decide)|refine Lf.subn ?_ ?_ (by decide)))) (by kernel_rfl) Tryz.call56 ?_
 refine kcall 59 [it 1] (integerF (by constructor <;> omega)) (by kernel_rfl) Tryz.call59 ?_
 refine kcall 52 [num ((1:Int):Rat),num V] (overF (by repeat' (first|exact Lf.mono (by assumption) (by decide)|refine Lf.muln ?_ ?_ (by decide)|refine Lf.addn ?_ ?_ (by decide)|refine Lf.subn ?_ ?_ (by decide))) (by repeat' (first|exact Lf.mono (by assumption) (by decide)|refine Lf.muln ?_ ?_ (by decide)|refine Lf.addn ?_ ?_ (by decide)|refine Lf.subn ?_ ?_ (by decide))) h0) (by kernel_rfl) Tryz.call52 ?_
 refine kcall 58 [vc (d*u1+e*v1+f*w1) (d*u2+e*v2+f*w2) (d*u3+e*v3+f*w3),num (((1:Int):Rat)/V)] (scaledF (by repeat' (first|exact Lf.mono (by assumption) (by decide)|refine Lf.muln ?_ ?_ (by decide)|refine Lf.addn ?_ ?_ (by decide)|refine Lf.subn ?_ ?_ (by decide))) (by repeat' (first|exact Lf.mono (by assumption) (by decide)|refine Lf.muln ?_ ?_ (by decide)|refine Lf.addn ?_ ?_ (by decide)|refine Lf.subn ?_ ?_ (by decide))) (by repeat' (first|exact Lf.mono (by assumption) (by decide)|refine Lf.muln ?_ ?_ (by decide)|refine Lf.addn ?_ ?_ (by decide)|refine Lf.subn ?_ ?_ (by decide))) (by repeat' (first|exact Lf.mono (by assumption) (by decide)|refine Lf.muln ?_ ?_ (by decide)|refine Lf.addn ?_ ?_ (by decide)|refine Lf.subn ?_ ?_ (by decide)))) (by kernel_rfl) Tryz.call58 ?_
 exact kret Tryz.func44 (by kernel_rfl)
theorem crossingNoneF (l:L9 6 h1 h2 h3 a1 a2 a3 b1 b2 b3) (c:Cr h1 h2 h3 a1 a2 a3 b1 b2 b3 u1 u2 u3 v1 v2 v3 w1 w2 w3 V) (h0:V=0) :
 Fits Tryz.prog 44 [hf h1 h2 h3 d,hf a1 a2 a3 e,hf b1 b2 b3 f] (.tup [.ag [.lit (.int .i64 0),.lit (.int .i64 0),.lit (.pointer none),.lit (.int .i64 0),.lit (.int .i64 0),.lit (.pointer none),.lit (.int .i64 0),.lit (.int .i64 0),.lit (.pointer none)],.sc (.lit (.bool false))]):=by
 obtain ⟨⟨lu,lv,lw⟩,lV⟩:=cr_lf l c
 obtain ⟨⟨x1,x2,x3⟩,⟨y1,y2,y3⟩,⟨z1,z2,z3⟩⟩:=l
 obtain ⟨p1,p2,p3⟩:=lu
 have hu:Fits Tryz.prog 30 [vc a1 a2 a3,vc b1 b2 b3] (vc u1 u2 u3):=by
  rw [← c.cu1,← c.cu2,← c.cu3];exact crossF (by repeat' (first|exact Lf.mono (by assumption) (by decide)|refine Lf.muln ?_ ?_ (by decide)|refine Lf.addn ?_ ?_ (by decide)|refine Lf.subn ?_ ?_ (by decide))) (by repeat' (first|exact Lf.mono (by assumption) (by decide)|refine Lf.muln ?_ ?_ (by decide)|refine Lf.addn ?_ ?_ (by decide)|refine Lf.subn ?_ ?_ (by decide))) (by repeat' (first|exact Lf.mono (by assumption) (by decide)|refine Lf.muln ?_ ?_ (by decide)|refine Lf.addn ?_ ?_ (by decide)|refine Lf.subn ?_ ?_ (by decide))) (by repeat' (first|exact Lf.mono (by assumption) (by decide)|refine Lf.muln ?_ ?_ (by decide)|refine Lf.addn ?_ ?_ (by decide)|refine Lf.subn ?_ ?_ (by decide))) (by repeat' (first|exact Lf.mono (by assumption) (by decide)|refine Lf.muln ?_ ?_ (by decide)|refine Lf.addn ?_ ?_ (by decide)|refine Lf.subn ?_ ?_ (by decide))) (by repeat' (first|exact Lf.mono (by assumption) (by decide)|refine Lf.muln ?_ ?_ (by decide)|refine Lf.addn ?_ ?_ (by decide)|refine Lf.subn ?_ ?_ (by decide)))
 have hv:Fits Tryz.prog 30 [vc b1 b2 b3,vc h1 h2 h3] (vc v1 v2 v3):=by
  rw [← c.cv1,← c.cv2,← c.cv3];exact crossF (by repeat' (first|exact Lf.mono (by assumption) (by decide)|refine Lf.muln ?_ ?_ (by decide)|refine Lf.addn ?_ ?_ (by decide)|refine Lf.subn ?_ ?_ (by decide))) (by repeat' (first|exact Lf.mono (by assumption) (by decide)|refine Lf.muln ?_ ?_ (by decide)|refine Lf.addn ?_ ?_ (by decide)|refine Lf.subn ?_ ?_ (by decide))) (by repeat' (first|exact Lf.mono (by assumption) (by decide)|refine Lf.muln ?_ ?_ (by decide)|refine Lf.addn ?_ ?_ (by decide)|refine Lf.subn ?_ ?_ (by decide))) (by repeat' (first|exact Lf.mono (by assumption) (by decide)|refine Lf.muln ?_ ?_ (by decide)|refine Lf.addn ?_ ?_ (by decide)|refine Lf.subn ?_ ?_ (by decide))) (by repeat' (first|exact Lf.mono (by assumption) (by decide)|refine Lf.muln ?_ ?_ (by decide)|refine Lf.addn ?_ ?_ (by decide)|refine Lf.subn ?_ ?_ (by decide))) (by repeat' (first|exact Lf.mono (by assumption) (by decide)|refine Lf.muln ?_ ?_ (by decide)|refine Lf.addn ?_ ?_ (by decide)|refine Lf.subn ?_ ?_ (by decide)))
 have hw:Fits Tryz.prog 30 [vc h1 h2 h3,vc a1 a2 a3] (vc w1 w2 w3):=by
  rw [← c.cw1,← c.cw2,← c.cw3];exact crossF (by repeat' (first|exact Lf.mono (by assumption) (by decide)|refine Lf.muln ?_ ?_ (by decide)|refine Lf.addn ?_ ?_ (by decide)|refine Lf.subn ?_ ?_ (by decide))) (by repeat' (first|exact Lf.mono (by assumption) (by decide)|refine Lf.muln ?_ ?_ (by decide)|refine Lf.addn ?_ ?_ (by decide)|refine Lf.subn ?_ ?_ (by decide))) (by repeat' (first|exact Lf.mono (by assumption) (by decide)|refine Lf.muln ?_ ?_ (by decide)|refine Lf.addn ?_ ?_ (by decide)|refine Lf.subn ?_ ?_ (by decide))) (by repeat' (first|exact Lf.mono (by assumption) (by decide)|refine Lf.muln ?_ ?_ (by decide)|refine Lf.addn ?_ ?_ (by decide)|refine Lf.subn ?_ ?_ (by decide))) (by repeat' (first|exact Lf.mono (by assumption) (by decide)|refine Lf.muln ?_ ?_ (by decide)|refine Lf.addn ?_ ?_ (by decide)|refine Lf.subn ?_ ?_ (by decide))) (by repeat' (first|exact Lf.mono (by assumption) (by decide)|refine Lf.muln ?_ ?_ (by decide)|refine Lf.addn ?_ ?_ (by decide)|refine Lf.subn ?_ ?_ (by decide)))
 have hV:Fits Tryz.prog 32 [vc h1 h2 h3,vc u1 u2 u3] (num V):=by
  rw [← c.cV];exact dotF (by repeat' (first|exact Lf.mono (by assumption) (by decide)|refine Lf.muln ?_ ?_ (by decide)|refine Lf.addn ?_ ?_ (by decide)|refine Lf.subn ?_ ?_ (by decide))) (by repeat' (first|exact Lf.mono (by assumption) (by decide)|refine Lf.muln ?_ ?_ (by decide)|refine Lf.addn ?_ ?_ (by decide)|refine Lf.subn ?_ ?_ (by decide))) (by repeat' (first|exact Lf.mono (by assumption) (by decide)|refine Lf.muln ?_ ?_ (by decide)|refine Lf.addn ?_ ?_ (by decide)|refine Lf.subn ?_ ?_ (by decide))) (by repeat' (first|exact Lf.mono (by assumption) (by decide)|refine Lf.muln ?_ ?_ (by decide)|refine Lf.addn ?_ ?_ (by decide)|refine Lf.subn ?_ ?_ (by decide))) (by repeat' (first|exact Lf.mono (by assumption) (by decide)|refine Lf.muln ?_ ?_ (by decide)|refine Lf.addn ?_ ?_ (by decide)|refine Lf.subn ?_ ?_ (by decide))) (by repeat' (first|exact Lf.mono (by assumption) (by decide)|refine Lf.muln ?_ ?_ (by decide)|refine Lf.addn ?_ ?_ (by decide)|refine Lf.subn ?_ ?_ (by decide)))
 have hi:decide (V=0)=true:=by rw [decide_eq_true_eq];exact h0
 refine kgo Tryz.func44 (by kernel_rfl) fun w00=>?_
 refine kcall 30 [vc a1 a2 a3,vc b1 b2 b3] (hu) (by kernel_rfl) Tryz.call30 ?_
 refine kcall 30 [vc b1 b2 b3,vc h1 h2 h3] (hv) (by kernel_rfl) Tryz.call30 ?_
 refine kcall 30 [vc h1 h2 h3,vc a1 a2 a3] (hw) (by kernel_rfl) Tryz.call30 ?_
 refine kcall 32 [vc h1 h2 h3,vc u1 u2 u3] (hV) (by kernel_rfl) Tryz.call32 ?_
 refine kcall 69 [num V] (isZeroF hi) (by kernel_rfl) Tryz.call69 ?_
 exact kret Tryz.func44 (by kernel_rfl)
end
theorem isS_lit {β:List Nat} {cs:List Value} {w:World} {b:ByteArray}:(isS b).holds β cs w↔(Seg.lit (.string b):Seg Kn).holds β cs w:=⟨fun h=>⟨h,rfl⟩,fun h=>h.1⟩
inductive LitL:List (Seg Kn)→List (Seg Kn)→Prop where
 | nil:LitL [] []
 | txt {b:ByteArray} {l m}:LitL l m→LitL (isS b::l) (.lit (.string b)::m)
 | same {s:Seg Kn} {l m}:LitL l m→LitL (s::l) (s::m)
theorem LitL.to {β:List Nat} {w:World} {l m:List (Seg Kn)} (h:LitL l m):∀ {cs:List Value},holdsL β l cs w↔holdsL β m cs w:=by
 induction h with
 | nil=>intro cs;exact Iff.rfl
 | txt _ ih =>
   intro cs
   constructor
   ·rintro ⟨a,b,e,h1,h2⟩;exact ⟨a,b,e,isS_lit.1 h1,ih.1 h2⟩
   ·rintro ⟨a,b,e,h1,h2⟩;exact ⟨a,b,e,isS_lit.2 h1,ih.2 h2⟩
 | same _ ih =>
   intro cs
   constructor
   ·rintro ⟨a,b,e,h1,h2⟩;exact ⟨a,b,e,h1,ih.1 h2⟩
   ·rintro ⟨a,b,e,h1,h2⟩;exact ⟨a,b,e,h1,ih.2 h2⟩
theorem ag_lit {β:List Nat} {v:Value} {w:World} {l m:List (Seg Kn)} (h:LitL l m):(AV.fv (.ag l)).holds β v w↔(AV.fv (.ag m)).holds β v w:=by
 constructor
 ·rintro ⟨cs,e,k⟩;exact ⟨cs,e,h.to.1 k⟩
 ·rintro ⟨cs,e,k⟩;exact ⟨cs,e,h.to.2 k⟩
theorem sc_lit {β:List Nat} {v:Value} {w:World} {b:ByteArray}:(AV.fv (.sc (isS b)):AV Kn).holds β v w↔(AV.fv (.sc (.lit (.string b))):AV Kn).holds β v w:=isS_lit (β:=β) (cs := [v])
theorem FitsW.args {P:Program} {I:World→Prop} {f:FuncId} {l l' : List (AV Kn)} {x:AV Kn} (h:FitsW P I f l x) (hl:∀ β vs w,holdsA β l' vs w→holdsA β l vs w):FitsW P I f l' x:=fun β w vs hI hv=>h β w vs hI (hl β vs w hv)
theorem FitsW.res {P:Program} {I:World→Prop} {f:FuncId} {l:List (AV Kn)} {x y:AV Kn} (h:FitsW P I f l x) (hx:∀ β v w,x.holds β v w→y.holds β v w):FitsW P I f l y:=fun β w vs hI hv =>
 (h β w vs hI hv).mono fun e w' ⟨v,e1,e2,e3⟩=>⟨v,e1,e2,hx β v w' e3⟩
theorem dec_two {n:Nat} (h1:10≤n) (h2:n<100):Lib.decDigits n = [UInt8.ofNat (48+n/10),UInt8.ofNat (48+n%10)]:=by
 rw [dec_large (by omega),dec_small (by omega)]
 rfl
theorem decB_small {n:Nat} (h:n<10):decB n=⟨#[UInt8.ofNat (48+n)]⟩:=by unfold decB;rw [dec_small h]
theorem decB_two {n:Nat} (h1:10≤n) (h2:n<100):decB n=⟨#[UInt8.ofNat (48+n/10),UInt8.ofNat (48+n%10)]⟩:=by unfold decB;rw [dec_two h1 h2]
theorem write_int {z:Int} {b:ByteArray} (hz:¬ z<0) (h:decB z.natAbs=b):writeB (z:Rat)=b:=by
 rw [← textB_write,textB,if_neg hz,h]
theorem write_neg_int {z:Int} {b:ByteArray} (hz:z<0) (h:decB z.natAbs=b):writeB (z:Rat)=⟨#[45]⟩++b:=by
 rw [← textB_write,textB,if_pos hz,h]
theorem w0:writeB ((0:Int):Rat)=⟨#[48]⟩:=write_int (by omega) (decB_small (n:=0) (by omega))
theorem w1:writeB ((1:Int):Rat)=⟨#[49]⟩:=write_int (by omega) (decB_small (n:=1) (by omega))
theorem slash_write (q:Rat):slashB (writeB q)=(textB q.num).size:=by
 by_cases h:q.den=1
 ·rw [write_one h,slash_one]
 ·rw [write_parts h,slash_two]
theorem num_cut (q:Rat):(writeB q).extract 0 (slashB (writeB q))=textB q.num:=by
 rw [slash_write]
 by_cases h:q.den=1
 ·rw [write_one h,ext_all]
 ·rw [write_parts h,ext_lo]
theorem den_cut {q:Rat} (h:q.den≠1):(writeB q).extract (slashB (writeB q)+1) (writeB q).size=decB q.den:=by
 rw [slash_write,write_parts h]
 exact ext_hi _ _
theorem write_len (q:Rat):(writeB q).size=(textB q.num).size+if q.den=1 then 0 else 1+(decB q.den).size:=by
 by_cases h:q.den=1
 ·rw [write_one h,if_pos h];rfl
 ·rw [write_parts h,if_neg h,ByteArray.size_append,ByteArray.size_append,size47]
theorem numF {q:Rat} (hs:(writeB q).size≤1000000000):Fits Tryz.prog 81 [rS (writeB q)] (rS (textB q.num)):=by
 have hc:=num_cut q
 generalize writeB q=s at *
 refine rgo Tryz.func81 (by kernel_rfl) fun w00=>?_
 refine rcall 91 [rS s] (slashF (by omega)) (by kernel_rfl) Tryz.call91 ?_
 refine rshi 3 5 22 Tryz.underlying22 s (slashB s) (textB q.num) (slashB_le _) hc ?_
 exact rret Tryz.func81 (by kernel_rfl)
theorem denF1 {q:Rat} (hs:(writeB q).size≤1000000000) (h:q.den=1):Fits Tryz.prog 82 [rS (writeB q)] (rS (decB q.den)):=by
 have hl:=write_len q
 have hk:=slash_write q
 rw [if_pos h] at hl
 have e:decB q.den=⟨#[49]⟩:=by rw [h,dec1]
 rw [e]
 generalize writeB q=s at *
 have key:Fits Tryz.prog 82 [rS s] (.fv (.sc (.lit (.string ⟨#[49]⟩)))):=by
  refine rgo Tryz.func82 (by kernel_rfl) fun w00=>?_
  refine rcall 91 [rS s] (slashF (by omega)) (by kernel_rfl) Tryz.call91 ?_
  refine rlen 7 22 Tryz.underlying22 s ?_
  refine rop2 (.binOp .eql 3 (.tmp 6) (.tmp 8) 3) (.tmp 6) (.tmp 8) (rI (slashB s:Nat)) (rI (s.size:Nat)) (rl true) (by kernel_rfl) (by simp [Op.operands]) (by simp [Op.operands]) (fun ρ o β w ho hx hy=>⟨.bool true,ieq_run ho (r_is hx) (r_is hy) (by simp;omega),rlit rfl⟩) ?_
  exact rret Tryz.func82 (by kernel_rfl)
 exact rres key fun β v w h=>h.1
theorem denF2 {q:Rat} (hs:(writeB q).size≤1000000000) (h:q.den≠1):Fits Tryz.prog 82 [rS (writeB q)] (rS (decB q.den)):=by
 have hl:=write_len q
 have hk:=slash_write q
 rw [if_neg h] at hl
 have hc:=den_cut h
 generalize decB q.den=d at *
 generalize writeB q=s at *
 refine rgo Tryz.func82 (by kernel_rfl) fun w00=>?_
 refine rcall 91 [rS s] (slashF (by omega)) (by kernel_rfl) Tryz.call91 ?_
 refine rlen 7 22 Tryz.underlying22 s ?_
 refine rop2 (.binOp .eql 3 (.tmp 6) (.tmp 8) 3) (.tmp 6) (.tmp 8) (rI (slashB s:Nat)) (rI (s.size:Nat)) (rl false) (by kernel_rfl) (by simp [Op.operands]) (by simp [Op.operands]) (fun ρ o β w ho hx hy=>⟨.bool false,ieq_run ho (r_is hx) (r_is hy) (by simp;omega),rlit rfl⟩) ?_
 refine radd 11 (slashB s) (by omega) ?_
 refine rslo 10 12 22 Tryz.underlying22 s (slashB s+1) d (by omega) hc ?_
 exact rret Tryz.func82 (by kernel_rfl)
theorem denOfF {q:Rat} (hs:(writeB q).size≤1000000000):Fits Tryz.prog 82 [rS (writeB q)] (rS (decB q.den)):=by
 by_cases h:q.den=1
 ·exact denF1 hs h
 ·exact denF2 hs h
theorem dec0_ne {n:Nat} (h:n≠0):decB n≠zeroT:=fun e=>h (decB_inj (e.trans dec0.symm))
theorem body_ne_zero {q:Rat} (h:q.num≠0):bodyB q≠zeroT:=by
 by_cases hd:q.den=1
 ·rw [body_one hd,textB_nat]
  exact dec0_ne (by omega)
 ·intro e
  have hl:=body_len q
  rw [if_neg hd,e] at hl
  have:zeroT.size=1:=rfl
  have:=decB_pos q.num.natAbs
  omega
theorem write_ne_zero {q:Rat} (h:q.num≠0):writeB q≠zeroT:=by
 by_cases hn:q.num<0
 ·obtain ⟨f1,⟨h0,hc⟩,f3,f4,f5⟩:=neg_facts hn
  intro e
  have h1:=(strip_write q).1
  rw [e,decide_eq_true hn] at h1
  exact absurd h1 (by decide)
 ·rw [write_pos hn]
  exact body_ne_zero h
theorem signF0 {q:Rat} (h:q.num=0):Fits Tryz.prog 136 [rS (writeB q)] (.fv (.sc (.lit (.int .i64 0)))):=by
 have e:((writeB q).toList==(⟨#[48]⟩:ByteArray).toList)=true:=by
  have hd:q.den=1:=by have:=q.reduced;rw [h] at this;simpa using this
  rw [write_one hd,h]
  have:textB 0=zeroT:=by unfold textB;rw [if_neg (by omega)];exact dec0
  rw [this]
  exact beq_self_eq_true zeroT.toList
 generalize writeB q=s at *
 refine rgo Tryz.func136 (by kernel_rfl) fun w00=>?_
 refine rseq 3 22 s ⟨#[48]⟩ true e ?_
 exact rret Tryz.func136 (by kernel_rfl)
theorem signFn {q:Rat} (h:q.num<0):Fits Tryz.prog 136 [rS (writeB q)] (.fv (.sc (.lit (.int .i64 (-1))))):=by
 have e:=ne_list (write_ne_zero (q:=q) (by omega))
 obtain ⟨f1,hc,f3,f4,f5⟩:=neg_facts h
 have h0:decide ((0:Int)<((writeB q).size:Nat))=true:=by rw [decide_eq_true_iff];omega
 generalize writeB q=s at *
 refine rgo Tryz.func136 (by kernel_rfl) fun w00=>?_
 refine rseq 3 22 s ⟨#[48]⟩ false e ?_
 refine rlen 5 22 Tryz.underlying22 s ?_
 refine rgt 6 0 (s.size:Nat) true h0 ?_
 refine ridnR 9 s hc ?_
 exact rret Tryz.func136 (by kernel_rfl)
theorem signFp {q:Rat} (h:0<q.num):Fits Tryz.prog 136 [rS (writeB q)] (.fv (.sc (.lit (.int .i64 1)))):=by
 have e:=ne_list (write_ne_zero (q:=q) (by omega))
 obtain ⟨c,hc,hc45⟩:=body_head q
 rw [← write_pos (by omega)] at hc
 have h0:decide ((0:Int)<((writeB q).size:Nat))=true:=by rw [decide_eq_true_iff];have:=hc.1;omega
 generalize writeB q=s at *
 refine rgo Tryz.func136 (by kernel_rfl) fun w00=>?_
 refine rseq 3 22 s ⟨#[48]⟩ false e ?_
 refine rlen 5 22 Tryz.underlying22 s ?_
 refine rgt 6 0 (s.size:Nat) true h0 ?_
 refine ridpR 9 s c hc ?_
 refine rueq 10 c hc45 ?_
 exact rret Tryz.func136 (by kernel_rfl)
theorem absFn {q:Rat} (h:q.num<0) (hs:(writeB q).size≤1000000000):Fits Tryz.prog 80 [rS (writeB q)] (rS (bodyB q)):=by
 have hg:=signFn h
 obtain ⟨f1,hc,f3,f4,f5⟩:=neg_facts h
 generalize bodyB q=u at *
 generalize writeB q=s at *
 refine rgo Tryz.func80 (by kernel_rfl) fun w00=>?_
 refine rcall 136 [rS s] hg (by kernel_rfl) Tryz.call136 ?_
 refine rsl1 6 22 Tryz.underlying22 s u f1 f3 ?_
 exact rret Tryz.func80 (by kernel_rfl)
theorem absFp {q:Rat} (h:¬ q.num<0):Fits Tryz.prog 80 [rS (writeB q)] (rS (bodyB q)):=by
 rw [← write_pos h]
 by_cases h0:q.num=0
 ·have hg:=signF0 h0
  generalize writeB q=s at *
  refine rgo Tryz.func80 (by kernel_rfl) fun w00=>?_
  refine rcall 136 [rS s] hg (by kernel_rfl) Tryz.call136 ?_
  exact rret Tryz.func80 (by kernel_rfl)
 ·have hg:=signFp (q:=q) (by omega)
  generalize writeB q=s at *
  refine rgo Tryz.func80 (by kernel_rfl) fun w00=>?_
  refine rcall 136 [rS s] hg (by kernel_rfl) Tryz.call136 ?_
  exact rret Tryz.func80 (by kernel_rfl)
theorem absOfF {q:Rat} (hs:(writeB q).size≤1000000000):Fits Tryz.prog 80 [rS (writeB q)] (rS (bodyB q)):=by
 by_cases h:q.num<0
 ·exact absFn h hs
 ·exact absFp h
theorem absTF {z:Int} (hs:(textB z).size≤1000000000):Fits Tryz.prog 80 [rS (textB z)] (rS (decB z.natAbs)):=by
 have h:=absOfF (q:=(z:Rat)) (by rw [← textB_write];exact hs)
 have e:bodyB (z:Rat)=decB z.natAbs:=by rw [body_one rfl,textB_nat];rfl
 rw [← textB_write,e] at h
 exact h
def Fw (k:Nat) (q:Rat):Prop:=(decB q.num.natAbs).size≤k∧(decB q.den).size≤k
theorem text_len (z:Int):(textB z).size≤(decB z.natAbs).size+1:=by
 unfold textB
 split
 ·rw [ByteArray.size_append,size45];omega
 ·omega
theorem fw_len {k:Nat} {q:Rat} (h:Fw k q):(writeB q).size≤2*k+2:=by
 have h1:=write_len q
 have h2:=text_len q.num
 have h3:=h.1
 have h4:=h.2
 split at h1 <;> omega
theorem few5_long {s:ByteArray} (h:decide (((s.size:Nat):Int)≤12)=false):Fits Tryz.prog 25 [rS s,.fv (.sc (.lit (.int .i64 5)))] (rl false):=by
 refine rgo Tryz.func25 (by kernel_rfl) fun w00=>?_
 refine rlen 5 22 Tryz.underlying22 s ?_
 refine rleq 6 9 (s.size:Nat) 12 false h ?_
 exact rret Tryz.func25 (by kernel_rfl)
theorem few5_bad {s:ByteArray} {z:Int} (h:decide (((s.size:Nat):Int)≤12)=true) (hk:Fits Tryz.prog 37 [rS s] (rI z)) (hz:z≠0):Fits Tryz.prog 25 [rS s,.fv (.sc (.lit (.int .i64 5)))] (rl false):=by
 refine rgo Tryz.func25 (by kernel_rfl) fun w00=>?_
 refine rlen 5 22 Tryz.underlying22 s ?_
 refine rleq 6 9 (s.size:Nat) 12 true h ?_
 refine rcall 37 [rS s] hk (by kernel_rfl) Tryz.call37 ?_
 refine rop2 (.binOp .eql 3 (.tmp 13) (.const (.int .i64 0)) 3) (.tmp 13) (.const (.int .i64 0)) (rI z) (.fv (.sc (.lit (.int .i64 0)))) (rl false) (by kernel_rfl) (by simp [Op.operands]) (by simp [Op.operands]) (fun ρ o β w ho hx hy=>⟨.bool false,ieq_run ho (r_is hx) (r_lit hy) (by simpa using hz),rlit rfl⟩) ?_
 exact rret Tryz.func25 (by kernel_rfl)
theorem few5_num {s u a:ByteArray} {z:Int} (h:decide (((s.size:Nat):Int)≤12)=true) (hk:Fits Tryz.prog 37 [rS s] (rI z)) (hz:z=0) (h1:Fits Tryz.prog 81 [rS s] (rS u)) (h2:Fits Tryz.prog 80 [rS u] (rS a)) (h3:decide (((a.size:Nat):Int)≤5)=false):Fits Tryz.prog 25 [rS s,.fv (.sc (.lit (.int .i64 5)))] (rl false):=by
 refine rgo Tryz.func25 (by kernel_rfl) fun w00=>?_
 refine rlen 5 22 Tryz.underlying22 s ?_
 refine rleq 6 9 (s.size:Nat) 12 true h ?_
 refine rcall 37 [rS s] hk (by kernel_rfl) Tryz.call37 ?_
 refine rop2 (.binOp .eql 3 (.tmp 13) (.const (.int .i64 0)) 3) (.tmp 13) (.const (.int .i64 0)) (rI z) (.fv (.sc (.lit (.int .i64 0)))) (rl true) (by kernel_rfl) (by simp [Op.operands]) (by simp [Op.operands]) (fun ρ o β w ho hx hy=>⟨.bool true,ieq_run ho (r_is hx) (r_lit hy) (by rw [hz];rfl),rlit rfl⟩) ?_
 refine rcall 81 [rS s] h1 (by kernel_rfl) Tryz.call81 ?_
 refine rcall 80 [rS u] h2 (by kernel_rfl) Tryz.call80 ?_
 refine rlen 19 22 Tryz.underlying22 a ?_
 refine rleq 20 21 (a.size:Nat) 5 false h3 ?_
 exact rret Tryz.func25 (by kernel_rfl)
theorem few5_denf {s u a d:ByteArray} {z:Int} (h:decide (((s.size:Nat):Int)≤12)=true) (hk:Fits Tryz.prog 37 [rS s] (rI z)) (hz:z=0) (h1:Fits Tryz.prog 81 [rS s] (rS u)) (h2:Fits Tryz.prog 80 [rS u] (rS a)) (h3:decide (((a.size:Nat):Int)≤5)=true) (h4:Fits Tryz.prog 82 [rS s] (rS d)) (h5:decide (((d.size:Nat):Int)≤5)=false):Fits Tryz.prog 25 [rS s,.fv (.sc (.lit (.int .i64 5)))] (rl false):=by
 refine rgo Tryz.func25 (by kernel_rfl) fun w00=>?_
 refine rlen 5 22 Tryz.underlying22 s ?_
 refine rleq 6 9 (s.size:Nat) 12 true h ?_
 refine rcall 37 [rS s] hk (by kernel_rfl) Tryz.call37 ?_
 refine rop2 (.binOp .eql 3 (.tmp 13) (.const (.int .i64 0)) 3) (.tmp 13) (.const (.int .i64 0)) (rI z) (.fv (.sc (.lit (.int .i64 0)))) (rl true) (by kernel_rfl) (by simp [Op.operands]) (by simp [Op.operands]) (fun ρ o β w ho hx hy=>⟨.bool true,ieq_run ho (r_is hx) (r_lit hy) (by rw [hz];rfl),rlit rfl⟩) ?_
 refine rcall 81 [rS s] h1 (by kernel_rfl) Tryz.call81 ?_
 refine rcall 80 [rS u] h2 (by kernel_rfl) Tryz.call80 ?_
 refine rlen 19 22 Tryz.underlying22 a ?_
 refine rleq 20 21 (a.size:Nat) 5 true h3 ?_
 refine rcall 82 [rS s] h4 (by kernel_rfl) Tryz.call82 ?_
 refine rlen 26 22 Tryz.underlying22 d ?_
 refine rleq 27 28 (d.size:Nat) 5 false h5 ?_
 exact rret Tryz.func25 (by kernel_rfl)
theorem few5_dent {s u a d:ByteArray} {z:Int} (h:decide (((s.size:Nat):Int)≤12)=true) (hk:Fits Tryz.prog 37 [rS s] (rI z)) (hz:z=0) (h1:Fits Tryz.prog 81 [rS s] (rS u)) (h2:Fits Tryz.prog 80 [rS u] (rS a)) (h3:decide (((a.size:Nat):Int)≤5)=true) (h4:Fits Tryz.prog 82 [rS s] (rS d)) (h5:decide (((d.size:Nat):Int)≤5)=true):Fits Tryz.prog 25 [rS s,.fv (.sc (.lit (.int .i64 5)))] (rl true):=by
 refine rgo Tryz.func25 (by kernel_rfl) fun w00=>?_
 refine rlen 5 22 Tryz.underlying22 s ?_
 refine rleq 6 9 (s.size:Nat) 12 true h ?_
 refine rcall 37 [rS s] hk (by kernel_rfl) Tryz.call37 ?_
 refine rop2 (.binOp .eql 3 (.tmp 13) (.const (.int .i64 0)) 3) (.tmp 13) (.const (.int .i64 0)) (rI z) (.fv (.sc (.lit (.int .i64 0)))) (rl true) (by kernel_rfl) (by simp [Op.operands]) (by simp [Op.operands]) (fun ρ o β w ho hx hy=>⟨.bool true,ieq_run ho (r_is hx) (r_lit hy) (by rw [hz];rfl),rlit rfl⟩) ?_
 refine rcall 81 [rS s] h1 (by kernel_rfl) Tryz.call81 ?_
 refine rcall 80 [rS u] h2 (by kernel_rfl) Tryz.call80 ?_
 refine rlen 19 22 Tryz.underlying22 a ?_
 refine rleq 20 21 (a.size:Nat) 5 true h3 ?_
 refine rcall 82 [rS s] h4 (by kernel_rfl) Tryz.call82 ?_
 refine rlen 26 22 Tryz.underlying22 d ?_
 refine rleq 27 28 (d.size:Nat) 5 true h5 ?_
 exact rret Tryz.func25 (by kernel_rfl)
theorem few5Yes {q:Rat} (h:Fw 5 q):Fits Tryz.prog 25 [rS (writeB q),.fv (.sc (.lit (.int .i64 5)))] (rl true):=by
 have hl:=fw_len h
 have ht:=text_len q.num
 have h1:=h.1
 have h2:=h.2
 exact few5_dent (by rw [decide_eq_true_iff];omega) (checkAnyF (by omega)) (check_write (by omega) (by omega)) (numF (by omega)) (absTF (by omega)) (by rw [decide_eq_true_iff];omega) (denOfF (by omega)) (by rw [decide_eq_true_iff];omega)
theorem few5No {s:ByteArray} (h:¬ ∃ q,s=writeB q∧Fw 5 q):Fits Tryz.prog 25 [rS s,.fv (.sc (.lit (.int .i64 5)))] (rl false):=by
 by_cases hl:s.size≤12
 ·have hl' : decide (((s.size:Nat):Int)≤12)=true:=by rw [decide_eq_true_iff];omega
  have hk:=checkAnyF (s:=s) (by omega)
  by_cases hz:checkB s=0
  ·obtain ⟨q,rfl,_,_⟩:=check_zero hz
   have ht:=text_len q.num
   have hw:=write_len q
   by_cases h3:(decB q.num.natAbs).size≤5
   ·exact few5_denf hl' hk hz (numF (by omega)) (absTF (by split at hw <;> omega)) (by rw [decide_eq_true_iff];omega) (denOfF (by omega)) (by rw [decide_eq_false_iff_not];intro h4;exact h ⟨q,rfl,h3,by omega⟩)
   ·exact few5_num hl' hk hz (numF (by omega)) (absTF (by split at hw <;> omega)) (by rw [decide_eq_false_iff_not];omega)
  ·exact few5_bad hl' hk hz
 ·exact few5_long (by rw [decide_eq_false_iff_not];omega)
theorem kn_I {f:FuncId} {s:ByteArray} {z:Int} (h:Fits Tryz.prog f [rS s] (rI z)):Fits Tryz.prog f [tx s] (.fv (.sc (isI z))):=by
 intro β w vs hv
 obtain ⟨v,rfl,h1⟩:=args1 hv
 rw [hold_is h1]
 exact (h β w [.string s] ⟨_,_,rfl,is_r,rfl⟩).mono fun e w' ⟨v,e1,e2,e3⟩=>⟨v,e1,e2,by rw [r_is e3];exact is_hold⟩
theorem kn_S {f:FuncId} {s t u:ByteArray} (h:Fits Tryz.prog f [rS s,rS t] (rS u)):Fits Tryz.prog f [tx s,tx t] (tx u):=by
 intro β w vs hv
 obtain ⟨v,v2,rfl,h1,h2⟩:=args2 hv
 rw [hold_is h1,hold_is h2]
 exact (h β w [.string s,.string t] ⟨_,_,rfl,is_r,_,_,rfl,is_r,rfl⟩).mono fun e w' ⟨v,e1,e2,e3⟩=>⟨v,e1,e2,by rw [r_is e3];exact is_hold⟩
theorem kn_F {f:FuncId} {s:ByteArray} {n:Int} {b:Bool} (h:Fits Tryz.prog f [rS s,.fv (.sc (.lit (.int .i64 n)))] (rl b)):Fits Tryz.prog f [tx s,it n] (bl b):=by
 intro β w vs hv
 obtain ⟨v,v2,rfl,h1,h2⟩:=args2 hv
 have e2:[v2] = [.int .i64 n]:=h2.1
 injection e2 with e2
 rw [hold_is h1,e2]
 exact (h β w [.string s,.int .i64 n] ⟨_,_,rfl,is_r,_,_,rfl,rlit rfl,rfl⟩).mono fun e w' ⟨v,e1,e2,e3⟩=>⟨v,e1,e2,by rw [r_lit e3];exact lit_hold rfl⟩
abbrev t3 (a b c:ByteArray):AV Kn := .fv (.ag [isS a,isS b,isS c])
theorem chkF {q:Rat} (h1:(decB q.num.natAbs).size≤600) (h2:(decB q.den).size≤600):Fits Tryz.prog 37 [tx (writeB q)] (it 0):=by
 have hw:=write_len q
 have ht:=text_len q.num
 have h:=kn_I (checkAnyF (s:=writeB q) (by split at hw <;> omega))
 rw [check_write h1 h2] at h
 intro β w vs hv
 exact (h β w vs hv).mono fun e w' ⟨v,e1,e2,e3⟩=>⟨v,e1,e2,by rw [hold_is e3];exact lit_hold rfl⟩
section
variable {a b c:ByteArray} {n:Int}
theorem fewVecT (h1:Fits Tryz.prog 25 [tx a,it n] (bl true)) (h2:Fits Tryz.prog 25 [tx b,it n] (bl true)) (h3:Fits Tryz.prog 25 [tx c,it n] (bl true)):Fits Tryz.prog 5 [t3 a b c,it n] (bl true):=by
 refine kgo Tryz.func5 (by kernel_rfl) fun w00=>?_
 refine kcall 25 [tx a,it n] (h1) (by kernel_rfl) Tryz.call25 ?_
 refine kcall 25 [tx b,it n] (h2) (by kernel_rfl) Tryz.call25 ?_
 refine kcall 25 [tx c,it n] (h3) (by kernel_rfl) Tryz.call25 ?_
 exact kret Tryz.func5 (by kernel_rfl)
theorem fewVecF1 (h1:Fits Tryz.prog 25 [tx a,it n] (bl false)):Fits Tryz.prog 5 [t3 a b c,it n] (bl false):=by
 refine kgo Tryz.func5 (by kernel_rfl) fun w00=>?_
 refine kcall 25 [tx a,it n] (h1) (by kernel_rfl) Tryz.call25 ?_
 exact kret Tryz.func5 (by kernel_rfl)
theorem fewVecF2 (h1:Fits Tryz.prog 25 [tx a,it n] (bl true)) (h2:Fits Tryz.prog 25 [tx b,it n] (bl false)):Fits Tryz.prog 5 [t3 a b c,it n] (bl false):=by
 refine kgo Tryz.func5 (by kernel_rfl) fun w00=>?_
 refine kcall 25 [tx a,it n] (h1) (by kernel_rfl) Tryz.call25 ?_
 refine kcall 25 [tx b,it n] (h2) (by kernel_rfl) Tryz.call25 ?_
 exact kret Tryz.func5 (by kernel_rfl)
theorem fewVecF3 (h1:Fits Tryz.prog 25 [tx a,it n] (bl true)) (h2:Fits Tryz.prog 25 [tx b,it n] (bl true)) (h3:Fits Tryz.prog 25 [tx c,it n] (bl false)):Fits Tryz.prog 5 [t3 a b c,it n] (bl false):=by
 refine kgo Tryz.func5 (by kernel_rfl) fun w00=>?_
 refine kcall 25 [tx a,it n] (h1) (by kernel_rfl) Tryz.call25 ?_
 refine kcall 25 [tx b,it n] (h2) (by kernel_rfl) Tryz.call25 ?_
 refine kcall 25 [tx c,it n] (h3) (by kernel_rfl) Tryz.call25 ?_
 exact kret Tryz.func5 (by kernel_rfl)
end
section
variable {a b c d e f:ByteArray} {x y z:ByteArray}
theorem addVecR (h1:Fits Tryz.prog 41 [tx a,tx d] (tx x)) (h2:Fits Tryz.prog 41 [tx b,tx e] (tx y)) (h3:Fits Tryz.prog 41 [tx c,tx f] (tx z)):Fits Tryz.prog 10 [t3 a b c,t3 d e f] (t3 x y z):=by
 refine kgo Tryz.func10 (by kernel_rfl) fun w00=>?_
 refine kcall 41 [tx a,tx d] (h1) (by kernel_rfl) Tryz.call41 ?_
 refine kcall 41 [tx b,tx e] (h2) (by kernel_rfl) Tryz.call41 ?_
 refine kcall 41 [tx c,tx f] (h3) (by kernel_rfl) Tryz.call41 ?_
 exact kret Tryz.func10 (by kernel_rfl)
end
end Go.Proofs.YtbhccgffnghlkaaGreatDoor.Ab
namespace Go.Proofs.YtbhccgffnghlkaaGreatDoor
open Go.RowKit Pl
theorem gcd_tmod (x y:Int):Int.gcd y (x.tmod y)=Int.gcd x y:=by
 unfold Int.gcd
 rw [Int.natAbs_tmod,Nat.gcd_comm x.natAbs,Nat.gcd_rec y.natAbs x.natAbs,Nat.gcd_comm]
set_option maxHeartbeats 1000000 in
theorem intGcd_any (a b:Int) (w:World) (ha:-999999999≤a∧a≤999999999) (hb:-999999999≤b∧b≤999999999):Calls Tryz.prog 36 #[.int .i64 a,.int .i64 b] w fun e w'=>e = .returned (.int .i64 (Int.gcd a b:Nat))∧Below w.heap.size w w':=by
 have HA:=Lib.hid (And.intro ha hb)
 clear ha hb
 go_enter Tryz.func36,Tryz.ntmps36
 go_wp2
 go_loopw [0,1] (fun av bv wr => ∃ x y:Int,av = .int .i64 x∧bv = .int .i64 y∧Hid (Int.gcd x y=Int.gcd a b∧(-999999999≤x∧x≤999999999)∧(-999999999≤y∧y≤999999999))∧Below w.heap.size w wr) (fun _ bv _=>(intOf bv).natAbs)
 case atStart=>exact ⟨a,b,rfl,rfl,⟨rfl,HA.out⟩,Below.refl _ _⟩
 case round =>
  obtain ⟨x,y,rfl,rfl,hi,hbw⟩:=hrel
  by_cases h0:y=0
  ·subst h0
   have HR:=Lib.hid (show x.natAbs=Int.gcd a b by rw [← hi.out.1,Int.gcd_zero_right])
   obtain ⟨_,hx,_⟩:=hi.out
   clear hi
   go_wp2
   all_goals go_ret
   all_goals refine ⟨?_,hbw⟩
   all_goals rw [← HR.out]
   all_goals show Ending.returned (.int .i64 (max x (-x)))=_
   all_goals have e:max x (-x)=(x.natAbs:Int):=by rw [Int.max_def];split <;> omega
   all_goals rw [e]
  ·by_cases h1:y = -1
   ·subst h1
    obtain ⟨hg,hx,_⟩:=hi.out
    have HG:=Lib.hid (show Int.gcd (-1) 0=Int.gcd a b by rw [← hg,← gcd_tmod x (-1)];congr 1;rw [Int.tmod_neg,Int.tmod_one])
    clear hi hg
    go_wp2
    go_quiet (fail)
    have hb2:=drewN0 hbw nq
    clear hbw
    generalize wr.drewN nq=w2 at *
    go_wp2
    go_roundw
    case rel=>exact ⟨-1,0,rfl,by first|rfl|simp,⟨HG.out,by omega,by omega⟩,hb2⟩
    case measure=>simp [intOf]
   ·obtain ⟨r,hr⟩:∃ r,r=x.tmod y:=⟨_,rfl⟩
    have hlt:r.natAbs<y.natAbs:=by rw [hr,Int.natAbs_tmod];exact Nat.mod_lt _ (by omega)
    have HR:=Lib.hid (show (Int.gcd y r=Int.gcd a b∧(-999999999≤y∧y≤999999999)∧(-999999999≤r∧r≤999999999))∧r.natAbs<y.natAbs∧x.tmod y=r by
     obtain ⟨hg,hx,hy⟩:=hi.out
     exact ⟨⟨by rw [hr,gcd_tmod];exact hg,hy,by omega,by omega⟩,hlt,hr.symm⟩)
    have hz0:(y==0)=false:=by simp;omega
    have hz1:¬ y=0:=h0
    have hz3:(y == -1)=false:=by simp;omega
    clear hi hr hlt
    go_wp2
    go_quiet (fail)
    have hb2:=drewN0 hbw nq
    clear hbw
    generalize wr.drewN nq=w2 at *
    go_wp2
    go_roundw
    case rel =>
     obtain ⟨h1,h2,h3⟩:=HR.out
     exact ⟨y,r,rfl,by first|(rw [h3];done)|rfl,h1,hb2⟩
    case measure =>
     obtain ⟨h1,h2,h3⟩:=HR.out
     simp only [intOf]
     rw [h3]
     exact h2
end Go.Proofs.YtbhccgffnghlkaaGreatDoor
namespace Go.Proofs.YtbhccgffnghlkaaGreatDoor.Ab
open Go.RowKit Go.Proofs.YtbhccgffnghlkaaGreatDoor Pl
theorem intGcdF {a b:Int} (ha:-999999999≤a∧a≤999999999) (hb:-999999999≤b∧b≤999999999):Fits Tryz.prog 36 [.fv (.sc (isI a)),.fv (.sc (isI b))] (.fv (.sc (isI (Int.gcd a b:Nat)))):=by
 intro β w vs hv
 obtain ⟨v,_,rfl,hv1,u,_,rfl,hv2,rfl⟩:=hv
 obtain rfl:=hold_is hv1
 obtain rfl:=hold_is hv2
 exact (intGcd_any a b w ha hb).mono fun e w' ⟨e1,e2⟩=>⟨_,e1,e2,is_hold⟩
theorem size_gcd {a b:Int} (ha:-999999999≤a∧a≤999999999) (hb:-999999999≤b∧b≤999999999):-999999999≤(Int.gcd a b:Int)∧(Int.gcd a b:Int)≤999999999:=by
 refine ⟨by omega,?_⟩
 by_cases h:a=0
 ·subst h
  rw [Int.gcd_zero_left]
  omega
 ·have:=Int.gcd_le_natAbs_left (a:=a) b h
  omega
end Go.Proofs.YtbhccgffnghlkaaGreatDoor.Ab
namespace Go.Proofs.YtbhccgffnghlkaaGreatDoor.Ab
open Go.RowKit Go.Proofs.YtbhccgffnghlkaaGreatDoor
theorem equal3 {P:Program} {T e:TypeId} {x0 x1 x2 y0 y1 y2:Value} {r0 r1 r2:Bool} (d:Nat) (hT:P.underlying T=some (.array 3 e)) (he:P.cellsOf e=1) (ha:∀ w,(isAgg e).run P w = .ok false w) (hs:∀ w,(sizeOf e).run P w = .ok 1 w)
 (h0:∀ w,(Op.equalIn d e x0 y0).run P w = .ok r0 w) (h1:∀ w,(Op.equalIn d e x1 y1).run P w = .ok r1 w) (h2:∀ w,(Op.equalIn d e x2 y2).run P w = .ok r2 w) (w:World) :
 (Op.equalIn (d+1) T (.agg #[x0,x1,x2]) (.agg #[y0,y1,y2])).run P w = .ok (r0&&r1&&r2) w:=by
 rw [Op.equalIn]
 simp only [Sem.run_bind,run_underlying hT,Result.andThen_ok,hs]
 simp only [Std.Legacy.Range.forIn_eq_forIn_range',Std.Legacy.Range.size,Nat.sub_zero,Nat.add_sub_cancel,Nat.div_one,List.range'_succ,List.range'_zero,List.forIn_cons,List.forIn_nil]
 simp [go_sem,ha,hs,h0,h1,h2]
 cases r0 <;> cases r1 <;> cases r2 <;> simp
end Go.Proofs.YtbhccgffnghlkaaGreatDoor.Ab
namespace Go.Proofs.YtbhccgffnghlkaaGreatDoor.Ab
open Go.RowKit Go.Proofs.YtbhccgffnghlkaaGreatDoor Pl
theorem jne_run {o:Oper} {ρ:Operand→Value} {w:World} {x y:Operand} {a b:Int} {r:Bool} {T T' : TypeId} (ho:o.op = .binOp .neq T x y T') (hx:ρ x = .int .i64 a) (hy:ρ y = .int .i64 b) (h:(!(a==b))=r) :
 (execOp ρ o).run Tryz.prog w = .ok (.value (.bool r)) w:=by
 simp only [execOp,ho,hx,hy]
 refine run_v ?_
 rw [← h]
 exact evalP_run (by kernel_rfl) w
theorem iss_run {o:Oper} {ρ:Operand→Value} {w:World} {x y:Operand} {a b:Int} {r:Bool} (ho:o.op = .binOp .lss 3 x y 3) (hx:ρ x = .int .i64 a) (hy:ρ y = .int .i64 b) (h:decide (a<b)=r) :
 (execOp ρ o).run Tryz.prog w = .ok (.value (.bool r)) w:=by
 simp only [execOp,ho,hx,hy]
 refine run_v ?_
 rw [← h]
 exact evalP_run (by kernel_rfl) w
theorem guard_eq {T:TypeId} {xs ys:Array Value} {x y:Operand} (h:Tryz.prog.eqGuardType Tryz.prog.depth T=false) (w:World):(eqGuard .eql T x y (.agg xs) (.agg ys)).run Tryz.prog w = .ok () w:=by
 simp [eqGuard,Sem.run_bind,run_program,h]
theorem guard_ne {T:TypeId} {xs ys:Array Value} {x y:Operand} (h:Tryz.prog.eqGuardType Tryz.prog.depth T=false) (w:World):(eqGuard .neq T x y (.agg xs) (.agg ys)).run Tryz.prog w = .ok () w:=by
 simp [eqGuard,Sem.run_bind,run_program,h]
theorem agg_eq {o:Oper} {ρ:Operand→Value} {w:World} {x y:Operand} {xs ys:Array Value} {T T' : TypeId} {r:Bool} (hg:Tryz.prog.eqGuardType Tryz.prog.depth T=false) (h:(Op.equal T (.agg xs) (.agg ys)).run Tryz.prog w = .ok r w) (ho:o.op = .binOp .eql T x y T') (hx:ρ x = .agg xs) (hy:ρ y = .agg ys) :
 (execOp ρ o).run Tryz.prog w = .ok (.value (.bool r)) w:=by
 simp only [execOp,ho,hx,hy]
 refine run_v ?_
 simp only [Sem.run_bind,guard_eq hg,Result.andThen_ok]
 show (do pure (Value.bool (← Op.equal T (.agg xs) (.agg ys))):Sem Value).run Tryz.prog w=_
 rw [Sem.run_bind,h]
 rfl
theorem agg_ne {o:Oper} {ρ:Operand→Value} {w:World} {x y:Operand} {xs ys:Array Value} {T T' : TypeId} {r:Bool} (hg:Tryz.prog.eqGuardType Tryz.prog.depth T=false) (h:(Op.equal T (.agg xs) (.agg ys)).run Tryz.prog w = .ok r w) (ho:o.op = .binOp .neq T x y T') (hx:ρ x = .agg xs) (hy:ρ y = .agg ys) :
 (execOp ρ o).run Tryz.prog w = .ok (.value (.bool (!r))) w:=by
 simp only [execOp,ho,hx,hy]
 refine run_v ?_
 simp only [Sem.run_bind,guard_ne hg,Result.andThen_ok]
 show (do pure (Value.bool (!(← Op.equal T (.agg xs) (.agg ys)))):Sem Value).run Tryz.prog w=_
 rw [Sem.run_bind,h]
 rfl
theorem equalZ (a b c x y z:Int) (w:World):(Op.equal 28 (.agg #[.int .i64 a,.int .i64 b,.int .i64 c]) (.agg #[.int .i64 x,.int .i64 y,.int .i64 z])).run Tryz.prog w = .ok (a==x&&b==y&&c==z) w :=
 equal3 9999 (e:=3) (by kernel_rfl) (by kernel_rfl) (fun w=>by kernel_rfl) (fun w=>by kernel_rfl) (fun w=>run_equalIn_int w _ _ _ .i64 _ _ (by kernel_rfl)) (fun w=>run_equalIn_int w _ _ _ .i64 _ _ (by kernel_rfl)) (fun w=>run_equalIn_int w _ _ _ .i64 _ _ (by kernel_rfl)) w
theorem equalT (a b c x y z:ByteArray) (w:World):(Op.equal 24 (.agg #[.string a,.string b,.string c]) (.agg #[.string x,.string y,.string z])).run Tryz.prog w = .ok (a.toList==x.toList&&b.toList==y.toList&&c.toList==z.toList) w :=
 equal3 9999 (e:=22) (by kernel_rfl) (by kernel_rfl) (fun w=>by kernel_rfl) (fun w=>by kernel_rfl) (fun w=>run_equalIn_string w _ _ _ _ (by kernel_rfl)) (fun w=>run_equalIn_string w _ _ _ _ (by kernel_rfl)) (fun w=>run_equalIn_string w _ _ _ _ (by kernel_rfl)) w
abbrev i3 (a b c:Int):AV Kn := .fv (.ag [isI a,isI b,isI c])
theorem i3_is {a b c:Int} {β:List Nat} {v:Value} {w:World} (h:(i3 a b c).holds β v w):v = .agg #[.int .i64 a,.int .i64 b,.int .i64 c]:=by
 obtain ⟨cs,rfl,x1,r1,rfl,h1,x2,r2,rfl,h2,x3,r3,rfl,h3,e⟩:=h
 rw [show r3 = [] from e,show x1=_ from h1,show x2=_ from h2,show x3=_ from h3]
 rfl
theorem s3_is {a b c:ByteArray} {β:List Nat} {v:Value} {w:World} (h:(.fv (.ag [isS a,isS b,isS c]):AV Kn).holds β v w):v = .agg #[.string a,.string b,.string c]:=by
 obtain ⟨cs,rfl,x1,r1,rfl,h1,x2,r2,rfl,h2,x3,r3,rfl,h3,e⟩:=h
 rw [show r3 = [] from e,show x1=_ from h1,show x2=_ from h2,show x3=_ from h3]
 rfl
theorem l3_is {a b c:Value} {β:List Nat} {v:Value} {w:World} (h:(.fv (.ag [.lit a,.lit b,.lit c]):AV Kn).holds β v w):v = .agg #[a,b,c]:=by
 obtain ⟨cs,rfl,x1,r1,rfl,h1,x2,r2,rfl,h2,x3,r3,rfl,h3,e⟩:=h
 rw [show r3 = [] from e,h1.1,h2.1,h3.1]
 rfl
section
variable {f:FuncId} {w00:World} {Out:Value→World→Prop} {c:Cfg Kn}
theorem klt (x y:Operand) (a b:Int) (r:Bool) (Y:AV Kn) (hY:∀ β v w,Y.holds β v w→v = .int .i64 b) (h:decide (a<b)=r) (hg:Ok Tryz.prog f w00 Out (runA Tryz.prog 1000 (c.give (bl r))))
 (hc:(c.op.map fun o=>o.op,c.okT (bl r),c.ev x,c.ev y)=(some (.binOp .lss 3 x y 3),true,.fv (.sc (isI a)),Y):=by kernel_rfl):Ok Tryz.prog f w00 Out c :=
 kop2 (.binOp .lss 3 x y 3) x y _ _ (bl r) hc (by simp [Op.operands]) (by simp [Op.operands]) (fun ρ o β w ho hx hy=>⟨_,iss_run ho (hold_is hx) (hY _ _ _ hy) h,lit_hold rfl⟩) hg
theorem kgg (x y:Operand) (a b:Int) (r:Bool) (Y:AV Kn) (hY:∀ β v w,Y.holds β v w→v = .int .i64 b) (h:decide (b<a)=r) (hg:Ok Tryz.prog f w00 Out (runA Tryz.prog 1000 (c.give (bl r))))
 (hc:(c.op.map fun o=>o.op,c.okT (bl r),c.ev x,c.ev y)=(some (.binOp .gtr 3 x y 3),true,.fv (.sc (isI a)),Y):=by kernel_rfl):Ok Tryz.prog f w00 Out c :=
 kop2 (.binOp .gtr 3 x y 3) x y _ _ (bl r) hc (by simp [Op.operands]) (by simp [Op.operands]) (fun ρ o β w ho hx hy=>⟨_,gt_run ho (hold_is hx) (hY _ _ _ hy) h,lit_hold rfl⟩) hg
theorem kne (x y:Operand) (a b:Int) (r:Bool) (Y:AV Kn) (hY:∀ β v w,Y.holds β v w→v = .int .i64 b) (h:(!(a==b))=r) (hg:Ok Tryz.prog f w00 Out (runA Tryz.prog 1000 (c.give (bl r))))
 (hc:(c.op.map fun o=>o.op,c.okT (bl r),c.ev x,c.ev y)=(some (.binOp .neq 3 x y 3),true,.fv (.sc (isI a)),Y):=by kernel_rfl):Ok Tryz.prog f w00 Out c :=
 kop2 (.binOp .neq 3 x y 3) x y _ _ (bl r) hc (by simp [Op.operands]) (by simp [Op.operands]) (fun ρ o β w ho hx hy=>⟨_,jne_run ho (hold_is hx) (hY _ _ _ hy) h,lit_hold rfl⟩) hg
theorem lit_int {b:Int} (β:List Nat) (v:Value) (w:World) (h:(it b).holds β v w):v = .int .i64 b:=hold_lit h
theorem kz3 (x y:Operand) (a b d:Int) (r:Bool) (h:(a==0&&b==0&&d==0)=r) (hg:Ok Tryz.prog f w00 Out (runA Tryz.prog 1000 (c.give (bl r))))
 (hc:(c.op.map fun o=>o.op,c.okT (bl r),c.ev x,c.ev y)=(some (.binOp .eql 28 x y 28),true,i3 a b d,iv 0 0 0):=by kernel_rfl):Ok Tryz.prog f w00 Out c :=
 kop2 (.binOp .eql 28 x y 28) x y _ _ (bl r) hc (by simp [Op.operands]) (by simp [Op.operands]) (fun ρ o β w ho hx hy=>⟨_,agg_eq (by kernel_rfl) (h▸equalZ a b d 0 0 0 w) ho (i3_is hx) (l3_is hy),lit_hold rfl⟩) hg
theorem kneg (t:Tmp) (a:Int) (ha:M64 a) (ha2:M64 (-a)) (hg:Ok Tryz.prog f w00 Out (runA Tryz.prog 1000 (c.give (.fv (.sc (isI (-a)))))))
 (hc:(c.op.map fun o=>o.op,c.okT (.fv (.sc (isI (-a)))),c.ev (.tmp t),c.ev (.tmp t))=(some (.unOp .neg 3 (.tmp t)),true,.fv (.sc (isI a)),.fv (.sc (isI a))):=by kernel_rfl):Ok Tryz.prog f w00 Out c :=
 kop2 (.unOp .neg 3 (.tmp t)) (.tmp t) (.tmp t) _ _ (.fv (.sc (isI (-a)))) hc (by simp [Op.operands]) (by simp [Op.operands]) (fun ρ o β w ho hx hy=>⟨_,by
  simp only [execOp,ho,hold_is hx]
  refine run_v ?_
  have e:IntKind.i64.wrap (-a) = -a:=by rw [IntWalk.i64_left,IntWalk.wrap64_in _ ⟨by have:=ha2.1;omega,by have:=ha2.2;omega⟩]
  simp [go_sem,e],is_hold⟩) hg
theorem kabs (t u:Tmp) (a:Int) (hg:Ok Tryz.prog f w00 Out (runA Tryz.prog 1000 (c.give (.fv (.sc (isI (a.natAbs:Int)))))))
 (hc:(c.op.map fun o=>o.op,c.okT (.fv (.sc (isI (a.natAbs:Int)))),c.ev (.tmp t),c.ev (.tmp u))=(some (.call ⟨.builtin .max,#[.tmp t,.tmp u],#[3,3]⟩),true,.fv (.sc (isI a)),.fv (.sc (isI (-a)))):=by kernel_rfl):Ok Tryz.prog f w00 Out c :=
 kop2 (.call ⟨.builtin .max,#[.tmp t,.tmp u],#[3,3]⟩) (.tmp t) (.tmp u) _ _ (.fv (.sc (isI (a.natAbs:Int)))) hc (by simp [Op.operands,Call.operands]) (by simp [Op.operands,Call.operands]) (fun ρ o β w ho hx hy=>⟨_,by
  have e:max a (-a)=(a.natAbs:Int):=by rw [Int.max_def];split <;> omega
  rw [← e]
  simp only [execOp,ho]
  refine run_v ?_
  simp [go_sem,hold_is hx,hold_is hy],is_hold⟩) hg
theorem kcvu (t:Tmp) (a:Nat) (ha:a<9223372036854775808) (hg:Ok Tryz.prog f w00 Out (runA Tryz.prog 1000 (c.give (.fv (.sc (.lit (.int .u64 (a:Int))))))))
 (hc:(c.op.map fun o=>o.op,c.okT (.fv (.sc (.lit (.int .u64 (a:Int))))),c.ev (.tmp t),c.ev (.tmp t))=(some (.convert 3 135 (.tmp t)),true,.fv (.sc (isI (a:Int))),.fv (.sc (isI (a:Int)))):=by kernel_rfl):Ok Tryz.prog f w00 Out c :=
 kop2 (.convert 3 135 (.tmp t)) (.tmp t) (.tmp t) _ _ (.fv (.sc (.lit (.int .u64 (a:Int))))) hc (by simp [Op.operands]) (by simp [Op.operands]) (fun ρ o β w ho hx hy=>⟨_,by
  simp only [execOp,ho,hold_is hx]
  refine run_v ?_
  have e:IntKind.u64.wrap (a:Int)=a:=by simp [IntKind.wrap,IntKind.bits,IntKind.signed];omega
  simp [go_sem,e],lit_hold rfl⟩) hg
end
theorem cutPrefixNo {s:ByteArray} (h:Lib.hasPrefix s.data.toList [45]=false):Fits Tryz.prog 46 [tx s,lt ⟨#[45]⟩] (.tup [.sc (isS s),.sc (.lit (.bool false))]):=by
 intro β w vs hv
 obtain ⟨v,u,rfl,h1,h2⟩:=args2 hv
 rw [hold_is h1,hold_lit h2]
 have es:(⟨(Lib.trimPrefix s.data.toList [45]).toArray⟩:ByteArray)=s:=ba_ext (by unfold Lib.trimPrefix;rw [h];simp)
 refine (Tryz.strings_CutPrefix s ⟨#[45]⟩ w).mono fun e w' ⟨e1,e2⟩=>⟨_,e1,by rw [e2];exact Below.refl _ _,?_⟩
 rw [show (⟨#[45]⟩:ByteArray).data.toList = [45] from rfl,es,h]
 exact ⟨[.string s,.bool false],rfl,_,_,rfl,is_hold (β:=β),_,_,rfl,⟨rfl,rfl⟩,rfl⟩
theorem ascii_two:∀ (j:Nat) (b:UInt8),(⟨#[47,46]⟩:ByteArray).data.toList[j]?=some b→b.toNat<128:=by
 intro j b h
 have:=List.mem_of_getElem? h
 simp at this
 rcases this with rfl|rfl <;> decide
theorem indexAnyF {s:ByteArray} {k:Int} (hs:s.size<4294967281) (ha:∀ (j:Nat) (b:UInt8),s.data.toList[j]?=some b→b.toNat<128) (h:Lib.indexAny s.data.toList [47,46]=k):Fits Tryz.prog 103 [tx s,lt ⟨#[47,46]⟩] (.fv (.sc (isI k))):=by
 intro β w vs hv
 obtain ⟨v,u,rfl,h1,h2⟩:=args2 hv
 rw [hold_is h1,hold_lit h2]
 refine (Tryz.strings_IndexAny_laid s ⟨#[47,46]⟩ w hs (by decide) ha ascii_two).mono fun e w' ⟨e1,e2⟩=>⟨_,e1,e2,?_⟩
 rw [show (⟨#[47,46]⟩:ByteArray).data.toList = [47,46] from rfl,h]
 exact is_hold
theorem repeatF {c:Nat} {z:ByteArray} (h2:2≤c) (hc:c≤100000) (hz:(⟨(Lib.repeatL [48] c).toArray⟩:ByteArray)=z):Fits Tryz.prog 105 [lt ⟨#[48]⟩,.fv (.sc (isI c))] (tx z):=by
 intro β w vs hv
 obtain ⟨v,u,rfl,h1,h3⟩:=args2 hv
 rw [hold_lit h1,hold_is h3]
 have hsz:(⟨#[48]⟩:ByteArray).size=1:=rfl
 refine (Tryz.strings_Repeat_main ⟨#[48]⟩ c w h2 (by omega) (by rw [hsz];omega) (by rw [hsz];omega)).mono fun e w' ⟨e1,e2⟩=>⟨_,e1,e2,?_⟩
 rw [show (⟨#[48]⟩:ByteArray).data.toList = [48] from rfl,hz]
 exact is_hold
section
variable {s a b z:ByteArray} {k:Nat}
theorem partsDot (hi:Fits Tryz.prog 103 [tx s,lt ⟨#[47,46]⟩] (.fv (.sc (isI k)))) (hk:k<s.size) (hs:s.size≤10000) (ha:s.extract 0 k=a) (hb:s.extract (k+1) s.size=b) (da:AllDig (bytesOf a)) (da0:0<a.size) (db:AllDig (bytesOf b)) (db0:0<b.size)
 (hdot:s[k]?=some 46) (hr:Fits Tryz.prog 105 [lt ⟨#[48]⟩,.fv (.sc (isI b.size))] (tx z)) (hz:z.size≤10000):Fits Tryz.prog 47 [tx s] (.tup [.sc (isS (a++b)),.sc (isS (⟨#[49]⟩++z)),.sc z0]):=by
 have hasz:a.size≤s.size:=by rw [← ha,ByteArray.size_extract];omega
 have hbsz:b.size≤s.size:=by rw [← hb,ByteArray.size_extract];omega
 refine kgo Tryz.func47 (by kernel_rfl) fun w00=>?_
 refine kcall 103 [tx s,lt ⟨#[47,46]⟩] (hi) (by kernel_rfl) Tryz.call103 ?_
 refine kop2 (.binOp .lss 3 (.tmp 10) (.const (.int .i64 0)) 3) (.tmp 10) (.const (.int .i64 0)) (.fv (.sc (isI k))) (it 0) (bl false) (by kernel_rfl) (by simp [Op.operands]) (by simp [Op.operands]) (fun ρ o β w ho hx hy=>⟨_,lss_run ho (hold_is hx) (hold_lit hy) (by rw [decide_eq_false_iff_not];omega),lit_hold rfl⟩) ?_
 refine kop2 (.slice 9 (.tmp 16) none (some (.tmp 17)) none) (.tmp 16) (.tmp 17) (tx s) (.fv (.sc (isI k))) (tx a) (by kernel_rfl) (by simp [Op.operands]) (by simp [Op.operands]) (fun ρ o β w ho hx hy=>?_) ?_
 ·have:=slice_hi (w:=w) ho Tryz.underlying9 (hold_is hx) (hold_is hy) (by omega)
  rw [ha] at this
  exact ⟨_,this,is_hold⟩
 refine kop2 (.binOp .add 3 (.tmp 20) (.const (.int .i64 1)) 3) (.tmp 20) (.const (.int .i64 1)) (.fv (.sc (isI k))) (it 1) (.fv (.sc (isI ((k+1:Nat):Int)))) (by kernel_rfl) (by simp [Op.operands]) (by simp [Op.operands]) (fun ρ o β w ho hx hy=>⟨_,add1_run ho (hold_is hx) (hold_lit hy) (by omega),is_hold⟩) ?_
 refine kop2 (.slice 9 (.tmp 19) (some (.tmp 21)) none none) (.tmp 19) (.tmp 21) (tx s) (.fv (.sc (isI ((k+1:Nat):Int)))) (tx b) (by kernel_rfl) (by simp [Op.operands]) (by simp [Op.operands]) (fun ρ o β w ho hx hy=>?_) ?_
 ·have:=slice_lo (w:=w) ho Tryz.underlying9 (hold_is hx) (hold_is hy) (by omega)
  rw [hb] at this
  exact ⟨_,this,is_hold⟩
 refine kcall 104 [tx a] (isDigitsF da da0) (by kernel_rfl) Tryz.call104 ?_
 refine kcall 104 [tx b] (isDigitsF db db0) (by kernel_rfl) Tryz.call104 ?_
 refine kop2 (.index 9 (.tmp 33) (.tmp 34)) (.tmp 33) (.tmp 34) (tx s) (.fv (.sc (isI k))) (.fv (.sc (.lit (.int .u8 46)))) (by kernel_rfl) (by simp [Op.operands]) (by simp [Op.operands]) (fun ρ o β w ho hx hy=>⟨_,index_run ho Tryz.underlying9 (hold_is hx) (hold_is hy) hdot,lit_hold rfl⟩) ?_
 refine kop2 (.binOp .add 9 (.tmp 37) (.tmp 38) 9) (.tmp 37) (.tmp 38) (tx a) (tx b) (tx (a++b)) (by kernel_rfl) (by simp [Op.operands]) (by simp [Op.operands]) (fun ρ o β w ho hx hy=>⟨_,cat_run ho (hold_is hx) (hold_is hy) (by omega),is_hold⟩) ?_
 refine klen 40 b (by kernel_rfl) ?_
 refine kcall 105 [lt ⟨#[48]⟩,.fv (.sc (isI b.size))] (hr) (by kernel_rfl) Tryz.call105 ?_
 refine kop2 (.binOp .add 9 (.const (.string ⟨#[49]⟩)) (.tmp 42) 9) (.const (.string ⟨#[49]⟩)) (.tmp 42) (lt ⟨#[49]⟩) (tx z) (tx (⟨#[49]⟩++z)) (by kernel_rfl) (by simp [Op.operands]) (by simp [Op.operands]) (fun ρ o β w ho hx hy=>⟨_,cat_run ho (hold_lit hx) (hold_is hy) (by have:(⟨#[49]⟩:ByteArray).size=1:=rfl;omega),is_hold⟩) ?_
 exact kret Tryz.func47 (by kernel_rfl)
theorem parseF' {n d:Nat} (hs:s.size≤4096) (hp:Lib.hasPrefix s.data.toList [45]=false) (hpt:Fits Tryz.prog 47 [tx s] (.tup [.sc (isS (decB n)),.sc (isS (decB d)),.sc z0])) (hn:(decB n).size≤100000) (hd:(decB d).size≤100000) (ln:Lv 40 n) (ld:Lv 40 d) (d0:0<d)
 (lq:Lf 20 (mkRat (sg false n) d)) (w1:(decB (mkRat (sg false n) d).num.natAbs).size≤600) (w2:(decB (mkRat (sg false n) d).den).size≤600):FitsW Tryz.prog Gl 13 [tx s] (.tup [.sc (isS (writeB (mkRat (sg false n) d))),.sc z0]):=by
 refine kgoW Tryz.func13 (by kernel_rfl) fun w00 hG=>?_;have hI:=keepGl hG
 refine klen 9 s (by kernel_rfl) ?_
 refine kgt 10 s.size 4096 false (by rw [decide_eq_false_iff_not];omega) (by kernel_rfl) ?_
 refine kcall 46 [tx s,lt ⟨#[45]⟩] (cutPrefixNo hp) (by kernel_rfl) Tryz.call46 ?_
 refine kcall 47 [tx s] (hpt) (by kernel_rfl) Tryz.call47 ?_
 refine kcall 49 [tx (decB n)] (naturalTextF hn) (by kernel_rfl) Tryz.call49 ?_
 refine kcall 49 [tx (decB d)] (naturalTextF hd) (by kernel_rfl) Tryz.call49 ?_
 refine kcall 48 [bl false,nt n,nt d] (ratioF ln ld d0) (by kernel_rfl) Tryz.call48 ?_
 refine kcall 50 [fra (mkRat (sg false n) d)] (numberF) (by kernel_rfl) Tryz.call50 ?_
 refine kcallW hI 51 [num (mkRat (sg false n) d)] (writeF lq w1 w2) (by kernel_rfl) Tryz.call51 ?_
 exact kret Tryz.func13 (by kernel_rfl)
end
end Go.Proofs.YtbhccgffnghlkaaGreatDoor.Ab
namespace Go.Proofs.YtbhccgffnghlkaaGreatDoor.Fr
open Go.RowKit Go.Shelf
attribute [local go_sem] Oper.semAt_some
def axV (x1 x2 x3 y1 y2 y3 z1 z2 z3:ByteArray):Fin 3→Value
 | 0 => .agg #[.string x1,.string x2,.string x3]
 | 1 => .agg #[.string y1,.string y2,.string y3]
 | 2 => .agg #[.string z1,.string z2,.string z3]
def axE (x1 x2 x3 y1 y2 y3 z1 z2 z3:ByteArray) (i:Fin 3):Array Value := #[.int .i64 ((i.val:Nat):Int),axV x1 x2 x3 y1 y2 y3 z1 z2 z3 i]
theorem ix0 (w:World) (x1 x2 x3 y1 y2 y3 z1 z2 z3:ByteArray):(Sem.run Tryz.prog (Instr.index 233 (.agg #[.string x1,.string x2,.string x3,.string y1,.string y2,.string y3,.string z1,.string z2,.string z3]) (.int .i64 0)) w) = .ok (.agg #[.string x1,.string x2,.string x3]) w:=by
 kernel_rfl
theorem ix1 (w:World) (x1 x2 x3 y1 y2 y3 z1 z2 z3:ByteArray):(Sem.run Tryz.prog (Instr.index 233 (.agg #[.string x1,.string x2,.string x3,.string y1,.string y2,.string y3,.string z1,.string z2,.string z3]) (.int .i64 1)) w) = .ok (.agg #[.string y1,.string y2,.string y3]) w:=by
 kernel_rfl
theorem ix2 (w:World) (x1 x2 x3 y1 y2 y3 z1 z2 z3:ByteArray):(Sem.run Tryz.prog (Instr.index 233 (.agg #[.string x1,.string x2,.string x3,.string y1,.string y2,.string y3,.string z1,.string z2,.string z3]) (.int .i64 2)) w) = .ok (.agg #[.string z1,.string z2,.string z3]) w:=by
 kernel_rfl
set_option maxRecDepth 100000 in
set_option maxHeartbeats 2000000 in
theorem axes1_in (F:Fence) (n:Nat) (h8:F.fn 188) (hro:F.round=none) (hn:1≤n) (l Bf n₀:Nat) (o1 o2 o3 x1 x2 x3 y1 y2 y3 z1 z2 z3:ByteArray) (J Jx:List (Fin 3)→World→Prop)
 (hY:∀ pre x W,J pre W→pre.length<3→YieldAt F (n-1) Tryz.prog l (axE x1 x2 x3 y1 y2 y3 z1 z2 z3 x) W fun e W' =>
  (e = .returned (.bool true)∧J (pre ++ [x]) W'∧Below n₀ W W')∨(e = .returned (.bool false)∧Jx (pre ++ [x]) W'))
 (W:World) (hJ:AbidesFrom W.heap.size J) (hn0:n₀≤W.heap.size) (hB:W.heap[Bf]?=some (.cells #[.string o1,.string o2,.string o3,.string x1,.string x2,.string x3,.string y1,.string y2,.string y3,.string z1,.string z2,.string z3] 51 (0,0))) (h0:J [] W) :
 CallsIn F n Tryz.prog 188 #[.func (.yield l) #[] #[],.pointer (some ⟨Bf,0,none⟩)] W fun e W'=>(∃ v,e = .returned v) ∧
  ((∃ ys,ys = [0,1,2]∧J ys W')∨(∃ pre,True∧Jx pre W')):=by
 refine callsIn_of_wp Tryz.func188 rfl h8 ?_ hro
 simp only [Tryz.ntmps188,List.size_toArray,List.length_cons,List.length_nil,Nat.reduceAdd,Nat.reduceSub,Array.replicate_succ,Array.replicate_zero,List.push_toArray,List.append_toArray,List.nil_append,List.cons_append]
 have c3:W.cell? ⟨Bf,3,none⟩=some (.string x1):=by simp [World.cell?,hB]
 have c4:W.cell? ⟨Bf,4,none⟩=some (.string x2):=by simp [World.cell?,hB]
 have c5:W.cell? ⟨Bf,5,none⟩=some (.string x3):=by simp [World.cell?,hB]
 have c6:W.cell? ⟨Bf,6,none⟩=some (.string y1):=by simp [World.cell?,hB]
 have c7:W.cell? ⟨Bf,7,none⟩=some (.string y2):=by simp [World.cell?,hB]
 have c8:W.cell? ⟨Bf,8,none⟩=some (.string y3):=by simp [World.cell?,hB]
 have c9:W.cell? ⟨Bf,9,none⟩=some (.string z1):=by simp [World.cell?,hB]
 have c10:W.cell? ⟨Bf,10,none⟩=some (.string z2):=by simp [World.cell?,hB]
 have c11:W.cell? ⟨Bf,11,none⟩=some (.string z3):=by simp [World.cell?,hB]
 clear hB
 gi_wp2
 gi_loopw [12] (fun i wr=>(i = .int .i64 0∧J [] wr∨i = .int .i64 1∧J [0] wr∨i = .int .i64 2∧J [0,1] wr∨i = .int .i64 3∧J [0,1,2] wr)∧n₀≤wr.heap.size) (fun i _=>3-(intOf i).toNat)
 case atStart=>exact ⟨.inl ⟨rfl,h0⟩,hn0⟩
 case round =>
  obtain ⟨hc,hnr⟩:=hrel
  rcases hc with ⟨rfl,hJs⟩|⟨rfl,hJs⟩|⟨rfl,hJs⟩|⟨rfl,hJs⟩
  ·have hix:=ix0 wr x1 x2 x3 y1 y2 y3 z1 z2 z3
   have hJa:=hJ [] wr (wr.alloc (.cells #[.string x1,.string x2,.string x3] 24)) none hJs (World.grownBy_alloc _ _ none) (fun r e=>by cases e)
   obtain ⟨fn,tmps,assign,body,hy,hR⟩:=hY [] 0 _ hJa (by simp)
   change (Sem.run Tryz.prog (Instr.yield l #[.int .i64 0,.agg #[.string x1,.string x2,.string x3]]) _)=_ at hy
   gi_wp2
   refine hR.mono ?_
   rintro e W3 (⟨rfl,hJ3,hk3⟩|⟨rfl,hJx3⟩)
   ·have hs3:n₀≤W3.heap.size:=by have:=hk3.size;simp at this;omega
    gi_wp2
    go_roundw
    case rel=>exact ⟨.inr (.inl ⟨rfl,hJ3⟩),hs3⟩
    case measure=>simp [intOf]
   ·gi_wp2
    refine bodyPost_ret (results_none rfl _ _ _) rfl ?_
    exact ⟨⟨_,rfl⟩,.inr ⟨_,trivial,hJx3⟩⟩
  ·have hix:=ix1 wr x1 x2 x3 y1 y2 y3 z1 z2 z3
   have hJa:=hJ [0] wr (wr.alloc (.cells #[.string y1,.string y2,.string y3] 24)) none hJs (World.grownBy_alloc _ _ none) (fun r e=>by cases e)
   obtain ⟨fn,tmps,assign,body,hy,hR⟩:=hY [0] 1 _ hJa (by simp)
   change (Sem.run Tryz.prog (Instr.yield l #[.int .i64 1,.agg #[.string y1,.string y2,.string y3]]) _)=_ at hy
   gi_wp2
   refine hR.mono ?_
   rintro e W3 (⟨rfl,hJ3,hk3⟩|⟨rfl,hJx3⟩)
   ·have hs3:n₀≤W3.heap.size:=by have:=hk3.size;simp at this;omega
    gi_wp2
    go_roundw
    case rel=>exact ⟨.inr (.inr (.inl ⟨rfl,hJ3⟩)),hs3⟩
    case measure=>simp [intOf]
   ·gi_wp2
    refine bodyPost_ret (results_none rfl _ _ _) rfl ?_
    exact ⟨⟨_,rfl⟩,.inr ⟨_,trivial,hJx3⟩⟩
  ·have hix:=ix2 wr x1 x2 x3 y1 y2 y3 z1 z2 z3
   have hJa:=hJ [0,1] wr (wr.alloc (.cells #[.string z1,.string z2,.string z3] 24)) none hJs (World.grownBy_alloc _ _ none) (fun r e=>by cases e)
   obtain ⟨fn,tmps,assign,body,hy,hR⟩:=hY [0,1] 2 _ hJa (by simp)
   change (Sem.run Tryz.prog (Instr.yield l #[.int .i64 2,.agg #[.string z1,.string z2,.string z3]]) _)=_ at hy
   gi_wp2
   refine hR.mono ?_
   rintro e W3 (⟨rfl,hJ3,hk3⟩|⟨rfl,hJx3⟩)
   ·have hs3:n₀≤W3.heap.size:=by have:=hk3.size;simp at this;omega
    gi_wp2
    go_roundw
    case rel=>exact ⟨.inr (.inr (.inr ⟨rfl,hJ3⟩)),hs3⟩
    case measure=>simp [intOf]
   ·gi_wp2
    refine bodyPost_ret (results_none rfl _ _ _) rfl ?_
    exact ⟨⟨_,rfl⟩,.inr ⟨_,trivial,hJx3⟩⟩
  ·gi_wp2
   go_end0
   exact ⟨⟨_,rfl⟩,.inl ⟨_,rfl,hJs⟩⟩
theorem axes_stops (F:Fence) (n:Nat) (h8:F.fn 188) (hro:F.round=none) (hn:1≤n) (Bf n₀:Nat) (o1 o2 o3 x1 x2 x3 y1 y2 y3 z1 z2 z3:ByteArray) (w:World) (hn0:n₀≤w.heap.size)
 (hB:w.heap[Bf]?=some (.cells #[.string o1,.string o2,.string o3,.string x1,.string x2,.string x3,.string y1,.string y2,.string y3,.string z1,.string z2,.string z3] 51 (0,0))) :
 SeqStopsK F n Tryz.prog 188 #[.pointer (some ⟨Bf,0,none⟩)] (axE x1 x2 x3 y1 y2 y3 z1 z2 z3) (Below n₀) (fun ys=>ys = [0,1,2]) (fun _=>True) 3 w:=fun l J Jx W hW hJ _ hY h0 =>
 axes1_in F n h8 hro hn l Bf n₀ o1 o2 o3 x1 x2 x3 y1 y2 y3 z1 z2 z3 J Jx hY W hJ (Nat.le_trans hn0 hW.size) ((hW.block Bf (by rcases Nat.lt_or_ge Bf w.heap.size with h|h;exact h;rw [Array.getElem?_eq_none h] at hB;cases hB)).trans hB) h0
set_option maxHeartbeats 1000000 in
theorem axes_any (o1 o2 o3 x1 x2 x3 y1 y2 y3 z1 z2 z3:ByteArray) (w:World):Calls Tryz.prog 126 #[.agg #[.string o1,.string o2,.string o3,.string x1,.string x2,.string x3,.string y1,.string y2,.string y3,.string z1,.string z2,.string z3]] w fun e w' =>
 e = .returned (.func (.func 188) #[] #[.pointer (some ⟨w.heap.size,0,none⟩)])∧w'=w.alloc (.cells #[.string o1,.string o2,.string o3,.string x1,.string x2,.string x3,.string y1,.string y2,.string y3,.string z1,.string z2,.string z3] 51 (0,0)):=by
 refine (callsIn_wide (n:=3)).1 ?_
 refine callsIn_of_wp Tryz.func126 rfl trivial ?_ rfl
 simp only [Tryz.ntmps126,List.size_toArray,List.length_cons,List.length_nil,Nat.reduceAdd,Nat.reduceSub,Array.replicate_succ,Array.replicate_zero,List.push_toArray,List.append_toArray,List.nil_append,List.cons_append]
 gi_wp2
 refine bodyPost_ret (results_tmp rfl _ _ _) rfl ?_
 exact ⟨rfl,rfl⟩
end Go.Proofs.YtbhccgffnghlkaaGreatDoor.Fr
namespace Go.Proofs.YtbhccgffnghlkaaGreatDoor.Fr
open Go.RowKit Go.Shelf Go.Proofs.YtbhccgffnghlkaaGreatDoor Go.Proofs.YtbhccgffnghlkaaGreatDoor.Ab Pl
structure C9 where
 n1:Int
 d1:Int
 p1:Option Addr
 n2:Int
 d2:Int
 p2:Option Addr
 n3:Int
 d3:Int
 p3:Option Addr
def C9.cells (k:C9):List Value := [.int .i64 k.n1,.int .i64 k.d1,.pointer k.p1,.int .i64 k.n2,.int .i64 k.d2,.pointer k.p2,.int .i64 k.n3,.int .i64 k.d3,.pointer k.p3]
def C9.val (k:C9):Value := .agg #[.int .i64 k.n1,.int .i64 k.d1,.pointer k.p1,.int .i64 k.n2,.int .i64 k.d2,.pointer k.p2,.int .i64 k.n3,.int .i64 k.d3,.pointer k.p3]
def C9.zero:C9:=⟨0,0,none,0,0,none,0,0,none⟩
theorem vc9 {w:World} {v:Value} {a b c:Rat} (h:Vc w v a b c):∃ k:C9,v=k.val∧Vc w k.val a b c:=by
 obtain ⟨n1,d1,p1,n2,d2,p2,n3,d3,p3,rfl,h1,h2,h3⟩:=h
 exact ⟨⟨n1,d1,p1,n2,d2,p2,n3,d3,p3⟩,rfl,n1,d1,p1,n2,d2,p2,n3,d3,p3,rfl,h1,h2,h3⟩
theorem vc_cells {β:List Nat} {w:World} {k:C9} {a b c:Rat} (h:Vc w k.val a b c):holdsL β [nb a,nb b,nb c] k.cells w:=by
 obtain ⟨cs,e,hl⟩:=(vc_holds (β:=β)).2 h
 injection e with e
 have e:=congrArg Array.toList e
 have e:k.cells=cs:=e
 rw [e]
 exact hl
def frL (o x y z:C9):List Value:=o.cells++x.cells++y.cells++z.cells
theorem readVec_any {a b c:Rat} (h:Wr3 a b c) (w:World) (hG:Gl w):Calls Tryz.prog 27 #[.agg #[.string (writeB a),.string (writeB b),.string (writeB c)]] w fun e w' => ∃ k:C9,e = .returned (.tuple #[k.val,.int .i64 0])∧Vc w' k.val a b c∧Below w.heap.size w w':=by
 refine (readVecF h [] w [.agg #[.string (writeB a),.string (writeB b),.string (writeB c)]] hG ⟨_,_,rfl,⟨[.string (writeB a),.string (writeB b),.string (writeB c)],rfl,[.string (writeB a)],_,rfl,rfl,[.string (writeB b)],_,rfl,rfl,[.string (writeB c)],_,rfl,rfl,rfl⟩,rfl⟩).mono ?_
 rintro e w' ⟨v,e1,e2,vs,rfl,u,r,rfl,h1,u2,r2,rfl,h2,h3⟩
 obtain ⟨k,rfl,h4⟩:=vc9 (vc_holds.1 h1)
 have h5:[u2] = [.int .i64 0]:=h2.1
 injection h5 with h5
 rw [show r2 = [] from h3,h5] at e1
 exact ⟨k,e1,h4,e2⟩
theorem first_any (w:World) (g:Nat) (T:TypeId) (hh:w.heap[g]?=some (.cells #[.int .i64 0,.int .i64 0] T (0,0))):Calls Tryz.prog 28 #[.slice (some ⟨g,0,none⟩) 2 2] w fun e w'=>e = .returned (.int .i64 0)∧Below w.heap.size w w':=by
 refine (first2F (T:=T) [] w [.slice (some ⟨g,0,none⟩) 2 2] ⟨_,_,rfl,⟨g,[.int .i64 0,.int .i64 0],rfl,hh,[.int .i64 0],_,rfl,⟨rfl,rfl⟩,[.int .i64 0],_,rfl,⟨rfl,rfl⟩,rfl⟩,rfl⟩).mono ?_
 rintro e w' ⟨v,e1,e2,h1⟩
 have h5:[v] = [.int .i64 0]:=h1.1
 injection h5 with h5
 exact ⟨by rw [e1,h5],e2⟩
section
variable {o1 o2 o3 x1 x2 x3 y1 y2 y3 z1 z2 z3:Rat}
theorem fr_holds {β:List Nat} {w:World} {o x y z:C9} (ho:Vc w o.val o1 o2 o3) (hx:Vc w x.val x1 x2 x3) (hy:Vc w y.val y1 y2 y3) (hz:Vc w z.val z1 z2 z3) :
 (frm o1 o2 o3 x1 x2 x3 y1 y2 y3 z1 z2 z3).holds β (.agg (frL o x y z).toArray) w :=
 ⟨frL o x y z,rfl,(((vc_cells ho).append (vc_cells hx)).append (vc_cells hy)).append (vc_cells hz)⟩
theorem check_any {w:World} {o x y z:C9} (ho:Vc w o.val o1 o2 o3) (hx:Vc w x.val x1 x2 x3) (hy:Vc w y.val y1 y2 y3) (hz:Vc w z.val z1 z2 z3) (l:Lm 25 x1 x2 x3 y1 y2 y3 z1 z2 z3) (h:Ax x1 x2 x3 y1 y2 y3 z1 z2 z3) :
 Calls Tryz.prog 127 #[.agg (frL o x y z).toArray] w fun e w'=>e = .returned (.int .i64 0)∧Below w.heap.size w w':=by
 refine (checkF (o1:=o1) (o2:=o2) (o3:=o3) l h [] w [.agg (frL o x y z).toArray] ⟨_,_,rfl,fr_holds ho hx hy hz,rfl⟩).mono ?_
 rintro e w' ⟨v,e1,e2,h1⟩
 have h5:[v] = [.int .i64 0]:=h1.1
 injection h5 with h5
 exact ⟨by rw [e1,h5],e2⟩
end
end Go.Proofs.YtbhccgffnghlkaaGreatDoor.Fr
