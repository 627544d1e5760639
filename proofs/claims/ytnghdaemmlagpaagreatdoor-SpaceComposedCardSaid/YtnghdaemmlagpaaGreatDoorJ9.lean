/- Parts of the proof, joined. -/
import Derived.Test.YtnghdaemmlagpaaGreatDoorJ8
import Derived.Test.YtnghdaemmlagpaaGreatDoorJ6
import Derived.Test.YtnghdaemmlagpaaGreatDoorJ7
import Derived.WalkKit
import Derived.ProofKit
import Derived.OpenShut
import Derived.Deep.DeepHandedRow
import Derived.Deep.DeepWitnessRowRef
import Derived.Lib.LaidTab
import Derived.Stop.LaidErr
import Derived.Shelf.Vars
import Derived.Lay
import Derived.Test.YtnghdaemmlagpaaGreatDoorProg
import Derived.ChangeArms
set_option linter.unusedSimpArgs false
set_option linter.unusedVariables false
set_option linter.constructorNameAsVariable false
namespace Go.Proofs.YtnghdaemmlagpaaGreatDoor
namespace Ab
open Go.RowKit Pl
section
variable {o1 o2 o3 x1 x2 x3 y1 y2 y3 z1 z2 z3:ByteArray} {e1 e2 e3 e4 z:Int}
theorem checkFrameE (h1:jF 60 [t3 o1 o2 o3] (it e1)) (h2:jF 60 [t3 x1 x2 x3] (it e2)) (h3:jF 60 [t3 y1 y2 y3] (it e3)) (h4:jF 60 [t3 z1 z2 z3] (it e4))
 (v1:Ev e1) (v2:Ev e2) (v3:Ev e3) (v4:Ev e4) (hz:f2 (f2 (f2 e1 e2) e3) e4=z) (h0:z≠0):jF 13 [aAl o1 o2 o3 x1 x2 x3 y1 y2 y3 z1 z2 z3] (it z):=by
 rcases v1 with rfl|rfl|rfl
 ·rcases v2 with rfl|rfl|rfl
  ·rcases v3 with rfl|rfl|rfl
   ·rcases v4 with rfl|rfl|rfl
    ·exact absurd hz.symm h0
    all_goals
     have hz:_=z:=hz
     subst hz
     refine kgoN 15 Tryz.func13 (by kernel_rfl) fun w00=>?_
     refine kown (by kernel_rfl) ?_
     refine jC 60 [t3 o1 o2 o3] (h1) ?_
     refine jC 60 [t3 x1 x2 x3] (h2) ?_
     refine jC 60 [t3 y1 y2 y3] (h3) ?_
     refine jC 60 [t3 z1 z2 z3] (h4) ?_
     exact jR Tryz.func13
   ·have hz:1=z:=by rw [← hz];rfl
    subst hz
    refine kgoN 15 Tryz.func13 (by kernel_rfl) fun w00=>?_
    refine kown (by kernel_rfl) ?_
    refine jC 60 [t3 o1 o2 o3] (h1) ?_
    refine jC 60 [t3 x1 x2 x3] (h2) ?_
    refine jC 60 [t3 y1 y2 y3] (h3) ?_
    exact jR Tryz.func13
   ·have hz:4=z:=by rw [← hz];rfl
    subst hz
    refine kgoN 15 Tryz.func13 (by kernel_rfl) fun w00=>?_
    refine kown (by kernel_rfl) ?_
    refine jC 60 [t3 o1 o2 o3] (h1) ?_
    refine jC 60 [t3 x1 x2 x3] (h2) ?_
    refine jC 60 [t3 y1 y2 y3] (h3) ?_
    exact jR Tryz.func13
  ·have hz:1=z:=by rw [← hz];rfl
   subst hz
   refine kgoN 15 Tryz.func13 (by kernel_rfl) fun w00=>?_
   refine kown (by kernel_rfl) ?_
   refine jC 60 [t3 o1 o2 o3] (h1) ?_
   refine jC 60 [t3 x1 x2 x3] (h2) ?_
   exact jR Tryz.func13
  ·have hz:4=z:=by rw [← hz];rfl
   subst hz
   refine kgoN 15 Tryz.func13 (by kernel_rfl) fun w00=>?_
   refine kown (by kernel_rfl) ?_
   refine jC 60 [t3 o1 o2 o3] (h1) ?_
   refine jC 60 [t3 x1 x2 x3] (h2) ?_
   exact jR Tryz.func13
 ·have hz:1=z:=by rw [← hz];rfl
  subst hz
  refine kgoN 15 Tryz.func13 (by kernel_rfl) fun w00=>?_
  refine kown (by kernel_rfl) ?_
  refine jC 60 [t3 o1 o2 o3] (h1) ?_
  exact jR Tryz.func13
 ·have hz:4=z:=by rw [← hz];rfl
  subst hz
  refine kgoN 15 Tryz.func13 (by kernel_rfl) fun w00=>?_
  refine kown (by kernel_rfl) ?_
  refine jC 60 [t3 o1 o2 o3] (h1) ?_
  exact jR Tryz.func13
end
section
variable {o1 o2 o3 x1 x2 x3 y1 y2 y3 z1 z2 z3 p1 p2 p3:Rat}
structure Qf (o1 o2 o3 x1 x2 x3 y1 y2 y3 z1 z2 z3:Rat):Prop where
 o1:Bq 30 o1
 o2:Bq 30 o2
 o3:Bq 30 o3
 x1:Bq 30 x1
 x2:Bq 30 x2
 x3:Bq 30 x3
 y1:Bq 30 y1
 y2:Bq 30 y2
 y3:Bq 30 y3
 z1:Bq 30 z1
 z2:Bq 30 z2
 z3:Bq 30 z3
structure Q3 (p1 p2 p3:Rat):Prop where
 a:Bq 30 p1
 b:Bq 30 p2
 c:Bq 30 p3
abbrev frA (o1 o2 o3 x1 x2 x3 y1 y2 y3 z1 z2 z3:Rat):AV Kn:=aAl (writeB o1) (writeB o2) (writeB o3) (writeB x1) (writeB x2) (writeB x3) (writeB y1) (writeB y2) (writeB y3) (writeB z1) (writeB z2) (writeB z3)
theorem dtq {a b c x y z:Rat} (h:Q3 a b c) (k:Q3 x y z):Bq 182 (dt a b c x y z):=Bq.dt h.a h.b h.c k.a k.b k.c (by omega)
theorem Qf.x (h:Qf o1 o2 o3 x1 x2 x3 y1 y2 y3 z1 z2 z3):Q3 x1 x2 x3:=⟨h.x1,h.x2,h.x3⟩
theorem Qf.y (h:Qf o1 o2 o3 x1 x2 x3 y1 y2 y3 z1 z2 z3):Q3 y1 y2 y3:=⟨h.y1,h.y2,h.y3⟩
theorem Qf.z (h:Qf o1 o2 o3 x1 x2 x3 y1 y2 y3 z1 z2 z3):Q3 z1 z2 z3:=⟨h.z1,h.z2,h.z3⟩
theorem Qf.o (h:Qf o1 o2 o3 x1 x2 x3 y1 y2 y3 z1 z2 z3):Q3 o1 o2 o3:=⟨h.o1,h.o2,h.o3⟩
theorem refStretchF (h:Qf o1 o2 o3 x1 x2 x3 y1 y2 y3 z1 z2 z3):jF 124 [frA o1 o2 o3 x1 x2 x3 y1 y2 y3 z1 z2 z3] (vS (dt x1 x2 x3 x1 x2 x3) (dt y1 y2 y3 y1 y2 y3) (dt z1 z2 z3 z1 z2 z3)) :=
 stretchR (xR h.x1 h.x2 h.x3 (by omega)) (xR h.y1 h.y2 h.y3 (by omega)) (xR h.z1 h.z2 h.z3 (by omega))
theorem scaleV2 {j l:Nat} {c x y z:Rat} (hc:Bq j c) (hx:Bq l x) (hy:Bq l y) (hz:Bq l z) (hj:j≤10000) (hl:l≤10000):jF 54 [tx (writeB c),vS x y z] (vS (c*x) (c*y) (c*z)) :=
 scaleR3 (jA (fN (hc.zs hj) (hx.zs hl))) (jA (fN (hc.zs hj) (hy.zs hl))) (jA (fN (hc.zs hj) (hz.zs hl)))
theorem addV2 {j l:Nat} {a b c x y z:Rat} (h1:Bq j a) (h2:Bq j b) (h3:Bq j c) (k1:Bq l x) (k2:Bq l y) (k3:Bq l z) (hj:j≤10000) (hl:l≤10000):jF 53 [vS a b c,vS x y z] (vS (a+x) (b+y) (c+z)) :=
 addVecR (jA (oG (h1.zs hj) (k1.zs hl))) (jA (oG (h2.zs hj) (k2.zs hl))) (jA (oG (h3.zs hj) (k3.zs hl)))
theorem oK (h:Qf o1 o2 o3 x1 x2 x3 y1 y2 y3 z1 z2 z3) (k:Q3 p1 p2 p3):jF 69 [frA o1 o2 o3 x1 x2 x3 y1 y2 y3 z1 z2 z3,vS p1 p2 p3] (vS (ld p1 p2 p3 x1 y1 z1) (ld p1 p2 p3 x2 y2 z2) (ld p1 p2 p3 x3 y3 z3)):=by
 have k1:=scaleV2 k.a h.x1 h.x2 h.x3 (by omega) (by omega)
 have k2:=scaleV2 k.b h.y1 h.y2 h.y3 (by omega) (by omega)
 have k3:=addV2 (k.a.mul h.x1) (k.a.mul h.x2) (k.a.mul h.x3) (k.b.mul h.y1) (k.b.mul h.y2) (k.b.mul h.y3) (by omega) (by omega)
 have k4:=scaleV2 k.c h.z1 h.z2 h.z3 (by omega) (by omega)
 have k5:=addV2 ((k.a.mul h.x1).add (k.b.mul h.y1)) ((k.a.mul h.x2).add (k.b.mul h.y2)) ((k.a.mul h.x3).add (k.b.mul h.y3)) (k.c.mul h.z1) (k.c.mul h.z2) (k.c.mul h.z3) (by omega) (by omega)
 refine jG Tryz.func69 fun w00=>?_
 refine jC 54 _ (k1) ?_
 refine jC 54 _ (k2) ?_
 refine jC 53 _ (k3) ?_
 refine jC 54 _ (k4) ?_
 refine jC 53 _ (k5) ?_
 exact jR Tryz.func69
theorem ldq {x y z:Rat} (k:Q3 p1 p2 p3) (h:Q3 x y z):Bq 182 (ld p1 p2 p3 x y z):=(((k.a.mul h.a).add (k.b.mul h.b)).add (k.c.mul h.c)).mono (by omega)
theorem refPlaceF (h:Qf o1 o2 o3 x1 x2 x3 y1 y2 y3 z1 z2 z3) (k:Q3 p1 p2 p3):jF 68 [frA o1 o2 o3 x1 x2 x3 y1 y2 y3 z1 z2 z3,vS p1 p2 p3] (vS (o1+ld p1 p2 p3 x1 y1 z1) (o2+ld p1 p2 p3 x2 y2 z2) (o3+ld p1 p2 p3 x3 y3 z3)):=by
 have k1:=oK h k
 have k2:=addV2 h.o1 h.o2 h.o3 (ldq k ⟨h.x1,h.y1,h.z1⟩) (ldq k ⟨h.x2,h.y2,h.z2⟩) (ldq k ⟨h.x3,h.y3,h.z3⟩) (by omega) (by omega)
 refine jG Tryz.func68 fun w00=>?_
 refine jC 69 _ (k1) ?_
 refine jC 53 _ (k2) ?_
 exact jR Tryz.func68
theorem qR (h:Qf o1 o2 o3 x1 x2 x3 y1 y2 y3 z1 z2 z3) (k:Q3 p1 p2 p3) (h0:Sq0 x1 x2 x3 y1 y2 y3 z1 z2 z3):jF 62 [frA o1 o2 o3 x1 x2 x3 y1 y2 y3 z1 z2 z3,vS p1 p2 p3] (vS (dt (p1-o1) (p2-o2) (p3-o3) x1 x2 x3/dt x1 x2 x3 x1 x2 x3) (dt (p1-o1) (p2-o2) (p3-o3) y1 y2 y3/dt y1 y2 y3 y1 y2 y3) (dt (p1-o1) (p2-o2) (p3-o3) z1 z2 z3/dt z1 z2 z3 z1 z2 z3)):=by
 have d1:Bq 61 (p1-o1):=k.a.sub h.o1
 have d2:Bq 61 (p2-o2):=k.b.sub h.o2
 have d3:Bq 61 (p3-o3):=k.c.sub h.o3
 have k1:=subV k.a k.b k.c h.o1 h.o2 h.o3 (by omega) (by omega)
 have k2:=refStretchF h
 have q1:∀ {x y z:Rat},Q3 x y z→Bq 275 (dt (p1-o1) (p2-o2) (p3-o3) x y z):=fun g=>Bq.dt d1 d2 d3 g.a g.b g.c (by omega)
 have kx:=vM d1 d2 d3 h.x1 h.x2 h.x3 (by omega)
 have ky:=vM d1 d2 d3 h.y1 h.y2 h.y3 (by omega)
 have kz:=vM d1 d2 d3 h.z1 h.z2 h.z3 (by omega)
 have rx:=jA (refDivF ((q1 h.x).zs (by omega)) ((dtq h.x h.x).zs (by omega)) h0.x)
 have ry:=jA (refDivF ((q1 h.y).zs (by omega)) ((dtq h.y h.y).zs (by omega)) h0.y)
 have rz:=jA (refDivF ((q1 h.z).zs (by omega)) ((dtq h.z h.z).zs (by omega)) h0.z)
 refine jG Tryz.func62 fun w00=>?_
 refine jC 63 _ (k1) ?_
 refine jC 124 _ (k2) ?_
 refine jC 57 _ (kx) ?_
 refine jC 125 _ (rx) ?_
 refine jC 57 _ (ky) ?_
 refine jC 125 _ (ry) ?_
 refine jC 57 _ (kz) ?_
 refine jC 125 _ (rz) ?_
 exact jR Tryz.func62
theorem zT (h:Wf o1 o2 o3 x1 x2 x3 y1 y2 y3 z1 z2 z3):jF 59 [frA o1 o2 o3 x1 x2 x3 y1 y2 y3 z1 z2 z3] (it 0):=by
 have k1:=kP h.o
 have k2:=kP h.x
 have k3:=kP h.y
 have k4:=kP h.z
 refine jG Tryz.func59 fun w00=>?_
 refine jC 123 _ (k1) ?_
 refine jC 123 _ (k2) ?_
 refine jC 123 _ (k3) ?_
 refine jC 123 _ (k4) ?_
 exact jR Tryz.func59
theorem det_ne (hx:¬ (x1=0∧x2=0∧x3=0)) (hy:¬ (y1=0∧y2=0∧y3=0)) (hz:¬ (z1=0∧z2=0∧z3=0)) (hxy:dt x1 x2 x3 y1 y2 y3=0) (hyz:dt y1 y2 y3 z1 z2 z3=0) (hzx:dt z1 z2 z3 x1 x2 x3=0):gG x1 x2 x3 y1 y2 y3 z1 z2 z3≠0:=by
 intro h
 have sx:dt x1 x2 x3 x1 x2 x3≠0:=fun e=>hx (sH e)
 have sy:dt y1 y2 y3 y1 y2 y3≠0:=fun e=>hy (sH e)
 have sz:dt z1 z2 z3 z1 z2 z3≠0:=fun e=>hz (sH e)
 have k1:x2*(y1*z2-y2*z1)-x3*(y3*z1-y1*z3)=0:=by grind
 have k2:x3*(y2*z3-y3*z2)-x1*(y1*z2-y2*z1)=0:=by grind
 have k3:x1*(y3*z1-y1*z3)-x2*(y2*z3-y3*z2)=0:=by grind
 have kc:dt (y2*z3-y3*z2) (y3*z1-y1*z3) (y1*z2-y2*z1) (y2*z3-y3*z2) (y3*z1-y1*z3) (y1*z2-y2*z1)=dt y1 y2 y3 y1 y2 y3*dt z1 z2 z3 z1 z2 z3-dt y1 y2 y3 z1 z2 z3*dt y1 y2 y3 z1 z2 z3:=by grind
 have h:dt x1 x2 x3 (y2*z3-y3*z2) (y3*z1-y1*z3) (y1*z2-y2*z1)=0:=h
 generalize y2*z3-y3*z2=c1 at *
 generalize y3*z1-y1*z3=c2 at *
 generalize y1*z2-y2*z1=c3 at *
 have kd:dt x1 x2 x3 x1 x2 x3*dt c1 c2 c3 c1 c2 c3=dt x1 x2 x3 c1 c2 c3*dt x1 x2 x3 c1 c2 c3+(x2*c3-x3*c2)*(x2*c3-x3*c2)+(x3*c1-x1*c3)*(x3*c1-x1*c3)+(x1*c2-x2*c1)*(x1*c2-x2*c1):=by grind
 rw [h,k1,k2,k3,kc,hyz] at kd
 generalize dt x1 x2 x3 x1 x2 x3=a at *
 generalize dt y1 y2 y3 y1 y2 y3=b at *
 generalize dt z1 z2 z3 z1 z2 z3=c at *
 have k5:a*(b*c)=0:=by grind
 rcases Rat.mul_eq_zero.1 k5 with e|e
 ·exact sx e
 ·rcases Rat.mul_eq_zero.1 e with e|e
  ·exact sy e
  ·exact sz e
theorem uF {a b c:Rat} (h:ax0 a b c=false):¬ (a=0∧b=0∧c=0):=fun ⟨e1,e2,e3⟩=>by
 have k:ax0 a b c=true:=by simp [ax0,e1,e2,e3]
 rw [h] at k
 cases k
theorem dec3 {p q r:Prop} [Decidable p] [Decidable q] [Decidable r]:(decide p&&decide q&&decide r)=true↔p∧q∧r:=by simp [and_assoc]
theorem gW (h:Qf o1 o2 o3 x1 x2 x3 y1 y2 y3 z1 z2 z3):jF 13 [frA o1 o2 o3 x1 x2 x3 y1 y2 y3 z1 z2 z3] (it (ckF x1 x2 x3 y1 y2 y3 z1 z2 z3)):=by
 have cv:∀ {a b c:Rat},Q3 a b c→jF 60 [t3 (writeB a) (writeB b) (writeB c)] (it 0):=fun h=>checkVec3 (chkB h.a (by omega)) (chkB h.b (by omega)) (chkB h.c (by omega))
 have hc:=crossV h.y1 h.y2 h.y3 h.z1 h.z2 h.z3 (by omega)
 have c1:Bq 121 (y2*z3-y3*z2):=(h.y2.mul h.z3).sub (h.y3.mul h.z2)
 have c2:Bq 121 (y3*z1-y1*z3):=(h.y3.mul h.z1).sub (h.y1.mul h.z3)
 have c3:Bq 121 (y1*z2-y2*z1):=(h.y1.mul h.z2).sub (h.y2.mul h.z1)
 have hd:=detR hc (vM h.x1 h.x2 h.x3 c1 c2 c3 (by omega))
 have hS:=shapeZ (o1:=writeB o1) (o2:=writeB o2) (o3:=writeB o3) (vM h.x1 h.x2 h.x3 h.y1 h.y2 h.y3 (by omega)) (qQ _) (vM h.y1 h.y2 h.y3 h.z1 h.z2 h.z3 (by omega)) (qQ _) (vM h.z1 h.z2 h.z3 h.x1 h.x2 h.x3 (by omega)) (qQ _) hd (signQ _) (uE _) rfl
 refine checkFrameZ (cv h.o) (cv h.x) (cv h.y) (cv h.z) (vN _ _ _) (vN _ _ _) (vN _ _ _) hS ?_
 unfold ckF
 by_cases h0:(ax0 x1 x2 x3 || ax0 y1 y2 y3 || ax0 z1 z2 z3)=true
 ·rw [if_pos h0,if_pos h0]
 ·rw [if_neg h0,if_neg h0]
  have h0:(ax0 x1 x2 x3 || ax0 y1 y2 y3 || ax0 z1 z2 z3)=false:=by simpa using h0
  obtain ⟨h01,n3⟩:=Bool.or_eq_false_iff.1 h0
  obtain ⟨n1,n2⟩:=Bool.or_eq_false_iff.1 h01
  by_cases h1:orB x1 x2 x3 y1 y2 y3 z1 z2 z3=true
  ·have e1:=h1
   rw [dec3] at e1
   have hne:=det_ne (uF n1) (uF n2) (uF n3) e1.1 e1.2.1 e1.2.2
   have hs0:lK (gG x1 x2 x3 y1 y2 y3 z1 z2 z3)≠0:=by
    unfold lK bW
    have:=uD hne
    split
    ·decide
    ·split
     ·decide
     ·omega
   have h1' : (decide (dt x1 x2 x3 y1 y2 y3=0)&&decide (dt y1 y2 y3 z1 z2 z3=0)&&decide (dt z1 z2 z3 x1 x2 x3=0))=true:=h1
   rw [h1']
   rcases uE (gG x1 x2 x3 y1 y2 y3 z1 z2 z3) with e|e|e
   ·have e' : lK (dt x1 x2 x3 (y2*z3-y3*z2) (y3*z1-y1*z3) (y1*z2-y2*z1))=1:=e
    rw [e',if_pos ⟨h1,by decide⟩]
    rfl
   ·exact absurd e hs0
   ·have e' : lK (dt x1 x2 x3 (y2*z3-y3*z2) (y3*z1-y1*z3) (y1*z2-y2*z1)) = -1:=e
    rw [e',if_neg (fun k=>k.2 (by decide))]
    rfl
  ·have h1' : (decide (dt x1 x2 x3 y1 y2 y3=0)&&decide (dt y1 y2 y3 z1 z2 z3=0)&&decide (dt z1 z2 z3 x1 x2 x3=0))=false:=by simpa using h1
   rw [if_neg (fun k=>h1 k.1),h1']
   rfl
theorem ax_of (h:ckF x1 x2 x3 y1 y2 y3 z1 z2 z3=0):Ax x1 x2 x3 y1 y2 y3 z1 z2 z3:=by
 unfold ckF at h
 split at h
 ·exact absurd h (by decide)
 rename_i h0
 split at h
 ·rename_i h1
  have h0:(ax0 x1 x2 x3 || ax0 y1 y2 y3 || ax0 z1 z2 z3)=false:=by simpa using h0
  obtain ⟨h01,n3⟩:=Bool.or_eq_false_iff.1 h0
  obtain ⟨n1,n2⟩:=Bool.or_eq_false_iff.1 h01
  have e1:=h1.1
  rw [dec3] at e1
  have hne:=det_ne (uF n1) (uF n2) (uF n3) e1.1 e1.2.1 e1.2.2
  refine ⟨n1,n2,n3,e1.1,e1.2.1,e1.2.2,?_⟩
  rcases uE (gG x1 x2 x3 y1 y2 y3 z1 z2 z3) with e|e|e
  ·exact e
  ·exfalso
   have:=uD hne
   unfold lK bW at e
   split at e
   ·exact absurd e (by decide)
   ·split at e
    ·exact absurd e (by decide)
    ·omega
  ·exact absurd (by rw [e];decide) h1.2
 ·exact absurd h (by decide)
theorem sq0_of (h:Ax x1 x2 x3 y1 y2 y3 z1 z2 z3):Sq0 x1 x2 x3 y1 y2 y3 z1 z2 z3 :=
 ⟨fun e=>uF h.x0 (sH e),fun e=>uF h.y0 (sH e),fun e=>uF h.z0 (sH e)⟩
end
set_option maxRecDepth 100000 in
theorem shortF4 {o1 o2 o3 x1 x2 x3 y1 y2 y3 z1 z2 z3:ByteArray} {n:Int} {T:TypeId} {r:Bool} (h:(lo n o1 || lo n o2 || lo n o3 || lo n x1 || lo n x2 || lo n x3 || lo n y1 || lo n y2 || lo n y3 || lo n z1 || lo n z2 || lo n z3)=r):jF 29 [it n,.fv (.nsl 4 T [bK o1,bK o2,bK o3,bK x1,bK x2,bK x3,bK y1,bK y2,bK y3,bK z1,bK z2,bK z3])] (bl (!r)):=by
 obtain ⟨r0,e0⟩:∃ r,lo n o1=r:=⟨_,rfl⟩
 obtain ⟨r1,e1⟩:∃ r,lo n o2=r:=⟨_,rfl⟩
 obtain ⟨r2,e2⟩:∃ r,lo n o3=r:=⟨_,rfl⟩
 obtain ⟨r3,e3⟩:∃ r,lo n x1=r:=⟨_,rfl⟩
 obtain ⟨r4,e4⟩:∃ r,lo n x2=r:=⟨_,rfl⟩
 obtain ⟨r5,e5⟩:∃ r,lo n x3=r:=⟨_,rfl⟩
 obtain ⟨r6,e6⟩:∃ r,lo n y1=r:=⟨_,rfl⟩
 obtain ⟨r7,e7⟩:∃ r,lo n y2=r:=⟨_,rfl⟩
 obtain ⟨r8,e8⟩:∃ r,lo n y3=r:=⟨_,rfl⟩
 obtain ⟨r9,e9⟩:∃ r,lo n z1=r:=⟨_,rfl⟩
 obtain ⟨r10,e10⟩:∃ r,lo n z2=r:=⟨_,rfl⟩
 obtain ⟨r11,e11⟩:∃ r,lo n z3=r:=⟨_,rfl⟩
 rw [e0,e1,e2,e3,e4,e5,e6,e7,e8,e9,e10,e11] at h
 subst h
 refine kgoAS Tryz.func29 (by kernel_rfl) fun w00=>?_
 refine jP 16 22 Tryz.underlying22 o1 ?_
 refine kgg (.tmp 17) (.tmp 18) o1.size n r0 _ bZ e0 ?_
 cases r0
 case true=>exact jR Tryz.func29
 refine jP 25 22 Tryz.underlying22 o2 ?_
 refine kgg (.tmp 26) (.tmp 27) o2.size n r1 _ bZ e1 ?_
 cases r1
 case true=>exact jR Tryz.func29
 refine jP 35 22 Tryz.underlying22 o3 ?_
 refine kgg (.tmp 36) (.tmp 37) o3.size n r2 _ bZ e2 ?_
 cases r2
 case true=>exact jR Tryz.func29
 refine jP 16 22 Tryz.underlying22 x1 ?_
 refine kgg (.tmp 17) (.tmp 18) x1.size n r3 _ bZ e3 ?_
 cases r3
 case true=>exact jR Tryz.func29
 refine jP 25 22 Tryz.underlying22 x2 ?_
 refine kgg (.tmp 26) (.tmp 27) x2.size n r4 _ bZ e4 ?_
 cases r4
 case true=>exact jR Tryz.func29
 refine jP 35 22 Tryz.underlying22 x3 ?_
 refine kgg (.tmp 36) (.tmp 37) x3.size n r5 _ bZ e5 ?_
 cases r5
 case true=>exact jR Tryz.func29
 refine jP 16 22 Tryz.underlying22 y1 ?_
 refine kgg (.tmp 17) (.tmp 18) y1.size n r6 _ bZ e6 ?_
 cases r6
 case true=>exact jR Tryz.func29
 refine jP 25 22 Tryz.underlying22 y2 ?_
 refine kgg (.tmp 26) (.tmp 27) y2.size n r7 _ bZ e7 ?_
 cases r7
 case true=>exact jR Tryz.func29
 refine jP 35 22 Tryz.underlying22 y3 ?_
 refine kgg (.tmp 36) (.tmp 37) y3.size n r8 _ bZ e8 ?_
 cases r8
 case true=>exact jR Tryz.func29
 refine jP 16 22 Tryz.underlying22 z1 ?_
 refine kgg (.tmp 17) (.tmp 18) z1.size n r9 _ bZ e9 ?_
 cases r9
 case true=>exact jR Tryz.func29
 refine jP 25 22 Tryz.underlying22 z2 ?_
 refine kgg (.tmp 26) (.tmp 27) z2.size n r10 _ bZ e10 ?_
 cases r10
 case true=>exact jR Tryz.func29
 refine jP 35 22 Tryz.underlying22 z3 ?_
 refine kgg (.tmp 36) (.tmp 37) z3.size n r11 _ bZ e11 ?_
 cases r11
 case true=>exact jR Tryz.func29
 exact jR Tryz.func29
abbrev F12.lo (f:F12) (n:Int):Bool:=(Ab.lo n f.o1 || Ab.lo n f.o2 || Ab.lo n f.o3 || Ab.lo n f.x1 || Ab.lo n f.x2 || Ab.lo n f.x3 || Ab.lo n f.y1 || Ab.lo n f.y2 || Ab.lo n f.y3 || Ab.lo n f.z1 || Ab.lo n f.z2 || Ab.lo n f.z3)
theorem iL {f:F12} {n:Int} {r:Bool} (h:f.lo n=r):jF 5 [it n,f.av] (bl (!r)):=by
 have hs:=shortF4 (T:=24) h
 refine jG Tryz.func5 fun w00=>?_
 refine jC 29 _ (hs) ?_
 exact jR Tryz.func5
abbrev Bf (z:Int):Prop:=z=1∨z=4∨z=6∨z=15
abbrev noR:AV Kn := .fv (.ag [eT,eT,eT,eT,eT,eT,eT,eT,eT,eT,eT,eT])
abbrev xD (z:Int):AV Kn := .tup [.ag [eT,eT,eT,eT,eT,eT,eT,eT,eT,eT,eT,eT],.sc (lz z)]
theorem axesBad {z:Int} (h:Bf z):jF 12 [noR,it z,it z,noR] (bl true):=by
 rcases h with rfl|rfl|rfl|rfl
 all_goals
  refine jG Tryz.func12 fun w00=>?_
  exact jR Tryz.func12
section
variable {f:FuncId} {w00:World} {Out:Value→World→Prop} {c:Cfg Kn}
theorem kfe (x y:Operand) (a0 a1 a2 a3 a4 a5 a6 a7 a8 a9 b0 b1:ByteArray) (hg:Ok Tryz.prog f w00 Out (cG Tryz.prog 1000 (c.give (bl true))))
 (hc:(c.op.map fun o=>o.op,c.okT (bl true),c.ev x,c.ev y)=(some (.binOp .eql 26 x y 26),true,aAl a0 a1 a2 a3 a4 a5 a6 a7 a8 a9 b0 b1,aAl a0 a1 a2 a3 a4 a5 a6 a7 a8 a9 b0 b1):=by kernel_rfl):Ok Tryz.prog f w00 Out c :=
 pK (.binOp .eql 26 x y 26) x y _ _ (bl true) hc (by simp [Op.operands]) (by simp [Op.operands]) (fun ρ o β w ho hx hy=>⟨_,agg_eq (by kernel_rfl) (equalFr a0 a1 a2 a3 a4 a5 a6 a7 a8 a9 b0 b1 w) ho (fr_is hx) (fr_is hy),aY rfl⟩) hg
end
theorem axesOk {o1 o2 o3 x1 x2 x3 y1 y2 y3 z1 z2 z3:Rat} (h:Wf o1 o2 o3 x1 x2 x3 y1 y2 y3 z1 z2 z3):jF 12 [frA o1 o2 o3 x1 x2 x3 y1 y2 y3 z1 z2 z3,it 0,it 0,frA o1 o2 o3 x1 x2 x3 y1 y2 y3 z1 z2 z3] (bl true):=by
 have hl:=zT h
 refine jG Tryz.func12 fun w00=>?_
 refine jC 59 _ (hl) ?_
 refine kfe (.tmp 26) (.tmp 27) (writeB o1) (writeB o2) (writeB o3) (writeB x1) (writeB x2) (writeB x3) (writeB y1) (writeB y2) (writeB y3) (writeB z1) (writeB z2) (writeB z3) ?_
 exact jR Tryz.func12
theorem first2Fr {T:TypeId} {x y:Int} (hx:Bf x):jF 83 [.fv (.nsl 2 T [lz x,lz y])] (it x):=by
 rcases hx with rfl|rfl|rfl|rfl
 all_goals
  refine lA Tryz.func83 (by kernel_rfl) fun w00=>?_
  exact jR Tryz.func83
structure F12.Ss (f:F12):Prop where
 o:Ss3 f.o1 f.o2 f.o3
 x:Ss3 f.x1 f.x2 f.x3
 y:Ss3 f.y1 f.y2 f.y3
 z:Ss3 f.z1 f.z2 f.z3
theorem F12.Ss.rb {f:F12} (h:f.Ss):f.Rb:=⟨h.o.sl.rb,h.x.sl.rb,h.y.sl.rb,h.z.sl.rb⟩
section
variable {o1 o2 o3 x1 x2 x3 y1 y2 y3 z1 z2 z3 p1 p2 p3:Rat} {a b c:ByteArray} {z:Int}
abbrev wF (o1 o2 o3 x1 x2 x3 y1 y2 y3 z1 z2 z3:Rat):F12:=⟨writeB o1,writeB o2,writeB o3,writeB x1,writeB x2,writeB x3,writeB y1,writeB y2,writeB y3,writeB z1,writeB z2,writeB z3⟩
theorem Qf.wf (q:Qf o1 o2 o3 x1 x2 x3 y1 y2 y3 z1 z2 z3):Wf o1 o2 o3 x1 x2 x3 y1 y2 y3 z1 z2 z3:=⟨⟨q.o1.wr (by omega),q.o2.wr (by omega),q.o3.wr (by omega)⟩,⟨q.x1.wr (by omega),q.x2.wr (by omega),q.x3.wr (by omega)⟩,⟨q.y1.wr (by omega),q.y2.wr (by omega),q.y3.wr (by omega)⟩,⟨q.z1.wr (by omega),q.z2.wr (by omega),q.z3.wr (by omega)⟩⟩
end
theorem ckF_values (x1 x2 x3 y1 y2 y3 z1 z2 z3:Rat):ckF x1 x2 x3 y1 y2 y3 z1 z2 z3=0∨ckF x1 x2 x3 y1 y2 y3 z1 z2 z3=6∨ckF x1 x2 x3 y1 y2 y3 z1 z2 z3=15:=by
 unfold ckF
 split
 ·exact .inr (.inl rfl)
 split
 ·exact .inl rfl
 ·exact .inr (.inr rfl)
theorem val_of {q:Rat} (hw:Wr q):bI (writeB q)=q:=(write_inj hw (valB_ok (wO hw.n hw.d)).1 (eN _)).symm
section
variable {x1 x2 x3 y1 y2 y3 z1 z2 z3 p1 p2 p3 t1 t2 t3:Rat}
theorem sgn_pos {q:Rat} (h:0<q.num):lK q=1:=by
 unfold lK bW
 rw [if_neg (by omega),if_pos h]
end
theorem qB {f:F12} (h:f.Ss):(∃ o1 o2 o3 x1 x2 x3 y1 y2 y3 z1 z2 z3:Rat,f=wF o1 o2 o3 x1 x2 x3 y1 y2 y3 z1 z2 z3∧Qf o1 o2 o3 x1 x2 x3 y1 y2 y3 z1 z2 z3∧Ax x1 x2 x3 y1 y2 y3 z1 z2 z3∧ckF x1 x2 x3 y1 y2 y3 z1 z2 z3=0) ∨
 ∃ z,Bf z∧f.ck=z∧jF 13 [f.av] (it z):=by
 by_cases ht:f.ct=0
 ·obtain ⟨ht3,hz4⟩:=qO ht
  obtain ⟨ht2,hz3⟩:=qO ht3
  obtain ⟨hz1,hz2⟩:=qO ht2
  obtain ⟨g1,g2,g3,g4,g5,g6,g7,g8,g9,g10,g11,g12⟩:=f
  obtain ⟨o1,o2,o3,rfl,rfl,rfl,a1,a2,a3⟩:=slwN3 (n:=30) h.o.1 h.o.2.1 h.o.2.2 (by omega) hz1
  obtain ⟨x1,x2,x3,rfl,rfl,rfl,b1,b2,b3⟩:=slwN3 (n:=30) h.x.1 h.x.2.1 h.x.2.2 (by omega) hz2
  obtain ⟨y1,y2,y3,rfl,rfl,rfl,c1,c2,c3'⟩:=slwN3 (n:=30) h.y.1 h.y.2.1 h.y.2.2 (by omega) hz3
  obtain ⟨z1,z2,z3,rfl,rfl,rfl,d1,d2,d3⟩:=slwN3 (n:=30) h.z.1 h.z.2.1 h.z.2.2 (by omega) hz4
  have q:Qf o1 o2 o3 x1 x2 x3 y1 y2 y3 z1 z2 z3:=⟨a1,a2,a3,b1,b2,b3,c1,c2,c3',d1,d2,d3⟩
  have v:∀ {p:Rat},Bq 30 p→bI (writeB p)=p:=fun hp=>val_of (hp.wr (by omega))
  have hck:(wF o1 o2 o3 x1 x2 x3 y1 y2 y3 z1 z2 z3).ck=ckF x1 x2 x3 y1 y2 y3 z1 z2 z3:=by
   unfold F12.ck
   rw [if_pos ht]
   show ckF (bI (writeB x1)) (bI (writeB x2)) (bI (writeB x3)) (bI (writeB y1)) (bI (writeB y2)) (bI (writeB y3)) (bI (writeB z1)) (bI (writeB z2)) (bI (writeB z3))=_
   rw [v b1,v b2,v b3,v c1,v c2,v c3',v d1,v d2,v d3]
  by_cases e0:ckF x1 x2 x3 y1 y2 y3 z1 z2 z3=0
  ·exact .inl ⟨o1,o2,o3,x1,x2,x3,y1,y2,y3,z1,z2,z3,rfl,q,ax_of e0,e0⟩
  ·have hb:Bf (ckF x1 x2 x3 y1 y2 y3 z1 z2 z3):=by
    rcases ckF_values x1 x2 x3 y1 y2 y3 z1 z2 z3 with e|e|e
    ·exact absurd e e0
    ·exact .inr (.inr (.inl e))
    ·exact .inr (.inr (.inr e))
   exact .inr ⟨_,hb,hck,gW q⟩
 ·have hev:Ev f.ct:=wQ (wQ (wQ (gV _ _ _) (gV _ _ _)) (gV _ _ _)) (gV _ _ _)
  have hck:f.ck=f.ct:=if_neg ht
  have hb:Bf f.ct:=by
   rcases hev with e|e|e
   ·exact absurd e ht
   ·exact .inl e
   ·exact .inr (.inl e)
  exact .inr ⟨_,hb,hck,checkFrameE (kM h.o.sl rfl) (kM h.x.sl rfl) (kM h.y.sl rfl) (kM h.z.sl rfl) (gV _ _ _) (gV _ _ _) (gV _ _ _) (gV _ _ _) (z:=f.ct) rfl ht⟩
theorem gd_of {x1 x2 x3 y1 y2 y3 z1 z2 z3:Rat} (h:Ax x1 x2 x3 y1 y2 y3 z1 z2 z3):Gd x1 x2 x3 y1 y2 y3 z1 z2 z3:=by
 refine ⟨h.xy,h.yz,h.zx,?_⟩
 have hs:=h.s
 unfold lK bW at hs
 split at hs
 ·exact absurd hs (by decide)
 ·split at hs
  ·rename_i a
   exact a
  ·exact absurd hs (by decide)
abbrev oF (g:F12) (e:Int):AV Kn := .tup [.ag [bK g.o1,bK g.o2,bK g.o3,bK g.x1,bK g.x2,bK g.x3,bK g.y1,bK g.y2,bK g.y3,bK g.z1,bK g.z2,bK g.z3],.sc (lz e)]
abbrev nF:F12:=⟨⟨#[]⟩,⟨#[]⟩,⟨#[]⟩,⟨#[]⟩,⟨#[]⟩,⟨#[]⟩,⟨#[]⟩,⟨#[]⟩,⟨#[]⟩,⟨#[]⟩,⟨#[]⟩,⟨#[]⟩⟩
theorem noRV_oF {e:Int} (β:List Nat) (v:Value) (w:World) (h:(xD e).holds β v w):(oF nF e).holds β v w:=by
 obtain ⟨vs,rfl,u,r,rfl,h1,h2⟩:=h
 obtain ⟨cs,rfl,x1,r1,rfl,k1,x2,r2,rfl,k2,x3,r3,rfl,k3,x4,r4,rfl,k4,x5,r5,rfl,k5,x6,r6,rfl,k6,x7,r7,rfl,k7,x8,r8,rfl,k8,x9,r9,rfl,k9,y1,s1,rfl,l1,y2,s2,rfl,l2,y3,s3,rfl,l3,l4⟩:=h1
 exact ⟨_,rfl,_,_,rfl,⟨_,rfl,_,_,rfl,k1.1,_,_,rfl,k2.1,_,_,rfl,k3.1,_,_,rfl,k4.1,_,_,rfl,k5.1,_,_,rfl,k6.1,_,_,rfl,k7.1,_,_,rfl,k8.1,_,_,rfl,k9.1,_,_,rfl,l1.1,_,_,rfl,l2.1,_,_,rfl,l3.1,l4⟩,h2⟩
theorem nF_noR (β:List Nat) (v:Value) (w:World) (h:nF.av.holds β v w):noR.holds β v w:=by
 obtain ⟨cs,rfl,x1,r1,rfl,k1,x2,r2,rfl,k2,x3,r3,rfl,k3,x4,r4,rfl,k4,x5,r5,rfl,k5,x6,r6,rfl,k6,x7,r7,rfl,k7,x8,r8,rfl,k8,x9,r9,rfl,k9,y1,s1,rfl,l1,y2,s2,rfl,l2,y3,s3,rfl,l3,l4⟩:=h
 exact ⟨_,rfl,_,_,rfl,⟨k1,rfl⟩,_,_,rfl,⟨k2,rfl⟩,_,_,rfl,⟨k3,rfl⟩,_,_,rfl,⟨k4,rfl⟩,_,_,rfl,⟨k5,rfl⟩,_,_,rfl,⟨k6,rfl⟩,_,_,rfl,⟨k7,rfl⟩,_,_,rfl,⟨k8,rfl⟩,_,_,rfl,⟨k9,rfl⟩,_,_,rfl,⟨l1,rfl⟩,_,_,rfl,⟨l2,rfl⟩,_,_,rfl,⟨l3,rfl⟩,l4⟩
section
variable {o1 o2 o3 x1 x2 x3 y1 y2 y3 z1 z2 z3 p1 p2 p3 u1 u2 u3 v1 v2 v3 w1 w2 w3 q1 q2 q3 r1 r2 r3 s1 s2 s3 t1 t2 t3 w:Rat} {g:F12} {e:Int}
theorem frOrthNo (h:Lm 31 x1 x2 x3 y1 y2 y3 z1 z2 z3) (ho:orB x1 x2 x3 y1 y2 y3 z1 z2 z3=false):jX 35 [iF o1 o2 o3 x1 x2 x3 y1 y2 y3 z1 z2 z3] (xD 15):=by
 have hor:=qA (o1:=o1) (o2:=o2) (o3:=o3) h rfl rfl rfl
 rw [show (decide (dt x1 x2 x3 y1 y2 y3=0)&&decide (dt y1 y2 y3 z1 z2 z3=0)&&decide (dt z1 z2 z3 x1 x2 x3=0))=false from ho] at hor
 refine jY Tryz.func35 fun w00 hI=>?_
 refine jC 103 _ (hor) ?_
 exact jR Tryz.func35
theorem zU (h:Wf o1 o2 o3 x1 x2 x3 y1 y2 y3 z1 z2 z3):jX 35 [iF o1 o2 o3 x1 x2 x3 y1 y2 y3 z1 z2 z3] (oF (if orB x1 x2 x3 y1 y2 y3 z1 z2 z3=true then wF o1 o2 o3 x1 x2 x3 y1 y2 y3 z1 z2 z3 else nF) (if orB x1 x2 x3 y1 y2 y3 z1 z2 z3=true then 0 else 15)):=by
 by_cases ho:orB x1 x2 x3 y1 y2 y3 z1 z2 z3=true
 ·rw [if_pos ho,if_pos ho]
  simp only [Bool.and_eq_true,decide_eq_true_eq] at ho
  exact lG h ho.1.1 ho.1.2 ho.2
 ·rw [if_neg ho,if_neg ho]
  exact (frOrthNo (h.lm.mono (by decide)) (Bool.eq_false_iff.2 ho)).res noRV_oF
theorem compose_O (h:Fv o1 o2 o3 x1 x2 x3 y1 y2 y3 z1 z2 z3) (k:Fv p1 p2 p3 u1 u2 u3 v1 v2 v3 w1 w2 w3) (eq1:o1+ld p1 p2 p3 x1 y1 z1=q1) (eq2:o2+ld p1 p2 p3 x2 y2 z2=q2) (eq3:o3+ld p1 p2 p3 x3 y3 z3=q3) (er1:ld u1 u2 u3 x1 y1 z1=r1) (er2:ld u1 u2 u3 x2 y2 z2=r2) (er3:ld u1 u2 u3 x3 y3 z3=r3) (es1:ld v1 v2 v3 x1 y1 z1=s1) (es2:ld v1 v2 v3 x2 y2 z2=s2) (es3:ld v1 v2 v3 x3 y3 z3=s3) (et1:ld w1 w2 w3 x1 y1 z1=t1) (et2:ld w1 w2 w3 x2 y2 z2=t2) (et3:ld w1 w2 w3 x3 y3 z3=t3)
 (hw:jX 35 [iF q1 q2 q3 r1 r2 r3 s1 s2 s3 t1 t2 t3] (oF g e)):jX 6 [gZ o1 o2 o3 x1 x2 x3 y1 y2 y3 z1 z2 z3,gZ p1 p2 p3 u1 u2 u3 v1 v2 v3 w1 w2 w3] (oF g e):=by
 have hp:jF 32 [iF o1 o2 o3 x1 x2 x3 y1 y2 y3 z1 z2 z3,vc p1 p2 p3] (vc q1 q2 q3):=by
  rw [← eq1,← eq2,← eq3]
  exact placeF (h.w.lm.mono (by decide)) ((tI k.w.o).mono (by decide)) ((tI h.w.o).mono (by decide))
 have lr:jF 34 [iF o1 o2 o3 x1 x2 x3 y1 y2 y3 z1 z2 z3,vc u1 u2 u3] (vc r1 r2 r3):=by
  rw [← er1,← er2,← er3]
  exact wE (h.w.lm.mono (by decide)) ((tI k.w.x).mono (by decide))
 have ls:jF 34 [iF o1 o2 o3 x1 x2 x3 y1 y2 y3 z1 z2 z3,vc v1 v2 v3] (vc s1 s2 s3):=by
  rw [← es1,← es2,← es3]
  exact wE (h.w.lm.mono (by decide)) ((tI k.w.y).mono (by decide))
 have lt:jF 34 [iF o1 o2 o3 x1 x2 x3 y1 y2 y3 z1 z2 z3,vc w1 w2 w3] (vc t1 t2 t3):=by
  rw [← et1,← et2,← et3]
  exact wE (h.w.lm.mono (by decide)) ((tI k.w.z).mono (by decide))
 refine jY Tryz.func6 fun w00 hI=>?_
 refine jW hI 30 [gP 31,gZ o1 o2 o3 x1 x2 x3 y1 y2 y3 z1 z2 z3,gP 31,gZ p1 p2 p3 u1 u2 u3 v1 v2 v3 w1 w2 w3] (readFF h k) ?_
 refine jC 32 [iF o1 o2 o3 x1 x2 x3 y1 y2 y3 z1 z2 z3,vc p1 p2 p3] (hp) ?_
 refine jC 33 [.fv (.clo 34 [(true,[nb o1,nb o2,nb o3,nb x1,nb x2,nb x3,nb y1,nb y2,nb y3,nb z1,nb z2,nb z3])] []),mt u1 u2 u3 v1 v2 v3 w1 w2 w3] (eachVVc Tryz.call34 lr ls lt) ?_
 refine jW hI 35 [iF q1 q2 q3 r1 r2 r3 s1 s2 s3 t1 t2 t3] (hw) ?_
 exact jR Tryz.func6
abbrev ml (a b c x1 x2 x3:Rat):Rat:=dt a b c x1 x2 x3/dt x1 x2 x3 x1 x2 x3
abbrev i0:Rat:=((0:Int):Rat)
abbrev i1:Rat:=((1:Int):Rat)
theorem inverse_O (h:Fv o1 o2 o3 x1 x2 x3 y1 y2 y3 z1 z2 z3) (h0:Sq0 x1 x2 x3 y1 y2 y3 z1 z2 z3)
 (eq1:ml (i0-o1) (i0-o2) (i0-o3) x1 x2 x3=q1) (eq2:ml (i0-o1) (i0-o2) (i0-o3) y1 y2 y3=q2) (eq3:ml (i0-o1) (i0-o2) (i0-o3) z1 z2 z3=q3)
 (er1:ml i1 i0 i0 x1 x2 x3=r1) (er2:ml i1 i0 i0 y1 y2 y3=r2) (er3:ml i1 i0 i0 z1 z2 z3=r3) (es1:ml i0 i1 i0 x1 x2 x3=s1) (es2:ml i0 i1 i0 y1 y2 y3=s2) (es3:ml i0 i1 i0 z1 z2 z3=s3) (et1:ml i0 i0 i1 x1 x2 x3=t1) (et2:ml i0 i0 i1 y1 y2 y3=t2) (et3:ml i0 i0 i1 z1 z2 z3=t3)
 (hw:jX 35 [iF q1 q2 q3 r1 r2 r3 s1 s2 s3 t1 t2 t3] (oF g e)):jX 7 [gZ o1 o2 o3 x1 x2 x3 y1 y2 y3 z1 z2 z3] (oF g e):=by
 have m0:uV 0:=by constructor <;> omega
 have l0:∀ {k:Nat},Lf k ((0:Int):Rat):=Lf.int (Lv.one _ (by rw [aL];decide))
 have l1:∀ {k:Nat},Lf k ((1:Int):Rat):=Lf.int (Lv.one _ (by rw [aL];decide))
 have lm:=h.w.lm.mono (l:=31) (by decide)
 have hl:jF 36 [iF o1 o2 o3 x1 x2 x3 y1 y2 y3 z1 z2 z3,vc (0:Int) (0:Int) (0:Int)] (vc q1 q2 q3):=by
  rw [← eq1,← eq2,← eq3]
  exact localF lm ⟨l0,l0,l0⟩ ((tI h.w.o).mono (by decide)) h0
 have hx:jF 38 [iF o1 o2 o3 x1 x2 x3 y1 y2 y3 z1 z2 z3,vc (1:Int) (0:Int) (0:Int)] (vc r1 r2 r3):=by
  rw [← er1,← er2,← er3]
  exact nX lm ⟨l1,l0,l0⟩ h0
 have hy:jF 38 [iF o1 o2 o3 x1 x2 x3 y1 y2 y3 z1 z2 z3,vc (0:Int) (1:Int) (0:Int)] (vc s1 s2 s3):=by
  rw [← es1,← es2,← es3]
  exact nX lm ⟨l0,l1,l0⟩ h0
 have hz:jF 38 [iF o1 o2 o3 x1 x2 x3 y1 y2 y3 z1 z2 z3,vc (0:Int) (0:Int) (1:Int)] (vc t1 t2 t3):=by
  rw [← et1,← et2,← et3]
  exact nX lm ⟨l0,l0,l1⟩ h0
 refine jY Tryz.func7 fun w00 hI=>?_
 refine jW hI 31 [gZ o1 o2 o3 x1 x2 x3 y1 y2 y3 z1 z2 z3] (h.r) ?_
 refine jC 37 [iv 0 0 0] (iE m0 m0 m0) ?_
 refine jC 36 [iF o1 o2 o3 x1 x2 x3 y1 y2 y3 z1 z2 z3,vc (0:Int) (0:Int) (0:Int)] (hl) ?_
 refine jC 39 [] (unitsF) ?_
 refine jC 33 [.fv (.clo 38 [(true,[nb o1,nb o2,nb o3,nb x1,nb x2,nb x3,nb y1,nb y2,nb y3,nb z1,nb z2,nb z3])] []),mt (1:Int) (0:Int) (0:Int) (0:Int) (1:Int) (0:Int) (0:Int) (0:Int) (1:Int)] (eachVVc Tryz.call38 hx hy hz) ?_
 refine jW hI 35 [iF q1 q2 q3 r1 r2 r3 s1 s2 s3 t1 t2 t3] (hw) ?_
 exact jR Tryz.func7
theorem apiTurnZero (hw:Wr w) (hu:oP u1 u2 u3) (h0:w=0) (h1:(decide (u1=0)&&decide (u2=0)&&decide (u3=0))=true):jX 8 [.fv (.ag [bK (writeB w),bK (writeB u1),bK (writeB u2),bK (writeB u3)])] (xD 6):=by
 refine jY Tryz.func8 fun w00 hI=>?_
 refine jW hI 40 [gP 41,tx (writeB w),gP 42,vS u1 u2 u3] (readRV hw hu) ?_
 refine jC 43 [num w] (fU (decide_eq_true h0)) ?_
 refine jC 44 [vc u1 u2 u3] (eQ h1) ?_
 exact jR Tryz.func8
end
section
variable {f g:F12} {z:Int} {a b c d:ByteArray}
theorem apiTurnErr (h:Rb a) (k:Rb3 b c d) (hz:f2 (bM a) (c3 b c d)=z) (h0:z≠0):jX 8 [.fv (.ag [bK a,bK b,bK c,bK d])] (xD z):=by
 have hr:=readRVAny h k hz
 rcases show Ev z from hz▸wQ (bJ _) (gV _ _ _) with rfl|rfl|rfl
 ·exact absurd rfl h0
 all_goals
  refine jY Tryz.func8 fun w00 hI=>?_
  refine jW hI 40 _ (hr) ?_
  exact jR Tryz.func8
theorem aAm (h:f.Rb) (hz:f.ck=z) (h0:Bf z):jX 7 [f.av] (xD z):=by
 have hr:=iT f h hz (by rcases h0 with rfl|rfl|rfl|rfl <;> decide)
 rcases h0 with rfl|rfl|rfl|rfl
 all_goals
  refine jY Tryz.func7 fun w00 hI=>?_
  refine jW hI 31 _ (hr) ?_
  exact jR Tryz.func7
theorem nbL {β:List Nat} {w:World}:∀ (l:List Rat) (cs:List Value),holdsL (Kc:=Kn) β (l.map nb) cs w→cs.length=3*l.length∧∀ c∈cs,c.oneCell'=true∧Kn c=false
 | [],cs,h=>by
   obtain rfl:cs = []:=h
   exact ⟨rfl,fun c hc=>by cases hc⟩
 | q :: l,cs,h=>by
   obtain ⟨x,r,rfl,h1,h2⟩:=h
   obtain ⟨i1,i2⟩:=nbL l r h2
   refine ⟨?_,fun c hc=>?_⟩
   ·have h3:x.length=3:=(csNb q).len x w h1
    rw [List.length_append,h3,i1,List.length_cons]
    omega
   ·rcases List.mem_append.1 hc with hc|hc
    ·exact ⟨(csNb q).one x w h1 c hc,(csNb q).iscold rfl x w h1 c hc⟩
    ·exact i2 c hc
theorem frm_csF {o1 o2 o3 x1 x2 x3 y1 y2 y3 z1 z2 z3:Rat} {β:List Nat} {v:Value} {w:World} (h:(iF o1 o2 o3 x1 x2 x3 y1 y2 y3 z1 z2 z3).holds β v w):(.fv (.ag [.sp csF]):AV Kn).holds β v w:=by
 obtain ⟨cs,rfl,h1⟩:=h
 have k:=nbL [o1,o2,o3,x1,x2,x3,y1,y2,y3,z1,z2,z3] cs h1
 exact ⟨cs,rfl,cs,[],(List.append_nil _).symm,⟨k.1,k.2⟩,rfl⟩
theorem readAnyFr (k:g.Rb):∃ x:Int,jX 31 [g.av] (.tup [.ag [.sp csF],.sc (lz x)]):=by
 by_cases h:g.ck=0
 ·refine ⟨0,(readFrameOkF g k h).res fun β v w hh=>?_⟩
  obtain ⟨vs,rfl,u,r,rfl,h1,h2⟩:=hh
  exact ⟨_,rfl,_,_,rfl,frm_csF h1,h2⟩
 ·exact ⟨_,iT g k rfl h⟩
theorem zV (h:f.Rb) (k:g.Rb) (hz:f.ck=z) (h0:Bf z):jX 6 [f.av,g.av] (xD z):=by
 have hr:=iT f h hz (by rcases h0 with rfl|rfl|rfl|rfl <;> decide)
 obtain ⟨x,hx⟩:=readAnyFr k
 have hB:jX 30 [gP 31,f.av,gP 31,g.av] (.tup [.ag [.sp csF],.ag [.sp csF],.sc (lz z)]):=by
  refine jY Tryz.func30 fun w00 hI=>?_
  refine jW hI 31 [f.av] (hr) ?_
  refine jW hI 31 [g.av] (hx) ?_
  refine jC 83 [.fv (.nsl 2 30 [lz z,lz x])] (first2Fr h0) ?_
  exact jR Tryz.func30
 rcases h0 with rfl|rfl|rfl|rfl
 all_goals
  refine jY Tryz.func6 fun w00 hI=>?_
  refine jW hI 30 _ (hB) ?_
  exact jR Tryz.func6
end
section
variable {o1 o2 o3 x1 x2 x3 y1 y2 y3 z1 z2 z3:Rat} {g:F12} {z:Int}
theorem first2Fr0 {T:TypeId} (hx:Bf z):jF 83 [.fv (.nsl 2 T [lz 0,lz z])] (it z):=by
 rcases hx with rfl|rfl|rfl|rfl
 all_goals
  refine lA Tryz.func83 (by kernel_rfl) fun w00=>?_
  exact jR Tryz.func83
theorem zW (h:Fv o1 o2 o3 x1 x2 x3 y1 y2 y3 z1 z2 z3) (k:g.Rb) (hz:g.ck=z) (h0:Bf z):jX 6 [gZ o1 o2 o3 x1 x2 x3 y1 y2 y3 z1 z2 z3,g.av] (xD z):=by
 have hr:=iT g k hz (by rcases h0 with rfl|rfl|rfl|rfl <;> decide)
 have hB:jX 30 [gP 31,gZ o1 o2 o3 x1 x2 x3 y1 y2 y3 z1 z2 z3,gP 31,g.av] (.tup [.ag [nb o1,nb o2,nb o3,nb x1,nb x2,nb x3,nb y1,nb y2,nb y3,nb z1,nb z2,nb z3],.ag [.sp csF],.sc (lz z)]):=by
  refine jY Tryz.func30 fun w00 hI=>?_
  refine jW hI 31 [gZ o1 o2 o3 x1 x2 x3 y1 y2 y3 z1 z2 z3] (h.r) ?_
  refine jW hI 31 [g.av] (hr) ?_
  refine jC 83 [.fv (.nsl 2 30 [z0,lz z])] (first2Fr0 h0) ?_
  exact jR Tryz.func30
 rcases h0 with rfl|rfl|rfl|rfl
 all_goals
  refine jY Tryz.func6 fun w00 hI=>?_
  refine jW hI 30 _ (hB) ?_
  exact jR Tryz.func6
end
section
variable {o1 o2 o3 x1 x2 x3 y1 y2 y3 z1 z2 z3 p1 p2 p3 u1 u2 u3 v1 v2 v3 w1 w2 w3 w:Rat}
theorem det_ld:gG (ld u1 u2 u3 x1 y1 z1) (ld u1 u2 u3 x2 y2 z2) (ld u1 u2 u3 x3 y3 z3) (ld v1 v2 v3 x1 y1 z1) (ld v1 v2 v3 x2 y2 z2) (ld v1 v2 v3 x3 y3 z3) (ld w1 w2 w3 x1 y1 z1) (ld w1 w2 w3 x2 y2 z2) (ld w1 w2 w3 x3 y3 z3) =
 gG x1 x2 x3 y1 y2 y3 z1 z2 z3*gG u1 u2 u3 v1 v2 v3 w1 w2 w3:=by
 have c1:=nJ (u1:=v1) (u2:=v2) (u3:=v3) (v1:=w1) (v2:=w2) (v3:=w3) x2 x3 y2 y3 z2 z3
 have c2:=nJ (u1:=v1) (u2:=v2) (u3:=v3) (v1:=w1) (v2:=w2) (v3:=w3) x3 x1 y3 y1 z3 z1
 have c3:=nJ (u1:=v1) (u2:=v2) (u3:=v3) (v1:=w1) (v2:=w2) (v3:=w3) x1 x2 y1 y2 z1 z2
 show dt _ _ _ _ _ _=_
 rw [c1,c2,c3]
 show _=gG x1 x2 x3 y1 y2 y3 z1 z2 z3*dt u1 u2 u3 (v2*w3-v3*w2) (v3*w1-v1*w3) (v1*w2-v2*w1)
 generalize v2*w3-v3*w2=a
 generalize v3*w1-v1*w3=b
 generalize v1*w2-v2*w1=c
 clear c1 c2 c3
 have e:dt (ld u1 u2 u3 x1 y1 z1) (ld u1 u2 u3 x2 y2 z2) (ld u1 u2 u3 x3 y3 z3) (ld a b c (y2*z3-z2*y3) (z2*x3-x2*z3) (x2*y3-y2*x3)) (ld a b c (y3*z1-z3*y1) (z3*x1-x3*z1) (x3*y1-y3*x1)) (ld a b c (y1*z2-z1*y2) (z1*x2-x1*z2) (x1*y2-y1*x2)) =
  gG x1 x2 x3 y1 y2 y3 z1 z2 z3*dt u1 u2 u3 a b c:=by
  unfold gG dt ld
  grind
 rw [← e]
 congr 2 <;> first|rfl|(congr 1 <;> grind)
theorem num_pos' {q:Rat}:0<q.num↔0<q:=by
 constructor
 ·intro h
  refine Rat.lt_of_le_of_ne (Rat.num_nonneg.1 (by omega)) fun e=>?_
  rw [← e] at h
  exact absurd h (by decide)
 ·intro h
  have h1:=Rat.num_nonneg.2 (Rat.le_of_lt h)
  have h2:q.num≠0:=fun e=>by
   rw [Rat.num_eq_zero.1 e] at h
   exact absurd h (by decide)
  omega
theorem sgn_of {q:Rat} (h:0<q):lK q=1:=sgn_pos (num_pos'.2 h)
theorem det_pos (h:Ax x1 x2 x3 y1 y2 y3 z1 z2 z3):0<gG x1 x2 x3 y1 y2 y3 z1 z2 z3:=num_pos'.1 (gd_of h).det
theorem det_cols (a b c:Rat):gG (x1*a) (y1*b) (z1*c) (x2*a) (y2*b) (z2*c) (x3*a) (y3*b) (z3*c)=a*b*c*gG x1 x2 x3 y1 y2 y3 z1 z2 z3:=by
 unfold gG dt
 grind
theorem sq_pos (h:dt x1 x2 x3 x1 x2 x3≠0):0<(dt x1 x2 x3 x1 x2 x3)⁻¹:=by
 rw [Rat.inv_pos]
 refine Rat.lt_of_le_of_ne ?_ (Ne.symm h)
 unfold dt
 exact Rat.add_nonneg (Rat.add_nonneg (eW _) (eW _)) (eW _)
theorem refShapeF {k:Nat} (a1:Bq k x1) (a2:Bq k x2) (a3:Bq k x3) (b1:Bq k y1) (b2:Bq k y2) (b3:Bq k y3) (c1:Bq k z1) (c2:Bq k z2) (c3:Bq k z3) (hk:k≤900) (hd:0<gG x1 x2 x3 y1 y2 y3 z1 z2 z3) :
 jF 15 [frA o1 o2 o3 x1 x2 x3 y1 y2 y3 z1 z2 z3] (it (if orB x1 x2 x3 y1 y2 y3 z1 z2 z3=true then 0 else 15)):=by
 have hx:=crossV b1 b2 b3 c1 c2 c3 (by omega)
 have m:∀ {a b c d:Rat},Bq k a→Bq k b→Bq k c→Bq k d→Bq (2*k+2*k+1) (a*b-c*d):=fun h1 h2 h3 h4=>((h1.mul h2).sub (h3.mul h4)).mono (by omega)
 have hv:=vM a1 a2 a3 (m b2 c3 b3 c2) (m b3 c1 b1 c3) (m b1 c2 b2 c1) (by omega)
 refine shapeZ (s:=1) (vM a1 a2 a3 b1 b2 b3 (by omega)) (qQ _) (vM b1 b2 b3 c1 c2 c3 (by omega)) (qQ _) (vM c1 c2 c3 a1 a2 a3 (by omega)) (qQ _) (detR hx hv) ?_ (.inl rfl) ?_
 ·have:=signQ (gG x1 x2 x3 y1 y2 y3 z1 z2 z3)
  rw [sgn_of hd] at this
  exact this
 ·by_cases ho:orB x1 x2 x3 y1 y2 y3 z1 z2 z3=true
  ·rw [if_pos ho,show (decide (dt x1 x2 x3 y1 y2 y3=0)&&decide (dt y1 y2 y3 z1 z2 z3=0)&&decide (dt z1 z2 z3 x1 x2 x3=0))=true from ho]
   rfl
  ·rw [if_neg ho,show (decide (dt x1 x2 x3 y1 y2 y3=0)&&decide (dt y1 y2 y3 z1 z2 z3=0)&&decide (dt z1 z2 z3 x1 x2 x3=0))=false from Bool.eq_false_iff.2 ho]
   rfl
theorem refComposeF (h:Qf o1 o2 o3 x1 x2 x3 y1 y2 y3 z1 z2 z3) (k:Qf p1 p2 p3 u1 u2 u3 v1 v2 v3 w1 w2 w3):jF 16 [frA o1 o2 o3 x1 x2 x3 y1 y2 y3 z1 z2 z3,frA p1 p2 p3 u1 u2 u3 v1 v2 v3 w1 w2 w3]
 (frA (o1+ld p1 p2 p3 x1 y1 z1) (o2+ld p1 p2 p3 x2 y2 z2) (o3+ld p1 p2 p3 x3 y3 z3) (ld u1 u2 u3 x1 y1 z1) (ld u1 u2 u3 x2 y2 z2) (ld u1 u2 u3 x3 y3 z3) (ld v1 v2 v3 x1 y1 z1) (ld v1 v2 v3 x2 y2 z2) (ld v1 v2 v3 x3 y3 z3) (ld w1 w2 w3 x1 y1 z1) (ld w1 w2 w3 x2 y2 z2) (ld w1 w2 w3 x3 y3 z3)):=by
 have k1:=refPlaceF h k.o
 have k2:=oK h k.x
 have k3:=oK h k.y
 have k4:=oK h k.z
 refine jG Tryz.func16 fun w00=>?_
 refine jC 68 _ (k1) ?_
 refine jC 69 _ (k2) ?_
 refine jC 69 _ (k3) ?_
 refine jC 69 _ (k4) ?_
 exact jR Tryz.func16
theorem bq0:Bq 1 i0:=bq_int (by omega) (by omega)
theorem bq1:Bq 1 i1:=bq_int (by omega) (by omega)
theorem m640:uV 0:=by constructor <;> omega
theorem m641:uV 1:=by constructor <;> omega
theorem ml_sub {a b c d e f:Rat}:ml (a-d) (b-e) (c-f) x1 x2 x3-ml (i0-d) (i0-e) (i0-f) x1 x2 x3=ml a b c x1 x2 x3:=by
 have z:i0=0:=rfl
 show _/_ - _/_=_/_
 rw [z,Rat.div_def,Rat.div_def,Rat.div_def]
 generalize (dt x1 x2 x3 x1 x2 x3)⁻¹=k
 unfold dt
 grind
theorem refInverseF (h:Qf o1 o2 o3 x1 x2 x3 y1 y2 y3 z1 z2 z3) (h0:Sq0 x1 x2 x3 y1 y2 y3 z1 z2 z3):jF 14 [frA o1 o2 o3 x1 x2 x3 y1 y2 y3 z1 z2 z3]
 (frA (ml (i0-o1) (i0-o2) (i0-o3) x1 x2 x3) (ml (i0-o1) (i0-o2) (i0-o3) y1 y2 y3) (ml (i0-o1) (i0-o2) (i0-o3) z1 z2 z3) (ml i1 i0 i0 x1 x2 x3) (ml i1 i0 i0 y1 y2 y3) (ml i1 i0 i0 z1 z2 z3) (ml i0 i1 i0 x1 x2 x3) (ml i0 i1 i0 y1 y2 y3) (ml i0 i1 i0 z1 z2 z3) (ml i0 i0 i1 x1 x2 x3) (ml i0 i0 i1 y1 y2 y3) (ml i0 i0 i1 z1 z2 z3)):=by
 have a0:Bq 30 i0:=bq0.mono (by omega)
 have a1:Bq 30 i1:=bq1.mono (by omega)
 have kO:jF 52 ([]:List (AV Kn)) (vS i0 i0 i0):=by
  refine originF.res fun β v w hh=>?_
  obtain ⟨cs,rfl,b1,r1,rfl,e1,b2,r2,rfl,e2,b3,r3,rfl,e3,e4⟩:=hh
  have hw:writeB i0=⟨#[48]⟩:=w0
  exact ⟨_,rfl,_,_,rfl,by rw [e1.1,hw];rfl,_,_,rfl,by rw [e2.1,hw];rfl,_,_,rfl,by rw [e3.1,hw];rfl,e4⟩
 have l0:=qR h ⟨a0,a0,a0⟩ h0
 have l1:=qR h ⟨a1,a0,a0⟩ h0
 have l2:=qR h ⟨a0,a1,a0⟩ h0
 have l3:=qR h ⟨a0,a0,a1⟩ h0
 have d:∀ {a b c x y z:Rat},Bq 30 a→Bq 30 b→Bq 30 c→Q3 x y z→Bq 457 (ml (a-o1) (b-o2) (c-o3) x y z):=fun ha hb hc g=>by
  have:=(Bq.dt (ha.sub h.o1) (hb.sub h.o2) (hc.sub h.o3) g.a g.b g.c (n:=275) (by omega)).div (dtq g g)
  exact this
 have s:∀ {a b c:Rat},Bq 30 a→Bq 30 b→Bq 30 c→jF 63 [vS (ml (a-o1) (b-o2) (c-o3) x1 x2 x3) (ml (a-o1) (b-o2) (c-o3) y1 y2 y3) (ml (a-o1) (b-o2) (c-o3) z1 z2 z3),vS (ml (i0-o1) (i0-o2) (i0-o3) x1 x2 x3) (ml (i0-o1) (i0-o2) (i0-o3) y1 y2 y3) (ml (i0-o1) (i0-o2) (i0-o3) z1 z2 z3)] (vS (ml a b c x1 x2 x3) (ml a b c y1 y2 y3) (ml a b c z1 z2 z3)):=fun {a b c} ha hb hc=>by
  have hs:=subV (d ha hb hc h.x) (d ha hb hc h.y) (d ha hb hc h.z) (d a0 a0 a0 h.x) (d a0 a0 a0 h.y) (d a0 a0 a0 h.z) (by omega) (by omega)
  rw [ml_sub,ml_sub,ml_sub] at hs
  exact hs
 have s1:=s a1 a0 a0
 have s2:=s a0 a1 a0
 have s3:=s a0 a0 a1
 have n1:=intsF m641 m640 m640
 have n2:=intsF m640 m641 m640
 have n3:=intsF m640 m640 m641
 refine jG Tryz.func14 fun w00=>?_
 refine jC 52 [] (kO) ?_
 refine jC 62 _ (l0) ?_
 refine jC 64 _ (n1) ?_
 refine jC 62 _ (l1) ?_
 refine jC 63 _ (s1) ?_
 refine jC 64 _ (n2) ?_
 refine jC 62 _ (l2) ?_
 refine jC 63 _ (s2) ?_
 refine jC 64 _ (n3) ?_
 refine jC 62 _ (l3) ?_
 refine jC 63 _ (s3) ?_
 exact jR Tryz.func14
end
abbrev i2:Rat:=((2:Int):Rat)
abbrev lv (a b c:ByteArray):AV Kn := .fv (.ag [.lit (.string a),.lit (.string b),.lit (.string c)])
theorem lv2 {f:FuncId} {x y:AV Kn} {q1 q2 q3:Rat} {a b c:ByteArray} (h1:writeB q1=a) (h2:writeB q2=b) (h3:writeB q3=c) (h:jF f [x,vS q1 q2 q3] y):jF f [x,lv a b c] y:=fun β w vs hv=>by
 obtain ⟨v1,r1,rfl,k1,v2,r2,rfl,k2,k3⟩:=hv
 refine h β w _ ⟨v1,_,rfl,k1,v2,_,rfl,?_,k3⟩
 obtain ⟨cs,rfl,b1,s1,rfl,e1,b2,s2,rfl,e2,b3,s3,rfl,e3,e4⟩:=k2
 exact ⟨_,rfl,_,_,rfl,by rw [e1.1,h1];rfl,_,_,rfl,by rw [e2.1,h2];rfl,_,_,rfl,by rw [e3.1,h3];rfl,e4⟩
structure Qn (w u1 u2 u3:Rat):Prop where
 w:Bq 20 w
 a:Bq 20 u1
 b:Bq 20 u2
 c:Bq 20 u3
section
variable {w u1 u2 u3 e1 e2 e3 S D c1 c2 c3:Rat} {a b c:ByteArray}
abbrev tr (w S D c e u:Rat):Rat:=(w*w+S)⁻¹*((w*w-S)*e+i2*w*c+i2*D*u)
structure TA (w u1 u2 u3 e1 e2 e3 S D c1 c2 c3:Rat) (a b c:ByteArray):Prop where
 k1:jF 54 [tx (writeB (w*w-S)),lv a b c] (vS ((w*w-S)*e1) ((w*w-S)*e2) ((w*w-S)*e3))
 k2:jF 56 [vS u1 u2 u3,lv a b c] (vS c1 c2 c3)
 k3:jF 54 [tx (writeB (i2*w)),vS c1 c2 c3] (vS (i2*w*c1) (i2*w*c2) (i2*w*c3))
 k4:jF 53 [vS ((w*w-S)*e1) ((w*w-S)*e2) ((w*w-S)*e3),vS (i2*w*c1) (i2*w*c2) (i2*w*c3)] (vS ((w*w-S)*e1+i2*w*c1) ((w*w-S)*e2+i2*w*c2) ((w*w-S)*e3+i2*w*c3))
 k5:jF 57 [vS u1 u2 u3,lv a b c] (tx (writeB D))
 k6:jF 50 [lt ⟨#[50]⟩,tx (writeB D)] (tx (writeB (i2*D)))
 k7:jF 54 [tx (writeB (i2*D)),vS u1 u2 u3] (vS (i2*D*u1) (i2*D*u2) (i2*D*u3))
 k8:jF 53 [vS ((w*w-S)*e1+i2*w*c1) ((w*w-S)*e2+i2*w*c2) ((w*w-S)*e3+i2*w*c3),vS (i2*D*u1) (i2*D*u2) (i2*D*u3)] (vS ((w*w-S)*e1+i2*w*c1+i2*D*u1) ((w*w-S)*e2+i2*w*c2+i2*D*u2) ((w*w-S)*e3+i2*w*c3+i2*D*u3))
 k9:jF 54 [tx (writeB (w*w+S)⁻¹),vS ((w*w-S)*e1+i2*w*c1+i2*D*u1) ((w*w-S)*e2+i2*w*c2+i2*D*u2) ((w*w-S)*e3+i2*w*c3+i2*D*u3)] (vS (tr w S D c1 e1 u1) (tr w S D c2 e2 u2) (tr w S D c3 e3 u3))
 b1:Bq 479 (tr w S D c1 e1 u1)
 b2:Bq 479 (tr w S D c2 e2 u2)
 b3:Bq 479 (tr w S D c3 e3 u3)
theorem two_of {q:Rat} (h:Bq 200 q):jF 50 [lt ⟨#[50]⟩,tx (writeB q)] (tx (writeB (i2*q))):=by
 have k:=jA (fN (bq_two.zs (by omega)) (h.zs (by omega)))
 rw [two_text] at k
 exact lit1 k
theorem ta_of (q:Qn w u1 u2 u3) (d1:Bq 1 e1) (d2:Bq 1 e2) (d3:Bq 1 e3) (h1:writeB e1=a) (h2:writeB e2=b) (h3:writeB e3=c) (hS:dt u1 u2 u3 u1 u2 u3=S) (hD:dt u1 u2 u3 e1 e2 e3=D) (x1:u2*e3-u3*e2=c1) (x2:u3*e1-u1*e3=c2) (x3:u1*e2-u2*e1=c3):TA w u1 u2 u3 e1 e2 e3 S D c1 c2 c3 a b c:=by
 have bS:Bq 122 S:=hS▸Bq.dt q.a q.b q.c q.a q.b q.c (by omega)
 have bD:Bq 65 D:=hD▸Bq.dt q.a q.b q.c d1 d2 d3 (by omega)
 have y1:Bq 43 c1:=x1▸(q.b.mul d3).sub (q.c.mul d2)
 have y2:Bq 43 c2:=x2▸(q.c.mul d1).sub (q.a.mul d3)
 have y3:Bq 43 c3:=x3▸(q.a.mul d2).sub (q.b.mul d1)
 have b0:Bq 163 (w*w-S):=(q.w.mul q.w).sub bS
 have bN:Bq 163 (w*w+S)⁻¹:=((q.w.mul q.w).add bS).inv
 have b2w:Bq 21 (i2*w):=bq_two.mul q.w
 have b2D:Bq 66 (i2*D):=bq_two.mul bD
 have g1:=b0.mul d1
 have g2:=b0.mul d2
 have g3:=b0.mul d3
 have m1:=b2w.mul y1
 have m2:=b2w.mul y2
 have m3:=b2w.mul y3
 have n1:=b2D.mul q.a
 have n2:=b2D.mul q.b
 have n3:=b2D.mul q.c
 have kc:=crossV q.a q.b q.c d1 d2 d3 (by omega)
 rw [x1,x2,x3] at kc
 have kd:=vM q.a q.b q.c d1 d2 d3 (by omega)
 rw [hD] at kd
 exact ⟨lv2 h1 h2 h3 (scaleQ b0 d1 d2 d3 (by omega) (by omega)),lv2 h1 h2 h3 kc,scaleQ b2w y1 y2 y3 (by omega) (by omega),addV2 g1 g2 g3 m1 m2 m3 (by omega) (by omega),lv2 h1 h2 h3 kd,two_of (bD.mono (by omega)),scaleQ b2D q.a q.b q.c (by omega) (by omega),addV2 (g1.add m1) (g2.add m2) (g3.add m3) n1 n2 n3 (by omega) (by omega),
  scaleQ bN ((g1.add m1).add n1) ((g2.add m2).add n2) ((g3.add m3).add n3) (by omega) (by omega),(bN.mul ((g1.add m1).add n1)).mono (by omega),(bN.mul ((g2.add m2).add n2)).mono (by omega),(bN.mul ((g3.add m3).add n3)).mono (by omega)⟩
end
section
variable {w u1 u2 u3 S D1 D2 D3 c11 c12 c13 c21 c22 c23 c31 c32 c33:Rat}
set_option maxRecDepth 100000 in
theorem refTurnF (q:Qn w u1 u2 u3) (hS:dt u1 u2 u3 u1 u2 u3=S) (h0:w*w+S≠0) (t1:TA w u1 u2 u3 i1 i0 i0 S D1 c11 c12 c13 ⟨#[49]⟩ ⟨#[48]⟩ ⟨#[48]⟩) (t2:TA w u1 u2 u3 i0 i1 i0 S D2 c21 c22 c23 ⟨#[48]⟩ ⟨#[49]⟩ ⟨#[48]⟩) (t3:TA w u1 u2 u3 i0 i0 i1 S D3 c31 c32 c33 ⟨#[48]⟩ ⟨#[48]⟩ ⟨#[49]⟩) :
 jF 11 [.fv (.ag [bK (writeB w),bK (writeB u1),bK (writeB u2),bK (writeB u3)])] (frA i0 i0 i0 (tr w S D1 c11 i1 u1) (tr w S D1 c12 i0 u2) (tr w S D1 c13 i0 u3) (tr w S D2 c21 i0 u1) (tr w S D2 c22 i1 u2) (tr w S D2 c23 i0 u3) (tr w S D3 c31 i0 u1) (tr w S D3 c32 i0 u2) (tr w S D3 c33 i1 u3)):=by
 have bS:Bq 122 S:=hS▸Bq.dt q.a q.b q.c q.a q.b q.c (by omega)
 have bw:Bq 40 (w*w):=q.w.mul q.w
 have kw:=jA (fN (q.w.zs (by omega)) (q.w.zs (by omega)))
 have kq:=xR q.a q.b q.c (by omega)
 rw [hS] at kq
 have kN:=jA (oG (bw.zs (by omega)) (bS.zs (by omega)))
 have kD:=jA (subR (bw.zs (by omega)) (bS.zs (by omega)))
 have k2:=two_of (q.w.mono (by omega:20≤200))
 have kR:=kn_o (recipF ((bw.add bS).zs (by omega)) h0)
 have kO:jF 52 ([]:List (AV Kn)) (vS i0 i0 i0):=by
  refine originF.res fun β v w hh=>?_
  obtain ⟨cs,rfl,b1,r1,rfl,e1,b2,r2,rfl,e2,b3,r3,rfl,e3,e4⟩:=hh
  have hw:writeB i0=⟨#[48]⟩:=w0
  exact ⟨_,rfl,_,_,rfl,by rw [e1.1,hw];rfl,_,_,rfl,by rw [e2.1,hw];rfl,_,_,rfl,by rw [e3.1,hw];rfl,e4⟩
 obtain ⟨a1,a2,a3,a4,a5,a6,a7,a8,a9,_,_,_⟩:=t1
 obtain ⟨b1,b2,b3,b4,b5,b6,b7,b8,b9,_,_,_⟩:=t2
 obtain ⟨d1,d2,d3,d4,d5,d6,d7,d8,d9,_,_,_⟩:=t3
 refine jG Tryz.func11 fun w00=>?_
 refine jC 50 _ (kw) ?_
 refine jC 51 _ (kq) ?_
 refine jC 49 _ (kN) ?_
 refine jC 52 [] (originF) ?_
 refine jC 50 _ (kw) ?_
 refine jC 51 _ (kq) ?_
 refine jC 55 _ (kD) ?_
 refine jC 54 _ (a1) ?_
 refine jC 50 _ (k2) ?_
 refine jC 56 _ (a2) ?_
 refine jC 54 _ (a3) ?_
 refine jC 53 _ (a4) ?_
 refine jC 57 _ (a5) ?_
 refine jC 50 _ (a6) ?_
 refine jC 54 _ (a7) ?_
 refine jC 53 _ (a8) ?_
 refine jC 58 _ (kR) ?_
 refine jC 54 _ (a9) ?_
 refine jC 52 [] (originF) ?_
 refine jC 50 _ (kw) ?_
 refine jC 51 _ (kq) ?_
 refine jC 55 _ (kD) ?_
 refine jC 54 _ (b1) ?_
 refine jC 50 _ (k2) ?_
 refine jC 56 _ (b2) ?_
 refine jC 54 _ (b3) ?_
 refine jC 53 _ (b4) ?_
 refine jC 57 _ (b5) ?_
 refine jC 50 _ (b6) ?_
 refine jC 54 _ (b7) ?_
 refine jC 53 _ (b8) ?_
 refine jC 58 _ (kR) ?_
 refine jC 54 _ (b9) ?_
 refine jC 52 [] (originF) ?_
 refine jC 50 _ (kw) ?_
 refine jC 51 _ (kq) ?_
 refine jC 55 _ (kD) ?_
 refine jC 54 _ (d1) ?_
 refine jC 50 _ (k2) ?_
 refine jC 56 _ (d2) ?_
 refine jC 54 _ (d3) ?_
 refine jC 53 _ (d4) ?_
 refine jC 57 _ (d5) ?_
 refine jC 50 _ (d6) ?_
 refine jC 54 _ (d7) ?_
 refine jC 53 _ (d8) ?_
 refine jC 58 _ (kR) ?_
 refine jC 54 _ (d9) ?_
 refine jC 52 [] (kO) ?_
 exact jR Tryz.func11
end
abbrev qv4 (a b c d:ByteArray):AV Kn := .fv (.ag [bK a,bK b,bK c,bK d])
theorem when6 {b:Bool}:jF 10 [bl b,it 6] (it (if b then 6 else 0)):=by
 cases b <;> (refine jG Tryz.func10 fun w00=>?_;exact kret Tryz.func10 (by kernel_rfl))
theorem checkRow4 {T:TypeId} {a b c d:ByteArray} {za zb zc zd z:Int} (h1:jF 48 [tx a] (it za)) (h2:jF 48 [tx b] (it zb)) (h3:jF 48 [tx c] (it zc)) (h4:jF 48 [tx d] (it zd)) (e1:Ev za) (e2:Ev zb) (e3:Ev zc) (e4:Ev zd) (hz:f2 za (f3 zb zc zd)=z) :
 jF 9 [.fv (.nsl 4 T [bK a,bK b,bK c,bK d])] (it z):=by
 rcases e1 with rfl|rfl|rfl
 ·rcases e2 with rfl|rfl|rfl
  ·rcases e3 with rfl|rfl|rfl
   ·have hz:zd=z:=hz
    subst hz
    rcases e4 with rfl|rfl|rfl <;> (refine lA Tryz.func9 (by kernel_rfl) fun w00=>?_;refine dS 48 [tx a] (h1) (by kernel_rfl) Tryz.call48 ?_;refine dS 48 [tx b] (h2) (by kernel_rfl) Tryz.call48 ?_;refine dS 48 [tx c] (h3) (by kernel_rfl) Tryz.call48 ?_;refine dS 48 [tx d] (h4) (by kernel_rfl) Tryz.call48 ?_;exact kret Tryz.func9 (by kernel_rfl))
   all_goals
    have hz:_=z:=hz
    subst hz
    refine lA Tryz.func9 (by kernel_rfl) fun w00=>?_
    refine jC 48 [tx a] (h1) ?_
    refine jC 48 [tx b] (h2) ?_
    refine jC 48 [tx c] (h3) ?_
    exact jR Tryz.func9
  all_goals
   have hz:_=z:=hz
   subst hz
   refine lA Tryz.func9 (by kernel_rfl) fun w00=>?_
   refine jC 48 [tx a] (h1) ?_
   refine jC 48 [tx b] (h2) ?_
   exact jR Tryz.func9
 all_goals
  have hz:_=z:=hz
  subst hz
  refine lA Tryz.func9 (by kernel_rfl) fun w00=>?_
  refine jC 48 [tx a] (h1) ?_
  exact jR Tryz.func9
theorem equalT4 (a b c d x y z u:ByteArray) (w:World):(Op.equal 27 (.agg #[.string a,.string b,.string c,.string d]) (.agg #[.string x,.string y,.string z,.string u])).run Tryz.prog w = .ok (a.toList==x.toList&&b.toList==y.toList&&c.toList==z.toList&&d.toList==u.toList) w :=
 equal4 9999 (e:=22) (by kernel_rfl) (by kernel_rfl) (fun w=>by kernel_rfl) (fun w=>by kernel_rfl) (fun w=>run_equalIn_string w _ _ _ _ (by kernel_rfl)) (fun w=>run_equalIn_string w _ _ _ _ (by kernel_rfl)) (fun w=>run_equalIn_string w _ _ _ _ (by kernel_rfl)) (fun w=>run_equalIn_string w _ _ _ _ (by kernel_rfl)) w
theorem qv4_is {a b c d:ByteArray} {β:List Nat} {v:Value} {w:World} (h:(qv4 a b c d).holds β v w):v = .agg #[.string a,.string b,.string c,.string d]:=by
 obtain ⟨cs,rfl,x1,r1,rfl,h1,x2,r2,rfl,h2,x3,r3,rfl,h3,x4,r4,rfl,h4,e⟩:=h
 rw [show r4 = [] from e,show x1=_ from h1,show x2=_ from h2,show x3=_ from h3,show x4=_ from h4]
 rfl
abbrev lc4 (s:ByteArray):AV Kn := .fv (.ag [.lit (.string s),.lit (.string s),.lit (.string s),.lit (.string s)])
theorem lc4_is {s:ByteArray} {β:List Nat} {v:Value} {w:World} (h:(lc4 s).holds β v w):v = .agg #[.string s,.string s,.string s,.string s]:=by
 obtain ⟨cs,rfl,x1,r1,rfl,h1,x2,r2,rfl,h2,x3,r3,rfl,h3,x4,r4,rfl,h4,e⟩:=h
 rw [show r4 = [] from e,h1.1,h2.1,h3.1,h4.1]
 rfl
section
variable {f:FuncId} {w00:World} {Out:Value→World→Prop} {c:Cfg Kn}
theorem kqv4 (x y:Operand) (a b d e s:ByteArray) (r:Bool) (h:(a.toList==s.toList&&b.toList==s.toList&&d.toList==s.toList&&e.toList==s.toList)=r) (hg:Ok Tryz.prog f w00 Out (cG Tryz.prog 1000 (c.give (bl r))))
 (hc:(c.op.map fun o=>o.op,c.okT (bl r),c.ev x,c.ev y)=(some (.binOp .eql 27 x y 27),true,qv4 a b d e,lc4 s):=by kernel_rfl):Ok Tryz.prog f w00 Out c :=
 pK (.binOp .eql 27 x y 27) x y _ _ (bl r) hc (by simp [Op.operands]) (by simp [Op.operands]) (fun ρ o β w ho hx hy=>⟨_,agg_eq (by kernel_rfl) (h▸equalT4 a b d e s s s s w) ho (qv4_is hx) (lc4_is hy),aY rfl⟩) hg
end
theorem axes15 {g:F12}:jF 12 [noR,it 15,it 15,g.av] (bl true):=by
 refine jG Tryz.func12 fun w00=>?_
 exact jR Tryz.func12
def OkF (g:F12) (e:Int) (k:F12):Prop:=jF 12 [g.av,it e,it e,k.av] (bl true)
theorem okF_of {q1 q2 q3 r1 r2 r3 s1 s2 s3 t1 t2 t3:Rat} (h:Wf q1 q2 q3 r1 r2 r3 s1 s2 s3 t1 t2 t3):OkF (if orB r1 r2 r3 s1 s2 s3 t1 t2 t3=true then wF q1 q2 q3 r1 r2 r3 s1 s2 s3 t1 t2 t3 else nF) (if orB r1 r2 r3 s1 s2 s3 t1 t2 t3=true then 0 else 15) (wF q1 q2 q3 r1 r2 r3 s1 s2 s3 t1 t2 t3):=by
 unfold OkF
 by_cases ho:orB r1 r2 r3 s1 s2 s3 t1 t2 t3=true
 ·rw [if_pos ho,if_pos ho]
  exact axesOk h
 ·rw [if_neg ho,if_neg ho]
  have k:=axes15 (g:=wF q1 q2 q3 r1 r2 r3 s1 s2 s3 t1 t2 t3)
  intro β w vs hv
  obtain ⟨v1,rr1,rfl,h1,h2⟩:=hv
  exact k β w _ ⟨v1,_,rfl,nF_noR _ _ _ h1,h2⟩
theorem axesBad6 {z:Int} (h:Bf z):jF 12 [noR,it z,.fv (.sc (gY z)),noR] (bl true):=fits_isI3 (axesBad h)
section
variable {f g:F12} {q0 q1 q2 q3:ByteArray} {zf zg zq:Int}
abbrev QO (q0 q1 q2 q3:ByteArray) (zq:Int):Prop :=
 (Bf zq∧jX 8 [qv4 q0 q1 q2 q3] (xD zq)) ∨
 zq=0∧(((q0.toList==(⟨#[48]⟩:ByteArray).toList&&q1.toList==(⟨#[48]⟩:ByteArray).toList&&q2.toList==(⟨#[48]⟩:ByteArray).toList&&q3.toList==(⟨#[48]⟩:ByteArray).toList)=true∧jX 8 [qv4 q0 q1 q2 q3] (xD 6)) ∨
  (q0.toList==(⟨#[48]⟩:ByteArray).toList&&q1.toList==(⟨#[48]⟩:ByteArray).toList&&q2.toList==(⟨#[48]⟩:ByteArray).toList&&q3.toList==(⟨#[48]⟩:ByteArray).toList)=false∧∃ k:F12,jX 8 [qv4 q0 q1 q2 q3] (oF k 0)∧jF 11 [qv4 q0 q1 q2 q3] k.av∧OkF k 0 k)
abbrev FO (f g:F12) (zf zg:Int):Prop :=
 (Bf zf∧jX 6 [f.av,g.av] (xD zf)∧jX 7 [f.av] (xD zf)) ∨
 zf=0∧∃ (k:F12) (e:Int) (l:F12),OkF k e l∧jX 7 [f.av] (oF k e)∧jF 14 [f.av] l.av∧jF 15 [l.av] (it e) ∧
  ((Bf zg∧jX 6 [f.av,g.av] (xD zg)) ∨
    zg=0∧∃ (k' : F12) (e' : Int) (l' : F12),OkF k' e' l'∧jX 6 [f.av,g.av] (oF k' e')∧jF 16 [f.av,g.av] l'.av∧jF 15 [l'.av] (it e'))
theorem comp_long1 (h:f.lo 20=true):jX 3 [f.av,g.av,qv4 q0 q1 q2 q3] (bl true):=by
 have hs:=iL h
 refine jY Tryz.func3 fun w00 hI=>?_
 refine jW hI 4 [] (iK) ?_
 refine jC 5 _ (hs) ?_
 refine jW hI 4 [] (iK) ?_
 exact jR Tryz.func3
theorem comp_long2 (h:f.lo 20=false) (k:g.lo 20=true):jX 3 [f.av,g.av,qv4 q0 q1 q2 q3] (bl true):=by
 have hs:=iL h
 have ht:=iL k
 refine jY Tryz.func3 fun w00 hI=>?_
 refine jW hI 4 [] (iK) ?_
 refine jC 5 _ (hs) ?_
 refine jC 5 _ (ht) ?_
 refine jW hI 4 [] (iK) ?_
 exact jR Tryz.func3
theorem comp_len0 (h:f.lo 20=false) (k:g.lo 20=false) (d0:decide ((20:Int)<(q0.size:Nat))=true):jX 3 [f.av,g.av,qv4 q0 q1 q2 q3] (bl true):=by
 have hs:=iL h
 have ht:=iL k
 refine jY Tryz.func3 fun w00 hI=>?_
 refine jW hI 4 [] (iK) ?_
 refine jC 5 _ (hs) ?_
 refine jC 5 _ (ht) ?_
 refine jP 29 22 Tryz.underlying22 q0 ?_
 refine jM 30 q0.size 20 true d0 ?_
 refine jW hI 4 [] (iK) ?_
 exact jR Tryz.func3
theorem comp_len1 (h:f.lo 20=false) (k:g.lo 20=false) (d0:decide ((20:Int)<(q0.size:Nat))=false) (d1:decide ((20:Int)<(q1.size:Nat))=true):jX 3 [f.av,g.av,qv4 q0 q1 q2 q3] (bl true):=by
 have hs:=iL h
 have ht:=iL k
 refine jY Tryz.func3 fun w00 hI=>?_
 refine jW hI 4 [] (iK) ?_
 refine jC 5 _ (hs) ?_
 refine jC 5 _ (ht) ?_
 refine jP 29 22 Tryz.underlying22 q0 ?_
 refine jM 30 q0.size 20 false d0 ?_
 refine jP 35 22 Tryz.underlying22 q1 ?_
 refine jM 36 q1.size 20 true d1 ?_
 refine jW hI 4 [] (iK) ?_
 exact jR Tryz.func3
theorem comp_len2 (h:f.lo 20=false) (k:g.lo 20=false) (d0:decide ((20:Int)<(q0.size:Nat))=false) (d1:decide ((20:Int)<(q1.size:Nat))=false) (d2:decide ((20:Int)<(q2.size:Nat))=true):jX 3 [f.av,g.av,qv4 q0 q1 q2 q3] (bl true):=by
 have hs:=iL h
 have ht:=iL k
 refine jY Tryz.func3 fun w00 hI=>?_
 refine jW hI 4 [] (iK) ?_
 refine jC 5 _ (hs) ?_
 refine jC 5 _ (ht) ?_
 refine jP 29 22 Tryz.underlying22 q0 ?_
 refine jM 30 q0.size 20 false d0 ?_
 refine jP 35 22 Tryz.underlying22 q1 ?_
 refine jM 36 q1.size 20 false d1 ?_
 refine jP 41 22 Tryz.underlying22 q2 ?_
 refine jM 42 q2.size 20 true d2 ?_
 refine jW hI 4 [] (iK) ?_
 exact jR Tryz.func3
theorem comp_len3 (h:f.lo 20=false) (k:g.lo 20=false) (d0:decide ((20:Int)<(q0.size:Nat))=false) (d1:decide ((20:Int)<(q1.size:Nat))=false) (d2:decide ((20:Int)<(q2.size:Nat))=false) (d3:decide ((20:Int)<(q3.size:Nat))=true):jX 3 [f.av,g.av,qv4 q0 q1 q2 q3] (bl true):=by
 have hs:=iL h
 have ht:=iL k
 refine jY Tryz.func3 fun w00 hI=>?_
 refine jW hI 4 [] (iK) ?_
 refine jC 5 _ (hs) ?_
 refine jC 5 _ (ht) ?_
 refine jP 29 22 Tryz.underlying22 q0 ?_
 refine jM 30 q0.size 20 false d0 ?_
 refine jP 35 22 Tryz.underlying22 q1 ?_
 refine jM 36 q1.size 20 false d1 ?_
 refine jP 41 22 Tryz.underlying22 q2 ?_
 refine jM 42 q2.size 20 false d2 ?_
 refine jP 47 22 Tryz.underlying22 q3 ?_
 refine jM 48 q3.size 20 true d3 ?_
 refine jW hI 4 [] (iK) ?_
 exact jR Tryz.func3
set_option maxRecDepth 100000 in
theorem comp_walk (h:f.lo 20=false) (k:g.lo 20=false) (d0:decide ((20:Int)<(q0.size:Nat))=false) (d1:decide ((20:Int)<(q1.size:Nat))=false) (d2:decide ((20:Int)<(q2.size:Nat))=false) (d3:decide ((20:Int)<(q3.size:Nat))=false) (kQ:∀ T,jF 9 [.fv (.nsl 4 T [bK q0,bK q1,bK q2,bK q3])] (it zq)) (kf:jF 13 [f.av] (it zf)) (kg:jF 13 [g.av] (it zg)) (Q:QO q0 q1 q2 q3 zq) (F:FO f g zf zg):jX 3 [f.av,g.av,qv4 q0 q1 q2 q3] (bl true):=by
 have hs:=iL h
 have ht:=iL k
 have kQ':=zS (kQ 27)
 have kf':=zS kf
 have kg':=zS kg
 have ne:∀ {z:Int},Bf z→(z==0)=false:=fun h=>by rcases h with rfl|rfl|rfl|rfl <;> rfl
 have ne' : ∀ {z:Int},Bf z→(!(z==0))=true:=fun h=>by rw [ne h];rfl
 have aB:∀ {z:Int},Bf z→jF 12 [noR,it z,.fv (.sc (gY z)),noR] (bl true):=fun h=>axesBad6 h
 have a6:=axesBad (z:=6) (.inr (.inr (.inl rfl)))
 have w6:=when6 (b:=true)
 have w0:=when6 (b:=false)
 have start:∀ {xC xI xT:AV Kn},True:=fun {_ _ _}=>trivial
 rcases Q with ⟨hq,cT⟩|⟨hq,⟨hb,cT⟩|⟨hb,kT,cT,rT,oT⟩⟩
 all_goals rcases F with ⟨hf,cC,cI⟩|⟨hf,kI,eI,lI,oI,cI,rI,sI,⟨hg,cC⟩|⟨hg,kC,eC,lC,oC,cC,rC,sC⟩⟩
 all_goals
  refine jY Tryz.func3 fun w00 hI=>?_
  refine jW hI 4 [] (iK) ?_
  refine jC 5 _ (hs) ?_
  refine jC 5 _ (ht) ?_
  refine jP 29 22 Tryz.underlying22 q0 ?_
  refine jM 30 q0.size 20 false d0 ?_
  refine jP 35 22 Tryz.underlying22 q1 ?_
  refine jM 36 q1.size 20 false d1 ?_
  refine jP 41 22 Tryz.underlying22 q2 ?_
  refine jM 42 q2.size 20 false d2 ?_
  refine jP 47 22 Tryz.underlying22 q3 ?_
  refine jM 48 q3.size 20 false d3 ?_
  refine jW hI 6 _ (cC) ?_
  refine jW hI 7 _ (cI) ?_
  refine jW hI 8 _ (cT) ?_
  refine kcallS 9 2 4 27 [bK q0,bK q1,bK q2,bK q3] (kQ') (by kernel_rfl) Tryz.call9 ?_
 iterate 3
  focus
   have pB:=aB hq
   refine keqG (.tmp 70) (.const (.int .i64 0)) zq 0 false _ _ oJ bZ (ne hq) ?_
   refine keqG (.tmp 77) (.const (.int .i64 0)) zq 0 false _ _ oJ bZ (ne hq) ?_
   refine jC 12 _ (pB) ?_
  rotate_left
 iterate 3
  focus
   refine keqG (.tmp 70) (.const (.int .i64 0)) zq 0 true _ _ oJ bZ (by rw [hq];rfl) ?_
   refine kqv4 (.tmp 72) (.tmp 73) q0 q1 q2 q3 ⟨#[48]⟩ true hb ?_
   refine jC 10 _ (w6) ?_
   refine jC 12 _ (a6) ?_
  rotate_left
 iterate 3
  focus
   refine keqG (.tmp 70) (.const (.int .i64 0)) zq 0 true _ _ oJ bZ (by rw [hq];rfl) ?_
   refine kqv4 (.tmp 72) (.tmp 73) q0 q1 q2 q3 ⟨#[48]⟩ false hb ?_
   refine jC 10 _ (w0) ?_
   refine jC 11 _ (rT) ?_
   refine jC 12 _ (oT) ?_
  rotate_left
 iterate 3
  focus
   have pB:=aB hf
   refine jC 13 _ (kf') ?_
   refine kneG (.tmp 89) (.const (.int .i64 0)) zf 0 true _ _ oJ bZ (ne' hf) ?_
   refine jC 12 _ (pB) ?_
   refine jC 12 _ (pB) ?_
   exact jR Tryz.func3
  focus
   have pB:=aB hg
   refine jC 13 _ (kf') ?_
   refine kneG (.tmp 89) (.const (.int .i64 0)) zf 0 false _ _ oJ bZ (by rw [hf];rfl) ?_
   refine jC 14 _ (rI) ?_
   refine jC 15 _ (sI) ?_
   refine jC 12 _ (oI) ?_
   refine jC 13 _ (kg') ?_
   refine kneG (.tmp 114) (.const (.int .i64 0)) zg 0 true _ _ oJ bZ (ne' hg) ?_
   refine jC 12 _ (pB) ?_
   exact jR Tryz.func3
  focus
   refine jC 13 _ (kf') ?_
   refine kneG (.tmp 89) (.const (.int .i64 0)) zf 0 false _ _ oJ bZ (by rw [hf];rfl) ?_
   refine jC 14 _ (rI) ?_
   refine jC 15 _ (sI) ?_
   refine jC 12 _ (oI) ?_
   refine jC 13 _ (kg') ?_
   refine kneG (.tmp 114) (.const (.int .i64 0)) zg 0 false _ _ oJ bZ (by rw [hg];rfl) ?_
   refine jC 16 _ (rC) ?_
   refine jC 15 _ (sC) ?_
   refine jC 12 _ (oC) ?_
   exact jR Tryz.func3
end
theorem ss_20 {f:F12} (h:f.lo 20=false):f.Ss:=by
 simp only [F12.lo,Ab.lo,Bool.or_eq_false_iff,decide_eq_false_iff_not] at h
 obtain ⟨⟨⟨⟨⟨⟨⟨⟨⟨⟨⟨h1,h2⟩,h3⟩,h4⟩,h5⟩,h6⟩,h7⟩,h8⟩,h9⟩,h10⟩,h11⟩,h12⟩:=h
 have k:∀ {s:ByteArray},¬ (20:Int)<(s.size:Nat)→Ab.Ss s:=fun {s} h=>by show s.size≤30;omega
 exact ⟨⟨k h1,k h2,k h3⟩,⟨k h4,k h5,k h6⟩,⟨k h7,k h8,k h9⟩,⟨k h10,k h11,k h12⟩⟩
theorem tc_tr {w S D c e u:Rat}:tc w S D c e u=tr w S D c e u:=by
 show ((1:Int):Rat)/(w*w+S)*_=_
 rw [Rat.div_def,show ((1:Int):Rat)=1 from rfl,Rat.one_mul]
theorem norm_ne {w u1 u2 u3:Rat} (h:¬ (w=0∧u1=0∧u2=0∧u3=0)):w*w+dt u1 u2 u3 u1 u2 u3≠0:=fun e=>by
 have hs:0≤dt u1 u2 u3 u1 u2 u3:=by
  unfold dt
  exact Rat.add_nonneg (Rat.add_nonneg (eW _) (eW _)) (eW _)
 have hw:=eW w
 have e1:dt u1 u2 u3 u1 u2 u3=0:=by
  refine Rat.le_antisymm ?_ hs
  have:=Rat.add_le_add_right (c:=dt u1 u2 u3 u1 u2 u3) |>.2 hw
  rw [Rat.zero_add,e] at this
  exact this
 rw [e1,Rat.add_zero] at e
 have e2:w=0:=(Rat.mul_eq_zero.1 e).elim id id
 obtain ⟨a,b,c⟩:=sH e1
 exact h ⟨e2,a,b,c⟩
theorem quat_QO {q0 q1 q2 q3:ByteArray} (h0:q0.size≤20) (h1:q1.size≤20) (h2:q2.size≤20) (h3:q3.size≤20):QO q0 q1 q2 q3 (f2 (bM q0) (c3 q1 q2 q3)):=by
 by_cases hz:f2 (bM q0) (c3 q1 q2 q3)=0
 ·refine .inr ⟨hz,?_⟩
  obtain ⟨z1,z2⟩:=qO hz
  obtain ⟨w,rfl,bw⟩:=slwN (n:=20) h0 (by omega) z1
  obtain ⟨u1,u2,u3,rfl,rfl,rfl,b1,b2,b3⟩:=slwN3 (n:=20) h1 h2 h3 (by omega) z2
  clear hz z1 z2 h0 h1 h2 h3
  rw [pZ,pZ,pZ,pZ]
  have ww:Wr w:=bw.wr (by omega)
  have wu:oP u1 u2 u3:=⟨b1.wr (by omega),b2.wr (by omega),b3.wr (by omega)⟩
  by_cases ha:w=0∧u1=0∧u2=0∧u3=0
  ·refine .inl ⟨?_,apiTurnZero ww wu ha.1 ?_⟩
   ·rw [decide_eq_true ha.1,decide_eq_true ha.2.1,decide_eq_true ha.2.2.1,decide_eq_true ha.2.2.2]
    rfl
   ·rw [decide_eq_true ha.2.1,decide_eq_true ha.2.2.1,decide_eq_true ha.2.2.2]
    rfl
  ·have hn:=norm_ne ha
   have q:Qn w u1 u2 u3:=⟨bw,b1,b2,b3⟩
   have t1:=ta_of q bq1 bq0 bq0 w1 w0 w0 rfl rfl rfl rfl rfl
   have t2:=ta_of q bq0 bq1 bq0 w0 w1 w0 rfl rfl rfl rfl rfl
   have t3:=ta_of q bq0 bq0 bq1 w0 w0 w1 rfl rfl rfl rfl rfl
   have L:∀ {p:Rat},Bq 20 p→Lf 8 p:=fun h=>(h.wr (by omega)).lf.mono (by decide)
   have l0:Lf 8 i0:=Lf.int (Lv.one _ (by rw [aL];decide))
   have l1:Lf 8 i1:=Lf.int (Lv.one _ (by rw [aL];decide))
   have k1:=qL (L bw) (L b1) (L b2) (L b3) l1 l0 l0 hn
   have k2:=qL (L bw) (L b1) (L b2) (L b3) l0 l1 l0 hn
   have k3:=qL (L bw) (L b1) (L b2) (L b3) l0 l0 l1 hn
   rw [tc_tr,tc_tr,tc_tr] at k1 k2 k3
   have w00:Wr i0:=bq0.wr (by omega)
   have wf:Wf i0 i0 i0 _ _ _ _ _ _ _ _ _:=⟨⟨w00,w00,w00⟩,⟨t1.b1.wr (by omega),t1.b2.wr (by omega),t1.b3.wr (by omega)⟩,⟨t2.b1.wr (by omega),t2.b2.wr (by omega),t2.b3.wr (by omega)⟩,⟨t3.b1.wr (by omega),t3.b2.wr (by omega),t3.b3.wr (by omega)⟩⟩
   have hb:∀ b:Bool,decide (w=0)=b→b=true→(decide (u1=0)&&decide (u2=0)&&decide (u3=0))=false:=fun b e1 e2=>by
    rw [e2] at e1
    rw [Bool.eq_false_iff]
    intro hh
    simp only [Bool.and_eq_true,decide_eq_true_eq] at hh
    exact ha ⟨of_decide_eq_true e1,hh.1.1,hh.1.2,hh.2⟩
   have cT:=apiTurnF ww wu rfl (hb _ rfl) k1 k2 k3 wf
   refine .inr ⟨?_,wF i0 i0 i0 _ _ _ _ _ _ _ _ _,cT,refTurnF q rfl hn t1 t2 t3,axesOk wf⟩
   rw [Bool.eq_false_iff]
   intro hh
   simp only [Bool.and_eq_true,decide_eq_true_eq] at hh
   exact ha ⟨hh.1.1.1,hh.1.1.2,hh.1.2,hh.2⟩
 ·refine .inl ⟨?_,apiTurnErr (show q0.size<_ by omega) ⟨show q1.size<_ by omega,show q2.size<_ by omega,show q3.size<_ by omega⟩ rfl hz⟩
  rcases wQ (bJ q0) (gV q1 q2 q3) with e|e|e
  ·exact absurd e hz
  ·exact .inl e
  ·exact .inr (.inl e)
section
variable {o1 o2 o3 x1 x2 x3 y1 y2 y3 z1 z2 z3 p1 p2 p3 u1 u2 u3 v1 v2 v3 w1 w2 w3:Rat}
theorem mlq {a b c x y z:Rat} (ha:Bq 32 a) (hb:Bq 32 b) (hc:Bq 32 c) (g:Q3 x y z):Bq 370 (ml a b c x y z):=((Bq.dt ha hb hc g.a g.b g.c (n:=188) (by omega)).div (dtq g g)).mono (by omega)
theorem ml1:ml i1 i0 i0 x1 x2 x3=x1*(dt x1 x2 x3 x1 x2 x3)⁻¹:=by
 show dt i1 i0 i0 x1 x2 x3/_=_
 rw [Rat.div_def,show dt i1 i0 i0 x1 x2 x3=x1 by rw [show i1=1 from rfl,show i0=0 from rfl];unfold dt;grind]
theorem ml2:ml i0 i1 i0 x1 x2 x3=x2*(dt x1 x2 x3 x1 x2 x3)⁻¹:=by
 show dt i0 i1 i0 x1 x2 x3/_=_
 rw [Rat.div_def,show dt i0 i1 i0 x1 x2 x3=x2 by rw [show i1=1 from rfl,show i0=0 from rfl];unfold dt;grind]
theorem ml3:ml i0 i0 i1 x1 x2 x3=x3*(dt x1 x2 x3 x1 x2 x3)⁻¹:=by
 show dt i0 i0 i1 x1 x2 x3/_=_
 rw [Rat.div_def,show dt i0 i0 i1 x1 x2 x3=x3 by rw [show i1=1 from rfl,show i0=0 from rfl];unfold dt;grind]
theorem inv_facts (q:Qf o1 o2 o3 x1 x2 x3 y1 y2 y3 z1 z2 z3) (hx:Ax x1 x2 x3 y1 y2 y3 z1 z2 z3):∃ (k:F12) (e:Int) (l:F12),OkF k e l∧jX 7 [gZ o1 o2 o3 x1 x2 x3 y1 y2 y3 z1 z2 z3] (oF k e)∧jF 14 [frA o1 o2 o3 x1 x2 x3 y1 y2 y3 z1 z2 z3] l.av∧jF 15 [l.av] (it e):=by
 have q0:=sq0_of hx
 have fv:=Fr.fv_of q.wf hx
 have a0:Bq 32 i0:=bq0.mono (by omega)
 have a1:Bq 32 i1:=bq1.mono (by omega)
 have b:∀ {o:Rat},Bq 30 o→Bq 32 (i0-o):=fun h=>(bq0.sub h).mono (by omega)
 have n1:=mlq (b q.o1) (b q.o2) (b q.o3) q.x
 have n2:=mlq (b q.o1) (b q.o2) (b q.o3) q.y
 have n3:=mlq (b q.o1) (b q.o2) (b q.o3) q.z
 have r1:=mlq a1 a0 a0 q.x
 have r2:=mlq a1 a0 a0 q.y
 have r3:=mlq a1 a0 a0 q.z
 have s1:=mlq a0 a1 a0 q.x
 have s2:=mlq a0 a1 a0 q.y
 have s3:=mlq a0 a1 a0 q.z
 have t1:=mlq a0 a0 a1 q.x
 have t2:=mlq a0 a0 a1 q.y
 have t3:=mlq a0 a0 a1 q.z
 have hd:0<gG (ml i1 i0 i0 x1 x2 x3) (ml i1 i0 i0 y1 y2 y3) (ml i1 i0 i0 z1 z2 z3) (ml i0 i1 i0 x1 x2 x3) (ml i0 i1 i0 y1 y2 y3) (ml i0 i1 i0 z1 z2 z3) (ml i0 i0 i1 x1 x2 x3) (ml i0 i0 i1 y1 y2 y3) (ml i0 i0 i1 z1 z2 z3):=by
  rw [ml1,ml1,ml1,ml2,ml2,ml2,ml3,ml3,ml3,det_cols]
  exact Rat.mul_pos (Rat.mul_pos (Rat.mul_pos (sq_pos q0.x) (sq_pos q0.y)) (sq_pos q0.z)) (det_pos hx)
 have wf:Wf _ _ _ _ _ _ _ _ _ _ _ _:=⟨⟨n1.wr (by omega),n2.wr (by omega),n3.wr (by omega)⟩,⟨r1.wr (by omega),r2.wr (by omega),r3.wr (by omega)⟩,⟨s1.wr (by omega),s2.wr (by omega),s3.wr (by omega)⟩,⟨t1.wr (by omega),t2.wr (by omega),t3.wr (by omega)⟩⟩
 exact ⟨_,_,_,okF_of wf,inverse_O fv q0 rfl rfl rfl rfl rfl rfl rfl rfl rfl rfl rfl rfl (zU wf),refInverseF q q0,refShapeF r1 r2 r3 s1 s2 s3 t1 t2 t3 (by omega) hd⟩
theorem comp_facts (q:Qf o1 o2 o3 x1 x2 x3 y1 y2 y3 z1 z2 z3) (hx:Ax x1 x2 x3 y1 y2 y3 z1 z2 z3) (r:Qf p1 p2 p3 u1 u2 u3 v1 v2 v3 w1 w2 w3) (hy:Ax u1 u2 u3 v1 v2 v3 w1 w2 w3):∃ (k:F12) (e:Int) (l:F12),OkF k e l∧jX 6 [gZ o1 o2 o3 x1 x2 x3 y1 y2 y3 z1 z2 z3,gZ p1 p2 p3 u1 u2 u3 v1 v2 v3 w1 w2 w3] (oF k e)∧jF 16 [frA o1 o2 o3 x1 x2 x3 y1 y2 y3 z1 z2 z3,frA p1 p2 p3 u1 u2 u3 v1 v2 v3 w1 w2 w3] l.av∧jF 15 [l.av] (it e):=by
 have fv:=Fr.fv_of q.wf hx
 have gv:=Fr.fv_of r.wf hy
 have c1:Q3 x1 y1 z1:=⟨q.x1,q.y1,q.z1⟩
 have c2:Q3 x2 y2 z2:=⟨q.x2,q.y2,q.z2⟩
 have c3:Q3 x3 y3 z3:=⟨q.x3,q.y3,q.z3⟩
 have b:∀ {o l:Rat},Bq 30 o→Bq 182 l→Wr (o+l):=fun h k=>(h.add k).wr (by omega)
 have hd:0<gG (ld u1 u2 u3 x1 y1 z1) (ld u1 u2 u3 x2 y2 z2) (ld u1 u2 u3 x3 y3 z3) (ld v1 v2 v3 x1 y1 z1) (ld v1 v2 v3 x2 y2 z2) (ld v1 v2 v3 x3 y3 z3) (ld w1 w2 w3 x1 y1 z1) (ld w1 w2 w3 x2 y2 z2) (ld w1 w2 w3 x3 y3 z3):=by
  rw [det_ld]
  exact Rat.mul_pos (det_pos hx) (det_pos hy)
 have r1:=ldq r.x c1
 have r2:=ldq r.x c2
 have r3:=ldq r.x c3
 have s1:=ldq r.y c1
 have s2:=ldq r.y c2
 have s3:=ldq r.y c3
 have t1:=ldq r.z c1
 have t2:=ldq r.z c2
 have t3:=ldq r.z c3
 have wf:Wf _ _ _ _ _ _ _ _ _ _ _ _:=⟨⟨b q.o1 (ldq r.o c1),b q.o2 (ldq r.o c2),b q.o3 (ldq r.o c3)⟩,⟨r1.wr (by omega),r2.wr (by omega),r3.wr (by omega)⟩,⟨s1.wr (by omega),s2.wr (by omega),s3.wr (by omega)⟩,⟨t1.wr (by omega),t2.wr (by omega),t3.wr (by omega)⟩⟩
 exact ⟨_,_,_,okF_of wf,compose_O fv gv rfl rfl rfl rfl rfl rfl rfl rfl rfl rfl rfl rfl (zU wf),refComposeF q r,refShapeF r1 r2 r3 s1 s2 s3 t1 t2 t3 (by omega) hd⟩
end
theorem frames_FO {f g:F12} (hf:f.Ss) (hg:g.Ss):∃ zf zg,FO f g zf zg∧jF 13 [f.av] (it zf)∧jF 13 [g.av] (it zg):=by
 rcases qB hf with ⟨o1,o2,o3,x1,x2,x3,y1,y2,y3,z1,z2,z3,rfl,q,hx,e0⟩|⟨z,hz,ck,kF⟩
 ·have kF:=gW q
  rw [e0] at kF
  obtain ⟨k,e,l,h1,h2,h3,h4⟩:=inv_facts q hx
  rcases qB hg with ⟨p1,p2,p3,u1,u2,u3,v1,v2,v3,w1,w2,w3,rfl,r,hy,e1⟩|⟨z,hz,ck,kG⟩
  ·have kG:=gW r
   rw [e1] at kG
   obtain ⟨k',e',l',g1,g2,g3,g4⟩:=comp_facts q hx r hy
   exact ⟨0,0,.inr ⟨rfl,k,e,l,h1,h2,h3,h4,.inr ⟨rfl,k',e',l',g1,g2,g3,g4⟩⟩,kF,kG⟩
  ·exact ⟨0,z,.inr ⟨rfl,k,e,l,h1,h2,h3,h4,.inl ⟨hz,zW (Fr.fv_of q.wf hx) hg.rb ck hz⟩⟩,kF,kG⟩
 ·have hG:∃ zg,jF 13 [g.av] (it zg):=by
   rcases qB hg with ⟨p1,p2,p3,u1,u2,u3,v1,v2,v3,w1,w2,w3,rfl,r,hy,e1⟩|⟨z,hz,ck,kG⟩
   ·exact ⟨_,gW r⟩
   ·exact ⟨_,kG⟩
  obtain ⟨zg,kG⟩:=hG
  exact ⟨z,zg,.inl ⟨hz,zV hf.rb hg.rb ck hz,aAm hf.rb ck hz⟩,kF,kG⟩
theorem composedF (f g:F12) (q0 q1 q2 q3:ByteArray):jX 3 [f.av,g.av,qv4 q0 q1 q2 q3] (bl true):=by
 cases hl:f.lo 20 with
 | true=>exact comp_long1 hl
 | false =>
   cases hg:g.lo 20 with
   | true=>exact comp_long2 hl hg
   | false =>
     cases d0:decide ((20:Int)<(q0.size:Nat)) with
     | true=>exact comp_len0 hl hg d0
     | false =>
       cases d1:decide ((20:Int)<(q1.size:Nat)) with
       | true=>exact comp_len1 hl hg d0 d1
       | false =>
         cases d2:decide ((20:Int)<(q2.size:Nat)) with
         | true=>exact comp_len2 hl hg d0 d1 d2
         | false =>
           cases d3:decide ((20:Int)<(q3.size:Nat)) with
           | true=>exact comp_len3 hl hg d0 d1 d2 d3
           | false =>
             have g0:=of_decide_eq_false d0
             have g1:=of_decide_eq_false d1
             have g2:=of_decide_eq_false d2
             have g3:=of_decide_eq_false d3
             obtain ⟨zf,zg,F,kf,kg⟩:=frames_FO (ss_20 hl) (ss_20 hg)
             have ck:∀ {s:ByteArray},s.size≤20→jF 48 [tx s] (it (bM s)):=fun h=>qP (by omega) rfl
             exact comp_walk hl hg d0 d1 d2 d3 (fun T=>checkRow4 (ck (by omega)) (ck (by omega)) (ck (by omega)) (ck (by omega)) (bJ _) (bJ _) (bJ _) (bJ _) rfl) kf kg (quat_QO (by omega) (by omega) (by omega) (by omega)) F
end Ab
namespace Ab
open Go.ChangeShapes Go.WideShapes Go.ChangeAt Go.RowKit
theorem gPow:Tryz.prog.globalNamed "internal/strconv.uint64pow10" = some 7:=by kernel_rfl
theorem gl_of {W:World} {r:List (String×DataW Unit)} (h:laidMet Tryz.prog (("internal/strconv.uint64pow10",Lib.tabData .u64 Lib.pow10Tab)::r) W) (hs:W.ShapedOpen Tryz.prog):Gl W :=
 ⟨Lib.tabIs_of_head (t:=300) (e:=173) (n:=20) gPow (by kernel_rfl) (by kernel_rfl) (by kernel_rfl) (by kernel_rfl) (by kernel_rfl) h,
  Go.Proofs.cell_of_shapedOpen_int (zero := #[.int .i64 0]) (t:=3) hs (of_decide_eq_true (by kernel_rfl)) (by kernel_rfl) rfl (by kernel_rfl) (by kernel_rfl) (by kernel_rfl)⟩
end Ab
namespace Ab
open Go.ChangeShapes Go.WideShapes Go.RowKit
def vO (P:Program):Nat→TypeId→Nat→Option Bool
 | 0,_,_=>none
 | d+1,T,i=>match P.underlying T with
   | some (.int .i64)=>if i=0 then some false else none
   | some .string=>if i=0 then some true else none
   | some (.array n e)=>if 0<P.cellsOf e∧i/P.cellsOf e<n then vO P d e (i%P.cellsOf e) else none
   | some (.struct fs)=>(fs.toList.find? fun f=>decide (f.offset≤i∧i<f.offset+P.cellsOf f.type)).bind fun f=>vO P d f.type (i-f.offset)
   | _=>none
def isKind:Bool→Value→Prop
 | true,c => ∃ s:ByteArray,c = .string s∧s.size≤maxLen
 | false,c => ∃ n:Int,c = .int .i64 n∧(Lit.int .i64 n).wf=true
section
variable {H:Type} {enc:TypeId×Value→H} {P:Program} {w:World} {base:Nat} {spare:Nat→Bool} {held:Bool}
theorem piece {cs:List Value} {o n r:Nat} {c:Value} (h:((cs.drop o).take n)[r]?=some c):cs[o+r]?=some c:=by
 rw [List.getElem?_take] at h
 split at h
 ·rw [List.getElem?_drop] at h;exact h
 ·cases h
theorem trod_kind:∀ (d:Nat) {T:TypeId} {fuel i:Nat} {cs:List Value} {x:DataW H×List MemPlace} {k:Bool},DataW.trod enc P w base spare held fuel T cs=some x→vO P d T i=some k→∃ c,cs[i]?=some c∧isKind k c:=by
 intro d
 induction d with
 | zero=>intro T fuel i cs x k _ hk;cases hk
 | succ d ih =>
   intro T fuel i cs x k h hk
   unfold vO at hk
   split at hk
   ·rename_i hu
    split at hk <;> cases hk
    rename_i h0
    subst h0
    cases fuel with
    | zero=>cases h
    | succ m =>
      unfold DataW.trod at h
      rw [hu] at h
      split at h <;> simp_all
      obtain ⟨⟨_,hw⟩,_⟩:=h
      cases ‹IntKind.i64=_›
      exact ⟨_,rfl,hw⟩
   ·rename_i hu
    split at hk <;> cases hk
    rename_i h0
    subst h0
    cases fuel with
    | zero=>cases h
    | succ m =>
      unfold DataW.trod at h
      rw [hu] at h
      split at h <;> simp_all
      exact ⟨_,rfl,h.1⟩
   ·rename_i n e hu
    split at hk
    ·rename_i hi
     obtain ⟨xs,m,_,_,_,hlen,hat⟩:=DataW.trod_array hu h
     have hq:=hat (i/P.cellsOf e) hi.2
     rw [List.getElem?_eq_getElem (by omega)] at hq
     obtain ⟨c,hc,hk'⟩:=ih hq hk
     refine ⟨c,?_,hk'⟩
     have:=piece hc
     rw [Nat.mul_comm,Nat.div_add_mod] at this
     exact this
    ·cases hk
   ·rename_i fs hu
    rw [Option.bind_eq_some_iff] at hk
    obtain ⟨f,hf,hk⟩:=hk
    have hp:=List.find?_some hf
    simp only [decide_eq_true_eq] at hp
    obtain ⟨j,hj,hje⟩:=List.getElem_of_mem (List.mem_of_find?_eq_some hf)
    obtain ⟨xs,n,_,_,_,hlen,hat⟩:=DataW.trod_struct hu h
    have hq:=hat j f (by rw [← hje];simp)
    rw [List.getElem?_eq_getElem (by simp at hj;omega)] at hq
    obtain ⟨c,hc,hk'⟩:=ih hq hk
    refine ⟨c,?_,hk'⟩
    have:=piece hc
    rw [show f.offset+(i-f.offset)=i by omega] at this
    exact this
   ·cases hk
def sJ (P:Program):Nat→TypeId→Bool
 | 0,_=>false
 | d+1,T=>match P.underlying T with
   | some (.int _)|some .string=>true
   | some (.array _ e)=>sJ P d e
   | some (.struct fs)=>fs.toList.all fun f=>sJ P d f.type
   | _=>false
theorem vP {α β:Type} {f g:α→Option (β×List MemPlace)}:∀ {l:List α} {xs:List (β×List MemPlace)},l.mapM f=some xs→(∀ a∈l,∀ x,f a=some x→g a=some x∧x.2 = [])→l.mapM g=some xs∧xs.flatMap (·.2) = []
 | [],xs,h,_=>by simp at h;subst h;exact ⟨rfl,rfl⟩
 | a::l,xs,h,hs=>by
   rw [List.mapM_cons] at h
   simp only [bind,Option.bind_eq_some_iff,pure,Option.some.injEq] at h
   obtain ⟨y,hy,ys,hys,rfl⟩:=h
   obtain ⟨g1,g2⟩:=hs a (by simp) y hy
   obtain ⟨i1,i2⟩:=vP hys fun b hb=>hs b (by simp [hb])
   exact ⟨by rw [List.mapM_cons,g1,i1];rfl,by simp [g2,i2]⟩
def SameRead (enc:TypeId×Value→H) (P:Program) (w:World) (base:Nat) (spare:Nat→Bool) (held:Bool) (w' : World) (base' : Nat) (spare' : Nat→Bool) (d:Nat):Prop :=
 ∀ (T:TypeId) (fuel:Nat) (cs:List Value) (x:DataW H×List MemPlace),sJ P d T=true→DataW.trod enc P w base spare held fuel T cs=some x→DataW.trod enc P w' base' spare' held fuel T cs=some x∧x.2 = []
theorem trod_plain {w' : World} {base' : Nat} {spare' : Nat→Bool}:∀ d:Nat,SameRead enc P w base spare held w' base' spare' d:=by
 intro d
 induction d with
 | zero=>intro T fuel cs x hp;cases hp
 | succ d ih =>
   intro T fuel cs x hp h
   cases fuel with
   | zero=>cases h
   | succ m =>
     unfold sJ at hp
     unfold DataW.trod at h ⊢
     split at hp
     ·rename_i hu
      rw [hu] at h ⊢
      split at h <;> simp_all <;> (obtain ⟨_,h⟩:=h;rw [← h])
     ·rename_i hu
      rw [hu] at h ⊢
      split at h <;> simp_all <;> (obtain ⟨_,h⟩:=h;rw [← h])
     ·rename_i hu
      rw [hu] at h ⊢
      split at h <;> simp_all
      obtain ⟨hl,xs,hxs,rfl⟩:=h
      obtain ⟨g1,g2⟩:=vP hxs fun a _ x hx=>ih _ _ _ _ hp hx
      exact ⟨⟨xs,g1,rfl⟩,g2⟩
     ·rename_i hu
      rw [hu] at h ⊢
      split at h <;> simp_all
      obtain ⟨hl,xs,hxs,rfl⟩:=h
      obtain ⟨g1,g2⟩:=vP hxs fun a ha x hx=>ih _ _ _ _ (by obtain ⟨j,hj,rfl⟩:=List.getElem_of_mem ha;simpa using hp j (by simpa using hj)) hx
      exact ⟨⟨xs,g1,rfl⟩,g2⟩
     ·cases hp
theorem sK {w' : World} {base' : Nat} {spare' : Nat→Bool} {T:TypeId} {v:Value} {D:DataW H} {p:List MemPlace} (hp:sJ P 10 T=true) (h:DataW.Trod enc P w base spare held T v D p):p = []∧DataW.Trod enc P w' base' spare' held T v D []:=by
 obtain ⟨fuel,hf⟩:=h
 obtain ⟨h1,h2⟩:=trod_plain (w':=w') (base':=base') (spare':=spare') 10 _ _ _ _ hp hf
 simp only at h2
 subst h2
 exact ⟨rfl,fuel,h1⟩
theorem agg_of {r:Reach} {b0 n:Nat} {T:TypeId} {v:Value} (hu:(match P.underlying T with|some (.struct _)|some (.array _ _)=>true|_=>false)=true) (hC:P.cellsOf T=n) (hv:Value.okWide P w r b0 T v):∃ cs:Array Value,v = .agg cs∧cs.size=n:=by
 split at hu
 ·rename_i hs
  simp only [Value.okWide,hs] at hv
  obtain ⟨cs,h1,h2,_⟩:=hv
  exact ⟨cs,h1,h2.trans hC⟩
 ·rename_i hs
  simp only [Value.okWide,hs] at hv
  obtain ⟨cs,h1,h2,_⟩:=hv
  exact ⟨cs,h1,h2.trans hC⟩
 ·cases hu
theorem cell_at {T:TypeId} {cs:Array Value} {D:DataW H} {p:List MemPlace} {k:Bool} (i:Nat) (h:DataW.Trod enc P w base spare held T (.agg cs) D p) (hk:vO P 10 T i=some k):∃ c,cs[i]?=some c∧isKind k c:=by
 obtain ⟨fuel,hf⟩:=h
 obtain ⟨c,h1,h2⟩:=trod_kind 10 hf hk
 exact ⟨c,by simpa [Value.cells] using h1,h2⟩
theorem vQ {r:Reach} {b0 n:Nat} {T:TypeId} {v:Value} {D:DataW H} {p:List MemPlace} (hu:(match P.underlying T with|some (.struct _)|some (.array _ _)=>true|_=>false)=true) (hC:P.cellsOf T=n)
 (hk:((List.range n).all fun i=>vO P 10 T i==some true)=true) (hv:Value.okWide P w r b0 T v) (h:DataW.Trod enc P w base spare held T v D p):∃ l:List ByteArray,l.length=n∧v = .agg (l.map Value.string).toArray:=by
 obtain ⟨cs,rfl,hs⟩:=agg_of hu hC hv
 refine ⟨cs.toList.map fun v=>match v with | .string s=>s|_=>default,by simp [hs],?_⟩
 congr 1
 apply Array.toList_inj.1
 rw [List.map_map]
 apply List.ext_getElem
 ·simp
 ·intro i h1 h2
  have hi:i<n:=by simpa [hs] using h1
  have hk':=List.all_eq_true.1 hk i (List.mem_range.2 hi)
  obtain ⟨c,e,s,rfl,_⟩:=cell_at i h (eq_of_beq hk')
  have e2:cs.toList[i] = .string s:=by
   have:=Array.getElem?_eq_some_iff.1 e
   simpa using this.2
  simp [e2]
end
end Ab
end Go.Proofs.YtnghdaemmlagpaaGreatDoor
