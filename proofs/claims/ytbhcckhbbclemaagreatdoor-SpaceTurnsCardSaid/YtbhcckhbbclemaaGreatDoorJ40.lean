/- Parts of the proof, joined. -/
import Derived.Test.YtbhcckhbbclemaaGreatDoorJ39
import Derived.Test.YtbhcckhbbclemaaGreatDoorJ37
import Derived.Test.YtbhcckhbbclemaaGreatDoorJ38
import Derived.Test.YtbhcckhbbclemaaGreatDoorJ35
import Derived.WalkKit
import Derived.ProofKit
import Derived.OpenShut
import Derived.Deep.DeepHandedRow
import Derived.Deep.DeepWitnessRowRef
import Derived.Lib.LaidTab
import Derived.Stop.LaidErr
import Derived.Shelf.Vars
import Derived.Lay
import Derived.Test.YtbhcckhbbclemaaGreatDoorProg
import Derived.ChangeArms
set_option linter.unusedSimpArgs false
set_option linter.unusedVariables false
namespace Go.Proofs.YtbhcckhbbclemaaGreatDoor.Ab
open Go.RowKit Go.Proofs.YtbhcckhbbclemaaGreatDoor Pl
theorem kn_1 {f:FuncId} {s u:ByteArray} (h:Fits Tryz.prog f [rS s] (rS u)):Fits Tryz.prog f [tx s] (tx u):=by
 intro β w vs hv
 obtain ⟨v,rfl,h1⟩:=args1 hv
 rw [hold_is h1]
 exact (h β w [.string s] ⟨_,_,rfl,is_r,rfl⟩).mono fun e w' ⟨v,e1,e2,e3⟩=>⟨v,e1,e2,by rw [r_is e3];exact is_hold⟩
theorem kn_L {f:FuncId} {s:ByteArray} {z:Int} (h:Fits Tryz.prog f [rS s] (.fv (.sc (.lit (.int .i64 z))))):Fits Tryz.prog f [tx s] (it z):=by
 intro β w vs hv
 obtain ⟨v,rfl,h1⟩:=args1 hv
 rw [hold_is h1]
 exact (h β w [.string s] ⟨_,_,rfl,is_r,rfl⟩).mono fun e w' ⟨v,e1,e2,e3⟩=>⟨v,e1,e2,by rw [r_lit e3];exact lit_hold rfl⟩
def tx3 (a b c:Rat):Tx:=fun n=>match n with|0=>writeB a|1=>writeB b|_=>writeB c
def tx4 (a b c d:Rat):Tx:=fun n=>match n with|0=>writeB a|1=>writeB b|2=>writeB c|_=>writeB d
def T9 (x1 x2 x3 y1 y2 y3 z1 z2 z3:Rat):Tx:=fun n=>match n with
 | 0=>writeB ((0:Int):Rat)|1=>writeB ((0:Int):Rat)|2=>writeB ((0:Int):Rat)|3=>writeB x1|4=>writeB x2|5=>writeB x3|6=>writeB y1|7=>writeB y2|8=>writeB y3|9=>writeB z1|10=>writeB z2|_=>writeB z3
structure Bn (k:Nat) (x1 x2 x3 y1 y2 y3 z1 z2 z3:Rat):Prop where
 x1:Bq k x1
 x2:Bq k x2
 x3:Bq k x3
 y1:Bq k y1
 y2:Bq k y2
 y3:Bq k y3
 z1:Bq k z1
 z2:Bq k z2
 z3:Bq k z3
section
variable {x1 x2 x3 y1 y2 y3 z1 z2 z3 u1 u2 u3 v1 v2 v3 w1 w2 w3 p1 p2 p3 m1 m2 m3:Rat} {k:Nat}
theorem Bn.wf (h:Bn k x1 x2 x3 y1 y2 y3 z1 z2 z3) (hk:k≤600):Wf ((0:Int):Rat) ((0:Int):Rat) ((0:Int):Rat) x1 x2 x3 y1 y2 y3 z1 z2 z3 :=
 have b0:Wr ((0:Int):Rat):=(bq_int (k:=1) (by decide) (by omega)).wr (by omega)
 ⟨⟨b0,b0,b0⟩,⟨h.x1.wr hk,h.x2.wr hk,h.x3.wr hk⟩,⟨h.y1.wr hk,h.y2.wr hk,h.y3.wr hk⟩,⟨h.z1.wr hk,h.z2.wr hk,h.z3.wr hk⟩⟩
theorem zero_no {a b c:Rat} (h:dt a b c a b c=1) (h1:a=0) (h2:b=0) (h3:c=0):False:=by
 have e:dt a b c a b c=0:=by rw [h1,h2,h3];unfold dt;grind
 rw [e] at h
 exact absurd h (by decide)
theorem one_ne {a b c:Rat} (h:dt a b c a b c=1):(decide (a=0)&&decide (b=0)&&decide (c=0))=false:=dec_and fun ⟨h1,h2,h3⟩=>zero_no h h1 h2 h3
theorem On.fv (h:On x1 x2 x3 y1 y2 y3 z1 z2 z3) (b:Bn k x1 x2 x3 y1 y2 y3 z1 z2 z3) (hk:k≤600):Fv ((0:Int):Rat) ((0:Int):Rat) ((0:Int):Rat) x1 x2 x3 y1 y2 y3 z1 z2 z3 :=
 Fr.fv_of (b.wf hk) ⟨one_ne h.xx,one_ne h.yy,one_ne h.zz,h.xy,h.yz,h.zx,by rw [h.sgn];rfl⟩
theorem place_W (h:Fv ((0:Int):Rat) ((0:Int):Rat) ((0:Int):Rat) x1 x2 x3 y1 y2 y3 z1 z2 z3) (k:Wr3 p1 p2 p3) (e1:ld p1 p2 p3 x1 y1 z1=m1) (e2:ld p1 p2 p3 x2 y2 z2=m2) (e3:ld p1 p2 p3 x3 y3 z3=m3) (hr:Wr3 m1 m2 m3):PlaceW (T9 x1 x2 x3 y1 y2 y3 z1 z2 z3) (tx3 p1 p2 p3) (tx3 m1 m2 m3) :=
 have z:∀ x:Rat,((0:Int):Rat)+x=x:=fun x=>Rat.zero_add x
 apiPlaceF h k ((z _).trans e1) ((z _).trans e2) ((z _).trans e3) hr
theorem text_no {c:Rat} (h:c≠0):((writeB c).toList==(⟨#[48]⟩:ByteArray).toList)=false:=ne_list (write_ne_zero (numr_ne h))
theorem origin_no {a b c:Rat} (h:dt a b c a b c=1):Fits Tryz.prog 40 [vS a b c] (bl false):=isOriginT (by
 by_cases h1:a=0
 ·by_cases h2:b=0
  ·rw [text_no fun h3=>zero_no h h1 h2 h3,Bool.and_false]
  ·rw [text_no h2,Bool.and_false,Bool.false_and]
 ·rw [text_no h1,Bool.false_and,Bool.false_and])
theorem dot_no {a b c x y z:Rat} (h1:Bq k a) (h2:Bq k b) (h3:Bq k c) (g1:Bq k x) (g2:Bq k y) (g3:Bq k z) (hk:k≤600) (h:dt a b c x y z=0):Fits Tryz.prog 17 [vS a b c,vS x y z] (tx (writeB ((0:Int):Rat))):=by
 have:=dotV h1 h2 h3 g1 g2 g3 (by omega)
 rw [h] at this
 exact this
theorem On.ck (h:On x1 x2 x3 y1 y2 y3 z1 z2 z3) (b:Bn k x1 x2 x3 y1 y2 y3 z1 z2 z3) (hk:k≤600):Fits Tryz.prog 8 [FR (T9 x1 x2 x3 y1 y2 y3 z1 z2 z3)] (it 0):=by
 have b0:Bq 1 ((0:Int):Rat):=bq_int (by decide) (by omega)
 have i0:Fits Tryz.prog 103 [tx (writeB ((0:Int):Rat))] (bl true):=isZeroT (by rw [w0];exact beq_self_eq_true _)
 have hc:=crossV b.y1 b.y2 b.y3 b.z1 b.z2 b.z3 (by omega)
 rw [h.c1,h.c2,h.c3] at hc
 have hd:=dotV b.x1 b.x2 b.x3 b.x1 b.x2 b.x3 (by omega)
 rw [h.xx] at hd
 exact checkFrameR (checkVec3 (chkB b0 (by omega)) (chkB b0 (by omega)) (chkB b0 (by omega))) (checkVec3 (chkB b.x1 hk) (chkB b.x2 hk) (chkB b.x3 hk)) (checkVec3 (chkB b.y1 hk) (chkB b.y2 hk) (chkB b.y3 hk)) (checkVec3 (chkB b.z1 hk) (chkB b.z2 hk) (chkB b.z3 hk))
  (origin_no h.xx) (origin_no h.yy) (origin_no h.zz) (shapeR (dot_no b.x1 b.x2 b.x3 b.y1 b.y2 b.y3 hk h.xy) i0 (dot_no b.y1 b.y2 b.y3 b.z1 b.z2 b.z3 hk h.yz) i0 (dot_no b.z1 b.z2 b.z3 b.x1 b.x2 b.x3 hk h.zx) i0 (detR hc hd) (kn_L (signFp (q:=1) (by decide))))
theorem On.st (h:On x1 x2 x3 y1 y2 y3 z1 z2 z3) (b:Bn k x1 x2 x3 y1 y2 y3 z1 z2 z3) (hk:k≤600):Fits Tryz.prog 9 [FR (T9 x1 x2 x3 y1 y2 y3 z1 z2 z3)] one3:=by
 have s1:=squareV b.x1 b.x2 b.x3 (by omega)
 have s2:=squareV b.y1 b.y2 b.y3 (by omega)
 have s3:=squareV b.z1 b.z2 b.z3 (by omega)
 rw [h.xx] at s1
 rw [h.yy] at s2
 rw [h.zz] at s3
 exact stretchR s1 s2 s3
theorem ld_bq {a b c x y z:Rat} {l n:Nat} (h1:Bq k a) (h2:Bq k b) (h3:Bq k c) (g1:Bq l x) (g2:Bq l y) (g3:Bq l z) (hn:3*(k+l)+2≤n):Bq n (ld a b c x y z):=Bq.dt h1 h2 h3 g1 g2 g3 hn
theorem mlt_one {a b c:Rat} (h:dt x1 x2 x3 x1 x2 x3=1):mlt a b c x1 x2 x3=dt a b c x1 x2 x3:=by
 unfold mlt
 rw [h,Rat.div_def]
 have:=Rat.inv_mul_cancel (1:Rat) (by decide)
 rw [Rat.mul_one] at this
 rw [this,Rat.mul_one]
theorem inv_W (h:On x1 x2 x3 y1 y2 y3 z1 z2 z3) (i:On x1 y1 z1 x2 y2 z2 x3 y3 z3) (b:Bn k x1 x2 x3 y1 y2 y3 z1 z2 z3) (hk:k≤600):FitsW Tryz.prog Gl 11 [FR (T9 x1 x2 x3 y1 y2 y3 z1 z2 z3)] (okFR (T9 x1 y1 z1 x2 y2 z2 x3 y3 z3)):=by
 have t0:((0:Int):Rat)=0:=rfl
 have t1:((1:Int):Rat)=1:=rfl
 have n1:(1:Rat)≠0:=by decide
 have hb:Bn k x1 y1 z1 x2 y2 z2 x3 y3 z3:=⟨b.x1,b.y1,b.z1,b.x2,b.y2,b.z2,b.x3,b.y3,b.z3⟩
 exact apiInverseF (h.fv b hk) ⟨by rw [h.xx];exact n1,by rw [h.yy];exact n1,by rw [h.zz];exact n1⟩
  (by rw [mlt_one h.xx,t0];unfold dt;grind) (by rw [mlt_one h.yy,t0];unfold dt;grind) (by rw [mlt_one h.zz,t0];unfold dt;grind)
  (by rw [mlt_one h.xx,t0,t1];unfold dt;grind) (by rw [mlt_one h.yy,t0,t1];unfold dt;grind) (by rw [mlt_one h.zz,t0,t1];unfold dt;grind)
  (by rw [mlt_one h.xx,t0,t1];unfold dt;grind) (by rw [mlt_one h.yy,t0,t1];unfold dt;grind) (by rw [mlt_one h.zz,t0,t1];unfold dt;grind)
  (by rw [mlt_one h.xx,t0,t1];unfold dt;grind) (by rw [mlt_one h.yy,t0,t1];unfold dt;grind) (by rw [mlt_one h.zz,t0,t1];unfold dt;grind)
  (hb.wf hk) i.xy i.yz i.zx
theorem comp_W (h:Rt x1 x2 x3 y1 y2 y3 z1 z2 z3) (g:On u1 u2 u3 v1 v2 v3 w1 w2 w3) (b:Bn k x1 x2 x3 y1 y2 y3 z1 z2 z3) (b' : Bn k u1 u2 u3 v1 v2 v3 w1 w2 w3) (hk:6*k+2≤600) :
 FitsW Tryz.prog Gl 14 [FR (T9 x1 x2 x3 y1 y2 y3 z1 z2 z3),FR (T9 u1 u2 u3 v1 v2 v3 w1 w2 w3)] (okFR (T9 (ld u1 u2 u3 x1 y1 z1) (ld u1 u2 u3 x2 y2 z2) (ld u1 u2 u3 x3 y3 z3) (ld v1 v2 v3 x1 y1 z1) (ld v1 v2 v3 x2 y2 z2) (ld v1 v2 v3 x3 y3 z3) (ld w1 w2 w3 x1 y1 z1) (ld w1 w2 w3 x2 y2 z2) (ld w1 w2 w3 x3 y3 z3))) ∧
 Bn (6*k+2) (ld u1 u2 u3 x1 y1 z1) (ld u1 u2 u3 x2 y2 z2) (ld u1 u2 u3 x3 y3 z3) (ld v1 v2 v3 x1 y1 z1) (ld v1 v2 v3 x2 y2 z2) (ld v1 v2 v3 x3 y3 z3) (ld w1 w2 w3 x1 y1 z1) (ld w1 w2 w3 x2 y2 z2) (ld w1 w2 w3 x3 y3 z3):=by
 have t0:((0:Int):Rat)=0:=rfl
 have z:∀ a b c:Rat,((0:Int):Rat)+ld ((0:Int):Rat) ((0:Int):Rat) ((0:Int):Rat) a b c=((0:Int):Rat):=fun a b c=>by rw [t0];unfold ld;grind
 have o:=On.mul h g
 have B:Bn (6*k+2) (ld u1 u2 u3 x1 y1 z1) (ld u1 u2 u3 x2 y2 z2) (ld u1 u2 u3 x3 y3 z3) (ld v1 v2 v3 x1 y1 z1) (ld v1 v2 v3 x2 y2 z2) (ld v1 v2 v3 x3 y3 z3) (ld w1 w2 w3 x1 y1 z1) (ld w1 w2 w3 x2 y2 z2) (ld w1 w2 w3 x3 y3 z3) :=
  ⟨ld_bq b'.x1 b'.x2 b'.x3 b.x1 b.y1 b.z1 (by omega),ld_bq b'.x1 b'.x2 b'.x3 b.x2 b.y2 b.z2 (by omega),ld_bq b'.x1 b'.x2 b'.x3 b.x3 b.y3 b.z3 (by omega),
   ld_bq b'.y1 b'.y2 b'.y3 b.x1 b.y1 b.z1 (by omega),ld_bq b'.y1 b'.y2 b'.y3 b.x2 b.y2 b.z2 (by omega),ld_bq b'.y1 b'.y2 b'.y3 b.x3 b.y3 b.z3 (by omega),
   ld_bq b'.z1 b'.z2 b'.z3 b.x1 b.y1 b.z1 (by omega),ld_bq b'.z1 b'.z2 b'.z3 b.x2 b.y2 b.z2 (by omega),ld_bq b'.z1 b'.z2 b'.z3 b.x3 b.y3 b.z3 (by omega)⟩
 exact ⟨apiComposeF (h.toOn.fv b (by omega)) (g.fv b' (by omega)) (z _ _ _) (z _ _ _) (z _ _ _) rfl rfl rfl rfl rfl rfl rfl rfl rfl (B.wf hk) o.xy o.yz o.zx,B⟩
end
theorem t0_eq {q:Rat} (h:q=0):((writeB q).toList==(⟨#[48]⟩:ByteArray).toList)=true:=by
 have e:writeB q=⟨#[48]⟩:=by rw [h];exact w0
 rw [e]
 exact beq_self_eq_true _
theorem tc_eq {w s D c v u N Q:Rat} (hN:w*w+s=N) (hQ:(w*w-s)*v+2*w*c+2*D*u=Q):tc w s D c v u=Q/N:=by
 have t1:((1:Int):Rat)=1:=rfl
 have t2:((2:Int):Rat)=2:=rfl
 unfold tc
 rw [hN,t1,t2,hQ,Rat.div_def,Rat.one_mul,Rat.div_def,Rat.mul_comm]
section
variable {w a b c:Rat}
abbrev FT (w a b c:Rat):Tx:=T9 (rd w a b c) (ro w a b c) (ro w a c (-b)) (ro w b a (-c)) (rd w b a c) (ro w b c a) (ro w c a b) (ro w c b (-a)) (rd w c a b)
theorem nm_zero (h:w=0) (h1:a=0) (h2:b=0) (h3:c=0):nm w a b c=0:=by rw [h,h1,h2,h3];unfold nm;grind
theorem nm_ne (h:¬ (w=0∧a=0∧b=0∧c=0)):nm w a b c≠0:=fun e=>by
 have h0:=sq_nonneg w
 have h1:=sq_nonneg a
 have h2:=sq_nonneg b
 have h3:=sq_nonneg c
 unfold nm at e
 have k0:w*w=0:=by grind
 have k1:a*a=0:=by grind
 have k2:b*b=0:=by grind
 have k3:c*c=0:=by grind
 exact h ⟨by grind,by grind,by grind,by grind⟩
theorem turn_W {k:Nat} (hw:Wr w) (ha:Wr a) (hb:Wr b) (hc:Wr c) (h:nm w a b c≠0) (hB:Bn k (rd w a b c) (ro w a b c) (ro w a c (-b)) (ro w b a (-c)) (rd w b a c) (ro w b c a) (ro w c a b) (ro w c b (-a)) (rd w c a b)) (hk:k≤600):TurnW (Q4 (tx4 w a b c)) (okFR (FT w a b c)):=by
 have l:∀ {q:Rat},Wr q→Lf 8 q:=fun hq=>hq.lf.mono (by decide)
 have i1:Lf 8 ((1:Int):Rat):=Lf.int (Lv.one _ (by rw [W64_eq];decide))
 have i0:Lf 8 ((0:Int):Rat):=Lf.int (Lv.one _ (by rw [W64_eq];decide))
 have t0:((0:Int):Rat)=0:=rfl
 have t1:((1:Int):Rat)=1:=rfl
 have t2:((2:Int):Rat)=2:=rfl
 have hn:w*w+dt a b c a b c≠0:=fun e=>h (by unfold nm;rw [← e];unfold dt;grind)
 have f1:=turnedF (l hw) (l ha) (l hb) (l hc) i1 i0 i0 hn
 have f2:=turnedF (l hw) (l ha) (l hb) (l hc) i0 i1 i0 hn
 have f3:=turnedF (l hw) (l ha) (l hb) (l hc) i0 i0 i1 hn
 simp only [t0,t1] at f1 f2 f3
 rw [tc_eq (N:=nm w a b c) (Q:=w*w+a*a-b*b-c*c) (by unfold nm dt;grind) (by unfold dt;grind),tc_eq (N:=nm w a b c) (Q:=2*(a*b+w*c)) (by unfold nm dt;grind) (by unfold dt;grind),tc_eq (N:=nm w a c (-b)) (Q:=2*(a*c+w * -b)) (by unfold nm dt;grind) (by unfold dt;grind)] at f1
 rw [tc_eq (N:=nm w b a (-c)) (Q:=2*(b*a+w * -c)) (by unfold nm dt;grind) (by unfold dt;grind),tc_eq (N:=nm w b a c) (Q:=w*w+b*b-a*a-c*c) (by unfold nm dt;grind) (by unfold dt;grind),tc_eq (N:=nm w b c a) (Q:=2*(b*c+w*a)) (by unfold nm dt;grind) (by unfold dt;grind)] at f2
 rw [tc_eq (N:=nm w c a b) (Q:=2*(c*a+w*b)) (by unfold nm dt;grind) (by unfold dt;grind),tc_eq (N:=nm w c b (-a)) (Q:=2*(c*b+w * -a)) (by unfold nm dt;grind) (by unfold dt;grind),tc_eq (N:=nm w c a b) (Q:=w*w+c*c-a*a-b*b) (by unfold nm dt;grind) (by unfold dt;grind)] at f3
 refine apiTurnF (b:=decide (w=0)) hw ⟨ha,hb,hc⟩ rfl (fun h0=>dec_and fun ⟨h1,h2,h3⟩=>h (nm_zero (of_decide_eq_true h0) h1 h2 h3)) ?_ ?_ ?_ (hB.wf hk)
 ·exact f1
 ·exact f2
 ·exact f3
theorem rd_conj:rd w (-a) (-b) (-c)=rd w a b c:=by
 have e:∀ x:Rat,-x * -x=x*x:=fun x=>by grind
 unfold rd nm
 rw [e,e,e]
theorem ro_conj:ro w (-a) (-b) (-c)=ro w b a (-c):=by
 unfold ro nm
 have e1:w*w + -a * -a + -b * -b + -c * -c=w*w+b*b+a*a + -c * -c:=by grind
 have e2:-a * -b+w * -c=b*a+w * -c:=by grind
 rw [e1,e2]
theorem div_scale {p q t:Rat} (ht:t≠0):t*t*p/(t*t*q)=p/q:=by
 by_cases hq:q=0
 ·rw [hq,Rat.mul_zero,Rat.div_def,Rat.div_def,Rat.inv_zero,Rat.mul_zero,Rat.mul_zero]
 ·have h2:t*t*q≠0:=fun e=>(Rat.mul_eq_zero.1 e).elim (fun e=>(Rat.mul_eq_zero.1 e).elim ht ht) hq
  have h1:(t*t*q)⁻¹*(t*t*q)=1:=Rat.inv_mul_cancel _ h2
  have h3:q⁻¹*q=1:=Rat.inv_mul_cancel _ hq
  rw [Rat.div_def,Rat.div_def]
  generalize (t*t*q)⁻¹=i at *
  generalize q⁻¹=j at *
  have:i*(t*t)=j:=by
   have e:i*(t*t)*q=1:=by rw [← h1];grind
   calc i*(t*t)=i*(t*t)*(j*q):=by rw [h3,Rat.mul_one]
    _=i*(t*t)*q*j:=by grind
    _=j:=by rw [e,Rat.one_mul]
  rw [← this]
  grind
theorem rd_scale {t:Rat} (ht:t≠0):rd (t*w) (t*a) (t*b) (t*c)=rd w a b c:=by
 have e1:t*w*(t*w)+t*a*(t*a)-t*b*(t*b)-t*c*(t*c)=t*t*(w*w+a*a-b*b-c*c):=by grind
 have e2:nm (t*w) (t*a) (t*b) (t*c)=t*t*nm w a b c:=by unfold nm;grind
 unfold rd
 rw [e1,e2,div_scale ht]
theorem ro_scale {t:Rat} (ht:t≠0):ro (t*w) (t*a) (t*b) (t*c)=ro w a b c:=by
 have e1:((2:Int):Rat)*(t*a*(t*b)+t*w*(t*c))=t*t*(((2:Int):Rat)*(a*b+w*c)):=by grind
 have e2:nm (t*w) (t*a) (t*b) (t*c)=t*t*nm w a b c:=by unfold nm;grind
 unfold ro
 rw [e1,e2,div_scale ht]
theorem ro_scale' {t:Rat} (ht:t≠0):ro (t*w) (t*a) (t*b) (-(t*c))=ro w a b (-c):=by
 have e:-(t*c)=t * -c:=by grind
 rw [e,ro_scale ht]
end
section
variable {w a b c w' a' b' c' p1 p2 p3 s1 s2 s3:Rat}
theorem bn_rot (hw:Bq 3 w) (ha:Bq 3 a) (hb:Bq 3 b) (hc:Bq 3 c) (h:nm w a b c≠0):Bn 25 (rd w a b c) (ro w a b c) (ro w a c (-b)) (ro w b a (-c)) (rd w b a c) (ro w b c a) (ro w c a b) (ro w c b (-a)) (rd w c a b) :=
 have n1:nm w a c b≠0:=fun e=>h (by rw [← e];unfold nm;grind)
 have n2:nm w b a c≠0:=fun e=>h (by rw [← e];unfold nm;grind)
 have n3:nm w b c a≠0:=fun e=>h (by rw [← e];unfold nm;grind)
 have n4:nm w c a b≠0:=fun e=>h (by rw [← e];unfold nm;grind)
 have n5:nm w c b a≠0:=fun e=>h (by rw [← e];unfold nm;grind)
 ⟨(bq_rot hw ha hb hc h).1,(bq_rot hw ha hb hc h).2.1,(bq_rot hw ha hc hb n1).2.2,(bq_rot hw hb ha hc n2).2.2,(bq_rot hw hb ha hc n2).1,(bq_rot hw hb hc ha n3).2.1,(bq_rot hw hc ha hb n4).2.1,(bq_rot hw hc hb ha n5).2.2,(bq_rot hw hc ha hb n4).1⟩
theorem mul_lit {s u:ByteArray} {q:Rat} (h:Fits Tryz.prog 13 [tx (writeB ((-3:Int):Rat)),tx s] (tx u)):Fits Tryz.prog 13 [lt m3,tx s] (tx u):=by
 have e:writeB ((-3:Int):Rat)=m3:=(write_neg_int (z := -3) (b:=⟨#[UInt8.ofNat (48+3)]⟩) (by omega) (by rw [show (-3:Int).natAbs=3 from rfl];exact decB_small (n:=3) (by omega))).trans (by kernel_rfl)
 rw [e] at h
 exact Fits.args h fun β vs w ⟨v,r,e,h,hr⟩=>⟨v,r,e,sc_lit.2 h,hr⟩
theorem turnsR (fw:Bq 3 w) (fa:Bq 3 a) (fb:Bq 3 b) (fc:Bq 3 c) (gw:Bq 3 w') (ga:Bq 3 a') (gb:Bq 3 b') (gc:Bq 3 c') (hp1:Bq 3 p1) (hp2:Bq 3 p2) (hp3:Bq 3 p3) (hs1:Bq 3 s1) (hs2:Bq 3 s2) (hs3:Bq 3 s3)
 (l1:FL (tx4 w a b c) true) (l2:FL (tx4 w' a' b' c') true) (v1:FV3 (tx3 p1 p2 p3) true) (v2:FV3 (tx3 s1 s2 s3) true) (hq:isZ4 (tx4 w a b c)=false) (hr:isZ4 (tx4 w' a' b' c')=false) (nq:nm w a b c≠0) (nr:nm w' a' b' c'≠0) :
 FitsW Tryz.prog Gl 3 [Q4 (tx4 w a b c),Q4 (tx4 w' a' b' c'),P6 (tx3 p1 p2 p3) (tx3 s1 s2 s3)] (bl true):=by
 have B:=bn_rot fw fa fb fc nq
 have B':=bn_rot gw ga gb gc nr
 have R:=rt_of nq
 have R':=(rt_of nr).toOn
 have W:∀ {q:Rat},Bq 3 q→Wr q:=fun h=>h.wr (by omega)
 have cF:=turn_W (W fw) (W fa) (W fb) (W fc) nq B (by omega)
 have cG:=turn_W (W gw) (W ga) (W gb) (W gc) nr B' (by omega)
 -- the conjugate
 have nc:nm w (-a) (-b) (-c)≠0:=fun e=>nq (by rw [← e];unfold nm;grind)
 have Rc:=(rt_of nc).toOn
 have Bc:=bn_rot fw fa.neg fb.neg fc.neg nc
 have cC:=turn_W (W fw) (W fa.neg) (W fb.neg) (W fc.neg) nc Bc (by omega)
 unfold FT at cC
 have j1:ro w (-a) (-c) (- -b)=ro w c a b:=by rw [ro_conj,Rat.neg_neg]
 have j2:ro w (-b) (-a) (- -c)=ro w a b c:=by rw [ro_conj,Rat.neg_neg]
 have j3:ro w (-c) (-b) (- -a)=ro w b c a:=by rw [ro_conj,Rat.neg_neg]
 have j4:ro w (-b) (-c) (-a)=ro w c b (-a):=ro_conj
 have j5:ro w (-c) (-a) (-b)=ro w a c (-b):=ro_conj
 rw [rd_conj,rd_conj,rd_conj,ro_conj,j1,j2,j3,j4,j5] at cC Rc
 -- three times as much, the other way
 have h3:((-3:Int):Rat)≠0:=by decide
 have b3:Bq 1 ((-3:Int):Rat):=bq_int (by decide) (by omega)
 have M:∀ {q:Rat},Bq 3 q→Wr (((-3:Int):Rat)*q):=fun h=>(b3.mul h).wr (by omega)
 have n3:nm (((-3:Int):Rat)*w) (((-3:Int):Rat)*a) (((-3:Int):Rat)*b) (((-3:Int):Rat)*c)≠0:=fun e=>by
  have e2:nm (((-3:Int):Rat)*w) (((-3:Int):Rat)*a) (((-3:Int):Rat)*b) (((-3:Int):Rat)*c)=((-3:Int):Rat)*((-3:Int):Rat)*nm w a b c:=by unfold nm;grind
  rw [e2] at e
  exact (Rat.mul_eq_zero.1 e).elim (fun e=>(Rat.mul_eq_zero.1 e).elim h3 h3) nq
 have cM:=turn_W (k:=25) (M fw) (M fa) (M fb) (M fc) n3 (by rw [rd_scale h3,rd_scale h3,rd_scale h3,ro_scale h3,ro_scale h3,ro_scale h3,ro_scale' h3,ro_scale' h3,ro_scale' h3];exact B) (by omega)
 unfold FT at cM
 rw [rd_scale h3,rd_scale h3,rd_scale h3,ro_scale h3,ro_scale h3,ro_scale h3,ro_scale' h3,ro_scale' h3,ro_scale' h3] at cM
 have mm:∀ {q:Rat},Bq 3 q→Fits Tryz.prog 13 [lt m3,tx (writeB q)] (tx (writeB (((-3:Int):Rat)*q))):=fun {q} h=>mul_lit (q:=q) (kn_S (refMulF (b3.zs (by omega)) (h.zs (by omega))))
 have ng:∀ {q:Rat},Bq 3 q→Fits Tryz.prog 12 [tx (writeB q)] (tx (writeB (-q))):=fun h=>kn_1 (negR (by have:=zs_len (h.zs (by omega));omega))
 unfold FT at cF cG
 generalize rd w a b c=x1 at *
 generalize ro w a b c=x2 at *
 generalize ro w a c (-b)=x3 at *
 generalize ro w b a (-c)=y1 at *
 generalize rd w b a c=y2 at *
 generalize ro w b c a=y3 at *
 generalize ro w c a b=z1 at *
 generalize ro w c b (-a)=z2 at *
 generalize rd w c a b=z3 at *
 generalize rd w' a' b' c'=u1 at *
 generalize ro w' a' b' c'=u2 at *
 generalize ro w' a' c' (-b')=u3 at *
 generalize ro w' b' a' (-c')=v1' at *
 generalize rd w' b' a' c'=v2' at *
 generalize ro w' b' c' a'=v3' at *
 generalize ro w' c' a' b'=w1' at *
 generalize ro w' c' b' (-a')=w2' at *
 generalize rd w' c' a' b'=w3' at *
 have O:=R.toOn
 have Fo:=O.fv B (by omega)
 have Go':=R'.fv B' (by omega)
 obtain ⟨cH,BH⟩:=comp_W R R' B B' (by omega)
 have OH:=On.mul R R'
 have Ho:=OH.fv BH (by omega)
 have BI:Bn 25 x1 y1 z1 x2 y2 z2 x3 y3 z3:=⟨B.x1,B.y1,B.z1,B.x2,B.y2,B.z2,B.x3,B.y3,B.z3⟩
 have wp:Wr3 p1 p2 p3:=⟨W hp1,W hp2,W hp3⟩
 have ws:Wr3 s1 s2 s3:=⟨W hs1,W hs2,W hs3⟩
 have pa:∀ {i1 i2 i3 j1 j2 j3 k1 k2 k3 t1 t2 t3:Rat},Bn 25 i1 i2 i3 j1 j2 j3 k1 k2 k3→Bq 3 t1→Bq 3 t2→Bq 3 t3→Bq 86 (ld t1 t2 t3 i1 j1 k1)∧Bq 86 (ld t1 t2 t3 i2 j2 k2)∧Bq 86 (ld t1 t2 t3 i3 j3 k3):=fun b h1 h2 h3 =>
  ⟨ld_bq h1 h2 h3 b.x1 b.y1 b.z1 (by omega),ld_bq h1 h2 h3 b.x2 b.y2 b.z2 (by omega),ld_bq h1 h2 h3 b.x3 b.y3 b.z3 (by omega)⟩
 have W3:∀ {k:Nat} {i j t:Rat},k≤600→Bq k i∧Bq k j∧Bq k t→Wr3 i j t:=fun hk h=>⟨h.1.wr hk,h.2.1.wr hk,h.2.2.wr hk⟩
 have qa:=pa B hp1 hp2 hp3
 have qb:=pa B hs1 hs2 hs3
 have qx:=pa B' hp1 hp2 hp3
 have qy:Bq 335 (ld (ld p1 p2 p3 u1 v1' w1') (ld p1 p2 p3 u2 v2' w2') (ld p1 p2 p3 u3 v3' w3') x1 y1 z1)∧Bq 335 (ld (ld p1 p2 p3 u1 v1' w1') (ld p1 p2 p3 u2 v2' w2') (ld p1 p2 p3 u3 v3' w3') x2 y2 z2)∧Bq 335 (ld (ld p1 p2 p3 u1 v1' w1') (ld p1 p2 p3 u2 v2' w2') (ld p1 p2 p3 u3 v3' w3') x3 y3 z3) :=
  ⟨ld_bq qx.1 qx.2.1 qx.2.2 B.x1 B.y1 B.z1 (by omega),ld_bq qx.1 qx.2.1 qx.2.2 B.x2 B.y2 B.z2 (by omega),ld_bq qx.1 qx.2.1 qx.2.2 B.x3 B.y3 B.z3 (by omega)⟩
 have cA:=place_W Fo wp rfl rfl rfl (W3 (by omega) qa)
 have cB:=place_W Fo ws rfl rfl rfl (W3 (by omega) qb)
 have cX:=place_W Go' wp rfl rfl rfl (W3 (by omega) qx)
 have cY:=place_W Fo (W3 (by omega) qx) rfl rfl rfl (W3 (by omega) qy)
 have cZ:=place_W Ho wp ld_ld.symm ld_ld.symm ld_ld.symm (W3 (by omega) qy)
 have bk:=Rt.back (u1:=p1) (u2:=p2) (u3:=p3) O
 have cU:=place_W (Rc.fv BI (by omega)) (W3 (by omega) qa) bk.1 bk.2.1 bk.2.2 wp
 have dA:=dotV qa.1 qa.2.1 qa.2.2 qb.1 qb.2.1 qb.2.2 (by omega)
 rw [R.dot] at dA
 exact turns_walk (c:=tx4 w (-a) (-b) (-c)) (m:=tx4 (((-3:Int):Rat)*w) (((-3:Int):Rat)*a) (((-3:Int):Rat)*b) (((-3:Int):Rat)*c)) l1 l2 v1 v2 hq hr cF cG (O.ck B (by omega)) (R'.ck B' (by omega)) (O.st B (by omega)) (inv_W O Rc B (by omega)) (ng fa) (ng fb) (ng fc) cC (mm fw) (mm fa) (mm fb) (mm fc) cM cH cA cB
  (checkVec3 (chkB qa.1 (by omega)) (chkB qa.2.1 (by omega)) (chkB qa.2.2 (by omega))) (checkVec3 (chkB qb.1 (by omega)) (chkB qb.2.1 (by omega)) (chkB qb.2.2 (by omega))) (OH.ck BH (by omega)) cX cY cZ cU dA (dotV hp1 hp2 hp3 hs1 hs2 hs3 (by omega))
end
open Classical in
theorem few3B (s:ByteArray):Fits Tryz.prog 28 [tx s,it 3] (bl (decide (Fy 3 s))):=by
 by_cases h:Fy 3 s
 ·rw [decide_eq_true h]
  obtain ⟨q,rfl,h⟩:=h
  exact kn_F (few3Yes h)
 ·rw [decide_eq_false h]
  exact kn_F (few3No h)
open Classical in
theorem fewVecB (p:Tx):FV3 p (decide (Fy 3 (p 0))&&decide (Fy 3 (p 1))&&decide (Fy 3 (p 2))):=by
 have h0:=few3B (p 0)
 have h1:=few3B (p 1)
 have h2:=few3B (p 2)
 generalize decide (Fy 3 (p 0))=a at *
 generalize decide (Fy 3 (p 1))=b at *
 generalize decide (Fy 3 (p 2))=c at *
 cases a
 ·exact fewVecF1 h0
 ·cases b
  ·exact fewVecF2 h0 h1
  ·cases c
   ·exact fewVecF3 h0 h1 h2
   ·exact fewVecT h0 h1 h2
open Classical in
theorem fewListB (q:Tx):FL q (decide (Fy 3 (q 0))&&decide (Fy 3 (q 1))&&decide (Fy 3 (q 2))&&decide (Fy 3 (q 3))):=by
 cases e:(decide (Fy 3 (q 0))&&decide (Fy 3 (q 1))&&decide (Fy 3 (q 2))&&decide (Fy 3 (q 3))) with
 | false=>exact fewListF (y:=fun s=>decide (Fy 3 s)) few3B e
 | true =>
   simp only [Bool.and_eq_true] at e
   have h0:=few3B (q 0)
   have h1:=few3B (q 1)
   have h2:=few3B (q 2)
   have h3:=few3B (q 3)
   rw [e.1.1.1] at h0
   rw [e.1.1.2] at h1
   rw [e.1.2] at h2
   rw [e.2] at h3
   exact fewListT h0 h1 h2 h3
theorem isZ4_no {w a b c:Rat} (h:isZ4 (tx4 w a b c)=false):nm w a b c≠0:=nm_ne fun ⟨h0,h1,h2,h3⟩=>by
 have:isZ4 (tx4 w a b c)=true:=by
  show ((writeB w).toList==(⟨#[48]⟩:ByteArray).toList&&(writeB a).toList==(⟨#[48]⟩:ByteArray).toList&&(writeB b).toList==(⟨#[48]⟩:ByteArray).toList&&(writeB c).toList==(⟨#[48]⟩:ByteArray).toList)=true
  rw [t0_eq h0,t0_eq h1,t0_eq h2,t0_eq h3]
  rfl
 rw [this] at h
 cases h
theorem turn0:TurnW zero4 zeroF:=by
 have b0:Wr ((0:Int):Rat):=(bq_int (k:=1) (by decide) (by omega)).wr (by omega)
 have h:=apiTurnZeroF b0 ⟨b0,b0,b0⟩ rfl rfl
 rw [w0] at h
 exact h.args fun β vs w ⟨v,r,e,h,hr⟩=>⟨v,r,e,(ag_lit (.txt (.txt (.txt (.txt .nil))))).2 h,hr⟩
open Classical in
theorem turnsF (q r p s:Tx):FitsW Tryz.prog Gl 3 [Q4 q,Q4 r,P6 p s] (bl true):=by
 have l1:=fewListB q
 have l2:=fewListB r
 have v1:=fewVecB p
 have v2:=fewVecB s
 by_cases h1:Fy 3 (q 0)∧Fy 3 (q 1)∧Fy 3 (q 2)∧Fy 3 (q 3)
 ·by_cases h2:Fy 3 (r 0)∧Fy 3 (r 1)∧Fy 3 (r 2)∧Fy 3 (r 3)
  ·by_cases h3:Fy 3 (p 0)∧Fy 3 (p 1)∧Fy 3 (p 2)
   ·by_cases h4:Fy 3 (s 0)∧Fy 3 (s 1)∧Fy 3 (s 2)
    ·obtain ⟨⟨w,e0,f0⟩,⟨a,e1,f1⟩,⟨b,e2,f2⟩,⟨c,e3,f3⟩⟩:=h1
     obtain ⟨⟨w',e4,f4⟩,⟨a',e5,f5⟩,⟨b',e6,f6⟩,⟨c',e7,f7⟩⟩:=h2
     obtain ⟨⟨p1,k1,g1⟩,⟨p2,k2,g2⟩,⟨p3,k3,g3⟩⟩:=h3
     obtain ⟨⟨s1,k4,g4⟩,⟨s2,k5,g5⟩,⟨s3,k6,g6⟩⟩:=h4
     simp only [show Fy 3 (q 0) from ⟨w,e0,f0⟩,show Fy 3 (q 1) from ⟨a,e1,f1⟩,show Fy 3 (q 2) from ⟨b,e2,f2⟩,show Fy 3 (q 3) from ⟨c,e3,f3⟩,decide_true,Bool.and_self] at l1
     simp only [show Fy 3 (r 0) from ⟨w',e4,f4⟩,show Fy 3 (r 1) from ⟨a',e5,f5⟩,show Fy 3 (r 2) from ⟨b',e6,f6⟩,show Fy 3 (r 3) from ⟨c',e7,f7⟩,decide_true,Bool.and_self] at l2
     simp only [show Fy 3 (p 0) from ⟨p1,k1,g1⟩,show Fy 3 (p 1) from ⟨p2,k2,g2⟩,show Fy 3 (p 2) from ⟨p3,k3,g3⟩,decide_true,Bool.and_self] at v1
     simp only [show Fy 3 (s 0) from ⟨s1,k4,g4⟩,show Fy 3 (s 1) from ⟨s2,k5,g5⟩,show Fy 3 (s 2) from ⟨s3,k6,g6⟩,decide_true,Bool.and_self] at v2
     by_cases hz:isZ4 q=true∨isZ4 q=false∧isZ4 r=true
     ·exact turns_zero l1 l2 v1 v2 hz turn0
     ·have hq:isZ4 q=false:=by
       cases e:isZ4 q with
       | true=>exact absurd (.inl e) hz
       | false=>rfl
      have hr:isZ4 r=false:=by
       cases e:isZ4 r with
       | true=>exact absurd (.inr ⟨hq,e⟩) hz
       | false=>rfl
      show FitsW Tryz.prog Gl 3 [.fv (.ag (q4 (q 0) (q 1) (q 2) (q 3))),.fv (.ag (q4 (r 0) (r 1) (r 2) (r 3))),.fv (.ag [isS (p 0),isS (p 1),isS (p 2),isS (s 0),isS (s 1),isS (s 2)])] (bl true)
      unfold isZ4 at hq hr
      unfold FL at l1 l2
      unfold FV3 V3 at v1 v2
      rw [e0,e1,e2,e3] at l1 hq
      rw [e4,e5,e6,e7] at l2 hr
      rw [k1,k2,k3] at v1
      rw [k4,k5,k6] at v2
      rw [e0,e1,e2,e3,e4,e5,e6,e7,k1,k2,k3,k4,k5,k6]
      exact turnsR (bq_of f0) (bq_of f1) (bq_of f2) (bq_of f3) (bq_of f4) (bq_of f5) (bq_of f6) (bq_of f7) (bq_of g1) (bq_of g2) (bq_of g3) (bq_of g4) (bq_of g5) (bq_of g6) l1 l2 v1 v2 hq hr (isZ4_no hq) (isZ4_no hr)
    ·exact turns_no l1 l2 v1 v2 (by rw [dec_and (p:=Fy 3 (s 0)) h4,Bool.and_false])
   ·exact turns_no l1 l2 v1 v2 (by rw [dec_and (p:=Fy 3 (p 0)) h3,Bool.and_false,Bool.false_and])
  ·exact turns_no l1 l2 v1 v2 (by
    have:(decide (Fy 3 (r 0))&&decide (Fy 3 (r 1))&&decide (Fy 3 (r 2))&&decide (Fy 3 (r 3)))=false:=by
     rw [Bool.eq_false_iff];intro e;simp only [Bool.and_eq_true,decide_eq_true_eq] at e;exact h2 ⟨e.1.1.1,e.1.1.2,e.1.2,e.2⟩
    rw [this,Bool.and_false,Bool.false_and,Bool.false_and])
 ·exact turns_no l1 l2 v1 v2 (by
   have:(decide (Fy 3 (q 0))&&decide (Fy 3 (q 1))&&decide (Fy 3 (q 2))&&decide (Fy 3 (q 3)))=false:=by
    rw [Bool.eq_false_iff];intro e;simp only [Bool.and_eq_true,decide_eq_true_eq] at e;exact h1 ⟨e.1.1.1,e.1.1.2,e.1.2,e.2⟩
   rw [this,Bool.false_and,Bool.false_and,Bool.false_and])
end Go.Proofs.YtbhcckhbbclemaaGreatDoor.Ab
namespace Go.Proofs.YtbhcckhbbclemaaGreatDoor.Ab
open Go.ChangeShapes Go.WideShapes Go.ChangeAt Go.RowKit Go.Proofs.YtbhcckhbbclemaaGreatDoor
theorem gPow:Tryz.prog.globalNamed "internal/strconv.uint64pow10" = some 7:=by kernel_rfl
theorem gl_of {W:World} {r:List (String×DataW Unit)} (h:laidMet Tryz.prog (("internal/strconv.uint64pow10",Lib.tabData .u64 Lib.pow10Tab)::r) W) (hs:W.ShapedOpen Tryz.prog):Gl W :=
 ⟨Lib.tabIs_of_head (t:=295) (e:=175) (n:=20) gPow (by kernel_rfl) (by kernel_rfl) (by kernel_rfl) (by kernel_rfl) (by kernel_rfl) h,
  Go.Proofs.cell_of_shapedOpen_int (zero := #[.int .i64 0]) (t:=3) hs (of_decide_eq_true (by kernel_rfl)) (by kernel_rfl) rfl (by kernel_rfl) (by kernel_rfl) (by kernel_rfl)⟩
end Go.Proofs.YtbhcckhbbclemaaGreatDoor.Ab
namespace Go.Proofs.YtbhcckhbbclemaaGreatDoor.Ab
open Go.ChangeShapes Go.WideShapes Go.RowKit
def kindAt (P:Program):Nat→TypeId→Nat→Option Bool
 | 0,_,_=>none
 | d+1,T,i=>match P.underlying T with
   | some (.int .i64)=>if i=0 then some false else none
   | some .string=>if i=0 then some true else none
   | some (.array n e)=>if 0<P.cellsOf e∧i/P.cellsOf e<n then kindAt P d e (i%P.cellsOf e) else none
   | some (.struct fs)=>(fs.toList.find? fun f=>decide (f.offset≤i∧i<f.offset+P.cellsOf f.type)).bind fun f=>kindAt P d f.type (i-f.offset)
   | _=>none
def isKind:Bool→Value→Prop
 | true,c => ∃ s:ByteArray,c = .string s∧s.size≤maxLen
 | false,c => ∃ n:Int,c = .int .i64 n∧(Lit.int .i64 n).wf=true
section
variable {H:Type} {enc:TypeId×Value→H} {P:Program} {w:World} {base:Nat} {spare:Nat→Bool} {held:Bool}
theorem piece {cs:List Value} {o n r:Nat} {c:Value} (h:((cs.drop o).take n)[r]?=some c):cs[o+r]?=some c:=by
 rw [List.getElem?_take] at h
 split at h
 ·rw [List.getElem?_drop] at h;exact h
 ·cases h
theorem trod_kind:∀ (d:Nat) {T:TypeId} {fuel i:Nat} {cs:List Value} {x:DataW H×List MemPlace} {k:Bool},DataW.trod enc P w base spare held fuel T cs=some x→kindAt P d T i=some k→∃ c,cs[i]?=some c∧isKind k c:=by
 intro d
 induction d with
 | zero=>intro T fuel i cs x k _ hk;cases hk
 | succ d ih =>
   intro T fuel i cs x k h hk
   unfold kindAt at hk
   split at hk
   ·rename_i hu
    split at hk <;> cases hk
    rename_i h0
    subst h0
    cases fuel with
    | zero=>cases h
    | succ m =>
      unfold DataW.trod at h
      rw [hu] at h
      split at h <;> simp_all
      obtain ⟨⟨_,hw⟩,_⟩:=h
      cases ‹IntKind.i64=_›
      exact ⟨_,rfl,hw⟩
   ·rename_i hu
    split at hk <;> cases hk
    rename_i h0
    subst h0
    cases fuel with
    | zero=>cases h
    | succ m =>
      unfold DataW.trod at h
      rw [hu] at h
      split at h <;> simp_all
      exact ⟨_,rfl,h.1⟩
   ·rename_i n e hu
    split at hk
    ·rename_i hi
     obtain ⟨xs,m,_,_,_,hlen,hat⟩:=DataW.trod_array hu h
     have hq:=hat (i/P.cellsOf e) hi.2
     rw [List.getElem?_eq_getElem (by omega)] at hq
     obtain ⟨c,hc,hk'⟩:=ih hq hk
     refine ⟨c,?_,hk'⟩
     have:=piece hc
     rw [Nat.mul_comm,Nat.div_add_mod] at this
     exact this
    ·cases hk
   ·rename_i fs hu
    rw [Option.bind_eq_some_iff] at hk
    obtain ⟨f,hf,hk⟩:=hk
    have hp:=List.find?_some hf
    simp only [decide_eq_true_eq] at hp
    obtain ⟨j,hj,hje⟩:=List.getElem_of_mem (List.mem_of_find?_eq_some hf)
    obtain ⟨xs,n,_,_,_,hlen,hat⟩:=DataW.trod_struct hu h
    have hq:=hat j f (by rw [← hje];simp)
    rw [List.getElem?_eq_getElem (by simp at hj;omega)] at hq
    obtain ⟨c,hc,hk'⟩:=ih hq hk
    refine ⟨c,?_,hk'⟩
    have:=piece hc
    rw [show f.offset+(i-f.offset)=i by omega] at this
    exact this
   ·cases hk
def plainT (P:Program):Nat→TypeId→Bool
 | 0,_=>false
 | d+1,T=>match P.underlying T with
   | some (.int _)|some .string=>true
   | some (.array _ e)=>plainT P d e
   | some (.struct fs)=>fs.toList.all fun f=>plainT P d f.type
   | _=>false
theorem mapM_same {α β:Type} {f g:α→Option (β×List MemPlace)}:∀ {l:List α} {xs:List (β×List MemPlace)},l.mapM f=some xs→(∀ a∈l,∀ x,f a=some x→g a=some x∧x.2 = [])→l.mapM g=some xs∧xs.flatMap (·.2) = []
 | [],xs,h,_=>by simp at h;subst h;exact ⟨rfl,rfl⟩
 | a::l,xs,h,hs=>by
   rw [List.mapM_cons] at h
   simp only [bind,Option.bind_eq_some_iff,pure,Option.some.injEq] at h
   obtain ⟨y,hy,ys,hys,rfl⟩:=h
   obtain ⟨g1,g2⟩:=hs a (by simp) y hy
   obtain ⟨i1,i2⟩:=mapM_same hys fun b hb=>hs b (by simp [hb])
   exact ⟨by rw [List.mapM_cons,g1,i1];rfl,by simp [g2,i2]⟩
def SameRead (enc:TypeId×Value→H) (P:Program) (w:World) (base:Nat) (spare:Nat→Bool) (held:Bool) (w' : World) (base' : Nat) (spare' : Nat→Bool) (d:Nat):Prop :=
 ∀ (T:TypeId) (fuel:Nat) (cs:List Value) (x:DataW H×List MemPlace),plainT P d T=true→DataW.trod enc P w base spare held fuel T cs=some x→DataW.trod enc P w' base' spare' held fuel T cs=some x∧x.2 = []
theorem trod_plain {w' : World} {base' : Nat} {spare' : Nat→Bool}:∀ d:Nat,SameRead enc P w base spare held w' base' spare' d:=by
 intro d
 induction d with
 | zero=>intro T fuel cs x hp;cases hp
 | succ d ih =>
   intro T fuel cs x hp h
   cases fuel with
   | zero=>cases h
   | succ m =>
     unfold plainT at hp
     unfold DataW.trod at h ⊢
     split at hp
     ·rename_i hu
      rw [hu] at h ⊢
      split at h <;> simp_all <;> (obtain ⟨_,h⟩:=h;rw [← h])
     ·rename_i hu
      rw [hu] at h ⊢
      split at h <;> simp_all <;> (obtain ⟨_,h⟩:=h;rw [← h])
     ·rename_i hu
      rw [hu] at h ⊢
      split at h <;> simp_all
      obtain ⟨hl,xs,hxs,rfl⟩:=h
      obtain ⟨g1,g2⟩:=mapM_same hxs fun a _ x hx=>ih _ _ _ _ hp hx
      exact ⟨⟨xs,g1,rfl⟩,g2⟩
     ·rename_i hu
      rw [hu] at h ⊢
      split at h <;> simp_all
      obtain ⟨hl,xs,hxs,rfl⟩:=h
      obtain ⟨g1,g2⟩:=mapM_same hxs fun a ha x hx=>ih _ _ _ _ (by obtain ⟨j,hj,rfl⟩:=List.getElem_of_mem ha;simpa using hp j (by simpa using hj)) hx
      exact ⟨⟨xs,g1,rfl⟩,g2⟩
     ·cases hp
theorem Trod_plain {w' : World} {base' : Nat} {spare' : Nat→Bool} {T:TypeId} {v:Value} {D:DataW H} {p:List MemPlace} (hp:plainT P 10 T=true) (h:DataW.Trod enc P w base spare held T v D p):p = []∧DataW.Trod enc P w' base' spare' held T v D []:=by
 obtain ⟨fuel,hf⟩:=h
 obtain ⟨h1,h2⟩:=trod_plain (w':=w') (base':=base') (spare':=spare') 10 _ _ _ _ hp hf
 simp only at h2
 subst h2
 exact ⟨rfl,fuel,h1⟩
theorem agg_of {r:Reach} {b0 n:Nat} {T:TypeId} {v:Value} (hu:(match P.underlying T with|some (.struct _)|some (.array _ _)=>true|_=>false)=true) (hC:P.cellsOf T=n) (hv:Value.okWide P w r b0 T v):∃ cs:Array Value,v = .agg cs∧cs.size=n:=by
 split at hu
 ·rename_i hs
  simp only [Value.okWide,hs] at hv
  obtain ⟨cs,h1,h2,_⟩:=hv
  exact ⟨cs,h1,h2.trans hC⟩
 ·rename_i hs
  simp only [Value.okWide,hs] at hv
  obtain ⟨cs,h1,h2,_⟩:=hv
  exact ⟨cs,h1,h2.trans hC⟩
 ·cases hu
theorem cell_at {T:TypeId} {cs:Array Value} {D:DataW H} {p:List MemPlace} {k:Bool} (i:Nat) (h:DataW.Trod enc P w base spare held T (.agg cs) D p) (hk:kindAt P 10 T i=some k):∃ c,cs[i]?=some c∧isKind k c:=by
 obtain ⟨fuel,hf⟩:=h
 obtain ⟨c,h1,h2⟩:=trod_kind 10 hf hk
 exact ⟨c,by simpa [Value.cells] using h1,h2⟩
theorem open_txts {r:Reach} {b0 n:Nat} {T:TypeId} {v:Value} {D:DataW H} {p:List MemPlace} (hu:(match P.underlying T with|some (.struct _)|some (.array _ _)=>true|_=>false)=true) (hC:P.cellsOf T=n)
 (hk:((List.range n).all fun i=>kindAt P 10 T i==some true)=true) (hv:Value.okWide P w r b0 T v) (h:DataW.Trod enc P w base spare held T v D p):∃ l:List ByteArray,l.length=n∧v = .agg (l.map Value.string).toArray:=by
 obtain ⟨cs,rfl,hs⟩:=agg_of hu hC hv
 refine ⟨cs.toList.map fun v=>match v with | .string s=>s|_=>default,by simp [hs],?_⟩
 congr 1
 apply Array.toList_inj.1
 rw [List.map_map]
 apply List.ext_getElem
 ·simp
 ·intro i h1 h2
  have hi:i<n:=by simpa [hs] using h1
  have hk':=List.all_eq_true.1 hk i (List.mem_range.2 hi)
  obtain ⟨c,e,s,rfl,_⟩:=cell_at i h (eq_of_beq hk')
  have e2:cs.toList[i] = .string s:=by
   have:=Array.getElem?_eq_some_iff.1 e
   simpa using this.2
  simp [e2]
end
end Go.Proofs.YtbhcckhbbclemaaGreatDoor.Ab
