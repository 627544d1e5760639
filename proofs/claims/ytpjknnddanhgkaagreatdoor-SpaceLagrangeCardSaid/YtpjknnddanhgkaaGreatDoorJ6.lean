/- Parts of the proof, joined. -/
import Derived.Test.YtpjknnddanhgkaaGreatDoorJ5
import Derived.Test.YtpjknnddanhgkaaGreatDoorJ3
import Derived.OwnWalk
import Derived.Laws.RangeAny
import Derived.Test.YtpjknnddanhgkaaGreatDoorJ4
import Derived.Test.YtpjknnddanhgkaaGreatDoorJ1
set_option maxHeartbeats 4000000
set_option linter.unusedSimpArgs false
set_option linter.unusedVariables false
set_option linter.constructorNameAsVariable false
namespace Go.Proofs.YtpjknnddanhgkaaGreatDoor
namespace Ab
open Go.RowKit Pl
theorem fA {a b:Nat} (ha:a<aD) (hb:b<aD):Fits (Kc:=Kn) Tryz.prog 166 [.fv (.sc (.lit (.int .u64 (a:Int)))),.fv (.sc (.lit (.int .u64 (b:Int))))] (.fv (.sc (.lit (.int .u64 ((Nat.gcd a b:Nat):Int))))):=by
 intro β w vs hv
 obtain ⟨v,u,rfl,h1,h2⟩:=eG hv
 rw [aO h1,aO h2]
 exact (iM a b w ha hb).mono fun e w' ⟨e1,e2⟩=>⟨_,e1,by first|exact e2|(rw [← e2];exact aB _ _),bB rfl⟩
theorem ck_111:jF 139 [iv (1) (1) (1)] (it 0):=by
 refine jG Tryz.func139 fun w00=>?_
 refine jC 166 [.fv (.sc (.lit (.int .u64 ((0:Nat):Int)))),.fv (.sc (.lit (.int .u64 ((1:Nat):Int))))] (fA (by rw [aL];omega) (by rw [aL];omega)) ?_
 refine jC 166 [.fv (.sc (.lit (.int .u64 ((1:Nat):Int)))),.fv (.sc (.lit (.int .u64 ((1:Nat):Int))))] (fA (by rw [aL];omega) (by rw [aL];omega)) ?_
 refine jC 166 [.fv (.sc (.lit (.int .u64 ((1:Nat):Int)))),.fv (.sc (.lit (.int .u64 ((1:Nat):Int))))] (fA (by rw [aL];omega) (by rw [aL];omega)) ?_
 exact jR Tryz.func139
theorem ck_100:jF 139 [iv (1) (0) (0)] (it 0):=by
 refine jG Tryz.func139 fun w00=>?_
 refine jC 166 [.fv (.sc (.lit (.int .u64 ((0:Nat):Int)))),.fv (.sc (.lit (.int .u64 ((1:Nat):Int))))] (fA (by rw [aL];omega) (by rw [aL];omega)) ?_
 refine jC 166 [.fv (.sc (.lit (.int .u64 ((1:Nat):Int)))),.fv (.sc (.lit (.int .u64 ((0:Nat):Int))))] (fA (by rw [aL];omega) (by rw [aL];omega)) ?_
 refine jC 166 [.fv (.sc (.lit (.int .u64 ((1:Nat):Int)))),.fv (.sc (.lit (.int .u64 ((0:Nat):Int))))] (fA (by rw [aL];omega) (by rw [aL];omega)) ?_
 exact jR Tryz.func139
theorem ck_302:jF 139 [iv (3) (0) (-2)] (it 0):=by
 refine jG Tryz.func139 fun w00=>?_
 refine jC 166 [.fv (.sc (.lit (.int .u64 ((0:Nat):Int)))),.fv (.sc (.lit (.int .u64 ((3:Nat):Int))))] (fA (by rw [aL];omega) (by rw [aL];omega)) ?_
 refine jC 166 [.fv (.sc (.lit (.int .u64 ((3:Nat):Int)))),.fv (.sc (.lit (.int .u64 ((0:Nat):Int))))] (fA (by rw [aL];omega) (by rw [aL];omega)) ?_
 refine jC 166 [.fv (.sc (.lit (.int .u64 ((3:Nat):Int)))),.fv (.sc (.lit (.int .u64 ((2:Nat):Int))))] (fA (by rw [aL];omega) (by rw [aL];omega)) ?_
 exact jR Tryz.func139
section
variable {z1 z2 z3:Int} {d p1 p2 p3 n1 n2 n3 e:Rat}
structure Hv (z1 z2 z3:Int) (d:Rat):Prop where
 s1:Sz z1
 s2:Sz z2
 s3:Sz z3
 d:Wr d
 ck:jF 139 [iv z1 z2 z3] (it 0)
theorem dR {z:Int} (h:Sz z) {k:Nat}:Lf k (z:Rat):=Lf.int (Lv.one _ (by have:=h.1;have:=h.2;rw [aL];omega))
theorem m_sz {z:Int} (h:Sz z):yY z:=⟨by have:=h.1;omega,by have:=h.2;omega⟩
theorem readHV (h:Hv z1 z2 z3 d) (k:iC p1 p2 p3):jX 67 [gJ 68,hS z1 z2 z3 d,gJ 38,vS p1 p2 p3] (.tup [.ag [nb z1,nb z2,nb z3,nb d],.ag [nb p1,nb p2,nb p3],.sc z0]):=by
 refine jY Tryz.func67 fun w00 hI=>?_
 refine jW hI 68 [hS z1 z2 z3 d] (xT (m_sz h.s1) (m_sz h.s2) (m_sz h.s3) h.d h.ck) ?_
 refine jW hI 38 [vS p1 p2 p3] (fG k) ?_
 refine jC 65 [.fv (.nsl 2 28 [z0,z0])] (gV) ?_
 exact jR Tryz.func67
theorem apiSideF {s:Int} (h:Hv z1 z2 z3 d) (k:iC p1 p2 p3) (hs:sgnR (dt z1 z2 z3 p1 p2 p3-d)=s):jX 30 [hS z1 z2 z3 d,vS p1 p2 p3] (.tup [.sc (.lit (.int .i64 s)),.sc z0]):=by
 rw [← hs]
 refine jY Tryz.func30 fun w00 hI=>?_
 refine jW hI 67 [gJ 68,hS z1 z2 z3 d,gJ 38,vS p1 p2 p3] (readHV h k) ?_
 refine jC 89 [hf z1 z2 z3 d,vc p1 p2 p3] (zA (dR h.s1) (dR h.s2) (dR h.s3) (h.d.lf.mono (by decide)) (k.1.lf.mono (by decide)) (k.2.1.lf.mono (by decide)) (k.2.2.lf.mono (by decide))) ?_
 refine jC 90 [num (dt z1 z2 z3 p1 p2 p3-d)] (signF) ?_
 exact jR Tryz.func30
theorem zH (k:iC n1 n2 n3) (hd:Wr d) (h:Form n1 n2 n3 d z1 z2 z3 e):jX 21 [vS n1 n2 n3,tx (writeB d)] (qN z1 z2 z3 e):=by
 have h0:(decide (n1=0)&&decide (n2=0)&&decide (n3=0))=false:=by
  rw [Bool.eq_false_iff]
  intro hh
  simp only [Bool.and_eq_true,decide_eq_true_eq] at hh
  exact h.h0 ⟨hh.1.1,hh.1.2,hh.2⟩
 refine jY Tryz.func21 fun w00 hI=>?_
 refine jW hI 63 [gJ 38,vS n1 n2 n3,gJ 52,tx (writeB d)] (readVR k hd) ?_
 refine jC 55 [vc n1 n2 n3] (fF h0) ?_
 refine jW hI 64 [hf n1 n2 n3 d] (zG h) ?_
 exact jR Tryz.func21
variable {a1 a2 a3 b1 b2 b3 c1 c2 c3:Rat}
theorem apiThroughF (ka:iC a1 a2 a3) (kb:iC b1 b2 b3) (kc:iC c1 c2 c3) {m1 m2 m3:Rat}
 (e1:(b2-a2)*(c3-a3)-(b3-a3)*(c2-a2)=m1) (e2:(b3-a3)*(c1-a1)-(b1-a1)*(c3-a3)=m2) (e3:(b1-a1)*(c2-a2)-(b2-a2)*(c1-a1)=m3)
 (h:Form m1 m2 m3 (dt m1 m2 m3 a1 a2 a3) z1 z2 z3 e):jX 22 [vS a1 a2 a3,vS b1 b2 b3,vS c1 c2 c3] (qN z1 z2 z3 e):=by
 have h0:(decide (m1=0)&&decide (m2=0)&&decide (m3=0))=false:=by
  rw [Bool.eq_false_iff]
  intro hh
  simp only [Bool.and_eq_true,decide_eq_true_eq] at hh
  exact h.h0 ⟨hh.1.1,hh.1.2,hh.2⟩
 have s:∀ {x y:Rat},Wr x→Wr y→Lf 35 (x-y):=fun hx hy=>Lf.subn (hx.lf.mono (by decide)) (hy.lf.mono (by decide)) (by decide)
 have hcross:jF 36 [vc (b1-a1) (b2-a2) (b3-a3),vc (c1-a1) (c2-a2) (c3-a3)] (vc m1 m2 m3):=by
  have:=sC (s kb.1 ka.1) (s kb.2.1 ka.2.1) (s kb.2.2 ka.2.2) (s kc.1 ka.1) (s kc.2.1 ka.2.1) (s kc.2.2 ka.2.2)
  rw [e1,e2,e3] at this
  exact this
 refine jY Tryz.func22 fun w00 hI=>?_
 refine jW hI 37 [gJ 38,vS a1 a2 a3,gJ 38,vS b1 b2 b3] (vU ka kb) ?_
 refine jW hI 38 [vS c1 c2 c3] (fG kc) ?_
 refine jC 65 [.fv (.nsl 2 28 [z0,z0])] (gV) ?_
 refine jC 66 [vc b1 b2 b3,vc a1 a2 a3] (yZ (kb.1.lf.mono (by decide)) (kb.2.1.lf.mono (by decide)) (kb.2.2.lf.mono (by decide)) (ka.1.lf.mono (by decide)) (ka.2.1.lf.mono (by decide)) (ka.2.2.lf.mono (by decide))) ?_
 refine jC 66 [vc c1 c2 c3,vc a1 a2 a3] (yZ (kc.1.lf.mono (by decide)) (kc.2.1.lf.mono (by decide)) (kc.2.2.lf.mono (by decide)) (ka.1.lf.mono (by decide)) (ka.2.1.lf.mono (by decide)) (ka.2.2.lf.mono (by decide))) ?_
 refine jC 36 [vc (b1-a1) (b2-a2) (b3-a3),vc (c1-a1) (c2-a2) (c3-a3)] (hcross) ?_
 refine jC 55 [vc m1 m2 m3] (fF h0) ?_
 refine jC 39 [vc m1 m2 m3,vc a1 a2 a3] (tS (h.l1.mono (by decide)) (h.l2.mono (by decide)) (h.l3.mono (by decide)) (ka.1.lf.mono (by decide)) (ka.2.1.lf.mono (by decide)) (ka.2.2.lf.mono (by decide))) ?_
 refine jW hI 64 [hf m1 m2 m3 (dt m1 m2 m3 a1 a2 a3)] (zG h) ?_
 exact jR Tryz.func22
theorem apiMirrorF {m1 m2 m3:Rat} (h:Hv z1 z2 z3 d) (k:iC p1 p2 p3) (h0:dt (z1:Rat) z2 z3 z1 z2 z3≠0)
 (e1:p1+((2:Int):Rat)*(lI z1 z2 z3 d p1 p2 p3*z1)=m1) (e2:p2+((2:Int):Rat)*(lI z1 z2 z3 d p1 p2 p3*z2)=m2) (e3:p3+((2:Int):Rat)*(lI z1 z2 z3 d p1 p2 p3*z3)=m3) (hr:iC m1 m2 m3) :
 jX 23 [hS z1 z2 z3 d,vS p1 p2 p3] (dU m1 m2 m3):=by
 have lw:Lf 20 (lI z1 z2 z3 d p1 p2 p3):=lf_way (dR h.s1) (dR h.s2) (dR h.s3) (h.d.lf.mono (by decide)) (k.1.lf.mono (by decide)) (k.2.1.lf.mono (by decide)) (k.2.2.lf.mono (by decide)) (by decide)
 have l2:Lf 20 ((2:Int):Rat):=Lf.int (Lv.one _ (by rw [aL];decide))
 have lm:∀ {z:Int},Sz z→Lf 22 (((2:Int):Rat)*(lI z1 z2 z3 d p1 p2 p3*z)):=fun hz=>Lf.muln (n:=22) (l2.mono (by decide)) (Lf.muln (n:=21) lw (dR hz) (by decide)) (by decide)
 have hp:jF 69 [vc p1 p2 p3,vc (((2:Int):Rat)*(lI z1 z2 z3 d p1 p2 p3*z1)) (((2:Int):Rat)*(lI z1 z2 z3 d p1 p2 p3*z2)) (((2:Int):Rat)*(lI z1 z2 z3 d p1 p2 p3*z3))] (vc m1 m2 m3):=by
  rw [← e1,← e2,← e3]
  exact sB (k.1.lf.mono (by decide)) (k.2.1.lf.mono (by decide)) (k.2.2.lf.mono (by decide)) ((lm h.s1).mono (by decide)) ((lm h.s2).mono (by decide)) ((lm h.s3).mono (by decide))
 refine jY Tryz.func23 fun w00 hI=>?_
 refine jW hI 67 [gJ 68,hS z1 z2 z3 d,gJ 38,vS p1 p2 p3] (readHV h k) ?_
 refine jC 70 [hf z1 z2 z3 d,vc p1 p2 p3] (toPlaneF (dR h.s1) (dR h.s2) (dR h.s3) (h.d.lf.mono (by decide)) (k.1.lf.mono (by decide)) (k.2.1.lf.mono (by decide)) (k.2.2.lf.mono (by decide)) h0) ?_
 refine jC 71 [it 2] (lH (by constructor <;> omega)) ?_
 refine jC 53 [vc (lI z1 z2 z3 d p1 p2 p3*z1) (lI z1 z2 z3 d p1 p2 p3*z2) (lI z1 z2 z3 d p1 p2 p3*z3),num ((2:Int):Rat)] (fJ (l2.mono (by decide)) (Lf.muln (n:=38) (lw.mono (by decide)) (dR h.s1) (by decide)) (Lf.muln (n:=38) (lw.mono (by decide)) (dR h.s2) (by decide)) (Lf.muln (n:=38) (lw.mono (by decide)) (dR h.s3) (by decide))) ?_
 refine jC 69 [vc p1 p2 p3,vc (((2:Int):Rat)*(lI z1 z2 z3 d p1 p2 p3*z1)) (((2:Int):Rat)*(lI z1 z2 z3 d p1 p2 p3*z2)) (((2:Int):Rat)*(lI z1 z2 z3 d p1 p2 p3*z3))] (hp) ?_
 refine jW hI 54 [vc m1 m2 m3] (lK hr (hr.1.lf.mono (by decide)) (hr.2.1.lf.mono (by decide)) (hr.2.2.lf.mono (by decide))) ?_
 exact jR Tryz.func23
theorem apiMeetF {v1 v2 v3 m1 m2 m3:Rat} (h:Hv z1 z2 z3 d) (k:iC p1 p2 p3) (kv:iC v1 v2 v3) (h0:dt z1 z2 z3 v1 v2 v3≠0)
 (e1:p1-(dt z1 z2 z3 p1 p2 p3-d)/dt z1 z2 z3 v1 v2 v3*v1=m1) (e2:p2-(dt z1 z2 z3 p1 p2 p3-d)/dt z1 z2 z3 v1 v2 v3*v2=m2) (e3:p3-(dt z1 z2 z3 p1 p2 p3-d)/dt z1 z2 z3 v1 v2 v3*v3=m3) (hr:iC m1 m2 m3) :
 jX 29 [hS z1 z2 z3 d,vS p1 p2 p3,vS v1 v2 v3] (dU m1 m2 m3):=by
 have lE:Lf 16 (dt z1 z2 z3 p1 p2 p3-d):=Lf.subn (oZ (n:=14) (dR h.s1) (dR h.s2) (dR h.s3) (k.1.lf.mono (by decide)) (k.2.1.lf.mono (by decide)) (k.2.2.lf.mono (by decide)) (by decide)) (h.d.lf.mono (by decide)) (by decide)
 have lV:Lf 16 (dt z1 z2 z3 v1 v2 v3):=oZ (dR h.s1) (dR h.s2) (dR h.s3) (kv.1.lf.mono (by decide)) (kv.2.1.lf.mono (by decide)) (kv.2.2.lf.mono (by decide)) (by decide)
 have lQ:Lf 17 ((dt z1 z2 z3 p1 p2 p3-d)/dt z1 z2 z3 v1 v2 v3):=by
  rw [Rat.div_def]
  exact Lf.muln lE (Lf.inv lV) (by decide)
 have lm:∀ {x:Rat},Wr x→Lf 18 ((dt z1 z2 z3 p1 p2 p3-d)/dt z1 z2 z3 v1 v2 v3*x):=fun hx=>Lf.muln lQ (hx.lf.mono (by decide)) (by decide)
 have hi:decide (dt z1 z2 z3 v1 v2 v3=0)=false:=by rw [decide_eq_false_iff_not];exact h0
 obtain ⟨Q,hQ⟩:∃ Q,Q=(dt z1 z2 z3 p1 p2 p3-d)/dt z1 z2 z3 v1 v2 v3:=⟨_,rfl⟩
 rw [← hQ] at e1 e2 e3 lQ lm
 have ho:jF 56 [num (dt z1 z2 z3 p1 p2 p3-d),num (dt z1 z2 z3 v1 v2 v3)] (num Q):=by
  rw [hQ]
  exact vO (lE.mono (by decide)) (lV.mono (by decide)) h0
 have hp:jF 66 [vc p1 p2 p3,vc (Q*v1) (Q*v2) (Q*v3)] (vc m1 m2 m3):=by
  rw [← e1,← e2,← e3]
  exact yZ (k.1.lf.mono (by decide)) (k.2.1.lf.mono (by decide)) (k.2.2.lf.mono (by decide)) ((lm kv.1).mono (by decide)) ((lm kv.2.1).mono (by decide)) ((lm kv.2.2).mono (by decide))
 refine jY Tryz.func29 fun w00 hI=>?_
 refine jW hI 67 [gJ 68,hS z1 z2 z3 d,gJ 38,vS p1 p2 p3] (readHV h k) ?_
 refine jW hI 38 [vS v1 v2 v3] (fG kv) ?_
 refine jC 65 [.fv (.nsl 2 28 [z0,z0])] (gV) ?_
 refine jC 39 [vc z1 z2 z3,vc v1 v2 v3] (tS (dR h.s1) (dR h.s2) (dR h.s3) (kv.1.lf.mono (by decide)) (kv.2.1.lf.mono (by decide)) (kv.2.2.lf.mono (by decide))) ?_
 refine jC 80 [num (dt z1 z2 z3 v1 v2 v3)] (kE hi) ?_
 refine jC 89 [hf z1 z2 z3 d,vc p1 p2 p3] (zA (dR h.s1) (dR h.s2) (dR h.s3) (h.d.lf.mono (by decide)) (k.1.lf.mono (by decide)) (k.2.1.lf.mono (by decide)) (k.2.2.lf.mono (by decide))) ?_
 refine jC 56 [num (dt z1 z2 z3 p1 p2 p3-d),num (dt z1 z2 z3 v1 v2 v3)] (ho) ?_
 refine jC 53 [vc v1 v2 v3,num Q] (fJ (lQ.mono (by decide)) (kv.1.lf.mono (by decide)) (kv.2.1.lf.mono (by decide)) (kv.2.2.lf.mono (by decide))) ?_
 refine jC 66 [vc p1 p2 p3,vc (Q*v1) (Q*v2) (Q*v3)] (hp) ?_
 refine jW hI 54 [vc m1 m2 m3] (lK hr (hr.1.lf.mono (by decide)) (hr.2.1.lf.mono (by decide)) (hr.2.2.lf.mono (by decide))) ?_
 exact jR Tryz.func29
end
section
variable {o1 o2 o3 x1 x2 x3 y1 y2 y3 z1 z2 z3 m1 m2 m3 p1 p2 p3:Rat}
structure Ax (x1 x2 x3 y1 y2 y3 z1 z2 z3:Rat):Prop where
 x0:(decide (x1=0)&&decide (x2=0)&&decide (x3=0))=false
 y0:(decide (y1=0)&&decide (y2=0)&&decide (y3=0))=false
 z0:(decide (z1=0)&&decide (z2=0)&&decide (z3=0))=false
 xy:dt x1 x2 x3 y1 y2 y3=0
 yz:dt y1 y2 y3 z1 z2 z3=0
 zx:dt z1 z2 z3 x1 x2 x3=0
 s:sgnR (dt x1 x2 x3 (y2*z3-y3*z2) (y3*z1-y1*z3) (y1*z2-y2*z1))=1
theorem checkF (l:Lm 25 x1 x2 x3 y1 y2 y3 z1 z2 z3) (h:Ax x1 x2 x3 y1 y2 y3 z1 z2 z3):jF 142 [pK o1 o2 o3 x1 x2 x3 y1 y2 y3 z1 z2 z3] (it 0):=by
 obtain ⟨a1,a2,a3,b1,b2,b3,c1,c2,c3⟩:=l
 have hs:jF 90 [num (dt x1 x2 x3 (y2*z3-y3*z2) (y3*z1-y1*z3) (y1*z2-y2*z1))] (it 1):=by
  rw [← h.s]
  exact signF
 refine jG Tryz.func142 fun w00=>?_
 refine jC 55 [vc x1 x2 x3] (fF h.x0) ?_
 refine jC 55 [vc y1 y2 y3] (fF h.y0) ?_
 refine jC 55 [vc z1 z2 z3] (fF h.z0) ?_
 refine jC 150 [pK o1 o2 o3 x1 x2 x3 y1 y2 y3 z1 z2 z3] (tE (Lm.mono ⟨a1,a2,a3,b1,b2,b3,c1,c2,c3⟩ (by decide)) h.xy h.yz h.zx) ?_
 refine jC 36 [vc y1 y2 y3,vc z1 z2 z3] (sC (by repeat' (first|exact Lf.mono (by assumption) (by decide)|refine Lf.muln ?_ ?_ (by decide)|refine Lf.addn ?_ ?_ (by decide)|refine Lf.subn ?_ ?_ (by decide))) (by repeat' (first|exact Lf.mono (by assumption) (by decide)|refine Lf.muln ?_ ?_ (by decide)|refine Lf.addn ?_ ?_ (by decide)|refine Lf.subn ?_ ?_ (by decide))) (by repeat' (first|exact Lf.mono (by assumption) (by decide)|refine Lf.muln ?_ ?_ (by decide)|refine Lf.addn ?_ ?_ (by decide)|refine Lf.subn ?_ ?_ (by decide))) (by repeat' (first|exact Lf.mono (by assumption) (by decide)|refine Lf.muln ?_ ?_ (by decide)|refine Lf.addn ?_ ?_ (by decide)|refine Lf.subn ?_ ?_ (by decide))) (by repeat' (first|exact Lf.mono (by assumption) (by decide)|refine Lf.muln ?_ ?_ (by decide)|refine Lf.addn ?_ ?_ (by decide)|refine Lf.subn ?_ ?_ (by decide))) (by repeat' (first|exact Lf.mono (by assumption) (by decide)|refine Lf.muln ?_ ?_ (by decide)|refine Lf.addn ?_ ?_ (by decide)|refine Lf.subn ?_ ?_ (by decide)))) ?_
 refine jC 39 [vc x1 x2 x3,vc (y2*z3-y3*z2) (y3*z1-y1*z3) (y1*z2-y2*z1)] (tS (by repeat' (first|exact Lf.mono (by assumption) (by decide)|refine Lf.muln ?_ ?_ (by decide)|refine Lf.addn ?_ ?_ (by decide)|refine Lf.subn ?_ ?_ (by decide))) (by repeat' (first|exact Lf.mono (by assumption) (by decide)|refine Lf.muln ?_ ?_ (by decide)|refine Lf.addn ?_ ?_ (by decide)|refine Lf.subn ?_ ?_ (by decide))) (by repeat' (first|exact Lf.mono (by assumption) (by decide)|refine Lf.muln ?_ ?_ (by decide)|refine Lf.addn ?_ ?_ (by decide)|refine Lf.subn ?_ ?_ (by decide))) (by repeat' (first|exact Lf.mono (by assumption) (by decide)|refine Lf.muln ?_ ?_ (by decide)|refine Lf.addn ?_ ?_ (by decide)|refine Lf.subn ?_ ?_ (by decide))) (by repeat' (first|exact Lf.mono (by assumption) (by decide)|refine Lf.muln ?_ ?_ (by decide)|refine Lf.addn ?_ ?_ (by decide)|refine Lf.subn ?_ ?_ (by decide))) (by repeat' (first|exact Lf.mono (by assumption) (by decide)|refine Lf.muln ?_ ?_ (by decide)|refine Lf.addn ?_ ?_ (by decide)|refine Lf.subn ?_ ?_ (by decide)))) ?_
 refine jC 90 [num (dt x1 x2 x3 (y2*z3-y3*z2) (y3*z1-y1*z3) (y1*z2-y2*z1))] (hs) ?_
 exact jR Tryz.func142
abbrev kF (o1 o2 o3 x1 x2 x3 y1 y2 y3 z1 z2 z3:Rat):AV Kn := .fv (.ag [cT (writeB o1),cT (writeB o2),cT (writeB o3),cT (writeB x1),cT (writeB x2),cT (writeB x3),cT (writeB y1),cT (writeB y2),cT (writeB y3),cT (writeB z1),cT (writeB z2),cT (writeB z3)])
abbrev gF (o1 o2 o3 x1 x2 x3 y1 y2 y3 z1 z2 z3:Rat):AV Kn := .tup [.ag [cT (writeB o1),cT (writeB o2),cT (writeB o3),cT (writeB x1),cT (writeB x2),cT (writeB x3),cT (writeB y1),cT (writeB y2),cT (writeB y3),cT (writeB z1),cT (writeB z2),cT (writeB z3)],.sc z0]
abbrev okFr (o1 o2 o3 x1 x2 x3 y1 y2 y3 z1 z2 z3:Rat):AV Kn := .tup [.ag [nb o1,nb o2,nb o3,nb x1,nb x2,nb x3,nb y1,nb y2,nb y3,nb z1,nb z2,nb z3],.sc z0]
structure Wf (o1 o2 o3 x1 x2 x3 y1 y2 y3 z1 z2 z3:Rat):Prop where
 o:iC o1 o2 o3
 x:iC x1 x2 x3
 y:iC y1 y2 y3
 z:iC z1 z2 z3
theorem w3lf {a b c:Rat} (h:iC a b c):Lv3 5 a b c:=⟨h.1.lf,h.2.1.lf,h.2.2.lf⟩
theorem Wf.lm (h:Wf o1 o2 o3 x1 x2 x3 y1 y2 y3 z1 z2 z3):Lm 5 x1 x2 x3 y1 y2 y3 z1 z2 z3:=⟨h.x.1.lf,h.x.2.1.lf,h.x.2.2.lf,h.y.1.lf,h.y.2.1.lf,h.y.2.2.lf,h.z.1.lf,h.z.2.1.lf,h.z.2.2.lf⟩
theorem lM {a b c:Rat} (h:iC a b c):jX 54 [vc a b c] (dU a b c):=lK h (h.1.lf.mono (by decide)) (h.2.1.lf.mono (by decide)) (h.2.2.lf.mono (by decide))
theorem vV (h:Wf o1 o2 o3 x1 x2 x3 y1 y2 y3 z1 z2 z3):jX 86 [pK o1 o2 o3 x1 x2 x3 y1 y2 y3 z1 z2 z3] (gF o1 o2 o3 x1 x2 x3 y1 y2 y3 z1 z2 z3):=by
 refine jY Tryz.func86 fun w00 hI=>?_
 refine jW hI 54 [vc o1 o2 o3] (lM h.o) ?_
 refine jW hI 54 [vc x1 x2 x3] (lM h.x) ?_
 refine jW hI 54 [vc y1 y2 y3] (lM h.y) ?_
 refine jW hI 54 [vc z1 z2 z3] (lM h.z) ?_
 refine jC 65 [.fv (.nsl 4 28 [z0,z0,z0,z0])] (first4F) ?_
 exact jR Tryz.func86
theorem pO (h:Wf o1 o2 o3 x1 x2 x3 y1 y2 y3 z1 z2 z3) (hxy:dt x1 x2 x3 y1 y2 y3=0) (hyz:dt y1 y2 y3 z1 z2 z3=0) (hzx:dt z1 z2 z3 x1 x2 x3=0):jX 88 [pK o1 o2 o3 x1 x2 x3 y1 y2 y3 z1 z2 z3] (gF o1 o2 o3 x1 x2 x3 y1 y2 y3 z1 z2 z3):=by
 refine jY Tryz.func88 fun w00 hI=>?_
 refine jC 150 [pK o1 o2 o3 x1 x2 x3 y1 y2 y3 z1 z2 z3] (tE (h.lm.mono (by decide)) hxy hyz hzx) ?_
 refine jW hI 86 [pK o1 o2 o3 x1 x2 x3 y1 y2 y3 z1 z2 z3] (vV h) ?_
 exact jR Tryz.func88
structure Fv (o1 o2 o3 x1 x2 x3 y1 y2 y3 z1 z2 z3:Rat):Prop where
 w:Wf o1 o2 o3 x1 x2 x3 y1 y2 y3 z1 z2 z3
 a:Ax x1 x2 x3 y1 y2 y3 z1 z2 z3
 r:jX 73 [kF o1 o2 o3 x1 x2 x3 y1 y2 y3 z1 z2 z3] (okFr o1 o2 o3 x1 x2 x3 y1 y2 y3 z1 z2 z3)
variable {n1 n2 n3:Int} {d e:Rat} {k1 k2 k3:Int}
theorem readFV (h:Fv o1 o2 o3 x1 x2 x3 y1 y2 y3 z1 z2 z3) (k:iC p1 p2 p3):jX 72 [gJ 73,kF o1 o2 o3 x1 x2 x3 y1 y2 y3 z1 z2 z3,gJ 38,vS p1 p2 p3] (.tup [.ag [nb o1,nb o2,nb o3,nb x1,nb x2,nb x3,nb y1,nb y2,nb y3,nb z1,nb z2,nb z3],.ag [nb p1,nb p2,nb p3],.sc z0]):=by
 refine jY Tryz.func72 fun w00 hI=>?_
 refine jW hI 73 [kF o1 o2 o3 x1 x2 x3 y1 y2 y3 z1 z2 z3] (h.r) ?_
 refine jW hI 38 [vS p1 p2 p3] (fG k) ?_
 refine jC 65 [.fv (.nsl 2 28 [z0,z0])] (gV) ?_
 exact jR Tryz.func72
theorem readFH (h:Fv o1 o2 o3 x1 x2 x3 y1 y2 y3 z1 z2 z3) (k:Hv n1 n2 n3 d):jX 75 [gJ 73,kF o1 o2 o3 x1 x2 x3 y1 y2 y3 z1 z2 z3,gJ 68,hS n1 n2 n3 d] (.tup [.ag [nb o1,nb o2,nb o3,nb x1,nb x2,nb x3,nb y1,nb y2,nb y3,nb z1,nb z2,nb z3],.ag [nb n1,nb n2,nb n3,nb d],.sc z0]):=by
 refine jY Tryz.func75 fun w00 hI=>?_
 refine jW hI 73 [kF o1 o2 o3 x1 x2 x3 y1 y2 y3 z1 z2 z3] (h.r) ?_
 refine jW hI 68 [hS n1 n2 n3 d] (xT (m_sz k.s1) (m_sz k.s2) (m_sz k.s3) k.d k.ck) ?_
 refine jC 65 [.fv (.nsl 2 28 [z0,z0])] (gV) ?_
 exact jR Tryz.func75
theorem apiPlaceF (h:Fv o1 o2 o3 x1 x2 x3 y1 y2 y3 z1 z2 z3) (k:iC p1 p2 p3) (e1:o1+ld p1 p2 p3 x1 y1 z1=m1) (e2:o2+ld p1 p2 p3 x2 y2 z2=m2) (e3:o3+ld p1 p2 p3 x3 y3 z3=m3) (hr:iC m1 m2 m3) :
 jX 24 [kF o1 o2 o3 x1 x2 x3 y1 y2 y3 z1 z2 z3,vS p1 p2 p3] (dU m1 m2 m3):=by
 have hp:jF 74 [pK o1 o2 o3 x1 x2 x3 y1 y2 y3 z1 z2 z3,vc p1 p2 p3] (vc m1 m2 m3):=by
  rw [← e1,← e2,← e3]
  exact placeF (h.w.lm.mono (by decide)) ((w3lf k).mono (by decide)) ((w3lf h.w.o).mono (by decide))
 refine jY Tryz.func24 fun w00 hI=>?_
 refine jW hI 72 [gJ 73,kF o1 o2 o3 x1 x2 x3 y1 y2 y3 z1 z2 z3,gJ 38,vS p1 p2 p3] (readFV h k) ?_
 refine jC 74 [pK o1 o2 o3 x1 x2 x3 y1 y2 y3 z1 z2 z3,vc p1 p2 p3] (hp) ?_
 refine jW hI 54 [vc m1 m2 m3] (lM hr) ?_
 exact jR Tryz.func24
theorem tZ {p q:Rat} {k l:Nat} (hp:Lf k p) (hq:Lf k q) (hk:k+1≤l):Lf l (p/q):=by
 rw [Rat.div_def]
 exact Lf.mono (hp.mul hq.inv) hk
theorem wP (h:Fv o1 o2 o3 x1 x2 x3 y1 y2 y3 z1 z2 z3) (k:Hv n1 n2 n3 d) (h0:Sq0 x1 x2 x3 y1 y2 y3 z1 z2 z3) {q1 q2 q3:Rat}
 (e1:ld (n1/dt x1 x2 x3 x1 x2 x3) (n2/dt y1 y2 y3 y1 y2 y3) (n3/dt z1 z2 z3 z1 z2 z3) x1 y1 z1=q1) (e2:ld (n1/dt x1 x2 x3 x1 x2 x3) (n2/dt y1 y2 y3 y1 y2 y3) (n3/dt z1 z2 z3 z1 z2 z3) x2 y2 z2=q2) (e3:ld (n1/dt x1 x2 x3 x1 x2 x3) (n2/dt y1 y2 y3 y1 y2 y3) (n3/dt z1 z2 z3 z1 z2 z3) x3 y3 z3=q3)
 (hm:Form q1 q2 q3 (d+dt q1 q2 q3 o1 o2 o3) k1 k2 k3 e):jX 26 [kF o1 o2 o3 x1 x2 x3 y1 y2 y3 z1 z2 z3,hS n1 n2 n3 d] (qN k1 k2 k3 e):=by
 obtain ⟨a1,a2,a3,b1,b2,b3,c1,c2,c3⟩:=h.w.lm
 obtain ⟨g1,g2,g3⟩:=w3lf h.w.o
 have ld':=k.d.lf
 have t1:=dR k.s1 (k:=10)
 have t2:=dR k.s2 (k:=10)
 have t3:=dR k.s3 (k:=10)
 have s1:Lf 10 (dt x1 x2 x3 x1 x2 x3):=by repeat' (first|exact Lf.mono (by assumption) (by decide)|refine Lf.muln ?_ ?_ (by decide)|refine Lf.addn ?_ ?_ (by decide)|refine Lf.subn ?_ ?_ (by decide))
 have s2:Lf 10 (dt y1 y2 y3 y1 y2 y3):=by repeat' (first|exact Lf.mono (by assumption) (by decide)|refine Lf.muln ?_ ?_ (by decide)|refine Lf.addn ?_ ?_ (by decide)|refine Lf.subn ?_ ?_ (by decide))
 have s3:Lf 10 (dt z1 z2 z3 z1 z2 z3):=by repeat' (first|exact Lf.mono (by assumption) (by decide)|refine Lf.muln ?_ ?_ (by decide)|refine Lf.addn ?_ ?_ (by decide)|refine Lf.subn ?_ ?_ (by decide))
 have r1:=tZ t1 s1 (aR 11)
 have r2:=tZ t2 s2 (aR 11)
 have r3:=tZ t3 s3 (aR 11)
 have j:jF 77 [gJ 56,vc n1 n2 n3,vc (dt x1 x2 x3 x1 x2 x3) (dt y1 y2 y3 y1 y2 y3) (dt z1 z2 z3 z1 z2 z3)] (vc (n1/dt x1 x2 x3 x1 x2 x3) (n2/dt y1 y2 y3 y1 y2 y3) (n3/dt z1 z2 z3 z1 z2 z3)) :=
  joinF Tryz.call56 (vO (t1.mono (by decide)) (s1.mono (by decide)) h0.x) (vO (t2.mono (by decide)) (s2.mono (by decide)) h0.y) (vO (t3.mono (by decide)) (s3.mono (by decide)) h0.z)
 have hl:jF 76 [pK o1 o2 o3 x1 x2 x3 y1 y2 y3 z1 z2 z3,vc (n1/dt x1 x2 x3 x1 x2 x3) (n2/dt y1 y2 y3 y1 y2 y3) (n3/dt z1 z2 z3 z1 z2 z3)] (vc q1 q2 q3):=by
  rw [← e1,← e2,← e3]
  exact leadF (h.w.lm.mono (by decide)) ⟨r1.mono (by decide),r2.mono (by decide),r3.mono (by decide)⟩
 have l1:=hm.l1
 have l2:=hm.l2
 have l3:=hm.l3
 refine jY Tryz.func26 fun w00 hI=>?_
 refine jW hI 75 [gJ 73,kF o1 o2 o3 x1 x2 x3 y1 y2 y3 z1 z2 z3,gJ 68,hS n1 n2 n3 d] (readFH h k) ?_
 refine jC 78 [pK o1 o2 o3 x1 x2 x3 y1 y2 y3 z1 z2 z3] (squaresF (h.w.lm.mono (by decide))) ?_
 refine jC 77 [gJ 56,vc n1 n2 n3,vc (dt x1 x2 x3 x1 x2 x3) (dt y1 y2 y3 y1 y2 y3) (dt z1 z2 z3 z1 z2 z3)] (j) ?_
 refine jC 76 [pK o1 o2 o3 x1 x2 x3 y1 y2 y3 z1 z2 z3,vc (n1/dt x1 x2 x3 x1 x2 x3) (n2/dt y1 y2 y3 y1 y2 y3) (n3/dt z1 z2 z3 z1 z2 z3)] (hl) ?_
 refine jC 39 [vc q1 q2 q3,vc o1 o2 o3] (tS (by repeat' (first|exact Lf.mono (by assumption) (by decide)|refine Lf.muln ?_ ?_ (by decide)|refine Lf.addn ?_ ?_ (by decide)|refine Lf.subn ?_ ?_ (by decide))) (by repeat' (first|exact Lf.mono (by assumption) (by decide)|refine Lf.muln ?_ ?_ (by decide)|refine Lf.addn ?_ ?_ (by decide)|refine Lf.subn ?_ ?_ (by decide))) (by repeat' (first|exact Lf.mono (by assumption) (by decide)|refine Lf.muln ?_ ?_ (by decide)|refine Lf.addn ?_ ?_ (by decide)|refine Lf.subn ?_ ?_ (by decide))) (by repeat' (first|exact Lf.mono (by assumption) (by decide)|refine Lf.muln ?_ ?_ (by decide)|refine Lf.addn ?_ ?_ (by decide)|refine Lf.subn ?_ ?_ (by decide))) (by repeat' (first|exact Lf.mono (by assumption) (by decide)|refine Lf.muln ?_ ?_ (by decide)|refine Lf.addn ?_ ?_ (by decide)|refine Lf.subn ?_ ?_ (by decide))) (by repeat' (first|exact Lf.mono (by assumption) (by decide)|refine Lf.muln ?_ ?_ (by decide)|refine Lf.addn ?_ ?_ (by decide)|refine Lf.subn ?_ ?_ (by decide)))) ?_
 refine jC 79 [num d,num (dt q1 q2 q3 o1 o2 o3)] (tD (by repeat' (first|exact Lf.mono (by assumption) (by decide)|refine Lf.muln ?_ ?_ (by decide)|refine Lf.addn ?_ ?_ (by decide)|refine Lf.subn ?_ ?_ (by decide))) (by repeat' (first|exact Lf.mono (by assumption) (by decide)|refine Lf.muln ?_ ?_ (by decide)|refine Lf.addn ?_ ?_ (by decide)|refine Lf.subn ?_ ?_ (by decide)))) ?_
 refine jW hI 64 [hf q1 q2 q3 (d+dt q1 q2 q3 o1 o2 o3)] (zG hm) ?_
 exact jR Tryz.func26
end
section
variable {w u1 u2 u3 v1 v2 v3:Rat}
abbrev tc (w s D c v u:Rat):Rat:=((1:Int):Rat)/(w*w+s)*((w*w-s)*v+((2:Int):Rat)*w*c+((2:Int):Rat)*D*u)
theorem zI (hw:Lf 8 w) (h1:Lf 8 u1) (h2:Lf 8 u2) (h3:Lf 8 u3) (k1:Lf 8 v1) (k2:Lf 8 v2) (k3:Lf 8 v3) (h0:w*w+dt u1 u2 u3 u1 u2 u3≠0) :
 jF 82 [num w,vc u1 u2 u3,vc v1 v2 v3] (vc (tc w (dt u1 u2 u3 u1 u2 u3) (dt u1 u2 u3 v1 v2 v3) (u2*v3-u3*v2) v1 u1) (tc w (dt u1 u2 u3 u1 u2 u3) (dt u1 u2 u3 v1 v2 v3) (u3*v1-u1*v3) v2 u2) (tc w (dt u1 u2 u3 u1 u2 u3) (dt u1 u2 u3 v1 v2 v3) (u1*v2-u2*v1) v3 u3)):=by
 have i2:Lf 8 ((2:Int):Rat):=Lf.int (Lv.one _ (by rw [aL];decide))
 have i1:Lf 8 ((1:Int):Rat):=Lf.int (Lv.one _ (by rw [aL];decide))
 have ls:Lf 14 (dt u1 u2 u3 u1 u2 u3):=by repeat' (first|exact Lf.mono (by assumption) (by decide)|refine Lf.muln ?_ ?_ (by decide)|refine Lf.addn ?_ ?_ (by decide)|refine Lf.subn ?_ ?_ (by decide))
 have lD:Lf 14 (dt u1 u2 u3 v1 v2 v3):=by repeat' (first|exact Lf.mono (by assumption) (by decide)|refine Lf.muln ?_ ?_ (by decide)|refine Lf.addn ?_ ?_ (by decide)|refine Lf.subn ?_ ?_ (by decide))
 have lL:Lf 16 (w*w+dt u1 u2 u3 u1 u2 u3):=by repeat' (first|exact Lf.mono (by assumption) (by decide)|refine Lf.muln ?_ ?_ (by decide)|refine Lf.addn ?_ ?_ (by decide)|refine Lf.subn ?_ ?_ (by decide))
 obtain ⟨S,hS⟩:∃ S,S=dt u1 u2 u3 u1 u2 u3:=⟨_,rfl⟩
 obtain ⟨D,hD⟩:∃ D,D=dt u1 u2 u3 v1 v2 v3:=⟨_,rfl⟩
 have sq:jF 41 [vc u1 u2 u3] (num S):=by rw [hS];exact mM (by repeat' (first|exact Lf.mono (by assumption) (by decide)|refine Lf.muln ?_ ?_ (by decide)|refine Lf.addn ?_ ?_ (by decide)|refine Lf.subn ?_ ?_ (by decide))) (by repeat' (first|exact Lf.mono (by assumption) (by decide)|refine Lf.muln ?_ ?_ (by decide)|refine Lf.addn ?_ ?_ (by decide)|refine Lf.subn ?_ ?_ (by decide))) (by repeat' (first|exact Lf.mono (by assumption) (by decide)|refine Lf.muln ?_ ?_ (by decide)|refine Lf.addn ?_ ?_ (by decide)|refine Lf.subn ?_ ?_ (by decide)))
 have dd:jF 39 [vc u1 u2 u3,vc v1 v2 v3] (num D):=by rw [hD];exact tS (by repeat' (first|exact Lf.mono (by assumption) (by decide)|refine Lf.muln ?_ ?_ (by decide)|refine Lf.addn ?_ ?_ (by decide)|refine Lf.subn ?_ ?_ (by decide))) (by repeat' (first|exact Lf.mono (by assumption) (by decide)|refine Lf.muln ?_ ?_ (by decide)|refine Lf.addn ?_ ?_ (by decide)|refine Lf.subn ?_ ?_ (by decide))) (by repeat' (first|exact Lf.mono (by assumption) (by decide)|refine Lf.muln ?_ ?_ (by decide)|refine Lf.addn ?_ ?_ (by decide)|refine Lf.subn ?_ ?_ (by decide))) (by repeat' (first|exact Lf.mono (by assumption) (by decide)|refine Lf.muln ?_ ?_ (by decide)|refine Lf.addn ?_ ?_ (by decide)|refine Lf.subn ?_ ?_ (by decide))) (by repeat' (first|exact Lf.mono (by assumption) (by decide)|refine Lf.muln ?_ ?_ (by decide)|refine Lf.addn ?_ ?_ (by decide)|refine Lf.subn ?_ ?_ (by decide))) (by repeat' (first|exact Lf.mono (by assumption) (by decide)|refine Lf.muln ?_ ?_ (by decide)|refine Lf.addn ?_ ?_ (by decide)|refine Lf.subn ?_ ?_ (by decide)))
 rw [← hS] at ls lL h0
 rw [← hD] at lD
 rw [← hS,← hD]
 clear hS hD
 have lq:=tZ (i1.mono (by decide:8≤16)) lL (aR 17)
 refine jG Tryz.func82 fun w00=>?_
 refine jC 71 [it 2] (lH (by constructor <;> omega)) ?_
 refine jC 94 [num w,num w] (fB (by repeat' (first|exact Lf.mono (by assumption) (by decide)|refine Lf.muln ?_ ?_ (by decide)|refine Lf.addn ?_ ?_ (by decide)|refine Lf.subn ?_ ?_ (by decide))) (by repeat' (first|exact Lf.mono (by assumption) (by decide)|refine Lf.muln ?_ ?_ (by decide)|refine Lf.addn ?_ ?_ (by decide)|refine Lf.subn ?_ ?_ (by decide)))) ?_
 refine jC 41 [vc u1 u2 u3] (sq) ?_
 refine jC 95 [num (w*w),num S] (nO (by repeat' (first|exact Lf.mono (by assumption) (by decide)|refine Lf.muln ?_ ?_ (by decide)|refine Lf.addn ?_ ?_ (by decide)|refine Lf.subn ?_ ?_ (by decide))) (by repeat' (first|exact Lf.mono (by assumption) (by decide)|refine Lf.muln ?_ ?_ (by decide)|refine Lf.addn ?_ ?_ (by decide)|refine Lf.subn ?_ ?_ (by decide)))) ?_
 refine jC 53 [vc v1 v2 v3,num (w*w-S)] (fJ (by repeat' (first|exact Lf.mono (by assumption) (by decide)|refine Lf.muln ?_ ?_ (by decide)|refine Lf.addn ?_ ?_ (by decide)|refine Lf.subn ?_ ?_ (by decide))) (by repeat' (first|exact Lf.mono (by assumption) (by decide)|refine Lf.muln ?_ ?_ (by decide)|refine Lf.addn ?_ ?_ (by decide)|refine Lf.subn ?_ ?_ (by decide))) (by repeat' (first|exact Lf.mono (by assumption) (by decide)|refine Lf.muln ?_ ?_ (by decide)|refine Lf.addn ?_ ?_ (by decide)|refine Lf.subn ?_ ?_ (by decide))) (by repeat' (first|exact Lf.mono (by assumption) (by decide)|refine Lf.muln ?_ ?_ (by decide)|refine Lf.addn ?_ ?_ (by decide)|refine Lf.subn ?_ ?_ (by decide)))) ?_
 refine jC 36 [vc u1 u2 u3,vc v1 v2 v3] (sC (by repeat' (first|exact Lf.mono (by assumption) (by decide)|refine Lf.muln ?_ ?_ (by decide)|refine Lf.addn ?_ ?_ (by decide)|refine Lf.subn ?_ ?_ (by decide))) (by repeat' (first|exact Lf.mono (by assumption) (by decide)|refine Lf.muln ?_ ?_ (by decide)|refine Lf.addn ?_ ?_ (by decide)|refine Lf.subn ?_ ?_ (by decide))) (by repeat' (first|exact Lf.mono (by assumption) (by decide)|refine Lf.muln ?_ ?_ (by decide)|refine Lf.addn ?_ ?_ (by decide)|refine Lf.subn ?_ ?_ (by decide))) (by repeat' (first|exact Lf.mono (by assumption) (by decide)|refine Lf.muln ?_ ?_ (by decide)|refine Lf.addn ?_ ?_ (by decide)|refine Lf.subn ?_ ?_ (by decide))) (by repeat' (first|exact Lf.mono (by assumption) (by decide)|refine Lf.muln ?_ ?_ (by decide)|refine Lf.addn ?_ ?_ (by decide)|refine Lf.subn ?_ ?_ (by decide))) (by repeat' (first|exact Lf.mono (by assumption) (by decide)|refine Lf.muln ?_ ?_ (by decide)|refine Lf.addn ?_ ?_ (by decide)|refine Lf.subn ?_ ?_ (by decide)))) ?_
 refine jC 94 [num ((2:Int):Rat),num w] (fB (by repeat' (first|exact Lf.mono (by assumption) (by decide)|refine Lf.muln ?_ ?_ (by decide)|refine Lf.addn ?_ ?_ (by decide)|refine Lf.subn ?_ ?_ (by decide))) (by repeat' (first|exact Lf.mono (by assumption) (by decide)|refine Lf.muln ?_ ?_ (by decide)|refine Lf.addn ?_ ?_ (by decide)|refine Lf.subn ?_ ?_ (by decide)))) ?_
 refine jC 53 [vc (u2*v3-u3*v2) (u3*v1-u1*v3) (u1*v2-u2*v1),num (((2:Int):Rat)*w)] (fJ (by repeat' (first|exact Lf.mono (by assumption) (by decide)|refine Lf.muln ?_ ?_ (by decide)|refine Lf.addn ?_ ?_ (by decide)|refine Lf.subn ?_ ?_ (by decide))) (by repeat' (first|exact Lf.mono (by assumption) (by decide)|refine Lf.muln ?_ ?_ (by decide)|refine Lf.addn ?_ ?_ (by decide)|refine Lf.subn ?_ ?_ (by decide))) (by repeat' (first|exact Lf.mono (by assumption) (by decide)|refine Lf.muln ?_ ?_ (by decide)|refine Lf.addn ?_ ?_ (by decide)|refine Lf.subn ?_ ?_ (by decide))) (by repeat' (first|exact Lf.mono (by assumption) (by decide)|refine Lf.muln ?_ ?_ (by decide)|refine Lf.addn ?_ ?_ (by decide)|refine Lf.subn ?_ ?_ (by decide)))) ?_
 refine jC 69 [vc ((w*w-S)*v1) ((w*w-S)*v2) ((w*w-S)*v3),vc (((2:Int):Rat)*w*(u2*v3-u3*v2)) (((2:Int):Rat)*w*(u3*v1-u1*v3)) (((2:Int):Rat)*w*(u1*v2-u2*v1))] (sB (by repeat' (first|exact Lf.mono (by assumption) (by decide)|refine Lf.muln ?_ ?_ (by decide)|refine Lf.addn ?_ ?_ (by decide)|refine Lf.subn ?_ ?_ (by decide))) (by repeat' (first|exact Lf.mono (by assumption) (by decide)|refine Lf.muln ?_ ?_ (by decide)|refine Lf.addn ?_ ?_ (by decide)|refine Lf.subn ?_ ?_ (by decide))) (by repeat' (first|exact Lf.mono (by assumption) (by decide)|refine Lf.muln ?_ ?_ (by decide)|refine Lf.addn ?_ ?_ (by decide)|refine Lf.subn ?_ ?_ (by decide))) (by repeat' (first|exact Lf.mono (by assumption) (by decide)|refine Lf.muln ?_ ?_ (by decide)|refine Lf.addn ?_ ?_ (by decide)|refine Lf.subn ?_ ?_ (by decide))) (by repeat' (first|exact Lf.mono (by assumption) (by decide)|refine Lf.muln ?_ ?_ (by decide)|refine Lf.addn ?_ ?_ (by decide)|refine Lf.subn ?_ ?_ (by decide))) (by repeat' (first|exact Lf.mono (by assumption) (by decide)|refine Lf.muln ?_ ?_ (by decide)|refine Lf.addn ?_ ?_ (by decide)|refine Lf.subn ?_ ?_ (by decide)))) ?_
 refine jC 39 [vc u1 u2 u3,vc v1 v2 v3] (dd) ?_
 refine jC 94 [num ((2:Int):Rat),num D] (fB (by repeat' (first|exact Lf.mono (by assumption) (by decide)|refine Lf.muln ?_ ?_ (by decide)|refine Lf.addn ?_ ?_ (by decide)|refine Lf.subn ?_ ?_ (by decide))) (by repeat' (first|exact Lf.mono (by assumption) (by decide)|refine Lf.muln ?_ ?_ (by decide)|refine Lf.addn ?_ ?_ (by decide)|refine Lf.subn ?_ ?_ (by decide)))) ?_
 refine jC 53 [vc u1 u2 u3,num (((2:Int):Rat)*D)] (fJ (by repeat' (first|exact Lf.mono (by assumption) (by decide)|refine Lf.muln ?_ ?_ (by decide)|refine Lf.addn ?_ ?_ (by decide)|refine Lf.subn ?_ ?_ (by decide))) (by repeat' (first|exact Lf.mono (by assumption) (by decide)|refine Lf.muln ?_ ?_ (by decide)|refine Lf.addn ?_ ?_ (by decide)|refine Lf.subn ?_ ?_ (by decide))) (by repeat' (first|exact Lf.mono (by assumption) (by decide)|refine Lf.muln ?_ ?_ (by decide)|refine Lf.addn ?_ ?_ (by decide)|refine Lf.subn ?_ ?_ (by decide))) (by repeat' (first|exact Lf.mono (by assumption) (by decide)|refine Lf.muln ?_ ?_ (by decide)|refine Lf.addn ?_ ?_ (by decide)|refine Lf.subn ?_ ?_ (by decide)))) ?_
 refine jC 69 [vc ((w*w-S)*v1+((2:Int):Rat)*w*(u2*v3-u3*v2)) ((w*w-S)*v2+((2:Int):Rat)*w*(u3*v1-u1*v3)) ((w*w-S)*v3+((2:Int):Rat)*w*(u1*v2-u2*v1)),vc (((2:Int):Rat)*D*u1) (((2:Int):Rat)*D*u2) (((2:Int):Rat)*D*u3)] (sB (by repeat' (first|exact Lf.mono (by assumption) (by decide)|refine Lf.muln ?_ ?_ (by decide)|refine Lf.addn ?_ ?_ (by decide)|refine Lf.subn ?_ ?_ (by decide))) (by repeat' (first|exact Lf.mono (by assumption) (by decide)|refine Lf.muln ?_ ?_ (by decide)|refine Lf.addn ?_ ?_ (by decide)|refine Lf.subn ?_ ?_ (by decide))) (by repeat' (first|exact Lf.mono (by assumption) (by decide)|refine Lf.muln ?_ ?_ (by decide)|refine Lf.addn ?_ ?_ (by decide)|refine Lf.subn ?_ ?_ (by decide))) (by repeat' (first|exact Lf.mono (by assumption) (by decide)|refine Lf.muln ?_ ?_ (by decide)|refine Lf.addn ?_ ?_ (by decide)|refine Lf.subn ?_ ?_ (by decide))) (by repeat' (first|exact Lf.mono (by assumption) (by decide)|refine Lf.muln ?_ ?_ (by decide)|refine Lf.addn ?_ ?_ (by decide)|refine Lf.subn ?_ ?_ (by decide))) (by repeat' (first|exact Lf.mono (by assumption) (by decide)|refine Lf.muln ?_ ?_ (by decide)|refine Lf.addn ?_ ?_ (by decide)|refine Lf.subn ?_ ?_ (by decide)))) ?_
 refine jC 71 [it 1] (lH (by constructor <;> omega)) ?_
 refine jC 79 [num (w*w),num S] (tD (by repeat' (first|exact Lf.mono (by assumption) (by decide)|refine Lf.muln ?_ ?_ (by decide)|refine Lf.addn ?_ ?_ (by decide)|refine Lf.subn ?_ ?_ (by decide))) (by repeat' (first|exact Lf.mono (by assumption) (by decide)|refine Lf.muln ?_ ?_ (by decide)|refine Lf.addn ?_ ?_ (by decide)|refine Lf.subn ?_ ?_ (by decide)))) ?_
 refine jC 56 [num ((1:Int):Rat),num (w*w+S)] (vO (by repeat' (first|exact Lf.mono (by assumption) (by decide)|refine Lf.muln ?_ ?_ (by decide)|refine Lf.addn ?_ ?_ (by decide)|refine Lf.subn ?_ ?_ (by decide))) (by repeat' (first|exact Lf.mono (by assumption) (by decide)|refine Lf.muln ?_ ?_ (by decide)|refine Lf.addn ?_ ?_ (by decide)|refine Lf.subn ?_ ?_ (by decide))) h0) ?_
 refine jC 53 [vc ((w*w-S)*v1+((2:Int):Rat)*w*(u2*v3-u3*v2)+((2:Int):Rat)*D*u1) ((w*w-S)*v2+((2:Int):Rat)*w*(u3*v1-u1*v3)+((2:Int):Rat)*D*u2) ((w*w-S)*v3+((2:Int):Rat)*w*(u1*v2-u2*v1)+((2:Int):Rat)*D*u3),num (((1:Int):Rat)/(w*w+S))] (fJ (by repeat' (first|exact Lf.mono (by assumption) (by decide)|refine Lf.muln ?_ ?_ (by decide)|refine Lf.addn ?_ ?_ (by decide)|refine Lf.subn ?_ ?_ (by decide))) (by repeat' (first|exact Lf.mono (by assumption) (by decide)|refine Lf.muln ?_ ?_ (by decide)|refine Lf.addn ?_ ?_ (by decide)|refine Lf.subn ?_ ?_ (by decide))) (by repeat' (first|exact Lf.mono (by assumption) (by decide)|refine Lf.muln ?_ ?_ (by decide)|refine Lf.addn ?_ ?_ (by decide)|refine Lf.subn ?_ ?_ (by decide))) (by repeat' (first|exact Lf.mono (by assumption) (by decide)|refine Lf.muln ?_ ?_ (by decide)|refine Lf.addn ?_ ?_ (by decide)|refine Lf.subn ?_ ?_ (by decide)))) ?_
 exact jR Tryz.func82
end
variable {Kc:Value→Bool}
def Seg.ren (ks:List Nat):Seg Kc→Seg Kc
 | .ptr k off => .ptr (ks.getD k 0) off
 | .slc k off n c => .slc (ks.getD k 0) off n c
 | s=>s
def FV.ren (ks:List Nat):FV Kc→FV Kc
 | .sc s => .sc (s.ren ks)
 | .ag l => .ag (l.map (Seg.ren ks))
 | .nsl n T l => .nsl n T (l.map (Seg.ren ks))
 | .clo F a b => .clo F (a.map fun c=>(c.1,c.2.map (Seg.ren ks))) (b.map fun c=>(c.1,c.2.map (Seg.ren ks)))
 | .un => .un
def AV.ren (ks:List Nat):AV Kc→AV Kc
 | .fv f => .fv (f.ren ks)
 | .tup l => .tup (l.map (FV.ren ks))
def Seg.inR (n:Nat):Seg Kc→Bool
 | .ptr k _=>decide (k<n)
 | .slc k _ _ _=>decide (k<n)
 | _=>true
def FV.inR (n:Nat):FV Kc→Bool
 | .sc s=>s.inR n
 | .ag l | .nsl _ _ l=>l.all (Seg.inR n)
 | .clo _ a b=>(a.all fun c=>c.2.all (Seg.inR n))&&(b.all fun c=>c.2.all (Seg.inR n))
 | .un=>true
def AV.inR (n:Nat):AV Kc→Bool
 | .fv f=>f.inR n
 | .tup l=>l.all (FV.inR n)
abbrev sub (β ks:List Nat):List Nat:=ks.map fun k=>β.getD k 0
theorem sub_at {β ks:List Nat} {k g:Nat} (hk:k<ks.length) (h:β[ks.getD k 0]?=some g):(sub β ks)[k]?=some g:=by
 rw [List.getElem?_map,List.getElem?_eq_getElem hk]
 rw [List.getD_eq_getElem?_getD,List.getElem?_eq_getElem hk] at h
 simp only [Option.getD_some] at h
 simp [h]
theorem Seg.ren_holds {β ks:List Nat} {s:Seg Kc} {cs:List Value} {w:World} (hr:s.inR ks.length=true) (h:(s.ren ks).holds β cs w):s.holds (sub β ks) cs w:=by
 cases s with
 | lit v=>exact h
 | sp s=>exact h
 | ptr k off=>obtain ⟨g,h1,e⟩:=h;exact ⟨g,sub_at (by simpa [Seg.inR] using hr) h1,e⟩
 | slc k off n c=>obtain ⟨g,h1,e⟩:=h;exact ⟨g,sub_at (by simpa [Seg.inR] using hr) h1,e⟩
theorem holdsL.ren {β ks:List Nat} {w:World}:∀ {l:List (Seg Kc)} {cs:List Value},l.all (Seg.inR ks.length)=true→holdsL β (l.map (Seg.ren ks)) cs w→holdsL (sub β ks) l cs w
 | [],_,_,h=>h
 | s::l,_,hn,⟨a,b,e,h1,h2⟩=>by
   rw [List.all_cons,Bool.and_eq_true] at hn
   exact ⟨a,b,e,Seg.ren_holds hn.1 h1,holdsL.ren hn.2 h2⟩
theorem holdsC.ren {β ks:List Nat} {w:World}:∀ {l:List (Bool×List (Seg Kc))} {vs:List Value},(l.all fun c=>c.2.all (Seg.inR ks.length))=true→holdsC β (l.map fun c=>(c.1,c.2.map (Seg.ren ks))) vs w→holdsC (sub β ks) l vs w
 | [],_,_,h=>h
 | (b,m)::l,_,hn,⟨v,r,e,h1,h2⟩=>by
   rw [List.all_cons,Bool.and_eq_true] at hn
   refine ⟨v,r,e,?_,holdsC.ren hn.2 h2⟩
   cases b with
   | true=>obtain ⟨cs,e,h1⟩:=h1;exact ⟨cs,e,h1.ren hn.1⟩
   | false=>exact holdsL.ren hn.1 h1
theorem FV.ren_holds {β ks:List Nat} {f:FV Kc} {v:Value} {w:World} (hr:f.inR ks.length=true) (h:(f.ren ks).holds β v w):f.holds (sub β ks) v w:=by
 cases f with
 | sc s=>exact Seg.ren_holds hr h
 | ag l=>obtain ⟨cs,e,hl⟩:=h;exact ⟨cs,e,hl.ren hr⟩
 | nsl n T l=>obtain ⟨g,cs,e,hg,hl⟩:=h;exact ⟨g,cs,e,hg,hl.ren hr⟩
 | clo F a b =>
   rw [FV.inR,Bool.and_eq_true] at hr
   obtain ⟨xs,ys,e,h1,h2⟩:=h
   exact ⟨xs,ys,e,h1.ren hr.1,h2.ren hr.2⟩
 | un=>trivial
theorem holdsF.ren {β ks:List Nat} {w:World}:∀ {l:List (FV Kc)} {vs:List Value},l.all (FV.inR ks.length)=true→holdsF β (l.map (FV.ren ks)) vs w→holdsF (sub β ks) l vs w
 | [],_,_,h=>h
 | f::l,_,hn,⟨v,r,e,h1,h2⟩=>by
   rw [List.all_cons,Bool.and_eq_true] at hn
   exact ⟨v,r,e,FV.ren_holds hn.1 h1,holdsF.ren hn.2 h2⟩
theorem AV.ren_holds {β ks:List Nat} {x:AV Kc} {v:Value} {w:World} (hr:x.inR ks.length=true) (h:(x.ren ks).holds β v w):x.holds (sub β ks) v w:=by
 cases x with
 | fv f=>exact FV.ren_holds hr h
 | tup l=>obtain ⟨vs,e,h⟩:=h;exact ⟨vs,e,h.ren hr⟩
theorem holdsA.ren {β ks:List Nat} {w:World}:∀ {l:List (AV Kc)} {vs:List Value},l.all (AV.inR ks.length)=true→holdsA β (l.map (AV.ren ks)) vs w→holdsA (sub β ks) l vs w
 | [],_,_,h=>h
 | x::l,_,hn,⟨v,r,e,h1,h2⟩=>by
   rw [List.all_cons,Bool.and_eq_true] at hn
   exact ⟨v,r,e,AV.ren_holds hn.1 h1,holdsA.ren hn.2 h2⟩
def xU (P:Program) (f:FuncId) (bl:List (TypeId×List (Seg Kc))) (args:List (AV Kc)) (x:AV Kc):Prop :=
 ∀ β w vs,β.length=bl.length→β.Nodup→Mem β (bl.map some) w→holdsA β args vs w→Calls P f vs.toArray w fun e w' => ∃ v,e = .returned v∧Below w.heap.size w w'∧x.holds [] v w'
section
variable {P:Program} {f:FuncId} {w00:World} {Out:Value→World→Prop}
theorem fitsM_of {fn:Func} {bl:List (TypeId×List (Seg Kc))} {args:List (AV Kc)} {x:AV Kc} (hfn:P.funcs[f]?=some fn) (hb:fn.body.isSome=true) (hn:(args.length≤fn.ntmps:Bool)=true)
 (h:∀ w00,Ok P f w00 (fun v w=>x.holds [] v w) (.items [.code (fn.body.getD .skip)] { slots:=args++List.replicate (fn.ntmps-args.length) .un,blocks:=bl,ro:=bl.length })):xU P f bl args x:=by
 intro β w vs hl hnd hM hv
 have hb2:fn.body=some (fn.body.getD .skip):=by
  cases hb2:fn.body with
  | none=>rw [hb2] at hb;cases hb
  | some c=>rfl
 refine (fC (w00:=w) (Out:=fun v w=>x.holds [] v w) hfn hb2 args bl β vs (fn.ntmps-args.length) (by simp at hn;omega) hv hl hnd hM (fun g hg=>?_) (h w).good).mono ?_
 ·obtain ⟨k,hk⟩:=List.getElem?_of_mem hg
  have hk' : k<bl.length:=by rw [← hl];exact (List.getElem?_eq_some_iff.1 hk).1
  obtain ⟨g',cs,hg',hh,_⟩:=hM k bl[k].1 bl[k].2 (by simp [hk'])
  rw [hk] at hg'
  injection hg' with hg'
  subst hg'
  exact lt_of_block hh
 ·rintro e w' ⟨v,rfl,hb,ho⟩
  exact ⟨v,rfl,hb,ho⟩
theorem mem_sub {β ks:List Nat} {w:World} {mem:List (Option (TypeId×List (Seg Kc)))} {bl:List (TypeId×List (Seg Kc))} (hM:Mem β mem w) (hb:ks.map (fun k=>mem[k]?)=bl.map (fun b=>some (some b))) (hp:(bl.all fun b=>b.2.all Seg.noPtr)=true):Mem (sub β ks) (bl.map some) w:=by
 intro k T l hk
 rw [List.getElem?_map] at hk
 cases hbk:bl[k]? with
 | none=>rw [hbk] at hk;cases hk
 | some b =>
   rw [hbk] at hk
   simp only [Option.map_some,Option.some.injEq] at hk
   subst hk
   have h1:(ks.map (fun k=>mem[k]?))[k]?=some (some (some (T,l))):=by rw [hb,List.getElem?_map,hbk];rfl
   rw [List.getElem?_map] at h1
   cases hkk:ks[k]? with
   | none=>rw [hkk] at h1;cases h1
   | some j =>
     rw [hkk] at h1
     simp only [Option.map_some,Option.some.injEq] at h1
     obtain ⟨g,cs,h2,h3,h4⟩:=hM j T l h1
     refine ⟨g,cs,?_,h3,holdsL.noPtr ?_ h4⟩
     ·rw [List.getElem?_map,hkk]
      simp [h2]
     ·exact List.all_eq_true.1 hp (T,l) (List.mem_of_getElem? hbk)
theorem vW {γ:List Nat} {w:World} {bl:List (TypeId×List (Seg Kc))} (hl:γ.length=bl.length) (hM:Mem γ (bl.map some) w) (hnd:(bl.map (·.1)).Nodup):γ.Nodup:=by
 rw [List.Nodup,List.pairwise_iff_getElem] at hnd ⊢
 intro i j hi hj hij he
 have hi' : i<bl.length:=by omega
 have hj' : j<bl.length:=by omega
 obtain ⟨g,cs,h1,h2,_⟩:=hM i bl[i].1 bl[i].2 (by simp [hi'])
 obtain ⟨g',cs',h3,h4,_⟩:=hM j bl[j].1 bl[j].2 (by simp [hj'])
 rw [List.getElem?_eq_getElem hi] at h1
 rw [List.getElem?_eq_getElem hj] at h3
 injection h1 with h1
 injection h3 with h3
 rw [← h1,he,h3,h4] at h2
 injection h2 with h2
 injection h2 with _ h5 _
 refine hnd i j (by simpa using hi') (by simpa using hj') hij ?_
 simp [h5]
theorem Ok.callM {c:Cfg Kc} (fn:FuncId) (ks:List Nat) (bl:List (TypeId×List (Seg Kc))) (args:List (AV Kc)) {x:AV Kc} (h:xU P fn bl args x) (hf:c.callee P=some fn) (ha:c.args P=args.map (AV.ren ks)) (hx:c.okT x=true) (hnp:x.noPtr=true)
 (hb:ks.map (fun k=>c.mem[k]?)=bl.map (fun b=>some (some b))) (hr:args.all (AV.inR ks.length)=true) (hp:(bl.all fun b=>b.2.all Seg.noPtr)=true) (hnd:(bl.map (·.1)).Nodup) (hfn:∀ (args:Array Value) (w:World),(callFunc fn args).run P w = .ok (.enter fn args) w)
 (hg:Ok P f w00 Out (c.give x)):Ok P f w00 Out c :=
 ⟨oD fn x hf hx hfn (fun β w vs _ hM hv=>by
  rw [ha] at hv
  have hl:(sub β ks).length=bl.length:=by have:=congrArg List.length hb;simpa using this
  have hM':=mem_sub hM hb hp
  refine (h (sub β ks) w vs hl (vW hl hM' hnd) hM' (hv.ren hr)).mono ?_
  rintro e w' ⟨v,e1,e2,e3⟩
  exact ⟨v,e1,e2,AV.noPtr_holds hnp e3⟩) hg.good⟩
end
theorem kgoM {f:FuncId} {fn:Func} {bl:List (TypeId×List (Seg Kn))} {args:List (AV Kn)} {x:AV Kn} (hfn:Tryz.prog.funcs[f]?=some fn) (hc:(fn.body.isSome,decide (args.length≤fn.ntmps))=(true,true)) (_h:True)
 (h:∀ w00,Ok Tryz.prog f w00 (fun v w=>x.holds [] v w) (dB Tryz.prog 1000 (.items [.code (fn.body.getD .skip)] { slots:=args++List.replicate (fn.ntmps-args.length) .un,blocks:=bl,ro:=bl.length }))):xU Tryz.prog f bl args x:=by
 simp only [Prod.mk.injEq] at hc
 exact fitsM_of hfn hc.1 hc.2 fun w00=>Ok.go (by kernel_rfl) oY 1000 (h w00)
theorem vX {f:FuncId} {w00:World} {Out:Value→World→Prop} {c:Cfg Kn} (fn:FuncId) (ks:List Nat) (bl:List (TypeId×List (Seg Kn))) (args:List (AV Kn)) {x:AV Kn} (h:xU Tryz.prog fn bl args x)
 (hc:(c.callee Tryz.prog,c.args Tryz.prog,c.okT x,x.noPtr,ks.map (fun k=>c.mem[k]?),args.all (AV.inR ks.length),(bl.all fun b=>b.2.all Seg.noPtr))=(some fn,args.map (AV.ren ks),true,true,bl.map (fun b=>some (some b)),true,true)) (hnd:(bl.map (·.1)).Nodup) (hfn:∀ (args:Array Value) (w:World),(callFunc fn args).run Tryz.prog w = .ok (.enter fn args) w)
 (hg:Ok Tryz.prog f w00 Out (dB Tryz.prog 1000 (c.give x))):Ok Tryz.prog f w00 Out c:=by
 simp only [Prod.mk.injEq] at hc
 obtain ⟨h1,h2,h3,h4,h5,h6,h7⟩:=hc
 exact Ok.callM fn ks bl args h h1 h2 h3 h4 h5 h6 h7 hnd hfn (Ok.go (by kernel_rfl) oY 1000 hg)
end Ab
namespace Ab
open Go.RowKit Pl
section
variable {w u1 u2 u3 v1 v2 v3 x1 x2 x3 y1 y2 y3 z1 z2 z3:Rat}
abbrev wu (w u1 u2 u3:Rat):List (TypeId×List (Seg Kn)) := [(71,[nb w]),(73,[nb u1,nb u2,nb u3])]
theorem turn1F (h:jF 82 [num w,vc u1 u2 u3,vc v1 v2 v3] (vc x1 x2 x3)) :
 xU Tryz.prog 81 (wu w u1 u2 u3) [vc v1 v2 v3,.fv (.sc (.ptr 0 0)),.fv (.sc (.ptr 1 0))] (vc x1 x2 x3):=by
 refine kgoM Tryz.func81 (by kernel_rfl) trivial fun w00=>?_
 refine jC 82 [num w,vc u1 u2 u3,vc v1 v2 v3] (h) ?_
 exact jR Tryz.func81
abbrev cloT:AV Kn := .fv (.clo 81 [] [(false,[.ptr 0 0]),(false,[.ptr 1 0])])
theorem xV (h1:jF 82 [num w,vc u1 u2 u3,vc (1:Int) (0:Int) (0:Int)] (vc x1 x2 x3)) (h2:jF 82 [num w,vc u1 u2 u3,vc (0:Int) (1:Int) (0:Int)] (vc y1 y2 y3)) (h3:jF 82 [num w,vc u1 u2 u3,vc (0:Int) (0:Int) (1:Int)] (vc z1 z2 z3)) :
 xU Tryz.prog 84 (wu w u1 u2 u3) [cloT,mt (1:Int) (0:Int) (0:Int) (0:Int) (1:Int) (0:Int) (0:Int) (0:Int) (1:Int)] (mt x1 x2 x3 y1 y2 y3 z1 z2 z3):=by
 refine kgoM Tryz.func84 (by kernel_rfl) trivial fun w00=>?_
 refine vX 81 [0,1] (wu w u1 u2 u3) [vc (1:Int) (0:Int) (0:Int),.fv (.sc (.ptr 0 0)),.fv (.sc (.ptr 1 0))] (turn1F h1) (by kernel_rfl) (by simp) (Tryz.call81) ?_
 refine vX 81 [0,1] (wu w u1 u2 u3) [vc (0:Int) (1:Int) (0:Int),.fv (.sc (.ptr 0 0)),.fv (.sc (.ptr 1 0))] (turn1F h2) (by kernel_rfl) (by simp) (Tryz.call81) ?_
 refine vX 81 [0,1] (wu w u1 u2 u3) [vc (0:Int) (0:Int) (1:Int),.fv (.sc (.ptr 0 0)),.fv (.sc (.ptr 1 0))] (turn1F h3) (by kernel_rfl) (by simp) (Tryz.call81) ?_
 exact jR Tryz.func84
theorem apiTurnF {b:Bool} (hw:Wr w) (hu:iC u1 u2 u3) (hb:decide (w=0)=b) (h0:b=true→(decide (u1=0)&&decide (u2=0)&&decide (u3=0))=false)
 (h1:jF 82 [num w,vc u1 u2 u3,vc (1:Int) (0:Int) (0:Int)] (vc x1 x2 x3)) (h2:jF 82 [num w,vc u1 u2 u3,vc (0:Int) (1:Int) (0:Int)] (vc y1 y2 y3)) (h3:jF 82 [num w,vc u1 u2 u3,vc (0:Int) (0:Int) (1:Int)] (vc z1 z2 z3))
 (hr:Wf (0:Int) (0:Int) (0:Int) x1 x2 x3 y1 y2 y3 z1 z2 z3):jX 27 [.fv (.ag [cT (writeB w),cT (writeB u1),cT (writeB u2),cT (writeB u3)])] (gF (0:Int) (0:Int) (0:Int) x1 x2 x3 y1 y2 y3 z1 z2 z3):=by
 have i0:yY 0:=by constructor <;> omega
 cases b with
 | true =>
   refine jY Tryz.func27 fun w00 hI=>?_
   refine jW hI 51 [gJ 52,tx (writeB w),gJ 38,vS u1 u2 u3] (readRV hw hu) ?_
   refine jC 80 [num w] (kE hb) ?_
   refine jC 55 [vc u1 u2 u3] (fF (h0 rfl)) ?_
   refine jC 83 [iv 0 0 0] (iR i0 i0 i0) ?_
   refine jC 85 [] (unitsF) ?_
   refine vX 84 [2,3] (wu w u1 u2 u3) [cloT,mt (1:Int) (0:Int) (0:Int) (0:Int) (1:Int) (0:Int) (0:Int) (0:Int) (1:Int)] (xV h1 h2 h3) (by kernel_rfl) (by simp) (Tryz.call84) ?_
   refine jW hI 86 [pK (0:Int) (0:Int) (0:Int) x1 x2 x3 y1 y2 y3 z1 z2 z3] (vV hr) ?_
   exact jR Tryz.func27
 | false =>
   refine jY Tryz.func27 fun w00 hI=>?_
   refine jW hI 51 [gJ 52,tx (writeB w),gJ 38,vS u1 u2 u3] (readRV hw hu) ?_
   refine jC 80 [num w] (kE hb) ?_
   refine jC 83 [iv 0 0 0] (iR i0 i0 i0) ?_
   refine jC 85 [] (unitsF) ?_
   refine vX 84 [2,3] (wu w u1 u2 u3) [cloT,mt (1:Int) (0:Int) (0:Int) (0:Int) (1:Int) (0:Int) (0:Int) (0:Int) (1:Int)] (xV h1 h2 h3) (by kernel_rfl) (by simp) (Tryz.call84) ?_
   refine jW hI 86 [pK (0:Int) (0:Int) (0:Int) x1 x2 x3 y1 y2 y3 z1 z2 z3] (vV hr) ?_
   exact jR Tryz.func27
end
section
variable {o1 o2 o3 x1 x2 x3 y1 y2 y3 z1 z2 z3 p1 p2 p3 u1 u2 u3 v1 v2 v3 w1 w2 w3 q1 q2 q3 r1 r2 r3 s1 s2 s3 t1 t2 t3:Rat}
theorem readFF (h:Fv o1 o2 o3 x1 x2 x3 y1 y2 y3 z1 z2 z3) (k:Fv p1 p2 p3 u1 u2 u3 v1 v2 v3 w1 w2 w3):jX 87 [gJ 73,kF o1 o2 o3 x1 x2 x3 y1 y2 y3 z1 z2 z3,gJ 73,kF p1 p2 p3 u1 u2 u3 v1 v2 v3 w1 w2 w3] (.tup [.ag [nb o1,nb o2,nb o3,nb x1,nb x2,nb x3,nb y1,nb y2,nb y3,nb z1,nb z2,nb z3],.ag [nb p1,nb p2,nb p3,nb u1,nb u2,nb u3,nb v1,nb v2,nb v3,nb w1,nb w2,nb w3],.sc z0]):=by
 refine jY Tryz.func87 fun w00 hI=>?_
 refine jW hI 73 [kF o1 o2 o3 x1 x2 x3 y1 y2 y3 z1 z2 z3] (h.r) ?_
 refine jW hI 73 [kF p1 p2 p3 u1 u2 u3 v1 v2 v3 w1 w2 w3] (k.r) ?_
 refine jC 65 [.fv (.nsl 2 28 [z0,z0])] (gV) ?_
 exact jR Tryz.func87
theorem apiComposeF (h:Fv o1 o2 o3 x1 x2 x3 y1 y2 y3 z1 z2 z3) (k:Fv p1 p2 p3 u1 u2 u3 v1 v2 v3 w1 w2 w3) (eq1:o1+ld p1 p2 p3 x1 y1 z1=q1) (eq2:o2+ld p1 p2 p3 x2 y2 z2=q2) (eq3:o3+ld p1 p2 p3 x3 y3 z3=q3) (er1:ld u1 u2 u3 x1 y1 z1=r1) (er2:ld u1 u2 u3 x2 y2 z2=r2) (er3:ld u1 u2 u3 x3 y3 z3=r3) (es1:ld v1 v2 v3 x1 y1 z1=s1) (es2:ld v1 v2 v3 x2 y2 z2=s2) (es3:ld v1 v2 v3 x3 y3 z3=s3) (et1:ld w1 w2 w3 x1 y1 z1=t1) (et2:ld w1 w2 w3 x2 y2 z2=t2) (et3:ld w1 w2 w3 x3 y3 z3=t3) (hr:Wf q1 q2 q3 r1 r2 r3 s1 s2 s3 t1 t2 t3)
 (hxy:dt r1 r2 r3 s1 s2 s3=0) (hyz:dt s1 s2 s3 t1 t2 t3=0) (hzx:dt t1 t2 t3 r1 r2 r3=0):jX 28 [kF o1 o2 o3 x1 x2 x3 y1 y2 y3 z1 z2 z3,kF p1 p2 p3 u1 u2 u3 v1 v2 v3 w1 w2 w3] (gF q1 q2 q3 r1 r2 r3 s1 s2 s3 t1 t2 t3):=by
 have hp:jF 74 [pK o1 o2 o3 x1 x2 x3 y1 y2 y3 z1 z2 z3,vc p1 p2 p3] (vc q1 q2 q3):=by
  rw [← eq1,← eq2,← eq3]
  exact placeF (h.w.lm.mono (by decide)) ((w3lf k.w.o).mono (by decide)) ((w3lf h.w.o).mono (by decide))
 have lr:jF 76 [pK o1 o2 o3 x1 x2 x3 y1 y2 y3 z1 z2 z3,vc u1 u2 u3] (vc r1 r2 r3):=by
  rw [← er1,← er2,← er3]
  exact leadF (h.w.lm.mono (by decide)) ((w3lf k.w.x).mono (by decide))
 have ls:jF 76 [pK o1 o2 o3 x1 x2 x3 y1 y2 y3 z1 z2 z3,vc v1 v2 v3] (vc s1 s2 s3):=by
  rw [← es1,← es2,← es3]
  exact leadF (h.w.lm.mono (by decide)) ((w3lf k.w.y).mono (by decide))
 have lt:jF 76 [pK o1 o2 o3 x1 x2 x3 y1 y2 y3 z1 z2 z3,vc w1 w2 w3] (vc t1 t2 t3):=by
  rw [← et1,← et2,← et3]
  exact leadF (h.w.lm.mono (by decide)) ((w3lf k.w.z).mono (by decide))
 refine jY Tryz.func28 fun w00 hI=>?_
 refine jW hI 87 [gJ 73,kF o1 o2 o3 x1 x2 x3 y1 y2 y3 z1 z2 z3,gJ 73,kF p1 p2 p3 u1 u2 u3 v1 v2 v3 w1 w2 w3] (readFF h k) ?_
 refine jC 74 [pK o1 o2 o3 x1 x2 x3 y1 y2 y3 z1 z2 z3,vc p1 p2 p3] (hp) ?_
 refine jC 84 [.fv (.clo 76 [(true,[nb o1,nb o2,nb o3,nb x1,nb x2,nb x3,nb y1,nb y2,nb y3,nb z1,nb z2,nb z3])] []),mt u1 u2 u3 v1 v2 v3 w1 w2 w3] (eachVVc Tryz.call76 lr ls lt) ?_
 refine jW hI 88 [pK q1 q2 q3 r1 r2 r3 s1 s2 s3 t1 t2 t3] (pO hr hxy hyz hzx) ?_
 exact jR Tryz.func28
end
end Ab
section
open Go.RowKit Pl
def B9:Nat:=1000000000
theorem cE:B9=1000000000:=rfl
theorem eE:1<B9:=by unfold B9;omega
theorem bY:0<B9:=by unfold B9;omega
def dT (n:Nat):Value := .int .i64 (n:Int)
def Ri (w:World) (A:Option Addr) (n c:Nat) (xs:List Nat):Prop :=
 xs.length=n∧n≤c∧c≤maxLen∧(0<n→∃ ad,A=some ad∧ad.block<w.heap.size∧∀ (j x:Nat),xs[j]?=some x→w.cell? (ad.add j)=some (.int .i64 (x:Int)))
section
variable {w w' : World} {A:Option Addr} {n c:Nat} {xs:List Nat}
theorem Ri.len (h:Ri w A n c xs):xs.length=n:=h.1
theorem Ri.cap (h:Ri w A n c xs):n≤c:=h.2.1
theorem Ri.at_ (h:Ri w A n c xs) {k:Nat} (hk:k<n) :
 ∃ ad x,A=some ad∧ad.block<w.heap.size∧xs[k]?=some x∧w.cell? (ad.add k)=some (.int .i64 (x:Int)):=by
 obtain ⟨ad,e,hb,hc⟩:=h.2.2.2 (by omega)
 have hl:k<xs.length:=by have:=h.1;omega
 exact ⟨ad,xs[k],e,hb,List.getElem?_eq_getElem hl,hc k _ (List.getElem?_eq_getElem hl)⟩
theorem Ri.below (h:Ri w A n c xs) (hb:Below w.heap.size w w'):Ri w' A n c xs:=by
 refine ⟨h.1,h.2.1,h.2.2.1,fun hn=>?_⟩
 obtain ⟨ad,e,hl,hc⟩:=h.2.2.2 hn
 have:=hb.size
 exact ⟨ad,e,by omega,fun j x hx=>(hb.cell (p:=ad.add j) (by rw [bF];exact hl)).trans (hc j x hx)⟩
theorem Ri.nil:Ri w none 0 0 []:=⟨rfl,aR _,Nat.zero_le _,fun h=>absurd h (by omega)⟩
theorem Ri.take (h:Ri w A n c xs) {k:Nat} (hk:k≤n):Ri w A k c (xs.take k):=by
 refine ⟨by rw [List.length_take,h.1];omega,Nat.le_trans hk h.2.1,h.2.2.1,fun hp=>?_⟩
 obtain ⟨ad,e,hl,hc⟩:=h.2.2.2 (by omega)
 refine ⟨ad,e,hl,fun j x hx=>hc j x ?_⟩
 rw [List.getElem?_take] at hx
 split at hx
 ·exact hx
 ·cases hx
end
def Bi (w:World) (g:Nat) (t:TypeId) (ys:List Nat):Prop:=w.heap[g]?=some (.cells (ys.map dT).toArray t (0,0))
section
variable {w w' : World} {g:Nat} {t:TypeId} {ys:List Nat}
theorem Bi.lt (h:Bi w g t ys):g<w.heap.size:=by
 unfold Bi at h
 rcases Nat.lt_or_ge g w.heap.size with hlt|hge
 ·exact hlt
 ·rw [Array.getElem?_eq_none hge] at h;cases h
theorem Bi.cell (h:Bi w g t ys) {i x:Nat} (hx:ys[i]?=some x):w.cell? ⟨g,i,none⟩=some (.int .i64 (x:Int)):=by
 unfold Bi at h
 simp [World.cell?,h,hx,dT]
theorem Bi.cell_get (h:Bi w g t ys) {i:Nat} (hi:i<ys.length):w.cell? ⟨g,i,none⟩=some (.int .i64 ((ys[i]:Nat):Int)):=h.cell (List.getElem?_eq_getElem hi)
theorem Bi.frozen (h:Bi w g t ys) (i:Nat):w.frozen? ⟨g,i,none⟩=false:=by
 unfold Bi at h
 simp [World.frozen?,h]
theorem Bi.set_ (h:Bi w g t ys) (i x:Nat):Bi (w.setCell ⟨g,i,none⟩ (.int .i64 (x:Int))) g t (ys.set i x):=by
 unfold Bi at h ⊢
 simp only [World.setCell,Array.getElem?_modify,h]
 simp [List.map_set,dT]
theorem Bi.drew (h:Bi w g t ys):Bi w.drew g t ys:=h
theorem Bi.drewN (h:Bi w g t ys) (k:Nat):Bi (w.drewN k) g t ys:=h
theorem Bi.alloc (h:Bi w g t ys) (o:Obj):Bi (w.alloc o) g t ys:=(Below.heap_alloc w o g h.lt).trans h
theorem Bi.far (h:Bi w g t ys) {p:Addr} (hp:g≠p.block) (u:Value):Bi (w.setCell p u) g t ys:=(Below.heap_setCell w p u g hp).trans h
theorem Bi.below {B:Nat} (h:Bi w g t ys) (hb:Below B w w') (hg:g<B):Bi w' g t ys:=(hb.block g hg).trans h
theorem Bi.rd (h:Bi w g t ys) (hm:ys.length≤maxLen):Ri w (some ⟨g,0,none⟩) ys.length ys.length ys:=by
 refine ⟨rfl,aR _,hm,fun _=>⟨_,rfl,h.lt,fun j x hx=>?_⟩⟩
 have:(⟨g,0,none⟩:Addr).add j=⟨g,j,none⟩:=by unfold Addr.add;split <;> simp_all
 rw [this]
 exact h.cell hx
theorem Bi.of_own {base e n:Nat} {xs:List Value} (h:w.ownsRow base e 1 (.slice (some ⟨g,0,none⟩) n n) n xs) (hx:xs=ys.map dT):Bi w g e ys:=by
 obtain ⟨h1,h2|⟨g',cap,cur,hv,_,hh,_,_,hs,ht⟩⟩:=h
 ·obtain ⟨hv,_⟩:=h2
  injection hv with hv
  cases hv
 ·injection hv with hv _ hc
  injection hv with hv
  injection hv with hv
  subst hc
  subst hv
  unfold Bi
  rw [hh]
  have:cur.toList=xs:=by
   rw [← ht,List.take_of_length_le]
   simp [hs]
  have e2:cur=(ys.map dT).toArray:=by rw [← hx,← this]
  rw [e2]
end
def In (w:World) (v:Value) (z:Int):Prop :=
 ∃ A n c xs,v = .agg #[.bool (decide (z<0)),.slice A n c]∧Ri w A n c xs∧Dig B9 xs∧Norm xs∧val B9 xs=z.natAbs
def TrimI (xs:List Nat) (k:Nat):Prop:=k≤xs.length∧Norm (xs.take k)∧val B9 (xs.take k)=val B9 xs
theorem trim_raw (A:Option Addr) (n c:Nat) (xs:List Nat) (w:World) (h:Ri w A n c xs) :
 Calls Tryz.prog 158 #[.slice A n c] w fun e w'=>Hid (∃ k,TrimI xs k∧e = .returned (.slice A k c))∧w=w':=by
 have HR:=aH h
 have hnc:n≤c:=h.cap
 have hcm:c≤9223372036854775807:=h.2.2.1
 clear h
 go_enter Tryz.func158,Tryz.ntmps158
 go_wp2
 go_loop [0] (fun v => ∃ k:Nat,k≤n∧val B9 (xs.take k)=val B9 xs∧v = .slice A k c) (fun v=>lenOf v)
 case atStart=>exact ⟨n,aR _,by rw [List.take_of_length_le (by rw [HR.out.len];omega)],rfl⟩
 case round =>
  obtain ⟨k,hk,hv,rfl⟩:=hrel
  have HV:=aH hv
  clear hv
  by_cases hk0:0<k
  ·obtain ⟨ad,x,rfl,_hb,hx,hcell⟩:=HR.out.at_ (k:=k-1) (by omega)
   have HX:=aH hx
   clear hx
   go_wp2
   ·have h0 : x = 0 := by have:((x:Int)==0)=true:=by assumption
                          simpa using this
    subst h0
    refine ⟨⟨k-1,by omega,?_,rfl⟩,by simp only [lenOf];omega⟩
    have hlt:k-1<xs.length:=by rw [HR.out.len];omega
    have hz:xs[k-1]=0:=by have:=HX.out;rw [List.getElem?_eq_getElem hlt] at this;injection this
    have:=oR B9 hlt hz
    rw [show k-1+1=k from by omega] at this
    rw [← this];exact HV.out
   ·have h0:((x:Int)==0)=false:=by assumption
    go_ret
    refine ⟨⟨k,⟨by rw [HR.out.len];exact hk,xI (by rw [HR.out.len];exact hk) (fun _=>?_),HV.out⟩,rfl⟩,rfl⟩
    rw [HX.out]
    intro e
    injection e with e
    subst e
    simp at h0
  ·have hz:decide (0<(k:Int))=false:=by simp;omega
   have hk00:k=0:=by omega
   have HK:=aH hk00
   clear hk00
   go_wp2
   go_ret
   refine ⟨⟨k,⟨by omega,?_,HV.out⟩,rfl⟩,rfl⟩
   rw [HK.out]
   simpa using Norm.nil
def iS (neg:Bool) (a:Nat):Int:=if neg then -(a:Int) else a
theorem zJ (neg:Bool) (a:Nat):(iS neg a).natAbs=a:=by cases neg <;> simp [iS]
theorem sgz_neg (neg:Bool) (a:Nat):decide (iS neg a<0)=(neg&&decide (0<a)):=by
 cases neg
 ·simp [iS]
 ·simp [iS]
theorem jH (neg:Bool) (A:Option Addr) (n c:Nat) (xs:List Nat) (w:World) (h:Ri w A n c xs) (hd:Dig B9 xs) :
 Calls Tryz.prog 109 #[.bool neg,.slice A n c] w fun e w' => ∃ v,e = .returned v∧In w' v (iS neg (val B9 xs))∧Below w.heap.size w w':=by
 have HR:=aH (aI h hd)
 clear h hd
 go_enter Tryz.func109,Tryz.ntmps109
 go_wp2_with fail
 refine (trim_raw A n c xs _ (HR.out.1.below ((aB _ _).alloc (aR _) _))).mono ?_
 rintro e w' ⟨⟨k,⟨hk,hn,hv⟩,rfl⟩,rfl⟩
 have HK:=aH (aI hk (aI hn hv))
 clear hk hn hv
 have res:∀ (b:Bool),b=(neg&&decide (0<k))→∀ w' : World,Below w.heap.size w w'→In w' (.agg #[.bool b,.slice A k c]) (iS neg (val B9 xs)):=by
  intro b hb w' hbel
  obtain ⟨hk,hn,hv⟩:=HK.out
  refine ⟨A,k,c,xs.take k,?_,(HR.out.1.below hbel).take (by rw [← HR.out.1.len];exact hk),HR.out.2.take k,hn,by rw [zJ];exact hv⟩
  rw [sgz_neg,hb]
  have:decide (0<k)=decide (0<val B9 xs):=by
   rw [decide_eq_decide,← hv]
   constructor
   ·intro h0
    refine Nat.pos_of_ne_zero fun he=>?_
    have:=(Norm.zero_iff bY hn).1 he
    have h2:=congrArg List.length this
    rw [List.length_take,List.length_nil] at h2
    omega
   ·intro h0
    refine Nat.pos_of_ne_zero fun he=>?_
    subst he
    simp [val] at h0
  rw [this]
 cases neg
 ·go_wp2
  refine bodyPost_ret (v := .agg #[.bool false,.slice A k c]) (by simp [results,Tryz.results109,go_sem]) rfl ⟨_,rfl,res false (by simp) _ ((aB _ _).alloc (aR _) _),(aB _ _).alloc (aR _) _⟩
 ·by_cases h0:0<k
  ·have c0:(0:Int)<k:=by omega
   go_wp2
   refine bodyPost_ret (v := .agg #[.bool true,.slice A k c]) (by simp [results,Tryz.results109,go_sem]) rfl ⟨_,rfl,res true (by simp [h0]) _ ((aB _ _).alloc (aR _) _),(aB _ _).alloc (aR _) _⟩
  ·have c0:¬ (0:Int)<k:=by omega
   go_wp2
   refine bodyPost_ret (v := .agg #[.bool false,.slice A k c]) (by simp [results,Tryz.results109,go_sem]) rfl ⟨_,rfl,res false (by simp [h0]) _ ((aB _ _).alloc (aR _) _),(aB _ _).alloc (aR _) _⟩
end
section
open Go.RowKit Pl
def isL (c:Nat):Bool:=(decide (97≤c)&&decide (c≤122)) || (decide (65≤c)&&decide (c≤90))
def isBh (c:Nat):Bool:=(decide (48≤c)&&decide (c≤57)) || decide (c=95)
def gY:List UInt8→Bool
 | []=>true
 | c::l=>(isL c.toNat || isBh c.toNat)&&gY l
def vY (s:ByteArray):Bool:=match aC s with
 | []=>false
 | c::l=>isL c.toNat&&gY l&&decide (s.size≤24)
theorem mO (c:Nat) (w:World):Calls Tryz.prog 91 #[.int .i32 (c:Int)] w fun e w'=>e = .returned (.bool (isL c))∧w'=w:=by
 go_enter Tryz.func91,Tryz.ntmps91
 have e1:decide ((97:Int)≤c)=decide (97≤c):=by rw [decide_eq_decide];omega
 have e2:decide ((c:Int)≤122)=decide (c≤122):=by rw [decide_eq_decide];omega
 have e3:decide ((65:Int)≤c)=decide (65≤c):=by rw [decide_eq_decide];omega
 have e4:decide ((c:Int)≤90)=decide (c≤90):=by rw [decide_eq_decide];omega
 by_cases h1:97≤c <;> by_cases h2:c≤122 <;> by_cases h3:65≤c <;> by_cases h4:c≤90 <;>
  (have k1:(97≤(c:Int))=(97≤c):=by simp;omega) <;> first|omega|(
   simp only [h1,h2,h3,h4,decide_true,decide_false] at e1 e2 e3 e4
   go_wp2
   go_ret
   simp [isL,h1,h2,h3,h4])
theorem zK (c:Nat) (w:World):Calls Tryz.prog 92 #[.int .i32 (c:Int)] w fun e w'=>e = .returned (.bool (isBh c))∧w'=w:=by
 go_enter Tryz.func92,Tryz.ntmps92
 have e1:decide ((48:Int)≤c)=decide (48≤c):=by rw [decide_eq_decide];omega
 have e2:decide ((c:Int)≤57)=decide (c≤57):=by rw [decide_eq_decide];omega
 have e3:decide ((c:Int)=95)=decide (c=95):=by rw [decide_eq_decide];omega
 have e4:((c:Int)==95)=decide (c=95):=by rw [Bool.eq_iff_iff];simp;omega
 by_cases h1:48≤c <;> by_cases h2:c≤57 <;> by_cases h3:c=95 <;> first|omega|(
  simp only [h1,h2,h3,decide_true,decide_false] at e1 e2 e3
  go_wp2
  go_ret
  simp [isBh,e4,h1,h2,h3])
theorem isL_high {c:Nat} (h:128≤c):isL c=false:=by
 simp only [isL,Bool.or_eq_false_iff,Bool.and_eq_false_iff,decide_eq_false_iff_not]
 omega
theorem xW {c:Nat} (h:128≤c):isBh c=false:=by
 simp only [isBh,Bool.or_eq_false_iff,Bool.and_eq_false_iff,decide_eq_false_iff_not]
 omega
def lN (pos c:Nat):Bool:=isL c || (decide (pos≠0)&&isBh c)
theorem qO (l:List UInt8):gY l=true↔∀ c∈l,(isL c.toNat || isBh c.toNat)=true:=by
 induction l with
 | nil=>simp [gY]
 | cons c l ih=>simp only [gY,Bool.and_eq_true,ih,List.forall_mem_cons]
theorem nameB_ok {s:ByteArray} (h:∀ (j:Nat) (hj:j<s.size),lN j (s[j]'hj).toNat=true):vY s=(decide (s.size≠0)&&decide (s.size≤24)):=by
 have hl:=aG s
 have hg:∀ (j:Nat) (hj:j<(aC s).length),lN j ((aC s)[j]'hj).toNat=true:=fun j hj=>by
  have:=h j (by rw [← hl];exact hj)
  simp only [aC,Array.getElem_toList]
  exact this
 unfold vY
 cases hb:aC s with
 | nil=>rw [hb] at hl;simp at hl;simp [← hl]
 | cons c l =>
   rw [hb] at hl hg
   have h0:=hg 0 (by simp)
   simp [lN] at h0
   have hf:gY l=true:=by
    rw [qO]
    intro d hd
    obtain ⟨i,hi,rfl⟩:=List.getElem_of_mem hd
    have:=hg (i+1) (by simp;omega)
    simpa [lN] using this
   show (isL c.toNat&&gY l&&decide (s.size≤24))=_
   rw [h0,hf]
   simp at hl
   have:s.size≠0:=by omega
   simp [this]
theorem xX {s:ByteArray} {j:Nat} (hj:j<s.size) (h:lN j (s[j]'hj).toNat=false):vY s=false:=by
 have hl:=aG s
 have hg:lN j ((aC s)[j]'(by omega)).toNat=false:=by
  simp only [aC,Array.getElem_toList]
  exact h
 unfold vY
 cases hb:aC s with
 | nil=>rfl
 | cons c l =>
   simp only [hb] at hg
   cases j with
   | zero=>simp [lN] at hg;simp [hg]
   | succ j =>
     have:gY l=false:=by
      rw [Bool.eq_false_iff]
      intro hf
      rw [qO] at hf
      have h2:=hf (l[j]'(by rw [hb] at hl;simp at hl;omega)) (List.getElem_mem _)
      simp [lN] at hg
      simp [hg] at h2
     simp [this]
set_option maxRecDepth 100000 in
theorem isName_any (s:ByteArray) (w:World):Calls Tryz.prog 31 #[.string s] w fun e w'=>e = .returned (.bool (vY s))∧Below w.heap.size w w':=by
 have hne:(!(s.toList==(⟨#[]⟩:ByteArray).toList))=decide (s.size≠0):=by
  rw [Go.ByteArray.toList_eq,Go.ByteArray.toList_eq]
  have hl:=aG s
  unfold aC at hl
  cases hb:s.data.toList with
  | nil=>rw [hb] at hl;simp at hl;simp [← hl]
  | cons c l =>
    rw [hb] at hl
    simp at hl
    have:s.size≠0:=by omega
    simp [this]
 go_enter Tryz.func31,Tryz.ntmps31
 go_wp2
 go_loopw [7] (fun _ wr => ∃ pos:Nat,wr=w.iter s pos∧pos≤s.size∧∀ (j:Nat) (hj:j<s.size),j<pos→lN j (s[j]'hj).toNat=true) (fun _ wr=>s.size-wr.iterPos w.heap.size)
 case atStart=>exact ⟨0,rfl,Nat.zero_le _,fun j _ h=>absurd h (Nat.not_lt_zero _)⟩
 case round =>
  obtain ⟨pos,rfl,hpos,hok⟩:=hrel
  by_cases hp:pos<s.size
  ·obtain ⟨c,k,hdc,hk,hgood⟩:∃ c k,Utf8.decode s pos=(c,k)∧1≤k∧(lN pos c=true→(∀ hj:pos<s.size,lN pos (s[pos]'hj).toNat=true)∧k=1)∧(lN pos c=false→∀ hj:pos<s.size,lN pos (s[pos]'hj).toNat=false):=by
    by_cases ha:(s[pos]'hp).toNat<128
    ·exact ⟨_,_,decode_ascii s pos hp ha,aR _,fun h=>⟨fun _=>h,rfl⟩,fun h _=>h⟩
    ·obtain ⟨h1,h2⟩:=decode_high s pos hp (by omega)
     refine ⟨(Utf8.decode s pos).1,(Utf8.decode s pos).2,rfl,h2,fun h=>?_,fun _ _=>?_⟩
     ·rw [lN,isL_high h1,xW h1] at h
      simp at h
     ·rw [lN,isL_high (by omega),xW (by omega)]
      simp
   have hnx:∀ ty,(Instr.next (.pointer (some ⟨w.heap.size,0,none⟩)) true ty).run Tryz.prog (w.iter s pos) = .ok (.tuple #[.bool true,.int .i64 pos,.int .i32 (c:Int)]) (w.iter s (pos+k)):=fun ty=>by
    have:=run_next_any (P:=Tryz.prog) w s pos ty hp
    rw [hdc] at this
    exact this
   have HH:=aH (aI hp (aI hpos (aI hok (aI hk (aI hgood hne)))))
   clear hdc hp hpos hok hk hgood hne
   by_cases hL:isL c=true
   ·go_wp2_with fail
    refine (mO c _).mono ?_
    rintro e w' ⟨rfl,rfl⟩
    rw [hL]
    go_wp2
    go_roundw
    case rel =>
     obtain ⟨hp,hpos,hok,hk,hg,_⟩:=HH.out
     obtain ⟨g1,rfl⟩:=hg.1 (by rw [lN,hL];rfl)
     refine ⟨pos+1,rfl,hp,fun j hj hjp=>?_⟩
     by_cases hjj:j=pos
     ·subst hjj;exact g1 hj
     ·exact hok j hj (by omega)
    case measure =>
     have:=HH.out.1
     have:=HH.out.2.2.2.1
     simp
     omega
   ·have hL:isL c=false:=by simpa using hL
    by_cases h0:pos=0
    ·have hz:((pos:Int)==0)=true:=by simp [h0]
     have hbad:lN pos c=false:=by rw [lN,hL,h0];simp
     clear h0
     go_wp2_with fail
     refine (mO c _).mono ?_
     rintro e w' ⟨rfl,rfl⟩
     rw [hL]
     go_wp2
     go_ret
     obtain ⟨hp,_,_,_,hg,_⟩:=HH.out
     exact ⟨by rw [xX hp (hg.2 hbad hp)];rfl,jD _ _ _⟩
    ·have hz:((pos:Int)==0)=false:=by simp [h0]
     have H0:=aH h0
     clear h0
     go_wp2_with fail
     refine (mO c _).mono ?_
     rintro e w' ⟨rfl,rfl⟩
     rw [hL]
     go_wp2_with fail
     refine (zK c _).mono ?_
     rintro e w' ⟨rfl,rfl⟩
     cases hB:isBh c with
     | false =>
       go_wp2
       go_ret
       obtain ⟨hp,_,_,_,hg,_⟩:=HH.out
       exact ⟨by rw [xX hp (hg.2 (by rw [lN,hL,hB];simp) hp)];rfl,jD _ _ _⟩
     | true =>
       go_wp2
       go_roundw
       case rel =>
        obtain ⟨hp,hpos,hok,hk,hg,_⟩:=HH.out
        obtain ⟨g1,rfl⟩:=hg.1 (by have:=H0.out;simp [lN,hL,hB,this])
        refine ⟨pos+1,rfl,hp,fun j hj hjp=>?_⟩
        by_cases hjj:j=pos
        ·subst hjj;exact g1 hj
        ·exact hok j hj (by omega)
       case measure =>
        have:=HH.out.1
        have:=HH.out.2.2.2.1
        simp
        omega
  ·have hnx:∀ ty,(Instr.next (.pointer (some ⟨w.heap.size,0,none⟩)) true ty).run Tryz.prog (w.iter s pos)=_:=fun ty=>run_next_end w s pos ty hp
   have hres:vY s=(decide (s.size≠0)&&decide (s.size≤24)):=nameB_ok fun j hj=>hok j hj (by omega)
   have H2:=aH hres
   clear hres hok hp hpos
   by_cases h0:s.size=0
   ·have hne2:s.toList.isEmpty=true:=by rw [Go.ByteArray.toList_eq];simp;have:=aG s;unfold aC at this;exact Array.eq_empty_of_size_eq_zero (by simpa using this.trans h0)
    clear hne
    go_wp2
    go_ret
    refine ⟨?_,jD _ _ _⟩
    rw [H2.out,h0]
    rfl
   ·have hne2:s.toList.isEmpty=false:=by
     rw [Go.ByteArray.toList_eq,Bool.eq_false_iff]
     intro he
     have h2:=aG s
     unfold aC at h2
     rw [List.isEmpty_iff.1 he] at h2
     exact h0 h2.symm
    have H0:=aH h0
    clear hne h0
    go_wp2
    go_ret
    refine ⟨?_,jD _ _ _⟩
    rw [H2.out]
    have h0:=H0.out
    simp [h0]
    omega
end
namespace Ab
open Go.RowKit Pl
theorem isNameF {s:ByteArray} {b:Bool} (h:vY s=b):jF 31 [lt s] (bl b):=by
 intro β w vs hv
 obtain ⟨v,rfl,h1⟩:=dQ hv
 rw [aO h1]
 exact (isName_any s w).mono fun e w' ⟨e1,e2⟩=>⟨_,e1,e2,by rw [h];exact bB rfl⟩
end Ab
section
open Go.RowKit Pl
def lo (n:Nat):Nat→List UInt8
 | 0 => []
 | k+1=>UInt8.ofNat (48+n/10^k%10)::lo n k
def xY (n k:Nat):ByteArray:=⟨(lo n k).toArray⟩
theorem lo_length (n k:Nat):(lo n k).length=k:=by induction k with|zero=>rfl|succ k ih=>simp [lo,ih]
theorem gZ (n k:Nat):(xY n k).size=k:=by simp [xY,ByteArray.size,lo_length]
abbrev digs:ByteArray:=⟨#[48,49,50,51,52,53,54,55,56,57]⟩
theorem digs_at {d:Nat} (h:d<10):digs.extract d (d+1)=⟨#[UInt8.ofNat (48+d)]⟩:=by
 match d,h with
 | 0,_|1,_|2,_|3,_|4,_|5,_|6,_|7,_|8,_|9,_=>rfl
theorem loB_succ (n k:Nat):(⟨#[UInt8.ofNat (48+n/10^k%10)]⟩:ByteArray)++xY n k=xY n (k+1):=by
 apply Ab.ba_ext
 simp [xY,lo]
theorem meas1 {q m least k a b:Nat} (hq:q=m/10) (h0:0<m) (ha:a=k+1) (hb:b=k):q+(least-a)<m+(least-b):=by omega
theorem meas2 {q m least k a b:Nat} (hq:q=m/10) (h0:m=0) (hk:k<least) (ha:a=k+1) (hb:b=k):q+(least-a)<m+(least-b):=by omega
theorem wrapI {q:Nat} (h:q<9223372036854775808):wrap64 (q:Int)=q:=by unfold wrap64;omega
theorem k18 {n k:Nat} (hn:n<9223372036854775808) (hp:10^k≤n):k≤18:=by
 refine Nat.le_of_not_lt fun hlt=>?_
 have h1:10^19≤10^k:=Nat.pow_le_pow_right (by omega) hlt
 have h2:(10:Nat)^19=10000000000000000000:=rfl
 rw [h2] at h1
 omega
set_option maxRecDepth 100000 in
theorem tH (n least:Nat) (w:World) (hn:n<9223372036854775808) (hl:least≤100):Calls Tryz.prog 106 #[.int .i64 (n:Int),.int .i64 (least:Int)] w fun e w' =>
 w'=w∧∃ K,e = .returned (.string (xY n K))∧n<10^K∧least≤K∧(K=least∨10^(K-1)≤n):=by
 have H:=aH (aI hn hl)
 clear hn hl
 go_enter Tryz.func106,Tryz.ntmps106
 go_wp2
 go_loopw [0,5] (fun a s wr => ∃ k m:Nat,a = .int .i64 (m:Int)∧s = .string (xY n k)∧m=n/10^k∧wr=w∧(k=0∨k≤least∨10^(k-1)≤n)∧k≤100) (fun a s _=>(match a with | .int _ z=>z.toNat|_=>0)+(least-mI s))
 case atStart=>exact ⟨0,n,rfl,by simp [xY,lo],by simp,rfl,.inl rfl,by omega⟩
 case round =>
  obtain ⟨k,m,rfl,rfl,hm,rfl,hk,hk100⟩:=hrel
  obtain ⟨d,hd⟩:∃ d,d=m%10:=⟨_,rfl⟩
  obtain ⟨q,hq⟩:∃ q,q=m/10:=⟨_,rfl⟩
  have hd10:d<10:=by omega
  have hm63:m≤n:=by rw [hm];exact Nat.div_le_self _ _
  have t1:((m:Int).tmod 10)=(d:Int):=by rw [Int.tmod_eq_emod_of_nonneg (by omega)];omega
  have t2:((m:Int)%10)=(d:Int):=by omega
  have t3:((m:Int).tdiv 10)=(q:Int):=by rw [Int.tdiv_eq_ediv_of_nonneg (by omega)];omega
  have t4:((m:Int)/10)=(q:Int):=by omega
  have d0:(0:Int)≤d:=by omega
  have d1:(d:Int)+1≤10:=by omega
  have d2:(d:Int)≤d+1:=by omega
  have hsz:((xY n k).size:Int)=(k:Int):=by rw [gZ]
  have hext:digs.extract d (d+1)++xY n k=xY n (k+1):=by
   rw [digs_at hd10,hd,hm]
   exact loB_succ n k
  have HH:=aH (aI hd (aI hq (aI hm (aI hk (aI hk100 (aI hm63 hext))))))
  clear hd hq hm hk hk100 hm63 hext
  by_cases h0:0<m
  ·have c0:(0:Int)<m:=by omega
   have HP:=aH h0
   clear h0
   go_wp2
   ·exfalso
    have:=gZ n k
    have:=HH.out.2.2.2.2.1
    omega
   have h0':=HP.out
   obtain ⟨hd,hq,hm,hk,hk100,hm63,hext⟩:=HH.out
   obtain ⟨hn,hl⟩:=H.out
   have hq2:q=n/10^(k+1):=by rw [hq,hm,Nat.div_div_eq_div_mul,Nat.pow_succ]
   have hp:10^k≤n:=by
    rw [hm] at h0'
    exact (Nat.div_pos_iff.1 h0').2
   have hk18:=k18 hn hp
   rw [wrapI (show q<9223372036854775808 by omega)]
   refine ⟨⟨k+1,q,rfl,by rw [hext],hq2,trivial,.inr (.inr hp),by omega⟩,?_⟩
   rw [hext]
   show q+(least-(xY n (k+1)).size)<m+(least-(xY n k).size)
   exact meas1 hq h0' (gZ _ _) (gZ _ _)
  ·have c0:¬ (0:Int)<m:=by omega
   by_cases h1:k<least
   ·have c1:(k:Int)<least:=by omega
    go_wp2
    ·exfalso
     have:=gZ n k
     have:=HH.out.2.2.2.2.1
     omega
    obtain ⟨hd,hq,hm,hk,hk100,hm63,hext⟩:=HH.out
    obtain ⟨hn,hl⟩:=H.out
    have hq2:q=n/10^(k+1):=by rw [hq,hm,Nat.div_div_eq_div_mul,Nat.pow_succ]
    have hz:m=0:=by omega
    refine ⟨⟨k+1,q,rfl,by rw [hext],hq2,trivial,.inr (.inl h1),by omega⟩,?_⟩
    rw [hext]
    show q+(least-(xY n (k+1)).size)<m+(least-(xY n k).size)
    exact meas2 hq hz h1 (gZ _ _) (gZ _ _)
   ·have c1:¬ (k:Int)<least:=by omega
    go_wp2
    go_ret
    obtain ⟨hd,hq,hm,hk,hk100,hm63,hext⟩:=HH.out
    have hz:n/10^k=0:=by omega
    refine ⟨rfl,k,rfl,?_,by omega,?_⟩
    ·rcases Nat.div_eq_zero_iff.1 hz with h|h
     ·have:=Nat.pow_pos (n:=k) (show 0<10 by omega);omega
     ·exact h
    ·rcases hk with h|h|h
     ·left;omega
     ·left;omega
     ·right;exact h
theorem lo_add (x c k:Nat):∀ j,j≤k→lo (x+c*10^k) j=lo x j:=by
 intro j
 induction j with
 | zero=>intro _;rfl
 | succ j ih =>
   intro hj
   simp only [lo]
   rw [ih (by omega)]
   congr 3
   have hk:10^k=10*10^(k-1-j)*10^j:=by
    rw [Nat.mul_assoc,← Nat.pow_add,← Nat.pow_succ']
    congr 1
    omega
   rw [hk,← Nat.mul_assoc,Nat.add_mul_div_right _ _ (Nat.pow_pos (by omega)),← Nat.mul_assoc,Nat.mul_comm c 10,Nat.mul_assoc,Nat.add_mul_mod_self_left]
theorem lo_mod (x k:Nat):lo (x%10^k) k=lo x k:=by
 have h:x=x%10^k+x/10^k*10^k:=by rw [Nat.mul_comm];exact (Nat.mod_add_div x (10^k)).symm
 have h2:=lo_add (x%10^k) (x/10^k) k k (aR _)
 rw [← h] at h2
 exact h2.symm
theorem dec_app:∀ (k a x:Nat),0<a→x<10^k→Lib.decDigits (a*10^k+x)=Lib.decDigits a++lo x k:=by
 intro k
 induction k with
 | zero=>intro a x ha hx;simp at hx;subst hx;simp [lo]
 | succ k ih =>
   intro a x ha hx
   have hd:x/10^k<10:=by rw [Nat.div_lt_iff_lt_mul (Nat.pow_pos (by omega))];rw [Nat.pow_succ,Nat.mul_comm] at hx;exact hx
   have he:a*10^(k+1)+x=(a*10+x/10^k)*10^k+x%10^k:=by
    have:=Nat.mod_add_div x (10^k)
    rw [Nat.add_mul,Nat.pow_succ,Nat.mul_assoc a 10,Nat.mul_comm 10 (10^k),Nat.mul_comm (x/10^k)]
    omega
   have hlo:lo x (k+1)=UInt8.ofNat (48+x/10^k%10)::lo x k:=rfl
   rw [he,hlo]
   generalize x/10^k=d at hd
   rw [ih _ _ (by omega) (Nat.mod_lt _ (Nat.pow_pos (by omega))),lo_mod,eH (by omega),show (a*10+d)/10=a by omega,show (a*10+d)%10=d by omega]
   rw [List.append_assoc,Nat.mod_eq_of_lt hd]
   rfl
theorem dec_lo {n K:Nat} (h1:n<10^(K+1)) (h2:K=0∨10^K≤n):lo n (K+1)=Lib.decDigits n:=by
 have hp:0<10^K:=Nat.pow_pos (by omega)
 have hd:n/10^K<10:=by rw [Nat.div_lt_iff_lt_mul hp];rw [Nat.pow_succ,Nat.mul_comm] at h1;exact h1
 rcases h2 with h2|h2
 ·subst h2
  simp at h1
  rw [cG h1]
  simp [lo,Nat.mod_eq_of_lt h1]
 ·have ha:0<n/10^K:=Nat.div_pos h2 hp
  have he:n=n/10^K*10^K+n%10^K:=by have:=Nat.mod_add_div n (10^K);rw [Nat.mul_comm] at this;omega
  have h3:=dec_app K _ _ ha (Nat.mod_lt n hp)
  rw [← he,cG hd,lo_mod] at h3
  rw [h3]
  simp [lo,Nat.mod_eq_of_lt hd]
theorem loB_dec {n K:Nat} (h1:n<10^K) (hK:1≤K) (h2:K=1∨10^(K-1)≤n):xY n K=Ab.decB n:=by
 obtain ⟨k,rfl⟩:∃ k,K=k+1:=⟨K-1,by omega⟩
 unfold xY Ab.decB
 rw [dec_lo h1 ?_]
 rcases h2 with h|h
 ·left;omega
 ·right;simpa using h
theorem decB_app {a x:Nat} (ha:0<a) (hx:x<B9):Ab.decB a++xY x 9=Ab.decB (x+B9*a):=by
 apply Ab.ba_ext
 have:=dec_app 9 a x ha (by rw [cE] at hx;omega)
 simp only [Ab.decB,xY]
 rw [show x+B9*a=a*10^9+x by rw [cE];omega,this]
 simp
theorem nR (n:Nat) (w:World) (hn:n<9223372036854775808):Calls Tryz.prog 106 #[.int .i64 (n:Int),.int .i64 1] w fun e w'=>w'=w∧e = .returned (.string (Ab.decB n)) :=
 (tH n 1 w hn (by omega)).mono fun e w' ⟨e1,K,e2,h1,h2,h3⟩=>⟨e1,by rw [e2,loB_dec h1 h2 h3]⟩
theorem decimal9 (n:Nat) (w:World) (hn:n<B9):Calls Tryz.prog 106 #[.int .i64 (n:Int),.int .i64 9] w fun e w'=>w'=w∧e = .returned (.string (xY n 9)) :=
 (tH n 9 w (by rw [cE] at hn;omega) (by omega)).mono fun e w' ⟨e1,K,e2,h1,h2,h3⟩=>⟨e1,by
  have:K=9:=by
   rcases h3 with h|h
   ·exact h
   ·refine Nat.le_antisymm (Nat.le_of_not_lt fun hlt=>?_) h2
    have h4:10^9≤10^(K-1):=Nat.pow_le_pow_right (by omega) (by omega)
    rw [show (10:Nat)^9=1000000000 from rfl] at h4
    rw [cE] at hn
    omega
  rw [e2,this]⟩
def aX (z:Int):ByteArray:=if z<0 then ⟨#[45]⟩++Ab.decB z.natAbs else Ab.decB z.natAbs
theorem size_val {xs:List Nat} (hd:Dig B9 xs) (h0:xs≠[]):(Ab.decB (val B9 xs)).size≤9*xs.length:=by
 have h1:=bM hd
 have h2:B9^xs.length=10^(9*xs.length):=by rw [Nat.pow_mul];rfl
 have hl:0<xs.length:=List.length_pos_iff.2 h0
 rw [h2,show 9*xs.length=9*xs.length-1+1 by omega] at h1
 have:=Ab.decB_size h1
 omega
set_option maxRecDepth 100000 in
theorem text_raw (neg:Bool) (A:Option Addr) (n c:Nat) (xs:List Nat) (w:World) (h:Ri w A n c xs) (hd:Dig B9 xs) (hn:Norm xs) (hlen:n≤100000000) :
 Calls Tryz.prog 108 #[.agg #[.bool neg,.slice A n c]] w fun e w'=>e = .returned (.string (if neg&&decide (0<n) then ⟨#[45]⟩++Ab.decB (val B9 xs) else Ab.decB (val B9 xs)))∧Below w.heap.size w w':=by
 have hB:Below w.heap.size w (w.alloc (.cells #[.bool neg,.slice A n c] 84)):=(aB _ _).alloc (aR _) _
 have HR:=aH (aI (h.below hB) (aI hd (aI hn (aI hlen (aI h.len hB)))))
 clear h hd hn hlen hB
 go_enter Tryz.func108,Tryz.ntmps108
 rcases Nat.eq_zero_or_pos n with h0|h0
 ·subst h0
  have h0:xs = []:=List.eq_nil_of_length_eq_zero HR.out.2.2.2.2.1
  have he:Ab.decB (val B9 xs)=⟨#[48]⟩:=by rw [h0];exact Ab.dec0
  have hb:=HR.out.2.2.2.2.2
  clear HR h0
  cases neg <;> (go_wp2;go_ret;exact ⟨rfl,hb⟩)
 ·have c0:((n:Int)==0)=false:=by simp;omega
  obtain ⟨m,hm⟩:∃ m,m=n-1:=⟨_,rfl⟩
  obtain ⟨ad,x,rfl,_hb,hx,hcell⟩:=HR.out.1.at_ (k:=m) (by omega)
  have c1:((n:Int)-1)=(m:Int):=by omega
  have c3:((n:Int)-2)=(m:Int)-1:=by omega
  have c2:(m:Int)<n:=by omega
  have c4:wrap64 (m:Int)=m:=wrapI (by have:=HR.out.2.2.2.1;omega)
  have c5:wrap64 ((m:Int)-1)=(m:Int)-1:=by unfold wrap64;have:=HR.out.2.2.2.1;omega
  have hlx:m<xs.length:=by rw [HR.out.2.2.2.2.1];omega
  have hx9:x<B9:=HR.out.2.1.at_ hx
  have hx63:x<9223372036854775808:=by rw [cE] at hx9;omega
  have hdrop:val B9 (xs.drop m)=x:=by
   rw [List.getElem?_eq_getElem hlx] at hx
   injection hx with hx
   rw [lB B9 xs _ hlx,List.drop_of_length_le (by rw [HR.out.2.2.2.2.1];omega)]
   simp [val,hx]
  have HX:=aH (aI hx (aI hdrop hm))
  clear hx hdrop hlx hx9 hm
  go_wp2_with fail
  refine (nR x _ hx63).mono ?_
  rintro e w' ⟨rfl,rfl⟩
  go_wp2_with fail
  go_loopw [3,4] (fun s i wr => ∃ k:Nat,i = .int .i64 ((k:Int)-1)∧k≤m∧s = .string (Ab.decB (val B9 (xs.drop k)))∧wr=w.alloc (.cells #[.bool neg,.slice (some ad) n c] 84)) (fun _ i _=>(intOf i+1).toNat)
  case atStart=>exact ⟨m,by rw [c5],aR _,by rw [HX.out.2.1],rfl⟩
  case round =>
   obtain ⟨k,rfl,hk,rfl,rfl⟩:=hrel
   have hpos:0<val B9 (xs.drop k):=by
    obtain ⟨hx,_,hm⟩:=HX.out
    obtain ⟨_,hd,hn,_,hl,_⟩:=HR.out
    have hne:xs.drop k≠[]:=fun e=>by have:=congrArg List.length e;rw [List.length_drop,List.length_nil] at this;omega
    refine Norm.pos bY (fun h=>?_) hne
    rw [List.getLast_drop]
    exact hn _
   have hsz:(Ab.decB (val B9 (xs.drop k))).size≤900000000:=by
    obtain ⟨_,hd,hn,hlen,hl,_⟩:=HR.out
    have hne:xs.drop k≠[]:=fun e=>by have:=congrArg List.length e;rw [List.length_drop,List.length_nil] at this;have:=HX.out.2.2;omega
    have:=size_val (hd.drop k) hne
    rw [List.length_drop] at this
    omega
   rcases Nat.eq_zero_or_pos k with h0|h0
   ·subst h0
    rw [List.drop_zero] at hpos hsz ⊢
    have HF:=aH (aI hpos hsz)
    clear hpos hsz hk
    have hb:=HR.out.2.2.2.2.2
    cases neg
    ·go_wp2
     all_goals first|(exfalso;have:=HF.out.2;simp at *;omega)|(go_ret;exact ⟨rfl,hb⟩)
    ·go_wp2
     all_goals first|(go_ret;exact ⟨rfl,hb⟩)|(exfalso;have:=HF.out.2;simp at *;omega)
   ·obtain ⟨j,hj⟩:∃ j,j=k-1:=⟨_,rfl⟩
    have d1:((k:Int)-1)=(j:Int):=by omega
    have d2:(j:Int)<n:=by have:=HX.out.2.2;omega
    have d3:(0:Int)≤j:=by omega
    have d4:wrap64 ((j:Int)-1)=(j:Int)-1:=by unfold wrap64;have:=HR.out.2.2.2.1;have:=HX.out.2.2;omega
    obtain ⟨ad',y,e,_hb',hy,hcy⟩:=HR.out.1.at_ (k:=j) (by have:=HX.out.2.2;omega)
    injection e with e
    subst e
    have hy9:y<B9:=HR.out.2.1.at_ hy
    have HY:=aH (aI hy (aI hj (aI hpos (aI hsz (aI hk h0)))))
    clear hy hj hpos hsz hk h0 hcell
    rw [d1]
    go_wp2_with fail
    refine (decimal9 y _ hy9).mono ?_
    rintro e w' ⟨rfl,rfl⟩
    go_wp2
    ·exfalso
     have h9:=gZ y 9
     obtain ⟨_,_,_,h8,_⟩:=HY.out
     omega
    go_roundw
    case rel =>
     obtain ⟨hy,hj,hpos,hsz,hk,h0⟩:=HY.out
     have hl:=HR.out.2.2.2.2.1
     have hjl:j<xs.length:=by have:=HX.out.2.2;omega
     rw [c5]
     refine ⟨_,_,_,_,_,_,_,_,_,_,_,_,_,_,⟨j,?_,by omega,?_,trivial⟩,rfl⟩
     ·rw [d4]
     congr 1
     rw [decB_app hpos hy9,lB B9 xs j hjl]
     rw [List.getElem?_eq_getElem hjl] at hy
     injection hy with hy
     rw [hy,show j+1=k by omega]
    case measure =>
     have:=HY.out.2.1
     have:=HY.out.2.2.2.2.2
     simp [intOf]
     omega
theorem row_ri {w:World} {base m:Nat} {e:TypeId} {v:Value} {ws:List Nat} (h:w.ownsRow base e 1 v m (ws.map dT)):∃ A c,v = .slice A m c∧Ri w A m c ws:=by
 obtain ⟨h1,h2⟩:=h
 have hl:ws.length=m:=by simpa using h1
 rcases h2 with ⟨rfl,rfl⟩|⟨g,cap,cur,rfl,e2,e3,e4,e5,e6,e7⟩
 ·have:ws = []:=List.eq_nil_of_length_eq_zero hl
  subst this
  exact ⟨none,0,rfl,Ri.nil⟩
 ·refine ⟨_,cap,rfl,hl,e4,e5,fun _=>⟨_,rfl,lt_of_block e3,fun j x hx=>?_⟩⟩
  rw [vJ,aA e3,← Array.getElem?_toList]
  have hj:(cur.toList.take (m*1))[0+j]?=some (.int .i64 (x:Int)):=by rw [e7,Nat.zero_add,List.getElem?_map,hx];rfl
  rw [List.getElem?_take] at hj
  split at hj
  ·exact hj
  ·cases hj
def WholeAt (w:World) (z:Int) (nv wv:Value) (wr:World):Prop :=
 ∃ (m:Int) (ds:List Nat),nv = .int .i64 m∧wr.ownsRow (w.heap.size+1) 3 1 wv ds.length (ds.map dT)∧Dig B9 ds∧z.natAbs=val B9 ds+B9^ds.length*m.natAbs∧(m<0→z<0)∧(0<m→0<z) ∧
   Below w.heap.size w wr∧wr.heap[w.heap.size]?=some (.cells #[.bool false,.slice none 0 0] 84 (0,0))∧w.heap.size<wr.heap.size
theorem whole_len {z m:Int} {ds:List Nat} (hz:-9223372036854775808≤z∧z≤9223372036854775807) (h:z.natAbs=val B9 ds+B9^ds.length*m.natAbs) (hm:m≠0):ds.length≤2∧-9223372036854775808≤m∧m≤9223372036854775808:=by
 have h1:1≤m.natAbs:=by omega
 have h2:B9^ds.length*1≤B9^ds.length*m.natAbs:=Nat.mul_le_mul_left _ h1
 have hp:0<B9^ds.length:=Nat.pow_pos bY
 have h4:1*m.natAbs≤B9^ds.length*m.natAbs:=Nat.mul_le_mul_right _ hp
 refine ⟨Nat.le_of_not_lt fun hlt=>?_,by omega,by omega⟩
 have h3:B9^3≤B9^ds.length:=Nat.pow_le_pow_right bY hlt
 have h5:B9^3=1000000000000000000000000000:=rfl
 rw [h5] at h3
 omega
theorem vZ {w w2:World} {z m m2:Int} {ds:List Nat} {r:Nat} {v' : Value} (hd:Dig B9 ds) (h:z.natAbs=val B9 ds+B9^ds.length*m.natAbs) (hn:m<0→z<0) (hp:0<m→0<z)
 (e:m.natAbs=r+1000000000*m2.natAbs) (hr:r<1000000000) (s1:m2<0→m<0) (s2:0<m2→0<m) (ho:w2.ownsRow (w.heap.size+1) 3 1 v' (ds.length+1) (ds.map dT ++ [.int .i64 (r:Int)]))
 (hb:Below w.heap.size w w2) (hh:w2.heap[w.heap.size]?=some (.cells #[.bool false,.slice none 0 0] 84 (0,0))) (hs:w.heap.size<w2.heap.size):WholeAt w z (.int .i64 m2) v' w2:=by
 refine ⟨m2,ds ++ [r],rfl,?_,hd.app (Dig.cons (by rw [cE];exact hr) (Dig.nil _)),?_,fun h1=>hn (s1 h1),fun h1=>hp (s2 h1),hb,hh,hs⟩
 ·rw [List.length_append,List.length_singleton,List.map_append];exact ho
 ·rw [bZ,List.length_append,List.length_singleton,Nat.pow_succ,h,e,Nat.mul_add,Nat.mul_assoc,cE,Nat.add_assoc]
theorem fU {w w' : World} {row:Option Nat} {g:Nat} {o:Obj} (hg:w.grownBy w' row) (h:w.heap[g]?=some o) (hr:some g≠row):w'.heap[g]?=some o :=
 (hg.block g (lt_of_block h) hr).trans h
theorem xZ {w:World} {g:Nat} {T:TypeId} {a b:Value} (h:w.heap[g]?=some (.cells #[a,b] T (0,0))):(w.cell? ⟨g,0,none⟩=some a∧w.cell? ⟨g,1,none⟩=some b)∧w.frozen? ⟨g,0,none⟩=false∧w.frozen? ⟨g,1,none⟩=false:=by
 simp [World.cell?,World.frozen?,h]
theorem sI {w:World} {g:Nat} {T:TypeId} {a b x y:Value} (h:w.heap[g]?=some (.cells #[a,b] T (0,0))):((w.setCell ⟨g,0,none⟩ x).setCell ⟨g,1,none⟩ y).heap[g]?=some (.cells #[x,y] T (0,0)):=by
 simp [World.setCell,Array.getElem?_modify,h]
theorem In.set2 {w:World} {v:Value} {z:Int} {g:Nat} {T:TypeId} {a b x y:Value} (h:In w v z) (hg:w.heap[g]?=some (.cells #[a,b] T (0,0))) (ha:∀ n,a≠.int .i64 n) (hb:∀ n,b≠.int .i64 n):In ((w.setCell ⟨g,0,none⟩ x).setCell ⟨g,1,none⟩ y) v z:=by
 obtain ⟨A,n,c,xs,hv,hr,hd,hn,hz⟩:=h
 refine ⟨A,n,c,xs,hv,⟨hr.1,hr.2.1,hr.2.2.1,fun hp=>?_⟩,hd,hn,hz⟩
 obtain ⟨ad,e,hl,hc⟩:=hr.2.2.2 hp
 refine ⟨ad,e,by simpa [World.setCell] using hl,fun j u hu=>?_⟩
 have h1:=hc j u hu
 have hne:(ad.add j).block≠g:=fun he=>by
  unfold World.cell? at h1
  rw [he,hg] at h1
  simp only at h1
  match ho:(ad.add j).off with
  | 0=>rw [ho] at h1;simp at h1;exact ha _ h1.2
  | 1=>rw [ho] at h1;simp at h1;exact hb _ h1.2
  | k+2=>rw [ho] at h1;simp at h1
 rw [World.cell?_of_block (w:=w),h1]
 rw [Below.heap_setCell _ _ _ _ (show (ad.add j).block≠(⟨g,1,none⟩:Addr).block from hne),Below.heap_setCell _ _ _ _ (show (ad.add j).block≠(⟨g,0,none⟩:Addr).block from hne)]
theorem info_int:(Tryz.prog.info? 3).map (fun i=>(i.zero,i.size,i.bytes))=some (some (.int .i64 0),1,8):=by kernel_rfl
set_option maxRecDepth 100000 in
theorem yA (z:Int) (w:World) (hz:-9223372036854775808≤z∧z≤9223372036854775807):Calls Tryz.prog 102 #[.int .i64 z] w fun e w' => ∃ v,e = .returned v∧In w' v z∧Below w.heap.size w w':=by
 have HZ:=aH hz
 clear hz
 obtain ⟨i0,hi,hz0,hz1,hz2⟩:=info_parts info_int
 have HI:=aH (aI hi (aI hz0 (aI hz1 hz2)))
 clear hi hz0 hz1 hz2
 go_enter Tryz.func102,Tryz.ntmps102
 go_wp2
 go_loopw [0,3] (fun nv wv wr=>WholeAt w z nv wv wr) (fun nv _ _=>(intOf nv).natAbs)
 case atStart=>exact ⟨z,[],rfl,⟨rfl,.inl ⟨rfl,rfl⟩⟩,Dig.nil _,by simp [val],fun h=>h,fun h=>h,(aB _ _).alloc (aR _) _,heap_alloc_new w _,by simp⟩
 case round =>
  obtain ⟨m,ds,rfl,hrow,hd,hzm,hn,hp,hb,hh,hs⟩:=hrel
  by_cases c0:m=0
  ·subst c0
   obtain ⟨A,c,rfl,hri⟩:=row_ri hrow
   have hv:iS (decide (z<0)) (val B9 ds)=z:=by
    simp only [Int.natAbs_zero,Nat.mul_zero,Nat.add_zero] at hzm
    rw [← hzm]
    unfold iS
    split <;> simp_all <;> omega
   have HC:=aH (aI hri (aI hd (aI hv (aI hb (aI hh hs)))))
   clear hrow hri hd hzm hn hp hb hh hs hv
   go_wp2_with fail
   refine (jH _ A _ c ds _ HC.out.1 HC.out.2.1).mono ?_
   rintro e w2 ⟨v,rfl,q,b⟩
   rw [HC.out.2.2.1] at q
   have hh2:w2.heap[w.heap.size]?=some (.cells #[.bool false,.slice none 0 0] 84 (0,0)):=(b.block _ HC.out.2.2.2.2.2).trans HC.out.2.2.2.2.1
   have hs2:w.heap.size<w2.heap.size:=Nat.lt_of_lt_of_le HC.out.2.2.2.2.2 b.size
   have hb2:Below w.heap.size w w2:=HC.out.2.2.2.1.trans (b.mono HC.out.2.2.2.1.size)
   obtain ⟨A',n',c',xs',rfl,q'⟩:=id q
   have Q:=aH (aI q (aI hh2 (aI hs2 hb2)))
   clear q q' b hh2 hs2 hb2
   obtain ⟨⟨b0,b1⟩,f0,f1⟩:=xZ Q.out.2.1
   go_wp2
   obtain ⟨q,hh2,hs2,hb2⟩:=Q.out
   obtain ⟨⟨g0,g1⟩,_⟩:=xZ (sI hh2 (x := .bool (decide (z<0))) (y := .slice A' n' c'))
   refine bodyPost_ret (v := .agg #[.bool (decide (z<0)),.slice A' n' c']) (by simp [results,Tryz.results102,go_sem,g0,g1]) rfl ⟨_,rfl,q.set2 hh2 (fun n h=>by cases h) (fun n h=>by cases h),?_⟩
   exact (hb2.setCell (p:=⟨w.heap.size,0,none⟩) (aR _) _).setCell (p:=⟨w.heap.size,1,none⟩) (aR _) _
  ·obtain ⟨hl2,hm1,hm2⟩:=whole_len HZ.out hzm c0
   obtain ⟨r,hr⟩:∃ r,r=m.natAbs%1000000000:=⟨_,rfl⟩
   obtain ⟨r',hr'⟩:∃ r' : Int,r'=if m<0 then -(r:Int) else r:=⟨_,rfl⟩
   obtain ⟨q',hq'⟩:∃ q' : Int,q'=if m<0 then -((m.natAbs/1000000000:Nat):Int) else ((m.natAbs/1000000000:Nat):Int):=⟨_,rfl⟩
   have t1:m.tmod 1000000000=r':=by
    rcases Int.lt_or_le m 0 with h|h
    ·rw [hr',if_pos h,show m = -((m.natAbs:Nat):Int) by omega,Int.neg_tmod,Int.tmod_eq_emod_of_nonneg (by omega)]
     omega
    ·rw [hr',if_neg (by omega),Int.tmod_eq_emod_of_nonneg h]
     omega
   have t3:m.tdiv 1000000000=q':=by
    rcases Int.lt_or_le m 0 with h|h
    ·rw [hq',if_pos h,show m = -((m.natAbs:Nat):Int) by omega,Int.neg_tdiv,Int.tdiv_eq_ediv_of_nonneg (by omega)]
     omega
    ·rw [hq',if_neg (by omega),Int.tdiv_eq_ediv_of_nonneg h]
     omega
   have hq:m.natAbs=r+1000000000*q'.natAbs:=by split at hq' <;> omega
   have hqs:(q'<0→m<0)∧(0<q'→0<m):=by split at hq' <;> omega
   have t4:wrap64 q'=q':=by unfold wrap64;split at hq' <;> omega
   have hrr:r<1000000000:=by omega
   have hrs:r'=(r:Int)∨(r'<0∧r' = -(r:Int)):=by split at hr' <;> omega
   have HC:=aH (aI hrow (aI hd (aI hzm (aI hn (aI hp (aI hb (aI hh (aI hs (aI hl2 (aI hq (aI hqs hrr)))))))))))
   clear hrow hd hzm hn hp hb hh hs hl2 hr hq hq' hr' hqs
   rcases hrs with h1|⟨h1,h2⟩
   ·subst h1
    have hneg:¬ (r:Int)<0:=by omega
    clear hrr
    go_wp2_with (at_builtin;refine wpList_append_own _ rfl _ _ 82 rfl (w.heap.size+1) 3 i0 (.int .i64 0) 1 8 Tryz.underlying82 HI.out.1 HI.out.2.1 HI.out.2.2.1 HI.out.2.2.2 rfl (by decide) _ _ _ rfl (HC.out.1.alloc _) ⟨wr.heap.size,0,none⟩ 1 1 [.int .i64 (r:Int)] rfl rfl ?k1 ?k2 ?k3 ?k4 ?k5 ?_)
    try (case k1 =>
     intro j u hj
     match j with
     | 0 =>
       simp only [List.getElem?_cons_zero,Option.some.injEq] at hj
       subst hj
       exact aA (heap_alloc_new wr _) 0
     | j+1=>simp at hj)
    case k2=>first|rfl|(intro u hu;simp at hu;subst hu;rfl)
    case k3=>have:=HC.out.2.2.2.2.2.2.2.2.1;show ds.length+1≤9223372036854775807;omega
    case k4=>have:=HC.out.2.2.2.2.2.2.2.2.1;omega
    case k5=>have:=HC.out.2.2.2.2.2.2.2.1;simp;omega
    intro v' w3 hr3 hg3 _
    obtain ⟨hrow,hd,hzm,hn,hp,hb,hh,hs,hl2,hq,hqs,hrr⟩:=HC.out
    have hbw:Below w.heap.size w w3:=Below.grown (hb.alloc hb.size _) hg3 (by have:=hb.size;simp;omega) (fun b hb'=>by have:=qF hrow b hb';omega)
    have hh3:w3.heap[w.heap.size]?=some (.cells #[.bool false,.slice none 0 0] 84 (0,0)):=by
     have h2:=(Below.heap_alloc wr (.cells #[.int .i64 (r:Int)] 3) _ hs).trans hh
     refine fU hg3 h2 ?_
     intro he
     have:=qF hrow _ he.symm
     omega
    have HX:=aH (aI (vZ hd hzm hn hp hq hrr hqs.1 hqs.2 hr3 hbw hh3 (by have:=hg3.size;simp at this;omega)) hq)
    clear hr3 hg3 hrow hd hzm hn hp hb hh hs hl2 hq hqs hrr hbw hh3
    go_wp2
    go_roundw
    case rel=>first|exact HX.out.1|(rw [t4];exact HX.out.1)
    case measure=>have:=HX.out.2;simp only [intOf,t4];omega
   ·have t5:wrap64 (0-r')=(r:Int):=by unfold wrap64;omega
    have t6:wrap64 (-r')=(r:Int):=by unfold wrap64;omega
    clear hrr h2
    go_wp2_with (at_builtin;refine wpList_append_own _ rfl _ _ 82 rfl (w.heap.size+1) 3 i0 (.int .i64 0) 1 8 Tryz.underlying82 HI.out.1 HI.out.2.1 HI.out.2.2.1 HI.out.2.2.2 rfl (by decide) _ _ _ rfl (HC.out.1.alloc _) ⟨wr.heap.size,0,none⟩ 1 1 [.int .i64 (r:Int)] rfl rfl ?k1 ?k2 ?k3 ?k4 ?k5 ?_)
    try (case k1 =>
     intro j u hj
     match j with
     | 0 =>
       simp only [List.getElem?_cons_zero,Option.some.injEq] at hj
       subst hj
       exact aA (heap_alloc_new wr _) 0
     | j+1=>simp at hj)
    case k2=>first|rfl|(intro u hu;simp at hu;subst hu;rfl)
    case k3=>have:=HC.out.2.2.2.2.2.2.2.2.1;show ds.length+1≤9223372036854775807;omega
    case k4=>have:=HC.out.2.2.2.2.2.2.2.2.1;omega
    case k5=>have:=HC.out.2.2.2.2.2.2.2.1;simp;omega
    intro v' w3 hr3 hg3 _
    obtain ⟨hrow,hd,hzm,hn,hp,hb,hh,hs,hl2,hq,hqs,hrr⟩:=HC.out
    have hbw:Below w.heap.size w w3:=Below.grown (hb.alloc hb.size _) hg3 (by have:=hb.size;simp;omega) (fun b hb'=>by have:=qF hrow b hb';omega)
    have hh3:w3.heap[w.heap.size]?=some (.cells #[.bool false,.slice none 0 0] 84 (0,0)):=by
     have h2:=(Below.heap_alloc wr (.cells #[.int .i64 (r:Int)] 3) _ hs).trans hh
     refine fU hg3 h2 ?_
     intro he
     have:=qF hrow _ he.symm
     omega
    have HX:=aH (aI (vZ hd hzm hn hp hq hrr hqs.1 hqs.2 hr3 hbw hh3 (by have:=hg3.size;simp at this;omega)) hq)
    clear hr3 hg3 hrow hd hzm hn hp hb hh hs hl2 hq hqs hrr hbw hh3
    go_wp2
    go_roundw
    case rel=>first|exact HX.out.1|(rw [t4];exact HX.out.1)
    case measure=>have:=HX.out.2;simp only [intOf,t4];omega
end
section
open Go.RowKit Pl
theorem text_in (v:Value) (z:Int) (w:World) (h:In w v z) (hz:z.natAbs<B9^100000000):Calls Tryz.prog 108 #[v] w fun e w'=>e = .returned (.string (aX z))∧Below w.heap.size w w':=by
 obtain ⟨A,n,c,xs,rfl,hr,hd,hn,hv⟩:=h
 have hl:n≤100000000:=by rw [← hr.len];exact aV eE hn (by rw [hv];exact hz)
 refine (text_raw _ A n c xs w hr hd hn hl).mono ?_
 rintro e w' ⟨rfl,hb⟩
 refine ⟨?_,hb⟩
 congr 2
 unfold aX
 rw [hv]
 by_cases h0:z<0
 ·have h1:0<n:=by
   refine Nat.pos_of_ne_zero fun he=>?_
   have:=(Norm.zero_iff bY hn).2 (List.eq_nil_of_length_eq_zero (by rw [hr.len];exact he))
   omega
  simp [h0,h1]
 ·simp [h0]
theorem dF (z:Int):aX z=Ab.writeB (z:Rat):=by
 unfold aX Ab.writeB Ab.overB
 rw [if_pos (Rat.den_intCast z),Rat.num_intCast]
theorem fromInt_any (z:Int) (w:World) (hz:-9223372036854775808≤z∧z≤9223372036854775807):Calls Tryz.prog 136 #[.int .i64 z] w fun e w'=>e = .returned (.string (Ab.writeB (z:Rat)))∧Below w.heap.size w w':=by
 have HZ:=aH hz
 clear hz
 go_enter Tryz.func136,Tryz.ntmps136
 go_wp2_with fail
 refine (yA z _ HZ.out).mono ?_
 rintro e w2 ⟨v,rfl,q,b⟩
 have Q:=aH (aI q b)
 clear q b
 go_wp2_with fail
 refine (text_in v z _ Q.out.1 ?_).mono ?_
 ·obtain ⟨n,hn⟩:∃ n,n=100000000:=⟨_,rfl⟩
  rw [← hn]
  have h3:B9^3≤B9^n:=Nat.pow_le_pow_right bY (by omega)
  have h5:B9^3=1000000000000000000000000000:=rfl
  rw [h5] at h3
  have:=HZ.out
  refine Nat.lt_of_lt_of_le ?_ h3
  omega
 rintro e w3 ⟨rfl,b⟩
 have B:=aH (Below.step_trans Q.out.2 b)
 clear b
 go_wp2
 go_ret
 exact ⟨by rw [dF];rfl,B.out⟩
end
namespace Ab
open Go.RowKit Pl
theorem wB {z:Int} (hz:yY z):jF 136 [it z] (tx (writeB (z:Rat))):=by
 intro β w vs hv
 obtain ⟨v,rfl,h1⟩:=dQ hv
 rw [aO h1]
 exact (fromInt_any z w hz).mono fun e w' ⟨e1,e2⟩=>⟨_,e1,e2,bO⟩
theorem intsF {a b c:Int} (ha:yY a) (hb:yY b) (hc:yY c):jF 62 [it a,it b,it c] (vS a b c):=by
 refine jG Tryz.func62 fun w00=>?_
 refine jC 136 [it a] (wB ha) ?_
 refine jC 136 [it b] (wB hb) ?_
 refine jC 136 [it c] (wB hc) ?_
 exact jR Tryz.func62
theorem dJ {a b c:Int} (ha:yY a) (hb:yY b) (hc:yY c):jF 20 [it a,it b,it c] (vS a b c):=by
 refine jG Tryz.func20 fun w00=>?_
 refine jC 62 [it a,it b,it c] (intsF ha hb hc) ?_
 exact jR Tryz.func20
theorem lawFrameF:jF 25 [] (kF (1:Int) (0:Int) (0:Int) (3:Int) (4:Int) (0:Int) (-4:Int) (3:Int) (0:Int) (0:Int) (0:Int) (5:Int)):=by
 refine jG Tryz.func25 fun w00=>?_
 refine jC 20 [it 1,it 0,it 0] (dJ (by constructor <;> omega) (by constructor <;> omega) (by constructor <;> omega)) ?_
 refine jC 20 [it 3,it 4,it 0] (dJ (by constructor <;> omega) (by constructor <;> omega) (by constructor <;> omega)) ?_
 refine jC 20 [it (-4),it 3,it 0] (dJ (by constructor <;> omega) (by constructor <;> omega) (by constructor <;> omega)) ?_
 refine jC 20 [it 0,it 0,it 5] (dJ (by constructor <;> omega) (by constructor <;> omega) (by constructor <;> omega)) ?_
 exact jR Tryz.func25
end Ab
namespace Ab
open Go.RowKit Pl
theorem zL {β:List Nat} {cs:List Value} {w:World} {b:ByteArray}:(cT b).holds β cs w↔(Seg.lit (.string b):Seg Kn).holds β cs w:=⟨fun h=>⟨h,rfl⟩,fun h=>h.1⟩
inductive LitL:List (Seg Kn)→List (Seg Kn)→Prop where
 | nil:LitL [] []
 | txt {b:ByteArray} {l m}:LitL l m→LitL (cT b::l) (.lit (.string b)::m)
 | same {s:Seg Kn} {l m}:LitL l m→LitL (s::l) (s::m)
theorem LitL.to {β:List Nat} {w:World} {l m:List (Seg Kn)} (h:LitL l m):∀ {cs:List Value},holdsL β l cs w↔holdsL β m cs w:=by
 induction h with
 | nil=>intro cs;exact Iff.rfl
 | txt _ ih =>
   intro cs
   constructor
   ·rintro ⟨a,b,e,h1,h2⟩;exact ⟨a,b,e,zL.1 h1,ih.1 h2⟩
   ·rintro ⟨a,b,e,h1,h2⟩;exact ⟨a,b,e,zL.2 h1,ih.2 h2⟩
 | same _ ih =>
   intro cs
   constructor
   ·rintro ⟨a,b,e,h1,h2⟩;exact ⟨a,b,e,h1,ih.1 h2⟩
   ·rintro ⟨a,b,e,h1,h2⟩;exact ⟨a,b,e,h1,ih.2 h2⟩
theorem zM {β:List Nat} {v:Value} {w:World} {l m:List (Seg Kn)} (h:LitL l m):(AV.fv (.ag l)).holds β v w↔(AV.fv (.ag m)).holds β v w:=by
 constructor
 ·rintro ⟨cs,e,k⟩;exact ⟨cs,e,h.to.1 k⟩
 ·rintro ⟨cs,e,k⟩;exact ⟨cs,e,h.to.2 k⟩
theorem sc_lit {β:List Nat} {v:Value} {w:World} {b:ByteArray}:(AV.fv (.sc (cT b)):AV Kn).holds β v w↔(AV.fv (.sc (.lit (.string b))):AV Kn).holds β v w:=zL (β:=β) (cs := [v])
theorem FitsW.args {P:Program} {I:World→Prop} {f:FuncId} {l l' : List (AV Kn)} {x:AV Kn} (h:FitsW P I f l x) (hl:∀ β vs w,holdsA β l' vs w→holdsA β l vs w):FitsW P I f l' x:=fun β w vs hI hv=>h β w vs hI (hl β vs w hv)
theorem FitsW.res {P:Program} {I:World→Prop} {f:FuncId} {l:List (AV Kn)} {x y:AV Kn} (h:FitsW P I f l x) (hx:∀ β v w,x.holds β v w→y.holds β v w):FitsW P I f l y:=fun β w vs hI hv =>
 (h β w vs hI hv).mono fun e w' ⟨v,e1,e2,e3⟩=>⟨v,e1,e2,hx β v w' e3⟩
theorem dec_two {n:Nat} (h1:10≤n) (h2:n<100):Lib.decDigits n = [UInt8.ofNat (48+n/10),UInt8.ofNat (48+n%10)]:=by
 rw [eH (by omega),cG (by omega)]
 rfl
theorem bH {n:Nat} (h:n<10):decB n=⟨#[UInt8.ofNat (48+n)]⟩:=by unfold decB;rw [cG h]
theorem lO {n:Nat} (h1:10≤n) (h2:n<100):decB n=⟨#[UInt8.ofNat (48+n/10),UInt8.ofNat (48+n%10)]⟩:=by unfold decB;rw [dec_two h1 h2]
theorem cW {z:Int} {b:ByteArray} (hz:¬ z<0) (h:decB z.natAbs=b):writeB (z:Rat)=b:=by
 rw [← dF,aX,if_neg hz,h]
theorem fH {z:Int} {b:ByteArray} (hz:z<0) (h:decB z.natAbs=b):writeB (z:Rat)=⟨#[45]⟩++b:=by
 rw [← dF,aX,if_pos hz,h]
theorem w0:writeB ((0:Int):Rat)=⟨#[48]⟩:=cW (by omega) (bH (n:=0) (by omega))
theorem w1:writeB ((1:Int):Rat)=⟨#[49]⟩:=cW (by omega) (bH (n:=1) (by omega))
end Ab
section
open Go.RowKit Pl
theorem dA {s:ByteArray} {i:Nat} (h:i<s.size):(aC s)[i]?=some (s[i]'h):=by
 rw [List.getElem?_eq_getElem (by rw [aG];exact h)]
 rfl
def aJ (s:ByteArray):Nat:=(aC s).findIdx (fun c=>c==47)
theorem cB (s:ByteArray):aJ s≤s.size:=by unfold aJ;rw [← aG];exact List.findIdx_le_length
theorem slashB_at {s:ByteArray} {pos:Nat} (hp:pos<s.size) (h:(s[pos]'hp)=47) (hb:∀ (j:Nat) (hj:j<s.size),j<pos→(s[j]'hj)≠47):aJ s=pos:=by
 unfold aJ
 refine (List.findIdx_eq (by rw [aG];exact hp)).2 ⟨?_,fun j hj=>?_⟩
 ·have:=dA hp
  rw [List.getElem?_eq_getElem (by rw [aG];exact hp)] at this
  injection this with this
  rw [this,h];rfl
 ·have hj2:j<s.size:=Nat.lt_trans hj hp
  have:=dA hj2
  rw [List.getElem?_eq_getElem (by rw [aG];exact hj2)] at this
  injection this with this
  rw [this]
  simpa using hb j hj2 hj
theorem slashB_none {s:ByteArray} (hb:∀ (j:Nat) (hj:j<s.size),(s[j]'hj)≠47):aJ s=s.size:=by
 unfold aJ
 rw [← aG,List.findIdx_eq_length]
 intro c hc
 obtain ⟨j,hj,e⟩:=List.mem_iff_getElem.1 hc
 have hj2:j<s.size:=by rw [← aG];exact hj
 have h1:=dA hj2
 rw [List.getElem?_eq_getElem hj,e] at h1
 injection h1 with h1
 rw [h1]
 simpa using hb j hj2
theorem slash_any (s:ByteArray) (w:World) (hs:s.size≤9223372036854775807):Calls Tryz.prog 42 #[.string s] w fun e w'=>e = .returned (.int .i64 (aJ s:Nat))∧w'=w:=by
 go_enter Tryz.func42,Tryz.ntmps42
 go_wp2
 go_loop [3] (fun v => ∃ pos:Nat,v = .int .i64 (pos:Int)∧pos≤s.size∧Hid (∀ (j:Nat) (hj:j<s.size),j<pos→(s[j]'hj)≠47)) (fun v=>s.size-(intOf v).toNat)
 case atStart=>exact ⟨0,rfl,Nat.zero_le _,fun j _ h=>absurd h (Nat.not_lt_zero _)⟩
 case round =>
  obtain ⟨pos,rfl,hpos,hok⟩:=hrel
  by_cases hp:pos<s.size
  ·have p1:((pos:Nat):Int)<s.size:=by omega
   obtain ⟨c,hc⟩:∃ c:Nat,(s[pos]'hp).toNat=c:=⟨_,rfl⟩
   by_cases h47:c=47
   ·have hres:aJ s=pos:=slashB_at hp (by rw [h47] at hc;exact UInt8.toNat_inj.1 hc) (fun j hj hlt=>hok.out j hj hlt)
    have HR:=aH hres
    have k1:((c:Int)==47)=true:=by rw [h47];rfl
    clear hres hok h47
    go_wp2
    go_ret
    exact ⟨by rw [HR.out];rfl,rfl⟩
   ·have k1:((c:Int)==47)=false:=by simp;omega
    have HR:=aH (show ∀ (j:Nat) (hj:j<s.size),j<pos+1→(s[j]'hj)≠47 from fun j hj hlt=>by
     by_cases hjj:j=pos
     ·subst hjj
      intro e
      rw [e] at hc
      exact h47 hc.symm
     ·exact hok.out j hj (by omega))
    clear hok h47
    have HP:=aH hp
    go_wp2
    first
     | (go_round;(case rel=>exact ⟨pos+1,by go_num,HP.out,HR.out⟩);(case measure=>(simp [intOf];omega)))
     | exact ⟨⟨pos+1,by simp,HP.out,HR.out⟩,by have:=HP.out;simp [intOf];omega⟩
  ·have hres:aJ s=s.size:=slashB_none fun j hj=>hok.out j hj (by omega)
   have HR:=aH hres
   have p1:¬ (pos:Int)<s.size:=by omega
   clear hres hok
   go_wp2
   go_ret
   exact ⟨by rw [HR.out];rfl,rfl⟩
def gG (s:ByteArray):Bool:=(aC s).all (fun c=>decide (48≤c.toNat)&&decide (c.toNat≤57))
theorem tI {s:ByteArray} {pos:Nat} (hp:pos<s.size) (h:(s[pos]'hp).toNat<48∨57<(s[pos]'hp).toNat):gG s=false:=by
 unfold gG
 rw [List.all_eq_false]
 refine ⟨s[pos]'hp,List.mem_of_getElem? (dA hp),?_⟩
 simp
 omega
theorem digitsB_ok {s:ByteArray} (h:∀ (j:Nat) (hj:j<s.size),48≤(s[j]'hj).toNat∧(s[j]'hj).toNat≤57):gG s=true:=by
 unfold gG
 rw [List.all_eq_true]
 intro c hc
 obtain ⟨j,hj,e⟩:=List.mem_iff_getElem.1 hc
 have hj2:j<s.size:=by rw [← aG];exact hj
 have h1:=dA hj2
 rw [List.getElem?_eq_getElem hj,e] at h1
 injection h1 with h1
 rw [h1]
 simpa using h j hj2
theorem tJ {s:ByteArray}:gG s=true↔AllDig (aC s):=by
 unfold gG AllDig
 rw [List.all_eq_true]
 simp
theorem digits_any (s:ByteArray) (w:World) (hs:s.size≤9223372036854775807):Calls Tryz.prog 100 #[.string s] w fun e w'=>e = .returned (.bool (gG s))∧w'=w:=by
 go_enter Tryz.func100,Tryz.ntmps100
 go_wp2
 go_loop [3] (fun v => ∃ pos:Nat,v = .int .i64 (pos:Int)∧pos≤s.size∧Hid (∀ (j:Nat) (hj:j<s.size),j<pos→48≤(s[j]'hj).toNat∧(s[j]'hj).toNat≤57)) (fun v=>s.size-(intOf v).toNat)
 case atStart=>exact ⟨0,rfl,Nat.zero_le _,fun j _ h=>absurd h (Nat.not_lt_zero _)⟩
 case round =>
  obtain ⟨pos,rfl,hpos,hok⟩:=hrel
  by_cases hp:pos<s.size
  ·have p1:((pos:Nat):Int)<s.size:=by omega
   obtain ⟨c,hc⟩:∃ c:Nat,(s[pos]'hp).toNat=c:=⟨_,rfl⟩
   by_cases h48:c<48
   ·have hres:gG s=false:=tI hp (.inl (by rw [hc];exact h48))
    have HR:=aH hres
    have k1:(c:Int)<48:=by omega
    clear hres hok
    go_wp2
    go_ret
    exact ⟨by rw [HR.out];rfl,rfl⟩
   ·by_cases h57:57<c
    ·have hres:gG s=false:=tI hp (.inr (by rw [hc];exact h57))
     have HR:=aH hres
     have k1:¬ (c:Int)<48:=by omega
     have k2:(57:Int)<c:=by omega
     clear hres hok
     go_wp2
     go_ret
     exact ⟨by rw [HR.out];rfl,rfl⟩
    ·have k1:(48:Int)≤c:=by omega
     have k2:(c:Int)≤57:=by omega
     have HR:=aH (show ∀ (j:Nat) (hj:j<s.size),j<pos+1→48≤(s[j]'hj).toNat∧(s[j]'hj).toNat≤57 from fun j hj hlt=>by
      by_cases hjj:j=pos
      ·subst hjj;rw [hc];omega
      ·exact hok.out j hj (by omega))
     clear hok h48 h57
     have HP:=aH hp
     go_wp2
     first
      | (go_round;(case rel=>exact ⟨pos+1,by go_num,HP.out,HR.out⟩);(case measure=>(simp [intOf];omega)))
      | exact ⟨⟨pos+1,by simp,HP.out,HR.out⟩,by have:=HP.out;simp [intOf];omega⟩
  ·have hres:gG s=true:=digitsB_ok fun j hj=>hok.out j hj (by omega)
   have HR:=aH hres
   have p1:¬ (pos:Int)<s.size:=by omega
   clear hres hok
   go_wp2
   go_ret
   exact ⟨by rw [HR.out];rfl,rfl⟩
theorem lP (s:ByteArray) (w:World) (hd:AllDig (aC s)) (hs:s.size≤17):Calls Tryz.prog 104 #[.string s] w fun e w'=>e = .returned (.int .i64 (aT (aC s):Nat))∧w'=w:=by
 go_enter Tryz.func104,Tryz.ntmps104
 go_wp2
 have HD:=aH (aI hd hs)
 clear hd
 go_loop [3,4] (fun nv v => ∃ pos m:Nat,v = .int .i64 (pos:Int)∧nv = .int .i64 (m:Int)∧pos≤s.size∧Hid (m=aT ((aC s).take pos))) (fun _ v=>s.size-(intOf v).toNat)
 case atStart=>exact ⟨0,0,rfl,rfl,Nat.zero_le _,by rw [List.take_zero];exact natOf_nil.symm⟩
 case round =>
  obtain ⟨pos,m,rfl,rfl,hpos,hm⟩:=hrel
  by_cases hp:pos<s.size
  ·have p1:((pos:Nat):Int)<s.size:=by omega
   obtain ⟨c,hc⟩:∃ c:Nat,(s[pos]'hp).toNat=c:=⟨_,rfl⟩
   have hcd:48≤c∧c≤57:=by rw [← hc];exact HD.out.1 _ (List.mem_of_getElem? (dA hp))
   have hmb:m<100000000000000000:=by
    rw [hm.out]
    refine Nat.lt_of_lt_of_le (fY (HD.out.1.take pos)) ?_
    have:10^((aC s).take pos).length≤10^17:=Nat.pow_le_pow_right (by omega) (by rw [List.length_take];have:=HD.out.2;omega)
    exact this
   have hnext:10*m+c-48=aT ((aC s).take (pos+1)):=by
    have h1:=dA hp
    obtain ⟨h2,e⟩:=List.getElem?_eq_some_iff.1 h1
    rw [List.take_succ_eq_append_getElem h2,uW,← hm.out,e,hc]
    omega
   have HR:=aH hnext
   have k1:(48:Int)≤c:=by omega
   have k2:(c:Int)≤57:=by omega
   have k3:(m:Int)≤100000000000000000:=by omega
   clear hnext hm hmb hcd
   have HP:=aH hp
   go_wp2
   first
    | (go_round;(case rel=>exact ⟨pos+1,10*m+c-48,by go_num,by go_num,HP.out,HR.out⟩);(case measure=>(simp [intOf];omega)))
    | exact ⟨⟨pos+1,10*m+c-48,by simp,by go_num,HP.out,HR.out⟩,by have:=HP.out;simp [intOf];omega⟩
  ·have p1:¬ (pos:Int)<s.size:=by omega
   have HR:=aH (show m=aT (aC s) by rw [hm.out,List.take_of_length_le (by rw [aG];omega)])
   clear hm
   go_wp2
   go_ret
   exact ⟨by rw [HR.out];rfl,rfl⟩
theorem rgcd_any (a b:Nat) (w:World) (ha:a<9223372036854775808) (hb:b<9223372036854775808):Calls Tryz.prog 105 #[.int .i64 (a:Int),.int .i64 (b:Int)] w fun e w'=>e = .returned (.int .i64 (Nat.gcd a b:Nat))∧Below w.heap.size w w':=by
 have HA:=aH (aI ha hb)
 clear ha hb
 go_enter Tryz.func105,Tryz.ntmps105
 go_wp2
 go_loopw [0,1] (fun av bv wr => ∃ x y:Nat,av = .int .i64 (x:Int)∧bv = .int .i64 (y:Int)∧Hid (Nat.gcd x y=Nat.gcd a b∧x<9223372036854775808∧y<9223372036854775808)∧Below w.heap.size w wr) (fun _ bv _=>(intOf bv).toNat)
 case atStart=>exact ⟨a,b,rfl,rfl,⟨rfl,HA.out⟩,aB _ _⟩
 case round =>
  obtain ⟨x,y,rfl,rfl,hi,hbw⟩:=hrel
  rcases Nat.eq_zero_or_pos y with h0|h0
  ·subst h0
   have HR:=aH (show x=Nat.gcd a b by rw [← hi.out.1,Nat.gcd_zero_right])
   clear hi
   go_wp2
   go_ret
   exact ⟨by rw [← HR.out];rfl,hbw⟩
  ·have k1:(0:Int)<y:=by omega
   obtain ⟨r,hr⟩:∃ r,r=x%y:=⟨_,rfl⟩
   have HR:=aH (show (Nat.gcd y r=Nat.gcd a b∧y<9223372036854775808∧r<9223372036854775808)∧r<y∧(x:Int)%(y:Int)=(r:Int)∧(x:Int).tmod (y:Int)=(r:Int) by
    have hlt:r<y:=by rw [hr];exact Nat.mod_lt _ h0
    refine ⟨⟨by rw [hr,Nat.gcd_comm,← Nat.gcd_rec,Nat.gcd_comm];exact hi.out.1,hi.out.2.2,Nat.lt_trans hlt hi.out.2.2⟩,hlt,by rw [hr];simp,?_⟩
    rw [Int.tmod_eq_emod_of_nonneg (by omega),hr];simp)
   have hz0:((y:Int)==0)=false:=by simp;omega
   have hz1:¬ (y:Int)=0:=by omega
   have hz3:((y:Int) == -1)=false:=by simp
   clear hi hr h0
   go_wp2
   go_quiet (fail)
   have hb2:=bX hbw nq
   clear hbw
   generalize wr.drewN nq=w2 at *
   go_wp2
   go_roundw
   case rel =>
    obtain ⟨h1,h2,h3,h4⟩:=HR.out
    exact ⟨y,r,rfl,by first|(rw [h3];done)|(rw [h4];done)|rfl,h1,hb2⟩
   case measure =>
    obtain ⟨h1,h2,h3,h4⟩:=HR.out
    simp only [intOf]
    first|rw [h3]|rw [h4]
    omega
theorem zN {a b:Nat} (h:a<b):bQ a b = -1:=by unfold bQ;rw [if_pos (by omega)]
theorem cmpI_gt {a b:Nat} (h:b<a):bQ a b=1:=by unfold bQ;rw [if_neg (by omega),if_pos (by omega)]
theorem eN (A:Option Addr) (n c:Nat) (xs:List Nat) (A' : Option Addr) (n' c' : Nat) (ys:List Nat) (w:World) (h:Ri w A n c xs) (h' : Ri w A' n' c' ys)
 (hd:Dig B9 xs) (hd' : Dig B9 ys) (hn:Norm xs) (hn' : Norm ys) :
 Calls Tryz.prog 111 #[.slice A n c,.slice A' n' c'] w (Gives w (.int .i64 (bQ (val B9 xs) (val B9 ys)))):=by
 have HX:=aH (aI h (aI hd hn))
 have HY:=aH (aI h' (aI hd' hn'))
 have hnc:n≤c:=h.cap
 have hcm:c≤9223372036854775807:=h.2.2.1
 have hnc' : n'≤c':=h'.cap
 have hcm' : c'≤9223372036854775807:=h'.2.2.1
 clear h h' hd hd' hn hn'
 rcases Nat.lt_trichotomy n n' with hl|hl|hl
 ·have ht:((n:Int) != n')=true:=by simp;omega
  have ht2:(n:Int)<n':=by omega
  have HL:=aH hl
  clear hl
  go_enter Tryz.func111,Tryz.ntmps111
  go_wp2
  go_ret
  refine ⟨bN ?_,aB _ _⟩
  rw [zN]
  exact dC eE HX.out.2.1 HY.out.2.2 (by rw [HX.out.1.len,HY.out.1.len];exact HL.out)
 ·subst hl
  have ht:((n:Int) != n)=false:=by simp
  go_enter Tryz.func111,Tryz.ntmps111
  go_wp2
  go_loopw [5] (fun i wr => ∃ k:Nat,k≤n∧Agree xs ys k∧i = .int .i64 ((k:Int)-1)∧Below w.heap.size w wr) (fun i _=>(intOf i+1).toNat)
  case atStart=>exact ⟨n,aR _,by unfold Agree;rw [List.drop_eq_nil_of_le (by rw [HX.out.1.len];omega),List.drop_eq_nil_of_le (by rw [HY.out.1.len];omega)],rfl,aB _ _⟩
  case round =>
   obtain ⟨k,hk,hag,rfl,hb⟩:=hrel
   have HA:=aH hag
   clear hag
   rcases Nat.eq_zero_or_pos k with rfl|hk0
   ·go_wp2
    go_ret
    refine ⟨bN ?_,hb⟩
    have:=HA.out
    unfold Agree at this
    simp at this
    rw [this]
    unfold bQ
    simp
   ·obtain ⟨m,rfl⟩:∃ m,k=m+1:=⟨k-1,by omega⟩
    obtain ⟨ad,x,hA,_,hx,hcx⟩:=(HX.out.1.below hb).at_ (k:=m) (by omega)
    obtain ⟨ad',y,hA',_,hy,hcy⟩:=(HY.out.1.below hb).at_ (k:=m) (by omega)
    subst hA
    subst hA'
    have HE:=aH (aI hx hy)
    clear hx hy hk0
    have hidx:((m:Int)+1-1)=m:=by omega
    simp only [Int.natCast_add,Int.natCast_one,hidx]
    clear hidx
    rcases Nat.lt_trichotomy x y with he|he|he
    ·have ht:(x:Int)<y:=by omega
     have HE2:=aH he
     clear he
     go_wp2
     go_quiet (fail)
     go_wp2
     go_ret
     refine ⟨bN ?_,bX hb _⟩
     rw [← zN HE2.out]
     exact vA (by rw [HX.out.1.len,HY.out.1.len]) HX.out.2.1 HY.out.2.1 (by rw [HX.out.1.len];omega) HA.out HE.out.1 HE.out.2 (by have:=HE2.out;omega)
    ·subst he
     have ht:¬ (x:Int)<x:=by omega
     go_wp2
     go_quiet (fail)
     have hcx2:(wr.drewN nq).cell? (ad.add m)=some (.int .i64 (x:Int)):=hcx
     have hcy2:(wr.drewN nq).cell? (ad'.add m)=some (.int .i64 (x:Int)):=hcy
     have hb2:=bX hb nq
     clear hb hcx hcy
     generalize wr.drewN nq=w2 at *
     go_wp2
     go_quiet (fail)
     go_wp2
     go_roundw
     case rel=>exact ⟨m,by omega,HA.out.step HE.out.1 HE.out.2 rfl,rfl,bX hb2 _⟩
     case measure=>simp [intOf]
    ·have ht:¬ (x:Int)<y:=by omega
     have ht2:(y:Int)<x:=by omega
     have HE2:=aH he
     clear he
     go_wp2
     go_quiet (fail)
     have hcx2:(wr.drewN nq).cell? (ad.add m)=some (.int .i64 (x:Int)):=hcx
     have hcy2:(wr.drewN nq).cell? (ad'.add m)=some (.int .i64 (y:Int)):=hcy
     have hb2:=bX hb nq
     clear hb hcx hcy
     generalize wr.drewN nq=w2 at *
     go_wp2
     go_quiet (fail)
     go_wp2
     go_ret
     refine ⟨bN ?_,bX hb2 _⟩
     rw [← cmpI_gt HE2.out]
     exact vA (by rw [HX.out.1.len,HY.out.1.len]) HX.out.2.1 HY.out.2.1 (by rw [HX.out.1.len];omega) HA.out HE.out.1 HE.out.2 (by have:=HE2.out;omega)
 ·have ht:((n:Int) != n')=true:=by simp;omega
  have ht2:¬ (n:Int)<n':=by omega
  have HL:=aH hl
  clear hl
  go_enter Tryz.func111,Tryz.ntmps111
  go_wp2
  go_ret
  refine ⟨bN ?_,aB _ _⟩
  rw [cmpI_gt]
  exact dC eE HY.out.2.1 HX.out.2.2 (by rw [HX.out.1.len,HY.out.1.len];exact HL.out)
theorem sJ (A:Option Addr) (n c:Nat) (xs:List Nat) (i:Nat) (w:World) (h:Ri w A n c xs) :
 Calls Tryz.prog 160 #[.slice A n c,.int .i64 (i:Int)] w fun e w'=>e = .returned (.int .i64 ((xs.getD i 0:Nat):Int))∧w=w':=by
 have hnc:n≤c:=h.cap
 have hcm:c≤9223372036854775807:=h.2.2.1
 by_cases hi:i<n
 ·obtain ⟨ad,x,rfl,_,hx,hcx⟩:=h.at_ hi
  have e:xs.getD i 0=x:=by simp [List.getD,hx]
  rw [e]
  clear hx e h
  go_enter Tryz.func160,Tryz.ntmps160
  go_wp2
  go_ret
  exact ⟨rfl,rfl⟩
 ·have e:xs.getD i 0=0:=by
   have:=h.len
   simp [List.getD,List.getElem?_eq_none (show xs.length≤i by omega)]
  rw [e]
  have hi2:¬ (i:Int)<n:=by omega
  clear e h hi
  go_enter Tryz.func160,Tryz.ntmps160
  go_wp2
  go_ret
  exact ⟨rfl,rfl⟩
theorem eL {q:Nat} (h:q<9223372036854775808):wrap64 (q:Int)=q:=by unfold wrap64;omega
theorem nS {w:World} {g:Nat} {cs:Array Value} {t:TypeId} {fr:Nat×Nat} (h:w.heap[g]?=some (.cells cs t fr)) (i:Nat):w.cell? ⟨g,i,none⟩=cs[i]?:=by
 unfold World.cell?
 rw [h]
 rfl
theorem gR:(Tryz.prog.info? 3).map (fun i=>(i.zero,i.size,i.bytes))=some (some (.int .i64 0),1,8):=by kernel_rfl
theorem uA {w:World} {base m:Nat} {e:TypeId} {v:Value} {ws:List Nat} (h:w.ownsRow base e 1 v m (ws.map dT)):∃ A c,v = .slice A m c∧Ri w A m c ws:=by
 obtain ⟨h1,h2⟩:=h
 have hl:ws.length=m:=by simpa using h1
 rcases h2 with ⟨rfl,rfl⟩|⟨g,cap,cur,rfl,e2,e3,e4,e5,e6,e7⟩
 ·have:ws = []:=List.eq_nil_of_length_eq_zero hl
  subst this
  exact ⟨none,0,rfl,Ri.nil⟩
 ·refine ⟨_,cap,rfl,hl,e4,e5,fun _=>⟨_,rfl,(Array.getElem?_eq_some_iff.1 e3).1,fun j x hx=>?_⟩⟩
  have ha:(⟨g,0,none⟩:Addr).add j=⟨g,j,none⟩:=by unfold Addr.add;split <;> simp_all
  have hc:w.cell? ⟨g,j,none⟩=cur[j]?:=by unfold World.cell?;rw [e3];rfl
  rw [ha,hc,← Array.getElem?_toList]
  have hj:(cur.toList.take (m*1))[0+j]?=some (.int .i64 (x:Int)):=by rw [e7,Nat.zero_add,List.getElem?_map,hx];rfl
  rw [List.getElem?_take,Nat.zero_add] at hj
  split at hj
  ·exact hj
  ·cases hj
theorem lR {w:World} {base m:Nat} {e:TypeId} {v:Value} {xs:List Value} (h:w.ownsRow base e 1 v m xs):∀ b,v.ownBlock=some b→base≤b:=by
 intro b hb
 obtain ⟨_,h2⟩:=h
 rcases h2 with ⟨rfl,_⟩|⟨g,cap,cur,rfl,e2,_⟩
 ·cases hb
 ·simp [Value.ownBlock] at hb;omega
def GivesRi (w:World) (a:Nat) (e:Ending) (w' : World):Prop := ∃ A n c xs,e = .returned (.slice A n c)∧Ri w' A n c xs∧Dig B9 xs∧val B9 xs=a∧Below w.heap.size w w'
theorem yB {l:List Nat} {k:Nat} (h:l.length≤k):l.getD k 0=0:=by simp [List.getD,List.getElem?_eq_none h]
theorem gW (B:Nat) (l:List Nat) (k:Nat):val B (l.take (k+1))=val B (l.take k)+B^k*l.getD k 0:=by
 rcases Nat.lt_or_ge k l.length with hl|hl
 ·rw [aE _ _ _ hl]
  simp [List.getD,List.getElem?_eq_getElem hl]
 ·rw [List.take_of_length_le (by omega),List.take_of_length_le hl]
  simp [List.getD,List.getElem?_eq_none hl]
def AddI (xs ys zs:List Nat) (k cy:Nat):Prop:=cy≤1∧Dig B9 zs∧zs.length=k∧val B9 zs+B9^k*cy=val B9 (xs.take k)+val B9 (ys.take k)
theorem AddI.step {xs ys zs:List Nat} {k cy s:Nat} (h:AddI xs ys zs k cy) (hx:Dig B9 xs) (hy:Dig B9 ys) (hs:s=xs.getD k 0+ys.getD k 0+cy):AddI xs ys (zs ++ [s%B9]) (k+1) (s/B9):=by
 obtain ⟨h1,h2,h3,h4⟩:=h
 have bx:=hx.get0 bY k
 have by':=hy.get0 bY k
 have hq:s/B9≤1:=by
  generalize xs.getD k 0=x at *
  generalize ys.getD k 0=y at *
  subst hs
  rw [cE] at *
  clear hx hy h2 h4
  omega
 refine ⟨hq,h2.app (Dig.cons (Nat.mod_lt _ bY) (Dig.nil _)),by simp [h3],?_⟩
 rw [bZ,h3,gW,gW,Nat.pow_succ]
 have hdm:=Nat.div_add_mod s B9
 generalize s/B9=q at *
 generalize s%B9=r at *
 generalize xs.getD k 0=x at *
 generalize ys.getD k 0=y at *
 clear bx by' hq hx hy h2
 generalize B9=V at *
 grind
theorem AddI.finish {xs ys zs:List Nat} {k:Nat} (h:AddI xs ys zs k 0) (h1:xs.length≤k) (h2:ys.length≤k):val B9 zs=val B9 xs+val B9 ys:=by
 obtain ⟨_,_,_,h4⟩:=h
 rw [List.take_of_length_le h1,List.take_of_length_le h2,Nat.mul_zero,Nat.add_zero] at h4
 exact h4
theorem AddI.nil (xs ys:List Nat):AddI xs ys [] 0 0:=⟨by omega,Dig.nil _,rfl,by simp [val]⟩
theorem addFacts {x y cy:Nat} (bx:x<1000000000) (by' : y<1000000000) (bc:cy≤1):∃ p s r q:Nat,(x:Int)+(y:Int)=(p:Int)∧(p:Int)+(cy:Int)=(s:Int)∧wrap64 (p:Int)=p∧wrap64 (s:Int)=s ∧
 (s:Int).tmod 1000000000=(r:Int)∧(s:Int)%1000000000=(r:Int)∧(s:Int).tdiv 1000000000=(q:Int)∧(s:Int)/1000000000=(q:Int)∧wrap64 (q:Int)=q∧s=x+y+cy∧r=s%1000000000∧q=s/1000000000∧(x=0→y=0→q=0):=by
 refine ⟨x+y,x+y+cy,(x+y+cy)%1000000000,(x+y+cy)/1000000000,by omega,by omega,eL (by omega),eL (by omega),?_,by omega,?_,by omega,eL (by omega),rfl,rfl,rfl,by omega⟩
 ·rw [Int.tmod_eq_emod_of_nonneg (by omega)];omega
 ·rw [Int.tdiv_eq_ediv_of_nonneg (by omega)];omega
set_option maxRecDepth 100000 in
theorem wQ (A:Option Addr) (n c:Nat) (xs:List Nat) (A' : Option Addr) (n' c' : Nat) (ys:List Nat) (w:World) (h:Ri w A n c xs) (h' : Ri w A' n' c' ys)
 (hd:Dig B9 xs) (hd' : Dig B9 ys) (hn:n≤2199023255552) (hn' : n'≤2199023255552) :
 Calls Tryz.prog 110 #[.slice A n c,.slice A' n' c'] w (GivesRi w (val B9 xs+val B9 ys)):=by
 have HX:=aH (aI h hd)
 have HY:=aH (aI h' hd')
 have HN:=aH (aI hn hn')
 have hnc:n≤c:=h.cap
 have hcm:c≤9223372036854775807:=h.2.2.1
 have hnc' : n'≤c':=h'.cap
 have hcm' : c'≤9223372036854775807:=h'.2.2.1
 obtain ⟨i0,hi,hz0,hz1,hz2⟩:=info_parts gR
 have HI:=aH (aI hi (aI hz0 (aI hz1 hz2)))
 clear h h' hd hd' hi hz0 hz1 hz2
 go_enter Tryz.func110,Tryz.ntmps110
 go_wp2
 go_loopw [5,6,7] (fun ov cv iv wr => ∃ (k cy:Nat) (zs:List Nat),iv = .int .i64 (k:Int)∧cv = .int .i64 (cy:Int)∧AddI xs ys zs k cy∧wr.ownsRow w.heap.size 3 1 ov k (zs.map dT)∧Below w.heap.size w wr∧(k≤max n n'∨(cy=0∧k≤max n n'+1))) (fun _ _ iv _=>max n n'+1-(intOf iv).toNat)
 case atStart=>exact ⟨0,0,[],rfl,rfl,AddI.nil _ _,⟨rfl,.inl ⟨rfl,rfl⟩⟩,aB _ _,.inl (Nat.zero_le _)⟩
 case round =>
  obtain ⟨k,cy,zs,rfl,rfl,hinv,hrow,hb,hk⟩:=hrel
  by_cases hgo:k<n∨k<n'∨0<cy
  ·have tri:(k:Int)<n∨(¬ (k:Int)<n∧(k:Int)<n')∨(¬ (k:Int)<n∧¬ (k:Int)<n'∧cy=1):=by
    have bc:=hinv.1
    clear hrow hinv hb
    omega
   have hkm:k≤max n n':=by omega
   have hkB:k≤2199023255552:=by have:=HN.out;omega
   obtain ⟨x,hx⟩:∃ x,x=xs.getD k 0:=⟨_,rfl⟩
   obtain ⟨y,hy⟩:∃ y,y=ys.getD k 0:=⟨_,rfl⟩
   have bx:x<1000000000:=by rw [hx];exact HX.out.2.get0 bY k
   have by' : y<1000000000:=by rw [hy];exact HY.out.2.get0 bY k
   have bc:cy≤1:=hinv.1
   obtain ⟨p,s,r,q,e1,e2,e3,e4,t1,t2,t3,t4,t5,hs,hr,hq,hq0⟩:=addFacts bx by' bc
   have hst:AddI xs ys (zs ++ [r]) (k+1) q:=by
    have:=hinv.step HX.out.2 HY.out.2 (s:=s) (by rw [hs,hx,hy])
    rw [cE,← hr,← hq] at this
    exact this
   have cd:=aH (fun w' (hb' : Below w.heap.size w w')=>sJ A n c xs k w' (HX.out.1.below hb'))
   have cd':=aH (fun w' (hb' : Below w.heap.size w w')=>sJ A' n' c' ys k w' (HY.out.1.below hb'))
   rw [← hx] at cd
   rw [← hy] at cd'
   have hk' : k<max n n'∨q=0∧k≤max n n':=by
    rcases Nat.lt_or_ge k (max n n') with hlt|hge
    ·exact .inl hlt
    ·right
     have hl1:=HX.out.1.len
     have hl2:=HY.out.1.len
     have z1:x=0:=by rw [hx];exact yB (by rw [hl1];exact Nat.le_trans (Nat.le_max_left n n') hge)
     have z2:y=0:=by rw [hy];exact yB (by rw [hl2];exact Nat.le_trans (Nat.le_max_right n n') hge)
     exact ⟨hq0 z1 z2,hkm⟩
   have HS:=aH (aI hst (aI hrow (aI hb (aI hk' (aI hkm hinv.2.2.1)))))
   clear hst hrow hb hk hkm hk' hinv hx hy hs hr hq bx by' bc hq0 hgo
   rcases tri with b1|⟨b1,b2⟩|⟨b1,b2,b3⟩
   all_goals
    try subst b3
    try simp only [Int.natCast_one] at e2
    go_wp2_with fail
    refine (cd.out _ HS.out.2.2.1).mono ?_
    rintro e w' ⟨rfl,rfl⟩
    go_wp2_with fail
    refine (cd'.out _ HS.out.2.2.1).mono ?_
    rintro e w' ⟨rfl,rfl⟩
    go_wp2_with (at_builtin;refine wpList_append_own _ rfl _ _ 82 rfl w.heap.size 3 i0 (.int .i64 0) 1 8 Tryz.underlying82 HI.out.1 HI.out.2.1 HI.out.2.2.1 HI.out.2.2.2 rfl (by decide) _ _ _ rfl (HS.out.2.1.alloc _) ⟨wr.heap.size,0,none⟩ 1 1 [.int .i64 (r:Int)] rfl rfl ?k1 ?k2 ?k3 ?k4 ?k5 ?_)
    try (case k1 =>
     intro j u hj
     match j with
     | 0 =>
       simp only [List.getElem?_cons_zero,Option.some.injEq] at hj
       subst hj
       exact nS (heap_alloc_new wr _) 0
     | j+1=>simp at hj)
    case k2=>first|rfl|(intro u hu;simp at hu;subst hu;rfl)
    case k3=>show k+1≤9223372036854775807;omega
    case k4=>omega
    case k5=>have:=HS.out.2.2.1.size;simp;omega
    intro v' w3 hr3 hg3 _
    obtain ⟨hst,hrow,hb,hk',hkm,hzl⟩:=HS.out
    have hbw:Below w.heap.size w w3:=Below.grown (hb.alloc hb.size _) hg3 (by have:=hb.size;simp;omega) (fun b hb'=>lR hrow b hb')
    have HX3:=aH (aI hst (aI hr3 (aI hbw (aI hk' hkm))))
    clear hst hrow hb hk' hkm hzl hr3 hg3 hbw
    go_wp2
    go_roundw
    case rel =>
     obtain ⟨hst,hr3,hbw,hk',hkm⟩:=HX3.out
     refine ⟨k+1,q,zs ++ [r],by first|rfl|go_num|simp,by first|rfl|rw [t5]|simp,hst,?_,hbw,?_⟩
     ·rw [List.map_append];exact hr3
     ·exact hk'.imp (fun h=>h) (fun h=>⟨h.1,Nat.succ_le_succ h.2⟩)
    case measure =>
     have hkm:=HX3.out.2.2.2.2
     clear e1 e2 e3 e4 t1 t2 t3 t4 t5 HX3
     simp [intOf];omega
  ·have hc0:cy=0:=by omega
   subst hc0
   obtain ⟨A2,c2,rfl,hri⟩:=uA hrow
   have hv:=hinv.finish (by rw [HX.out.1.len];omega) (by rw [HY.out.1.len];omega)
   have HF:=aH (aI hri (aI hinv.2.1 (aI hv hb)))
   have b1:¬ (k:Int)<n:=by omega
   have b2:¬ (k:Int)<n':=by omega
   clear hri hinv hv hb hk hgo hrow
   go_wp2
   go_ret
   exact ⟨A2,k,c2,zs,rfl,HF.out⟩
def Di (w:World) (v:Value) (a:Nat):Prop := ∃ A n c xs,v = .slice A n c∧Ri w A n c xs∧Dig B9 xs∧Norm xs∧val B9 xs=a
theorem Di.below {w w' : World} {v:Value} {a:Nat} (h:Di w v a) (hb:Below w.heap.size w w'):Di w' v a:=by
 obtain ⟨A,n,c,xs,hv,hr,hd,hn,ha⟩:=h
 exact ⟨A,n,c,xs,hv,hr.below hb,hd,hn,ha⟩
def zO (w:World) (a:Nat) (e:Ending) (w' : World):Prop := ∃ v,e = .returned v∧Di w' v a∧Below w.heap.size w w'
def wC (w:World) (a b:Nat) (e:Ending) (w' : World):Prop := ∃ v v',e = .returned (.tuple #[v,v'])∧Di w' v a∧Di w' v' b∧Below w.heap.size w w'
theorem lS (A:Option Addr) (n c:Nat) (xs:List Nat) (w:World) (h:Ri w A n c xs) (hd:Dig B9 xs) :
 Calls Tryz.prog 158 #[.slice A n c] w fun e w'=>(∃ v,e = .returned v∧Di w v (val B9 xs))∧w=w':=by
 refine (trim_raw A n c xs w h).mono ?_
 rintro e w' ⟨⟨k,⟨hk,hn,hv⟩,rfl⟩,rfl⟩
 exact ⟨⟨_,rfl,A,k,c,xs.take k,rfl,h.take (by rw [← h.len];exact hk),hd.take k,hn,hv⟩,rfl⟩
theorem val_set (B:Nat):∀ (l:List Nat) (p d:Nat) (h:p<l.length),val B (l.set p d)+B^p*l[p]=val B l+B^p*d
 | x::l,0,d,_=>by simp [val];omega
 | x::l,p+1,d,h=>by
   have:=val_set B l p d (by simpa using h)
   simp only [List.set_cons_succ,val,List.getElem_cons_succ,Nat.pow_succ]
   have e:B*(val B (l.set p d)+B^p*l[p]'(by simpa using h))=B*(val B l+B^p*d):=by rw [this]
   rw [Nat.mul_add,Nat.mul_add] at e
   have e1:B^p*B*l[p]'(by simpa using h)=B*(B^p*l[p]'(by simpa using h)):=by rw [Nat.mul_comm (B^p) B,Nat.mul_assoc]
   have e2:B^p*B*d=B*(B^p*d):=by rw [Nat.mul_comm (B^p) B,Nat.mul_assoc]
   rw [e1,e2]
   omega
theorem pP {w:World} {g base n:Nat} (h:w.ownsRow base 3 1 (.slice (some ⟨g,0,none⟩) n n) n (madeCells #[Value.int .i64 0] n).toList):Bi w g 3 (List.replicate n 0):=by
 refine Bi.of_own h ?_
 rw [toList_madeCells_one]
 simp [dT]
theorem getD_get {l:List Nat} {k x:Nat} (h:l[k]?=some x):l.getD k 0=x:=by simp [List.getD,h]
theorem subFacts {x y cy:Nat} (bx:x<1000000000) (by' : y<1000000000) (bc:cy≤1):∃ (d s:Int) (r q:Nat),(x:Int)-(y:Int)=d∧d-(cy:Int)=s∧wrap64 d=d∧wrap64 s=s∧r<1000000000∧q≤1 ∧
 (s=(r:Int)∧q=0∨(s<0∧s+1000000000=(r:Int)∧wrap64 (r:Int)=r∧q=1))∧r+y+cy=x+1000000000*q:=by
 by_cases h:y+cy≤x
 ·refine ⟨x-y,x-y-cy,x-y-cy,0,rfl,rfl,?_,?_,by omega,by omega,.inl ⟨by omega,rfl⟩,by omega⟩ <;> unfold wrap64 <;> omega
 ·refine ⟨x-y,x-y-cy,x+1000000000-y-cy,1,rfl,rfl,?_,?_,by omega,by omega,.inr ⟨by omega,by omega,eL (by omega),rfl⟩,by omega⟩ <;> unfold wrap64 <;> omega
theorem mulFacts {o x y cy:Nat} (bo:o<1000000000) (bx:x≤1000000000) (by' : y<1000000000) (bc:cy<1000000000):∃ u p s r q:Nat,(x:Int)*(y:Int)=(u:Int)∧(o:Int)+(u:Int)=(p:Int)∧(p:Int)+(cy:Int)=(s:Int) ∧
 wrap64 (u:Int)=u∧wrap64 (p:Int)=p∧wrap64 (s:Int)=s∧(s:Int).tmod 1000000000=(r:Int)∧(s:Int)%1000000000=(r:Int)∧(s:Int).tdiv 1000000000=(q:Int)∧(s:Int)/1000000000=(q:Int)∧wrap64 (q:Int)=q ∧
 s=o+x*y+cy∧r=s%1000000000∧q=s/1000000000∧(x<1000000000→q<1000000000)∧q≤1000000000:=by
 have h1:x*y≤1000000000*999999999:=Nat.mul_le_mul bx (by omega)
 have h2:x<1000000000→x*y≤999999999*999999999:=fun h=>Nat.mul_le_mul (by omega) (by omega)
 have h3:(x:Int)*(y:Int)=((x*y:Nat):Int):=by simp
 generalize x*y=u at *
 refine ⟨u,o+u,o+u+cy,(o+u+cy)%1000000000,(o+u+cy)/1000000000,h3,by omega,by omega,eL (by omega),eL (by omega),eL (by omega),?_,by omega,?_,by omega,eL (by omega),rfl,rfl,rfl,fun h=>?_,by omega⟩
 ·rw [Int.tmod_eq_emod_of_nonneg (by omega)];omega
 ·rw [Int.tdiv_eq_ediv_of_nonneg (by omega)];omega
 ·have:=h2 h;omega
theorem divFacts {rs x d:Nat} (hd:0<d) (hd1:d<1000000000) (hr:rs<d) (hx:x<1000000000):∃ u s q r:Nat,(rs:Int)*1000000000=(u:Int)∧(u:Int)+(x:Int)=(s:Int)∧wrap64 (u:Int)=u∧wrap64 (s:Int)=s ∧
 (s:Int).tdiv d=(q:Int)∧(s:Int)/d=(q:Int)∧(s:Int).tmod d=(r:Int)∧(s:Int)%d=(r:Int)∧wrap64 (q:Int)=q∧s=rs*1000000000+x∧q=s/d∧r=s%d∧r<d∧q<1000000000:=by
 have hq:(rs*1000000000+x)/d<1000000000:=by
  rw [Nat.div_lt_iff_lt_mul hd]
  have:(rs+1)*1000000000≤d*1000000000:=Nat.mul_le_mul_right _ hr
  omega
 refine ⟨rs*1000000000,rs*1000000000+x,(rs*1000000000+x)/d,(rs*1000000000+x)%d,by omega,by omega,eL (by omega),eL (by omega),?_,?_,?_,?_,eL (by omega),rfl,rfl,rfl,Nat.mod_lt _ hd,hq⟩
 ·rw [Int.tdiv_eq_ediv_of_nonneg (by omega)];simp
 ·simp
 ·rw [Int.tmod_eq_emod_of_nonneg (by omega)];simp
 ·simp
theorem uB (r:Nat):¬ (r:Int)<0:=Int.not_lt.2 (Int.natCast_nonneg r)
theorem fP {ops:Array Oper} {rest:List Oper} {o:Oper} {a:Act} {Q:Exit→Act→World→Prop} (hgd:o.guard=none) (s x:Operand)
 (ho:o.op = .call { callee := .builtin .append,args := #[s,x],argTypes := #[82,82] }) {B base k r:Nat} {v:Value} {zs:List Nat} {w w2:World} (hs:a.eval s=v) (hown:w2.ownsRow base 3 1 v k (zs.map dT))
 (hx:a.eval x = .slice (some ⟨w2.heap.size,0,none⟩) 1 1) (hk:k≤2199023255999) (hb:Below B w w2) (hB:B≤base) (hbase:base≤w2.heap.size)
 (h:∀ v' w',w'.ownsRow base 3 1 v' (k+1) ((zs ++ [r]).map dT)→Below B w w'→(w2.alloc (.cells #[.int .i64 (r:Int)] 3)).grownBy w' v.ownBlock→wpList Tryz.prog ops Q rest (a.put o.dst v') w') :
 wpList Tryz.prog ops Q (o::rest) a (w2.alloc (.cells #[.int .i64 (r:Int)] 3)):=by
 obtain ⟨i0,hi,hz0,hz1,hz2⟩:=info_parts gR
 refine wpList_append_own _ hgd s x 82 ho base 3 i0 (.int .i64 0) 1 8 Tryz.underlying82 hi hz0 hz1 hz2 rfl (by decide) v k (zs.map dT) hs (hown.alloc _) ⟨w2.heap.size,0,none⟩ 1 1 [.int .i64 (r:Int)] hx rfl ?_ ?_ ?_ ?_ ?_ ?_
 ·intro j u hj
  match j with
  | 0 =>
    simp only [List.getElem?_cons_zero,Option.some.injEq] at hj
    subst hj
    exact nS (heap_alloc_new w2 _) 0
  | j+1=>simp at hj
 ·intro u hu;simp at hu;subst hu;rfl
 ·show k+1≤9223372036854775807;omega
 ·omega
 ·simp;omega
 ·intro v' w' h1 h2 _
  have hsz:=hb.size
  refine h v' w' (by rw [List.map_append];exact h1) ((hb.alloc (Nat.le_trans hB hbase) _).grown h2 (by simp;omega) (fun b hb'=>?_)) h2
  have:=lR hown b hb'
  omega
def DivJ (xs zs:List Nat) (d k r:Nat):Prop :=
 Dig B9 zs∧zs.length=xs.length∧r<d∧val B9 (zs.drop k)*d+r=val B9 (xs.drop k)
theorem DivJ.step {xs zs:List Nat} {d k r x:Nat} (h:DivJ xs zs d (k+1) r) (hx:xs[k]?=some x) (hq:(r*B9+x)/d<B9) :
 DivJ xs (zs.set k ((r*B9+x)/d)) d k ((r*B9+x)%d):=by
 obtain ⟨h1,h2,h3,h4⟩:=h
 obtain ⟨hk,ex⟩:=List.getElem?_eq_some_iff.1 hx
 refine ⟨h1.set hq,by simp [h2],Nat.mod_lt _ (by omega),?_⟩
 have e:(zs.set k ((r*B9+x)/d)).drop k=(r*B9+x)/d::zs.drop (k+1):=by
  rw [List.drop_eq_getElem_cons (by simp;omega),List.getElem_set_self,List.drop_set_of_lt (by omega)]
 rw [e,lB _ _ _ hk,ex]
 simp only [val]
 have:=Nat.div_add_mod (r*B9+x) d
 rw [← h4]
 generalize (r*B9+x)/d=q at *
 generalize (r*B9+x)%d=m at *
 clear hq h1 h3 e
 generalize B9=V at *
 grind
theorem DivJ.start (xs:List Nat) {d:Nat} (hd:0<d):DivJ xs (List.replicate xs.length 0) d xs.length 0:=⟨Dig.replicate bY _,by simp,hd,by simp [val]⟩
theorem DivJ.finish {xs zs:List Nat} {d r:Nat} (h:DivJ xs zs d 0 r):val B9 zs=val B9 xs/d∧r=val B9 xs%d:=by
 obtain ⟨_,_,h3,h4⟩:=h
 simp only [List.drop_zero] at h4
 rw [← h4]
 constructor
 ·rw [Nat.add_comm,Nat.add_mul_div_right _ _ (by omega),Nat.div_eq_of_lt h3];omega
 ·rw [Nat.add_comm,Nat.add_mul_mod_self_right,Nat.mod_eq_of_lt h3]
theorem ret_two' {a b c d:Value} (h:a=c) (h' : b=d):Ending.returned (.tuple #[a,b]) = .returned (.tuple #[c,d]):=by rw [h,h']
theorem val_i64 {a b:Nat} (h:a=b):Value.int .i64 (a:Int) = .int .i64 (b:Int):=by rw [h]
def GivesDiI (w:World) (a b:Nat) (e:Ending) (w' : World):Prop := ∃ v,e = .returned (.tuple #[v,.int .i64 (b:Int)])∧Di w' v a∧Below w.heap.size w w'
set_option maxRecDepth 100000 in
theorem qP (A:Option Addr) (n c:Nat) (xs:List Nat) (d:Nat) (w:World) (h:Ri w A n c xs) (hd:Dig B9 xs) (hn:n≤2199023255552) (hd0:0<d) (hd1:d<1000000000) :
 Calls Tryz.prog 157 #[.slice A n c,.int .i64 (d:Int)] w (GivesDiI w (val B9 xs/d) (val B9 xs%d)):=by
 have HX:=aH (aI h (aI hd (aI hd0 hd1)))
 have hnc:n≤c:=h.cap
 have hcm:c≤9223372036854775807:=h.2.2.1
 have hdz:((d:Int)==0)=false:=by simp;omega
 have hdz1:¬ (d:Int)=0:=by omega
 have hdz2:¬ (d:Int) = -1:=by omega
 have hdz3:((d:Int) == -1)=false:=by simp
 obtain ⟨i0,hi,hz0,hz1,hz2⟩:=info_parts gR
 have HI:=aH (aI hi (aI hz0 (aI hz1 hz2)))
 clear h hd hi hz0 hz1 hz2 hd0 hd1
 go_enter Tryz.func157,Tryz.ntmps157
 go_wp2_with (at_make;refine wpList_make_full _ rfl _ _ 82 rfl w.heap.size 3 i0 (.int .i64 0) 1 Tryz.underlying82 HI.out.1 HI.out.2.1 HI.out.2.2.1 _ _ _ _ n rfl rfl ?b0 ?b1 ?b2 ?b3 (aR _) ?_)
 case b0=>rfl
 case b1=>rfl
 case b2=>rw [HI.out.2.2.2];omega
 case b3=>show n≤9223372036854775807;omega
 intro w1 hown hg1
 have hb1:Below w.heap.size w w1:=(aB _ _).grown hg1 (aR _) (fun k h=>by cases h)
 have hblk:=pP hown
 have e0:DivJ xs (List.replicate n 0) d n 0:=by
  have:=DivJ.start xs HX.out.2.2.1
  rwa [HX.out.1.len] at this
 have HB:=aH hblk
 have H0:=aH e0
 clear hown hg1 hblk e0
 obtain ⟨g,hg⟩:∃ g,g=w.heap.size:=⟨_,rfl⟩
 rw [← hg] at HB ⊢
 have HG:=aH hg
 clear hg
 go_wp2
 go_loopw [7,8] (fun rs i wr => ∃ (k r:Nat) (zs:List Nat),k≤n∧i = .int .i64 ((k:Int)-1)∧rs = .int .i64 (r:Int)∧DivJ xs zs d k r∧Bi wr g 3 zs∧Below w.heap.size w wr) (fun _ i _=>(intOf i+1).toNat)
 case atStart=>exact ⟨n,0,_,aR _,rfl,rfl,H0.out,HB.out,hb1⟩
 case round =>
  clear HB H0 hb1
  obtain ⟨k,r,zs,hk,rfl,rfl,hinv,hblk,hb⟩:=hrel
  have hzn:zs.length=n:=by rw [hinv.2.1,HX.out.1.len]
  rcases Nat.eq_zero_or_pos k with rfl|hk0
  ·have hrd:=hblk.rd (by rw [hzn];show n≤9223372036854775807;omega)
   rw [hzn] at hrd
   obtain ⟨f1,f2⟩:=hinv.finish
   have HF:=aH (aI hinv.1 (aI hrd (aI f1 (aI f2 hb))))
   clear hinv hblk hzn hrd f1 f2 hb
   simp only [show (((0:Nat):Int)-1) = -1 from rfl]
   go_wp2_with (go_at_call 158;refine (lS _ _ _ zs _ HF.out.2.1 HF.out.1).mono ?_;rintro e w' ⟨⟨v,rfl,hv⟩,rfl⟩)
   go_ret2
   exact ⟨v,ret_two' rfl (val_i64 HF.out.2.2.2.1),by rw [← HF.out.2.2.1];exact hv,HF.out.2.2.2.2⟩
  ·obtain ⟨m,rfl⟩:∃ m,k=m+1:=⟨k-1,by omega⟩
   obtain ⟨ad,x,rfl,_,hx,hcx⟩:=(HX.out.1.below hb).at_ (k:=m) (by omega)
   obtain ⟨u,s,q,r',e1,e2,e3,e4,t1,t2,t3,t4,t5,hs,hq,hr,hrd,hqb⟩:=divFacts HX.out.2.2.1 HX.out.2.2.2 hinv.2.2.1 (HX.out.2.1.at_ hx)
   have hst:=hinv.step hx (by rw [cE,← hs,← hq];exact hqb)
   rw [cE,← hs,← hq,← hr] at hst
   obtain ⟨z,hcz⟩:∃ z:Int,wr.cell? ⟨g,m,none⟩=some (.int .i64 z):=⟨_,hblk.cell_get (by omega)⟩
   have hfz:=hblk.frozen m
   have HE:=aH (aI hst (aI hblk (aI hb (by omega:m≤n))))
   have hidx:((m:Int)+1-1)=m:=by omega
   clear hx hblk hinv hst hk0 hzn hs hq hr hrd hqb hb
   simp only [Int.natCast_add,Int.natCast_one,hidx]
   clear hidx
   go_wp2
   go_roundw
   case rel=>exact ⟨m,r',zs.set m q,HE.out.2.2.2,by first|rfl|go_num|simp,by first|rfl|simp,HE.out.1,HE.out.2.1.set_ _ _,HE.out.2.2.1.setCell (by rw [HG.out];exact aR _) _⟩
   case measure =>
    clear e1 e2 e3 e4 t1 t2 t3 t4 t5 HE
    simp [intOf]
def gD (N2 low f s:Nat):Nat:=min ((N2*B9+low)/(f*B9+s)) (B9-1)
theorem gd_iff {N2 low f s m rs:Nat} (hf:0<f) (h:m*f+rs=N2):m≤(N2*B9+low)/(f*B9+s)↔m*s≤rs*B9+low:=by
 have hp:0<f*B9:=Nat.mul_pos hf bY
 rw [Nat.le_div_iff_mul_le (by omega)]
 subst h
 have e1:m*(f*B9+s)=m*f*B9+m*s:=by rw [Nat.mul_add,Nat.mul_assoc]
 have e2:(m*f+rs)*B9=m*f*B9+rs*B9:=Nat.add_mul _ _ _
 rw [e1,e2]
 omega
theorem gd_start {N2 low f s:Nat} (hf:0<f) (hl:low<B9):gD N2 low f s≤N2/f:=Nat.le_trans (Nat.min_le_left _ _) (nH rfl rfl hl hf)
theorem gd_exit {N2 low f s m rs:Nat} (hf:0<f) (h:m*f+rs=N2) (hm:m<B9) (hle:m*s≤rs*B9+low) (hg:gD N2 low f s≤m):gD N2 low f s=m:=by
 refine Nat.le_antisymm hg ?_
 have:=(gd_iff (s:=s) (low:=low) hf h).2 hle
 exact Nat.le_min.2 ⟨this,by omega⟩
theorem gd_cont1 {N2 low f s m:Nat} (hm:B9≤m+1):gD N2 low f s≤m:=Nat.le_trans (Nat.min_le_right _ _) (by omega)
theorem gd_cont2 {N2 low f s m rs:Nat} (hf:0<f) (h:(m+1)*f+rs=N2) (hle:¬ (m+1)*s≤rs*B9+low):gD N2 low f s≤m:=by
 have:=mt (gd_iff (s:=s) (low:=low) hf h).1 hle
 exact Nat.le_trans (Nat.min_le_left _ _) (by omega)
theorem gd_over {high mid low f s m rs:Nat} (hf:0<f) (h:m*f+rs=high*B9+mid) (hh:high≤f) (hmid:mid<B9) (hs:s<B9) (hr:B9≤rs) (hg:gD (high*B9+mid) low f s≤m):gD (high*B9+mid) low f s=m:=by
 have hm:m<B9:=by
  rcases Nat.lt_or_ge m B9 with e|e
  ·exact e
  ·exfalso
   have h1:B9*f≤m*f:=Nat.mul_le_mul_right _ e
   have h2:high*B9≤f*B9:=Nat.mul_le_mul_right _ hh
   rw [Nat.mul_comm] at h1
   omega
 refine gd_exit hf h hm ?_ hg
 have h1:m*s≤B9*B9:=Nat.mul_le_mul (Nat.le_of_lt hm) (Nat.le_of_lt hs)
 have h2:B9*B9≤rs*B9:=Nat.mul_le_mul_right _ hr
 omega
theorem gd_lt {N2 low f s:Nat}:gD N2 low f s<B9:=Nat.lt_of_le_of_lt (Nat.min_le_right _ _) (by have:=bY;omega)
theorem gd3 {N2 low f s:Nat} (hf:0<f):gD N2 low f s*(f*B9+s)≤N2*B9+low :=
 Nat.le_trans (Nat.mul_le_mul_right _ (Nat.min_le_left _ _)) (Nat.div_mul_le_self _ _)
theorem u3_alg' (A P V low mid h:Nat):A+P*low+P*V*mid+P*V*V*h=((h*V+mid)*V+low)*P+A:=by grind
theorem v2_alg' (A P V s f:Nat):A+P*s+P*V*f=(f*V+s)*P+A:=by grind
theorem gd_ok {us vs:List Nat} {m h mid low f s:Nat} (hu:us.length=m+3) (hv:vs.length=m+2) (du:Dig B9 us) (dv:Dig B9 vs)
 (g0:us[m+2]?=some h) (g1:us[m+1]?=some mid) (g2:us[m]?=some low) (g3:vs[m+1]?=some f) (g4:vs[m]?=some s) (hf:0<f) (hlt:val B9 us<val B9 vs*B9) :
 val B9 us/val B9 vs≤gD (h*B9+mid) low f s∧gD (h*B9+mid) low f s≤val B9 us/val B9 vs+1∧h≤f:=by
 obtain ⟨k0,e0⟩:=List.getElem?_eq_some_iff.1 g0
 obtain ⟨k1,e1⟩:=List.getElem?_eq_some_iff.1 g1
 obtain ⟨k2,e2⟩:=List.getElem?_eq_some_iff.1 g2
 obtain ⟨k3,e3⟩:=List.getElem?_eq_some_iff.1 g3
 obtain ⟨k4,e4⟩:=List.getElem?_eq_some_iff.1 g4
 have l4:=dv.at_ g4
 have hul:=bM (du.take m)
 have hvl:=bM (dv.take m)
 rw [List.length_take,Nat.min_eq_left (by omega)] at hul hvl
 have hU:val B9 us=val B9 (us.take m)+B9^m*low+B9^(m+1)*mid+B9^(m+2)*h:=by
  have:val B9 us=val B9 (us.take (m+2+1)):=by rw [List.take_of_length_le (by omega)]
  rw [this,aE _ _ _ k0,aE _ _ _ k1,aE _ _ _ k2,e0,e1,e2]
 have hV:val B9 vs=val B9 (vs.take m)+B9^m*s+B9^(m+1)*f:=by
  have:val B9 vs=val B9 (vs.take (m+1+1)):=by rw [List.take_of_length_le (by omega)]
  rw [this,aE _ _ _ k3,aE _ _ _ k4,e3,e4]
 have U3:val B9 us=((h*B9+mid)*B9+low)*B9^m+val B9 (us.take m):=by
  rw [hU,show B9^(m+2)=B9^m*B9*B9 from by rw [Nat.pow_succ,Nat.pow_succ],Nat.pow_succ]
  exact u3_alg' _ _ _ _ _ _
 have V2:val B9 vs=(f*B9+s)*B9^m+val B9 (vs.take m):=by
  rw [hV,Nat.pow_succ]
  exact v2_alg' _ _ _ _ _
 have hfB:B9≤f*B9+s:=by
  have:1*B9≤f*B9:=Nat.mul_le_mul_right _ hf
  omega
 have hVp:0<val B9 vs:=by
  have:0<B9^(m+1)*f:=Nat.mul_pos (Nat.pow_pos bY) hf
  omega
 have hq:val B9 us/val B9 vs<B9:=by rw [Nat.div_lt_iff_lt_mul hVp,Nat.mul_comm];exact hlt
 refine ⟨Nat.le_min.2 ⟨nH (u2:=(h*B9+mid)*B9+low) (v1:=f*B9+s) U3 V2 hul (by have:=bY;omega),by omega⟩,guess_le U3 V2 hvl (gd3 hf) (Nat.le_of_lt gd_lt) hfB,?_⟩
 rcases Nat.lt_or_ge f h with e|e
 ·exfalso
  have h1:B9^(m+2)*(f+1)≤B9^(m+2)*h:=Nat.mul_le_mul_left _ e
  have h2:val B9 vs<B9^(m+1)*(f+1):=by
   have h3:B9^m*(s+1)≤B9^m*B9:=Nat.mul_le_mul_left _ l4
   rw [Nat.mul_add,Nat.mul_one,← Nat.pow_succ] at h3
   rw [Nat.mul_add,Nat.mul_one]
   have h4:m.succ=m+1:=rfl
   rw [h4] at h3
   omega
  have h5:val B9 vs*B9<B9^(m+1)*(f+1)*B9:=Nat.mul_lt_mul_of_pos_right h2 bY
  have h6:B9^(m+1)*(f+1)*B9=B9^(m+2)*(f+1):=by rw [Nat.pow_succ B9 (m+1),Nat.mul_right_comm]
  omega
 ·exact e
theorem guessFacts {m s rs low:Nat} (hm:m<1000000000) (hs:s<1000000000) (hr:rs<1000000000) (hl:low<1000000000):∃ P R S:Nat,(m:Int)*(s:Int)=(P:Int)∧(rs:Int)*1000000000=(R:Int)∧(R:Int)+(low:Int)=(S:Int) ∧
 wrap64 (P:Int)=P∧wrap64 (R:Int)=R∧wrap64 (S:Int)=S∧P=m*s∧S=rs*1000000000+low:=by
 have h1:m*s≤999999999*999999999:=Nat.mul_le_mul (by omega) (by omega)
 have h2:(m:Int)*(s:Int)=((m*s:Nat):Int):=by simp
 generalize m*s=P at *
 exact ⟨P,rs*1000000000,rs*1000000000+low,h2,by omega,by omega,eL (by omega),eL (by omega),eL (by omega),rfl,rfl⟩
theorem guessTop {h mid f:Nat} (hh:h<1000000000) (hmid:mid<1000000000) (hf0:0<f) (hf:f<1000000000) (hle:h≤f):∃ u N q r:Nat,(h:Int)*1000000000=(u:Int)∧(u:Int)+(mid:Int)=(N:Int)∧wrap64 (u:Int)=u∧wrap64 (N:Int)=N ∧
 (N:Int).tdiv f=(q:Int)∧(N:Int)/f=(q:Int)∧(N:Int).tmod f=(r:Int)∧(N:Int)%f=(r:Int)∧wrap64 (q:Int)=q∧N=h*1000000000+mid∧q*f+r=N∧r<f∧q=N/f∧q≤2000000000:=by
 have hq:(h*1000000000+mid)/f≤2000000000:=by
  refine Nat.le_of_lt ((Nat.div_lt_iff_lt_mul hf0).2 ?_)
  omega
 refine ⟨h*1000000000,h*1000000000+mid,(h*1000000000+mid)/f,(h*1000000000+mid)%f,by omega,by omega,eL (by omega),eL (by omega),?_,?_,?_,?_,eL (by omega),rfl,?_,Nat.mod_lt _ hf0,rfl,hq⟩
 ·rw [Int.tdiv_eq_ediv_of_nonneg (by omega)];simp
 ·simp
 ·rw [Int.tmod_eq_emod_of_nonneg (by omega)];simp
 ·simp
 ·rw [Nat.mul_comm];exact Nat.div_add_mod _ _
theorem put_dig9 {ys zs:List Nat} {o:Nat} (hy:Dig B9 ys) (hz:Dig B9 zs):Dig B9 (put ys o zs):=(hy.take _).app (hz.app (hy.drop _))
def LongJ (V U0 n' L:Nat) (us qs:List Nat) (k:Nat):Prop :=
 Dig B9 us∧us.length=L+n'∧Dig B9 qs∧qs.length=L∧val B9 (us.drop k)<V∧val B9 (qs.drop k)*V*B9^k+val B9 us=U0
theorem LongJ.window {V U0 n' L m:Nat} {us qs:List Nat} (h:LongJ V U0 n' L us qs (m+1)) (hm:m<L) (hV:V≤B9^n') :
 val B9 ((us.drop m).take (n'+1))=val B9 (us.drop m)∧val B9 (us.drop (m+(n'+1)))=0∧val B9 (us.drop m)<V*B9:=by
 obtain ⟨h1,h2,h3,h4,h5,h6⟩:=h
 have e1:=lB B9 us m (by omega)
 have l1:=h1.get m (by omega)
 have hlt:val B9 (us.drop m)<V*B9:=by
  have:B9*(val B9 (us.drop (m+1))+1)≤B9*V:=Nat.mul_le_mul_left _ h5
  rw [Nat.mul_add,Nat.mul_one] at this
  rw [Nat.mul_comm V]
  omega
 have e2:=dS B9 (us.drop m) (n'+1) (by simp;omega)
 rw [List.drop_drop] at e2
 have hz:val B9 (us.drop (m+(n'+1)))=0:=by
  rcases Nat.eq_zero_or_pos (val B9 (us.drop (m+(n'+1)))) with e|e
  ·exact e
  ·exfalso
   have a1:B9^(n'+1)*1≤B9^(n'+1)*val B9 (us.drop (m+(n'+1))):=Nat.mul_le_mul_left _ e
   have a2:V*B9≤B9^n'*B9:=Nat.mul_le_mul_right _ hV
   rw [← Nat.pow_succ] at a2
   have:n'.succ=n'+1:=rfl
   rw [this] at a2
   omega
 rw [hz] at e2
 exact ⟨by omega,hz,hlt⟩
theorem LongJ.step {V U0 n' L m:Nat} {us qs zs:List Nat} (h:LongJ V U0 n' L us qs (m+1)) (hm:m<L) (hV:V≤B9^n') (hV0:0<V)
 (hz:zs.length=n'+1) (hzd:Dig B9 zs) (hzv:val B9 zs=val B9 ((us.drop m).take (n'+1))%V) :
 LongJ V U0 n' L (put us m zs) (qs.set m (val B9 ((us.drop m).take (n'+1))/V)) m:=by
 obtain ⟨w1,w2,w3⟩:=h.window hm hV
 obtain ⟨h1,h2,h3,h4,h5,h6⟩:=h
 rw [w1] at hzv ⊢
 have hq:val B9 (us.drop m)/V<B9:=by rw [Nat.div_lt_iff_lt_mul hV0,Nat.mul_comm];exact w3
 have hlen:m+zs.length≤us.length:=by omega
 have e1:val B9 ((put us m zs).drop m)=val B9 (us.drop m)%V:=by
  rw [vD hlen,fM,hz,w2,hzv,Nat.mul_zero,Nat.add_zero]
 have e2:val B9 (put us m zs)=val B9 (us.take m)+B9^m*(val B9 (us.drop m)%V):=by
  rw [dS B9 (put us m zs) m (by rw [cI hlen];omega),rW hlen,e1]
 have e3:=dS B9 us m (by omega)
 have e4:(qs.set m (val B9 (us.drop m)/V)).drop m=val B9 (us.drop m)/V::qs.drop (m+1):=by
  rw [List.drop_eq_getElem_cons (by simp;omega),List.getElem_set_self,List.drop_set_of_lt (by omega)]
 have hdm:=Nat.div_add_mod (val B9 (us.drop m)) V
 refine ⟨put_dig9 h1 hzd,by rw [cI hlen,h2],h3.set hq,by simp [h4],by rw [e1];exact Nat.mod_lt _ hV0,?_⟩
 rw [e4,e2,← h6,e3,Nat.pow_succ]
 exact long_alg _ _ _ _ _ _ _ _ hdm
theorem LongJ.finish {V n' L d f N:Nat} {us qs:List Nat} (h:LongJ V (N*f) n' L us qs 0) (hV:V=d*f) (hd:0<d) (hf:0<f) :
 val B9 qs=N/d∧val B9 us=N%d*f∧val B9 us<V:=by
 obtain ⟨_,_,_,_,h5,h6⟩:=h
 have hV0:0<V:=by rw [hV];exact Nat.mul_pos hd hf
 simp only [List.drop_zero,Nat.pow_zero,Nat.mul_one] at h5 h6
 have e1:N*f/V=val B9 qs:=by rw [← h6,Nat.add_comm,Nat.add_mul_div_right _ _ hV0,Nat.div_eq_of_lt h5];omega
 have e2:N*f%V=val B9 us:=by rw [← h6,Nat.add_comm,Nat.add_mul_mod_self_right,Nat.mod_eq_of_lt h5]
 refine ⟨?_,?_,h5⟩
 ·rw [← e1,hV,Nat.mul_div_mul_right _ _ hf]
 ·rw [← e2,hV,Nat.mul_mod_mul_right]
theorem LongJ.start {V U0 n n' : Nat} {us:List Nat} {N d f:Nat} (hu:Dig B9 us) (hul:us.length=n+1) (hU:val B9 us=U0) (hU0:U0=N*f) (hN:N<B9^n) (hV:V=d*f) (hf:0<f) (hd:B9^(n'-1)≤d) (hn:n'≤n) (hn0:0<n') :
 LongJ V U0 n' (n-n'+1) us (List.replicate (n-n'+1) 0) (n-n'+1):=by
 refine ⟨hu,by omega,Dig.replicate bY _,by simp,?_,?_⟩
 ·have e:=dS B9 us (n-n'+1) (by omega)
  have a1:N*f<B9^n*f:=Nat.mul_lt_mul_of_pos_right hN hf
  have a2:B9^n=B9^(n-n'+1)*B9^(n'-1):=by rw [← Nat.pow_add];congr 1;omega
  have a3:B9^(n-n'+1)*val B9 (us.drop (n-n'+1))<B9^(n-n'+1)*(B9^(n'-1)*f):=by
   rw [← Nat.mul_assoc,← a2];omega
  have a4:=Nat.lt_of_mul_lt_mul_left a3
  have a5:B9^(n'-1)*f≤d*f:=Nat.mul_le_mul_right _ hd
  rw [hV];omega
 ·rw [List.drop_of_length_le (by simp)]
  simp [val,hU]
theorem scaled_len {ys vs:List Nat} {y f:Nat} (hy:Dig B9 ys) (hl:0<ys.length) (htop:ys[ys.length-1]?=some y) (hv:Dig B9 vs) (hn:Norm vs) (ny:Norm ys) (e:val B9 vs=val B9 ys*f) (hf0:0<f) (hf:f*(y+1)≤B9):vs.length=ys.length:=by
 obtain ⟨m,hm⟩:∃ m,ys.length=m+1:=⟨ys.length-1,by omega⟩
 rw [hm,show m+1-1=m from by omega] at htop
 obtain ⟨k,ey⟩:=List.getElem?_eq_some_iff.1 htop
 have hval:val B9 ys=val B9 (ys.take m)+B9^m*y:=by
  have:val B9 ys=val B9 (ys.take (m+1)):=by rw [List.take_of_length_le (by omega)]
  rw [this,aE _ _ _ k,ey]
 have hlow:=bM (hy.take m)
 rw [List.length_take,Nat.min_eq_left (by omega)] at hlow
 have h1:val B9 ys+1≤B9^m*(y+1):=by rw [hval,Nat.mul_add,Nat.mul_one];omega
 have h2:val B9 vs<B9^(m+1):=by
  have h3:(val B9 ys+1)*f≤B9^m*(y+1)*f:=Nat.mul_le_mul_right _ h1
  have h4:B9^m*(y+1)*f≤B9^m*B9:=by rw [Nat.mul_assoc,Nat.mul_comm (y+1)];exact Nat.mul_le_mul_left _ hf
  rw [Nat.add_mul,Nat.one_mul,← e] at h3
  rw [Nat.pow_succ]
  omega
 have h5:=aV eE hn h2
 have hne:ys≠[]:=by rintro rfl;simp at hl
 have h6:=ny.ge (B:=B9) hne
 rw [hm,Nat.add_sub_cancel] at h6
 have h7:val B9 ys*1≤val B9 ys*f:=Nat.mul_le_mul_left _ hf0
 have h8:=bM hv
 rcases Nat.lt_or_ge vs.length (m+1) with h|h
 ·exfalso
  have:B9^vs.length≤B9^m:=Nat.pow_le_pow_right bY (by omega)
  omega
 ·omega
def TakeK (ys vs zs:List Nat) (o t k bo:Nat):Prop:=zs.length=k∧Dig B9 zs∧bo≤B9∧val B9 zs+t*val B9 (vs.take k)=val B9 ((ys.drop o).take k)+B9^k*bo
theorem TakeK.step {ys vs zs:List Nat} {o t k bo x v p e r:Nat} (h:TakeK ys vs zs o t k bo) (hx:ys[o+k]?=some x) (hv:vs[k]?=some v) (hp:p=t*v+bo) (hr:r<B9) (he:p/B9+e≤B9) (hx2:r+p%B9=x+B9*e) :
 TakeK ys vs (zs ++ [r]) o t (k+1) (p/B9+e):=by
 obtain ⟨h1,h2,h3,h4⟩:=h
 have hxd:(ys.drop o)[k]?=some x:=by rw [List.getElem?_drop];exact hx
 obtain ⟨k1,ex⟩:=List.getElem?_eq_some_iff.1 hxd
 obtain ⟨k2,ev⟩:=List.getElem?_eq_some_iff.1 hv
 refine ⟨by simp [h1],h2.app (Dig.cons hr (Dig.nil _)),he,?_⟩
 rw [bZ,aE _ _ _ k1,aE _ _ _ k2,ex,ev,h1,Nat.pow_succ]
 have hdm:=Nat.div_add_mod p B9
 generalize p/B9=q at *
 generalize p%B9=s at *
 clear h2 h3 hr he ex ev k1 k2 hxd hx hv
 generalize B9^k=P at *
 generalize B9=V at *
 subst hp
 grind
def BackK (ys vs zs:List Nat) (o k cy:Nat):Prop:=zs.length=k∧Dig B9 zs∧cy≤1∧val B9 zs+B9^k*cy=val B9 ((ys.drop o).take k)+val B9 (vs.take k)
theorem BackK.step {ys vs zs:List Nat} {o k cy x v s:Nat} (h:BackK ys vs zs o k cy) (hx:ys[o+k]?=some x) (hv:vs[k]?=some v) (hs:s=x+v+cy) (bx:x<B9) (bv:v<B9):BackK ys vs (zs ++ [s%B9]) o (k+1) (s/B9):=by
 obtain ⟨h1,h2,h3,h4⟩:=h
 have hxd:(ys.drop o)[k]?=some x:=by rw [List.getElem?_drop];exact hx
 obtain ⟨k1,ex⟩:=List.getElem?_eq_some_iff.1 hxd
 obtain ⟨k2,ev⟩:=List.getElem?_eq_some_iff.1 hv
 have hq:s/B9≤1:=by subst hs;rw [cE] at *;clear h4 hx hv hxd;omega
 refine ⟨by simp [h1],h2.app (Dig.cons (Nat.mod_lt _ bY) (Dig.nil _)),hq,?_⟩
 rw [bZ,aE _ _ _ k1,aE _ _ _ k2,ex,ev,h1,Nat.pow_succ]
 have hdm:=Nat.div_add_mod s B9
 generalize s/B9=q at *
 generalize s%B9=r at *
 clear h2 h3 ex ev k1 k2 hxd hx hv bx bv hq
 generalize B9^k=P at *
 generalize B9=V at *
 subst hs
 grind
def Ow (w:World) (g c:Nat) (zs:List Int):Prop := ∃ cur:Array Value,w.heap[g]?=some (.cells cur 3 (0,0))∧cur.size=c∧zs.length≤c∧cur.toList.take zs.length=zs.map (Value.int .i64)
section
variable {w w' : World} {g c:Nat} {zs:List Int}
theorem Ow.lt (h:Ow w g c zs):g<w.heap.size:=by obtain ⟨cur,h1,_⟩:=h;exact (Array.getElem?_eq_some_iff.1 h1).1
theorem Ow.cell (h:Ow w g c zs) {i:Nat} {z:Int} (hz:zs[i]?=some z):w.cell? ⟨g,i,none⟩=some (.int .i64 z):=by
 obtain ⟨cur,h1,h2,h3,h4⟩:=h
 rw [nS h1,← Array.getElem?_toList]
 have hi:=(List.getElem?_eq_some_iff.1 hz).1
 have:(cur.toList.take zs.length)[i]?=some (.int .i64 z):=by rw [h4,List.getElem?_map,hz];rfl
 rw [List.getElem?_take,if_pos hi] at this
 exact this
theorem Ow.frozen (h:Ow w g c zs) (i:Nat):w.frozen? ⟨g,i,none⟩=false:=by
 obtain ⟨cur,h1,_⟩:=h
 simp [World.frozen?,h1]
theorem Ow.set_ (h:Ow w g c zs) (i:Nat) (z:Int):Ow (w.setCell ⟨g,i,none⟩ (.int .i64 z)) g c (zs.set i z):=by
 obtain ⟨cur,h1,h2,h3,h4⟩:=h
 refine ⟨cur.setIfInBounds i (.int .i64 z),?_,by simp [h2],by simpa using h3,?_⟩
 ·simp only [World.setCell,Array.getElem?_modify,h1];simp
 ·rw [List.length_set,Array.toList_setIfInBounds,List.take_set,h4,List.map_set]
theorem Ow.far (h:Ow w g c zs) {p:Addr} (hp:g≠p.block) (u:Value):Ow (w.setCell p u) g c zs:=by
 obtain ⟨cur,h1,h2⟩:=h
 exact ⟨cur,(Below.heap_setCell w p u g hp).trans h1,h2⟩
theorem Ow.below {B:Nat} (h:Ow w g c zs) (hb:Below B w w') (hg:g<B):Ow w' g c zs:=by
 obtain ⟨cur,h1,h2⟩:=h
 exact ⟨cur,(hb.block g hg).trans h1,h2⟩
theorem Ow.grown {row:Option Nat} (h:Ow w g c zs) (hg:w.grownBy w' row) (hr:some g≠row):Ow w' g c zs:=by
 obtain ⟨cur,h1,h2⟩:=h
 exact ⟨cur,(hg.block g (Array.getElem?_eq_some_iff.1 h1).1 hr).trans h1,h2⟩
end
abbrev sK (xs:List Nat):List Int:=xs.map (fun (x:Nat)=>(x:Int))
theorem Ow.rd {w:World} {g c:Nat} {xs:List Nat} (h:Ow w g c (sK xs)) (hc:c≤maxLen):Ri w (some ⟨g,0,none⟩) xs.length c xs:=by
 have hl:=h.lt
 refine ⟨rfl,?_,hc,fun _=>⟨_,rfl,hl,fun j x hx=>?_⟩⟩
 ·obtain ⟨cur,_,_,h3,_⟩:=h;simpa using h3
 ·have:(⟨g,0,none⟩:Addr).add j=⟨g,j,none⟩:=by unfold Addr.add;split <;> simp_all
  rw [this]
  exact h.cell (by rw [List.getElem?_map,hx];rfl)
theorem yC {w:World} {base n:Nat} {v:Value} {xs:List Nat} (h:w.ownsRow base 3 1 v n (xs.map dT)) (hn:0<n):∃ g c,v = .slice (some ⟨g,0,none⟩) n c∧base≤g∧c≤maxLen∧Ow w g c (sK xs)∧xs.length=n:=by
 obtain ⟨h1,h2⟩:=h
 have hl:xs.length=n:=by simpa using h1
 rcases h2 with ⟨rfl,rfl⟩|⟨g,cap,cur,rfl,e2,e3,e4,e5,e6,e7⟩
 ·omega
 ·refine ⟨g,cap,rfl,e2,e5,⟨cur,e3,by simpa using e6,by simp;omega,?_⟩,hl⟩
  have:(sK xs).length=n*1:=by simp [hl]
  rw [this,e7]
  simp [dT]
theorem wD {xs:List Nat} {i x:Nat} (h:xs[i]?=some x):(sK xs)[i]?=some (x:Int):=by rw [List.getElem?_map,h];rfl
theorem wE (xs:List Nat) (i x:Nat):(sK xs).set i (x:Int)=sK (xs.set i x):=by simp [List.map_set]
theorem row_nil {w:World} {base g:Nat} (h:w.heap[g]?=some (.cells #[] 3 (0,0))) (hb:base≤g):w.ownsRow base 3 1 (.slice (some ⟨g,0,none⟩) 0 0) 0 ([]:List Value) :=
 ⟨rfl,.inr ⟨g,0,#[],rfl,hb,h,aR _,Nat.zero_le _,rfl,rfl⟩⟩
theorem wpList_src {ops:Array Oper} {rest:List Oper} {o:Oper} {a:Act} {Q:Exit→Act→World→Prop} (hgd:o.guard=none) (s x:Operand)
 (ho:o.op = .call { callee := .builtin .append,args := #[s,x],argTypes := #[82,82] }) {base m c:Nat} {v:Value} {A:Option Addr} {xs:List Nat} {w:World} (hs:a.eval s=v) (hown:w.ownsRow base 3 1 v 0 ([]:List Value))
 (hx:a.eval x = .slice A m c) (hr:Ri w A m c xs) (h0:0<m) (hm:m≤2199023255999) (hbase:base≤w.heap.size)
 (h:∀ v' w',w'.ownsRow base 3 1 v' m (xs.map dT)→w.grownBy w' v.ownBlock→wpList Tryz.prog ops Q rest (a.put o.dst v') w') :
 wpList Tryz.prog ops Q (o::rest) a w:=by
 obtain ⟨i0,hi,hz0,hz1,hz2⟩:=info_parts gR
 obtain ⟨ad,rfl,_,hc⟩:=hr.2.2.2 h0
 refine wpList_append_own _ hgd s x 82 ho base 3 i0 (.int .i64 0) 1 8 Tryz.underlying82 hi hz0 hz1 hz2 rfl (by decide) v 0 [] hs hown ad m c (xs.map dT) hx (by simp [hr.len]) ?_ ?_ ?_ ?_ hbase ?_
 ·intro j u hj
  rw [List.getElem?_map,Option.map_eq_some_iff] at hj
  obtain ⟨x,hx,rfl⟩:=hj
  exact hc j x hx
 ·intro u hu
  rw [List.mem_map] at hu
  obtain ⟨x,_,rfl⟩:=hu
  rfl
 ·show 0+m≤9223372036854775807;omega
 ·omega
 ·intro v' w' h1 h2 _
  rw [Nat.zero_add,List.nil_append] at h1
  exact h v' w' h1 h2
def GInv (f N G m1 rs:Nat):Prop:=m1*f+rs=N∧G≤m1∧m1≤2000000000∧rs<1000000000
def gMu (v:Value):Nat:=(intOf v).toNat
set_option maxRecDepth 100000 in
theorem rguess_any (A:Option Addr) (n c:Nat) (xs:List Nat) (A' : Option Addr) (m n' c' : Nat) (ys:List Nat) (j:Nat) (w:World) (h:Ri w A n c xs) (hm2:n'=m+2) (h' : Ri w A' n' c' ys) (hd:Dig B9 xs) (hd' : Dig B9 ys)
 (hn:n≤2199023255999) (hj:j+(m+2)<n) (hi mid low f s:Nat) (g0:xs[j+(m+2)]?=some hi) (g1:xs[j+(m+1)]?=some mid) (g2:xs[j+m]?=some low) (g3:ys[m+1]?=some f) (g4:ys[m]?=some s) (hf0:0<f) (hle:hi≤f) :
 Calls Tryz.prog 159 #[.slice A n c,.slice A' n' c',.int .i64 (j:Int)] w (Gives w (.int .i64 ((gD (hi*B9+mid) low f s:Nat):Int))):=by
 have hnc:n≤c:=h.cap
 have hcm:c≤9223372036854775807:=h.2.2.1
 have hnc' : n'≤c':=h'.cap
 have hcm' : c'≤9223372036854775807:=h'.2.2.1
 have b0:=hd.at_ g0
 have b1:=hd.at_ g1
 have b2:=hd.at_ g2
 have b3:=hd'.at_ g3
 have b4:=hd'.at_ g4
 rw [cE] at b0 b1 b2 b3 b4
 obtain ⟨ad,q0,rfl,hblk,e0,c0⟩:=h.at_ hj
 rw [g0] at e0;injection e0 with e0;subst e0
 obtain ⟨ad1,q1,hA1,_,e1,c1⟩:=h.at_ (k:=j+(m+1)) (by omega)
 rw [g1] at e1;injection e1 with e1;subst e1
 injection hA1 with hA1;subst hA1
 obtain ⟨ad1,q1,hA1,_,e1,c2⟩:=h.at_ (k:=j+m) (by omega)
 rw [g2] at e1;injection e1 with e1;subst e1
 injection hA1 with hA1;subst hA1
 obtain ⟨ad',q1,rfl,hblk',e1,c3⟩:=h'.at_ (k:=m+1) (by omega)
 rw [g3] at e1;injection e1 with e1;subst e1
 obtain ⟨ad1,q1,hA1,_,e1,c4⟩:=h'.at_ (k:=m) (by omega)
 rw [g4] at e1;injection e1 with e1;subst e1
 injection hA1 with hA1;subst hA1
 obtain ⟨a0,ha0⟩:∃ a,a=j+(m+2):=⟨_,rfl⟩
 obtain ⟨a1,ha1⟩:∃ a,a=j+(m+1):=⟨_,rfl⟩
 obtain ⟨a2,ha2⟩:∃ a,a=j+m:=⟨_,rfl⟩
 obtain ⟨p1,hp1⟩:∃ a,a=m+1:=⟨_,rfl⟩
 rw [← ha0] at c0
 rw [← ha1] at c1
 rw [← ha2] at c2
 rw [← hp1] at c3
 rw [← ha0] at hj
 have x0:(j:Int)+(n' : Int)=(a0:Int):=by omega
 have x1:(a0:Int)-1=(a1:Int):=by omega
 have x2:(a0:Int)-2=(a2:Int):=by omega
 have x3:(n' : Int)-1=(p1:Int):=by omega
 have x4:(n' : Int)-2=(m:Int):=by omega
 have y0:(a0:Int)≤2199023255999:=by omega
 have y1:(a1:Int)≤2199023255999:=by omega
 have y2:(a2:Int)≤2199023255999:=by omega
 have y3:(p1:Int)≤2199023255999:=by omega
 have y4:(m:Int)≤2199023255999:=by omega
 have i0:(a0:Int)<n:=by omega
 have i1:(a1:Int)<n:=by omega
 have i2:(a2:Int)<n:=by omega
 have i3:(p1:Int)<n':=by omega
 have i4:(m:Int)<n':=by omega
 have n0:(0:Int)≤a0:=Int.natCast_nonneg _
 have n1:(0:Int)≤a1:=Int.natCast_nonneg _
 have n2:(0:Int)≤a2:=Int.natCast_nonneg _
 have n3:(0:Int)≤p1:=Int.natCast_nonneg _
 have n4:(0:Int)≤m:=Int.natCast_nonneg _
 clear ha0 ha1 ha2 hp1 hm2 hj hn
 obtain ⟨u,N,q,r,e1,e2,e3,e4,t1,t2,t3,t4,t5,hN,hdm,hrf,hq,hq2⟩:=guessTop b0 b1 hf0 b3 hle
 have E:=aH (aI e3 (aI e4 (aI t1 (aI t2 (aI t3 (aI t4 t5))))))
 clear e3 e4 t1 t2 t3 t4 t5
 have e3:(u:Int)≤1000000000000000000:=by omega
 have e4:(N:Int)≤1000000001000000000:=by omega
 have hst:gD (hi*B9+mid) low f s≤q:=by rw [hq,hN,← cE];exact gd_start hf0 b2
 have hNB:N=hi*B9+mid:=hN
 have hz0:((f:Int)==0)=false:=by simp;omega
 have hz1:¬ (f:Int)=0:=by omega
 have hz2:¬ (f:Int) = -1:=by omega
 have hz3:((f:Int) == -1)=false:=by simp
 obtain ⟨G,hG⟩:∃ G,G=gD (hi*B9+mid) low f s:=⟨_,rfl⟩
 rw [← hG] at hst ⊢
 have HS:=aH (aI hst (aI hNB (aI hdm (aI hrf (aI hq2 (aI b0 (aI b1 (aI b2 (aI b3 (aI b4 (aI hf0 (aI hle hG))))))))))))
 clear hst hNB hdm hrf hq2 b0 b1 b2 b3 b4 hf0 hle hG hN hq h h' hd hd' g0 g1 g2 g3 g4
 have CW:=aH (aI c0 (aI c1 (aI c2 (aI c3 (aI c4 (aI hblk hblk'))))))
 have hbs:(s:Int)≤999999999:=by have:=HS.out.2.2.2.2.2.2.2.2.2.1;omega
 have hbl:(low:Int)≤999999999:=by have:=HS.out.2.2.2.2.2.2.2.1;omega
 have hbf:(f:Int)≤999999999:=by have:=HS.out.2.2.2.2.2.2.2.2.1;omega
 go_enter Tryz.func159,Tryz.ntmps159
 go_wp2
 go_quiet (fail)
 have HC:=aH (show (w.drewN nq).cell? (ad'.add p1)=some (.int .i64 (f:Int))∧Below w.heap.size w (w.drewN nq) from ⟨c3,bX (aB _ _) _⟩)
 clear c0 c1 c2 c3 c4 hblk hblk'
 generalize w.drewN nq=w2 at *
 obtain ⟨c3,hb2⟩:=HC.out
 go_wp2
 go_quiet (fail)
 have hb3:=bX hb2 nq
 clear c3 hb2 HC
 generalize w2.drewN nq=w3 at *
 go_wp2
 go_loopw [9,10] (fun tv rv wr => ∃ m1 rs:Nat,tv = .int .i64 (m1:Int)∧rv = .int .i64 (rs:Int)∧GInv f N G m1 rs∧Below w.heap.size w wr) (fun tv _ _=>gMu tv)
 case atStart =>
  obtain ⟨_,_,t1,t2,t3,t4,t5⟩:=E.out
  refine ⟨q,r,?_,?_,⟨HS.out.2.2.1,HS.out.1,HS.out.2.2.2.2.1,by have:=HS.out.2.2.2.1;have:=HS.out.2.2.2.2.2.2.2.2.1;omega⟩,hb3⟩
  ·first|rfl|rw [t1,t5]|rw [t2,t5]|(simp only [t1,t2,t5];done)
  ·first|rfl|rw [t3]|rw [t4]|(simp only [t3,t4];done)
 case round =>
  obtain ⟨m1,rs,rfl,rfl,hinv,hb⟩:=hrel
  have c2:=(hb.cell (p:=ad.add a2) (by rw [bF];exact CW.out.2.2.2.2.2.1)).trans CW.out.2.2.1
  have c3:=(hb.cell (p:=ad'.add p1) (by rw [bF];exact CW.out.2.2.2.2.2.2)).trans CW.out.2.2.2.1
  have c4:=(hb.cell (p:=ad'.add m) (by rw [bF];exact CW.out.2.2.2.2.2.2)).trans CW.out.2.2.2.2.1
  clear hb3 e1 e2 e3 e4
  by_cases hm:1000000000≤m1
  ·have k1:(1000000000:Int)≤m1:=by omega
   have hI:=hinv
   obtain ⟨j0,_,j3,j4⟩:=hinv
   have d1:(1:Int)≤m1:=by omega
   have d3:(m1:Int)≤2000000000:=by omega
   have d4:(rs:Int)≤999999999:=by omega
   have hG0:G≤m1-1:=by rw [HS.out.2.2.2.2.2.2.2.2.2.2.2.2];exact gd_cont1 (by rw [cE];omega)
   have hj:(m1-1)*f+(rs+f)=N:=by
    obtain ⟨m0,rfl⟩:∃ m0,m1=m0+1:=⟨m1-1,by omega⟩
    rw [Nat.add_mul,Nat.one_mul] at j0
    rw [Nat.add_sub_cancel];omega
   by_cases hr:1000000000≤rs+f
   ·have k3:(1000000000:Int)≤(rs:Int)+f:=by omega
    have hfin:G=m1-1:=by
     rw [HS.out.2.2.2.2.2.2.2.2.2.2.2.2]
     refine gd_over HS.out.2.2.2.2.2.2.2.2.2.2.1 (by rw [← HS.out.2.1];exact hj) HS.out.2.2.2.2.2.2.2.2.2.2.2.1 (by rw [cE];exact HS.out.2.2.2.2.2.2.1) (by rw [cE];exact HS.out.2.2.2.2.2.2.2.2.2.1) (by rw [cE];exact hr) (by rw [← HS.out.2.2.2.2.2.2.2.2.2.2.2.2];exact hG0)
    have HF:=aH hfin
    clear hfin hr hj hG0 j0 j3 j4 hI
    go_wp2
    go_quiet (fail)
    have c3' : (wr.drewN nq).cell? (ad'.add p1)=some (.int .i64 (f:Int)):=c3
    have hb4:=bX hb nq
    clear c2 c3 c4 hb
    generalize wr.drewN nq=w4 at *
    go_wp2
    go_ret
    exact ⟨bN (by rw [HF.out];omega),hb4⟩
   ·have k3:decide ((1000000000:Int)≤(rs:Int)+f)=false:=by rw [decide_eq_false_iff_not];omega
    have HF:=aH (show GInv f N G (m1-1) (rs+f) from ⟨hj,hG0,by omega,by omega⟩)
    clear hr hj hG0 j0 j3 j4 hI
    go_wp2
    go_quiet (fail)
    have c3' : (wr.drewN nq).cell? (ad'.add p1)=some (.int .i64 (f:Int)):=c3
    have hb4:=bX hb nq
    clear c2 c3 c4 hb
    generalize wr.drewN nq=w4 at *
    go_wp2
    go_roundw
    case rel=>exact ⟨m1-1,rs+f,by go_num,by go_num,HF.out,hb4⟩
    case measure=>show (intOf _).toNat<(intOf _).toNat;simp only [intOf];omega
  ·have k1:(m1:Int)<1000000000:=by omega
   obtain ⟨P,R,S,e1,e2,e3,f1,f2,f3,hP,hS⟩:=guessFacts (m:=m1) (s:=s) (rs:=rs) (low:=low) (by omega) (by omega) (by have:=hinv.2.2.2;omega) (by omega)
   have bP:(P:Int)≤1000000000000000000:=by
    have h1:m1*s≤999999999*999999999:=Nat.mul_le_mul (by omega) (by omega)
    clear f1 f2 f3
    omega
   have bR:(rs:Int)≤999999999:=by have:=hinv.2.2.2;clear f1 f2 f3;omega
   have hSI:(S:Int)=(rs:Int)*1000000000+low:=by clear f1 f2 f3;omega
   clear e2 e3 f2 f3
   by_cases hle:P≤S
   ·have hfin:G=m1:=by
     rw [HS.out.2.2.2.2.2.2.2.2.2.2.2.2]
     refine gd_exit HS.out.2.2.2.2.2.2.2.2.2.2.1 (by rw [← HS.out.2.1];exact hinv.1) (by rw [cE];clear f1;omega) (by rw [cE,← hP,← hS];exact hle) (by rw [← HS.out.2.2.2.2.2.2.2.2.2.2.2.2];exact hinv.2.1)
    have k2:(P:Int)≤(rs:Int)*1000000000+low:=by clear f1;omega
    have HF:=aH hfin
    have k4:decide ((1000000000:Int)≤m1)=false:=by rw [decide_eq_false_iff_not];clear f1;omega
    clear hfin hP hS hle hinv hSI f1 k1
    have bP2:(m1:Int)*(s:Int)≤1000000000000000000:=by rw [e1];exact bP
    have bP0:0≤(m1:Int)*(s:Int):=by rw [e1];exact Int.natCast_nonneg _
    have k6:decide ((rs:Int)*1000000000+low<(m1:Int)*(s:Int))=false:=by rw [decide_eq_false_iff_not,e1];exact Int.not_lt.2 k2
    clear e1 k2 bP
    go_wp2
    go_quiet (fail)
    clear x0 x1 x2 x3 x4 y0 y1 y2 y3 y4 i0 i1 i2 i3 i4 n0 n1 n2 n3 n4 hbl hbf hbs bR bP2 bP0 k4
    go_wp2
    go_ret
    exact ⟨bN (by rw [HF.out]),bX hb _⟩
   ·have k2:(rs:Int)*1000000000+low<P:=by clear f1;omega
    have hm1:m1≠0:=fun e=>by rw [e,Nat.zero_mul] at hP;clear f1;omega
    have HG0:G≤m1-1:=by
     rw [HS.out.2.2.2.2.2.2.2.2.2.2.2.2]
     obtain ⟨m0,rfl⟩:∃ m0,m1=m0+1:=⟨m1-1,by clear f1;omega⟩
     exact gd_cont2 HS.out.2.2.2.2.2.2.2.2.2.2.1 (by rw [← HS.out.2.1];exact hinv.1) (by rw [cE,← hS,Nat.add_sub_cancel,← hP];exact hle)
    have k4:decide ((1000000000:Int)≤m1)=false:=by rw [decide_eq_false_iff_not];clear f1;omega
    clear hP hS hle hSI f1 k1
    have bP2:(m1:Int)*(s:Int)≤1000000000000000000:=by rw [e1];exact bP
    have bP0:0≤(m1:Int)*(s:Int):=by rw [e1];exact Int.natCast_nonneg _
    have k6:(rs:Int)*1000000000+low<(m1:Int)*(s:Int):=by rw [e1];exact k2
    clear e1 k2 bP
    have hI:=hinv
    obtain ⟨j0,_,j3,j4⟩:=hinv
    have d1:(1:Int)≤m1:=by omega
    have d3:(m1:Int)≤2000000000:=by omega
    have d4:(rs:Int)≤999999999:=by omega
    have hG0:G≤m1-1:=HG0
    have hj:(m1-1)*f+(rs+f)=N:=by
     obtain ⟨m0,rfl⟩:∃ m0,m1=m0+1:=⟨m1-1,by omega⟩
     rw [Nat.add_mul,Nat.one_mul] at j0
     rw [Nat.add_sub_cancel];omega
    by_cases hr:1000000000≤rs+f
    ·have k3:(1000000000:Int)≤(rs:Int)+f:=by omega
     have hfin:G=m1-1:=by
      rw [HS.out.2.2.2.2.2.2.2.2.2.2.2.2]
      refine gd_over HS.out.2.2.2.2.2.2.2.2.2.2.1 (by rw [← HS.out.2.1];exact hj) HS.out.2.2.2.2.2.2.2.2.2.2.2.1 (by rw [cE];exact HS.out.2.2.2.2.2.2.1) (by rw [cE];exact HS.out.2.2.2.2.2.2.2.2.2.1) (by rw [cE];exact hr) (by rw [← HS.out.2.2.2.2.2.2.2.2.2.2.2.2];exact hG0)
     have HF:=aH hfin
     clear hfin hr hj hG0 j0 j3 j4 hI HG0 hm1
     go_wp2
     go_quiet (fail)
     have c3' : (wr.drewN nq).cell? (ad'.add p1)=some (.int .i64 (f:Int)):=c3
     have hb4:=bX hb nq
     clear c2 c3 c4 hb
     generalize wr.drewN nq=w4 at *
     go_wp2
     go_ret
     exact ⟨bN (by rw [HF.out];omega),hb4⟩
    ·have k3:decide ((1000000000:Int)≤(rs:Int)+f)=false:=by rw [decide_eq_false_iff_not];omega
     have HF:=aH (show GInv f N G (m1-1) (rs+f) from ⟨hj,hG0,by omega,by omega⟩)
     clear hr hj hG0 j0 j3 j4 hI HG0 hm1
     go_wp2
     go_quiet (fail)
     have c3' : (wr.drewN nq).cell? (ad'.add p1)=some (.int .i64 (f:Int)):=c3
     have hb4:=bX hb nq
     clear c2 c3 c4 hb
     generalize wr.drewN nq=w4 at *
     go_wp2
     go_roundw
     case rel=>exact ⟨m1-1,rs+f,by go_num,by go_num,HF.out,hb4⟩
     case measure=>show (intOf _).toNat<(intOf _).toNat;simp only [intOf];omega
def MulO (xs ys zs:List Nat) (i:Nat):Prop :=
 Dig B9 zs∧zs.length=xs.length+ys.length∧val B9 (zs.take (i+ys.length))=val B9 (xs.take i)*val B9 ys∧∀ j,i+ys.length≤j→j<zs.length→zs[j]?=some 0
def MulK (xs ys zs ws:List Nat) (i k cy x:Nat):Prop :=
 Dig B9 ws∧ws.length=xs.length+ys.length∧cy<B9∧val B9 (ws.take (i+ys.length))+B9^(i+k)*cy=val B9 (zs.take (i+ys.length))+B9^i*(x*val B9 (ys.take k))∧∀ j,i+ys.length≤j→j<ws.length→ws[j]?=some 0
theorem MulO.start (xs ys:List Nat):MulO xs ys (List.replicate (xs.length+ys.length) 0) 0:=by
 refine ⟨Dig.replicate bY _,by simp,?_,fun j _ h=>?_⟩
 ·rw [List.take_replicate,lA];simp [val]
 ·simp at h;simp [List.getElem?_replicate,h]
theorem MulK.start {xs ys zs:List Nat} {i:Nat} (h:MulO xs ys zs i) (x:Nat):MulK xs ys zs zs i 0 0 x:=⟨h.1,h.2.1,bY,by simp [val],h.2.2.2⟩
theorem mulk_alg {V P v w o r s q cy y x m:Nat} (h:v+P*o=w+P*r) (e:w+P*cy=m) (hs:s=o+x*y+cy) (hdm:V*q+r=s):v+P*V*q=m+P*(x*y):=by subst hs;grind
theorem MulK.step {xs ys zs ws:List Nat} {i k cy x y o s:Nat} (h:MulK xs ys zs ws i k cy x) (hy:ys[k]?=some y) (ho:ws[i+k]?=some o) (hi:i<xs.length) (hs:s=o+x*y+cy) (hq:s/B9<B9) :
 MulK xs ys zs (ws.set (i+k) (s%B9)) i (k+1) (s/B9) x:=by
 obtain ⟨h1,h2,h3,h4,h5⟩:=h
 obtain ⟨hk,ey⟩:=List.getElem?_eq_some_iff.1 hy
 obtain ⟨hp,eo⟩:=List.getElem?_eq_some_iff.1 ho
 refine ⟨h1.set (Nat.mod_lt _ bY),by rw [List.length_set,h2],hq,?_,fun j hj hl=>?_⟩
 ·have e:=val_set B9 (ws.take (i+ys.length)) (i+k) (s%B9) (by rw [List.length_take];omega)
  rw [List.getElem_take,eo] at e
  rw [List.take_set,aE _ _ _ hk,ey]
  have hdm:=Nat.div_add_mod s B9
  rw [Nat.mul_add x,Nat.mul_add (B9^i),show x*(B9^k*y)=B9^k*(x*y) by rw [Nat.mul_left_comm],← Nat.mul_assoc (B9^i) (B9^k),← Nat.pow_add,← Nat.add_assoc (val B9 _)]
  rw [show i+(k+1)=i+k+1 from rfl,Nat.pow_succ]
  have e2:val B9 ((ws.take (i+ys.length)).set (i+k) (s%B9))+B9^(i+k)*o=val B9 (ws.take (i+ys.length))+B9^(i+k)*(s%B9):=e
  generalize B9^(i+k)=P at *
  generalize s/B9=q at *
  generalize s%B9=r at *
  exact mulk_alg e2 h4 hs hdm
 ·rw [List.getElem?_set_ne (by omega)]
  exact h5 j hj (by simpa using hl)
theorem mulo_alg {a v x y P Q c:Nat} (h4:v+Q*c=a*y+P*(x*y)):v+Q*c=(a+P*x)*y:=by grind
theorem MulK.finish {xs ys zs ws:List Nat} {i cy x:Nat} (h:MulK xs ys zs ws i ys.length cy x) (hz:MulO xs ys zs i) (hx:xs[i]?=some x):MulO xs ys (ws.set (i+ys.length) cy) (i+1):=by
 obtain ⟨h1,h2,h3,h4,h5⟩:=h
 obtain ⟨hi,ex⟩:=List.getElem?_eq_some_iff.1 hx
 refine ⟨h1.set h3,by rw [List.length_set,h2],?_,fun j hj hl=>?_⟩
 ·rw [show i+1+ys.length=i+ys.length+1 by omega,aE _ _ _ (by rw [List.length_set];omega),List.take_set_of_le (aR _),List.getElem_set_self,aE _ _ _ hi,ex]
  rw [List.take_of_length_le (aR _),hz.2.2.1] at h4
  exact mulo_alg h4
 ·rw [List.getElem?_set_ne (by omega)]
  exact h5 j (by omega) (by simpa using hl)
theorem MulO.finish {xs ys zs:List Nat} (h:MulO xs ys zs xs.length):val B9 zs=val B9 xs*val B9 ys:=by
 obtain ⟨_,h2,h3,_⟩:=h
 rwa [List.take_of_length_le (by omega),List.take_of_length_le (aR _)] at h3
set_option maxRecDepth 100000 in
theorem kP (A:Option Addr) (n c:Nat) (xs:List Nat) (A' : Option Addr) (n' c' : Nat) (ys:List Nat) (w:World) (h:Ri w A n c xs) (h' : Ri w A' n' c' ys)
 (hd:Dig B9 xs) (hd' : Dig B9 ys) (hn:n≤2199023255552) (hn' : n'≤2199023255552) :
 Calls Tryz.prog 113 #[.slice A n c,.slice A' n' c'] w (zO w (val B9 xs*val B9 ys)):=by
 have HX:=aH (aI h hd)
 have HY:=aH (aI h' hd')
 have hnc:n≤c:=h.cap
 have hcm:c≤9223372036854775807:=h.2.2.1
 have hnc' : n'≤c':=h'.cap
 have hcm' : c'≤9223372036854775807:=h'.2.2.1
 obtain ⟨i0,hi,hz0,hz1,hz2⟩:=info_parts gR
 have HI:=aH (aI hi (aI hz0 (aI hz1 hz2)))
 clear h h' hd hd' hi hz0 hz1 hz2
 go_enter Tryz.func113,Tryz.ntmps113
 go_wp2_with (at_make;refine wpList_make_full _ rfl _ _ 82 rfl w.heap.size 3 i0 (.int .i64 0) 1 Tryz.underlying82 HI.out.1 HI.out.2.1 HI.out.2.2.1 _ _ _ _ (n+n') rfl rfl ?b0 ?b1 ?b2 ?b3 (aR _) ?_)
 case b0=>omega
 case b1=>omega
 case b2=>rw [HI.out.2.2.2];omega
 case b3=>show n+n'≤9223372036854775807;omega
 intro w1 hown hg1
 have hb1:Below w.heap.size w w1:=(aB _ _).grown hg1 (aR _) (fun k h=>by cases h)
 have hblk:=pP hown
 have e0:MulO xs ys (List.replicate (n+n') 0) 0:=by
  have:=MulO.start xs ys
  rwa [HX.out.1.len,HY.out.1.len] at this
 have HB:=aH hblk
 have H0:=aH e0
 clear hown hg1 hblk e0
 obtain ⟨g,hg⟩:∃ g,g=w.heap.size:=⟨_,rfl⟩
 rw [← hg] at HB ⊢
 have HG:=aH hg
 clear hg
 go_wp2
 go_loopw [6] (fun iv wr => ∃ (i:Nat) (zs:List Nat),i≤n∧iv = .int .i64 (i:Int)∧MulO xs ys zs i∧Bi wr g 3 zs∧Below w.heap.size w wr) (fun iv _=>n-(intOf iv).toNat)
 case atStart=>exact ⟨0,_,Nat.zero_le _,rfl,H0.out,HB.out,hb1⟩
 case round =>
  clear HB H0 hb1
  obtain ⟨i,zs,hk,rfl,hinv,hblk,hb⟩:=hrel
  by_cases hlt:i<n
  ·have a1:(i:Int)<n:=by omega
   obtain ⟨ad,x,hA,_,hx,_⟩:=(HX.out.1.below hb).at_ (k:=i) hlt
   have bx:x<1000000000:=HX.out.2.at_ hx
   have HO:=aH (aI hinv (aI hx (aI hlt bx)))
   have HB:=aH (aI hblk hb)
   clear hinv hx hblk hb bx hlt
   go_wp2
   go_loopw [7,8] (fun cv kv wr => ∃ (k cy:Nat) (ws:List Nat),k≤n'∧kv = .int .i64 (k:Int)∧cv = .int .i64 (cy:Int)∧MulK xs ys zs ws i k cy x∧Bi wr g 3 ws∧Below w.heap.size w wr) (fun _ kv _=>n'-(intOf kv).toNat)
   case atStart=>exact ⟨0,0,zs,Nat.zero_le _,rfl,rfl,MulK.start HO.out.1 x,HB.out.1,HB.out.2⟩
   case round =>
    clear HB
    obtain ⟨k,cy,ws,hk',rfl,rfl,hinv,hblk,hb⟩:=hrel
    have hwn:ws.length=n+n':=by rw [hinv.2.1,HX.out.1.len,HY.out.1.len]
    by_cases hkl:k<n'
    ·have a2:(k:Int)<n':=by omega
     have a3:i+k<n+n':=by omega
     obtain ⟨ad2,x2,hA2,_,hx2,hcx⟩:=(HX.out.1.below hb).at_ (k:=i) HO.out.2.2.1
     rw [HO.out.2.1] at hx2
     injection hx2 with hx2
     subst hx2
     subst hA2
     obtain ⟨ad',y,rfl,_,hy,hcy⟩:=(HY.out.1.below hb).at_ (k:=k) hkl
     obtain ⟨o,ho⟩:∃ o,ws[i+k]?=some o:=⟨_,List.getElem?_eq_getElem (by omega)⟩
     have hco:=hblk.cell ho
     have hfo:=hblk.frozen (i+k)
     obtain ⟨u,p,s,r,q,e1,e2,e3,e4,e5,e6,t1,t2,t3,t4,t5,hs,hr,hq,hqb,_⟩:=mulFacts (hinv.1.at_ ho) (Nat.le_of_lt HO.out.2.2.2) (HY.out.2.at_ hy) hinv.2.2.1
     have hst:=hinv.step hy ho (by rw [HX.out.1.len];exact HO.out.2.2.1) hs (by rw [cE,← hq];exact hqb HO.out.2.2.2)
     rw [cE,← hr,← hq] at hst
     have HS:=aH (aI hst (aI hblk (aI hb hkl)))
     have HT:=aH (aI t1 (aI t2 (aI t3 (aI t4 t5))))
     clear t1 t2 t3 t4 t5
     clear hst hb hblk hinv hs hr hq hqb hy ho hkl hwn hA
     go_wp2
     go_quiet (fail)
     have HS2:=aH (aI (HS.out.2.1.drewN nq) (bX HS.out.2.2.1 nq))
     have hcz:(wr.drewN nq).cell? ⟨g,i+k,none⟩=some (.int .i64 (o:Int)):=hco
     have hfz:(wr.drewN nq).frozen? ⟨g,i+k,none⟩=false:=hfo
     clear hco hfo hcx hcy
     generalize wr.drewN nq=w2 at *
     simp only [e6]
     clear e1 e2 e3 e4 e5 e6
     go_wp2
     go_roundw
     case rel =>
      obtain ⟨_,t2,_,t4,t5⟩:=HT.out
      exact ⟨k+1,q,ws.set (i+k) r,HS.out.2.2.2,rfl,by rw [t4,t5],HS.out.1,by rw [t2];exact HS2.out.1.set_ _ _,HS2.out.2.setCell (by rw [HG.out];exact aR _) _⟩
     case measure =>
      have:=HS.out.2.2.2
      clear HT HS HS2 HO hcz hfz
      simp [intOf];omega
    ·obtain rfl:k=n':=by omega
     have a3:i+k<n+k:=by have:=HO.out.2.2.1;omega
     have ho:ws[i+k]?=some 0:=by
      have:=hinv.2.2.2.2 (i+k) (by rw [HY.out.1.len];exact aR _) (by omega)
      exact this
     have hco:=hblk.cell ho
     have hfo:=hblk.frozen (i+k)
     have hst:=hinv
     rw [← HY.out.1.len] at hst
     have hst:=hst.finish HO.out.1 HO.out.2.1
     rw [HY.out.1.len] at hst
     have hcb:cy<1000000000:=hinv.2.2.1
     have t5:wrap64 (cy:Int)=cy:=eL (by omega)
     have HS:=aH (aI hst (aI hblk hb))
     clear hst hblk hb hinv ho hwn hkl hcb hA
     simp only [Int.natCast_zero] at hco
     go_wp2
     go_roundw
     case rel=>exact ⟨i+1,ws.set (i+k) cy,HO.out.2.2.1,by first|rfl|go_num|simp,HS.out.1,HS.out.2.1.set_ _ _,HS.out.2.2.setCell (by rw [HG.out];exact aR _) _⟩
     case measure =>
      have:=HO.out.2.2.1
      clear HS HO hco hfo
      simp [intOf];omega
  ·obtain rfl:i=n:=by omega
   have hzn:zs.length=i+n':=by rw [hinv.2.1,HX.out.1.len,HY.out.1.len]
   have hrd:=hblk.rd (by rw [hzn];show i+n'≤9223372036854775807;omega)
   rw [hzn] at hrd
   have hfin:=hinv
   rw [← HX.out.1.len] at hfin
   have HF:=aH (aI hinv.1 (aI hfin.finish (aI hrd hb)))
   clear hinv hblk hzn hrd hfin hlt hb
   go_wp2_with (go_at_call 158;refine (lS _ _ _ zs _ HF.out.2.2.1 HF.out.1).mono ?_;rintro e w' ⟨⟨v,rfl,hv⟩,rfl⟩)
   go_ret
   exact ⟨v,rfl,by rw [← HF.out.2.1];exact hv,HF.out.2.2.2⟩
end
end Go.Proofs.YtpjknnddanhgkaaGreatDoor
