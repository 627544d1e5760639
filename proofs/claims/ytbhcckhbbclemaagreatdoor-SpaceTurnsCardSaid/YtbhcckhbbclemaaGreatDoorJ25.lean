/- Parts of the proof, joined. -/
import Derived.Test.YtbhcckhbbclemaaGreatDoorJ24
set_option linter.unusedSimpArgs false
set_option linter.unusedVariables false
namespace Go.Proofs.YtbhcckhbbclemaaGreatDoor.Ab
open Go.RowKit Go.Proofs.YtbhcckhbbclemaaGreatDoor Pl
theorem gcdWordsF {a b:Nat} (ha:a<W64) (hb:b<W64):Fits (Kc:=Kn) Tryz.prog 159 [.fv (.sc (.lit (.int .u64 (a:Int)))),.fv (.sc (.lit (.int .u64 (b:Int))))] (.fv (.sc (.lit (.int .u64 ((Nat.gcd a b:Nat):Int))))):=by
 intro β w vs hv
 obtain ⟨v,u,rfl,h1,h2⟩:=args2 hv
 rw [hold_lit h1,hold_lit h2]
 exact (gcdWords_any a b w ha hb).mono fun e w' ⟨e1,e2⟩=>⟨_,e1,by first|exact e2|(rw [← e2];exact Below.refl _ _),lit_hold rfl⟩
theorem ck_111:Fits Tryz.prog 145 [iv (1) (1) (1)] (it 0):=by
 refine kgo Tryz.func145 (by kernel_rfl) fun w00=>?_
 refine kcall 159 [.fv (.sc (.lit (.int .u64 ((0:Nat):Int)))),.fv (.sc (.lit (.int .u64 ((1:Nat):Int))))] (gcdWordsF (by rw [W64_eq];omega) (by rw [W64_eq];omega)) (by kernel_rfl) Tryz.call159 ?_
 refine kcall 159 [.fv (.sc (.lit (.int .u64 ((1:Nat):Int)))),.fv (.sc (.lit (.int .u64 ((1:Nat):Int))))] (gcdWordsF (by rw [W64_eq];omega) (by rw [W64_eq];omega)) (by kernel_rfl) Tryz.call159 ?_
 refine kcall 159 [.fv (.sc (.lit (.int .u64 ((1:Nat):Int)))),.fv (.sc (.lit (.int .u64 ((1:Nat):Int))))] (gcdWordsF (by rw [W64_eq];omega) (by rw [W64_eq];omega)) (by kernel_rfl) Tryz.call159 ?_
 exact kret Tryz.func145 (by kernel_rfl)
theorem ck_100:Fits Tryz.prog 145 [iv (1) (0) (0)] (it 0):=by
 refine kgo Tryz.func145 (by kernel_rfl) fun w00=>?_
 refine kcall 159 [.fv (.sc (.lit (.int .u64 ((0:Nat):Int)))),.fv (.sc (.lit (.int .u64 ((1:Nat):Int))))] (gcdWordsF (by rw [W64_eq];omega) (by rw [W64_eq];omega)) (by kernel_rfl) Tryz.call159 ?_
 refine kcall 159 [.fv (.sc (.lit (.int .u64 ((1:Nat):Int)))),.fv (.sc (.lit (.int .u64 ((0:Nat):Int))))] (gcdWordsF (by rw [W64_eq];omega) (by rw [W64_eq];omega)) (by kernel_rfl) Tryz.call159 ?_
 refine kcall 159 [.fv (.sc (.lit (.int .u64 ((1:Nat):Int)))),.fv (.sc (.lit (.int .u64 ((0:Nat):Int))))] (gcdWordsF (by rw [W64_eq];omega) (by rw [W64_eq];omega)) (by kernel_rfl) Tryz.call159 ?_
 exact kret Tryz.func145 (by kernel_rfl)
theorem ck_302:Fits Tryz.prog 145 [iv (3) (0) (-2)] (it 0):=by
 refine kgo Tryz.func145 (by kernel_rfl) fun w00=>?_
 refine kcall 159 [.fv (.sc (.lit (.int .u64 ((0:Nat):Int)))),.fv (.sc (.lit (.int .u64 ((3:Nat):Int))))] (gcdWordsF (by rw [W64_eq];omega) (by rw [W64_eq];omega)) (by kernel_rfl) Tryz.call159 ?_
 refine kcall 159 [.fv (.sc (.lit (.int .u64 ((3:Nat):Int)))),.fv (.sc (.lit (.int .u64 ((0:Nat):Int))))] (gcdWordsF (by rw [W64_eq];omega) (by rw [W64_eq];omega)) (by kernel_rfl) Tryz.call159 ?_
 refine kcall 159 [.fv (.sc (.lit (.int .u64 ((3:Nat):Int)))),.fv (.sc (.lit (.int .u64 ((2:Nat):Int))))] (gcdWordsF (by rw [W64_eq];omega) (by rw [W64_eq];omega)) (by kernel_rfl) Tryz.call159 ?_
 exact kret Tryz.func145 (by kernel_rfl)
section
variable {z1 z2 z3:Int} {d p1 p2 p3 n1 n2 n3 e:Rat}
structure Hv (z1 z2 z3:Int) (d:Rat):Prop where
 s1:Sz z1
 s2:Sz z2
 s3:Sz z3
 d:Wr d
 ck:Fits Tryz.prog 145 [iv z1 z2 z3] (it 0)
theorem lf_sz {z:Int} (h:Sz z) {k:Nat}:Lf k (z:Rat):=Lf.int (Lv.one _ (by have:=h.1;have:=h.2;rw [W64_eq];omega))
theorem m_sz {z:Int} (h:Sz z):M64 z:=⟨by have:=h.1;omega,by have:=h.2;omega⟩
theorem readHV (h:Hv z1 z2 z3 d) (k:Wr3 p1 p2 p3):FitsW Tryz.prog Gl 76 [fnv 77,hS z1 z2 z3 d,fnv 31,vS p1 p2 p3] (.tup [.ag [nb z1,nb z2,nb z3,nb d],.ag [nb p1,nb p2,nb p3],.sc z0]):=by
 refine kgoW Tryz.func76 (by kernel_rfl) fun w00 hG=>?_;have hI:=keepGl hG
 refine kcallW hI 77 [hS z1 z2 z3 d] (readHalfF (m_sz h.s1) (m_sz h.s2) (m_sz h.s3) h.d h.ck) (by kernel_rfl) Tryz.call77 ?_
 refine kcallW hI 31 [vS p1 p2 p3] (readVecF k) (by kernel_rfl) Tryz.call31 ?_
 refine kcall 74 [.fv (.nsl 2 33 [z0,z0])] (first2F) (by kernel_rfl) Tryz.call74 ?_
 exact kret Tryz.func76 (by kernel_rfl)
theorem apiSideF {s:Int} (h:Hv z1 z2 z3 d) (k:Wr3 p1 p2 p3) (hs:sgnR (dt z1 z2 z3 p1 p2 p3-d)=s):FitsW Tryz.prog Gl 26 [hS z1 z2 z3 d,vS p1 p2 p3] (.tup [.sc (.lit (.int .i64 s)),.sc z0]):=by
 rw [← hs]
 refine kgoW Tryz.func26 (by kernel_rfl) fun w00 hG=>?_;have hI:=keepGl hG
 refine kcallW hI 76 [fnv 77,hS z1 z2 z3 d,fnv 31,vS p1 p2 p3] (readHV h k) (by kernel_rfl) Tryz.call76 ?_
 refine kcall 86 [hf z1 z2 z3 d,vc p1 p2 p3] (excessF (lf_sz h.s1) (lf_sz h.s2) (lf_sz h.s3) (h.d.lf.mono (by decide)) (k.1.lf.mono (by decide)) (k.2.1.lf.mono (by decide)) (k.2.2.lf.mono (by decide))) (by kernel_rfl) Tryz.call86 ?_
 refine kcall 87 [num (dt z1 z2 z3 p1 p2 p3-d)] (signF) (by kernel_rfl) Tryz.call87 ?_
 exact kret Tryz.func26 (by kernel_rfl)
theorem apiMakeHalfF (k:Wr3 n1 n2 n3) (hd:Wr d) (h:Form n1 n2 n3 d z1 z2 z3 e):FitsW Tryz.prog Gl 20 [vS n1 n2 n3,tx (writeB d)] (okH z1 z2 z3 e):=by
 have h0:(decide (n1=0)&&decide (n2=0)&&decide (n3=0))=false:=by
  rw [Bool.eq_false_iff]
  intro hh
  simp only [Bool.and_eq_true,decide_eq_true_eq] at hh
  exact h.h0 ⟨hh.1.1,hh.1.2,hh.2⟩
 refine kgoW Tryz.func20 (by kernel_rfl) fun w00 hG=>?_;have hI:=keepGl hG
 refine kcallW hI 72 [fnv 31,vS n1 n2 n3,fnv 30,tx (writeB d)] (readVR k hd) (by kernel_rfl) Tryz.call72 ?_
 refine kcall 33 [vc n1 n2 n3] (vIsZeroF h0) (by kernel_rfl) Tryz.call33 ?_
 refine kcallW hI 73 [hf n1 n2 n3 d] (hWriteF h) (by kernel_rfl) Tryz.call73 ?_
 exact kret Tryz.func20 (by kernel_rfl)
variable {a1 a2 a3 b1 b2 b3 c1 c2 c3:Rat}
theorem apiThroughF (ka:Wr3 a1 a2 a3) (kb:Wr3 b1 b2 b3) (kc:Wr3 c1 c2 c3) {m1 m2 m3:Rat}
 (e1:(b2-a2)*(c3-a3)-(b3-a3)*(c2-a2)=m1) (e2:(b3-a3)*(c1-a1)-(b1-a1)*(c3-a3)=m2) (e3:(b1-a1)*(c2-a2)-(b2-a2)*(c1-a1)=m3)
 (h:Form m1 m2 m3 (dt m1 m2 m3 a1 a2 a3) z1 z2 z3 e):FitsW Tryz.prog Gl 21 [vS a1 a2 a3,vS b1 b2 b3,vS c1 c2 c3] (okH z1 z2 z3 e):=by
 have h0:(decide (m1=0)&&decide (m2=0)&&decide (m3=0))=false:=by
  rw [Bool.eq_false_iff]
  intro hh
  simp only [Bool.and_eq_true,decide_eq_true_eq] at hh
  exact h.h0 ⟨hh.1.1,hh.1.2,hh.2⟩
 have s:∀ {x y:Rat},Wr x→Wr y→Lf 35 (x-y):=fun hx hy=>Lf.subn (hx.lf.mono (by decide)) (hy.lf.mono (by decide)) (by decide)
 have hcross:Fits Tryz.prog 68 [vc (b1-a1) (b2-a2) (b3-a3),vc (c1-a1) (c2-a2) (c3-a3)] (vc m1 m2 m3):=by
  have:=crossF (s kb.1 ka.1) (s kb.2.1 ka.2.1) (s kb.2.2 ka.2.2) (s kc.1 ka.1) (s kc.2.1 ka.2.1) (s kc.2.2 ka.2.2)
  rw [e1,e2,e3] at this
  exact this
 refine kgoW Tryz.func21 (by kernel_rfl) fun w00 hG=>?_;have hI:=keepGl hG
 refine kcallW hI 67 [fnv 31,vS a1 a2 a3,fnv 31,vS b1 b2 b3] (readVV ka kb) (by kernel_rfl) Tryz.call67 ?_
 refine kcallW hI 31 [vS c1 c2 c3] (readVecF kc) (by kernel_rfl) Tryz.call31 ?_
 refine kcall 74 [.fv (.nsl 2 33 [z0,z0])] (first2F) (by kernel_rfl) Tryz.call74 ?_
 refine kcall 75 [vc b1 b2 b3,vc a1 a2 a3] (vminusF (kb.1.lf.mono (by decide)) (kb.2.1.lf.mono (by decide)) (kb.2.2.lf.mono (by decide)) (ka.1.lf.mono (by decide)) (ka.2.1.lf.mono (by decide)) (ka.2.2.lf.mono (by decide))) (by kernel_rfl) Tryz.call75 ?_
 refine kcall 75 [vc c1 c2 c3,vc a1 a2 a3] (vminusF (kc.1.lf.mono (by decide)) (kc.2.1.lf.mono (by decide)) (kc.2.2.lf.mono (by decide)) (ka.1.lf.mono (by decide)) (ka.2.1.lf.mono (by decide)) (ka.2.2.lf.mono (by decide))) (by kernel_rfl) Tryz.call75 ?_
 refine kcall 68 [vc (b1-a1) (b2-a2) (b3-a3),vc (c1-a1) (c2-a2) (c3-a3)] (hcross) (by kernel_rfl) Tryz.call68 ?_
 refine kcall 33 [vc m1 m2 m3] (vIsZeroF h0) (by kernel_rfl) Tryz.call33 ?_
 refine kcall 69 [vc m1 m2 m3,vc a1 a2 a3] (dotF (h.l1.mono (by decide)) (h.l2.mono (by decide)) (h.l3.mono (by decide)) (ka.1.lf.mono (by decide)) (ka.2.1.lf.mono (by decide)) (ka.2.2.lf.mono (by decide))) (by kernel_rfl) Tryz.call69 ?_
 refine kcallW hI 73 [hf m1 m2 m3 (dt m1 m2 m3 a1 a2 a3)] (hWriteF h) (by kernel_rfl) Tryz.call73 ?_
 exact kret Tryz.func21 (by kernel_rfl)
theorem apiMirrorF {m1 m2 m3:Rat} (h:Hv z1 z2 z3 d) (k:Wr3 p1 p2 p3) (h0:dt (z1:Rat) z2 z3 z1 z2 z3≠0)
 (e1:p1+((2:Int):Rat)*(wayR z1 z2 z3 d p1 p2 p3*z1)=m1) (e2:p2+((2:Int):Rat)*(wayR z1 z2 z3 d p1 p2 p3*z2)=m2) (e3:p3+((2:Int):Rat)*(wayR z1 z2 z3 d p1 p2 p3*z3)=m3) (hr:Wr3 m1 m2 m3) :
 FitsW Tryz.prog Gl 22 [hS z1 z2 z3 d,vS p1 p2 p3] (okVS m1 m2 m3):=by
 have lw:Lf 20 (wayR z1 z2 z3 d p1 p2 p3):=lf_way (lf_sz h.s1) (lf_sz h.s2) (lf_sz h.s3) (h.d.lf.mono (by decide)) (k.1.lf.mono (by decide)) (k.2.1.lf.mono (by decide)) (k.2.2.lf.mono (by decide)) (by decide)
 have l2:Lf 20 ((2:Int):Rat):=Lf.int (Lv.one _ (by rw [W64_eq];decide))
 have lm:∀ {z:Int},Sz z→Lf 22 (((2:Int):Rat)*(wayR z1 z2 z3 d p1 p2 p3*z)):=fun hz=>Lf.muln (n:=22) (l2.mono (by decide)) (Lf.muln (n:=21) lw (lf_sz hz) (by decide)) (by decide)
 have hp:Fits Tryz.prog 78 [vc p1 p2 p3,vc (((2:Int):Rat)*(wayR z1 z2 z3 d p1 p2 p3*z1)) (((2:Int):Rat)*(wayR z1 z2 z3 d p1 p2 p3*z2)) (((2:Int):Rat)*(wayR z1 z2 z3 d p1 p2 p3*z3))] (vc m1 m2 m3):=by
  rw [← e1,← e2,← e3]
  exact vplusF (k.1.lf.mono (by decide)) (k.2.1.lf.mono (by decide)) (k.2.2.lf.mono (by decide)) ((lm h.s1).mono (by decide)) ((lm h.s2).mono (by decide)) ((lm h.s3).mono (by decide))
 refine kgoW Tryz.func22 (by kernel_rfl) fun w00 hG=>?_;have hI:=keepGl hG
 refine kcallW hI 76 [fnv 77,hS z1 z2 z3 d,fnv 31,vS p1 p2 p3] (readHV h k) (by kernel_rfl) Tryz.call76 ?_
 refine kcall 79 [hf z1 z2 z3 d,vc p1 p2 p3] (toPlaneF (lf_sz h.s1) (lf_sz h.s2) (lf_sz h.s3) (h.d.lf.mono (by decide)) (k.1.lf.mono (by decide)) (k.2.1.lf.mono (by decide)) (k.2.2.lf.mono (by decide)) h0) (by kernel_rfl) Tryz.call79 ?_
 refine kcall 81 [it 2] (integerF (by constructor <;> omega)) (by kernel_rfl) Tryz.call81 ?_
 refine kcall 80 [vc (wayR z1 z2 z3 d p1 p2 p3*z1) (wayR z1 z2 z3 d p1 p2 p3*z2) (wayR z1 z2 z3 d p1 p2 p3*z3),num ((2:Int):Rat)] (scaledF (l2.mono (by decide)) (Lf.muln (n:=38) (lw.mono (by decide)) (lf_sz h.s1) (by decide)) (Lf.muln (n:=38) (lw.mono (by decide)) (lf_sz h.s2) (by decide)) (Lf.muln (n:=38) (lw.mono (by decide)) (lf_sz h.s3) (by decide))) (by kernel_rfl) Tryz.call80 ?_
 refine kcall 78 [vc p1 p2 p3,vc (((2:Int):Rat)*(wayR z1 z2 z3 d p1 p2 p3*z1)) (((2:Int):Rat)*(wayR z1 z2 z3 d p1 p2 p3*z2)) (((2:Int):Rat)*(wayR z1 z2 z3 d p1 p2 p3*z3))] (hp) (by kernel_rfl) Tryz.call78 ?_
 refine kcallW hI 58 [vc m1 m2 m3] (writeVecF hr (hr.1.lf.mono (by decide)) (hr.2.1.lf.mono (by decide)) (hr.2.2.lf.mono (by decide))) (by kernel_rfl) Tryz.call58 ?_
 exact kret Tryz.func22 (by kernel_rfl)
theorem apiMeetF {v1 v2 v3 m1 m2 m3:Rat} (h:Hv z1 z2 z3 d) (k:Wr3 p1 p2 p3) (kv:Wr3 v1 v2 v3) (h0:dt z1 z2 z3 v1 v2 v3≠0)
 (e1:p1-(dt z1 z2 z3 p1 p2 p3-d)/dt z1 z2 z3 v1 v2 v3*v1=m1) (e2:p2-(dt z1 z2 z3 p1 p2 p3-d)/dt z1 z2 z3 v1 v2 v3*v2=m2) (e3:p3-(dt z1 z2 z3 p1 p2 p3-d)/dt z1 z2 z3 v1 v2 v3*v3=m3) (hr:Wr3 m1 m2 m3) :
 FitsW Tryz.prog Gl 25 [hS z1 z2 z3 d,vS p1 p2 p3,vS v1 v2 v3] (okVS m1 m2 m3):=by
 have lE:Lf 16 (dt z1 z2 z3 p1 p2 p3-d):=Lf.subn (lf_dt (n:=14) (lf_sz h.s1) (lf_sz h.s2) (lf_sz h.s3) (k.1.lf.mono (by decide)) (k.2.1.lf.mono (by decide)) (k.2.2.lf.mono (by decide)) (by decide)) (h.d.lf.mono (by decide)) (by decide)
 have lV:Lf 16 (dt z1 z2 z3 v1 v2 v3):=lf_dt (lf_sz h.s1) (lf_sz h.s2) (lf_sz h.s3) (kv.1.lf.mono (by decide)) (kv.2.1.lf.mono (by decide)) (kv.2.2.lf.mono (by decide)) (by decide)
 have lQ:Lf 17 ((dt z1 z2 z3 p1 p2 p3-d)/dt z1 z2 z3 v1 v2 v3):=by
  rw [Rat.div_def]
  exact Lf.muln lE (Lf.inv lV) (by decide)
 have lm:∀ {x:Rat},Wr x→Lf 18 ((dt z1 z2 z3 p1 p2 p3-d)/dt z1 z2 z3 v1 v2 v3*x):=fun hx=>Lf.muln lQ (hx.lf.mono (by decide)) (by decide)
 have hi:decide (dt z1 z2 z3 v1 v2 v3=0)=false:=by rw [decide_eq_false_iff_not];exact h0
 obtain ⟨Q,hQ⟩:∃ Q,Q=(dt z1 z2 z3 p1 p2 p3-d)/dt z1 z2 z3 v1 v2 v3:=⟨_,rfl⟩
 rw [← hQ] at e1 e2 e3 lQ lm
 have ho:Fits Tryz.prog 70 [num (dt z1 z2 z3 p1 p2 p3-d),num (dt z1 z2 z3 v1 v2 v3)] (num Q):=by
  rw [hQ]
  exact overF (lE.mono (by decide)) (lV.mono (by decide)) h0
 have hp:Fits Tryz.prog 75 [vc p1 p2 p3,vc (Q*v1) (Q*v2) (Q*v3)] (vc m1 m2 m3):=by
  rw [← e1,← e2,← e3]
  exact vminusF (k.1.lf.mono (by decide)) (k.2.1.lf.mono (by decide)) (k.2.2.lf.mono (by decide)) ((lm kv.1).mono (by decide)) ((lm kv.2.1).mono (by decide)) ((lm kv.2.2).mono (by decide))
 refine kgoW Tryz.func25 (by kernel_rfl) fun w00 hG=>?_;have hI:=keepGl hG
 refine kcallW hI 76 [fnv 77,hS z1 z2 z3 d,fnv 31,vS p1 p2 p3] (readHV h k) (by kernel_rfl) Tryz.call76 ?_
 refine kcallW hI 31 [vS v1 v2 v3] (readVecF kv) (by kernel_rfl) Tryz.call31 ?_
 refine kcall 74 [.fv (.nsl 2 33 [z0,z0])] (first2F) (by kernel_rfl) Tryz.call74 ?_
 refine kcall 69 [vc z1 z2 z3,vc v1 v2 v3] (dotF (lf_sz h.s1) (lf_sz h.s2) (lf_sz h.s3) (kv.1.lf.mono (by decide)) (kv.2.1.lf.mono (by decide)) (kv.2.2.lf.mono (by decide))) (by kernel_rfl) Tryz.call69 ?_
 refine kcall 32 [num (dt z1 z2 z3 v1 v2 v3)] (isZeroF hi) (by kernel_rfl) Tryz.call32 ?_
 refine kcall 86 [hf z1 z2 z3 d,vc p1 p2 p3] (excessF (lf_sz h.s1) (lf_sz h.s2) (lf_sz h.s3) (h.d.lf.mono (by decide)) (k.1.lf.mono (by decide)) (k.2.1.lf.mono (by decide)) (k.2.2.lf.mono (by decide))) (by kernel_rfl) Tryz.call86 ?_
 refine kcall 70 [num (dt z1 z2 z3 p1 p2 p3-d),num (dt z1 z2 z3 v1 v2 v3)] (ho) (by kernel_rfl) Tryz.call70 ?_
 refine kcall 80 [vc v1 v2 v3,num Q] (scaledF (lQ.mono (by decide)) (kv.1.lf.mono (by decide)) (kv.2.1.lf.mono (by decide)) (kv.2.2.lf.mono (by decide))) (by kernel_rfl) Tryz.call80 ?_
 refine kcall 75 [vc p1 p2 p3,vc (Q*v1) (Q*v2) (Q*v3)] (hp) (by kernel_rfl) Tryz.call75 ?_
 refine kcallW hI 58 [vc m1 m2 m3] (writeVecF hr (hr.1.lf.mono (by decide)) (hr.2.1.lf.mono (by decide)) (hr.2.2.lf.mono (by decide))) (by kernel_rfl) Tryz.call58 ?_
 exact kret Tryz.func25 (by kernel_rfl)
end
section
variable {o1 o2 o3 x1 x2 x3 y1 y2 y3 z1 z2 z3 m1 m2 m3 p1 p2 p3:Rat}
structure Ax (x1 x2 x3 y1 y2 y3 z1 z2 z3:Rat):Prop where
 x0:(decide (x1=0)&&decide (x2=0)&&decide (x3=0))=false
 y0:(decide (y1=0)&&decide (y2=0)&&decide (y3=0))=false
 z0:(decide (z1=0)&&decide (z2=0)&&decide (z3=0))=false
 xy:dt x1 x2 x3 y1 y2 y3=0
 yz:dt y1 y2 y3 z1 z2 z3=0
 zx:dt z1 z2 z3 x1 x2 x3=0
 s:sgnR (dt x1 x2 x3 (y2*z3-y3*z2) (y3*z1-y1*z3) (y1*z2-y2*z1))=1
theorem checkF (l:Lm 25 x1 x2 x3 y1 y2 y3 z1 z2 z3) (h:Ax x1 x2 x3 y1 y2 y3 z1 z2 z3):Fits Tryz.prog 107 [frm o1 o2 o3 x1 x2 x3 y1 y2 y3 z1 z2 z3] (it 0):=by
 obtain ⟨a1,a2,a3,b1,b2,b3,c1,c2,c3⟩:=l
 have hs:Fits Tryz.prog 87 [num (dt x1 x2 x3 (y2*z3-y3*z2) (y3*z1-y1*z3) (y1*z2-y2*z1))] (it 1):=by
  rw [← h.s]
  exact signF
 refine kgo Tryz.func107 (by kernel_rfl) fun w00=>?_
 refine kcall 33 [vc x1 x2 x3] (vIsZeroF h.x0) (by kernel_rfl) Tryz.call33 ?_
 refine kcall 33 [vc y1 y2 y3] (vIsZeroF h.y0) (by kernel_rfl) Tryz.call33 ?_
 refine kcall 33 [vc z1 z2 z3] (vIsZeroF h.z0) (by kernel_rfl) Tryz.call33 ?_
 refine kcall 109 [frm o1 o2 o3 x1 x2 x3 y1 y2 y3 z1 z2 z3] (orthogonalF (Lm.mono ⟨a1,a2,a3,b1,b2,b3,c1,c2,c3⟩ (by decide)) h.xy h.yz h.zx) (by kernel_rfl) Tryz.call109 ?_
 refine kcall 68 [vc y1 y2 y3,vc z1 z2 z3] (crossF (by repeat' (first|exact Lf.mono (by assumption) (by decide)|refine Lf.muln ?_ ?_ (by decide)|refine Lf.addn ?_ ?_ (by decide)|refine Lf.subn ?_ ?_ (by decide))) (by repeat' (first|exact Lf.mono (by assumption) (by decide)|refine Lf.muln ?_ ?_ (by decide)|refine Lf.addn ?_ ?_ (by decide)|refine Lf.subn ?_ ?_ (by decide))) (by repeat' (first|exact Lf.mono (by assumption) (by decide)|refine Lf.muln ?_ ?_ (by decide)|refine Lf.addn ?_ ?_ (by decide)|refine Lf.subn ?_ ?_ (by decide))) (by repeat' (first|exact Lf.mono (by assumption) (by decide)|refine Lf.muln ?_ ?_ (by decide)|refine Lf.addn ?_ ?_ (by decide)|refine Lf.subn ?_ ?_ (by decide))) (by repeat' (first|exact Lf.mono (by assumption) (by decide)|refine Lf.muln ?_ ?_ (by decide)|refine Lf.addn ?_ ?_ (by decide)|refine Lf.subn ?_ ?_ (by decide))) (by repeat' (first|exact Lf.mono (by assumption) (by decide)|refine Lf.muln ?_ ?_ (by decide)|refine Lf.addn ?_ ?_ (by decide)|refine Lf.subn ?_ ?_ (by decide)))) (by kernel_rfl) Tryz.call68 ?_
 refine kcall 69 [vc x1 x2 x3,vc (y2*z3-y3*z2) (y3*z1-y1*z3) (y1*z2-y2*z1)] (dotF (by repeat' (first|exact Lf.mono (by assumption) (by decide)|refine Lf.muln ?_ ?_ (by decide)|refine Lf.addn ?_ ?_ (by decide)|refine Lf.subn ?_ ?_ (by decide))) (by repeat' (first|exact Lf.mono (by assumption) (by decide)|refine Lf.muln ?_ ?_ (by decide)|refine Lf.addn ?_ ?_ (by decide)|refine Lf.subn ?_ ?_ (by decide))) (by repeat' (first|exact Lf.mono (by assumption) (by decide)|refine Lf.muln ?_ ?_ (by decide)|refine Lf.addn ?_ ?_ (by decide)|refine Lf.subn ?_ ?_ (by decide))) (by repeat' (first|exact Lf.mono (by assumption) (by decide)|refine Lf.muln ?_ ?_ (by decide)|refine Lf.addn ?_ ?_ (by decide)|refine Lf.subn ?_ ?_ (by decide))) (by repeat' (first|exact Lf.mono (by assumption) (by decide)|refine Lf.muln ?_ ?_ (by decide)|refine Lf.addn ?_ ?_ (by decide)|refine Lf.subn ?_ ?_ (by decide))) (by repeat' (first|exact Lf.mono (by assumption) (by decide)|refine Lf.muln ?_ ?_ (by decide)|refine Lf.addn ?_ ?_ (by decide)|refine Lf.subn ?_ ?_ (by decide)))) (by kernel_rfl) Tryz.call69 ?_
 refine kcall 87 [num (dt x1 x2 x3 (y2*z3-y3*z2) (y3*z1-y1*z3) (y1*z2-y2*z1))] (hs) (by kernel_rfl) Tryz.call87 ?_
 exact kret Tryz.func107 (by kernel_rfl)
abbrev frS (o1 o2 o3 x1 x2 x3 y1 y2 y3 z1 z2 z3:Rat):AV Kn := .fv (.ag [isS (writeB o1),isS (writeB o2),isS (writeB o3),isS (writeB x1),isS (writeB x2),isS (writeB x3),isS (writeB y1),isS (writeB y2),isS (writeB y3),isS (writeB z1),isS (writeB z2),isS (writeB z3)])
abbrev okFS (o1 o2 o3 x1 x2 x3 y1 y2 y3 z1 z2 z3:Rat):AV Kn := .tup [.ag [isS (writeB o1),isS (writeB o2),isS (writeB o3),isS (writeB x1),isS (writeB x2),isS (writeB x3),isS (writeB y1),isS (writeB y2),isS (writeB y3),isS (writeB z1),isS (writeB z2),isS (writeB z3)],.sc z0]
abbrev okFr (o1 o2 o3 x1 x2 x3 y1 y2 y3 z1 z2 z3:Rat):AV Kn := .tup [.ag [nb o1,nb o2,nb o3,nb x1,nb x2,nb x3,nb y1,nb y2,nb y3,nb z1,nb z2,nb z3],.sc z0]
structure Wf (o1 o2 o3 x1 x2 x3 y1 y2 y3 z1 z2 z3:Rat):Prop where
 o:Wr3 o1 o2 o3
 x:Wr3 x1 x2 x3
 y:Wr3 y1 y2 y3
 z:Wr3 z1 z2 z3
theorem w3lf {a b c:Rat} (h:Wr3 a b c):Lv3 5 a b c:=⟨h.1.lf,h.2.1.lf,h.2.2.lf⟩
theorem Wf.lm (h:Wf o1 o2 o3 x1 x2 x3 y1 y2 y3 z1 z2 z3):Lm 5 x1 x2 x3 y1 y2 y3 z1 z2 z3:=⟨h.x.1.lf,h.x.2.1.lf,h.x.2.2.lf,h.y.1.lf,h.y.2.1.lf,h.y.2.2.lf,h.z.1.lf,h.z.2.1.lf,h.z.2.2.lf⟩
theorem writeVec3 {a b c:Rat} (h:Wr3 a b c):FitsW Tryz.prog Gl 58 [vc a b c] (okVS a b c):=writeVecF h (h.1.lf.mono (by decide)) (h.2.1.lf.mono (by decide)) (h.2.2.lf.mono (by decide))
theorem frWriteF (h:Wf o1 o2 o3 x1 x2 x3 y1 y2 y3 z1 z2 z3):FitsW Tryz.prog Gl 39 [frm o1 o2 o3 x1 x2 x3 y1 y2 y3 z1 z2 z3] (okFS o1 o2 o3 x1 x2 x3 y1 y2 y3 z1 z2 z3):=by
 refine kgoW Tryz.func39 (by kernel_rfl) fun w00 hG=>?_;have hI:=keepGl hG
 refine kcallW hI 58 [vc o1 o2 o3] (writeVec3 h.o) (by kernel_rfl) Tryz.call58 ?_
 refine kcallW hI 58 [vc x1 x2 x3] (writeVec3 h.x) (by kernel_rfl) Tryz.call58 ?_
 refine kcallW hI 58 [vc y1 y2 y3] (writeVec3 h.y) (by kernel_rfl) Tryz.call58 ?_
 refine kcallW hI 58 [vc z1 z2 z3] (writeVec3 h.z) (by kernel_rfl) Tryz.call58 ?_
 refine kcall 74 [.fv (.nsl 4 33 [z0,z0,z0,z0])] (first4F) (by kernel_rfl) Tryz.call74 ?_
 exact kret Tryz.func39 (by kernel_rfl)
theorem frWriteOrthogonalF (h:Wf o1 o2 o3 x1 x2 x3 y1 y2 y3 z1 z2 z3) (hxy:dt x1 x2 x3 y1 y2 y3=0) (hyz:dt y1 y2 y3 z1 z2 z3=0) (hzx:dt z1 z2 z3 x1 x2 x3=0):FitsW Tryz.prog Gl 47 [frm o1 o2 o3 x1 x2 x3 y1 y2 y3 z1 z2 z3] (okFS o1 o2 o3 x1 x2 x3 y1 y2 y3 z1 z2 z3):=by
 refine kgoW Tryz.func47 (by kernel_rfl) fun w00 hG=>?_;have hI:=keepGl hG
 refine kcall 109 [frm o1 o2 o3 x1 x2 x3 y1 y2 y3 z1 z2 z3] (orthogonalF (h.lm.mono (by decide)) hxy hyz hzx) (by kernel_rfl) Tryz.call109 ?_
 refine kcallW hI 39 [frm o1 o2 o3 x1 x2 x3 y1 y2 y3 z1 z2 z3] (frWriteF h) (by kernel_rfl) Tryz.call39 ?_
 exact kret Tryz.func47 (by kernel_rfl)
structure Fv (o1 o2 o3 x1 x2 x3 y1 y2 y3 z1 z2 z3:Rat):Prop where
 w:Wf o1 o2 o3 x1 x2 x3 y1 y2 y3 z1 z2 z3
 a:Ax x1 x2 x3 y1 y2 y3 z1 z2 z3
 r:FitsW Tryz.prog Gl 44 [frS o1 o2 o3 x1 x2 x3 y1 y2 y3 z1 z2 z3] (okFr o1 o2 o3 x1 x2 x3 y1 y2 y3 z1 z2 z3)
variable {n1 n2 n3:Int} {d e:Rat} {k1 k2 k3:Int}
theorem readFV (h:Fv o1 o2 o3 x1 x2 x3 y1 y2 y3 z1 z2 z3) (k:Wr3 p1 p2 p3):FitsW Tryz.prog Gl 57 [fnv 44,frS o1 o2 o3 x1 x2 x3 y1 y2 y3 z1 z2 z3,fnv 31,vS p1 p2 p3] (.tup [.ag [nb o1,nb o2,nb o3,nb x1,nb x2,nb x3,nb y1,nb y2,nb y3,nb z1,nb z2,nb z3],.ag [nb p1,nb p2,nb p3],.sc z0]):=by
 refine kgoW Tryz.func57 (by kernel_rfl) fun w00 hG=>?_;have hI:=keepGl hG
 refine kcallW hI 44 [frS o1 o2 o3 x1 x2 x3 y1 y2 y3 z1 z2 z3] (h.r) (by kernel_rfl) Tryz.call44 ?_
 refine kcallW hI 31 [vS p1 p2 p3] (readVecF k) (by kernel_rfl) Tryz.call31 ?_
 refine kcall 74 [.fv (.nsl 2 33 [z0,z0])] (first2F) (by kernel_rfl) Tryz.call74 ?_
 exact kret Tryz.func57 (by kernel_rfl)
theorem readFH (h:Fv o1 o2 o3 x1 x2 x3 y1 y2 y3 z1 z2 z3) (k:Hv n1 n2 n3 d):FitsW Tryz.prog Gl 82 [fnv 44,frS o1 o2 o3 x1 x2 x3 y1 y2 y3 z1 z2 z3,fnv 77,hS n1 n2 n3 d] (.tup [.ag [nb o1,nb o2,nb o3,nb x1,nb x2,nb x3,nb y1,nb y2,nb y3,nb z1,nb z2,nb z3],.ag [nb n1,nb n2,nb n3,nb d],.sc z0]):=by
 refine kgoW Tryz.func82 (by kernel_rfl) fun w00 hG=>?_;have hI:=keepGl hG
 refine kcallW hI 44 [frS o1 o2 o3 x1 x2 x3 y1 y2 y3 z1 z2 z3] (h.r) (by kernel_rfl) Tryz.call44 ?_
 refine kcallW hI 77 [hS n1 n2 n3 d] (readHalfF (m_sz k.s1) (m_sz k.s2) (m_sz k.s3) k.d k.ck) (by kernel_rfl) Tryz.call77 ?_
 refine kcall 74 [.fv (.nsl 2 33 [z0,z0])] (first2F) (by kernel_rfl) Tryz.call74 ?_
 exact kret Tryz.func82 (by kernel_rfl)
theorem apiPlaceF (h:Fv o1 o2 o3 x1 x2 x3 y1 y2 y3 z1 z2 z3) (k:Wr3 p1 p2 p3) (e1:o1+ld p1 p2 p3 x1 y1 z1=m1) (e2:o2+ld p1 p2 p3 x2 y2 z2=m2) (e3:o3+ld p1 p2 p3 x3 y3 z3=m3) (hr:Wr3 m1 m2 m3) :
 FitsW Tryz.prog Gl 15 [frS o1 o2 o3 x1 x2 x3 y1 y2 y3 z1 z2 z3,vS p1 p2 p3] (okVS m1 m2 m3):=by
 have hp:Fits Tryz.prog 55 [frm o1 o2 o3 x1 x2 x3 y1 y2 y3 z1 z2 z3,vc p1 p2 p3] (vc m1 m2 m3):=by
  rw [← e1,← e2,← e3]
  exact placeF (h.w.lm.mono (by decide)) ((w3lf k).mono (by decide)) ((w3lf h.w.o).mono (by decide))
 refine kgoW Tryz.func15 (by kernel_rfl) fun w00 hG=>?_;have hI:=keepGl hG
 refine kcallW hI 57 [fnv 44,frS o1 o2 o3 x1 x2 x3 y1 y2 y3 z1 z2 z3,fnv 31,vS p1 p2 p3] (readFV h k) (by kernel_rfl) Tryz.call57 ?_
 refine kcall 55 [frm o1 o2 o3 x1 x2 x3 y1 y2 y3 z1 z2 z3,vc p1 p2 p3] (hp) (by kernel_rfl) Tryz.call55 ?_
 refine kcallW hI 58 [vc m1 m2 m3] (writeVec3 hr) (by kernel_rfl) Tryz.call58 ?_
 exact kret Tryz.func15 (by kernel_rfl)
theorem lf_quot {p q:Rat} {k l:Nat} (hp:Lf k p) (hq:Lf k q) (hk:k+1≤l):Lf l (p/q):=by
 rw [Rat.div_def]
 exact Lf.mono (hp.mul hq.inv) hk
theorem apiPlaceHalfF (h:Fv o1 o2 o3 x1 x2 x3 y1 y2 y3 z1 z2 z3) (k:Hv n1 n2 n3 d) (h0:Sq0 x1 x2 x3 y1 y2 y3 z1 z2 z3) {q1 q2 q3:Rat}
 (e1:ld (n1/dt x1 x2 x3 x1 x2 x3) (n2/dt y1 y2 y3 y1 y2 y3) (n3/dt z1 z2 z3 z1 z2 z3) x1 y1 z1=q1) (e2:ld (n1/dt x1 x2 x3 x1 x2 x3) (n2/dt y1 y2 y3 y1 y2 y3) (n3/dt z1 z2 z3 z1 z2 z3) x2 y2 z2=q2) (e3:ld (n1/dt x1 x2 x3 x1 x2 x3) (n2/dt y1 y2 y3 y1 y2 y3) (n3/dt z1 z2 z3 z1 z2 z3) x3 y3 z3=q3)
 (hm:Form q1 q2 q3 (d+dt q1 q2 q3 o1 o2 o3) k1 k2 k3 e):FitsW Tryz.prog Gl 24 [frS o1 o2 o3 x1 x2 x3 y1 y2 y3 z1 z2 z3,hS n1 n2 n3 d] (okH k1 k2 k3 e):=by
 obtain ⟨a1,a2,a3,b1,b2,b3,c1,c2,c3⟩:=h.w.lm
 obtain ⟨g1,g2,g3⟩:=w3lf h.w.o
 have ld':=k.d.lf
 have t1:=lf_sz k.s1 (k:=10)
 have t2:=lf_sz k.s2 (k:=10)
 have t3:=lf_sz k.s3 (k:=10)
 have s1:Lf 10 (dt x1 x2 x3 x1 x2 x3):=by repeat' (first|exact Lf.mono (by assumption) (by decide)|refine Lf.muln ?_ ?_ (by decide)|refine Lf.addn ?_ ?_ (by decide)|refine Lf.subn ?_ ?_ (by decide))
 have s2:Lf 10 (dt y1 y2 y3 y1 y2 y3):=by repeat' (first|exact Lf.mono (by assumption) (by decide)|refine Lf.muln ?_ ?_ (by decide)|refine Lf.addn ?_ ?_ (by decide)|refine Lf.subn ?_ ?_ (by decide))
 have s3:Lf 10 (dt z1 z2 z3 z1 z2 z3):=by repeat' (first|exact Lf.mono (by assumption) (by decide)|refine Lf.muln ?_ ?_ (by decide)|refine Lf.addn ?_ ?_ (by decide)|refine Lf.subn ?_ ?_ (by decide))
 have r1:=lf_quot t1 s1 (Nat.le_refl 11)
 have r2:=lf_quot t2 s2 (Nat.le_refl 11)
 have r3:=lf_quot t3 s3 (Nat.le_refl 11)
 have j:Fits Tryz.prog 83 [fnv 70,vc n1 n2 n3,vc (dt x1 x2 x3 x1 x2 x3) (dt y1 y2 y3 y1 y2 y3) (dt z1 z2 z3 z1 z2 z3)] (vc (n1/dt x1 x2 x3 x1 x2 x3) (n2/dt y1 y2 y3 y1 y2 y3) (n3/dt z1 z2 z3 z1 z2 z3)) :=
  joinF Tryz.call70 (overF (t1.mono (by decide)) (s1.mono (by decide)) h0.x) (overF (t2.mono (by decide)) (s2.mono (by decide)) h0.y) (overF (t3.mono (by decide)) (s3.mono (by decide)) h0.z)
 have hl:Fits Tryz.prog 56 [frm o1 o2 o3 x1 x2 x3 y1 y2 y3 z1 z2 z3,vc (n1/dt x1 x2 x3 x1 x2 x3) (n2/dt y1 y2 y3 y1 y2 y3) (n3/dt z1 z2 z3 z1 z2 z3)] (vc q1 q2 q3):=by
  rw [← e1,← e2,← e3]
  exact leadF (h.w.lm.mono (by decide)) ⟨r1.mono (by decide),r2.mono (by decide),r3.mono (by decide)⟩
 have l1:=hm.l1
 have l2:=hm.l2
 have l3:=hm.l3
 refine kgoW Tryz.func24 (by kernel_rfl) fun w00 hG=>?_;have hI:=keepGl hG
 refine kcallW hI 82 [fnv 44,frS o1 o2 o3 x1 x2 x3 y1 y2 y3 z1 z2 z3,fnv 77,hS n1 n2 n3 d] (readFH h k) (by kernel_rfl) Tryz.call82 ?_
 refine kcall 84 [frm o1 o2 o3 x1 x2 x3 y1 y2 y3 z1 z2 z3] (squaresF (h.w.lm.mono (by decide))) (by kernel_rfl) Tryz.call84 ?_
 refine kcall 83 [fnv 70,vc n1 n2 n3,vc (dt x1 x2 x3 x1 x2 x3) (dt y1 y2 y3 y1 y2 y3) (dt z1 z2 z3 z1 z2 z3)] (j) (by kernel_rfl) Tryz.call83 ?_
 refine kcall 56 [frm o1 o2 o3 x1 x2 x3 y1 y2 y3 z1 z2 z3,vc (n1/dt x1 x2 x3 x1 x2 x3) (n2/dt y1 y2 y3 y1 y2 y3) (n3/dt z1 z2 z3 z1 z2 z3)] (hl) (by kernel_rfl) Tryz.call56 ?_
 refine kcall 69 [vc q1 q2 q3,vc o1 o2 o3] (dotF (by repeat' (first|exact Lf.mono (by assumption) (by decide)|refine Lf.muln ?_ ?_ (by decide)|refine Lf.addn ?_ ?_ (by decide)|refine Lf.subn ?_ ?_ (by decide))) (by repeat' (first|exact Lf.mono (by assumption) (by decide)|refine Lf.muln ?_ ?_ (by decide)|refine Lf.addn ?_ ?_ (by decide)|refine Lf.subn ?_ ?_ (by decide))) (by repeat' (first|exact Lf.mono (by assumption) (by decide)|refine Lf.muln ?_ ?_ (by decide)|refine Lf.addn ?_ ?_ (by decide)|refine Lf.subn ?_ ?_ (by decide))) (by repeat' (first|exact Lf.mono (by assumption) (by decide)|refine Lf.muln ?_ ?_ (by decide)|refine Lf.addn ?_ ?_ (by decide)|refine Lf.subn ?_ ?_ (by decide))) (by repeat' (first|exact Lf.mono (by assumption) (by decide)|refine Lf.muln ?_ ?_ (by decide)|refine Lf.addn ?_ ?_ (by decide)|refine Lf.subn ?_ ?_ (by decide))) (by repeat' (first|exact Lf.mono (by assumption) (by decide)|refine Lf.muln ?_ ?_ (by decide)|refine Lf.addn ?_ ?_ (by decide)|refine Lf.subn ?_ ?_ (by decide)))) (by kernel_rfl) Tryz.call69 ?_
 refine kcall 85 [num d,num (dt q1 q2 q3 o1 o2 o3)] (plusF (by repeat' (first|exact Lf.mono (by assumption) (by decide)|refine Lf.muln ?_ ?_ (by decide)|refine Lf.addn ?_ ?_ (by decide)|refine Lf.subn ?_ ?_ (by decide))) (by repeat' (first|exact Lf.mono (by assumption) (by decide)|refine Lf.muln ?_ ?_ (by decide)|refine Lf.addn ?_ ?_ (by decide)|refine Lf.subn ?_ ?_ (by decide)))) (by kernel_rfl) Tryz.call85 ?_
 refine kcallW hI 73 [hf q1 q2 q3 (d+dt q1 q2 q3 o1 o2 o3)] (hWriteF hm) (by kernel_rfl) Tryz.call73 ?_
 exact kret Tryz.func24 (by kernel_rfl)
end
section
variable {w u1 u2 u3 v1 v2 v3:Rat}
abbrev tc (w s D c v u:Rat):Rat:=((1:Int):Rat)/(w*w+s)*((w*w-s)*v+((2:Int):Rat)*w*c+((2:Int):Rat)*D*u)
theorem turnedF (hw:Lf 8 w) (h1:Lf 8 u1) (h2:Lf 8 u2) (h3:Lf 8 u3) (k1:Lf 8 v1) (k2:Lf 8 v2) (k3:Lf 8 v3) (h0:w*w+dt u1 u2 u3 u1 u2 u3≠0) :
 Fits Tryz.prog 35 [num w,vc u1 u2 u3,vc v1 v2 v3] (vc (tc w (dt u1 u2 u3 u1 u2 u3) (dt u1 u2 u3 v1 v2 v3) (u2*v3-u3*v2) v1 u1) (tc w (dt u1 u2 u3 u1 u2 u3) (dt u1 u2 u3 v1 v2 v3) (u3*v1-u1*v3) v2 u2) (tc w (dt u1 u2 u3 u1 u2 u3) (dt u1 u2 u3 v1 v2 v3) (u1*v2-u2*v1) v3 u3)):=by
 have i2:Lf 8 ((2:Int):Rat):=Lf.int (Lv.one _ (by rw [W64_eq];decide))
 have i1:Lf 8 ((1:Int):Rat):=Lf.int (Lv.one _ (by rw [W64_eq];decide))
 have ls:Lf 14 (dt u1 u2 u3 u1 u2 u3):=by repeat' (first|exact Lf.mono (by assumption) (by decide)|refine Lf.muln ?_ ?_ (by decide)|refine Lf.addn ?_ ?_ (by decide)|refine Lf.subn ?_ ?_ (by decide))
 have lD:Lf 14 (dt u1 u2 u3 v1 v2 v3):=by repeat' (first|exact Lf.mono (by assumption) (by decide)|refine Lf.muln ?_ ?_ (by decide)|refine Lf.addn ?_ ?_ (by decide)|refine Lf.subn ?_ ?_ (by decide))
 have lL:Lf 16 (w*w+dt u1 u2 u3 u1 u2 u3):=by repeat' (first|exact Lf.mono (by assumption) (by decide)|refine Lf.muln ?_ ?_ (by decide)|refine Lf.addn ?_ ?_ (by decide)|refine Lf.subn ?_ ?_ (by decide))
 obtain ⟨S,hS⟩:∃ S,S=dt u1 u2 u3 u1 u2 u3:=⟨_,rfl⟩
 obtain ⟨D,hD⟩:∃ D,D=dt u1 u2 u3 v1 v2 v3:=⟨_,rfl⟩
 have sq:Fits Tryz.prog 71 [vc u1 u2 u3] (num S):=by rw [hS];exact squareF (by repeat' (first|exact Lf.mono (by assumption) (by decide)|refine Lf.muln ?_ ?_ (by decide)|refine Lf.addn ?_ ?_ (by decide)|refine Lf.subn ?_ ?_ (by decide))) (by repeat' (first|exact Lf.mono (by assumption) (by decide)|refine Lf.muln ?_ ?_ (by decide)|refine Lf.addn ?_ ?_ (by decide)|refine Lf.subn ?_ ?_ (by decide))) (by repeat' (first|exact Lf.mono (by assumption) (by decide)|refine Lf.muln ?_ ?_ (by decide)|refine Lf.addn ?_ ?_ (by decide)|refine Lf.subn ?_ ?_ (by decide)))
 have dd:Fits Tryz.prog 69 [vc u1 u2 u3,vc v1 v2 v3] (num D):=by rw [hD];exact dotF (by repeat' (first|exact Lf.mono (by assumption) (by decide)|refine Lf.muln ?_ ?_ (by decide)|refine Lf.addn ?_ ?_ (by decide)|refine Lf.subn ?_ ?_ (by decide))) (by repeat' (first|exact Lf.mono (by assumption) (by decide)|refine Lf.muln ?_ ?_ (by decide)|refine Lf.addn ?_ ?_ (by decide)|refine Lf.subn ?_ ?_ (by decide))) (by repeat' (first|exact Lf.mono (by assumption) (by decide)|refine Lf.muln ?_ ?_ (by decide)|refine Lf.addn ?_ ?_ (by decide)|refine Lf.subn ?_ ?_ (by decide))) (by repeat' (first|exact Lf.mono (by assumption) (by decide)|refine Lf.muln ?_ ?_ (by decide)|refine Lf.addn ?_ ?_ (by decide)|refine Lf.subn ?_ ?_ (by decide))) (by repeat' (first|exact Lf.mono (by assumption) (by decide)|refine Lf.muln ?_ ?_ (by decide)|refine Lf.addn ?_ ?_ (by decide)|refine Lf.subn ?_ ?_ (by decide))) (by repeat' (first|exact Lf.mono (by assumption) (by decide)|refine Lf.muln ?_ ?_ (by decide)|refine Lf.addn ?_ ?_ (by decide)|refine Lf.subn ?_ ?_ (by decide)))
 rw [← hS] at ls lL h0
 rw [← hD] at lD
 rw [← hS,← hD]
 clear hS hD
 have lq:=lf_quot (i1.mono (by decide:8≤16)) lL (Nat.le_refl 17)
 refine kgo Tryz.func35 (by kernel_rfl) fun w00=>?_
 refine kcall 81 [it 2] (integerF (by constructor <;> omega)) (by kernel_rfl) Tryz.call81 ?_
 refine kcall 98 [num w,num w] (timesF (by repeat' (first|exact Lf.mono (by assumption) (by decide)|refine Lf.muln ?_ ?_ (by decide)|refine Lf.addn ?_ ?_ (by decide)|refine Lf.subn ?_ ?_ (by decide))) (by repeat' (first|exact Lf.mono (by assumption) (by decide)|refine Lf.muln ?_ ?_ (by decide)|refine Lf.addn ?_ ?_ (by decide)|refine Lf.subn ?_ ?_ (by decide)))) (by kernel_rfl) Tryz.call98 ?_
 refine kcall 71 [vc u1 u2 u3] (sq) (by kernel_rfl) Tryz.call71 ?_
 refine kcall 99 [num (w*w),num S] (minusF (by repeat' (first|exact Lf.mono (by assumption) (by decide)|refine Lf.muln ?_ ?_ (by decide)|refine Lf.addn ?_ ?_ (by decide)|refine Lf.subn ?_ ?_ (by decide))) (by repeat' (first|exact Lf.mono (by assumption) (by decide)|refine Lf.muln ?_ ?_ (by decide)|refine Lf.addn ?_ ?_ (by decide)|refine Lf.subn ?_ ?_ (by decide)))) (by kernel_rfl) Tryz.call99 ?_
 refine kcall 80 [vc v1 v2 v3,num (w*w-S)] (scaledF (by repeat' (first|exact Lf.mono (by assumption) (by decide)|refine Lf.muln ?_ ?_ (by decide)|refine Lf.addn ?_ ?_ (by decide)|refine Lf.subn ?_ ?_ (by decide))) (by repeat' (first|exact Lf.mono (by assumption) (by decide)|refine Lf.muln ?_ ?_ (by decide)|refine Lf.addn ?_ ?_ (by decide)|refine Lf.subn ?_ ?_ (by decide))) (by repeat' (first|exact Lf.mono (by assumption) (by decide)|refine Lf.muln ?_ ?_ (by decide)|refine Lf.addn ?_ ?_ (by decide)|refine Lf.subn ?_ ?_ (by decide))) (by repeat' (first|exact Lf.mono (by assumption) (by decide)|refine Lf.muln ?_ ?_ (by decide)|refine Lf.addn ?_ ?_ (by decide)|refine Lf.subn ?_ ?_ (by decide)))) (by kernel_rfl) Tryz.call80 ?_
 refine kcall 68 [vc u1 u2 u3,vc v1 v2 v3] (crossF (by repeat' (first|exact Lf.mono (by assumption) (by decide)|refine Lf.muln ?_ ?_ (by decide)|refine Lf.addn ?_ ?_ (by decide)|refine Lf.subn ?_ ?_ (by decide))) (by repeat' (first|exact Lf.mono (by assumption) (by decide)|refine Lf.muln ?_ ?_ (by decide)|refine Lf.addn ?_ ?_ (by decide)|refine Lf.subn ?_ ?_ (by decide))) (by repeat' (first|exact Lf.mono (by assumption) (by decide)|refine Lf.muln ?_ ?_ (by decide)|refine Lf.addn ?_ ?_ (by decide)|refine Lf.subn ?_ ?_ (by decide))) (by repeat' (first|exact Lf.mono (by assumption) (by decide)|refine Lf.muln ?_ ?_ (by decide)|refine Lf.addn ?_ ?_ (by decide)|refine Lf.subn ?_ ?_ (by decide))) (by repeat' (first|exact Lf.mono (by assumption) (by decide)|refine Lf.muln ?_ ?_ (by decide)|refine Lf.addn ?_ ?_ (by decide)|refine Lf.subn ?_ ?_ (by decide))) (by repeat' (first|exact Lf.mono (by assumption) (by decide)|refine Lf.muln ?_ ?_ (by decide)|refine Lf.addn ?_ ?_ (by decide)|refine Lf.subn ?_ ?_ (by decide)))) (by kernel_rfl) Tryz.call68 ?_
 refine kcall 98 [num ((2:Int):Rat),num w] (timesF (by repeat' (first|exact Lf.mono (by assumption) (by decide)|refine Lf.muln ?_ ?_ (by decide)|refine Lf.addn ?_ ?_ (by decide)|refine Lf.subn ?_ ?_ (by decide))) (by repeat' (first|exact Lf.mono (by assumption) (by decide)|refine Lf.muln ?_ ?_ (by decide)|refine Lf.addn ?_ ?_ (by decide)|refine Lf.subn ?_ ?_ (by decide)))) (by kernel_rfl) Tryz.call98 ?_
 refine kcall 80 [vc (u2*v3-u3*v2) (u3*v1-u1*v3) (u1*v2-u2*v1),num (((2:Int):Rat)*w)] (scaledF (by repeat' (first|exact Lf.mono (by assumption) (by decide)|refine Lf.muln ?_ ?_ (by decide)|refine Lf.addn ?_ ?_ (by decide)|refine Lf.subn ?_ ?_ (by decide))) (by repeat' (first|exact Lf.mono (by assumption) (by decide)|refine Lf.muln ?_ ?_ (by decide)|refine Lf.addn ?_ ?_ (by decide)|refine Lf.subn ?_ ?_ (by decide))) (by repeat' (first|exact Lf.mono (by assumption) (by decide)|refine Lf.muln ?_ ?_ (by decide)|refine Lf.addn ?_ ?_ (by decide)|refine Lf.subn ?_ ?_ (by decide))) (by repeat' (first|exact Lf.mono (by assumption) (by decide)|refine Lf.muln ?_ ?_ (by decide)|refine Lf.addn ?_ ?_ (by decide)|refine Lf.subn ?_ ?_ (by decide)))) (by kernel_rfl) Tryz.call80 ?_
 refine kcall 78 [vc ((w*w-S)*v1) ((w*w-S)*v2) ((w*w-S)*v3),vc (((2:Int):Rat)*w*(u2*v3-u3*v2)) (((2:Int):Rat)*w*(u3*v1-u1*v3)) (((2:Int):Rat)*w*(u1*v2-u2*v1))] (vplusF (by repeat' (first|exact Lf.mono (by assumption) (by decide)|refine Lf.muln ?_ ?_ (by decide)|refine Lf.addn ?_ ?_ (by decide)|refine Lf.subn ?_ ?_ (by decide))) (by repeat' (first|exact Lf.mono (by assumption) (by decide)|refine Lf.muln ?_ ?_ (by decide)|refine Lf.addn ?_ ?_ (by decide)|refine Lf.subn ?_ ?_ (by decide))) (by repeat' (first|exact Lf.mono (by assumption) (by decide)|refine Lf.muln ?_ ?_ (by decide)|refine Lf.addn ?_ ?_ (by decide)|refine Lf.subn ?_ ?_ (by decide))) (by repeat' (first|exact Lf.mono (by assumption) (by decide)|refine Lf.muln ?_ ?_ (by decide)|refine Lf.addn ?_ ?_ (by decide)|refine Lf.subn ?_ ?_ (by decide))) (by repeat' (first|exact Lf.mono (by assumption) (by decide)|refine Lf.muln ?_ ?_ (by decide)|refine Lf.addn ?_ ?_ (by decide)|refine Lf.subn ?_ ?_ (by decide))) (by repeat' (first|exact Lf.mono (by assumption) (by decide)|refine Lf.muln ?_ ?_ (by decide)|refine Lf.addn ?_ ?_ (by decide)|refine Lf.subn ?_ ?_ (by decide)))) (by kernel_rfl) Tryz.call78 ?_
 refine kcall 69 [vc u1 u2 u3,vc v1 v2 v3] (dd) (by kernel_rfl) Tryz.call69 ?_
 refine kcall 98 [num ((2:Int):Rat),num D] (timesF (by repeat' (first|exact Lf.mono (by assumption) (by decide)|refine Lf.muln ?_ ?_ (by decide)|refine Lf.addn ?_ ?_ (by decide)|refine Lf.subn ?_ ?_ (by decide))) (by repeat' (first|exact Lf.mono (by assumption) (by decide)|refine Lf.muln ?_ ?_ (by decide)|refine Lf.addn ?_ ?_ (by decide)|refine Lf.subn ?_ ?_ (by decide)))) (by kernel_rfl) Tryz.call98 ?_
 refine kcall 80 [vc u1 u2 u3,num (((2:Int):Rat)*D)] (scaledF (by repeat' (first|exact Lf.mono (by assumption) (by decide)|refine Lf.muln ?_ ?_ (by decide)|refine Lf.addn ?_ ?_ (by decide)|refine Lf.subn ?_ ?_ (by decide))) (by repeat' (first|exact Lf.mono (by assumption) (by decide)|refine Lf.muln ?_ ?_ (by decide)|refine Lf.addn ?_ ?_ (by decide)|refine Lf.subn ?_ ?_ (by decide))) (by repeat' (first|exact Lf.mono (by assumption) (by decide)|refine Lf.muln ?_ ?_ (by decide)|refine Lf.addn ?_ ?_ (by decide)|refine Lf.subn ?_ ?_ (by decide))) (by repeat' (first|exact Lf.mono (by assumption) (by decide)|refine Lf.muln ?_ ?_ (by decide)|refine Lf.addn ?_ ?_ (by decide)|refine Lf.subn ?_ ?_ (by decide)))) (by kernel_rfl) Tryz.call80 ?_
 refine kcall 78 [vc ((w*w-S)*v1+((2:Int):Rat)*w*(u2*v3-u3*v2)) ((w*w-S)*v2+((2:Int):Rat)*w*(u3*v1-u1*v3)) ((w*w-S)*v3+((2:Int):Rat)*w*(u1*v2-u2*v1)),vc (((2:Int):Rat)*D*u1) (((2:Int):Rat)*D*u2) (((2:Int):Rat)*D*u3)] (vplusF (by repeat' (first|exact Lf.mono (by assumption) (by decide)|refine Lf.muln ?_ ?_ (by decide)|refine Lf.addn ?_ ?_ (by decide)|refine Lf.subn ?_ ?_ (by decide))) (by repeat' (first|exact Lf.mono (by assumption) (by decide)|refine Lf.muln ?_ ?_ (by decide)|refine Lf.addn ?_ ?_ (by decide)|refine Lf.subn ?_ ?_ (by decide))) (by repeat' (first|exact Lf.mono (by assumption) (by decide)|refine Lf.muln ?_ ?_ (by decide)|refine Lf.addn ?_ ?_ (by decide)|refine Lf.subn ?_ ?_ (by decide))) (by repeat' (first|exact Lf.mono (by assumption) (by decide)|refine Lf.muln ?_ ?_ (by decide)|refine Lf.addn ?_ ?_ (by decide)|refine Lf.subn ?_ ?_ (by decide))) (by repeat' (first|exact Lf.mono (by assumption) (by decide)|refine Lf.muln ?_ ?_ (by decide)|refine Lf.addn ?_ ?_ (by decide)|refine Lf.subn ?_ ?_ (by decide))) (by repeat' (first|exact Lf.mono (by assumption) (by decide)|refine Lf.muln ?_ ?_ (by decide)|refine Lf.addn ?_ ?_ (by decide)|refine Lf.subn ?_ ?_ (by decide)))) (by kernel_rfl) Tryz.call78 ?_
 refine kcall 81 [it 1] (integerF (by constructor <;> omega)) (by kernel_rfl) Tryz.call81 ?_
 refine kcall 85 [num (w*w),num S] (plusF (by repeat' (first|exact Lf.mono (by assumption) (by decide)|refine Lf.muln ?_ ?_ (by decide)|refine Lf.addn ?_ ?_ (by decide)|refine Lf.subn ?_ ?_ (by decide))) (by repeat' (first|exact Lf.mono (by assumption) (by decide)|refine Lf.muln ?_ ?_ (by decide)|refine Lf.addn ?_ ?_ (by decide)|refine Lf.subn ?_ ?_ (by decide)))) (by kernel_rfl) Tryz.call85 ?_
 refine kcall 70 [num ((1:Int):Rat),num (w*w+S)] (overF (by repeat' (first|exact Lf.mono (by assumption) (by decide)|refine Lf.muln ?_ ?_ (by decide)|refine Lf.addn ?_ ?_ (by decide)|refine Lf.subn ?_ ?_ (by decide))) (by repeat' (first|exact Lf.mono (by assumption) (by decide)|refine Lf.muln ?_ ?_ (by decide)|refine Lf.addn ?_ ?_ (by decide)|refine Lf.subn ?_ ?_ (by decide))) h0) (by kernel_rfl) Tryz.call70 ?_
 refine kcall 80 [vc ((w*w-S)*v1+((2:Int):Rat)*w*(u2*v3-u3*v2)+((2:Int):Rat)*D*u1) ((w*w-S)*v2+((2:Int):Rat)*w*(u3*v1-u1*v3)+((2:Int):Rat)*D*u2) ((w*w-S)*v3+((2:Int):Rat)*w*(u1*v2-u2*v1)+((2:Int):Rat)*D*u3),num (((1:Int):Rat)/(w*w+S))] (scaledF (by repeat' (first|exact Lf.mono (by assumption) (by decide)|refine Lf.muln ?_ ?_ (by decide)|refine Lf.addn ?_ ?_ (by decide)|refine Lf.subn ?_ ?_ (by decide))) (by repeat' (first|exact Lf.mono (by assumption) (by decide)|refine Lf.muln ?_ ?_ (by decide)|refine Lf.addn ?_ ?_ (by decide)|refine Lf.subn ?_ ?_ (by decide))) (by repeat' (first|exact Lf.mono (by assumption) (by decide)|refine Lf.muln ?_ ?_ (by decide)|refine Lf.addn ?_ ?_ (by decide)|refine Lf.subn ?_ ?_ (by decide))) (by repeat' (first|exact Lf.mono (by assumption) (by decide)|refine Lf.muln ?_ ?_ (by decide)|refine Lf.addn ?_ ?_ (by decide)|refine Lf.subn ?_ ?_ (by decide)))) (by kernel_rfl) Tryz.call80 ?_
 exact kret Tryz.func35 (by kernel_rfl)
end
end Go.Proofs.YtbhcckhbbclemaaGreatDoor.Ab
