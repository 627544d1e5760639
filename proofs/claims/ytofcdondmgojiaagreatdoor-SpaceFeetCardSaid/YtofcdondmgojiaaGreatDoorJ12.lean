/- Parts of the proof, joined. -/
import Derived.Test.YtofcdondmgojiaaGreatDoorJ11
import Derived.Laws.RangeAny
import Derived.Test.YtofcdondmgojiaaGreatDoorJ0
set_option linter.unusedSimpArgs false
set_option linter.unusedVariables false
namespace Go.Proofs.YtofcdondmgojiaaGreatDoor.Ab
open Go.RowKit Go.Proofs.YtofcdondmgojiaaGreatDoor Pl
section
variable {o1 o2 o3 x1 x2 x3 y1 y2 y3 z1 z2 z3 m1 m2 m3 p1 p2 p3:Rat}
structure Ax (x1 x2 x3 y1 y2 y3 z1 z2 z3:Rat):Prop where
 x0:(decide (x1=0)&&decide (x2=0)&&decide (x3=0))=false
 y0:(decide (y1=0)&&decide (y2=0)&&decide (y3=0))=false
 z0:(decide (z1=0)&&decide (z2=0)&&decide (z3=0))=false
 xy:dt x1 x2 x3 y1 y2 y3=0
 yz:dt y1 y2 y3 z1 z2 z3=0
 zx:dt z1 z2 z3 x1 x2 x3=0
 s:sgnR (dt x1 x2 x3 (y2*z3-y3*z2) (y3*z1-y1*z3) (y1*z2-y2*z1))=1
theorem checkF (l:Lm 25 x1 x2 x3 y1 y2 y3 z1 z2 z3) (h:Ax x1 x2 x3 y1 y2 y3 z1 z2 z3):Fits Tryz.prog 141 [frm o1 o2 o3 x1 x2 x3 y1 y2 y3 z1 z2 z3] (it 0):=by
 obtain ⟨a1,a2,a3,b1,b2,b3,c1,c2,c3⟩:=l
 have hs:Fits Tryz.prog 90 [num (dt x1 x2 x3 (y2*z3-y3*z2) (y3*z1-y1*z3) (y1*z2-y2*z1))] (it 1):=by
  rw [← h.s]
  exact signF
 refine fX Tryz.func141 (by kernel_rfl) fun w00=>?_
 refine aB 67 [vc x1 x2 x3] (vIsZeroF h.x0) (by kernel_rfl) Tryz.call67 ?_
 refine aB 67 [vc y1 y2 y3] (vIsZeroF h.y0) (by kernel_rfl) Tryz.call67 ?_
 refine aB 67 [vc z1 z2 z3] (vIsZeroF h.z0) (by kernel_rfl) Tryz.call67 ?_
 refine aB 149 [frm o1 o2 o3 x1 x2 x3 y1 y2 y3 z1 z2 z3] (orthogonalF (Lm.mono ⟨a1,a2,a3,b1,b2,b3,c1,c2,c3⟩ (by decide)) h.xy h.yz h.zx) (by kernel_rfl) Tryz.call149 ?_
 refine aB 68 [vc y1 y2 y3,vc z1 z2 z3] (crossF (by repeat' (first|exact Lf.mono (by assumption) (by decide)|refine Lf.muln ?_ ?_ (by decide)|refine Lf.addn ?_ ?_ (by decide)|refine Lf.subn ?_ ?_ (by decide))) (by repeat' (first|exact Lf.mono (by assumption) (by decide)|refine Lf.muln ?_ ?_ (by decide)|refine Lf.addn ?_ ?_ (by decide)|refine Lf.subn ?_ ?_ (by decide))) (by repeat' (first|exact Lf.mono (by assumption) (by decide)|refine Lf.muln ?_ ?_ (by decide)|refine Lf.addn ?_ ?_ (by decide)|refine Lf.subn ?_ ?_ (by decide))) (by repeat' (first|exact Lf.mono (by assumption) (by decide)|refine Lf.muln ?_ ?_ (by decide)|refine Lf.addn ?_ ?_ (by decide)|refine Lf.subn ?_ ?_ (by decide))) (by repeat' (first|exact Lf.mono (by assumption) (by decide)|refine Lf.muln ?_ ?_ (by decide)|refine Lf.addn ?_ ?_ (by decide)|refine Lf.subn ?_ ?_ (by decide))) (by repeat' (first|exact Lf.mono (by assumption) (by decide)|refine Lf.muln ?_ ?_ (by decide)|refine Lf.addn ?_ ?_ (by decide)|refine Lf.subn ?_ ?_ (by decide)))) (by kernel_rfl) Tryz.call68 ?_
 refine aB 35 [vc x1 x2 x3,vc (y2*z3-y3*z2) (y3*z1-y1*z3) (y1*z2-y2*z1)] (dotF (by repeat' (first|exact Lf.mono (by assumption) (by decide)|refine Lf.muln ?_ ?_ (by decide)|refine Lf.addn ?_ ?_ (by decide)|refine Lf.subn ?_ ?_ (by decide))) (by repeat' (first|exact Lf.mono (by assumption) (by decide)|refine Lf.muln ?_ ?_ (by decide)|refine Lf.addn ?_ ?_ (by decide)|refine Lf.subn ?_ ?_ (by decide))) (by repeat' (first|exact Lf.mono (by assumption) (by decide)|refine Lf.muln ?_ ?_ (by decide)|refine Lf.addn ?_ ?_ (by decide)|refine Lf.subn ?_ ?_ (by decide))) (by repeat' (first|exact Lf.mono (by assumption) (by decide)|refine Lf.muln ?_ ?_ (by decide)|refine Lf.addn ?_ ?_ (by decide)|refine Lf.subn ?_ ?_ (by decide))) (by repeat' (first|exact Lf.mono (by assumption) (by decide)|refine Lf.muln ?_ ?_ (by decide)|refine Lf.addn ?_ ?_ (by decide)|refine Lf.subn ?_ ?_ (by decide))) (by repeat' (first|exact Lf.mono (by assumption) (by decide)|refine Lf.muln ?_ ?_ (by decide)|refine Lf.addn ?_ ?_ (by decide)|refine Lf.subn ?_ ?_ (by decide)))) (by kernel_rfl) Tryz.call35 ?_
 refine aB 90 [num (dt x1 x2 x3 (y2*z3-y3*z2) (y3*z1-y1*z3) (y1*z2-y2*z1))] (hs) (by kernel_rfl) Tryz.call90 ?_
 exact aO Tryz.func141 (by kernel_rfl)
abbrev frS (o1 o2 o3 x1 x2 x3 y1 y2 y3 z1 z2 z3:Rat):AV Kn := .fv (.ag [dG (writeB o1),dG (writeB o2),dG (writeB o3),dG (writeB x1),dG (writeB x2),dG (writeB x3),dG (writeB y1),dG (writeB y2),dG (writeB y3),dG (writeB z1),dG (writeB z2),dG (writeB z3)])
abbrev okFS (o1 o2 o3 x1 x2 x3 y1 y2 y3 z1 z2 z3:Rat):AV Kn := .tup [.ag [dG (writeB o1),dG (writeB o2),dG (writeB o3),dG (writeB x1),dG (writeB x2),dG (writeB x3),dG (writeB y1),dG (writeB y2),dG (writeB y3),dG (writeB z1),dG (writeB z2),dG (writeB z3)],.sc z0]
abbrev okFr (o1 o2 o3 x1 x2 x3 y1 y2 y3 z1 z2 z3:Rat):AV Kn := .tup [.ag [nb o1,nb o2,nb o3,nb x1,nb x2,nb x3,nb y1,nb y2,nb y3,nb z1,nb z2,nb z3],.sc z0]
structure Wf (o1 o2 o3 x1 x2 x3 y1 y2 y3 z1 z2 z3:Rat):Prop where
 o:Wr3 o1 o2 o3
 x:Wr3 x1 x2 x3
 y:Wr3 y1 y2 y3
 z:Wr3 z1 z2 z3
theorem w3lf {a b c:Rat} (h:Wr3 a b c):Lv3 5 a b c:=⟨h.1.lf,h.2.1.lf,h.2.2.lf⟩
theorem Wf.lm (h:Wf o1 o2 o3 x1 x2 x3 y1 y2 y3 z1 z2 z3):Lm 5 x1 x2 x3 y1 y2 y3 z1 z2 z3:=⟨h.x.1.lf,h.x.2.1.lf,h.x.2.2.lf,h.y.1.lf,h.y.2.1.lf,h.y.2.2.lf,h.z.1.lf,h.z.2.1.lf,h.z.2.2.lf⟩
theorem writeVec3 {a b c:Rat} (h:Wr3 a b c):FitsW Tryz.prog Gl 41 [vc a b c] (okVS a b c):=writeVecF h (h.1.lf.mono (by decide)) (h.2.1.lf.mono (by decide)) (h.2.2.lf.mono (by decide))
theorem frWriteF (h:Wf o1 o2 o3 x1 x2 x3 y1 y2 y3 z1 z2 z3):FitsW Tryz.prog Gl 87 [frm o1 o2 o3 x1 x2 x3 y1 y2 y3 z1 z2 z3] (okFS o1 o2 o3 x1 x2 x3 y1 y2 y3 z1 z2 z3):=by
 refine cJ Tryz.func87 (by kernel_rfl) fun w00 hG=>?_;have hI:=aU hG
 refine aJ hI 41 [vc o1 o2 o3] (writeVec3 h.o) (by kernel_rfl) Tryz.call41 ?_
 refine aJ hI 41 [vc x1 x2 x3] (writeVec3 h.x) (by kernel_rfl) Tryz.call41 ?_
 refine aJ hI 41 [vc y1 y2 y3] (writeVec3 h.y) (by kernel_rfl) Tryz.call41 ?_
 refine aJ hI 41 [vc z1 z2 z3] (writeVec3 h.z) (by kernel_rfl) Tryz.call41 ?_
 refine aB 34 [.fv (.nsl 4 30 [z0,z0,z0,z0])] (first4F) (by kernel_rfl) Tryz.call34 ?_
 exact aO Tryz.func87 (by kernel_rfl)
theorem frWriteOrthogonalF (h:Wf o1 o2 o3 x1 x2 x3 y1 y2 y3 z1 z2 z3) (hxy:dt x1 x2 x3 y1 y2 y3=0) (hyz:dt y1 y2 y3 z1 z2 z3=0) (hzx:dt z1 z2 z3 x1 x2 x3=0):FitsW Tryz.prog Gl 89 [frm o1 o2 o3 x1 x2 x3 y1 y2 y3 z1 z2 z3] (okFS o1 o2 o3 x1 x2 x3 y1 y2 y3 z1 z2 z3):=by
 refine cJ Tryz.func89 (by kernel_rfl) fun w00 hG=>?_;have hI:=aU hG
 refine aB 149 [frm o1 o2 o3 x1 x2 x3 y1 y2 y3 z1 z2 z3] (orthogonalF (h.lm.mono (by decide)) hxy hyz hzx) (by kernel_rfl) Tryz.call149 ?_
 refine aJ hI 87 [frm o1 o2 o3 x1 x2 x3 y1 y2 y3 z1 z2 z3] (frWriteF h) (by kernel_rfl) Tryz.call87 ?_
 exact aO Tryz.func89 (by kernel_rfl)
structure Fv (o1 o2 o3 x1 x2 x3 y1 y2 y3 z1 z2 z3:Rat):Prop where
 w:Wf o1 o2 o3 x1 x2 x3 y1 y2 y3 z1 z2 z3
 a:Ax x1 x2 x3 y1 y2 y3 z1 z2 z3
 r:FitsW Tryz.prog Gl 74 [frS o1 o2 o3 x1 x2 x3 y1 y2 y3 z1 z2 z3] (okFr o1 o2 o3 x1 x2 x3 y1 y2 y3 z1 z2 z3)
variable {n1 n2 n3:Int} {d e:Rat} {k1 k2 k3:Int}
theorem readFV (h:Fv o1 o2 o3 x1 x2 x3 y1 y2 y3 z1 z2 z3) (k:Wr3 p1 p2 p3):FitsW Tryz.prog Gl 73 [fnv 74,frS o1 o2 o3 x1 x2 x3 y1 y2 y3 z1 z2 z3,fnv 33,vS p1 p2 p3] (.tup [.ag [nb o1,nb o2,nb o3,nb x1,nb x2,nb x3,nb y1,nb y2,nb y3,nb z1,nb z2,nb z3],.ag [nb p1,nb p2,nb p3],.sc z0]):=by
 refine cJ Tryz.func73 (by kernel_rfl) fun w00 hG=>?_;have hI:=aU hG
 refine aJ hI 74 [frS o1 o2 o3 x1 x2 x3 y1 y2 y3 z1 z2 z3] (h.r) (by kernel_rfl) Tryz.call74 ?_
 refine aJ hI 33 [vS p1 p2 p3] (fV k) (by kernel_rfl) Tryz.call33 ?_
 refine aB 34 [.fv (.nsl 2 30 [z0,z0])] (fZ) (by kernel_rfl) Tryz.call34 ?_
 exact aO Tryz.func73 (by kernel_rfl)
theorem readFH (h:Fv o1 o2 o3 x1 x2 x3 y1 y2 y3 z1 z2 z3) (k:Hv n1 n2 n3 d):FitsW Tryz.prog Gl 76 [fnv 74,frS o1 o2 o3 x1 x2 x3 y1 y2 y3 z1 z2 z3,fnv 32,hS n1 n2 n3 d] (.tup [.ag [nb o1,nb o2,nb o3,nb x1,nb x2,nb x3,nb y1,nb y2,nb y3,nb z1,nb z2,nb z3],.ag [nb n1,nb n2,nb n3,nb d],.sc z0]):=by
 refine cJ Tryz.func76 (by kernel_rfl) fun w00 hG=>?_;have hI:=aU hG
 refine aJ hI 74 [frS o1 o2 o3 x1 x2 x3 y1 y2 y3 z1 z2 z3] (h.r) (by kernel_rfl) Tryz.call74 ?_
 refine aJ hI 32 [hS n1 n2 n3 d] (readHalfF (m_sz k.s1) (m_sz k.s2) (m_sz k.s3) k.d k.ck) (by kernel_rfl) Tryz.call32 ?_
 refine aB 34 [.fv (.nsl 2 30 [z0,z0])] (fZ) (by kernel_rfl) Tryz.call34 ?_
 exact aO Tryz.func76 (by kernel_rfl)
theorem apiPlaceF (h:Fv o1 o2 o3 x1 x2 x3 y1 y2 y3 z1 z2 z3) (k:Wr3 p1 p2 p3) (e1:o1+ld p1 p2 p3 x1 y1 z1=m1) (e2:o2+ld p1 p2 p3 x2 y2 z2=m2) (e3:o3+ld p1 p2 p3 x3 y3 z3=m3) (hr:Wr3 m1 m2 m3) :
 FitsW Tryz.prog Gl 24 [frS o1 o2 o3 x1 x2 x3 y1 y2 y3 z1 z2 z3,vS p1 p2 p3] (okVS m1 m2 m3):=by
 have hp:Fits Tryz.prog 75 [frm o1 o2 o3 x1 x2 x3 y1 y2 y3 z1 z2 z3,vc p1 p2 p3] (vc m1 m2 m3):=by
  rw [← e1,← e2,← e3]
  exact placeF (h.w.lm.mono (by decide)) ((w3lf k).mono (by decide)) ((w3lf h.w.o).mono (by decide))
 refine cJ Tryz.func24 (by kernel_rfl) fun w00 hG=>?_;have hI:=aU hG
 refine aJ hI 73 [fnv 74,frS o1 o2 o3 x1 x2 x3 y1 y2 y3 z1 z2 z3,fnv 33,vS p1 p2 p3] (readFV h k) (by kernel_rfl) Tryz.call73 ?_
 refine aB 75 [frm o1 o2 o3 x1 x2 x3 y1 y2 y3 z1 z2 z3,vc p1 p2 p3] (hp) (by kernel_rfl) Tryz.call75 ?_
 refine aJ hI 41 [vc m1 m2 m3] (writeVec3 hr) (by kernel_rfl) Tryz.call41 ?_
 exact aO Tryz.func24 (by kernel_rfl)
theorem lf_quot {p q:Rat} {k l:Nat} (hp:Lf k p) (hq:Lf k q) (hk:k+1≤l):Lf l (p/q):=by
 rw [Rat.div_def]
 exact Lf.mono (hp.mul hq.inv) hk
theorem apiPlaceHalfF (h:Fv o1 o2 o3 x1 x2 x3 y1 y2 y3 z1 z2 z3) (k:Hv n1 n2 n3 d) (h0:Sq0 x1 x2 x3 y1 y2 y3 z1 z2 z3) {q1 q2 q3:Rat}
 (e1:ld (n1/dt x1 x2 x3 x1 x2 x3) (n2/dt y1 y2 y3 y1 y2 y3) (n3/dt z1 z2 z3 z1 z2 z3) x1 y1 z1=q1) (e2:ld (n1/dt x1 x2 x3 x1 x2 x3) (n2/dt y1 y2 y3 y1 y2 y3) (n3/dt z1 z2 z3 z1 z2 z3) x2 y2 z2=q2) (e3:ld (n1/dt x1 x2 x3 x1 x2 x3) (n2/dt y1 y2 y3 y1 y2 y3) (n3/dt z1 z2 z3 z1 z2 z3) x3 y3 z3=q3)
 (hm:Form q1 q2 q3 (d+dt q1 q2 q3 o1 o2 o3) k1 k2 k3 e):FitsW Tryz.prog Gl 26 [frS o1 o2 o3 x1 x2 x3 y1 y2 y3 z1 z2 z3,hS n1 n2 n3 d] (okH k1 k2 k3 e):=by
 obtain ⟨a1,a2,a3,b1,b2,b3,c1,c2,c3⟩:=h.w.lm
 obtain ⟨g1,g2,g3⟩:=w3lf h.w.o
 have ld':=k.d.lf
 have t1:=cH k.s1 (k:=10)
 have t2:=cH k.s2 (k:=10)
 have t3:=cH k.s3 (k:=10)
 have s1:Lf 10 (dt x1 x2 x3 x1 x2 x3):=by repeat' (first|exact Lf.mono (by assumption) (by decide)|refine Lf.muln ?_ ?_ (by decide)|refine Lf.addn ?_ ?_ (by decide)|refine Lf.subn ?_ ?_ (by decide))
 have s2:Lf 10 (dt y1 y2 y3 y1 y2 y3):=by repeat' (first|exact Lf.mono (by assumption) (by decide)|refine Lf.muln ?_ ?_ (by decide)|refine Lf.addn ?_ ?_ (by decide)|refine Lf.subn ?_ ?_ (by decide))
 have s3:Lf 10 (dt z1 z2 z3 z1 z2 z3):=by repeat' (first|exact Lf.mono (by assumption) (by decide)|refine Lf.muln ?_ ?_ (by decide)|refine Lf.addn ?_ ?_ (by decide)|refine Lf.subn ?_ ?_ (by decide))
 have r1:=lf_quot t1 s1 (Nat.le_refl 11)
 have r2:=lf_quot t2 s2 (Nat.le_refl 11)
 have r3:=lf_quot t3 s3 (Nat.le_refl 11)
 have j:Fits Tryz.prog 78 [fnv 40,vc n1 n2 n3,vc (dt x1 x2 x3 x1 x2 x3) (dt y1 y2 y3 y1 y2 y3) (dt z1 z2 z3 z1 z2 z3)] (vc (n1/dt x1 x2 x3 x1 x2 x3) (n2/dt y1 y2 y3 y1 y2 y3) (n3/dt z1 z2 z3 z1 z2 z3)) :=
  joinF Tryz.call40 (overF (t1.mono (by decide)) (s1.mono (by decide)) h0.x) (overF (t2.mono (by decide)) (s2.mono (by decide)) h0.y) (overF (t3.mono (by decide)) (s3.mono (by decide)) h0.z)
 have hl:Fits Tryz.prog 77 [frm o1 o2 o3 x1 x2 x3 y1 y2 y3 z1 z2 z3,vc (n1/dt x1 x2 x3 x1 x2 x3) (n2/dt y1 y2 y3 y1 y2 y3) (n3/dt z1 z2 z3 z1 z2 z3)] (vc q1 q2 q3):=by
  rw [← e1,← e2,← e3]
  exact leadF (h.w.lm.mono (by decide)) ⟨r1.mono (by decide),r2.mono (by decide),r3.mono (by decide)⟩
 have l1:=hm.l1
 have l2:=hm.l2
 have l3:=hm.l3
 refine cJ Tryz.func26 (by kernel_rfl) fun w00 hG=>?_;have hI:=aU hG
 refine aJ hI 76 [fnv 74,frS o1 o2 o3 x1 x2 x3 y1 y2 y3 z1 z2 z3,fnv 32,hS n1 n2 n3 d] (readFH h k) (by kernel_rfl) Tryz.call76 ?_
 refine aB 79 [frm o1 o2 o3 x1 x2 x3 y1 y2 y3 z1 z2 z3] (squaresF (h.w.lm.mono (by decide))) (by kernel_rfl) Tryz.call79 ?_
 refine aB 78 [fnv 40,vc n1 n2 n3,vc (dt x1 x2 x3 x1 x2 x3) (dt y1 y2 y3 y1 y2 y3) (dt z1 z2 z3 z1 z2 z3)] (j) (by kernel_rfl) Tryz.call78 ?_
 refine aB 77 [frm o1 o2 o3 x1 x2 x3 y1 y2 y3 z1 z2 z3,vc (n1/dt x1 x2 x3 x1 x2 x3) (n2/dt y1 y2 y3 y1 y2 y3) (n3/dt z1 z2 z3 z1 z2 z3)] (hl) (by kernel_rfl) Tryz.call77 ?_
 refine aB 35 [vc q1 q2 q3,vc o1 o2 o3] (dotF (by repeat' (first|exact Lf.mono (by assumption) (by decide)|refine Lf.muln ?_ ?_ (by decide)|refine Lf.addn ?_ ?_ (by decide)|refine Lf.subn ?_ ?_ (by decide))) (by repeat' (first|exact Lf.mono (by assumption) (by decide)|refine Lf.muln ?_ ?_ (by decide)|refine Lf.addn ?_ ?_ (by decide)|refine Lf.subn ?_ ?_ (by decide))) (by repeat' (first|exact Lf.mono (by assumption) (by decide)|refine Lf.muln ?_ ?_ (by decide)|refine Lf.addn ?_ ?_ (by decide)|refine Lf.subn ?_ ?_ (by decide))) (by repeat' (first|exact Lf.mono (by assumption) (by decide)|refine Lf.muln ?_ ?_ (by decide)|refine Lf.addn ?_ ?_ (by decide)|refine Lf.subn ?_ ?_ (by decide))) (by repeat' (first|exact Lf.mono (by assumption) (by decide)|refine Lf.muln ?_ ?_ (by decide)|refine Lf.addn ?_ ?_ (by decide)|refine Lf.subn ?_ ?_ (by decide))) (by repeat' (first|exact Lf.mono (by assumption) (by decide)|refine Lf.muln ?_ ?_ (by decide)|refine Lf.addn ?_ ?_ (by decide)|refine Lf.subn ?_ ?_ (by decide)))) (by kernel_rfl) Tryz.call35 ?_
 refine aB 80 [num d,num (dt q1 q2 q3 o1 o2 o3)] (plusF (by repeat' (first|exact Lf.mono (by assumption) (by decide)|refine Lf.muln ?_ ?_ (by decide)|refine Lf.addn ?_ ?_ (by decide)|refine Lf.subn ?_ ?_ (by decide))) (by repeat' (first|exact Lf.mono (by assumption) (by decide)|refine Lf.muln ?_ ?_ (by decide)|refine Lf.addn ?_ ?_ (by decide)|refine Lf.subn ?_ ?_ (by decide)))) (by kernel_rfl) Tryz.call80 ?_
 refine aJ hI 72 [hf q1 q2 q3 (d+dt q1 q2 q3 o1 o2 o3)] (hWriteF hm) (by kernel_rfl) Tryz.call72 ?_
 exact aO Tryz.func26 (by kernel_rfl)
end
section
variable {w u1 u2 u3 v1 v2 v3:Rat}
abbrev tc (w s D c v u:Rat):Rat:=((1:Int):Rat)/(w*w+s)*((w*w-s)*v+((2:Int):Rat)*w*c+((2:Int):Rat)*D*u)
theorem turnedF (hw:Lf 8 w) (h1:Lf 8 u1) (h2:Lf 8 u2) (h3:Lf 8 u3) (k1:Lf 8 v1) (k2:Lf 8 v2) (k3:Lf 8 v3) (h0:w*w+dt u1 u2 u3 u1 u2 u3≠0) :
 Fits Tryz.prog 83 [num w,vc u1 u2 u3,vc v1 v2 v3] (vc (tc w (dt u1 u2 u3 u1 u2 u3) (dt u1 u2 u3 v1 v2 v3) (u2*v3-u3*v2) v1 u1) (tc w (dt u1 u2 u3 u1 u2 u3) (dt u1 u2 u3 v1 v2 v3) (u3*v1-u1*v3) v2 u2) (tc w (dt u1 u2 u3 u1 u2 u3) (dt u1 u2 u3 v1 v2 v3) (u1*v2-u2*v1) v3 u3)):=by
 have i2:Lf 8 ((2:Int):Rat):=Lf.int (Lv.one _ (by rw [aH];decide))
 have i1:Lf 8 ((1:Int):Rat):=Lf.int (Lv.one _ (by rw [aH];decide))
 have ls:Lf 14 (dt u1 u2 u3 u1 u2 u3):=by repeat' (first|exact Lf.mono (by assumption) (by decide)|refine Lf.muln ?_ ?_ (by decide)|refine Lf.addn ?_ ?_ (by decide)|refine Lf.subn ?_ ?_ (by decide))
 have lD:Lf 14 (dt u1 u2 u3 v1 v2 v3):=by repeat' (first|exact Lf.mono (by assumption) (by decide)|refine Lf.muln ?_ ?_ (by decide)|refine Lf.addn ?_ ?_ (by decide)|refine Lf.subn ?_ ?_ (by decide))
 have lL:Lf 16 (w*w+dt u1 u2 u3 u1 u2 u3):=by repeat' (first|exact Lf.mono (by assumption) (by decide)|refine Lf.muln ?_ ?_ (by decide)|refine Lf.addn ?_ ?_ (by decide)|refine Lf.subn ?_ ?_ (by decide))
 obtain ⟨S,hS⟩:∃ S,S=dt u1 u2 u3 u1 u2 u3:=⟨_,rfl⟩
 obtain ⟨D,hD⟩:∃ D,D=dt u1 u2 u3 v1 v2 v3:=⟨_,rfl⟩
 have sq:Fits Tryz.prog 44 [vc u1 u2 u3] (num S):=by rw [hS];exact squareF (by repeat' (first|exact Lf.mono (by assumption) (by decide)|refine Lf.muln ?_ ?_ (by decide)|refine Lf.addn ?_ ?_ (by decide)|refine Lf.subn ?_ ?_ (by decide))) (by repeat' (first|exact Lf.mono (by assumption) (by decide)|refine Lf.muln ?_ ?_ (by decide)|refine Lf.addn ?_ ?_ (by decide)|refine Lf.subn ?_ ?_ (by decide))) (by repeat' (first|exact Lf.mono (by assumption) (by decide)|refine Lf.muln ?_ ?_ (by decide)|refine Lf.addn ?_ ?_ (by decide)|refine Lf.subn ?_ ?_ (by decide)))
 have dd:Fits Tryz.prog 35 [vc u1 u2 u3,vc v1 v2 v3] (num D):=by rw [hD];exact dotF (by repeat' (first|exact Lf.mono (by assumption) (by decide)|refine Lf.muln ?_ ?_ (by decide)|refine Lf.addn ?_ ?_ (by decide)|refine Lf.subn ?_ ?_ (by decide))) (by repeat' (first|exact Lf.mono (by assumption) (by decide)|refine Lf.muln ?_ ?_ (by decide)|refine Lf.addn ?_ ?_ (by decide)|refine Lf.subn ?_ ?_ (by decide))) (by repeat' (first|exact Lf.mono (by assumption) (by decide)|refine Lf.muln ?_ ?_ (by decide)|refine Lf.addn ?_ ?_ (by decide)|refine Lf.subn ?_ ?_ (by decide))) (by repeat' (first|exact Lf.mono (by assumption) (by decide)|refine Lf.muln ?_ ?_ (by decide)|refine Lf.addn ?_ ?_ (by decide)|refine Lf.subn ?_ ?_ (by decide))) (by repeat' (first|exact Lf.mono (by assumption) (by decide)|refine Lf.muln ?_ ?_ (by decide)|refine Lf.addn ?_ ?_ (by decide)|refine Lf.subn ?_ ?_ (by decide))) (by repeat' (first|exact Lf.mono (by assumption) (by decide)|refine Lf.muln ?_ ?_ (by decide)|refine Lf.addn ?_ ?_ (by decide)|refine Lf.subn ?_ ?_ (by decide)))
 rw [← hS] at ls lL h0
 rw [← hD] at lD
 rw [← hS,← hD]
 clear hS hD
 have lq:=lf_quot (i1.mono (by decide:8≤16)) lL (Nat.le_refl 17)
 refine fX Tryz.func83 (by kernel_rfl) fun w00=>?_
 refine aB 46 [it 2] (integerF (by constructor <;> omega)) (by kernel_rfl) Tryz.call46 ?_
 refine aB 94 [num w,num w] (fS (by repeat' (first|exact Lf.mono (by assumption) (by decide)|refine Lf.muln ?_ ?_ (by decide)|refine Lf.addn ?_ ?_ (by decide)|refine Lf.subn ?_ ?_ (by decide))) (by repeat' (first|exact Lf.mono (by assumption) (by decide)|refine Lf.muln ?_ ?_ (by decide)|refine Lf.addn ?_ ?_ (by decide)|refine Lf.subn ?_ ?_ (by decide)))) (by kernel_rfl) Tryz.call94 ?_
 refine aB 44 [vc u1 u2 u3] (sq) (by kernel_rfl) Tryz.call44 ?_
 refine aB 96 [num (w*w),num S] (minusF (by repeat' (first|exact Lf.mono (by assumption) (by decide)|refine Lf.muln ?_ ?_ (by decide)|refine Lf.addn ?_ ?_ (by decide)|refine Lf.subn ?_ ?_ (by decide))) (by repeat' (first|exact Lf.mono (by assumption) (by decide)|refine Lf.muln ?_ ?_ (by decide)|refine Lf.addn ?_ ?_ (by decide)|refine Lf.subn ?_ ?_ (by decide)))) (by kernel_rfl) Tryz.call96 ?_
 refine aB 38 [vc v1 v2 v3,num (w*w-S)] (scaledF (by repeat' (first|exact Lf.mono (by assumption) (by decide)|refine Lf.muln ?_ ?_ (by decide)|refine Lf.addn ?_ ?_ (by decide)|refine Lf.subn ?_ ?_ (by decide))) (by repeat' (first|exact Lf.mono (by assumption) (by decide)|refine Lf.muln ?_ ?_ (by decide)|refine Lf.addn ?_ ?_ (by decide)|refine Lf.subn ?_ ?_ (by decide))) (by repeat' (first|exact Lf.mono (by assumption) (by decide)|refine Lf.muln ?_ ?_ (by decide)|refine Lf.addn ?_ ?_ (by decide)|refine Lf.subn ?_ ?_ (by decide))) (by repeat' (first|exact Lf.mono (by assumption) (by decide)|refine Lf.muln ?_ ?_ (by decide)|refine Lf.addn ?_ ?_ (by decide)|refine Lf.subn ?_ ?_ (by decide)))) (by kernel_rfl) Tryz.call38 ?_
 refine aB 68 [vc u1 u2 u3,vc v1 v2 v3] (crossF (by repeat' (first|exact Lf.mono (by assumption) (by decide)|refine Lf.muln ?_ ?_ (by decide)|refine Lf.addn ?_ ?_ (by decide)|refine Lf.subn ?_ ?_ (by decide))) (by repeat' (first|exact Lf.mono (by assumption) (by decide)|refine Lf.muln ?_ ?_ (by decide)|refine Lf.addn ?_ ?_ (by decide)|refine Lf.subn ?_ ?_ (by decide))) (by repeat' (first|exact Lf.mono (by assumption) (by decide)|refine Lf.muln ?_ ?_ (by decide)|refine Lf.addn ?_ ?_ (by decide)|refine Lf.subn ?_ ?_ (by decide))) (by repeat' (first|exact Lf.mono (by assumption) (by decide)|refine Lf.muln ?_ ?_ (by decide)|refine Lf.addn ?_ ?_ (by decide)|refine Lf.subn ?_ ?_ (by decide))) (by repeat' (first|exact Lf.mono (by assumption) (by decide)|refine Lf.muln ?_ ?_ (by decide)|refine Lf.addn ?_ ?_ (by decide)|refine Lf.subn ?_ ?_ (by decide))) (by repeat' (first|exact Lf.mono (by assumption) (by decide)|refine Lf.muln ?_ ?_ (by decide)|refine Lf.addn ?_ ?_ (by decide)|refine Lf.subn ?_ ?_ (by decide)))) (by kernel_rfl) Tryz.call68 ?_
 refine aB 94 [num ((2:Int):Rat),num w] (fS (by repeat' (first|exact Lf.mono (by assumption) (by decide)|refine Lf.muln ?_ ?_ (by decide)|refine Lf.addn ?_ ?_ (by decide)|refine Lf.subn ?_ ?_ (by decide))) (by repeat' (first|exact Lf.mono (by assumption) (by decide)|refine Lf.muln ?_ ?_ (by decide)|refine Lf.addn ?_ ?_ (by decide)|refine Lf.subn ?_ ?_ (by decide)))) (by kernel_rfl) Tryz.call94 ?_
 refine aB 38 [vc (u2*v3-u3*v2) (u3*v1-u1*v3) (u1*v2-u2*v1),num (((2:Int):Rat)*w)] (scaledF (by repeat' (first|exact Lf.mono (by assumption) (by decide)|refine Lf.muln ?_ ?_ (by decide)|refine Lf.addn ?_ ?_ (by decide)|refine Lf.subn ?_ ?_ (by decide))) (by repeat' (first|exact Lf.mono (by assumption) (by decide)|refine Lf.muln ?_ ?_ (by decide)|refine Lf.addn ?_ ?_ (by decide)|refine Lf.subn ?_ ?_ (by decide))) (by repeat' (first|exact Lf.mono (by assumption) (by decide)|refine Lf.muln ?_ ?_ (by decide)|refine Lf.addn ?_ ?_ (by decide)|refine Lf.subn ?_ ?_ (by decide))) (by repeat' (first|exact Lf.mono (by assumption) (by decide)|refine Lf.muln ?_ ?_ (by decide)|refine Lf.addn ?_ ?_ (by decide)|refine Lf.subn ?_ ?_ (by decide)))) (by kernel_rfl) Tryz.call38 ?_
 refine aB 42 [vc ((w*w-S)*v1) ((w*w-S)*v2) ((w*w-S)*v3),vc (((2:Int):Rat)*w*(u2*v3-u3*v2)) (((2:Int):Rat)*w*(u3*v1-u1*v3)) (((2:Int):Rat)*w*(u1*v2-u2*v1))] (vplusF (by repeat' (first|exact Lf.mono (by assumption) (by decide)|refine Lf.muln ?_ ?_ (by decide)|refine Lf.addn ?_ ?_ (by decide)|refine Lf.subn ?_ ?_ (by decide))) (by repeat' (first|exact Lf.mono (by assumption) (by decide)|refine Lf.muln ?_ ?_ (by decide)|refine Lf.addn ?_ ?_ (by decide)|refine Lf.subn ?_ ?_ (by decide))) (by repeat' (first|exact Lf.mono (by assumption) (by decide)|refine Lf.muln ?_ ?_ (by decide)|refine Lf.addn ?_ ?_ (by decide)|refine Lf.subn ?_ ?_ (by decide))) (by repeat' (first|exact Lf.mono (by assumption) (by decide)|refine Lf.muln ?_ ?_ (by decide)|refine Lf.addn ?_ ?_ (by decide)|refine Lf.subn ?_ ?_ (by decide))) (by repeat' (first|exact Lf.mono (by assumption) (by decide)|refine Lf.muln ?_ ?_ (by decide)|refine Lf.addn ?_ ?_ (by decide)|refine Lf.subn ?_ ?_ (by decide))) (by repeat' (first|exact Lf.mono (by assumption) (by decide)|refine Lf.muln ?_ ?_ (by decide)|refine Lf.addn ?_ ?_ (by decide)|refine Lf.subn ?_ ?_ (by decide)))) (by kernel_rfl) Tryz.call42 ?_
 refine aB 35 [vc u1 u2 u3,vc v1 v2 v3] (dd) (by kernel_rfl) Tryz.call35 ?_
 refine aB 94 [num ((2:Int):Rat),num D] (fS (by repeat' (first|exact Lf.mono (by assumption) (by decide)|refine Lf.muln ?_ ?_ (by decide)|refine Lf.addn ?_ ?_ (by decide)|refine Lf.subn ?_ ?_ (by decide))) (by repeat' (first|exact Lf.mono (by assumption) (by decide)|refine Lf.muln ?_ ?_ (by decide)|refine Lf.addn ?_ ?_ (by decide)|refine Lf.subn ?_ ?_ (by decide)))) (by kernel_rfl) Tryz.call94 ?_
 refine aB 38 [vc u1 u2 u3,num (((2:Int):Rat)*D)] (scaledF (by repeat' (first|exact Lf.mono (by assumption) (by decide)|refine Lf.muln ?_ ?_ (by decide)|refine Lf.addn ?_ ?_ (by decide)|refine Lf.subn ?_ ?_ (by decide))) (by repeat' (first|exact Lf.mono (by assumption) (by decide)|refine Lf.muln ?_ ?_ (by decide)|refine Lf.addn ?_ ?_ (by decide)|refine Lf.subn ?_ ?_ (by decide))) (by repeat' (first|exact Lf.mono (by assumption) (by decide)|refine Lf.muln ?_ ?_ (by decide)|refine Lf.addn ?_ ?_ (by decide)|refine Lf.subn ?_ ?_ (by decide))) (by repeat' (first|exact Lf.mono (by assumption) (by decide)|refine Lf.muln ?_ ?_ (by decide)|refine Lf.addn ?_ ?_ (by decide)|refine Lf.subn ?_ ?_ (by decide)))) (by kernel_rfl) Tryz.call38 ?_
 refine aB 42 [vc ((w*w-S)*v1+((2:Int):Rat)*w*(u2*v3-u3*v2)) ((w*w-S)*v2+((2:Int):Rat)*w*(u3*v1-u1*v3)) ((w*w-S)*v3+((2:Int):Rat)*w*(u1*v2-u2*v1)),vc (((2:Int):Rat)*D*u1) (((2:Int):Rat)*D*u2) (((2:Int):Rat)*D*u3)] (vplusF (by repeat' (first|exact Lf.mono (by assumption) (by decide)|refine Lf.muln ?_ ?_ (by decide)|refine Lf.addn ?_ ?_ (by decide)|refine Lf.subn ?_ ?_ (by decide))) (by repeat' (first|exact Lf.mono (by assumption) (by decide)|refine Lf.muln ?_ ?_ (by decide)|refine Lf.addn ?_ ?_ (by decide)|refine Lf.subn ?_ ?_ (by decide))) (by repeat' (first|exact Lf.mono (by assumption) (by decide)|refine Lf.muln ?_ ?_ (by decide)|refine Lf.addn ?_ ?_ (by decide)|refine Lf.subn ?_ ?_ (by decide))) (by repeat' (first|exact Lf.mono (by assumption) (by decide)|refine Lf.muln ?_ ?_ (by decide)|refine Lf.addn ?_ ?_ (by decide)|refine Lf.subn ?_ ?_ (by decide))) (by repeat' (first|exact Lf.mono (by assumption) (by decide)|refine Lf.muln ?_ ?_ (by decide)|refine Lf.addn ?_ ?_ (by decide)|refine Lf.subn ?_ ?_ (by decide))) (by repeat' (first|exact Lf.mono (by assumption) (by decide)|refine Lf.muln ?_ ?_ (by decide)|refine Lf.addn ?_ ?_ (by decide)|refine Lf.subn ?_ ?_ (by decide)))) (by kernel_rfl) Tryz.call42 ?_
 refine aB 46 [it 1] (integerF (by constructor <;> omega)) (by kernel_rfl) Tryz.call46 ?_
 refine aB 80 [num (w*w),num S] (plusF (by repeat' (first|exact Lf.mono (by assumption) (by decide)|refine Lf.muln ?_ ?_ (by decide)|refine Lf.addn ?_ ?_ (by decide)|refine Lf.subn ?_ ?_ (by decide))) (by repeat' (first|exact Lf.mono (by assumption) (by decide)|refine Lf.muln ?_ ?_ (by decide)|refine Lf.addn ?_ ?_ (by decide)|refine Lf.subn ?_ ?_ (by decide)))) (by kernel_rfl) Tryz.call80 ?_
 refine aB 40 [num ((1:Int):Rat),num (w*w+S)] (overF (by repeat' (first|exact Lf.mono (by assumption) (by decide)|refine Lf.muln ?_ ?_ (by decide)|refine Lf.addn ?_ ?_ (by decide)|refine Lf.subn ?_ ?_ (by decide))) (by repeat' (first|exact Lf.mono (by assumption) (by decide)|refine Lf.muln ?_ ?_ (by decide)|refine Lf.addn ?_ ?_ (by decide)|refine Lf.subn ?_ ?_ (by decide))) h0) (by kernel_rfl) Tryz.call40 ?_
 refine aB 38 [vc ((w*w-S)*v1+((2:Int):Rat)*w*(u2*v3-u3*v2)+((2:Int):Rat)*D*u1) ((w*w-S)*v2+((2:Int):Rat)*w*(u3*v1-u1*v3)+((2:Int):Rat)*D*u2) ((w*w-S)*v3+((2:Int):Rat)*w*(u1*v2-u2*v1)+((2:Int):Rat)*D*u3),num (((1:Int):Rat)/(w*w+S))] (scaledF (by repeat' (first|exact Lf.mono (by assumption) (by decide)|refine Lf.muln ?_ ?_ (by decide)|refine Lf.addn ?_ ?_ (by decide)|refine Lf.subn ?_ ?_ (by decide))) (by repeat' (first|exact Lf.mono (by assumption) (by decide)|refine Lf.muln ?_ ?_ (by decide)|refine Lf.addn ?_ ?_ (by decide)|refine Lf.subn ?_ ?_ (by decide))) (by repeat' (first|exact Lf.mono (by assumption) (by decide)|refine Lf.muln ?_ ?_ (by decide)|refine Lf.addn ?_ ?_ (by decide)|refine Lf.subn ?_ ?_ (by decide))) (by repeat' (first|exact Lf.mono (by assumption) (by decide)|refine Lf.muln ?_ ?_ (by decide)|refine Lf.addn ?_ ?_ (by decide)|refine Lf.subn ?_ ?_ (by decide)))) (by kernel_rfl) Tryz.call38 ?_
 exact aO Tryz.func83 (by kernel_rfl)
end
variable {Kc:Value→Bool}
def Seg.ren (ks:List Nat):Seg Kc→Seg Kc
 | .ptr k off => .ptr (ks.getD k 0) off
 | .slc k off n c => .slc (ks.getD k 0) off n c
 | s=>s
def FV.ren (ks:List Nat):FV Kc→FV Kc
 | .sc s => .sc (s.ren ks)
 | .ag l => .ag (l.map (Seg.ren ks))
 | .nsl n T l => .nsl n T (l.map (Seg.ren ks))
 | .clo F a b => .clo F (a.map fun c=>(c.1,c.2.map (Seg.ren ks))) (b.map fun c=>(c.1,c.2.map (Seg.ren ks)))
 | .un => .un
def AV.ren (ks:List Nat):AV Kc→AV Kc
 | .fv f => .fv (f.ren ks)
 | .tup l => .tup (l.map (FV.ren ks))
def Seg.inR (n:Nat):Seg Kc→Bool
 | .ptr k _=>decide (k<n)
 | .slc k _ _ _=>decide (k<n)
 | _=>true
def FV.inR (n:Nat):FV Kc→Bool
 | .sc s=>s.inR n
 | .ag l | .nsl _ _ l=>l.all (Seg.inR n)
 | .clo _ a b=>(a.all fun c=>c.2.all (Seg.inR n))&&(b.all fun c=>c.2.all (Seg.inR n))
 | .un=>true
def AV.inR (n:Nat):AV Kc→Bool
 | .fv f=>f.inR n
 | .tup l=>l.all (FV.inR n)
abbrev sub (β ks:List Nat):List Nat:=ks.map fun k=>β.getD k 0
theorem sub_at {β ks:List Nat} {k g:Nat} (hk:k<ks.length) (h:β[ks.getD k 0]?=some g):(sub β ks)[k]?=some g:=by
 rw [List.getElem?_map,List.getElem?_eq_getElem hk]
 rw [List.getD_eq_getElem?_getD,List.getElem?_eq_getElem hk] at h
 simp only [Option.getD_some] at h
 simp [h]
theorem Seg.ren_holds {β ks:List Nat} {s:Seg Kc} {cs:List Value} {w:World} (hr:s.inR ks.length=true) (h:(s.ren ks).holds β cs w):s.holds (sub β ks) cs w:=by
 cases s with
 | lit v=>exact h
 | sp s=>exact h
 | ptr k off=>obtain ⟨g,h1,e⟩:=h;exact ⟨g,sub_at (by simpa [Seg.inR] using hr) h1,e⟩
 | slc k off n c=>obtain ⟨g,h1,e⟩:=h;exact ⟨g,sub_at (by simpa [Seg.inR] using hr) h1,e⟩
theorem holdsL.ren {β ks:List Nat} {w:World}:∀ {l:List (Seg Kc)} {cs:List Value},l.all (Seg.inR ks.length)=true→holdsL β (l.map (Seg.ren ks)) cs w→holdsL (sub β ks) l cs w
 | [],_,_,h=>h
 | s::l,_,hn,⟨a,b,e,h1,h2⟩=>by
   rw [List.all_cons,Bool.and_eq_true] at hn
   exact ⟨a,b,e,Seg.ren_holds hn.1 h1,holdsL.ren hn.2 h2⟩
theorem holdsC.ren {β ks:List Nat} {w:World}:∀ {l:List (Bool×List (Seg Kc))} {vs:List Value},(l.all fun c=>c.2.all (Seg.inR ks.length))=true→holdsC β (l.map fun c=>(c.1,c.2.map (Seg.ren ks))) vs w→holdsC (sub β ks) l vs w
 | [],_,_,h=>h
 | (b,m)::l,_,hn,⟨v,r,e,h1,h2⟩=>by
   rw [List.all_cons,Bool.and_eq_true] at hn
   refine ⟨v,r,e,?_,holdsC.ren hn.2 h2⟩
   cases b with
   | true=>obtain ⟨cs,e,h1⟩:=h1;exact ⟨cs,e,h1.ren hn.1⟩
   | false=>exact holdsL.ren hn.1 h1
theorem FV.ren_holds {β ks:List Nat} {f:FV Kc} {v:Value} {w:World} (hr:f.inR ks.length=true) (h:(f.ren ks).holds β v w):f.holds (sub β ks) v w:=by
 cases f with
 | sc s=>exact Seg.ren_holds hr h
 | ag l=>obtain ⟨cs,e,hl⟩:=h;exact ⟨cs,e,hl.ren hr⟩
 | nsl n T l=>obtain ⟨g,cs,e,hg,hl⟩:=h;exact ⟨g,cs,e,hg,hl.ren hr⟩
 | clo F a b =>
   rw [FV.inR,Bool.and_eq_true] at hr
   obtain ⟨xs,ys,e,h1,h2⟩:=h
   exact ⟨xs,ys,e,h1.ren hr.1,h2.ren hr.2⟩
 | un=>trivial
theorem holdsF.ren {β ks:List Nat} {w:World}:∀ {l:List (FV Kc)} {vs:List Value},l.all (FV.inR ks.length)=true→holdsF β (l.map (FV.ren ks)) vs w→holdsF (sub β ks) l vs w
 | [],_,_,h=>h
 | f::l,_,hn,⟨v,r,e,h1,h2⟩=>by
   rw [List.all_cons,Bool.and_eq_true] at hn
   exact ⟨v,r,e,FV.ren_holds hn.1 h1,holdsF.ren hn.2 h2⟩
theorem AV.ren_holds {β ks:List Nat} {x:AV Kc} {v:Value} {w:World} (hr:x.inR ks.length=true) (h:(x.ren ks).holds β v w):x.holds (sub β ks) v w:=by
 cases x with
 | fv f=>exact FV.ren_holds hr h
 | tup l=>obtain ⟨vs,e,h⟩:=h;exact ⟨vs,e,h.ren hr⟩
theorem holdsA.ren {β ks:List Nat} {w:World}:∀ {l:List (AV Kc)} {vs:List Value},l.all (AV.inR ks.length)=true→holdsA β (l.map (AV.ren ks)) vs w→holdsA (sub β ks) l vs w
 | [],_,_,h=>h
 | x::l,_,hn,⟨v,r,e,h1,h2⟩=>by
   rw [List.all_cons,Bool.and_eq_true] at hn
   exact ⟨v,r,e,AV.ren_holds hn.1 h1,holdsA.ren hn.2 h2⟩
def FitsM (P:Program) (f:FuncId) (bl:List (TypeId×List (Seg Kc))) (args:List (AV Kc)) (x:AV Kc):Prop :=
 ∀ β w vs,β.length=bl.length→β.Nodup→Mem β (bl.map some) w→holdsA β args vs w→Calls P f vs.toArray w fun e w' => ∃ v,e = .returned v∧Below w.heap.size w w'∧x.holds [] v w'
section
variable {P:Program} {f:FuncId} {w00:World} {Out:Value→World→Prop}
theorem fitsM_of {fn:Func} {bl:List (TypeId×List (Seg Kc))} {args:List (AV Kc)} {x:AV Kc} (hfn:P.funcs[f]?=some fn) (hb:fn.body.isSome=true) (hn:(args.length≤fn.ntmps:Bool)=true)
 (h:∀ w00,Ok P f w00 (fun v w=>x.holds [] v w) (.items [.code (fn.body.getD .skip)] { slots:=args++List.replicate (fn.ntmps-args.length) .un,blocks:=bl,ro:=bl.length })):FitsM P f bl args x:=by
 intro β w vs hl hnd hM hv
 have hb2:fn.body=some (fn.body.getD .skip):=by
  cases hb2:fn.body with
  | none=>rw [hb2] at hb;cases hb
  | some c=>rfl
 refine (fA (w00:=w) (Out:=fun v w=>x.holds [] v w) hfn hb2 args bl β vs (fn.ntmps-args.length) (by simp at hn;omega) hv hl hnd hM (fun g hg=>?_) (h w).good).mono ?_
 ·obtain ⟨k,hk⟩:=List.getElem?_of_mem hg
  have hk' : k<bl.length:=by rw [← hl];exact (List.getElem?_eq_some_iff.1 hk).1
  obtain ⟨g',cs,hg',hh,_⟩:=hM k bl[k].1 bl[k].2 (by simp [hk'])
  rw [hk] at hg'
  injection hg' with hg'
  subst hg'
  exact lt_of_block hh
 ·rintro e w' ⟨v,rfl,hb,ho⟩
  exact ⟨v,rfl,hb,ho⟩
theorem mem_sub {β ks:List Nat} {w:World} {mem:List (Option (TypeId×List (Seg Kc)))} {bl:List (TypeId×List (Seg Kc))} (hM:Mem β mem w) (hb:ks.map (fun k=>mem[k]?)=bl.map (fun b=>some (some b))) (hp:(bl.all fun b=>b.2.all Seg.noPtr)=true):Mem (sub β ks) (bl.map some) w:=by
 intro k T l hk
 rw [List.getElem?_map] at hk
 cases hbk:bl[k]? with
 | none=>rw [hbk] at hk;cases hk
 | some b =>
   rw [hbk] at hk
   simp only [Option.map_some,Option.some.injEq] at hk
   subst hk
   have h1:(ks.map (fun k=>mem[k]?))[k]?=some (some (some (T,l))):=by rw [hb,List.getElem?_map,hbk];rfl
   rw [List.getElem?_map] at h1
   cases hkk:ks[k]? with
   | none=>rw [hkk] at h1;cases h1
   | some j =>
     rw [hkk] at h1
     simp only [Option.map_some,Option.some.injEq] at h1
     obtain ⟨g,cs,h2,h3,h4⟩:=hM j T l h1
     refine ⟨g,cs,?_,h3,holdsL.noPtr ?_ h4⟩
     ·rw [List.getElem?_map,hkk]
      simp [h2]
     ·exact List.all_eq_true.1 hp (T,l) (List.mem_of_getElem? hbk)
theorem nodup_of_types {γ:List Nat} {w:World} {bl:List (TypeId×List (Seg Kc))} (hl:γ.length=bl.length) (hM:Mem γ (bl.map some) w) (hnd:(bl.map (·.1)).Nodup):γ.Nodup:=by
 rw [List.Nodup,List.pairwise_iff_getElem] at hnd ⊢
 intro i j hi hj hij he
 have hi' : i<bl.length:=by omega
 have hj' : j<bl.length:=by omega
 obtain ⟨g,cs,h1,h2,_⟩:=hM i bl[i].1 bl[i].2 (by simp [hi'])
 obtain ⟨g',cs',h3,h4,_⟩:=hM j bl[j].1 bl[j].2 (by simp [hj'])
 rw [List.getElem?_eq_getElem hi] at h1
 rw [List.getElem?_eq_getElem hj] at h3
 injection h1 with h1
 injection h3 with h3
 rw [← h1,he,h3,h4] at h2
 injection h2 with h2
 injection h2 with _ h5 _
 refine hnd i j (by simpa using hi') (by simpa using hj') hij ?_
 simp [h5]
theorem Ok.callM {c:Cfg Kc} (fn:FuncId) (ks:List Nat) (bl:List (TypeId×List (Seg Kc))) (args:List (AV Kc)) {x:AV Kc} (h:FitsM P fn bl args x) (hf:c.callee P=some fn) (ha:c.args P=args.map (AV.ren ks)) (hx:c.okT x=true) (hnp:x.noPtr=true)
 (hb:ks.map (fun k=>c.mem[k]?)=bl.map (fun b=>some (some b))) (hr:args.all (AV.inR ks.length)=true) (hp:(bl.all fun b=>b.2.all Seg.noPtr)=true) (hnd:(bl.map (·.1)).Nodup) (hfn:∀ (args:Array Value) (w:World),(callFunc fn args).run P w = .ok (.enter fn args) w)
 (hg:Ok P f w00 Out (c.give x)):Ok P f w00 Out c :=
 ⟨good_call fn x hf hx hfn (fun β w vs _ hM hv=>by
  rw [ha] at hv
  have hl:(sub β ks).length=bl.length:=by have:=congrArg List.length hb;simpa using this
  have hM':=mem_sub hM hb hp
  refine (h (sub β ks) w vs hl (nodup_of_types hl hM' hnd) hM' (hv.ren hr)).mono ?_
  rintro e w' ⟨v,e1,e2,e3⟩
  exact ⟨v,e1,e2,AV.noPtr_holds hnp e3⟩) hg.good⟩
end
theorem kgoM {f:FuncId} {fn:Func} {bl:List (TypeId×List (Seg Kn))} {args:List (AV Kn)} {x:AV Kn} (hfn:Tryz.prog.funcs[f]?=some fn) (hc:(fn.body.isSome,decide (args.length≤fn.ntmps))=(true,true)) (_h:True)
 (h:∀ w00,Ok Tryz.prog f w00 (fun v w=>x.holds [] v w) (dQ Tryz.prog 1000 (.items [.code (fn.body.getD .skip)] { slots:=args++List.replicate (fn.ntmps-args.length) .un,blocks:=bl,ro:=bl.length }))):FitsM Tryz.prog f bl args x:=by
 simp only [Prod.mk.injEq] at hc
 exact fitsM_of hfn hc.1 hc.2 fun w00=>Ok.go (by kernel_rfl) kn_ok 1000 (h w00)
theorem kcallM {f:FuncId} {w00:World} {Out:Value→World→Prop} {c:Cfg Kn} (fn:FuncId) (ks:List Nat) (bl:List (TypeId×List (Seg Kn))) (args:List (AV Kn)) {x:AV Kn} (h:FitsM Tryz.prog fn bl args x)
 (hc:(c.callee Tryz.prog,c.args Tryz.prog,c.okT x,x.noPtr,ks.map (fun k=>c.mem[k]?),args.all (AV.inR ks.length),(bl.all fun b=>b.2.all Seg.noPtr))=(some fn,args.map (AV.ren ks),true,true,bl.map (fun b=>some (some b)),true,true)) (hnd:(bl.map (·.1)).Nodup) (hfn:∀ (args:Array Value) (w:World),(callFunc fn args).run Tryz.prog w = .ok (.enter fn args) w)
 (hg:Ok Tryz.prog f w00 Out (dQ Tryz.prog 1000 (c.give x))):Ok Tryz.prog f w00 Out c:=by
 simp only [Prod.mk.injEq] at hc
 obtain ⟨h1,h2,h3,h4,h5,h6,h7⟩:=hc
 exact Ok.callM fn ks bl args h h1 h2 h3 h4 h5 h6 h7 hnd hfn (Ok.go (by kernel_rfl) kn_ok 1000 hg)
end Go.Proofs.YtofcdondmgojiaaGreatDoor.Ab
namespace Go.Proofs.YtofcdondmgojiaaGreatDoor.Ab
open Go.RowKit Go.Proofs.YtofcdondmgojiaaGreatDoor Pl
section
variable {w u1 u2 u3 v1 v2 v3 x1 x2 x3 y1 y2 y3 z1 z2 z3:Rat}
abbrev wu (w u1 u2 u3:Rat):List (TypeId×List (Seg Kn)) := [(67,[nb w]),(69,[nb u1,nb u2,nb u3])]
theorem turn1F (h:Fits Tryz.prog 83 [num w,vc u1 u2 u3,vc v1 v2 v3] (vc x1 x2 x3)) :
 FitsM Tryz.prog 82 (wu w u1 u2 u3) [vc v1 v2 v3,.fv (.sc (.ptr 0 0)),.fv (.sc (.ptr 1 0))] (vc x1 x2 x3):=by
 refine kgoM Tryz.func82 (by kernel_rfl) trivial fun w00=>?_
 refine aB 83 [num w,vc u1 u2 u3,vc v1 v2 v3] (h) (by kernel_rfl) Tryz.call83 ?_
 exact aO Tryz.func82 (by kernel_rfl)
abbrev cloT:AV Kn := .fv (.clo 82 [] [(false,[.ptr 0 0]),(false,[.ptr 1 0])])
theorem eachTurnF (h1:Fits Tryz.prog 83 [num w,vc u1 u2 u3,vc (1:Int) (0:Int) (0:Int)] (vc x1 x2 x3)) (h2:Fits Tryz.prog 83 [num w,vc u1 u2 u3,vc (0:Int) (1:Int) (0:Int)] (vc y1 y2 y3)) (h3:Fits Tryz.prog 83 [num w,vc u1 u2 u3,vc (0:Int) (0:Int) (1:Int)] (vc z1 z2 z3)) :
 FitsM Tryz.prog 85 (wu w u1 u2 u3) [cloT,mt (1:Int) (0:Int) (0:Int) (0:Int) (1:Int) (0:Int) (0:Int) (0:Int) (1:Int)] (mt x1 x2 x3 y1 y2 y3 z1 z2 z3):=by
 refine kgoM Tryz.func85 (by kernel_rfl) trivial fun w00=>?_
 refine kcallM 82 [0,1] (wu w u1 u2 u3) [vc (1:Int) (0:Int) (0:Int),.fv (.sc (.ptr 0 0)),.fv (.sc (.ptr 1 0))] (turn1F h1) (by kernel_rfl) (by simp) (Tryz.call82) ?_
 refine kcallM 82 [0,1] (wu w u1 u2 u3) [vc (0:Int) (1:Int) (0:Int),.fv (.sc (.ptr 0 0)),.fv (.sc (.ptr 1 0))] (turn1F h2) (by kernel_rfl) (by simp) (Tryz.call82) ?_
 refine kcallM 82 [0,1] (wu w u1 u2 u3) [vc (0:Int) (0:Int) (1:Int),.fv (.sc (.ptr 0 0)),.fv (.sc (.ptr 1 0))] (turn1F h3) (by kernel_rfl) (by simp) (Tryz.call82) ?_
 exact aO Tryz.func85 (by kernel_rfl)
theorem apiTurnF {b:Bool} (hw:Wr w) (hu:Wr3 u1 u2 u3) (hb:decide (w=0)=b) (h0:b=true→(decide (u1=0)&&decide (u2=0)&&decide (u3=0))=false)
 (h1:Fits Tryz.prog 83 [num w,vc u1 u2 u3,vc (1:Int) (0:Int) (0:Int)] (vc x1 x2 x3)) (h2:Fits Tryz.prog 83 [num w,vc u1 u2 u3,vc (0:Int) (1:Int) (0:Int)] (vc y1 y2 y3)) (h3:Fits Tryz.prog 83 [num w,vc u1 u2 u3,vc (0:Int) (0:Int) (1:Int)] (vc z1 z2 z3))
 (hr:Wf (0:Int) (0:Int) (0:Int) x1 x2 x3 y1 y2 y3 z1 z2 z3):FitsW Tryz.prog Gl 27 [.fv (.ag [dG (writeB w),dG (writeB u1),dG (writeB u2),dG (writeB u3)])] (okFS (0:Int) (0:Int) (0:Int) x1 x2 x3 y1 y2 y3 z1 z2 z3):=by
 have i0:M64 0:=by constructor <;> omega
 cases b with
 | true =>
   refine cJ Tryz.func27 (by kernel_rfl) fun w00 hG=>?_;have hI:=aU hG
   refine aJ hI 81 [fnv 71,tx (writeB w),fnv 33,vS u1 u2 u3] (readRV hw hu) (by kernel_rfl) Tryz.call81 ?_
   refine aB 36 [num w] (bS hb) (by kernel_rfl) Tryz.call36 ?_
   refine aB 67 [vc u1 u2 u3] (vIsZeroF (h0 rfl)) (by kernel_rfl) Tryz.call67 ?_
   refine aB 84 [iv 0 0 0] (integersF i0 i0 i0) (by kernel_rfl) Tryz.call84 ?_
   refine aB 86 [] (unitsF) (by kernel_rfl) Tryz.call86 ?_
   refine kcallM 85 [2,3] (wu w u1 u2 u3) [cloT,mt (1:Int) (0:Int) (0:Int) (0:Int) (1:Int) (0:Int) (0:Int) (0:Int) (1:Int)] (eachTurnF h1 h2 h3) (by kernel_rfl) (by simp) (Tryz.call85) ?_
   refine aJ hI 87 [frm (0:Int) (0:Int) (0:Int) x1 x2 x3 y1 y2 y3 z1 z2 z3] (frWriteF hr) (by kernel_rfl) Tryz.call87 ?_
   exact aO Tryz.func27 (by kernel_rfl)
 | false =>
   refine cJ Tryz.func27 (by kernel_rfl) fun w00 hG=>?_;have hI:=aU hG
   refine aJ hI 81 [fnv 71,tx (writeB w),fnv 33,vS u1 u2 u3] (readRV hw hu) (by kernel_rfl) Tryz.call81 ?_
   refine aB 36 [num w] (bS hb) (by kernel_rfl) Tryz.call36 ?_
   refine aB 84 [iv 0 0 0] (integersF i0 i0 i0) (by kernel_rfl) Tryz.call84 ?_
   refine aB 86 [] (unitsF) (by kernel_rfl) Tryz.call86 ?_
   refine kcallM 85 [2,3] (wu w u1 u2 u3) [cloT,mt (1:Int) (0:Int) (0:Int) (0:Int) (1:Int) (0:Int) (0:Int) (0:Int) (1:Int)] (eachTurnF h1 h2 h3) (by kernel_rfl) (by simp) (Tryz.call85) ?_
   refine aJ hI 87 [frm (0:Int) (0:Int) (0:Int) x1 x2 x3 y1 y2 y3 z1 z2 z3] (frWriteF hr) (by kernel_rfl) Tryz.call87 ?_
   exact aO Tryz.func27 (by kernel_rfl)
end
section
variable {o1 o2 o3 x1 x2 x3 y1 y2 y3 z1 z2 z3 p1 p2 p3 u1 u2 u3 v1 v2 v3 w1 w2 w3 q1 q2 q3 r1 r2 r3 s1 s2 s3 t1 t2 t3:Rat}
theorem readFF (h:Fv o1 o2 o3 x1 x2 x3 y1 y2 y3 z1 z2 z3) (k:Fv p1 p2 p3 u1 u2 u3 v1 v2 v3 w1 w2 w3):FitsW Tryz.prog Gl 88 [fnv 74,frS o1 o2 o3 x1 x2 x3 y1 y2 y3 z1 z2 z3,fnv 74,frS p1 p2 p3 u1 u2 u3 v1 v2 v3 w1 w2 w3] (.tup [.ag [nb o1,nb o2,nb o3,nb x1,nb x2,nb x3,nb y1,nb y2,nb y3,nb z1,nb z2,nb z3],.ag [nb p1,nb p2,nb p3,nb u1,nb u2,nb u3,nb v1,nb v2,nb v3,nb w1,nb w2,nb w3],.sc z0]):=by
 refine cJ Tryz.func88 (by kernel_rfl) fun w00 hG=>?_;have hI:=aU hG
 refine aJ hI 74 [frS o1 o2 o3 x1 x2 x3 y1 y2 y3 z1 z2 z3] (h.r) (by kernel_rfl) Tryz.call74 ?_
 refine aJ hI 74 [frS p1 p2 p3 u1 u2 u3 v1 v2 v3 w1 w2 w3] (k.r) (by kernel_rfl) Tryz.call74 ?_
 refine aB 34 [.fv (.nsl 2 30 [z0,z0])] (fZ) (by kernel_rfl) Tryz.call34 ?_
 exact aO Tryz.func88 (by kernel_rfl)
theorem apiComposeF (h:Fv o1 o2 o3 x1 x2 x3 y1 y2 y3 z1 z2 z3) (k:Fv p1 p2 p3 u1 u2 u3 v1 v2 v3 w1 w2 w3) (eq1:o1+ld p1 p2 p3 x1 y1 z1=q1) (eq2:o2+ld p1 p2 p3 x2 y2 z2=q2) (eq3:o3+ld p1 p2 p3 x3 y3 z3=q3) (er1:ld u1 u2 u3 x1 y1 z1=r1) (er2:ld u1 u2 u3 x2 y2 z2=r2) (er3:ld u1 u2 u3 x3 y3 z3=r3) (es1:ld v1 v2 v3 x1 y1 z1=s1) (es2:ld v1 v2 v3 x2 y2 z2=s2) (es3:ld v1 v2 v3 x3 y3 z3=s3) (et1:ld w1 w2 w3 x1 y1 z1=t1) (et2:ld w1 w2 w3 x2 y2 z2=t2) (et3:ld w1 w2 w3 x3 y3 z3=t3) (hr:Wf q1 q2 q3 r1 r2 r3 s1 s2 s3 t1 t2 t3)
 (hxy:dt r1 r2 r3 s1 s2 s3=0) (hyz:dt s1 s2 s3 t1 t2 t3=0) (hzx:dt t1 t2 t3 r1 r2 r3=0):FitsW Tryz.prog Gl 28 [frS o1 o2 o3 x1 x2 x3 y1 y2 y3 z1 z2 z3,frS p1 p2 p3 u1 u2 u3 v1 v2 v3 w1 w2 w3] (okFS q1 q2 q3 r1 r2 r3 s1 s2 s3 t1 t2 t3):=by
 have hp:Fits Tryz.prog 75 [frm o1 o2 o3 x1 x2 x3 y1 y2 y3 z1 z2 z3,vc p1 p2 p3] (vc q1 q2 q3):=by
  rw [← eq1,← eq2,← eq3]
  exact placeF (h.w.lm.mono (by decide)) ((w3lf k.w.o).mono (by decide)) ((w3lf h.w.o).mono (by decide))
 have lr:Fits Tryz.prog 77 [frm o1 o2 o3 x1 x2 x3 y1 y2 y3 z1 z2 z3,vc u1 u2 u3] (vc r1 r2 r3):=by
  rw [← er1,← er2,← er3]
  exact leadF (h.w.lm.mono (by decide)) ((w3lf k.w.x).mono (by decide))
 have ls:Fits Tryz.prog 77 [frm o1 o2 o3 x1 x2 x3 y1 y2 y3 z1 z2 z3,vc v1 v2 v3] (vc s1 s2 s3):=by
  rw [← es1,← es2,← es3]
  exact leadF (h.w.lm.mono (by decide)) ((w3lf k.w.y).mono (by decide))
 have lt:Fits Tryz.prog 77 [frm o1 o2 o3 x1 x2 x3 y1 y2 y3 z1 z2 z3,vc w1 w2 w3] (vc t1 t2 t3):=by
  rw [← et1,← et2,← et3]
  exact leadF (h.w.lm.mono (by decide)) ((w3lf k.w.z).mono (by decide))
 refine cJ Tryz.func28 (by kernel_rfl) fun w00 hG=>?_;have hI:=aU hG
 refine aJ hI 88 [fnv 74,frS o1 o2 o3 x1 x2 x3 y1 y2 y3 z1 z2 z3,fnv 74,frS p1 p2 p3 u1 u2 u3 v1 v2 v3 w1 w2 w3] (readFF h k) (by kernel_rfl) Tryz.call88 ?_
 refine aB 75 [frm o1 o2 o3 x1 x2 x3 y1 y2 y3 z1 z2 z3,vc p1 p2 p3] (hp) (by kernel_rfl) Tryz.call75 ?_
 refine aB 85 [.fv (.clo 77 [(true,[nb o1,nb o2,nb o3,nb x1,nb x2,nb x3,nb y1,nb y2,nb y3,nb z1,nb z2,nb z3])] []),mt u1 u2 u3 v1 v2 v3 w1 w2 w3] (eachVVc Tryz.call77 lr ls lt) (by kernel_rfl) Tryz.call85 ?_
 refine aJ hI 89 [frm q1 q2 q3 r1 r2 r3 s1 s2 s3 t1 t2 t3] (frWriteOrthogonalF hr hxy hyz hzx) (by kernel_rfl) Tryz.call89 ?_
 exact aO Tryz.func28 (by kernel_rfl)
end
end Go.Proofs.YtofcdondmgojiaaGreatDoor.Ab
namespace Go.Proofs.YtofcdondmgojiaaGreatDoor
open Go.RowKit Pl
def isL (c:Nat):Bool:=(decide (97≤c)&&decide (c≤122)) || (decide (65≤c)&&decide (c≤90))
def isBh (c:Nat):Bool:=(decide (48≤c)&&decide (c≤57)) || decide (c=95)
def nameFrom:List UInt8→Bool
 | []=>true
 | c::l=>(isL c.toNat || isBh c.toNat)&&nameFrom l
def nameB (s:ByteArray):Bool:=match aC s with
 | []=>false
 | c::l=>isL c.toNat&&nameFrom l&&decide (s.size≤24)
theorem isLetter_any (c:Nat) (w:World):Calls Tryz.prog 91 #[.int .i32 (c:Int)] w fun e w'=>e = .returned (.bool (isL c))∧w'=w:=by
 go_enter Tryz.func91,Tryz.ntmps91
 have e1:decide ((97:Int)≤c)=decide (97≤c):=by rw [decide_eq_decide];omega
 have e2:decide ((c:Int)≤122)=decide (c≤122):=by rw [decide_eq_decide];omega
 have e3:decide ((65:Int)≤c)=decide (65≤c):=by rw [decide_eq_decide];omega
 have e4:decide ((c:Int)≤90)=decide (c≤90):=by rw [decide_eq_decide];omega
 by_cases h1:97≤c <;> by_cases h2:c≤122 <;> by_cases h3:65≤c <;> by_cases h4:c≤90 <;>
  (have k1:(97≤(c:Int))=(97≤c):=by simp;omega) <;> first|omega|(
   simp only [h1,h2,h3,h4,decide_true,decide_false] at e1 e2 e3 e4
   go_wp2
   go_ret
   simp [isL,h1,h2,h3,h4])
theorem isBehind_any (c:Nat) (w:World):Calls Tryz.prog 92 #[.int .i32 (c:Int)] w fun e w'=>e = .returned (.bool (isBh c))∧w'=w:=by
 go_enter Tryz.func92,Tryz.ntmps92
 have e1:decide ((48:Int)≤c)=decide (48≤c):=by rw [decide_eq_decide];omega
 have e2:decide ((c:Int)≤57)=decide (c≤57):=by rw [decide_eq_decide];omega
 have e3:decide ((c:Int)=95)=decide (c=95):=by rw [decide_eq_decide];omega
 have e4:((c:Int)==95)=decide (c=95):=by rw [Bool.eq_iff_iff];simp;omega
 by_cases h1:48≤c <;> by_cases h2:c≤57 <;> by_cases h3:c=95 <;> first|omega|(
  simp only [h1,h2,h3,decide_true,decide_false] at e1 e2 e3
  go_wp2
  go_ret
  simp [isBh,e4,h1,h2,h3])
theorem isL_high {c:Nat} (h:128≤c):isL c=false:=by
 simp only [isL,Bool.or_eq_false_iff,Bool.and_eq_false_iff,decide_eq_false_iff_not]
 omega
theorem isBh_high {c:Nat} (h:128≤c):isBh c=false:=by
 simp only [isBh,Bool.or_eq_false_iff,Bool.and_eq_false_iff,decide_eq_false_iff_not]
 omega
def okAt (pos c:Nat):Bool:=isL c || (decide (pos≠0)&&isBh c)
theorem nameFrom_iff (l:List UInt8):nameFrom l=true↔∀ c∈l,(isL c.toNat || isBh c.toNat)=true:=by
 induction l with
 | nil=>simp [nameFrom]
 | cons c l ih=>simp only [nameFrom,Bool.and_eq_true,ih,List.forall_mem_cons]
theorem nameB_ok {s:ByteArray} (h:∀ (j:Nat) (hj:j<s.size),okAt j (s[j]'hj).toNat=true):nameB s=(decide (s.size≠0)&&decide (s.size≤24)):=by
 have hl:=aE s
 have hg:∀ (j:Nat) (hj:j<(aC s).length),okAt j ((aC s)[j]'hj).toNat=true:=fun j hj=>by
  have:=h j (by rw [← hl];exact hj)
  simp only [aC,Array.getElem_toList]
  exact this
 unfold nameB
 cases hb:aC s with
 | nil=>rw [hb] at hl;simp at hl;simp [← hl]
 | cons c l =>
   rw [hb] at hl hg
   have h0:=hg 0 (by simp)
   simp [okAt] at h0
   have hf:nameFrom l=true:=by
    rw [nameFrom_iff]
    intro d hd
    obtain ⟨i,hi,rfl⟩:=List.getElem_of_mem hd
    have:=hg (i+1) (by simp;omega)
    simpa [okAt] using this
   show (isL c.toNat&&nameFrom l&&decide (s.size≤24))=_
   rw [h0,hf]
   simp at hl
   have:s.size≠0:=by omega
   simp [this]
theorem nameB_bad {s:ByteArray} {j:Nat} (hj:j<s.size) (h:okAt j (s[j]'hj).toNat=false):nameB s=false:=by
 have hl:=aE s
 have hg:okAt j ((aC s)[j]'(by omega)).toNat=false:=by
  simp only [aC,Array.getElem_toList]
  exact h
 unfold nameB
 cases hb:aC s with
 | nil=>rfl
 | cons c l =>
   simp only [hb] at hg
   cases j with
   | zero=>simp [okAt] at hg;simp [hg]
   | succ j =>
     have:nameFrom l=false:=by
      rw [Bool.eq_false_iff]
      intro hf
      rw [nameFrom_iff] at hf
      have h2:=hf (l[j]'(by rw [hb] at hl;simp at hl;omega)) (List.getElem_mem _)
      simp [okAt] at hg
      simp [hg] at h2
     simp [this]
set_option maxRecDepth 100000 in
theorem isName_any (s:ByteArray) (w:World):Calls Tryz.prog 30 #[.string s] w fun e w'=>e = .returned (.bool (nameB s))∧Below w.heap.size w w':=by
 have hne:(!(s.toList==(⟨#[]⟩:ByteArray).toList))=decide (s.size≠0):=by
  rw [Go.ByteArray.toList_eq,Go.ByteArray.toList_eq]
  have hl:=aE s
  unfold aC at hl
  cases hb:s.data.toList with
  | nil=>rw [hb] at hl;simp at hl;simp [← hl]
  | cons c l =>
    rw [hb] at hl
    simp at hl
    have:s.size≠0:=by omega
    simp [this]
 go_enter Tryz.func30,Tryz.ntmps30
 go_wp2
 go_loopw [7] (fun _ wr => ∃ pos:Nat,wr=w.iter s pos∧pos≤s.size∧∀ (j:Nat) (hj:j<s.size),j<pos→okAt j (s[j]'hj).toNat=true) (fun _ wr=>s.size-wr.iterPos w.heap.size)
 case atStart=>exact ⟨0,rfl,Nat.zero_le _,fun j _ h=>absurd h (Nat.not_lt_zero _)⟩
 case round =>
  obtain ⟨pos,rfl,hpos,hok⟩:=hrel
  by_cases hp:pos<s.size
  ·obtain ⟨c,k,hdc,hk,hgood⟩:∃ c k,Utf8.decode s pos=(c,k)∧1≤k∧(okAt pos c=true→(∀ hj:pos<s.size,okAt pos (s[pos]'hj).toNat=true)∧k=1)∧(okAt pos c=false→∀ hj:pos<s.size,okAt pos (s[pos]'hj).toNat=false):=by
    by_cases ha:(s[pos]'hp).toNat<128
    ·exact ⟨_,_,decode_ascii s pos hp ha,Nat.le_refl _,fun h=>⟨fun _=>h,rfl⟩,fun h _=>h⟩
    ·obtain ⟨h1,h2⟩:=decode_high s pos hp (by omega)
     refine ⟨(Utf8.decode s pos).1,(Utf8.decode s pos).2,rfl,h2,fun h=>?_,fun _ _=>?_⟩
     ·rw [okAt,isL_high h1,isBh_high h1] at h
      simp at h
     ·rw [okAt,isL_high (by omega),isBh_high (by omega)]
      simp
   have hnx:∀ ty,(Instr.next (.pointer (some ⟨w.heap.size,0,none⟩)) true ty).run Tryz.prog (w.iter s pos) = .ok (.tuple #[.bool true,.int .i64 pos,.int .i32 (c:Int)]) (w.iter s (pos+k)):=fun ty=>by
    have:=run_next_any (P:=Tryz.prog) w s pos ty hp
    rw [hdc] at this
    exact this
   have HH:=Lib.hid (And.intro hp (And.intro hpos (And.intro hok (And.intro hk (And.intro hgood hne)))))
   clear hdc hp hpos hok hk hgood hne
   by_cases hL:isL c=true
   ·go_wp2_with fail
    refine (isLetter_any c _).mono ?_
    rintro e w' ⟨rfl,rfl⟩
    rw [hL]
    go_wp2
    go_roundw
    case rel =>
     obtain ⟨hp,hpos,hok,hk,hg,_⟩:=HH.out
     obtain ⟨g1,rfl⟩:=hg.1 (by rw [okAt,hL];rfl)
     refine ⟨pos+1,rfl,hp,fun j hj hjp=>?_⟩
     by_cases hjj:j=pos
     ·subst hjj;exact g1 hj
     ·exact hok j hj (by omega)
    case measure =>
     have:=HH.out.1
     have:=HH.out.2.2.2.1
     simp
     omega
   ·have hL:isL c=false:=by simpa using hL
    by_cases h0:pos=0
    ·have hz:((pos:Int)==0)=true:=by simp [h0]
     have hbad:okAt pos c=false:=by rw [okAt,hL,h0];simp
     clear h0
     go_wp2_with fail
     refine (isLetter_any c _).mono ?_
     rintro e w' ⟨rfl,rfl⟩
     rw [hL]
     go_wp2
     go_ret
     obtain ⟨hp,_,_,_,hg,_⟩:=HH.out
     exact ⟨by rw [nameB_bad hp (hg.2 hbad hp)];rfl,fI _ _ _⟩
    ·have hz:((pos:Int)==0)=false:=by simp [h0]
     have H0:=Lib.hid h0
     clear h0
     go_wp2_with fail
     refine (isLetter_any c _).mono ?_
     rintro e w' ⟨rfl,rfl⟩
     rw [hL]
     go_wp2_with fail
     refine (isBehind_any c _).mono ?_
     rintro e w' ⟨rfl,rfl⟩
     cases hB:isBh c with
     | false =>
       go_wp2
       go_ret
       obtain ⟨hp,_,_,_,hg,_⟩:=HH.out
       exact ⟨by rw [nameB_bad hp (hg.2 (by rw [okAt,hL,hB];simp) hp)];rfl,fI _ _ _⟩
     | true =>
       go_wp2
       go_roundw
       case rel =>
        obtain ⟨hp,hpos,hok,hk,hg,_⟩:=HH.out
        obtain ⟨g1,rfl⟩:=hg.1 (by have:=H0.out;simp [okAt,hL,hB,this])
        refine ⟨pos+1,rfl,hp,fun j hj hjp=>?_⟩
        by_cases hjj:j=pos
        ·subst hjj;exact g1 hj
        ·exact hok j hj (by omega)
       case measure =>
        have:=HH.out.1
        have:=HH.out.2.2.2.1
        simp
        omega
  ·have hnx:∀ ty,(Instr.next (.pointer (some ⟨w.heap.size,0,none⟩)) true ty).run Tryz.prog (w.iter s pos)=_:=fun ty=>run_next_end w s pos ty hp
   have hres:nameB s=(decide (s.size≠0)&&decide (s.size≤24)):=nameB_ok fun j hj=>hok j hj (by omega)
   have H2:=Lib.hid hres
   clear hres hok hp hpos
   by_cases h0:s.size=0
   ·have hne2:s.toList.isEmpty=true:=by rw [Go.ByteArray.toList_eq];simp;have:=aE s;unfold aC at this;exact Array.eq_empty_of_size_eq_zero (by simpa using this.trans h0)
    clear hne
    go_wp2
    go_ret
    refine ⟨?_,fI _ _ _⟩
    rw [H2.out,h0]
    rfl
   ·have hne2:s.toList.isEmpty=false:=by
     rw [Go.ByteArray.toList_eq,Bool.eq_false_iff]
     intro he
     have h2:=aE s
     unfold aC at h2
     rw [List.isEmpty_iff.1 he] at h2
     exact h0 h2.symm
    have H0:=Lib.hid h0
    clear hne h0
    go_wp2
    go_ret
    refine ⟨?_,fI _ _ _⟩
    rw [H2.out]
    have h0:=H0.out
    simp [h0]
    omega
end Go.Proofs.YtofcdondmgojiaaGreatDoor
namespace Go.Proofs.YtofcdondmgojiaaGreatDoor.Ab
open Go.RowKit Go.Proofs.YtofcdondmgojiaaGreatDoor Pl
theorem isNameF {s:ByteArray} {b:Bool} (h:nameB s=b):Fits Tryz.prog 30 [lt s] (bl b):=by
 intro β w vs hv
 obtain ⟨v,rfl,h1⟩:=dN hv
 rw [aN h1]
 exact (isName_any s w).mono fun e w' ⟨e1,e2⟩=>⟨_,e1,e2,by rw [h];exact aX rfl⟩
end Go.Proofs.YtofcdondmgojiaaGreatDoor.Ab
namespace Go.Proofs.YtofcdondmgojiaaGreatDoor
open Go.RowKit Pl
theorem cU {s:ByteArray} {i:Nat} (h:i<s.size):(aC s)[i]?=some (s[i]'h):=by
 rw [List.getElem?_eq_getElem (by rw [aE];exact h)]
 rfl
def aI (s:ByteArray):Nat:=(aC s).findIdx (fun c=>c==47)
theorem cK (s:ByteArray):aI s≤s.size:=by unfold aI;rw [← aE];exact List.findIdx_le_length
theorem slashB_at {s:ByteArray} {pos:Nat} (hp:pos<s.size) (h:(s[pos]'hp)=47) (hb:∀ (j:Nat) (hj:j<s.size),j<pos→(s[j]'hj)≠47):aI s=pos:=by
 unfold aI
 refine (List.findIdx_eq (by rw [aE];exact hp)).2 ⟨?_,fun j hj=>?_⟩
 ·have:=cU hp
  rw [List.getElem?_eq_getElem (by rw [aE];exact hp)] at this
  injection this with this
  rw [this,h];rfl
 ·have hj2:j<s.size:=Nat.lt_trans hj hp
  have:=cU hj2
  rw [List.getElem?_eq_getElem (by rw [aE];exact hj2)] at this
  injection this with this
  rw [this]
  simpa using hb j hj2 hj
theorem slashB_none {s:ByteArray} (hb:∀ (j:Nat) (hj:j<s.size),(s[j]'hj)≠47):aI s=s.size:=by
 unfold aI
 rw [← aE,List.findIdx_eq_length]
 intro c hc
 obtain ⟨j,hj,e⟩:=List.mem_iff_getElem.1 hc
 have hj2:j<s.size:=by rw [← aE];exact hj
 have h1:=cU hj2
 rw [List.getElem?_eq_getElem hj,e] at h1
 injection h1 with h1
 rw [h1]
 simpa using hb j hj2
set_option maxHeartbeats 1000000 in
theorem slash_any (s:ByteArray) (w:World) (hs:s.size≤9223372036854775807):Calls Tryz.prog 105 #[.string s] w fun e w'=>e = .returned (.int .i64 (aI s:Nat))∧w'=w:=by
 go_enter Tryz.func105,Tryz.ntmps105
 go_wp2
 go_loop [3] (fun v => ∃ pos:Nat,v = .int .i64 (pos:Int)∧pos≤s.size∧Hid (∀ (j:Nat) (hj:j<s.size),j<pos→(s[j]'hj)≠47)) (fun v=>s.size-(intOf v).toNat)
 case atStart=>exact ⟨0,rfl,Nat.zero_le _,fun j _ h=>absurd h (Nat.not_lt_zero _)⟩
 case round =>
  obtain ⟨pos,rfl,hpos,hok⟩:=hrel
  by_cases hp:pos<s.size
  ·have p1:((pos:Nat):Int)<s.size:=by omega
   obtain ⟨c,hc⟩:∃ c:Nat,(s[pos]'hp).toNat=c:=⟨_,rfl⟩
   by_cases h47:c=47
   ·have hres:aI s=pos:=slashB_at hp (by rw [h47] at hc;exact UInt8.toNat_inj.1 hc) (fun j hj hlt=>hok.out j hj hlt)
    have HR:=Lib.hid hres
    have k1:((c:Int)==47)=true:=by rw [h47];rfl
    clear hres hok h47
    go_wp2
    go_ret
    exact ⟨by rw [HR.out];rfl,rfl⟩
   ·have k1:((c:Int)==47)=false:=by simp;omega
    have HR:=Lib.hid (show ∀ (j:Nat) (hj:j<s.size),j<pos+1→(s[j]'hj)≠47 from fun j hj hlt=>by
     by_cases hjj:j=pos
     ·subst hjj
      intro e
      rw [e] at hc
      exact h47 hc.symm
     ·exact hok.out j hj (by omega))
    clear hok h47
    have HP:=Lib.hid hp
    go_wp2
    first
     | (go_round;(case rel=>exact ⟨pos+1,by go_num,HP.out,HR.out⟩);(case measure=>(simp [intOf];omega)))
     | exact ⟨⟨pos+1,by simp,HP.out,HR.out⟩,by have:=HP.out;simp [intOf];omega⟩
  ·have hres:aI s=s.size:=slashB_none fun j hj=>hok.out j hj (by omega)
   have HR:=Lib.hid hres
   have p1:¬ (pos:Int)<s.size:=by omega
   clear hres hok
   go_wp2
   go_ret
   exact ⟨by rw [HR.out];rfl,rfl⟩
def dY (s:ByteArray):Bool:=(aC s).all (fun c=>decide (48≤c.toNat)&&decide (c.toNat≤57))
theorem digitsB_bad {s:ByteArray} {pos:Nat} (hp:pos<s.size) (h:(s[pos]'hp).toNat<48∨57<(s[pos]'hp).toNat):dY s=false:=by
 unfold dY
 rw [List.all_eq_false]
 refine ⟨s[pos]'hp,List.mem_of_getElem? (cU hp),?_⟩
 simp
 omega
theorem digitsB_ok {s:ByteArray} (h:∀ (j:Nat) (hj:j<s.size),48≤(s[j]'hj).toNat∧(s[j]'hj).toNat≤57):dY s=true:=by
 unfold dY
 rw [List.all_eq_true]
 intro c hc
 obtain ⟨j,hj,e⟩:=List.mem_iff_getElem.1 hc
 have hj2:j<s.size:=by rw [← aE];exact hj
 have h1:=cU hj2
 rw [List.getElem?_eq_getElem hj,e] at h1
 injection h1 with h1
 rw [h1]
 simpa using h j hj2
theorem digitsB_iff {s:ByteArray}:dY s=true↔AllDig (aC s):=by
 unfold dY AllDig
 rw [List.all_eq_true]
 simp
set_option maxHeartbeats 1000000 in
theorem digits_any (s:ByteArray) (w:World) (hs:s.size≤9223372036854775807):Calls Tryz.prog 159 #[.string s] w fun e w'=>e = .returned (.bool (dY s))∧w'=w:=by
 go_enter Tryz.func159,Tryz.ntmps159
 go_wp2
 go_loop [3] (fun v => ∃ pos:Nat,v = .int .i64 (pos:Int)∧pos≤s.size∧Hid (∀ (j:Nat) (hj:j<s.size),j<pos→48≤(s[j]'hj).toNat∧(s[j]'hj).toNat≤57)) (fun v=>s.size-(intOf v).toNat)
 case atStart=>exact ⟨0,rfl,Nat.zero_le _,fun j _ h=>absurd h (Nat.not_lt_zero _)⟩
 case round =>
  obtain ⟨pos,rfl,hpos,hok⟩:=hrel
  by_cases hp:pos<s.size
  ·have p1:((pos:Nat):Int)<s.size:=by omega
   obtain ⟨c,hc⟩:∃ c:Nat,(s[pos]'hp).toNat=c:=⟨_,rfl⟩
   by_cases h48:c<48
   ·have hres:dY s=false:=digitsB_bad hp (.inl (by rw [hc];exact h48))
    have HR:=Lib.hid hres
    have k1:(c:Int)<48:=by omega
    clear hres hok
    go_wp2
    go_ret
    exact ⟨by rw [HR.out];rfl,rfl⟩
   ·by_cases h57:57<c
    ·have hres:dY s=false:=digitsB_bad hp (.inr (by rw [hc];exact h57))
     have HR:=Lib.hid hres
     have k1:¬ (c:Int)<48:=by omega
     have k2:(57:Int)<c:=by omega
     clear hres hok
     go_wp2
     go_ret
     exact ⟨by rw [HR.out];rfl,rfl⟩
    ·have k1:(48:Int)≤c:=by omega
     have k2:(c:Int)≤57:=by omega
     have HR:=Lib.hid (show ∀ (j:Nat) (hj:j<s.size),j<pos+1→48≤(s[j]'hj).toNat∧(s[j]'hj).toNat≤57 from fun j hj hlt=>by
      by_cases hjj:j=pos
      ·subst hjj;rw [hc];omega
      ·exact hok.out j hj (by omega))
     clear hok h48 h57
     have HP:=Lib.hid hp
     go_wp2
     first
      | (go_round;(case rel=>exact ⟨pos+1,by go_num,HP.out,HR.out⟩);(case measure=>(simp [intOf];omega)))
      | exact ⟨⟨pos+1,by simp,HP.out,HR.out⟩,by have:=HP.out;simp [intOf];omega⟩
  ·have hres:dY s=true:=digitsB_ok fun j hj=>hok.out j hj (by omega)
   have HR:=Lib.hid hres
   have p1:¬ (pos:Int)<s.size:=by omega
   clear hres hok
   go_wp2
   go_ret
   exact ⟨by rw [HR.out];rfl,rfl⟩
set_option maxHeartbeats 1000000 in
theorem value_any (s:ByteArray) (w:World) (hd:AllDig (aC s)) (hs:s.size≤17):Calls Tryz.prog 165 #[.string s] w fun e w'=>e = .returned (.int .i64 (aT (aC s):Nat))∧w'=w:=by
 go_enter Tryz.func165,Tryz.ntmps165
 go_wp2
 have HD:=Lib.hid (And.intro hd hs)
 clear hd
 go_loop [3,4] (fun nv v => ∃ pos m:Nat,v = .int .i64 (pos:Int)∧nv = .int .i64 (m:Int)∧pos≤s.size∧Hid (m=aT ((aC s).take pos))) (fun _ v=>s.size-(intOf v).toNat)
 case atStart=>exact ⟨0,0,rfl,rfl,Nat.zero_le _,by rw [List.take_zero];exact natOf_nil.symm⟩
 case round =>
  obtain ⟨pos,m,rfl,rfl,hpos,hm⟩:=hrel
  by_cases hp:pos<s.size
  ·have p1:((pos:Nat):Int)<s.size:=by omega
   obtain ⟨c,hc⟩:∃ c:Nat,(s[pos]'hp).toNat=c:=⟨_,rfl⟩
   have hcd:48≤c∧c≤57:=by rw [← hc];exact HD.out.1 _ (List.mem_of_getElem? (cU hp))
   have hmb:m<100000000000000000:=by
    rw [hm.out]
    refine Nat.lt_of_lt_of_le (natOf_lt (HD.out.1.take pos)) ?_
    have:10^((aC s).take pos).length≤10^17:=Nat.pow_le_pow_right (by omega) (by rw [List.length_take];have:=HD.out.2;omega)
    exact this
   have hnext:10*m+c-48=aT ((aC s).take (pos+1)):=by
    have h1:=cU hp
    obtain ⟨h2,e⟩:=List.getElem?_eq_some_iff.1 h1
    rw [List.take_succ_eq_append_getElem h2,natOf_snoc,← hm.out,e,hc]
    omega
   have HR:=Lib.hid hnext
   have k1:(48:Int)≤c:=by omega
   have k2:(c:Int)≤57:=by omega
   have k3:(m:Int)≤100000000000000000:=by omega
   clear hnext hm hmb hcd
   have HP:=Lib.hid hp
   go_wp2
   first
    | (go_round;(case rel=>exact ⟨pos+1,10*m+c-48,by go_num,by go_num,HP.out,HR.out⟩);(case measure=>(simp [intOf];omega)))
    | exact ⟨⟨pos+1,10*m+c-48,by simp,by go_num,HP.out,HR.out⟩,by have:=HP.out;simp [intOf];omega⟩
  ·have p1:¬ (pos:Int)<s.size:=by omega
   have HR:=Lib.hid (show m=aT (aC s) by rw [hm.out,List.take_of_length_le (by rw [aE];omega)])
   clear hm
   go_wp2
   go_ret
   exact ⟨by rw [HR.out];rfl,rfl⟩
set_option maxHeartbeats 1000000 in
theorem rgcd_any (a b:Nat) (w:World) (ha:a<9223372036854775808) (hb:b<9223372036854775808):Calls Tryz.prog 166 #[.int .i64 (a:Int),.int .i64 (b:Int)] w fun e w'=>e = .returned (.int .i64 (Nat.gcd a b:Nat))∧Below w.heap.size w w':=by
 have HA:=Lib.hid (And.intro ha hb)
 clear ha hb
 go_enter Tryz.func166,Tryz.ntmps166
 go_wp2
 go_loopw [0,1] (fun av bv wr => ∃ x y:Nat,av = .int .i64 (x:Int)∧bv = .int .i64 (y:Int)∧Hid (Nat.gcd x y=Nat.gcd a b∧x<9223372036854775808∧y<9223372036854775808)∧Below w.heap.size w wr) (fun _ bv _=>(intOf bv).toNat)
 case atStart=>exact ⟨a,b,rfl,rfl,⟨rfl,HA.out⟩,Below.refl _ _⟩
 case round =>
  obtain ⟨x,y,rfl,rfl,hi,hbw⟩:=hrel
  rcases Nat.eq_zero_or_pos y with h0|h0
  ·subst h0
   have HR:=Lib.hid (show x=Nat.gcd a b by rw [← hi.out.1,Nat.gcd_zero_right])
   clear hi
   go_wp2
   go_ret
   exact ⟨by rw [← HR.out];rfl,hbw⟩
  ·have k1:(0:Int)<y:=by omega
   obtain ⟨r,hr⟩:∃ r,r=x%y:=⟨_,rfl⟩
   have HR:=Lib.hid (show (Nat.gcd y r=Nat.gcd a b∧y<9223372036854775808∧r<9223372036854775808)∧r<y∧(x:Int)%(y:Int)=(r:Int)∧(x:Int).tmod (y:Int)=(r:Int) by
    have hlt:r<y:=by rw [hr];exact Nat.mod_lt _ h0
    refine ⟨⟨by rw [hr,Nat.gcd_comm,← Nat.gcd_rec,Nat.gcd_comm];exact hi.out.1,hi.out.2.2,Nat.lt_trans hlt hi.out.2.2⟩,hlt,by rw [hr];simp,?_⟩
    rw [Int.tmod_eq_emod_of_nonneg (by omega),hr];simp)
   have hz0:((y:Int)==0)=false:=by simp;omega
   have hz1:¬ (y:Int)=0:=by omega
   have hz3:((y:Int) == -1)=false:=by simp
   clear hi hr h0
   go_wp2
   go_quiet (fail)
   have hb2:=cA hbw nq
   clear hbw
   generalize wr.drewN nq=w2 at *
   go_wp2
   go_roundw
   case rel =>
    obtain ⟨h1,h2,h3,h4⟩:=HR.out
    exact ⟨y,r,rfl,by first|(rw [h3];done)|(rw [h4];done)|rfl,h1,hb2⟩
   case measure =>
    obtain ⟨h1,h2,h3,h4⟩:=HR.out
    simp only [intOf]
    first|rw [h3]|rw [h4]
    omega
theorem cmpI_lt {a b:Nat} (h:a<b):bZ a b = -1:=by unfold bZ;rw [if_pos (by omega)]
theorem cmpI_gt {a b:Nat} (h:b<a):bZ a b=1:=by unfold bZ;rw [if_neg (by omega),if_pos (by omega)]
set_option maxHeartbeats 1000000 in
theorem fF (A:Option Addr) (n c:Nat) (xs:List Nat) (A' : Option Addr) (n' c' : Nat) (ys:List Nat) (w:World) (h:Ri w A n c xs) (h' : Ri w A' n' c' ys)
 (hd:Dig B9 xs) (hd' : Dig B9 ys) (hn:Norm xs) (hn' : Norm ys) :
 Calls Tryz.prog 209 #[.slice A n c,.slice A' n' c'] w (Gives w (.int .i64 (bZ (val B9 xs) (val B9 ys)))):=by
 have HX:=Lib.hid (And.intro h (And.intro hd hn))
 have HY:=Lib.hid (And.intro h' (And.intro hd' hn'))
 have hnc:n≤c:=h.cap
 have hcm:c≤9223372036854775807:=h.2.2.1
 have hnc' : n'≤c':=h'.cap
 have hcm' : c'≤9223372036854775807:=h'.2.2.1
 clear h h' hd hd' hn hn'
 rcases Nat.lt_trichotomy n n' with hl|hl|hl
 ·have ht:((n:Int) != n')=true:=by simp;omega
  have ht2:(n:Int)<n':=by omega
  have HL:=Lib.hid hl
  clear hl
  go_enter Tryz.func209,Tryz.ntmps209
  go_wp2
  go_ret
  refine ⟨bY ?_,Below.refl _ _⟩
  rw [cmpI_lt]
  exact dI eB HX.out.2.1 HY.out.2.2 (by rw [HX.out.1.len,HY.out.1.len];exact HL.out)
 ·subst hl
  have ht:((n:Int) != n)=false:=by simp
  go_enter Tryz.func209,Tryz.ntmps209
  go_wp2
  go_loopw [5] (fun i wr => ∃ k:Nat,k≤n∧Agree xs ys k∧i = .int .i64 ((k:Int)-1)∧Below w.heap.size w wr) (fun i _=>(intOf i+1).toNat)
  case atStart=>exact ⟨n,Nat.le_refl _,by unfold Agree;rw [List.drop_eq_nil_of_le (by rw [HX.out.1.len];omega),List.drop_eq_nil_of_le (by rw [HY.out.1.len];omega)],rfl,Below.refl _ _⟩
  case round =>
   obtain ⟨k,hk,hag,rfl,hb⟩:=hrel
   have HA:=Lib.hid hag
   clear hag
   rcases Nat.eq_zero_or_pos k with rfl|hk0
   ·go_wp2
    go_ret
    refine ⟨bY ?_,hb⟩
    have:=HA.out
    unfold Agree at this
    simp at this
    rw [this]
    unfold bZ
    simp
   ·obtain ⟨m,rfl⟩:∃ m,k=m+1:=⟨k-1,by omega⟩
    obtain ⟨ad,x,hA,_,hx,hcx⟩:=(HX.out.1.below hb).at_ (k:=m) (by omega)
    obtain ⟨ad',y,hA',_,hy,hcy⟩:=(HY.out.1.below hb).at_ (k:=m) (by omega)
    subst hA
    subst hA'
    have HE:=Lib.hid (And.intro hx hy)
    clear hx hy hk0
    have hidx:((m:Int)+1-1)=m:=by omega
    simp only [Int.natCast_add,Int.natCast_one,hidx]
    clear hidx
    rcases Nat.lt_trichotomy x y with he|he|he
    ·have ht:(x:Int)<y:=by omega
     have HE2:=Lib.hid he
     clear he
     go_wp2
     go_quiet (fail)
     go_wp2
     go_ret
     refine ⟨bY ?_,cA hb _⟩
     rw [← cmpI_lt HE2.out]
     exact cmpI_top (by rw [HX.out.1.len,HY.out.1.len]) HX.out.2.1 HY.out.2.1 (by rw [HX.out.1.len];omega) HA.out HE.out.1 HE.out.2 (by have:=HE2.out;omega)
    ·subst he
     have ht:¬ (x:Int)<x:=by omega
     go_wp2
     go_quiet (fail)
     have hcx2:(wr.drewN nq).cell? (ad.add m)=some (.int .i64 (x:Int)):=hcx
     have hcy2:(wr.drewN nq).cell? (ad'.add m)=some (.int .i64 (x:Int)):=hcy
     have hb2:=cA hb nq
     clear hb hcx hcy
     generalize wr.drewN nq=w2 at *
     go_wp2
     go_quiet (fail)
     go_wp2
     go_roundw
     case rel=>exact ⟨m,by omega,HA.out.step HE.out.1 HE.out.2 rfl,rfl,cA hb2 _⟩
     case measure=>simp [intOf]
    ·have ht:¬ (x:Int)<y:=by omega
     have ht2:(y:Int)<x:=by omega
     have HE2:=Lib.hid he
     clear he
     go_wp2
     go_quiet (fail)
     have hcx2:(wr.drewN nq).cell? (ad.add m)=some (.int .i64 (x:Int)):=hcx
     have hcy2:(wr.drewN nq).cell? (ad'.add m)=some (.int .i64 (y:Int)):=hcy
     have hb2:=cA hb nq
     clear hb hcx hcy
     generalize wr.drewN nq=w2 at *
     go_wp2
     go_quiet (fail)
     go_wp2
     go_ret
     refine ⟨bY ?_,cA hb2 _⟩
     rw [← cmpI_gt HE2.out]
     exact cmpI_top (by rw [HX.out.1.len,HY.out.1.len]) HX.out.2.1 HY.out.2.1 (by rw [HX.out.1.len];omega) HA.out HE.out.1 HE.out.2 (by have:=HE2.out;omega)
 ·have ht:((n:Int) != n')=true:=by simp;omega
  have ht2:¬ (n:Int)<n':=by omega
  have HL:=Lib.hid hl
  clear hl
  go_enter Tryz.func209,Tryz.ntmps209
  go_wp2
  go_ret
  refine ⟨bY ?_,Below.refl _ _⟩
  rw [cmpI_gt]
  exact dI eB HY.out.2.1 HX.out.2.2 (by rw [HX.out.1.len,HY.out.1.len];exact HL.out)
theorem digit_any (A:Option Addr) (n c:Nat) (xs:List Nat) (i:Nat) (w:World) (h:Ri w A n c xs) :
 Calls Tryz.prog 248 #[.slice A n c,.int .i64 (i:Int)] w fun e w'=>e = .returned (.int .i64 ((xs.getD i 0:Nat):Int))∧w=w':=by
 have hnc:n≤c:=h.cap
 have hcm:c≤9223372036854775807:=h.2.2.1
 by_cases hi:i<n
 ·obtain ⟨ad,x,rfl,_,hx,hcx⟩:=h.at_ hi
  have e:xs.getD i 0=x:=by simp [List.getD,hx]
  rw [e]
  clear hx e h
  go_enter Tryz.func248,Tryz.ntmps248
  go_wp2
  go_ret
  exact ⟨rfl,rfl⟩
 ·have e:xs.getD i 0=0:=by
   have:=h.len
   simp [List.getD,List.getElem?_eq_none (show xs.length≤i by omega)]
  rw [e]
  have hi2:¬ (i:Int)<n:=by omega
  clear e h hi
  go_enter Tryz.func248,Tryz.ntmps248
  go_wp2
  go_ret
  exact ⟨rfl,rfl⟩
theorem fC {q:Nat} (h:q<9223372036854775808):wrap64 (q:Int)=q:=by unfold wrap64;omega
theorem cell_of_blk {w:World} {g:Nat} {cs:Array Value} {t:TypeId} {fr:Nat×Nat} (h:w.heap[g]?=some (.cells cs t fr)) (i:Nat):w.cell? ⟨g,i,none⟩=cs[i]?:=by
 unfold World.cell?
 rw [h]
 rfl
theorem info_int3:(Tryz.prog.info? 3).map (fun i=>(i.zero,i.size,i.bytes))=some (some (.int .i64 0),1,8):=by kernel_rfl
theorem row_ri' {w:World} {base m:Nat} {e:TypeId} {v:Value} {ws:List Nat} (h:w.ownsRow base e 1 v m (ws.map eH)):∃ A c,v = .slice A m c∧Ri w A m c ws:=by
 obtain ⟨h1,h2⟩:=h
 have hl:ws.length=m:=by simpa using h1
 rcases h2 with ⟨rfl,rfl⟩|⟨g,cap,cur,rfl,e2,e3,e4,e5,e6,e7⟩
 ·have:ws = []:=List.eq_nil_of_length_eq_zero hl
  subst this
  exact ⟨none,0,rfl,Ri.nil⟩
 ·refine ⟨_,cap,rfl,hl,e4,e5,fun _=>⟨_,rfl,(Array.getElem?_eq_some_iff.1 e3).1,fun j x hx=>?_⟩⟩
  have ha:(⟨g,0,none⟩:Addr).add j=⟨g,j,none⟩:=by unfold Addr.add;split <;> simp_all
  have hc:w.cell? ⟨g,j,none⟩=cur[j]?:=by unfold World.cell?;rw [e3];rfl
  rw [ha,hc,← Array.getElem?_toList]
  have hj:(cur.toList.take (m*1))[0+j]?=some (.int .i64 (x:Int)):=by rw [e7,Nat.zero_add,List.getElem?_map,hx];rfl
  rw [List.getElem?_take,Nat.zero_add] at hj
  split at hj
  ·exact hj
  ·cases hj
theorem row_own' {w:World} {base m:Nat} {e:TypeId} {v:Value} {xs:List Value} (h:w.ownsRow base e 1 v m xs):∀ b,v.ownBlock=some b→base≤b:=by
 intro b hb
 obtain ⟨_,h2⟩:=h
 rcases h2 with ⟨rfl,_⟩|⟨g,cap,cur,rfl,e2,_⟩
 ·cases hb
 ·simp [Value.ownBlock] at hb;omega
def GivesRi (w:World) (a:Nat) (e:Ending) (w' : World):Prop := ∃ A n c xs,e = .returned (.slice A n c)∧Ri w' A n c xs∧Dig B9 xs∧val B9 xs=a∧Below w.heap.size w w'
theorem getD_over {l:List Nat} {k:Nat} (h:l.length≤k):l.getD k 0=0:=by simp [List.getD,List.getElem?_eq_none h]
theorem val_take_getD (B:Nat) (l:List Nat) (k:Nat):val B (l.take (k+1))=val B (l.take k)+B^k*l.getD k 0:=by
 rcases Nat.lt_or_ge k l.length with hl|hl
 ·rw [aF _ _ _ hl]
  simp [List.getD,List.getElem?_eq_getElem hl]
 ·rw [List.take_of_length_le (by omega),List.take_of_length_le hl]
  simp [List.getD,List.getElem?_eq_none hl]
def AddI (xs ys zs:List Nat) (k cy:Nat):Prop:=cy≤1∧Dig B9 zs∧zs.length=k∧val B9 zs+B9^k*cy=val B9 (xs.take k)+val B9 (ys.take k)
theorem AddI.step {xs ys zs:List Nat} {k cy s:Nat} (h:AddI xs ys zs k cy) (hx:Dig B9 xs) (hy:Dig B9 ys) (hs:s=xs.getD k 0+ys.getD k 0+cy):AddI xs ys (zs ++ [s%B9]) (k+1) (s/B9):=by
 obtain ⟨h1,h2,h3,h4⟩:=h
 have bx:=hx.get0 cN k
 have by':=hy.get0 cN k
 have hq:s/B9≤1:=by
  generalize xs.getD k 0=x at *
  generalize ys.getD k 0=y at *
  subst hs
  rw [cV] at *
  clear hx hy h2 h4
  omega
 refine ⟨hq,h2.app (Dig.cons (Nat.mod_lt _ cN) (Dig.nil _)),by simp [h3],?_⟩
 rw [cR,h3,val_take_getD,val_take_getD,Nat.pow_succ]
 have hdm:=Nat.div_add_mod s B9
 generalize s/B9=q at *
 generalize s%B9=r at *
 generalize xs.getD k 0=x at *
 generalize ys.getD k 0=y at *
 clear bx by' hq hx hy h2
 generalize B9=V at *
 grind
theorem AddI.finish {xs ys zs:List Nat} {k:Nat} (h:AddI xs ys zs k 0) (h1:xs.length≤k) (h2:ys.length≤k):val B9 zs=val B9 xs+val B9 ys:=by
 obtain ⟨_,_,_,h4⟩:=h
 rw [List.take_of_length_le h1,List.take_of_length_le h2,Nat.mul_zero,Nat.add_zero] at h4
 exact h4
theorem AddI.nil (xs ys:List Nat):AddI xs ys [] 0 0:=⟨by omega,Dig.nil _,rfl,by simp [val]⟩
theorem addFacts {x y cy:Nat} (bx:x<1000000000) (by' : y<1000000000) (bc:cy≤1):∃ p s r q:Nat,(x:Int)+(y:Int)=(p:Int)∧(p:Int)+(cy:Int)=(s:Int)∧wrap64 (p:Int)=p∧wrap64 (s:Int)=s ∧
 (s:Int).tmod 1000000000=(r:Int)∧(s:Int)%1000000000=(r:Int)∧(s:Int).tdiv 1000000000=(q:Int)∧(s:Int)/1000000000=(q:Int)∧wrap64 (q:Int)=q∧s=x+y+cy∧r=s%1000000000∧q=s/1000000000∧(x=0→y=0→q=0):=by
 refine ⟨x+y,x+y+cy,(x+y+cy)%1000000000,(x+y+cy)/1000000000,by omega,by omega,fC (by omega),fC (by omega),?_,by omega,?_,by omega,fC (by omega),rfl,rfl,rfl,by omega⟩
 ·rw [Int.tmod_eq_emod_of_nonneg (by omega)];omega
 ·rw [Int.tdiv_eq_ediv_of_nonneg (by omega)];omega
set_option maxHeartbeats 1000000 in
set_option maxRecDepth 100000 in
theorem addDigits_any (A:Option Addr) (n c:Nat) (xs:List Nat) (A' : Option Addr) (n' c' : Nat) (ys:List Nat) (w:World) (h:Ri w A n c xs) (h' : Ri w A' n' c' ys)
 (hd:Dig B9 xs) (hd' : Dig B9 ys) (hn:n≤2199023255552) (hn' : n'≤2199023255552) :
 Calls Tryz.prog 213 #[.slice A n c,.slice A' n' c'] w (GivesRi w (val B9 xs+val B9 ys)):=by
 have HX:=Lib.hid (And.intro h hd)
 have HY:=Lib.hid (And.intro h' hd')
 have HN:=Lib.hid (And.intro hn hn')
 have hnc:n≤c:=h.cap
 have hcm:c≤9223372036854775807:=h.2.2.1
 have hnc' : n'≤c':=h'.cap
 have hcm' : c'≤9223372036854775807:=h'.2.2.1
 obtain ⟨i0,hi,hz0,hz1,hz2⟩:=info_parts info_int3
 have HI:=Lib.hid (And.intro hi (And.intro hz0 (And.intro hz1 hz2)))
 clear h h' hd hd' hi hz0 hz1 hz2
 go_enter Tryz.func213,Tryz.ntmps213
 go_wp2
 go_loopw [5,6,7] (fun ov cv iv wr => ∃ (k cy:Nat) (zs:List Nat),iv = .int .i64 (k:Int)∧cv = .int .i64 (cy:Int)∧AddI xs ys zs k cy∧wr.ownsRow w.heap.size 3 1 ov k (zs.map eH)∧Below w.heap.size w wr∧(k≤max n n'∨(cy=0∧k≤max n n'+1))) (fun _ _ iv _=>max n n'+1-(intOf iv).toNat)
 case atStart=>exact ⟨0,0,[],rfl,rfl,AddI.nil _ _,⟨rfl,.inl ⟨rfl,rfl⟩⟩,Below.refl _ _,.inl (Nat.zero_le _)⟩
 case round =>
  obtain ⟨k,cy,zs,rfl,rfl,hinv,hrow,hb,hk⟩:=hrel
  by_cases hgo:k<n∨k<n'∨0<cy
  ·have tri:(k:Int)<n∨(¬ (k:Int)<n∧(k:Int)<n')∨(¬ (k:Int)<n∧¬ (k:Int)<n'∧cy=1):=by
    have bc:=hinv.1
    clear hrow hinv hb
    omega
   have hkm:k≤max n n':=by omega
   have hkB:k≤2199023255552:=by have:=HN.out;omega
   obtain ⟨x,hx⟩:∃ x,x=xs.getD k 0:=⟨_,rfl⟩
   obtain ⟨y,hy⟩:∃ y,y=ys.getD k 0:=⟨_,rfl⟩
   have bx:x<1000000000:=by rw [hx];exact HX.out.2.get0 cN k
   have by' : y<1000000000:=by rw [hy];exact HY.out.2.get0 cN k
   have bc:cy≤1:=hinv.1
   obtain ⟨p,s,r,q,e1,e2,e3,e4,t1,t2,t3,t4,t5,hs,hr,hq,hq0⟩:=addFacts bx by' bc
   have hst:AddI xs ys (zs ++ [r]) (k+1) q:=by
    have:=hinv.step HX.out.2 HY.out.2 (s:=s) (by rw [hs,hx,hy])
    rw [cV,← hr,← hq] at this
    exact this
   have cd:=Lib.hid (fun w' (hb' : Below w.heap.size w w')=>digit_any A n c xs k w' (HX.out.1.below hb'))
   have cd':=Lib.hid (fun w' (hb' : Below w.heap.size w w')=>digit_any A' n' c' ys k w' (HY.out.1.below hb'))
   rw [← hx] at cd
   rw [← hy] at cd'
   have hk' : k<max n n'∨q=0∧k≤max n n':=by
    rcases Nat.lt_or_ge k (max n n') with hlt|hge
    ·exact .inl hlt
    ·right
     have hl1:=HX.out.1.len
     have hl2:=HY.out.1.len
     have z1:x=0:=by rw [hx];exact getD_over (by rw [hl1];exact Nat.le_trans (Nat.le_max_left n n') hge)
     have z2:y=0:=by rw [hy];exact getD_over (by rw [hl2];exact Nat.le_trans (Nat.le_max_right n n') hge)
     exact ⟨hq0 z1 z2,hkm⟩
   have HS:=Lib.hid (And.intro hst (And.intro hrow (And.intro hb (And.intro hk' (And.intro hkm hinv.2.2.1)))))
   clear hst hrow hb hk hkm hk' hinv hx hy hs hr hq bx by' bc hq0 hgo
   rcases tri with b1|⟨b1,b2⟩|⟨b1,b2,b3⟩
   all_goals
    try subst b3
    try simp only [Int.natCast_one] at e2
    go_wp2_with fail
    refine (cd.out _ HS.out.2.2.1).mono ?_
    rintro e w' ⟨rfl,rfl⟩
    go_wp2_with fail
    refine (cd'.out _ HS.out.2.2.1).mono ?_
    rintro e w' ⟨rfl,rfl⟩
    go_wp2_with (at_builtin;refine wpList_append_own _ rfl _ _ 86 rfl w.heap.size 3 i0 (.int .i64 0) 1 8 Tryz.underlying86 HI.out.1 HI.out.2.1 HI.out.2.2.1 HI.out.2.2.2 rfl (by decide) _ _ _ rfl (HS.out.2.1.alloc _) ⟨wr.heap.size,0,none⟩ 1 1 [.int .i64 (r:Int)] rfl rfl ?k1 ?k2 ?k3 ?k4 ?k5 ?_)
    try (case k1 =>
     intro j u hj
     match j with
     | 0 =>
       simp only [List.getElem?_cons_zero,Option.some.injEq] at hj
       subst hj
       exact cell_of_blk (heap_alloc_new wr _) 0
     | j+1=>simp at hj)
    case k2=>first|rfl|(intro u hu;simp at hu;subst hu;rfl)
    case k3=>show k+1≤9223372036854775807;omega
    case k4=>omega
    case k5=>have:=HS.out.2.2.1.size;simp;omega
    intro v' w3 hr3 hg3 _
    obtain ⟨hst,hrow,hb,hk',hkm,hzl⟩:=HS.out
    have hbw:Below w.heap.size w w3:=Below.grown (hb.alloc hb.size _) hg3 (by have:=hb.size;simp;omega) (fun b hb'=>row_own' hrow b hb')
    have HX3:=Lib.hid (And.intro hst (And.intro hr3 (And.intro hbw (And.intro hk' hkm))))
    clear hst hrow hb hk' hkm hzl hr3 hg3 hbw
    go_wp2
    go_roundw
    case rel =>
     obtain ⟨hst,hr3,hbw,hk',hkm⟩:=HX3.out
     refine ⟨k+1,q,zs ++ [r],by first|rfl|go_num|simp,by first|rfl|rw [t5]|simp,hst,?_,hbw,?_⟩
     ·rw [List.map_append];exact hr3
     ·exact hk'.imp (fun h=>h) (fun h=>⟨h.1,Nat.succ_le_succ h.2⟩)
    case measure =>
     have hkm:=HX3.out.2.2.2.2
     clear e1 e2 e3 e4 t1 t2 t3 t4 t5 HX3
     simp [intOf];omega
  ·have hc0:cy=0:=by omega
   subst hc0
   obtain ⟨A2,c2,rfl,hri⟩:=row_ri' hrow
   have hv:=hinv.finish (by rw [HX.out.1.len];omega) (by rw [HY.out.1.len];omega)
   have HF:=Lib.hid (And.intro hri (And.intro hinv.2.1 (And.intro hv hb)))
   have b1:¬ (k:Int)<n:=by omega
   have b2:¬ (k:Int)<n':=by omega
   clear hri hinv hv hb hk hgo hrow
   go_wp2
   go_ret
   exact ⟨A2,k,c2,zs,rfl,HF.out⟩
def Di (w:World) (v:Value) (a:Nat):Prop := ∃ A n c xs,v = .slice A n c∧Ri w A n c xs∧Dig B9 xs∧Norm xs∧val B9 xs=a
theorem Di.below {w w' : World} {v:Value} {a:Nat} (h:Di w v a) (hb:Below w.heap.size w w'):Di w' v a:=by
 obtain ⟨A,n,c,xs,hv,hr,hd,hn,ha⟩:=h
 exact ⟨A,n,c,xs,hv,hr.below hb,hd,hn,ha⟩
def GivesDi (w:World) (a:Nat) (e:Ending) (w' : World):Prop := ∃ v,e = .returned v∧Di w' v a∧Below w.heap.size w w'
def GivesDi2 (w:World) (a b:Nat) (e:Ending) (w' : World):Prop := ∃ v v',e = .returned (.tuple #[v,v'])∧Di w' v a∧Di w' v' b∧Below w.heap.size w w'
theorem trim_any (A:Option Addr) (n c:Nat) (xs:List Nat) (w:World) (h:Ri w A n c xs) (hd:Dig B9 xs) :
 Calls Tryz.prog 211 #[.slice A n c] w fun e w'=>(∃ v,e = .returned v∧Di w v (val B9 xs))∧w=w':=by
 refine (trim_raw A n c xs w h).mono ?_
 rintro e w' ⟨⟨k,⟨hk,hn,hv⟩,rfl⟩,rfl⟩
 exact ⟨⟨_,rfl,A,k,c,xs.take k,rfl,h.take (by rw [← h.len];exact hk),hd.take k,hn,hv⟩,rfl⟩
theorem val_set (B:Nat):∀ (l:List Nat) (p d:Nat) (h:p<l.length),val B (l.set p d)+B^p*l[p]=val B l+B^p*d
 | x::l,0,d,_=>by simp [val];omega
 | x::l,p+1,d,h=>by
   have:=val_set B l p d (by simpa using h)
   simp only [List.set_cons_succ,val,List.getElem_cons_succ,Nat.pow_succ]
   have e:B*(val B (l.set p d)+B^p*l[p]'(by simpa using h))=B*(val B l+B^p*d):=by rw [this]
   rw [Nat.mul_add,Nat.mul_add] at e
   have e1:B^p*B*l[p]'(by simpa using h)=B*(B^p*l[p]'(by simpa using h)):=by rw [Nat.mul_comm (B^p) B,Nat.mul_assoc]
   have e2:B^p*B*d=B*(B^p*d):=by rw [Nat.mul_comm (B^p) B,Nat.mul_assoc]
   rw [e1,e2]
   omega
theorem bi_of_made {w:World} {g base n:Nat} (h:w.ownsRow base 3 1 (.slice (some ⟨g,0,none⟩) n n) n (madeCells #[Value.int .i64 0] n).toList):Bi w g 3 (List.replicate n 0):=by
 refine Bi.of_own h ?_
 rw [toList_madeCells_one]
 simp [eH]
theorem getD_get {l:List Nat} {k x:Nat} (h:l[k]?=some x):l.getD k 0=x:=by simp [List.getD,h]
theorem subFacts {x y cy:Nat} (bx:x<1000000000) (by' : y<1000000000) (bc:cy≤1):∃ (d s:Int) (r q:Nat),(x:Int)-(y:Int)=d∧d-(cy:Int)=s∧wrap64 d=d∧wrap64 s=s∧r<1000000000∧q≤1 ∧
 (s=(r:Int)∧q=0∨(s<0∧s+1000000000=(r:Int)∧wrap64 (r:Int)=r∧q=1))∧r+y+cy=x+1000000000*q:=by
 by_cases h:y+cy≤x
 ·refine ⟨x-y,x-y-cy,x-y-cy,0,rfl,rfl,?_,?_,by omega,by omega,.inl ⟨by omega,rfl⟩,by omega⟩ <;> unfold wrap64 <;> omega
 ·refine ⟨x-y,x-y-cy,x+1000000000-y-cy,1,rfl,rfl,?_,?_,by omega,by omega,.inr ⟨by omega,by omega,fC (by omega),rfl⟩,by omega⟩ <;> unfold wrap64 <;> omega
theorem mulFacts {o x y cy:Nat} (bo:o<1000000000) (bx:x≤1000000000) (by' : y<1000000000) (bc:cy<1000000000):∃ u p s r q:Nat,(x:Int)*(y:Int)=(u:Int)∧(o:Int)+(u:Int)=(p:Int)∧(p:Int)+(cy:Int)=(s:Int) ∧
 wrap64 (u:Int)=u∧wrap64 (p:Int)=p∧wrap64 (s:Int)=s∧(s:Int).tmod 1000000000=(r:Int)∧(s:Int)%1000000000=(r:Int)∧(s:Int).tdiv 1000000000=(q:Int)∧(s:Int)/1000000000=(q:Int)∧wrap64 (q:Int)=q ∧
 s=o+x*y+cy∧r=s%1000000000∧q=s/1000000000∧(x<1000000000→q<1000000000)∧q≤1000000000:=by
 have h1:x*y≤1000000000*999999999:=Nat.mul_le_mul bx (by omega)
 have h2:x<1000000000→x*y≤999999999*999999999:=fun h=>Nat.mul_le_mul (by omega) (by omega)
 have h3:(x:Int)*(y:Int)=((x*y:Nat):Int):=by simp
 generalize x*y=u at *
 refine ⟨u,o+u,o+u+cy,(o+u+cy)%1000000000,(o+u+cy)/1000000000,h3,by omega,by omega,fC (by omega),fC (by omega),fC (by omega),?_,by omega,?_,by omega,fC (by omega),rfl,rfl,rfl,fun h=>?_,by omega⟩
 ·rw [Int.tmod_eq_emod_of_nonneg (by omega)];omega
 ·rw [Int.tdiv_eq_ediv_of_nonneg (by omega)];omega
 ·have:=h2 h;omega
theorem divFacts {rs x d:Nat} (hd:0<d) (hd1:d<1000000000) (hr:rs<d) (hx:x<1000000000):∃ u s q r:Nat,(rs:Int)*1000000000=(u:Int)∧(u:Int)+(x:Int)=(s:Int)∧wrap64 (u:Int)=u∧wrap64 (s:Int)=s ∧
 (s:Int).tdiv d=(q:Int)∧(s:Int)/d=(q:Int)∧(s:Int).tmod d=(r:Int)∧(s:Int)%d=(r:Int)∧wrap64 (q:Int)=q∧s=rs*1000000000+x∧q=s/d∧r=s%d∧r<d∧q<1000000000:=by
 have hq:(rs*1000000000+x)/d<1000000000:=by
  rw [Nat.div_lt_iff_lt_mul hd]
  have:(rs+1)*1000000000≤d*1000000000:=Nat.mul_le_mul_right _ hr
  omega
 refine ⟨rs*1000000000,rs*1000000000+x,(rs*1000000000+x)/d,(rs*1000000000+x)%d,by omega,by omega,fC (by omega),fC (by omega),?_,?_,?_,?_,fC (by omega),rfl,rfl,rfl,Nat.mod_lt _ hd,hq⟩
 ·rw [Int.tdiv_eq_ediv_of_nonneg (by omega)];simp
 ·simp
 ·rw [Int.tmod_eq_emod_of_nonneg (by omega)];simp
 ·simp
theorem not_neg (r:Nat):¬ (r:Int)<0:=Int.not_lt.2 (Int.natCast_nonneg r)
theorem gG {ops:Array Oper} {rest:List Oper} {o:Oper} {a:Act} {Q:Exit→Act→World→Prop} (hgd:o.guard=none) (s x:Operand)
 (ho:o.op = .call { callee := .builtin .append,args := #[s,x],argTypes := #[86,86] }) {B base k r:Nat} {v:Value} {zs:List Nat} {w w2:World} (hs:a.eval s=v) (hown:w2.ownsRow base 3 1 v k (zs.map eH))
 (hx:a.eval x = .slice (some ⟨w2.heap.size,0,none⟩) 1 1) (hk:k≤2199023255999) (hb:Below B w w2) (hB:B≤base) (hbase:base≤w2.heap.size)
 (h:∀ v' w',w'.ownsRow base 3 1 v' (k+1) ((zs ++ [r]).map eH)→Below B w w'→(w2.alloc (.cells #[.int .i64 (r:Int)] 3)).grownBy w' v.ownBlock→wpList Tryz.prog ops Q rest (a.put o.dst v') w') :
 wpList Tryz.prog ops Q (o::rest) a (w2.alloc (.cells #[.int .i64 (r:Int)] 3)):=by
 obtain ⟨i0,hi,hz0,hz1,hz2⟩:=info_parts info_int3
 refine wpList_append_own _ hgd s x 86 ho base 3 i0 (.int .i64 0) 1 8 Tryz.underlying86 hi hz0 hz1 hz2 rfl (by decide) v k (zs.map eH) hs (hown.alloc _) ⟨w2.heap.size,0,none⟩ 1 1 [.int .i64 (r:Int)] hx rfl ?_ ?_ ?_ ?_ ?_ ?_
 ·intro j u hj
  match j with
  | 0 =>
    simp only [List.getElem?_cons_zero,Option.some.injEq] at hj
    subst hj
    exact cell_of_blk (heap_alloc_new w2 _) 0
  | j+1=>simp at hj
 ·intro u hu;simp at hu;subst hu;rfl
 ·show k+1≤9223372036854775807;omega
 ·omega
 ·simp;omega
 ·intro v' w' h1 h2 _
  have hsz:=hb.size
  refine h v' w' (by rw [List.map_append];exact h1) ((hb.alloc (Nat.le_trans hB hbase) _).grown h2 (by simp;omega) (fun b hb'=>?_)) h2
  have:=row_own' hown b hb'
  omega
def DivJ (xs zs:List Nat) (d k r:Nat):Prop :=
 Dig B9 zs∧zs.length=xs.length∧r<d∧val B9 (zs.drop k)*d+r=val B9 (xs.drop k)
theorem DivJ.step {xs zs:List Nat} {d k r x:Nat} (h:DivJ xs zs d (k+1) r) (hx:xs[k]?=some x) (hq:(r*B9+x)/d<B9) :
 DivJ xs (zs.set k ((r*B9+x)/d)) d k ((r*B9+x)%d):=by
 obtain ⟨h1,h2,h3,h4⟩:=h
 obtain ⟨hk,ex⟩:=List.getElem?_eq_some_iff.1 hx
 refine ⟨h1.set hq,by simp [h2],Nat.mod_lt _ (by omega),?_⟩
 have e:(zs.set k ((r*B9+x)/d)).drop k=(r*B9+x)/d::zs.drop (k+1):=by
  rw [List.drop_eq_getElem_cons (by simp;omega),List.getElem_set_self,List.drop_set_of_lt (by omega)]
 rw [e,val_drop _ _ _ hk,ex]
 simp only [val]
 have:=Nat.div_add_mod (r*B9+x) d
 rw [← h4]
 generalize (r*B9+x)/d=q at *
 generalize (r*B9+x)%d=m at *
 clear hq h1 h3 e
 generalize B9=V at *
 grind
theorem DivJ.start (xs:List Nat) {d:Nat} (hd:0<d):DivJ xs (List.replicate xs.length 0) d xs.length 0:=⟨Dig.replicate cN _,by simp,hd,by simp [val]⟩
theorem DivJ.finish {xs zs:List Nat} {d r:Nat} (h:DivJ xs zs d 0 r):val B9 zs=val B9 xs/d∧r=val B9 xs%d:=by
 obtain ⟨_,_,h3,h4⟩:=h
 simp only [List.drop_zero] at h4
 rw [← h4]
 constructor
 ·rw [Nat.add_comm,Nat.add_mul_div_right _ _ (by omega),Nat.div_eq_of_lt h3];omega
 ·rw [Nat.add_comm,Nat.add_mul_mod_self_right,Nat.mod_eq_of_lt h3]
theorem ret_two' {a b c d:Value} (h:a=c) (h' : b=d):Ending.returned (.tuple #[a,b]) = .returned (.tuple #[c,d]):=by rw [h,h']
theorem val_i64 {a b:Nat} (h:a=b):Value.int .i64 (a:Int) = .int .i64 (b:Int):=by rw [h]
def GivesDiI (w:World) (a b:Nat) (e:Ending) (w' : World):Prop := ∃ v,e = .returned (.tuple #[v,.int .i64 (b:Int)])∧Di w' v a∧Below w.heap.size w w'
set_option maxHeartbeats 1000000 in
set_option maxRecDepth 100000 in
theorem divDigit_any (A:Option Addr) (n c:Nat) (xs:List Nat) (d:Nat) (w:World) (h:Ri w A n c xs) (hd:Dig B9 xs) (hn:n≤2199023255552) (hd0:0<d) (hd1:d<1000000000) :
 Calls Tryz.prog 210 #[.slice A n c,.int .i64 (d:Int)] w (GivesDiI w (val B9 xs/d) (val B9 xs%d)):=by
 have HX:=Lib.hid (And.intro h (And.intro hd (And.intro hd0 hd1)))
 have hnc:n≤c:=h.cap
 have hcm:c≤9223372036854775807:=h.2.2.1
 have hdz:((d:Int)==0)=false:=by simp;omega
 have hdz1:¬ (d:Int)=0:=by omega
 have hdz2:¬ (d:Int) = -1:=by omega
 have hdz3:((d:Int) == -1)=false:=by simp
 obtain ⟨i0,hi,hz0,hz1,hz2⟩:=info_parts info_int3
 have HI:=Lib.hid (And.intro hi (And.intro hz0 (And.intro hz1 hz2)))
 clear h hd hi hz0 hz1 hz2 hd0 hd1
 go_enter Tryz.func210,Tryz.ntmps210
 go_wp2_with (at_make;refine wpList_make_full _ rfl _ _ 86 rfl w.heap.size 3 i0 (.int .i64 0) 1 Tryz.underlying86 HI.out.1 HI.out.2.1 HI.out.2.2.1 _ _ _ _ n rfl rfl ?b0 ?b1 ?b2 ?b3 (Nat.le_refl _) ?_)
 case b0=>rfl
 case b1=>rfl
 case b2=>rw [HI.out.2.2.2];omega
 case b3=>show n≤9223372036854775807;omega
 intro w1 hown hg1
 have hb1:Below w.heap.size w w1:=(Below.refl _ _).grown hg1 (Nat.le_refl _) (fun k h=>by cases h)
 have hblk:=bi_of_made hown
 have e0:DivJ xs (List.replicate n 0) d n 0:=by
  have:=DivJ.start xs HX.out.2.2.1
  rwa [HX.out.1.len] at this
 have HB:=Lib.hid hblk
 have H0:=Lib.hid e0
 clear hown hg1 hblk e0
 obtain ⟨g,hg⟩:∃ g,g=w.heap.size:=⟨_,rfl⟩
 rw [← hg] at HB ⊢
 have HG:=Lib.hid hg
 clear hg
 go_wp2
 go_loopw [7,8] (fun rs i wr => ∃ (k r:Nat) (zs:List Nat),k≤n∧i = .int .i64 ((k:Int)-1)∧rs = .int .i64 (r:Int)∧DivJ xs zs d k r∧Bi wr g 3 zs∧Below w.heap.size w wr) (fun _ i _=>(intOf i+1).toNat)
 case atStart=>exact ⟨n,0,_,Nat.le_refl _,rfl,rfl,H0.out,HB.out,hb1⟩
 case round =>
  clear HB H0 hb1
  obtain ⟨k,r,zs,hk,rfl,rfl,hinv,hblk,hb⟩:=hrel
  have hzn:zs.length=n:=by rw [hinv.2.1,HX.out.1.len]
  rcases Nat.eq_zero_or_pos k with rfl|hk0
  ·have hrd:=hblk.rd (by rw [hzn];show n≤9223372036854775807;omega)
   rw [hzn] at hrd
   obtain ⟨f1,f2⟩:=hinv.finish
   have HF:=Lib.hid (And.intro hinv.1 (And.intro hrd (And.intro f1 (And.intro f2 hb))))
   clear hinv hblk hzn hrd f1 f2 hb
   simp only [show (((0:Nat):Int)-1) = -1 from rfl]
   go_wp2_with (go_at_call 211;refine (trim_any _ _ _ zs _ HF.out.2.1 HF.out.1).mono ?_;rintro e w' ⟨⟨v,rfl,hv⟩,rfl⟩)
   go_ret2
   exact ⟨v,ret_two' rfl (val_i64 HF.out.2.2.2.1),by rw [← HF.out.2.2.1];exact hv,HF.out.2.2.2.2⟩
  ·obtain ⟨m,rfl⟩:∃ m,k=m+1:=⟨k-1,by omega⟩
   obtain ⟨ad,x,rfl,_,hx,hcx⟩:=(HX.out.1.below hb).at_ (k:=m) (by omega)
   obtain ⟨u,s,q,r',e1,e2,e3,e4,t1,t2,t3,t4,t5,hs,hq,hr,hrd,hqb⟩:=divFacts HX.out.2.2.1 HX.out.2.2.2 hinv.2.2.1 (HX.out.2.1.at_ hx)
   have hst:=hinv.step hx (by rw [cV,← hs,← hq];exact hqb)
   rw [cV,← hs,← hq,← hr] at hst
   obtain ⟨z,hcz⟩:∃ z:Int,wr.cell? ⟨g,m,none⟩=some (.int .i64 z):=⟨_,hblk.cell_get (by omega)⟩
   have hfz:=hblk.frozen m
   have HE:=Lib.hid (And.intro hst (And.intro hblk (And.intro hb (by omega:m≤n))))
   have hidx:((m:Int)+1-1)=m:=by omega
   clear hx hblk hinv hst hk0 hzn hs hq hr hrd hqb hb
   simp only [Int.natCast_add,Int.natCast_one,hidx]
   clear hidx
   go_wp2
   go_roundw
   case rel=>exact ⟨m,r',zs.set m q,HE.out.2.2.2,by first|rfl|go_num|simp,by first|rfl|simp,HE.out.1,HE.out.2.1.set_ _ _,HE.out.2.2.1.setCell (by rw [HG.out];exact Nat.le_refl _) _⟩
   case measure =>
    clear e1 e2 e3 e4 t1 t2 t3 t4 t5 HE
    simp [intOf]
end Go.Proofs.YtofcdondmgojiaaGreatDoor
