/- Parts of the proof, joined. -/
import Derived.Test.YtejbgingjeedaaaGreatDoorJ10
import Derived.Test.YtejbgingjeedaaaGreatDoorJ4
import Derived.OwnWalk
set_option linter.unusedSimpArgs false
set_option linter.unusedVariables false
namespace Go.Proofs.YtejbgingjeedaaaGreatDoor.Ab
open Go.RowKit Go.Proofs.YtejbgingjeedaaaGreatDoor Pl
section
variable {a b c x y z u v d e:Rat}
theorem readRV (h:Wr a) (k:kA x y z):FitsW Tryz.prog Gl 80 [gP 67,tx (writeB a),gP 37,vS x y z] (.tup [.ag [nb a],.ag [nb x,nb y,nb z],.sc z0]):=by
 refine cA Tryz.func80 (by kernel_rfl) fun w00 hG=>?_;have hI:=aS hG
 refine jW hI 67 [tx (writeB a)] (xN h) Tryz.call67 ?_
 refine jW hI 37 [vS x y z] (gN k) Tryz.call37 ?_
 refine jC 69 [.fv (.nsl 2 31 [z0,z0])] (iF) Tryz.call69 ?_
 exact jR Tryz.func80
theorem readVV (h:kA a b c) (k:kA x y z):FitsW Tryz.prog Gl 59 [gP 37,vS a b c,gP 37,vS x y z] (.tup [.ag [nb a,nb b,nb c],.ag [nb x,nb y,nb z],.sc z0]):=by
 refine cA Tryz.func59 (by kernel_rfl) fun w00 hG=>?_;have hI:=aS hG
 refine jW hI 37 [vS a b c] (gN h) Tryz.call37 ?_
 refine jW hI 37 [vS x y z] (gN k) Tryz.call37 ?_
 refine jC 69 [.fv (.nsl 2 31 [z0,z0])] (iF) Tryz.call69 ?_
 exact jR Tryz.func59
theorem readVR (h:kA a b c) (k:Wr d):FitsW Tryz.prog Gl 66 [gP 37,vS a b c,gP 67,tx (writeB d)] (.tup [.ag [nb a,nb b,nb c],.ag [nb d],.sc z0]):=by
 refine cA Tryz.func66 (by kernel_rfl) fun w00 hG=>?_;have hI:=aS hG
 refine jW hI 37 [vS a b c] (gN h) Tryz.call37 ?_
 refine jW hI 67 [tx (writeB d)] (xN k) Tryz.call67 ?_
 refine jC 69 [.fv (.nsl 2 31 [z0,z0])] (iF) Tryz.call69 ?_
 exact jR Tryz.func66
abbrev uQ (q:Rat):AV Kn := .tup [.sc (bY (writeB q)),.sc z0]
abbrev fX (a b c:Rat):AV Kn := .tup [.ag [bY (writeB a),bY (writeB b),bY (writeB c)],.sc z0]
theorem apiAlongF (h:kA a b c) (k:kA x y z) (h0:(decide (a=0)&&decide (b=0)&&decide (c=0))=false) (hc:(decide (b*z-c*y=0)&&decide (c*x-a*z=0)&&decide (a*y-b*x=0))=true)
 (hs:dt a b c a b c≠0) (hr:Wr (dt x y z a b c/dt a b c a b c)):FitsW Tryz.prog Gl 21 [vS a b c,vS x y z] (uQ (dt x y z a b c/dt a b c a b c)):=by
 have l1:=h.1.lf
 have l2:=h.2.1.lf
 have l3:=h.2.2.lf
 have m1:=k.1.lf
 have m2:=k.2.1.lf
 have m3:=k.2.2.lf
 refine cA Tryz.func21 (by kernel_rfl) fun w00 hG=>?_;have hI:=aS hG
 refine jW hI 59 [gP 37,vS a b c,gP 37,vS x y z] (readVV h k) Tryz.call59 ?_
 refine jC 60 [vc a b c] (eZ h0) Tryz.call60 ?_
 refine jC 61 [vc a b c,vc x y z] (xJ (l1.mono (by decide)) (l2.mono (by decide)) (l3.mono (by decide)) (m1.mono (by decide)) (m2.mono (by decide)) (m3.mono (by decide))) Tryz.call61 ?_
 refine jC 60 [vc (b*z-c*y) (c*x-a*z) (a*y-b*x)] (eZ hc) Tryz.call60 ?_
 refine jC 62 [vc x y z,vc a b c] (nM (m1.mono (by decide)) (m2.mono (by decide)) (m3.mono (by decide)) (l1.mono (by decide)) (l2.mono (by decide)) (l3.mono (by decide))) Tryz.call62 ?_
 refine jC 64 [vc a b c] (oY (l1.mono (by decide)) (l2.mono (by decide)) (l3.mono (by decide))) Tryz.call64 ?_
 refine jC 63 [num (dt x y z a b c),num (dt a b c a b c)] (pT (iX (n:=38) (m1.mono (by decide)) (m2.mono (by decide)) (m3.mono (by decide)) (l1.mono (by decide)) (l2.mono (by decide)) (l3.mono (by decide)) (by decide)) (iX (n:=38) (l1.mono (by decide)) (l2.mono (by decide)) (l3.mono (by decide)) (l1.mono (by decide)) (l2.mono (by decide)) (l3.mono (by decide)) (by decide)) hs) Tryz.call63 ?_
 refine jW hI 58 [num (dt x y z a b c/dt a b c a b c)] (tK (hr.lf.mono (by decide)) hr.n hr.d) Tryz.call58 ?_
 exact jR Tryz.func21
end
def wn (q:Rat) (n:Nat):Nat:=if q=0 then n else Nat.gcd q.num.natAbs n
def wd (q:Rat) (d:Nat):Nat:=if q=0 then d else d*(q.den/Nat.gcd q.den d)
def bO (a b c:Rat):Rat:=mkRat (sg false (wd c (wd b (wd a 1)))) (wn c (wn b (wn a 0)))
theorem kR {q:Rat} {n:Nat} (h:q≠0):0<wn q n:=by
 unfold wn
 rw [if_neg h]
 have:0<q.num.natAbs:=by
  have:q.num≠0:=fun e=>h (Rat.num_eq_zero.1 e)
  omega
 exact Nat.gcd_pos_of_pos_left _ this
theorem nA {q:Rat} {n:Nat} (h:0<n):0<wn q n:=by
 unfold wn
 split
 ·exact h
 ·exact Nat.gcd_pos_of_pos_right _ h
theorem dH {q:Rat} {n k:Nat} (hq:Lf k q) (hn:Lv k n):Lv k (wn q n):=by
 unfold wn
 split
 ·exact hn
 ·rename_i h
  have:q.num≠0:=fun e=>h (Rat.num_eq_zero.1 e)
  exact hq.1.le (Nat.gcd_le_left _ (by omega))
theorem lv_wd {q:Rat} {d k:Nat} (hq:Lf k q) (hd:Lv k d):Lv (k+1) (wd q d):=by
 unfold wd
 split
 ·exact hd.mono (by omega)
 ·exact hd.mul (hq.2.le (Nat.div_le_self _ _))
theorem qJ {β:List Nat} {v:Value} {w:World} (h:(AV.fv (.sc (.lit (.slice none 0 0))):AV Kn).holds β v w):(nt 0).holds β v w:=by
 rw [aN h]
 exact dL.2 (Nt.zero w)
theorem iV {q:Rat} (h:¬ q=0):0<q.num.natAbs:=by
 have:q.num≠0:=fun e=>h (Rat.num_eq_zero.1 e)
 omega
section
variable {a b c:Rat}
theorem whole_111 (la:Lf 30 a) (lb:Lf 30 b) (lc:Lf 30 c) (ha:¬ a=0) (hb:¬ b=0) (hc:¬ c=0):Fits Tryz.prog 197 [vc a b c] (num (bO a b c)):=by
 have e:bO a b c=mkRat (sg false ((((1)*(a.den/Nat.gcd a.den (1)))*(b.den/Nat.gcd b.den ((1)*(a.den/Nat.gcd a.den (1)))))*(c.den/Nat.gcd c.den (((1)*(a.den/Nat.gcd a.den (1)))*(b.den/Nat.gcd b.den ((1)*(a.den/Nat.gcd a.den (1)))))))) (Nat.gcd c.num.natAbs (Nat.gcd b.num.natAbs (Nat.gcd a.num.natAbs (0)))):=by
  unfold bO wn wd
  simp only [if_neg ha,if_neg hb,if_neg hc]
 have lN:Lv 30 (Nat.gcd c.num.natAbs (Nat.gcd b.num.natAbs (Nat.gcd a.num.natAbs (0)))):=by
  have:=dH (k:=30) lc (dH lb (dH la (n:=0) (Lv.one _ (by rw [aJ];omega))))
  unfold wn at this
  simpa only [if_neg ha,if_neg hb,if_neg hc] using this
 have lD0:Lv 31 ((1)*(a.den/Nat.gcd a.den (1))):=(show Lv 30 (1) from (Lv.one _ (by rw [aJ];omega))).mul (la.2.mono (by omega) |>.le (Nat.div_le_self _ _))
 have lD1:Lv 32 (((1)*(a.den/Nat.gcd a.den (1)))*(b.den/Nat.gcd b.den ((1)*(a.den/Nat.gcd a.den (1))))):=(show Lv 31 ((1)*(a.den/Nat.gcd a.den (1))) from lD0.mono (by omega)).mul (lb.2.mono (by omega) |>.le (Nat.div_le_self _ _))
 have lD2:Lv 33 ((((1)*(a.den/Nat.gcd a.den (1)))*(b.den/Nat.gcd b.den ((1)*(a.den/Nat.gcd a.den (1)))))*(c.den/Nat.gcd c.den (((1)*(a.den/Nat.gcd a.den (1)))*(b.den/Nat.gcd b.den ((1)*(a.den/Nat.gcd a.den (1))))))):=(show Lv 32 (((1)*(a.den/Nat.gcd a.den (1)))*(b.den/Nat.gcd b.den ((1)*(a.den/Nat.gcd a.den (1))))) from lD1.mono (by omega)).mul (lc.2.mono (by omega) |>.le (Nat.div_le_self _ _))
 have hN:0<Nat.gcd c.num.natAbs (Nat.gcd b.num.natAbs (Nat.gcd a.num.natAbs (0))):=by
  have:=(show 0<wn c (wn b (wn a 0)) from kR hc)
  unfold wn at this
  simpa only [if_neg ha,if_neg hb,if_neg hc] using this
 rw [e]
 refine jG Tryz.func197 fun w00=>?_
 refine jC 120 [.fv (.sc (.lit (.int .u64 ((1:Nat):Int))))] (fW (by rw [aJ];omega)) Tryz.call120 ?_
 refine jC 81 [num a] (bK (b:=false) (by simpa using ha)) Tryz.call81 ?_
 refine jC 142 [num a] (cE) Tryz.call142 ?_
 refine jC 116 [nt a.num.natAbs,.fv (.sc (.lit (.slice none 0 0)))] (Fits.args (gV (b:=0) (la.1.mono (by omega)) (Lv.one _ (by rw [aJ];omega)) (.inl (iV ha))) (fun β vs w ⟨v,r,e,k1,⟨v2,r2,e2,k2,k3⟩⟩=>⟨v,r,e,k1,v2,r2,e2,qJ k2,k3⟩)) Tryz.call116 ?_
 refine jC 116 [nt a.den,nt (1)] (gV (la.2.mono (by omega)) (Lv.one _ (by rw [aJ];omega)) (.inl a.den_pos)) Tryz.call116 ?_
 refine jC 117 [nt a.den,nt (Nat.gcd a.den (1))] (eN (la.2.mono (by omega)) (Nat.gcd_pos_of_pos_left _ a.den_pos)) Tryz.call117 ?_
 refine jC 119 [nt (1),nt (a.den/Nat.gcd a.den (1))] (fR (Lv.one _ (by rw [aJ];omega)) ((la.2.mono (by omega)).le (Nat.div_le_self _ _))) Tryz.call119 ?_
 refine jC 81 [num b] (bK (b:=false) (by simpa using hb)) Tryz.call81 ?_
 refine jC 142 [num b] (cE) Tryz.call142 ?_
 refine jC 116 [nt b.num.natAbs,nt (Nat.gcd a.num.natAbs (0))] (gV (lb.1.mono (by omega)) (Lv.mono (k:=30) (by have:=dH (k:=30) la (n:=0) (Lv.one _ (by rw [aJ];omega));unfold wn at this;simpa only [if_neg ha] using this) (by omega)) (.inl (iV hb))) Tryz.call116 ?_
 refine jC 116 [nt b.den,nt ((1)*(a.den/Nat.gcd a.den (1)))] (gV (lb.2.mono (by omega)) (lD0.mono (by omega)) (.inl b.den_pos)) Tryz.call116 ?_
 refine jC 117 [nt b.den,nt (Nat.gcd b.den ((1)*(a.den/Nat.gcd a.den (1))))] (eN (lb.2.mono (by omega)) (Nat.gcd_pos_of_pos_left _ b.den_pos)) Tryz.call117 ?_
 refine jC 119 [nt ((1)*(a.den/Nat.gcd a.den (1))),nt (b.den/Nat.gcd b.den ((1)*(a.den/Nat.gcd a.den (1))))] (fR (lD0.mono (by omega)) ((lb.2.mono (by omega)).le (Nat.div_le_self _ _))) Tryz.call119 ?_
 refine jC 81 [num c] (bK (b:=false) (by simpa using hc)) Tryz.call81 ?_
 refine jC 142 [num c] (cE) Tryz.call142 ?_
 refine jC 116 [nt c.num.natAbs,nt (Nat.gcd b.num.natAbs (Nat.gcd a.num.natAbs (0)))] (gV (lc.1.mono (by omega)) (Lv.mono (k:=30) (by have:=dH (k:=30) lb (dH la (n:=0) (Lv.one _ (by rw [aJ];omega)));unfold wn at this;simpa only [if_neg ha,if_neg hb] using this) (by omega)) (.inl (iV hc))) Tryz.call116 ?_
 refine jC 116 [nt c.den,nt (((1)*(a.den/Nat.gcd a.den (1)))*(b.den/Nat.gcd b.den ((1)*(a.den/Nat.gcd a.den (1)))))] (gV (lc.2.mono (by omega)) (lD1.mono (by omega)) (.inl c.den_pos)) Tryz.call116 ?_
 refine jC 117 [nt c.den,nt (Nat.gcd c.den (((1)*(a.den/Nat.gcd a.den (1)))*(b.den/Nat.gcd b.den ((1)*(a.den/Nat.gcd a.den (1))))))] (eN (lc.2.mono (by omega)) (Nat.gcd_pos_of_pos_left _ c.den_pos)) Tryz.call117 ?_
 refine jC 119 [nt (((1)*(a.den/Nat.gcd a.den (1)))*(b.den/Nat.gcd b.den ((1)*(a.den/Nat.gcd a.den (1))))),nt (c.den/Nat.gcd c.den (((1)*(a.den/Nat.gcd a.den (1)))*(b.den/Nat.gcd b.den ((1)*(a.den/Nat.gcd a.den (1))))))] (fR (lD1.mono (by omega)) ((lc.2.mono (by omega)).le (Nat.div_le_self _ _))) Tryz.call119 ?_
 refine jC 55 [bl false,nt ((((1)*(a.den/Nat.gcd a.den (1)))*(b.den/Nat.gcd b.den ((1)*(a.den/Nat.gcd a.den (1)))))*(c.den/Nat.gcd c.den (((1)*(a.den/Nat.gcd a.den (1)))*(b.den/Nat.gcd b.den ((1)*(a.den/Nat.gcd a.den (1))))))),nt (Nat.gcd c.num.natAbs (Nat.gcd b.num.natAbs (Nat.gcd a.num.natAbs (0))))] (oE (lD2.mono (by omega)) (lN.mono (by omega)) hN) Tryz.call55 ?_
 refine jC 57 [fra (mkRat (sg false ((((1)*(a.den/Nat.gcd a.den (1)))*(b.den/Nat.gcd b.den ((1)*(a.den/Nat.gcd a.den (1)))))*(c.den/Nat.gcd c.den (((1)*(a.den/Nat.gcd a.den (1)))*(b.den/Nat.gcd b.den ((1)*(a.den/Nat.gcd a.den (1)))))))) (Nat.gcd c.num.natAbs (Nat.gcd b.num.natAbs (Nat.gcd a.num.natAbs (0)))))] (jH) Tryz.call57 ?_
 exact jR Tryz.func197
theorem whole_110 (la:Lf 30 a) (lb:Lf 30 b) (lc:Lf 30 c) (ha:¬ a=0) (hb:¬ b=0) (hc:c=0):Fits Tryz.prog 197 [vc a b c] (num (bO a b c)):=by
 have e:bO a b c=mkRat (sg false (((1)*(a.den/Nat.gcd a.den (1)))*(b.den/Nat.gcd b.den ((1)*(a.den/Nat.gcd a.den (1)))))) (Nat.gcd b.num.natAbs (Nat.gcd a.num.natAbs (0))):=by
  unfold bO wn wd
  simp only [if_neg ha,if_neg hb,if_pos hc]
 have lN:Lv 30 (Nat.gcd b.num.natAbs (Nat.gcd a.num.natAbs (0))):=by
  have:=dH (k:=30) lc (dH lb (dH la (n:=0) (Lv.one _ (by rw [aJ];omega))))
  unfold wn at this
  simpa only [if_neg ha,if_neg hb,if_pos hc] using this
 have lD0:Lv 31 ((1)*(a.den/Nat.gcd a.den (1))):=(show Lv 30 (1) from (Lv.one _ (by rw [aJ];omega))).mul (la.2.mono (by omega) |>.le (Nat.div_le_self _ _))
 have lD1:Lv 32 (((1)*(a.den/Nat.gcd a.den (1)))*(b.den/Nat.gcd b.den ((1)*(a.den/Nat.gcd a.den (1))))):=(show Lv 31 ((1)*(a.den/Nat.gcd a.den (1))) from lD0.mono (by omega)).mul (lb.2.mono (by omega) |>.le (Nat.div_le_self _ _))
 have hN:0<Nat.gcd b.num.natAbs (Nat.gcd a.num.natAbs (0)):=by
  have:=(show 0<wn c (wn b (wn a 0)) from nA (kR hb))
  unfold wn at this
  simpa only [if_neg ha,if_neg hb,if_pos hc] using this
 rw [e]
 refine jG Tryz.func197 fun w00=>?_
 refine jC 120 [.fv (.sc (.lit (.int .u64 ((1:Nat):Int))))] (fW (by rw [aJ];omega)) Tryz.call120 ?_
 refine jC 81 [num a] (bK (b:=false) (by simpa using ha)) Tryz.call81 ?_
 refine jC 142 [num a] (cE) Tryz.call142 ?_
 refine jC 116 [nt a.num.natAbs,.fv (.sc (.lit (.slice none 0 0)))] (Fits.args (gV (b:=0) (la.1.mono (by omega)) (Lv.one _ (by rw [aJ];omega)) (.inl (iV ha))) (fun β vs w ⟨v,r,e,k1,⟨v2,r2,e2,k2,k3⟩⟩=>⟨v,r,e,k1,v2,r2,e2,qJ k2,k3⟩)) Tryz.call116 ?_
 refine jC 116 [nt a.den,nt (1)] (gV (la.2.mono (by omega)) (Lv.one _ (by rw [aJ];omega)) (.inl a.den_pos)) Tryz.call116 ?_
 refine jC 117 [nt a.den,nt (Nat.gcd a.den (1))] (eN (la.2.mono (by omega)) (Nat.gcd_pos_of_pos_left _ a.den_pos)) Tryz.call117 ?_
 refine jC 119 [nt (1),nt (a.den/Nat.gcd a.den (1))] (fR (Lv.one _ (by rw [aJ];omega)) ((la.2.mono (by omega)).le (Nat.div_le_self _ _))) Tryz.call119 ?_
 refine jC 81 [num b] (bK (b:=false) (by simpa using hb)) Tryz.call81 ?_
 refine jC 142 [num b] (cE) Tryz.call142 ?_
 refine jC 116 [nt b.num.natAbs,nt (Nat.gcd a.num.natAbs (0))] (gV (lb.1.mono (by omega)) (Lv.mono (k:=30) (by have:=dH (k:=30) la (n:=0) (Lv.one _ (by rw [aJ];omega));unfold wn at this;simpa only [if_neg ha] using this) (by omega)) (.inl (iV hb))) Tryz.call116 ?_
 refine jC 116 [nt b.den,nt ((1)*(a.den/Nat.gcd a.den (1)))] (gV (lb.2.mono (by omega)) (lD0.mono (by omega)) (.inl b.den_pos)) Tryz.call116 ?_
 refine jC 117 [nt b.den,nt (Nat.gcd b.den ((1)*(a.den/Nat.gcd a.den (1))))] (eN (lb.2.mono (by omega)) (Nat.gcd_pos_of_pos_left _ b.den_pos)) Tryz.call117 ?_
 refine jC 119 [nt ((1)*(a.den/Nat.gcd a.den (1))),nt (b.den/Nat.gcd b.den ((1)*(a.den/Nat.gcd a.den (1))))] (fR (lD0.mono (by omega)) ((lb.2.mono (by omega)).le (Nat.div_le_self _ _))) Tryz.call119 ?_
 refine jC 81 [num c] (bK (b:=true) (by simpa using hc)) Tryz.call81 ?_
 refine jC 55 [bl false,nt (((1)*(a.den/Nat.gcd a.den (1)))*(b.den/Nat.gcd b.den ((1)*(a.den/Nat.gcd a.den (1))))),nt (Nat.gcd b.num.natAbs (Nat.gcd a.num.natAbs (0)))] (oE (lD1.mono (by omega)) (lN.mono (by omega)) hN) Tryz.call55 ?_
 refine jC 57 [fra (mkRat (sg false (((1)*(a.den/Nat.gcd a.den (1)))*(b.den/Nat.gcd b.den ((1)*(a.den/Nat.gcd a.den (1)))))) (Nat.gcd b.num.natAbs (Nat.gcd a.num.natAbs (0))))] (jH) Tryz.call57 ?_
 exact jR Tryz.func197
theorem whole_101 (la:Lf 30 a) (lb:Lf 30 b) (lc:Lf 30 c) (ha:¬ a=0) (hb:b=0) (hc:¬ c=0):Fits Tryz.prog 197 [vc a b c] (num (bO a b c)):=by
 have e:bO a b c=mkRat (sg false (((1)*(a.den/Nat.gcd a.den (1)))*(c.den/Nat.gcd c.den ((1)*(a.den/Nat.gcd a.den (1)))))) (Nat.gcd c.num.natAbs (Nat.gcd a.num.natAbs (0))):=by
  unfold bO wn wd
  simp only [if_neg ha,if_pos hb,if_neg hc]
 have lN:Lv 30 (Nat.gcd c.num.natAbs (Nat.gcd a.num.natAbs (0))):=by
  have:=dH (k:=30) lc (dH lb (dH la (n:=0) (Lv.one _ (by rw [aJ];omega))))
  unfold wn at this
  simpa only [if_neg ha,if_pos hb,if_neg hc] using this
 have lD0:Lv 31 ((1)*(a.den/Nat.gcd a.den (1))):=(show Lv 30 (1) from (Lv.one _ (by rw [aJ];omega))).mul (la.2.mono (by omega) |>.le (Nat.div_le_self _ _))
 have lD2:Lv 33 (((1)*(a.den/Nat.gcd a.den (1)))*(c.den/Nat.gcd c.den ((1)*(a.den/Nat.gcd a.den (1))))):=(show Lv 32 ((1)*(a.den/Nat.gcd a.den (1))) from lD0.mono (by omega)).mul (lc.2.mono (by omega) |>.le (Nat.div_le_self _ _))
 have hN:0<Nat.gcd c.num.natAbs (Nat.gcd a.num.natAbs (0)):=by
  have:=(show 0<wn c (wn b (wn a 0)) from kR hc)
  unfold wn at this
  simpa only [if_neg ha,if_pos hb,if_neg hc] using this
 rw [e]
 refine jG Tryz.func197 fun w00=>?_
 refine jC 120 [.fv (.sc (.lit (.int .u64 ((1:Nat):Int))))] (fW (by rw [aJ];omega)) Tryz.call120 ?_
 refine jC 81 [num a] (bK (b:=false) (by simpa using ha)) Tryz.call81 ?_
 refine jC 142 [num a] (cE) Tryz.call142 ?_
 refine jC 116 [nt a.num.natAbs,.fv (.sc (.lit (.slice none 0 0)))] (Fits.args (gV (b:=0) (la.1.mono (by omega)) (Lv.one _ (by rw [aJ];omega)) (.inl (iV ha))) (fun β vs w ⟨v,r,e,k1,⟨v2,r2,e2,k2,k3⟩⟩=>⟨v,r,e,k1,v2,r2,e2,qJ k2,k3⟩)) Tryz.call116 ?_
 refine jC 116 [nt a.den,nt (1)] (gV (la.2.mono (by omega)) (Lv.one _ (by rw [aJ];omega)) (.inl a.den_pos)) Tryz.call116 ?_
 refine jC 117 [nt a.den,nt (Nat.gcd a.den (1))] (eN (la.2.mono (by omega)) (Nat.gcd_pos_of_pos_left _ a.den_pos)) Tryz.call117 ?_
 refine jC 119 [nt (1),nt (a.den/Nat.gcd a.den (1))] (fR (Lv.one _ (by rw [aJ];omega)) ((la.2.mono (by omega)).le (Nat.div_le_self _ _))) Tryz.call119 ?_
 refine jC 81 [num b] (bK (b:=true) (by simpa using hb)) Tryz.call81 ?_
 refine jC 81 [num c] (bK (b:=false) (by simpa using hc)) Tryz.call81 ?_
 refine jC 142 [num c] (cE) Tryz.call142 ?_
 refine jC 116 [nt c.num.natAbs,nt (Nat.gcd a.num.natAbs (0))] (gV (lc.1.mono (by omega)) (Lv.mono (k:=30) (by have:=dH (k:=30) lb (dH la (n:=0) (Lv.one _ (by rw [aJ];omega)));unfold wn at this;simpa only [if_neg ha,if_pos hb] using this) (by omega)) (.inl (iV hc))) Tryz.call116 ?_
 refine jC 116 [nt c.den,nt ((1)*(a.den/Nat.gcd a.den (1)))] (gV (lc.2.mono (by omega)) (lD0.mono (by omega)) (.inl c.den_pos)) Tryz.call116 ?_
 refine jC 117 [nt c.den,nt (Nat.gcd c.den ((1)*(a.den/Nat.gcd a.den (1))))] (eN (lc.2.mono (by omega)) (Nat.gcd_pos_of_pos_left _ c.den_pos)) Tryz.call117 ?_
 refine jC 119 [nt ((1)*(a.den/Nat.gcd a.den (1))),nt (c.den/Nat.gcd c.den ((1)*(a.den/Nat.gcd a.den (1))))] (fR (lD0.mono (by omega)) ((lc.2.mono (by omega)).le (Nat.div_le_self _ _))) Tryz.call119 ?_
 refine jC 55 [bl false,nt (((1)*(a.den/Nat.gcd a.den (1)))*(c.den/Nat.gcd c.den ((1)*(a.den/Nat.gcd a.den (1))))),nt (Nat.gcd c.num.natAbs (Nat.gcd a.num.natAbs (0)))] (oE (lD2.mono (by omega)) (lN.mono (by omega)) hN) Tryz.call55 ?_
 refine jC 57 [fra (mkRat (sg false (((1)*(a.den/Nat.gcd a.den (1)))*(c.den/Nat.gcd c.den ((1)*(a.den/Nat.gcd a.den (1)))))) (Nat.gcd c.num.natAbs (Nat.gcd a.num.natAbs (0))))] (jH) Tryz.call57 ?_
 exact jR Tryz.func197
theorem whole_100 (la:Lf 30 a) (lb:Lf 30 b) (lc:Lf 30 c) (ha:¬ a=0) (hb:b=0) (hc:c=0):Fits Tryz.prog 197 [vc a b c] (num (bO a b c)):=by
 have e:bO a b c=mkRat (sg false ((1)*(a.den/Nat.gcd a.den (1)))) (Nat.gcd a.num.natAbs (0)):=by
  unfold bO wn wd
  simp only [if_neg ha,if_pos hb,if_pos hc]
 have lN:Lv 30 (Nat.gcd a.num.natAbs (0)):=by
  have:=dH (k:=30) lc (dH lb (dH la (n:=0) (Lv.one _ (by rw [aJ];omega))))
  unfold wn at this
  simpa only [if_neg ha,if_pos hb,if_pos hc] using this
 have lD0:Lv 31 ((1)*(a.den/Nat.gcd a.den (1))):=(show Lv 30 (1) from (Lv.one _ (by rw [aJ];omega))).mul (la.2.mono (by omega) |>.le (Nat.div_le_self _ _))
 have hN:0<Nat.gcd a.num.natAbs (0):=by
  have:=(show 0<wn c (wn b (wn a 0)) from nA (nA (kR ha)))
  unfold wn at this
  simpa only [if_neg ha,if_pos hb,if_pos hc] using this
 rw [e]
 refine jG Tryz.func197 fun w00=>?_
 refine jC 120 [.fv (.sc (.lit (.int .u64 ((1:Nat):Int))))] (fW (by rw [aJ];omega)) Tryz.call120 ?_
 refine jC 81 [num a] (bK (b:=false) (by simpa using ha)) Tryz.call81 ?_
 refine jC 142 [num a] (cE) Tryz.call142 ?_
 refine jC 116 [nt a.num.natAbs,.fv (.sc (.lit (.slice none 0 0)))] (Fits.args (gV (b:=0) (la.1.mono (by omega)) (Lv.one _ (by rw [aJ];omega)) (.inl (iV ha))) (fun β vs w ⟨v,r,e,k1,⟨v2,r2,e2,k2,k3⟩⟩=>⟨v,r,e,k1,v2,r2,e2,qJ k2,k3⟩)) Tryz.call116 ?_
 refine jC 116 [nt a.den,nt (1)] (gV (la.2.mono (by omega)) (Lv.one _ (by rw [aJ];omega)) (.inl a.den_pos)) Tryz.call116 ?_
 refine jC 117 [nt a.den,nt (Nat.gcd a.den (1))] (eN (la.2.mono (by omega)) (Nat.gcd_pos_of_pos_left _ a.den_pos)) Tryz.call117 ?_
 refine jC 119 [nt (1),nt (a.den/Nat.gcd a.den (1))] (fR (Lv.one _ (by rw [aJ];omega)) ((la.2.mono (by omega)).le (Nat.div_le_self _ _))) Tryz.call119 ?_
 refine jC 81 [num b] (bK (b:=true) (by simpa using hb)) Tryz.call81 ?_
 refine jC 81 [num c] (bK (b:=true) (by simpa using hc)) Tryz.call81 ?_
 refine jC 55 [bl false,nt ((1)*(a.den/Nat.gcd a.den (1))),nt (Nat.gcd a.num.natAbs (0))] (oE (lD0.mono (by omega)) (lN.mono (by omega)) hN) Tryz.call55 ?_
 refine jC 57 [fra (mkRat (sg false ((1)*(a.den/Nat.gcd a.den (1)))) (Nat.gcd a.num.natAbs (0)))] (jH) Tryz.call57 ?_
 exact jR Tryz.func197
theorem whole_011 (la:Lf 30 a) (lb:Lf 30 b) (lc:Lf 30 c) (ha:a=0) (hb:¬ b=0) (hc:¬ c=0):Fits Tryz.prog 197 [vc a b c] (num (bO a b c)):=by
 have e:bO a b c=mkRat (sg false (((1)*(b.den/Nat.gcd b.den (1)))*(c.den/Nat.gcd c.den ((1)*(b.den/Nat.gcd b.den (1)))))) (Nat.gcd c.num.natAbs (Nat.gcd b.num.natAbs (0))):=by
  unfold bO wn wd
  simp only [if_pos ha,if_neg hb,if_neg hc]
 have lN:Lv 30 (Nat.gcd c.num.natAbs (Nat.gcd b.num.natAbs (0))):=by
  have:=dH (k:=30) lc (dH lb (dH la (n:=0) (Lv.one _ (by rw [aJ];omega))))
  unfold wn at this
  simpa only [if_pos ha,if_neg hb,if_neg hc] using this
 have lD1:Lv 32 ((1)*(b.den/Nat.gcd b.den (1))):=(show Lv 31 (1) from (Lv.one _ (by rw [aJ];omega))).mul (lb.2.mono (by omega) |>.le (Nat.div_le_self _ _))
 have lD2:Lv 33 (((1)*(b.den/Nat.gcd b.den (1)))*(c.den/Nat.gcd c.den ((1)*(b.den/Nat.gcd b.den (1))))):=(show Lv 32 ((1)*(b.den/Nat.gcd b.den (1))) from lD1.mono (by omega)).mul (lc.2.mono (by omega) |>.le (Nat.div_le_self _ _))
 have hN:0<Nat.gcd c.num.natAbs (Nat.gcd b.num.natAbs (0)):=by
  have:=(show 0<wn c (wn b (wn a 0)) from kR hc)
  unfold wn at this
  simpa only [if_pos ha,if_neg hb,if_neg hc] using this
 rw [e]
 refine jG Tryz.func197 fun w00=>?_
 refine jC 120 [.fv (.sc (.lit (.int .u64 ((1:Nat):Int))))] (fW (by rw [aJ];omega)) Tryz.call120 ?_
 refine jC 81 [num a] (bK (b:=true) (by simpa using ha)) Tryz.call81 ?_
 refine jC 81 [num b] (bK (b:=false) (by simpa using hb)) Tryz.call81 ?_
 refine jC 142 [num b] (cE) Tryz.call142 ?_
 refine jC 116 [nt b.num.natAbs,.fv (.sc (.lit (.slice none 0 0)))] (Fits.args (gV (b:=0) (lb.1.mono (by omega)) (Lv.one _ (by rw [aJ];omega)) (.inl (iV hb))) (fun β vs w ⟨v,r,e,k1,⟨v2,r2,e2,k2,k3⟩⟩=>⟨v,r,e,k1,v2,r2,e2,qJ k2,k3⟩)) Tryz.call116 ?_
 refine jC 116 [nt b.den,nt (1)] (gV (lb.2.mono (by omega)) (Lv.one _ (by rw [aJ];omega)) (.inl b.den_pos)) Tryz.call116 ?_
 refine jC 117 [nt b.den,nt (Nat.gcd b.den (1))] (eN (lb.2.mono (by omega)) (Nat.gcd_pos_of_pos_left _ b.den_pos)) Tryz.call117 ?_
 refine jC 119 [nt (1),nt (b.den/Nat.gcd b.den (1))] (fR (Lv.one _ (by rw [aJ];omega)) ((lb.2.mono (by omega)).le (Nat.div_le_self _ _))) Tryz.call119 ?_
 refine jC 81 [num c] (bK (b:=false) (by simpa using hc)) Tryz.call81 ?_
 refine jC 142 [num c] (cE) Tryz.call142 ?_
 refine jC 116 [nt c.num.natAbs,nt (Nat.gcd b.num.natAbs (0))] (gV (lc.1.mono (by omega)) (Lv.mono (k:=30) (by have:=dH (k:=30) lb (dH la (n:=0) (Lv.one _ (by rw [aJ];omega)));unfold wn at this;simpa only [if_pos ha,if_neg hb] using this) (by omega)) (.inl (iV hc))) Tryz.call116 ?_
 refine jC 116 [nt c.den,nt ((1)*(b.den/Nat.gcd b.den (1)))] (gV (lc.2.mono (by omega)) (lD1.mono (by omega)) (.inl c.den_pos)) Tryz.call116 ?_
 refine jC 117 [nt c.den,nt (Nat.gcd c.den ((1)*(b.den/Nat.gcd b.den (1))))] (eN (lc.2.mono (by omega)) (Nat.gcd_pos_of_pos_left _ c.den_pos)) Tryz.call117 ?_
 refine jC 119 [nt ((1)*(b.den/Nat.gcd b.den (1))),nt (c.den/Nat.gcd c.den ((1)*(b.den/Nat.gcd b.den (1))))] (fR (lD1.mono (by omega)) ((lc.2.mono (by omega)).le (Nat.div_le_self _ _))) Tryz.call119 ?_
 refine jC 55 [bl false,nt (((1)*(b.den/Nat.gcd b.den (1)))*(c.den/Nat.gcd c.den ((1)*(b.den/Nat.gcd b.den (1))))),nt (Nat.gcd c.num.natAbs (Nat.gcd b.num.natAbs (0)))] (oE (lD2.mono (by omega)) (lN.mono (by omega)) hN) Tryz.call55 ?_
 refine jC 57 [fra (mkRat (sg false (((1)*(b.den/Nat.gcd b.den (1)))*(c.den/Nat.gcd c.den ((1)*(b.den/Nat.gcd b.den (1)))))) (Nat.gcd c.num.natAbs (Nat.gcd b.num.natAbs (0))))] (jH) Tryz.call57 ?_
 exact jR Tryz.func197
theorem whole_010 (la:Lf 30 a) (lb:Lf 30 b) (lc:Lf 30 c) (ha:a=0) (hb:¬ b=0) (hc:c=0):Fits Tryz.prog 197 [vc a b c] (num (bO a b c)):=by
 have e:bO a b c=mkRat (sg false ((1)*(b.den/Nat.gcd b.den (1)))) (Nat.gcd b.num.natAbs (0)):=by
  unfold bO wn wd
  simp only [if_pos ha,if_neg hb,if_pos hc]
 have lN:Lv 30 (Nat.gcd b.num.natAbs (0)):=by
  have:=dH (k:=30) lc (dH lb (dH la (n:=0) (Lv.one _ (by rw [aJ];omega))))
  unfold wn at this
  simpa only [if_pos ha,if_neg hb,if_pos hc] using this
 have lD1:Lv 32 ((1)*(b.den/Nat.gcd b.den (1))):=(show Lv 31 (1) from (Lv.one _ (by rw [aJ];omega))).mul (lb.2.mono (by omega) |>.le (Nat.div_le_self _ _))
 have hN:0<Nat.gcd b.num.natAbs (0):=by
  have:=(show 0<wn c (wn b (wn a 0)) from nA (kR hb))
  unfold wn at this
  simpa only [if_pos ha,if_neg hb,if_pos hc] using this
 rw [e]
 refine jG Tryz.func197 fun w00=>?_
 refine jC 120 [.fv (.sc (.lit (.int .u64 ((1:Nat):Int))))] (fW (by rw [aJ];omega)) Tryz.call120 ?_
 refine jC 81 [num a] (bK (b:=true) (by simpa using ha)) Tryz.call81 ?_
 refine jC 81 [num b] (bK (b:=false) (by simpa using hb)) Tryz.call81 ?_
 refine jC 142 [num b] (cE) Tryz.call142 ?_
 refine jC 116 [nt b.num.natAbs,.fv (.sc (.lit (.slice none 0 0)))] (Fits.args (gV (b:=0) (lb.1.mono (by omega)) (Lv.one _ (by rw [aJ];omega)) (.inl (iV hb))) (fun β vs w ⟨v,r,e,k1,⟨v2,r2,e2,k2,k3⟩⟩=>⟨v,r,e,k1,v2,r2,e2,qJ k2,k3⟩)) Tryz.call116 ?_
 refine jC 116 [nt b.den,nt (1)] (gV (lb.2.mono (by omega)) (Lv.one _ (by rw [aJ];omega)) (.inl b.den_pos)) Tryz.call116 ?_
 refine jC 117 [nt b.den,nt (Nat.gcd b.den (1))] (eN (lb.2.mono (by omega)) (Nat.gcd_pos_of_pos_left _ b.den_pos)) Tryz.call117 ?_
 refine jC 119 [nt (1),nt (b.den/Nat.gcd b.den (1))] (fR (Lv.one _ (by rw [aJ];omega)) ((lb.2.mono (by omega)).le (Nat.div_le_self _ _))) Tryz.call119 ?_
 refine jC 81 [num c] (bK (b:=true) (by simpa using hc)) Tryz.call81 ?_
 refine jC 55 [bl false,nt ((1)*(b.den/Nat.gcd b.den (1))),nt (Nat.gcd b.num.natAbs (0))] (oE (lD1.mono (by omega)) (lN.mono (by omega)) hN) Tryz.call55 ?_
 refine jC 57 [fra (mkRat (sg false ((1)*(b.den/Nat.gcd b.den (1)))) (Nat.gcd b.num.natAbs (0)))] (jH) Tryz.call57 ?_
 exact jR Tryz.func197
theorem whole_001 (la:Lf 30 a) (lb:Lf 30 b) (lc:Lf 30 c) (ha:a=0) (hb:b=0) (hc:¬ c=0):Fits Tryz.prog 197 [vc a b c] (num (bO a b c)):=by
 have e:bO a b c=mkRat (sg false ((1)*(c.den/Nat.gcd c.den (1)))) (Nat.gcd c.num.natAbs (0)):=by
  unfold bO wn wd
  simp only [if_pos ha,if_pos hb,if_neg hc]
 have lN:Lv 30 (Nat.gcd c.num.natAbs (0)):=by
  have:=dH (k:=30) lc (dH lb (dH la (n:=0) (Lv.one _ (by rw [aJ];omega))))
  unfold wn at this
  simpa only [if_pos ha,if_pos hb,if_neg hc] using this
 have lD2:Lv 33 ((1)*(c.den/Nat.gcd c.den (1))):=(show Lv 32 (1) from (Lv.one _ (by rw [aJ];omega))).mul (lc.2.mono (by omega) |>.le (Nat.div_le_self _ _))
 have hN:0<Nat.gcd c.num.natAbs (0):=by
  have:=(show 0<wn c (wn b (wn a 0)) from kR hc)
  unfold wn at this
  simpa only [if_pos ha,if_pos hb,if_neg hc] using this
 rw [e]
 refine jG Tryz.func197 fun w00=>?_
 refine jC 120 [.fv (.sc (.lit (.int .u64 ((1:Nat):Int))))] (fW (by rw [aJ];omega)) Tryz.call120 ?_
 refine jC 81 [num a] (bK (b:=true) (by simpa using ha)) Tryz.call81 ?_
 refine jC 81 [num b] (bK (b:=true) (by simpa using hb)) Tryz.call81 ?_
 refine jC 81 [num c] (bK (b:=false) (by simpa using hc)) Tryz.call81 ?_
 refine jC 142 [num c] (cE) Tryz.call142 ?_
 refine jC 116 [nt c.num.natAbs,.fv (.sc (.lit (.slice none 0 0)))] (Fits.args (gV (b:=0) (lc.1.mono (by omega)) (Lv.one _ (by rw [aJ];omega)) (.inl (iV hc))) (fun β vs w ⟨v,r,e,k1,⟨v2,r2,e2,k2,k3⟩⟩=>⟨v,r,e,k1,v2,r2,e2,qJ k2,k3⟩)) Tryz.call116 ?_
 refine jC 116 [nt c.den,nt (1)] (gV (lc.2.mono (by omega)) (Lv.one _ (by rw [aJ];omega)) (.inl c.den_pos)) Tryz.call116 ?_
 refine jC 117 [nt c.den,nt (Nat.gcd c.den (1))] (eN (lc.2.mono (by omega)) (Nat.gcd_pos_of_pos_left _ c.den_pos)) Tryz.call117 ?_
 refine jC 119 [nt (1),nt (c.den/Nat.gcd c.den (1))] (fR (Lv.one _ (by rw [aJ];omega)) ((lc.2.mono (by omega)).le (Nat.div_le_self _ _))) Tryz.call119 ?_
 refine jC 55 [bl false,nt ((1)*(c.den/Nat.gcd c.den (1))),nt (Nat.gcd c.num.natAbs (0))] (oE (lD2.mono (by omega)) (lN.mono (by omega)) hN) Tryz.call55 ?_
 refine jC 57 [fra (mkRat (sg false ((1)*(c.den/Nat.gcd c.den (1)))) (Nat.gcd c.num.natAbs (0)))] (jH) Tryz.call57 ?_
 exact jR Tryz.func197
theorem wholeF (la:Lf 30 a) (lb:Lf 30 b) (lc:Lf 30 c) (h:¬ (a=0∧b=0∧c=0)):Fits Tryz.prog 197 [vc a b c] (num (bO a b c)):=by
 by_cases ha:a=0 <;> by_cases hb:b=0 <;> by_cases hc:c=0
 ·exact absurd ⟨ha,hb,hc⟩ h
 ·exact whole_001 la lb lc ha hb hc
 ·exact whole_010 la lb lc ha hb hc
 ·exact whole_011 la lb lc ha hb hc
 ·exact whole_100 la lb lc ha hb hc
 ·exact whole_101 la lb lc ha hb hc
 ·exact whole_110 la lb lc ha hb hc
 ·exact whole_111 la lb lc ha hb hc
end
section
variable {n1 n2 n3 d k:Rat} {z1 z2 z3:Int}
theorem mkRat_le (n:Int) {d:Nat} (hd:0<d):(mkRat n d).num.natAbs≤n.natAbs∧(mkRat n d).den≤d:=by
 rw [Rat.num_mkRat,Rat.den_mkRat,if_neg (by omega),if_neg (by omega)]
 exact ⟨Int.natAbs_ediv_le_natAbs _ _,Nat.div_le_self _ _⟩
theorem lf_whole {a b c:Rat} (la:Lf 30 a) (lb:Lf 30 b) (lc:Lf 30 c) (h:¬ (a=0∧b=0∧c=0)):Lf 33 (bO a b c):=by
 have hN:0<wn c (wn b (wn a 0)):=by
  by_cases ha:a=0
  ·by_cases hb:b=0
   ·exact kR (fun hc=>h ⟨ha,hb,hc⟩)
   ·exact nA (kR hb)
  ·exact nA (nA (kR ha))
 have l1:Lv 33 (wd c (wd b (wd a 1))):=lv_wd (lc.mono (by decide)) (lv_wd (lb.mono (by decide)) (lv_wd (k:=30) la (Lv.one _ (by rw [aJ];omega))))
 have l2:Lv 33 (wn c (wn b (wn a 0))):=(dH lc (dH lb (dH la (n:=0) (Lv.one _ (by rw [aJ];omega))))).mono (by omega)
 have hm:=mkRat_le (sg false (wd c (wd b (wd a 1)))) hN
 have e:(sg false (wd c (wd b (wd a 1)))).natAbs=wd c (wd b (wd a 1)):=by simp [sg]
 rw [e] at hm
 exact ⟨l1.le hm.1,l2.le hm.2⟩
theorem reducedF (l1:Lf 30 n1) (l2:Lf 30 n2) (l3:Lf 30 n3) (ld:Lf 38 d) (h:¬ (n1=0∧n2=0∧n3=0)) :
 Fits Tryz.prog 135 [hf n1 n2 n3 d] (hf (bO n1 n2 n3*n1) (bO n1 n2 n3*n2) (bO n1 n2 n3*n3) (d*bO n1 n2 n3)):=by
 have lk:=(lf_whole l1 l2 l3 h).mono (l:=38) (by decide)
 refine jG Tryz.func135 fun w00=>?_
 refine jC 197 [vc n1 n2 n3] (wholeF l1 l2 l3 h) Tryz.call197 ?_
 refine jC 74 [vc n1 n2 n3,num (bO n1 n2 n3)] (gM lk (l1.mono (by decide)) (l2.mono (by decide)) (l3.mono (by decide))) Tryz.call74 ?_
 refine jC 127 [num d,num (bO n1 n2 n3)] (fM ld lk) Tryz.call127 ?_
 exact jR Tryz.func135
abbrev hfI (z1 z2 z3:Int) (d:Rat):AV Kn := .fv (.ag [.lit (.int .i64 z1),z0,.lit (.pointer none),.lit (.int .i64 z2),z0,.lit (.pointer none),.lit (.int .i64 z3),z0,.lit (.pointer none),nb d])
abbrev Sz (z:Int):Prop := -999999999≤z∧z≤999999999
theorem nb_int {z:Int} (hz:Sz z) {cs:List Value} {w:World} (h:(csNb (z:Rat)).pred cs w):cs = [.int .i64 z,.int .i64 0,.pointer none]:=by
 have hm:Sm (z:Rat):=by
  constructor
  ·rw [Rat.num_intCast,eK];omega
  ·rw [Rat.den_intCast,eK];omega
 rcases h with ⟨_,e⟩|⟨h2,_⟩
 ·injection e with e
  have:=congrArg Array.toList e
  simpa using this
 ·exact absurd hm h2
theorem hf_int {β:List Nat} {v:Value} {w:World} {q1 q2 q3:Rat} (e1:q1=z1) (e2:q2=z2) (e3:q3=z3) (h1:Sz z1) (h2:Sz z2) (h3:Sz z3) (h:(hf q1 q2 q3 d).holds β v w):(hfI z1 z2 z3 d).holds β v w:=by
 subst e1
 subst e2
 subst e3
 obtain ⟨cs,rfl,x1,r1,rfl,k1,x2,r2,rfl,k2,x3,r3,rfl,k3,hr⟩:=h
 rw [nb_int h1 k1,nb_int h2 k2,nb_int h3 k3]
 exact ⟨_,rfl,[_],_,rfl,⟨rfl,rfl⟩,[_],_,rfl,⟨rfl,rfl⟩,[_],_,rfl,⟨rfl,rfl⟩,[_],_,rfl,⟨rfl,rfl⟩,[_],_,rfl,⟨rfl,rfl⟩,[_],_,rfl,⟨rfl,rfl⟩,[_],_,rfl,⟨rfl,rfl⟩,[_],_,rfl,⟨rfl,rfl⟩,[_],_,rfl,⟨rfl,rfl⟩,hr⟩
theorem Fits.res {P:Program} {f:FuncId} {l:List (AV Kn)} {x y:AV Kn} (h:Fits P f l x) (hx:∀ β v w,x.holds β v w→y.holds β v w):Fits P f l y:=fun β w vs hv =>
 (h β w vs hv).mono fun e w' ⟨v,e1,e2,e3⟩=>⟨v,e1,e2,hx β v w' e3⟩
theorem qK {z:Int} (hz:Sz z):Fits Tryz.prog 136 [it z] (.fv (.sc (isU (z.natAbs:Int)))):=by
 intro β w vs hv
 obtain ⟨v,rfl,h1⟩:=dE hv
 rw [aN h1]
 exact (eS z w (by have:=hz.1;omega) (by have:=hz.2;omega)).mono fun e w' ⟨e1,e2⟩=>⟨_,e1,by rw [← e2];exact Below.refl _ _,bG⟩
theorem gtU_run {o:Oper} {ρ:Operand→Value} {w:World} {x y:Operand} {a b:Int} {r:Bool} {T T' : TypeId} (ho:o.op = .binOp .gtr T x y T') (hx:ρ x = .int .u64 a) (hy:ρ y = .int .u64 b) (h:decide (b<a)=r) :
 (execOp ρ o).run Tryz.prog w = .ok (.value (.bool r)) w:=by
 simp only [execOp,ho,hx,hy]
 refine bJ ?_
 rw [← h]
 exact bT (by kernel_rfl) w
section
variable {f:FuncId} {w00:World} {Out:Value→World→Prop}
theorem kgtU {c:Cfg Kn} (t:Tmp) (a b:Int) (r:Bool) (h:decide (b<a)=r) (hc:(c.op.map fun o=>o.op,c.okT (bl r),c.ev (.tmp t),c.ev (.const (.int .u64 b)))=(some (.binOp .gtr 154 (.tmp t) (.const (.int .u64 b)) 154),true,.fv (.sc (isU a)),.fv (.sc (.lit (.int .u64 b)))))
 (hg:Ok Tryz.prog f w00 Out (dC Tryz.prog 1000 (c.give (bl r)))):Ok Tryz.prog f w00 Out c :=
 dW _ (.tmp t) (.const (.int .u64 b)) _ _ (bl r) hc (by simp [Op.operands]) (by simp [Op.operands]) (fun ρ o β w ho hx hy=>⟨_,gtU_run ho (aP hx) (aN hy) h,aX rfl⟩) hg
end
abbrev hS (z1 z2 z3:Int) (d:Rat):AV Kn := .fv (.ag [.lit (.int .i64 z1),.lit (.int .i64 z2),.lit (.int .i64 z3),bY (writeB d)])
abbrev qV (z1 z2 z3:Int) (d:Rat):AV Kn := .tup [.ag [.lit (.int .i64 z1),.lit (.int .i64 z2),.lit (.int .i64 z3),bY (writeB d)],.sc z0]
structure Form (n1 n2 n3 d:Rat) (z1 z2 z3:Int) (e:Rat):Prop where
 l1:Lf 30 n1
 l2:Lf 30 n2
 l3:Lf 30 n3
 ld:Lf 38 d
 h0:¬ (n1=0∧n2=0∧n3=0)
 e1:bO n1 n2 n3*n1=z1
 e2:bO n1 n2 n3*n2=z2
 e3:bO n1 n2 n3*n3=z3
 ed:d*bO n1 n2 n3=e
 s1:Sz z1
 s2:Sz z2
 s3:Sz z3
 wr:Wr e
theorem hWriteF {e:Rat} (h:Form n1 n2 n3 d z1 z2 z3 e):FitsW Tryz.prog Gl 68 [hf n1 n2 n3 d] (qV z1 z2 z3 e):=by
 have g:∀ {z:Int},Sz z→decide ((999999999:Int)<(z.natAbs:Int))=false:=fun hz=>by have:=hz.1;have:=hz.2;rw [decide_eq_false_iff_not];omega
 have gr:Fits Tryz.prog 135 [hf n1 n2 n3 d] (hfI z1 z2 z3 e):=Fits.res (reducedF h.l1 h.l2 h.l3 h.ld h.h0) (fun β v w hv=>hf_int h.e1 h.e2 h.e3 h.s1 h.s2 h.s3 (by rw [h.ed] at hv;exact hv))
 refine cA Tryz.func68 (by kernel_rfl) fun w00 hG=>?_;have hI:=aS hG
 refine jC 135 [hf n1 n2 n3 d] (gr) Tryz.call135 ?_
 refine jW hI 58 [num e] (tK (h.wr.lf.mono (by decide)) h.wr.n h.wr.d) Tryz.call58 ?_
 refine jC 136 [it z1] (qK h.s1) Tryz.call136 ?_
 refine kgtU 34 z1.natAbs 999999999 false (g h.s1) (by kernel_rfl) ?_
 refine jC 136 [it z2] (qK h.s2) Tryz.call136 ?_
 refine kgtU 34 z2.natAbs 999999999 false (g h.s2) (by kernel_rfl) ?_
 refine jC 136 [it z3] (qK h.s3) Tryz.call136 ?_
 refine kgtU 34 z3.natAbs 999999999 false (g h.s3) (by kernel_rfl) ?_
 exact jR Tryz.func68
theorem zO (h1:yK z1) (h2:yK z2) (h3:yK z3) (hd:Wr d) (hc:Fits Tryz.prog 137 [iv z1 z2 z3] (it 0)):FitsW Tryz.prog Gl 72 [hS z1 z2 z3 d] (.tup [.ag [nb z1,nb z2,nb z3,nb d],.sc z0]):=by
 refine cA Tryz.func72 (by kernel_rfl) fun w00 hG=>?_;have hI:=aS hG
 refine jW hI 67 [tx (writeB d)] (xN hd) Tryz.call67 ?_
 refine jC 84 [iv z1 z2 z3] (jK h1 h2 h3) Tryz.call84 ?_
 refine jC 137 [iv z1 z2 z3] (hc) Tryz.call137 ?_
 refine jC 69 [.fv (.nsl 2 31 [z0,z0])] (iF) Tryz.call69 ?_
 exact jR Tryz.func72
end
end Go.Proofs.YtejbgingjeedaaaGreatDoor.Ab
namespace Go.Proofs.YtejbgingjeedaaaGreatDoor
open Go.RowKit Pl
def B9:Nat:=1000000000
theorem cQ:B9=1000000000:=rfl
theorem dX:1<B9:=by unfold B9;omega
theorem cJ:0<B9:=by unfold B9;omega
def eC (n:Nat):Value := .int .i64 (n:Int)
def Ri (w:World) (A:Option Addr) (n c:Nat) (xs:List Nat):Prop :=
 xs.length=n∧n≤c∧c≤maxLen∧(0<n→∃ ad,A=some ad∧ad.block<w.heap.size∧∀ (j x:Nat),xs[j]?=some x→w.cell? (ad.add j)=some (.int .i64 (x:Int)))
section
variable {w w' : World} {A:Option Addr} {n c:Nat} {xs:List Nat}
theorem Ri.len (h:Ri w A n c xs):xs.length=n:=h.1
theorem Ri.cap (h:Ri w A n c xs):n≤c:=h.2.1
theorem Ri.at_ (h:Ri w A n c xs) {k:Nat} (hk:k<n) :
 ∃ ad x,A=some ad∧ad.block<w.heap.size∧xs[k]?=some x∧w.cell? (ad.add k)=some (.int .i64 (x:Int)):=by
 obtain ⟨ad,e,hb,hc⟩:=h.2.2.2 (by omega)
 have hl:k<xs.length:=by have:=h.1;omega
 exact ⟨ad,xs[k],e,hb,List.getElem?_eq_getElem hl,hc k _ (List.getElem?_eq_getElem hl)⟩
theorem Ri.below (h:Ri w A n c xs) (hb:Below w.heap.size w w'):Ri w' A n c xs:=by
 refine ⟨h.1,h.2.1,h.2.2.1,fun hn=>?_⟩
 obtain ⟨ad,e,hl,hc⟩:=h.2.2.2 hn
 have:=hb.size
 exact ⟨ad,e,by omega,fun j x hx=>(hb.cell (p:=ad.add j) (by rw [bL];exact hl)).trans (hc j x hx)⟩
theorem Ri.nil:Ri w none 0 0 []:=⟨rfl,Nat.le_refl _,Nat.zero_le _,fun h=>absurd h (by omega)⟩
theorem Ri.take (h:Ri w A n c xs) {k:Nat} (hk:k≤n):Ri w A k c (xs.take k):=by
 refine ⟨by rw [List.length_take,h.1];omega,Nat.le_trans hk h.2.1,h.2.2.1,fun hp=>?_⟩
 obtain ⟨ad,e,hl,hc⟩:=h.2.2.2 (by omega)
 refine ⟨ad,e,hl,fun j x hx=>hc j x ?_⟩
 rw [List.getElem?_take] at hx
 split at hx
 ·exact hx
 ·cases hx
end
def Bi (w:World) (g:Nat) (t:TypeId) (ys:List Nat):Prop:=w.heap[g]?=some (.cells (ys.map eC).toArray t (0,0))
section
variable {w w' : World} {g:Nat} {t:TypeId} {ys:List Nat}
theorem Bi.lt (h:Bi w g t ys):g<w.heap.size:=by
 unfold Bi at h
 rcases Nat.lt_or_ge g w.heap.size with hlt|hge
 ·exact hlt
 ·rw [Array.getElem?_eq_none hge] at h;cases h
theorem Bi.cell (h:Bi w g t ys) {i x:Nat} (hx:ys[i]?=some x):w.cell? ⟨g,i,none⟩=some (.int .i64 (x:Int)):=by
 unfold Bi at h
 simp [World.cell?,h,hx,eC]
theorem Bi.cell_get (h:Bi w g t ys) {i:Nat} (hi:i<ys.length):w.cell? ⟨g,i,none⟩=some (.int .i64 ((ys[i]:Nat):Int)):=h.cell (List.getElem?_eq_getElem hi)
theorem Bi.frozen (h:Bi w g t ys) (i:Nat):w.frozen? ⟨g,i,none⟩=false:=by
 unfold Bi at h
 simp [World.frozen?,h]
theorem Bi.set_ (h:Bi w g t ys) (i x:Nat):Bi (w.setCell ⟨g,i,none⟩ (.int .i64 (x:Int))) g t (ys.set i x):=by
 unfold Bi at h ⊢
 simp only [World.setCell,Array.getElem?_modify,h]
 simp [List.map_set,eC]
theorem Bi.drew (h:Bi w g t ys):Bi w.drew g t ys:=h
theorem Bi.drewN (h:Bi w g t ys) (k:Nat):Bi (w.drewN k) g t ys:=h
theorem Bi.alloc (h:Bi w g t ys) (o:Obj):Bi (w.alloc o) g t ys:=(Below.heap_alloc w o g h.lt).trans h
theorem Bi.far (h:Bi w g t ys) {p:Addr} (hp:g≠p.block) (u:Value):Bi (w.setCell p u) g t ys:=(Below.heap_setCell w p u g hp).trans h
theorem Bi.below {B:Nat} (h:Bi w g t ys) (hb:Below B w w') (hg:g<B):Bi w' g t ys:=(hb.block g hg).trans h
theorem Bi.rd (h:Bi w g t ys) (hm:ys.length≤maxLen):Ri w (some ⟨g,0,none⟩) ys.length ys.length ys:=by
 refine ⟨rfl,Nat.le_refl _,hm,fun _=>⟨_,rfl,h.lt,fun j x hx=>?_⟩⟩
 have:(⟨g,0,none⟩:Addr).add j=⟨g,j,none⟩:=by unfold Addr.add;split <;> simp_all
 rw [this]
 exact h.cell hx
theorem Bi.of_own {base e n:Nat} {xs:List Value} (h:w.ownsRow base e 1 (.slice (some ⟨g,0,none⟩) n n) n xs) (hx:xs=ys.map eC):Bi w g e ys:=by
 obtain ⟨h1,h2|⟨g',cap,cur,hv,_,hh,_,_,hs,ht⟩⟩:=h
 ·obtain ⟨hv,_⟩:=h2
  injection hv with hv
  cases hv
 ·injection hv with hv _ hc
  injection hv with hv
  injection hv with hv
  subst hc
  subst hv
  unfold Bi
  rw [hh]
  have:cur.toList=xs:=by
   rw [← ht,List.take_of_length_le]
   simp [hs]
  have e2:cur=(ys.map eC).toArray:=by rw [← hx,← this]
  rw [e2]
end
def In (w:World) (v:Value) (z:Int):Prop :=
 ∃ A n c xs,v = .agg #[.bool (decide (z<0)),.slice A n c]∧Ri w A n c xs∧Dig B9 xs∧Norm xs∧val B9 xs=z.natAbs
def TrimI (xs:List Nat) (k:Nat):Prop:=k≤xs.length∧Norm (xs.take k)∧val B9 (xs.take k)=val B9 xs
set_option maxHeartbeats 400000 in
theorem trim_raw (A:Option Addr) (n c:Nat) (xs:List Nat) (w:World) (h:Ri w A n c xs) :
 Calls Tryz.prog 250 #[.slice A n c] w fun e w'=>Hid (∃ k,TrimI xs k∧e = .returned (.slice A k c))∧w=w':=by
 have HR:=aH h
 have hnc:n≤c:=h.cap
 have hcm:c≤9223372036854775807:=h.2.2.1
 clear h
 go_enter Tryz.func250,Tryz.ntmps250
 go_wp2
 go_loop [0] (fun v => ∃ k:Nat,k≤n∧val B9 (xs.take k)=val B9 xs∧v = .slice A k c) (fun v=>lenOf v)
 case atStart=>exact ⟨n,Nat.le_refl _,by rw [List.take_of_length_le (by rw [HR.out.len];omega)],rfl⟩
 case round =>
  obtain ⟨k,hk,hv,rfl⟩:=hrel
  have HV:=aH hv
  clear hv
  by_cases hk0:0<k
  ·obtain ⟨ad,x,rfl,_hb,hx,hcell⟩:=HR.out.at_ (k:=k-1) (by omega)
   have HX:=aH hx
   clear hx
   go_wp2
   ·have h0 : x = 0 := by have:((x:Int)==0)=true:=by assumption
                          simpa using this
    subst h0
    refine ⟨⟨k-1,by omega,?_,rfl⟩,by simp only [lenOf];omega⟩
    have hlt:k-1<xs.length:=by rw [HR.out.len];omega
    have hz:xs[k-1]=0:=by have:=HX.out;rw [List.getElem?_eq_getElem hlt] at this;injection this
    have:=pL B9 hlt hz
    rw [show k-1+1=k from by omega] at this
    rw [← this];exact HV.out
   ·have h0:((x:Int)==0)=false:=by assumption
    go_ret
    refine ⟨⟨k,⟨by rw [HR.out.len];exact hk,zF (by rw [HR.out.len];exact hk) (fun _=>?_),HV.out⟩,rfl⟩,rfl⟩
    rw [HX.out]
    intro e
    injection e with e
    subst e
    simp at h0
  ·have hz:decide (0<(k:Int))=false:=by simp;omega
   have hk00:k=0:=by omega
   have HK:=aH hk00
   clear hk00
   go_wp2
   go_ret
   refine ⟨⟨k,⟨by omega,?_,HV.out⟩,rfl⟩,rfl⟩
   rw [HK.out]
   simpa using Norm.nil
end Go.Proofs.YtejbgingjeedaaaGreatDoor
namespace Go.Proofs.YtejbgingjeedaaaGreatDoor.Ab
open Go.RowKit Go.Proofs.YtejbgingjeedaaaGreatDoor Pl
theorem dP {a b:Nat} (ha:a<aD) (hb:b<aD):Fits (Kc:=Kn) Tryz.prog 182 [.fv (.sc (.lit (.int .u64 (a:Int)))),.fv (.sc (.lit (.int .u64 (b:Int))))] (.fv (.sc (.lit (.int .u64 ((Nat.gcd a b:Nat):Int))))):=by
 intro β w vs hv
 obtain ⟨v,u,rfl,h1,h2⟩:=eG hv
 rw [aN h1,aN h2]
 exact (jE a b w ha hb).mono fun e w' ⟨e1,e2⟩=>⟨_,e1,by first|exact e2|(rw [← e2];exact Below.refl _ _),aX rfl⟩
theorem ck_111:Fits Tryz.prog 137 [iv (1) (1) (1)] (it 0):=by
 refine jG Tryz.func137 fun w00=>?_
 refine jC 182 [.fv (.sc (.lit (.int .u64 ((0:Nat):Int)))),.fv (.sc (.lit (.int .u64 ((1:Nat):Int))))] (dP (by rw [aJ];omega) (by rw [aJ];omega)) Tryz.call182 ?_
 refine jC 182 [.fv (.sc (.lit (.int .u64 ((1:Nat):Int)))),.fv (.sc (.lit (.int .u64 ((1:Nat):Int))))] (dP (by rw [aJ];omega) (by rw [aJ];omega)) Tryz.call182 ?_
 refine jC 182 [.fv (.sc (.lit (.int .u64 ((1:Nat):Int)))),.fv (.sc (.lit (.int .u64 ((1:Nat):Int))))] (dP (by rw [aJ];omega) (by rw [aJ];omega)) Tryz.call182 ?_
 exact jR Tryz.func137
theorem ck_100:Fits Tryz.prog 137 [iv (1) (0) (0)] (it 0):=by
 refine jG Tryz.func137 fun w00=>?_
 refine jC 182 [.fv (.sc (.lit (.int .u64 ((0:Nat):Int)))),.fv (.sc (.lit (.int .u64 ((1:Nat):Int))))] (dP (by rw [aJ];omega) (by rw [aJ];omega)) Tryz.call182 ?_
 refine jC 182 [.fv (.sc (.lit (.int .u64 ((1:Nat):Int)))),.fv (.sc (.lit (.int .u64 ((0:Nat):Int))))] (dP (by rw [aJ];omega) (by rw [aJ];omega)) Tryz.call182 ?_
 refine jC 182 [.fv (.sc (.lit (.int .u64 ((1:Nat):Int)))),.fv (.sc (.lit (.int .u64 ((0:Nat):Int))))] (dP (by rw [aJ];omega) (by rw [aJ];omega)) Tryz.call182 ?_
 exact jR Tryz.func137
theorem ck_302:Fits Tryz.prog 137 [iv (3) (0) (-2)] (it 0):=by
 refine jG Tryz.func137 fun w00=>?_
 refine jC 182 [.fv (.sc (.lit (.int .u64 ((0:Nat):Int)))),.fv (.sc (.lit (.int .u64 ((3:Nat):Int))))] (dP (by rw [aJ];omega) (by rw [aJ];omega)) Tryz.call182 ?_
 refine jC 182 [.fv (.sc (.lit (.int .u64 ((3:Nat):Int)))),.fv (.sc (.lit (.int .u64 ((0:Nat):Int))))] (dP (by rw [aJ];omega) (by rw [aJ];omega)) Tryz.call182 ?_
 refine jC 182 [.fv (.sc (.lit (.int .u64 ((3:Nat):Int)))),.fv (.sc (.lit (.int .u64 ((2:Nat):Int))))] (dP (by rw [aJ];omega) (by rw [aJ];omega)) Tryz.call182 ?_
 exact jR Tryz.func137
section
variable {z1 z2 z3:Int} {d p1 p2 p3 n1 n2 n3 e:Rat}
structure Hv (z1 z2 z3:Int) (d:Rat):Prop where
 s1:Sz z1
 s2:Sz z2
 s3:Sz z3
 d:Wr d
 ck:Fits Tryz.prog 137 [iv z1 z2 z3] (it 0)
theorem dY {z:Int} (h:Sz z) {k:Nat}:Lf k (z:Rat):=Lf.int (Lv.one _ (by have:=h.1;have:=h.2;rw [aJ];omega))
theorem m_sz {z:Int} (h:Sz z):yK z:=⟨by have:=h.1;omega,by have:=h.2;omega⟩
theorem readHV (h:Hv z1 z2 z3 d) (k:kA p1 p2 p3):FitsW Tryz.prog Gl 71 [gP 72,hS z1 z2 z3 d,gP 37,vS p1 p2 p3] (.tup [.ag [nb z1,nb z2,nb z3,nb d],.ag [nb p1,nb p2,nb p3],.sc z0]):=by
 refine cA Tryz.func71 (by kernel_rfl) fun w00 hG=>?_;have hI:=aS hG
 refine jW hI 72 [hS z1 z2 z3 d] (zO (m_sz h.s1) (m_sz h.s2) (m_sz h.s3) h.d h.ck) Tryz.call72 ?_
 refine jW hI 37 [vS p1 p2 p3] (gN k) Tryz.call37 ?_
 refine jC 69 [.fv (.nsl 2 31 [z0,z0])] (iF) Tryz.call69 ?_
 exact jR Tryz.func71
theorem apiSideF {s:Int} (h:Hv z1 z2 z3 d) (k:kA p1 p2 p3) (hs:nK (dt z1 z2 z3 p1 p2 p3-d)=s):FitsW Tryz.prog Gl 31 [hS z1 z2 z3 d,vS p1 p2 p3] (.tup [.sc (.lit (.int .i64 s)),.sc z0]):=by
 rw [← hs]
 refine cA Tryz.func31 (by kernel_rfl) fun w00 hG=>?_;have hI:=aS hG
 refine jW hI 71 [gP 72,hS z1 z2 z3 d,gP 37,vS p1 p2 p3] (readHV h k) Tryz.call71 ?_
 refine jC 89 [hf z1 z2 z3 d,vc p1 p2 p3] (excessF (dY h.s1) (dY h.s2) (dY h.s3) (h.d.lf.mono (by decide)) (k.1.lf.mono (by decide)) (k.2.1.lf.mono (by decide)) (k.2.2.lf.mono (by decide))) Tryz.call89 ?_
 refine jC 90 [num (dt z1 z2 z3 p1 p2 p3-d)] (signF) Tryz.call90 ?_
 exact jR Tryz.func31
theorem apiMakeHalfF (k:kA n1 n2 n3) (hd:Wr d) (h:Form n1 n2 n3 d z1 z2 z3 e):FitsW Tryz.prog Gl 23 [vS n1 n2 n3,tx (writeB d)] (qV z1 z2 z3 e):=by
 have h0:(decide (n1=0)&&decide (n2=0)&&decide (n3=0))=false:=by
  rw [Bool.eq_false_iff]
  intro hh
  simp only [Bool.and_eq_true,decide_eq_true_eq] at hh
  exact h.h0 ⟨hh.1.1,hh.1.2,hh.2⟩
 refine cA Tryz.func23 (by kernel_rfl) fun w00 hG=>?_;have hI:=aS hG
 refine jW hI 66 [gP 37,vS n1 n2 n3,gP 67,tx (writeB d)] (readVR k hd) Tryz.call66 ?_
 refine jC 60 [vc n1 n2 n3] (eZ h0) Tryz.call60 ?_
 refine jW hI 68 [hf n1 n2 n3 d] (hWriteF h) Tryz.call68 ?_
 exact jR Tryz.func23
variable {a1 a2 a3 b1 b2 b3 c1 c2 c3:Rat}
theorem apiThroughF (ka:kA a1 a2 a3) (kb:kA b1 b2 b3) (kc:kA c1 c2 c3) {m1 m2 m3:Rat}
 (e1:(b2-a2)*(c3-a3)-(b3-a3)*(c2-a2)=m1) (e2:(b3-a3)*(c1-a1)-(b1-a1)*(c3-a3)=m2) (e3:(b1-a1)*(c2-a2)-(b2-a2)*(c1-a1)=m3)
 (h:Form m1 m2 m3 (dt m1 m2 m3 a1 a2 a3) z1 z2 z3 e):FitsW Tryz.prog Gl 24 [vS a1 a2 a3,vS b1 b2 b3,vS c1 c2 c3] (qV z1 z2 z3 e):=by
 have h0:(decide (m1=0)&&decide (m2=0)&&decide (m3=0))=false:=by
  rw [Bool.eq_false_iff]
  intro hh
  simp only [Bool.and_eq_true,decide_eq_true_eq] at hh
  exact h.h0 ⟨hh.1.1,hh.1.2,hh.2⟩
 have s:∀ {x y:Rat},Wr x→Wr y→Lf 35 (x-y):=fun hx hy=>Lf.subn (hx.lf.mono (by decide)) (hy.lf.mono (by decide)) (by decide)
 have hcross:Fits Tryz.prog 61 [vc (b1-a1) (b2-a2) (b3-a3),vc (c1-a1) (c2-a2) (c3-a3)] (vc m1 m2 m3):=by
  have:=xJ (s kb.1 ka.1) (s kb.2.1 ka.2.1) (s kb.2.2 ka.2.2) (s kc.1 ka.1) (s kc.2.1 ka.2.1) (s kc.2.2 ka.2.2)
  rw [e1,e2,e3] at this
  exact this
 refine cA Tryz.func24 (by kernel_rfl) fun w00 hG=>?_;have hI:=aS hG
 refine jW hI 59 [gP 37,vS a1 a2 a3,gP 37,vS b1 b2 b3] (readVV ka kb) Tryz.call59 ?_
 refine jW hI 37 [vS c1 c2 c3] (gN kc) Tryz.call37 ?_
 refine jC 69 [.fv (.nsl 2 31 [z0,z0])] (iF) Tryz.call69 ?_
 refine jC 70 [vc b1 b2 b3,vc a1 a2 a3] (vM (kb.1.lf.mono (by decide)) (kb.2.1.lf.mono (by decide)) (kb.2.2.lf.mono (by decide)) (ka.1.lf.mono (by decide)) (ka.2.1.lf.mono (by decide)) (ka.2.2.lf.mono (by decide))) Tryz.call70 ?_
 refine jC 70 [vc c1 c2 c3,vc a1 a2 a3] (vM (kc.1.lf.mono (by decide)) (kc.2.1.lf.mono (by decide)) (kc.2.2.lf.mono (by decide)) (ka.1.lf.mono (by decide)) (ka.2.1.lf.mono (by decide)) (ka.2.2.lf.mono (by decide))) Tryz.call70 ?_
 refine jC 61 [vc (b1-a1) (b2-a2) (b3-a3),vc (c1-a1) (c2-a2) (c3-a3)] (hcross) Tryz.call61 ?_
 refine jC 60 [vc m1 m2 m3] (eZ h0) Tryz.call60 ?_
 refine jC 62 [vc m1 m2 m3,vc a1 a2 a3] (nM (h.l1.mono (by decide)) (h.l2.mono (by decide)) (h.l3.mono (by decide)) (ka.1.lf.mono (by decide)) (ka.2.1.lf.mono (by decide)) (ka.2.2.lf.mono (by decide))) Tryz.call62 ?_
 refine jW hI 68 [hf m1 m2 m3 (dt m1 m2 m3 a1 a2 a3)] (hWriteF h) Tryz.call68 ?_
 exact jR Tryz.func24
theorem apiMirrorF {m1 m2 m3:Rat} (h:Hv z1 z2 z3 d) (k:kA p1 p2 p3) (h0:dt (z1:Rat) z2 z3 z1 z2 z3≠0)
 (e1:p1+((2:Int):Rat)*(lP z1 z2 z3 d p1 p2 p3*z1)=m1) (e2:p2+((2:Int):Rat)*(lP z1 z2 z3 d p1 p2 p3*z2)=m2) (e3:p3+((2:Int):Rat)*(lP z1 z2 z3 d p1 p2 p3*z3)=m3) (hr:kA m1 m2 m3) :
 FitsW Tryz.prog Gl 25 [hS z1 z2 z3 d,vS p1 p2 p3] (fX m1 m2 m3):=by
 have lw:Lf 20 (lP z1 z2 z3 d p1 p2 p3):=lf_way (dY h.s1) (dY h.s2) (dY h.s3) (h.d.lf.mono (by decide)) (k.1.lf.mono (by decide)) (k.2.1.lf.mono (by decide)) (k.2.2.lf.mono (by decide)) (by decide)
 have l2:Lf 20 ((2:Int):Rat):=Lf.int (Lv.one _ (by rw [aJ];decide))
 have lm:∀ {z:Int},Sz z→Lf 22 (((2:Int):Rat)*(lP z1 z2 z3 d p1 p2 p3*z)):=fun hz=>Lf.muln (n:=22) (l2.mono (by decide)) (Lf.muln (n:=21) lw (dY hz) (by decide)) (by decide)
 have hp:Fits Tryz.prog 41 [vc p1 p2 p3,vc (((2:Int):Rat)*(lP z1 z2 z3 d p1 p2 p3*z1)) (((2:Int):Rat)*(lP z1 z2 z3 d p1 p2 p3*z2)) (((2:Int):Rat)*(lP z1 z2 z3 d p1 p2 p3*z3))] (vc m1 m2 m3):=by
  rw [← e1,← e2,← e3]
  exact qH (k.1.lf.mono (by decide)) (k.2.1.lf.mono (by decide)) (k.2.2.lf.mono (by decide)) ((lm h.s1).mono (by decide)) ((lm h.s2).mono (by decide)) ((lm h.s3).mono (by decide))
 refine cA Tryz.func25 (by kernel_rfl) fun w00 hG=>?_;have hI:=aS hG
 refine jW hI 71 [gP 72,hS z1 z2 z3 d,gP 37,vS p1 p2 p3] (readHV h k) Tryz.call71 ?_
 refine jC 73 [hf z1 z2 z3 d,vc p1 p2 p3] (toPlaneF (dY h.s1) (dY h.s2) (dY h.s3) (h.d.lf.mono (by decide)) (k.1.lf.mono (by decide)) (k.2.1.lf.mono (by decide)) (k.2.2.lf.mono (by decide)) h0) Tryz.call73 ?_
 refine jC 75 [it 2] (lO (by constructor <;> omega)) Tryz.call75 ?_
 refine jC 74 [vc (lP z1 z2 z3 d p1 p2 p3*z1) (lP z1 z2 z3 d p1 p2 p3*z2) (lP z1 z2 z3 d p1 p2 p3*z3),num ((2:Int):Rat)] (gM (l2.mono (by decide)) (Lf.muln (n:=38) (lw.mono (by decide)) (dY h.s1) (by decide)) (Lf.muln (n:=38) (lw.mono (by decide)) (dY h.s2) (by decide)) (Lf.muln (n:=38) (lw.mono (by decide)) (dY h.s3) (by decide))) Tryz.call74 ?_
 refine jC 41 [vc p1 p2 p3,vc (((2:Int):Rat)*(lP z1 z2 z3 d p1 p2 p3*z1)) (((2:Int):Rat)*(lP z1 z2 z3 d p1 p2 p3*z2)) (((2:Int):Rat)*(lP z1 z2 z3 d p1 p2 p3*z3))] (hp) Tryz.call41 ?_
 refine jW hI 39 [vc m1 m2 m3] (tM hr (hr.1.lf.mono (by decide)) (hr.2.1.lf.mono (by decide)) (hr.2.2.lf.mono (by decide))) Tryz.call39 ?_
 exact jR Tryz.func25
theorem apiMeetF {v1 v2 v3 m1 m2 m3:Rat} (h:Hv z1 z2 z3 d) (k:kA p1 p2 p3) (kv:kA v1 v2 v3) (h0:dt z1 z2 z3 v1 v2 v3≠0)
 (e1:p1-(dt z1 z2 z3 p1 p2 p3-d)/dt z1 z2 z3 v1 v2 v3*v1=m1) (e2:p2-(dt z1 z2 z3 p1 p2 p3-d)/dt z1 z2 z3 v1 v2 v3*v2=m2) (e3:p3-(dt z1 z2 z3 p1 p2 p3-d)/dt z1 z2 z3 v1 v2 v3*v3=m3) (hr:kA m1 m2 m3) :
 FitsW Tryz.prog Gl 30 [hS z1 z2 z3 d,vS p1 p2 p3,vS v1 v2 v3] (fX m1 m2 m3):=by
 have lE:Lf 16 (dt z1 z2 z3 p1 p2 p3-d):=Lf.subn (iX (n:=14) (dY h.s1) (dY h.s2) (dY h.s3) (k.1.lf.mono (by decide)) (k.2.1.lf.mono (by decide)) (k.2.2.lf.mono (by decide)) (by decide)) (h.d.lf.mono (by decide)) (by decide)
 have lV:Lf 16 (dt z1 z2 z3 v1 v2 v3):=iX (dY h.s1) (dY h.s2) (dY h.s3) (kv.1.lf.mono (by decide)) (kv.2.1.lf.mono (by decide)) (kv.2.2.lf.mono (by decide)) (by decide)
 have lQ:Lf 17 ((dt z1 z2 z3 p1 p2 p3-d)/dt z1 z2 z3 v1 v2 v3):=by
  rw [Rat.div_def]
  exact Lf.muln lE (Lf.inv lV) (by decide)
 have lm:∀ {x:Rat},Wr x→Lf 18 ((dt z1 z2 z3 p1 p2 p3-d)/dt z1 z2 z3 v1 v2 v3*x):=fun hx=>Lf.muln lQ (hx.lf.mono (by decide)) (by decide)
 have hi:decide (dt z1 z2 z3 v1 v2 v3=0)=false:=by rw [decide_eq_false_iff_not];exact h0
 obtain ⟨Q,hQ⟩:∃ Q,Q=(dt z1 z2 z3 p1 p2 p3-d)/dt z1 z2 z3 v1 v2 v3:=⟨_,rfl⟩
 rw [← hQ] at e1 e2 e3 lQ lm
 have ho:Fits Tryz.prog 63 [num (dt z1 z2 z3 p1 p2 p3-d),num (dt z1 z2 z3 v1 v2 v3)] (num Q):=by
  rw [hQ]
  exact pT (lE.mono (by decide)) (lV.mono (by decide)) h0
 have hp:Fits Tryz.prog 70 [vc p1 p2 p3,vc (Q*v1) (Q*v2) (Q*v3)] (vc m1 m2 m3):=by
  rw [← e1,← e2,← e3]
  exact vM (k.1.lf.mono (by decide)) (k.2.1.lf.mono (by decide)) (k.2.2.lf.mono (by decide)) ((lm kv.1).mono (by decide)) ((lm kv.2.1).mono (by decide)) ((lm kv.2.2).mono (by decide))
 refine cA Tryz.func30 (by kernel_rfl) fun w00 hG=>?_;have hI:=aS hG
 refine jW hI 71 [gP 72,hS z1 z2 z3 d,gP 37,vS p1 p2 p3] (readHV h k) Tryz.call71 ?_
 refine jW hI 37 [vS v1 v2 v3] (gN kv) Tryz.call37 ?_
 refine jC 69 [.fv (.nsl 2 31 [z0,z0])] (iF) Tryz.call69 ?_
 refine jC 62 [vc z1 z2 z3,vc v1 v2 v3] (nM (dY h.s1) (dY h.s2) (dY h.s3) (kv.1.lf.mono (by decide)) (kv.2.1.lf.mono (by decide)) (kv.2.2.lf.mono (by decide))) Tryz.call62 ?_
 refine jC 81 [num (dt z1 z2 z3 v1 v2 v3)] (bK hi) Tryz.call81 ?_
 refine jC 89 [hf z1 z2 z3 d,vc p1 p2 p3] (excessF (dY h.s1) (dY h.s2) (dY h.s3) (h.d.lf.mono (by decide)) (k.1.lf.mono (by decide)) (k.2.1.lf.mono (by decide)) (k.2.2.lf.mono (by decide))) Tryz.call89 ?_
 refine jC 63 [num (dt z1 z2 z3 p1 p2 p3-d),num (dt z1 z2 z3 v1 v2 v3)] (ho) Tryz.call63 ?_
 refine jC 74 [vc v1 v2 v3,num Q] (gM (lQ.mono (by decide)) (kv.1.lf.mono (by decide)) (kv.2.1.lf.mono (by decide)) (kv.2.2.lf.mono (by decide))) Tryz.call74 ?_
 refine jC 70 [vc p1 p2 p3,vc (Q*v1) (Q*v2) (Q*v3)] (hp) Tryz.call70 ?_
 refine jW hI 39 [vc m1 m2 m3] (tM hr (hr.1.lf.mono (by decide)) (hr.2.1.lf.mono (by decide)) (hr.2.2.lf.mono (by decide))) Tryz.call39 ?_
 exact jR Tryz.func30
end
section
variable {o1 o2 o3 x1 x2 x3 y1 y2 y3 z1 z2 z3 m1 m2 m3 p1 p2 p3:Rat}
structure Ax (x1 x2 x3 y1 y2 y3 z1 z2 z3:Rat):Prop where
 x0:(decide (x1=0)&&decide (x2=0)&&decide (x3=0))=false
 y0:(decide (y1=0)&&decide (y2=0)&&decide (y3=0))=false
 z0:(decide (z1=0)&&decide (z2=0)&&decide (z3=0))=false
 xy:dt x1 x2 x3 y1 y2 y3=0
 yz:dt y1 y2 y3 z1 z2 z3=0
 zx:dt z1 z2 z3 x1 x2 x3=0
 s:nK (dt x1 x2 x3 (y2*z3-y3*z2) (y3*z1-y1*z3) (y1*z2-y2*z1))=1
theorem checkF (l:Lm 25 x1 x2 x3 y1 y2 y3 z1 z2 z3) (h:Ax x1 x2 x3 y1 y2 y3 z1 z2 z3):Fits Tryz.prog 98 [kY o1 o2 o3 x1 x2 x3 y1 y2 y3 z1 z2 z3] (it 0):=by
 obtain ⟨a1,a2,a3,b1,b2,b3,c1,c2,c3⟩:=l
 have hs:Fits Tryz.prog 90 [num (dt x1 x2 x3 (y2*z3-y3*z2) (y3*z1-y1*z3) (y1*z2-y2*z1))] (it 1):=by
  rw [← h.s]
  exact signF
 refine jG Tryz.func98 fun w00=>?_
 refine jC 60 [vc x1 x2 x3] (eZ h.x0) Tryz.call60 ?_
 refine jC 60 [vc y1 y2 y3] (eZ h.y0) Tryz.call60 ?_
 refine jC 60 [vc z1 z2 z3] (eZ h.z0) Tryz.call60 ?_
 refine jC 146 [kY o1 o2 o3 x1 x2 x3 y1 y2 y3 z1 z2 z3] (uN (Lm.mono ⟨a1,a2,a3,b1,b2,b3,c1,c2,c3⟩ (by decide)) h.xy h.yz h.zx) Tryz.call146 ?_
 refine jC 61 [vc y1 y2 y3,vc z1 z2 z3] (xJ (by repeat' (first|exact Lf.mono (by assumption) (by decide)|refine Lf.muln ?_ ?_ (by decide)|refine Lf.addn ?_ ?_ (by decide)|refine Lf.subn ?_ ?_ (by decide))) (by repeat' (first|exact Lf.mono (by assumption) (by decide)|refine Lf.muln ?_ ?_ (by decide)|refine Lf.addn ?_ ?_ (by decide)|refine Lf.subn ?_ ?_ (by decide))) (by repeat' (first|exact Lf.mono (by assumption) (by decide)|refine Lf.muln ?_ ?_ (by decide)|refine Lf.addn ?_ ?_ (by decide)|refine Lf.subn ?_ ?_ (by decide))) (by repeat' (first|exact Lf.mono (by assumption) (by decide)|refine Lf.muln ?_ ?_ (by decide)|refine Lf.addn ?_ ?_ (by decide)|refine Lf.subn ?_ ?_ (by decide))) (by repeat' (first|exact Lf.mono (by assumption) (by decide)|refine Lf.muln ?_ ?_ (by decide)|refine Lf.addn ?_ ?_ (by decide)|refine Lf.subn ?_ ?_ (by decide))) (by repeat' (first|exact Lf.mono (by assumption) (by decide)|refine Lf.muln ?_ ?_ (by decide)|refine Lf.addn ?_ ?_ (by decide)|refine Lf.subn ?_ ?_ (by decide)))) Tryz.call61 ?_
 refine jC 62 [vc x1 x2 x3,vc (y2*z3-y3*z2) (y3*z1-y1*z3) (y1*z2-y2*z1)] (nM (by repeat' (first|exact Lf.mono (by assumption) (by decide)|refine Lf.muln ?_ ?_ (by decide)|refine Lf.addn ?_ ?_ (by decide)|refine Lf.subn ?_ ?_ (by decide))) (by repeat' (first|exact Lf.mono (by assumption) (by decide)|refine Lf.muln ?_ ?_ (by decide)|refine Lf.addn ?_ ?_ (by decide)|refine Lf.subn ?_ ?_ (by decide))) (by repeat' (first|exact Lf.mono (by assumption) (by decide)|refine Lf.muln ?_ ?_ (by decide)|refine Lf.addn ?_ ?_ (by decide)|refine Lf.subn ?_ ?_ (by decide))) (by repeat' (first|exact Lf.mono (by assumption) (by decide)|refine Lf.muln ?_ ?_ (by decide)|refine Lf.addn ?_ ?_ (by decide)|refine Lf.subn ?_ ?_ (by decide))) (by repeat' (first|exact Lf.mono (by assumption) (by decide)|refine Lf.muln ?_ ?_ (by decide)|refine Lf.addn ?_ ?_ (by decide)|refine Lf.subn ?_ ?_ (by decide))) (by repeat' (first|exact Lf.mono (by assumption) (by decide)|refine Lf.muln ?_ ?_ (by decide)|refine Lf.addn ?_ ?_ (by decide)|refine Lf.subn ?_ ?_ (by decide)))) Tryz.call62 ?_
 refine jC 90 [num (dt x1 x2 x3 (y2*z3-y3*z2) (y3*z1-y1*z3) (y1*z2-y2*z1))] (hs) Tryz.call90 ?_
 exact jR Tryz.func98
abbrev gW (o1 o2 o3 x1 x2 x3 y1 y2 y3 z1 z2 z3:Rat):AV Kn := .fv (.ag [bY (writeB o1),bY (writeB o2),bY (writeB o3),bY (writeB x1),bY (writeB x2),bY (writeB x3),bY (writeB y1),bY (writeB y2),bY (writeB y3),bY (writeB z1),bY (writeB z2),bY (writeB z3)])
abbrev gF (o1 o2 o3 x1 x2 x3 y1 y2 y3 z1 z2 z3:Rat):AV Kn := .tup [.ag [bY (writeB o1),bY (writeB o2),bY (writeB o3),bY (writeB x1),bY (writeB x2),bY (writeB x3),bY (writeB y1),bY (writeB y2),bY (writeB y3),bY (writeB z1),bY (writeB z2),bY (writeB z3)],.sc z0]
abbrev okFr (o1 o2 o3 x1 x2 x3 y1 y2 y3 z1 z2 z3:Rat):AV Kn := .tup [.ag [nb o1,nb o2,nb o3,nb x1,nb x2,nb x3,nb y1,nb y2,nb y3,nb z1,nb z2,nb z3],.sc z0]
structure Wf (o1 o2 o3 x1 x2 x3 y1 y2 y3 z1 z2 z3:Rat):Prop where
 o:kA o1 o2 o3
 x:kA x1 x2 x3
 y:kA y1 y2 y3
 z:kA z1 z2 z3
theorem vD {a b c:Rat} (h:kA a b c):Lv3 5 a b c:=⟨h.1.lf,h.2.1.lf,h.2.2.lf⟩
theorem Wf.lm (h:Wf o1 o2 o3 x1 x2 x3 y1 y2 y3 z1 z2 z3):Lm 5 x1 x2 x3 y1 y2 y3 z1 z2 z3:=⟨h.x.1.lf,h.x.2.1.lf,h.x.2.2.lf,h.y.1.lf,h.y.2.1.lf,h.y.2.2.lf,h.z.1.lf,h.z.2.1.lf,h.z.2.2.lf⟩
theorem gX {a b c:Rat} (h:kA a b c):FitsW Tryz.prog Gl 39 [vc a b c] (fX a b c):=tM h (h.1.lf.mono (by decide)) (h.2.1.lf.mono (by decide)) (h.2.2.lf.mono (by decide))
theorem rW (h:Wf o1 o2 o3 x1 x2 x3 y1 y2 y3 z1 z2 z3):FitsW Tryz.prog Gl 42 [kY o1 o2 o3 x1 x2 x3 y1 y2 y3 z1 z2 z3] (gF o1 o2 o3 x1 x2 x3 y1 y2 y3 z1 z2 z3):=by
 refine cA Tryz.func42 (by kernel_rfl) fun w00 hG=>?_;have hI:=aS hG
 refine jW hI 39 [vc o1 o2 o3] (gX h.o) Tryz.call39 ?_
 refine jW hI 39 [vc x1 x2 x3] (gX h.x) Tryz.call39 ?_
 refine jW hI 39 [vc y1 y2 y3] (gX h.y) Tryz.call39 ?_
 refine jW hI 39 [vc z1 z2 z3] (gX h.z) Tryz.call39 ?_
 refine jC 69 [.fv (.nsl 4 31 [z0,z0,z0,z0])] (first4F) Tryz.call69 ?_
 exact jR Tryz.func42
theorem qL (h:Wf o1 o2 o3 x1 x2 x3 y1 y2 y3 z1 z2 z3) (hxy:dt x1 x2 x3 y1 y2 y3=0) (hyz:dt y1 y2 y3 z1 z2 z3=0) (hzx:dt z1 z2 z3 x1 x2 x3=0):FitsW Tryz.prog Gl 88 [kY o1 o2 o3 x1 x2 x3 y1 y2 y3 z1 z2 z3] (gF o1 o2 o3 x1 x2 x3 y1 y2 y3 z1 z2 z3):=by
 refine cA Tryz.func88 (by kernel_rfl) fun w00 hG=>?_;have hI:=aS hG
 refine jC 146 [kY o1 o2 o3 x1 x2 x3 y1 y2 y3 z1 z2 z3] (uN (h.lm.mono (by decide)) hxy hyz hzx) Tryz.call146 ?_
 refine jW hI 42 [kY o1 o2 o3 x1 x2 x3 y1 y2 y3 z1 z2 z3] (rW h) Tryz.call42 ?_
 exact jR Tryz.func88
structure Fv (o1 o2 o3 x1 x2 x3 y1 y2 y3 z1 z2 z3:Rat):Prop where
 w:Wf o1 o2 o3 x1 x2 x3 y1 y2 y3 z1 z2 z3
 a:Ax x1 x2 x3 y1 y2 y3 z1 z2 z3
 r:FitsW Tryz.prog Gl 35 [gW o1 o2 o3 x1 x2 x3 y1 y2 y3 z1 z2 z3] (okFr o1 o2 o3 x1 x2 x3 y1 y2 y3 z1 z2 z3)
variable {n1 n2 n3:Int} {d e:Rat} {k1 k2 k3:Int}
theorem readFV (h:Fv o1 o2 o3 x1 x2 x3 y1 y2 y3 z1 z2 z3) (k:kA p1 p2 p3):FitsW Tryz.prog Gl 36 [gP 35,gW o1 o2 o3 x1 x2 x3 y1 y2 y3 z1 z2 z3,gP 37,vS p1 p2 p3] (.tup [.ag [nb o1,nb o2,nb o3,nb x1,nb x2,nb x3,nb y1,nb y2,nb y3,nb z1,nb z2,nb z3],.ag [nb p1,nb p2,nb p3],.sc z0]):=by
 refine cA Tryz.func36 (by kernel_rfl) fun w00 hG=>?_;have hI:=aS hG
 refine jW hI 35 [gW o1 o2 o3 x1 x2 x3 y1 y2 y3 z1 z2 z3] (h.r) Tryz.call35 ?_
 refine jW hI 37 [vS p1 p2 p3] (gN k) Tryz.call37 ?_
 refine jC 69 [.fv (.nsl 2 31 [z0,z0])] (iF) Tryz.call69 ?_
 exact jR Tryz.func36
theorem readFH (h:Fv o1 o2 o3 x1 x2 x3 y1 y2 y3 z1 z2 z3) (k:Hv n1 n2 n3 d):FitsW Tryz.prog Gl 76 [gP 35,gW o1 o2 o3 x1 x2 x3 y1 y2 y3 z1 z2 z3,gP 72,hS n1 n2 n3 d] (.tup [.ag [nb o1,nb o2,nb o3,nb x1,nb x2,nb x3,nb y1,nb y2,nb y3,nb z1,nb z2,nb z3],.ag [nb n1,nb n2,nb n3,nb d],.sc z0]):=by
 refine cA Tryz.func76 (by kernel_rfl) fun w00 hG=>?_;have hI:=aS hG
 refine jW hI 35 [gW o1 o2 o3 x1 x2 x3 y1 y2 y3 z1 z2 z3] (h.r) Tryz.call35 ?_
 refine jW hI 72 [hS n1 n2 n3 d] (zO (m_sz k.s1) (m_sz k.s2) (m_sz k.s3) k.d k.ck) Tryz.call72 ?_
 refine jC 69 [.fv (.nsl 2 31 [z0,z0])] (iF) Tryz.call69 ?_
 exact jR Tryz.func76
theorem zP (h:Fv o1 o2 o3 x1 x2 x3 y1 y2 y3 z1 z2 z3) (k:kA p1 p2 p3) (e1:o1+ld p1 p2 p3 x1 y1 z1=m1) (e2:o2+ld p1 p2 p3 x2 y2 z2=m2) (e3:o3+ld p1 p2 p3 x3 y3 z3=m3) (hr:kA m1 m2 m3) :
 FitsW Tryz.prog Gl 9 [gW o1 o2 o3 x1 x2 x3 y1 y2 y3 z1 z2 z3,vS p1 p2 p3] (fX m1 m2 m3):=by
 have hp:Fits Tryz.prog 38 [kY o1 o2 o3 x1 x2 x3 y1 y2 y3 z1 z2 z3,vc p1 p2 p3] (vc m1 m2 m3):=by
  rw [← e1,← e2,← e3]
  exact placeF (h.w.lm.mono (by decide)) ((vD k).mono (by decide)) ((vD h.w.o).mono (by decide))
 refine cA Tryz.func9 (by kernel_rfl) fun w00 hG=>?_;have hI:=aS hG
 refine jW hI 36 [gP 35,gW o1 o2 o3 x1 x2 x3 y1 y2 y3 z1 z2 z3,gP 37,vS p1 p2 p3] (readFV h k) Tryz.call36 ?_
 refine jC 38 [kY o1 o2 o3 x1 x2 x3 y1 y2 y3 z1 z2 z3,vc p1 p2 p3] (hp) Tryz.call38 ?_
 refine jW hI 39 [vc m1 m2 m3] (gX hr) Tryz.call39 ?_
 exact jR Tryz.func9
theorem vO {p q:Rat} {k l:Nat} (hp:Lf k p) (hq:Lf k q) (hk:k+1≤l):Lf l (p/q):=by
 rw [Rat.div_def]
 exact Lf.mono (hp.mul hq.inv) hk
theorem yM (h:Fv o1 o2 o3 x1 x2 x3 y1 y2 y3 z1 z2 z3) (k:Hv n1 n2 n3 d) (h0:Sq0 x1 x2 x3 y1 y2 y3 z1 z2 z3) {q1 q2 q3:Rat}
 (e1:ld (n1/dt x1 x2 x3 x1 x2 x3) (n2/dt y1 y2 y3 y1 y2 y3) (n3/dt z1 z2 z3 z1 z2 z3) x1 y1 z1=q1) (e2:ld (n1/dt x1 x2 x3 x1 x2 x3) (n2/dt y1 y2 y3 y1 y2 y3) (n3/dt z1 z2 z3 z1 z2 z3) x2 y2 z2=q2) (e3:ld (n1/dt x1 x2 x3 x1 x2 x3) (n2/dt y1 y2 y3 y1 y2 y3) (n3/dt z1 z2 z3 z1 z2 z3) x3 y3 z3=q3)
 (hm:Form q1 q2 q3 (d+dt q1 q2 q3 o1 o2 o3) k1 k2 k3 e):FitsW Tryz.prog Gl 27 [gW o1 o2 o3 x1 x2 x3 y1 y2 y3 z1 z2 z3,hS n1 n2 n3 d] (qV k1 k2 k3 e):=by
 obtain ⟨a1,a2,a3,b1,b2,b3,c1,c2,c3⟩:=h.w.lm
 obtain ⟨g1,g2,g3⟩:=vD h.w.o
 have ld':=k.d.lf
 have t1:=dY k.s1 (k:=10)
 have t2:=dY k.s2 (k:=10)
 have t3:=dY k.s3 (k:=10)
 have s1:Lf 10 (dt x1 x2 x3 x1 x2 x3):=by repeat' (first|exact Lf.mono (by assumption) (by decide)|refine Lf.muln ?_ ?_ (by decide)|refine Lf.addn ?_ ?_ (by decide)|refine Lf.subn ?_ ?_ (by decide))
 have s2:Lf 10 (dt y1 y2 y3 y1 y2 y3):=by repeat' (first|exact Lf.mono (by assumption) (by decide)|refine Lf.muln ?_ ?_ (by decide)|refine Lf.addn ?_ ?_ (by decide)|refine Lf.subn ?_ ?_ (by decide))
 have s3:Lf 10 (dt z1 z2 z3 z1 z2 z3):=by repeat' (first|exact Lf.mono (by assumption) (by decide)|refine Lf.muln ?_ ?_ (by decide)|refine Lf.addn ?_ ?_ (by decide)|refine Lf.subn ?_ ?_ (by decide))
 have r1:=vO t1 s1 (Nat.le_refl 11)
 have r2:=vO t2 s2 (Nat.le_refl 11)
 have r3:=vO t3 s3 (Nat.le_refl 11)
 have j:Fits Tryz.prog 78 [gP 63,vc n1 n2 n3,vc (dt x1 x2 x3 x1 x2 x3) (dt y1 y2 y3 y1 y2 y3) (dt z1 z2 z3 z1 z2 z3)] (vc (n1/dt x1 x2 x3 x1 x2 x3) (n2/dt y1 y2 y3 y1 y2 y3) (n3/dt z1 z2 z3 z1 z2 z3)) :=
  joinF Tryz.call63 (pT (t1.mono (by decide)) (s1.mono (by decide)) h0.x) (pT (t2.mono (by decide)) (s2.mono (by decide)) h0.y) (pT (t3.mono (by decide)) (s3.mono (by decide)) h0.z)
 have hl:Fits Tryz.prog 77 [kY o1 o2 o3 x1 x2 x3 y1 y2 y3 z1 z2 z3,vc (n1/dt x1 x2 x3 x1 x2 x3) (n2/dt y1 y2 y3 y1 y2 y3) (n3/dt z1 z2 z3 z1 z2 z3)] (vc q1 q2 q3):=by
  rw [← e1,← e2,← e3]
  exact leadF (h.w.lm.mono (by decide)) ⟨r1.mono (by decide),r2.mono (by decide),r3.mono (by decide)⟩
 have l1:=hm.l1
 have l2:=hm.l2
 have l3:=hm.l3
 refine cA Tryz.func27 (by kernel_rfl) fun w00 hG=>?_;have hI:=aS hG
 refine jW hI 76 [gP 35,gW o1 o2 o3 x1 x2 x3 y1 y2 y3 z1 z2 z3,gP 72,hS n1 n2 n3 d] (readFH h k) Tryz.call76 ?_
 refine jC 43 [kY o1 o2 o3 x1 x2 x3 y1 y2 y3 z1 z2 z3] (xK (h.w.lm.mono (by decide))) Tryz.call43 ?_
 refine jC 78 [gP 63,vc n1 n2 n3,vc (dt x1 x2 x3 x1 x2 x3) (dt y1 y2 y3 y1 y2 y3) (dt z1 z2 z3 z1 z2 z3)] (j) Tryz.call78 ?_
 refine jC 77 [kY o1 o2 o3 x1 x2 x3 y1 y2 y3 z1 z2 z3,vc (n1/dt x1 x2 x3 x1 x2 x3) (n2/dt y1 y2 y3 y1 y2 y3) (n3/dt z1 z2 z3 z1 z2 z3)] (hl) Tryz.call77 ?_
 refine jC 62 [vc q1 q2 q3,vc o1 o2 o3] (nM (by repeat' (first|exact Lf.mono (by assumption) (by decide)|refine Lf.muln ?_ ?_ (by decide)|refine Lf.addn ?_ ?_ (by decide)|refine Lf.subn ?_ ?_ (by decide))) (by repeat' (first|exact Lf.mono (by assumption) (by decide)|refine Lf.muln ?_ ?_ (by decide)|refine Lf.addn ?_ ?_ (by decide)|refine Lf.subn ?_ ?_ (by decide))) (by repeat' (first|exact Lf.mono (by assumption) (by decide)|refine Lf.muln ?_ ?_ (by decide)|refine Lf.addn ?_ ?_ (by decide)|refine Lf.subn ?_ ?_ (by decide))) (by repeat' (first|exact Lf.mono (by assumption) (by decide)|refine Lf.muln ?_ ?_ (by decide)|refine Lf.addn ?_ ?_ (by decide)|refine Lf.subn ?_ ?_ (by decide))) (by repeat' (first|exact Lf.mono (by assumption) (by decide)|refine Lf.muln ?_ ?_ (by decide)|refine Lf.addn ?_ ?_ (by decide)|refine Lf.subn ?_ ?_ (by decide))) (by repeat' (first|exact Lf.mono (by assumption) (by decide)|refine Lf.muln ?_ ?_ (by decide)|refine Lf.addn ?_ ?_ (by decide)|refine Lf.subn ?_ ?_ (by decide)))) Tryz.call62 ?_
 refine jC 79 [num d,num (dt q1 q2 q3 o1 o2 o3)] (uM (by repeat' (first|exact Lf.mono (by assumption) (by decide)|refine Lf.muln ?_ ?_ (by decide)|refine Lf.addn ?_ ?_ (by decide)|refine Lf.subn ?_ ?_ (by decide))) (by repeat' (first|exact Lf.mono (by assumption) (by decide)|refine Lf.muln ?_ ?_ (by decide)|refine Lf.addn ?_ ?_ (by decide)|refine Lf.subn ?_ ?_ (by decide)))) Tryz.call79 ?_
 refine jW hI 68 [hf q1 q2 q3 (d+dt q1 q2 q3 o1 o2 o3)] (hWriteF hm) Tryz.call68 ?_
 exact jR Tryz.func27
end
section
variable {w u1 u2 u3 v1 v2 v3:Rat}
abbrev tc (w s D c v u:Rat):Rat:=((1:Int):Rat)/(w*w+s)*((w*w-s)*v+((2:Int):Rat)*w*c+((2:Int):Rat)*D*u)
theorem turnedF (hw:Lf 8 w) (h1:Lf 8 u1) (h2:Lf 8 u2) (h3:Lf 8 u3) (k1:Lf 8 v1) (k2:Lf 8 v2) (k3:Lf 8 v3) (h0:w*w+dt u1 u2 u3 u1 u2 u3≠0) :
 Fits Tryz.prog 83 [num w,vc u1 u2 u3,vc v1 v2 v3] (vc (tc w (dt u1 u2 u3 u1 u2 u3) (dt u1 u2 u3 v1 v2 v3) (u2*v3-u3*v2) v1 u1) (tc w (dt u1 u2 u3 u1 u2 u3) (dt u1 u2 u3 v1 v2 v3) (u3*v1-u1*v3) v2 u2) (tc w (dt u1 u2 u3 u1 u2 u3) (dt u1 u2 u3 v1 v2 v3) (u1*v2-u2*v1) v3 u3)):=by
 have i2:Lf 8 ((2:Int):Rat):=Lf.int (Lv.one _ (by rw [aJ];decide))
 have i1:Lf 8 ((1:Int):Rat):=Lf.int (Lv.one _ (by rw [aJ];decide))
 have ls:Lf 14 (dt u1 u2 u3 u1 u2 u3):=by repeat' (first|exact Lf.mono (by assumption) (by decide)|refine Lf.muln ?_ ?_ (by decide)|refine Lf.addn ?_ ?_ (by decide)|refine Lf.subn ?_ ?_ (by decide))
 have lD:Lf 14 (dt u1 u2 u3 v1 v2 v3):=by repeat' (first|exact Lf.mono (by assumption) (by decide)|refine Lf.muln ?_ ?_ (by decide)|refine Lf.addn ?_ ?_ (by decide)|refine Lf.subn ?_ ?_ (by decide))
 have lL:Lf 16 (w*w+dt u1 u2 u3 u1 u2 u3):=by repeat' (first|exact Lf.mono (by assumption) (by decide)|refine Lf.muln ?_ ?_ (by decide)|refine Lf.addn ?_ ?_ (by decide)|refine Lf.subn ?_ ?_ (by decide))
 obtain ⟨S,hS⟩:∃ S,S=dt u1 u2 u3 u1 u2 u3:=⟨_,rfl⟩
 obtain ⟨D,hD⟩:∃ D,D=dt u1 u2 u3 v1 v2 v3:=⟨_,rfl⟩
 have sq:Fits Tryz.prog 64 [vc u1 u2 u3] (num S):=by rw [hS];exact oY (by repeat' (first|exact Lf.mono (by assumption) (by decide)|refine Lf.muln ?_ ?_ (by decide)|refine Lf.addn ?_ ?_ (by decide)|refine Lf.subn ?_ ?_ (by decide))) (by repeat' (first|exact Lf.mono (by assumption) (by decide)|refine Lf.muln ?_ ?_ (by decide)|refine Lf.addn ?_ ?_ (by decide)|refine Lf.subn ?_ ?_ (by decide))) (by repeat' (first|exact Lf.mono (by assumption) (by decide)|refine Lf.muln ?_ ?_ (by decide)|refine Lf.addn ?_ ?_ (by decide)|refine Lf.subn ?_ ?_ (by decide)))
 have dd:Fits Tryz.prog 62 [vc u1 u2 u3,vc v1 v2 v3] (num D):=by rw [hD];exact nM (by repeat' (first|exact Lf.mono (by assumption) (by decide)|refine Lf.muln ?_ ?_ (by decide)|refine Lf.addn ?_ ?_ (by decide)|refine Lf.subn ?_ ?_ (by decide))) (by repeat' (first|exact Lf.mono (by assumption) (by decide)|refine Lf.muln ?_ ?_ (by decide)|refine Lf.addn ?_ ?_ (by decide)|refine Lf.subn ?_ ?_ (by decide))) (by repeat' (first|exact Lf.mono (by assumption) (by decide)|refine Lf.muln ?_ ?_ (by decide)|refine Lf.addn ?_ ?_ (by decide)|refine Lf.subn ?_ ?_ (by decide))) (by repeat' (first|exact Lf.mono (by assumption) (by decide)|refine Lf.muln ?_ ?_ (by decide)|refine Lf.addn ?_ ?_ (by decide)|refine Lf.subn ?_ ?_ (by decide))) (by repeat' (first|exact Lf.mono (by assumption) (by decide)|refine Lf.muln ?_ ?_ (by decide)|refine Lf.addn ?_ ?_ (by decide)|refine Lf.subn ?_ ?_ (by decide))) (by repeat' (first|exact Lf.mono (by assumption) (by decide)|refine Lf.muln ?_ ?_ (by decide)|refine Lf.addn ?_ ?_ (by decide)|refine Lf.subn ?_ ?_ (by decide)))
 rw [← hS] at ls lL h0
 rw [← hD] at lD
 rw [← hS,← hD]
 clear hS hD
 have lq:=vO (i1.mono (by decide:8≤16)) lL (Nat.le_refl 17)
 refine jG Tryz.func83 fun w00=>?_
 refine jC 75 [it 2] (lO (by constructor <;> omega)) Tryz.call75 ?_
 refine jC 127 [num w,num w] (fM (by repeat' (first|exact Lf.mono (by assumption) (by decide)|refine Lf.muln ?_ ?_ (by decide)|refine Lf.addn ?_ ?_ (by decide)|refine Lf.subn ?_ ?_ (by decide))) (by repeat' (first|exact Lf.mono (by assumption) (by decide)|refine Lf.muln ?_ ?_ (by decide)|refine Lf.addn ?_ ?_ (by decide)|refine Lf.subn ?_ ?_ (by decide)))) Tryz.call127 ?_
 refine jC 64 [vc u1 u2 u3] (sq) Tryz.call64 ?_
 refine jC 128 [num (w*w),num S] (oD (by repeat' (first|exact Lf.mono (by assumption) (by decide)|refine Lf.muln ?_ ?_ (by decide)|refine Lf.addn ?_ ?_ (by decide)|refine Lf.subn ?_ ?_ (by decide))) (by repeat' (first|exact Lf.mono (by assumption) (by decide)|refine Lf.muln ?_ ?_ (by decide)|refine Lf.addn ?_ ?_ (by decide)|refine Lf.subn ?_ ?_ (by decide)))) Tryz.call128 ?_
 refine jC 74 [vc v1 v2 v3,num (w*w-S)] (gM (by repeat' (first|exact Lf.mono (by assumption) (by decide)|refine Lf.muln ?_ ?_ (by decide)|refine Lf.addn ?_ ?_ (by decide)|refine Lf.subn ?_ ?_ (by decide))) (by repeat' (first|exact Lf.mono (by assumption) (by decide)|refine Lf.muln ?_ ?_ (by decide)|refine Lf.addn ?_ ?_ (by decide)|refine Lf.subn ?_ ?_ (by decide))) (by repeat' (first|exact Lf.mono (by assumption) (by decide)|refine Lf.muln ?_ ?_ (by decide)|refine Lf.addn ?_ ?_ (by decide)|refine Lf.subn ?_ ?_ (by decide))) (by repeat' (first|exact Lf.mono (by assumption) (by decide)|refine Lf.muln ?_ ?_ (by decide)|refine Lf.addn ?_ ?_ (by decide)|refine Lf.subn ?_ ?_ (by decide)))) Tryz.call74 ?_
 refine jC 61 [vc u1 u2 u3,vc v1 v2 v3] (xJ (by repeat' (first|exact Lf.mono (by assumption) (by decide)|refine Lf.muln ?_ ?_ (by decide)|refine Lf.addn ?_ ?_ (by decide)|refine Lf.subn ?_ ?_ (by decide))) (by repeat' (first|exact Lf.mono (by assumption) (by decide)|refine Lf.muln ?_ ?_ (by decide)|refine Lf.addn ?_ ?_ (by decide)|refine Lf.subn ?_ ?_ (by decide))) (by repeat' (first|exact Lf.mono (by assumption) (by decide)|refine Lf.muln ?_ ?_ (by decide)|refine Lf.addn ?_ ?_ (by decide)|refine Lf.subn ?_ ?_ (by decide))) (by repeat' (first|exact Lf.mono (by assumption) (by decide)|refine Lf.muln ?_ ?_ (by decide)|refine Lf.addn ?_ ?_ (by decide)|refine Lf.subn ?_ ?_ (by decide))) (by repeat' (first|exact Lf.mono (by assumption) (by decide)|refine Lf.muln ?_ ?_ (by decide)|refine Lf.addn ?_ ?_ (by decide)|refine Lf.subn ?_ ?_ (by decide))) (by repeat' (first|exact Lf.mono (by assumption) (by decide)|refine Lf.muln ?_ ?_ (by decide)|refine Lf.addn ?_ ?_ (by decide)|refine Lf.subn ?_ ?_ (by decide)))) Tryz.call61 ?_
 refine jC 127 [num ((2:Int):Rat),num w] (fM (by repeat' (first|exact Lf.mono (by assumption) (by decide)|refine Lf.muln ?_ ?_ (by decide)|refine Lf.addn ?_ ?_ (by decide)|refine Lf.subn ?_ ?_ (by decide))) (by repeat' (first|exact Lf.mono (by assumption) (by decide)|refine Lf.muln ?_ ?_ (by decide)|refine Lf.addn ?_ ?_ (by decide)|refine Lf.subn ?_ ?_ (by decide)))) Tryz.call127 ?_
 refine jC 74 [vc (u2*v3-u3*v2) (u3*v1-u1*v3) (u1*v2-u2*v1),num (((2:Int):Rat)*w)] (gM (by repeat' (first|exact Lf.mono (by assumption) (by decide)|refine Lf.muln ?_ ?_ (by decide)|refine Lf.addn ?_ ?_ (by decide)|refine Lf.subn ?_ ?_ (by decide))) (by repeat' (first|exact Lf.mono (by assumption) (by decide)|refine Lf.muln ?_ ?_ (by decide)|refine Lf.addn ?_ ?_ (by decide)|refine Lf.subn ?_ ?_ (by decide))) (by repeat' (first|exact Lf.mono (by assumption) (by decide)|refine Lf.muln ?_ ?_ (by decide)|refine Lf.addn ?_ ?_ (by decide)|refine Lf.subn ?_ ?_ (by decide))) (by repeat' (first|exact Lf.mono (by assumption) (by decide)|refine Lf.muln ?_ ?_ (by decide)|refine Lf.addn ?_ ?_ (by decide)|refine Lf.subn ?_ ?_ (by decide)))) Tryz.call74 ?_
 refine jC 41 [vc ((w*w-S)*v1) ((w*w-S)*v2) ((w*w-S)*v3),vc (((2:Int):Rat)*w*(u2*v3-u3*v2)) (((2:Int):Rat)*w*(u3*v1-u1*v3)) (((2:Int):Rat)*w*(u1*v2-u2*v1))] (qH (by repeat' (first|exact Lf.mono (by assumption) (by decide)|refine Lf.muln ?_ ?_ (by decide)|refine Lf.addn ?_ ?_ (by decide)|refine Lf.subn ?_ ?_ (by decide))) (by repeat' (first|exact Lf.mono (by assumption) (by decide)|refine Lf.muln ?_ ?_ (by decide)|refine Lf.addn ?_ ?_ (by decide)|refine Lf.subn ?_ ?_ (by decide))) (by repeat' (first|exact Lf.mono (by assumption) (by decide)|refine Lf.muln ?_ ?_ (by decide)|refine Lf.addn ?_ ?_ (by decide)|refine Lf.subn ?_ ?_ (by decide))) (by repeat' (first|exact Lf.mono (by assumption) (by decide)|refine Lf.muln ?_ ?_ (by decide)|refine Lf.addn ?_ ?_ (by decide)|refine Lf.subn ?_ ?_ (by decide))) (by repeat' (first|exact Lf.mono (by assumption) (by decide)|refine Lf.muln ?_ ?_ (by decide)|refine Lf.addn ?_ ?_ (by decide)|refine Lf.subn ?_ ?_ (by decide))) (by repeat' (first|exact Lf.mono (by assumption) (by decide)|refine Lf.muln ?_ ?_ (by decide)|refine Lf.addn ?_ ?_ (by decide)|refine Lf.subn ?_ ?_ (by decide)))) Tryz.call41 ?_
 refine jC 62 [vc u1 u2 u3,vc v1 v2 v3] (dd) Tryz.call62 ?_
 refine jC 127 [num ((2:Int):Rat),num D] (fM (by repeat' (first|exact Lf.mono (by assumption) (by decide)|refine Lf.muln ?_ ?_ (by decide)|refine Lf.addn ?_ ?_ (by decide)|refine Lf.subn ?_ ?_ (by decide))) (by repeat' (first|exact Lf.mono (by assumption) (by decide)|refine Lf.muln ?_ ?_ (by decide)|refine Lf.addn ?_ ?_ (by decide)|refine Lf.subn ?_ ?_ (by decide)))) Tryz.call127 ?_
 refine jC 74 [vc u1 u2 u3,num (((2:Int):Rat)*D)] (gM (by repeat' (first|exact Lf.mono (by assumption) (by decide)|refine Lf.muln ?_ ?_ (by decide)|refine Lf.addn ?_ ?_ (by decide)|refine Lf.subn ?_ ?_ (by decide))) (by repeat' (first|exact Lf.mono (by assumption) (by decide)|refine Lf.muln ?_ ?_ (by decide)|refine Lf.addn ?_ ?_ (by decide)|refine Lf.subn ?_ ?_ (by decide))) (by repeat' (first|exact Lf.mono (by assumption) (by decide)|refine Lf.muln ?_ ?_ (by decide)|refine Lf.addn ?_ ?_ (by decide)|refine Lf.subn ?_ ?_ (by decide))) (by repeat' (first|exact Lf.mono (by assumption) (by decide)|refine Lf.muln ?_ ?_ (by decide)|refine Lf.addn ?_ ?_ (by decide)|refine Lf.subn ?_ ?_ (by decide)))) Tryz.call74 ?_
 refine jC 41 [vc ((w*w-S)*v1+((2:Int):Rat)*w*(u2*v3-u3*v2)) ((w*w-S)*v2+((2:Int):Rat)*w*(u3*v1-u1*v3)) ((w*w-S)*v3+((2:Int):Rat)*w*(u1*v2-u2*v1)),vc (((2:Int):Rat)*D*u1) (((2:Int):Rat)*D*u2) (((2:Int):Rat)*D*u3)] (qH (by repeat' (first|exact Lf.mono (by assumption) (by decide)|refine Lf.muln ?_ ?_ (by decide)|refine Lf.addn ?_ ?_ (by decide)|refine Lf.subn ?_ ?_ (by decide))) (by repeat' (first|exact Lf.mono (by assumption) (by decide)|refine Lf.muln ?_ ?_ (by decide)|refine Lf.addn ?_ ?_ (by decide)|refine Lf.subn ?_ ?_ (by decide))) (by repeat' (first|exact Lf.mono (by assumption) (by decide)|refine Lf.muln ?_ ?_ (by decide)|refine Lf.addn ?_ ?_ (by decide)|refine Lf.subn ?_ ?_ (by decide))) (by repeat' (first|exact Lf.mono (by assumption) (by decide)|refine Lf.muln ?_ ?_ (by decide)|refine Lf.addn ?_ ?_ (by decide)|refine Lf.subn ?_ ?_ (by decide))) (by repeat' (first|exact Lf.mono (by assumption) (by decide)|refine Lf.muln ?_ ?_ (by decide)|refine Lf.addn ?_ ?_ (by decide)|refine Lf.subn ?_ ?_ (by decide))) (by repeat' (first|exact Lf.mono (by assumption) (by decide)|refine Lf.muln ?_ ?_ (by decide)|refine Lf.addn ?_ ?_ (by decide)|refine Lf.subn ?_ ?_ (by decide)))) Tryz.call41 ?_
 refine jC 75 [it 1] (lO (by constructor <;> omega)) Tryz.call75 ?_
 refine jC 79 [num (w*w),num S] (uM (by repeat' (first|exact Lf.mono (by assumption) (by decide)|refine Lf.muln ?_ ?_ (by decide)|refine Lf.addn ?_ ?_ (by decide)|refine Lf.subn ?_ ?_ (by decide))) (by repeat' (first|exact Lf.mono (by assumption) (by decide)|refine Lf.muln ?_ ?_ (by decide)|refine Lf.addn ?_ ?_ (by decide)|refine Lf.subn ?_ ?_ (by decide)))) Tryz.call79 ?_
 refine jC 63 [num ((1:Int):Rat),num (w*w+S)] (pT (by repeat' (first|exact Lf.mono (by assumption) (by decide)|refine Lf.muln ?_ ?_ (by decide)|refine Lf.addn ?_ ?_ (by decide)|refine Lf.subn ?_ ?_ (by decide))) (by repeat' (first|exact Lf.mono (by assumption) (by decide)|refine Lf.muln ?_ ?_ (by decide)|refine Lf.addn ?_ ?_ (by decide)|refine Lf.subn ?_ ?_ (by decide))) h0) Tryz.call63 ?_
 refine jC 74 [vc ((w*w-S)*v1+((2:Int):Rat)*w*(u2*v3-u3*v2)+((2:Int):Rat)*D*u1) ((w*w-S)*v2+((2:Int):Rat)*w*(u3*v1-u1*v3)+((2:Int):Rat)*D*u2) ((w*w-S)*v3+((2:Int):Rat)*w*(u1*v2-u2*v1)+((2:Int):Rat)*D*u3),num (((1:Int):Rat)/(w*w+S))] (gM (by repeat' (first|exact Lf.mono (by assumption) (by decide)|refine Lf.muln ?_ ?_ (by decide)|refine Lf.addn ?_ ?_ (by decide)|refine Lf.subn ?_ ?_ (by decide))) (by repeat' (first|exact Lf.mono (by assumption) (by decide)|refine Lf.muln ?_ ?_ (by decide)|refine Lf.addn ?_ ?_ (by decide)|refine Lf.subn ?_ ?_ (by decide))) (by repeat' (first|exact Lf.mono (by assumption) (by decide)|refine Lf.muln ?_ ?_ (by decide)|refine Lf.addn ?_ ?_ (by decide)|refine Lf.subn ?_ ?_ (by decide))) (by repeat' (first|exact Lf.mono (by assumption) (by decide)|refine Lf.muln ?_ ?_ (by decide)|refine Lf.addn ?_ ?_ (by decide)|refine Lf.subn ?_ ?_ (by decide)))) Tryz.call74 ?_
 exact jR Tryz.func83
end
end Go.Proofs.YtejbgingjeedaaaGreatDoor.Ab
