/- Parts of the proof, joined. -/
import Derived.Test.YtgbcaflelmgbdaaGreatDoorJ10
import Derived.Test.YtgbcaflelmgbdaaGreatDoorJ4
import Derived.OwnWalk
set_option linter.unusedSimpArgs false
set_option linter.unusedVariables false
namespace Go.Proofs.YtgbcaflelmgbdaaGreatDoor.Ab
open Go.RowKit Go.Proofs.YtgbcaflelmgbdaaGreatDoor Pl
section
variable {a b c x y z u v d e:Rat}
theorem readRV (h:Wr a) (k:mH x y z):FitsW Tryz.prog Gl 72 [gL 65,tx (writeB a),gL 31,vS x y z] (.tup [.ag [nb a],.ag [nb x,nb y,nb z],.sc z0]):=by
 refine dO Tryz.func72 (by kernel_rfl) fun w00 hG=>?_;have hI:=bD hG
 refine aL hI 65 [tx (writeB a)] (readF h) (by kernel_rfl) Tryz.call65 ?_
 refine aL hI 31 [vS x y z] (gG k) (by kernel_rfl) Tryz.call31 ?_
 refine aB 66 [.fv (.nsl 2 34 [z0,z0])] (gF) (by kernel_rfl) Tryz.call66 ?_
 exact aS Tryz.func72 (by kernel_rfl)
theorem readVV (h:mH a b c) (k:mH x y z):FitsW Tryz.prog Gl 60 [gL 31,vS a b c,gL 31,vS x y z] (.tup [.ag [nb a,nb b,nb c],.ag [nb x,nb y,nb z],.sc z0]):=by
 refine dO Tryz.func60 (by kernel_rfl) fun w00 hG=>?_;have hI:=bD hG
 refine aL hI 31 [vS a b c] (gG h) (by kernel_rfl) Tryz.call31 ?_
 refine aL hI 31 [vS x y z] (gG k) (by kernel_rfl) Tryz.call31 ?_
 refine aB 66 [.fv (.nsl 2 34 [z0,z0])] (gF) (by kernel_rfl) Tryz.call66 ?_
 exact aS Tryz.func60 (by kernel_rfl)
theorem readVR (h:mH a b c) (k:Wr d):FitsW Tryz.prog Gl 64 [gL 31,vS a b c,gL 65,tx (writeB d)] (.tup [.ag [nb a,nb b,nb c],.ag [nb d],.sc z0]):=by
 refine dO Tryz.func64 (by kernel_rfl) fun w00 hG=>?_;have hI:=bD hG
 refine aL hI 31 [vS a b c] (gG h) (by kernel_rfl) Tryz.call31 ?_
 refine aL hI 65 [tx (writeB d)] (readF k) (by kernel_rfl) Tryz.call65 ?_
 refine aB 66 [.fv (.nsl 2 34 [z0,z0])] (gF) (by kernel_rfl) Tryz.call66 ?_
 exact aS Tryz.func64 (by kernel_rfl)
abbrev okS (q:Rat):AV Kn := .tup [.sc (dG (writeB q)),.sc z0]
abbrev fV (a b c:Rat):AV Kn := .tup [.ag [dG (writeB a),dG (writeB b),dG (writeB c)],.sc z0]
theorem apiAlongF (h:mH a b c) (k:mH x y z) (h0:(decide (a=0)&&decide (b=0)&&decide (c=0))=false) (hc:(decide (b*z-c*y=0)&&decide (c*x-a*z=0)&&decide (a*y-b*x=0))=true)
 (hs:dt a b c a b c≠0) (hr:Wr (dt x y z a b c/dt a b c a b c)):FitsW Tryz.prog Gl 18 [vS a b c,vS x y z] (okS (dt x y z a b c/dt a b c a b c)):=by
 have l1:=h.1.lf
 have l2:=h.2.1.lf
 have l3:=h.2.2.lf
 have m1:=k.1.lf
 have m2:=k.2.1.lf
 have m3:=k.2.2.lf
 refine dO Tryz.func18 (by kernel_rfl) fun w00 hG=>?_;have hI:=bD hG
 refine aL hI 60 [gL 31,vS a b c,gL 31,vS x y z] (readVV h k) (by kernel_rfl) Tryz.call60 ?_
 refine aB 61 [vc a b c] (iE h0) (by kernel_rfl) Tryz.call61 ?_
 refine aB 62 [vc a b c,vc x y z] (crossF (l1.mono (by decide)) (l2.mono (by decide)) (l3.mono (by decide)) (m1.mono (by decide)) (m2.mono (by decide)) (m3.mono (by decide))) (by kernel_rfl) Tryz.call62 ?_
 refine aB 61 [vc (b*z-c*y) (c*x-a*z) (a*y-b*x)] (iE hc) (by kernel_rfl) Tryz.call61 ?_
 refine aB 45 [vc x y z,vc a b c] (mU (m1.mono (by decide)) (m2.mono (by decide)) (m3.mono (by decide)) (l1.mono (by decide)) (l2.mono (by decide)) (l3.mono (by decide))) (by kernel_rfl) Tryz.call45 ?_
 refine aB 63 [vc a b c] (squareF (l1.mono (by decide)) (l2.mono (by decide)) (l3.mono (by decide))) (by kernel_rfl) Tryz.call63 ?_
 refine aB 42 [num (dt x y z a b c),num (dt a b c a b c)] (kX (iS (n:=38) (m1.mono (by decide)) (m2.mono (by decide)) (m3.mono (by decide)) (l1.mono (by decide)) (l2.mono (by decide)) (l3.mono (by decide)) (by decide)) (iS (n:=38) (l1.mono (by decide)) (l2.mono (by decide)) (l3.mono (by decide)) (l1.mono (by decide)) (l2.mono (by decide)) (l3.mono (by decide)) (by decide)) hs) (by kernel_rfl) Tryz.call42 ?_
 refine aL hI 59 [num (dt x y z a b c/dt a b c a b c)] (writeF (hr.lf.mono (by decide)) hr.n hr.d) (by kernel_rfl) Tryz.call59 ?_
 exact aS Tryz.func18 (by kernel_rfl)
end
def wn (q:Rat) (n:Nat):Nat:=if q=0 then n else Nat.gcd q.num.natAbs n
def wd (q:Rat) (d:Nat):Nat:=if q=0 then d else d*(q.den/Nat.gcd q.den d)
def aQ (a b c:Rat):Rat:=mkRat (sg false (wd c (wd b (wd a 1)))) (wn c (wn b (wn a 0)))
theorem gS {q:Rat} {n:Nat} (h:q≠0):0<wn q n:=by
 unfold wn
 rw [if_neg h]
 have:0<q.num.natAbs:=by
  have:q.num≠0:=fun e=>h (Rat.num_eq_zero.1 e)
  omega
 exact Nat.gcd_pos_of_pos_left _ this
theorem iA {q:Rat} {n:Nat} (h:0<n):0<wn q n:=by
 unfold wn
 split
 ·exact h
 ·exact Nat.gcd_pos_of_pos_right _ h
theorem wd_pos {q:Rat} {d:Nat} (h:0<d):0<wd q d:=by
 unfold wd
 split
 ·exact h
 ·have h1:=q.den_pos
  have:=Nat.div_pos (Nat.le_of_dvd h1 (Nat.gcd_dvd_left q.den d)) (Nat.gcd_pos_of_pos_left d h1)
  exact Nat.mul_pos h this
theorem dK {q:Rat} {n k:Nat} (hq:Lf k q) (hn:Lv k n):Lv k (wn q n):=by
 unfold wn
 split
 ·exact hn
 ·rename_i h
  have:q.num≠0:=fun e=>h (Rat.num_eq_zero.1 e)
  exact hq.1.le (Nat.gcd_le_left _ (by omega))
theorem lv_wd {q:Rat} {d k:Nat} (hq:Lf k q) (hd:Lv k d):Lv (k+1) (wd q d):=by
 unfold wd
 split
 ·exact hd.mono (by omega)
 ·exact hd.mul (hq.2.le (Nat.div_le_self _ _))
theorem nil_nt {β:List Nat} {v:Value} {w:World} (h:(AV.fv (.sc (.lit (.slice none 0 0))):AV Kn).holds β v w):(nt 0).holds β v w:=by
 rw [aO h]
 exact dP.2 (Nt.zero w)
theorem iR {q:Rat} (h:¬ q=0):0<q.num.natAbs:=by
 have:q.num≠0:=fun e=>h (Rat.num_eq_zero.1 e)
 omega
section
variable {a b c:Rat}
theorem whole_111 (la:Lf 30 a) (lb:Lf 30 b) (lc:Lf 30 c) (ha:¬ a=0) (hb:¬ b=0) (hc:¬ c=0):Fits Tryz.prog 167 [vc a b c] (num (aQ a b c)):=by
 have e:aQ a b c=mkRat (sg false ((((1)*(a.den/Nat.gcd a.den (1)))*(b.den/Nat.gcd b.den ((1)*(a.den/Nat.gcd a.den (1)))))*(c.den/Nat.gcd c.den (((1)*(a.den/Nat.gcd a.den (1)))*(b.den/Nat.gcd b.den ((1)*(a.den/Nat.gcd a.den (1)))))))) (Nat.gcd c.num.natAbs (Nat.gcd b.num.natAbs (Nat.gcd a.num.natAbs (0)))):=by
  unfold aQ wn wd
  simp only [if_neg ha,if_neg hb,if_neg hc]
 have lN:Lv 30 (Nat.gcd c.num.natAbs (Nat.gcd b.num.natAbs (Nat.gcd a.num.natAbs (0)))):=by
  have:=dK (k:=30) lc (dK lb (dK la (n:=0) (Lv.one _ (by rw [aG];omega))))
  unfold wn at this
  simpa only [if_neg ha,if_neg hb,if_neg hc] using this
 have lD0:Lv 31 ((1)*(a.den/Nat.gcd a.den (1))):=(show Lv 30 (1) from (Lv.one _ (by rw [aG];omega))).mul (la.2.mono (by omega) |>.le (Nat.div_le_self _ _))
 have lD1:Lv 32 (((1)*(a.den/Nat.gcd a.den (1)))*(b.den/Nat.gcd b.den ((1)*(a.den/Nat.gcd a.den (1))))):=(show Lv 31 ((1)*(a.den/Nat.gcd a.den (1))) from lD0.mono (by omega)).mul (lb.2.mono (by omega) |>.le (Nat.div_le_self _ _))
 have lD2:Lv 33 ((((1)*(a.den/Nat.gcd a.den (1)))*(b.den/Nat.gcd b.den ((1)*(a.den/Nat.gcd a.den (1)))))*(c.den/Nat.gcd c.den (((1)*(a.den/Nat.gcd a.den (1)))*(b.den/Nat.gcd b.den ((1)*(a.den/Nat.gcd a.den (1))))))):=(show Lv 32 (((1)*(a.den/Nat.gcd a.den (1)))*(b.den/Nat.gcd b.den ((1)*(a.den/Nat.gcd a.den (1))))) from lD1.mono (by omega)).mul (lc.2.mono (by omega) |>.le (Nat.div_le_self _ _))
 have hN:0<Nat.gcd c.num.natAbs (Nat.gcd b.num.natAbs (Nat.gcd a.num.natAbs (0))):=by
  have:=(show 0<wn c (wn b (wn a 0)) from gS hc)
  unfold wn at this
  simpa only [if_neg ha,if_neg hb,if_neg hc] using this
 rw [e]
 refine fW Tryz.func167 (by kernel_rfl) fun w00=>?_
 refine aB 129 [.fv (.sc (.lit (.int .u64 ((1:Nat):Int))))] (fQ (by rw [aG];omega)) (by kernel_rfl) Tryz.call129 ?_
 refine aB 73 [num a] (bW (b:=false) (by simpa using ha)) (by kernel_rfl) Tryz.call73 ?_
 refine aB 106 [num a] (cJ) (by kernel_rfl) Tryz.call106 ?_
 refine aB 125 [nt a.num.natAbs,.fv (.sc (.lit (.slice none 0 0)))] (Fits.args (iF (b:=0) (la.1.mono (by omega)) (Lv.one _ (by rw [aG];omega)) (.inl (iR ha))) (fun β vs w ⟨v,r,e,k1,⟨v2,r2,e2,k2,k3⟩⟩=>⟨v,r,e,k1,v2,r2,e2,nil_nt k2,k3⟩)) (by kernel_rfl) Tryz.call125 ?_
 refine aB 125 [nt a.den,nt (1)] (iF (la.2.mono (by omega)) (Lv.one _ (by rw [aG];omega)) (.inl a.den_pos)) (by kernel_rfl) Tryz.call125 ?_
 refine aB 126 [nt a.den,nt (Nat.gcd a.den (1))] (eN (la.2.mono (by omega)) (Nat.gcd_pos_of_pos_left _ a.den_pos)) (by kernel_rfl) Tryz.call126 ?_
 refine aB 128 [nt (1),nt (a.den/Nat.gcd a.den (1))] (fL (Lv.one _ (by rw [aG];omega)) ((la.2.mono (by omega)).le (Nat.div_le_self _ _))) (by kernel_rfl) Tryz.call128 ?_
 refine aB 73 [num b] (bW (b:=false) (by simpa using hb)) (by kernel_rfl) Tryz.call73 ?_
 refine aB 106 [num b] (cJ) (by kernel_rfl) Tryz.call106 ?_
 refine aB 125 [nt b.num.natAbs,nt (Nat.gcd a.num.natAbs (0))] (iF (lb.1.mono (by omega)) (Lv.mono (k:=30) (by have:=dK (k:=30) la (n:=0) (Lv.one _ (by rw [aG];omega));unfold wn at this;simpa only [if_neg ha] using this) (by omega)) (.inl (iR hb))) (by kernel_rfl) Tryz.call125 ?_
 refine aB 125 [nt b.den,nt ((1)*(a.den/Nat.gcd a.den (1)))] (iF (lb.2.mono (by omega)) (lD0.mono (by omega)) (.inl b.den_pos)) (by kernel_rfl) Tryz.call125 ?_
 refine aB 126 [nt b.den,nt (Nat.gcd b.den ((1)*(a.den/Nat.gcd a.den (1))))] (eN (lb.2.mono (by omega)) (Nat.gcd_pos_of_pos_left _ b.den_pos)) (by kernel_rfl) Tryz.call126 ?_
 refine aB 128 [nt ((1)*(a.den/Nat.gcd a.den (1))),nt (b.den/Nat.gcd b.den ((1)*(a.den/Nat.gcd a.den (1))))] (fL (lD0.mono (by omega)) ((lb.2.mono (by omega)).le (Nat.div_le_self _ _))) (by kernel_rfl) Tryz.call128 ?_
 refine aB 73 [num c] (bW (b:=false) (by simpa using hc)) (by kernel_rfl) Tryz.call73 ?_
 refine aB 106 [num c] (cJ) (by kernel_rfl) Tryz.call106 ?_
 refine aB 125 [nt c.num.natAbs,nt (Nat.gcd b.num.natAbs (Nat.gcd a.num.natAbs (0)))] (iF (lc.1.mono (by omega)) (Lv.mono (k:=30) (by have:=dK (k:=30) lb (dK la (n:=0) (Lv.one _ (by rw [aG];omega)));unfold wn at this;simpa only [if_neg ha,if_neg hb] using this) (by omega)) (.inl (iR hc))) (by kernel_rfl) Tryz.call125 ?_
 refine aB 125 [nt c.den,nt (((1)*(a.den/Nat.gcd a.den (1)))*(b.den/Nat.gcd b.den ((1)*(a.den/Nat.gcd a.den (1)))))] (iF (lc.2.mono (by omega)) (lD1.mono (by omega)) (.inl c.den_pos)) (by kernel_rfl) Tryz.call125 ?_
 refine aB 126 [nt c.den,nt (Nat.gcd c.den (((1)*(a.den/Nat.gcd a.den (1)))*(b.den/Nat.gcd b.den ((1)*(a.den/Nat.gcd a.den (1))))))] (eN (lc.2.mono (by omega)) (Nat.gcd_pos_of_pos_left _ c.den_pos)) (by kernel_rfl) Tryz.call126 ?_
 refine aB 128 [nt (((1)*(a.den/Nat.gcd a.den (1)))*(b.den/Nat.gcd b.den ((1)*(a.den/Nat.gcd a.den (1))))),nt (c.den/Nat.gcd c.den (((1)*(a.den/Nat.gcd a.den (1)))*(b.den/Nat.gcd b.den ((1)*(a.den/Nat.gcd a.den (1))))))] (fL (lD1.mono (by omega)) ((lc.2.mono (by omega)).le (Nat.div_le_self _ _))) (by kernel_rfl) Tryz.call128 ?_
 refine aB 56 [bl false,nt ((((1)*(a.den/Nat.gcd a.den (1)))*(b.den/Nat.gcd b.den ((1)*(a.den/Nat.gcd a.den (1)))))*(c.den/Nat.gcd c.den (((1)*(a.den/Nat.gcd a.den (1)))*(b.den/Nat.gcd b.den ((1)*(a.den/Nat.gcd a.den (1))))))),nt (Nat.gcd c.num.natAbs (Nat.gcd b.num.natAbs (Nat.gcd a.num.natAbs (0))))] (nN (lD2.mono (by omega)) (lN.mono (by omega)) hN) (by kernel_rfl) Tryz.call56 ?_
 refine aB 58 [fra (mkRat (sg false ((((1)*(a.den/Nat.gcd a.den (1)))*(b.den/Nat.gcd b.den ((1)*(a.den/Nat.gcd a.den (1)))))*(c.den/Nat.gcd c.den (((1)*(a.den/Nat.gcd a.den (1)))*(b.den/Nat.gcd b.den ((1)*(a.den/Nat.gcd a.den (1)))))))) (Nat.gcd c.num.natAbs (Nat.gcd b.num.natAbs (Nat.gcd a.num.natAbs (0)))))] (jA) (by kernel_rfl) Tryz.call58 ?_
 exact aS Tryz.func167 (by kernel_rfl)
theorem whole_110 (la:Lf 30 a) (lb:Lf 30 b) (lc:Lf 30 c) (ha:¬ a=0) (hb:¬ b=0) (hc:c=0):Fits Tryz.prog 167 [vc a b c] (num (aQ a b c)):=by
 have e:aQ a b c=mkRat (sg false (((1)*(a.den/Nat.gcd a.den (1)))*(b.den/Nat.gcd b.den ((1)*(a.den/Nat.gcd a.den (1)))))) (Nat.gcd b.num.natAbs (Nat.gcd a.num.natAbs (0))):=by
  unfold aQ wn wd
  simp only [if_neg ha,if_neg hb,if_pos hc]
 have lN:Lv 30 (Nat.gcd b.num.natAbs (Nat.gcd a.num.natAbs (0))):=by
  have:=dK (k:=30) lc (dK lb (dK la (n:=0) (Lv.one _ (by rw [aG];omega))))
  unfold wn at this
  simpa only [if_neg ha,if_neg hb,if_pos hc] using this
 have lD0:Lv 31 ((1)*(a.den/Nat.gcd a.den (1))):=(show Lv 30 (1) from (Lv.one _ (by rw [aG];omega))).mul (la.2.mono (by omega) |>.le (Nat.div_le_self _ _))
 have lD1:Lv 32 (((1)*(a.den/Nat.gcd a.den (1)))*(b.den/Nat.gcd b.den ((1)*(a.den/Nat.gcd a.den (1))))):=(show Lv 31 ((1)*(a.den/Nat.gcd a.den (1))) from lD0.mono (by omega)).mul (lb.2.mono (by omega) |>.le (Nat.div_le_self _ _))
 have hN:0<Nat.gcd b.num.natAbs (Nat.gcd a.num.natAbs (0)):=by
  have:=(show 0<wn c (wn b (wn a 0)) from iA (gS hb))
  unfold wn at this
  simpa only [if_neg ha,if_neg hb,if_pos hc] using this
 rw [e]
 refine fW Tryz.func167 (by kernel_rfl) fun w00=>?_
 refine aB 129 [.fv (.sc (.lit (.int .u64 ((1:Nat):Int))))] (fQ (by rw [aG];omega)) (by kernel_rfl) Tryz.call129 ?_
 refine aB 73 [num a] (bW (b:=false) (by simpa using ha)) (by kernel_rfl) Tryz.call73 ?_
 refine aB 106 [num a] (cJ) (by kernel_rfl) Tryz.call106 ?_
 refine aB 125 [nt a.num.natAbs,.fv (.sc (.lit (.slice none 0 0)))] (Fits.args (iF (b:=0) (la.1.mono (by omega)) (Lv.one _ (by rw [aG];omega)) (.inl (iR ha))) (fun β vs w ⟨v,r,e,k1,⟨v2,r2,e2,k2,k3⟩⟩=>⟨v,r,e,k1,v2,r2,e2,nil_nt k2,k3⟩)) (by kernel_rfl) Tryz.call125 ?_
 refine aB 125 [nt a.den,nt (1)] (iF (la.2.mono (by omega)) (Lv.one _ (by rw [aG];omega)) (.inl a.den_pos)) (by kernel_rfl) Tryz.call125 ?_
 refine aB 126 [nt a.den,nt (Nat.gcd a.den (1))] (eN (la.2.mono (by omega)) (Nat.gcd_pos_of_pos_left _ a.den_pos)) (by kernel_rfl) Tryz.call126 ?_
 refine aB 128 [nt (1),nt (a.den/Nat.gcd a.den (1))] (fL (Lv.one _ (by rw [aG];omega)) ((la.2.mono (by omega)).le (Nat.div_le_self _ _))) (by kernel_rfl) Tryz.call128 ?_
 refine aB 73 [num b] (bW (b:=false) (by simpa using hb)) (by kernel_rfl) Tryz.call73 ?_
 refine aB 106 [num b] (cJ) (by kernel_rfl) Tryz.call106 ?_
 refine aB 125 [nt b.num.natAbs,nt (Nat.gcd a.num.natAbs (0))] (iF (lb.1.mono (by omega)) (Lv.mono (k:=30) (by have:=dK (k:=30) la (n:=0) (Lv.one _ (by rw [aG];omega));unfold wn at this;simpa only [if_neg ha] using this) (by omega)) (.inl (iR hb))) (by kernel_rfl) Tryz.call125 ?_
 refine aB 125 [nt b.den,nt ((1)*(a.den/Nat.gcd a.den (1)))] (iF (lb.2.mono (by omega)) (lD0.mono (by omega)) (.inl b.den_pos)) (by kernel_rfl) Tryz.call125 ?_
 refine aB 126 [nt b.den,nt (Nat.gcd b.den ((1)*(a.den/Nat.gcd a.den (1))))] (eN (lb.2.mono (by omega)) (Nat.gcd_pos_of_pos_left _ b.den_pos)) (by kernel_rfl) Tryz.call126 ?_
 refine aB 128 [nt ((1)*(a.den/Nat.gcd a.den (1))),nt (b.den/Nat.gcd b.den ((1)*(a.den/Nat.gcd a.den (1))))] (fL (lD0.mono (by omega)) ((lb.2.mono (by omega)).le (Nat.div_le_self _ _))) (by kernel_rfl) Tryz.call128 ?_
 refine aB 73 [num c] (bW (b:=true) (by simpa using hc)) (by kernel_rfl) Tryz.call73 ?_
 refine aB 56 [bl false,nt (((1)*(a.den/Nat.gcd a.den (1)))*(b.den/Nat.gcd b.den ((1)*(a.den/Nat.gcd a.den (1))))),nt (Nat.gcd b.num.natAbs (Nat.gcd a.num.natAbs (0)))] (nN (lD1.mono (by omega)) (lN.mono (by omega)) hN) (by kernel_rfl) Tryz.call56 ?_
 refine aB 58 [fra (mkRat (sg false (((1)*(a.den/Nat.gcd a.den (1)))*(b.den/Nat.gcd b.den ((1)*(a.den/Nat.gcd a.den (1)))))) (Nat.gcd b.num.natAbs (Nat.gcd a.num.natAbs (0))))] (jA) (by kernel_rfl) Tryz.call58 ?_
 exact aS Tryz.func167 (by kernel_rfl)
theorem whole_101 (la:Lf 30 a) (lb:Lf 30 b) (lc:Lf 30 c) (ha:¬ a=0) (hb:b=0) (hc:¬ c=0):Fits Tryz.prog 167 [vc a b c] (num (aQ a b c)):=by
 have e:aQ a b c=mkRat (sg false (((1)*(a.den/Nat.gcd a.den (1)))*(c.den/Nat.gcd c.den ((1)*(a.den/Nat.gcd a.den (1)))))) (Nat.gcd c.num.natAbs (Nat.gcd a.num.natAbs (0))):=by
  unfold aQ wn wd
  simp only [if_neg ha,if_pos hb,if_neg hc]
 have lN:Lv 30 (Nat.gcd c.num.natAbs (Nat.gcd a.num.natAbs (0))):=by
  have:=dK (k:=30) lc (dK lb (dK la (n:=0) (Lv.one _ (by rw [aG];omega))))
  unfold wn at this
  simpa only [if_neg ha,if_pos hb,if_neg hc] using this
 have lD0:Lv 31 ((1)*(a.den/Nat.gcd a.den (1))):=(show Lv 30 (1) from (Lv.one _ (by rw [aG];omega))).mul (la.2.mono (by omega) |>.le (Nat.div_le_self _ _))
 have lD2:Lv 33 (((1)*(a.den/Nat.gcd a.den (1)))*(c.den/Nat.gcd c.den ((1)*(a.den/Nat.gcd a.den (1))))):=(show Lv 32 ((1)*(a.den/Nat.gcd a.den (1))) from lD0.mono (by omega)).mul (lc.2.mono (by omega) |>.le (Nat.div_le_self _ _))
 have hN:0<Nat.gcd c.num.natAbs (Nat.gcd a.num.natAbs (0)):=by
  have:=(show 0<wn c (wn b (wn a 0)) from gS hc)
  unfold wn at this
  simpa only [if_neg ha,if_pos hb,if_neg hc] using this
 rw [e]
 refine fW Tryz.func167 (by kernel_rfl) fun w00=>?_
 refine aB 129 [.fv (.sc (.lit (.int .u64 ((1:Nat):Int))))] (fQ (by rw [aG];omega)) (by kernel_rfl) Tryz.call129 ?_
 refine aB 73 [num a] (bW (b:=false) (by simpa using ha)) (by kernel_rfl) Tryz.call73 ?_
 refine aB 106 [num a] (cJ) (by kernel_rfl) Tryz.call106 ?_
 refine aB 125 [nt a.num.natAbs,.fv (.sc (.lit (.slice none 0 0)))] (Fits.args (iF (b:=0) (la.1.mono (by omega)) (Lv.one _ (by rw [aG];omega)) (.inl (iR ha))) (fun β vs w ⟨v,r,e,k1,⟨v2,r2,e2,k2,k3⟩⟩=>⟨v,r,e,k1,v2,r2,e2,nil_nt k2,k3⟩)) (by kernel_rfl) Tryz.call125 ?_
 refine aB 125 [nt a.den,nt (1)] (iF (la.2.mono (by omega)) (Lv.one _ (by rw [aG];omega)) (.inl a.den_pos)) (by kernel_rfl) Tryz.call125 ?_
 refine aB 126 [nt a.den,nt (Nat.gcd a.den (1))] (eN (la.2.mono (by omega)) (Nat.gcd_pos_of_pos_left _ a.den_pos)) (by kernel_rfl) Tryz.call126 ?_
 refine aB 128 [nt (1),nt (a.den/Nat.gcd a.den (1))] (fL (Lv.one _ (by rw [aG];omega)) ((la.2.mono (by omega)).le (Nat.div_le_self _ _))) (by kernel_rfl) Tryz.call128 ?_
 refine aB 73 [num b] (bW (b:=true) (by simpa using hb)) (by kernel_rfl) Tryz.call73 ?_
 refine aB 73 [num c] (bW (b:=false) (by simpa using hc)) (by kernel_rfl) Tryz.call73 ?_
 refine aB 106 [num c] (cJ) (by kernel_rfl) Tryz.call106 ?_
 refine aB 125 [nt c.num.natAbs,nt (Nat.gcd a.num.natAbs (0))] (iF (lc.1.mono (by omega)) (Lv.mono (k:=30) (by have:=dK (k:=30) lb (dK la (n:=0) (Lv.one _ (by rw [aG];omega)));unfold wn at this;simpa only [if_neg ha,if_pos hb] using this) (by omega)) (.inl (iR hc))) (by kernel_rfl) Tryz.call125 ?_
 refine aB 125 [nt c.den,nt ((1)*(a.den/Nat.gcd a.den (1)))] (iF (lc.2.mono (by omega)) (lD0.mono (by omega)) (.inl c.den_pos)) (by kernel_rfl) Tryz.call125 ?_
 refine aB 126 [nt c.den,nt (Nat.gcd c.den ((1)*(a.den/Nat.gcd a.den (1))))] (eN (lc.2.mono (by omega)) (Nat.gcd_pos_of_pos_left _ c.den_pos)) (by kernel_rfl) Tryz.call126 ?_
 refine aB 128 [nt ((1)*(a.den/Nat.gcd a.den (1))),nt (c.den/Nat.gcd c.den ((1)*(a.den/Nat.gcd a.den (1))))] (fL (lD0.mono (by omega)) ((lc.2.mono (by omega)).le (Nat.div_le_self _ _))) (by kernel_rfl) Tryz.call128 ?_
 refine aB 56 [bl false,nt (((1)*(a.den/Nat.gcd a.den (1)))*(c.den/Nat.gcd c.den ((1)*(a.den/Nat.gcd a.den (1))))),nt (Nat.gcd c.num.natAbs (Nat.gcd a.num.natAbs (0)))] (nN (lD2.mono (by omega)) (lN.mono (by omega)) hN) (by kernel_rfl) Tryz.call56 ?_
 refine aB 58 [fra (mkRat (sg false (((1)*(a.den/Nat.gcd a.den (1)))*(c.den/Nat.gcd c.den ((1)*(a.den/Nat.gcd a.den (1)))))) (Nat.gcd c.num.natAbs (Nat.gcd a.num.natAbs (0))))] (jA) (by kernel_rfl) Tryz.call58 ?_
 exact aS Tryz.func167 (by kernel_rfl)
theorem whole_100 (la:Lf 30 a) (lb:Lf 30 b) (lc:Lf 30 c) (ha:¬ a=0) (hb:b=0) (hc:c=0):Fits Tryz.prog 167 [vc a b c] (num (aQ a b c)):=by
 have e:aQ a b c=mkRat (sg false ((1)*(a.den/Nat.gcd a.den (1)))) (Nat.gcd a.num.natAbs (0)):=by
  unfold aQ wn wd
  simp only [if_neg ha,if_pos hb,if_pos hc]
 have lN:Lv 30 (Nat.gcd a.num.natAbs (0)):=by
  have:=dK (k:=30) lc (dK lb (dK la (n:=0) (Lv.one _ (by rw [aG];omega))))
  unfold wn at this
  simpa only [if_neg ha,if_pos hb,if_pos hc] using this
 have lD0:Lv 31 ((1)*(a.den/Nat.gcd a.den (1))):=(show Lv 30 (1) from (Lv.one _ (by rw [aG];omega))).mul (la.2.mono (by omega) |>.le (Nat.div_le_self _ _))
 have hN:0<Nat.gcd a.num.natAbs (0):=by
  have:=(show 0<wn c (wn b (wn a 0)) from iA (iA (gS ha)))
  unfold wn at this
  simpa only [if_neg ha,if_pos hb,if_pos hc] using this
 rw [e]
 refine fW Tryz.func167 (by kernel_rfl) fun w00=>?_
 refine aB 129 [.fv (.sc (.lit (.int .u64 ((1:Nat):Int))))] (fQ (by rw [aG];omega)) (by kernel_rfl) Tryz.call129 ?_
 refine aB 73 [num a] (bW (b:=false) (by simpa using ha)) (by kernel_rfl) Tryz.call73 ?_
 refine aB 106 [num a] (cJ) (by kernel_rfl) Tryz.call106 ?_
 refine aB 125 [nt a.num.natAbs,.fv (.sc (.lit (.slice none 0 0)))] (Fits.args (iF (b:=0) (la.1.mono (by omega)) (Lv.one _ (by rw [aG];omega)) (.inl (iR ha))) (fun β vs w ⟨v,r,e,k1,⟨v2,r2,e2,k2,k3⟩⟩=>⟨v,r,e,k1,v2,r2,e2,nil_nt k2,k3⟩)) (by kernel_rfl) Tryz.call125 ?_
 refine aB 125 [nt a.den,nt (1)] (iF (la.2.mono (by omega)) (Lv.one _ (by rw [aG];omega)) (.inl a.den_pos)) (by kernel_rfl) Tryz.call125 ?_
 refine aB 126 [nt a.den,nt (Nat.gcd a.den (1))] (eN (la.2.mono (by omega)) (Nat.gcd_pos_of_pos_left _ a.den_pos)) (by kernel_rfl) Tryz.call126 ?_
 refine aB 128 [nt (1),nt (a.den/Nat.gcd a.den (1))] (fL (Lv.one _ (by rw [aG];omega)) ((la.2.mono (by omega)).le (Nat.div_le_self _ _))) (by kernel_rfl) Tryz.call128 ?_
 refine aB 73 [num b] (bW (b:=true) (by simpa using hb)) (by kernel_rfl) Tryz.call73 ?_
 refine aB 73 [num c] (bW (b:=true) (by simpa using hc)) (by kernel_rfl) Tryz.call73 ?_
 refine aB 56 [bl false,nt ((1)*(a.den/Nat.gcd a.den (1))),nt (Nat.gcd a.num.natAbs (0))] (nN (lD0.mono (by omega)) (lN.mono (by omega)) hN) (by kernel_rfl) Tryz.call56 ?_
 refine aB 58 [fra (mkRat (sg false ((1)*(a.den/Nat.gcd a.den (1)))) (Nat.gcd a.num.natAbs (0)))] (jA) (by kernel_rfl) Tryz.call58 ?_
 exact aS Tryz.func167 (by kernel_rfl)
theorem whole_011 (la:Lf 30 a) (lb:Lf 30 b) (lc:Lf 30 c) (ha:a=0) (hb:¬ b=0) (hc:¬ c=0):Fits Tryz.prog 167 [vc a b c] (num (aQ a b c)):=by
 have e:aQ a b c=mkRat (sg false (((1)*(b.den/Nat.gcd b.den (1)))*(c.den/Nat.gcd c.den ((1)*(b.den/Nat.gcd b.den (1)))))) (Nat.gcd c.num.natAbs (Nat.gcd b.num.natAbs (0))):=by
  unfold aQ wn wd
  simp only [if_pos ha,if_neg hb,if_neg hc]
 have lN:Lv 30 (Nat.gcd c.num.natAbs (Nat.gcd b.num.natAbs (0))):=by
  have:=dK (k:=30) lc (dK lb (dK la (n:=0) (Lv.one _ (by rw [aG];omega))))
  unfold wn at this
  simpa only [if_pos ha,if_neg hb,if_neg hc] using this
 have lD1:Lv 32 ((1)*(b.den/Nat.gcd b.den (1))):=(show Lv 31 (1) from (Lv.one _ (by rw [aG];omega))).mul (lb.2.mono (by omega) |>.le (Nat.div_le_self _ _))
 have lD2:Lv 33 (((1)*(b.den/Nat.gcd b.den (1)))*(c.den/Nat.gcd c.den ((1)*(b.den/Nat.gcd b.den (1))))):=(show Lv 32 ((1)*(b.den/Nat.gcd b.den (1))) from lD1.mono (by omega)).mul (lc.2.mono (by omega) |>.le (Nat.div_le_self _ _))
 have hN:0<Nat.gcd c.num.natAbs (Nat.gcd b.num.natAbs (0)):=by
  have:=(show 0<wn c (wn b (wn a 0)) from gS hc)
  unfold wn at this
  simpa only [if_pos ha,if_neg hb,if_neg hc] using this
 rw [e]
 refine fW Tryz.func167 (by kernel_rfl) fun w00=>?_
 refine aB 129 [.fv (.sc (.lit (.int .u64 ((1:Nat):Int))))] (fQ (by rw [aG];omega)) (by kernel_rfl) Tryz.call129 ?_
 refine aB 73 [num a] (bW (b:=true) (by simpa using ha)) (by kernel_rfl) Tryz.call73 ?_
 refine aB 73 [num b] (bW (b:=false) (by simpa using hb)) (by kernel_rfl) Tryz.call73 ?_
 refine aB 106 [num b] (cJ) (by kernel_rfl) Tryz.call106 ?_
 refine aB 125 [nt b.num.natAbs,.fv (.sc (.lit (.slice none 0 0)))] (Fits.args (iF (b:=0) (lb.1.mono (by omega)) (Lv.one _ (by rw [aG];omega)) (.inl (iR hb))) (fun β vs w ⟨v,r,e,k1,⟨v2,r2,e2,k2,k3⟩⟩=>⟨v,r,e,k1,v2,r2,e2,nil_nt k2,k3⟩)) (by kernel_rfl) Tryz.call125 ?_
 refine aB 125 [nt b.den,nt (1)] (iF (lb.2.mono (by omega)) (Lv.one _ (by rw [aG];omega)) (.inl b.den_pos)) (by kernel_rfl) Tryz.call125 ?_
 refine aB 126 [nt b.den,nt (Nat.gcd b.den (1))] (eN (lb.2.mono (by omega)) (Nat.gcd_pos_of_pos_left _ b.den_pos)) (by kernel_rfl) Tryz.call126 ?_
 refine aB 128 [nt (1),nt (b.den/Nat.gcd b.den (1))] (fL (Lv.one _ (by rw [aG];omega)) ((lb.2.mono (by omega)).le (Nat.div_le_self _ _))) (by kernel_rfl) Tryz.call128 ?_
 refine aB 73 [num c] (bW (b:=false) (by simpa using hc)) (by kernel_rfl) Tryz.call73 ?_
 refine aB 106 [num c] (cJ) (by kernel_rfl) Tryz.call106 ?_
 refine aB 125 [nt c.num.natAbs,nt (Nat.gcd b.num.natAbs (0))] (iF (lc.1.mono (by omega)) (Lv.mono (k:=30) (by have:=dK (k:=30) lb (dK la (n:=0) (Lv.one _ (by rw [aG];omega)));unfold wn at this;simpa only [if_pos ha,if_neg hb] using this) (by omega)) (.inl (iR hc))) (by kernel_rfl) Tryz.call125 ?_
 refine aB 125 [nt c.den,nt ((1)*(b.den/Nat.gcd b.den (1)))] (iF (lc.2.mono (by omega)) (lD1.mono (by omega)) (.inl c.den_pos)) (by kernel_rfl) Tryz.call125 ?_
 refine aB 126 [nt c.den,nt (Nat.gcd c.den ((1)*(b.den/Nat.gcd b.den (1))))] (eN (lc.2.mono (by omega)) (Nat.gcd_pos_of_pos_left _ c.den_pos)) (by kernel_rfl) Tryz.call126 ?_
 refine aB 128 [nt ((1)*(b.den/Nat.gcd b.den (1))),nt (c.den/Nat.gcd c.den ((1)*(b.den/Nat.gcd b.den (1))))] (fL (lD1.mono (by omega)) ((lc.2.mono (by omega)).le (Nat.div_le_self _ _))) (by kernel_rfl) Tryz.call128 ?_
 refine aB 56 [bl false,nt (((1)*(b.den/Nat.gcd b.den (1)))*(c.den/Nat.gcd c.den ((1)*(b.den/Nat.gcd b.den (1))))),nt (Nat.gcd c.num.natAbs (Nat.gcd b.num.natAbs (0)))] (nN (lD2.mono (by omega)) (lN.mono (by omega)) hN) (by kernel_rfl) Tryz.call56 ?_
 refine aB 58 [fra (mkRat (sg false (((1)*(b.den/Nat.gcd b.den (1)))*(c.den/Nat.gcd c.den ((1)*(b.den/Nat.gcd b.den (1)))))) (Nat.gcd c.num.natAbs (Nat.gcd b.num.natAbs (0))))] (jA) (by kernel_rfl) Tryz.call58 ?_
 exact aS Tryz.func167 (by kernel_rfl)
theorem whole_010 (la:Lf 30 a) (lb:Lf 30 b) (lc:Lf 30 c) (ha:a=0) (hb:¬ b=0) (hc:c=0):Fits Tryz.prog 167 [vc a b c] (num (aQ a b c)):=by
 have e:aQ a b c=mkRat (sg false ((1)*(b.den/Nat.gcd b.den (1)))) (Nat.gcd b.num.natAbs (0)):=by
  unfold aQ wn wd
  simp only [if_pos ha,if_neg hb,if_pos hc]
 have lN:Lv 30 (Nat.gcd b.num.natAbs (0)):=by
  have:=dK (k:=30) lc (dK lb (dK la (n:=0) (Lv.one _ (by rw [aG];omega))))
  unfold wn at this
  simpa only [if_pos ha,if_neg hb,if_pos hc] using this
 have lD1:Lv 32 ((1)*(b.den/Nat.gcd b.den (1))):=(show Lv 31 (1) from (Lv.one _ (by rw [aG];omega))).mul (lb.2.mono (by omega) |>.le (Nat.div_le_self _ _))
 have hN:0<Nat.gcd b.num.natAbs (0):=by
  have:=(show 0<wn c (wn b (wn a 0)) from iA (gS hb))
  unfold wn at this
  simpa only [if_pos ha,if_neg hb,if_pos hc] using this
 rw [e]
 refine fW Tryz.func167 (by kernel_rfl) fun w00=>?_
 refine aB 129 [.fv (.sc (.lit (.int .u64 ((1:Nat):Int))))] (fQ (by rw [aG];omega)) (by kernel_rfl) Tryz.call129 ?_
 refine aB 73 [num a] (bW (b:=true) (by simpa using ha)) (by kernel_rfl) Tryz.call73 ?_
 refine aB 73 [num b] (bW (b:=false) (by simpa using hb)) (by kernel_rfl) Tryz.call73 ?_
 refine aB 106 [num b] (cJ) (by kernel_rfl) Tryz.call106 ?_
 refine aB 125 [nt b.num.natAbs,.fv (.sc (.lit (.slice none 0 0)))] (Fits.args (iF (b:=0) (lb.1.mono (by omega)) (Lv.one _ (by rw [aG];omega)) (.inl (iR hb))) (fun β vs w ⟨v,r,e,k1,⟨v2,r2,e2,k2,k3⟩⟩=>⟨v,r,e,k1,v2,r2,e2,nil_nt k2,k3⟩)) (by kernel_rfl) Tryz.call125 ?_
 refine aB 125 [nt b.den,nt (1)] (iF (lb.2.mono (by omega)) (Lv.one _ (by rw [aG];omega)) (.inl b.den_pos)) (by kernel_rfl) Tryz.call125 ?_
 refine aB 126 [nt b.den,nt (Nat.gcd b.den (1))] (eN (lb.2.mono (by omega)) (Nat.gcd_pos_of_pos_left _ b.den_pos)) (by kernel_rfl) Tryz.call126 ?_
 refine aB 128 [nt (1),nt (b.den/Nat.gcd b.den (1))] (fL (Lv.one _ (by rw [aG];omega)) ((lb.2.mono (by omega)).le (Nat.div_le_self _ _))) (by kernel_rfl) Tryz.call128 ?_
 refine aB 73 [num c] (bW (b:=true) (by simpa using hc)) (by kernel_rfl) Tryz.call73 ?_
 refine aB 56 [bl false,nt ((1)*(b.den/Nat.gcd b.den (1))),nt (Nat.gcd b.num.natAbs (0))] (nN (lD1.mono (by omega)) (lN.mono (by omega)) hN) (by kernel_rfl) Tryz.call56 ?_
 refine aB 58 [fra (mkRat (sg false ((1)*(b.den/Nat.gcd b.den (1)))) (Nat.gcd b.num.natAbs (0)))] (jA) (by kernel_rfl) Tryz.call58 ?_
 exact aS Tryz.func167 (by kernel_rfl)
theorem whole_001 (la:Lf 30 a) (lb:Lf 30 b) (lc:Lf 30 c) (ha:a=0) (hb:b=0) (hc:¬ c=0):Fits Tryz.prog 167 [vc a b c] (num (aQ a b c)):=by
 have e:aQ a b c=mkRat (sg false ((1)*(c.den/Nat.gcd c.den (1)))) (Nat.gcd c.num.natAbs (0)):=by
  unfold aQ wn wd
  simp only [if_pos ha,if_pos hb,if_neg hc]
 have lN:Lv 30 (Nat.gcd c.num.natAbs (0)):=by
  have:=dK (k:=30) lc (dK lb (dK la (n:=0) (Lv.one _ (by rw [aG];omega))))
  unfold wn at this
  simpa only [if_pos ha,if_pos hb,if_neg hc] using this
 have lD2:Lv 33 ((1)*(c.den/Nat.gcd c.den (1))):=(show Lv 32 (1) from (Lv.one _ (by rw [aG];omega))).mul (lc.2.mono (by omega) |>.le (Nat.div_le_self _ _))
 have hN:0<Nat.gcd c.num.natAbs (0):=by
  have:=(show 0<wn c (wn b (wn a 0)) from gS hc)
  unfold wn at this
  simpa only [if_pos ha,if_pos hb,if_neg hc] using this
 rw [e]
 refine fW Tryz.func167 (by kernel_rfl) fun w00=>?_
 refine aB 129 [.fv (.sc (.lit (.int .u64 ((1:Nat):Int))))] (fQ (by rw [aG];omega)) (by kernel_rfl) Tryz.call129 ?_
 refine aB 73 [num a] (bW (b:=true) (by simpa using ha)) (by kernel_rfl) Tryz.call73 ?_
 refine aB 73 [num b] (bW (b:=true) (by simpa using hb)) (by kernel_rfl) Tryz.call73 ?_
 refine aB 73 [num c] (bW (b:=false) (by simpa using hc)) (by kernel_rfl) Tryz.call73 ?_
 refine aB 106 [num c] (cJ) (by kernel_rfl) Tryz.call106 ?_
 refine aB 125 [nt c.num.natAbs,.fv (.sc (.lit (.slice none 0 0)))] (Fits.args (iF (b:=0) (lc.1.mono (by omega)) (Lv.one _ (by rw [aG];omega)) (.inl (iR hc))) (fun β vs w ⟨v,r,e,k1,⟨v2,r2,e2,k2,k3⟩⟩=>⟨v,r,e,k1,v2,r2,e2,nil_nt k2,k3⟩)) (by kernel_rfl) Tryz.call125 ?_
 refine aB 125 [nt c.den,nt (1)] (iF (lc.2.mono (by omega)) (Lv.one _ (by rw [aG];omega)) (.inl c.den_pos)) (by kernel_rfl) Tryz.call125 ?_
 refine aB 126 [nt c.den,nt (Nat.gcd c.den (1))] (eN (lc.2.mono (by omega)) (Nat.gcd_pos_of_pos_left _ c.den_pos)) (by kernel_rfl) Tryz.call126 ?_
 refine aB 128 [nt (1),nt (c.den/Nat.gcd c.den (1))] (fL (Lv.one _ (by rw [aG];omega)) ((lc.2.mono (by omega)).le (Nat.div_le_self _ _))) (by kernel_rfl) Tryz.call128 ?_
 refine aB 56 [bl false,nt ((1)*(c.den/Nat.gcd c.den (1))),nt (Nat.gcd c.num.natAbs (0))] (nN (lD2.mono (by omega)) (lN.mono (by omega)) hN) (by kernel_rfl) Tryz.call56 ?_
 refine aB 58 [fra (mkRat (sg false ((1)*(c.den/Nat.gcd c.den (1)))) (Nat.gcd c.num.natAbs (0)))] (jA) (by kernel_rfl) Tryz.call58 ?_
 exact aS Tryz.func167 (by kernel_rfl)
theorem wholeF (la:Lf 30 a) (lb:Lf 30 b) (lc:Lf 30 c) (h:¬ (a=0∧b=0∧c=0)):Fits Tryz.prog 167 [vc a b c] (num (aQ a b c)):=by
 by_cases ha:a=0 <;> by_cases hb:b=0 <;> by_cases hc:c=0
 ·exact absurd ⟨ha,hb,hc⟩ h
 ·exact whole_001 la lb lc ha hb hc
 ·exact whole_010 la lb lc ha hb hc
 ·exact whole_011 la lb lc ha hb hc
 ·exact whole_100 la lb lc ha hb hc
 ·exact whole_101 la lb lc ha hb hc
 ·exact whole_110 la lb lc ha hb hc
 ·exact whole_111 la lb lc ha hb hc
end
section
variable {n1 n2 n3 d k:Rat} {z1 z2 z3:Int}
theorem mkRat_le (n:Int) {d:Nat} (hd:0<d):(mkRat n d).num.natAbs≤n.natAbs∧(mkRat n d).den≤d:=by
 rw [Rat.num_mkRat,Rat.den_mkRat,if_neg (by omega),if_neg (by omega)]
 exact ⟨Int.natAbs_ediv_le_natAbs _ _,Nat.div_le_self _ _⟩
theorem lf_whole {a b c:Rat} (la:Lf 30 a) (lb:Lf 30 b) (lc:Lf 30 c) (h:¬ (a=0∧b=0∧c=0)):Lf 33 (aQ a b c):=by
 have hN:0<wn c (wn b (wn a 0)):=by
  by_cases ha:a=0
  ·by_cases hb:b=0
   ·exact gS (fun hc=>h ⟨ha,hb,hc⟩)
   ·exact iA (gS hb)
  ·exact iA (iA (gS ha))
 have l1:Lv 33 (wd c (wd b (wd a 1))):=lv_wd (lc.mono (by decide)) (lv_wd (lb.mono (by decide)) (lv_wd (k:=30) la (Lv.one _ (by rw [aG];omega))))
 have l2:Lv 33 (wn c (wn b (wn a 0))):=(dK lc (dK lb (dK la (n:=0) (Lv.one _ (by rw [aG];omega))))).mono (by omega)
 have hm:=mkRat_le (sg false (wd c (wd b (wd a 1)))) hN
 have e:(sg false (wd c (wd b (wd a 1)))).natAbs=wd c (wd b (wd a 1)):=by simp [sg]
 rw [e] at hm
 exact ⟨l1.le hm.1,l2.le hm.2⟩
theorem reducedF (l1:Lf 30 n1) (l2:Lf 30 n2) (l3:Lf 30 n3) (ld:Lf 38 d) (h:¬ (n1=0∧n2=0∧n3=0)) :
 Fits Tryz.prog 109 [hf n1 n2 n3 d] (hf (aQ n1 n2 n3*n1) (aQ n1 n2 n3*n2) (aQ n1 n2 n3*n3) (d*aQ n1 n2 n3)):=by
 have lk:=(lf_whole l1 l2 l3 h).mono (l:=38) (by decide)
 refine fW Tryz.func109 (by kernel_rfl) fun w00=>?_
 refine aB 167 [vc n1 n2 n3] (wholeF l1 l2 l3 h) (by kernel_rfl) Tryz.call167 ?_
 refine aB 70 [vc n1 n2 n3,num (aQ n1 n2 n3)] (gE lk (l1.mono (by decide)) (l2.mono (by decide)) (l3.mono (by decide))) (by kernel_rfl) Tryz.call70 ?_
 refine aB 100 [num d,num (aQ n1 n2 n3)] (fF ld lk) (by kernel_rfl) Tryz.call100 ?_
 exact aS Tryz.func109 (by kernel_rfl)
abbrev hfI (z1 z2 z3:Int) (d:Rat):AV Kn := .fv (.ag [.lit (.int .i64 z1),z0,.lit (.pointer none),.lit (.int .i64 z2),z0,.lit (.pointer none),.lit (.int .i64 z3),z0,.lit (.pointer none),nb d])
abbrev Sz (z:Int):Prop := -999999999≤z∧z≤999999999
theorem nb_int {z:Int} (hz:Sz z) {cs:List Value} {w:World} (h:(csNb (z:Rat)).pred cs w):cs = [.int .i64 z,.int .i64 0,.pointer none]:=by
 have hm:Sm (z:Rat):=by
  constructor
  ·rw [Rat.num_intCast,dS];omega
  ·rw [Rat.den_intCast,dS];omega
 rcases h with ⟨_,e⟩|⟨h2,_⟩
 ·injection e with e
  have:=congrArg Array.toList e
  simpa using this
 ·exact absurd hm h2
theorem hf_int {β:List Nat} {v:Value} {w:World} {q1 q2 q3:Rat} (e1:q1=z1) (e2:q2=z2) (e3:q3=z3) (h1:Sz z1) (h2:Sz z2) (h3:Sz z3) (h:(hf q1 q2 q3 d).holds β v w):(hfI z1 z2 z3 d).holds β v w:=by
 subst e1
 subst e2
 subst e3
 obtain ⟨cs,rfl,x1,r1,rfl,k1,x2,r2,rfl,k2,x3,r3,rfl,k3,hr⟩:=h
 rw [nb_int h1 k1,nb_int h2 k2,nb_int h3 k3]
 exact ⟨_,rfl,[_],_,rfl,⟨rfl,rfl⟩,[_],_,rfl,⟨rfl,rfl⟩,[_],_,rfl,⟨rfl,rfl⟩,[_],_,rfl,⟨rfl,rfl⟩,[_],_,rfl,⟨rfl,rfl⟩,[_],_,rfl,⟨rfl,rfl⟩,[_],_,rfl,⟨rfl,rfl⟩,[_],_,rfl,⟨rfl,rfl⟩,[_],_,rfl,⟨rfl,rfl⟩,hr⟩
theorem Fits.res {P:Program} {f:FuncId} {l:List (AV Kn)} {x y:AV Kn} (h:Fits P f l x) (hx:∀ β v w,x.holds β v w→y.holds β v w):Fits P f l y:=fun β w vs hv =>
 (h β w vs hv).mono fun e w' ⟨v,e1,e2,e3⟩=>⟨v,e1,e2,hx β v w' e3⟩
theorem magnitudeF {z:Int} (hz:Sz z):Fits Tryz.prog 110 [it z] (.fv (.sc (isU (z.natAbs:Int)))):=by
 intro β w vs hv
 obtain ⟨v,rfl,h1⟩:=dR hv
 rw [aO h1]
 exact (dY z w (by have:=hz.1;omega) (by have:=hz.2;omega)).mono fun e w' ⟨e1,e2⟩=>⟨_,e1,by rw [← e2];exact Below.refl _ _,bM⟩
theorem gtU_run {o:Oper} {ρ:Operand→Value} {w:World} {x y:Operand} {a b:Int} {r:Bool} {T T' : TypeId} (ho:o.op = .binOp .gtr T x y T') (hx:ρ x = .int .u64 a) (hy:ρ y = .int .u64 b) (h:decide (b<a)=r) :
 (execOp ρ o).run Tryz.prog w = .ok (.value (.bool r)) w:=by
 simp only [execOp,ho,hx,hy]
 refine bH ?_
 rw [← h]
 exact bN (by kernel_rfl) w
section
variable {f:FuncId} {w00:World} {Out:Value→World→Prop}
theorem kgtU {c:Cfg Kn} (t:Tmp) (a b:Int) (r:Bool) (h:decide (b<a)=r) (hc:(c.op.map fun o=>o.op,c.okT (bl r),c.ev (.tmp t),c.ev (.const (.int .u64 b)))=(some (.binOp .gtr 160 (.tmp t) (.const (.int .u64 b)) 160),true,.fv (.sc (isU a)),.fv (.sc (.lit (.int .u64 b)))))
 (hg:Ok Tryz.prog f w00 Out (dH Tryz.prog 1000 (c.give (bl r)))):Ok Tryz.prog f w00 Out c :=
 eJ _ (.tmp t) (.const (.int .u64 b)) _ _ (bl r) hc (by simp [Op.operands]) (by simp [Op.operands]) (fun ρ o β w ho hx hy=>⟨_,gtU_run ho (aR hx) (aO hy) h,bA rfl⟩) hg
end
abbrev hS (z1 z2 z3:Int) (d:Rat):AV Kn := .fv (.ag [.lit (.int .i64 z1),.lit (.int .i64 z2),.lit (.int .i64 z3),dG (writeB d)])
abbrev okH (z1 z2 z3:Int) (d:Rat):AV Kn := .tup [.ag [.lit (.int .i64 z1),.lit (.int .i64 z2),.lit (.int .i64 z3),dG (writeB d)],.sc z0]
structure Form (n1 n2 n3 d:Rat) (z1 z2 z3:Int) (e:Rat):Prop where
 l1:Lf 30 n1
 l2:Lf 30 n2
 l3:Lf 30 n3
 ld:Lf 38 d
 h0:¬ (n1=0∧n2=0∧n3=0)
 e1:aQ n1 n2 n3*n1=z1
 e2:aQ n1 n2 n3*n2=z2
 e3:aQ n1 n2 n3*n3=z3
 ed:d*aQ n1 n2 n3=e
 s1:Sz z1
 s2:Sz z2
 s3:Sz z3
 wr:Wr e
theorem hWriteF {e:Rat} (h:Form n1 n2 n3 d z1 z2 z3 e):FitsW Tryz.prog Gl 46 [hf n1 n2 n3 d] (okH z1 z2 z3 e):=by
 have g:∀ {z:Int},Sz z→decide ((999999999:Int)<(z.natAbs:Int))=false:=fun hz=>by have:=hz.1;have:=hz.2;rw [decide_eq_false_iff_not];omega
 have gr:Fits Tryz.prog 109 [hf n1 n2 n3 d] (hfI z1 z2 z3 e):=Fits.res (reducedF h.l1 h.l2 h.l3 h.ld h.h0) (fun β v w hv=>hf_int h.e1 h.e2 h.e3 h.s1 h.s2 h.s3 (by rw [h.ed] at hv;exact hv))
 refine dO Tryz.func46 (by kernel_rfl) fun w00 hG=>?_;have hI:=bD hG
 refine aB 109 [hf n1 n2 n3 d] (gr) (by kernel_rfl) Tryz.call109 ?_
 refine aL hI 59 [num e] (writeF (h.wr.lf.mono (by decide)) h.wr.n h.wr.d) (by kernel_rfl) Tryz.call59 ?_
 refine aB 110 [it z1] (magnitudeF h.s1) (by kernel_rfl) Tryz.call110 ?_
 refine kgtU 34 z1.natAbs 999999999 false (g h.s1) (by kernel_rfl) ?_
 refine aB 110 [it z2] (magnitudeF h.s2) (by kernel_rfl) Tryz.call110 ?_
 refine kgtU 34 z2.natAbs 999999999 false (g h.s2) (by kernel_rfl) ?_
 refine aB 110 [it z3] (magnitudeF h.s3) (by kernel_rfl) Tryz.call110 ?_
 refine kgtU 34 z3.natAbs 999999999 false (g h.s3) (by kernel_rfl) ?_
 exact aS Tryz.func46 (by kernel_rfl)
theorem readHalfF (h1:M64 z1) (h2:M64 z2) (h3:M64 z3) (hd:Wr d) (hc:Fits Tryz.prog 99 [iv z1 z2 z3] (it 0)):FitsW Tryz.prog Gl 39 [hS z1 z2 z3 d] (.tup [.ag [nb z1,nb z2,nb z3,nb d],.sc z0]):=by
 refine dO Tryz.func39 (by kernel_rfl) fun w00 hG=>?_;have hI:=bD hG
 refine aL hI 65 [tx (writeB d)] (readF hd) (by kernel_rfl) Tryz.call65 ?_
 refine aB 76 [iv z1 z2 z3] (jD h1 h2 h3) (by kernel_rfl) Tryz.call76 ?_
 refine aB 99 [iv z1 z2 z3] (hc) (by kernel_rfl) Tryz.call99 ?_
 refine aB 66 [.fv (.nsl 2 34 [z0,z0])] (gF) (by kernel_rfl) Tryz.call66 ?_
 exact aS Tryz.func39 (by kernel_rfl)
end
theorem wn_gcd (q:Rat) (n:Nat):wn q n=Nat.gcd q.num.natAbs n:=by
 unfold wn
 split
 ·rename_i h
  rw [h]
  exact (Nat.gcd_zero_left n).symm
 ·rfl
theorem wd_lcm (q:Rat) (d:Nat):wd q d=Nat.lcm q.den d:=by
 unfold wd
 split
 ·rename_i h
  rw [h]
  exact (Nat.lcm_one_left d).symm
 ·unfold Nat.lcm
  rw [Nat.mul_comm q.den d,Nat.mul_div_assoc d (Nat.gcd_dvd_left q.den d)]
theorem two_divs {L G g p q z:Nat} (hL:0<L) (h:L*p=g*z*G*q) (hG:0<G*g) (hpq:Nat.Coprime p q):G*g/Nat.gcd L (G*g) ∣ p∧q ∣ L/Nat.gcd L (G*g):=by
 obtain ⟨D,hD⟩:∃ D,D=Nat.gcd L (G*g):=⟨_,rfl⟩
 have hD0:0<D:=hD▸Nat.gcd_pos_of_pos_left _ hL
 have hco:Nat.Coprime (L/D) (G*g/D):=hD▸Nat.coprime_div_gcd_div_gcd (hD▸hD0)
 obtain ⟨u,hu⟩:D ∣ L:=hD▸Nat.gcd_dvd_left _ _
 obtain ⟨v,hv⟩:D ∣ G*g:=hD▸Nat.gcd_dvd_right _ _
 rw [← hD]
 rw [hu,hv,Nat.mul_div_cancel_left _ hD0,Nat.mul_div_cancel_left _ hD0] at hco
 rw [hu,hv,Nat.mul_div_cancel_left _ hD0,Nat.mul_div_cancel_left _ hD0]
 have e:u*p=v*z*q:=by
  refine Nat.eq_of_mul_eq_mul_left hD0 ?_
  rw [← Nat.mul_assoc,← hu,h]
  calc g*z*G*q=G*g*(z*q):=by simp only [Nat.mul_comm,Nat.mul_left_comm]
   _=D*(v*z*q):=by rw [hv];simp only [Nat.mul_assoc]
 exact ⟨(Nat.Coprime.symm hco).dvd_of_dvd_mul_left (e▸⟨z*q,by rw [Nat.mul_assoc]⟩),(Nat.Coprime.symm hpq).dvd_of_dvd_mul_right (e▸⟨v*z,by rw [Nat.mul_comm]⟩)⟩
theorem whole_form {a b c:Rat} (h:¬ (a=0∧b=0∧c=0)):∃ z1 z2 z3:Int,aQ a b c*a=z1∧aQ a b c*b=z2∧aQ a b c*c=z3∧Int.gcd (Int.gcd z1 z2:Int) z3=1∧∃ (L G:Nat),0<L∧0<G∧aQ a b c=mkRat L G∧L=Nat.lcm c.den (Nat.lcm b.den (Nat.lcm a.den 1))∧G ∣ a.num.natAbs∧G ∣ b.num.natAbs∧G ∣ c.num.natAbs:=by
 have hN:0<wn c (wn b (wn a 0)):=by
  by_cases ha:a=0
  ·by_cases hb:b=0
   ·exact gS (fun hc=>h ⟨ha,hb,hc⟩)
   ·exact iA (gS hb)
  ·exact iA (iA (gS ha))
 have hM:0<wd c (wd b (wd a 1)):=wd_pos (wd_pos (wd_pos (by omega)))
 have hw:aQ a b c=mkRat (wd c (wd b (wd a 1)):Nat) (wn c (wn b (wn a 0))):=by unfold aQ;simp [sg]
 simp only [wn_gcd,wd_lcm] at hN hM hw
 obtain ⟨L,hL⟩:∃ L,L=Nat.lcm c.den (Nat.lcm b.den (Nat.lcm a.den 1)):=⟨_,rfl⟩
 obtain ⟨G,hG⟩:∃ G,G=Nat.gcd c.num.natAbs (Nat.gcd b.num.natAbs (Nat.gcd a.num.natAbs 0)):=⟨_,rfl⟩
 rw [← hL] at hM hw
 rw [← hG] at hN hw
 have gc:G ∣ c.num.natAbs:=hG▸Nat.gcd_dvd_left _ _
 have gb:G ∣ b.num.natAbs:=hG▸Nat.dvd_trans (Nat.gcd_dvd_right _ _) (Nat.gcd_dvd_left _ _)
 have ga:G ∣ a.num.natAbs:=hG▸Nat.dvd_trans (Nat.gcd_dvd_right _ _) (Nat.dvd_trans (Nat.gcd_dvd_right _ _) (Nat.gcd_dvd_left _ _))
 have lc:c.den ∣ L:=hL▸Nat.dvd_lcm_left _ _
 have lb:b.den ∣ L:=hL▸Nat.dvd_trans (Nat.dvd_lcm_left _ _) (Nat.dvd_lcm_right _ _)
 have la:a.den ∣ L:=hL▸Nat.dvd_trans (Nat.dvd_trans (Nat.dvd_lcm_left _ _) (Nat.dvd_lcm_right _ _)) (Nat.dvd_lcm_right _ _)
 have key:∀ {q:Rat},G ∣ q.num.natAbs→q.den ∣ L→∃ z:Int,aQ a b c*q=z∧L*q.num.natAbs=z.natAbs*G*q.den:=by
  intro q hg hl
  obtain ⟨l,hl⟩:=hl
  obtain ⟨p,hp⟩:(G:Int) ∣ q.num:=Int.ofNat_dvd_left.2 hg
  refine ⟨l*p,?_,?_⟩
  ·have h0:(G:Rat)≠0:=by exact_mod_cast (by omega:G≠0)
   have h1:(q.den:Rat)≠0:=by exact_mod_cast q.den_nz
   have e1:aQ a b c*G=L:=by
    rw [hw,Rat.mkRat_eq_div,Rat.div_def,Rat.mul_assoc,Rat.inv_mul_cancel _ h0,Rat.mul_one]
    rfl
   have e2:q*q.den=q.num:=by
    have h2:q=q.num/q.den:=by rw [← Rat.mkRat_eq_div,Rat.mkRat_self]
    have h3:q.num/(q.den:Rat)*q.den=q.num:=by rw [Rat.div_def,Rat.mul_assoc,Rat.inv_mul_cancel _ h1,Rat.mul_one]
    rw [← h2] at h3
    exact h3
   have e3:(L:Rat)=q.den*l:=by rw [hl];push_cast;rfl
   have e4:(q.num:Rat)=G*p:=by rw [hp];push_cast;rfl
   have e5:aQ a b c*q*(G*q.den)=(l*p:Rat)*(G*q.den):=by
    calc aQ a b c*q*(G*q.den)=aQ a b c*G*(q*q.den):=by grind
     _=q.den*l*(G*p):=by rw [e1,e2,e3,e4]
     _=(l*p:Rat)*(G*q.den):=by grind
   have hne:(G*q.den:Rat)≠0:=fun e=>(Rat.mul_eq_zero.1 e).elim h0 h1
   have:=congrArg (· * (G*q.den:Rat)⁻¹) e5
   simp only [Rat.mul_assoc,Rat.mul_inv_cancel _ hne,Rat.mul_one] at this
   rw [this]
   push_cast
   rfl
  ·rw [hl,hp,Int.natAbs_mul,Int.natAbs_mul,Int.natAbs_natCast,Int.natAbs_natCast]
   simp only [Nat.mul_assoc,Nat.mul_comm,Nat.mul_left_comm]
 obtain ⟨z1,e1,f1⟩:=key ga la
 obtain ⟨z2,e2,f2⟩:=key gb lb
 obtain ⟨z3,e3,f3⟩:=key gc lc
 refine ⟨z1,z2,z3,e1,e2,e3,?_,L,G,hM,hN,hw,hL,ga,gb,gc⟩
 obtain ⟨g,hg⟩:∃ g,g=Int.gcd (Int.gcd z1 z2:Int) z3:=⟨_,rfl⟩
 rw [← hg]
 have d3:g ∣ z3.natAbs:=hg▸Nat.gcd_dvd_right _ _
 have d12:g ∣ Int.gcd z1 z2:=hg▸Nat.gcd_dvd_left _ _
 have d1:g ∣ z1.natAbs:=Nat.dvd_trans d12 (Nat.gcd_dvd_left _ _)
 have d2:g ∣ z2.natAbs:=Nat.dvd_trans d12 (Nat.gcd_dvd_right _ _)
 have g0:0<g:=by
  rcases Nat.eq_zero_or_pos g with e|e
  ·exfalso
   rw [e] at d1 d2 d3
   have n1:z1.natAbs=0:=Nat.eq_zero_of_zero_dvd d1
   have n2:z2.natAbs=0:=Nat.eq_zero_of_zero_dvd d2
   have n3:z3.natAbs=0:=Nat.eq_zero_of_zero_dvd d3
   have zero:∀ {q:Rat} {z:Int},L*q.num.natAbs=z.natAbs*G*q.den→z.natAbs=0→q=0:=fun {q z} f n=>by
    rw [n,Nat.zero_mul,Nat.zero_mul] at f
    rcases Nat.mul_eq_zero.1 f with f|f
    ·omega
    ·exact Rat.num_eq_zero.1 (Int.natAbs_eq_zero.1 f)
   exact h ⟨zero f1 n1,zero f2 n2,zero f3 n3⟩
  ·exact e
 have hGg:0<G*g:=Nat.mul_pos hN g0
 have two:∀ {q:Rat} {z:Int},L*q.num.natAbs=z.natAbs*G*q.den→g ∣ z.natAbs→G*g/Nat.gcd L (G*g) ∣ q.num.natAbs∧q.den ∣ L/Nat.gcd L (G*g):=fun {q z} f d=>by
  obtain ⟨z',hz⟩:=d
  exact two_divs hM (by rw [f,hz]) hGg q.reduced
 have t1:=two f1 d1
 have t2:=two f2 d2
 have t3:=two f3 d3
 have hL' : L ∣ L/Nat.gcd L (G*g):=by
  have:=Nat.lcm_dvd t3.2 (Nat.lcm_dvd t2.2 (Nat.lcm_dvd t1.2 (Nat.one_dvd _)))
  rw [← hL] at this
  exact this
 have hG' : G*g/Nat.gcd L (G*g) ∣ G:=by
  have:=Nat.dvd_gcd t3.1 (Nat.dvd_gcd t2.1 (Nat.dvd_gcd t1.1 (Nat.dvd_zero _)))
  rw [← hG] at this
  exact this
 have hD0:0<Nat.gcd L (G*g):=Nat.gcd_pos_of_pos_left _ hM
 have hu:0<L/Nat.gcd L (G*g):=Nat.div_pos (Nat.gcd_le_left _ hM) hD0
 have hle:=Nat.le_of_dvd hu hL'
 have hD1:Nat.gcd L (G*g)=1:=by
  rcases Nat.lt_or_ge 1 (Nat.gcd L (G*g)) with hlt|hge
  ·have:=Nat.div_lt_self hM hlt
   omega
  ·omega
 rw [hD1,Nat.div_one] at hG'
 have hle2:=Nat.le_of_dvd hN hG'
 rcases Nat.lt_or_ge 1 g with hlt|hge
 ·have:G*1<G*g:=Nat.mul_lt_mul_of_pos_left hlt hN
  omega
 ·omega
end Go.Proofs.YtgbcaflelmgbdaaGreatDoor.Ab
namespace Go.Proofs.YtgbcaflelmgbdaaGreatDoor
open Go.RowKit Pl
def B9:Nat:=1000000000
theorem cR:B9=1000000000:=rfl
theorem eK:1<B9:=by unfold B9;omega
theorem cM:0<B9:=by unfold B9;omega
def eC (n:Nat):Value := .int .i64 (n:Int)
def Ri (w:World) (A:Option Addr) (n c:Nat) (xs:List Nat):Prop :=
 xs.length=n∧n≤c∧c≤maxLen∧(0<n→∃ ad,A=some ad∧ad.block<w.heap.size∧∀ (j x:Nat),xs[j]?=some x→w.cell? (ad.add j)=some (.int .i64 (x:Int)))
section
variable {w w' : World} {A:Option Addr} {n c:Nat} {xs:List Nat}
theorem Ri.len (h:Ri w A n c xs):xs.length=n:=h.1
theorem Ri.cap (h:Ri w A n c xs):n≤c:=h.2.1
theorem Ri.at_ (h:Ri w A n c xs) {k:Nat} (hk:k<n) :
 ∃ ad x,A=some ad∧ad.block<w.heap.size∧xs[k]?=some x∧w.cell? (ad.add k)=some (.int .i64 (x:Int)):=by
 obtain ⟨ad,e,hb,hc⟩:=h.2.2.2 (by omega)
 have hl:k<xs.length:=by have:=h.1;omega
 exact ⟨ad,xs[k],e,hb,List.getElem?_eq_getElem hl,hc k _ (List.getElem?_eq_getElem hl)⟩
theorem Ri.below (h:Ri w A n c xs) (hb:Below w.heap.size w w'):Ri w' A n c xs:=by
 refine ⟨h.1,h.2.1,h.2.2.1,fun hn=>?_⟩
 obtain ⟨ad,e,hl,hc⟩:=h.2.2.2 hn
 have:=hb.size
 exact ⟨ad,e,by omega,fun j x hx=>(hb.cell (p:=ad.add j) (by rw [bO];exact hl)).trans (hc j x hx)⟩
theorem Ri.nil:Ri w none 0 0 []:=⟨rfl,Nat.le_refl _,Nat.zero_le _,fun h=>absurd h (by omega)⟩
theorem Ri.take (h:Ri w A n c xs) {k:Nat} (hk:k≤n):Ri w A k c (xs.take k):=by
 refine ⟨by rw [List.length_take,h.1];omega,Nat.le_trans hk h.2.1,h.2.2.1,fun hp=>?_⟩
 obtain ⟨ad,e,hl,hc⟩:=h.2.2.2 (by omega)
 refine ⟨ad,e,hl,fun j x hx=>hc j x ?_⟩
 rw [List.getElem?_take] at hx
 split at hx
 ·exact hx
 ·cases hx
end
def Bi (w:World) (g:Nat) (t:TypeId) (ys:List Nat):Prop:=w.heap[g]?=some (.cells (ys.map eC).toArray t (0,0))
section
variable {w w' : World} {g:Nat} {t:TypeId} {ys:List Nat}
theorem Bi.lt (h:Bi w g t ys):g<w.heap.size:=by
 unfold Bi at h
 rcases Nat.lt_or_ge g w.heap.size with hlt|hge
 ·exact hlt
 ·rw [Array.getElem?_eq_none hge] at h;cases h
theorem Bi.cell (h:Bi w g t ys) {i x:Nat} (hx:ys[i]?=some x):w.cell? ⟨g,i,none⟩=some (.int .i64 (x:Int)):=by
 unfold Bi at h
 simp [World.cell?,h,hx,eC]
theorem Bi.cell_get (h:Bi w g t ys) {i:Nat} (hi:i<ys.length):w.cell? ⟨g,i,none⟩=some (.int .i64 ((ys[i]:Nat):Int)):=h.cell (List.getElem?_eq_getElem hi)
theorem Bi.frozen (h:Bi w g t ys) (i:Nat):w.frozen? ⟨g,i,none⟩=false:=by
 unfold Bi at h
 simp [World.frozen?,h]
theorem Bi.set_ (h:Bi w g t ys) (i x:Nat):Bi (w.setCell ⟨g,i,none⟩ (.int .i64 (x:Int))) g t (ys.set i x):=by
 unfold Bi at h ⊢
 simp only [World.setCell,Array.getElem?_modify,h]
 simp [List.map_set,eC]
theorem Bi.drew (h:Bi w g t ys):Bi w.drew g t ys:=h
theorem Bi.drewN (h:Bi w g t ys) (k:Nat):Bi (w.drewN k) g t ys:=h
theorem Bi.alloc (h:Bi w g t ys) (o:Obj):Bi (w.alloc o) g t ys:=(Below.heap_alloc w o g h.lt).trans h
theorem Bi.far (h:Bi w g t ys) {p:Addr} (hp:g≠p.block) (u:Value):Bi (w.setCell p u) g t ys:=(Below.heap_setCell w p u g hp).trans h
theorem Bi.below {B:Nat} (h:Bi w g t ys) (hb:Below B w w') (hg:g<B):Bi w' g t ys:=(hb.block g hg).trans h
theorem Bi.rd (h:Bi w g t ys) (hm:ys.length≤maxLen):Ri w (some ⟨g,0,none⟩) ys.length ys.length ys:=by
 refine ⟨rfl,Nat.le_refl _,hm,fun _=>⟨_,rfl,h.lt,fun j x hx=>?_⟩⟩
 have:(⟨g,0,none⟩:Addr).add j=⟨g,j,none⟩:=by unfold Addr.add;split <;> simp_all
 rw [this]
 exact h.cell hx
theorem Bi.of_own {base e n:Nat} {xs:List Value} (h:w.ownsRow base e 1 (.slice (some ⟨g,0,none⟩) n n) n xs) (hx:xs=ys.map eC):Bi w g e ys:=by
 obtain ⟨h1,h2|⟨g',cap,cur,hv,_,hh,_,_,hs,ht⟩⟩:=h
 ·obtain ⟨hv,_⟩:=h2
  injection hv with hv
  cases hv
 ·injection hv with hv _ hc
  injection hv with hv
  injection hv with hv
  subst hc
  subst hv
  unfold Bi
  rw [hh]
  have:cur.toList=xs:=by
   rw [← ht,List.take_of_length_le]
   simp [hs]
  have e2:cur=(ys.map eC).toArray:=by rw [← hx,← this]
  rw [e2]
end
def In (w:World) (v:Value) (z:Int):Prop :=
 ∃ A n c xs,v = .agg #[.bool (decide (z<0)),.slice A n c]∧Ri w A n c xs∧Dig B9 xs∧Norm xs∧val B9 xs=z.natAbs
def TrimI (xs:List Nat) (k:Nat):Prop:=k≤xs.length∧Norm (xs.take k)∧val B9 (xs.take k)=val B9 xs
set_option maxHeartbeats 400000 in
theorem trim_raw (A:Option Addr) (n c:Nat) (xs:List Nat) (w:World) (h:Ri w A n c xs) :
 Calls Tryz.prog 204 #[.slice A n c] w fun e w'=>Hid (∃ k,TrimI xs k∧e = .returned (.slice A k c))∧w=w':=by
 have HR:=Lib.hid h
 have hnc:n≤c:=h.cap
 have hcm:c≤9223372036854775807:=h.2.2.1
 clear h
 go_enter Tryz.func204,Tryz.ntmps204
 go_wp2
 go_loop [0] (fun v => ∃ k:Nat,k≤n∧val B9 (xs.take k)=val B9 xs∧v = .slice A k c) (fun v=>lenOf v)
 case atStart=>exact ⟨n,Nat.le_refl _,by rw [List.take_of_length_le (by rw [HR.out.len];omega)],rfl⟩
 case round =>
  obtain ⟨k,hk,hv,rfl⟩:=hrel
  have HV:=Lib.hid hv
  clear hv
  by_cases hk0:0<k
  ·obtain ⟨ad,x,rfl,_hb,hx,hcell⟩:=HR.out.at_ (k:=k-1) (by omega)
   have HX:=Lib.hid hx
   clear hx
   go_wp2
   ·have h0 : x = 0 := by have:((x:Int)==0)=true:=by assumption
                          simpa using this
    subst h0
    refine ⟨⟨k-1,by omega,?_,rfl⟩,by simp only [lenOf];omega⟩
    have hlt:k-1<xs.length:=by rw [HR.out.len];omega
    have hz:xs[k-1]=0:=by have:=HX.out;rw [List.getElem?_eq_getElem hlt] at this;injection this
    have:=val_take_pred B9 hlt hz
    rw [show k-1+1=k from by omega] at this
    rw [← this];exact HV.out
   ·have h0:((x:Int)==0)=false:=by assumption
    go_ret
    refine ⟨⟨k,⟨by rw [HR.out.len];exact hk,norm_take (by rw [HR.out.len];exact hk) (fun _=>?_),HV.out⟩,rfl⟩,rfl⟩
    rw [HX.out]
    intro e
    injection e with e
    subst e
    simp at h0
  ·have hz:decide (0<(k:Int))=false:=by simp;omega
   have hk00:k=0:=by omega
   have HK:=Lib.hid hk00
   clear hk00
   go_wp2
   go_ret
   refine ⟨⟨k,⟨by omega,?_,HV.out⟩,rfl⟩,rfl⟩
   rw [HK.out]
   simpa using Norm.nil
end Go.Proofs.YtgbcaflelmgbdaaGreatDoor
namespace Go.Proofs.YtgbcaflelmgbdaaGreatDoor.Ab
open Go.RowKit Go.Proofs.YtgbcaflelmgbdaaGreatDoor Pl
theorem dU {a b:Nat} (ha:a<aD) (hb:b<aD):Fits (Kc:=Kn) Tryz.prog 160 [.fv (.sc (.lit (.int .u64 (a:Int)))),.fv (.sc (.lit (.int .u64 (b:Int))))] (.fv (.sc (.lit (.int .u64 ((Nat.gcd a b:Nat):Int))))):=by
 intro β w vs hv
 obtain ⟨v,u,rfl,h1,h2⟩:=eM hv
 rw [aO h1,aO h2]
 exact (iY a b w ha hb).mono fun e w' ⟨e1,e2⟩=>⟨_,e1,by first|exact e2|(rw [← e2];exact Below.refl _ _),bA rfl⟩
theorem ck_111:Fits Tryz.prog 99 [iv (1) (1) (1)] (it 0):=by
 refine fW Tryz.func99 (by kernel_rfl) fun w00=>?_
 refine aB 160 [.fv (.sc (.lit (.int .u64 ((0:Nat):Int)))),.fv (.sc (.lit (.int .u64 ((1:Nat):Int))))] (dU (by rw [aG];omega) (by rw [aG];omega)) (by kernel_rfl) Tryz.call160 ?_
 refine aB 160 [.fv (.sc (.lit (.int .u64 ((1:Nat):Int)))),.fv (.sc (.lit (.int .u64 ((1:Nat):Int))))] (dU (by rw [aG];omega) (by rw [aG];omega)) (by kernel_rfl) Tryz.call160 ?_
 refine aB 160 [.fv (.sc (.lit (.int .u64 ((1:Nat):Int)))),.fv (.sc (.lit (.int .u64 ((1:Nat):Int))))] (dU (by rw [aG];omega) (by rw [aG];omega)) (by kernel_rfl) Tryz.call160 ?_
 exact aS Tryz.func99 (by kernel_rfl)
theorem ck_100:Fits Tryz.prog 99 [iv (1) (0) (0)] (it 0):=by
 refine fW Tryz.func99 (by kernel_rfl) fun w00=>?_
 refine aB 160 [.fv (.sc (.lit (.int .u64 ((0:Nat):Int)))),.fv (.sc (.lit (.int .u64 ((1:Nat):Int))))] (dU (by rw [aG];omega) (by rw [aG];omega)) (by kernel_rfl) Tryz.call160 ?_
 refine aB 160 [.fv (.sc (.lit (.int .u64 ((1:Nat):Int)))),.fv (.sc (.lit (.int .u64 ((0:Nat):Int))))] (dU (by rw [aG];omega) (by rw [aG];omega)) (by kernel_rfl) Tryz.call160 ?_
 refine aB 160 [.fv (.sc (.lit (.int .u64 ((1:Nat):Int)))),.fv (.sc (.lit (.int .u64 ((0:Nat):Int))))] (dU (by rw [aG];omega) (by rw [aG];omega)) (by kernel_rfl) Tryz.call160 ?_
 exact aS Tryz.func99 (by kernel_rfl)
theorem ck_302:Fits Tryz.prog 99 [iv (3) (0) (-2)] (it 0):=by
 refine fW Tryz.func99 (by kernel_rfl) fun w00=>?_
 refine aB 160 [.fv (.sc (.lit (.int .u64 ((0:Nat):Int)))),.fv (.sc (.lit (.int .u64 ((3:Nat):Int))))] (dU (by rw [aG];omega) (by rw [aG];omega)) (by kernel_rfl) Tryz.call160 ?_
 refine aB 160 [.fv (.sc (.lit (.int .u64 ((3:Nat):Int)))),.fv (.sc (.lit (.int .u64 ((0:Nat):Int))))] (dU (by rw [aG];omega) (by rw [aG];omega)) (by kernel_rfl) Tryz.call160 ?_
 refine aB 160 [.fv (.sc (.lit (.int .u64 ((3:Nat):Int)))),.fv (.sc (.lit (.int .u64 ((2:Nat):Int))))] (dU (by rw [aG];omega) (by rw [aG];omega)) (by kernel_rfl) Tryz.call160 ?_
 exact aS Tryz.func99 (by kernel_rfl)
section
variable {z1 z2 z3:Int} {d p1 p2 p3 n1 n2 n3 e:Rat}
structure Hv (z1 z2 z3:Int) (d:Rat):Prop where
 s1:Sz z1
 s2:Sz z2
 s3:Sz z3
 d:Wr d
 ck:Fits Tryz.prog 99 [iv z1 z2 z3] (it 0)
theorem cF {z:Int} (h:Sz z) {k:Nat}:Lf k (z:Rat):=Lf.int (Lv.one _ (by have:=h.1;have:=h.2;rw [aG];omega))
theorem m_sz {z:Int} (h:Sz z):M64 z:=⟨by have:=h.1;omega,by have:=h.2;omega⟩
theorem readHV (h:Hv z1 z2 z3 d) (k:mH p1 p2 p3):FitsW Tryz.prog Gl 52 [gL 39,hS z1 z2 z3 d,gL 31,vS p1 p2 p3] (.tup [.ag [nb z1,nb z2,nb z3,nb d],.ag [nb p1,nb p2,nb p3],.sc z0]):=by
 refine dO Tryz.func52 (by kernel_rfl) fun w00 hG=>?_;have hI:=bD hG
 refine aL hI 39 [hS z1 z2 z3 d] (readHalfF (m_sz h.s1) (m_sz h.s2) (m_sz h.s3) h.d h.ck) (by kernel_rfl) Tryz.call39 ?_
 refine aL hI 31 [vS p1 p2 p3] (gG k) (by kernel_rfl) Tryz.call31 ?_
 refine aB 66 [.fv (.nsl 2 34 [z0,z0])] (gF) (by kernel_rfl) Tryz.call66 ?_
 exact aS Tryz.func52 (by kernel_rfl)
theorem apiSideF {s:Int} (h:Hv z1 z2 z3 d) (k:mH p1 p2 p3) (hs:kW (dt z1 z2 z3 p1 p2 p3-d)=s):FitsW Tryz.prog Gl 16 [hS z1 z2 z3 d,vS p1 p2 p3] (.tup [.sc (.lit (.int .i64 s)),.sc z0]):=by
 rw [← hs]
 refine dO Tryz.func16 (by kernel_rfl) fun w00 hG=>?_;have hI:=bD hG
 refine aL hI 52 [gL 39,hS z1 z2 z3 d,gL 31,vS p1 p2 p3] (readHV h k) (by kernel_rfl) Tryz.call52 ?_
 refine aB 48 [hf z1 z2 z3 d,vc p1 p2 p3] (excessF (cF h.s1) (cF h.s2) (cF h.s3) (h.d.lf.mono (by decide)) (k.1.lf.mono (by decide)) (k.2.1.lf.mono (by decide)) (k.2.2.lf.mono (by decide))) (by kernel_rfl) Tryz.call48 ?_
 refine aB 53 [num (dt z1 z2 z3 p1 p2 p3-d)] (signF) (by kernel_rfl) Tryz.call53 ?_
 exact aS Tryz.func16 (by kernel_rfl)
theorem apiMakeHalfF (k:mH n1 n2 n3) (hd:Wr d) (h:Form n1 n2 n3 d z1 z2 z3 e):FitsW Tryz.prog Gl 19 [vS n1 n2 n3,tx (writeB d)] (okH z1 z2 z3 e):=by
 have h0:(decide (n1=0)&&decide (n2=0)&&decide (n3=0))=false:=by
  rw [Bool.eq_false_iff]
  intro hh
  simp only [Bool.and_eq_true,decide_eq_true_eq] at hh
  exact h.h0 ⟨hh.1.1,hh.1.2,hh.2⟩
 refine dO Tryz.func19 (by kernel_rfl) fun w00 hG=>?_;have hI:=bD hG
 refine aL hI 64 [gL 31,vS n1 n2 n3,gL 65,tx (writeB d)] (readVR k hd) (by kernel_rfl) Tryz.call64 ?_
 refine aB 61 [vc n1 n2 n3] (iE h0) (by kernel_rfl) Tryz.call61 ?_
 refine aL hI 46 [hf n1 n2 n3 d] (hWriteF h) (by kernel_rfl) Tryz.call46 ?_
 exact aS Tryz.func19 (by kernel_rfl)
variable {a1 a2 a3 b1 b2 b3 c1 c2 c3:Rat}
theorem apiThroughF (ka:mH a1 a2 a3) (kb:mH b1 b2 b3) (kc:mH c1 c2 c3) {m1 m2 m3:Rat}
 (e1:(b2-a2)*(c3-a3)-(b3-a3)*(c2-a2)=m1) (e2:(b3-a3)*(c1-a1)-(b1-a1)*(c3-a3)=m2) (e3:(b1-a1)*(c2-a2)-(b2-a2)*(c1-a1)=m3)
 (h:Form m1 m2 m3 (dt m1 m2 m3 a1 a2 a3) z1 z2 z3 e):FitsW Tryz.prog Gl 20 [vS a1 a2 a3,vS b1 b2 b3,vS c1 c2 c3] (okH z1 z2 z3 e):=by
 have h0:(decide (m1=0)&&decide (m2=0)&&decide (m3=0))=false:=by
  rw [Bool.eq_false_iff]
  intro hh
  simp only [Bool.and_eq_true,decide_eq_true_eq] at hh
  exact h.h0 ⟨hh.1.1,hh.1.2,hh.2⟩
 have s:∀ {x y:Rat},Wr x→Wr y→Lf 35 (x-y):=fun hx hy=>Lf.subn (hx.lf.mono (by decide)) (hy.lf.mono (by decide)) (by decide)
 have hcross:Fits Tryz.prog 62 [vc (b1-a1) (b2-a2) (b3-a3),vc (c1-a1) (c2-a2) (c3-a3)] (vc m1 m2 m3):=by
  have:=crossF (s kb.1 ka.1) (s kb.2.1 ka.2.1) (s kb.2.2 ka.2.2) (s kc.1 ka.1) (s kc.2.1 ka.2.1) (s kc.2.2 ka.2.2)
  rw [e1,e2,e3] at this
  exact this
 refine dO Tryz.func20 (by kernel_rfl) fun w00 hG=>?_;have hI:=bD hG
 refine aL hI 60 [gL 31,vS a1 a2 a3,gL 31,vS b1 b2 b3] (readVV ka kb) (by kernel_rfl) Tryz.call60 ?_
 refine aL hI 31 [vS c1 c2 c3] (gG kc) (by kernel_rfl) Tryz.call31 ?_
 refine aB 66 [.fv (.nsl 2 34 [z0,z0])] (gF) (by kernel_rfl) Tryz.call66 ?_
 refine aB 67 [vc b1 b2 b3,vc a1 a2 a3] (vminusF (kb.1.lf.mono (by decide)) (kb.2.1.lf.mono (by decide)) (kb.2.2.lf.mono (by decide)) (ka.1.lf.mono (by decide)) (ka.2.1.lf.mono (by decide)) (ka.2.2.lf.mono (by decide))) (by kernel_rfl) Tryz.call67 ?_
 refine aB 67 [vc c1 c2 c3,vc a1 a2 a3] (vminusF (kc.1.lf.mono (by decide)) (kc.2.1.lf.mono (by decide)) (kc.2.2.lf.mono (by decide)) (ka.1.lf.mono (by decide)) (ka.2.1.lf.mono (by decide)) (ka.2.2.lf.mono (by decide))) (by kernel_rfl) Tryz.call67 ?_
 refine aB 62 [vc (b1-a1) (b2-a2) (b3-a3),vc (c1-a1) (c2-a2) (c3-a3)] (hcross) (by kernel_rfl) Tryz.call62 ?_
 refine aB 61 [vc m1 m2 m3] (iE h0) (by kernel_rfl) Tryz.call61 ?_
 refine aB 45 [vc m1 m2 m3,vc a1 a2 a3] (mU (h.l1.mono (by decide)) (h.l2.mono (by decide)) (h.l3.mono (by decide)) (ka.1.lf.mono (by decide)) (ka.2.1.lf.mono (by decide)) (ka.2.2.lf.mono (by decide))) (by kernel_rfl) Tryz.call45 ?_
 refine aL hI 46 [hf m1 m2 m3 (dt m1 m2 m3 a1 a2 a3)] (hWriteF h) (by kernel_rfl) Tryz.call46 ?_
 exact aS Tryz.func20 (by kernel_rfl)
theorem apiMirrorF {m1 m2 m3:Rat} (h:Hv z1 z2 z3 d) (k:mH p1 p2 p3) (h0:dt (z1:Rat) z2 z3 z1 z2 z3≠0)
 (e1:p1+((2:Int):Rat)*(kZ z1 z2 z3 d p1 p2 p3*z1)=m1) (e2:p2+((2:Int):Rat)*(kZ z1 z2 z3 d p1 p2 p3*z2)=m2) (e3:p3+((2:Int):Rat)*(kZ z1 z2 z3 d p1 p2 p3*z3)=m3) (hr:mH m1 m2 m3) :
 FitsW Tryz.prog Gl 21 [hS z1 z2 z3 d,vS p1 p2 p3] (fV m1 m2 m3):=by
 have lw:Lf 20 (kZ z1 z2 z3 d p1 p2 p3):=lf_way (cF h.s1) (cF h.s2) (cF h.s3) (h.d.lf.mono (by decide)) (k.1.lf.mono (by decide)) (k.2.1.lf.mono (by decide)) (k.2.2.lf.mono (by decide)) (by decide)
 have l2:Lf 20 ((2:Int):Rat):=Lf.int (Lv.one _ (by rw [aG];decide))
 have lm:∀ {z:Int},Sz z→Lf 22 (((2:Int):Rat)*(kZ z1 z2 z3 d p1 p2 p3*z)):=fun hz=>Lf.muln (n:=22) (l2.mono (by decide)) (Lf.muln (n:=21) lw (cF hz) (by decide)) (by decide)
 have hp:Fits Tryz.prog 68 [vc p1 p2 p3,vc (((2:Int):Rat)*(kZ z1 z2 z3 d p1 p2 p3*z1)) (((2:Int):Rat)*(kZ z1 z2 z3 d p1 p2 p3*z2)) (((2:Int):Rat)*(kZ z1 z2 z3 d p1 p2 p3*z3))] (vc m1 m2 m3):=by
  rw [← e1,← e2,← e3]
  exact vplusF (k.1.lf.mono (by decide)) (k.2.1.lf.mono (by decide)) (k.2.2.lf.mono (by decide)) ((lm h.s1).mono (by decide)) ((lm h.s2).mono (by decide)) ((lm h.s3).mono (by decide))
 refine dO Tryz.func21 (by kernel_rfl) fun w00 hG=>?_;have hI:=bD hG
 refine aL hI 52 [gL 39,hS z1 z2 z3 d,gL 31,vS p1 p2 p3] (readHV h k) (by kernel_rfl) Tryz.call52 ?_
 refine aB 69 [hf z1 z2 z3 d,vc p1 p2 p3] (toPlaneF (cF h.s1) (cF h.s2) (cF h.s3) (h.d.lf.mono (by decide)) (k.1.lf.mono (by decide)) (k.2.1.lf.mono (by decide)) (k.2.2.lf.mono (by decide)) h0) (by kernel_rfl) Tryz.call69 ?_
 refine aB 71 [it 2] (kY (by constructor <;> omega)) (by kernel_rfl) Tryz.call71 ?_
 refine aB 70 [vc (kZ z1 z2 z3 d p1 p2 p3*z1) (kZ z1 z2 z3 d p1 p2 p3*z2) (kZ z1 z2 z3 d p1 p2 p3*z3),num ((2:Int):Rat)] (gE (l2.mono (by decide)) (Lf.muln (n:=38) (lw.mono (by decide)) (cF h.s1) (by decide)) (Lf.muln (n:=38) (lw.mono (by decide)) (cF h.s2) (by decide)) (Lf.muln (n:=38) (lw.mono (by decide)) (cF h.s3) (by decide))) (by kernel_rfl) Tryz.call70 ?_
 refine aB 68 [vc p1 p2 p3,vc (((2:Int):Rat)*(kZ z1 z2 z3 d p1 p2 p3*z1)) (((2:Int):Rat)*(kZ z1 z2 z3 d p1 p2 p3*z2)) (((2:Int):Rat)*(kZ z1 z2 z3 d p1 p2 p3*z3))] (hp) (by kernel_rfl) Tryz.call68 ?_
 refine aL hI 33 [vc m1 m2 m3] (writeVecF hr (hr.1.lf.mono (by decide)) (hr.2.1.lf.mono (by decide)) (hr.2.2.lf.mono (by decide))) (by kernel_rfl) Tryz.call33 ?_
 exact aS Tryz.func21 (by kernel_rfl)
theorem apiMeetF {v1 v2 v3 m1 m2 m3:Rat} (h:Hv z1 z2 z3 d) (k:mH p1 p2 p3) (kv:mH v1 v2 v3) (h0:dt z1 z2 z3 v1 v2 v3≠0)
 (e1:p1-(dt z1 z2 z3 p1 p2 p3-d)/dt z1 z2 z3 v1 v2 v3*v1=m1) (e2:p2-(dt z1 z2 z3 p1 p2 p3-d)/dt z1 z2 z3 v1 v2 v3*v2=m2) (e3:p3-(dt z1 z2 z3 p1 p2 p3-d)/dt z1 z2 z3 v1 v2 v3*v3=m3) (hr:mH m1 m2 m3) :
 FitsW Tryz.prog Gl 25 [hS z1 z2 z3 d,vS p1 p2 p3,vS v1 v2 v3] (fV m1 m2 m3):=by
 have lE:Lf 16 (dt z1 z2 z3 p1 p2 p3-d):=Lf.subn (iS (n:=14) (cF h.s1) (cF h.s2) (cF h.s3) (k.1.lf.mono (by decide)) (k.2.1.lf.mono (by decide)) (k.2.2.lf.mono (by decide)) (by decide)) (h.d.lf.mono (by decide)) (by decide)
 have lV:Lf 16 (dt z1 z2 z3 v1 v2 v3):=iS (cF h.s1) (cF h.s2) (cF h.s3) (kv.1.lf.mono (by decide)) (kv.2.1.lf.mono (by decide)) (kv.2.2.lf.mono (by decide)) (by decide)
 have lQ:Lf 17 ((dt z1 z2 z3 p1 p2 p3-d)/dt z1 z2 z3 v1 v2 v3):=by
  rw [Rat.div_def]
  exact Lf.muln lE (Lf.inv lV) (by decide)
 have lm:∀ {x:Rat},Wr x→Lf 18 ((dt z1 z2 z3 p1 p2 p3-d)/dt z1 z2 z3 v1 v2 v3*x):=fun hx=>Lf.muln lQ (hx.lf.mono (by decide)) (by decide)
 have hi:decide (dt z1 z2 z3 v1 v2 v3=0)=false:=by rw [decide_eq_false_iff_not];exact h0
 obtain ⟨Q,hQ⟩:∃ Q,Q=(dt z1 z2 z3 p1 p2 p3-d)/dt z1 z2 z3 v1 v2 v3:=⟨_,rfl⟩
 rw [← hQ] at e1 e2 e3 lQ lm
 have ho:Fits Tryz.prog 42 [num (dt z1 z2 z3 p1 p2 p3-d),num (dt z1 z2 z3 v1 v2 v3)] (num Q):=by
  rw [hQ]
  exact kX (lE.mono (by decide)) (lV.mono (by decide)) h0
 have hp:Fits Tryz.prog 67 [vc p1 p2 p3,vc (Q*v1) (Q*v2) (Q*v3)] (vc m1 m2 m3):=by
  rw [← e1,← e2,← e3]
  exact vminusF (k.1.lf.mono (by decide)) (k.2.1.lf.mono (by decide)) (k.2.2.lf.mono (by decide)) ((lm kv.1).mono (by decide)) ((lm kv.2.1).mono (by decide)) ((lm kv.2.2).mono (by decide))
 refine dO Tryz.func25 (by kernel_rfl) fun w00 hG=>?_;have hI:=bD hG
 refine aL hI 52 [gL 39,hS z1 z2 z3 d,gL 31,vS p1 p2 p3] (readHV h k) (by kernel_rfl) Tryz.call52 ?_
 refine aL hI 31 [vS v1 v2 v3] (gG kv) (by kernel_rfl) Tryz.call31 ?_
 refine aB 66 [.fv (.nsl 2 34 [z0,z0])] (gF) (by kernel_rfl) Tryz.call66 ?_
 refine aB 45 [vc z1 z2 z3,vc v1 v2 v3] (mU (cF h.s1) (cF h.s2) (cF h.s3) (kv.1.lf.mono (by decide)) (kv.2.1.lf.mono (by decide)) (kv.2.2.lf.mono (by decide))) (by kernel_rfl) Tryz.call45 ?_
 refine aB 73 [num (dt z1 z2 z3 v1 v2 v3)] (bW hi) (by kernel_rfl) Tryz.call73 ?_
 refine aB 48 [hf z1 z2 z3 d,vc p1 p2 p3] (excessF (cF h.s1) (cF h.s2) (cF h.s3) (h.d.lf.mono (by decide)) (k.1.lf.mono (by decide)) (k.2.1.lf.mono (by decide)) (k.2.2.lf.mono (by decide))) (by kernel_rfl) Tryz.call48 ?_
 refine aB 42 [num (dt z1 z2 z3 p1 p2 p3-d),num (dt z1 z2 z3 v1 v2 v3)] (ho) (by kernel_rfl) Tryz.call42 ?_
 refine aB 70 [vc v1 v2 v3,num Q] (gE (lQ.mono (by decide)) (kv.1.lf.mono (by decide)) (kv.2.1.lf.mono (by decide)) (kv.2.2.lf.mono (by decide))) (by kernel_rfl) Tryz.call70 ?_
 refine aB 67 [vc p1 p2 p3,vc (Q*v1) (Q*v2) (Q*v3)] (hp) (by kernel_rfl) Tryz.call67 ?_
 refine aL hI 33 [vc m1 m2 m3] (writeVecF hr (hr.1.lf.mono (by decide)) (hr.2.1.lf.mono (by decide)) (hr.2.2.lf.mono (by decide))) (by kernel_rfl) Tryz.call33 ?_
 exact aS Tryz.func25 (by kernel_rfl)
end
end Go.Proofs.YtgbcaflelmgbdaaGreatDoor.Ab
