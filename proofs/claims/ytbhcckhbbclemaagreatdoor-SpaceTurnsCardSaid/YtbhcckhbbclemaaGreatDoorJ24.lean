/- Parts of the proof, joined. -/
import Derived.Test.YtbhcckhbbclemaaGreatDoorJ23
set_option linter.unusedSimpArgs false
set_option linter.unusedVariables false
namespace Go.Proofs.YtbhcckhbbclemaaGreatDoor.Ab
open Go.RowKit Go.Proofs.YtbhcckhbbclemaaGreatDoor Pl
def wn (q:Rat) (n:Nat):Nat:=if q=0 then n else Nat.gcd q.num.natAbs n
def wd (q:Rat) (d:Nat):Nat:=if q=0 then d else d*(q.den/Nat.gcd q.den d)
def wholeR (a b c:Rat):Rat:=mkRat (sg false (wd c (wd b (wd a 1)))) (wn c (wn b (wn a 0)))
theorem wn_pos {q:Rat} {n:Nat} (h:q≠0):0<wn q n:=by
 unfold wn
 rw [if_neg h]
 have:0<q.num.natAbs:=by
  have:q.num≠0:=fun e=>h (Rat.num_eq_zero.1 e)
  omega
 exact Nat.gcd_pos_of_pos_left _ this
theorem wn_pos' {q:Rat} {n:Nat} (h:0<n):0<wn q n:=by
 unfold wn
 split
 ·exact h
 ·exact Nat.gcd_pos_of_pos_right _ h
theorem lv_wn {q:Rat} {n k:Nat} (hq:Lf k q) (hn:Lv k n):Lv k (wn q n):=by
 unfold wn
 split
 ·exact hn
 ·rename_i h
  have:q.num≠0:=fun e=>h (Rat.num_eq_zero.1 e)
  exact hq.1.le (Nat.gcd_le_left _ (by omega))
theorem lv_wd {q:Rat} {d k:Nat} (hq:Lf k q) (hd:Lv k d):Lv (k+1) (wd q d):=by
 unfold wd
 split
 ·exact hd.mono (by omega)
 ·exact hd.mul (hq.2.le (Nat.div_le_self _ _))
theorem nil_nt {β:List Nat} {v:Value} {w:World} (h:(AV.fv (.sc (.lit (.slice none 0 0))):AV Kn).holds β v w):(nt 0).holds β v w:=by
 rw [hold_lit h]
 exact nt_holds.2 (Nt.zero w)
theorem num_ne {q:Rat} (h:¬ q=0):0<q.num.natAbs:=by
 have:q.num≠0:=fun e=>h (Rat.num_eq_zero.1 e)
 omega
section
variable {a b c:Rat}
theorem whole_111 (la:Lf 30 a) (lb:Lf 30 b) (lc:Lf 30 c) (ha:¬ a=0) (hb:¬ b=0) (hc:¬ c=0):Fits Tryz.prog 196 [vc a b c] (num (wholeR a b c)):=by
 have e:wholeR a b c=mkRat (sg false ((((1)*(a.den/Nat.gcd a.den (1)))*(b.den/Nat.gcd b.den ((1)*(a.den/Nat.gcd a.den (1)))))*(c.den/Nat.gcd c.den (((1)*(a.den/Nat.gcd a.den (1)))*(b.den/Nat.gcd b.den ((1)*(a.den/Nat.gcd a.den (1)))))))) (Nat.gcd c.num.natAbs (Nat.gcd b.num.natAbs (Nat.gcd a.num.natAbs (0)))):=by
  unfold wholeR wn wd
  simp only [if_neg ha,if_neg hb,if_neg hc]
 have lN:Lv 30 (Nat.gcd c.num.natAbs (Nat.gcd b.num.natAbs (Nat.gcd a.num.natAbs (0)))):=by
  have:=lv_wn (k:=30) lc (lv_wn lb (lv_wn la (n:=0) (Lv.one _ (by rw [W64_eq];omega))))
  unfold wn at this
  simpa only [if_neg ha,if_neg hb,if_neg hc] using this
 have lD0:Lv 31 ((1)*(a.den/Nat.gcd a.den (1))):=(show Lv 30 (1) from (Lv.one _ (by rw [W64_eq];omega))).mul (la.2.mono (by omega) |>.le (Nat.div_le_self _ _))
 have lD1:Lv 32 (((1)*(a.den/Nat.gcd a.den (1)))*(b.den/Nat.gcd b.den ((1)*(a.den/Nat.gcd a.den (1))))):=(show Lv 31 ((1)*(a.den/Nat.gcd a.den (1))) from lD0.mono (by omega)).mul (lb.2.mono (by omega) |>.le (Nat.div_le_self _ _))
 have lD2:Lv 33 ((((1)*(a.den/Nat.gcd a.den (1)))*(b.den/Nat.gcd b.den ((1)*(a.den/Nat.gcd a.den (1)))))*(c.den/Nat.gcd c.den (((1)*(a.den/Nat.gcd a.den (1)))*(b.den/Nat.gcd b.den ((1)*(a.den/Nat.gcd a.den (1))))))):=(show Lv 32 (((1)*(a.den/Nat.gcd a.den (1)))*(b.den/Nat.gcd b.den ((1)*(a.den/Nat.gcd a.den (1))))) from lD1.mono (by omega)).mul (lc.2.mono (by omega) |>.le (Nat.div_le_self _ _))
 have hN:0<Nat.gcd c.num.natAbs (Nat.gcd b.num.natAbs (Nat.gcd a.num.natAbs (0))):=by
  have:=(show 0<wn c (wn b (wn a 0)) from wn_pos hc)
  unfold wn at this
  simpa only [if_neg ha,if_neg hb,if_neg hc] using this
 rw [e]
 refine kgo Tryz.func196 (by kernel_rfl) fun w00=>?_
 refine kcall 133 [.fv (.sc (.lit (.int .u64 ((1:Nat):Int))))] (naturalOfF (by rw [W64_eq];omega)) (by kernel_rfl) Tryz.call133 ?_
 refine kcall 32 [num a] (isZeroF (b:=false) (by simpa using ha)) (by kernel_rfl) Tryz.call32 ?_
 refine kcall 150 [num a] (numFractionF) (by kernel_rfl) Tryz.call150 ?_
 refine kcall 96 [nt a.num.natAbs,.fv (.sc (.lit (.slice none 0 0)))] (Fits.args (gcdF (b:=0) (la.1.mono (by omega)) (Lv.one _ (by rw [W64_eq];omega)) (.inl (num_ne ha))) (fun β vs w ⟨v,r,e,k1,⟨v2,r2,e2,k2,k3⟩⟩=>⟨v,r,e,k1,v2,r2,e2,nil_nt k2,k3⟩)) (by kernel_rfl) Tryz.call96 ?_
 refine kcall 96 [nt a.den,nt (1)] (gcdF (la.2.mono (by omega)) (Lv.one _ (by rw [W64_eq];omega)) (.inl a.den_pos)) (by kernel_rfl) Tryz.call96 ?_
 refine kcall 130 [nt a.den,nt (Nat.gcd a.den (1))] (ndivideF (la.2.mono (by omega)) (Nat.gcd_pos_of_pos_left _ a.den_pos)) (by kernel_rfl) Tryz.call130 ?_
 refine kcall 132 [nt (1),nt (a.den/Nat.gcd a.den (1))] (ntimesF (Lv.one _ (by rw [W64_eq];omega)) ((la.2.mono (by omega)).le (Nat.div_le_self _ _))) (by kernel_rfl) Tryz.call132 ?_
 refine kcall 32 [num b] (isZeroF (b:=false) (by simpa using hb)) (by kernel_rfl) Tryz.call32 ?_
 refine kcall 150 [num b] (numFractionF) (by kernel_rfl) Tryz.call150 ?_
 refine kcall 96 [nt b.num.natAbs,nt (Nat.gcd a.num.natAbs (0))] (gcdF (lb.1.mono (by omega)) (Lv.mono (k:=30) (by have:=lv_wn (k:=30) la (n:=0) (Lv.one _ (by rw [W64_eq];omega));unfold wn at this;simpa only [if_neg ha] using this) (by omega)) (.inl (num_ne hb))) (by kernel_rfl) Tryz.call96 ?_
 refine kcall 96 [nt b.den,nt ((1)*(a.den/Nat.gcd a.den (1)))] (gcdF (lb.2.mono (by omega)) (lD0.mono (by omega)) (.inl b.den_pos)) (by kernel_rfl) Tryz.call96 ?_
 refine kcall 130 [nt b.den,nt (Nat.gcd b.den ((1)*(a.den/Nat.gcd a.den (1))))] (ndivideF (lb.2.mono (by omega)) (Nat.gcd_pos_of_pos_left _ b.den_pos)) (by kernel_rfl) Tryz.call130 ?_
 refine kcall 132 [nt ((1)*(a.den/Nat.gcd a.den (1))),nt (b.den/Nat.gcd b.den ((1)*(a.den/Nat.gcd a.den (1))))] (ntimesF (lD0.mono (by omega)) ((lb.2.mono (by omega)).le (Nat.div_le_self _ _))) (by kernel_rfl) Tryz.call132 ?_
 refine kcall 32 [num c] (isZeroF (b:=false) (by simpa using hc)) (by kernel_rfl) Tryz.call32 ?_
 refine kcall 150 [num c] (numFractionF) (by kernel_rfl) Tryz.call150 ?_
 refine kcall 96 [nt c.num.natAbs,nt (Nat.gcd b.num.natAbs (Nat.gcd a.num.natAbs (0)))] (gcdF (lc.1.mono (by omega)) (Lv.mono (k:=30) (by have:=lv_wn (k:=30) lb (lv_wn la (n:=0) (Lv.one _ (by rw [W64_eq];omega)));unfold wn at this;simpa only [if_neg ha,if_neg hb] using this) (by omega)) (.inl (num_ne hc))) (by kernel_rfl) Tryz.call96 ?_
 refine kcall 96 [nt c.den,nt (((1)*(a.den/Nat.gcd a.den (1)))*(b.den/Nat.gcd b.den ((1)*(a.den/Nat.gcd a.den (1)))))] (gcdF (lc.2.mono (by omega)) (lD1.mono (by omega)) (.inl c.den_pos)) (by kernel_rfl) Tryz.call96 ?_
 refine kcall 130 [nt c.den,nt (Nat.gcd c.den (((1)*(a.den/Nat.gcd a.den (1)))*(b.den/Nat.gcd b.den ((1)*(a.den/Nat.gcd a.den (1))))))] (ndivideF (lc.2.mono (by omega)) (Nat.gcd_pos_of_pos_left _ c.den_pos)) (by kernel_rfl) Tryz.call130 ?_
 refine kcall 132 [nt (((1)*(a.den/Nat.gcd a.den (1)))*(b.den/Nat.gcd b.den ((1)*(a.den/Nat.gcd a.den (1))))),nt (c.den/Nat.gcd c.den (((1)*(a.den/Nat.gcd a.den (1)))*(b.den/Nat.gcd b.den ((1)*(a.den/Nat.gcd a.den (1))))))] (ntimesF (lD1.mono (by omega)) ((lc.2.mono (by omega)).le (Nat.div_le_self _ _))) (by kernel_rfl) Tryz.call132 ?_
 refine kcall 63 [bl false,nt ((((1)*(a.den/Nat.gcd a.den (1)))*(b.den/Nat.gcd b.den ((1)*(a.den/Nat.gcd a.den (1)))))*(c.den/Nat.gcd c.den (((1)*(a.den/Nat.gcd a.den (1)))*(b.den/Nat.gcd b.den ((1)*(a.den/Nat.gcd a.den (1))))))),nt (Nat.gcd c.num.natAbs (Nat.gcd b.num.natAbs (Nat.gcd a.num.natAbs (0))))] (ratioF (lD2.mono (by omega)) (lN.mono (by omega)) hN) (by kernel_rfl) Tryz.call63 ?_
 refine kcall 65 [fra (mkRat (sg false ((((1)*(a.den/Nat.gcd a.den (1)))*(b.den/Nat.gcd b.den ((1)*(a.den/Nat.gcd a.den (1)))))*(c.den/Nat.gcd c.den (((1)*(a.den/Nat.gcd a.den (1)))*(b.den/Nat.gcd b.den ((1)*(a.den/Nat.gcd a.den (1)))))))) (Nat.gcd c.num.natAbs (Nat.gcd b.num.natAbs (Nat.gcd a.num.natAbs (0)))))] (numberF) (by kernel_rfl) Tryz.call65 ?_
 exact kret Tryz.func196 (by kernel_rfl)
theorem whole_110 (la:Lf 30 a) (lb:Lf 30 b) (lc:Lf 30 c) (ha:¬ a=0) (hb:¬ b=0) (hc:c=0):Fits Tryz.prog 196 [vc a b c] (num (wholeR a b c)):=by
 have e:wholeR a b c=mkRat (sg false (((1)*(a.den/Nat.gcd a.den (1)))*(b.den/Nat.gcd b.den ((1)*(a.den/Nat.gcd a.den (1)))))) (Nat.gcd b.num.natAbs (Nat.gcd a.num.natAbs (0))):=by
  unfold wholeR wn wd
  simp only [if_neg ha,if_neg hb,if_pos hc]
 have lN:Lv 30 (Nat.gcd b.num.natAbs (Nat.gcd a.num.natAbs (0))):=by
  have:=lv_wn (k:=30) lc (lv_wn lb (lv_wn la (n:=0) (Lv.one _ (by rw [W64_eq];omega))))
  unfold wn at this
  simpa only [if_neg ha,if_neg hb,if_pos hc] using this
 have lD0:Lv 31 ((1)*(a.den/Nat.gcd a.den (1))):=(show Lv 30 (1) from (Lv.one _ (by rw [W64_eq];omega))).mul (la.2.mono (by omega) |>.le (Nat.div_le_self _ _))
 have lD1:Lv 32 (((1)*(a.den/Nat.gcd a.den (1)))*(b.den/Nat.gcd b.den ((1)*(a.den/Nat.gcd a.den (1))))):=(show Lv 31 ((1)*(a.den/Nat.gcd a.den (1))) from lD0.mono (by omega)).mul (lb.2.mono (by omega) |>.le (Nat.div_le_self _ _))
 have hN:0<Nat.gcd b.num.natAbs (Nat.gcd a.num.natAbs (0)):=by
  have:=(show 0<wn c (wn b (wn a 0)) from wn_pos' (wn_pos hb))
  unfold wn at this
  simpa only [if_neg ha,if_neg hb,if_pos hc] using this
 rw [e]
 refine kgo Tryz.func196 (by kernel_rfl) fun w00=>?_
 refine kcall 133 [.fv (.sc (.lit (.int .u64 ((1:Nat):Int))))] (naturalOfF (by rw [W64_eq];omega)) (by kernel_rfl) Tryz.call133 ?_
 refine kcall 32 [num a] (isZeroF (b:=false) (by simpa using ha)) (by kernel_rfl) Tryz.call32 ?_
 refine kcall 150 [num a] (numFractionF) (by kernel_rfl) Tryz.call150 ?_
 refine kcall 96 [nt a.num.natAbs,.fv (.sc (.lit (.slice none 0 0)))] (Fits.args (gcdF (b:=0) (la.1.mono (by omega)) (Lv.one _ (by rw [W64_eq];omega)) (.inl (num_ne ha))) (fun β vs w ⟨v,r,e,k1,⟨v2,r2,e2,k2,k3⟩⟩=>⟨v,r,e,k1,v2,r2,e2,nil_nt k2,k3⟩)) (by kernel_rfl) Tryz.call96 ?_
 refine kcall 96 [nt a.den,nt (1)] (gcdF (la.2.mono (by omega)) (Lv.one _ (by rw [W64_eq];omega)) (.inl a.den_pos)) (by kernel_rfl) Tryz.call96 ?_
 refine kcall 130 [nt a.den,nt (Nat.gcd a.den (1))] (ndivideF (la.2.mono (by omega)) (Nat.gcd_pos_of_pos_left _ a.den_pos)) (by kernel_rfl) Tryz.call130 ?_
 refine kcall 132 [nt (1),nt (a.den/Nat.gcd a.den (1))] (ntimesF (Lv.one _ (by rw [W64_eq];omega)) ((la.2.mono (by omega)).le (Nat.div_le_self _ _))) (by kernel_rfl) Tryz.call132 ?_
 refine kcall 32 [num b] (isZeroF (b:=false) (by simpa using hb)) (by kernel_rfl) Tryz.call32 ?_
 refine kcall 150 [num b] (numFractionF) (by kernel_rfl) Tryz.call150 ?_
 refine kcall 96 [nt b.num.natAbs,nt (Nat.gcd a.num.natAbs (0))] (gcdF (lb.1.mono (by omega)) (Lv.mono (k:=30) (by have:=lv_wn (k:=30) la (n:=0) (Lv.one _ (by rw [W64_eq];omega));unfold wn at this;simpa only [if_neg ha] using this) (by omega)) (.inl (num_ne hb))) (by kernel_rfl) Tryz.call96 ?_
 refine kcall 96 [nt b.den,nt ((1)*(a.den/Nat.gcd a.den (1)))] (gcdF (lb.2.mono (by omega)) (lD0.mono (by omega)) (.inl b.den_pos)) (by kernel_rfl) Tryz.call96 ?_
 refine kcall 130 [nt b.den,nt (Nat.gcd b.den ((1)*(a.den/Nat.gcd a.den (1))))] (ndivideF (lb.2.mono (by omega)) (Nat.gcd_pos_of_pos_left _ b.den_pos)) (by kernel_rfl) Tryz.call130 ?_
 refine kcall 132 [nt ((1)*(a.den/Nat.gcd a.den (1))),nt (b.den/Nat.gcd b.den ((1)*(a.den/Nat.gcd a.den (1))))] (ntimesF (lD0.mono (by omega)) ((lb.2.mono (by omega)).le (Nat.div_le_self _ _))) (by kernel_rfl) Tryz.call132 ?_
 refine kcall 32 [num c] (isZeroF (b:=true) (by simpa using hc)) (by kernel_rfl) Tryz.call32 ?_
 refine kcall 63 [bl false,nt (((1)*(a.den/Nat.gcd a.den (1)))*(b.den/Nat.gcd b.den ((1)*(a.den/Nat.gcd a.den (1))))),nt (Nat.gcd b.num.natAbs (Nat.gcd a.num.natAbs (0)))] (ratioF (lD1.mono (by omega)) (lN.mono (by omega)) hN) (by kernel_rfl) Tryz.call63 ?_
 refine kcall 65 [fra (mkRat (sg false (((1)*(a.den/Nat.gcd a.den (1)))*(b.den/Nat.gcd b.den ((1)*(a.den/Nat.gcd a.den (1)))))) (Nat.gcd b.num.natAbs (Nat.gcd a.num.natAbs (0))))] (numberF) (by kernel_rfl) Tryz.call65 ?_
 exact kret Tryz.func196 (by kernel_rfl)
theorem whole_101 (la:Lf 30 a) (lb:Lf 30 b) (lc:Lf 30 c) (ha:¬ a=0) (hb:b=0) (hc:¬ c=0):Fits Tryz.prog 196 [vc a b c] (num (wholeR a b c)):=by
 have e:wholeR a b c=mkRat (sg false (((1)*(a.den/Nat.gcd a.den (1)))*(c.den/Nat.gcd c.den ((1)*(a.den/Nat.gcd a.den (1)))))) (Nat.gcd c.num.natAbs (Nat.gcd a.num.natAbs (0))):=by
  unfold wholeR wn wd
  simp only [if_neg ha,if_pos hb,if_neg hc]
 have lN:Lv 30 (Nat.gcd c.num.natAbs (Nat.gcd a.num.natAbs (0))):=by
  have:=lv_wn (k:=30) lc (lv_wn lb (lv_wn la (n:=0) (Lv.one _ (by rw [W64_eq];omega))))
  unfold wn at this
  simpa only [if_neg ha,if_pos hb,if_neg hc] using this
 have lD0:Lv 31 ((1)*(a.den/Nat.gcd a.den (1))):=(show Lv 30 (1) from (Lv.one _ (by rw [W64_eq];omega))).mul (la.2.mono (by omega) |>.le (Nat.div_le_self _ _))
 have lD2:Lv 33 (((1)*(a.den/Nat.gcd a.den (1)))*(c.den/Nat.gcd c.den ((1)*(a.den/Nat.gcd a.den (1))))):=(show Lv 32 ((1)*(a.den/Nat.gcd a.den (1))) from lD0.mono (by omega)).mul (lc.2.mono (by omega) |>.le (Nat.div_le_self _ _))
 have hN:0<Nat.gcd c.num.natAbs (Nat.gcd a.num.natAbs (0)):=by
  have:=(show 0<wn c (wn b (wn a 0)) from wn_pos hc)
  unfold wn at this
  simpa only [if_neg ha,if_pos hb,if_neg hc] using this
 rw [e]
 refine kgo Tryz.func196 (by kernel_rfl) fun w00=>?_
 refine kcall 133 [.fv (.sc (.lit (.int .u64 ((1:Nat):Int))))] (naturalOfF (by rw [W64_eq];omega)) (by kernel_rfl) Tryz.call133 ?_
 refine kcall 32 [num a] (isZeroF (b:=false) (by simpa using ha)) (by kernel_rfl) Tryz.call32 ?_
 refine kcall 150 [num a] (numFractionF) (by kernel_rfl) Tryz.call150 ?_
 refine kcall 96 [nt a.num.natAbs,.fv (.sc (.lit (.slice none 0 0)))] (Fits.args (gcdF (b:=0) (la.1.mono (by omega)) (Lv.one _ (by rw [W64_eq];omega)) (.inl (num_ne ha))) (fun β vs w ⟨v,r,e,k1,⟨v2,r2,e2,k2,k3⟩⟩=>⟨v,r,e,k1,v2,r2,e2,nil_nt k2,k3⟩)) (by kernel_rfl) Tryz.call96 ?_
 refine kcall 96 [nt a.den,nt (1)] (gcdF (la.2.mono (by omega)) (Lv.one _ (by rw [W64_eq];omega)) (.inl a.den_pos)) (by kernel_rfl) Tryz.call96 ?_
 refine kcall 130 [nt a.den,nt (Nat.gcd a.den (1))] (ndivideF (la.2.mono (by omega)) (Nat.gcd_pos_of_pos_left _ a.den_pos)) (by kernel_rfl) Tryz.call130 ?_
 refine kcall 132 [nt (1),nt (a.den/Nat.gcd a.den (1))] (ntimesF (Lv.one _ (by rw [W64_eq];omega)) ((la.2.mono (by omega)).le (Nat.div_le_self _ _))) (by kernel_rfl) Tryz.call132 ?_
 refine kcall 32 [num b] (isZeroF (b:=true) (by simpa using hb)) (by kernel_rfl) Tryz.call32 ?_
 refine kcall 32 [num c] (isZeroF (b:=false) (by simpa using hc)) (by kernel_rfl) Tryz.call32 ?_
 refine kcall 150 [num c] (numFractionF) (by kernel_rfl) Tryz.call150 ?_
 refine kcall 96 [nt c.num.natAbs,nt (Nat.gcd a.num.natAbs (0))] (gcdF (lc.1.mono (by omega)) (Lv.mono (k:=30) (by have:=lv_wn (k:=30) lb (lv_wn la (n:=0) (Lv.one _ (by rw [W64_eq];omega)));unfold wn at this;simpa only [if_neg ha,if_pos hb] using this) (by omega)) (.inl (num_ne hc))) (by kernel_rfl) Tryz.call96 ?_
 refine kcall 96 [nt c.den,nt ((1)*(a.den/Nat.gcd a.den (1)))] (gcdF (lc.2.mono (by omega)) (lD0.mono (by omega)) (.inl c.den_pos)) (by kernel_rfl) Tryz.call96 ?_
 refine kcall 130 [nt c.den,nt (Nat.gcd c.den ((1)*(a.den/Nat.gcd a.den (1))))] (ndivideF (lc.2.mono (by omega)) (Nat.gcd_pos_of_pos_left _ c.den_pos)) (by kernel_rfl) Tryz.call130 ?_
 refine kcall 132 [nt ((1)*(a.den/Nat.gcd a.den (1))),nt (c.den/Nat.gcd c.den ((1)*(a.den/Nat.gcd a.den (1))))] (ntimesF (lD0.mono (by omega)) ((lc.2.mono (by omega)).le (Nat.div_le_self _ _))) (by kernel_rfl) Tryz.call132 ?_
 refine kcall 63 [bl false,nt (((1)*(a.den/Nat.gcd a.den (1)))*(c.den/Nat.gcd c.den ((1)*(a.den/Nat.gcd a.den (1))))),nt (Nat.gcd c.num.natAbs (Nat.gcd a.num.natAbs (0)))] (ratioF (lD2.mono (by omega)) (lN.mono (by omega)) hN) (by kernel_rfl) Tryz.call63 ?_
 refine kcall 65 [fra (mkRat (sg false (((1)*(a.den/Nat.gcd a.den (1)))*(c.den/Nat.gcd c.den ((1)*(a.den/Nat.gcd a.den (1)))))) (Nat.gcd c.num.natAbs (Nat.gcd a.num.natAbs (0))))] (numberF) (by kernel_rfl) Tryz.call65 ?_
 exact kret Tryz.func196 (by kernel_rfl)
theorem whole_100 (la:Lf 30 a) (lb:Lf 30 b) (lc:Lf 30 c) (ha:¬ a=0) (hb:b=0) (hc:c=0):Fits Tryz.prog 196 [vc a b c] (num (wholeR a b c)):=by
 have e:wholeR a b c=mkRat (sg false ((1)*(a.den/Nat.gcd a.den (1)))) (Nat.gcd a.num.natAbs (0)):=by
  unfold wholeR wn wd
  simp only [if_neg ha,if_pos hb,if_pos hc]
 have lN:Lv 30 (Nat.gcd a.num.natAbs (0)):=by
  have:=lv_wn (k:=30) lc (lv_wn lb (lv_wn la (n:=0) (Lv.one _ (by rw [W64_eq];omega))))
  unfold wn at this
  simpa only [if_neg ha,if_pos hb,if_pos hc] using this
 have lD0:Lv 31 ((1)*(a.den/Nat.gcd a.den (1))):=(show Lv 30 (1) from (Lv.one _ (by rw [W64_eq];omega))).mul (la.2.mono (by omega) |>.le (Nat.div_le_self _ _))
 have hN:0<Nat.gcd a.num.natAbs (0):=by
  have:=(show 0<wn c (wn b (wn a 0)) from wn_pos' (wn_pos' (wn_pos ha)))
  unfold wn at this
  simpa only [if_neg ha,if_pos hb,if_pos hc] using this
 rw [e]
 refine kgo Tryz.func196 (by kernel_rfl) fun w00=>?_
 refine kcall 133 [.fv (.sc (.lit (.int .u64 ((1:Nat):Int))))] (naturalOfF (by rw [W64_eq];omega)) (by kernel_rfl) Tryz.call133 ?_
 refine kcall 32 [num a] (isZeroF (b:=false) (by simpa using ha)) (by kernel_rfl) Tryz.call32 ?_
 refine kcall 150 [num a] (numFractionF) (by kernel_rfl) Tryz.call150 ?_
 refine kcall 96 [nt a.num.natAbs,.fv (.sc (.lit (.slice none 0 0)))] (Fits.args (gcdF (b:=0) (la.1.mono (by omega)) (Lv.one _ (by rw [W64_eq];omega)) (.inl (num_ne ha))) (fun β vs w ⟨v,r,e,k1,⟨v2,r2,e2,k2,k3⟩⟩=>⟨v,r,e,k1,v2,r2,e2,nil_nt k2,k3⟩)) (by kernel_rfl) Tryz.call96 ?_
 refine kcall 96 [nt a.den,nt (1)] (gcdF (la.2.mono (by omega)) (Lv.one _ (by rw [W64_eq];omega)) (.inl a.den_pos)) (by kernel_rfl) Tryz.call96 ?_
 refine kcall 130 [nt a.den,nt (Nat.gcd a.den (1))] (ndivideF (la.2.mono (by omega)) (Nat.gcd_pos_of_pos_left _ a.den_pos)) (by kernel_rfl) Tryz.call130 ?_
 refine kcall 132 [nt (1),nt (a.den/Nat.gcd a.den (1))] (ntimesF (Lv.one _ (by rw [W64_eq];omega)) ((la.2.mono (by omega)).le (Nat.div_le_self _ _))) (by kernel_rfl) Tryz.call132 ?_
 refine kcall 32 [num b] (isZeroF (b:=true) (by simpa using hb)) (by kernel_rfl) Tryz.call32 ?_
 refine kcall 32 [num c] (isZeroF (b:=true) (by simpa using hc)) (by kernel_rfl) Tryz.call32 ?_
 refine kcall 63 [bl false,nt ((1)*(a.den/Nat.gcd a.den (1))),nt (Nat.gcd a.num.natAbs (0))] (ratioF (lD0.mono (by omega)) (lN.mono (by omega)) hN) (by kernel_rfl) Tryz.call63 ?_
 refine kcall 65 [fra (mkRat (sg false ((1)*(a.den/Nat.gcd a.den (1)))) (Nat.gcd a.num.natAbs (0)))] (numberF) (by kernel_rfl) Tryz.call65 ?_
 exact kret Tryz.func196 (by kernel_rfl)
theorem whole_011 (la:Lf 30 a) (lb:Lf 30 b) (lc:Lf 30 c) (ha:a=0) (hb:¬ b=0) (hc:¬ c=0):Fits Tryz.prog 196 [vc a b c] (num (wholeR a b c)):=by
 have e:wholeR a b c=mkRat (sg false (((1)*(b.den/Nat.gcd b.den (1)))*(c.den/Nat.gcd c.den ((1)*(b.den/Nat.gcd b.den (1)))))) (Nat.gcd c.num.natAbs (Nat.gcd b.num.natAbs (0))):=by
  unfold wholeR wn wd
  simp only [if_pos ha,if_neg hb,if_neg hc]
 have lN:Lv 30 (Nat.gcd c.num.natAbs (Nat.gcd b.num.natAbs (0))):=by
  have:=lv_wn (k:=30) lc (lv_wn lb (lv_wn la (n:=0) (Lv.one _ (by rw [W64_eq];omega))))
  unfold wn at this
  simpa only [if_pos ha,if_neg hb,if_neg hc] using this
 have lD1:Lv 32 ((1)*(b.den/Nat.gcd b.den (1))):=(show Lv 31 (1) from (Lv.one _ (by rw [W64_eq];omega))).mul (lb.2.mono (by omega) |>.le (Nat.div_le_self _ _))
 have lD2:Lv 33 (((1)*(b.den/Nat.gcd b.den (1)))*(c.den/Nat.gcd c.den ((1)*(b.den/Nat.gcd b.den (1))))):=(show Lv 32 ((1)*(b.den/Nat.gcd b.den (1))) from lD1.mono (by omega)).mul (lc.2.mono (by omega) |>.le (Nat.div_le_self _ _))
 have hN:0<Nat.gcd c.num.natAbs (Nat.gcd b.num.natAbs (0)):=by
  have:=(show 0<wn c (wn b (wn a 0)) from wn_pos hc)
  unfold wn at this
  simpa only [if_pos ha,if_neg hb,if_neg hc] using this
 rw [e]
 refine kgo Tryz.func196 (by kernel_rfl) fun w00=>?_
 refine kcall 133 [.fv (.sc (.lit (.int .u64 ((1:Nat):Int))))] (naturalOfF (by rw [W64_eq];omega)) (by kernel_rfl) Tryz.call133 ?_
 refine kcall 32 [num a] (isZeroF (b:=true) (by simpa using ha)) (by kernel_rfl) Tryz.call32 ?_
 refine kcall 32 [num b] (isZeroF (b:=false) (by simpa using hb)) (by kernel_rfl) Tryz.call32 ?_
 refine kcall 150 [num b] (numFractionF) (by kernel_rfl) Tryz.call150 ?_
 refine kcall 96 [nt b.num.natAbs,.fv (.sc (.lit (.slice none 0 0)))] (Fits.args (gcdF (b:=0) (lb.1.mono (by omega)) (Lv.one _ (by rw [W64_eq];omega)) (.inl (num_ne hb))) (fun β vs w ⟨v,r,e,k1,⟨v2,r2,e2,k2,k3⟩⟩=>⟨v,r,e,k1,v2,r2,e2,nil_nt k2,k3⟩)) (by kernel_rfl) Tryz.call96 ?_
 refine kcall 96 [nt b.den,nt (1)] (gcdF (lb.2.mono (by omega)) (Lv.one _ (by rw [W64_eq];omega)) (.inl b.den_pos)) (by kernel_rfl) Tryz.call96 ?_
 refine kcall 130 [nt b.den,nt (Nat.gcd b.den (1))] (ndivideF (lb.2.mono (by omega)) (Nat.gcd_pos_of_pos_left _ b.den_pos)) (by kernel_rfl) Tryz.call130 ?_
 refine kcall 132 [nt (1),nt (b.den/Nat.gcd b.den (1))] (ntimesF (Lv.one _ (by rw [W64_eq];omega)) ((lb.2.mono (by omega)).le (Nat.div_le_self _ _))) (by kernel_rfl) Tryz.call132 ?_
 refine kcall 32 [num c] (isZeroF (b:=false) (by simpa using hc)) (by kernel_rfl) Tryz.call32 ?_
 refine kcall 150 [num c] (numFractionF) (by kernel_rfl) Tryz.call150 ?_
 refine kcall 96 [nt c.num.natAbs,nt (Nat.gcd b.num.natAbs (0))] (gcdF (lc.1.mono (by omega)) (Lv.mono (k:=30) (by have:=lv_wn (k:=30) lb (lv_wn la (n:=0) (Lv.one _ (by rw [W64_eq];omega)));unfold wn at this;simpa only [if_pos ha,if_neg hb] using this) (by omega)) (.inl (num_ne hc))) (by kernel_rfl) Tryz.call96 ?_
 refine kcall 96 [nt c.den,nt ((1)*(b.den/Nat.gcd b.den (1)))] (gcdF (lc.2.mono (by omega)) (lD1.mono (by omega)) (.inl c.den_pos)) (by kernel_rfl) Tryz.call96 ?_
 refine kcall 130 [nt c.den,nt (Nat.gcd c.den ((1)*(b.den/Nat.gcd b.den (1))))] (ndivideF (lc.2.mono (by omega)) (Nat.gcd_pos_of_pos_left _ c.den_pos)) (by kernel_rfl) Tryz.call130 ?_
 refine kcall 132 [nt ((1)*(b.den/Nat.gcd b.den (1))),nt (c.den/Nat.gcd c.den ((1)*(b.den/Nat.gcd b.den (1))))] (ntimesF (lD1.mono (by omega)) ((lc.2.mono (by omega)).le (Nat.div_le_self _ _))) (by kernel_rfl) Tryz.call132 ?_
 refine kcall 63 [bl false,nt (((1)*(b.den/Nat.gcd b.den (1)))*(c.den/Nat.gcd c.den ((1)*(b.den/Nat.gcd b.den (1))))),nt (Nat.gcd c.num.natAbs (Nat.gcd b.num.natAbs (0)))] (ratioF (lD2.mono (by omega)) (lN.mono (by omega)) hN) (by kernel_rfl) Tryz.call63 ?_
 refine kcall 65 [fra (mkRat (sg false (((1)*(b.den/Nat.gcd b.den (1)))*(c.den/Nat.gcd c.den ((1)*(b.den/Nat.gcd b.den (1)))))) (Nat.gcd c.num.natAbs (Nat.gcd b.num.natAbs (0))))] (numberF) (by kernel_rfl) Tryz.call65 ?_
 exact kret Tryz.func196 (by kernel_rfl)
theorem whole_010 (la:Lf 30 a) (lb:Lf 30 b) (lc:Lf 30 c) (ha:a=0) (hb:¬ b=0) (hc:c=0):Fits Tryz.prog 196 [vc a b c] (num (wholeR a b c)):=by
 have e:wholeR a b c=mkRat (sg false ((1)*(b.den/Nat.gcd b.den (1)))) (Nat.gcd b.num.natAbs (0)):=by
  unfold wholeR wn wd
  simp only [if_pos ha,if_neg hb,if_pos hc]
 have lN:Lv 30 (Nat.gcd b.num.natAbs (0)):=by
  have:=lv_wn (k:=30) lc (lv_wn lb (lv_wn la (n:=0) (Lv.one _ (by rw [W64_eq];omega))))
  unfold wn at this
  simpa only [if_pos ha,if_neg hb,if_pos hc] using this
 have lD1:Lv 32 ((1)*(b.den/Nat.gcd b.den (1))):=(show Lv 31 (1) from (Lv.one _ (by rw [W64_eq];omega))).mul (lb.2.mono (by omega) |>.le (Nat.div_le_self _ _))
 have hN:0<Nat.gcd b.num.natAbs (0):=by
  have:=(show 0<wn c (wn b (wn a 0)) from wn_pos' (wn_pos hb))
  unfold wn at this
  simpa only [if_pos ha,if_neg hb,if_pos hc] using this
 rw [e]
 refine kgo Tryz.func196 (by kernel_rfl) fun w00=>?_
 refine kcall 133 [.fv (.sc (.lit (.int .u64 ((1:Nat):Int))))] (naturalOfF (by rw [W64_eq];omega)) (by kernel_rfl) Tryz.call133 ?_
 refine kcall 32 [num a] (isZeroF (b:=true) (by simpa using ha)) (by kernel_rfl) Tryz.call32 ?_
 refine kcall 32 [num b] (isZeroF (b:=false) (by simpa using hb)) (by kernel_rfl) Tryz.call32 ?_
 refine kcall 150 [num b] (numFractionF) (by kernel_rfl) Tryz.call150 ?_
 refine kcall 96 [nt b.num.natAbs,.fv (.sc (.lit (.slice none 0 0)))] (Fits.args (gcdF (b:=0) (lb.1.mono (by omega)) (Lv.one _ (by rw [W64_eq];omega)) (.inl (num_ne hb))) (fun β vs w ⟨v,r,e,k1,⟨v2,r2,e2,k2,k3⟩⟩=>⟨v,r,e,k1,v2,r2,e2,nil_nt k2,k3⟩)) (by kernel_rfl) Tryz.call96 ?_
 refine kcall 96 [nt b.den,nt (1)] (gcdF (lb.2.mono (by omega)) (Lv.one _ (by rw [W64_eq];omega)) (.inl b.den_pos)) (by kernel_rfl) Tryz.call96 ?_
 refine kcall 130 [nt b.den,nt (Nat.gcd b.den (1))] (ndivideF (lb.2.mono (by omega)) (Nat.gcd_pos_of_pos_left _ b.den_pos)) (by kernel_rfl) Tryz.call130 ?_
 refine kcall 132 [nt (1),nt (b.den/Nat.gcd b.den (1))] (ntimesF (Lv.one _ (by rw [W64_eq];omega)) ((lb.2.mono (by omega)).le (Nat.div_le_self _ _))) (by kernel_rfl) Tryz.call132 ?_
 refine kcall 32 [num c] (isZeroF (b:=true) (by simpa using hc)) (by kernel_rfl) Tryz.call32 ?_
 refine kcall 63 [bl false,nt ((1)*(b.den/Nat.gcd b.den (1))),nt (Nat.gcd b.num.natAbs (0))] (ratioF (lD1.mono (by omega)) (lN.mono (by omega)) hN) (by kernel_rfl) Tryz.call63 ?_
 refine kcall 65 [fra (mkRat (sg false ((1)*(b.den/Nat.gcd b.den (1)))) (Nat.gcd b.num.natAbs (0)))] (numberF) (by kernel_rfl) Tryz.call65 ?_
 exact kret Tryz.func196 (by kernel_rfl)
theorem whole_001 (la:Lf 30 a) (lb:Lf 30 b) (lc:Lf 30 c) (ha:a=0) (hb:b=0) (hc:¬ c=0):Fits Tryz.prog 196 [vc a b c] (num (wholeR a b c)):=by
 have e:wholeR a b c=mkRat (sg false ((1)*(c.den/Nat.gcd c.den (1)))) (Nat.gcd c.num.natAbs (0)):=by
  unfold wholeR wn wd
  simp only [if_pos ha,if_pos hb,if_neg hc]
 have lN:Lv 30 (Nat.gcd c.num.natAbs (0)):=by
  have:=lv_wn (k:=30) lc (lv_wn lb (lv_wn la (n:=0) (Lv.one _ (by rw [W64_eq];omega))))
  unfold wn at this
  simpa only [if_pos ha,if_pos hb,if_neg hc] using this
 have lD2:Lv 33 ((1)*(c.den/Nat.gcd c.den (1))):=(show Lv 32 (1) from (Lv.one _ (by rw [W64_eq];omega))).mul (lc.2.mono (by omega) |>.le (Nat.div_le_self _ _))
 have hN:0<Nat.gcd c.num.natAbs (0):=by
  have:=(show 0<wn c (wn b (wn a 0)) from wn_pos hc)
  unfold wn at this
  simpa only [if_pos ha,if_pos hb,if_neg hc] using this
 rw [e]
 refine kgo Tryz.func196 (by kernel_rfl) fun w00=>?_
 refine kcall 133 [.fv (.sc (.lit (.int .u64 ((1:Nat):Int))))] (naturalOfF (by rw [W64_eq];omega)) (by kernel_rfl) Tryz.call133 ?_
 refine kcall 32 [num a] (isZeroF (b:=true) (by simpa using ha)) (by kernel_rfl) Tryz.call32 ?_
 refine kcall 32 [num b] (isZeroF (b:=true) (by simpa using hb)) (by kernel_rfl) Tryz.call32 ?_
 refine kcall 32 [num c] (isZeroF (b:=false) (by simpa using hc)) (by kernel_rfl) Tryz.call32 ?_
 refine kcall 150 [num c] (numFractionF) (by kernel_rfl) Tryz.call150 ?_
 refine kcall 96 [nt c.num.natAbs,.fv (.sc (.lit (.slice none 0 0)))] (Fits.args (gcdF (b:=0) (lc.1.mono (by omega)) (Lv.one _ (by rw [W64_eq];omega)) (.inl (num_ne hc))) (fun β vs w ⟨v,r,e,k1,⟨v2,r2,e2,k2,k3⟩⟩=>⟨v,r,e,k1,v2,r2,e2,nil_nt k2,k3⟩)) (by kernel_rfl) Tryz.call96 ?_
 refine kcall 96 [nt c.den,nt (1)] (gcdF (lc.2.mono (by omega)) (Lv.one _ (by rw [W64_eq];omega)) (.inl c.den_pos)) (by kernel_rfl) Tryz.call96 ?_
 refine kcall 130 [nt c.den,nt (Nat.gcd c.den (1))] (ndivideF (lc.2.mono (by omega)) (Nat.gcd_pos_of_pos_left _ c.den_pos)) (by kernel_rfl) Tryz.call130 ?_
 refine kcall 132 [nt (1),nt (c.den/Nat.gcd c.den (1))] (ntimesF (Lv.one _ (by rw [W64_eq];omega)) ((lc.2.mono (by omega)).le (Nat.div_le_self _ _))) (by kernel_rfl) Tryz.call132 ?_
 refine kcall 63 [bl false,nt ((1)*(c.den/Nat.gcd c.den (1))),nt (Nat.gcd c.num.natAbs (0))] (ratioF (lD2.mono (by omega)) (lN.mono (by omega)) hN) (by kernel_rfl) Tryz.call63 ?_
 refine kcall 65 [fra (mkRat (sg false ((1)*(c.den/Nat.gcd c.den (1)))) (Nat.gcd c.num.natAbs (0)))] (numberF) (by kernel_rfl) Tryz.call65 ?_
 exact kret Tryz.func196 (by kernel_rfl)
theorem wholeF (la:Lf 30 a) (lb:Lf 30 b) (lc:Lf 30 c) (h:¬ (a=0∧b=0∧c=0)):Fits Tryz.prog 196 [vc a b c] (num (wholeR a b c)):=by
 by_cases ha:a=0 <;> by_cases hb:b=0 <;> by_cases hc:c=0
 ·exact absurd ⟨ha,hb,hc⟩ h
 ·exact whole_001 la lb lc ha hb hc
 ·exact whole_010 la lb lc ha hb hc
 ·exact whole_011 la lb lc ha hb hc
 ·exact whole_100 la lb lc ha hb hc
 ·exact whole_101 la lb lc ha hb hc
 ·exact whole_110 la lb lc ha hb hc
 ·exact whole_111 la lb lc ha hb hc
end
section
variable {n1 n2 n3 d k:Rat} {z1 z2 z3:Int}
theorem mkRat_le (n:Int) {d:Nat} (hd:0<d):(mkRat n d).num.natAbs≤n.natAbs∧(mkRat n d).den≤d:=by
 rw [Rat.num_mkRat,Rat.den_mkRat,if_neg (by omega),if_neg (by omega)]
 exact ⟨Int.natAbs_ediv_le_natAbs _ _,Nat.div_le_self _ _⟩
theorem lf_whole {a b c:Rat} (la:Lf 30 a) (lb:Lf 30 b) (lc:Lf 30 c) (h:¬ (a=0∧b=0∧c=0)):Lf 33 (wholeR a b c):=by
 have hN:0<wn c (wn b (wn a 0)):=by
  by_cases ha:a=0
  ·by_cases hb:b=0
   ·exact wn_pos (fun hc=>h ⟨ha,hb,hc⟩)
   ·exact wn_pos' (wn_pos hb)
  ·exact wn_pos' (wn_pos' (wn_pos ha))
 have l1:Lv 33 (wd c (wd b (wd a 1))):=lv_wd (lc.mono (by decide)) (lv_wd (lb.mono (by decide)) (lv_wd (k:=30) la (Lv.one _ (by rw [W64_eq];omega))))
 have l2:Lv 33 (wn c (wn b (wn a 0))):=(lv_wn lc (lv_wn lb (lv_wn la (n:=0) (Lv.one _ (by rw [W64_eq];omega))))).mono (by omega)
 have hm:=mkRat_le (sg false (wd c (wd b (wd a 1)))) hN
 have e:(sg false (wd c (wd b (wd a 1)))).natAbs=wd c (wd b (wd a 1)):=by simp [sg]
 rw [e] at hm
 exact ⟨l1.le hm.1,l2.le hm.2⟩
theorem reducedF (l1:Lf 30 n1) (l2:Lf 30 n2) (l3:Lf 30 n3) (ld:Lf 38 d) (h:¬ (n1=0∧n2=0∧n3=0)) :
 Fits Tryz.prog 143 [hf n1 n2 n3 d] (hf (wholeR n1 n2 n3*n1) (wholeR n1 n2 n3*n2) (wholeR n1 n2 n3*n3) (d*wholeR n1 n2 n3)):=by
 have lk:=(lf_whole l1 l2 l3 h).mono (l:=38) (by decide)
 refine kgo Tryz.func143 (by kernel_rfl) fun w00=>?_
 refine kcall 196 [vc n1 n2 n3] (wholeF l1 l2 l3 h) (by kernel_rfl) Tryz.call196 ?_
 refine kcall 80 [vc n1 n2 n3,num (wholeR n1 n2 n3)] (scaledF lk (l1.mono (by decide)) (l2.mono (by decide)) (l3.mono (by decide))) (by kernel_rfl) Tryz.call80 ?_
 refine kcall 98 [num d,num (wholeR n1 n2 n3)] (timesF ld lk) (by kernel_rfl) Tryz.call98 ?_
 exact kret Tryz.func143 (by kernel_rfl)
abbrev hfI (z1 z2 z3:Int) (d:Rat):AV Kn := .fv (.ag [.lit (.int .i64 z1),z0,.lit (.pointer none),.lit (.int .i64 z2),z0,.lit (.pointer none),.lit (.int .i64 z3),z0,.lit (.pointer none),nb d])
abbrev Sz (z:Int):Prop := -999999999≤z∧z≤999999999
theorem nb_int {z:Int} (hz:Sz z) {cs:List Value} {w:World} (h:(csNb (z:Rat)).pred cs w):cs = [.int .i64 z,.int .i64 0,.pointer none]:=by
 have hm:Sm (z:Rat):=by
  constructor
  ·rw [Rat.num_intCast,M63_eq];omega
  ·rw [Rat.den_intCast,M63_eq];omega
 rcases h with ⟨_,e⟩|⟨h2,_⟩
 ·injection e with e
  have:=congrArg Array.toList e
  simpa using this
 ·exact absurd hm h2
theorem hf_int {β:List Nat} {v:Value} {w:World} {q1 q2 q3:Rat} (e1:q1=z1) (e2:q2=z2) (e3:q3=z3) (h1:Sz z1) (h2:Sz z2) (h3:Sz z3) (h:(hf q1 q2 q3 d).holds β v w):(hfI z1 z2 z3 d).holds β v w:=by
 subst e1
 subst e2
 subst e3
 obtain ⟨cs,rfl,x1,r1,rfl,k1,x2,r2,rfl,k2,x3,r3,rfl,k3,hr⟩:=h
 rw [nb_int h1 k1,nb_int h2 k2,nb_int h3 k3]
 exact ⟨_,rfl,[_],_,rfl,⟨rfl,rfl⟩,[_],_,rfl,⟨rfl,rfl⟩,[_],_,rfl,⟨rfl,rfl⟩,[_],_,rfl,⟨rfl,rfl⟩,[_],_,rfl,⟨rfl,rfl⟩,[_],_,rfl,⟨rfl,rfl⟩,[_],_,rfl,⟨rfl,rfl⟩,[_],_,rfl,⟨rfl,rfl⟩,[_],_,rfl,⟨rfl,rfl⟩,hr⟩
theorem Fits.res {P:Program} {f:FuncId} {l:List (AV Kn)} {x y:AV Kn} (h:Fits P f l x) (hx:∀ β v w,x.holds β v w→y.holds β v w):Fits P f l y:=fun β w vs hv =>
 (h β w vs hv).mono fun e w' ⟨v,e1,e2,e3⟩=>⟨v,e1,e2,hx β v w' e3⟩
theorem magnitudeF {z:Int} (hz:Sz z):Fits Tryz.prog 144 [it z] (.fv (.sc (isU (z.natAbs:Int)))):=by
 intro β w vs hv
 obtain ⟨v,rfl,h1⟩:=args1 hv
 rw [hold_lit h1]
 exact (magnitude_any z w (by have:=hz.1;omega) (by have:=hz.2;omega)).mono fun e w' ⟨e1,e2⟩=>⟨_,e1,by rw [← e2];exact Below.refl _ _,is_hold⟩
theorem gtU_run {o:Oper} {ρ:Operand→Value} {w:World} {x y:Operand} {a b:Int} {r:Bool} {T T' : TypeId} (ho:o.op = .binOp .gtr T x y T') (hx:ρ x = .int .u64 a) (hy:ρ y = .int .u64 b) (h:decide (b<a)=r) :
 (execOp ρ o).run Tryz.prog w = .ok (.value (.bool r)) w:=by
 simp only [execOp,ho,hx,hy]
 refine run_v ?_
 rw [← h]
 exact evalP_run (by kernel_rfl) w
section
variable {f:FuncId} {w00:World} {Out:Value→World→Prop}
theorem kgtU {c:Cfg Kn} (t:Tmp) (a b:Int) (r:Bool) (h:decide (b<a)=r) (hc:(c.op.map fun o=>o.op,c.okT (bl r),c.ev (.tmp t),c.ev (.const (.int .u64 b)))=(some (.binOp .gtr 175 (.tmp t) (.const (.int .u64 b)) 175),true,.fv (.sc (isU a)),.fv (.sc (.lit (.int .u64 b)))))
 (hg:Ok Tryz.prog f w00 Out (runA Tryz.prog 1000 (c.give (bl r)))):Ok Tryz.prog f w00 Out c :=
 kop2 _ (.tmp t) (.const (.int .u64 b)) _ _ (bl r) hc (by simp [Op.operands]) (by simp [Op.operands]) (fun ρ o β w ho hx hy=>⟨_,gtU_run ho (hold_is hx) (hold_lit hy) h,lit_hold rfl⟩) hg
end
abbrev hS (z1 z2 z3:Int) (d:Rat):AV Kn := .fv (.ag [.lit (.int .i64 z1),.lit (.int .i64 z2),.lit (.int .i64 z3),isS (writeB d)])
abbrev okH (z1 z2 z3:Int) (d:Rat):AV Kn := .tup [.ag [.lit (.int .i64 z1),.lit (.int .i64 z2),.lit (.int .i64 z3),isS (writeB d)],.sc z0]
structure Form (n1 n2 n3 d:Rat) (z1 z2 z3:Int) (e:Rat):Prop where
 l1:Lf 30 n1
 l2:Lf 30 n2
 l3:Lf 30 n3
 ld:Lf 38 d
 h0:¬ (n1=0∧n2=0∧n3=0)
 e1:wholeR n1 n2 n3*n1=z1
 e2:wholeR n1 n2 n3*n2=z2
 e3:wholeR n1 n2 n3*n3=z3
 ed:d*wholeR n1 n2 n3=e
 s1:Sz z1
 s2:Sz z2
 s3:Sz z3
 wr:Wr e
theorem hWriteF {e:Rat} (h:Form n1 n2 n3 d z1 z2 z3 e):FitsW Tryz.prog Gl 73 [hf n1 n2 n3 d] (okH z1 z2 z3 e):=by
 have g:∀ {z:Int},Sz z→decide ((999999999:Int)<(z.natAbs:Int))=false:=fun hz=>by have:=hz.1;have:=hz.2;rw [decide_eq_false_iff_not];omega
 have gr:Fits Tryz.prog 143 [hf n1 n2 n3 d] (hfI z1 z2 z3 e):=Fits.res (reducedF h.l1 h.l2 h.l3 h.ld h.h0) (fun β v w hv=>hf_int h.e1 h.e2 h.e3 h.s1 h.s2 h.s3 (by rw [h.ed] at hv;exact hv))
 refine kgoW Tryz.func73 (by kernel_rfl) fun w00 hG=>?_;have hI:=keepGl hG
 refine kcall 143 [hf n1 n2 n3 d] (gr) (by kernel_rfl) Tryz.call143 ?_
 refine kcallW hI 66 [num e] (writeF (h.wr.lf.mono (by decide)) h.wr.n h.wr.d) (by kernel_rfl) Tryz.call66 ?_
 refine kcall 144 [it z1] (magnitudeF h.s1) (by kernel_rfl) Tryz.call144 ?_
 refine kgtU 34 z1.natAbs 999999999 false (g h.s1) (by kernel_rfl) ?_
 refine kcall 144 [it z2] (magnitudeF h.s2) (by kernel_rfl) Tryz.call144 ?_
 refine kgtU 34 z2.natAbs 999999999 false (g h.s2) (by kernel_rfl) ?_
 refine kcall 144 [it z3] (magnitudeF h.s3) (by kernel_rfl) Tryz.call144 ?_
 refine kgtU 34 z3.natAbs 999999999 false (g h.s3) (by kernel_rfl) ?_
 exact kret Tryz.func73 (by kernel_rfl)
theorem readHalfF (h1:M64 z1) (h2:M64 z2) (h3:M64 z3) (hd:Wr d) (hc:Fits Tryz.prog 145 [iv z1 z2 z3] (it 0)):FitsW Tryz.prog Gl 77 [hS z1 z2 z3 d] (.tup [.ag [nb z1,nb z2,nb z3,nb d],.sc z0]):=by
 refine kgoW Tryz.func77 (by kernel_rfl) fun w00 hG=>?_;have hI:=keepGl hG
 refine kcallW hI 30 [tx (writeB d)] (readF hd) (by kernel_rfl) Tryz.call30 ?_
 refine kcall 36 [iv z1 z2 z3] (integersF h1 h2 h3) (by kernel_rfl) Tryz.call36 ?_
 refine kcall 145 [iv z1 z2 z3] (hc) (by kernel_rfl) Tryz.call145 ?_
 refine kcall 74 [.fv (.nsl 2 33 [z0,z0])] (first2F) (by kernel_rfl) Tryz.call74 ?_
 exact kret Tryz.func77 (by kernel_rfl)
end
end Go.Proofs.YtbhcckhbbclemaaGreatDoor.Ab
