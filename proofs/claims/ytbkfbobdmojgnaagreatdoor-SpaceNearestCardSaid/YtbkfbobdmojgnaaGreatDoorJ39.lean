/- Parts of the proof, joined. -/
import Derived.Test.YtbkfbobdmojgnaaGreatDoorJ35
import Derived.Test.YtbkfbobdmojgnaaGreatDoorJ36
import Derived.Test.YtbkfbobdmojgnaaGreatDoorJ38
import Derived.WalkKit
import Derived.ProofKit
import Derived.OpenShut
import Derived.Deep.DeepHandedRow
import Derived.Deep.DeepWitnessRowRef
import Derived.Lib.LaidTab
import Derived.Stop.LaidErr
import Derived.Shelf.Vars
import Derived.Lay
set_option linter.unusedSimpArgs false
set_option linter.unusedVariables false
namespace Go.Proofs.YtbkfbobdmojgnaaGreatDoor.Ab
open Go.RowKit Go.Proofs.YtbkfbobdmojgnaaGreatDoor Pl
theorem kretI {f:FuncId} {w00:World} {c:Cfg Kn} {fn:Func} {z:Int} (hfn:Tryz.prog.funcs[f]?=some fn) (hc:c.res Tryz.prog fn=some (it z)):Ok Tryz.prog f w00 (fun v w=>(AV.fv (.sc (isI z)):AV Kn).holds [] v w) c :=
 ⟨good_ret hfn (it z) hc fun _ _ _ h=>h.1⟩
abbrev hA (a b c:Int) (s:ByteArray):AV Kn := .fv (.ag [isI a,isI b,isI c,isS s])
abbrev hL (a b c:Int) (s:ByteArray):AV Kn := .fv (.ag [.lit (.int .i64 a),.lit (.int .i64 b),.lit (.int .i64 c),isS s])
theorem hL_A {a b c:Int} {s:ByteArray} (β:List Nat) (v:Value) (w:World) (h:(hL a b c s).holds β v w):(hA a b c s).holds β v w:=by
 obtain ⟨cs,e,x1,r1,e1,h1,x2,r2,e2,h2,x3,r3,e3,h3,hr⟩:=h
 exact ⟨cs,e,x1,r1,e1,h1.1,x2,r2,e2,h2.1,x3,r3,e3,h3.1,hr⟩
theorem iv_i3 {a b c:Int} (β:List Nat) (v:Value) (w:World) (h:(iv a b c).holds β v w):(i3 a b c).holds β v w:=by
 obtain ⟨cs,e,x1,r1,e1,h1,x2,r2,e2,h2,x3,r3,e3,h3,hr⟩:=h
 exact ⟨cs,e,x1,r1,e1,h1.1,x2,r2,e2,h2.1,x3,r3,e3,h3.1,hr⟩
abbrev Bg (z:Int):Prop:=z < -999999999∨999999999<z
def hkZ (a b c k:Int):Int:=if a=0∧b=0∧c=0 then 6 else if Bg a∨Bg b∨Bg c then 3 else if Int.gcd (Int.gcd a b:Int) c≠1 then 1 else k
section
variable {a b c:Int} {s:ByteArray}
theorem checkHalfF {k z:Int} (hk:Fits Tryz.prog 16 [tx s] (.fv (.sc (isI k)))) (hz:hkZ a b c k=z):Fits Tryz.prog 25 [hA a b c s] (.fv (.sc (isI z))):=by
 unfold hkZ at hz
 refine kgo Tryz.func25 (by kernel_rfl) fun w00=>?_
 by_cases h0:a=0∧b=0∧c=0
 ·obtain rfl:z=6:=by rw [← hz,if_pos h0]
  refine kz3 (.tmp 5) (.tmp 6) a b c true (by simp [h0]) ?_
  exact kretI Tryz.func25 (by kernel_rfl)
 rw [if_neg h0] at hz
 refine kz3 (.tmp 5) (.tmp 6) a b c false (by rw [Bool.eq_false_iff];simp;omega) ?_
 have e3:∀ {x:Int},x=a∨x=b∨x=c→Bg x→z=3:=fun hx h=>by
  rw [← hz,if_pos (by rcases hx with rfl|rfl|rfl <;> simp only [h,true_or,or_true])]
 by_cases a1:a < -999999999
 ·obtain rfl:=e3 (.inl rfl) (.inl a1)
  refine klt (.tmp 15) (.const (.int .i64 (-999999999))) a _ true _ lit_int (decide_eq_true a1) ?_
  exact kretI Tryz.func25 (by kernel_rfl)
 refine klt (.tmp 15) (.const (.int .i64 (-999999999))) a _ false _ lit_int (decide_eq_false a1) ?_
 by_cases a2:999999999<a
 ·obtain rfl:=e3 (.inl rfl) (.inr a2)
  refine kgg (.tmp 21) (.const (.int .i64 999999999)) a _ true _ lit_int (decide_eq_true a2) ?_
  exact kretI Tryz.func25 (by kernel_rfl)
 refine kgg (.tmp 21) (.const (.int .i64 999999999)) a _ false _ lit_int (decide_eq_false a2) ?_
 by_cases b1:b < -999999999
 ·obtain rfl:=e3 (.inr (.inl rfl)) (.inl b1)
  refine klt (.tmp 15) (.const (.int .i64 (-999999999))) b _ true _ lit_int (decide_eq_true b1) ?_
  exact kretI Tryz.func25 (by kernel_rfl)
 refine klt (.tmp 15) (.const (.int .i64 (-999999999))) b _ false _ lit_int (decide_eq_false b1) ?_
 by_cases b2:999999999<b
 ·obtain rfl:=e3 (.inr (.inl rfl)) (.inr b2)
  refine kgg (.tmp 21) (.const (.int .i64 999999999)) b _ true _ lit_int (decide_eq_true b2) ?_
  exact kretI Tryz.func25 (by kernel_rfl)
 refine kgg (.tmp 21) (.const (.int .i64 999999999)) b _ false _ lit_int (decide_eq_false b2) ?_
 by_cases c1:c < -999999999
 ·obtain rfl:=e3 (.inr (.inr rfl)) (.inl c1)
  refine klt (.tmp 15) (.const (.int .i64 (-999999999))) c _ true _ lit_int (decide_eq_true c1) ?_
  exact kretI Tryz.func25 (by kernel_rfl)
 refine klt (.tmp 15) (.const (.int .i64 (-999999999))) c _ false _ lit_int (decide_eq_false c1) ?_
 by_cases c2:999999999<c
 ·obtain rfl:=e3 (.inr (.inr rfl)) (.inr c2)
  refine kgg (.tmp 21) (.const (.int .i64 999999999)) c _ true _ lit_int (decide_eq_true c2) ?_
  exact kretI Tryz.func25 (by kernel_rfl)
 refine kgg (.tmp 21) (.const (.int .i64 999999999)) c _ false _ lit_int (decide_eq_false c2) ?_
 rw [if_neg (by unfold Bg;omega)] at hz
 have hg:=intGcdF (a:=a) (b:=b) (by omega) (by omega)
 have hs:=size_gcd (a:=a) (b:=b) (by omega) (by omega)
 have hg2:=intGcdF (a:=(Int.gcd a b:Int)) (b:=c) hs (by omega)
 clear e3 hs
 generalize (Int.gcd a b:Int)=g at *
 generalize Int.gcd g c=g2 at *
 refine kcall 84 [.fv (.sc (isI a)),.fv (.sc (isI b))] (hg) (by kernel_rfl) Tryz.call84 ?_
 refine kcall 84 [.fv (.sc (isI g)),.fv (.sc (isI c))] (hg2) (by kernel_rfl) Tryz.call84 ?_
 by_cases g1:g2=1
 ·rw [if_neg (by omega)] at hz
  subst hz
  refine kne (.tmp 34) (.const (.int .i64 1)) (g2:Int) 1 false _ lit_int (by rw [g1];rfl) ?_
  refine kcall 16 [tx s] (hk) (by kernel_rfl) Tryz.call16 ?_
  exact kret Tryz.func25 (by kernel_rfl)
 ·obtain rfl:z=1:=by rw [← hz,if_pos g1]
  refine kne (.tmp 34) (.const (.int .i64 1)) (g2:Int) 1 true _ lit_int (by simp;omega) ?_
  exact kretI Tryz.func25 (by kernel_rfl)
theorem checkNormalF (h0:¬ (a=0∧b=0∧c=0)) (ha:¬ Bg a) (hb:¬ Bg b) (hc:¬ Bg c) (hg:Int.gcd (Int.gcd a b:Int) c=1):Fits Tryz.prog 156 [iv a b c] (it 0):=by
 have w:∀ {x:Int},¬ Bg x→x.natAbs<W64:=fun h=>by unfold Bg at h;rw [W64_eq];omega
 have g1:=gcdWordsF (a:=0) (b:=a.natAbs) (by rw [W64_eq];omega) (w ha)
 have l1:Nat.gcd 0 a.natAbs<W64:=by rw [Nat.gcd_zero_left];exact w ha
 have g2:=gcdWordsF l1 (w hb)
 have l2:Nat.gcd (Nat.gcd 0 a.natAbs) b.natAbs<W64:=by
  rw [Nat.gcd_zero_left]
  by_cases e:a=0
  ·rw [e];simpa using w hb
  ·exact Nat.lt_of_le_of_lt (Nat.gcd_le_left _ (by omega)) (w ha)
 have g3:=gcdWordsF l2 (w hc)
 have e3:Nat.gcd (Nat.gcd (Nat.gcd 0 a.natAbs) b.natAbs) c.natAbs=1:=by
  rw [Nat.gcd_zero_left]
  exact hg
 rw [e3] at g3
 generalize Nat.gcd (Nat.gcd 0 a.natAbs) b.natAbs=x2 at *
 generalize Nat.gcd 0 a.natAbs=x1 at *
 unfold Bg at ha hb hc
 refine Fits.args (l := [i3 a b c]) ?_ fun β vs w ⟨v,r,e,h,hr⟩=>⟨v,r,e,iv_i3 β v w h,hr⟩
 refine kgo Tryz.func156 (by kernel_rfl) fun w00=>?_
 refine kz3 (.tmp 6) (.tmp 7) a b c false (by rw [Bool.eq_false_iff];simp;omega) ?_
 refine klt (.tmp 13) (.const (.int .i64 (-999999999))) a (-999999999) false _ lit_int (by rw [decide_eq_false_iff_not];omega) ?_
 refine kgg (.tmp 16) (.const (.int .i64 999999999)) a 999999999 false _ lit_int (by rw [decide_eq_false_iff_not];omega) ?_
 refine kneg 21 a (by constructor <;> omega) (by constructor <;> omega) ?_
 refine kabs 20 22 a ?_
 refine kcvu 23 a.natAbs (by omega) ?_
 refine kcall 200 [.fv (.sc (.lit (.int .u64 ((0:Nat):Int)))),.fv (.sc (.lit (.int .u64 (a.natAbs:Int))))] (g1) (by kernel_rfl) Tryz.call200 ?_
 refine klt (.tmp 13) (.const (.int .i64 (-999999999))) b (-999999999) false _ lit_int (by rw [decide_eq_false_iff_not];omega) ?_
 refine kgg (.tmp 16) (.const (.int .i64 999999999)) b 999999999 false _ lit_int (by rw [decide_eq_false_iff_not];omega) ?_
 refine kneg 21 b (by constructor <;> omega) (by constructor <;> omega) ?_
 refine kabs 20 22 b ?_
 refine kcvu 23 b.natAbs (by omega) ?_
 refine kcall 200 [.fv (.sc (.lit (.int .u64 (x1:Int)))),.fv (.sc (.lit (.int .u64 (b.natAbs:Int))))] (g2) (by kernel_rfl) Tryz.call200 ?_
 refine klt (.tmp 13) (.const (.int .i64 (-999999999))) c (-999999999) false _ lit_int (by rw [decide_eq_false_iff_not];omega) ?_
 refine kgg (.tmp 16) (.const (.int .i64 999999999)) c 999999999 false _ lit_int (by rw [decide_eq_false_iff_not];omega) ?_
 refine kneg 21 c (by constructor <;> omega) (by constructor <;> omega) ?_
 refine kabs 20 22 c ?_
 refine kcvu 23 c.natAbs (by omega) ?_
 refine kcall 200 [.fv (.sc (.lit (.int .u64 (x2:Int)))),.fv (.sc (.lit (.int .u64 (c.natAbs:Int))))] (g3) (by kernel_rfl) Tryz.call200 ?_
 exact kret Tryz.func156 (by kernel_rfl)
end
def Bq (k:Nat) (q:Rat):Prop:=q.num.natAbs<10^k∧q.den<10^k
theorem Bq.mono {k l:Nat} {q:Rat} (h:Bq k q) (hk:k≤l):Bq l q :=
 ⟨Nat.lt_of_lt_of_le h.1 (Nat.pow_le_pow_right (by omega) hk),Nat.lt_of_lt_of_le h.2 (Nat.pow_le_pow_right (by omega) hk)⟩
theorem Bq.mul {j k:Nat} {p q:Rat} (hp:Bq j p) (hq:Bq k q):Bq (j+k) (p*q):=by
 rw [Rat.mul_def']
 obtain ⟨h1,h2⟩:=mkRat_num_le (p.num*q.num) (Nat.ne_of_gt (Nat.mul_pos p.den_pos q.den_pos))
 rw [Int.natAbs_mul] at h1
 refine ⟨Nat.lt_of_le_of_lt h1 ?_,Nat.lt_of_le_of_lt h2 ?_⟩
 ·rw [Nat.pow_add];exact Nat.mul_lt_mul'' hp.1 hq.1
 ·rw [Nat.pow_add];exact Nat.mul_lt_mul'' hp.2 hq.2
theorem Bq.add {j k:Nat} {p q:Rat} (hp:Bq j p) (hq:Bq k q):Bq (j+k+1) (p+q):=by
 rw [Rat.add_def']
 obtain ⟨h1,h2⟩:=mkRat_num_le (p.num*q.den+q.num*p.den) (Nat.ne_of_gt (Nat.mul_pos p.den_pos q.den_pos))
 have a1:p.num.natAbs*q.den<10^(j+k):=by rw [Nat.pow_add];exact Nat.mul_lt_mul'' hp.1 hq.2
 have a2:q.num.natAbs*p.den<10^(j+k):=by rw [Nat.pow_add,Nat.mul_comm];exact Nat.mul_lt_mul'' hp.2 hq.1
 have a3:p.den*q.den<10^(j+k):=by rw [Nat.pow_add];exact Nat.mul_lt_mul'' hp.2 hq.2
 have a4:10^(j+k+1)=10^(j+k)*10:=Nat.pow_succ _ _
 have a5:=Int.natAbs_add_le (p.num*q.den) (q.num*p.den)
 rw [Int.natAbs_mul,Int.natAbs_mul,Int.natAbs_natCast,Int.natAbs_natCast] at a5
 exact ⟨by omega,by omega⟩
theorem Bq.neg {k:Nat} {p:Rat} (hp:Bq k p):Bq k (-p):=by
 refine ⟨?_,hp.2⟩
 rw [Rat.neg_num,Int.natAbs_neg];exact hp.1
theorem Bq.sub {j k:Nat} {p q:Rat} (hp:Bq j p) (hq:Bq k q):Bq (j+k+1) (p-q):=by
 rw [Rat.sub_eq_add_neg]
 exact hp.add hq.neg
theorem Bq.inv {k:Nat} {p:Rat} (hp:Bq k p):Bq k p⁻¹:=by
 by_cases h0:p=0
 ·subst h0;rw [Rat.inv_zero];exact hp
 ·obtain ⟨_,e1,e2⟩:=Parts.inv (Parts.self p) h0
  exact ⟨by rw [← e1];exact hp.2,by rw [← e2];exact hp.1⟩
theorem Bq.div {j k:Nat} {p q:Rat} (hp:Bq j p) (hq:Bq k q):Bq (j+k) (p/q):=by
 rw [Rat.div_def]
 exact hp.mul hq.inv
theorem Bq.dt {k l n:Nat} {a b c x y z:Rat} (h1:Bq k a) (h2:Bq k b) (h3:Bq k c) (g1:Bq l x) (g2:Bq l y) (g3:Bq l z) (hn:3*(k+l)+2≤n):Bq n (dt a b c x y z) :=
 (((h1.mul g1).add (h2.mul g2)).add (h3.mul g3)).mono (by omega)
theorem Bq.wr {k:Nat} {q:Rat} (h:Bq k q) (hk:k≤600):Wr q:=by
 have h':=h.mono (l:=599+1) hk
 exact ⟨decB_size h'.1,decB_size h'.2⟩
theorem Bq.zs {k:Nat} {q:Rat} (h:Bq k q) (hk:k≤10000):Zs 10000 q:=by
 have h':=h.mono (l:=10000+1) (by omega)
 exact h'
theorem bq_of {k:Nat} {q:Rat} (h:Fw k q):Bq k q:=⟨dec_lt h.1,dec_lt h.2⟩
theorem sq_nonneg (x:Rat):0≤x*x:=by
 rcases Rat.le_total (a:=0) (b:=x) with h|h
 ·exact Rat.mul_nonneg h h
 ·have h' : 0≤-x:=by grind
  have:=Rat.mul_nonneg h' h'
  grind
theorem sum_sq {x y z:Rat} (h:dt x y z x y z=0):x=0∧y=0∧z=0:=by
 have h1:=sq_nonneg x
 have h2:=sq_nonneg y
 have h3:=sq_nonneg z
 have a1:x*x=0:=by grind
 have a2:y*y=0:=by grind
 have a3:z*z=0:=by grind
 exact ⟨by grind,by grind,by grind⟩
section
variable {a b c:Int} {s:ByteArray}
theorem lit_isS {f:FuncId} {args:List (AV Kn)} {x:FV Kn} {z:Int} (h:FitsW Tryz.prog Gl f args (.tup [.sc (.lit (.int .i64 z)),x])):FitsW Tryz.prog Gl f args (.tup [.sc (isI z),x]) :=
 h.res fun _ _ _ ⟨vs,e,v,r,e1,h1,h2⟩=>⟨vs,e,v,r,e1,h1.1,h2⟩
abbrev In (k x:Int):Prop := -k≤x∧x≤k
theorem fewHalfF {z:Int} {q r:Bool} (hk:Fits Tryz.prog 25 [hA a b c s] (.fv (.sc (isI z)))) (hf:Fits Tryz.prog 10 [tx s,it 6] (bl q)) (hr:(decide (z=0)&&q&&decide (In 1000 a)&&decide (In 1000 b)&&decide (In 1000 c))=r) :
 Fits Tryz.prog 29 [hL a b c s,it 1000,it 6] (bl r):=by
 refine Fits.args (l := [hA a b c s,it 1000,it 6]) ?_ fun β vs w ⟨v,r,e,h,hr⟩=>⟨v,r,e,hL_A β v w h,hr⟩
 refine kgo Tryz.func29 (by kernel_rfl) fun w00=>?_
 refine kcall 25 [hA a b c s] (hk) (by kernel_rfl) Tryz.call25 ?_
 by_cases hz:z=0
 ·refine kne (.tmp 9) (.const (.int .i64 0)) z 0 false _ lit_int (by simp [hz]) ?_
  cases q
  ·obtain rfl:r=false:=by rw [← hr];simp
   refine kcall 10 [tx s,it 6] (hf) (by kernel_rfl) Tryz.call10 ?_
   exact kret Tryz.func29 (by kernel_rfl)
  refine kcall 10 [tx s,it 6] (hf) (by kernel_rfl) Tryz.call10 ?_
  by_cases a1:a < -1000
  ·obtain rfl:r=false:=by rw [← hr];simp;omega
   refine klt (.tmp 25) (.tmp 27) a (-1000) true _ lit_int (decide_eq_true a1) ?_
   exact kret Tryz.func29 (by kernel_rfl)
  refine klt (.tmp 25) (.tmp 27) a (-1000) false _ lit_int (decide_eq_false a1) ?_
  by_cases a2:1000<a
  ·obtain rfl:r=false:=by rw [← hr];simp;omega
   refine kgg (.tmp 33) (.tmp 34) a 1000 true _ lit_int (decide_eq_true a2) ?_
   exact kret Tryz.func29 (by kernel_rfl)
  refine kgg (.tmp 33) (.tmp 34) a 1000 false _ lit_int (decide_eq_false a2) ?_
  by_cases b1:b < -1000
  ·obtain rfl:r=false:=by rw [← hr];simp;omega
   refine klt (.tmp 25) (.tmp 27) b (-1000) true _ lit_int (decide_eq_true b1) ?_
   exact kret Tryz.func29 (by kernel_rfl)
  refine klt (.tmp 25) (.tmp 27) b (-1000) false _ lit_int (decide_eq_false b1) ?_
  by_cases b2:1000<b
  ·obtain rfl:r=false:=by rw [← hr];simp;omega
   refine kgg (.tmp 33) (.tmp 34) b 1000 true _ lit_int (decide_eq_true b2) ?_
   exact kret Tryz.func29 (by kernel_rfl)
  refine kgg (.tmp 33) (.tmp 34) b 1000 false _ lit_int (decide_eq_false b2) ?_
  by_cases c1:c < -1000
  ·obtain rfl:r=false:=by rw [← hr];simp;omega
   refine klt (.tmp 25) (.tmp 27) c (-1000) true _ lit_int (decide_eq_true c1) ?_
   exact kret Tryz.func29 (by kernel_rfl)
  refine klt (.tmp 25) (.tmp 27) c (-1000) false _ lit_int (decide_eq_false c1) ?_
  by_cases c2:1000<c
  ·obtain rfl:r=false:=by rw [← hr];simp;omega
   refine kgg (.tmp 33) (.tmp 34) c 1000 true _ lit_int (decide_eq_true c2) ?_
   exact kret Tryz.func29 (by kernel_rfl)
  refine kgg (.tmp 33) (.tmp 34) c 1000 false _ lit_int (decide_eq_false c2) ?_
  obtain rfl:r=true:=by rw [← hr];simp [hz];omega
  exact kret Tryz.func29 (by kernel_rfl)
 ·obtain rfl:r=false:=by rw [← hr];simp [hz]
  refine kne (.tmp 9) (.const (.int .i64 0)) z 0 true _ lit_int (by simp [hz]) ?_
  exact kret Tryz.func29 (by kernel_rfl)
end
section
variable {a b c x y z d:Rat} {k l n:Nat}
theorem subV (h1:Bq k a) (h2:Bq k b) (h3:Bq k c) (g1:Bq l x) (g2:Bq l y) (g3:Bq l z) (hk:k≤10000) (hl:l≤10000):Fits Tryz.prog 35 [vS a b c,vS x y z] (vS (a-x) (b-y) (c-z)) :=
 subVecR (kn_S (subR (h1.zs hk) (g1.zs hl))) (kn_S (subR (h2.zs hk) (g2.zs hl))) (kn_S (subR (h3.zs hk) (g3.zs hl)))
theorem dotV (h1:Bq k a) (h2:Bq k b) (h3:Bq k c) (g1:Bq l x) (g2:Bq l y) (g3:Bq l z) (hk:2*(k+l)<10000):Fits Tryz.prog 49 [vS a b c,vS x y z] (tx (writeB (dt a b c x y z))) :=
 dotR (kn_S (refMulF (h1.zs (by omega)) (g1.zs (by omega)))) (kn_S (refMulF (h2.zs (by omega)) (g2.zs (by omega)))) (kn_S (refAddF ((h1.mul g1).zs (by omega)) ((h2.mul g2).zs (by omega))))
  (kn_S (refMulF (h3.zs (by omega)) (g3.zs (by omega)))) (kn_S (refAddF (((h1.mul g1).add (h2.mul g2)).zs (by omega)) ((h3.mul g3).zs (by omega))))
theorem squareV (h1:Bq k a) (h2:Bq k b) (h3:Bq k c) (hk:4*k<10000):Fits Tryz.prog 34 [vS a b c] (tx (writeB (dt a b c a b c))):=squareR (dotV h1 h2 h3 h1 h2 h3 (by omega))
end
theorem normalF {z1 z2 z3:Int} {s:ByteArray} (h1:M64 z1) (h2:M64 z2) (h3:M64 z3):Fits Tryz.prog 27 [hL z1 z2 z3 s] (vS z1 z2 z3):=by
 refine kgo Tryz.func27 (by kernel_rfl) fun w00=>?_
 refine kcall 88 [it z1,it z2,it z3] (intsF h1 h2 h3) (by kernel_rfl) Tryz.call88 ?_
 exact kret Tryz.func27 (by kernel_rfl)
theorem bq_int {z:Int} {k:Nat} (h:z.natAbs<10^k) (hk:0<k):Bq k (z:Rat):=by
 refine ⟨by rw [Rat.num_intCast];exact h,?_⟩
 rw [Rat.den_intCast]
 have:=Nat.pow_le_pow_right (n:=10) (by omega) hk
 omega
theorem nn_pos {z1 z2 z3:Int} (h:¬ (z1=0∧z2=0∧z3=0)):dt (z1:Rat) z2 z3 z1 z2 z3≠0:=fun e=>by
 obtain ⟨h1,h2,h3⟩:=sum_sq e
 exact h ⟨by exact_mod_cast h1,by exact_mod_cast h2,by exact_mod_cast h3⟩
theorem chkB {k:Nat} {q:Rat} (h:Bq k q) (hk:k≤600):Fits Tryz.prog 16 [tx (writeB q)] (it 0):=chkF (h.wr hk).n (h.wr hk).d
def Fy (k:Nat) (s:ByteArray):Prop := ∃ q,s=writeB q∧Fw k q
theorem fewVec_or {a b c:ByteArray} {n:Int} {k:Nat} (yes:∀ s,Fy k s→Fits Tryz.prog 10 [tx s,it n] (bl true)) (no:∀ s,¬ Fy k s→Fits Tryz.prog 10 [tx s,it n] (bl false)) :
 (Fy k a∧Fy k b∧Fy k c∧Fits Tryz.prog 9 [t3 a b c,it n] (bl true))∨Fits Tryz.prog 9 [t3 a b c,it n] (bl false):=by
 by_cases h1:Fy k a
 ·by_cases h2:Fy k b
  ·by_cases h3:Fy k c
   ·exact .inl ⟨h1,h2,h3,fewVecT (yes _ h1) (yes _ h2) (yes _ h3)⟩
   ·exact .inr (fewVecF3 (yes _ h1) (yes _ h2) (no _ h3))
  ·exact .inr (fewVecF2 (yes _ h1) (no _ h2))
 ·exact .inr (fewVecF1 (no _ h1))
section
variable {z1 z2 z3 t u:Int} {d p1 p2 p3 o1 o2 o3 f1 f2 f3 m1 m2 m3 q1 q2 q3 D E F a1 a2 a3 b1 b2 b3 c1 c2 c3:Rat}
theorem ktx {f:FuncId} {w00:World} {Out:Value→World→Prop} {c:Cfg Kn} (x y:Tmp) (s:ByteArray) (hg:Ok Tryz.prog f w00 Out (runA Tryz.prog 1000 (c.give (bl true))))
 (hc:(c.op.map fun o=>o.op,c.okT (bl true),c.ev (.tmp x),c.ev (.tmp y))=(some (.binOp .eql 22 (.tmp x) (.tmp y) 22),true,tx s,tx s):=by kernel_rfl):Ok Tryz.prog f w00 Out c :=
 kop2 (.binOp .eql 22 (.tmp x) (.tmp y) 22) (.tmp x) (.tmp y) _ _ (bl true) hc (by simp [Op.operands]) (by simp [Op.operands]) (fun ρ o β w ho hx hy=>⟨_,seq_run ho (hold_is hx) (hold_is hy) (beq_self_eq_true _),lit_hold rfl⟩) hg
set_option maxRecDepth 100000 in
theorem near_walk (kH:Fits Tryz.prog 29 [hS z1 z2 z3 d,it 1000,it 6] (bl true)) (kp:Fits Tryz.prog 9 [vS p1 p2 p3,it 6] (bl true)) (ko:Fits Tryz.prog 9 [vS o1 o2 o3,it 6] (bl true))
 (cF:FitsW Tryz.prog Gl 30 [hS z1 z2 z3 d,vS p1 p2 p3] (okVS f1 f2 f3)) (cD:FitsW Tryz.prog Gl 31 [hS z1 z2 z3 d,vS p1 p2 p3] (okS D)) (cM:FitsW Tryz.prog Gl 32 [hS z1 z2 z3 d,vS p1 p2 p3] (okVS m1 m2 m3)) (cB:FitsW Tryz.prog Gl 32 [hS z1 z2 z3 d,vS m1 m2 m3] (okVS p1 p2 p3))
 (cS:FitsW Tryz.prog Gl 30 [hS z1 z2 z3 d,vS m1 m2 m3] (okVS f1 f2 f3)) (cN:Fits Tryz.prog 27 [hS z1 z2 z3 d] (vS z1 z2 z3)) (cX:FitsW Tryz.prog Gl 33 [hS z1 z2 z3 d,vS p1 p2 p3,vS z1 z2 z3] (okVS f1 f2 f3)) (cQ:FitsW Tryz.prog Gl 30 [hS z1 z2 z3 d,vS o1 o2 o3] (okVS q1 q2 q3))
 (kF:Fits Tryz.prog 14 [vS f1 f2 f3] (it 0)) (kM:Fits Tryz.prog 14 [vS m1 m2 m3] (it 0)) (kQ:Fits Tryz.prog 14 [vS q1 q2 q3] (it 0)) (kD:Fits Tryz.prog 16 [tx (writeB D)] (it 0))
 (sF:FitsW Tryz.prog Gl 26 [hS z1 z2 z3 d,vS f1 f2 f3] (.tup [.sc z0,.sc z0])) (sP:FitsW Tryz.prog Gl 26 [hS z1 z2 z3 d,vS p1 p2 p3] (.tup [.sc (isI t),.sc z0])) (sM:FitsW Tryz.prog Gl 26 [hS z1 z2 z3 d,vS m1 m2 m3] (.tup [.sc (isI u),.sc z0]))
 (vA:Fits Tryz.prog 35 [vS q1 q2 q3,vS p1 p2 p3] (vS a1 a2 a3)) (wA:Fits Tryz.prog 34 [vS a1 a2 a3] (tx (writeB F))) (vB:Fits Tryz.prog 35 [vS f1 f2 f3,vS p1 p2 p3] (vS b1 b2 b3)) (wB:Fits Tryz.prog 34 [vS b1 b2 b3] (tx (writeB D)))
 (vC:Fits Tryz.prog 35 [vS q1 q2 q3,vS f1 f2 f3] (vS c1 c2 c3)) (wC:Fits Tryz.prog 34 [vS c1 c2 c3] (tx (writeB E))) (wD:Fits Tryz.prog 19 [tx (writeB D),tx (writeB E)] (tx (writeB F))) (ht:t = -u) (h1:M64 t) (h2:M64 u) :
 FitsW Tryz.prog Gl 5 [hS z1 z2 z3 d,vS p1 p2 p3,vS o1 o2 o3] (bl true):=by
 refine kgoW Tryz.func5 (by kernel_rfl) fun w00 hG=>?_;have hI:=keepGl hG
 refine kcallW hI 8 [] (awakeF) (by kernel_rfl) Tryz.call8 ?_
 refine kcall 29 [hS z1 z2 z3 d,it 1000,it 6] (kH) (by kernel_rfl) Tryz.call29 ?_
 refine kcall 9 [vS p1 p2 p3,it 6] (kp) (by kernel_rfl) Tryz.call9 ?_
 refine kcall 9 [vS o1 o2 o3,it 6] (ko) (by kernel_rfl) Tryz.call9 ?_
 refine kcallW hI 30 [hS z1 z2 z3 d,vS p1 p2 p3] (cF) (by kernel_rfl) Tryz.call30 ?_
 refine kcallW hI 31 [hS z1 z2 z3 d,vS p1 p2 p3] (cD) (by kernel_rfl) Tryz.call31 ?_
 refine kcallW hI 32 [hS z1 z2 z3 d,vS p1 p2 p3] (cM) (by kernel_rfl) Tryz.call32 ?_
 refine kcallW hI 32 [hS z1 z2 z3 d,vS m1 m2 m3] (cB) (by kernel_rfl) Tryz.call32 ?_
 refine kcallW hI 30 [hS z1 z2 z3 d,vS m1 m2 m3] (cS) (by kernel_rfl) Tryz.call30 ?_
 refine kcall 27 [hS z1 z2 z3 d] (cN) (by kernel_rfl) Tryz.call27 ?_
 refine kcallW hI 33 [hS z1 z2 z3 d,vS p1 p2 p3,vS z1 z2 z3] (cX) (by kernel_rfl) Tryz.call33 ?_
 refine kcallW hI 30 [hS z1 z2 z3 d,vS o1 o2 o3] (cQ) (by kernel_rfl) Tryz.call30 ?_
 refine kcall 14 [vS f1 f2 f3] (kF) (by kernel_rfl) Tryz.call14 ?_
 refine kcall 14 [vS m1 m2 m3] (kM) (by kernel_rfl) Tryz.call14 ?_
 refine kcall 14 [vS q1 q2 q3] (kQ) (by kernel_rfl) Tryz.call14 ?_
 refine kcall 16 [tx (writeB D)] (kD) (by kernel_rfl) Tryz.call16 ?_
 refine kcallW hI 26 [hS z1 z2 z3 d,vS f1 f2 f3] (sF) (by kernel_rfl) Tryz.call26 ?_
 refine kcallW hI 26 [hS z1 z2 z3 d,vS p1 p2 p3] (sP) (by kernel_rfl) Tryz.call26 ?_
 refine kcallW hI 26 [hS z1 z2 z3 d,vS m1 m2 m3] (sM) (by kernel_rfl) Tryz.call26 ?_
 refine kneg 154 u h2 (by rw [← ht];exact h1) ?_
 refine kne (.tmp 153) (.tmp 155) t (-u) false _ is_int (by rw [ht];simp) ?_
 refine kv3 (.tmp 159) (.tmp 160) (writeB p1) (writeB p2) (writeB p3) ?_
 refine kv3 (.tmp 164) (.tmp 165) (writeB f1) (writeB f2) (writeB f3) ?_
 refine kv3 (.tmp 169) (.tmp 170) (writeB f1) (writeB f2) (writeB f3) ?_
 refine kcall 35 [vS q1 q2 q3,vS p1 p2 p3] (vA) (by kernel_rfl) Tryz.call35 ?_
 refine kcall 34 [vS a1 a2 a3] (wA) (by kernel_rfl) Tryz.call34 ?_
 refine kcall 35 [vS f1 f2 f3,vS p1 p2 p3] (vB) (by kernel_rfl) Tryz.call35 ?_
 refine kcall 34 [vS b1 b2 b3] (wB) (by kernel_rfl) Tryz.call34 ?_
 refine ktx 180 181 (writeB D) ?_
 refine kcall 35 [vS q1 q2 q3,vS f1 f2 f3] (vC) (by kernel_rfl) Tryz.call35 ?_
 refine kcall 34 [vS c1 c2 c3] (wC) (by kernel_rfl) Tryz.call34 ?_
 refine kcall 19 [tx (writeB D),tx (writeB E)] (wD) (by kernel_rfl) Tryz.call19 ?_
 refine ktx 184 190 (writeB F) ?_
 exact kret Tryz.func5 (by kernel_rfl)
end
section
variable {z1 z2 z3:Int} {s p1 p2 p3 o1 o2 o3:ByteArray}
set_option maxRecDepth 100000 in
theorem near_f1 (h:Fits Tryz.prog 29 [hL z1 z2 z3 s,it 1000,it 6] (bl false)):FitsW Tryz.prog Gl 5 [hL z1 z2 z3 s,t3 p1 p2 p3,t3 o1 o2 o3] (bl true):=by
 refine kgoW Tryz.func5 (by kernel_rfl) fun w00 hG=>?_;have hI:=keepGl hG
 refine kcallW hI 8 [] (awakeF) (by kernel_rfl) Tryz.call8 ?_
 refine kcall 29 [hL z1 z2 z3 s,it 1000,it 6] (h) (by kernel_rfl) Tryz.call29 ?_
 refine kcallW hI 8 [] (awakeF) (by kernel_rfl) Tryz.call8 ?_
 exact kret Tryz.func5 (by kernel_rfl)
set_option maxRecDepth 100000 in
theorem near_f2 (h1:Fits Tryz.prog 29 [hL z1 z2 z3 s,it 1000,it 6] (bl true)) (h:Fits Tryz.prog 9 [t3 p1 p2 p3,it 6] (bl false)):FitsW Tryz.prog Gl 5 [hL z1 z2 z3 s,t3 p1 p2 p3,t3 o1 o2 o3] (bl true):=by
 refine kgoW Tryz.func5 (by kernel_rfl) fun w00 hG=>?_;have hI:=keepGl hG
 refine kcallW hI 8 [] (awakeF) (by kernel_rfl) Tryz.call8 ?_
 refine kcall 29 [hL z1 z2 z3 s,it 1000,it 6] (h1) (by kernel_rfl) Tryz.call29 ?_
 refine kcall 9 [t3 p1 p2 p3,it 6] (h) (by kernel_rfl) Tryz.call9 ?_
 refine kcallW hI 8 [] (awakeF) (by kernel_rfl) Tryz.call8 ?_
 exact kret Tryz.func5 (by kernel_rfl)
set_option maxRecDepth 100000 in
theorem near_f3 (h1:Fits Tryz.prog 29 [hL z1 z2 z3 s,it 1000,it 6] (bl true)) (h2:Fits Tryz.prog 9 [t3 p1 p2 p3,it 6] (bl true)) (h:Fits Tryz.prog 9 [t3 o1 o2 o3,it 6] (bl false)):FitsW Tryz.prog Gl 5 [hL z1 z2 z3 s,t3 p1 p2 p3,t3 o1 o2 o3] (bl true):=by
 refine kgoW Tryz.func5 (by kernel_rfl) fun w00 hG=>?_;have hI:=keepGl hG
 refine kcallW hI 8 [] (awakeF) (by kernel_rfl) Tryz.call8 ?_
 refine kcall 29 [hL z1 z2 z3 s,it 1000,it 6] (h1) (by kernel_rfl) Tryz.call29 ?_
 refine kcall 9 [t3 p1 p2 p3,it 6] (h2) (by kernel_rfl) Tryz.call9 ?_
 refine kcall 9 [t3 o1 o2 o3,it 6] (h) (by kernel_rfl) Tryz.call9 ?_
 refine kcallW hI 8 [] (awakeF) (by kernel_rfl) Tryz.call8 ?_
 exact kret Tryz.func5 (by kernel_rfl)
end
theorem nat4 {x:Int} (h:In 1000 x):x.natAbs<10^4:=by show x.natAbs<10000;omega
theorem hv_of {z1 z2 z3:Int} {d:Rat} (h0:¬ (z1=0∧z2=0∧z3=0)) (h1:¬ Bg z1) (h2:¬ Bg z2) (h3:¬ Bg z3) (hg:Int.gcd (Int.gcd z1 z2:Int) z3=1) (hd:Wr d):Hv z1 z2 z3 d :=
 ⟨by unfold Bg at h1;omega,by unfold Bg at h2;omega,by unfold Bg at h3;omega,hd,checkNormalF h0 h1 h2 h3 hg⟩
theorem sgnR_neg (x:Rat):sgnR (-x) = -sgnR x:=by
 unfold sgnR cmpI
 rw [Rat.neg_num]
 (repeat' split) <;> omega
theorem sgnR_m (q:Rat):-1≤sgnR q∧sgnR q≤1:=by
 unfold sgnR cmpI
 (repeat' split) <;> constructor <;> omega
theorem sq_ext {x1 x2 x3 u1 u2 u3 W:Rat} (h:x1*u1+x2*u2+x3*u3=0):dt (W*x1) (W*x2) (W*x3) (W*x1) (W*x2) (W*x3)+dt u1 u2 u3 u1 u2 u3=dt (u1+W*x1) (u2+W*x2) (u3+W*x3) (u1+W*x1) (u2+W*x2) (u3+W*x3):=by
 have e:dt (u1+W*x1) (u2+W*x2) (u3+W*x3) (u1+W*x1) (u2+W*x2) (u3+W*x3)=dt (W*x1) (W*x2) (W*x3) (W*x1) (W*x2) (W*x3)+dt u1 u2 u3 u1 u2 u3+2*W*(x1*u1+x2*u2+x3*u3):=by grind
 rw [e,h]
 grind
section
variable {z1 z2 z3:Int} {d p1 p2 p3 o1 o2 o3:Rat}
theorem nearR (h0:¬ (z1=0∧z2=0∧z3=0)) (i1:In 1000 z1) (i2:In 1000 z2) (i3:In 1000 z3) (hg:Int.gcd (Int.gcd z1 z2:Int) z3=1) (fd:Fw 6 d) (fp1:Fw 6 p1) (fp2:Fw 6 p2) (fp3:Fw 6 p3) (fo1:Fw 6 o1) (fo2:Fw 6 o2) (fo3:Fw 6 o3)
 (kH:Fits Tryz.prog 29 [hS z1 z2 z3 d,it 1000,it 6] (bl true)) (kp:Fits Tryz.prog 9 [vS p1 p2 p3,it 6] (bl true)) (ko:Fits Tryz.prog 9 [vS o1 o2 o3,it 6] (bl true)) :
 FitsW Tryz.prog Gl 5 [hS z1 z2 z3 d,vS p1 p2 p3,vS o1 o2 o3] (bl true):=by
 have y1:=bq_int (nat4 i1) (by omega)
 have y2:=bq_int (nat4 i2) (by omega)
 have y3:=bq_int (nat4 i3) (by omega)
 have qd:=bq_of fd
 have a1:=bq_of fp1
 have a2:=bq_of fp2
 have a3:=bq_of fp3
 have c1:=bq_of fo1
 have c2:=bq_of fo2
 have c3:=bq_of fo3
 have hv:Hv z1 z2 z3 d:=hv_of h0 (by unfold Bg;omega) (by unfold Bg;omega) (by unfold Bg;omega) hg (qd.wr (by omega))
 have n0:=nn_pos h0
 have m1:M64 z1:=by constructor <;> omega
 have m2:M64 z2:=by constructor <;> omega
 have m3:M64 z3:=by constructor <;> omega
 have wz:Wr3 (z1:Rat) z2 z3:=⟨y1.wr (by omega),y2.wr (by omega),y3.wr (by omega)⟩
 have wp:Wr3 p1 p2 p3:=⟨a1.wr (by omega),a2.wr (by omega),a3.wr (by omega)⟩
 have wo:Wr3 o1 o2 o3:=⟨c1.wr (by omega),c2.wr (by omega),c3.wr (by omega)⟩
 have cN:=normalF (s:=writeB d) m1 m2 m3
 have qn:Bq 26 (dt (z1:Rat) z2 z3 z1 z2 z3):=Bq.dt y1 y2 y3 y1 y2 y3 (by omega)
 generalize hx1:(z1:Rat)=x1 at *
 generalize hx2:(z2:Rat)=x2 at *
 generalize hx3:(z3:Rat)=x3 at *
 have way:∀ {r1 r2 r3:Rat},Bq 6 r1→Bq 6 r2→Bq 6 r3→Bq 65 (wayR x1 x2 x3 d r1 r2 r3):=fun h1 h2 h3=>((((Bq.dt y1 y2 y3 h1 h2 h3 (n:=32) (by omega)).sub qd).neg).div qn).mono (by omega)
 obtain ⟨W,hW⟩:∃ W,W=wayR x1 x2 x3 d p1 p2 p3:=⟨_,rfl⟩
 obtain ⟨V,hV⟩:∃ V,V=wayR x1 x2 x3 d o1 o2 o3:=⟨_,rfl⟩
 have qW:Bq 65 W:=hW▸way a1 a2 a3
 have qV:Bq 65 V:=hV▸way c1 c2 c3
 have eW:W*dt x1 x2 x3 x1 x2 x3 = -(dt x1 x2 x3 p1 p2 p3-d):=by rw [hW];grind
 have eV:V*dt x1 x2 x3 x1 x2 x3 = -(dt x1 x2 x3 o1 o2 o3-d):=by rw [hV];grind
 obtain ⟨f1,hf1⟩:∃ f,f=p1+W*x1:=⟨_,rfl⟩
 obtain ⟨f2,hf2⟩:∃ f,f=p2+W*x2:=⟨_,rfl⟩
 obtain ⟨f3,hf3⟩:∃ f,f=p3+W*x3:=⟨_,rfl⟩
 obtain ⟨g1,hg1⟩:∃ f,f=p1+((2:Int):Rat)*(W*x1):=⟨_,rfl⟩
 obtain ⟨g2,hg2⟩:∃ f,f=p2+((2:Int):Rat)*(W*x2):=⟨_,rfl⟩
 obtain ⟨g3,hg3⟩:∃ f,f=p3+((2:Int):Rat)*(W*x3):=⟨_,rfl⟩
 obtain ⟨q1,hq1⟩:∃ f,f=o1+V*x1:=⟨_,rfl⟩
 obtain ⟨q2,hq2⟩:∃ f,f=o2+V*x2:=⟨_,rfl⟩
 obtain ⟨q3,hq3⟩:∃ f,f=o3+V*x3:=⟨_,rfl⟩
 have t2:Bq 1 (((2:Int):Rat)):=bq_int (by decide) (by omega)
 have b1:Bq 77 f1:=hf1▸((a1.add (qW.mul y1)).mono (by omega))
 have b2:Bq 77 f2:=hf2▸((a2.add (qW.mul y2)).mono (by omega))
 have b3:Bq 77 f3:=hf3▸((a3.add (qW.mul y3)).mono (by omega))
 have e1:Bq 77 g1:=hg1▸((a1.add (t2.mul (qW.mul y1))).mono (by omega))
 have e2:Bq 77 g2:=hg2▸((a2.add (t2.mul (qW.mul y2))).mono (by omega))
 have e3:Bq 77 g3:=hg3▸((a3.add (t2.mul (qW.mul y3))).mono (by omega))
 have k1:Bq 77 q1:=hq1▸((c1.add (qV.mul y1)).mono (by omega))
 have k2:Bq 77 q2:=hq2▸((c2.add (qV.mul y2)).mono (by omega))
 have k3:Bq 77 q3:=hq3▸((c3.add (qV.mul y3)).mono (by omega))
 have wf:Wr3 f1 f2 f3:=⟨b1.wr (by omega),b2.wr (by omega),b3.wr (by omega)⟩
 have wg:Wr3 g1 g2 g3:=⟨e1.wr (by omega),e2.wr (by omega),e3.wr (by omega)⟩
 have wq:Wr3 q1 q2 q3:=⟨k1.wr (by omega),k2.wr (by omega),k3.wr (by omega)⟩
 have s2:((2:Int):Rat)=2:=rfl
 have eG:wayR x1 x2 x3 d g1 g2 g3 = -W:=by
  have:dt x1 x2 x3 g1 g2 g3-d=W*dt x1 x2 x3 x1 x2 x3:=by rw [hg1,hg2,hg3,s2];grind
  unfold wayR
  rw [this]
  grind
 obtain ⟨D,hD⟩:∃ D,D=dt (W*x1) (W*x2) (W*x3) (W*x1) (W*x2) (W*x3):=⟨_,rfl⟩
 have qD:Bq 500 D:=hD▸Bq.dt (qW.mul y1) (qW.mul y2) (qW.mul y3) (qW.mul y1) (qW.mul y2) (qW.mul y3) (by omega)
 have cF:=apiProjectF (z1:=z1) (z2:=z2) (z3:=z3) hv wp (by rw [hx1,hx2,hx3];exact n0) (by rw [hx1,hx2,hx3,← hW];exact hf1.symm) (by rw [hx1,hx2,hx3,← hW];exact hf2.symm) (by rw [hx1,hx2,hx3,← hW];exact hf3.symm) wf
 have cD:=apiDistanceF (z1:=z1) (z2:=z2) (z3:=z3) hv wp (by rw [hx1,hx2,hx3];exact n0) (by rw [hx1,hx2,hx3,← hW];exact hD.symm) (qD.wr (by omega))
 have cM:=apiMirrorF (z1:=z1) (z2:=z2) (z3:=z3) hv wp (by rw [hx1,hx2,hx3];exact n0) (by rw [hx1,hx2,hx3,← hW];exact hg1.symm) (by rw [hx1,hx2,hx3,← hW];exact hg2.symm) (by rw [hx1,hx2,hx3,← hW];exact hg3.symm) wg
 have cB:=apiMirrorF (z1:=z1) (z2:=z2) (z3:=z3) (m1:=p1) (m2:=p2) (m3:=p3) hv wg (by rw [hx1,hx2,hx3];exact n0) (by rw [hx1,hx2,hx3,eG,hg1];grind) (by rw [hx1,hx2,hx3,eG,hg2];grind) (by rw [hx1,hx2,hx3,eG,hg3];grind) wp
 have cS:=apiProjectF (z1:=z1) (z2:=z2) (z3:=z3) (m1:=f1) (m2:=f2) (m3:=f3) hv wg (by rw [hx1,hx2,hx3];exact n0) (by rw [hx1,hx2,hx3,eG,hg1,hf1,s2];grind) (by rw [hx1,hx2,hx3,eG,hg2,hf2,s2];grind) (by rw [hx1,hx2,hx3,eG,hg3,hf3,s2];grind) wf
 have eX:(dt x1 x2 x3 p1 p2 p3-d)/dt x1 x2 x3 x1 x2 x3 = -W:=by rw [hW];unfold wayR;grind
 have cX:=apiMeetF (z1:=z1) (z2:=z2) (z3:=z3) (m1:=f1) (m2:=f2) (m3:=f3) hv wp (v1:=x1) (v2:=x2) (v3:=x3) wz (by rw [hx1,hx2,hx3];exact n0) (by rw [hx1,hx2,hx3,eX,hf1];grind) (by rw [hx1,hx2,hx3,eX,hf2];grind) (by rw [hx1,hx2,hx3,eX,hf3];grind) wf
 have cQ:=apiProjectF (z1:=z1) (z2:=z2) (z3:=z3) hv wo (by rw [hx1,hx2,hx3];exact n0) (by rw [hx1,hx2,hx3,← hV];exact hq1.symm) (by rw [hx1,hx2,hx3,← hV];exact hq2.symm) (by rw [hx1,hx2,hx3,← hV];exact hq3.symm) wq
 have zF:dt x1 x2 x3 f1 f2 f3-d=0:=by rw [hf1,hf2,hf3];grind
 have zG:dt x1 x2 x3 g1 g2 g3-d = -(dt x1 x2 x3 p1 p2 p3-d):=by rw [hg1,hg2,hg3,s2];grind
 have zQ:dt x1 x2 x3 q1 q2 q3-d=0:=by rw [hq1,hq2,hq3];grind
 have sF:=apiSideF (z1:=z1) (z2:=z2) (z3:=z3) (s:=0) hv wf (by rw [hx1,hx2,hx3,zF];rfl)
 have sP:=lit_isS (apiSideF (z1:=z1) (z2:=z2) (z3:=z3) hv wp (s:=sgnR (dt x1 x2 x3 p1 p2 p3-d)) (by rw [hx1,hx2,hx3]))
 have sM:=lit_isS (apiSideF (z1:=z1) (z2:=z2) (z3:=z3) hv wg (s := -sgnR (dt x1 x2 x3 p1 p2 p3-d)) (by rw [hx1,hx2,hx3,zG,sgnR_neg]))
 have kF:=checkVec3 (chkB b1 (by omega)) (chkB b2 (by omega)) (chkB b3 (by omega))
 have kM:=checkVec3 (chkB e1 (by omega)) (chkB e2 (by omega)) (chkB e3 (by omega))
 have kQ:=checkVec3 (chkB k1 (by omega)) (chkB k2 (by omega)) (chkB k3 (by omega))
 have vA:=subV k1 k2 k3 a1 a2 a3 (by omega) (by omega)
 have wA:=squareV (k1.sub a1) (k2.sub a2) (k3.sub a3) (by omega)
 have vB:=subV b1 b2 b3 a1 a2 a3 (by omega) (by omega)
 have wB:=squareV (b1.sub a1) (b2.sub a2) (b3.sub a3) (by omega)
 have vC:=subV k1 k2 k3 b1 b2 b3 (by omega) (by omega)
 have wC:=squareV (k1.sub b1) (k2.sub b2) (k3.sub b3) (by omega)
 have eB:dt (f1-p1) (f2-p2) (f3-p3) (f1-p1) (f2-p2) (f3-p3)=D:=by rw [hD,hf1,hf2,hf3];grind
 rw [eB] at wB
 have qE:Bq 1000 (dt (q1-f1) (q2-f2) (q3-f3) (q1-f1) (q2-f2) (q3-f3)):=Bq.dt (k1.sub b1) (k2.sub b2) (k3.sub b3) (k1.sub b1) (k2.sub b2) (k3.sub b3) (by omega)
 have wD:=kn_S (refAddF (qD.zs (by omega)) (qE.zs (by omega)))
 have eA:D+dt (q1-f1) (q2-f2) (q3-f3) (q1-f1) (q2-f2) (q3-f3)=dt (q1-p1) (q2-p2) (q3-p3) (q1-p1) (q2-p2) (q3-p3):=by
  have h1:x1*(q1-f1)+x2*(q2-f2)+x3*(q3-f3)=0:=by grind
  have h2:∀ {q f p w x:Rat},f=p+w*x→q-p=(q-f)+w*x:=fun h=>by grind
  rw [hD,h2 (q:=q1) hf1,h2 (q:=q2) hf2,h2 (q:=q3) hf3]
  exact sq_ext h1
 rw [eA] at wD
 subst hx1 hx2 hx3
 exact near_walk kH kp ko cF cD cM cB cS cN cX cQ kF kM kQ (chkB qD (by omega)) sF sP sM vA wA vB wB vC wC wD (by omega) ⟨by have:=sgnR_m (dt (z1:Rat) z2 z3 p1 p2 p3-d);omega,by have:=sgnR_m (dt (z1:Rat) z2 z3 p1 p2 p3-d);omega⟩ ⟨by have:=sgnR_m (dt (z1:Rat) z2 z3 p1 p2 p3-d);omega,by have:=sgnR_m (dt (z1:Rat) z2 z3 p1 p2 p3-d);omega⟩
end
theorem few6y (s:ByteArray) (h:Fy 6 s):Fits Tryz.prog 10 [tx s,it 6] (bl true):=by
 obtain ⟨q,rfl,h⟩:=h
 exact kn_F (few6Yes h)
theorem few6n (s:ByteArray) (h:¬ Fy 6 s):Fits Tryz.prog 10 [tx s,it 6] (bl false):=kn_F (few6No h)
theorem fewHalf_or {z1 z2 z3:Int} {s:ByteArray} (hs:s.size≤9223372036854775807) :
 (¬ (z1=0∧z2=0∧z3=0)∧In 1000 z1∧In 1000 z2∧In 1000 z3∧Int.gcd (Int.gcd z1 z2:Int) z3=1∧Fy 6 s∧Fits Tryz.prog 29 [hL z1 z2 z3 s,it 1000,it 6] (bl true))∨Fits Tryz.prog 29 [hL z1 z2 z3 s,it 1000,it 6] (bl false):=by
 have hk:=checkHalfF (a:=z1) (b:=z2) (c:=z3) (kn_I (checkAnyF hs)) rfl
 by_cases hf:Fy 6 s
 ·have hF := fewHalfF hk (few6y s hf) rfl
  by_cases h:hkZ z1 z2 z3 (checkB s)=0∧In 1000 z1∧In 1000 z2∧In 1000 z3
  ·left
   obtain ⟨h0,h1,h2,h3⟩:=h
   have e0:=h0
   unfold hkZ at h0
   split at h0
   ·cases h0
   ·rename_i hz
    split at h0
    ·cases h0
    ·split at h0
     ·cases h0
     ·rename_i hg
      refine ⟨hz,h1,h2,h3,Classical.not_not.1 hg,hf,?_⟩
      simpa [e0,h1,h2,h3] using hF
  ·right
   have e:(decide (hkZ z1 z2 z3 (checkB s)=0)&&true&&decide (In 1000 z1)&&decide (In 1000 z2)&&decide (In 1000 z3))=false:=by
    rw [Bool.eq_false_iff]
    intro hh
    simp only [Bool.and_eq_true,decide_eq_true_eq,and_true] at hh
    exact h ⟨hh.1.1.1,hh.1.1.2,hh.1.2,hh.2⟩
   rw [e] at hF
   exact hF
 ·exact .inr (fewHalfF hk (few6n s hf) (by simp))
theorem nearestF (z1 z2 z3:Int) (s p1 p2 p3 o1 o2 o3:ByteArray) (hs:s.size≤9223372036854775807):FitsW Tryz.prog Gl 5 [hL z1 z2 z3 s,t3 p1 p2 p3,t3 o1 o2 o3] (bl true):=by
 rcases fewHalf_or (z1:=z1) (z2:=z2) (z3:=z3) hs with ⟨h0,i1,i2,i3,hg,⟨d,rfl,fd⟩,h1⟩|h1
 ·rcases fewVec_or (a:=p1) (b:=p2) (c:=p3) few6y few6n with ⟨⟨a,rfl,fa⟩,⟨b,rfl,fb⟩,⟨c,rfl,fc⟩,h2⟩|h2
  ·rcases fewVec_or (a:=o1) (b:=o2) (c:=o3) few6y few6n with ⟨⟨x,rfl,fx⟩,⟨y,rfl,fy⟩,⟨z,rfl,fz⟩,h3⟩|h3
   ·exact nearR h0 i1 i2 i3 hg fd fa fb fc fx fy fz h1 h2 h3
   ·exact near_f3 h1 h2 h3
  ·exact near_f2 h1 h2
 ·exact near_f1 h1
end Go.Proofs.YtbkfbobdmojgnaaGreatDoor.Ab
namespace Go.Proofs.YtbkfbobdmojgnaaGreatDoor.Ab
open Go.ChangeShapes Go.WideShapes Go.ChangeAt Go.RowKit Go.Proofs.YtbkfbobdmojgnaaGreatDoor
theorem gPow:Tryz.prog.globalNamed "internal/strconv.uint64pow10" = some 5:=by kernel_rfl
theorem gl_of {W:World} {r:List (String×DataW Unit)} (h:laidMet Tryz.prog (("internal/strconv.uint64pow10",Lib.tabData .u64 Lib.pow10Tab)::r) W) (hs:W.ShapedOpen Tryz.prog):Gl W :=
 ⟨Lib.tabIs_of_head (t:=308) (e:=193) (n:=20) gPow (by kernel_rfl) (by kernel_rfl) (by kernel_rfl) (by kernel_rfl) (by kernel_rfl) h,
  Go.Proofs.cell_of_shapedOpen_int (zero := #[.int .i64 0]) (t:=3) hs (of_decide_eq_true (by kernel_rfl)) (by kernel_rfl) rfl (by kernel_rfl) (by kernel_rfl) (by kernel_rfl)⟩
theorem hold_t3 {β:List Nat} {a b c:ByteArray} {w:World}:(t3 a b c).holds β (.agg #[.string a,.string b,.string c]) w :=
 ⟨[.string a,.string b,.string c],rfl,[.string a],_,rfl,rfl,[.string b],_,rfl,rfl,[.string c],_,rfl,rfl,rfl⟩
end Go.Proofs.YtbkfbobdmojgnaaGreatDoor.Ab
