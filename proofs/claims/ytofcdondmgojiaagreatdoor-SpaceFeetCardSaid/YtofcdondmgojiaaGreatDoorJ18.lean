/- Parts of the proof, joined. -/
import Derived.Test.YtofcdondmgojiaaGreatDoorJ16
import Derived.Test.YtofcdondmgojiaaGreatDoorJ17
import Derived.Test.YtofcdondmgojiaaGreatDoorJ10
import Derived.WalkKit
import Derived.ProofKit
import Derived.OpenShut
import Derived.Deep.DeepHandedRow
import Derived.Deep.DeepWitnessRowRef
import Derived.Lib.LaidTab
import Derived.Stop.LaidErr
import Derived.Shelf.Vars
import Derived.Lay
import Derived.Test.YtofcdondmgojiaaGreatDoorProg
import Derived.ChangeArms
set_option linter.unusedSimpArgs false
set_option linter.unusedVariables false
namespace Go.Proofs.YtofcdondmgojiaaGreatDoor.Ab
open Go.RowKit Go.Proofs.YtofcdondmgojiaaGreatDoor Pl
theorem kretI {f:FuncId} {w00:World} {c:Cfg Kn} {fn:Func} {z:Int} (hfn:Tryz.prog.funcs[f]?=some fn) (hc:c.res Tryz.prog fn=some (it z)):Ok Tryz.prog f w00 (fun v w=>(AV.fv (.sc (isI z)):AV Kn).holds [] v w) c :=
 ⟨good_ret hfn (it z) hc fun _ _ _ h=>h.1⟩
abbrev hA (a b c:Int) (s:ByteArray):AV Kn := .fv (.ag [isI a,isI b,isI c,dG s])
abbrev hL (a b c:Int) (s:ByteArray):AV Kn := .fv (.ag [.lit (.int .i64 a),.lit (.int .i64 b),.lit (.int .i64 c),dG s])
theorem hL_A {a b c:Int} {s:ByteArray} (β:List Nat) (v:Value) (w:World) (h:(hL a b c s).holds β v w):(hA a b c s).holds β v w:=by
 obtain ⟨cs,e,x1,r1,e1,h1,x2,r2,e2,h2,x3,r3,e3,h3,hr⟩:=h
 exact ⟨cs,e,x1,r1,e1,h1.1,x2,r2,e2,h2.1,x3,r3,e3,h3.1,hr⟩
theorem iv_i3 {a b c:Int} (β:List Nat) (v:Value) (w:World) (h:(iv a b c).holds β v w):(i3 a b c).holds β v w:=by
 obtain ⟨cs,e,x1,r1,e1,h1,x2,r2,e2,h2,x3,r3,e3,h3,hr⟩:=h
 exact ⟨cs,e,x1,r1,e1,h1.1,x2,r2,e2,h2.1,x3,r3,e3,h3.1,hr⟩
abbrev Bg (z:Int):Prop:=z < -999999999∨999999999<z
def hkZ (a b c k:Int):Int:=if a=0∧b=0∧c=0 then 6 else if Bg a∨Bg b∨Bg c then 3 else if Int.gcd (Int.gcd a b:Int) c≠1 then 1 else k
section
variable {a b c:Int} {s:ByteArray}
theorem checkHalfF {k z:Int} (hk:Fits Tryz.prog 48 [tx s] (.fv (.sc (isI k)))) (hz:hkZ a b c k=z):Fits Tryz.prog 11 [hA a b c s] (.fv (.sc (isI z))):=by
 unfold hkZ at hz
 refine fX Tryz.func11 (by kernel_rfl) fun w00=>?_
 by_cases h0:a=0∧b=0∧c=0
 ·obtain rfl:z=6:=by rw [← hz,if_pos h0]
  refine kz3 (.tmp 5) (.tmp 6) a b c true (by simp [h0]) ?_
  exact kretI Tryz.func11 (by kernel_rfl)
 rw [if_neg h0] at hz
 refine kz3 (.tmp 5) (.tmp 6) a b c false (by rw [Bool.eq_false_iff];simp;omega) ?_
 have e3:∀ {x:Int},x=a∨x=b∨x=c→Bg x→z=3:=fun hx h=>by
  rw [← hz,if_pos (by rcases hx with rfl|rfl|rfl <;> simp only [h,true_or,or_true])]
 by_cases a1:a < -999999999
 ·obtain rfl:=e3 (.inl rfl) (.inl a1)
  refine klt (.tmp 15) (.const (.int .i64 (-999999999))) a _ true _ bJ (decide_eq_true a1) ?_
  exact kretI Tryz.func11 (by kernel_rfl)
 refine klt (.tmp 15) (.const (.int .i64 (-999999999))) a _ false _ bJ (decide_eq_false a1) ?_
 by_cases a2:999999999<a
 ·obtain rfl:=e3 (.inl rfl) (.inr a2)
  refine kgg (.tmp 21) (.const (.int .i64 999999999)) a _ true _ bJ (decide_eq_true a2) ?_
  exact kretI Tryz.func11 (by kernel_rfl)
 refine kgg (.tmp 21) (.const (.int .i64 999999999)) a _ false _ bJ (decide_eq_false a2) ?_
 by_cases b1:b < -999999999
 ·obtain rfl:=e3 (.inr (.inl rfl)) (.inl b1)
  refine klt (.tmp 15) (.const (.int .i64 (-999999999))) b _ true _ bJ (decide_eq_true b1) ?_
  exact kretI Tryz.func11 (by kernel_rfl)
 refine klt (.tmp 15) (.const (.int .i64 (-999999999))) b _ false _ bJ (decide_eq_false b1) ?_
 by_cases b2:999999999<b
 ·obtain rfl:=e3 (.inr (.inl rfl)) (.inr b2)
  refine kgg (.tmp 21) (.const (.int .i64 999999999)) b _ true _ bJ (decide_eq_true b2) ?_
  exact kretI Tryz.func11 (by kernel_rfl)
 refine kgg (.tmp 21) (.const (.int .i64 999999999)) b _ false _ bJ (decide_eq_false b2) ?_
 by_cases c1:c < -999999999
 ·obtain rfl:=e3 (.inr (.inr rfl)) (.inl c1)
  refine klt (.tmp 15) (.const (.int .i64 (-999999999))) c _ true _ bJ (decide_eq_true c1) ?_
  exact kretI Tryz.func11 (by kernel_rfl)
 refine klt (.tmp 15) (.const (.int .i64 (-999999999))) c _ false _ bJ (decide_eq_false c1) ?_
 by_cases c2:999999999<c
 ·obtain rfl:=e3 (.inr (.inr rfl)) (.inr c2)
  refine kgg (.tmp 21) (.const (.int .i64 999999999)) c _ true _ bJ (decide_eq_true c2) ?_
  exact kretI Tryz.func11 (by kernel_rfl)
 refine kgg (.tmp 21) (.const (.int .i64 999999999)) c _ false _ bJ (decide_eq_false c2) ?_
 rw [if_neg (by unfold Bg;omega)] at hz
 have hg:=intGcdF (a:=a) (b:=b) (by omega) (by omega)
 have hs:=size_gcd (a:=a) (b:=b) (by omega) (by omega)
 have hg2:=intGcdF (a:=(Int.gcd a b:Int)) (b:=c) hs (by omega)
 clear e3 hs
 generalize (Int.gcd a b:Int)=g at *
 generalize Int.gcd g c=g2 at *
 refine aB 47 [.fv (.sc (isI a)),.fv (.sc (isI b))] (hg) (by kernel_rfl) Tryz.call47 ?_
 refine aB 47 [.fv (.sc (isI g)),.fv (.sc (isI c))] (hg2) (by kernel_rfl) Tryz.call47 ?_
 by_cases g1:g2=1
 ·rw [if_neg (by omega)] at hz
  subst hz
  refine kne (.tmp 34) (.const (.int .i64 1)) (g2:Int) 1 false _ bJ (by rw [g1];rfl) ?_
  refine aB 48 [tx s] (hk) (by kernel_rfl) Tryz.call48 ?_
  exact aO Tryz.func11 (by kernel_rfl)
 ·obtain rfl:z=1:=by rw [← hz,if_pos g1]
  refine kne (.tmp 34) (.const (.int .i64 1)) (g2:Int) 1 true _ bJ (by simp;omega) ?_
  exact kretI Tryz.func11 (by kernel_rfl)
end
abbrev Eh (z:Int):Prop:=z=0∨z=1∨z=3∨z=4∨z=6
theorem ev_eh {z:Int} (h:Ev z):Eh z:=by rcases h with h|h|h <;> simp [Eh,h]
theorem f2_eh {x y:Int} (hx:Eh x) (hy:Eh y):Eh (f2 x y):=by unfold f2;split <;> assumption
theorem first2Eh {T:TypeId} {x y z:Int} (hx:Eh x) (hy:Eh y) (hz:f2 x y=z):Fits Tryz.prog 34 [.fv (.nsl 2 T [lz x,lz y])] (it z):=by
 rcases hx with rfl|rfl|rfl|rfl|rfl
 ·have hz:y=z:=hz
  subst hz
  rcases hy with rfl|rfl|rfl|rfl|rfl <;> (refine kgoS Tryz.func34 (by kernel_rfl) fun w00=>?_;exact aO Tryz.func34 (by kernel_rfl))
 all_goals
  have hz:_=z:=hz
  subst hz
  refine kgoS Tryz.func34 (by kernel_rfl) fun w00=>?_
  exact aO Tryz.func34 (by kernel_rfl)
theorem lit_isU {f:FuncId} {l:List (AV Kn)} {x:Int} (h:Fits Tryz.prog f l (.fv (.sc (.lit (.int .u64 x))))):Fits Tryz.prog f l (.fv (.sc (isU x))):=Fits.res h fun β v w k=>by
 have:=aN k
 rw [this];exact bE
theorem une_run {o:Oper} {ρ:Operand→Value} {w:World} {x y:Operand} {a b:Int} {r:Bool} {T T' : TypeId} (ho:o.op = .binOp .neq T x y T') (hx:ρ x = .int .u64 a) (hy:ρ y = .int .u64 b) (h:(a != b)=r) :
 (execOp ρ o).run Tryz.prog w = .ok (.value (.bool r)) w:=by
 simp only [execOp,ho,hx,hy]
 refine bK ?_
 rw [← h]
 exact bQ (by kernel_rfl) w
section
variable {a b c z:Int}
theorem hk_values (k:Int) (h:Ev k):Eh (hkZ a b c k):=by
 unfold hkZ
 split
 ·simp [Eh]
 split
 ·simp [Eh]
 split
 ·simp [Eh]
 ·exact ev_eh h
theorem hk_first (k:Int):f2 (hkZ a b c 0) k=hkZ a b c k:=by
 unfold f2 hkZ
 split
 ·split <;> simp_all
 split
 ·split <;> simp_all
 split
 ·split <;> simp_all
 ·simp
theorem checkNormalAny (hz:hkZ a b c 0=z):Fits Tryz.prog 93 [iv a b c] (it z):=by
 unfold hkZ at hz
 refine Fits.args (l := [i3 a b c]) ?_ fun β vs w ⟨v,r,e,h,hr⟩=>⟨v,r,e,iv_i3 β v w h,hr⟩
 by_cases h0:a=0∧b=0∧c=0
 ·rw [if_pos h0] at hz
  subst hz
  refine fX Tryz.func93 (by kernel_rfl) fun w00=>?_
  refine kz3 (.tmp 6) (.tmp 7) a b c true (by simp [h0]) ?_
  exact aO Tryz.func93 (by kernel_rfl)
 rw [if_neg h0] at hz
 have w:∀ {x:Int},¬ Bg x→x.natAbs<aD:=fun h=>by unfold Bg at h;rw [aH];omega
 have hg:∀ {x y:Nat},x<aD→y<aD→Nat.gcd x y<aD:=fun {x y} hx hy=>by
  rcases Nat.eq_zero_or_pos y with e|e
  ·rw [e,Nat.gcd_zero_right];exact hx
  ·exact Nat.lt_of_le_of_lt (Nat.gcd_le_right _ e) hy
 refine fX Tryz.func93 (by kernel_rfl) fun w00=>?_
 refine kz3 (.tmp 6) (.tmp 7) a b c false (by rw [Bool.eq_false_iff];simp;omega) ?_
 have e3:Bg a∨Bg b∨Bg c→z=3:=fun h=>by rw [← hz,if_pos h]
 by_cases a1:a < -999999999
 ·obtain rfl:=e3 (.inl (.inl a1))
  refine klt (.tmp 13) (.const (.int .i64 (-999999999))) a (-999999999) true _ bJ (decide_eq_true a1) ?_
  exact aO Tryz.func93 (by kernel_rfl)
 refine klt (.tmp 13) (.const (.int .i64 (-999999999))) a (-999999999) false _ bJ (decide_eq_false a1) ?_
 by_cases a2:999999999<a
 ·obtain rfl:=e3 (.inl (.inr a2))
  refine kgg (.tmp 16) (.const (.int .i64 999999999)) a 999999999 true _ bJ (decide_eq_true a2) ?_
  exact aO Tryz.func93 (by kernel_rfl)
 refine kgg (.tmp 16) (.const (.int .i64 999999999)) a 999999999 false _ bJ (decide_eq_false a2) ?_
 have ha:¬ Bg a:=by unfold Bg;omega
 have g1:=dU (a:=0) (b:=a.natAbs) (by rw [aH];omega) (w ha)
 have l1:Nat.gcd 0 a.natAbs<aD:=hg (by rw [aH];omega) (w ha)
 obtain ⟨x1,hx1⟩:∃ x1,Nat.gcd 0 a.natAbs=x1:=⟨_,rfl⟩
 rw [hx1] at g1 l1
 refine kneg 21 a (by constructor <;> omega) (by constructor <;> omega) ?_
 refine kabs 20 22 a ?_
 refine kcvu 23 a.natAbs (by omega) ?_
 refine aB 151 [.fv (.sc (.lit (.int .u64 ((0:Nat):Int)))),.fv (.sc (.lit (.int .u64 (a.natAbs:Int))))] (g1) (by kernel_rfl) Tryz.call151 ?_
 by_cases b1:b < -999999999
 ·obtain rfl:=e3 (.inr (.inl (.inl b1)))
  refine klt (.tmp 13) (.const (.int .i64 (-999999999))) b (-999999999) true _ bJ (decide_eq_true b1) ?_
  exact aO Tryz.func93 (by kernel_rfl)
 refine klt (.tmp 13) (.const (.int .i64 (-999999999))) b (-999999999) false _ bJ (decide_eq_false b1) ?_
 by_cases b2:999999999<b
 ·obtain rfl:=e3 (.inr (.inl (.inr b2)))
  refine kgg (.tmp 16) (.const (.int .i64 999999999)) b 999999999 true _ bJ (decide_eq_true b2) ?_
  exact aO Tryz.func93 (by kernel_rfl)
 refine kgg (.tmp 16) (.const (.int .i64 999999999)) b 999999999 false _ bJ (decide_eq_false b2) ?_
 have hb:¬ Bg b:=by unfold Bg;omega
 have g2:=dU l1 (w hb)
 have l2:=hg l1 (w hb)
 obtain ⟨x2,hx2⟩:∃ x2,Nat.gcd x1 b.natAbs=x2:=⟨_,rfl⟩
 rw [hx2] at g2 l2
 refine kneg 21 b (by constructor <;> omega) (by constructor <;> omega) ?_
 refine kabs 20 22 b ?_
 refine kcvu 23 b.natAbs (by omega) ?_
 refine aB 151 [.fv (.sc (.lit (.int .u64 (x1:Int)))),.fv (.sc (.lit (.int .u64 (b.natAbs:Int))))] (g2) (by kernel_rfl) Tryz.call151 ?_
 by_cases c1:c < -999999999
 ·obtain rfl:=e3 (.inr (.inr (.inl c1)))
  refine klt (.tmp 13) (.const (.int .i64 (-999999999))) c (-999999999) true _ bJ (decide_eq_true c1) ?_
  exact aO Tryz.func93 (by kernel_rfl)
 refine klt (.tmp 13) (.const (.int .i64 (-999999999))) c (-999999999) false _ bJ (decide_eq_false c1) ?_
 by_cases c2:999999999<c
 ·obtain rfl:=e3 (.inr (.inr (.inr c2)))
  refine kgg (.tmp 16) (.const (.int .i64 999999999)) c 999999999 true _ bJ (decide_eq_true c2) ?_
  exact aO Tryz.func93 (by kernel_rfl)
 refine kgg (.tmp 16) (.const (.int .i64 999999999)) c 999999999 false _ bJ (decide_eq_false c2) ?_
 have hc:¬ Bg c:=by unfold Bg;omega
 have g3:=lit_isU (dU l2 (w hc))
 obtain ⟨x3,hx3⟩:∃ x3,Nat.gcd x2 c.natAbs=x3:=⟨_,rfl⟩
 rw [hx3] at g3
 have e:Int.gcd (Int.gcd a b:Int) c=x3:=by
  rw [← hx3,← hx2,← hx1,Nat.gcd_zero_left]
  rfl
 rw [if_neg (by rintro (h|h|h);exact ha h;exact hb h;exact hc h),e] at hz
 refine kneg 21 c (by constructor <;> omega) (by constructor <;> omega) ?_
 refine kabs 20 22 c ?_
 refine kcvu 23 c.natAbs (by omega) ?_
 refine aB 151 [.fv (.sc (.lit (.int .u64 (x2:Int)))),.fv (.sc (.lit (.int .u64 (c.natAbs:Int))))] (g3) (by kernel_rfl) Tryz.call151 ?_
 by_cases h1:x3=1
 ·rw [if_neg (fun h=>h h1)] at hz
  subst hz
  refine dS (.binOp .neq 151 (.tmp 27) (.const (.int .u64 1)) 151) (.tmp 27) (.const (.int .u64 1)) (.fv (.sc (isU (x3:Int)))) (.fv (.sc (.lit (.int .u64 1)))) (bl false) (by kernel_rfl) (by simp [Op.operands]) (by simp [Op.operands]) (fun ρ o β w ho hx hy=>⟨_,une_run ho (aP hx) (aN hy) (by rw [h1];rfl),aX rfl⟩) ?_
  exact aO Tryz.func93 (by kernel_rfl)
 ·rw [if_pos h1] at hz
  subst hz
  refine dS (.binOp .neq 151 (.tmp 27) (.const (.int .u64 1)) 151) (.tmp 27) (.const (.int .u64 1)) (.fv (.sc (isU (x3:Int)))) (.fv (.sc (.lit (.int .u64 1)))) (bl true) (by kernel_rfl) (by simp [Op.operands]) (by simp [Op.operands]) (fun ρ o β w ho hx hy=>⟨_,une_run ho (aP hx) (aN hy) (by rw [bne_iff_ne];omega),aX rfl⟩) ?_
  exact aO Tryz.func93 (by kernel_rfl)
end
section
variable {n1 n2 n3 z:Int} {s a b c:ByteArray}
abbrev M3 (a b c:Int):Prop:=M64 a∧M64 b∧M64 c
abbrev kh (n1 n2 n3:Int) (s:ByteArray):Int:=hkZ n1 n2 n3 (bX s)
theorem kh_eh:Eh (kh n1 n2 n3 s):=hk_values _ (cT s)
theorem readHalfAnyF (m:M3 n1 n2 n3) (h:Rb s) (hz:kh n1 n2 n3 s=z):FitsW Tryz.prog Gl 32 [hL n1 n2 n3 s] (.tup [.ag [nb n1,nb n2,nb n3,nb (valB s)],.sc (lz z)]):=by
 refine cJ Tryz.func32 (by kernel_rfl) fun w00 hG=>?_;have hI:=aU hG
 refine aJ hI 71 [tx s] (readAnyF h rfl) (by kernel_rfl) Tryz.call71 ?_
 refine aB 84 [iv n1 n2 n3] (integersF m.1 m.2.1 m.2.2) (by kernel_rfl) Tryz.call84 ?_
 refine aB 93 [iv n1 n2 n3] (checkNormalAny rfl) (by kernel_rfl) Tryz.call93 ?_
 refine aB 34 [.fv (.nsl 2 30 [lz (hkZ n1 n2 n3 0),lz (bX s)])] (first2Eh (hk_values 0 (.inl rfl)) (ev_eh (cT s)) ((hk_first _).trans hz)) (by kernel_rfl) Tryz.call34 ?_
 exact aO Tryz.func32 (by kernel_rfl)
theorem readHVAny (m:M3 n1 n2 n3) (h:Rb s) (k:Rb3 a b c) (hz:f2 (kh n1 n2 n3 s) (c3 a b c)=z):FitsW Tryz.prog Gl 31 [fnv 32,hL n1 n2 n3 s,fnv 33,t3 a b c] (.tup [.ag [nb n1,nb n2,nb n3,nb (valB s)],.ag [nb (valB a),nb (valB b),nb (valB c)],.sc (lz z)]):=by
 refine cJ Tryz.func31 (by kernel_rfl) fun w00 hG=>?_;have hI:=aU hG
 refine aJ hI 32 [hL n1 n2 n3 s] (readHalfAnyF m h rfl) (by kernel_rfl) Tryz.call32 ?_
 refine aJ hI 33 [t3 a b c] (readVecAnyF k rfl) (by kernel_rfl) Tryz.call33 ?_
 refine aB 34 [.fv (.nsl 2 30 [lz (kh n1 n2 n3 s),lz (c3 a b c)])] (first2Eh kh_eh (ev_eh (c3_ev _ _ _)) hz) (by kernel_rfl) Tryz.call34 ?_
 exact aO Tryz.func31 (by kernel_rfl)
end
def Bq (k:Nat) (q:Rat):Prop:=q.num.natAbs<10^k∧q.den<10^k
theorem Bq.mono {k l:Nat} {q:Rat} (h:Bq k q) (hk:k≤l):Bq l q :=
 ⟨Nat.lt_of_lt_of_le h.1 (Nat.pow_le_pow_right (by omega) hk),Nat.lt_of_lt_of_le h.2 (Nat.pow_le_pow_right (by omega) hk)⟩
theorem Bq.mul {j k:Nat} {p q:Rat} (hp:Bq j p) (hq:Bq k q):Bq (j+k) (p*q):=by
 rw [Rat.mul_def']
 obtain ⟨h1,h2⟩:=dX (p.num*q.num) (Nat.ne_of_gt (Nat.mul_pos p.den_pos q.den_pos))
 rw [Int.natAbs_mul] at h1
 refine ⟨Nat.lt_of_le_of_lt h1 ?_,Nat.lt_of_le_of_lt h2 ?_⟩
 ·rw [Nat.pow_add];exact Nat.mul_lt_mul'' hp.1 hq.1
 ·rw [Nat.pow_add];exact Nat.mul_lt_mul'' hp.2 hq.2
theorem Bq.add {j k:Nat} {p q:Rat} (hp:Bq j p) (hq:Bq k q):Bq (j+k+1) (p+q):=by
 rw [Rat.add_def']
 obtain ⟨h1,h2⟩:=dX (p.num*q.den+q.num*p.den) (Nat.ne_of_gt (Nat.mul_pos p.den_pos q.den_pos))
 have a1:p.num.natAbs*q.den<10^(j+k):=by rw [Nat.pow_add];exact Nat.mul_lt_mul'' hp.1 hq.2
 have a2:q.num.natAbs*p.den<10^(j+k):=by rw [Nat.pow_add,Nat.mul_comm];exact Nat.mul_lt_mul'' hp.2 hq.1
 have a3:p.den*q.den<10^(j+k):=by rw [Nat.pow_add];exact Nat.mul_lt_mul'' hp.2 hq.2
 have a4:10^(j+k+1)=10^(j+k)*10:=Nat.pow_succ _ _
 have a5:=Int.natAbs_add_le (p.num*q.den) (q.num*p.den)
 rw [Int.natAbs_mul,Int.natAbs_mul,Int.natAbs_natCast,Int.natAbs_natCast] at a5
 exact ⟨by omega,by omega⟩
theorem Bq.neg {k:Nat} {p:Rat} (hp:Bq k p):Bq k (-p):=by
 refine ⟨?_,hp.2⟩
 rw [Rat.neg_num,Int.natAbs_neg];exact hp.1
theorem Bq.sub {j k:Nat} {p q:Rat} (hp:Bq j p) (hq:Bq k q):Bq (j+k+1) (p-q):=by
 rw [Rat.sub_eq_add_neg]
 exact hp.add hq.neg
theorem Bq.inv {k:Nat} {p:Rat} (hp:Bq k p):Bq k p⁻¹:=by
 by_cases h0:p=0
 ·subst h0;rw [Rat.inv_zero];exact hp
 ·obtain ⟨_,e1,e2⟩:=Parts.inv (Parts.self p) h0
  exact ⟨by rw [← e1];exact hp.2,by rw [← e2];exact hp.1⟩
theorem Bq.div {j k:Nat} {p q:Rat} (hp:Bq j p) (hq:Bq k q):Bq (j+k) (p/q):=by
 rw [Rat.div_def]
 exact hp.mul hq.inv
theorem Bq.dt {k l n:Nat} {a b c x y z:Rat} (h1:Bq k a) (h2:Bq k b) (h3:Bq k c) (g1:Bq l x) (g2:Bq l y) (g3:Bq l z) (hn:3*(k+l)+2≤n):Bq n (dt a b c x y z) :=
 (((h1.mul g1).add (h2.mul g2)).add (h3.mul g3)).mono (by omega)
theorem Bq.wr {k:Nat} {q:Rat} (h:Bq k q) (hk:k≤600):Wr q:=by
 have h':=h.mono (l:=599+1) hk
 exact ⟨decB_size h'.1,decB_size h'.2⟩
theorem Bq.zs {k:Nat} {q:Rat} (h:Bq k q) (hk:k≤10000):Zs 10000 q:=by
 have h':=h.mono (l:=10000+1) (by omega)
 exact h'
theorem bq_of {k:Nat} {q:Rat} (h:Fw k q):Bq k q:=⟨dec_lt h.1,dec_lt h.2⟩
theorem sq_nonneg (x:Rat):0≤x*x:=by
 rcases Rat.le_total (a:=0) (b:=x) with h|h
 ·exact Rat.mul_nonneg h h
 ·have h' : 0≤-x:=by grind
  have:=Rat.mul_nonneg h' h'
  grind
theorem sum_sq {x y z:Rat} (h:dt x y z x y z=0):x=0∧y=0∧z=0:=by
 have h1:=sq_nonneg x
 have h2:=sq_nonneg y
 have h3:=sq_nonneg z
 have a1:x*x=0:=by grind
 have a2:y*y=0:=by grind
 have a3:z*z=0:=by grind
 exact ⟨by grind,by grind,by grind⟩
theorem numr_ne {q:Rat} (h:q≠0):q.num≠0:=fun e=>h (Rat.num_eq_zero.1 e)
abbrev nz (d:Nat):AV Kr := .fv (.ag [.lit (.bool true),.sp (csDi d)])
theorem signedNF {d:Nat}:Fits Tryz.prog 170 [rl true,di d] (iz (-(d:Int))):=by
 intro β w vs hv
 obtain ⟨v,u,rfl,h1,h2⟩:=eN hv
 rw [cC h1]
 have := @fJ true d β w [.bool true,u] ⟨_,_,rfl,cW,u,[],rfl,h2,rfl⟩
 simpa [sgz] using this
theorem minusP {n:Int} {c:Nat} (hc:n = -(c:Int)):Fits Tryz.prog 168 [pz c] (iz n):=by
 rw [hc]
 refine rgo Tryz.func168 (by kernel_rfl) fun w00=>?_
 refine aM 170 [rl true,di c] signedNF (by kernel_rfl) Tryz.call170 ?_
 exact dZ Tryz.func168 (by kernel_rfl)
theorem minusNZ {d:Nat}:Fits Tryz.prog 168 [nz d] (iz (d:Int)):=by
 refine rgo Tryz.func168 (by kernel_rfl) fun w00=>?_
 refine aM 170 [rl false,di d] signedLF (by kernel_rfl) Tryz.call170 ?_
 exact dZ Tryz.func168 (by kernel_rfl)
theorem minusN {d:Nat}:Fits Tryz.prog 168 [nz d] (pz d):=rres minusNZ fun _ _ _ h=>iz_pz h
section
variable {n:Int} {d:Nat}
theorem fractionNF {c:Nat} (hc:n = -(c:Int)) (hn:Bd n.natAbs) (hd:Bd d) (hd0:0<d) (hp:n.natAbs<B9^100000000) (hq:d<B9^100000000) (hs1:(aR (sgz (decide (n<0)) (n.natAbs/Nat.gcd n.natAbs d))).size≤1000000000) (hs2:(aR ((d/Nat.gcd n.natAbs d:Nat):Int)).size≤1000000000) :
 Fits Tryz.prog 117 [pz c,nz d] (rS (if d/Nat.gcd n.natAbs d=1 then aR (sgz (decide (n<0)) (n.natAbs/Nat.gcd n.natAbs d)) else aR (sgz (decide (n<0)) (n.natAbs/Nat.gcd n.natAbs d))++⟨#[47]⟩++aR ((d/Nat.gcd n.natAbs d:Nat):Int))):=by
 have hg:0<Nat.gcd n.natAbs d:=Nat.gcd_pos_of_pos_right _ hd0
 have hq0:0<d/Nat.gcd n.natAbs d:=Nat.div_pos (Nat.gcd_le_right _ hd0) hg
 have hq1:d/Nat.gcd n.natAbs d≤d:=Nat.div_le_self _ _
 have hp1:(sgz (decide (n<0)) (n.natAbs/Nat.gcd n.natAbs d)).natAbs<B9^100000000:=by rw [sgz_abs];exact Nat.lt_of_le_of_lt (Nat.div_le_self _ _) hp
 have hq2:((d/Nat.gcd n.natAbs d:Nat):Int).natAbs<B9^100000000:=by rw [Int.natAbs_natCast];exact Nat.lt_of_le_of_lt hq1 hq
 generalize hG:Nat.gcd n.natAbs d=g at *
 generalize hP:sgz (decide (n<0)) (n.natAbs/g)=p at *
 generalize hQ:d/g=q at *
 by_cases h1:q=1
 ·rw [if_pos h1]
  refine rgo Tryz.func117 (by kernel_rfl) fun w00=>?_
  refine aM 168 [pz c] (minusP hc) (by kernel_rfl) Tryz.call168 ?_
  refine aM 168 [nz d] minusN (by kernel_rfl) Tryz.call168 ?_
  refine aM 108 [di n.natAbs,di d] (by have:=commonF hn hd;rw [hG] at this;exact this) (by kernel_rfl) Tryz.call108 ?_
  refine aM 162 [di n.natAbs,di g] (divF hn hg) (by kernel_rfl) Tryz.call162 ?_
  refine aM 162 [di d,di g] (by have:=divF (a:=d) (b:=g) hd hg;rw [hQ] at this;exact this) (by kernel_rfl) Tryz.call162 ?_
  refine aM 170 [rb (decide (n<0)),di (n.natAbs/g)] (by have := @fJ (decide (n<0)) (n.natAbs/g);rw [hP] at this;exact this) (by kernel_rfl) Tryz.call170 ?_
  refine aM 169 [iz p] (textF hp1) (by kernel_rfl) Tryz.call169 ?_
  refine bF (.call ⟨.builtin .len,#[.tmp 41],#[86]⟩) (.tmp 41) (.tmp 41) (di q) (di q) (.fv (.sc (.lit (.int .i64 1)))) (by kernel_rfl) (by simp [Op.operands,Call.operands]) (by simp [Op.operands,Call.operands]) (fun ρ o β w ho hx _=>?_) ?_
  ·obtain ⟨ad,c,e,_⟩:=di_one (bB.1 hx) hq0 (by rw [h1];exact eB)
   exact ⟨_,len_di ho e,fK rfl⟩
  refine bF (.indexAddr 86 (.tmp 45) (.const (.int .i64 0))) (.tmp 45) (.const (.int .i64 0)) (di q) (.fv (.sc (.lit (.int .i64 0)))) (rP q) (by kernel_rfl) (by simp [Op.operands]) (by simp [Op.operands]) (fun ρ o β w ho hx hy=>?_) ?_
  ·obtain ⟨ad,c,e,hc⟩:=di_one (bB.1 hx) hq0 (by rw [h1];exact eB)
   exact ⟨_,index_di ho e (cC hy) (by omega),⟨ad,rfl,hc⟩⟩
  refine bF (.load 3 (.tmp 46)) (.tmp 46) (.tmp 46) (rP q) (rP q) (.fv (.sc (.lit (.int .i64 1)))) (by kernel_rfl) (by simp [Op.operands]) (by simp [Op.operands]) (fun ρ o β w ho hx _=>?_) ?_
  ·obtain ⟨ad,e,hc⟩:=hx
   injection e with e
   rw [h1] at hc
   exact ⟨_,load_i ho e hc,fK rfl⟩
  exact dZ Tryz.func117 (by kernel_rfl)
 ·rw [if_neg h1]
  have hcat1:(aR p).size+(⟨#[47]⟩:ByteArray).size≤9223372036854775807:=by
   have:(⟨#[47]⟩:ByteArray).size=1:=rfl
   omega
  have hcat2:(aR p++⟨#[47]⟩:ByteArray).size+(aR (q:Int)).size≤9223372036854775807:=by
   have:(⟨#[47]⟩:ByteArray).size=1:=rfl
   rw [ByteArray.size_append]
   omega
  by_cases h2:q<B9
  ·refine rgo Tryz.func117 (by kernel_rfl) fun w00=>?_
   refine aM 168 [pz c] (minusP hc) (by kernel_rfl) Tryz.call168 ?_
   refine aM 168 [nz d] minusN (by kernel_rfl) Tryz.call168 ?_
   refine aM 108 [di n.natAbs,di d] (by have:=commonF hn hd;rw [hG] at this;exact this) (by kernel_rfl) Tryz.call108 ?_
   refine aM 162 [di n.natAbs,di g] (divF hn hg) (by kernel_rfl) Tryz.call162 ?_
   refine aM 162 [di d,di g] (by have:=divF (a:=d) (b:=g) hd hg;rw [hQ] at this;exact this) (by kernel_rfl) Tryz.call162 ?_
   refine aM 170 [rb (decide (n<0)),di (n.natAbs/g)] (by have := @fJ (decide (n<0)) (n.natAbs/g);rw [hP] at this;exact this) (by kernel_rfl) Tryz.call170 ?_
   refine aM 169 [iz p] (textF hp1) (by kernel_rfl) Tryz.call169 ?_
   refine bF (.call ⟨.builtin .len,#[.tmp 41],#[86]⟩) (.tmp 41) (.tmp 41) (di q) (di q) (.fv (.sc (.lit (.int .i64 1)))) (by kernel_rfl) (by simp [Op.operands,Call.operands]) (by simp [Op.operands,Call.operands]) (fun ρ o β w ho hx _=>?_) ?_
   ·obtain ⟨ad,c,e,_⟩:=di_one (bB.1 hx) hq0 h2
    exact ⟨_,len_di ho e,fK rfl⟩
   refine bF (.indexAddr 86 (.tmp 45) (.const (.int .i64 0))) (.tmp 45) (.const (.int .i64 0)) (di q) (.fv (.sc (.lit (.int .i64 0)))) (rP q) (by kernel_rfl) (by simp [Op.operands]) (by simp [Op.operands]) (fun ρ o β w ho hx hy=>?_) ?_
   ·obtain ⟨ad,c,e,hc⟩:=di_one (bB.1 hx) hq0 h2
    exact ⟨_,index_di ho e (cC hy) (by omega),⟨ad,rfl,hc⟩⟩
   refine bF (.load 3 (.tmp 46)) (.tmp 46) (.tmp 46) (rP q) (rP q) (rI q) (by kernel_rfl) (by simp [Op.operands]) (by simp [Op.operands]) (fun ρ o β w ho hx _=>?_) ?_
   ·obtain ⟨ad,e,hc⟩:=hx
    injection e with e
    exact ⟨_,load_i ho e hc,cW⟩
   refine bF (.binOp .eql 3 (.tmp 47) (.const (.int .i64 1)) 3) (.tmp 47) (.const (.int .i64 1)) (rI q) (.fv (.sc (.lit (.int .i64 1)))) (rl false) (by kernel_rfl) (by simp [Op.operands]) (by simp [Op.operands]) (fun ρ o β w ho hx hy=>⟨.bool false,ieq_run ho (bA hx) (cC hy) (by simp;omega),fK rfl⟩) ?_
   refine bF (.binOp .add 9 (.tmp 51) (.const (.string ⟨#[47]⟩)) 9) (.tmp 51) (.const (.string ⟨#[47]⟩)) (rS (aR p)) (.fv (.sc (.lit (.string ⟨#[47]⟩)))) (rS (aR p++⟨#[47]⟩)) (by kernel_rfl) (by simp [Op.operands]) (by simp [Op.operands]) (fun ρ o β w ho hx hy=>⟨_,fE ho (bA hx) (cC hy) hcat1,cW⟩) ?_
   refine aM 170 [rl false,di q] signedLF (by kernel_rfl) Tryz.call170 ?_
   refine aM 169 [iz (q:Int)] (textF hq2) (by kernel_rfl) Tryz.call169 ?_
   refine bF (.binOp .add 9 (.tmp 52) (.tmp 55) 9) (.tmp 52) (.tmp 55) (rS (aR p++⟨#[47]⟩)) (rS (aR (q:Int))) (rS (aR p++⟨#[47]⟩++aR (q:Int))) (by kernel_rfl) (by simp [Op.operands]) (by simp [Op.operands]) (fun ρ o β w ho hx hy=>⟨_,fE ho (bA hx) (bA hy) hcat2,cW⟩) ?_
   exact dZ Tryz.func117 (by kernel_rfl)
  ·refine rgo Tryz.func117 (by kernel_rfl) fun w00=>?_
   refine aM 168 [pz c] (minusP hc) (by kernel_rfl) Tryz.call168 ?_
   refine aM 168 [nz d] minusN (by kernel_rfl) Tryz.call168 ?_
   refine aM 108 [di n.natAbs,di d] (by have:=commonF hn hd;rw [hG] at this;exact this) (by kernel_rfl) Tryz.call108 ?_
   refine aM 162 [di n.natAbs,di g] (divF hn hg) (by kernel_rfl) Tryz.call162 ?_
   refine aM 162 [di d,di g] (by have:=divF (a:=d) (b:=g) hd hg;rw [hQ] at this;exact this) (by kernel_rfl) Tryz.call162 ?_
   refine aM 170 [rb (decide (n<0)),di (n.natAbs/g)] (by have := @fJ (decide (n<0)) (n.natAbs/g);rw [hP] at this;exact this) (by kernel_rfl) Tryz.call170 ?_
   refine aM 169 [iz p] (textF hp1) (by kernel_rfl) Tryz.call169 ?_
   refine bF (.call ⟨.builtin .len,#[.tmp 41],#[86]⟩) (.tmp 41) (.tmp 41) (di q) (di q) rNe (by kernel_rfl) (by simp [Op.operands,Call.operands]) (by simp [Op.operands,Call.operands]) (fun ρ o β w ho hx _=>?_) ?_
   ·obtain ⟨A,m,c,e,hm⟩:=di_more (bB.1 hx) (Nat.le_of_not_lt h2)
    exact ⟨_,len_di ho e,⟨(m:Int),rfl,by omega⟩⟩
   refine bF (.binOp .eql 3 (.tmp 42) (.const (.int .i64 1)) 3) (.tmp 42) (.const (.int .i64 1)) rNe (.fv (.sc (.lit (.int .i64 1)))) (rl false) (by kernel_rfl) (by simp [Op.operands]) (by simp [Op.operands]) (fun ρ o β w ho hx hy=>?_) ?_
   ·obtain ⟨m,e,hm⟩:=hx
    injection e with e
    exact ⟨.bool false,ieq_run ho e (cC hy) (by simpa using hm),fK rfl⟩
   refine bF (.binOp .add 9 (.tmp 51) (.const (.string ⟨#[47]⟩)) 9) (.tmp 51) (.const (.string ⟨#[47]⟩)) (rS (aR p)) (.fv (.sc (.lit (.string ⟨#[47]⟩)))) (rS (aR p++⟨#[47]⟩)) (by kernel_rfl) (by simp [Op.operands]) (by simp [Op.operands]) (fun ρ o β w ho hx hy=>⟨_,fE ho (bA hx) (cC hy) hcat1,cW⟩) ?_
   refine aM 170 [rl false,di q] signedLF (by kernel_rfl) Tryz.call170 ?_
   refine aM 169 [iz (q:Int)] (textF hq2) (by kernel_rfl) Tryz.call169 ?_
   refine bF (.binOp .add 9 (.tmp 52) (.tmp 55) 9) (.tmp 52) (.tmp 55) (rS (aR p++⟨#[47]⟩)) (rS (aR (q:Int))) (rS (aR p++⟨#[47]⟩++aR (q:Int))) (by kernel_rfl) (by simp [Op.operands]) (by simp [Op.operands]) (fun ρ o β w ho hx hy=>⟨_,fE ho (bA hx) (bA hy) hcat2,cW⟩) ?_
   exact dZ Tryz.func117 (by kernel_rfl)
end
theorem fracNW {n:Int} {c d k:Nat} (hc:n = -(c:Int)) (hk:k≤1000000) (hn:n.natAbs<10^(k+1)) (hd:d<10^(k+1)) (h0:0<d):Fits Tryz.prog 117 [pz c,nz d] (rS (writeB (mkRat n d))):=by
 have h:=fractionNF (n:=n) (d:=d) hc (bd_of hn (by omega)) (bd_of hd (by omega)) h0 (bd1_of hn (by omega)) (bd1_of hd (by omega))
  (by have:=text_size (k:=k) (z:=sgz (decide (n<0)) (n.natAbs/Nat.gcd n.natAbs d)) (by rw [sgz_abs];exact Nat.lt_of_le_of_lt (Nat.div_le_self _ _) hn);omega)
  (by have:=text_size (k:=k) (z:=((d/Nat.gcd n.natAbs d:Nat):Int)) (by rw [Int.natAbs_natCast];exact Nat.lt_of_le_of_lt (Nat.div_le_self _ _) hd);omega)
 rw [frac_write n h0] at h
 exact h
section
variable {p q:Rat}
theorem inv_pos {m:Nat} (h:q.num=(m:Int)):mkRat (q.den:Int) m=q⁻¹:=by
 rw [Rat.inv_def,h,Rat.divInt_ofNat]
theorem inv_neg {m:Nat} (h:q.num = -(m:Int)):mkRat (-(q.den:Int)) m=q⁻¹:=by
 rw [Rat.inv_def,h,Rat.divInt_neg',Rat.divInt_ofNat]
theorem prt_neg {m:Nat} (h:q.num = -(m:Int)) (h0:0<m) {β:List Nat} {v:Value} {w:World} (k:(AV.fv (.ag [rB (decide (q.num<0)),.sp (csDi q.num.natAbs)]):AV Kr).holds β v w):(nz m).holds β v w:=by
 have e1:decide (q.num<0)=true:=by rw [decide_eq_true_iff];omega
 have e2:q.num.natAbs=m:=by omega
 rw [e1,e2] at k
 obtain ⟨cs,rfl,a,r,rfl,h1,h2⟩:=k
 exact ⟨_,rfl,a,r,rfl,⟨h1,rfl⟩,h2⟩
theorem prt_pos {m:Nat} (h:q.num=(m:Int)) {β:List Nat} {v:Value} {w:World} (k:(AV.fv (.ag [rB (decide (q.num<0)),.sp (csDi q.num.natAbs)]):AV Kr).holds β v w):(pz m).holds β v w:=by
 have k' : (iz q.num).holds β v w:=k
 rw [h] at k'
 exact iz_pz k'
theorem fracNZ {q:Rat} {k:Nat} (hk:k≤1000000) (hq:Zs k q) (h0:0<q.num.natAbs):Fits Tryz.prog 117 [pz q.den,nz q.num.natAbs] (rS (writeB (mkRat (-((q.den:Nat):Int)) q.num.natAbs))) :=
 fracNW (k:=k) rfl hk (by rw [Int.natAbs_neg,Int.natAbs_natCast];exact hq.2) hq.1 h0
theorem fracPZ {q:Rat} {k:Nat} (hk:k≤1000000) (hq:Zs k q) (h0:0<q.num.natAbs):Fits Tryz.prog 117 [iz (q.den:Int),pz q.num.natAbs] (rS (writeB (mkRat (q.den:Int) q.num.natAbs))) :=
 fracW (n:=(q.den:Int)) (k:=k) hk (by rw [Int.natAbs_natCast];exact hq.2) hq.1 h0
theorem recipF (hq:Zs 10000 q) (h0:q≠0):Fits Tryz.prog 114 [rS (writeB q)] (rS (writeB q⁻¹)):=by
 obtain ⟨s1,s2⟩:=zs_size hq (by omega)
 have hn:=numr_ne h0
 have hfr:Fits Tryz.prog 117 [pz q.den,.fv (.ag [rB (decide (q.num<0)),.sp (csDi q.num.natAbs)])] (rS (writeB q⁻¹)):=by
  by_cases hs:q.num<0
  ·have e:q.num = -((q.num.natAbs:Nat):Int):=by omega
   rw [← inv_neg e]
   refine rargs (fracNZ (k:=10000) (by omega) hq (by omega)) fun β vs w ⟨v,r,e1,h1,u,r2,e2,h2,h3⟩=>⟨v,r,e1,h1,u,r2,e2,prt_neg e (by omega) h2,h3⟩
  ·have e:q.num=((q.num.natAbs:Nat):Int):=by omega
   rw [← inv_pos e]
   refine rargs (fracPZ (k:=10000) (by omega) hq (by omega)) fun β vs w ⟨v,r,e1,h1,u,r2,e2,h2,h3⟩=>⟨v,r,e1,pz_iz h1,u,r2,e2,prt_pos e h2,h3⟩
 refine rgo Tryz.func114 (by kernel_rfl) fun w00=>?_
 refine aM 107 [rS (writeB q)] (partsF s1 s2) (by kernel_rfl) Tryz.call107 ?_
 refine aM 117 [pz q.den,.fv (.ag [rB (decide (q.num<0)),.sp (csDi q.num.natAbs)])] hfr (by kernel_rfl) Tryz.call117 ?_
 exact dZ Tryz.func114 (by kernel_rfl)
theorem zs_inv {k:Nat} (h:Zs k q) (h0:q≠0):Zs k q⁻¹:=by
 have hn:=numr_ne h0
 have hd:=q.den_pos
 by_cases hs:q.num<0
 ·have e:q.num = -((q.num.natAbs:Nat):Int):=by omega
  rw [← inv_neg e]
  obtain ⟨e1,e2⟩:=mk_parts (-(q.den:Int)) (d:=q.num.natAbs) (by omega)
  have g:Nat.gcd (-(q.den:Int)).natAbs q.num.natAbs=1:=by rw [Int.natAbs_neg,Int.natAbs_natCast,Nat.gcd_comm];exact q.reduced
  rw [g] at e1 e2
  refine ⟨by rw [e1];simpa using h.2,by rw [e2];simpa using h.1⟩
 ·have e:q.num=((q.num.natAbs:Nat):Int):=by omega
  rw [← inv_pos e]
  obtain ⟨e1,e2⟩:=mk_parts ((q.den:Int)) (d:=q.num.natAbs) (by omega)
  have g:Nat.gcd ((q.den:Int)).natAbs q.num.natAbs=1:=by rw [Int.natAbs_natCast,Nat.gcd_comm];exact q.reduced
  rw [g] at e1 e2
  refine ⟨by rw [e1];simpa using h.2,by rw [e2];simpa using h.1⟩
theorem refDivF (hp:Zs 10000 p) (hq:Zs 10000 q) (h0:q≠0):Fits Tryz.prog 55 [rS (writeB p),rS (writeB q)] (rS (writeB (p/q))):=by
 rw [Rat.div_def]
 refine rgo Tryz.func55 (by kernel_rfl) fun w00=>?_
 refine aM 114 [rS (writeB q)] (recipF hq h0) (by kernel_rfl) Tryz.call114 ?_
 refine aM 58 [rS (writeB p),rS (writeB q⁻¹)] (refMulF hp (zs_inv hq h0)) (by kernel_rfl) Tryz.call58 ?_
 exact dZ Tryz.func55 (by kernel_rfl)
theorem kn_o {f:FuncId} {s u:ByteArray} (h:Fits Tryz.prog f [rS s] (rS u)):Fits Tryz.prog f [tx s] (tx u):=by
 intro β w vs hv
 obtain ⟨v,rfl,h1⟩:=dN hv
 rw [aP h1]
 exact (h β w [.string s] ⟨_,_,rfl,cW,rfl⟩).mono fun e w' ⟨v,e1,e2,e3⟩=>⟨v,e1,e2,by rw [bA e3];exact bE⟩
theorem kn_IL {f:FuncId} {s:ByteArray} {z:Int} (h:Fits Tryz.prog f [rS s] (rI z)):Fits Tryz.prog f [tx s] (it z):=by
 intro β w vs hv
 obtain ⟨v,rfl,h1⟩:=dN hv
 rw [aP h1]
 exact (h β w [.string s] ⟨_,_,rfl,cW,rfl⟩).mono fun e w' ⟨v,e1,e2,e3⟩=>⟨v,e1,e2,by rw [bA e3];exact aX rfl⟩
theorem refCheckF {s:ByteArray} {z:Int} (hs:s.size≤9223372036854775807) (hz:bX s=z):Fits Tryz.prog 48 [tx s] (it z):=kn_IL (hz▸checkAnyF hs)
end
section
variable {f:FuncId} {w00:World} {Out:Value→World→Prop}
theorem klenT {c:Cfg Kn} (t:Tmp) (T:TypeId) (hT:Tryz.prog.underlying T=some .string) (s:ByteArray) (hc:(c.op.map fun o=>o.op,c.okT (.fv (.sc (isI s.size))),c.ev (.tmp t))=(some (.call ⟨.builtin .len,#[.tmp t],#[T]⟩),true,tx s))
 (hg:Ok Tryz.prog f w00 Out (dQ Tryz.prog 1000 (c.give (.fv (.sc (isI s.size)))))):Ok Tryz.prog f w00 Out c:=by
 simp only [Prod.mk.injEq] at hc
 obtain ⟨h1,h2,h3⟩:=hc
 exact dS _ (.tmp t) (.tmp t) (tx s) (tx s) (.fv (.sc (isI s.size))) (by rw [h1,h2,h3]) (by simp [Op.operands,Call.operands]) (by simp [Op.operands,Call.operands])
  (fun ρ o β w ho hx _=>⟨_,len_run ho hT (aP hx),bE⟩) hg
end
section
variable {p q:Rat}
theorem wr_len {q:Rat} (h:Wr q):(writeB q).size≤1000000000:=by
 have h1:=h.n
 have h2:=h.d
 have:=text_len q.num
 rw [write_len]
 split <;> omega
theorem refLargeF (h:Wr q):Fits Tryz.prog 51 [tx (writeB q)] (it 0):=by
 have h1:=h.n
 have h2:=h.d
 have hl:=text_len q.num
 refine fX Tryz.func51 (by kernel_rfl) fun w00=>?_
 refine aB 111 [tx (writeB q)] (kn_o (numF (wr_len h))) (by kernel_rfl) Tryz.call111 ?_
 refine aB 110 [tx (aR q.num)] (kn_o (absTF (by omega))) (by kernel_rfl) Tryz.call110 ?_
 refine klenT 5 23 Tryz.underlying23 (decB q.num.natAbs) (by kernel_rfl) ?_
 refine kgt 6 (decB q.num.natAbs).size 600 false (by rw [decide_eq_false_iff_not];omega) (by kernel_rfl) ?_
 refine aB 112 [tx (writeB q)] (kn_o (denOfF (wr_len h))) (by kernel_rfl) Tryz.call112 ?_
 refine klenT 10 23 Tryz.underlying23 (decB q.den) (by kernel_rfl) ?_
 refine kgt 11 (decB q.den).size 600 false (by rw [decide_eq_false_iff_not];omega) (by kernel_rfl) ?_
 exact aO Tryz.func51 (by kernel_rfl)
end
end Go.Proofs.YtofcdondmgojiaaGreatDoor.Ab
namespace Go.Proofs.YtofcdondmgojiaaGreatDoor.Ab
open Go.RowKit Go.Proofs.YtofcdondmgojiaaGreatDoor
section
variable {Kc:Value→Bool} {P:Program} {f:FuncId} {w00:World} {Out:Value→World→Prop}
theorem put_put (a:Act) (d:Tmp) (u v:Value):(a.put (some d) u).put (some d) v=a.put (some d) v:=by
 simp [Act.put]
end
end Go.Proofs.YtofcdondmgojiaaGreatDoor.Ab
namespace Go.Proofs.YtofcdondmgojiaaGreatDoor.Ab
open Go.RowKit Go.Proofs.YtofcdondmgojiaaGreatDoor Pl
section
variable {a b c:Int} {s:ByteArray}
abbrev In (k x:Int):Prop := -k≤x∧x≤k
end
section
variable {a b c x y z d:Rat} {k l n:Nat}
theorem dotV (h1:Bq k a) (h2:Bq k b) (h3:Bq k c) (g1:Bq l x) (g2:Bq l y) (g3:Bq l z) (hk:2*(k+l)<10000):Fits Tryz.prog 59 [vS a b c,vS x y z] (tx (writeB (dt a b c x y z))) :=
 dotR (kn_S (refMulF (h1.zs (by omega)) (g1.zs (by omega)))) (kn_S (refMulF (h2.zs (by omega)) (g2.zs (by omega)))) (kn_S (refAddF ((h1.mul g1).zs (by omega)) ((h2.mul g2).zs (by omega))))
  (kn_S (refMulF (h3.zs (by omega)) (g3.zs (by omega)))) (kn_S (refAddF (((h1.mul g1).add (h2.mul g2)).zs (by omega)) ((h3.mul g3).zs (by omega))))
theorem squareV (h1:Bq k a) (h2:Bq k b) (h3:Bq k c) (hk:4*k<10000):Fits Tryz.prog 57 [vS a b c] (tx (writeB (dt a b c a b c))):=squareR (dotV h1 h2 h3 h1 h2 h3 (by omega))
end
theorem normalF {z1 z2 z3:Int} {s:ByteArray} (h1:M64 z1) (h2:M64 z2) (h3:M64 z3):Fits Tryz.prog 52 [hL z1 z2 z3 s] (vS z1 z2 z3):=by
 refine fX Tryz.func52 (by kernel_rfl) fun w00=>?_
 refine aB 69 [it z1,it z2,it z3] (intsF h1 h2 h3) (by kernel_rfl) Tryz.call69 ?_
 exact aO Tryz.func52 (by kernel_rfl)
theorem bq_int {z:Int} {k:Nat} (h:z.natAbs<10^k) (hk:0<k):Bq k (z:Rat):=by
 refine ⟨by rw [Rat.num_intCast];exact h,?_⟩
 rw [Rat.den_intCast]
 have:=Nat.pow_le_pow_right (n:=10) (by omega) hk
 omega
theorem nn_pos {z1 z2 z3:Int} (h:¬ (z1=0∧z2=0∧z3=0)):dt (z1:Rat) z2 z3 z1 z2 z3≠0:=fun e=>by
 obtain ⟨h1,h2,h3⟩:=sum_sq e
 exact h ⟨by exact_mod_cast h1,by exact_mod_cast h2,by exact_mod_cast h3⟩
section
variable {o1 o2 o3 x1 x2 x3 y1 y2 y3 z1 z2 z3:Rat}
theorem isZeroT {s:ByteArray} {r:Bool} (h:(s.toList==(⟨#[48]⟩:ByteArray).toList)=r):Fits Tryz.prog 60 [tx s] (bl r):=by
 refine fX Tryz.func60 (by kernel_rfl) fun w00=>?_
 refine dS (.binOp .eql 23 (.tmp 3) (.const (.string ⟨#[48]⟩)) 23) (.tmp 3) (.const (.string ⟨#[48]⟩)) (tx s) (lt ⟨#[48]⟩) (bl r) (by kernel_rfl) (by simp [Op.operands]) (by simp [Op.operands]) (fun ρ o β w ho hx hy=>⟨_,seq_run ho (aP hx) (aN hy) h,aX rfl⟩) ?_
 exact aO Tryz.func60 (by kernel_rfl)
variable {k l:Nat}
end
abbrev Bz (z:Int):Prop:=z=1∨z=3∨z=4∨z=6∨z=7
theorem numberBad {z:Int} (hz:Bz z):Fits Tryz.prog 14 [lt ⟨#[]⟩,it z,it z,lt ⟨#[]⟩] (bl true):=by
 rcases hz with rfl|rfl|rfl|rfl|rfl <;> (refine fX Tryz.func14 (by kernel_rfl) fun w00=>?_;exact aO Tryz.func14 (by kernel_rfl))
theorem numberOk {q:Rat} (h:Wr q):Fits Tryz.prog 14 [tx (writeB q),it 0,it 0,tx (writeB q)] (bl true):=by
 have hl:=refLargeF h
 generalize writeB q=s at *
 refine fX Tryz.func14 (by kernel_rfl) fun w00=>?_
 refine aB 51 [tx s] (hl) (by kernel_rfl) Tryz.call51 ?_
 refine dS (.binOp .eql 23 (.tmp 25) (.tmp 26) 23) (.tmp 25) (.tmp 26) (tx s) (tx s) (bl true) (by kernel_rfl) (by simp [Op.operands]) (by simp [Op.operands]) (fun ρ o β w ho hx hy=>⟨_,seq_run ho (aP hx) (aP hy) (beq_self_eq_true _),aX rfl⟩) ?_
 exact aO Tryz.func14 (by kernel_rfl)
section
variable {P:Program} {f:FuncId}
theorem fitsAS_of {fn:Func} {n:Nat} {T:TypeId} {l:List (Seg Kn)} {u x:AV Kn} (hfn:P.funcs[f]?=some fn) (hb:fn.body.isSome=true) (hn:decide (2≤fn.ntmps)=true) (hx:x.noPtr=true) (hl:l.all Seg.noPtr=true) (hu:u.noPtr=true)
 (h:∀ w00,Ok P f w00 (fun v w=>x.holds [] v w) (.items [.code (fn.body.getD .skip)] { slots := [u,.fv (.sc (.slc 0 0 n n))]++List.replicate (fn.ntmps-2) .un,blocks := [(T,l)],ro:=1 })):Fits P f [u,.fv (.nsl n T l)] x:=by
 rintro β w vs ⟨v,r,rfl,h1,v2,r2,rfl,⟨g,cs,rfl,hg,hcs⟩,h3⟩
 have h1' : u.holds [g] v w:=AV.noPtr_holds hu h1
 have h3' : r2 = []:=h3
 subst h3'
 have hb2:fn.body=some (fn.body.getD .skip):=by
  cases hb2:fn.body with
  | none=>rw [hb2] at hb;cases hb
  | some c=>rfl
 refine (fA (w00:=w) (Out:=fun v w=>x.holds [] v w) hfn hb2 [u,.fv (.sc (.slc 0 0 n n))] [(T,l)] [g] [v,.slice (some ⟨g,0,none⟩) n n] (fn.ntmps-2) (by simp at hn;simp;omega) ⟨_,_,rfl,h1',_,[],rfl,⟨g,rfl,rfl⟩,rfl⟩ rfl (by simp)
  (fun k T' l' hk=>?_) (by simp;exact lt_of_block hg) (h w).good).mono ?_
 ·match k,hk with
  | 0,hk =>
    simp at hk
    obtain ⟨rfl,rfl⟩:=hk
    exact ⟨g,cs,rfl,hg,hcs.noPtr hl⟩
 ·rintro e w' ⟨v,rfl,hb,ho⟩
  exact ⟨v,rfl,hb,AV.noPtr_holds hx ho⟩
end
theorem kgoAS {f:FuncId} {fn:Func} {n:Nat} {T:TypeId} {l:List (Seg Kn)} {u x:AV Kn} (hfn:Tryz.prog.funcs[f]?=some fn) (hc:(fn.body.isSome,decide (2≤fn.ntmps),x.noPtr,l.all Seg.noPtr,u.noPtr)=(true,true,true,true,true))
 (h:∀ w00,Ok Tryz.prog f w00 (fun v w=>x.holds [] v w) (dQ Tryz.prog 1000 (.items [.code (fn.body.getD .skip)] { slots := [u,.fv (.sc (.slc 0 0 n n))]++List.replicate (fn.ntmps-2) .un,blocks := [(T,l)],ro:=1 }))):Fits Tryz.prog f [u,.fv (.nsl n T l)] x:=by
 simp only [Prod.mk.injEq] at hc
 exact fitsAS_of hfn hc.1 hc.2.1 hc.2.2.1 hc.2.2.2.1 hc.2.2.2.2 fun w00=>Ok.go (by kernel_rfl) kn_ok 1000 (h w00)
abbrev lo (n:Int) (s:ByteArray):Bool:=decide (n<(s.size:Nat))
section
variable {a b c d x y u:ByteArray} {n:Int} {T:TypeId} {r:Bool}
set_option maxRecDepth 100000 in
theorem shortF (h:(lo n a || lo n b || lo n c || lo n x || lo n y || lo n u)=r):Fits Tryz.prog 5 [it n,.fv (.nsl 2 T [dG a,dG b,dG c,dG x,dG y,dG u])] (bl (!r)):=by
 obtain ⟨r1,e1⟩:∃ r,lo n a=r:=⟨_,rfl⟩
 obtain ⟨r2,e2⟩:∃ r,lo n b=r:=⟨_,rfl⟩
 obtain ⟨r3,e3⟩:∃ r,lo n c=r:=⟨_,rfl⟩
 obtain ⟨r4,e4⟩:∃ r,lo n x=r:=⟨_,rfl⟩
 obtain ⟨r5,e5⟩:∃ r,lo n y=r:=⟨_,rfl⟩
 obtain ⟨r6,e6⟩:∃ r,lo n u=r:=⟨_,rfl⟩
 rw [e1,e2,e3,e4,e5,e6] at h
 subst h
 refine kgoAS Tryz.func5 (by kernel_rfl) fun w00=>?_
 refine klenT 16 23 Tryz.underlying23 a (by kernel_rfl) ?_
 refine kgg (.tmp 17) (.tmp 18) a.size n r1 _ bJ e1 ?_
 cases r1
 case true=>exact aO Tryz.func5 (by kernel_rfl)
 refine klenT 25 23 Tryz.underlying23 b (by kernel_rfl) ?_
 refine kgg (.tmp 26) (.tmp 27) b.size n r2 _ bJ e2 ?_
 cases r2
 case true=>exact aO Tryz.func5 (by kernel_rfl)
 refine klenT 35 23 Tryz.underlying23 c (by kernel_rfl) ?_
 refine kgg (.tmp 36) (.tmp 37) c.size n r3 _ bJ e3 ?_
 cases r3
 case true=>exact aO Tryz.func5 (by kernel_rfl)
 refine klenT 16 23 Tryz.underlying23 x (by kernel_rfl) ?_
 refine kgg (.tmp 17) (.tmp 18) x.size n r4 _ bJ e4 ?_
 cases r4
 case true=>exact aO Tryz.func5 (by kernel_rfl)
 refine klenT 25 23 Tryz.underlying23 y (by kernel_rfl) ?_
 refine kgg (.tmp 26) (.tmp 27) y.size n r5 _ bJ e5 ?_
 cases r5
 case true=>exact aO Tryz.func5 (by kernel_rfl)
 refine klenT 35 23 Tryz.underlying23 u (by kernel_rfl) ?_
 refine kgg (.tmp 36) (.tmp 37) u.size n r6 _ bJ e6 ?_
 cases r6
 case true=>exact aO Tryz.func5 (by kernel_rfl)
 exact aO Tryz.func5 (by kernel_rfl)
theorem checkRowAny {za zb zc z:Int} (h1:Fits Tryz.prog 48 [tx a] (it za)) (h2:Fits Tryz.prog 48 [tx b] (it zb)) (h3:Fits Tryz.prog 48 [tx c] (it zc)) (e1:Ev za) (e2:Ev zb) (e3:Ev zc) (hz:f3 za zb zc=z) :
 Fits Tryz.prog 49 [.fv (.nsl 3 T [dG a,dG b,dG c])] (it z):=by
 rcases e1 with rfl|rfl|rfl
 ·rcases e2 with rfl|rfl|rfl
  ·have hz:zc=z:=hz
   subst hz
   rcases e3 with rfl|rfl|rfl <;> (refine kgoS Tryz.func49 (by kernel_rfl) fun w00=>?_;refine aB 48 [tx a] (h1) (by kernel_rfl) Tryz.call48 ?_;refine aB 48 [tx b] (h2) (by kernel_rfl) Tryz.call48 ?_;refine aB 48 [tx c] (h3) (by kernel_rfl) Tryz.call48 ?_;exact aO Tryz.func49 (by kernel_rfl))
  all_goals
   have hz:_=z:=hz
   subst hz
   refine kgoS Tryz.func49 (by kernel_rfl) fun w00=>?_
   refine aB 48 [tx a] (h1) (by kernel_rfl) Tryz.call48 ?_
   refine aB 48 [tx b] (h2) (by kernel_rfl) Tryz.call48 ?_
   exact aO Tryz.func49 (by kernel_rfl)
 all_goals
  have hz:_=z:=hz
  subst hz
  refine kgoS Tryz.func49 (by kernel_rfl) fun w00=>?_
  refine aB 48 [tx a] (h1) (by kernel_rfl) Tryz.call48 ?_
  exact aO Tryz.func49 (by kernel_rfl)
abbrev Sl (s:ByteArray):Prop:=s.size≤40
abbrev Sl3 (a b c:ByteArray):Prop:=Sl a∧Sl b∧Sl c
theorem Sl.rb {s:ByteArray} (h:Sl s):Rb s:=by have h:s.size≤40:=h;show s.size<_;omega
theorem Sl3.rb (h:Sl3 a b c):Rb3 a b c:=⟨Sl.rb h.1,Sl.rb h.2.1,Sl.rb h.2.2⟩
theorem eU {z:Int} (h:Sl3 a b c) (hz:c3 a b c=z):Fits Tryz.prog 12 [t3 a b c] (it z):=by
 have h1:a.size≤40:=h.1
 have h2:b.size≤40:=h.2.1
 have h3:c.size≤40:=h.2.2
 refine fX Tryz.func12 (by kernel_rfl) fun w00=>?_
 refine aB 49 [.fv (.nsl 3 23 [dG a,dG b,dG c])] (checkRowAny (refCheckF (by omega) rfl) (refCheckF (by omega) rfl) (refCheckF (by omega) rfl) (cT _) (cT _) (cT _) hz) (by kernel_rfl) Tryz.call49 ?_
 exact aO Tryz.func12 (by kernel_rfl)
abbrev eT:Seg Kn := .lit (.string ⟨#[]⟩)
abbrev noT:AV Kn := .fv (.ag [eT,eT,eT])
abbrev noV (z:Int):AV Kn := .tup [.ag [eT,eT,eT],.sc (lz z)]
theorem scaleR3 (h1:Fits Tryz.prog 58 [tx a,tx b] (tx x)) (h2:Fits Tryz.prog 58 [tx a,tx c] (tx y)) (h3:Fits Tryz.prog 58 [tx a,tx d] (tx u)):Fits Tryz.prog 54 [tx a,t3 b c d] (t3 x y u):=by
 refine fX Tryz.func54 (by kernel_rfl) fun w00=>?_
 refine aB 58 [tx a,tx b] (h1) (by kernel_rfl) Tryz.call58 ?_
 refine aB 58 [tx a,tx c] (h2) (by kernel_rfl) Tryz.call58 ?_
 refine aB 58 [tx a,tx d] (h3) (by kernel_rfl) Tryz.call58 ?_
 exact aO Tryz.func54 (by kernel_rfl)
end
section
variable {f:FuncId} {w00:World} {Out:Value→World→Prop} {c:Cfg Kn}
theorem ke3 (x y:Operand) (a b d a' b' d' : ByteArray) (r:Bool) (h:(a.toList==a'.toList&&b.toList==b'.toList&&d.toList==d'.toList)=r) (hg:Ok Tryz.prog f w00 Out (dQ Tryz.prog 1000 (c.give (bl r))))
 (hc:(c.op.map fun o=>o.op,c.okT (bl r),c.ev x,c.ev y)=(some (.binOp .eql 27 x y 27),true,.fv (.ag [dG a,dG b,dG d]),.fv (.ag [dG a',dG b',dG d'])):=by kernel_rfl):Ok Tryz.prog f w00 Out c :=
 dS (.binOp .eql 27 x y 27) x y _ _ (bl r) hc (by simp [Op.operands]) (by simp [Op.operands]) (fun ρ o β w ho hx hy=>⟨_,agg_eq (by kernel_rfl) (h▸equalT a b d a' b' d' w) ho (s3_is hx) (s3_is hy),aX rfl⟩) hg
end
theorem pointBad {z:Int} (hz:Bz z):Fits Tryz.prog 13 [noT,it z,it z,noT] (bl true):=by
 rcases hz with rfl|rfl|rfl|rfl|rfl
 all_goals
  refine fX Tryz.func13 (by kernel_rfl) fun w00=>?_
  exact aO Tryz.func13 (by kernel_rfl)
theorem refLargeVecF {a b c:Rat} (h:Wr3 a b c):Fits Tryz.prog 50 [vS a b c] (it 0):=by
 have h1:=refLargeF h.1
 have h2:=refLargeF h.2.1
 have h3:=refLargeF h.2.2
 have hr:Fits Tryz.prog 109 [.fv (.nsl 3 23 [dG (writeB a),dG (writeB b),dG (writeB c)])] (it 0):=by
  refine kgoS Tryz.func109 (by kernel_rfl) fun w00=>?_
  refine aB 51 [tx (writeB a)] (h1) (by kernel_rfl) Tryz.call51 ?_
  refine aB 51 [tx (writeB b)] (h2) (by kernel_rfl) Tryz.call51 ?_
  refine aB 51 [tx (writeB c)] (h3) (by kernel_rfl) Tryz.call51 ?_
  exact aO Tryz.func109 (by kernel_rfl)
 refine fX Tryz.func50 (by kernel_rfl) fun w00=>?_
 refine aB 109 _ (hr) (by kernel_rfl) Tryz.call109 ?_
 exact aO Tryz.func50 (by kernel_rfl)
theorem pointOk {a b c:Rat} (h:Wr3 a b c):Fits Tryz.prog 13 [vS a b c,it 0,it 0,vS a b c] (bl true):=by
 have hl:=refLargeVecF h
 refine fX Tryz.func13 (by kernel_rfl) fun w00=>?_
 refine aB 50 _ (hl) (by kernel_rfl) Tryz.call50 ?_
 refine ke3 (.tmp 26) (.tmp 27) (writeB a) (writeB b) (writeB c) (writeB a) (writeB b) (writeB c) true (by simp) ?_
 exact aO Tryz.func13 (by kernel_rfl)
section
variable {a b d x y u c:ByteArray} {z y1 y2 y3:Int}
abbrev B14 (z:Int):Prop:=z=1∨z=4
theorem ev_b {z:Int} (h:Ev z) (h0:z≠0):B14 z:=by
 rcases h with h|h|h
 ·exact absurd h h0
 ·exact .inl h
 ·exact .inr h
theorem b_ne {z:Int} (h:B14 z):z≠0:=by rcases h with rfl|rfl <;> decide
theorem b_4 {z:Int} (h:B14 z):Bz z:=by
 rcases h with h|h
 ·exact .inl h
 ·exact .inr (.inr (.inl h))
end
theorem slwN {n:Nat} {s:ByteArray} (h:s.size≤n) (hn:1≤n) (hz:bX s=0):∃ q,s=writeB q∧Bq n q:=by
 obtain ⟨q,rfl,_,_⟩:=check_zero hz
 rw [write_len] at h
 have ht:(decB q.num.natAbs).size≤(aR q.num).size:=by
  unfold aR
  split
  ·rw [ByteArray.size_append];omega
  ·exact Nat.le_refl _
 refine ⟨q,rfl,bq_of ⟨by omega,?_⟩⟩
 by_cases hd:q.den=1
 ·rw [hd,dec1];exact hn
 ·rw [if_neg hd] at h;omega
theorem slwN3 {n:Nat} {a b c:ByteArray} (h1:a.size≤n) (h2:b.size≤n) (h3:c.size≤n) (hn:1≤n) (hz:c3 a b c=0):∃ p q r,a=writeB p∧b=writeB q∧c=writeB r∧Bq n p∧Bq n q∧Bq n r:=by
 obtain ⟨k1,k23⟩:=f2_zero hz
 obtain ⟨k2,k3⟩:=f2_zero k23
 obtain ⟨p,e1,q1⟩:=slwN h1 hn k1
 obtain ⟨q,e2,q2⟩:=slwN h2 hn k2
 obtain ⟨r,e3,q3⟩:=slwN h3 hn k3
 exact ⟨p,q,r,e1,e2,e3,q1,q2,q3⟩
abbrev Ss (s:ByteArray):Prop:=s.size≤30
abbrev Ss3 (a b c:ByteArray):Prop:=Ss a∧Ss b∧Ss c
section
variable {s a b c x y u:ByteArray}
theorem Ss.sl (h:Ss s):Sl s:=by have h:s.size≤30:=h;show s.size≤40;omega
theorem Ss3.sl (h:Ss3 a b c):Sl3 a b c:=⟨Ss.sl h.1,Ss.sl h.2.1,Ss.sl h.2.2⟩
theorem lo_s (h:Ss s):decide ((30:Int)<(s.size:Nat))=false:=by have h:s.size≤30:=h;rw [decide_eq_false_iff_not];omega
end
section
variable {s p q v k t:ByteArray} {a b c d x y z u:ByteArray} {n1 n2 n3:Int}
theorem valueR (h0:Fits Tryz.prog 52 [hL n1 n2 n3 s] (t3 a b c)) (h1:Fits Tryz.prog 59 [t3 a b c,t3 x y z] (tx p)) (h2:Fits Tryz.prog 113 [tx p,tx s] (tx v)):Fits Tryz.prog 56 [hL n1 n2 n3 s,t3 x y z] (tx v):=by
 refine fX Tryz.func56 (by kernel_rfl) fun w00=>?_
 refine aB 52 _ (h0) (by kernel_rfl) Tryz.call52 ?_
 refine aB 59 _ (h1) (by kernel_rfl) Tryz.call59 ?_
 refine aB 113 _ (h2) (by kernel_rfl) Tryz.call113 ?_
 exact aO Tryz.func56 (by kernel_rfl)
end
section
variable {n1 n2 n3:Int} {d p1 p2 p3 v1 v2 v3 e:Rat} {k:Nat}
structure Qh (n1 n2 n3:Int) (d p1 p2 p3:Rat):Prop where
 m1:M64 n1
 m2:M64 n2
 m3:M64 n3
 q1:Bq 10 (n1:Rat)
 q2:Bq 10 (n2:Rat)
 q3:Bq 10 (n3:Rat)
 d:Bq 30 d
 p1:Bq 30 p1
 p2:Bq 30 p2
 p3:Bq 30 p3
abbrev exR (n1 n2 n3:Int) (d p1 p2 p3:Rat):Rat:=dt (n1:Rat) n2 n3 p1 p2 p3-d
abbrev nnR (n1 n2 n3:Int):Rat:=dt (n1:Rat) n2 n3 n1 n2 n3
theorem Qh.ex (h:Qh n1 n2 n3 d p1 p2 p3):Bq 153 (exR n1 n2 n3 d p1 p2 p3):=(Bq.dt h.q1 h.q2 h.q3 h.p1 h.p2 h.p3 (n:=122) (by omega)).sub h.d
theorem Qh.nn (h:Qh n1 n2 n3 d p1 p2 p3):Bq 62 (nnR n1 n2 n3):=Bq.dt h.q1 h.q2 h.q3 h.q1 h.q2 h.q3 (by omega)
theorem refValueF (h:Qh n1 n2 n3 d p1 p2 p3):Fits Tryz.prog 56 [hL n1 n2 n3 (writeB d),vS p1 p2 p3] (tx (writeB (exR n1 n2 n3 d p1 p2 p3))) :=
 valueR (normalF h.m1 h.m2 h.m3) (dotV h.q1 h.q2 h.q3 h.p1 h.p2 h.p3 (by omega)) (kn_S (subR ((Bq.dt h.q1 h.q2 h.q3 h.p1 h.p2 h.p3 (n:=122) (by omega)).zs (by omega)) (h.d.zs (by omega))))
theorem scaleQ {j l:Nat} {c x y z:Rat} (hc:Bq j c) (hx:Bq l x) (hy:Bq l y) (hz:Bq l z) (hj:j≤10000) (hl:l≤10000):Fits Tryz.prog 54 [tx (writeB c),vS x y z] (vS (c*x) (c*y) (c*z)) :=
 scaleR3 (kn_S (refMulF (hc.zs hj) (hx.zs hl))) (kn_S (refMulF (hc.zs hj) (hy.zs hl))) (kn_S (refMulF (hc.zs hj) (hz.zs hl)))
abbrev ft (n1 n2 n3:Int) (d p1 p2 p3:Rat) (p:Rat) (n:Int):Rat:=p-exR n1 n2 n3 d p1 p2 p3/nnR n1 n2 n3*n
theorem Qh.way (h:Qh n1 n2 n3 d p1 p2 p3):Bq 215 (exR n1 n2 n3 d p1 p2 p3/nnR n1 n2 n3):=h.ex.div h.nn
theorem Qh.f1 (h:Qh n1 n2 n3 d p1 p2 p3):Bq 256 (ft n1 n2 n3 d p1 p2 p3 p1 n1):=h.p1.sub (h.way.mul h.q1)
theorem Qh.f2 (h:Qh n1 n2 n3 d p1 p2 p3):Bq 256 (ft n1 n2 n3 d p1 p2 p3 p2 n2):=h.p2.sub (h.way.mul h.q2)
theorem Qh.f3 (h:Qh n1 n2 n3 d p1 p2 p3):Bq 256 (ft n1 n2 n3 d p1 p2 p3 p3 n3):=h.p3.sub (h.way.mul h.q3)
theorem refProjectF (h:Qh n1 n2 n3 d p1 p2 p3) (h0:nnR n1 n2 n3≠0):Fits Tryz.prog 15 [hL n1 n2 n3 (writeB d),vS p1 p2 p3] (vS (ft n1 n2 n3 d p1 p2 p3 p1 n1) (ft n1 n2 n3 d p1 p2 p3 p2 n2) (ft n1 n2 n3 d p1 p2 p3 p3 n3)):=by
 have k0:=normalF (s:=writeB d) h.m1 h.m2 h.m3
 have k1:=refValueF h
 have k2:=squareV h.q1 h.q2 h.q3 (by omega)
 have k3:=kn_S (refDivF (h.ex.zs (by omega)) (h.nn.zs (by omega)) h0)
 have k4:=scaleQ h.way h.q1 h.q2 h.q3 (by omega) (by omega)
 have k5:=subVecR (kn_S (subR (h.p1.zs (by omega)) ((h.way.mul h.q1).zs (by omega)))) (kn_S (subR (h.p2.zs (by omega)) ((h.way.mul h.q2).zs (by omega)))) (kn_S (subR (h.p3.zs (by omega)) ((h.way.mul h.q3).zs (by omega))))
 refine fX Tryz.func15 (by kernel_rfl) fun w00=>?_
 refine aB 52 _ (k0) (by kernel_rfl) Tryz.call52 ?_
 refine aB 56 _ (k1) (by kernel_rfl) Tryz.call56 ?_
 refine aB 57 _ (k2) (by kernel_rfl) Tryz.call57 ?_
 refine aB 55 _ (k3) (by kernel_rfl) Tryz.call55 ?_
 refine aB 54 _ (k4) (by kernel_rfl) Tryz.call54 ?_
 refine aB 53 _ (k5) (by kernel_rfl) Tryz.call53 ?_
 exact aO Tryz.func15 (by kernel_rfl)
abbrev dsR (n1 n2 n3:Int) (d p1 p2 p3:Rat):Rat:=exR n1 n2 n3 d p1 p2 p3*exR n1 n2 n3 d p1 p2 p3/nnR n1 n2 n3
theorem Qh.ds (h:Qh n1 n2 n3 d p1 p2 p3):Bq 368 (dsR n1 n2 n3 d p1 p2 p3):=(h.ex.mul h.ex).div h.nn
theorem refDistanceF (h:Qh n1 n2 n3 d p1 p2 p3) (h0:nnR n1 n2 n3≠0):Fits Tryz.prog 16 [hL n1 n2 n3 (writeB d),vS p1 p2 p3] (tx (writeB (dsR n1 n2 n3 d p1 p2 p3))):=by
 have k0:=normalF (s:=writeB d) h.m1 h.m2 h.m3
 have k1:=refValueF h
 have k2:=squareV h.q1 h.q2 h.q3 (by omega)
 have k3:=kn_S (refMulF (h.ex.zs (by omega)) (h.ex.zs (by omega)))
 have k4:=kn_S (refDivF ((h.ex.mul h.ex).zs (by omega)) (h.nn.zs (by omega)) h0)
 refine fX Tryz.func16 (by kernel_rfl) fun w00=>?_
 refine aB 56 _ (k1) (by kernel_rfl) Tryz.call56 ?_
 refine aB 58 _ (k3) (by kernel_rfl) Tryz.call58 ?_
 refine aB 52 _ (k0) (by kernel_rfl) Tryz.call52 ?_
 refine aB 57 _ (k2) (by kernel_rfl) Tryz.call57 ?_
 refine aB 55 _ (k4) (by kernel_rfl) Tryz.call55 ?_
 exact aO Tryz.func16 (by kernel_rfl)
theorem two_text:writeB ((2:Int):Rat)=⟨#[50]⟩:=dE (by omega) (bM (n:=2) (by omega))
theorem bq_two:Bq 1 ((2:Int):Rat):=bq_int (by omega) (by omega)
abbrev mr (n1 n2 n3:Int) (d p1 p2 p3:Rat) (p:Rat) (n:Int):Rat:=((2:Int):Rat)*ft n1 n2 n3 d p1 p2 p3 p n-p
theorem refMirrorF (h:Qh n1 n2 n3 d p1 p2 p3) (h0:nnR n1 n2 n3≠0):Fits Tryz.prog 17 [hL n1 n2 n3 (writeB d),vS p1 p2 p3] (vS (mr n1 n2 n3 d p1 p2 p3 p1 n1) (mr n1 n2 n3 d p1 p2 p3 p2 n2) (mr n1 n2 n3 d p1 p2 p3 p3 n3)):=by
 have k1:=refProjectF h h0
 have k2:=scaleQ bq_two h.f1 h.f2 h.f3 (by omega) (by omega)
 rw [two_text] at k2
 have k2:=Fits.args (l' := [lt ⟨#[50]⟩,_]) k2 fun β vs w ⟨v,r,e,h1,hr⟩=>⟨v,r,e,by rw [aN h1];exact bE,hr⟩
 have k3:=subVecR (kn_S (subR ((bq_two.mul h.f1).zs (by omega)) (h.p1.zs (by omega)))) (kn_S (subR ((bq_two.mul h.f2).zs (by omega)) (h.p2.zs (by omega)))) (kn_S (subR ((bq_two.mul h.f3).zs (by omega)) (h.p3.zs (by omega))))
 refine fX Tryz.func17 (by kernel_rfl) fun w00=>?_
 refine aB 15 _ (k1) (by kernel_rfl) Tryz.call15 ?_
 refine aB 54 _ (k2) (by kernel_rfl) Tryz.call54 ?_
 refine aB 53 _ (k3) (by kernel_rfl) Tryz.call53 ?_
 exact aO Tryz.func17 (by kernel_rfl)
abbrev mtR (n1 n2 n3:Int) (d p1 p2 p3 v1 v2 v3:Rat) (p v:Rat):Rat:=p-exR n1 n2 n3 d p1 p2 p3/dt (n1:Rat) n2 n3 v1 v2 v3*v
theorem refMeetF (h:Qh n1 n2 n3 d p1 p2 p3) (g:Qh n1 n2 n3 d v1 v2 v3) (h0:dt (n1:Rat) n2 n3 v1 v2 v3≠0) :
 Fits Tryz.prog 18 [hL n1 n2 n3 (writeB d),vS p1 p2 p3,vS v1 v2 v3] (.tup [.ag [dG (writeB (mtR n1 n2 n3 d p1 p2 p3 v1 v2 v3 p1 v1)),dG (writeB (mtR n1 n2 n3 d p1 p2 p3 v1 v2 v3 p2 v2)),dG (writeB (mtR n1 n2 n3 d p1 p2 p3 v1 v2 v3 p3 v3))],.sc (.lit (.bool true))]):=by
 have qk:Bq 122 (dt (n1:Rat) n2 n3 v1 v2 v3):=Bq.dt h.q1 h.q2 h.q3 g.p1 g.p2 g.p3 (by omega)
 have qw:=h.ex.div qk
 have k0:=normalF (s:=writeB d) h.m1 h.m2 h.m3
 have k1:=dotV h.q1 h.q2 h.q3 g.p1 g.p2 g.p3 (by omega)
 have k2:=isZeroT (eF (write_ne_zero (numr_ne h0)))
 have k3:=refValueF h
 have k4:=kn_S (refDivF (h.ex.zs (by omega)) (qk.zs (by omega)) h0)
 have k5:=scaleQ qw g.p1 g.p2 g.p3 (by omega) (by omega)
 have k6:=subVecR (kn_S (subR (h.p1.zs (by omega)) ((qw.mul g.p1).zs (by omega)))) (kn_S (subR (h.p2.zs (by omega)) ((qw.mul g.p2).zs (by omega)))) (kn_S (subR (h.p3.zs (by omega)) ((qw.mul g.p3).zs (by omega))))
 refine fX Tryz.func18 (by kernel_rfl) fun w00=>?_
 refine aB 52 _ (k0) (by kernel_rfl) Tryz.call52 ?_
 refine aB 59 _ (k1) (by kernel_rfl) Tryz.call59 ?_
 refine aB 60 _ (k2) (by kernel_rfl) Tryz.call60 ?_
 refine aB 56 _ (k3) (by kernel_rfl) Tryz.call56 ?_
 refine aB 55 _ (k4) (by kernel_rfl) Tryz.call55 ?_
 refine aB 54 _ (k5) (by kernel_rfl) Tryz.call54 ?_
 refine aB 53 _ (k6) (by kernel_rfl) Tryz.call53 ?_
 exact aO Tryz.func18 (by kernel_rfl)
theorem refMeetNoF (h:Qh n1 n2 n3 d v1 v2 v3) (h0:dt (n1:Rat) n2 n3 v1 v2 v3=0) :
 Fits Tryz.prog 18 [hL n1 n2 n3 (writeB d),vS p1 p2 p3,vS v1 v2 v3] (.tup [.ag [eT,eT,eT],.sc (.lit (.bool false))]):=by
 have k0:=normalF (s:=writeB d) h.m1 h.m2 h.m3
 have k1:=dotV h.q1 h.q2 h.q3 h.p1 h.p2 h.p3 (by omega)
 rw [h0] at k1
 have z:writeB (0:Rat)=⟨#[48]⟩:=w0
 have k2:=isZeroT (s:=writeB (0:Rat)) (r:=true) (by rw [z];exact beq_self_eq_true _)
 refine fX Tryz.func18 (by kernel_rfl) fun w00=>?_
 refine aB 52 _ (k0) (by kernel_rfl) Tryz.call52 ?_
 refine aB 59 _ (k1) (by kernel_rfl) Tryz.call59 ?_
 refine aB 60 _ (k2) (by kernel_rfl) Tryz.call60 ?_
 exact aO Tryz.func18 (by kernel_rfl)
end
section
variable {n1 n2 n3 z:Int} {s a b c x y u:ByteArray} {d v1 v2 v3 p1 p2 p3:Rat}
theorem apiProjectErrF (m:M3 n1 n2 n3) (h:Rb s) (k:Rb3 a b c) (hz:f2 (kh n1 n2 n3 s) (c3 a b c)=z) (h0:z≠0):FitsW Tryz.prog Gl 7 [hL n1 n2 n3 s,t3 a b c] (noV z):=by
 rcases show Eh z from hz▸f2_eh kh_eh (ev_eh (c3_ev _ _ _)) with rfl|rfl|rfl|rfl|rfl
 ·exact absurd rfl h0
 all_goals
  refine cJ Tryz.func7 (by kernel_rfl) fun w00 hG=>?_;have hI:=aU hG
  refine aJ hI 31 _ (readHVAny m h k hz) (by kernel_rfl) Tryz.call31 ?_
  exact aO Tryz.func7 (by kernel_rfl)
theorem apiDistanceErrF (m:M3 n1 n2 n3) (h:Rb s) (k:Rb3 a b c) (hz:f2 (kh n1 n2 n3 s) (c3 a b c)=z) (h0:z≠0):FitsW Tryz.prog Gl 8 [hL n1 n2 n3 s,t3 a b c] (noS z):=by
 rcases show Eh z from hz▸f2_eh kh_eh (ev_eh (c3_ev _ _ _)) with rfl|rfl|rfl|rfl|rfl
 ·exact absurd rfl h0
 all_goals
  refine cJ Tryz.func8 (by kernel_rfl) fun w00 hG=>?_;have hI:=aU hG
  refine aJ hI 31 _ (readHVAny m h k hz) (by kernel_rfl) Tryz.call31 ?_
  exact aO Tryz.func8 (by kernel_rfl)
theorem apiMirrorErrF (m:M3 n1 n2 n3) (h:Rb s) (k:Rb3 a b c) (hz:f2 (kh n1 n2 n3 s) (c3 a b c)=z) (h0:z≠0):FitsW Tryz.prog Gl 9 [hL n1 n2 n3 s,t3 a b c] (noV z):=by
 rcases show Eh z from hz▸f2_eh kh_eh (ev_eh (c3_ev _ _ _)) with rfl|rfl|rfl|rfl|rfl
 ·exact absurd rfl h0
 all_goals
  refine cJ Tryz.func9 (by kernel_rfl) fun w00 hG=>?_;have hI:=aU hG
  refine aJ hI 31 _ (readHVAny m h k hz) (by kernel_rfl) Tryz.call31 ?_
  exact aO Tryz.func9 (by kernel_rfl)
theorem apiMeetErrF (m:M3 n1 n2 n3) (h:Rb s) (k:Rb3 a b c) (l:Rb3 x y u) (hz:f2 (f2 (kh n1 n2 n3 s) (c3 a b c)) (c3 x y u)=z) (h0:z≠0):FitsW Tryz.prog Gl 6 [hL n1 n2 n3 s,t3 a b c,t3 x y u] (noV z):=by
 have e1:Eh (f2 (kh n1 n2 n3 s) (c3 a b c)):=f2_eh kh_eh (ev_eh (c3_ev _ _ _))
 rcases show Eh z from hz▸f2_eh e1 (ev_eh (c3_ev _ _ _)) with rfl|rfl|rfl|rfl|rfl
 ·exact absurd rfl h0
 all_goals
  refine cJ Tryz.func6 (by kernel_rfl) fun w00 hG=>?_;have hI:=aU hG
  refine aJ hI 31 _ (readHVAny m h k rfl) (by kernel_rfl) Tryz.call31 ?_
  refine aJ hI 33 _ (readVecAnyF l rfl) (by kernel_rfl) Tryz.call33 ?_
  refine aB 34 [.fv (.nsl 2 30 [lz (f2 (kh n1 n2 n3 s) (c3 a b c)),lz (c3 x y u)])] (first2Eh e1 (ev_eh (c3_ev _ _ _)) hz) (by kernel_rfl) Tryz.call34 ?_
  exact aO Tryz.func6 (by kernel_rfl)
theorem apiMeetNoneF (h:Hv n1 n2 n3 d) (k:Wr3 p1 p2 p3) (kv:Wr3 v1 v2 v3) (h0:dt (n1:Rat) n2 n3 v1 v2 v3=0):FitsW Tryz.prog Gl 6 [hS n1 n2 n3 d,vS p1 p2 p3,vS v1 v2 v3] (noV 7):=by
 have hd:=dotF (cH h.s1) (cH h.s2) (cH h.s3) (kv.1.lf.mono (by decide)) (kv.2.1.lf.mono (by decide)) (kv.2.2.lf.mono (by decide))
 have hi:decide (dt (n1:Rat) n2 n3 v1 v2 v3=0)=true:=decide_eq_true h0
 refine cJ Tryz.func6 (by kernel_rfl) fun w00 hG=>?_;have hI:=aU hG
 refine aJ hI 31 _ (readHV h k) (by kernel_rfl) Tryz.call31 ?_
 refine aJ hI 33 _ (fV kv) (by kernel_rfl) Tryz.call33 ?_
 refine aB 34 [.fv (.nsl 2 30 [z0,z0])] (fZ) (by kernel_rfl) Tryz.call34 ?_
 refine aB 35 _ (hd) (by kernel_rfl) Tryz.call35 ?_
 refine aB 36 _ (bS hi) (by kernel_rfl) Tryz.call36 ?_
 exact aO Tryz.func6 (by kernel_rfl)
end
theorem lawFirst2Eh {x y z:Int} (hx:Eh x) (hy:Eh y) (hz:f2 x y=z):Fits Tryz.prog 10 [.fv (.nsl 2 3 [lz x,lz y])] (it z):=by
 rcases hx with rfl|rfl|rfl|rfl|rfl
 ·have hz:y=z:=hz
  subst hz
  rcases hy with rfl|rfl|rfl|rfl|rfl <;> (refine kgoS Tryz.func10 (by kernel_rfl) fun w00=>?_;exact aO Tryz.func10 (by kernel_rfl))
 all_goals
  have hz:_=z:=hz
  subst hz
  refine kgoS Tryz.func10 (by kernel_rfl) fun w00=>?_
  exact aO Tryz.func10 (by kernel_rfl)
theorem refCheckHalfF {n1 n2 n3 z:Int} {s:ByteArray} (hs:s.size≤9223372036854775807) (hz:kh n1 n2 n3 s=z):Fits Tryz.prog 11 [hL n1 n2 n3 s] (it z) :=
 Fits.res (Fits.args (checkHalfF (k:=bX s) (kn_I (checkAnyF hs)) hz) fun β vs w ⟨v,r,e,h1,hr⟩=>⟨v,r,e,hL_A β v w h1,hr⟩) fun β v w k=>by
  rw [aP k];exact aX rfl
theorem hk_zero {a b c k:Int} (h:hkZ a b c k=0):¬ (a=0∧b=0∧c=0)∧¬ Bg a∧¬ Bg b∧¬ Bg c∧hkZ a b c 0=0∧k=0:=by
 unfold hkZ at h ⊢
 split at h
 ·exact absurd h (by decide)
 rename_i h0
 split at h
 ·exact absurd h (by decide)
 rename_i h1
 split at h
 ·exact absurd h (by decide)
 rename_i h2
 exact ⟨h0,fun e=>h1 (.inl e),fun e=>h1 (.inr (.inl e)),fun e=>h1 (.inr (.inr e)),by rw [if_neg h0,if_neg h1,if_neg h2],h⟩
theorem eh_bz {z:Int} (h:Eh z) (h0:z≠0):Bz z:=by
 rcases h with h|h|h|h|h
 ·exact absurd h h0
 ·simp [Bz,h]
 ·simp [Bz,h]
 ·simp [Bz,h]
 ·simp [Bz,h]
theorem way_facts {n1 n2 n3:Int} {d p1 p2 p3:Rat} (n0:nnR n1 n2 n3≠0):(∀ (p:Rat) (n:Int),p+dF n1 n2 n3 d p1 p2 p3*n=ft n1 n2 n3 d p1 p2 p3 p n) ∧
 (∀ (p:Rat) (n:Int),p+((2:Int):Rat)*(dF n1 n2 n3 d p1 p2 p3*n)=mr n1 n2 n3 d p1 p2 p3 p n) ∧
 dt (dF n1 n2 n3 d p1 p2 p3*n1) (dF n1 n2 n3 d p1 p2 p3*n2) (dF n1 n2 n3 d p1 p2 p3*n3) (dF n1 n2 n3 d p1 p2 p3*n1) (dF n1 n2 n3 d p1 p2 p3*n2) (dF n1 n2 n3 d p1 p2 p3*n3)=dsR n1 n2 n3 d p1 p2 p3:=by
 obtain ⟨w,hw⟩:∃ w,w=exR n1 n2 n3 d p1 p2 p3/nnR n1 n2 n3:=⟨_,rfl⟩
 have eW:dF n1 n2 n3 d p1 p2 p3 = -w:=by
  rw [hw]
  show -(_ - _)/_=_
  rw [Rat.div_def,Rat.div_def,Rat.neg_mul]
 have eE:exR n1 n2 n3 d p1 p2 p3=w*nnR n1 n2 n3:=by rw [hw,Rat.div_mul_cancel n0]
 have e2:((2:Int):Rat)=2:=rfl
 refine ⟨fun p n=>?_,fun p n=>?_,?_⟩
 ·rw [eW]
  show _=p-exR n1 n2 n3 d p1 p2 p3/nnR n1 n2 n3*n
  rw [← hw]
  grind
 ·rw [eW]
  show _=((2:Int):Rat)*(p-exR n1 n2 n3 d p1 p2 p3/nnR n1 n2 n3*n)-p
  rw [← hw,e2]
  grind
 ·rw [eW]
  show _=exR n1 n2 n3 d p1 p2 p3*exR n1 n2 n3 d p1 p2 p3/nnR n1 n2 n3
  rw [eE,Rat.div_def]
  have h1:nnR n1 n2 n3*(nnR n1 n2 n3)⁻¹=1:=Rat.mul_inv_cancel _ n0
  have h2:w*nnR n1 n2 n3*(w*nnR n1 n2 n3)*(nnR n1 n2 n3)⁻¹=w*w*nnR n1 n2 n3*(nnR n1 n2 n3*(nnR n1 n2 n3)⁻¹):=by grind
  rw [h2,h1]
  show dt (-w*(n1:Rat)) (-w*(n2:Rat)) (-w*(n3:Rat)) (-w*(n1:Rat)) (-w*(n2:Rat)) (-w*(n3:Rat))=w*w*dt (n1:Rat) n2 n3 n1 n2 n3*1
  unfold dt
  grind
section
variable {s a b c x y u:ByteArray}
theorem short_yes30 (h:Ss3 a b c) (k:Ss3 x y u):Fits Tryz.prog 5 [it 30,.fv (.nsl 2 27 [dG a,dG b,dG c,dG x,dG y,dG u])] (bl true):=by
 have e:(lo 30 a || lo 30 b || lo 30 c || lo 30 x || lo 30 y || lo 30 u)=false:=by
  simp only [lo]
  rw [lo_s h.1,lo_s h.2.1,lo_s h.2.2,lo_s k.1,lo_s k.2.1,lo_s k.2.2]
  rfl
 exact shortF e
end
section
variable {n1 n2 n3 z:Int} {s a b c x y u:ByteArray}
theorem feet_long1 (h:(lo 30 a || lo 30 b || lo 30 c || lo 30 x || lo 30 y || lo 30 u)=true):FitsW Tryz.prog Gl 3 [hL n1 n2 n3 s,t3 a b c,t3 x y u] (bl true):=by
 have hs:=shortF (T:=27) h
 refine cJ Tryz.func3 (by kernel_rfl) fun w00 hG=>?_;have hI:=aU hG
 refine aJ hI 4 [] (awakeF) (by kernel_rfl) Tryz.call4 ?_
 refine aB 5 _ (hs) (by kernel_rfl) Tryz.call5 ?_
 refine aJ hI 4 [] (awakeF) (by kernel_rfl) Tryz.call4 ?_
 exact aO Tryz.func3 (by kernel_rfl)
theorem feet_long2 (h:Ss3 a b c) (k:Ss3 x y u) (hc:decide ((30:Int)<(s.size:Nat))=true):FitsW Tryz.prog Gl 3 [hL n1 n2 n3 s,t3 a b c,t3 x y u] (bl true):=by
 have hs:=short_yes30 h k
 refine cJ Tryz.func3 (by kernel_rfl) fun w00 hG=>?_;have hI:=aU hG
 refine aJ hI 4 [] (awakeF) (by kernel_rfl) Tryz.call4 ?_
 refine aB 5 _ (hs) (by kernel_rfl) Tryz.call5 ?_
 refine klenT 29 23 Tryz.underlying23 s (by kernel_rfl) ?_
 refine kgt 30 s.size 30 true hc (by kernel_rfl) ?_
 refine aJ hI 4 [] (awakeF) (by kernel_rfl) Tryz.call4 ?_
 exact aO Tryz.func3 (by kernel_rfl)
set_option maxRecDepth 100000 in
theorem feet_bad1 (m:M3 n1 n2 n3) (hs' : Ss s) (h:Ss3 a b c) (k:Ss3 x y u) (hz:f2 (kh n1 n2 n3 s) (c3 a b c)=z) (h0:z≠0):FitsW Tryz.prog Gl 3 [hL n1 n2 n3 s,t3 a b c,t3 x y u] (bl true):=by
 have hc:=lo_s hs'
 have hs:=short_yes30 h k
 have rs:Rb s:=hs'.sl.rb
 have cX:=apiMeetErrF m rs h.sl.rb k.sl.rb (z:=z) (by rw [hz];exact f2_l h0) h0
 have cF:=apiProjectErrF m rs h.sl.rb hz h0
 have cD:=apiDistanceErrF m rs h.sl.rb hz h0
 have cM:=apiMirrorErrF m rs h.sl.rb hz h0
 have kH:=refCheckHalfF (n1:=n1) (n2:=n2) (n3:=n3) (s:=s) (by have h:s.size≤30:=hs';omega) rfl
 have kV:=eU h.sl rfl
 have kF:=lawFirst2Eh (kh_eh (n1:=n1) (n2:=n2) (n3:=n3) (s:=s)) (ev_eh (c3_ev a b c)) hz
 have he:Eh z:=hz▸f2_eh kh_eh (ev_eh (c3_ev _ _ _))
 have pB:=pointBad (eh_bz he h0)
 have nB:=numberBad (eh_bz he h0)
 clear hz rs h k hs' m
 generalize kh n1 n2 n3 s=z1 at *
 generalize c3 a b c=z2 at *
 rcases he with rfl|rfl|rfl|rfl|rfl
 ·exact absurd rfl h0
 all_goals
  refine cJ Tryz.func3 (by kernel_rfl) fun w00 hG=>?_;have hI:=aU hG
  refine aJ hI 4 [] (awakeF) (by kernel_rfl) Tryz.call4 ?_
  refine aB 5 _ (hs) (by kernel_rfl) Tryz.call5 ?_
  refine klenT 29 23 Tryz.underlying23 s (by kernel_rfl) ?_
  refine kgt 30 s.size 30 false hc (by kernel_rfl) ?_
  refine aJ hI 6 _ (cX) (by kernel_rfl) Tryz.call6 ?_
  refine aJ hI 7 _ (cF) (by kernel_rfl) Tryz.call7 ?_
  refine aJ hI 8 _ (cD) (by kernel_rfl) Tryz.call8 ?_
  refine aJ hI 9 _ (cM) (by kernel_rfl) Tryz.call9 ?_
  refine aB 11 _ (kH) (by kernel_rfl) Tryz.call11 ?_
  refine aB 12 _ (kV) (by kernel_rfl) Tryz.call12 ?_
  refine aB 10 _ (kF) (by kernel_rfl) Tryz.call10 ?_
  refine aB 13 _ (pB) (by kernel_rfl) Tryz.call13 ?_
  refine aB 13 _ (pB) (by kernel_rfl) Tryz.call13 ?_
  refine aB 14 _ (nB) (by kernel_rfl) Tryz.call14 ?_
  refine aB 13 _ (pB) (by kernel_rfl) Tryz.call13 ?_
  exact aO Tryz.func3 (by kernel_rfl)
end
section
variable {n1 n2 n3 z:Int} {d p1 p2 p3 v1 v2 v3:Rat} {x y u:ByteArray}
set_option maxRecDepth 100000 in
theorem feet_bad2 (q:Qh n1 n2 n3 d p1 p2 p3) (hs' : Ss (writeB d)) (h:Ss3 (writeB p1) (writeB p2) (writeB p3)) (k:Ss3 x y u) (hk:kh n1 n2 n3 (writeB d)=0) (hp:c3 (writeB p1) (writeB p2) (writeB p3)=0) (hz:c3 x y u=z) (h0:B14 z) :
 FitsW Tryz.prog Gl 3 [hL n1 n2 n3 (writeB d),vS p1 p2 p3,t3 x y u] (bl true):=by
 have m:M3 n1 n2 n3:=⟨q.m1,q.m2,q.m3⟩
 obtain ⟨z00,b1,b2,b3,hk0,hd0⟩:=hk_zero hk
 have hc:=lo_s hs'
 have hs:=short_yes30 h k
 have rs:Rb (writeB d):=hs'.sl.rb
 have n0:nnR n1 n2 n3≠0:=nn_pos z00
 have wd:Wr d:=q.d.wr (by omega)
 have wp:Wr3 p1 p2 p3:=⟨q.p1.wr (by omega),q.p2.wr (by omega),q.p3.wr (by omega)⟩
 have hv:Hv n1 n2 n3 d:=⟨by unfold Bg at b1;constructor <;> omega,by unfold Bg at b2;constructor <;> omega,by unfold Bg at b3;constructor <;> omega,wd,checkNormalAny hk0⟩
 obtain ⟨eW,eM,eD⟩:=way_facts (n1:=n1) (n2:=n2) (n3:=n3) (d:=d) (p1:=p1) (p2:=p2) (p3:=p3) n0
 have wF:Wr3 (ft n1 n2 n3 d p1 p2 p3 p1 n1) (ft n1 n2 n3 d p1 p2 p3 p2 n2) (ft n1 n2 n3 d p1 p2 p3 p3 n3):=⟨q.f1.wr (by omega),q.f2.wr (by omega),q.f3.wr (by omega)⟩
 have wM:Wr3 (mr n1 n2 n3 d p1 p2 p3 p1 n1) (mr n1 n2 n3 d p1 p2 p3 p2 n2) (mr n1 n2 n3 d p1 p2 p3 p3 n3):=⟨((bq_two.mul q.f1).sub q.p1).wr (by omega),((bq_two.mul q.f2).sub q.p2).wr (by omega),((bq_two.mul q.f3).sub q.p3).wr (by omega)⟩
 have wD:Wr (dsR n1 n2 n3 d p1 p2 p3):=q.ds.wr (by omega)
 have cF:=apiProjectF hv wp n0 (eW p1 n1) (eW p2 n2) (eW p3 n3) wF
 have cD:=apiDistanceF hv wp n0 eD wD
 have cM:=apiMirrorF hv wp n0 (eM p1 n1) (eM p2 n2) (eM p3 n3) wM
 have kH:=refCheckHalfF (n1:=n1) (n2:=n2) (n3:=n3) (s:=writeB d) (by have h:(writeB d).size≤30:=hs';omega) hk
 have kV:=eU h.sl hp
 have kF:=lawFirst2Eh (x:=0) (y:=0) (.inl rfl) (.inl rfl) (f2_r rfl)
 have rF:=refProjectF q n0
 have pF:=pointOk wF
 have rD:=refDistanceF q n0
 have nD:=numberOk wD
 have rM:=refMirrorF q n0
 have pM:=pointOk wM
 have cX:=apiMeetErrF m rs h.sl.rb k.sl.rb (z:=z) (by rw [hk,hp];exact (f2_r (f2_r rfl)).trans hz) (b_ne h0)
 have kD:=eU k.sl hz
 have pX:=pointBad (b_4 h0)
 clear q hs' h k hk hp m b1 b2 b3 hk0 hd0 z00 rs n0 wd wp hv eW eM eD wF wM wD hz
 rcases h0 with rfl|rfl
 all_goals
  refine cJ Tryz.func3 (by kernel_rfl) fun w00 hG=>?_;have hI:=aU hG
  refine aJ hI 4 [] (awakeF) (by kernel_rfl) Tryz.call4 ?_
  refine aB 5 _ (hs) (by kernel_rfl) Tryz.call5 ?_
  refine klenT 29 23 Tryz.underlying23 (writeB d) (by kernel_rfl) ?_
  refine kgt 30 (writeB d).size 30 false hc (by kernel_rfl) ?_
  refine aJ hI 6 _ (cX) (by kernel_rfl) Tryz.call6 ?_
  refine aJ hI 7 _ (cF) (by kernel_rfl) Tryz.call7 ?_
  refine aJ hI 8 _ (cD) (by kernel_rfl) Tryz.call8 ?_
  refine aJ hI 9 _ (cM) (by kernel_rfl) Tryz.call9 ?_
  refine aB 11 _ (kH) (by kernel_rfl) Tryz.call11 ?_
  refine aB 12 _ (kV) (by kernel_rfl) Tryz.call12 ?_
  refine aB 10 _ (kF) (by kernel_rfl) Tryz.call10 ?_
  refine aB 15 _ (rF) (by kernel_rfl) Tryz.call15 ?_
  refine aB 13 _ (pF) (by kernel_rfl) Tryz.call13 ?_
  refine aB 16 _ (rD) (by kernel_rfl) Tryz.call16 ?_
  refine aB 14 _ (nD) (by kernel_rfl) Tryz.call14 ?_
  refine aB 17 _ (rM) (by kernel_rfl) Tryz.call17 ?_
  refine aB 13 _ (pM) (by kernel_rfl) Tryz.call13 ?_
  refine aB 12 _ (kD) (by kernel_rfl) Tryz.call12 ?_
  refine aB 13 _ (pX) (by kernel_rfl) Tryz.call13 ?_
  exact aO Tryz.func3 (by kernel_rfl)
set_option maxRecDepth 100000 in
theorem feet_none (q:Qh n1 n2 n3 d p1 p2 p3) (g:Qh n1 n2 n3 d v1 v2 v3) (hs' : Ss (writeB d)) (h:Ss3 (writeB p1) (writeB p2) (writeB p3)) (k:Ss3 (writeB v1) (writeB v2) (writeB v3)) (hk:kh n1 n2 n3 (writeB d)=0) (hp:c3 (writeB p1) (writeB p2) (writeB p3)=0) (hz:c3 (writeB v1) (writeB v2) (writeB v3)=0) (h0:dt (n1:Rat) n2 n3 v1 v2 v3=0) :
 FitsW Tryz.prog Gl 3 [hL n1 n2 n3 (writeB d),vS p1 p2 p3,vS v1 v2 v3] (bl true):=by
 have m:M3 n1 n2 n3:=⟨q.m1,q.m2,q.m3⟩
 obtain ⟨z00,b1,b2,b3,hk0,hd0⟩:=hk_zero hk
 have hc:=lo_s hs'
 have hs:=short_yes30 h k
 have rs:Rb (writeB d):=hs'.sl.rb
 have n0:nnR n1 n2 n3≠0:=nn_pos z00
 have wd:Wr d:=q.d.wr (by omega)
 have wp:Wr3 p1 p2 p3:=⟨q.p1.wr (by omega),q.p2.wr (by omega),q.p3.wr (by omega)⟩
 have hv:Hv n1 n2 n3 d:=⟨by unfold Bg at b1;constructor <;> omega,by unfold Bg at b2;constructor <;> omega,by unfold Bg at b3;constructor <;> omega,wd,checkNormalAny hk0⟩
 obtain ⟨eW,eM,eD⟩:=way_facts (n1:=n1) (n2:=n2) (n3:=n3) (d:=d) (p1:=p1) (p2:=p2) (p3:=p3) n0
 have wF:Wr3 (ft n1 n2 n3 d p1 p2 p3 p1 n1) (ft n1 n2 n3 d p1 p2 p3 p2 n2) (ft n1 n2 n3 d p1 p2 p3 p3 n3):=⟨q.f1.wr (by omega),q.f2.wr (by omega),q.f3.wr (by omega)⟩
 have wM:Wr3 (mr n1 n2 n3 d p1 p2 p3 p1 n1) (mr n1 n2 n3 d p1 p2 p3 p2 n2) (mr n1 n2 n3 d p1 p2 p3 p3 n3):=⟨((bq_two.mul q.f1).sub q.p1).wr (by omega),((bq_two.mul q.f2).sub q.p2).wr (by omega),((bq_two.mul q.f3).sub q.p3).wr (by omega)⟩
 have wD:Wr (dsR n1 n2 n3 d p1 p2 p3):=q.ds.wr (by omega)
 have cF:=apiProjectF hv wp n0 (eW p1 n1) (eW p2 n2) (eW p3 n3) wF
 have cD:=apiDistanceF hv wp n0 eD wD
 have cM:=apiMirrorF hv wp n0 (eM p1 n1) (eM p2 n2) (eM p3 n3) wM
 have kH:=refCheckHalfF (n1:=n1) (n2:=n2) (n3:=n3) (s:=writeB d) (by have h:(writeB d).size≤30:=hs';omega) hk
 have kV:=eU h.sl hp
 have kF:=lawFirst2Eh (x:=0) (y:=0) (.inl rfl) (.inl rfl) (f2_r rfl)
 have rF:=refProjectF q n0
 have pF:=pointOk wF
 have rD:=refDistanceF q n0
 have nD:=numberOk wD
 have rM:=refMirrorF q n0
 have pM:=pointOk wM
 have wv:Wr3 v1 v2 v3:=⟨g.p1.wr (by omega),g.p2.wr (by omega),g.p3.wr (by omega)⟩
 have cX:=apiMeetNoneF hv wp wv h0
 have kD:=eU k.sl hz
 have kM:=refMeetNoF (p1:=p1) (p2:=p2) (p3:=p3) g h0
 have pX:=pointBad (z:=7) (by decide)
 clear q hs' h k hk hp m b1 b2 b3 hk0 hd0 z00 rs n0 wd wp hv eW eM eD wF wM wD g wv hz h0
 ·skip
  refine cJ Tryz.func3 (by kernel_rfl) fun w00 hG=>?_;have hI:=aU hG
  refine aJ hI 4 [] (awakeF) (by kernel_rfl) Tryz.call4 ?_
  refine aB 5 _ (hs) (by kernel_rfl) Tryz.call5 ?_
  refine klenT 29 23 Tryz.underlying23 (writeB d) (by kernel_rfl) ?_
  refine kgt 30 (writeB d).size 30 false hc (by kernel_rfl) ?_
  refine aJ hI 6 _ (cX) (by kernel_rfl) Tryz.call6 ?_
  refine aJ hI 7 _ (cF) (by kernel_rfl) Tryz.call7 ?_
  refine aJ hI 8 _ (cD) (by kernel_rfl) Tryz.call8 ?_
  refine aJ hI 9 _ (cM) (by kernel_rfl) Tryz.call9 ?_
  refine aB 11 _ (kH) (by kernel_rfl) Tryz.call11 ?_
  refine aB 12 _ (kV) (by kernel_rfl) Tryz.call12 ?_
  refine aB 10 _ (kF) (by kernel_rfl) Tryz.call10 ?_
  refine aB 15 _ (rF) (by kernel_rfl) Tryz.call15 ?_
  refine aB 13 _ (pF) (by kernel_rfl) Tryz.call13 ?_
  refine aB 16 _ (rD) (by kernel_rfl) Tryz.call16 ?_
  refine aB 14 _ (nD) (by kernel_rfl) Tryz.call14 ?_
  refine aB 17 _ (rM) (by kernel_rfl) Tryz.call17 ?_
  refine aB 13 _ (pM) (by kernel_rfl) Tryz.call13 ?_
  refine aB 12 _ (kD) (by kernel_rfl) Tryz.call12 ?_
  refine aB 18 _ (kM) (by kernel_rfl) Tryz.call18 ?_
  refine aB 13 _ (pX) (by kernel_rfl) Tryz.call13 ?_
  exact aO Tryz.func3 (by kernel_rfl)
set_option maxRecDepth 100000 in
theorem feet_ok (q:Qh n1 n2 n3 d p1 p2 p3) (g:Qh n1 n2 n3 d v1 v2 v3) (hs' : Ss (writeB d)) (h:Ss3 (writeB p1) (writeB p2) (writeB p3)) (k:Ss3 (writeB v1) (writeB v2) (writeB v3)) (hk:kh n1 n2 n3 (writeB d)=0) (hp:c3 (writeB p1) (writeB p2) (writeB p3)=0) (hz:c3 (writeB v1) (writeB v2) (writeB v3)=0) (h0:dt (n1:Rat) n2 n3 v1 v2 v3≠0) :
 FitsW Tryz.prog Gl 3 [hL n1 n2 n3 (writeB d),vS p1 p2 p3,vS v1 v2 v3] (bl true):=by
 have m:M3 n1 n2 n3:=⟨q.m1,q.m2,q.m3⟩
 obtain ⟨z00,b1,b2,b3,hk0,hd0⟩:=hk_zero hk
 have hc:=lo_s hs'
 have hs:=short_yes30 h k
 have rs:Rb (writeB d):=hs'.sl.rb
 have n0:nnR n1 n2 n3≠0:=nn_pos z00
 have wd:Wr d:=q.d.wr (by omega)
 have wp:Wr3 p1 p2 p3:=⟨q.p1.wr (by omega),q.p2.wr (by omega),q.p3.wr (by omega)⟩
 have hv:Hv n1 n2 n3 d:=⟨by unfold Bg at b1;constructor <;> omega,by unfold Bg at b2;constructor <;> omega,by unfold Bg at b3;constructor <;> omega,wd,checkNormalAny hk0⟩
 obtain ⟨eW,eM,eD⟩:=way_facts (n1:=n1) (n2:=n2) (n3:=n3) (d:=d) (p1:=p1) (p2:=p2) (p3:=p3) n0
 have wF:Wr3 (ft n1 n2 n3 d p1 p2 p3 p1 n1) (ft n1 n2 n3 d p1 p2 p3 p2 n2) (ft n1 n2 n3 d p1 p2 p3 p3 n3):=⟨q.f1.wr (by omega),q.f2.wr (by omega),q.f3.wr (by omega)⟩
 have wM:Wr3 (mr n1 n2 n3 d p1 p2 p3 p1 n1) (mr n1 n2 n3 d p1 p2 p3 p2 n2) (mr n1 n2 n3 d p1 p2 p3 p3 n3):=⟨((bq_two.mul q.f1).sub q.p1).wr (by omega),((bq_two.mul q.f2).sub q.p2).wr (by omega),((bq_two.mul q.f3).sub q.p3).wr (by omega)⟩
 have wD:Wr (dsR n1 n2 n3 d p1 p2 p3):=q.ds.wr (by omega)
 have cF:=apiProjectF hv wp n0 (eW p1 n1) (eW p2 n2) (eW p3 n3) wF
 have cD:=apiDistanceF hv wp n0 eD wD
 have cM:=apiMirrorF hv wp n0 (eM p1 n1) (eM p2 n2) (eM p3 n3) wM
 have kH:=refCheckHalfF (n1:=n1) (n2:=n2) (n3:=n3) (s:=writeB d) (by have h:(writeB d).size≤30:=hs';omega) hk
 have kV:=eU h.sl hp
 have kF:=lawFirst2Eh (x:=0) (y:=0) (.inl rfl) (.inl rfl) (f2_r rfl)
 have rF:=refProjectF q n0
 have pF:=pointOk wF
 have rD:=refDistanceF q n0
 have nD:=numberOk wD
 have rM:=refMirrorF q n0
 have pM:=pointOk wM
 have wv:Wr3 v1 v2 v3:=⟨g.p1.wr (by omega),g.p2.wr (by omega),g.p3.wr (by omega)⟩
 have qk:Bq 122 (dt (n1:Rat) n2 n3 v1 v2 v3):=Bq.dt q.q1 q.q2 q.q3 g.p1 g.p2 g.p3 (by omega)
 have qw:=q.ex.div qk
 have wX:Wr3 (mtR n1 n2 n3 d p1 p2 p3 v1 v2 v3 p1 v1) (mtR n1 n2 n3 d p1 p2 p3 v1 v2 v3 p2 v2) (mtR n1 n2 n3 d p1 p2 p3 v1 v2 v3 p3 v3):=⟨(q.p1.sub (qw.mul g.p1)).wr (by omega),(q.p2.sub (qw.mul g.p2)).wr (by omega),(q.p3.sub (qw.mul g.p3)).wr (by omega)⟩
 have cX:=apiMeetF hv wp wv h0 rfl rfl rfl wX
 have kD:=eU k.sl hz
 have kM:=refMeetF q g h0
 have pX:=pointOk wX
 clear q hs' h k hk hp m b1 b2 b3 hk0 hd0 z00 rs n0 wd wp hv eW eM eD wF wM wD g wv qk qw wX hz h0
 ·skip
  refine cJ Tryz.func3 (by kernel_rfl) fun w00 hG=>?_;have hI:=aU hG
  refine aJ hI 4 [] (awakeF) (by kernel_rfl) Tryz.call4 ?_
  refine aB 5 _ (hs) (by kernel_rfl) Tryz.call5 ?_
  refine klenT 29 23 Tryz.underlying23 (writeB d) (by kernel_rfl) ?_
  refine kgt 30 (writeB d).size 30 false hc (by kernel_rfl) ?_
  refine aJ hI 6 _ (cX) (by kernel_rfl) Tryz.call6 ?_
  refine aJ hI 7 _ (cF) (by kernel_rfl) Tryz.call7 ?_
  refine aJ hI 8 _ (cD) (by kernel_rfl) Tryz.call8 ?_
  refine aJ hI 9 _ (cM) (by kernel_rfl) Tryz.call9 ?_
  refine aB 11 _ (kH) (by kernel_rfl) Tryz.call11 ?_
  refine aB 12 _ (kV) (by kernel_rfl) Tryz.call12 ?_
  refine aB 10 _ (kF) (by kernel_rfl) Tryz.call10 ?_
  refine aB 15 _ (rF) (by kernel_rfl) Tryz.call15 ?_
  refine aB 13 _ (pF) (by kernel_rfl) Tryz.call13 ?_
  refine aB 16 _ (rD) (by kernel_rfl) Tryz.call16 ?_
  refine aB 14 _ (nD) (by kernel_rfl) Tryz.call14 ?_
  refine aB 17 _ (rM) (by kernel_rfl) Tryz.call17 ?_
  refine aB 13 _ (pM) (by kernel_rfl) Tryz.call13 ?_
  refine aB 12 _ (kD) (by kernel_rfl) Tryz.call12 ?_
  refine aB 18 _ (kM) (by kernel_rfl) Tryz.call18 ?_
  refine aB 13 _ (pX) (by kernel_rfl) Tryz.call13 ?_
  exact aO Tryz.func3 (by kernel_rfl)
end
theorem qh_of {n1 n2 n3:Int} {d p1 p2 p3:Rat} (m:M3 n1 n2 n3) (hk:kh n1 n2 n3 (writeB d)=0) (qd:Bq 30 d) (q1:Bq 30 p1) (q2:Bq 30 p2) (q3:Bq 30 p3):Qh n1 n2 n3 d p1 p2 p3:=by
 obtain ⟨_,b1,b2,b3,_⟩:=hk_zero hk
 unfold Bg at b1 b2 b3
 exact ⟨m.1,m.2.1,m.2.2,bq_int (by omega) (by omega),bq_int (by omega) (by omega),bq_int (by omega) (by omega),qd,q1,q2,q3⟩
theorem feetF (n1 n2 n3:Int) (m:M3 n1 n2 n3) (s a b c x y u:ByteArray):FitsW Tryz.prog Gl 3 [hL n1 n2 n3 s,t3 a b c,t3 x y u] (bl true):=by
 cases hl:(lo 30 a || lo 30 b || lo 30 c || lo 30 x || lo 30 y || lo 30 u) with
 | true=>exact feet_long1 hl
 | false =>
   simp only [Bool.or_eq_false_iff,lo,decide_eq_false_iff_not] at hl
   obtain ⟨⟨⟨⟨⟨l1,l2⟩,l3⟩,l4⟩,l5⟩,l6⟩:=hl
   have h:Ss3 a b c:=⟨by show a.size≤30;omega,by show b.size≤30;omega,by show c.size≤30;omega⟩
   have k:Ss3 x y u:=⟨by show x.size≤30;omega,by show y.size≤30;omega,by show u.size≤30;omega⟩
   cases hc:decide ((30:Int)<(s.size:Nat)) with
   | true=>exact feet_long2 h k hc
   | false =>
     have hs:Ss s:=by have:=of_decide_eq_false hc;show s.size≤30;omega
     by_cases hz:f2 (kh n1 n2 n3 s) (c3 a b c)=0
     ·obtain ⟨hk,hp⟩:=f2_zero hz
      obtain ⟨d,rfl,qd⟩:=slwN (n:=30) hs (by omega) (hk_zero hk).2.2.2.2.2
      obtain ⟨p1,p2,p3,rfl,rfl,rfl,q1,q2,q3⟩:=slwN3 (n:=30) h.1 h.2.1 h.2.2 (by omega) hp
      have q:=qh_of m hk qd q1 q2 q3
      by_cases hd:c3 x y u=0
      ·obtain ⟨v1,v2,v3,rfl,rfl,rfl,r1,r2,r3⟩:=slwN3 (n:=30) k.1 k.2.1 k.2.2 (by omega) hd
       have g:=qh_of m hk qd r1 r2 r3
       by_cases h0:dt (n1:Rat) n2 n3 v1 v2 v3=0
       ·exact feet_none q g hs h k hk hp hd h0
       ·exact feet_ok q g hs h k hk hp hd h0
      ·exact feet_bad2 q hs h k hk hp rfl (ev_b (c3_ev _ _ _) hd)
     ·exact feet_bad1 m hs h k rfl hz
end Go.Proofs.YtofcdondmgojiaaGreatDoor.Ab
namespace Go.Proofs.YtofcdondmgojiaaGreatDoor.Ab
open Go.ChangeShapes Go.WideShapes Go.ChangeAt Go.RowKit Go.Proofs.YtofcdondmgojiaaGreatDoor
theorem gPow:Tryz.prog.globalNamed "internal/strconv.uint64pow10" = some 5:=by kernel_rfl
theorem gl_of {W:World} {r:List (String×DataW Unit)} (h:laidMet Tryz.prog (("internal/strconv.uint64pow10",Lib.tabData .u64 Lib.pow10Tab)::r) W) (hs:W.ShapedOpen Tryz.prog):Gl W :=
 ⟨Lib.tabIs_of_head (t:=289) (e:=151) (n:=20) gPow (by kernel_rfl) (by kernel_rfl) (by kernel_rfl) (by kernel_rfl) (by kernel_rfl) h,
  Go.Proofs.cell_of_shapedOpen_int (zero := #[.int .i64 0]) (t:=3) hs (of_decide_eq_true (by kernel_rfl)) (by kernel_rfl) rfl (by kernel_rfl) (by kernel_rfl) (by kernel_rfl)⟩
theorem hold_t3 {β:List Nat} {a b c:ByteArray} {w:World}:(t3 a b c).holds β (.agg #[.string a,.string b,.string c]) w :=
 ⟨[.string a,.string b,.string c],rfl,[.string a],_,rfl,rfl,[.string b],_,rfl,rfl,[.string c],_,rfl,rfl,rfl⟩
end Go.Proofs.YtofcdondmgojiaaGreatDoor.Ab
namespace Go.Proofs.YtofcdondmgojiaaGreatDoor.Ab
open Go.ChangeShapes Go.WideShapes Go.RowKit
def kindAt (P:Program):Nat→TypeId→Nat→Option Bool
 | 0,_,_=>none
 | d+1,T,i=>match P.underlying T with
   | some (.int .i64)=>if i=0 then some false else none
   | some .string=>if i=0 then some true else none
   | some (.array n e)=>if 0<P.cellsOf e∧i/P.cellsOf e<n then kindAt P d e (i%P.cellsOf e) else none
   | some (.struct fs)=>(fs.toList.find? fun f=>decide (f.offset≤i∧i<f.offset+P.cellsOf f.type)).bind fun f=>kindAt P d f.type (i-f.offset)
   | _=>none
def isKind:Bool→Value→Prop
 | true,c => ∃ s:ByteArray,c = .string s∧s.size≤maxLen
 | false,c => ∃ n:Int,c = .int .i64 n∧(Lit.int .i64 n).wf=true
section
variable {H:Type} {enc:TypeId×Value→H} {P:Program} {w:World} {base:Nat} {spare:Nat→Bool} {held:Bool}
theorem piece {cs:List Value} {o n r:Nat} {c:Value} (h:((cs.drop o).take n)[r]?=some c):cs[o+r]?=some c:=by
 rw [List.getElem?_take] at h
 split at h
 ·rw [List.getElem?_drop] at h;exact h
 ·cases h
theorem trod_kind:∀ (d:Nat) {T:TypeId} {fuel i:Nat} {cs:List Value} {x:DataW H×List MemPlace} {k:Bool},DataW.trod enc P w base spare held fuel T cs=some x→kindAt P d T i=some k→∃ c,cs[i]?=some c∧isKind k c:=by
 intro d
 induction d with
 | zero=>intro T fuel i cs x k _ hk;cases hk
 | succ d ih =>
   intro T fuel i cs x k h hk
   unfold kindAt at hk
   split at hk
   ·rename_i hu
    split at hk <;> cases hk
    rename_i h0
    subst h0
    cases fuel with
    | zero=>cases h
    | succ m =>
      unfold DataW.trod at h
      rw [hu] at h
      split at h <;> simp_all
      obtain ⟨⟨_,hw⟩,_⟩:=h
      cases ‹IntKind.i64=_›
      exact ⟨_,rfl,hw⟩
   ·rename_i hu
    split at hk <;> cases hk
    rename_i h0
    subst h0
    cases fuel with
    | zero=>cases h
    | succ m =>
      unfold DataW.trod at h
      rw [hu] at h
      split at h <;> simp_all
      exact ⟨_,rfl,h.1⟩
   ·rename_i n e hu
    split at hk
    ·rename_i hi
     obtain ⟨xs,m,_,_,_,hlen,hat⟩:=DataW.trod_array hu h
     have hq:=hat (i/P.cellsOf e) hi.2
     rw [List.getElem?_eq_getElem (by omega)] at hq
     obtain ⟨c,hc,hk'⟩:=ih hq hk
     refine ⟨c,?_,hk'⟩
     have:=piece hc
     rw [Nat.mul_comm,Nat.div_add_mod] at this
     exact this
    ·cases hk
   ·rename_i fs hu
    rw [Option.bind_eq_some_iff] at hk
    obtain ⟨f,hf,hk⟩:=hk
    have hp:=List.find?_some hf
    simp only [decide_eq_true_eq] at hp
    obtain ⟨j,hj,hje⟩:=List.getElem_of_mem (List.mem_of_find?_eq_some hf)
    obtain ⟨xs,n,_,_,_,hlen,hat⟩:=DataW.trod_struct hu h
    have hq:=hat j f (by rw [← hje];simp)
    rw [List.getElem?_eq_getElem (by simp at hj;omega)] at hq
    obtain ⟨c,hc,hk'⟩:=ih hq hk
    refine ⟨c,?_,hk'⟩
    have:=piece hc
    rw [show f.offset+(i-f.offset)=i by omega] at this
    exact this
   ·cases hk
def plainT (P:Program):Nat→TypeId→Bool
 | 0,_=>false
 | d+1,T=>match P.underlying T with
   | some (.int _)|some .string=>true
   | some (.array _ e)=>plainT P d e
   | some (.struct fs)=>fs.toList.all fun f=>plainT P d f.type
   | _=>false
theorem mapM_same {α β:Type} {f g:α→Option (β×List MemPlace)}:∀ {l:List α} {xs:List (β×List MemPlace)},l.mapM f=some xs→(∀ a∈l,∀ x,f a=some x→g a=some x∧x.2 = [])→l.mapM g=some xs∧xs.flatMap (·.2) = []
 | [],xs,h,_=>by simp at h;subst h;exact ⟨rfl,rfl⟩
 | a::l,xs,h,hs=>by
   rw [List.mapM_cons] at h
   simp only [bind,Option.bind_eq_some_iff,pure,Option.some.injEq] at h
   obtain ⟨y,hy,ys,hys,rfl⟩:=h
   obtain ⟨g1,g2⟩:=hs a (by simp) y hy
   obtain ⟨i1,i2⟩:=mapM_same hys fun b hb=>hs b (by simp [hb])
   exact ⟨by rw [List.mapM_cons,g1,i1];rfl,by simp [g2,i2]⟩
def SameRead (enc:TypeId×Value→H) (P:Program) (w:World) (base:Nat) (spare:Nat→Bool) (held:Bool) (w' : World) (base' : Nat) (spare' : Nat→Bool) (d:Nat):Prop :=
 ∀ (T:TypeId) (fuel:Nat) (cs:List Value) (x:DataW H×List MemPlace),plainT P d T=true→DataW.trod enc P w base spare held fuel T cs=some x→DataW.trod enc P w' base' spare' held fuel T cs=some x∧x.2 = []
theorem trod_plain {w' : World} {base' : Nat} {spare' : Nat→Bool}:∀ d:Nat,SameRead enc P w base spare held w' base' spare' d:=by
 intro d
 induction d with
 | zero=>intro T fuel cs x hp;cases hp
 | succ d ih =>
   intro T fuel cs x hp h
   cases fuel with
   | zero=>cases h
   | succ m =>
     unfold plainT at hp
     unfold DataW.trod at h ⊢
     split at hp
     ·rename_i hu
      rw [hu] at h ⊢
      split at h <;> simp_all <;> (obtain ⟨_,h⟩:=h;rw [← h])
     ·rename_i hu
      rw [hu] at h ⊢
      split at h <;> simp_all <;> (obtain ⟨_,h⟩:=h;rw [← h])
     ·rename_i hu
      rw [hu] at h ⊢
      split at h <;> simp_all
      obtain ⟨hl,xs,hxs,rfl⟩:=h
      obtain ⟨g1,g2⟩:=mapM_same hxs fun a _ x hx=>ih _ _ _ _ hp hx
      exact ⟨⟨xs,g1,rfl⟩,g2⟩
     ·rename_i hu
      rw [hu] at h ⊢
      split at h <;> simp_all
      obtain ⟨hl,xs,hxs,rfl⟩:=h
      obtain ⟨g1,g2⟩:=mapM_same hxs fun a ha x hx=>ih _ _ _ _ (by obtain ⟨j,hj,rfl⟩:=List.getElem_of_mem ha;simpa using hp j (by simpa using hj)) hx
      exact ⟨⟨xs,g1,rfl⟩,g2⟩
     ·cases hp
theorem Trod_plain {w' : World} {base' : Nat} {spare' : Nat→Bool} {T:TypeId} {v:Value} {D:DataW H} {p:List MemPlace} (hp:plainT P 10 T=true) (h:DataW.Trod enc P w base spare held T v D p):p = []∧DataW.Trod enc P w' base' spare' held T v D []:=by
 obtain ⟨fuel,hf⟩:=h
 obtain ⟨h1,h2⟩:=trod_plain (w':=w') (base':=base') (spare':=spare') 10 _ _ _ _ hp hf
 simp only at h2
 subst h2
 exact ⟨rfl,fuel,h1⟩
theorem agg_of {r:Reach} {b0 n:Nat} {T:TypeId} {v:Value} (hu:(match P.underlying T with|some (.struct _)|some (.array _ _)=>true|_=>false)=true) (hC:P.cellsOf T=n) (hv:Value.okWide P w r b0 T v):∃ cs:Array Value,v = .agg cs∧cs.size=n:=by
 split at hu
 ·rename_i hs
  simp only [Value.okWide,hs] at hv
  obtain ⟨cs,h1,h2,_⟩:=hv
  exact ⟨cs,h1,h2.trans hC⟩
 ·rename_i hs
  simp only [Value.okWide,hs] at hv
  obtain ⟨cs,h1,h2,_⟩:=hv
  exact ⟨cs,h1,h2.trans hC⟩
 ·cases hu
theorem cell_at {T:TypeId} {cs:Array Value} {D:DataW H} {p:List MemPlace} {k:Bool} (i:Nat) (h:DataW.Trod enc P w base spare held T (.agg cs) D p) (hk:kindAt P 10 T i=some k):∃ c,cs[i]?=some c∧isKind k c:=by
 obtain ⟨fuel,hf⟩:=h
 obtain ⟨c,h1,h2⟩:=trod_kind 10 hf hk
 exact ⟨c,by simpa [Value.cells] using h1,h2⟩
theorem open_vec {r:Reach} {b0:Nat} {T:TypeId} {v:Value} {D:DataW H} {p:List MemPlace} (hu:(match P.underlying T with|some (.struct _)|some (.array _ _)=>true|_=>false)=true) (hC:P.cellsOf T=3)
 (hk:(kindAt P 10 T 0,kindAt P 10 T 1,kindAt P 10 T 2)=(some true,some true,some true)) (hv:Value.okWide P w r b0 T v) (h:DataW.Trod enc P w base spare held T v D p):∃ a b c:ByteArray,v = .agg #[.string a,.string b,.string c]∧a.size≤maxLen∧b.size≤maxLen∧c.size≤maxLen:=by
 simp only [Prod.mk.injEq] at hk
 obtain ⟨cs,rfl,hs⟩:=agg_of hu hC hv
 obtain ⟨c0,c1,c2,rfl⟩:∃ c0 c1 c2,cs = #[c0,c1,c2]:=by
  obtain ⟨l⟩:=cs
  match l,hs with
  | [c0,c1,c2],_=>exact ⟨c0,c1,c2,rfl⟩
 obtain ⟨_,e0,a,rfl,ha⟩:=cell_at 0 h hk.1
 obtain ⟨_,e1,b,rfl,hb⟩:=cell_at 1 h hk.2.1
 obtain ⟨_,e2,c,rfl,hc⟩:=cell_at 2 h hk.2.2
 simp at e0 e1 e2
 subst e0 e1 e2
 exact ⟨a,b,c,rfl,ha,hb,hc⟩
theorem open_half {r:Reach} {b0:Nat} {T:TypeId} {v:Value} {D:DataW H} {p:List MemPlace} (hu:(match P.underlying T with|some (.struct _)|some (.array _ _)=>true|_=>false)=true) (hC:P.cellsOf T=4)
 (hk:(kindAt P 10 T 0,kindAt P 10 T 1,kindAt P 10 T 2,kindAt P 10 T 3)=(some false,some false,some false,some true)) (hv:Value.okWide P w r b0 T v) (h:DataW.Trod enc P w base spare held T v D p):∃ (a b c:Int) (s:ByteArray),v = .agg #[.int .i64 a,.int .i64 b,.int .i64 c,.string s]∧s.size≤maxLen:=by
 simp only [Prod.mk.injEq] at hk
 obtain ⟨cs,rfl,hs⟩:=agg_of hu hC hv
 obtain ⟨c0,c1,c2,c3,rfl⟩:∃ c0 c1 c2 c3,cs = #[c0,c1,c2,c3]:=by
  obtain ⟨l⟩:=cs
  match l,hs with
  | [c0,c1,c2,c3],_=>exact ⟨c0,c1,c2,c3,rfl⟩
 obtain ⟨_,e0,a,rfl,ha⟩:=cell_at 0 h hk.1
 obtain ⟨_,e1,b,rfl,hb⟩:=cell_at 1 h hk.2.1
 obtain ⟨_,e2,c,rfl,hc⟩:=cell_at 2 h hk.2.2.1
 obtain ⟨_,e3,d,rfl,hd⟩:=cell_at 3 h hk.2.2.2
 simp at e0 e1 e2 e3
 subst e0 e1 e2 e3
 exact ⟨a,b,c,d,rfl,hd⟩
end
end Go.Proofs.YtofcdondmgojiaaGreatDoor.Ab
