/- Parts of the proof, joined. -/
import Derived.Test.YtbhccgffnghlkaaGreatDoorJ16
import Derived.Test.YtbhccgffnghlkaaGreatDoorJ17
import Derived.Test.YtbhccgffnghlkaaGreatDoorJ11
import Derived.Test.YtbhccgffnghlkaaGreatDoorJ10
import Derived.Test.YtbhccgffnghlkaaGreatDoorJ12
import Derived.Test.YtbhccgffnghlkaaGreatDoorJ15
import Derived.WalkKit
import Derived.ProofKit
import Derived.OpenShut
import Derived.Deep.DeepHandedRow
import Derived.Deep.DeepWitnessRowRef
import Derived.Lib.LaidTab
import Derived.Stop.LaidErr
import Derived.Shelf.Vars
import Derived.Lay
import Derived.Test.YtbhccgffnghlkaaGreatDoorProg
import Derived.ChangeArms
set_option linter.unusedSimpArgs false
set_option linter.unusedVariables false
namespace Go.Proofs.YtbhccgffnghlkaaGreatDoor.Ab
open Go.RowKit Go.Proofs.YtbhccgffnghlkaaGreatDoor Pl
theorem kretI {f:FuncId} {w00:World} {c:Cfg Kn} {fn:Func} {z:Int} (hfn:Tryz.prog.funcs[f]?=some fn) (hc:c.res Tryz.prog fn=some (it z)):Ok Tryz.prog f w00 (fun v w=>(AV.fv (.sc (isI z)):AV Kn).holds [] v w) c :=
 ⟨good_ret hfn (it z) hc fun _ _ _ h=>h.1⟩
abbrev hA (a b c:Int) (s:ByteArray):AV Kn := .fv (.ag [isI a,isI b,isI c,isS s])
abbrev hL (a b c:Int) (s:ByteArray):AV Kn := .fv (.ag [.lit (.int .i64 a),.lit (.int .i64 b),.lit (.int .i64 c),isS s])
theorem hL_A {a b c:Int} {s:ByteArray} (β:List Nat) (v:Value) (w:World) (h:(hL a b c s).holds β v w):(hA a b c s).holds β v w:=by
 obtain ⟨cs,e,x1,r1,e1,h1,x2,r2,e2,h2,x3,r3,e3,h3,hr⟩:=h
 exact ⟨cs,e,x1,r1,e1,h1.1,x2,r2,e2,h2.1,x3,r3,e3,h3.1,hr⟩
theorem iv_i3 {a b c:Int} (β:List Nat) (v:Value) (w:World) (h:(iv a b c).holds β v w):(i3 a b c).holds β v w:=by
 obtain ⟨cs,e,x1,r1,e1,h1,x2,r2,e2,h2,x3,r3,e3,h3,hr⟩:=h
 exact ⟨cs,e,x1,r1,e1,h1.1,x2,r2,e2,h2.1,x3,r3,e3,h3.1,hr⟩
abbrev Bg (z:Int):Prop:=z < -999999999∨999999999<z
def hkZ (a b c k:Int):Int:=if a=0∧b=0∧c=0 then 6 else if Bg a∨Bg b∨Bg c then 3 else if Int.gcd (Int.gcd a b:Int) c≠1 then 1 else k
section
variable {a b c:Int} {s:ByteArray}
theorem checkHalfF {k z:Int} (hk:Fits Tryz.prog 37 [tx s] (.fv (.sc (isI k)))) (hz:hkZ a b c k=z):Fits Tryz.prog 8 [hA a b c s] (.fv (.sc (isI z))):=by
 unfold hkZ at hz
 refine kgo Tryz.func8 (by kernel_rfl) fun w00=>?_
 by_cases h0:a=0∧b=0∧c=0
 ·obtain rfl:z=6:=by rw [← hz,if_pos h0]
  refine kz3 (.tmp 5) (.tmp 6) a b c true (by simp [h0]) ?_
  exact kretI Tryz.func8 (by kernel_rfl)
 rw [if_neg h0] at hz
 refine kz3 (.tmp 5) (.tmp 6) a b c false (by rw [Bool.eq_false_iff];simp;omega) ?_
 have e3:∀ {x:Int},x=a∨x=b∨x=c→Bg x→z=3:=fun hx h=>by
  rw [← hz,if_pos (by rcases hx with rfl|rfl|rfl <;> simp only [h,true_or,or_true])]
 by_cases a1:a < -999999999
 ·obtain rfl:=e3 (.inl rfl) (.inl a1)
  refine klt (.tmp 15) (.const (.int .i64 (-999999999))) a _ true _ lit_int (decide_eq_true a1) ?_
  exact kretI Tryz.func8 (by kernel_rfl)
 refine klt (.tmp 15) (.const (.int .i64 (-999999999))) a _ false _ lit_int (decide_eq_false a1) ?_
 by_cases a2:999999999<a
 ·obtain rfl:=e3 (.inl rfl) (.inr a2)
  refine kgg (.tmp 21) (.const (.int .i64 999999999)) a _ true _ lit_int (decide_eq_true a2) ?_
  exact kretI Tryz.func8 (by kernel_rfl)
 refine kgg (.tmp 21) (.const (.int .i64 999999999)) a _ false _ lit_int (decide_eq_false a2) ?_
 by_cases b1:b < -999999999
 ·obtain rfl:=e3 (.inr (.inl rfl)) (.inl b1)
  refine klt (.tmp 15) (.const (.int .i64 (-999999999))) b _ true _ lit_int (decide_eq_true b1) ?_
  exact kretI Tryz.func8 (by kernel_rfl)
 refine klt (.tmp 15) (.const (.int .i64 (-999999999))) b _ false _ lit_int (decide_eq_false b1) ?_
 by_cases b2:999999999<b
 ·obtain rfl:=e3 (.inr (.inl rfl)) (.inr b2)
  refine kgg (.tmp 21) (.const (.int .i64 999999999)) b _ true _ lit_int (decide_eq_true b2) ?_
  exact kretI Tryz.func8 (by kernel_rfl)
 refine kgg (.tmp 21) (.const (.int .i64 999999999)) b _ false _ lit_int (decide_eq_false b2) ?_
 by_cases c1:c < -999999999
 ·obtain rfl:=e3 (.inr (.inr rfl)) (.inl c1)
  refine klt (.tmp 15) (.const (.int .i64 (-999999999))) c _ true _ lit_int (decide_eq_true c1) ?_
  exact kretI Tryz.func8 (by kernel_rfl)
 refine klt (.tmp 15) (.const (.int .i64 (-999999999))) c _ false _ lit_int (decide_eq_false c1) ?_
 by_cases c2:999999999<c
 ·obtain rfl:=e3 (.inr (.inr rfl)) (.inr c2)
  refine kgg (.tmp 21) (.const (.int .i64 999999999)) c _ true _ lit_int (decide_eq_true c2) ?_
  exact kretI Tryz.func8 (by kernel_rfl)
 refine kgg (.tmp 21) (.const (.int .i64 999999999)) c _ false _ lit_int (decide_eq_false c2) ?_
 rw [if_neg (by unfold Bg;omega)] at hz
 have hg:=intGcdF (a:=a) (b:=b) (by omega) (by omega)
 have hs:=size_gcd (a:=a) (b:=b) (by omega) (by omega)
 have hg2:=intGcdF (a:=(Int.gcd a b:Int)) (b:=c) hs (by omega)
 clear e3 hs
 generalize (Int.gcd a b:Int)=g at *
 generalize Int.gcd g c=g2 at *
 refine kcall 36 [.fv (.sc (isI a)),.fv (.sc (isI b))] (hg) (by kernel_rfl) Tryz.call36 ?_
 refine kcall 36 [.fv (.sc (isI g)),.fv (.sc (isI c))] (hg2) (by kernel_rfl) Tryz.call36 ?_
 by_cases g1:g2=1
 ·rw [if_neg (by omega)] at hz
  subst hz
  refine kne (.tmp 34) (.const (.int .i64 1)) (g2:Int) 1 false _ lit_int (by rw [g1];rfl) ?_
  refine kcall 37 [tx s] (hk) (by kernel_rfl) Tryz.call37 ?_
  exact kret Tryz.func8 (by kernel_rfl)
 ·obtain rfl:z=1:=by rw [← hz,if_pos g1]
  refine kne (.tmp 34) (.const (.int .i64 1)) (g2:Int) 1 true _ lit_int (by simp;omega) ?_
  exact kretI Tryz.func8 (by kernel_rfl)
theorem checkNormalF (h0:¬ (a=0∧b=0∧c=0)) (ha:¬ Bg a) (hb:¬ Bg b) (hc:¬ Bg c) (hg:Int.gcd (Int.gcd a b:Int) c=1):Fits Tryz.prog 88 [iv a b c] (it 0):=by
 have w:∀ {x:Int},¬ Bg x→x.natAbs<W64:=fun h=>by unfold Bg at h;rw [W64_eq];omega
 have g1:=gcdWordsF (a:=0) (b:=a.natAbs) (by rw [W64_eq];omega) (w ha)
 have l1:Nat.gcd 0 a.natAbs<W64:=by rw [Nat.gcd_zero_left];exact w ha
 have g2:=gcdWordsF l1 (w hb)
 have l2:Nat.gcd (Nat.gcd 0 a.natAbs) b.natAbs<W64:=by
  rw [Nat.gcd_zero_left]
  by_cases e:a=0
  ·rw [e];simpa using w hb
  ·exact Nat.lt_of_le_of_lt (Nat.gcd_le_left _ (by omega)) (w ha)
 have g3:=gcdWordsF l2 (w hc)
 have e3:Nat.gcd (Nat.gcd (Nat.gcd 0 a.natAbs) b.natAbs) c.natAbs=1:=by
  rw [Nat.gcd_zero_left]
  exact hg
 rw [e3] at g3
 generalize Nat.gcd (Nat.gcd 0 a.natAbs) b.natAbs=x2 at *
 generalize Nat.gcd 0 a.natAbs=x1 at *
 unfold Bg at ha hb hc
 refine Fits.args (l := [i3 a b c]) ?_ fun β vs w ⟨v,r,e,h,hr⟩=>⟨v,r,e,iv_i3 β v w h,hr⟩
 refine kgo Tryz.func88 (by kernel_rfl) fun w00=>?_
 refine kz3 (.tmp 6) (.tmp 7) a b c false (by rw [Bool.eq_false_iff];simp;omega) ?_
 refine klt (.tmp 13) (.const (.int .i64 (-999999999))) a (-999999999) false _ lit_int (by rw [decide_eq_false_iff_not];omega) ?_
 refine kgg (.tmp 16) (.const (.int .i64 999999999)) a 999999999 false _ lit_int (by rw [decide_eq_false_iff_not];omega) ?_
 refine kneg 21 a (by constructor <;> omega) (by constructor <;> omega) ?_
 refine kabs 20 22 a ?_
 refine kcvu 23 a.natAbs (by omega) ?_
 refine kcall 140 [.fv (.sc (.lit (.int .u64 ((0:Nat):Int)))),.fv (.sc (.lit (.int .u64 (a.natAbs:Int))))] (g1) (by kernel_rfl) Tryz.call140 ?_
 refine klt (.tmp 13) (.const (.int .i64 (-999999999))) b (-999999999) false _ lit_int (by rw [decide_eq_false_iff_not];omega) ?_
 refine kgg (.tmp 16) (.const (.int .i64 999999999)) b 999999999 false _ lit_int (by rw [decide_eq_false_iff_not];omega) ?_
 refine kneg 21 b (by constructor <;> omega) (by constructor <;> omega) ?_
 refine kabs 20 22 b ?_
 refine kcvu 23 b.natAbs (by omega) ?_
 refine kcall 140 [.fv (.sc (.lit (.int .u64 (x1:Int)))),.fv (.sc (.lit (.int .u64 (b.natAbs:Int))))] (g2) (by kernel_rfl) Tryz.call140 ?_
 refine klt (.tmp 13) (.const (.int .i64 (-999999999))) c (-999999999) false _ lit_int (by rw [decide_eq_false_iff_not];omega) ?_
 refine kgg (.tmp 16) (.const (.int .i64 999999999)) c 999999999 false _ lit_int (by rw [decide_eq_false_iff_not];omega) ?_
 refine kneg 21 c (by constructor <;> omega) (by constructor <;> omega) ?_
 refine kabs 20 22 c ?_
 refine kcvu 23 c.natAbs (by omega) ?_
 refine kcall 140 [.fv (.sc (.lit (.int .u64 (x2:Int)))),.fv (.sc (.lit (.int .u64 (c.natAbs:Int))))] (g3) (by kernel_rfl) Tryz.call140 ?_
 exact kret Tryz.func88 (by kernel_rfl)
end
def csPs:CS Kn where
 size:=1
 cold:=true
 pred cs _ := ∃ a:Addr,cs = [.pointer (some a)]
 stable _ _ _ h _:=h
 len _ _ h:=by obtain ⟨a,h⟩:=h;rw [h];rfl
 one _ _ h:=by obtain ⟨a,h⟩:=h;rw [h];intro c hc;rw [List.mem_singleton] at hc;rw [hc];rfl
 iscold _ _ _ h:=by obtain ⟨a,h⟩:=h;rw [h];intro c hc;rw [List.mem_singleton] at hc;rw [hc];rfl
abbrev sInt (z:Int):List (Seg Kn) := [.lit (.int .i64 z),z0,.lit (.pointer none)]
abbrev sBig:List (Seg Kn) := [z0,z0,.sp csPs]
theorem seg_int {z:Int} (h:Sm (z:Rat)) {β:List Nat} {cs:List Value} {w:World} (k:(csNb (z:Rat)).pred cs w):holdsL β (sInt z) cs w:=by
 rcases k with ⟨_,e⟩|⟨h2,_⟩
 ·injection e with e
  have:=congrArg Array.toList e
  have e:cs = [.int .i64 z,.int .i64 0,.pointer none]:=by simpa using this
  rw [e]
  exact ⟨[_],_,rfl,⟨rfl,rfl⟩,[_],_,rfl,⟨rfl,rfl⟩,[_],_,rfl,⟨rfl,rfl⟩,rfl⟩
 ·exact absurd h h2
theorem seg_big {q:Rat} (h:¬ Sm q) {β:List Nat} {cs:List Value} {w:World} (k:(csNb q).pred cs w):holdsL β sBig cs w:=by
 rcases k with ⟨h2,_⟩|⟨_,g,s1,s2,e,_⟩
 ·exact absurd h2 h
 ·injection e with e
  have e:cs = [.int .i64 0,.int .i64 0,.pointer (some ⟨g,0,none⟩)]:=congrArg Array.toList e
  rw [e]
  exact ⟨[_],_,rfl,⟨rfl,rfl⟩,[_],_,rfl,⟨rfl,rfl⟩,[_],_,rfl,⟨_,rfl⟩,rfl⟩
theorem seg_nb {q:Rat} {β:List Nat} {cs:List Value} {w:World} (k:(csNb q).pred cs w):holdsL β [nb q] cs w:=⟨cs,[],by simp,k,rfl⟩
theorem sm_sz {z:Int} (hz:Sz z):Sm (z:Rat):=by
 constructor
 ·rw [Rat.num_intCast,M63_eq];omega
 ·rw [Rat.den_intCast,M63_eq];omega
theorem split3 {q1 q2 q3 d:Rat} {s1 s2 s3:List (Seg Kn)} (h1:∀ β cs w,(csNb q1).pred cs w→holdsL β s1 cs w) (h2:∀ β cs w,(csNb q2).pred cs w→holdsL β s2 cs w) (h3:∀ β cs w,(csNb q3).pred cs w→holdsL β s3 cs w) (β:List Nat) (v:Value) (w:World)
 (h:(hf q1 q2 q3 d).holds β v w):(AV.fv (.ag (s1++(s2++(s3 ++ [nb d])))):AV Kn).holds β v w:=by
 obtain ⟨cs,rfl,x1,r1,rfl,k1,x2,r2,rfl,k2,x3,r3,rfl,k3,hr⟩:=h
 exact ⟨_,rfl,holdsL.append (h1 β x1 w k1) (holdsL.append (h2 β x2 w k2) (holdsL.append (h3 β x3 w k3) hr))⟩
theorem pne_run {o:Oper} {ρ:Operand→Value} {w:World} {x:Operand} {a:Addr} {T T' : TypeId} (hT:T=61) (ho:o.op = .binOp .neq T x (.const (.pointer none)) T') (hx:ρ x = .pointer (some a)) (hy:ρ (.const (.pointer none)) = .pointer none) :
 (execOp ρ o).run Tryz.prog w = .ok (.value (.bool true)) w:=by
 subst hT
 simp only [execOp,ho,hx,hy]
 refine run_v ?_
 exact evalP_run (by kernel_rfl) w
theorem magM {z:Int} (h:Sm (z:Rat)):Fits Tryz.prog 87 [it z] (.fv (.sc (isU (z.natAbs:Int)))):=by
 have hz:=h.1
 rw [Rat.num_intCast,M63_eq] at hz
 intro β w vs hv
 obtain ⟨v,rfl,h1⟩:=args1 hv
 rw [hold_lit h1]
 exact (magnitude_any z w (by omega) (by omega)).mono fun e w' ⟨e1,e2⟩=>⟨_,e1,by rw [← e2];exact Below.refl _ _,is_hold⟩
section
variable {f:FuncId} {w00:World} {Out:Value→World→Prop} {c:Cfg Kn}
theorem kbig (t:Tmp) (hg:Ok Tryz.prog f w00 Out (runA Tryz.prog 1000 (c.give (bl true))))
 (hc:(c.op.map fun o=>o.op,c.okT (bl true),c.ev (.tmp t),c.ev (.const (.pointer none)))=(some (.binOp .neq 61 (.tmp t) (.const (.pointer none)) 61),true,.fv (.sc (.sp csPs)),.fv (.sc (.lit (.pointer none)))):=by kernel_rfl):Ok Tryz.prog f w00 Out c :=
 kop2 _ (.tmp t) (.const (.pointer none)) _ _ (bl true) hc (by simp [Op.operands]) (by simp [Op.operands]) (fun ρ o β w ho hx hy=>by
  obtain ⟨a,e⟩:=hx
  injection e with e
  exact ⟨_,pne_run rfl ho e (hold_lit hy),lit_hold rfl⟩) hg
end
abbrev largeH:AV Kn := .tup [.ag [.lit (.int .i64 0),.lit (.int .i64 0),.lit (.int .i64 0),.lit (.string ⟨#[]⟩)],.sc (.lit (.int .i64 4))]
section
variable {n1 n2 n3 d e:Rat} {z1 z2 z3:Int}
structure Big (n1 n2 n3 d:Rat) (z1 z2 z3:Int) (e:Rat):Prop where
 l1:Lf 30 n1
 l2:Lf 30 n2
 l3:Lf 30 n3
 ld:Lf 38 d
 h0:¬ (n1=0∧n2=0∧n3=0)
 e1:wholeR n1 n2 n3*n1=z1
 e2:wholeR n1 n2 n3*n2=z2
 e3:wholeR n1 n2 n3*n3=z3
 ed:d*wholeR n1 n2 n3=e
 s:¬ (Sz z1∧Sz z2∧Sz z3)
 wr:Wr e
theorem hWriteLargeF (h:Big n1 n2 n3 d z1 z2 z3 e):FitsW Tryz.prog Gl 33 [hf n1 n2 n3 d] largeH:=by
 have g:∀ {z:Int},Sz z→decide ((999999999:Int)<(z.natAbs:Int))=false:=fun hz=>by rw [decide_eq_false_iff_not];omega
 have b:∀ {z:Int},¬ Sz z→decide ((999999999:Int)<(z.natAbs:Int))=true:=fun hz=>by rw [decide_eq_true_iff];omega
 have hR:=reducedF h.l1 h.l2 h.l3 h.ld h.h0
 rw [h.e1,h.e2,h.e3,h.ed] at hR
 have cw:=writeF (h.wr.lf.mono (by decide)) h.wr.n h.wr.d
 by_cases s1:Sz z1
 ·by_cases s2:Sz z2
  ·have s3:¬ Sz z3:=fun s3=>h.s ⟨s1,s2,s3⟩
   by_cases m:Sm (z3:Rat)
   ·have gr:=Fits.res hR (split3 (fun _ _ _=>seg_int (sm_sz s1)) (fun _ _ _=>seg_int (sm_sz s2)) (fun _ _ _=>seg_int m))
    refine kgoW Tryz.func33 (by kernel_rfl) fun w00 hG=>?_;have hI:=keepGl hG
    refine kcall 86 [hf n1 n2 n3 d] (gr) (by kernel_rfl) Tryz.call86 ?_
    refine kcallW hI 51 [num e] (cw) (by kernel_rfl) Tryz.call51 ?_
    refine kcall 87 [it z1] (magM (sm_sz s1)) (by kernel_rfl) Tryz.call87 ?_
    refine kgtU 34 z1.natAbs 999999999 false (g s1) (by kernel_rfl) ?_
    refine kcall 87 [it z2] (magM (sm_sz s2)) (by kernel_rfl) Tryz.call87 ?_
    refine kgtU 34 z2.natAbs 999999999 false (g s2) (by kernel_rfl) ?_
    refine kcall 87 [it z3] (magM m) (by kernel_rfl) Tryz.call87 ?_
    refine kgtU 34 z3.natAbs 999999999 true (b s3) (by kernel_rfl) ?_
    exact kret Tryz.func33 (by kernel_rfl)
   ·have gr:=Fits.res hR (split3 (fun _ _ _=>seg_int (sm_sz s1)) (fun _ _ _=>seg_int (sm_sz s2)) (fun _ _ _=>seg_big m))
    refine kgoW Tryz.func33 (by kernel_rfl) fun w00 hG=>?_;have hI:=keepGl hG
    refine kcall 86 [hf n1 n2 n3 d] (gr) (by kernel_rfl) Tryz.call86 ?_
    refine kcallW hI 51 [num e] (cw) (by kernel_rfl) Tryz.call51 ?_
    refine kcall 87 [it z1] (magM (sm_sz s1)) (by kernel_rfl) Tryz.call87 ?_
    refine kgtU 34 z1.natAbs 999999999 false (g s1) (by kernel_rfl) ?_
    refine kcall 87 [it z2] (magM (sm_sz s2)) (by kernel_rfl) Tryz.call87 ?_
    refine kgtU 34 z2.natAbs 999999999 false (g s2) (by kernel_rfl) ?_
    refine kbig 29 ?_
    exact kret Tryz.func33 (by kernel_rfl)
  ·by_cases m:Sm (z2:Rat)
   ·have gr:=Fits.res hR (split3 (fun _ _ _=>seg_int (sm_sz s1)) (fun _ _ _=>seg_int m) (fun _ _ _=>seg_nb))
    refine kgoW Tryz.func33 (by kernel_rfl) fun w00 hG=>?_;have hI:=keepGl hG
    refine kcall 86 [hf n1 n2 n3 d] (gr) (by kernel_rfl) Tryz.call86 ?_
    refine kcallW hI 51 [num e] (cw) (by kernel_rfl) Tryz.call51 ?_
    refine kcall 87 [it z1] (magM (sm_sz s1)) (by kernel_rfl) Tryz.call87 ?_
    refine kgtU 34 z1.natAbs 999999999 false (g s1) (by kernel_rfl) ?_
    refine kcall 87 [it z2] (magM m) (by kernel_rfl) Tryz.call87 ?_
    refine kgtU 34 z2.natAbs 999999999 true (b s2) (by kernel_rfl) ?_
    exact kret Tryz.func33 (by kernel_rfl)
   ·have gr:=Fits.res hR (split3 (fun _ _ _=>seg_int (sm_sz s1)) (fun _ _ _=>seg_big m) (fun _ _ _=>seg_nb))
    refine kgoW Tryz.func33 (by kernel_rfl) fun w00 hG=>?_;have hI:=keepGl hG
    refine kcall 86 [hf n1 n2 n3 d] (gr) (by kernel_rfl) Tryz.call86 ?_
    refine kcallW hI 51 [num e] (cw) (by kernel_rfl) Tryz.call51 ?_
    refine kcall 87 [it z1] (magM (sm_sz s1)) (by kernel_rfl) Tryz.call87 ?_
    refine kgtU 34 z1.natAbs 999999999 false (g s1) (by kernel_rfl) ?_
    refine kbig 29 ?_
    exact kret Tryz.func33 (by kernel_rfl)
 ·by_cases m:Sm (z1:Rat)
  ·have gr:=Fits.res hR (split3 (fun _ _ _=>seg_int m) (fun _ _ _=>seg_nb) (fun _ _ _=>seg_nb))
   refine kgoW Tryz.func33 (by kernel_rfl) fun w00 hG=>?_;have hI:=keepGl hG
   refine kcall 86 [hf n1 n2 n3 d] (gr) (by kernel_rfl) Tryz.call86 ?_
   refine kcallW hI 51 [num e] (cw) (by kernel_rfl) Tryz.call51 ?_
   refine kcall 87 [it z1] (magM m) (by kernel_rfl) Tryz.call87 ?_
   refine kgtU 34 z1.natAbs 999999999 true (b s1) (by kernel_rfl) ?_
   exact kret Tryz.func33 (by kernel_rfl)
  ·have gr:=Fits.res hR (split3 (fun _ _ _=>seg_big m) (fun _ _ _=>seg_nb) (fun _ _ _=>seg_nb))
   refine kgoW Tryz.func33 (by kernel_rfl) fun w00 hG=>?_;have hI:=keepGl hG
   refine kcall 86 [hf n1 n2 n3 d] (gr) (by kernel_rfl) Tryz.call86 ?_
   refine kcallW hI 51 [num e] (cw) (by kernel_rfl) Tryz.call51 ?_
   refine kbig 29 ?_
   exact kret Tryz.func33 (by kernel_rfl)
end
def Bq (k:Nat) (q:Rat):Prop:=q.num.natAbs<10^k∧q.den<10^k
theorem Bq.mono {k l:Nat} {q:Rat} (h:Bq k q) (hk:k≤l):Bq l q :=
 ⟨Nat.lt_of_lt_of_le h.1 (Nat.pow_le_pow_right (by omega) hk),Nat.lt_of_lt_of_le h.2 (Nat.pow_le_pow_right (by omega) hk)⟩
theorem Bq.mul {j k:Nat} {p q:Rat} (hp:Bq j p) (hq:Bq k q):Bq (j+k) (p*q):=by
 rw [Rat.mul_def']
 obtain ⟨h1,h2⟩:=mkRat_num_le (p.num*q.num) (Nat.ne_of_gt (Nat.mul_pos p.den_pos q.den_pos))
 rw [Int.natAbs_mul] at h1
 refine ⟨Nat.lt_of_le_of_lt h1 ?_,Nat.lt_of_le_of_lt h2 ?_⟩
 ·rw [Nat.pow_add];exact Nat.mul_lt_mul'' hp.1 hq.1
 ·rw [Nat.pow_add];exact Nat.mul_lt_mul'' hp.2 hq.2
theorem Bq.add {j k:Nat} {p q:Rat} (hp:Bq j p) (hq:Bq k q):Bq (j+k+1) (p+q):=by
 rw [Rat.add_def']
 obtain ⟨h1,h2⟩:=mkRat_num_le (p.num*q.den+q.num*p.den) (Nat.ne_of_gt (Nat.mul_pos p.den_pos q.den_pos))
 have a1:p.num.natAbs*q.den<10^(j+k):=by rw [Nat.pow_add];exact Nat.mul_lt_mul'' hp.1 hq.2
 have a2:q.num.natAbs*p.den<10^(j+k):=by rw [Nat.pow_add,Nat.mul_comm];exact Nat.mul_lt_mul'' hp.2 hq.1
 have a3:p.den*q.den<10^(j+k):=by rw [Nat.pow_add];exact Nat.mul_lt_mul'' hp.2 hq.2
 have a4:10^(j+k+1)=10^(j+k)*10:=Nat.pow_succ _ _
 have a5:=Int.natAbs_add_le (p.num*q.den) (q.num*p.den)
 rw [Int.natAbs_mul,Int.natAbs_mul,Int.natAbs_natCast,Int.natAbs_natCast] at a5
 exact ⟨by omega,by omega⟩
theorem Bq.neg {k:Nat} {p:Rat} (hp:Bq k p):Bq k (-p):=by
 refine ⟨?_,hp.2⟩
 rw [Rat.neg_num,Int.natAbs_neg];exact hp.1
theorem Bq.sub {j k:Nat} {p q:Rat} (hp:Bq j p) (hq:Bq k q):Bq (j+k+1) (p-q):=by
 rw [Rat.sub_eq_add_neg]
 exact hp.add hq.neg
theorem Bq.dt {k l n:Nat} {a b c x y z:Rat} (h1:Bq k a) (h2:Bq k b) (h3:Bq k c) (g1:Bq l x) (g2:Bq l y) (g3:Bq l z) (hn:3*(k+l)+2≤n):Bq n (dt a b c x y z) :=
 (((h1.mul g1).add (h2.mul g2)).add (h3.mul g3)).mono (by omega)
theorem Bq.wr {k:Nat} {q:Rat} (h:Bq k q) (hk:k≤600):Wr q:=by
 have h':=h.mono (l:=599+1) hk
 exact ⟨decB_size h'.1,decB_size h'.2⟩
theorem Bq.zs {k:Nat} {q:Rat} (h:Bq k q) (hk:k≤10000):Zs 10000 q:=by
 have h':=h.mono (l:=10000+1) (by omega)
 exact h'
theorem bq_of {k:Nat} {q:Rat} (h:Fw k q):Bq k q:=⟨dec_lt h.1,dec_lt h.2⟩
theorem numr_ne {q:Rat} (h:q≠0):q.num≠0:=fun e=>h (Rat.num_eq_zero.1 e)
theorem dec_and {p q r:Prop} [Decidable p] [Decidable q] [Decidable r] (h:¬ (p∧q∧r)):(decide p&&decide q&&decide r)=false:=by
 rw [Bool.eq_false_iff]
 intro hh
 simp only [Bool.and_eq_true,decide_eq_true_eq] at hh
 exact h ⟨hh.1.1,hh.1.2,hh.2⟩
theorem dec_and' {p q r:Prop} [Decidable p] [Decidable q] [Decidable r] (h:p∧q∧r):(decide p&&decide q&&decide r)=true:=by
 simp [h.1,h.2.1,h.2.2]
section
variable {a b c:Int} {s:ByteArray}
abbrev In (k x:Int):Prop := -k≤x∧x≤k
end
theorem normalF {z1 z2 z3:Int} {s:ByteArray} (h1:M64 z1) (h2:M64 z2) (h3:M64 z3):Fits Tryz.prog 11 [hL z1 z2 z3 s] (vS z1 z2 z3):=by
 refine kgo Tryz.func11 (by kernel_rfl) fun w00=>?_
 refine kcall 42 [it z1,it z2,it z3] (intsF h1 h2 h3) (by kernel_rfl) Tryz.call42 ?_
 exact kret Tryz.func11 (by kernel_rfl)
theorem bq_int {z:Int} {k:Nat} (h:z.natAbs<10^k) (hk:0<k):Bq k (z:Rat):=by
 refine ⟨by rw [Rat.num_intCast];exact h,?_⟩
 rw [Rat.den_intCast]
 have:=Nat.pow_le_pow_right (n:=10) (by omega) hk
 omega
theorem chkB {k:Nat} {q:Rat} (h:Bq k q) (hk:k≤600):Fits Tryz.prog 37 [tx (writeB q)] (it 0):=chkF (h.wr hk).n (h.wr hk).d
def Fy (k:Nat) (s:ByteArray):Prop := ∃ q,s=writeB q∧Fw k q
theorem fewVec_or {a b c:ByteArray} {n:Int} {k:Nat} (yes:∀ s,Fy k s→Fits Tryz.prog 25 [tx s,it n] (bl true)) (no:∀ s,¬ Fy k s→Fits Tryz.prog 25 [tx s,it n] (bl false)) :
 (Fy k a∧Fy k b∧Fy k c∧Fits Tryz.prog 5 [t3 a b c,it n] (bl true))∨Fits Tryz.prog 5 [t3 a b c,it n] (bl false):=by
 by_cases h1:Fy k a
 ·by_cases h2:Fy k b
  ·by_cases h3:Fy k c
   ·exact .inl ⟨h1,h2,h3,fewVecT (yes _ h1) (yes _ h2) (yes _ h3)⟩
   ·exact .inr (fewVecF3 (yes _ h1) (yes _ h2) (no _ h3))
  ·exact .inr (fewVecF2 (yes _ h1) (no _ h2))
 ·exact .inr (fewVecF1 (no _ h1))
abbrev noneH:AV Kn := .tup [.ag [.lit (.int .i64 0),.lit (.int .i64 0),.lit (.int .i64 0),.lit (.string ⟨#[]⟩)],.sc (.lit (.int .i64 7))]
section
variable {a1 a2 a3 b1 b2 b3 c1 c2 c3 m1 m2 m3:Rat} {z1 z2 z3:Int}
theorem through_W (ka:Wr3 a1 a2 a3) (kb:Wr3 b1 b2 b3) (kc:Wr3 c1 c2 c3)
 (e1:(b2-a2)*(c3-a3)-(b3-a3)*(c2-a2)=m1) (e2:(b3-a3)*(c1-a1)-(b1-a1)*(c3-a3)=m2) (e3:(b1-a1)*(c2-a2)-(b2-a2)*(c1-a1)=m3) (lm:Lv3 30 m1 m2 m3) {x:AV Kn}
 (h:m1=0∧m2=0∧m3=0∧x=noneH∨¬ (m1=0∧m2=0∧m3=0)∧x=largeH∧FitsW Tryz.prog Gl 33 [hf m1 m2 m3 (dt m1 m2 m3 a1 a2 a3)] x):FitsW Tryz.prog Gl 6 [vS a1 a2 a3,vS b1 b2 b3,vS c1 c2 c3] x:=by
 have s:∀ {x y:Rat},Wr x→Wr y→Lf 35 (x-y):=fun hx hy=>Lf.subn (hx.lf.mono (by decide)) (hy.lf.mono (by decide)) (by decide)
 have hcross:Fits Tryz.prog 30 [vc (b1-a1) (b2-a2) (b3-a3),vc (c1-a1) (c2-a2) (c3-a3)] (vc m1 m2 m3):=by
  have:=crossF (s kb.1 ka.1) (s kb.2.1 ka.2.1) (s kb.2.2 ka.2.2) (s kc.1 ka.1) (s kc.2.1 ka.2.1) (s kc.2.2 ka.2.2)
  rw [e1,e2,e3] at this
  exact this
 have hm1:Fits Tryz.prog 29 [vc b1 b2 b3,vc a1 a2 a3] (vc (b1-a1) (b2-a2) (b3-a3)):=vminusF (kb.1.lf.mono (by decide)) (kb.2.1.lf.mono (by decide)) (kb.2.2.lf.mono (by decide)) (ka.1.lf.mono (by decide)) (ka.2.1.lf.mono (by decide)) (ka.2.2.lf.mono (by decide))
 have hm2:Fits Tryz.prog 29 [vc c1 c2 c3,vc a1 a2 a3] (vc (c1-a1) (c2-a2) (c3-a3)):=vminusF (kc.1.lf.mono (by decide)) (kc.2.1.lf.mono (by decide)) (kc.2.2.lf.mono (by decide)) (ka.1.lf.mono (by decide)) (ka.2.1.lf.mono (by decide)) (ka.2.2.lf.mono (by decide))
 rcases h with ⟨h1,h2,h3,rfl⟩|⟨h0,rfl,hw⟩
 ·refine kgoW Tryz.func6 (by kernel_rfl) fun w00 hG=>?_;have hI:=keepGl hG
  refine kcallW hI 26 [fnv 27,vS a1 a2 a3,fnv 27,vS b1 b2 b3] (readVV ka kb) (by kernel_rfl) Tryz.call26 ?_
  refine kcallW hI 27 [vS c1 c2 c3] (readVecF kc) (by kernel_rfl) Tryz.call27 ?_
  refine kcall 28 [.fv (.nsl 2 31 [z0,z0])] (first2F) (by kernel_rfl) Tryz.call28 ?_
  refine kcall 29 [vc b1 b2 b3,vc a1 a2 a3] (hm1) (by kernel_rfl) Tryz.call29 ?_
  refine kcall 29 [vc c1 c2 c3,vc a1 a2 a3] (hm2) (by kernel_rfl) Tryz.call29 ?_
  refine kcall 30 [vc (b1-a1) (b2-a2) (b3-a3),vc (c1-a1) (c2-a2) (c3-a3)] (hcross) (by kernel_rfl) Tryz.call30 ?_
  refine kcall 31 [vc m1 m2 m3] (vIsZeroF (dec_and' ⟨h1,h2,h3⟩)) (by kernel_rfl) Tryz.call31 ?_
  exact kret Tryz.func6 (by kernel_rfl)
 ·refine kgoW Tryz.func6 (by kernel_rfl) fun w00 hG=>?_;have hI:=keepGl hG
  refine kcallW hI 26 [fnv 27,vS a1 a2 a3,fnv 27,vS b1 b2 b3] (readVV ka kb) (by kernel_rfl) Tryz.call26 ?_
  refine kcallW hI 27 [vS c1 c2 c3] (readVecF kc) (by kernel_rfl) Tryz.call27 ?_
  refine kcall 28 [.fv (.nsl 2 31 [z0,z0])] (first2F) (by kernel_rfl) Tryz.call28 ?_
  refine kcall 29 [vc b1 b2 b3,vc a1 a2 a3] (hm1) (by kernel_rfl) Tryz.call29 ?_
  refine kcall 29 [vc c1 c2 c3,vc a1 a2 a3] (hm2) (by kernel_rfl) Tryz.call29 ?_
  refine kcall 30 [vc (b1-a1) (b2-a2) (b3-a3),vc (c1-a1) (c2-a2) (c3-a3)] (hcross) (by kernel_rfl) Tryz.call30 ?_
  refine kcall 31 [vc m1 m2 m3] (vIsZeroF (dec_and h0)) (by kernel_rfl) Tryz.call31 ?_
  refine kcall 32 [vc m1 m2 m3,vc a1 a2 a3] (dotF (lm.a.mono (by decide)) (lm.b.mono (by decide)) (lm.c.mono (by decide)) (ka.1.lf.mono (by decide)) (ka.2.1.lf.mono (by decide)) (ka.2.2.lf.mono (by decide))) (by kernel_rfl) Tryz.call32 ?_
  refine kcallW hI 33 [hf m1 m2 m3 (dt m1 m2 m3 a1 a2 a3)] (hw) (by kernel_rfl) Tryz.call33 ?_
  exact kret Tryz.func6 (by kernel_rfl)
theorem lcm_lt {x y i j:Nat} (hx:x<10^i) (hy:y<10^j):Nat.lcm x y<10^(i+j):=by
 unfold Nat.lcm
 refine Nat.lt_of_le_of_lt (Nat.div_le_self _ _) ?_
 rw [Nat.pow_add]
 exact Nat.mul_lt_mul'' hx hy
theorem bq_whole {k:Nat} (h1:Bq k m1) (h2:Bq k m2) (h3:Bq k m3) {L G:Nat} (hG0:0<G) (hw:wholeR m1 m2 m3=mkRat L G) (hL:L=Nat.lcm m3.den (Nat.lcm m2.den (Nat.lcm m1.den 1))) (g1:G ∣ m1.num.natAbs) (g2:G ∣ m2.num.natAbs) (g3:G ∣ m3.num.natAbs) (h0:¬ (m1=0∧m2=0∧m3=0)):Bq (3*k+1) (wholeR m1 m2 m3):=by
 have hl:L<10^(3*k+1):=by
  rw [hL,show 3*k+1=k+(k+(k+1)) by omega]
  exact lcm_lt h3.2 (lcm_lt h2.2 (lcm_lt h1.2 (by decide)))
 have le:∀ {q:Rat},Bq k q→G ∣ q.num.natAbs→q≠0→G<10^k:=fun {q} h g hq=>by
  have h0:q.num≠0:=numr_ne hq
  exact Nat.lt_of_le_of_lt (Nat.le_of_dvd (by omega) g) h.1
 have hg:G<10^k:=by
  by_cases n1:m1=0
  ·by_cases n2:m2=0
   ·exact le h3 g3 fun n3=>h0 ⟨n1,n2,n3⟩
   ·exact le h2 g2 n2
  ·exact le h1 g1 n1
 have hg' : G<10^(3*k+1):=Nat.lt_of_lt_of_le hg (Nat.pow_le_pow_right (by omega) (by omega))
 obtain ⟨e1,e2⟩:=mkRat_num_le (L:Int) (d:=G) (by omega)
 rw [hw]
 exact ⟨by omega,by omega⟩
structure Thr (a1 a2 a3 b1 b2 b3 c1 c2 c3:Rat) (z1 z2 z3:Int) (e:Rat):Prop where
 e1:wholeR ((b2-a2)*(c3-a3)-(b3-a3)*(c2-a2)) ((b3-a3)*(c1-a1)-(b1-a1)*(c3-a3)) ((b1-a1)*(c2-a2)-(b2-a2)*(c1-a1))*((b2-a2)*(c3-a3)-(b3-a3)*(c2-a2))=z1
 e2:wholeR ((b2-a2)*(c3-a3)-(b3-a3)*(c2-a2)) ((b3-a3)*(c1-a1)-(b1-a1)*(c3-a3)) ((b1-a1)*(c2-a2)-(b2-a2)*(c1-a1))*((b3-a3)*(c1-a1)-(b1-a1)*(c3-a3))=z2
 e3:wholeR ((b2-a2)*(c3-a3)-(b3-a3)*(c2-a2)) ((b3-a3)*(c1-a1)-(b1-a1)*(c3-a3)) ((b1-a1)*(c2-a2)-(b2-a2)*(c1-a1))*((b1-a1)*(c2-a2)-(b2-a2)*(c1-a1))=z3
 ed:e=dt z1 z2 z3 a1 a2 a3
 h0:¬ (z1=0∧z2=0∧z3=0)
 s1:Sz z1
 s2:Sz z2
 s3:Sz z3
 g:Int.gcd (Int.gcd z1 z2:Int) z3=1
 b:Bq 300 e
 w:FitsW Tryz.prog Gl 6 [vS a1 a2 a3,vS b1 b2 b3,vS c1 c2 c3] (okH z1 z2 z3 e)
theorem through_out (ha1:Bq 5 a1) (ha2:Bq 5 a2) (ha3:Bq 5 a3) (hb1:Bq 5 b1) (hb2:Bq 5 b2) (hb3:Bq 5 b3) (hc1:Bq 5 c1) (hc2:Bq 5 c2) (hc3:Bq 5 c3) :
 FitsW Tryz.prog Gl 6 [vS a1 a2 a3,vS b1 b2 b3,vS c1 c2 c3] noneH∨FitsW Tryz.prog Gl 6 [vS a1 a2 a3,vS b1 b2 b3,vS c1 c2 c3] largeH∨∃ z1 z2 z3 e,Thr a1 a2 a3 b1 b2 b3 c1 c2 c3 z1 z2 z3 e:=by
 have W:∀ {q:Rat},Bq 5 q→Wr q:=fun h=>h.wr (by omega)
 have ka:Wr3 a1 a2 a3:=⟨W ha1,W ha2,W ha3⟩
 have kb:Wr3 b1 b2 b3:=⟨W hb1,W hb2,W hb3⟩
 have kc:Wr3 c1 c2 c3:=⟨W hc1,W hc2,W hc3⟩
 have q1:Bq 45 ((b2-a2)*(c3-a3)-(b3-a3)*(c2-a2)):=((hb2.sub ha2).mul (hc3.sub ha3)).sub ((hb3.sub ha3).mul (hc2.sub ha2))
 have q2:Bq 45 ((b3-a3)*(c1-a1)-(b1-a1)*(c3-a3)):=((hb3.sub ha3).mul (hc1.sub ha1)).sub ((hb1.sub ha1).mul (hc3.sub ha3))
 have q3:Bq 45 ((b1-a1)*(c2-a2)-(b2-a2)*(c1-a1)):=((hb1.sub ha1).mul (hc2.sub ha2)).sub ((hb2.sub ha2).mul (hc1.sub ha1))
 obtain ⟨m1,e1⟩:∃ m,(b2-a2)*(c3-a3)-(b3-a3)*(c2-a2)=m:=⟨_,rfl⟩
 obtain ⟨m2,e2⟩:∃ m,(b3-a3)*(c1-a1)-(b1-a1)*(c3-a3)=m:=⟨_,rfl⟩
 obtain ⟨m3,e3⟩:∃ m,(b1-a1)*(c2-a2)-(b2-a2)*(c1-a1)=m:=⟨_,rfl⟩
 rw [e1] at q1
 rw [e2] at q2
 rw [e3] at q3
 have l:∀ {q:Rat} {k:Nat},Bq k q→k≤600→Lf 30 q:=fun h hk=>(h.wr hk).lf.mono (by decide)
 have lm:Lv3 30 m1 m2 m3:=⟨l q1 (by omega),l q2 (by omega),l q3 (by omega)⟩
 by_cases h0:m1=0∧m2=0∧m3=0
 ·exact .inl (through_W ka kb kc e1 e2 e3 lm (.inl ⟨h0.1,h0.2.1,h0.2.2,rfl⟩))
 right
 obtain ⟨z1,z2,z3,f1,f2,f3,hg,L,G,hL0,hG0,hw,hL,g1,g2,g3⟩:=whole_form h0
 have qw:=bq_whole q1 q2 q3 hG0 hw hL g1 g2 g3 h0
 have qd:Bq 152 (dt m1 m2 m3 a1 a2 a3):=Bq.dt q1 q2 q3 ha1 ha2 ha3 (by omega)
 have qe:Bq 300 (dt m1 m2 m3 a1 a2 a3*wholeR m1 m2 m3):=(qd.mul qw).mono (by omega)
 have ld:Lf 38 (dt m1 m2 m3 a1 a2 a3):=(l qd (by omega)).mono (by decide)
 have ee:dt m1 m2 m3 a1 a2 a3*wholeR m1 m2 m3=dt (z1:Rat) z2 z3 a1 a2 a3:=by
  rw [← f1,← f2,← f3]
  generalize wholeR m1 m2 m3=F
  unfold dt
  grind
 by_cases hs:Sz z1∧Sz z2∧Sz z3
 ·right
  have hF:Form m1 m2 m3 (dt m1 m2 m3 a1 a2 a3) z1 z2 z3 (dt m1 m2 m3 a1 a2 a3*wholeR m1 m2 m3):=⟨lm.a,lm.b,lm.c,ld,h0,f1,f2,f3,rfl,hs.1,hs.2.1,hs.2.2,qe.wr (by omega)⟩
  refine ⟨z1,z2,z3,_,?_,?_,?_,ee,?_,hs.1,hs.2.1,hs.2.2,hg,qe,apiThroughF ka kb kc e1 e2 e3 hF⟩
  ·rw [e1,e2,e3];exact f1
  ·rw [e1,e2,e3];exact f2
  ·rw [e1,e2,e3];exact f3
  ·rintro ⟨rfl,rfl,rfl⟩
   exact absurd hg (by decide)
 ·left
  exact through_W ka kb kc e1 e2 e3 lm (.inr ⟨h0,rfl,hWriteLargeF ⟨lm.a,lm.b,lm.c,ld,h0,f1,f2,f3,rfl,hs,qe.wr (by omega)⟩⟩)
end
section
variable {h1 h2 h3 i1 i2 i3 j1 j2 j3:Int} {d e f u1 u2 u3 v1 v2 v3 w1 w2 w3 V p1 p2 p3:Rat}
theorem readHH (h:Hv h1 h2 h3 d) (a:Hv i1 i2 i3 e):FitsW Tryz.prog Gl 43 [fnv 34,hS h1 h2 h3 d,fnv 34,hS i1 i2 i3 e] (.tup [.ag [nb h1,nb h2,nb h3,nb d],.ag [nb i1,nb i2,nb i3,nb e],.sc z0]):=by
 refine kgoW Tryz.func43 (by kernel_rfl) fun w00 hG=>?_;have hI:=keepGl hG
 refine kcallW hI 34 [hS h1 h2 h3 d] (readHalfF (m_sz h.s1) (m_sz h.s2) (m_sz h.s3) h.d h.ck) (by kernel_rfl) Tryz.call34 ?_
 refine kcallW hI 34 [hS i1 i2 i3 e] (readHalfF (m_sz a.s1) (m_sz a.s2) (m_sz a.s3) a.d a.ck) (by kernel_rfl) Tryz.call34 ?_
 refine kcall 28 [.fv (.nsl 2 31 [z0,z0])] (first2F) (by kernel_rfl) Tryz.call28 ?_
 exact kret Tryz.func43 (by kernel_rfl)
theorem crossing_W (h:Hv h1 h2 h3 d) (a:Hv i1 i2 i3 e) (b:Hv j1 j2 j3 f) (c:Cr h1 h2 h3 i1 i2 i3 j1 j2 j3 u1 u2 u3 v1 v2 v3 w1 w2 w3 V) (h0:V≠0)
 (k1:((1:Int):Rat)/V*(d*u1+e*v1+f*w1)=p1) (k2:((1:Int):Rat)/V*(d*u2+e*v2+f*w2)=p2) (k3:((1:Int):Rat)/V*(d*u3+e*v3+f*w3)=p3) (hr:Wr3 p1 p2 p3) :
 FitsW Tryz.prog Gl 12 [hS h1 h2 h3 d,hS i1 i2 i3 e,hS j1 j2 j3 f] (okVS p1 p2 p3):=by
 have hc:=crossingF ⟨⟨lf_sz h.s1,lf_sz h.s2,lf_sz h.s3⟩,⟨lf_sz a.s1,lf_sz a.s2,lf_sz a.s3⟩,⟨lf_sz b.s1,lf_sz b.s2,lf_sz b.s3⟩⟩ (h.d.lf.mono (by decide)) (a.d.lf.mono (by decide)) (b.d.lf.mono (by decide)) c h0
 rw [k1,k2,k3] at hc
 refine kgoW Tryz.func12 (by kernel_rfl) fun w00 hG=>?_;have hI:=keepGl hG
 refine kcallW hI 43 [fnv 34,hS h1 h2 h3 d,fnv 34,hS i1 i2 i3 e] (readHH h a) (by kernel_rfl) Tryz.call43 ?_
 refine kcallW hI 34 [hS j1 j2 j3 f] (readHalfF (m_sz b.s1) (m_sz b.s2) (m_sz b.s3) b.d b.ck) (by kernel_rfl) Tryz.call34 ?_
 refine kcall 28 [.fv (.nsl 2 31 [z0,z0])] (first2F) (by kernel_rfl) Tryz.call28 ?_
 refine kcall 44 [hf h1 h2 h3 d,hf i1 i2 i3 e,hf j1 j2 j3 f] (hc) (by kernel_rfl) Tryz.call44 ?_
 refine kcallW hI 45 [vc p1 p2 p3] (writeVec3 hr) (by kernel_rfl) Tryz.call45 ?_
 exact kret Tryz.func12 (by kernel_rfl)
abbrev noneV:AV Kn := .tup [.ag [.lit (.string ⟨#[]⟩),.lit (.string ⟨#[]⟩),.lit (.string ⟨#[]⟩)],.sc (.lit (.int .i64 7))]
theorem crossing_none (h:Hv h1 h2 h3 d) (a:Hv i1 i2 i3 e) (b:Hv j1 j2 j3 f) (c:Cr h1 h2 h3 i1 i2 i3 j1 j2 j3 u1 u2 u3 v1 v2 v3 w1 w2 w3 V) (h0:V=0):FitsW Tryz.prog Gl 12 [hS h1 h2 h3 d,hS i1 i2 i3 e,hS j1 j2 j3 f] noneV:=by
 have hc:=crossingNoneF (d:=d) (e:=e) (f:=f) ⟨⟨lf_sz h.s1,lf_sz h.s2,lf_sz h.s3⟩,⟨lf_sz a.s1,lf_sz a.s2,lf_sz a.s3⟩,⟨lf_sz b.s1,lf_sz b.s2,lf_sz b.s3⟩⟩ c h0
 refine kgoW Tryz.func12 (by kernel_rfl) fun w00 hG=>?_;have hI:=keepGl hG
 refine kcallW hI 43 [fnv 34,hS h1 h2 h3 d,fnv 34,hS i1 i2 i3 e] (readHH h a) (by kernel_rfl) Tryz.call43 ?_
 refine kcallW hI 34 [hS j1 j2 j3 f] (readHalfF (m_sz b.s1) (m_sz b.s2) (m_sz b.s3) b.d b.ck) (by kernel_rfl) Tryz.call34 ?_
 refine kcall 28 [.fv (.nsl 2 31 [z0,z0])] (first2F) (by kernel_rfl) Tryz.call28 ?_
 refine kcall 44 [hf h1 h2 h3 d,hf i1 i2 i3 e,hf j1 j2 j3 f] (hc) (by kernel_rfl) Tryz.call44 ?_
 exact kret Tryz.func12 (by kernel_rfl)
end
end Go.Proofs.YtbhccgffnghlkaaGreatDoor.Ab
namespace Go.Proofs.YtbhccgffnghlkaaGreatDoor.Ab
open Go.RowKit Go.Proofs.YtbhccgffnghlkaaGreatDoor
section
variable {Kc:Value→Bool} {P:Program} {f:FuncId} {w00:World} {Out:Value→World→Prop}
theorem put_put (a:Act) (d:Tmp) (u v:Value):(a.put (some d) u).put (some d) v=a.put (some d) v:=by
 simp [Act.put]
end
end Go.Proofs.YtbhccgffnghlkaaGreatDoor.Ab
namespace Go.Proofs.YtbhccgffnghlkaaGreatDoor.Ab
open Go.RowKit Go.Proofs.YtbhccgffnghlkaaGreatDoor Pl
section
variable {o1 o2 o3 x1 x2 x3 y1 y2 y3 z1 z2 z3:Rat}
variable {k l:Nat}
abbrev fr12 (o1 o2 o3 x1 x2 x3 y1 y2 y3 z1 z2 z3:ByteArray):AV Kn := .fv (.ag [isS o1,isS o2,isS o3,isS x1,isS x2,isS x3,isS y1,isS y2,isS y3,isS z1,isS z2,isS z3])
end
abbrev Tx:=Nat→ByteArray
abbrev V3 (v:Tx):AV Kn:=t3 (v 0) (v 1) (v 2)
abbrev okV3 (v:Tx):AV Kn := .tup [.ag [isS (v 0),isS (v 1),isS (v 2)],.sc z0]
abbrev m3:ByteArray:=⟨#[45,51]⟩
theorem equalZd (d:Nat) (a b c x y z:Int) (w:World):(Op.equalIn (d+2) 28 (.agg #[.int .i64 a,.int .i64 b,.int .i64 c]) (.agg #[.int .i64 x,.int .i64 y,.int .i64 z])).run Tryz.prog w = .ok (a==x&&b==y&&c==z) w :=
 equal3 (d+1) (e:=3) (by kernel_rfl) (by kernel_rfl) (fun w=>by kernel_rfl) (fun w=>by kernel_rfl) (fun w=>run_equalIn_int w _ _ _ .i64 _ _ (by kernel_rfl)) (fun w=>run_equalIn_int w _ _ _ .i64 _ _ (by kernel_rfl)) (fun w=>run_equalIn_int w _ _ _ .i64 _ _ (by kernel_rfl)) w
theorem equalHf (a b c:Int) (s:ByteArray) (w:World):(Op.equal 30 (.agg #[.int .i64 a,.int .i64 b,.int .i64 c,.string s]) (.agg #[.int .i64 a,.int .i64 b,.int .i64 c,.string s])).run Tryz.prog w = .ok true w:=by
 have u:=Tryz.isAgg28
 have z:=Tryz.sizeOf28
 have u2:=Tryz.isAgg22
 have z2:=Tryz.sizeOf22
 have k:=fun (w:World)=>equalZd 9997 a b c a b c w
 have k2:=fun (w:World)=>run_equalIn_string (P:=Tryz.prog) w 9998 22 s s (by kernel_rfl)
 simp only [beq_self_eq_true,Bool.and_self] at k k2
 unfold Op.equal Op.maxDepth
 rw [show (10000:Nat)=9999+1 from rfl,run_equalIn_struct w 9999 _ _ _ (by kernel_rfl) (by kernel_rfl)]
 simp only [Program.fieldsOf,Tryz.underlying30]
 simp [go_sem,u,z,u2,z2,Op.eqFields,k,k2]
theorem hL_is {a b c:Int} {s:ByteArray} {β:List Nat} {v:Value} {w:World} (h:(hL a b c s).holds β v w):v = .agg #[.int .i64 a,.int .i64 b,.int .i64 c,.string s]:=by
 obtain ⟨cs,rfl,x1,r1,rfl,h1,x2,r2,rfl,h2,x3,r3,rfl,h3,x4,r4,rfl,h4,e⟩:=h
 rw [show r4 = [] from e,h1.1,h2.1,h3.1,show x4=_ from h4]
 rfl
section
variable {f:FuncId} {w00:World} {Out:Value→World→Prop} {c:Cfg Kn}
theorem kh4 (x y:Operand) (a b d:Int) (s:ByteArray) (hg:Ok Tryz.prog f w00 Out (runA Tryz.prog 1000 (c.give (bl false))))
 (hc:(c.op.map fun o=>o.op,c.okT (bl false),c.ev x,c.ev y)=(some (.binOp .neq 30 x y 30),true,hL a b d s,hL a b d s):=by kernel_rfl):Ok Tryz.prog f w00 Out c :=
 kop2 (.binOp .neq 30 x y 30) x y _ _ (bl false) hc (by simp [Op.operands]) (by simp [Op.operands]) (fun ρ o β w ho hx hy=>⟨_,agg_ne (by kernel_rfl) (equalHf a b d s w) ho (hL_is hx) (hL_is hy),lit_hold rfl⟩) hg
theorem kve (x y:Operand) (a b d:ByteArray) (hg:Ok Tryz.prog f w00 Out (runA Tryz.prog 1000 (c.give (bl true))))
 (hc:(c.op.map fun o=>o.op,c.okT (bl true),c.ev x,c.ev y)=(some (.binOp .eql 24 x y 24),true,.fv (.ag [isS a,isS b,isS d]),.fv (.ag [isS a,isS b,isS d])):=by kernel_rfl):Ok Tryz.prog f w00 Out c :=
 kop2 (.binOp .eql 24 x y 24) x y _ _ (bl true) hc (by simp [Op.operands]) (by simp [Op.operands]) (fun ρ o β w ho hx hy=>⟨_,by
  have e:=equalT a b d a b d w
  simp only [beq_self_eq_true,Bool.and_self] at e
  exact agg_eq (by kernel_rfl) e ho (s3_is hx) (s3_is hy),lit_hold rfl⟩) hg
end
abbrev okL (a b c:Int) (s:ByteArray):AV Kn := .tup [.ag [.lit (.int .i64 a),.lit (.int .i64 b),.lit (.int .i64 c),isS s],.sc z0]
abbrev P12 (a b c d:Tx):AV Kn:=fr12 (a 0) (a 1) (a 2) (b 0) (b 1) (b 2) (c 0) (c 1) (c 2) (d 0) (d 1) (d 2)
abbrev FV5 (p:Tx) (b:Bool):Prop:=Fits Tryz.prog 5 [V3 p,it 5] (bl b)
abbrev Th (a b c:Tx) (x:AV Kn):Prop:=FitsW Tryz.prog Gl 6 [V3 a,V3 b,V3 c] x
abbrev ThE (a b c:Tx):Prop:=Th a b c noneH∨Th a b c largeH
abbrev SdW (h:AV Kn) (p:Tx) (n:Int):Prop:=FitsW Tryz.prog Gl 9 [h,V3 p] (.tup [.sc (.lit (.int .i64 n)),.sc z0])
section
variable {a b c d n a' b' c' : Tx} {z1 z2 z3 y1 y2 y3:Int} {s t:ByteArray}
structure Pt (z1 z2 z3 y1 y2 y3:Int) (s t:ByteArray) (n p q:Tx):Prop where
 s0:SdW (hL z1 z2 z3 s) p 0
 add:Fits Tryz.prog 10 [V3 p,V3 n] (V3 q)
 s1:SdW (hL z1 z2 z3 s) q 1
 s2:SdW (hL y1 y2 y3 t) q (-1)
set_option maxRecDepth 100000 in
theorem planes_walk (v1:FV5 a true) (v2:FV5 b true) (v3:FV5 c true) (v4:FV5 d true) (cH:Th a b c (okL z1 z2 z3 s)) (cG:Th c b a (okL y1 y2 y3 t)) (cO:FitsW Tryz.prog Gl 7 [hL z1 z2 z3 s] (okL y1 y2 y3 t)) (kH:Fits Tryz.prog 8 [hL z1 z2 z3 s] (it 0))
 (cN:Fits Tryz.prog 11 [hL z1 z2 z3 s] (V3 n)) (pa:Pt z1 z2 z3 y1 y2 y3 s t n a a') (pb:Pt z1 z2 z3 y1 y2 y3 s t n b b') (pc:Pt z1 z2 z3 y1 y2 y3 s t n c c')
 (hx:ThE a b d∧(ThE a c d∨∃ j1 j2 j3 v,Th a c d (okL j1 j2 j3 v))∨∃ i1 i2 i3 u,Th a b d (okL i1 i2 i3 u)∧(ThE a c d∨∃ j1 j2 j3 v,Th a c d (okL j1 j2 j3 v) ∧
  (FitsW Tryz.prog Gl 12 [hL z1 z2 z3 s,hL i1 i2 i3 u,hL j1 j2 j3 v] (okV3 a)∨FitsW Tryz.prog Gl 12 [hL z1 z2 z3 s,hL i1 i2 i3 u,hL j1 j2 j3 v] noneV))):FitsW Tryz.prog Gl 3 [P12 a b c d] (bl true):=by
 refine kgoW Tryz.func3 (by kernel_rfl) fun w00 hG=>?_;have hI:=keepGl hG
 refine kcallW hI 4 [] (awakeF) (by kernel_rfl) Tryz.call4 ?_
 refine kcall 5 [V3 a,it 5] (v1) (by kernel_rfl) Tryz.call5 ?_
 refine kcall 5 [V3 b,it 5] (v2) (by kernel_rfl) Tryz.call5 ?_
 refine kcall 5 [V3 c,it 5] (v3) (by kernel_rfl) Tryz.call5 ?_
 refine kcall 5 [V3 d,it 5] (v4) (by kernel_rfl) Tryz.call5 ?_
 refine kcallW hI 6 [V3 a,V3 b,V3 c] (cH) (by kernel_rfl) Tryz.call6 ?_
 refine kcallW hI 6 [V3 c,V3 b,V3 a] (cG) (by kernel_rfl) Tryz.call6 ?_
 refine kcallW hI 7 [hL z1 z2 z3 s] (cO) (by kernel_rfl) Tryz.call7 ?_
 refine kh4 (.tmp 72) (.tmp 73) y1 y2 y3 t ?_
 refine kcall 8 [hL z1 z2 z3 s] (kH) (by kernel_rfl) Tryz.call8 ?_
 refine kcallW hI 9 [hL z1 z2 z3 s,V3 a] (pa.s0) (by kernel_rfl) Tryz.call9 ?_
 refine kcall 11 [hL z1 z2 z3 s] (cN) (by kernel_rfl) Tryz.call11 ?_
 refine kcall 10 [V3 a,V3 n] (pa.add) (by kernel_rfl) Tryz.call10 ?_
 refine kcallW hI 9 [hL z1 z2 z3 s,V3 a'] (pa.s1) (by kernel_rfl) Tryz.call9 ?_
 refine kcall 11 [hL z1 z2 z3 s] (cN) (by kernel_rfl) Tryz.call11 ?_
 refine kcall 10 [V3 a,V3 n] (pa.add) (by kernel_rfl) Tryz.call10 ?_
 refine kcallW hI 9 [hL y1 y2 y3 t,V3 a'] (pa.s2) (by kernel_rfl) Tryz.call9 ?_
 refine kcallW hI 9 [hL z1 z2 z3 s,V3 b] (pb.s0) (by kernel_rfl) Tryz.call9 ?_
 refine kcall 11 [hL z1 z2 z3 s] (cN) (by kernel_rfl) Tryz.call11 ?_
 refine kcall 10 [V3 b,V3 n] (pb.add) (by kernel_rfl) Tryz.call10 ?_
 refine kcallW hI 9 [hL z1 z2 z3 s,V3 b'] (pb.s1) (by kernel_rfl) Tryz.call9 ?_
 refine kcall 11 [hL z1 z2 z3 s] (cN) (by kernel_rfl) Tryz.call11 ?_
 refine kcall 10 [V3 b,V3 n] (pb.add) (by kernel_rfl) Tryz.call10 ?_
 refine kcallW hI 9 [hL y1 y2 y3 t,V3 b'] (pb.s2) (by kernel_rfl) Tryz.call9 ?_
 refine kcallW hI 9 [hL z1 z2 z3 s,V3 c] (pc.s0) (by kernel_rfl) Tryz.call9 ?_
 refine kcall 11 [hL z1 z2 z3 s] (cN) (by kernel_rfl) Tryz.call11 ?_
 refine kcall 10 [V3 c,V3 n] (pc.add) (by kernel_rfl) Tryz.call10 ?_
 refine kcallW hI 9 [hL z1 z2 z3 s,V3 c'] (pc.s1) (by kernel_rfl) Tryz.call9 ?_
 refine kcall 11 [hL z1 z2 z3 s] (cN) (by kernel_rfl) Tryz.call11 ?_
 refine kcall 10 [V3 c,V3 n] (pc.add) (by kernel_rfl) Tryz.call10 ?_
 refine kcallW hI 9 [hL y1 y2 y3 t,V3 c'] (pc.s2) (by kernel_rfl) Tryz.call9 ?_
 rcases hx with ⟨xa|xa,(xb|xb)|⟨j1,j2,j3,v,xb⟩⟩|⟨i1,i2,i3,u,xa,(xb|xb)|⟨j1,j2,j3,v,xb,cC⟩⟩
 iterate 8 (
  ·refine kcallW hI 6 [V3 a,V3 b,V3 d] (xa) (by kernel_rfl) Tryz.call6 ?_
   refine kcallW hI 6 [V3 a,V3 c,V3 d] (xb) (by kernel_rfl) Tryz.call6 ?_
   exact kret Tryz.func3 (by kernel_rfl))
 refine kcallW hI 6 [V3 a,V3 b,V3 d] (xa) (by kernel_rfl) Tryz.call6 ?_
 refine kcallW hI 6 [V3 a,V3 c,V3 d] (xb) (by kernel_rfl) Tryz.call6 ?_
 rcases cC with cC|cC
 ·refine kcallW hI 12 [hL z1 z2 z3 s,hL i1 i2 i3 u,hL j1 j2 j3 v] (cC) (by kernel_rfl) Tryz.call12 ?_
  refine kve (.tmp 172) (.tmp 174) (a 0) (a 1) (a 2) ?_
  exact kret Tryz.func3 (by kernel_rfl)
 ·refine kcallW hI 12 [hL z1 z2 z3 s,hL i1 i2 i3 u,hL j1 j2 j3 v] (cC) (by kernel_rfl) Tryz.call12 ?_
  exact kret Tryz.func3 (by kernel_rfl)
set_option maxRecDepth 100000 in
theorem planes_err (v1:FV5 a true) (v2:FV5 b true) (v3:FV5 c true) (v4:FV5 d true) (hx:ThE a b c):FitsW Tryz.prog Gl 3 [P12 a b c d] (bl true):=by
 refine kgoW Tryz.func3 (by kernel_rfl) fun w00 hG=>?_;have hI:=keepGl hG
 refine kcallW hI 4 [] (awakeF) (by kernel_rfl) Tryz.call4 ?_
 refine kcall 5 [V3 a,it 5] (v1) (by kernel_rfl) Tryz.call5 ?_
 refine kcall 5 [V3 b,it 5] (v2) (by kernel_rfl) Tryz.call5 ?_
 refine kcall 5 [V3 c,it 5] (v3) (by kernel_rfl) Tryz.call5 ?_
 refine kcall 5 [V3 d,it 5] (v4) (by kernel_rfl) Tryz.call5 ?_
 rcases hx with xa|xa
 ·refine kcallW hI 6 [V3 a,V3 b,V3 c] (xa) (by kernel_rfl) Tryz.call6 ?_
  exact kret Tryz.func3 (by kernel_rfl)
 ·refine kcallW hI 6 [V3 a,V3 b,V3 c] (xa) (by kernel_rfl) Tryz.call6 ?_
  exact kret Tryz.func3 (by kernel_rfl)
set_option maxRecDepth 100000 in
theorem planes_no {b1 b2 b3 b4:Bool} (v1:FV5 a b1) (v2:FV5 b b2) (v3:FV5 c b3) (v4:FV5 d b4) (hb:(b1&&b2&&b3&&b4)=false):FitsW Tryz.prog Gl 3 [P12 a b c d] (bl true):=by
 refine kgoW Tryz.func3 (by kernel_rfl) fun w00 hG=>?_;have hI:=keepGl hG
 refine kcallW hI 4 [] (awakeF) (by kernel_rfl) Tryz.call4 ?_
 cases b1
 ·refine kcall 5 [V3 a,it 5] (v1) (by kernel_rfl) Tryz.call5 ?_
  exact kret Tryz.func3 (by kernel_rfl)
 refine kcall 5 [V3 a,it 5] (v1) (by kernel_rfl) Tryz.call5 ?_
 cases b2
 ·refine kcall 5 [V3 b,it 5] (v2) (by kernel_rfl) Tryz.call5 ?_
  exact kret Tryz.func3 (by kernel_rfl)
 refine kcall 5 [V3 b,it 5] (v2) (by kernel_rfl) Tryz.call5 ?_
 cases b3
 ·refine kcall 5 [V3 c,it 5] (v3) (by kernel_rfl) Tryz.call5 ?_
  exact kret Tryz.func3 (by kernel_rfl)
 refine kcall 5 [V3 c,it 5] (v3) (by kernel_rfl) Tryz.call5 ?_
 cases b4
 ·refine kcall 5 [V3 d,it 5] (v4) (by kernel_rfl) Tryz.call5 ?_
  exact kret Tryz.func3 (by kernel_rfl)
 ·cases hb
end
theorem hv_of {z1 z2 z3:Int} {d:Rat} (h0:¬ (z1=0∧z2=0∧z3=0)) (h1:¬ Bg z1) (h2:¬ Bg z2) (h3:¬ Bg z3) (hg:Int.gcd (Int.gcd z1 z2:Int) z3=1) (hd:Wr d):Hv z1 z2 z3 d :=
 ⟨by unfold Bg at h1;omega,by unfold Bg at h2;omega,by unfold Bg at h3;omega,hd,checkNormalF h0 h1 h2 h3 hg⟩
theorem sgnR_neg (x:Rat):sgnR (-x) = -sgnR x:=by
 unfold sgnR cmpI
 rw [Rat.neg_num]
 (repeat' split) <;> omega
def tx3 (a b c:Rat):Tx:=fun n=>match n with|0=>writeB a|1=>writeB b|_=>writeB c
theorem wn_neg (q:Rat) (n:Nat):wn (-q) n=wn q n:=by rw [wn_gcd,wn_gcd,Rat.neg_num,Int.natAbs_neg]
theorem wd_neg (q:Rat) (n:Nat):wd (-q) n=wd q n:=by rw [wd_lcm,wd_lcm,Rat.neg_den]
theorem whole_neg (a b c:Rat):wholeR (-a) (-b) (-c)=wholeR a b c:=by
 unfold wholeR
 rw [wn_neg,wn_neg,wn_neg,wd_neg,wd_neg,wd_neg]
theorem gcd_neg3 (z1 z2 z3:Int):Int.gcd (Int.gcd (-z1) (-z2):Int) (-z3)=Int.gcd (Int.gcd z1 z2:Int) z3:=by
 rw [Int.neg_gcd,Int.gcd_neg,Int.gcd_neg]
section
variable {z1 z2 z3:Int} {e:Rat}
theorem whole_int (h0:¬ (z1=0∧z2=0∧z3=0)) (hg:Int.gcd (Int.gcd z1 z2:Int) z3=1):wholeR (z1:Rat) z2 z3=1:=by
 have h0' : ¬ ((z1:Rat)=0∧(z2:Rat)=0∧(z3:Rat)=0):=fun ⟨h1,h2,h3⟩=>h0 ⟨by exact_mod_cast h1,by exact_mod_cast h2,by exact_mod_cast h3⟩
 obtain ⟨k1,k2,k3,_,_,_,_,L,G,hL0,hG0,hw,hL,g1,g2,g3⟩:=whole_form h0'
 simp only [Rat.num_intCast,Rat.den_intCast] at hL g1 g2 g3
 have l1:L=1:=by rw [hL];rfl
 have gd:G ∣ 1:=by
  rw [← hg]
  exact Nat.dvd_gcd (Nat.dvd_gcd g1 g2) g3
 have g1:G=1:=Nat.dvd_one.1 gd
 rw [hw,l1,g1]
 rfl
theorem cast_neg (z:Int):((-z:Int):Rat) = -(z:Rat):=by push_cast;rfl
theorem opposite_W (h:Hv z1 z2 z3 e) (h0:¬ (z1=0∧z2=0∧z3=0)) (hg:Int.gcd (Int.gcd z1 z2:Int) z3=1) (he:Wr (-e)):FitsW Tryz.prog Gl 7 [hS z1 z2 z3 e] (okH (-z1) (-z2) (-z3) (-e)):=by
 have hw:wholeR (-(z1:Rat)) (-(z2:Rat)) (-(z3:Rat))=1:=by rw [whole_neg,whole_int h0 hg]
 have l:∀ {z:Int},Sz z→Lf 30 (-(z:Rat)):=fun hz=>(lf_sz hz).neg
 have hs1:=h.s1
 have hs2:=h.s2
 have hs3:=h.s3
 have nz:∀ {z:Int},-(z:Rat)=0→z=0:=fun {z} h=>by
  rw [← cast_neg] at h
  have:-z=0:=by exact_mod_cast h
  omega
 exact apiOppositeF h ⟨l hs1,l hs2,l hs3,(he.lf).mono (by decide),fun ⟨a,b,c⟩=>h0 ⟨nz a,nz b,nz c⟩,
  by rw [hw,cast_neg,Rat.one_mul],by rw [hw,cast_neg,Rat.one_mul],by rw [hw,cast_neg,Rat.one_mul],by rw [hw,Rat.mul_one],by omega,by omega,by omega,he⟩
theorem sgn_int {n:Int} (h:0<n):sgnR (n:Rat)=1:=by
 unfold sgnR cmpI
 rw [Rat.num_intCast,if_neg (by omega),if_pos h]
theorem check_half_ok (h0:¬ (z1=0∧z2=0∧z3=0)) (h1:Sz z1) (h2:Sz z2) (h3:Sz z3) (hg:Int.gcd (Int.gcd z1 z2:Int) z3=1) {k:Nat} (hb:Bq k e) (hk:k≤600):Fits Tryz.prog 8 [hL z1 z2 z3 (writeB e)] (it 0):=by
 have c:Fits Tryz.prog 37 [tx (writeB e)] (.fv (.sc (isI 0))):=(chkB hb hk).res fun _ _ _ h=>h.1
 have hz:hkZ z1 z2 z3 0=0:=by
  unfold hkZ
  rw [if_neg h0,if_neg (by unfold Bg;omega),if_neg (by rw [hg];decide)]
 have:=checkHalfF c hz
 exact Fits.res (Fits.args (l := [hA z1 z2 z3 (writeB e)]) this fun β vs w ⟨v,r,e,h,hr⟩=>⟨v,r,e,hL_A β v w h,hr⟩) fun _ v _ h=>by rw [hold_is h];exact lit_hold rfl
variable {p1 p2 p3:Rat}
theorem side_pt (h:Hv z1 z2 z3 e) (o:Hv (-z1) (-z2) (-z3) (-e)) (h0:¬ (z1=0∧z2=0∧z3=0)) (b1:Bq 5 p1) (b2:Bq 5 p2) (b3:Bq 5 p3) (hp:dt (z1:Rat) z2 z3 p1 p2 p3=e) :
 Pt z1 z2 z3 (-z1) (-z2) (-z3) (writeB e) (writeB (-e)) (tx3 z1 z2 z3) (tx3 p1 p2 p3) (tx3 (p1+z1) (p2+z2) (p3+z3)):=by
 have s9:∀ {z:Int},Sz z→Bq 9 (z:Rat):=fun hz=>bq_int (by show _<1000000000;omega) (by omega)
 have q1:=s9 h.s1
 have q2:=s9 h.s2
 have q3:=s9 h.s3
 have wp:Wr3 p1 p2 p3:=⟨b1.wr (by omega),b2.wr (by omega),b3.wr (by omega)⟩
 have wq:Wr3 (p1+z1) (p2+z2) (p3+z3):=⟨(b1.add q1).wr (by omega),(b2.add q2).wr (by omega),(b3.add q3).wr (by omega)⟩
 have nn:dt (z1:Rat) z2 z3 z1 z2 z3=((z1*z1+z2*z2+z3*z3:Int):Rat):=by push_cast;rfl
 have pos:0<z1*z1+z2*z2+z3*z3:=by
  have m:∀ z:Int,0≤z*z:=fun z=>by rw [← Int.natAbs_mul_self];omega
  have m1:=m z1
  have m2:=m z2
  have m3:=m z3
  rcases Int.lt_or_le 0 (z1*z1+z2*z2+z3*z3) with h'|h'
  ·exact h'
  ·have z:∀ {z:Int},z*z=0→z=0:=fun h=>(Int.mul_eq_zero.1 h).elim id id
   exact absurd ⟨z (by omega),z (by omega),z (by omega)⟩ h0
 have e1:dt (z1:Rat) z2 z3 (p1+z1) (p2+z2) (p3+z3)-e=((z1*z1+z2*z2+z3*z3:Int):Rat):=by
  rw [← nn,← hp]
  unfold dt
  grind
 refine ⟨?_,?_,?_,?_⟩
 ·exact apiSideF (s:=0) h wp (by rw [hp,Rat.sub_self];rfl)
 ·exact addVecR (kn_S (refAddF (b1.zs (by omega)) (q1.zs (by omega)))) (kn_S (refAddF (b2.zs (by omega)) (q2.zs (by omega)))) (kn_S (refAddF (b3.zs (by omega)) (q3.zs (by omega))))
 ·exact apiSideF (s:=1) h wq (by rw [e1];exact sgn_int pos)
 ·refine apiSideF (s := -1) o wq ?_
  have e2:dt ((-z1:Int):Rat) ((-z2:Int):Rat) ((-z3:Int):Rat) (p1+z1) (p2+z2) (p3+z3) - -e = -((z1*z1+z2*z2+z3*z3:Int):Rat):=by
   rw [← e1,cast_neg,cast_neg,cast_neg]
   unfold dt
   grind
  rw [e2,sgnR_neg,sgn_int pos]
end
section
variable {a1 a2 a3 b1 b2 b3 c1 c2 c3 d1 d2 d3:Rat} {z1 z2 z3 i1 i2 i3 j1 j2 j3:Int} {e u v:Rat}
theorem Thr.hv (h:Thr a1 a2 a3 b1 b2 b3 c1 c2 c3 z1 z2 z3 e):Hv z1 z2 z3 e:=by
 have h1:=h.s1
 have h2:=h.s2
 have h3:=h.s3
 exact hv_of h.h0 (by unfold Bg;omega) (by unfold Bg;omega) (by unfold Bg;omega) h.g (h.b.wr (by omega))
theorem Thr.op (h:Thr a1 a2 a3 b1 b2 b3 c1 c2 c3 z1 z2 z3 e):Hv (-z1) (-z2) (-z3) (-e):=by
 have h1:=h.s1
 have h2:=h.s2
 have h3:=h.s3
 exact hv_of (fun ⟨a,b,c⟩=>h.h0 ⟨by omega,by omega,by omega⟩) (by unfold Bg;omega) (by unfold Bg;omega) (by unfold Bg;omega) (by rw [gcd_neg3];exact h.g) (h.b.neg.wr (by omega))
theorem Thr.on (h:Thr a1 a2 a3 b1 b2 b3 c1 c2 c3 z1 z2 z3 e):dt (z1:Rat) z2 z3 b1 b2 b3=e∧dt (z1:Rat) z2 z3 c1 c2 c3=e:=by
 rw [h.ed,← h.e1,← h.e2,← h.e3]
 generalize wholeR _ _ _=F
 unfold dt
 constructor <;> grind
theorem Thr.back (h:Thr a1 a2 a3 b1 b2 b3 c1 c2 c3 z1 z2 z3 e) (ka:Bq 5 a1∧Bq 5 a2∧Bq 5 a3) (kb:Bq 5 b1∧Bq 5 b2∧Bq 5 b3) (kc:Bq 5 c1∧Bq 5 c2∧Bq 5 c3):FitsW Tryz.prog Gl 6 [vS c1 c2 c3,vS b1 b2 b3,vS a1 a2 a3] (okH (-z1) (-z2) (-z3) (-e)):=by
 have W:∀ {p q r:Rat},Bq 5 p∧Bq 5 q∧Bq 5 r→Wr3 p q r:=fun h=>⟨h.1.wr (by omega),h.2.1.wr (by omega),h.2.2.wr (by omega)⟩
 obtain ⟨ha1,ha2,ha3⟩:=ka
 obtain ⟨hb1,hb2,hb3⟩:=kb
 obtain ⟨hc1,hc2,hc3⟩:=kc
 have q1:Bq 45 ((b2-a2)*(c3-a3)-(b3-a3)*(c2-a2)):=((hb2.sub ha2).mul (hc3.sub ha3)).sub ((hb3.sub ha3).mul (hc2.sub ha2))
 have q2:Bq 45 ((b3-a3)*(c1-a1)-(b1-a1)*(c3-a3)):=((hb3.sub ha3).mul (hc1.sub ha1)).sub ((hb1.sub ha1).mul (hc3.sub ha3))
 have q3:Bq 45 ((b1-a1)*(c2-a2)-(b2-a2)*(c1-a1)):=((hb1.sub ha1).mul (hc2.sub ha2)).sub ((hb2.sub ha2).mul (hc1.sub ha1))
 have f1:=h.e1
 have f2:=h.e2
 have f3:=h.e3
 have hon:=h.on
 have n1:(b2-c2)*(a3-c3)-(b3-c3)*(a2-c2) = -((b2-a2)*(c3-a3)-(b3-a3)*(c2-a2)):=by grind
 have n2:(b3-c3)*(a1-c1)-(b1-c1)*(a3-c3) = -((b3-a3)*(c1-a1)-(b1-a1)*(c3-a3)):=by grind
 have n3:(b1-c1)*(a2-c2)-(b2-c2)*(a1-c1) = -((b1-a1)*(c2-a2)-(b2-a2)*(c1-a1)):=by grind
 generalize (b2-a2)*(c3-a3)-(b3-a3)*(c2-a2)=m1 at *
 generalize (b3-a3)*(c1-a1)-(b1-a1)*(c3-a3)=m2 at *
 generalize (b1-a1)*(c2-a2)-(b2-a2)*(c1-a1)=m3 at *
 have l:∀ {q:Rat} {k:Nat},Bq k q→k≤600→Lf 30 (-q):=fun h hk=>(((h.neg).wr hk).lf).mono (by decide)
 have s1:=h.s1
 have s2:=h.s2
 have s3:=h.s3
 refine apiThroughF (W ⟨hc1,hc2,hc3⟩) (W ⟨hb1,hb2,hb3⟩) (W ⟨ha1,ha2,ha3⟩) n1 n2 n3 ⟨l q1 (by omega),l q2 (by omega),l q3 (by omega),?_,?_,?_,?_,?_,?_,by omega,by omega,by omega,h.b.neg.wr (by omega)⟩
 ·exact (((Bq.dt q1.neg q2.neg q3.neg hc1 hc2 hc3 (n:=152) (by omega)).wr (by omega)).lf).mono (by decide)
 ·rintro ⟨g1,g2,g3⟩
  have z:∀ {q:Rat},-q=0→q=0:=fun h=>by grind
  rw [z g1,Rat.mul_zero] at f1
  rw [z g2,Rat.mul_zero] at f2
  rw [z g3,Rat.mul_zero] at f3
  exact h.h0 ⟨by exact_mod_cast f1.symm,by exact_mod_cast f2.symm,by exact_mod_cast f3.symm⟩
 ·rw [whole_neg,cast_neg,← f1];grind
 ·rw [whole_neg,cast_neg,← f2];grind
 ·rw [whole_neg,cast_neg,← f3];grind
 ·rw [whole_neg,← hon.2,← f1,← f2,← f3]
  generalize wholeR m1 m2 m3=F
  unfold dt
  grind
theorem thr_cross (h:Thr a1 a2 a3 b1 b2 b3 c1 c2 c3 z1 z2 z3 e) {x1 x2 x3 y1 y2 y3:Rat} (i:Thr a1 a2 a3 b1 b2 b3 x1 x2 x3 i1 i2 i3 u) (j:Thr a1 a2 a3 c1 c2 c3 y1 y2 y3 j1 j2 j3 v) (ka:Wr3 a1 a2 a3) :
 FitsW Tryz.prog Gl 12 [hS z1 z2 z3 e,hS i1 i2 i3 u,hS j1 j2 j3 v] (okVS a1 a2 a3)∨FitsW Tryz.prog Gl 12 [hS z1 z2 z3 e,hS i1 i2 i3 u,hS j1 j2 j3 v] noneV:=by
 have ce:=h.ed
 have cu:=i.ed
 have cv:=j.ed
 have c:Cr (z1:Rat) z2 z3 i1 i2 i3 j1 j2 j3 _ _ _ _ _ _ _ _ _ _:=⟨rfl,rfl,rfl,rfl,rfl,rfl,rfl,rfl,rfl,rfl⟩
 by_cases h0:dt (z1:Rat) z2 z3 ((i2:Rat)*j3-i3*j2) ((i3:Rat)*j1-i1*j3) ((i1:Rat)*j2-i2*j1)=0
 ·exact .inr (crossing_none h.hv i.hv j.hv c h0)
 ·left
  have t1:((1:Int):Rat)=1:=rfl
  have key:∀ {V p x:Rat},V≠0→x=V*p→((1:Int):Rat)/V*x=p:=fun {V p x} hV hx=>by
   rw [hx,t1,Rat.div_def,Rat.one_mul,← Rat.mul_assoc,Rat.inv_mul_cancel _ hV,Rat.one_mul]
  refine crossing_W h.hv i.hv j.hv c h0 (key h0 ?_) (key h0 ?_) (key h0 ?_) ka
  all_goals
   rw [ce,cu,cv]
   generalize (z1:Rat)=z1
   generalize (z2:Rat)=z2
   generalize (z3:Rat)=z3
   generalize (i1:Rat)=i1
   generalize (i2:Rat)=i2
   generalize (i3:Rat)=i3
   generalize (j1:Rat)=j1
   generalize (j2:Rat)=j2
   generalize (j3:Rat)=j3
   unfold dt
   grind
end
open Classical in
open Classical in
open Classical in
open Classical in
theorem few5y (s:ByteArray) (h:Fy 5 s):Fits Tryz.prog 25 [tx s,it 5] (bl true):=by
 obtain ⟨q,rfl,h⟩:=h
 exact kn_F (few5Yes h)
theorem few5n (s:ByteArray) (h:¬ Fy 5 s):Fits Tryz.prog 25 [tx s,it 5] (bl false):=kn_F (few5No h)
section
variable {a1 a2 a3 b1 b2 b3 c1 c2 c3 d1 d2 d3:Rat}
theorem planesR (ka:Bq 5 a1∧Bq 5 a2∧Bq 5 a3) (kb:Bq 5 b1∧Bq 5 b2∧Bq 5 b3) (kc:Bq 5 c1∧Bq 5 c2∧Bq 5 c3) (kd:Bq 5 d1∧Bq 5 d2∧Bq 5 d3) (v1:FV5 (tx3 a1 a2 a3) true) (v2:FV5 (tx3 b1 b2 b3) true) (v3:FV5 (tx3 c1 c2 c3) true) (v4:FV5 (tx3 d1 d2 d3) true) :
 FitsW Tryz.prog Gl 3 [P12 (tx3 a1 a2 a3) (tx3 b1 b2 b3) (tx3 c1 c2 c3) (tx3 d1 d2 d3)] (bl true):=by
 rcases through_out ka.1 ka.2.1 ka.2.2 kb.1 kb.2.1 kb.2.2 kc.1 kc.2.1 kc.2.2 with h|h|⟨z1,z2,z3,e,H⟩
 ·exact planes_err v1 v2 v3 v4 (.inl h)
 ·exact planes_err v1 v2 v3 v4 (.inr h)
 ·have two:=through_out ka.1 ka.2.1 ka.2.2 kb.1 kb.2.1 kb.2.2 kd.1 kd.2.1 kd.2.2
  have three:=through_out ka.1 ka.2.1 ka.2.2 kc.1 kc.2.1 kc.2.2 kd.1 kd.2.1 kd.2.2
  refine planes_walk (s:=writeB e) (t:=writeB (-e)) (n:=tx3 z1 z2 z3) (a':=tx3 (a1+z1) (a2+z2) (a3+z3)) (b':=tx3 (b1+z1) (b2+z2) (b3+z3)) (c':=tx3 (c1+z1) (c2+z2) (c3+z3)) v1 v2 v3 v4 H.w (H.back ka kb kc) (opposite_W H.hv H.h0 H.g (H.b.neg.wr (by omega))) (check_half_ok H.h0 H.s1 H.s2 H.s3 H.g H.b (by omega)) (normalF (m_sz H.s1) (m_sz H.s2) (m_sz H.s3))
   (side_pt H.hv H.op H.h0 ka.1 ka.2.1 ka.2.2 H.ed.symm) (side_pt H.hv H.op H.h0 kb.1 kb.2.1 kb.2.2 H.on.1) (side_pt H.hv H.op H.h0 kc.1 kc.2.1 kc.2.2 H.on.2) ?_
  have E3:ThE (tx3 a1 a2 a3) (tx3 c1 c2 c3) (tx3 d1 d2 d3)∨∃ j1 j2 j3 v,Thr a1 a2 a3 c1 c2 c3 d1 d2 d3 j1 j2 j3 v:=by
   rcases three with xb|xb|xb
   ·exact .inl (.inl xb)
   ·exact .inl (.inr xb)
   ·exact .inr xb
  rcases two with xa|xa|⟨i1,i2,i3,u,I⟩
  ·exact .inl ⟨.inl xa,E3.imp id fun ⟨j1,j2,j3,v,J⟩=>⟨j1,j2,j3,_,J.w⟩⟩
  ·exact .inl ⟨.inr xa,E3.imp id fun ⟨j1,j2,j3,v,J⟩=>⟨j1,j2,j3,_,J.w⟩⟩
  ·exact .inr ⟨i1,i2,i3,_,I.w,E3.imp id fun ⟨j1,j2,j3,v,J⟩=>⟨j1,j2,j3,_,J.w,thr_cross H I J ⟨ka.1.wr (by omega),ka.2.1.wr (by omega),ka.2.2.wr (by omega)⟩⟩⟩
end
theorem fewFV (p:Tx):(∃ x y z,p 0=writeB x∧p 1=writeB y∧p 2=writeB z∧(Bq 5 x∧Bq 5 y∧Bq 5 z)∧FV5 p true)∨FV5 p false :=
 (fewVec_or few5y few5n).imp (fun ⟨⟨x,e1,f1⟩,⟨y,e2,f2⟩,⟨z,e3,f3⟩,h⟩=>⟨x,y,z,e1,e2,e3,⟨bq_of f1,bq_of f2,bq_of f3⟩,h⟩) id
theorem planesF (a b c d:Tx):FitsW Tryz.prog Gl 3 [P12 a b c d] (bl true):=by
 have N:∀ {p:Tx},(∃ x y z,p 0=writeB x∧p 1=writeB y∧p 2=writeB z∧(Bq 5 x∧Bq 5 y∧Bq 5 z)∧FV5 p true)∨FV5 p false→∃ t,FV5 p t:=fun h=>h.elim (fun ⟨_,_,_,_,_,_,_,h⟩=>⟨_,h⟩) fun h=>⟨_,h⟩
 obtain ⟨t2,n2⟩:=N (fewFV b)
 obtain ⟨t3,n3⟩:=N (fewFV c)
 obtain ⟨t4,n4⟩:=N (fewFV d)
 rcases fewFV a with ⟨a1,a2,a3,e1,e2,e3,ka,v1⟩|v1
 ·rcases fewFV b with ⟨b1,b2,b3,e4,e5,e6,kb,v2⟩|v2
  ·rcases fewFV c with ⟨c1,c2,c3,e7,e8,e9,kc,v3⟩|v3
   ·rcases fewFV d with ⟨d1,d2,d3,f1,f2,f3,kd,v4⟩|v4
    ·unfold FV5 V3 at v1 v2 v3 v4
     unfold P12
     rw [e1,e2,e3] at v1
     rw [e4,e5,e6] at v2
     rw [e7,e8,e9] at v3
     rw [f1,f2,f3] at v4
     rw [e1,e2,e3,e4,e5,e6,e7,e8,e9,f1,f2,f3]
     exact planesR ka kb kc kd v1 v2 v3 v4
    ·exact planes_no v1 v2 v3 v4 rfl
   ·exact planes_no v1 v2 v3 n4 rfl
  ·exact planes_no v1 v2 n3 n4 rfl
 ·exact planes_no v1 n2 n3 n4 rfl
end Go.Proofs.YtbhccgffnghlkaaGreatDoor.Ab
namespace Go.Proofs.YtbhccgffnghlkaaGreatDoor.Ab
open Go.ChangeShapes Go.WideShapes Go.ChangeAt Go.RowKit Go.Proofs.YtbhccgffnghlkaaGreatDoor
theorem gPow:Tryz.prog.globalNamed "internal/strconv.uint64pow10" = some 7:=by kernel_rfl
theorem gl_of {W:World} {r:List (String×DataW Unit)} (h:laidMet Tryz.prog (("internal/strconv.uint64pow10",Lib.tabData .u64 Lib.pow10Tab)::r) W) (hs:W.ShapedOpen Tryz.prog):Gl W :=
 ⟨Lib.tabIs_of_head (t:=288) (e:=135) (n:=20) gPow (by kernel_rfl) (by kernel_rfl) (by kernel_rfl) (by kernel_rfl) (by kernel_rfl) h,
  Go.Proofs.cell_of_shapedOpen_int (zero := #[.int .i64 0]) (t:=3) hs (of_decide_eq_true (by kernel_rfl)) (by kernel_rfl) rfl (by kernel_rfl) (by kernel_rfl) (by kernel_rfl)⟩
end Go.Proofs.YtbhccgffnghlkaaGreatDoor.Ab
namespace Go.Proofs.YtbhccgffnghlkaaGreatDoor.Ab
open Go.ChangeShapes Go.WideShapes Go.RowKit
def kindAt (P:Program):Nat→TypeId→Nat→Option Bool
 | 0,_,_=>none
 | d+1,T,i=>match P.underlying T with
   | some (.int .i64)=>if i=0 then some false else none
   | some .string=>if i=0 then some true else none
   | some (.array n e)=>if 0<P.cellsOf e∧i/P.cellsOf e<n then kindAt P d e (i%P.cellsOf e) else none
   | some (.struct fs)=>(fs.toList.find? fun f=>decide (f.offset≤i∧i<f.offset+P.cellsOf f.type)).bind fun f=>kindAt P d f.type (i-f.offset)
   | _=>none
def isKind:Bool→Value→Prop
 | true,c => ∃ s:ByteArray,c = .string s∧s.size≤maxLen
 | false,c => ∃ n:Int,c = .int .i64 n∧(Lit.int .i64 n).wf=true
section
variable {H:Type} {enc:TypeId×Value→H} {P:Program} {w:World} {base:Nat} {spare:Nat→Bool} {held:Bool}
theorem piece {cs:List Value} {o n r:Nat} {c:Value} (h:((cs.drop o).take n)[r]?=some c):cs[o+r]?=some c:=by
 rw [List.getElem?_take] at h
 split at h
 ·rw [List.getElem?_drop] at h;exact h
 ·cases h
theorem trod_kind:∀ (d:Nat) {T:TypeId} {fuel i:Nat} {cs:List Value} {x:DataW H×List MemPlace} {k:Bool},DataW.trod enc P w base spare held fuel T cs=some x→kindAt P d T i=some k→∃ c,cs[i]?=some c∧isKind k c:=by
 intro d
 induction d with
 | zero=>intro T fuel i cs x k _ hk;cases hk
 | succ d ih =>
   intro T fuel i cs x k h hk
   unfold kindAt at hk
   split at hk
   ·rename_i hu
    split at hk <;> cases hk
    rename_i h0
    subst h0
    cases fuel with
    | zero=>cases h
    | succ m =>
      unfold DataW.trod at h
      rw [hu] at h
      split at h <;> simp_all
      obtain ⟨⟨_,hw⟩,_⟩:=h
      cases ‹IntKind.i64=_›
      exact ⟨_,rfl,hw⟩
   ·rename_i hu
    split at hk <;> cases hk
    rename_i h0
    subst h0
    cases fuel with
    | zero=>cases h
    | succ m =>
      unfold DataW.trod at h
      rw [hu] at h
      split at h <;> simp_all
      exact ⟨_,rfl,h.1⟩
   ·rename_i n e hu
    split at hk
    ·rename_i hi
     obtain ⟨xs,m,_,_,_,hlen,hat⟩:=DataW.trod_array hu h
     have hq:=hat (i/P.cellsOf e) hi.2
     rw [List.getElem?_eq_getElem (by omega)] at hq
     obtain ⟨c,hc,hk'⟩:=ih hq hk
     refine ⟨c,?_,hk'⟩
     have:=piece hc
     rw [Nat.mul_comm,Nat.div_add_mod] at this
     exact this
    ·cases hk
   ·rename_i fs hu
    rw [Option.bind_eq_some_iff] at hk
    obtain ⟨f,hf,hk⟩:=hk
    have hp:=List.find?_some hf
    simp only [decide_eq_true_eq] at hp
    obtain ⟨j,hj,hje⟩:=List.getElem_of_mem (List.mem_of_find?_eq_some hf)
    obtain ⟨xs,n,_,_,_,hlen,hat⟩:=DataW.trod_struct hu h
    have hq:=hat j f (by rw [← hje];simp)
    rw [List.getElem?_eq_getElem (by simp at hj;omega)] at hq
    obtain ⟨c,hc,hk'⟩:=ih hq hk
    refine ⟨c,?_,hk'⟩
    have:=piece hc
    rw [show f.offset+(i-f.offset)=i by omega] at this
    exact this
   ·cases hk
def plainT (P:Program):Nat→TypeId→Bool
 | 0,_=>false
 | d+1,T=>match P.underlying T with
   | some (.int _)|some .string=>true
   | some (.array _ e)=>plainT P d e
   | some (.struct fs)=>fs.toList.all fun f=>plainT P d f.type
   | _=>false
theorem mapM_same {α β:Type} {f g:α→Option (β×List MemPlace)}:∀ {l:List α} {xs:List (β×List MemPlace)},l.mapM f=some xs→(∀ a∈l,∀ x,f a=some x→g a=some x∧x.2 = [])→l.mapM g=some xs∧xs.flatMap (·.2) = []
 | [],xs,h,_=>by simp at h;subst h;exact ⟨rfl,rfl⟩
 | a::l,xs,h,hs=>by
   rw [List.mapM_cons] at h
   simp only [bind,Option.bind_eq_some_iff,pure,Option.some.injEq] at h
   obtain ⟨y,hy,ys,hys,rfl⟩:=h
   obtain ⟨g1,g2⟩:=hs a (by simp) y hy
   obtain ⟨i1,i2⟩:=mapM_same hys fun b hb=>hs b (by simp [hb])
   exact ⟨by rw [List.mapM_cons,g1,i1];rfl,by simp [g2,i2]⟩
def SameRead (enc:TypeId×Value→H) (P:Program) (w:World) (base:Nat) (spare:Nat→Bool) (held:Bool) (w' : World) (base' : Nat) (spare' : Nat→Bool) (d:Nat):Prop :=
 ∀ (T:TypeId) (fuel:Nat) (cs:List Value) (x:DataW H×List MemPlace),plainT P d T=true→DataW.trod enc P w base spare held fuel T cs=some x→DataW.trod enc P w' base' spare' held fuel T cs=some x∧x.2 = []
theorem trod_plain {w' : World} {base' : Nat} {spare' : Nat→Bool}:∀ d:Nat,SameRead enc P w base spare held w' base' spare' d:=by
 intro d
 induction d with
 | zero=>intro T fuel cs x hp;cases hp
 | succ d ih =>
   intro T fuel cs x hp h
   cases fuel with
   | zero=>cases h
   | succ m =>
     unfold plainT at hp
     unfold DataW.trod at h ⊢
     split at hp
     ·rename_i hu
      rw [hu] at h ⊢
      split at h <;> simp_all <;> (obtain ⟨_,h⟩:=h;rw [← h])
     ·rename_i hu
      rw [hu] at h ⊢
      split at h <;> simp_all <;> (obtain ⟨_,h⟩:=h;rw [← h])
     ·rename_i hu
      rw [hu] at h ⊢
      split at h <;> simp_all
      obtain ⟨hl,xs,hxs,rfl⟩:=h
      obtain ⟨g1,g2⟩:=mapM_same hxs fun a _ x hx=>ih _ _ _ _ hp hx
      exact ⟨⟨xs,g1,rfl⟩,g2⟩
     ·rename_i hu
      rw [hu] at h ⊢
      split at h <;> simp_all
      obtain ⟨hl,xs,hxs,rfl⟩:=h
      obtain ⟨g1,g2⟩:=mapM_same hxs fun a ha x hx=>ih _ _ _ _ (by obtain ⟨j,hj,rfl⟩:=List.getElem_of_mem ha;simpa using hp j (by simpa using hj)) hx
      exact ⟨⟨xs,g1,rfl⟩,g2⟩
     ·cases hp
theorem Trod_plain {w' : World} {base' : Nat} {spare' : Nat→Bool} {T:TypeId} {v:Value} {D:DataW H} {p:List MemPlace} (hp:plainT P 10 T=true) (h:DataW.Trod enc P w base spare held T v D p):p = []∧DataW.Trod enc P w' base' spare' held T v D []:=by
 obtain ⟨fuel,hf⟩:=h
 obtain ⟨h1,h2⟩:=trod_plain (w':=w') (base':=base') (spare':=spare') 10 _ _ _ _ hp hf
 simp only at h2
 subst h2
 exact ⟨rfl,fuel,h1⟩
theorem agg_of {r:Reach} {b0 n:Nat} {T:TypeId} {v:Value} (hu:(match P.underlying T with|some (.struct _)|some (.array _ _)=>true|_=>false)=true) (hC:P.cellsOf T=n) (hv:Value.okWide P w r b0 T v):∃ cs:Array Value,v = .agg cs∧cs.size=n:=by
 split at hu
 ·rename_i hs
  simp only [Value.okWide,hs] at hv
  obtain ⟨cs,h1,h2,_⟩:=hv
  exact ⟨cs,h1,h2.trans hC⟩
 ·rename_i hs
  simp only [Value.okWide,hs] at hv
  obtain ⟨cs,h1,h2,_⟩:=hv
  exact ⟨cs,h1,h2.trans hC⟩
 ·cases hu
theorem cell_at {T:TypeId} {cs:Array Value} {D:DataW H} {p:List MemPlace} {k:Bool} (i:Nat) (h:DataW.Trod enc P w base spare held T (.agg cs) D p) (hk:kindAt P 10 T i=some k):∃ c,cs[i]?=some c∧isKind k c:=by
 obtain ⟨fuel,hf⟩:=h
 obtain ⟨c,h1,h2⟩:=trod_kind 10 hf hk
 exact ⟨c,by simpa [Value.cells] using h1,h2⟩
theorem open_txts {r:Reach} {b0 n:Nat} {T:TypeId} {v:Value} {D:DataW H} {p:List MemPlace} (hu:(match P.underlying T with|some (.struct _)|some (.array _ _)=>true|_=>false)=true) (hC:P.cellsOf T=n)
 (hk:((List.range n).all fun i=>kindAt P 10 T i==some true)=true) (hv:Value.okWide P w r b0 T v) (h:DataW.Trod enc P w base spare held T v D p):∃ l:List ByteArray,l.length=n∧v = .agg (l.map Value.string).toArray:=by
 obtain ⟨cs,rfl,hs⟩:=agg_of hu hC hv
 refine ⟨cs.toList.map fun v=>match v with | .string s=>s|_=>default,by simp [hs],?_⟩
 congr 1
 apply Array.toList_inj.1
 rw [List.map_map]
 apply List.ext_getElem
 ·simp
 ·intro i h1 h2
  have hi:i<n:=by simpa [hs] using h1
  have hk':=List.all_eq_true.1 hk i (List.mem_range.2 hi)
  obtain ⟨c,e,s,rfl,_⟩:=cell_at i h (eq_of_beq hk')
  have e2:cs.toList[i] = .string s:=by
   have:=Array.getElem?_eq_some_iff.1 e
   simpa using this.2
  simp [e2]
end
end Go.Proofs.YtbhccgffnghlkaaGreatDoor.Ab
