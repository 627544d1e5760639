/- Parts of the proof, joined. -/
import Derived.Test.YtgbcaflelmgbdaaGreatDoorJ16
import Derived.Test.YtgbcaflelmgbdaaGreatDoorJ17
import Derived.Test.YtgbcaflelmgbdaaGreatDoorJ11
import Derived.Test.YtgbcaflelmgbdaaGreatDoorJ10
import Derived.Test.YtgbcaflelmgbdaaGreatDoorJ12
set_option linter.unusedSimpArgs false
set_option linter.unusedVariables false
namespace Go.Proofs.YtgbcaflelmgbdaaGreatDoor.Ab
open Go.RowKit Go.Proofs.YtgbcaflelmgbdaaGreatDoor Pl
theorem kretI {f:FuncId} {w00:World} {c:Cfg Kn} {fn:Func} {z:Int} (hfn:Tryz.prog.funcs[f]?=some fn) (hc:c.res Tryz.prog fn=some (it z)):Ok Tryz.prog f w00 (fun v w=>(AV.fv (.sc (gM z)):AV Kn).holds [] v w) c :=
 ⟨good_ret hfn (it z) hc fun _ _ _ h=>h.1⟩
abbrev hA (a b c:Int) (s:ByteArray):AV Kn := .fv (.ag [gM a,gM b,gM c,dG s])
abbrev hL (a b c:Int) (s:ByteArray):AV Kn := .fv (.ag [.lit (.int .i64 a),.lit (.int .i64 b),.lit (.int .i64 c),dG s])
theorem hL_A {a b c:Int} {s:ByteArray} (β:List Nat) (v:Value) (w:World) (h:(hL a b c s).holds β v w):(hA a b c s).holds β v w:=by
 obtain ⟨cs,e,x1,r1,e1,h1,x2,r2,e2,h2,x3,r3,e3,h3,hr⟩:=h
 exact ⟨cs,e,x1,r1,e1,h1.1,x2,r2,e2,h2.1,x3,r3,e3,h3.1,hr⟩
theorem iv_i3 {a b c:Int} (β:List Nat) (v:Value) (w:World) (h:(iv a b c).holds β v w):(i3 a b c).holds β v w:=by
 obtain ⟨cs,e,x1,r1,e1,h1,x2,r2,e2,h2,x3,r3,e3,h3,hr⟩:=h
 exact ⟨cs,e,x1,r1,e1,h1.1,x2,r2,e2,h2.1,x3,r3,e3,h3.1,hr⟩
abbrev Bg (z:Int):Prop:=z < -999999999∨999999999<z
def hkZ (a b c k:Int):Int:=if a=0∧b=0∧c=0 then 6 else if Bg a∨Bg b∨Bg c then 3 else if Int.gcd (Int.gcd a b:Int) c≠1 then 1 else k
section
variable {a b c:Int} {s:ByteArray}
theorem checkHalfF {k z:Int} (hk:Fits Tryz.prog 51 [tx s] (.fv (.sc (gM k)))) (hz:hkZ a b c k=z):Fits Tryz.prog 15 [hA a b c s] (.fv (.sc (gM z))):=by
 unfold hkZ at hz
 refine fW Tryz.func15 (by kernel_rfl) fun w00=>?_
 by_cases h0:a=0∧b=0∧c=0
 ·obtain rfl:z=6:=by rw [← hz,if_pos h0]
  refine kz3 (.tmp 5) (.tmp 6) a b c true (by simp [h0]) ?_
  exact kretI Tryz.func15 (by kernel_rfl)
 rw [if_neg h0] at hz
 refine kz3 (.tmp 5) (.tmp 6) a b c false (by rw [Bool.eq_false_iff];simp;omega) ?_
 have e3:∀ {x:Int},x=a∨x=b∨x=c→Bg x→z=3:=fun hx h=>by
  rw [← hz,if_pos (by rcases hx with rfl|rfl|rfl <;> simp only [h,true_or,or_true])]
 by_cases a1:a < -999999999
 ·obtain rfl:=e3 (.inl rfl) (.inl a1)
  refine klt (.tmp 15) (.const (.int .i64 (-999999999))) a _ true _ bG (decide_eq_true a1) ?_
  exact kretI Tryz.func15 (by kernel_rfl)
 refine klt (.tmp 15) (.const (.int .i64 (-999999999))) a _ false _ bG (decide_eq_false a1) ?_
 by_cases a2:999999999<a
 ·obtain rfl:=e3 (.inl rfl) (.inr a2)
  refine kgg (.tmp 21) (.const (.int .i64 999999999)) a _ true _ bG (decide_eq_true a2) ?_
  exact kretI Tryz.func15 (by kernel_rfl)
 refine kgg (.tmp 21) (.const (.int .i64 999999999)) a _ false _ bG (decide_eq_false a2) ?_
 by_cases b1:b < -999999999
 ·obtain rfl:=e3 (.inr (.inl rfl)) (.inl b1)
  refine klt (.tmp 15) (.const (.int .i64 (-999999999))) b _ true _ bG (decide_eq_true b1) ?_
  exact kretI Tryz.func15 (by kernel_rfl)
 refine klt (.tmp 15) (.const (.int .i64 (-999999999))) b _ false _ bG (decide_eq_false b1) ?_
 by_cases b2:999999999<b
 ·obtain rfl:=e3 (.inr (.inl rfl)) (.inr b2)
  refine kgg (.tmp 21) (.const (.int .i64 999999999)) b _ true _ bG (decide_eq_true b2) ?_
  exact kretI Tryz.func15 (by kernel_rfl)
 refine kgg (.tmp 21) (.const (.int .i64 999999999)) b _ false _ bG (decide_eq_false b2) ?_
 by_cases c1:c < -999999999
 ·obtain rfl:=e3 (.inr (.inr rfl)) (.inl c1)
  refine klt (.tmp 15) (.const (.int .i64 (-999999999))) c _ true _ bG (decide_eq_true c1) ?_
  exact kretI Tryz.func15 (by kernel_rfl)
 refine klt (.tmp 15) (.const (.int .i64 (-999999999))) c _ false _ bG (decide_eq_false c1) ?_
 by_cases c2:999999999<c
 ·obtain rfl:=e3 (.inr (.inr rfl)) (.inr c2)
  refine kgg (.tmp 21) (.const (.int .i64 999999999)) c _ true _ bG (decide_eq_true c2) ?_
  exact kretI Tryz.func15 (by kernel_rfl)
 refine kgg (.tmp 21) (.const (.int .i64 999999999)) c _ false _ bG (decide_eq_false c2) ?_
 rw [if_neg (by unfold Bg;omega)] at hz
 have hg:=intGcdF (a:=a) (b:=b) (by omega) (by omega)
 have hs:=size_gcd (a:=a) (b:=b) (by omega) (by omega)
 have hg2:=intGcdF (a:=(Int.gcd a b:Int)) (b:=c) hs (by omega)
 clear e3 hs
 generalize (Int.gcd a b:Int)=g at *
 generalize Int.gcd g c=g2 at *
 refine aB 50 [.fv (.sc (gM a)),.fv (.sc (gM b))] (hg) (by kernel_rfl) Tryz.call50 ?_
 refine aB 50 [.fv (.sc (gM g)),.fv (.sc (gM c))] (hg2) (by kernel_rfl) Tryz.call50 ?_
 by_cases g1:g2=1
 ·rw [if_neg (by omega)] at hz
  subst hz
  refine kne (.tmp 34) (.const (.int .i64 1)) (g2:Int) 1 false _ bG (by rw [g1];rfl) ?_
  refine aB 51 [tx s] (hk) (by kernel_rfl) Tryz.call51 ?_
  exact aS Tryz.func15 (by kernel_rfl)
 ·obtain rfl:z=1:=by rw [← hz,if_pos g1]
  refine kne (.tmp 34) (.const (.int .i64 1)) (g2:Int) 1 true _ bG (by simp;omega) ?_
  exact kretI Tryz.func15 (by kernel_rfl)
theorem checkNormalF (h0:¬ (a=0∧b=0∧c=0)) (ha:¬ Bg a) (hb:¬ Bg b) (hc:¬ Bg c) (hg:Int.gcd (Int.gcd a b:Int) c=1):Fits Tryz.prog 99 [iv a b c] (it 0):=by
 have w:∀ {x:Int},¬ Bg x→x.natAbs<aD:=fun h=>by unfold Bg at h;rw [aG];omega
 have g1:=dU (a:=0) (b:=a.natAbs) (by rw [aG];omega) (w ha)
 have l1:Nat.gcd 0 a.natAbs<aD:=by rw [Nat.gcd_zero_left];exact w ha
 have g2:=dU l1 (w hb)
 have l2:Nat.gcd (Nat.gcd 0 a.natAbs) b.natAbs<aD:=by
  rw [Nat.gcd_zero_left]
  by_cases e:a=0
  ·rw [e];simpa using w hb
  ·exact Nat.lt_of_le_of_lt (Nat.gcd_le_left _ (by omega)) (w ha)
 have g3:=dU l2 (w hc)
 have e3:Nat.gcd (Nat.gcd (Nat.gcd 0 a.natAbs) b.natAbs) c.natAbs=1:=by
  rw [Nat.gcd_zero_left]
  exact hg
 rw [e3] at g3
 generalize Nat.gcd (Nat.gcd 0 a.natAbs) b.natAbs=x2 at *
 generalize Nat.gcd 0 a.natAbs=x1 at *
 unfold Bg at ha hb hc
 refine Fits.args (l := [i3 a b c]) ?_ fun β vs w ⟨v,r,e,h,hr⟩=>⟨v,r,e,iv_i3 β v w h,hr⟩
 refine fW Tryz.func99 (by kernel_rfl) fun w00=>?_
 refine kz3 (.tmp 6) (.tmp 7) a b c false (by rw [Bool.eq_false_iff];simp;omega) ?_
 refine klt (.tmp 13) (.const (.int .i64 (-999999999))) a (-999999999) false _ bG (by rw [decide_eq_false_iff_not];omega) ?_
 refine kgg (.tmp 16) (.const (.int .i64 999999999)) a 999999999 false _ bG (by rw [decide_eq_false_iff_not];omega) ?_
 refine kneg 21 a (by constructor <;> omega) (by constructor <;> omega) ?_
 refine kabs 20 22 a ?_
 refine kcvu 23 a.natAbs (by omega) ?_
 refine aB 160 [.fv (.sc (.lit (.int .u64 ((0:Nat):Int)))),.fv (.sc (.lit (.int .u64 (a.natAbs:Int))))] (g1) (by kernel_rfl) Tryz.call160 ?_
 refine klt (.tmp 13) (.const (.int .i64 (-999999999))) b (-999999999) false _ bG (by rw [decide_eq_false_iff_not];omega) ?_
 refine kgg (.tmp 16) (.const (.int .i64 999999999)) b 999999999 false _ bG (by rw [decide_eq_false_iff_not];omega) ?_
 refine kneg 21 b (by constructor <;> omega) (by constructor <;> omega) ?_
 refine kabs 20 22 b ?_
 refine kcvu 23 b.natAbs (by omega) ?_
 refine aB 160 [.fv (.sc (.lit (.int .u64 (x1:Int)))),.fv (.sc (.lit (.int .u64 (b.natAbs:Int))))] (g2) (by kernel_rfl) Tryz.call160 ?_
 refine klt (.tmp 13) (.const (.int .i64 (-999999999))) c (-999999999) false _ bG (by rw [decide_eq_false_iff_not];omega) ?_
 refine kgg (.tmp 16) (.const (.int .i64 999999999)) c 999999999 false _ bG (by rw [decide_eq_false_iff_not];omega) ?_
 refine kneg 21 c (by constructor <;> omega) (by constructor <;> omega) ?_
 refine kabs 20 22 c ?_
 refine kcvu 23 c.natAbs (by omega) ?_
 refine aB 160 [.fv (.sc (.lit (.int .u64 (x2:Int)))),.fv (.sc (.lit (.int .u64 (c.natAbs:Int))))] (g3) (by kernel_rfl) Tryz.call160 ?_
 exact aS Tryz.func99 (by kernel_rfl)
end
def csPs:CS Kn where
 size:=1
 cold:=true
 pred cs _ := ∃ a:Addr,cs = [.pointer (some a)]
 stable _ _ _ h _:=h
 len _ _ h:=by obtain ⟨a,h⟩:=h;rw [h];rfl
 one _ _ h:=by obtain ⟨a,h⟩:=h;rw [h];intro c hc;rw [List.mem_singleton] at hc;rw [hc];rfl
 iscold _ _ _ h:=by obtain ⟨a,h⟩:=h;rw [h];intro c hc;rw [List.mem_singleton] at hc;rw [hc];rfl
abbrev sInt (z:Int):List (Seg Kn) := [.lit (.int .i64 z),z0,.lit (.pointer none)]
abbrev sBig:List (Seg Kn) := [z0,z0,.sp csPs]
theorem jB {z:Int} (h:Sm (z:Rat)) {β:List Nat} {cs:List Value} {w:World} (k:(csNb (z:Rat)).pred cs w):holdsL β (sInt z) cs w:=by
 rcases k with ⟨_,e⟩|⟨h2,_⟩
 ·injection e with e
  have:=congrArg Array.toList e
  have e:cs = [.int .i64 z,.int .i64 0,.pointer none]:=by simpa using this
  rw [e]
  exact ⟨[_],_,rfl,⟨rfl,rfl⟩,[_],_,rfl,⟨rfl,rfl⟩,[_],_,rfl,⟨rfl,rfl⟩,rfl⟩
 ·exact absurd h h2
theorem seg_big {q:Rat} (h:¬ Sm q) {β:List Nat} {cs:List Value} {w:World} (k:(csNb q).pred cs w):holdsL β sBig cs w:=by
 rcases k with ⟨h2,_⟩|⟨_,g,s1,s2,e,_⟩
 ·exact absurd h2 h
 ·injection e with e
  have e:cs = [.int .i64 0,.int .i64 0,.pointer (some ⟨g,0,none⟩)]:=congrArg Array.toList e
  rw [e]
  exact ⟨[_],_,rfl,⟨rfl,rfl⟩,[_],_,rfl,⟨rfl,rfl⟩,[_],_,rfl,⟨_,rfl⟩,rfl⟩
theorem seg_nb {q:Rat} {β:List Nat} {cs:List Value} {w:World} (k:(csNb q).pred cs w):holdsL β [nb q] cs w:=⟨cs,[],by simp,k,rfl⟩
theorem mT {z:Int} (hz:Sz z):Sm (z:Rat):=by
 constructor
 ·rw [Rat.num_intCast,dS];omega
 ·rw [Rat.den_intCast,dS];omega
theorem split3 {q1 q2 q3 d:Rat} {s1 s2 s3:List (Seg Kn)} (h1:∀ β cs w,(csNb q1).pred cs w→holdsL β s1 cs w) (h2:∀ β cs w,(csNb q2).pred cs w→holdsL β s2 cs w) (h3:∀ β cs w,(csNb q3).pred cs w→holdsL β s3 cs w) (β:List Nat) (v:Value) (w:World)
 (h:(hf q1 q2 q3 d).holds β v w):(AV.fv (.ag (s1++(s2++(s3 ++ [nb d])))):AV Kn).holds β v w:=by
 obtain ⟨cs,rfl,x1,r1,rfl,k1,x2,r2,rfl,k2,x3,r3,rfl,k3,hr⟩:=h
 exact ⟨_,rfl,holdsL.append (h1 β x1 w k1) (holdsL.append (h2 β x2 w k2) (holdsL.append (h3 β x3 w k3) hr))⟩
theorem pne_run {o:Oper} {ρ:Operand→Value} {w:World} {x:Operand} {a:Addr} {T T' : TypeId} (hT:T=61) (ho:o.op = .binOp .neq T x (.const (.pointer none)) T') (hx:ρ x = .pointer (some a)) (hy:ρ (.const (.pointer none)) = .pointer none) :
 (execOp ρ o).run Tryz.prog w = .ok (.value (.bool true)) w:=by
 subst hT
 simp only [execOp,ho,hx,hy]
 refine bH ?_
 exact bN (by kernel_rfl) w
theorem magM {z:Int} (h:Sm (z:Rat)):Fits Tryz.prog 110 [it z] (.fv (.sc (isU (z.natAbs:Int)))):=by
 have hz:=h.1
 rw [Rat.num_intCast,dS] at hz
 intro β w vs hv
 obtain ⟨v,rfl,h1⟩:=dR hv
 rw [aO h1]
 exact (dY z w (by omega) (by omega)).mono fun e w' ⟨e1,e2⟩=>⟨_,e1,by rw [← e2];exact Below.refl _ _,bM⟩
section
variable {f:FuncId} {w00:World} {Out:Value→World→Prop} {c:Cfg Kn}
theorem kbig (t:Tmp) (hg:Ok Tryz.prog f w00 Out (dH Tryz.prog 1000 (c.give (bl true))))
 (hc:(c.op.map fun o=>o.op,c.okT (bl true),c.ev (.tmp t),c.ev (.const (.pointer none)))=(some (.binOp .neq 61 (.tmp t) (.const (.pointer none)) 61),true,.fv (.sc (.sp csPs)),.fv (.sc (.lit (.pointer none)))):=by kernel_rfl):Ok Tryz.prog f w00 Out c :=
 eJ _ (.tmp t) (.const (.pointer none)) _ _ (bl true) hc (by simp [Op.operands]) (by simp [Op.operands]) (fun ρ o β w ho hx hy=>by
  obtain ⟨a,e⟩:=hx
  injection e with e
  exact ⟨_,pne_run rfl ho e (aO hy),bA rfl⟩) hg
end
abbrev largeH:AV Kn := .tup [.ag [.lit (.int .i64 0),.lit (.int .i64 0),.lit (.int .i64 0),.lit (.string ⟨#[]⟩)],.sc (.lit (.int .i64 4))]
section
variable {n1 n2 n3 d e:Rat} {z1 z2 z3:Int}
structure Big (n1 n2 n3 d:Rat) (z1 z2 z3:Int) (e:Rat):Prop where
 l1:Lf 30 n1
 l2:Lf 30 n2
 l3:Lf 30 n3
 ld:Lf 38 d
 h0:¬ (n1=0∧n2=0∧n3=0)
 e1:aQ n1 n2 n3*n1=z1
 e2:aQ n1 n2 n3*n2=z2
 e3:aQ n1 n2 n3*n3=z3
 ed:d*aQ n1 n2 n3=e
 s:¬ (Sz z1∧Sz z2∧Sz z3)
 wr:Wr e
theorem hWriteLargeF (h:Big n1 n2 n3 d z1 z2 z3 e):FitsW Tryz.prog Gl 46 [hf n1 n2 n3 d] largeH:=by
 have g:∀ {z:Int},Sz z→decide ((999999999:Int)<(z.natAbs:Int))=false:=fun hz=>by rw [decide_eq_false_iff_not];omega
 have b:∀ {z:Int},¬ Sz z→decide ((999999999:Int)<(z.natAbs:Int))=true:=fun hz=>by rw [decide_eq_true_iff];omega
 have hR:=reducedF h.l1 h.l2 h.l3 h.ld h.h0
 rw [h.e1,h.e2,h.e3,h.ed] at hR
 have cw:=writeF (h.wr.lf.mono (by decide)) h.wr.n h.wr.d
 by_cases s1:Sz z1
 ·by_cases s2:Sz z2
  ·have s3:¬ Sz z3:=fun s3=>h.s ⟨s1,s2,s3⟩
   by_cases m:Sm (z3:Rat)
   ·have gr:=Fits.res hR (split3 (fun _ _ _=>jB (mT s1)) (fun _ _ _=>jB (mT s2)) (fun _ _ _=>jB m))
    refine dO Tryz.func46 (by kernel_rfl) fun w00 hG=>?_;have hI:=bD hG
    refine aB 109 [hf n1 n2 n3 d] (gr) (by kernel_rfl) Tryz.call109 ?_
    refine aL hI 59 [num e] (cw) (by kernel_rfl) Tryz.call59 ?_
    refine aB 110 [it z1] (magM (mT s1)) (by kernel_rfl) Tryz.call110 ?_
    refine kgtU 34 z1.natAbs 999999999 false (g s1) (by kernel_rfl) ?_
    refine aB 110 [it z2] (magM (mT s2)) (by kernel_rfl) Tryz.call110 ?_
    refine kgtU 34 z2.natAbs 999999999 false (g s2) (by kernel_rfl) ?_
    refine aB 110 [it z3] (magM m) (by kernel_rfl) Tryz.call110 ?_
    refine kgtU 34 z3.natAbs 999999999 true (b s3) (by kernel_rfl) ?_
    exact aS Tryz.func46 (by kernel_rfl)
   ·have gr:=Fits.res hR (split3 (fun _ _ _=>jB (mT s1)) (fun _ _ _=>jB (mT s2)) (fun _ _ _=>seg_big m))
    refine dO Tryz.func46 (by kernel_rfl) fun w00 hG=>?_;have hI:=bD hG
    refine aB 109 [hf n1 n2 n3 d] (gr) (by kernel_rfl) Tryz.call109 ?_
    refine aL hI 59 [num e] (cw) (by kernel_rfl) Tryz.call59 ?_
    refine aB 110 [it z1] (magM (mT s1)) (by kernel_rfl) Tryz.call110 ?_
    refine kgtU 34 z1.natAbs 999999999 false (g s1) (by kernel_rfl) ?_
    refine aB 110 [it z2] (magM (mT s2)) (by kernel_rfl) Tryz.call110 ?_
    refine kgtU 34 z2.natAbs 999999999 false (g s2) (by kernel_rfl) ?_
    refine kbig 29 ?_
    exact aS Tryz.func46 (by kernel_rfl)
  ·by_cases m:Sm (z2:Rat)
   ·have gr:=Fits.res hR (split3 (fun _ _ _=>jB (mT s1)) (fun _ _ _=>jB m) (fun _ _ _=>seg_nb))
    refine dO Tryz.func46 (by kernel_rfl) fun w00 hG=>?_;have hI:=bD hG
    refine aB 109 [hf n1 n2 n3 d] (gr) (by kernel_rfl) Tryz.call109 ?_
    refine aL hI 59 [num e] (cw) (by kernel_rfl) Tryz.call59 ?_
    refine aB 110 [it z1] (magM (mT s1)) (by kernel_rfl) Tryz.call110 ?_
    refine kgtU 34 z1.natAbs 999999999 false (g s1) (by kernel_rfl) ?_
    refine aB 110 [it z2] (magM m) (by kernel_rfl) Tryz.call110 ?_
    refine kgtU 34 z2.natAbs 999999999 true (b s2) (by kernel_rfl) ?_
    exact aS Tryz.func46 (by kernel_rfl)
   ·have gr:=Fits.res hR (split3 (fun _ _ _=>jB (mT s1)) (fun _ _ _=>seg_big m) (fun _ _ _=>seg_nb))
    refine dO Tryz.func46 (by kernel_rfl) fun w00 hG=>?_;have hI:=bD hG
    refine aB 109 [hf n1 n2 n3 d] (gr) (by kernel_rfl) Tryz.call109 ?_
    refine aL hI 59 [num e] (cw) (by kernel_rfl) Tryz.call59 ?_
    refine aB 110 [it z1] (magM (mT s1)) (by kernel_rfl) Tryz.call110 ?_
    refine kgtU 34 z1.natAbs 999999999 false (g s1) (by kernel_rfl) ?_
    refine kbig 29 ?_
    exact aS Tryz.func46 (by kernel_rfl)
 ·by_cases m:Sm (z1:Rat)
  ·have gr:=Fits.res hR (split3 (fun _ _ _=>jB m) (fun _ _ _=>seg_nb) (fun _ _ _=>seg_nb))
   refine dO Tryz.func46 (by kernel_rfl) fun w00 hG=>?_;have hI:=bD hG
   refine aB 109 [hf n1 n2 n3 d] (gr) (by kernel_rfl) Tryz.call109 ?_
   refine aL hI 59 [num e] (cw) (by kernel_rfl) Tryz.call59 ?_
   refine aB 110 [it z1] (magM m) (by kernel_rfl) Tryz.call110 ?_
   refine kgtU 34 z1.natAbs 999999999 true (b s1) (by kernel_rfl) ?_
   exact aS Tryz.func46 (by kernel_rfl)
  ·have gr:=Fits.res hR (split3 (fun _ _ _=>seg_big m) (fun _ _ _=>seg_nb) (fun _ _ _=>seg_nb))
   refine dO Tryz.func46 (by kernel_rfl) fun w00 hG=>?_;have hI:=bD hG
   refine aB 109 [hf n1 n2 n3 d] (gr) (by kernel_rfl) Tryz.call109 ?_
   refine aL hI 59 [num e] (cw) (by kernel_rfl) Tryz.call59 ?_
   refine kbig 29 ?_
   exact aS Tryz.func46 (by kernel_rfl)
end
def Bq (k:Nat) (q:Rat):Prop:=q.num.natAbs<10^k∧q.den<10^k
theorem Bq.mono {k l:Nat} {q:Rat} (h:Bq k q) (hk:k≤l):Bq l q :=
 ⟨Nat.lt_of_lt_of_le h.1 (Nat.pow_le_pow_right (by omega) hk),Nat.lt_of_lt_of_le h.2 (Nat.pow_le_pow_right (by omega) hk)⟩
theorem Bq.mul {j k:Nat} {p q:Rat} (hp:Bq j p) (hq:Bq k q):Bq (j+k) (p*q):=by
 rw [Rat.mul_def']
 obtain ⟨h1,h2⟩:=cH (p.num*q.num) (Nat.ne_of_gt (Nat.mul_pos p.den_pos q.den_pos))
 rw [Int.natAbs_mul] at h1
 refine ⟨Nat.lt_of_le_of_lt h1 ?_,Nat.lt_of_le_of_lt h2 ?_⟩
 ·rw [Nat.pow_add];exact Nat.mul_lt_mul'' hp.1 hq.1
 ·rw [Nat.pow_add];exact Nat.mul_lt_mul'' hp.2 hq.2
theorem Bq.add {j k:Nat} {p q:Rat} (hp:Bq j p) (hq:Bq k q):Bq (j+k+1) (p+q):=by
 rw [Rat.add_def']
 obtain ⟨h1,h2⟩:=cH (p.num*q.den+q.num*p.den) (Nat.ne_of_gt (Nat.mul_pos p.den_pos q.den_pos))
 have a1:p.num.natAbs*q.den<10^(j+k):=by rw [Nat.pow_add];exact Nat.mul_lt_mul'' hp.1 hq.2
 have a2:q.num.natAbs*p.den<10^(j+k):=by rw [Nat.pow_add,Nat.mul_comm];exact Nat.mul_lt_mul'' hp.2 hq.1
 have a3:p.den*q.den<10^(j+k):=by rw [Nat.pow_add];exact Nat.mul_lt_mul'' hp.2 hq.2
 have a4:10^(j+k+1)=10^(j+k)*10:=Nat.pow_succ _ _
 have a5:=Int.natAbs_add_le (p.num*q.den) (q.num*p.den)
 rw [Int.natAbs_mul,Int.natAbs_mul,Int.natAbs_natCast,Int.natAbs_natCast] at a5
 exact ⟨by omega,by omega⟩
theorem Bq.neg {k:Nat} {p:Rat} (hp:Bq k p):Bq k (-p):=by
 refine ⟨?_,hp.2⟩
 rw [Rat.neg_num,Int.natAbs_neg];exact hp.1
theorem Bq.sub {j k:Nat} {p q:Rat} (hp:Bq j p) (hq:Bq k q):Bq (j+k+1) (p-q):=by
 rw [Rat.sub_eq_add_neg]
 exact hp.add hq.neg
theorem Bq.inv {k:Nat} {p:Rat} (hp:Bq k p):Bq k p⁻¹:=by
 by_cases h0:p=0
 ·subst h0;rw [Rat.inv_zero];exact hp
 ·obtain ⟨_,e1,e2⟩:=Parts.inv (Parts.self p) h0
  exact ⟨by rw [← e1];exact hp.2,by rw [← e2];exact hp.1⟩
theorem Bq.div {j k:Nat} {p q:Rat} (hp:Bq j p) (hq:Bq k q):Bq (j+k) (p/q):=by
 rw [Rat.div_def]
 exact hp.mul hq.inv
theorem Bq.dt {k l n:Nat} {a b c x y z:Rat} (h1:Bq k a) (h2:Bq k b) (h3:Bq k c) (g1:Bq l x) (g2:Bq l y) (g3:Bq l z) (hn:3*(k+l)+2≤n):Bq n (dt a b c x y z) :=
 (((h1.mul g1).add (h2.mul g2)).add (h3.mul g3)).mono (by omega)
theorem Bq.wr {k:Nat} {q:Rat} (h:Bq k q) (hk:k≤600):Wr q:=by
 have h':=h.mono (l:=599+1) hk
 exact ⟨decB_size h'.1,decB_size h'.2⟩
theorem Bq.zs {k:Nat} {q:Rat} (h:Bq k q) (hk:k≤10000):Zs 10000 q:=by
 have h':=h.mono (l:=10000+1) (by omega)
 exact h'
theorem bq_of {k:Nat} {q:Rat} (h:Fw k q):Bq k q:=⟨mN h.1,mN h.2⟩
theorem sq_nonneg (x:Rat):0≤x*x:=by
 rcases Rat.le_total (a:=0) (b:=x) with h|h
 ·exact Rat.mul_nonneg h h
 ·have h' : 0≤-x:=by grind
  have:=Rat.mul_nonneg h' h'
  grind
theorem sum_sq {x y z:Rat} (h:dt x y z x y z=0):x=0∧y=0∧z=0:=by
 have h1:=sq_nonneg x
 have h2:=sq_nonneg y
 have h3:=sq_nonneg z
 have a1:x*x=0:=by grind
 have a2:y*y=0:=by grind
 have a3:z*z=0:=by grind
 exact ⟨by grind,by grind,by grind⟩
theorem numr_ne {q:Rat} (h:q≠0):q.num≠0:=fun e=>h (Rat.num_eq_zero.1 e)
theorem dec_and {p q r:Prop} [Decidable p] [Decidable q] [Decidable r] (h:¬ (p∧q∧r)):(decide p&&decide q&&decide r)=false:=by
 rw [Bool.eq_false_iff]
 intro hh
 simp only [Bool.and_eq_true,decide_eq_true_eq] at hh
 exact h ⟨hh.1.1,hh.1.2,hh.2⟩
section
variable {a b c:Int} {s:ByteArray}
abbrev In (k x:Int):Prop := -k≤x∧x≤k
end
section
variable {a b c x y z d:Rat} {k l n:Nat}
theorem dotV (h1:Bq k a) (h2:Bq k b) (h3:Bq k c) (g1:Bq l x) (g2:Bq l y) (g3:Bq l z) (hk:2*(k+l)<10000):Fits Tryz.prog 143 [vS a b c,vS x y z] (tx (writeB (dt a b c x y z))) :=
 dotR (kn_S (refMulF (h1.zs (by omega)) (g1.zs (by omega)))) (kn_S (refMulF (h2.zs (by omega)) (g2.zs (by omega)))) (kn_S (refAddF ((h1.mul g1).zs (by omega)) ((h2.mul g2).zs (by omega))))
  (kn_S (refMulF (h3.zs (by omega)) (g3.zs (by omega)))) (kn_S (refAddF (((h1.mul g1).add (h2.mul g2)).zs (by omega)) ((h3.mul g3).zs (by omega))))
end
theorem bq_int {z:Int} {k:Nat} (h:z.natAbs<10^k) (hk:0<k):Bq k (z:Rat):=by
 refine ⟨by rw [Rat.num_intCast];exact h,?_⟩
 rw [Rat.den_intCast]
 have:=Nat.pow_le_pow_right (n:=10) (by omega) hk
 omega
theorem chkB {k:Nat} {q:Rat} (h:Bq k q) (hk:k≤600):Fits Tryz.prog 51 [tx (writeB q)] (it 0):=chkF (h.wr hk).n (h.wr hk).d
def Fy (k:Nat) (s:ByteArray):Prop := ∃ q,s=writeB q∧Fw k q
theorem fewVec_or {a b c:ByteArray} {n:Int} {k:Nat} (yes:∀ s,Fy k s→Fits Tryz.prog 28 [tx s,it n] (bl true)) (no:∀ s,¬ Fy k s→Fits Tryz.prog 28 [tx s,it n] (bl false)) :
 (Fy k a∧Fy k b∧Fy k c∧Fits Tryz.prog 6 [t3 a b c,it n] (bl true))∨Fits Tryz.prog 6 [t3 a b c,it n] (bl false):=by
 by_cases h1:Fy k a
 ·by_cases h2:Fy k b
  ·by_cases h3:Fy k c
   ·exact .inl ⟨h1,h2,h3,fewVecT (yes _ h1) (yes _ h2) (yes _ h3)⟩
   ·exact .inr (fewVecF3 (yes _ h1) (yes _ h2) (no _ h3))
  ·exact .inr (fewVecF2 (yes _ h1) (no _ h2))
 ·exact .inr (fewVecF1 (no _ h1))
section
variable {a1 a2 a3 b1 b2 b3 c1 c2 c3 m1 m2 m3:Rat} {z1 z2 z3:Int}
theorem lcm_lt {x y i j:Nat} (hx:x<10^i) (hy:y<10^j):Nat.lcm x y<10^(i+j):=by
 unfold Nat.lcm
 refine Nat.lt_of_le_of_lt (Nat.div_le_self _ _) ?_
 rw [Nat.pow_add]
 exact Nat.mul_lt_mul'' hx hy
theorem bq_whole {k:Nat} (h1:Bq k m1) (h2:Bq k m2) (h3:Bq k m3) {L G:Nat} (hG0:0<G) (hw:aQ m1 m2 m3=mkRat L G) (hL:L=Nat.lcm m3.den (Nat.lcm m2.den (Nat.lcm m1.den 1))) (g1:G ∣ m1.num.natAbs) (g2:G ∣ m2.num.natAbs) (g3:G ∣ m3.num.natAbs) (h0:¬ (m1=0∧m2=0∧m3=0)):Bq (3*k+1) (aQ m1 m2 m3):=by
 have hl:L<10^(3*k+1):=by
  rw [hL,show 3*k+1=k+(k+(k+1)) by omega]
  exact lcm_lt h3.2 (lcm_lt h2.2 (lcm_lt h1.2 (by decide)))
 have le:∀ {q:Rat},Bq k q→G ∣ q.num.natAbs→q≠0→G<10^k:=fun {q} h g hq=>by
  have h0:q.num≠0:=numr_ne hq
  exact Nat.lt_of_le_of_lt (Nat.le_of_dvd (by omega) g) h.1
 have hg:G<10^k:=by
  by_cases n1:m1=0
  ·by_cases n2:m2=0
   ·exact le h3 g3 fun n3=>h0 ⟨n1,n2,n3⟩
   ·exact le h2 g2 n2
  ·exact le h1 g1 n1
 have hg' : G<10^(3*k+1):=Nat.lt_of_lt_of_le hg (Nat.pow_le_pow_right (by omega) (by omega))
 obtain ⟨e1,e2⟩:=cH (L:Int) (d:=G) (by omega)
 rw [hw]
 exact ⟨by omega,by omega⟩
structure Thr (a1 a2 a3 b1 b2 b3 c1 c2 c3:Rat) (z1 z2 z3:Int) (e:Rat):Prop where
 e1:aQ ((b2-a2)*(c3-a3)-(b3-a3)*(c2-a2)) ((b3-a3)*(c1-a1)-(b1-a1)*(c3-a3)) ((b1-a1)*(c2-a2)-(b2-a2)*(c1-a1))*((b2-a2)*(c3-a3)-(b3-a3)*(c2-a2))=z1
 e2:aQ ((b2-a2)*(c3-a3)-(b3-a3)*(c2-a2)) ((b3-a3)*(c1-a1)-(b1-a1)*(c3-a3)) ((b1-a1)*(c2-a2)-(b2-a2)*(c1-a1))*((b3-a3)*(c1-a1)-(b1-a1)*(c3-a3))=z2
 e3:aQ ((b2-a2)*(c3-a3)-(b3-a3)*(c2-a2)) ((b3-a3)*(c1-a1)-(b1-a1)*(c3-a3)) ((b1-a1)*(c2-a2)-(b2-a2)*(c1-a1))*((b1-a1)*(c2-a2)-(b2-a2)*(c1-a1))=z3
 ed:e=dt z1 z2 z3 a1 a2 a3
 h0:¬ (z1=0∧z2=0∧z3=0)
 s1:Sz z1
 s2:Sz z2
 s3:Sz z3
 g:Int.gcd (Int.gcd z1 z2:Int) z3=1
 b:Bq 300 e
 w:FitsW Tryz.prog Gl 20 [vS a1 a2 a3,vS b1 b2 b3,vS c1 c2 c3] (okH z1 z2 z3 e)
end
end Go.Proofs.YtgbcaflelmgbdaaGreatDoor.Ab
namespace Go.Proofs.YtgbcaflelmgbdaaGreatDoor.Ab
open Go.RowKit Go.Proofs.YtgbcaflelmgbdaaGreatDoor
section
variable {Kc:Value→Bool} {P:Program} {f:FuncId} {w00:World} {Out:Value→World→Prop}
theorem put_put (a:Act) (d:Tmp) (u v:Value):(a.put (some d) u).put (some d) v=a.put (some d) v:=by
 simp [Act.put]
theorem good_own {ops:Array Oper} {o:Oper} {rest:List Oper} {k:List Item} {st:St Kc} {n:Nat} {T:TypeId} {l:List (Seg Kc)} {d:Tmp} (ho:opA P (evL st.slot) (st.blocks.map some) o = .nsl n T l) (hd:o.dst=some d) (hw:wantA st.slot ops o=some true)
 (hg:iL P f w00 Out (.plain ops rest k { st with slots:=st.slots.set d (.fv (.sc (.slc st.blocks.length 0 n n))),blocks:=st.blocks ++ [(T,l)] })):iL P f w00 Out (.plain ops (o::rest) k st):=by
 intro β a w hR
 refine iC (hR.wants hw) ?_
 have hs:∀ y∈o.op.operands,(evL st.slot y).holds β (a.eval y) w:=fun y _=>hR.ev y
 unfold Oper.wp
 obtain ⟨cs,e,hl⟩:=opA_nsl ho hs
 rw [e]
 simp only [Oper.upon,hd]
 have h1:=hR.new (d:=d) (T:=T) hl
 have hnew:(β ++ [w.heap.size])[st.blocks.length]?=some w.heap.size:=by rw [← hR.len];simp
 have h2:=h1.put (dst:=some d) (x := .fv (.sc (.slc st.blocks.length 0 n n))) (v := .slice (some ⟨w.heap.size,0,none⟩) n n) ⟨w.heap.size,hnew,rfl⟩
 rw [put_put] at h2
 simp only [St.put,setS,List.set_set] at h2
 exact hg _ _ _ h2
def Cfg.own (P:Program) (c:Cfg Kc):Option (Cfg Kc):=match c with
 | .plain ops (o::rest) k st=>match opA P (evL st.slot) (st.blocks.map some) o,o.dst with
   | .nsl n T l,some d=>if wantA st.slot ops o=some true then some (.plain ops rest k { st with slots:=st.slots.set d (.fv (.sc (.slc st.blocks.length 0 n n))),blocks:=st.blocks ++ [(T,l)] }) else none
   | _,_=>none
 | _=>none
theorem Ok.own {c c' : Cfg Kc} (h:c.own P=some c') (hg:Ok P f w00 Out c'):Ok P f w00 Out c:=by
 unfold Cfg.own at h
 split at h
 ·split at h
  ·rename_i ho hd
   split at h
   ·rename_i hw
    injection h with h
    subst h
    exact ⟨good_own ho hd hw hg.good⟩
   ·cases h
  ·cases h
 ·cases h
end
theorem kgoN {f:FuncId} {fn:Func} {args:List (AV Kn)} {x:AV Kn} (n:Nat) (hfn:Tryz.prog.funcs[f]?=some fn) (hc:(fn.body.isSome,decide (args.length≤fn.ntmps),x.noPtr,args.all AV.noPtr)=(true,true,true,true))
 (h:∀ w00,Ok Tryz.prog f w00 (fun v w=>x.holds [] v w) (dH Tryz.prog n (startA fn args))):Fits Tryz.prog f args x:=by
 simp only [Prod.mk.injEq] at hc
 exact fits_go hfn hc.1 hc.2.1 hc.2.2.1 hc.2.2.2 fun w00=>Ok.go (by kernel_rfl) mQ n (h w00)
section
variable {f:FuncId} {w00:World} {Out:Value→World→Prop} {c:Cfg Kn}
theorem kown (h:(c.own Tryz.prog).isSome=true) (hg:Ok Tryz.prog f w00 Out (dH Tryz.prog 1000 ((c.own Tryz.prog).getD c))):Ok Tryz.prog f w00 Out c:=by
 obtain ⟨c',hc⟩:=Option.isSome_iff_exists.1 h
 rw [hc] at hg
 exact Ok.own hc (Ok.go (by kernel_rfl) mQ 1000 hg)
end
end Go.Proofs.YtgbcaflelmgbdaaGreatDoor.Ab
namespace Go.Proofs.YtgbcaflelmgbdaaGreatDoor.Ab
open Go.RowKit Go.Proofs.YtgbcaflelmgbdaaGreatDoor Pl
section
variable {o1 o2 o3 x1 x2 x3 y1 y2 y3 z1 z2 z3:Rat}
theorem isZeroT {s:ByteArray} {r:Bool} (h:(s.toList==(⟨#[48]⟩:ByteArray).toList)=r):Fits Tryz.prog 142 [tx s] (bl r):=by
 refine fW Tryz.func142 (by kernel_rfl) fun w00=>?_
 refine eJ (.binOp .eql 22 (.tmp 3) (.const (.string ⟨#[48]⟩)) 22) (.tmp 3) (.const (.string ⟨#[48]⟩)) (tx s) (lt ⟨#[48]⟩) (bl r) (by kernel_rfl) (by simp [Op.operands]) (by simp [Op.operands]) (fun ρ o β w ho hx hy=>⟨_,seq_run ho (aR hx) (aO hy) h,bA rfl⟩) ?_
 exact aS Tryz.func142 (by kernel_rfl)
theorem isOriginT {a b c:ByteArray} {r:Bool} (h:(a.toList==(⟨#[48]⟩:ByteArray).toList&&b.toList==(⟨#[48]⟩:ByteArray).toList&&c.toList==(⟨#[48]⟩:ByteArray).toList)=r):Fits Tryz.prog 84 [t3 a b c] (bl r):=by
 refine fW Tryz.func84 (by kernel_rfl) fun w00=>?_
 refine aB 141 [] (originF) (by kernel_rfl) Tryz.call141 ?_
 refine eJ (.binOp .eql 24 (.tmp 3) (.tmp 4) 24) (.tmp 3) (.tmp 4) (t3 a b c) (.fv (.ag [.lit (.string ⟨#[48]⟩),.lit (.string ⟨#[48]⟩),.lit (.string ⟨#[48]⟩)])) (bl r) (by kernel_rfl) (by simp [Op.operands]) (by simp [Op.operands]) (fun ρ o β w ho hx hy=>⟨_,agg_eq (by kernel_rfl) (h▸equalT a b c _ _ _ w) ho (s3_is hx) (l3_is hy),bA rfl⟩) ?_
 exact aS Tryz.func84 (by kernel_rfl)
theorem crossR {a b c d e f p1 p2 p3 p4 p5 p6 r1 r2 r3:ByteArray} (h1:Fits Tryz.prog 201 [tx b,tx f] (tx p1)) (h2:Fits Tryz.prog 201 [tx c,tx e] (tx p2)) (h3:Fits Tryz.prog 237 [tx p1,tx p2] (tx r1)) (h4:Fits Tryz.prog 201 [tx c,tx d] (tx p3)) (h5:Fits Tryz.prog 201 [tx a,tx f] (tx p4)) (h6:Fits Tryz.prog 237 [tx p3,tx p4] (tx r2))
 (h7:Fits Tryz.prog 201 [tx a,tx e] (tx p5)) (h8:Fits Tryz.prog 201 [tx b,tx d] (tx p6)) (h9:Fits Tryz.prog 237 [tx p5,tx p6] (tx r3)):Fits Tryz.prog 202 [t3 a b c,t3 d e f] (t3 r1 r2 r3):=by
 refine fW Tryz.func202 (by kernel_rfl) fun w00=>?_
 refine aB 201 [tx b,tx f] (h1) (by kernel_rfl) Tryz.call201 ?_
 refine aB 201 [tx c,tx e] (h2) (by kernel_rfl) Tryz.call201 ?_
 refine aB 237 [tx p1,tx p2] (h3) (by kernel_rfl) Tryz.call237 ?_
 refine aB 201 [tx c,tx d] (h4) (by kernel_rfl) Tryz.call201 ?_
 refine aB 201 [tx a,tx f] (h5) (by kernel_rfl) Tryz.call201 ?_
 refine aB 237 [tx p3,tx p4] (h6) (by kernel_rfl) Tryz.call237 ?_
 refine aB 201 [tx a,tx e] (h7) (by kernel_rfl) Tryz.call201 ?_
 refine aB 201 [tx b,tx d] (h8) (by kernel_rfl) Tryz.call201 ?_
 refine aB 237 [tx p5,tx p6] (h9) (by kernel_rfl) Tryz.call237 ?_
 exact aS Tryz.func202 (by kernel_rfl)
variable {k l:Nat}
theorem crossV {a b c x y z:Rat} (h1:Bq k a) (h2:Bq k b) (h3:Bq k c) (g1:Bq l x) (g2:Bq l y) (g3:Bq l z) (hk:k+l≤10000):Fits Tryz.prog 202 [vS a b c,vS x y z] (vS (b*z-c*y) (c*x-a*z) (a*y-b*x)) :=
 have m:∀ {p q:Rat},Bq k p→Bq l q→Fits Tryz.prog 201 [tx (writeB p),tx (writeB q)] (tx (writeB (p*q))):=fun hp hq=>kn_S (refMulF (hp.zs (by omega)) (hq.zs (by omega)))
 have s:∀ {p q r t:Rat},Bq k p→Bq l q→Bq k r→Bq l t→Fits Tryz.prog 237 [tx (writeB (p*q)),tx (writeB (r*t))] (tx (writeB (p*q-r*t))):=fun hp hq hr ht=>kn_S (subR ((hp.mul hq).zs (by omega)) ((hr.mul ht).zs (by omega)))
 crossR (m h2 g3) (m h3 g2) (s h2 g3 h3 g2) (m h3 g1) (m h1 g3) (s h3 g1 h1 g3) (m h1 g2) (m h2 g1) (s h1 g2 h2 g1)
theorem detR {a b c d e f g h i p q r v:ByteArray} (h1:Fits Tryz.prog 202 [t3 d e f,t3 g h i] (t3 p q r)) (h2:Fits Tryz.prog 143 [t3 a b c,t3 p q r] (tx v)):Fits Tryz.prog 145 [t3 a b c,t3 d e f,t3 g h i] (tx v):=by
 refine fW Tryz.func145 (by kernel_rfl) fun w00=>?_
 refine aB 202 [t3 d e f,t3 g h i] (h1) (by kernel_rfl) Tryz.call202 ?_
 refine aB 143 [t3 a b c,t3 p q r] (h2) (by kernel_rfl) Tryz.call143 ?_
 exact aS Tryz.func145 (by kernel_rfl)
abbrev fr12 (o1 o2 o3 x1 x2 x3 y1 y2 y3 z1 z2 z3:ByteArray):AV Kn := .fv (.ag [dG o1,dG o2,dG o3,dG x1,dG x2,dG x3,dG y1,dG y2,dG y3,dG z1,dG z2,dG z3])
end
abbrev Tx:=Nat→ByteArray
abbrev V3 (v:Tx):AV Kn:=t3 (v 0) (v 1) (v 2)
abbrev okV3 (v:Tx):AV Kn := .tup [.ag [dG (v 0),dG (v 1),dG (v 2)],.sc z0]
abbrev m3:ByteArray:=⟨#[45,51]⟩
theorem equalZd (d:Nat) (a b c x y z:Int) (w:World):(Op.equalIn (d+2) 27 (.agg #[.int .i64 a,.int .i64 b,.int .i64 c]) (.agg #[.int .i64 x,.int .i64 y,.int .i64 z])).run Tryz.prog w = .ok (a==x&&b==y&&c==z) w :=
 equal3 (d+1) (e:=3) (by kernel_rfl) (by kernel_rfl) (fun w=>by kernel_rfl) (fun w=>by kernel_rfl) (fun w=>run_equalIn_int w _ _ _ .i64 _ _ (by kernel_rfl)) (fun w=>run_equalIn_int w _ _ _ .i64 _ _ (by kernel_rfl)) (fun w=>run_equalIn_int w _ _ _ .i64 _ _ (by kernel_rfl)) w
theorem equalHf (a b c:Int) (s:ByteArray) (w:World):(Op.equal 29 (.agg #[.int .i64 a,.int .i64 b,.int .i64 c,.string s]) (.agg #[.int .i64 a,.int .i64 b,.int .i64 c,.string s])).run Tryz.prog w = .ok true w:=by
 have u:=Tryz.isAgg27
 have z:=Tryz.sizeOf27
 have u2:=Tryz.isAgg22
 have z2:=Tryz.sizeOf22
 have k:=fun (w:World)=>equalZd 9997 a b c a b c w
 have k2:=fun (w:World)=>run_equalIn_string (P:=Tryz.prog) w 9998 22 s s (by kernel_rfl)
 simp only [beq_self_eq_true,Bool.and_self] at k k2
 unfold Op.equal Op.maxDepth
 rw [show (10000:Nat)=9999+1 from rfl,run_equalIn_struct w 9999 _ _ _ (by kernel_rfl) (by kernel_rfl)]
 simp only [Program.fieldsOf,Tryz.underlying29]
 simp [go_sem,u,z,u2,z2,Op.eqFields,k,k2]
theorem hL_is {a b c:Int} {s:ByteArray} {β:List Nat} {v:Value} {w:World} (h:(hL a b c s).holds β v w):v = .agg #[.int .i64 a,.int .i64 b,.int .i64 c,.string s]:=by
 obtain ⟨cs,rfl,x1,r1,rfl,h1,x2,r2,rfl,h2,x3,r3,rfl,h3,x4,r4,rfl,h4,e⟩:=h
 rw [show r4 = [] from e,h1.1,h2.1,h3.1,show x4=_ from h4]
 rfl
abbrev okL (a b c:Int) (s:ByteArray):AV Kn := .tup [.ag [.lit (.int .i64 a),.lit (.int .i64 b),.lit (.int .i64 c),dG s],.sc z0]
abbrev P12 (a b c d:Tx):AV Kn:=fr12 (a 0) (a 1) (a 2) (b 0) (b 1) (b 2) (c 0) (c 1) (c 2) (d 0) (d 1) (d 2)
abbrev SdW (h:AV Kn) (p:Tx) (n:Int):Prop:=FitsW Tryz.prog Gl 16 [h,V3 p] (.tup [.sc (.lit (.int .i64 n)),.sc z0])
theorem hv_of {z1 z2 z3:Int} {d:Rat} (h0:¬ (z1=0∧z2=0∧z3=0)) (h1:¬ Bg z1) (h2:¬ Bg z2) (h3:¬ Bg z3) (hg:Int.gcd (Int.gcd z1 z2:Int) z3=1) (hd:Wr d):Hv z1 z2 z3 d :=
 ⟨by unfold Bg at h1;omega,by unfold Bg at h2;omega,by unfold Bg at h3;omega,hd,checkNormalF h0 h1 h2 h3 hg⟩
theorem kn_L {f:FuncId} {s:ByteArray} {z:Int} (h:Fits Tryz.prog f [rS s] (.fv (.sc (.lit (.int .i64 z))))):Fits Tryz.prog f [tx s] (it z):=by
 intro β w vs hv
 obtain ⟨v,rfl,h1⟩:=dR hv
 rw [aR h1]
 exact (h β w [.string s] ⟨_,_,rfl,dF,rfl⟩).mono fun e w' ⟨v,e1,e2,e3⟩=>⟨v,e1,e2,by rw [cG e3];exact bA rfl⟩
def tx3 (a b c:Rat):Tx:=fun n=>match n with|0=>writeB a|1=>writeB b|_=>writeB c
section
variable {x1 x2 x3 y1 y2 y3 z1 z2 z3 u1 u2 u3 v1 v2 v3 w1 w2 w3 p1 p2 p3 m1 m2 m3:Rat} {k:Nat}
theorem ld_bq {a b c x y z:Rat} {l n:Nat} (h1:Bq k a) (h2:Bq k b) (h3:Bq k c) (g1:Bq l x) (g2:Bq l y) (g3:Bq l z) (hn:3*(k+l)+2≤n):Bq n (ld a b c x y z):=Bq.dt h1 h2 h3 g1 g2 g3 hn
end
theorem t0_eq {q:Rat} (h:q=0):((writeB q).toList==(⟨#[48]⟩:ByteArray).toList)=true:=by
 have e:writeB q=⟨#[48]⟩:=by rw [h];exact w0
 rw [e]
 exact beq_self_eq_true _
theorem t0_ne {q:Rat} (h:q≠0):((writeB q).toList==(⟨#[48]⟩:ByteArray).toList)=false:=jY (kL (numr_ne h))
theorem gcd_neg3 (z1 z2 z3:Int):Int.gcd (Int.gcd (-z1) (-z2):Int) (-z3)=Int.gcd (Int.gcd z1 z2:Int) z3:=by
 rw [Int.neg_gcd,Int.gcd_neg,Int.gcd_neg]
section
variable {z1 z2 z3:Int} {e:Rat}
theorem check_half_ok (h0:¬ (z1=0∧z2=0∧z3=0)) (h1:Sz z1) (h2:Sz z2) (h3:Sz z3) (hg:Int.gcd (Int.gcd z1 z2:Int) z3=1) {k:Nat} (hb:Bq k e) (hk:k≤600):Fits Tryz.prog 15 [hL z1 z2 z3 (writeB e)] (it 0):=by
 have c:Fits Tryz.prog 51 [tx (writeB e)] (.fv (.sc (gM 0))):=(chkB hb hk).res fun _ _ _ h=>h.1
 have hz:hkZ z1 z2 z3 0=0:=by
  unfold hkZ
  rw [if_neg h0,if_neg (by unfold Bg;omega),if_neg (by rw [hg];decide)]
 have:=checkHalfF c hz
 exact Fits.res (Fits.args (l := [hA z1 z2 z3 (writeB e)]) this fun β vs w ⟨v,r,e,h,hr⟩=>⟨v,r,e,hL_A β v w h,hr⟩) fun _ v _ h=>by rw [aR h];exact bA rfl
variable {p1 p2 p3:Rat}
end
section
variable {a1 a2 a3 b1 b2 b3 c1 c2 c3 d1 d2 d3:Rat} {z1 z2 z3 i1 i2 i3 j1 j2 j3:Int} {e u v:Rat}
theorem Thr.hv (h:Thr a1 a2 a3 b1 b2 b3 c1 c2 c3 z1 z2 z3 e):Hv z1 z2 z3 e:=by
 have h1:=h.s1
 have h2:=h.s2
 have h3:=h.s3
 exact hv_of h.h0 (by unfold Bg;omega) (by unfold Bg;omega) (by unfold Bg;omega) h.g (h.b.wr (by omega))
theorem Thr.op (h:Thr a1 a2 a3 b1 b2 b3 c1 c2 c3 z1 z2 z3 e):Hv (-z1) (-z2) (-z3) (-e):=by
 have h1:=h.s1
 have h2:=h.s2
 have h3:=h.s3
 exact hv_of (fun ⟨a,b,c⟩=>h.h0 ⟨by omega,by omega,by omega⟩) (by unfold Bg;omega) (by unfold Bg;omega) (by unfold Bg;omega) (by rw [gcd_neg3];exact h.g) (h.b.neg.wr (by omega))
end
open Classical in
open Classical in
open Classical in
theorem t0_dec (q:Rat):((writeB q).toList==(⟨#[48]⟩:ByteArray).toList)=decide (q=0):=by
 by_cases h:q=0
 ·rw [decide_eq_true h,t0_eq h]
 ·rw [decide_eq_false h,t0_ne h]
theorem isZeroQ (q:Rat):Fits Tryz.prog 142 [tx (writeB q)] (bl (decide (q=0))):=isZeroT (t0_dec q)
theorem signQ (q:Rat):Fits Tryz.prog 144 [tx (writeB q)] (it (kW q)):=by
 unfold kW bT
 by_cases h:q.num<0
 ·rw [if_pos h];exact kn_L (signFn h)
 ·rw [if_neg h]
  by_cases h' : 0<q.num
  ·rw [if_pos h'];exact kn_L (signFp h')
  ·rw [if_neg h'];exact kn_L (signF0 (by omega))
section
variable {o1 o2 o3 x1 x2 x3 y1 y2 y3 z1 z2 z3 p q r v:ByteArray} {b1 b2 b3 b4 i1 i2 i3:Bool} {s z n:Int}
theorem shapeZ (h1:Fits Tryz.prog 143 [t3 x1 x2 x3,t3 y1 y2 y3] (tx p)) (j1:Fits Tryz.prog 142 [tx p] (bl i1)) (h2:Fits Tryz.prog 143 [t3 y1 y2 y3,t3 z1 z2 z3] (tx q)) (j2:Fits Tryz.prog 142 [tx q] (bl i2)) (h3:Fits Tryz.prog 143 [t3 z1 z2 z3,t3 x1 x2 x3] (tx r)) (j3:Fits Tryz.prog 142 [tx r] (bl i3))
 (h4:Fits Tryz.prog 145 [t3 x1 x2 x3,t3 y1 y2 y3,t3 z1 z2 z3] (tx v)) (h5:Fits Tryz.prog 144 [tx v] (it s)) (hs:s=1∨s=0∨s = -1) (hz:z=if (i1&&i2&&i3&&s==1)=true then 0 else 15):Fits Tryz.prog 85 [fr12 o1 o2 o3 x1 x2 x3 y1 y2 y3 z1 z2 z3] (it z):=by
 refine fW Tryz.func85 (by kernel_rfl) fun w00=>?_
 refine aB 143 [t3 x1 x2 x3,t3 y1 y2 y3] (h1) (by kernel_rfl) Tryz.call143 ?_
 cases i1
 ·obtain rfl:z=15:=hz
  refine aB 142 [tx p] (j1) (by kernel_rfl) Tryz.call142 ?_
  exact aS Tryz.func85 (by kernel_rfl)
 refine aB 142 [tx p] (j1) (by kernel_rfl) Tryz.call142 ?_
 refine aB 143 [t3 y1 y2 y3,t3 z1 z2 z3] (h2) (by kernel_rfl) Tryz.call143 ?_
 cases i2
 ·obtain rfl:z=15:=hz
  refine aB 142 [tx q] (j2) (by kernel_rfl) Tryz.call142 ?_
  exact aS Tryz.func85 (by kernel_rfl)
 refine aB 142 [tx q] (j2) (by kernel_rfl) Tryz.call142 ?_
 refine aB 143 [t3 z1 z2 z3,t3 x1 x2 x3] (h3) (by kernel_rfl) Tryz.call143 ?_
 cases i3
 ·obtain rfl:z=15:=hz
  refine aB 142 [tx r] (j3) (by kernel_rfl) Tryz.call142 ?_
  exact aS Tryz.func85 (by kernel_rfl)
 refine aB 142 [tx r] (j3) (by kernel_rfl) Tryz.call142 ?_
 refine aB 145 [t3 x1 x2 x3,t3 y1 y2 y3,t3 z1 z2 z3] (h4) (by kernel_rfl) Tryz.call145 ?_
 rcases hs with rfl|rfl|rfl
 ·obtain rfl:z=0:=hz
  refine aB 144 [tx v] (h5) (by kernel_rfl) Tryz.call144 ?_
  exact aS Tryz.func85 (by kernel_rfl)
 ·obtain rfl:z=15:=hz
  refine aB 144 [tx v] (h5) (by kernel_rfl) Tryz.call144 ?_
  exact aS Tryz.func85 (by kernel_rfl)
 ·obtain rfl:z=15:=hz
  refine aB 144 [tx v] (h5) (by kernel_rfl) Tryz.call144 ?_
  exact aS Tryz.func85 (by kernel_rfl)
theorem checkFrameZ (h1:Fits Tryz.prog 10 [t3 o1 o2 o3] (it 0)) (h2:Fits Tryz.prog 10 [t3 x1 x2 x3] (it 0)) (h3:Fits Tryz.prog 10 [t3 y1 y2 y3] (it 0)) (h4:Fits Tryz.prog 10 [t3 z1 z2 z3] (it 0))
 (j1:Fits Tryz.prog 84 [t3 x1 x2 x3] (bl i1)) (j2:Fits Tryz.prog 84 [t3 y1 y2 y3] (bl i2)) (j3:Fits Tryz.prog 84 [t3 z1 z2 z3] (bl i3)) (h5:Fits Tryz.prog 85 [fr12 o1 o2 o3 x1 x2 x3 y1 y2 y3 z1 z2 z3] (it s)) (hz:z=if (i1 || i2 || i3)=true then 6 else s) :
 Fits Tryz.prog 27 [fr12 o1 o2 o3 x1 x2 x3 y1 y2 y3 z1 z2 z3] (it z):=by
 refine kgoN 15 Tryz.func27 (by kernel_rfl) fun w00=>?_
 refine kown (by kernel_rfl) ?_
 refine aB 10 [t3 o1 o2 o3] (h1) (by kernel_rfl) Tryz.call10 ?_
 refine aB 10 [t3 x1 x2 x3] (h2) (by kernel_rfl) Tryz.call10 ?_
 refine aB 10 [t3 y1 y2 y3] (h3) (by kernel_rfl) Tryz.call10 ?_
 refine aB 10 [t3 z1 z2 z3] (h4) (by kernel_rfl) Tryz.call10 ?_
 cases i1
 ·refine aB 84 [t3 x1 x2 x3] (j1) (by kernel_rfl) Tryz.call84 ?_
  cases i2
  ·refine aB 84 [t3 y1 y2 y3] (j2) (by kernel_rfl) Tryz.call84 ?_
   cases i3
   ·obtain rfl:z=s:=hz
    refine aB 84 [t3 z1 z2 z3] (j3) (by kernel_rfl) Tryz.call84 ?_
    refine aB 85 [fr12 o1 o2 o3 x1 x2 x3 y1 y2 y3 z1 z2 z3] (h5) (by kernel_rfl) Tryz.call85 ?_
    exact aS Tryz.func27 (by kernel_rfl)
   ·obtain rfl:z=6:=hz
    refine aB 84 [t3 z1 z2 z3] (j3) (by kernel_rfl) Tryz.call84 ?_
    exact aS Tryz.func27 (by kernel_rfl)
  ·obtain rfl:z=6:=hz
   refine aB 84 [t3 y1 y2 y3] (j2) (by kernel_rfl) Tryz.call84 ?_
   exact aS Tryz.func27 (by kernel_rfl)
 ·obtain rfl:z=6:=hz
  refine aB 84 [t3 x1 x2 x3] (j1) (by kernel_rfl) Tryz.call84 ?_
  exact aS Tryz.func27 (by kernel_rfl)
theorem fewFrameZ (h1:Fits Tryz.prog 6 [t3 o1 o2 o3,it n] (bl true)) (h2:Fits Tryz.prog 6 [t3 x1 x2 x3,it n] (bl true)) (h3:Fits Tryz.prog 6 [t3 y1 y2 y3,it n] (bl true)) (h4:Fits Tryz.prog 6 [t3 z1 z2 z3,it n] (bl true))
 (h5:Fits Tryz.prog 27 [fr12 o1 o2 o3 x1 x2 x3 y1 y2 y3 z1 z2 z3] (it s)) (hs:s=0∨s=6∨s=15):Fits Tryz.prog 5 [fr12 o1 o2 o3 x1 x2 x3 y1 y2 y3 z1 z2 z3,it n] (bl (s==0)):=by
 refine fW Tryz.func5 (by kernel_rfl) fun w00=>?_
 refine aB 6 [t3 o1 o2 o3,it n] (h1) (by kernel_rfl) Tryz.call6 ?_
 refine aB 6 [t3 x1 x2 x3,it n] (h2) (by kernel_rfl) Tryz.call6 ?_
 refine aB 6 [t3 y1 y2 y3,it n] (h3) (by kernel_rfl) Tryz.call6 ?_
 refine aB 6 [t3 z1 z2 z3,it n] (h4) (by kernel_rfl) Tryz.call6 ?_
 rcases hs with rfl|rfl|rfl
 iterate 3 (
  ·refine aB 27 [fr12 o1 o2 o3 x1 x2 x3 y1 y2 y3 z1 z2 z3] (h5) (by kernel_rfl) Tryz.call27 ?_
   exact aS Tryz.func5 (by kernel_rfl))
theorem kD (h1:Fits Tryz.prog 6 [t3 o1 o2 o3,it n] (bl b1)) (h2:Fits Tryz.prog 6 [t3 x1 x2 x3,it n] (bl b2)) (h3:Fits Tryz.prog 6 [t3 y1 y2 y3,it n] (bl b3)) (h4:Fits Tryz.prog 6 [t3 z1 z2 z3,it n] (bl b4)) (hb:(b1&&b2&&b3&&b4)=false) :
 Fits Tryz.prog 5 [fr12 o1 o2 o3 x1 x2 x3 y1 y2 y3 z1 z2 z3,it n] (bl false):=by
 refine fW Tryz.func5 (by kernel_rfl) fun w00=>?_
 cases b1
 ·refine aB 6 [t3 o1 o2 o3,it n] (h1) (by kernel_rfl) Tryz.call6 ?_
  exact aS Tryz.func5 (by kernel_rfl)
 refine aB 6 [t3 o1 o2 o3,it n] (h1) (by kernel_rfl) Tryz.call6 ?_
 cases b2
 ·refine aB 6 [t3 x1 x2 x3,it n] (h2) (by kernel_rfl) Tryz.call6 ?_
  exact aS Tryz.func5 (by kernel_rfl)
 refine aB 6 [t3 x1 x2 x3,it n] (h2) (by kernel_rfl) Tryz.call6 ?_
 cases b3
 ·refine aB 6 [t3 y1 y2 y3,it n] (h3) (by kernel_rfl) Tryz.call6 ?_
  exact aS Tryz.func5 (by kernel_rfl)
 refine aB 6 [t3 y1 y2 y3,it n] (h3) (by kernel_rfl) Tryz.call6 ?_
 cases b4
 ·refine aB 6 [t3 z1 z2 z3,it n] (h4) (by kernel_rfl) Tryz.call6 ?_
  exact aS Tryz.func5 (by kernel_rfl)
 ·cases hb
end
structure Gd (x1 x2 x3 y1 y2 y3 z1 z2 z3:Rat):Prop where
 xy:dt x1 x2 x3 y1 y2 y3=0
 yz:dt y1 y2 y3 z1 z2 z3=0
 zx:dt z1 z2 z3 x1 x2 x3=0
 det:0<(dt x1 x2 x3 (y2*z3-y3*z2) (y3*z1-y1*z3) (y1*z2-y2*z1)).num
section
variable {o1 o2 o3 x1 x2 x3 y1 y2 y3 z1 z2 z3:Rat} {k:Nat}
theorem sgn_cases (q:Rat):kW q=1∨kW q=0∨kW q = -1:=by
 unfold kW bT
 split
 ·exact .inr (.inr rfl)
 ·split
  ·exact .inl rfl
  ·exact .inr (.inl rfl)
theorem isOriginQ (a b c:Rat):Fits Tryz.prog 84 [vS a b c] (bl (decide (a=0)&&decide (b=0)&&decide (c=0))):=isOriginT (by rw [t0_dec,t0_dec,t0_dec])
theorem checkFrameQ (ho:Bq k o1∧Bq k o2∧Bq k o3) (hx:Bq k x1∧Bq k x2∧Bq k x3) (hy:Bq k y1∧Bq k y2∧Bq k y3) (hz:Bq k z1∧Bq k z2∧Bq k z3) (hk:k≤600) :
 ∃ s,Fits Tryz.prog 27 [fr12 (writeB o1) (writeB o2) (writeB o3) (writeB x1) (writeB x2) (writeB x3) (writeB y1) (writeB y2) (writeB y3) (writeB z1) (writeB z2) (writeB z3)] (it s)∧(s=0∨s=6∨s=15)∧(s=0→Gd x1 x2 x3 y1 y2 y3 z1 z2 z3):=by
 have cv:∀ {a b c:Rat},Bq k a∧Bq k b∧Bq k c→Fits Tryz.prog 10 [t3 (writeB a) (writeB b) (writeB c)] (it 0):=fun h=>checkVec3 (chkB h.1 hk) (chkB h.2.1 hk) (chkB h.2.2 hk)
 have hc:=crossV hy.1 hy.2.1 hy.2.2 hz.1 hz.2.1 hz.2.2 (by omega)
 have c1:Bq (k+k+(k+k)+1) (y2*z3-y3*z2):=(hy.2.1.mul hz.2.2).sub (hy.2.2.mul hz.2.1)
 have c2:Bq (k+k+(k+k)+1) (y3*z1-y1*z3):=(hy.2.2.mul hz.1).sub (hy.1.mul hz.2.2)
 have c3:Bq (k+k+(k+k)+1) (y1*z2-y2*z1):=(hy.1.mul hz.2.1).sub (hy.2.1.mul hz.1)
 have hd:=dotV hx.1 hx.2.1 hx.2.2 c1 c2 c3 (by omega)
 have hS:=shapeZ (o1:=writeB o1) (o2:=writeB o2) (o3:=writeB o3) (dotV hx.1 hx.2.1 hx.2.2 hy.1 hy.2.1 hy.2.2 (by omega)) (isZeroQ _) (dotV hy.1 hy.2.1 hy.2.2 hz.1 hz.2.1 hz.2.2 (by omega)) (isZeroQ _) (dotV hz.1 hz.2.1 hz.2.2 hx.1 hx.2.1 hx.2.2 (by omega)) (isZeroQ _) (detR hc hd) (signQ _) (sgn_cases _) rfl
 have hC:=checkFrameZ (cv ho) (cv hx) (cv hy) (cv hz) (isOriginQ x1 x2 x3) (isOriginQ y1 y2 y3) (isOriginQ z1 z2 z3) hS rfl
 refine ⟨_,hC,?_,?_⟩
 ·split
  ·exact .inr (.inl rfl)
  ·split
   ·exact .inl rfl
   ·exact .inr (.inr rfl)
 ·intro h
  split at h
  ·cases h
  ·split at h
   ·rename_i g
    simp only [Bool.and_eq_true,decide_eq_true_eq,beq_iff_eq] at g
    refine ⟨g.1.1.1,g.1.1.2,g.1.2,?_⟩
    have g2:=g.2
    unfold kW bT at g2
    split at g2
    ·cases g2
    ·split at g2
     ·assumption
     ·cases g2
   ·cases h
theorem fewFrame_or {a b c d:Tx} {n:Int} (hk:k≤600) (yes:∀ s,Fy k s→Fits Tryz.prog 28 [tx s,it n] (bl true)) (no:∀ s,¬ Fy k s→Fits Tryz.prog 28 [tx s,it n] (bl false)) :
 (∃ o1 o2 o3 x1 x2 x3 y1 y2 y3 z1 z2 z3,(a 0=writeB o1∧a 1=writeB o2∧a 2=writeB o3)∧(b 0=writeB x1∧b 1=writeB x2∧b 2=writeB x3)∧(c 0=writeB y1∧c 1=writeB y2∧c 2=writeB y3)∧(d 0=writeB z1∧d 1=writeB z2∧d 2=writeB z3)∧(Bq k o1∧Bq k o2∧Bq k o3)∧(Bq k x1∧Bq k x2∧Bq k x3)∧(Bq k y1∧Bq k y2∧Bq k y3)∧(Bq k z1∧Bq k z2∧Bq k z3)∧Gd x1 x2 x3 y1 y2 y3 z1 z2 z3∧Fits Tryz.prog 5 [P12 a b c d,it n] (bl true)) ∨
  Fits Tryz.prog 5 [P12 a b c d,it n] (bl false):=by
 have F:∀ (p:Tx),(∃ x y z,(p 0=writeB x∧p 1=writeB y∧p 2=writeB z)∧(Bq k x∧Bq k y∧Bq k z)∧Fits Tryz.prog 6 [V3 p,it n] (bl true))∨Fits Tryz.prog 6 [V3 p,it n] (bl false):=fun p =>
  (fewVec_or yes no).imp (fun ⟨⟨x,e1,f1⟩,⟨y,e2,f2⟩,⟨z,e3,f3⟩,h⟩=>⟨x,y,z,⟨e1,e2,e3⟩,⟨bq_of f1,bq_of f2,bq_of f3⟩,h⟩) id
 have N:∀ (p:Tx),∃ t,Fits Tryz.prog 6 [V3 p,it n] (bl t):=fun p=>(F p).elim (fun ⟨_,_,_,_,_,h⟩=>⟨_,h⟩) fun h=>⟨_,h⟩
 obtain ⟨t2,n2⟩:=N b
 obtain ⟨t3,n3⟩:=N c
 obtain ⟨t4,n4⟩:=N d
 rcases F a with ⟨o1,o2,o3,ea,ka,v1⟩|v1
 ·rcases F b with ⟨x1,x2,x3,eb,kb,v2⟩|v2
  ·rcases F c with ⟨y1,y2,y3,ec,kc,v3⟩|v3
   ·rcases F d with ⟨z1,z2,z3,ed,kd,v4⟩|v4
    ·obtain ⟨s,hC,hs,hg⟩:=checkFrameQ ka kb kc kd hk
     rw [← ea.1,← ea.2.1,← ea.2.2,← eb.1,← eb.2.1,← eb.2.2,← ec.1,← ec.2.1,← ec.2.2,← ed.1,← ed.2.1,← ed.2.2] at hC
     have:=fewFrameZ v1 v2 v3 v4 hC hs
     by_cases h0:s=0
     ·subst h0
      exact .inl ⟨o1,o2,o3,x1,x2,x3,y1,y2,y3,z1,z2,z3,ea,eb,ec,ed,ka,kb,kc,kd,hg rfl,this⟩
     ·right
      rw [beq_eq_false_iff_ne.2 h0] at this
      exact this
    ·exact .inr (kD v1 v2 v3 v4 rfl)
   ·exact .inr (kD v1 v2 v3 n4 rfl)
  ·exact .inr (kD v1 v2 n3 n4 rfl)
 ·exact .inr (kD v1 n2 n3 n4 rfl)
end
section
variable {m1 m2 m3 d:Rat}
theorem whole_pos (h0:¬ (m1=0∧m2=0∧m3=0)):0<aQ m1 m2 m3:=by
 obtain ⟨_,_,_,_,_,_,_,L,G,hL0,hG0,hw,_⟩:=whole_form h0
 rw [hw,Rat.mkRat_eq_div,Rat.div_def]
 have h1:(0:Rat)<(L:Int):=by exact_mod_cast hL0
 have h2:(0:Rat)<(G:Nat):=by exact_mod_cast hG0
 exact Rat.mul_pos h1 (Rat.inv_pos.2 h2)
theorem hw_out {k j:Nat} (q1:Bq k m1) (q2:Bq k m2) (q3:Bq k m3) (qd:Bq j d) (hk:j+(3*k+1)≤600) (h0:¬ (m1=0∧m2=0∧m3=0)) :
 (∃ z1 z2 z3:Int,aQ m1 m2 m3*m1=z1∧aQ m1 m2 m3*m2=z2∧aQ m1 m2 m3*m3=z3∧Sz z1∧Sz z2∧Sz z3∧Int.gcd (Int.gcd z1 z2:Int) z3=1∧Bq (3*k+1) (aQ m1 m2 m3)∧Bq (j+(3*k+1)) (d*aQ m1 m2 m3)∧FitsW Tryz.prog Gl 46 [hf m1 m2 m3 d] (okH z1 z2 z3 (d*aQ m1 m2 m3))) ∨
  FitsW Tryz.prog Gl 46 [hf m1 m2 m3 d] largeH:=by
 have l:∀ {q:Rat} {k:Nat},Bq k q→k≤600→Lf 30 q:=fun h hk=>(h.wr hk).lf.mono (by decide)
 obtain ⟨z1,z2,z3,f1,f2,f3,hg,L,G,hL0,hG0,hw,hL,g1,g2,g3⟩:=whole_form h0
 have qw:=bq_whole q1 q2 q3 hG0 hw hL g1 g2 g3 h0
 have qe:=qd.mul qw
 have ld:Lf 38 d:=(l qd (by omega)).mono (by decide)
 by_cases hs:Sz z1∧Sz z2∧Sz z3
 ·exact .inl ⟨z1,z2,z3,f1,f2,f3,hs.1,hs.2.1,hs.2.2,hg,qw,qe,hWriteF ⟨l q1 (by omega),l q2 (by omega),l q3 (by omega),ld,h0,f1,f2,f3,rfl,hs.1,hs.2.1,hs.2.2,qe.wr hk⟩⟩
 ·exact .inr (hWriteLargeF ⟨l q1 (by omega),l q2 (by omega),l q3 (by omega),ld,h0,f1,f2,f3,rfl,hs,qe.wr hk⟩)
end
section
variable {o1 o2 o3 x1 x2 x3 y1 y2 y3 z1 z2 z3 p1 p2 p3:Rat} {n1 n2 n3:Int} {d e:Rat} {k1 k2 k3:Int} {x:AV Kn}
theorem placeHalf_W (h:Fv o1 o2 o3 x1 x2 x3 y1 y2 y3 z1 z2 z3) (k:Hv n1 n2 n3 d) (h0:Sq0 x1 x2 x3 y1 y2 y3 z1 z2 z3) {q1 q2 q3:Rat}
 (e1:ld (n1/dt x1 x2 x3 x1 x2 x3) (n2/dt y1 y2 y3 y1 y2 y3) (n3/dt z1 z2 z3 z1 z2 z3) x1 y1 z1=q1) (e2:ld (n1/dt x1 x2 x3 x1 x2 x3) (n2/dt y1 y2 y3 y1 y2 y3) (n3/dt z1 z2 z3 z1 z2 z3) x2 y2 z2=q2) (e3:ld (n1/dt x1 x2 x3 x1 x2 x3) (n2/dt y1 y2 y3 y1 y2 y3) (n3/dt z1 z2 z3 z1 z2 z3) x3 y3 z3=q3)
 (l1:Lf 30 q1) (l2:Lf 30 q2) (l3:Lf 30 q3) (hx:x=okH k1 k2 k3 e∨x=largeH) (hm:FitsW Tryz.prog Gl 46 [hf q1 q2 q3 (d+dt q1 q2 q3 o1 o2 o3)] x):FitsW Tryz.prog Gl 13 [iT o1 o2 o3 x1 x2 x3 y1 y2 y3 z1 z2 z3,hS n1 n2 n3 d] x:=by
 obtain ⟨a1,a2,a3,b1,b2,b3,c1,c2,c3⟩:=h.w.lm
 obtain ⟨g1,g2,g3⟩:=w3lf h.w.o
 have ld':=k.d.lf
 have t1:=cF k.s1 (k:=10)
 have t2:=cF k.s2 (k:=10)
 have t3:=cF k.s3 (k:=10)
 have s1:Lf 10 (dt x1 x2 x3 x1 x2 x3):=by repeat' (first|exact Lf.mono (by assumption) (by decide)|refine Lf.muln ?_ ?_ (by decide)|refine Lf.addn ?_ ?_ (by decide)|refine Lf.subn ?_ ?_ (by decide))
 have s2:Lf 10 (dt y1 y2 y3 y1 y2 y3):=by repeat' (first|exact Lf.mono (by assumption) (by decide)|refine Lf.muln ?_ ?_ (by decide)|refine Lf.addn ?_ ?_ (by decide)|refine Lf.subn ?_ ?_ (by decide))
 have s3:Lf 10 (dt z1 z2 z3 z1 z2 z3):=by repeat' (first|exact Lf.mono (by assumption) (by decide)|refine Lf.muln ?_ ?_ (by decide)|refine Lf.addn ?_ ?_ (by decide)|refine Lf.subn ?_ ?_ (by decide))
 have r1:=mI t1 s1 (Nat.le_refl 11)
 have r2:=mI t2 s2 (Nat.le_refl 11)
 have r3:=mI t3 s3 (Nat.le_refl 11)
 have j:Fits Tryz.prog 41 [gL 42,vc n1 n2 n3,vc (dt x1 x2 x3 x1 x2 x3) (dt y1 y2 y3 y1 y2 y3) (dt z1 z2 z3 z1 z2 z3)] (vc (n1/dt x1 x2 x3 x1 x2 x3) (n2/dt y1 y2 y3 y1 y2 y3) (n3/dt z1 z2 z3 z1 z2 z3)) :=
  joinF Tryz.call42 (kX (t1.mono (by decide)) (s1.mono (by decide)) h0.x) (kX (t2.mono (by decide)) (s2.mono (by decide)) h0.y) (kX (t3.mono (by decide)) (s3.mono (by decide)) h0.z)
 have hl:Fits Tryz.prog 40 [lP o1 o2 o3 x1 x2 x3 y1 y2 y3 z1 z2 z3,vc (n1/dt x1 x2 x3 x1 x2 x3) (n2/dt y1 y2 y3 y1 y2 y3) (n3/dt z1 z2 z3 z1 z2 z3)] (vc q1 q2 q3):=by
  rw [← e1,← e2,← e3]
  exact leadF (h.w.lm.mono (by decide)) ⟨r1.mono (by decide),r2.mono (by decide),r3.mono (by decide)⟩
 have hp:Fits Tryz.prog 44 [num d,num (dt q1 q2 q3 o1 o2 o3)] (num (d+dt q1 q2 q3 o1 o2 o3)):=plusF (by repeat' (first|exact Lf.mono (by assumption) (by decide)|refine Lf.muln ?_ ?_ (by decide)|refine Lf.addn ?_ ?_ (by decide)|refine Lf.subn ?_ ?_ (by decide))) (by repeat' (first|exact Lf.mono (by assumption) (by decide)|refine Lf.muln ?_ ?_ (by decide)|refine Lf.addn ?_ ?_ (by decide)|refine Lf.subn ?_ ?_ (by decide)))
 have hd:Fits Tryz.prog 45 [vc q1 q2 q3,vc o1 o2 o3] (num (dt q1 q2 q3 o1 o2 o3)):=mU (by repeat' (first|exact Lf.mono (by assumption) (by decide)|refine Lf.muln ?_ ?_ (by decide)|refine Lf.addn ?_ ?_ (by decide)|refine Lf.subn ?_ ?_ (by decide))) (by repeat' (first|exact Lf.mono (by assumption) (by decide)|refine Lf.muln ?_ ?_ (by decide)|refine Lf.addn ?_ ?_ (by decide)|refine Lf.subn ?_ ?_ (by decide))) (by repeat' (first|exact Lf.mono (by assumption) (by decide)|refine Lf.muln ?_ ?_ (by decide)|refine Lf.addn ?_ ?_ (by decide)|refine Lf.subn ?_ ?_ (by decide))) (by repeat' (first|exact Lf.mono (by assumption) (by decide)|refine Lf.muln ?_ ?_ (by decide)|refine Lf.addn ?_ ?_ (by decide)|refine Lf.subn ?_ ?_ (by decide))) (by repeat' (first|exact Lf.mono (by assumption) (by decide)|refine Lf.muln ?_ ?_ (by decide)|refine Lf.addn ?_ ?_ (by decide)|refine Lf.subn ?_ ?_ (by decide))) (by repeat' (first|exact Lf.mono (by assumption) (by decide)|refine Lf.muln ?_ ?_ (by decide)|refine Lf.addn ?_ ?_ (by decide)|refine Lf.subn ?_ ?_ (by decide)))
 have hs:=squaresF (o1:=o1) (o2:=o2) (o3:=o3) (h.w.lm.mono (by decide))
 rcases hx with rfl|rfl
 iterate 2 (
  ·refine dO Tryz.func13 (by kernel_rfl) fun w00 hG=>?_;have hI:=bD hG
   refine aL hI 38 [gL 30,iT o1 o2 o3 x1 x2 x3 y1 y2 y3 z1 z2 z3,gL 39,hS n1 n2 n3 d] (readFH h k) (by kernel_rfl) Tryz.call38 ?_
   refine aB 43 [lP o1 o2 o3 x1 x2 x3 y1 y2 y3 z1 z2 z3] (hs) (by kernel_rfl) Tryz.call43 ?_
   refine aB 41 [gL 42,vc n1 n2 n3,vc (dt x1 x2 x3 x1 x2 x3) (dt y1 y2 y3 y1 y2 y3) (dt z1 z2 z3 z1 z2 z3)] (j) (by kernel_rfl) Tryz.call41 ?_
   refine aB 40 [lP o1 o2 o3 x1 x2 x3 y1 y2 y3 z1 z2 z3,vc (n1/dt x1 x2 x3 x1 x2 x3) (n2/dt y1 y2 y3 y1 y2 y3) (n3/dt z1 z2 z3 z1 z2 z3)] (hl) (by kernel_rfl) Tryz.call40 ?_
   refine aB 45 [vc q1 q2 q3,vc o1 o2 o3] (hd) (by kernel_rfl) Tryz.call45 ?_
   refine aB 44 [num d,num (dt q1 q2 q3 o1 o2 o3)] (hp) (by kernel_rfl) Tryz.call44 ?_
   refine aL hI 46 [hf q1 q2 q3 (d+dt q1 q2 q3 o1 o2 o3)] (hm) (by kernel_rfl) Tryz.call46 ?_
   exact aS Tryz.func13 (by kernel_rfl))
theorem kE (h:Fv o1 o2 o3 x1 x2 x3 y1 y2 y3 z1 z2 z3) (k:Hv n1 n2 n3 d) (hx:x=okH k1 k2 k3 e∨x=largeH) (hm:FitsW Tryz.prog Gl 46 [hf (dt n1 n2 n3 x1 x2 x3) (dt n1 n2 n3 y1 y2 y3) (dt n1 n2 n3 z1 z2 z3) (-(dt n1 n2 n3 o1 o2 o3-d))] x) :
 FitsW Tryz.prog Gl 14 [iT o1 o2 o3 x1 x2 x3 y1 y2 y3 z1 z2 z3,hS n1 n2 n3 d] x:=by
 obtain ⟨a1,a2,a3,b1,b2,b3,c1,c2,c3⟩:=h.w.lm.mono (l:=31) (by decide)
 have ho:=(w3lf h.w.o).mono (l:=31) (by decide)
 have he:=eachVNc Tryz.call45 (mU (cF k.s1) (cF k.s2) (cF k.s3) a1 a2 a3) (mU (cF k.s1) (cF k.s2) (cF k.s3) b1 b2 b3) (mU (cF k.s1) (cF k.s2) (cF k.s3) c1 c2 c3)
 have hE:=excessF (cF k.s1) (cF k.s2) (cF k.s3) (k.d.lf.mono (by decide)) ho.a ho.b ho.c
 rcases hx with rfl|rfl
 iterate 2 (
  ·refine dO Tryz.func14 (by kernel_rfl) fun w00 hG=>?_;have hI:=bD hG
   refine aL hI 38 [gL 30,iT o1 o2 o3 x1 x2 x3 y1 y2 y3 z1 z2 z3,gL 39,hS n1 n2 n3 d] (readFH h k) (by kernel_rfl) Tryz.call38 ?_
   refine aB 47 [cloV 45 n1 n2 n3,mt x1 x2 x3 y1 y2 y3 z1 z2 z3] (he) (by kernel_rfl) Tryz.call47 ?_
   refine aB 48 [hf n1 n2 n3 d,vc o1 o2 o3] (hE) (by kernel_rfl) Tryz.call48 ?_
   refine aB 49 [num (dt n1 n2 n3 o1 o2 o3-d)] (negatedF) (by kernel_rfl) Tryz.call49 ?_
   refine aL hI 46 [hf (dt n1 n2 n3 x1 x2 x3) (dt n1 n2 n3 y1 y2 y3) (dt n1 n2 n3 z1 z2 z3) (-(dt n1 n2 n3 o1 o2 o3-d))] (hm) (by kernel_rfl) Tryz.call46 ?_
   exact aS Tryz.func14 (by kernel_rfl))
end
theorem sgnR_scale {F t:Rat} (hF:0<F):kW (F*t)=kW t:=by
 have a:0≤(F*t).num↔0≤t.num:=by
  rw [Rat.num_nonneg,Rat.num_nonneg]
  refine ⟨fun h=>Rat.not_lt.1 fun hn=>?_,fun h=>Rat.mul_nonneg (Rat.le_of_lt hF) h⟩
  have:=(Rat.mul_lt_mul_left hF).2 hn
  rw [Rat.mul_zero] at this
  exact Rat.not_lt.2 h this
 have b:(F*t).num=0↔t.num=0:=by
  rw [Rat.num_eq_zero,Rat.num_eq_zero,Rat.mul_eq_zero]
  exact ⟨fun h=>h.elim (fun e=>absurd (e▸hF) (by decide)) id,.inr⟩
 unfold kW bT
 generalize (F*t).num=A at *
 generalize t.num=B at *
 repeat' split
 all_goals first|rfl|omega
theorem num_den (t:Rat):t*t.den=t.num:=by
 have h1:(t.den:Rat)≠0:=by exact_mod_cast t.den_nz
 have h2:t=t.num/t.den:=by rw [← Rat.mkRat_eq_div,Rat.mkRat_self]
 have h3:t.num/(t.den:Rat)*t.den=t.num:=by rw [Rat.div_def,Rat.mul_assoc,Rat.inv_mul_cancel _ h1,Rat.mul_one]
 rw [← h2] at h3
 exact h3
theorem prim_one {t:Rat} {n1 n2 n3 z1 z2 z3:Int} (ht:0<t) (e1:t*n1=z1) (e2:t*n2=z2) (e3:t*n3=z3) (hn:Int.gcd (Int.gcd n1 n2:Int) n3=1) (hz:Int.gcd (Int.gcd z1 z2:Int) z3=1):t=1:=by
 have key:∀ {n z:Int},t*n=z→t.den ∣ n.natAbs∧t.num.natAbs ∣ z.natAbs:=fun {n z} e=>by
  have h:t.num*n=z*t.den:=by
   have:((t.num*n:Int):Rat)=((z*t.den:Int):Rat):=by
    push_cast
    rw [← e,← num_den t]
    grind
   exact_mod_cast this
  have h':=congrArg Int.natAbs h
  rw [Int.natAbs_mul,Int.natAbs_mul,Int.natAbs_natCast] at h'
  exact ⟨t.reduced.symm.dvd_of_dvd_mul_left ⟨z.natAbs,by rw [h',Nat.mul_comm]⟩,t.reduced.dvd_of_dvd_mul_right ⟨n.natAbs,h'.symm⟩⟩
 have a1:=key e1
 have a2:=key e2
 have a3:=key e3
 have hd:t.den ∣ 1:=by
  rw [← hn]
  exact Nat.dvd_gcd (Nat.dvd_gcd a1.1 a2.1) a3.1
 have hm:t.num.natAbs ∣ 1:=by
  rw [← hz]
  exact Nat.dvd_gcd (Nat.dvd_gcd a1.2 a2.2) a3.2
 have k1:=Nat.dvd_one.1 hd
 have k2:=Nat.dvd_one.1 hm
 have k3:0≤t.num:=Rat.num_nonneg.2 (Rat.le_of_lt ht)
 have k4:t.num=1:=by omega
 have:=num_den t
 rw [k1,k4] at this
 have t1:((1:Nat):Rat)=1:=rfl
 have t2:((1:Int):Rat)=1:=rfl
 rw [t1,t2,Rat.mul_one] at this
 exact this
theorem whole_scale {n1 n2 n3:Int} {F:Rat} (hF:0<F) (h0:¬ (n1=0∧n2=0∧n3=0)) (hg:Int.gcd (Int.gcd n1 n2:Int) n3=1):aQ (F*n1) (F*n2) (F*n3)*F=1:=by
 have hne:F≠0:=fun e=>absurd (e▸hF) (by decide)
 have z:∀ {n:Int},F*n=0→n=0:=fun h=>by
  have:=(Rat.mul_eq_zero.1 h).resolve_left hne
  exact_mod_cast this
 have h0' : ¬ (F*n1=0∧F*n2=0∧F*n3=0):=fun ⟨a,b,c⟩=>h0 ⟨z a,z b,z c⟩
 obtain ⟨z1,z2,z3,e1,e2,e3,hz,_⟩:=whole_form h0'
 have hp:=Rat.mul_pos (whole_pos h0') hF
 exact prim_one hp (by rw [Rat.mul_assoc];exact e1) (by rw [Rat.mul_assoc];exact e2) (by rw [Rat.mul_assoc];exact e3) hg hz
section
variable {x1 x2 x3 y1 y2 y3 z1 z2 z3 p1 p2 p3 t1 t2 t3:Rat}
abbrev kM (x1 x2 x3 y1 y2 y3 z1 z2 z3:Rat):Rat:=dt x1 x2 x3 (y2*z3-y3*z2) (y3*z1-y1*z3) (y1*z2-y2*z1)
theorem Gd.d0 (h:Gd x1 x2 x3 y1 y2 y3 z1 z2 z3):kM x1 x2 x3 y1 y2 y3 z1 z2 z3≠0:=fun e=>by
 have:=h.det
 rw [show dt x1 x2 x3 (y2*z3-y3*z2) (y3*z1-y1*z3) (y1*z2-y2*z1)=0 from e] at this
 exact absurd this (by decide)
theorem det_zx {a b c:Rat} (h1:a=0) (h2:b=0) (h3:c=0):kM a b c y1 y2 y3 z1 z2 z3=0:=by subst h1 h2 h3;unfold kM dt;grind
theorem det_rot:kM y1 y2 y3 z1 z2 z3 x1 x2 x3=kM x1 x2 x3 y1 y2 y3 z1 z2 z3:=by unfold kM dt;grind
theorem Gd.sq (h:Gd x1 x2 x3 y1 y2 y3 z1 z2 z3):Sq0 x1 x2 x3 y1 y2 y3 z1 z2 z3 :=
 ⟨fun e=>h.d0 (let ⟨a,b,c⟩:=sum_sq e;det_zx a b c),fun e=>h.d0 (let ⟨a,b,c⟩:=sum_sq e;by rw [← det_rot];exact det_zx a b c),fun e=>h.d0 (let ⟨a,b,c⟩:=sum_sq e;by rw [← det_rot,← det_rot];exact det_zx a b c)⟩
theorem sgn_pos {q:Rat} (h:0<q.num):kW q=1:=by
 unfold kW bT
 rw [if_neg (by omega),if_pos h]
theorem dt_000 {a b c:Rat} (h1:a=0) (h2:b=0) (h3:c=0):dt a b c a b c=0:=by rw [h1,h2,h3];unfold dt;grind
theorem Gd.ax (h:Gd x1 x2 x3 y1 y2 y3 z1 z2 z3):Ax x1 x2 x3 y1 y2 y3 z1 z2 z3 :=
 ⟨dec_and fun ⟨a,b,c⟩=>h.sq.x (dt_000 a b c),dec_and fun ⟨a,b,c⟩=>h.sq.y (dt_000 a b c),dec_and fun ⟨a,b,c⟩=>h.sq.z (dt_000 a b c),h.xy,h.yz,h.zx,sgn_pos h.det⟩
theorem cof (xy:dt x1 x2 x3 y1 y2 y3=0) (zx:dt z1 z2 z3 x1 x2 x3=0) :
 dt x1 x2 x3 x1 x2 x3*(y2*z3-y3*z2)=kM x1 x2 x3 y1 y2 y3 z1 z2 z3*x1∧dt x1 x2 x3 x1 x2 x3*(y3*z1-y1*z3)=kM x1 x2 x3 y1 y2 y3 z1 z2 z3*x2∧dt x1 x2 x3 x1 x2 x3*(y1*z2-y2*z1)=kM x1 x2 x3 y1 y2 y3 z1 z2 z3*x3:=by
 have e1:dt x1 x2 x3 x1 x2 x3*(y2*z3-y3*z2)=kM x1 x2 x3 y1 y2 y3 z1 z2 z3*x1-dt z1 z2 z3 x1 x2 x3*(x2*y3-x3*y2)+dt x1 x2 x3 y1 y2 y3*(x2*z3-x3*z2):=by clear xy zx;unfold kM dt;grind
 have e2:dt x1 x2 x3 x1 x2 x3*(y3*z1-y1*z3)=kM x1 x2 x3 y1 y2 y3 z1 z2 z3*x2-dt z1 z2 z3 x1 x2 x3*(x3*y1-x1*y3)+dt x1 x2 x3 y1 y2 y3*(x3*z1-x1*z3):=by clear xy zx e1;unfold kM dt;grind
 have e3:dt x1 x2 x3 x1 x2 x3*(y1*z2-y2*z1)=kM x1 x2 x3 y1 y2 y3 z1 z2 z3*x3-dt z1 z2 z3 x1 x2 x3*(x1*y2-x2*y1)+dt x1 x2 x3 y1 y2 y3*(x1*z2-x2*z1):=by clear xy zx e1 e2;unfold kM dt;grind
 have z0:∀ q:Rat,q-0+0=q:=fun q=>by grind
 rw [xy,zx,Rat.zero_mul,Rat.zero_mul,z0] at e1 e2 e3
 exact ⟨e1,e2,e3⟩
theorem recip {s c x d D q:Rat} (hs:s≠0) (hD:D*d=1) (e:s*c=d*x):q/s*x=D*(q*c):=by
 have h:s⁻¹*s=1:=Rat.inv_mul_cancel _ hs
 rw [Rat.div_def]
 generalize s⁻¹=i at *
 calc q*i*x=q*i*(D*d)*x:=by rw [hD,Rat.mul_one]
  _=q*i*D*(d*x):=by grind
  _=i*s*(D*(q*c)):=by rw [← e];grind
  _=D*(q*c):=by rw [h,Rat.one_mul]
theorem Gd.back (h:Gd x1 x2 x3 y1 y2 y3 z1 z2 z3) (t1 t2 t3:Rat) :
 ld (dt t1 t2 t3 x1 x2 x3/dt x1 x2 x3 x1 x2 x3) (dt t1 t2 t3 y1 y2 y3/dt y1 y2 y3 y1 y2 y3) (dt t1 t2 t3 z1 z2 z3/dt z1 z2 z3 z1 z2 z3) x1 y1 z1=t1 ∧
 ld (dt t1 t2 t3 x1 x2 x3/dt x1 x2 x3 x1 x2 x3) (dt t1 t2 t3 y1 y2 y3/dt y1 y2 y3 y1 y2 y3) (dt t1 t2 t3 z1 z2 z3/dt z1 z2 z3 z1 z2 z3) x2 y2 z2=t2 ∧
 ld (dt t1 t2 t3 x1 x2 x3/dt x1 x2 x3 x1 x2 x3) (dt t1 t2 t3 y1 y2 y3/dt y1 y2 y3 y1 y2 y3) (dt t1 t2 t3 z1 z2 z3/dt z1 z2 z3 z1 z2 z3) x3 y3 z3=t3:=by
 have cx:=cof h.xy h.zx
 have cy:=cof h.yz h.xy
 have cz:=cof h.zx h.yz
 rw [det_rot] at cy
 rw [det_rot,det_rot] at cz
 have hD:(kM x1 x2 x3 y1 y2 y3 z1 z2 z3)⁻¹*kM x1 x2 x3 y1 y2 y3 z1 z2 z3=1:=Rat.inv_mul_cancel _ h.d0
 have s:=h.sq
 unfold ld
 rw [recip s.x hD cx.1,recip s.y hD cy.1,recip s.z hD cz.1,recip s.x hD cx.2.1,recip s.y hD cy.2.1,recip s.z hD cz.2.1,recip s.x hD cx.2.2,recip s.y hD cy.2.2,recip s.z hD cz.2.2]
 clear cx cy cz s h
 have e:∀ D a b c t:Rat,a+b+c=kM x1 x2 x3 y1 y2 y3 z1 z2 z3*t→D*kM x1 x2 x3 y1 y2 y3 z1 z2 z3=1→D*a+D*b+D*c=t:=fun D a b c t h1 h2=>by
  calc D*a+D*b+D*c=D*(a+b+c):=by grind
   _=D*kM x1 x2 x3 y1 y2 y3 z1 z2 z3*t:=by rw [h1,Rat.mul_assoc]
   _=t:=by rw [h2,Rat.one_mul]
 refine ⟨e _ _ _ _ _ ?_ hD,e _ _ _ _ _ ?_ hD,e _ _ _ _ _ ?_ hD⟩ <;> (clear e hD;unfold kM dt;grind)
theorem nZ {a s:Rat} (hs:s≠0):a*s/s=a:=by rw [Rat.div_def,Rat.mul_assoc,Rat.mul_inv_cancel _ hs,Rat.mul_one]
theorem oA {a s:Rat} (hs:s≠0):a/s*s=a:=by rw [Rat.div_def,Rat.mul_assoc,Rat.inv_mul_cancel _ hs,Rat.mul_one]
theorem Gd.fwd (h:Gd x1 x2 x3 y1 y2 y3 z1 z2 z3) (p1 p2 p3:Rat) :
 dt (ld p1 p2 p3 x1 y1 z1) (ld p1 p2 p3 x2 y2 z2) (ld p1 p2 p3 x3 y3 z3) x1 x2 x3=p1*dt x1 x2 x3 x1 x2 x3 ∧
 dt (ld p1 p2 p3 x1 y1 z1) (ld p1 p2 p3 x2 y2 z2) (ld p1 p2 p3 x3 y3 z3) y1 y2 y3=p2*dt y1 y2 y3 y1 y2 y3 ∧
 dt (ld p1 p2 p3 x1 y1 z1) (ld p1 p2 p3 x2 y2 z2) (ld p1 p2 p3 x3 y3 z3) z1 z2 z3=p3*dt z1 z2 z3 z1 z2 z3:=by
 have e1:dt (ld p1 p2 p3 x1 y1 z1) (ld p1 p2 p3 x2 y2 z2) (ld p1 p2 p3 x3 y3 z3) x1 x2 x3=p1*dt x1 x2 x3 x1 x2 x3+p2*dt x1 x2 x3 y1 y2 y3+p3*dt z1 z2 z3 x1 x2 x3:=by clear h;unfold ld dt;grind
 have e2:dt (ld p1 p2 p3 x1 y1 z1) (ld p1 p2 p3 x2 y2 z2) (ld p1 p2 p3 x3 y3 z3) y1 y2 y3=p2*dt y1 y2 y3 y1 y2 y3+p1*dt x1 x2 x3 y1 y2 y3+p3*dt y1 y2 y3 z1 z2 z3:=by clear h e1;unfold ld dt;grind
 have e3:dt (ld p1 p2 p3 x1 y1 z1) (ld p1 p2 p3 x2 y2 z2) (ld p1 p2 p3 x3 y3 z3) z1 z2 z3=p3*dt z1 z2 z3 z1 z2 z3+p1*dt z1 z2 z3 x1 x2 x3+p2*dt y1 y2 y3 z1 z2 z3:=by clear h e1 e2;unfold ld dt;grind
 rw [h.xy,h.zx,Rat.mul_zero,Rat.mul_zero,Rat.add_zero,Rat.add_zero] at e1
 rw [h.xy,h.yz,Rat.mul_zero,Rat.mul_zero,Rat.add_zero,Rat.add_zero] at e2
 rw [h.yz,h.zx,Rat.mul_zero,Rat.mul_zero,Rat.add_zero,Rat.add_zero] at e3
 exact ⟨e1,e2,e3⟩
theorem dt_ld (n1 n2 n3 b1 b2 b3:Rat):dt n1 n2 n3 (ld b1 b2 b3 x1 y1 z1) (ld b1 b2 b3 x2 y2 z2) (ld b1 b2 b3 x3 y3 z3)=dt (dt n1 n2 n3 x1 x2 x3) (dt n1 n2 n3 y1 y2 y3) (dt n1 n2 n3 z1 z2 z3) b1 b2 b3:=by unfold ld dt;grind
end
section
variable {a b c:Int} {s:ByteArray}
theorem fewHalf4F {z:Int} {q r:Bool} (hk:Fits Tryz.prog 15 [hA a b c s] (.fv (.sc (gM z)))) (hf:Fits Tryz.prog 28 [tx s,it 4] (bl q)) (hr:(decide (z=0)&&q&&decide (In 100 a)&&decide (In 100 b)&&decide (In 100 c))=r) :
 Fits Tryz.prog 7 [hL a b c s,it 100,it 4] (bl r):=by
 refine Fits.args (l := [hA a b c s,it 100,it 4]) ?_ fun β vs w ⟨v,r,e,h,hr⟩=>⟨v,r,e,hL_A β v w h,hr⟩
 refine fW Tryz.func7 (by kernel_rfl) fun w00=>?_
 refine aB 15 [hA a b c s] (hk) (by kernel_rfl) Tryz.call15 ?_
 by_cases hz:z=0
 ·refine kne (.tmp 9) (.const (.int .i64 0)) z 0 false _ bG (by simp [hz]) ?_
  cases q
  ·obtain rfl:r=false:=by rw [← hr];simp
   refine aB 28 [tx s,it 4] (hf) (by kernel_rfl) Tryz.call28 ?_
   exact aS Tryz.func7 (by kernel_rfl)
  refine aB 28 [tx s,it 4] (hf) (by kernel_rfl) Tryz.call28 ?_
  by_cases a1:a < -100
  ·obtain rfl:r=false:=by rw [← hr];simp;omega
   refine klt (.tmp 25) (.tmp 27) a (-100) true _ bG (decide_eq_true a1) ?_
   exact aS Tryz.func7 (by kernel_rfl)
  refine klt (.tmp 25) (.tmp 27) a (-100) false _ bG (decide_eq_false a1) ?_
  by_cases a2:100<a
  ·obtain rfl:r=false:=by rw [← hr];simp;omega
   refine kgg (.tmp 33) (.tmp 34) a 100 true _ bG (decide_eq_true a2) ?_
   exact aS Tryz.func7 (by kernel_rfl)
  refine kgg (.tmp 33) (.tmp 34) a 100 false _ bG (decide_eq_false a2) ?_
  by_cases b1:b < -100
  ·obtain rfl:r=false:=by rw [← hr];simp;omega
   refine klt (.tmp 25) (.tmp 27) b (-100) true _ bG (decide_eq_true b1) ?_
   exact aS Tryz.func7 (by kernel_rfl)
  refine klt (.tmp 25) (.tmp 27) b (-100) false _ bG (decide_eq_false b1) ?_
  by_cases b2:100<b
  ·obtain rfl:r=false:=by rw [← hr];simp;omega
   refine kgg (.tmp 33) (.tmp 34) b 100 true _ bG (decide_eq_true b2) ?_
   exact aS Tryz.func7 (by kernel_rfl)
  refine kgg (.tmp 33) (.tmp 34) b 100 false _ bG (decide_eq_false b2) ?_
  by_cases c1:c < -100
  ·obtain rfl:r=false:=by rw [← hr];simp;omega
   refine klt (.tmp 25) (.tmp 27) c (-100) true _ bG (decide_eq_true c1) ?_
   exact aS Tryz.func7 (by kernel_rfl)
  refine klt (.tmp 25) (.tmp 27) c (-100) false _ bG (decide_eq_false c1) ?_
  by_cases c2:100<c
  ·obtain rfl:r=false:=by rw [← hr];simp;omega
   refine kgg (.tmp 33) (.tmp 34) c 100 true _ bG (decide_eq_true c2) ?_
   exact aS Tryz.func7 (by kernel_rfl)
  refine kgg (.tmp 33) (.tmp 34) c 100 false _ bG (decide_eq_false c2) ?_
  obtain rfl:r=true:=by rw [← hr];simp [hz];omega
  exact aS Tryz.func7 (by kernel_rfl)
 ·obtain rfl:r=false:=by rw [← hr];simp [hz]
  refine kne (.tmp 9) (.const (.int .i64 0)) z 0 true _ bG (by simp [hz]) ?_
  exact aS Tryz.func7 (by kernel_rfl)
end
theorem few4y (s:ByteArray) (h:Fy 4 s):Fits Tryz.prog 28 [tx s,it 4] (bl true):=by
 obtain ⟨q,rfl,h⟩:=h
 exact kn_F (few4Yes h)
theorem few4n (s:ByteArray) (h:¬ Fy 4 s):Fits Tryz.prog 28 [tx s,it 4] (bl false):=kn_F (few4No h)
theorem fewHalf4_or {z1 z2 z3:Int} {s:ByteArray} (hs:s.size≤9223372036854775807) :
 (¬ (z1=0∧z2=0∧z3=0)∧In 100 z1∧In 100 z2∧In 100 z3∧Int.gcd (Int.gcd z1 z2:Int) z3=1∧Fy 4 s∧Fits Tryz.prog 7 [hL z1 z2 z3 s,it 100,it 4] (bl true))∨Fits Tryz.prog 7 [hL z1 z2 z3 s,it 100,it 4] (bl false):=by
 have hk:=checkHalfF (a:=z1) (b:=z2) (c:=z3) (kn_I (checkAnyF hs)) rfl
 by_cases hf:Fy 4 s
 ·have hF := fewHalf4F hk (few4y s hf) rfl
  by_cases h:hkZ z1 z2 z3 (gK s)=0∧In 100 z1∧In 100 z2∧In 100 z3
  ·left
   obtain ⟨h0,h1,h2,h3⟩:=h
   have e0:=h0
   unfold hkZ at h0
   split at h0
   ·cases h0
   ·rename_i hz
    split at h0
    ·cases h0
    ·split at h0
     ·cases h0
     ·rename_i hg
      refine ⟨hz,h1,h2,h3,Classical.not_not.1 hg,hf,?_⟩
      simpa [e0,h1,h2,h3] using hF
  ·right
   have e:(decide (hkZ z1 z2 z3 (gK s)=0)&&true&&decide (In 100 z1)&&decide (In 100 z2)&&decide (In 100 z3))=false:=by
    rw [Bool.eq_false_iff]
    intro hh
    simp only [Bool.and_eq_true,decide_eq_true_eq,and_true] at hh
    exact h ⟨hh.1.1.1,hh.1.1.2,hh.1.2,hh.2⟩
   rw [e] at hF
   exact hF
 ·exact .inr (fewHalf4F hk (few4n s hf) (by simp))
section
variable {f:FuncId} {w00:World} {Out:Value→World→Prop} {c:Cfg Kn}
theorem khe (x y:Operand) (a b d:Int) (s:ByteArray) (hg:Ok Tryz.prog f w00 Out (dH Tryz.prog 1000 (c.give (bl true))))
 (hc:(c.op.map fun o=>o.op,c.okT (bl true),c.ev x,c.ev y)=(some (.binOp .eql 29 x y 29),true,hL a b d s,hL a b d s):=by kernel_rfl):Ok Tryz.prog f w00 Out c :=
 eJ (.binOp .eql 29 x y 29) x y _ _ (bl true) hc (by simp [Op.operands]) (by simp [Op.operands]) (fun ρ o β w ho hx hy=>⟨_,agg_eq (by kernel_rfl) (equalHf a b d s w) ho (hL_is hx) (hL_is hy),bA rfl⟩) hg
end
section
variable {o x y z p a b e:Tx} {h1 h2 h3 k1 k2 k3 l1 l2 l3 n:Int} {s t u:ByteArray}
abbrev PlH (o x y z:Tx) (h r:AV Kn):Prop:=FitsW Tryz.prog Gl 13 [P12 o x y z,h] r
abbrev LoH (o x y z:Tx) (h r:AV Kn):Prop:=FitsW Tryz.prog Gl 14 [P12 o x y z,h] r
abbrev Pla (o x y z:Tx) (v r:AV Kn):Prop:=FitsW Tryz.prog Gl 8 [P12 o x y z,v] r
abbrev Loc (o x y z:Tx) (v r:AV Kn):Prop:=FitsW Tryz.prog Gl 9 [P12 o x y z,v] r
abbrev v100:AV Kn:=vS ((1:Int):Rat) ((0:Int):Rat) ((0:Int):Rat)
abbrev v000:AV Kn:=vS ((0:Int):Rat) ((0:Int):Rat) ((0:Int):Rat)
structure Both (o x y z p a b:Tx) (h1 h2 h3 k1 k2 k3 l1 l2 l3 n:Int) (s t u:ByteArray):Prop where
 ck:Fits Tryz.prog 15 [hL k1 k2 k3 t] (it 0)
 cl:Fits Tryz.prog 15 [hL l1 l2 l3 u] (it 0)
 s1:SdW (hL h1 h2 h3 s) p n
 s2:SdW (hL k1 k2 k3 t) a n
 s3:SdW (hL l1 l2 l3 u) b n
 b:LoH o x y z (hL k1 k2 k3 t) (okL h1 h2 h3 s)
 n:n=1∨n=0∨n = -1
set_option maxRecDepth 100000 in
theorem coord_walk (hF:Fits Tryz.prog 5 [P12 o x y z,it 4] (bl true)) (hP:Fits Tryz.prog 6 [V3 p,it 4] (bl true)) (hH:Fits Tryz.prog 7 [hL h1 h2 h3 s,it 100,it 4] (bl true)) (cA:Pla o x y z (V3 p) (okV3 a)) (cB:Loc o x y z (V3 p) (okV3 b)) (kA:Fits Tryz.prog 10 [V3 a] (it 0)) (kB:Fits Tryz.prog 10 [V3 b] (it 0))
 (cC:Loc o x y z (V3 a) (okV3 p)) (cD:Pla o x y z (V3 b) (okV3 p)) (cX:Pla o x y z v100 (okV3 e)) (cO:Pla o x y z v000 (okV3 o)) (aX:Fits Tryz.prog 12 [V3 o,V3 x] (V3 e))
 (hk:(PlH o x y z (hL h1 h2 h3 s) largeH∧(LoH o x y z (hL h1 h2 h3 s) largeH∨∃ l1 l2 l3 u,LoH o x y z (hL h1 h2 h3 s) (okL l1 l2 l3 u))) ∨
  ∃ k1 k2 k3 t,PlH o x y z (hL h1 h2 h3 s) (okL k1 k2 k3 t)∧(LoH o x y z (hL h1 h2 h3 s) largeH∨∃ l1 l2 l3 u,LoH o x y z (hL h1 h2 h3 s) (okL l1 l2 l3 u)∧∃ n,Both o x y z p a b h1 h2 h3 k1 k2 k3 l1 l2 l3 n s t u)) :
 FitsW Tryz.prog Gl 3 [P12 o x y z,V3 p,hL h1 h2 h3 s] (bl true):=by
 have i1:M64 1:=by constructor <;> omega
 have i0:M64 0:=by constructor <;> omega
 refine dO Tryz.func3 (by kernel_rfl) fun w00 hG=>?_;have hI:=bD hG
 refine aL hI 4 [] (awakeF) (by kernel_rfl) Tryz.call4 ?_
 refine aB 5 [P12 o x y z,it 4] (hF) (by kernel_rfl) Tryz.call5 ?_
 refine aB 6 [V3 p,it 4] (hP) (by kernel_rfl) Tryz.call6 ?_
 refine aB 7 [hL h1 h2 h3 s,it 100,it 4] (hH) (by kernel_rfl) Tryz.call7 ?_
 refine aL hI 8 [P12 o x y z,V3 p] (cA) (by kernel_rfl) Tryz.call8 ?_
 refine aL hI 9 [P12 o x y z,V3 p] (cB) (by kernel_rfl) Tryz.call9 ?_
 refine aB 10 [V3 a] (kA) (by kernel_rfl) Tryz.call10 ?_
 refine aB 10 [V3 b] (kB) (by kernel_rfl) Tryz.call10 ?_
 refine aL hI 9 [P12 o x y z,V3 a] (cC) (by kernel_rfl) Tryz.call9 ?_
 refine aL hI 8 [P12 o x y z,V3 b] (cD) (by kernel_rfl) Tryz.call8 ?_
 refine aB 11 [it 1,it 0,it 0] (dD i1 i0 i0) (by kernel_rfl) Tryz.call11 ?_
 refine aL hI 8 [P12 o x y z,v100] (cX) (by kernel_rfl) Tryz.call8 ?_
 refine aB 11 [it 0,it 0,it 0] (dD i0 i0 i0) (by kernel_rfl) Tryz.call11 ?_
 refine aL hI 8 [P12 o x y z,v000] (cO) (by kernel_rfl) Tryz.call8 ?_
 refine kv3 (.tmp 108) (.tmp 109) (p 0) (p 1) (p 2) ?_
 refine kv3 (.tmp 113) (.tmp 114) (p 0) (p 1) (p 2) ?_
 refine kv3 (.tmp 118) (.tmp 120) (o 0) (o 1) (o 2) ?_
 refine aB 12 [V3 o,V3 x] (aX) (by kernel_rfl) Tryz.call12 ?_
 refine kv3 (.tmp 124) (.tmp 129) (e 0) (e 1) (e 2) ?_
 rcases hk with ⟨ck,cl|⟨l1,l2,l3,u,cl⟩⟩|⟨k1,k2,k3,t,ck,cl|⟨l1,l2,l3,u,cl,n,B⟩⟩
 iterate 3 (
  ·refine aL hI 13 [P12 o x y z,hL h1 h2 h3 s] (ck) (by kernel_rfl) Tryz.call13 ?_
   refine aL hI 14 [P12 o x y z,hL h1 h2 h3 s] (cl) (by kernel_rfl) Tryz.call14 ?_
   exact aS Tryz.func3 (by kernel_rfl))
 refine aL hI 13 [P12 o x y z,hL h1 h2 h3 s] (ck) (by kernel_rfl) Tryz.call13 ?_
 refine aL hI 14 [P12 o x y z,hL h1 h2 h3 s] (cl) (by kernel_rfl) Tryz.call14 ?_
 refine aB 15 [hL k1 k2 k3 t] (B.ck) (by kernel_rfl) Tryz.call15 ?_
 refine aB 15 [hL l1 l2 l3 u] (B.cl) (by kernel_rfl) Tryz.call15 ?_
 obtain ⟨_,_,s1,s2,s3,cb,hn⟩:=B
 rcases hn with rfl|rfl|rfl
 iterate 3 (
  ·refine aL hI 16 [hL h1 h2 h3 s,V3 p] (s1) (by kernel_rfl) Tryz.call16 ?_
   refine aL hI 16 [hL k1 k2 k3 t,V3 a] (s2) (by kernel_rfl) Tryz.call16 ?_
   refine aL hI 16 [hL l1 l2 l3 u,V3 b] (s3) (by kernel_rfl) Tryz.call16 ?_
   refine aL hI 14 [P12 o x y z,hL k1 k2 k3 t] (cb) (by kernel_rfl) Tryz.call14 ?_
   refine khe (.tmp 208) (.tmp 209) h1 h2 h3 s ?_
   exact aS Tryz.func3 (by kernel_rfl))
set_option maxRecDepth 100000 in
theorem coord_no {b1 b2 b3:Bool} (hF:Fits Tryz.prog 5 [P12 o x y z,it 4] (bl b1)) (hP:Fits Tryz.prog 6 [V3 p,it 4] (bl b2)) (hH:Fits Tryz.prog 7 [hL h1 h2 h3 s,it 100,it 4] (bl b3)) (hb:(b1&&b2&&b3)=false) :
 FitsW Tryz.prog Gl 3 [P12 o x y z,V3 p,hL h1 h2 h3 s] (bl true):=by
 refine dO Tryz.func3 (by kernel_rfl) fun w00 hG=>?_;have hI:=bD hG
 refine aL hI 4 [] (awakeF) (by kernel_rfl) Tryz.call4 ?_
 cases b1
 ·refine aB 5 [P12 o x y z,it 4] (hF) (by kernel_rfl) Tryz.call5 ?_
  refine aL hI 4 [] (awakeF) (by kernel_rfl) Tryz.call4 ?_
  exact aS Tryz.func3 (by kernel_rfl)
 refine aB 5 [P12 o x y z,it 4] (hF) (by kernel_rfl) Tryz.call5 ?_
 cases b2
 ·refine aB 6 [V3 p,it 4] (hP) (by kernel_rfl) Tryz.call6 ?_
  refine aL hI 4 [] (awakeF) (by kernel_rfl) Tryz.call4 ?_
  exact aS Tryz.func3 (by kernel_rfl)
 refine aB 6 [V3 p,it 4] (hP) (by kernel_rfl) Tryz.call6 ?_
 cases b3
 ·refine aB 7 [hL h1 h2 h3 s,it 100,it 4] (hH) (by kernel_rfl) Tryz.call7 ?_
  refine aL hI 4 [] (awakeF) (by kernel_rfl) Tryz.call4 ?_
  exact aS Tryz.func3 (by kernel_rfl)
 ·cases hb
end
end Go.Proofs.YtgbcaflelmgbdaaGreatDoor.Ab
