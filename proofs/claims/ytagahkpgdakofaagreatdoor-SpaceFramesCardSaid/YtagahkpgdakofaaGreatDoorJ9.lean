/- Parts of the proof, joined. -/
import Derived.Test.YtagahkpgdakofaaGreatDoorJ8
import Derived.Test.YtagahkpgdakofaaGreatDoorJ7
import Derived.WalkKit
import Derived.ProofKit
import Derived.OpenShut
import Derived.Deep.DeepHandedRow
import Derived.Deep.DeepWitnessRowRef
import Derived.Lib.LaidTab
import Derived.Stop.LaidErr
import Derived.Shelf.Vars
import Derived.Lay
import Derived.Test.YtagahkpgdakofaaGreatDoorProg
import Derived.ChangeArms
set_option linter.unusedSimpArgs false
set_option linter.unusedVariables false
set_option linter.constructorNameAsVariable false
namespace Go.Proofs.YtagahkpgdakofaaGreatDoor
namespace Ab
open Go.RowKit Pl
section
variable {P:Program} {f:FuncId}
theorem fitsAS_of {fn:Func} {n:Nat} {T:TypeId} {l:List (Seg Kn)} {u x:AV Kn} (hfn:P.funcs[f]?=some fn) (hb:fn.body.isSome=true) (hn:decide (2≤fn.ntmps)=true) (hx:x.noPtr=true) (hl:l.all Seg.noPtr=true) (hu:u.noPtr=true)
 (h:∀ w00,Ok P f w00 (fun v w=>x.holds [] v w) (.items [.code (fn.body.getD .skip)] { slots := [u,.fv (.sc (.slc 0 0 n n))]++List.replicate (fn.ntmps-2) .un,blocks := [(T,l)],ro:=1 })):Fits P f [u,.fv (.nsl n T l)] x:=by
 rintro β w vs ⟨v,r,rfl,h1,v2,r2,rfl,⟨g,cs,rfl,hg,hcs⟩,h3⟩
 have h1' : u.holds [g] v w:=AV.noPtr_holds hu h1
 have h3' : r2 = []:=h3
 subst h3'
 have hb2:fn.body=some (fn.body.getD .skip):=by
  cases hb2:fn.body with
  | none=>rw [hb2] at hb;cases hb
  | some c=>rfl
 refine (eH (w00:=w) (Out:=fun v w=>x.holds [] v w) hfn hb2 [u,.fv (.sc (.slc 0 0 n n))] [(T,l)] [g] [v,.slice (some ⟨g,0,none⟩) n n] (fn.ntmps-2) (by simp at hn;simp;omega) ⟨_,_,rfl,h1',_,[],rfl,⟨g,rfl,rfl⟩,rfl⟩ rfl (by simp)
  (fun k T' l' hk=>?_) (by simp;exact lt_of_block hg) (h w).good).mono ?_
 ·match k,hk with
  | 0,hk =>
    simp at hk
    obtain ⟨rfl,rfl⟩:=hk
    exact ⟨g,cs,rfl,hg,hcs.noPtr hl⟩
 ·rintro e w' ⟨v,rfl,hb,ho⟩
  exact ⟨v,rfl,hb,AV.noPtr_holds hx ho⟩
end
theorem kgoAS {f:FuncId} {fn:Func} {n:Nat} {T:TypeId} {l:List (Seg Kn)} {u x:AV Kn} (hfn:Tryz.prog.funcs[f]?=some fn) (hc:(fn.body.isSome,decide (2≤fn.ntmps),x.noPtr,l.all Seg.noPtr,u.noPtr)=(true,true,true,true,true))
 (h:∀ w00,Ok Tryz.prog f w00 (fun v w=>x.holds [] v w) (cD Tryz.prog 1000 (.items [.code (fn.body.getD .skip)] { slots := [u,.fv (.sc (.slc 0 0 n n))]++List.replicate (fn.ntmps-2) .un,blocks := [(T,l)],ro:=1 }))):jF f [u,.fv (.nsl n T l)] x:=by
 simp only [Prod.mk.injEq] at hc
 exact fitsAS_of hfn hc.1 hc.2.1 hc.2.2.1 hc.2.2.2.1 hc.2.2.2.2 fun w00=>Ok.go (by kernel_rfl) lR 1000 (h w00)
abbrev lo (n:Int) (s:ByteArray):Bool:=decide (n<(s.size:Nat))
section
variable {a b c d x y u:ByteArray} {n:Int} {T:TypeId} {r:Bool}
theorem checkRowAny {za zb zc z:Int} (h1:jF 102 [tx a] (it za)) (h2:jF 102 [tx b] (it zb)) (h3:jF 102 [tx c] (it zc)) (e1:Ev za) (e2:Ev zb) (e3:Ev zc) (hz:f3 za zb zc=z) :
 jF 47 [.fv (.nsl 3 T [bS a,bS b,bS c])] (it z):=by
 rcases e1 with rfl|rfl|rfl
 ·rcases e2 with rfl|rfl|rfl
  ·have hz:zc=z:=hz
   subst hz
   rcases e3 with rfl|rfl|rfl <;> (refine nL Tryz.func47 (by kernel_rfl) fun w00=>?_;refine eG 102 [tx a] (h1) (by kernel_rfl) Tryz.call102 ?_;refine eG 102 [tx b] (h2) (by kernel_rfl) Tryz.call102 ?_;refine eG 102 [tx c] (h3) (by kernel_rfl) Tryz.call102 ?_;exact kret Tryz.func47 (by kernel_rfl))
  all_goals
   have hz:_=z:=hz
   subst hz
   refine nL Tryz.func47 (by kernel_rfl) fun w00=>?_
   refine jC 102 [tx a] (h1) ?_
   refine jC 102 [tx b] (h2) ?_
   exact jR Tryz.func47
 all_goals
  have hz:_=z:=hz
  subst hz
  refine nL Tryz.func47 (by kernel_rfl) fun w00=>?_
  refine jC 102 [tx a] (h1) ?_
  exact jR Tryz.func47
abbrev Sl (s:ByteArray):Prop:=s.size≤40
abbrev Sl3 (a b c:ByteArray):Prop:=Sl a∧Sl b∧Sl c
theorem Sl.rb {s:ByteArray} (h:Sl s):Rb s:=by have h:s.size≤40:=h;show s.size<_;omega
theorem Sl3.rb (h:Sl3 a b c):Rb3 a b c:=⟨Sl.rb h.1,Sl.rb h.2.1,Sl.rb h.2.2⟩
theorem fE {z:Int} (h:Sl3 a b c) (hz:c3 a b c=z):jF 16 [t3 a b c] (it z):=by
 have h1:a.size≤40:=h.1
 have h2:b.size≤40:=h.2.1
 have h3:c.size≤40:=h.2.2
 refine jG Tryz.func16 fun w00=>?_
 refine jC 47 [.fv (.nsl 3 22 [bS a,bS b,bS c])] (checkRowAny (uE (by omega) rfl) (uE (by omega) rfl) (uE (by omega) rfl) (dB _) (dB _) (dB _) hz) ?_
 exact jR Tryz.func16
abbrev eT:Seg Kn := .lit (.string ⟨#[]⟩)
abbrev noT:AV Kn := .fv (.ag [eT,eT,eT])
abbrev noV (z:Int):AV Kn := .tup [.ag [eT,eT,eT],.sc (lz z)]
theorem scaleR3 (h1:jF 106 [tx a,tx b] (tx x)) (h2:jF 106 [tx a,tx c] (tx y)) (h3:jF 106 [tx a,tx d] (tx u)):jF 104 [tx a,t3 b c d] (t3 x y u):=by
 refine jG Tryz.func104 fun w00=>?_
 refine jC 106 [tx a,tx b] (h1) ?_
 refine jC 106 [tx a,tx c] (h2) ?_
 refine jC 106 [tx a,tx d] (h3) ?_
 exact jR Tryz.func104
end
section
variable {f:FuncId} {w00:World} {Out:Value→World→Prop} {c:Cfg Kn}
theorem ke3 (x y:Operand) (a b d a' b' d' : ByteArray) (r:Bool) (h:(a.toList==a'.toList&&b.toList==b'.toList&&d.toList==d'.toList)=r) (hg:Ok Tryz.prog f w00 Out (cD Tryz.prog 1000 (c.give (bl r))))
 (hc:(c.op.map fun o=>o.op,c.okT (bl r),c.ev x,c.ev y)=(some (.binOp .eql 24 x y 24),true,.fv (.ag [bS a,bS b,bS d]),.fv (.ag [bS a',bS b',bS d'])):=by kernel_rfl):Ok Tryz.prog f w00 Out c :=
 qH (.binOp .eql 24 x y 24) x y _ _ (bl r) hc (by simp [Op.operands]) (by simp [Op.operands]) (fun ρ o β w ho hx hy=>⟨_,agg_eq (by kernel_rfl) (h▸equalT a b d a' b' d' w) ho (s3_is hx) (s3_is hy),bB rfl⟩) hg
end
theorem yH {z:Int} (hz:Bz z):jF 13 [noT,it z,it z,noT] (bl true):=by
 rcases hz with rfl|rfl|rfl|rfl|rfl
 all_goals
  refine jG Tryz.func13 fun w00=>?_
  exact jR Tryz.func13
theorem gK {a b c:Rat} (h:kF a b c):jF 44 [vS a b c] (it 0):=by
 have h1:=uF h.1
 have h2:=uF h.2.1
 have h3:=uF h.2.2
 have hr:jF 101 [.fv (.nsl 3 22 [bS (writeB a),bS (writeB b),bS (writeB c)])] (it 0):=by
  refine nL Tryz.func101 (by kernel_rfl) fun w00=>?_
  refine jC 151 [tx (writeB a)] (h1) ?_
  refine jC 151 [tx (writeB b)] (h2) ?_
  refine jC 151 [tx (writeB c)] (h3) ?_
  exact jR Tryz.func101
 refine jG Tryz.func44 fun w00=>?_
 refine jC 101 _ (hr) ?_
 exact jR Tryz.func44
theorem vZ {a b c:Rat} (h:kF a b c):jF 13 [vS a b c,it 0,it 0,vS a b c] (bl true):=by
 have hl:=gK h
 refine jG Tryz.func13 fun w00=>?_
 refine jC 44 _ (hl) ?_
 refine ke3 (.tmp 26) (.tmp 27) (writeB a) (writeB b) (writeB c) (writeB a) (writeB b) (writeB c) true (by simp) ?_
 exact jR Tryz.func13
section
variable {a b c x y u p q r:Rat} {s:ByteArray} {z:Int} {t:Bool}
theorem write_inj {p q:Rat} (hp:Wr p) (h:writeB p=writeB q) (hq:Wr q):p=q:=by
 have h1:=(fV p).1
 have h2:=(fV q).1
 have h3:=(fV p).2
 have h4:=(fV q).2
 rw [h] at h1 h3
 have hb:aZ p=aZ q:=h3.symm.trans h4
 obtain ⟨c1,c2,c3⟩:=sJ p
 obtain ⟨d1,d2,d3⟩:=sJ q
 rw [hb] at c1 c2 c3
 have hn:p.num.natAbs=q.num.natAbs:=mG (c1.symm.trans d1)
 have hd:p.den=q.den:=by
  by_cases e:p.den=1
  ·by_cases e' : q.den=1
   ·rw [e,e']
   ·exact absurd e (c3.1 (d3.2 e'))
  ·have e':=d3.1 (c3.2 e)
   exact mG ((c2 e).symm.trans (d2 e'))
 have hs:decide (p.num<0)=decide (q.num<0):=h1.symm.trans h2
 refine Rat.ext ?_ hd
 by_cases g:p.num<0
 ·have g' : q.num<0:=by rw [decide_eq_true g] at hs;exact of_decide_eq_true hs.symm
  omega
 ·have g' : ¬ q.num<0:=by rw [decide_eq_false g] at hs;exact of_decide_eq_false hs.symm
  omega
end
section
variable {a b d x y u c:ByteArray} {z y1 y2 y3:Int}
abbrev B14 (z:Int):Prop:=z=1∨z=4
theorem ev_b {z:Int} (h:Ev z) (h0:z≠0):B14 z:=by
 rcases h with h|h|h
 ·exact absurd h h0
 ·exact .inl h
 ·exact .inr h
end
theorem slwN {n:Nat} {s:ByteArray} (h:s.size≤n) (hn:1≤n) (hz:bT s=0):∃ q,s=writeB q∧Bq n q:=by
 obtain ⟨q,rfl,_,_⟩:=qQ hz
 rw [jH] at h
 have ht:(decB q.num.natAbs).size≤(aP q.num).size:=by
  unfold aP
  split
  ·rw [ByteArray.size_append];omega
  ·exact aR _
 refine ⟨q,rfl,bq_of ⟨by omega,?_⟩⟩
 by_cases hd:q.den=1
 ·rw [hd,dec1];exact hn
 ·rw [if_neg hd] at h;omega
theorem slwN3 {n:Nat} {a b c:ByteArray} (h1:a.size≤n) (h2:b.size≤n) (h3:c.size≤n) (hn:1≤n) (hz:c3 a b c=0):∃ p q r,a=writeB p∧b=writeB q∧c=writeB r∧Bq n p∧Bq n q∧Bq n r:=by
 obtain ⟨k1,k23⟩:=sS hz
 obtain ⟨k2,k3⟩:=sS k23
 obtain ⟨p,e1,q1⟩:=slwN h1 hn k1
 obtain ⟨q,e2,q2⟩:=slwN h2 hn k2
 obtain ⟨r,e3,q3⟩:=slwN h3 hn k3
 exact ⟨p,q,r,e1,e2,e3,q1,q2,q3⟩
abbrev Ss (s:ByteArray):Prop:=s.size≤30
abbrev Ss3 (a b c:ByteArray):Prop:=Ss a∧Ss b∧Ss c
section
variable {s a b c x y u:ByteArray}
theorem Ss.sl (h:Ss s):Sl s:=by have h:s.size≤30:=h;show s.size≤40;omega
theorem Ss3.sl (h:Ss3 a b c):Sl3 a b c:=⟨Ss.sl h.1,Ss.sl h.2.1,Ss.sl h.2.2⟩
theorem qV (h:Ss s):decide ((30:Int)<(s.size:Nat))=false:=by have h:s.size≤30:=h;rw [decide_eq_false_iff_not];omega
end
section
variable {o1 o2 o3 x1 x2 x3 y1 y2 y3 z1 z2 z3:ByteArray} {e1 e2 e3 e4 z:Int}
theorem checkFrameE (h1:jF 16 [t3 o1 o2 o3] (it e1)) (h2:jF 16 [t3 x1 x2 x3] (it e2)) (h3:jF 16 [t3 y1 y2 y3] (it e3)) (h4:jF 16 [t3 z1 z2 z3] (it e4))
 (v1:Ev e1) (v2:Ev e2) (v3:Ev e3) (v4:Ev e4) (hz:f2 (f2 (f2 e1 e2) e3) e4=z) (h0:z≠0):jF 7 [zB o1 o2 o3 x1 x2 x3 y1 y2 y3 z1 z2 z3] (it z):=by
 rcases v1 with rfl|rfl|rfl
 ·rcases v2 with rfl|rfl|rfl
  ·rcases v3 with rfl|rfl|rfl
   ·rcases v4 with rfl|rfl|rfl
    ·exact absurd hz.symm h0
    all_goals
     have hz:_=z:=hz
     subst hz
     refine kgoN 15 Tryz.func7 (by kernel_rfl) fun w00=>?_
     refine kown (by kernel_rfl) ?_
     refine jC 16 [t3 o1 o2 o3] (h1) ?_
     refine jC 16 [t3 x1 x2 x3] (h2) ?_
     refine jC 16 [t3 y1 y2 y3] (h3) ?_
     refine jC 16 [t3 z1 z2 z3] (h4) ?_
     exact jR Tryz.func7
   ·have hz:1=z:=by rw [← hz];rfl
    subst hz
    refine kgoN 15 Tryz.func7 (by kernel_rfl) fun w00=>?_
    refine kown (by kernel_rfl) ?_
    refine jC 16 [t3 o1 o2 o3] (h1) ?_
    refine jC 16 [t3 x1 x2 x3] (h2) ?_
    refine jC 16 [t3 y1 y2 y3] (h3) ?_
    exact jR Tryz.func7
   ·have hz:4=z:=by rw [← hz];rfl
    subst hz
    refine kgoN 15 Tryz.func7 (by kernel_rfl) fun w00=>?_
    refine kown (by kernel_rfl) ?_
    refine jC 16 [t3 o1 o2 o3] (h1) ?_
    refine jC 16 [t3 x1 x2 x3] (h2) ?_
    refine jC 16 [t3 y1 y2 y3] (h3) ?_
    exact jR Tryz.func7
  ·have hz:1=z:=by rw [← hz];rfl
   subst hz
   refine kgoN 15 Tryz.func7 (by kernel_rfl) fun w00=>?_
   refine kown (by kernel_rfl) ?_
   refine jC 16 [t3 o1 o2 o3] (h1) ?_
   refine jC 16 [t3 x1 x2 x3] (h2) ?_
   exact jR Tryz.func7
  ·have hz:4=z:=by rw [← hz];rfl
   subst hz
   refine kgoN 15 Tryz.func7 (by kernel_rfl) fun w00=>?_
   refine kown (by kernel_rfl) ?_
   refine jC 16 [t3 o1 o2 o3] (h1) ?_
   refine jC 16 [t3 x1 x2 x3] (h2) ?_
   exact jR Tryz.func7
 ·have hz:1=z:=by rw [← hz];rfl
  subst hz
  refine kgoN 15 Tryz.func7 (by kernel_rfl) fun w00=>?_
  refine kown (by kernel_rfl) ?_
  refine jC 16 [t3 o1 o2 o3] (h1) ?_
  exact jR Tryz.func7
 ·have hz:4=z:=by rw [← hz];rfl
  subst hz
  refine kgoN 15 Tryz.func7 (by kernel_rfl) fun w00=>?_
  refine kown (by kernel_rfl) ?_
  refine jC 16 [t3 o1 o2 o3] (h1) ?_
  exact jR Tryz.func7
end
section
variable {o1 o2 o3 x1 x2 x3 y1 y2 y3 z1 z2 z3 p1 p2 p3:Rat}
structure Qf (o1 o2 o3 x1 x2 x3 y1 y2 y3 z1 z2 z3:Rat):Prop where
 o1:Bq 30 o1
 o2:Bq 30 o2
 o3:Bq 30 o3
 x1:Bq 30 x1
 x2:Bq 30 x2
 x3:Bq 30 x3
 y1:Bq 30 y1
 y2:Bq 30 y2
 y3:Bq 30 y3
 z1:Bq 30 z1
 z2:Bq 30 z2
 z3:Bq 30 z3
structure Q3 (p1 p2 p3:Rat):Prop where
 a:Bq 30 p1
 b:Bq 30 p2
 c:Bq 30 p3
abbrev frA (o1 o2 o3 x1 x2 x3 y1 y2 y3 z1 z2 z3:Rat):AV Kn:=zB (writeB o1) (writeB o2) (writeB o3) (writeB x1) (writeB x2) (writeB x3) (writeB y1) (writeB y2) (writeB y3) (writeB z1) (writeB z2) (writeB z3)
theorem dtq {a b c x y z:Rat} (h:Q3 a b c) (k:Q3 x y z):Bq 182 (dt a b c x y z):=Bq.dt h.a h.b h.c k.a k.b k.c (by omega)
theorem Qf.x (h:Qf o1 o2 o3 x1 x2 x3 y1 y2 y3 z1 z2 z3):Q3 x1 x2 x3:=⟨h.x1,h.x2,h.x3⟩
theorem Qf.y (h:Qf o1 o2 o3 x1 x2 x3 y1 y2 y3 z1 z2 z3):Q3 y1 y2 y3:=⟨h.y1,h.y2,h.y3⟩
theorem Qf.z (h:Qf o1 o2 o3 x1 x2 x3 y1 y2 y3 z1 z2 z3):Q3 z1 z2 z3:=⟨h.z1,h.z2,h.z3⟩
theorem Qf.o (h:Qf o1 o2 o3 x1 x2 x3 y1 y2 y3 z1 z2 z3):Q3 o1 o2 o3:=⟨h.o1,h.o2,h.o3⟩
theorem oS (h:Qf o1 o2 o3 x1 x2 x3 y1 y2 y3 z1 z2 z3):jF 15 [frA o1 o2 o3 x1 x2 x3 y1 y2 y3 z1 z2 z3] (vS (dt x1 x2 x3 x1 x2 x3) (dt y1 y2 y3 y1 y2 y3) (dt z1 z2 z3 z1 z2 z3)) :=
 stretchR (squareV h.x1 h.x2 h.x3 (by omega)) (squareV h.y1 h.y2 h.y3 (by omega)) (squareV h.z1 h.z2 h.z3 (by omega))
theorem scaleV2 {j l:Nat} {c x y z:Rat} (hc:Bq j c) (hx:Bq l x) (hy:Bq l y) (hz:Bq l z) (hj:j≤10000) (hl:l≤10000):jF 104 [tx (writeB c),vS x y z] (vS (c*x) (c*y) (c*z)) :=
 scaleR3 (nE (kP (hc.zs hj) (hx.zs hl))) (nE (kP (hc.zs hj) (hy.zs hl))) (nE (kP (hc.zs hj) (hz.zs hl)))
theorem addV2 {j l:Nat} {a b c x y z:Rat} (h1:Bq j a) (h2:Bq j b) (h3:Bq j c) (k1:Bq l x) (k2:Bq l y) (k3:Bq l z) (hj:j≤10000) (hl:l≤10000):jF 48 [vS a b c,vS x y z] (vS (a+x) (b+y) (c+z)) :=
 addVecR (nE (pE (h1.zs hj) (k1.zs hl))) (nE (pE (h2.zs hj) (k2.zs hl))) (nE (pE (h3.zs hj) (k3.zs hl)))
theorem refDirectF (h:Qf o1 o2 o3 x1 x2 x3 y1 y2 y3 z1 z2 z3) (k:Q3 p1 p2 p3):jF 49 [frA o1 o2 o3 x1 x2 x3 y1 y2 y3 z1 z2 z3,vS p1 p2 p3] (vS (ld p1 p2 p3 x1 y1 z1) (ld p1 p2 p3 x2 y2 z2) (ld p1 p2 p3 x3 y3 z3)):=by
 have k1:=scaleV2 k.a h.x1 h.x2 h.x3 (by omega) (by omega)
 have k2:=scaleV2 k.b h.y1 h.y2 h.y3 (by omega) (by omega)
 have k3:=addV2 (k.a.mul h.x1) (k.a.mul h.x2) (k.a.mul h.x3) (k.b.mul h.y1) (k.b.mul h.y2) (k.b.mul h.y3) (by omega) (by omega)
 have k4:=scaleV2 k.c h.z1 h.z2 h.z3 (by omega) (by omega)
 have k5:=addV2 ((k.a.mul h.x1).add (k.b.mul h.y1)) ((k.a.mul h.x2).add (k.b.mul h.y2)) ((k.a.mul h.x3).add (k.b.mul h.y3)) (k.c.mul h.z1) (k.c.mul h.z2) (k.c.mul h.z3) (by omega) (by omega)
 refine jG Tryz.func49 fun w00=>?_
 refine jC 104 _ (k1) ?_
 refine jC 104 _ (k2) ?_
 refine jC 48 _ (k3) ?_
 refine jC 104 _ (k4) ?_
 refine jC 48 _ (k5) ?_
 exact jR Tryz.func49
theorem ldq {x y z:Rat} (k:Q3 p1 p2 p3) (h:Q3 x y z):Bq 182 (ld p1 p2 p3 x y z):=(((k.a.mul h.a).add (k.b.mul h.b)).add (k.c.mul h.c)).mono (by omega)
theorem refPlaceF (h:Qf o1 o2 o3 x1 x2 x3 y1 y2 y3 z1 z2 z3) (k:Q3 p1 p2 p3):jF 17 [frA o1 o2 o3 x1 x2 x3 y1 y2 y3 z1 z2 z3,vS p1 p2 p3] (vS (o1+ld p1 p2 p3 x1 y1 z1) (o2+ld p1 p2 p3 x2 y2 z2) (o3+ld p1 p2 p3 x3 y3 z3)):=by
 have k1:=refDirectF h k
 have k2:=addV2 h.o1 h.o2 h.o3 (ldq k ⟨h.x1,h.y1,h.z1⟩) (ldq k ⟨h.x2,h.y2,h.z2⟩) (ldq k ⟨h.x3,h.y3,h.z3⟩) (by omega) (by omega)
 refine jG Tryz.func17 fun w00=>?_
 refine jC 49 _ (k1) ?_
 refine jC 48 _ (k2) ?_
 exact jR Tryz.func17
theorem refLocalF (h:Qf o1 o2 o3 x1 x2 x3 y1 y2 y3 z1 z2 z3) (k:Q3 p1 p2 p3) (h0:Sq0 x1 x2 x3 y1 y2 y3 z1 z2 z3):jF 18 [frA o1 o2 o3 x1 x2 x3 y1 y2 y3 z1 z2 z3,vS p1 p2 p3] (vS (dt (p1-o1) (p2-o2) (p3-o3) x1 x2 x3/dt x1 x2 x3 x1 x2 x3) (dt (p1-o1) (p2-o2) (p3-o3) y1 y2 y3/dt y1 y2 y3 y1 y2 y3) (dt (p1-o1) (p2-o2) (p3-o3) z1 z2 z3/dt z1 z2 z3 z1 z2 z3)):=by
 have d1:Bq 61 (p1-o1):=k.a.sub h.o1
 have d2:Bq 61 (p2-o2):=k.b.sub h.o2
 have d3:Bq 61 (p3-o3):=k.c.sub h.o3
 have k1:=subV k.a k.b k.c h.o1 h.o2 h.o3 (by omega) (by omega)
 have k2:=oS h
 have q1:∀ {x y z:Rat},Q3 x y z→Bq 275 (dt (p1-o1) (p2-o2) (p3-o3) x y z):=fun g=>Bq.dt d1 d2 d3 g.a g.b g.c (by omega)
 have kx:=dotV d1 d2 d3 h.x1 h.x2 h.x3 (by omega)
 have ky:=dotV d1 d2 d3 h.y1 h.y2 h.y3 (by omega)
 have kz:=dotV d1 d2 d3 h.z1 h.z2 h.z3 (by omega)
 have rx:=nE (refDivF ((q1 h.x).zs (by omega)) ((dtq h.x h.x).zs (by omega)) h0.x)
 have ry:=nE (refDivF ((q1 h.y).zs (by omega)) ((dtq h.y h.y).zs (by omega)) h0.y)
 have rz:=nE (refDivF ((q1 h.z).zs (by omega)) ((dtq h.z h.z).zs (by omega)) h0.z)
 refine jG Tryz.func18 fun w00=>?_
 refine jC 50 _ (k1) ?_
 refine jC 15 _ (k2) ?_
 refine jC 52 _ (kx) ?_
 refine jC 51 _ (rx) ?_
 refine jC 52 _ (ky) ?_
 refine jC 51 _ (ry) ?_
 refine jC 52 _ (kz) ?_
 refine jC 51 _ (rz) ?_
 exact jR Tryz.func18
theorem refShiftF (h:Qf o1 o2 o3 x1 x2 x3 y1 y2 y3 z1 z2 z3) (k:Q3 p1 p2 p3):jF 19 [frA o1 o2 o3 x1 x2 x3 y1 y2 y3 z1 z2 z3,vS p1 p2 p3] (frA (o1+p1) (o2+p2) (o3+p3) x1 x2 x3 y1 y2 y3 z1 z2 z3):=by
 have k1:=addV2 h.o1 h.o2 h.o3 k.a k.b k.c (by omega) (by omega)
 refine jG Tryz.func19 fun w00=>?_
 refine jC 48 _ (k1) ?_
 exact jR Tryz.func19
theorem yI (h:Wf o1 o2 o3 x1 x2 x3 y1 y2 y3 z1 z2 z3):jF 45 [frA o1 o2 o3 x1 x2 x3 y1 y2 y3 z1 z2 z3] (it 0):=by
 have k1:=gK h.o
 have k2:=gK h.x
 have k3:=gK h.y
 have k4:=gK h.z
 refine jG Tryz.func45 fun w00=>?_
 refine jC 44 _ (k1) ?_
 refine jC 44 _ (k2) ?_
 refine jC 44 _ (k3) ?_
 refine jC 44 _ (k4) ?_
 exact jR Tryz.func45
theorem det_ne (hx:¬ (x1=0∧x2=0∧x3=0)) (hy:¬ (y1=0∧y2=0∧y3=0)) (hz:¬ (z1=0∧z2=0∧z3=0)) (hxy:dt x1 x2 x3 y1 y2 y3=0) (hyz:dt y1 y2 y3 z1 z2 z3=0) (hzx:dt z1 z2 z3 x1 x2 x3=0):detR3 x1 x2 x3 y1 y2 y3 z1 z2 z3≠0:=by
 intro h
 have sx:dt x1 x2 x3 x1 x2 x3≠0:=fun e=>hx (uC e)
 have sy:dt y1 y2 y3 y1 y2 y3≠0:=fun e=>hy (uC e)
 have sz:dt z1 z2 z3 z1 z2 z3≠0:=fun e=>hz (uC e)
 have k1:x2*(y1*z2-y2*z1)-x3*(y3*z1-y1*z3)=0:=by grind
 have k2:x3*(y2*z3-y3*z2)-x1*(y1*z2-y2*z1)=0:=by grind
 have k3:x1*(y3*z1-y1*z3)-x2*(y2*z3-y3*z2)=0:=by grind
 have kc:dt (y2*z3-y3*z2) (y3*z1-y1*z3) (y1*z2-y2*z1) (y2*z3-y3*z2) (y3*z1-y1*z3) (y1*z2-y2*z1)=dt y1 y2 y3 y1 y2 y3*dt z1 z2 z3 z1 z2 z3-dt y1 y2 y3 z1 z2 z3*dt y1 y2 y3 z1 z2 z3:=by grind
 have h:dt x1 x2 x3 (y2*z3-y3*z2) (y3*z1-y1*z3) (y1*z2-y2*z1)=0:=h
 generalize y2*z3-y3*z2=c1 at *
 generalize y3*z1-y1*z3=c2 at *
 generalize y1*z2-y2*z1=c3 at *
 have kd:dt x1 x2 x3 x1 x2 x3*dt c1 c2 c3 c1 c2 c3=dt x1 x2 x3 c1 c2 c3*dt x1 x2 x3 c1 c2 c3+(x2*c3-x3*c2)*(x2*c3-x3*c2)+(x3*c1-x1*c3)*(x3*c1-x1*c3)+(x1*c2-x2*c1)*(x1*c2-x2*c1):=by grind
 rw [h,k1,k2,k3,kc,hyz] at kd
 generalize dt x1 x2 x3 x1 x2 x3=a at *
 generalize dt y1 y2 y3 y1 y2 y3=b at *
 generalize dt z1 z2 z3 z1 z2 z3=c at *
 have k5:a*(b*c)=0:=by grind
 rcases Rat.mul_eq_zero.1 k5 with e|e
 ·exact sx e
 ·rcases Rat.mul_eq_zero.1 e with e|e
  ·exact sy e
  ·exact sz e
theorem sW {a b c:Rat} (h:ax0 a b c=false):¬ (a=0∧b=0∧c=0):=fun ⟨e1,e2,e3⟩=>by
 have k:ax0 a b c=true:=by simp [ax0,e1,e2,e3]
 rw [h] at k
 cases k
theorem dec3 {p q r:Prop} [Decidable p] [Decidable q] [Decidable r]:(decide p&&decide q&&decide r)=true↔p∧q∧r:=by simp [and_assoc]
theorem kE (h:Qf o1 o2 o3 x1 x2 x3 y1 y2 y3 z1 z2 z3):jF 7 [frA o1 o2 o3 x1 x2 x3 y1 y2 y3 z1 z2 z3] (it (ckF x1 x2 x3 y1 y2 y3 z1 z2 z3)):=by
 have cv:∀ {a b c:Rat},Q3 a b c→jF 16 [t3 (writeB a) (writeB b) (writeB c)] (it 0):=fun h=>checkVec3 (chkB h.a (by omega)) (chkB h.b (by omega)) (chkB h.c (by omega))
 have hc:=crossV h.y1 h.y2 h.y3 h.z1 h.z2 h.z3 (by omega)
 have c1:Bq 121 (y2*z3-y3*z2):=(h.y2.mul h.z3).sub (h.y3.mul h.z2)
 have c2:Bq 121 (y3*z1-y1*z3):=(h.y3.mul h.z1).sub (h.y1.mul h.z3)
 have c3:Bq 121 (y1*z2-y2*z1):=(h.y1.mul h.z2).sub (h.y2.mul h.z1)
 have hd:=detR hc (dotV h.x1 h.x2 h.x3 c1 c2 c3 (by omega))
 have hS:=shapeZ (o1:=writeB o1) (o2:=writeB o2) (o3:=writeB o3) (dotV h.x1 h.x2 h.x3 h.y1 h.y2 h.y3 (by omega)) (isZeroQ _) (dotV h.y1 h.y2 h.y3 h.z1 h.z2 h.z3 (by omega)) (isZeroQ _) (dotV h.z1 h.z2 h.z3 h.x1 h.x2 h.x3 (by omega)) (isZeroQ _) hd (signQ _) (sV _) rfl
 refine checkFrameZ (cv h.o) (cv h.x) (cv h.y) (cv h.z) (uD _ _ _) (uD _ _ _) (uD _ _ _) hS ?_
 unfold ckF
 by_cases h0:(ax0 x1 x2 x3 || ax0 y1 y2 y3 || ax0 z1 z2 z3)=true
 ·rw [if_pos h0,if_pos h0]
 ·rw [if_neg h0,if_neg h0]
  have h0:(ax0 x1 x2 x3 || ax0 y1 y2 y3 || ax0 z1 z2 z3)=false:=by simpa using h0
  obtain ⟨h01,n3⟩:=Bool.or_eq_false_iff.1 h0
  obtain ⟨n1,n2⟩:=Bool.or_eq_false_iff.1 h01
  by_cases h1:orB x1 x2 x3 y1 y2 y3 z1 z2 z3=true
  ·have e1:=h1
   rw [dec3] at e1
   have hne:=det_ne (sW n1) (sW n2) (sW n3) e1.1 e1.2.1 e1.2.2
   have hs0:nK (detR3 x1 x2 x3 y1 y2 y3 z1 z2 z3)≠0:=by
    unfold nK bN
    have:=sU hne
    split
    ·decide
    ·split
     ·decide
     ·omega
   have h1' : (decide (dt x1 x2 x3 y1 y2 y3=0)&&decide (dt y1 y2 y3 z1 z2 z3=0)&&decide (dt z1 z2 z3 x1 x2 x3=0))=true:=h1
   rw [h1']
   rcases sV (detR3 x1 x2 x3 y1 y2 y3 z1 z2 z3) with e|e|e
   ·have e' : nK (dt x1 x2 x3 (y2*z3-y3*z2) (y3*z1-y1*z3) (y1*z2-y2*z1))=1:=e
    rw [e',if_pos ⟨h1,by decide⟩]
    rfl
   ·exact absurd e hs0
   ·have e' : nK (dt x1 x2 x3 (y2*z3-y3*z2) (y3*z1-y1*z3) (y1*z2-y2*z1)) = -1:=e
    rw [e',if_neg (fun k=>k.2 (by decide))]
    rfl
  ·have h1' : (decide (dt x1 x2 x3 y1 y2 y3=0)&&decide (dt y1 y2 y3 z1 z2 z3=0)&&decide (dt z1 z2 z3 x1 x2 x3=0))=false:=by simpa using h1
   rw [if_neg (fun k=>h1 k.1),h1']
   rfl
theorem ax_of (h:ckF x1 x2 x3 y1 y2 y3 z1 z2 z3=0):Ax x1 x2 x3 y1 y2 y3 z1 z2 z3:=by
 unfold ckF at h
 split at h
 ·exact absurd h (by decide)
 rename_i h0
 split at h
 ·rename_i h1
  have h0:(ax0 x1 x2 x3 || ax0 y1 y2 y3 || ax0 z1 z2 z3)=false:=by simpa using h0
  obtain ⟨h01,n3⟩:=Bool.or_eq_false_iff.1 h0
  obtain ⟨n1,n2⟩:=Bool.or_eq_false_iff.1 h01
  have e1:=h1.1
  rw [dec3] at e1
  have hne:=det_ne (sW n1) (sW n2) (sW n3) e1.1 e1.2.1 e1.2.2
  refine ⟨n1,n2,n3,e1.1,e1.2.1,e1.2.2,?_⟩
  rcases sV (detR3 x1 x2 x3 y1 y2 y3 z1 z2 z3) with e|e|e
  ·exact e
  ·exfalso
   have:=sU hne
   unfold nK bN at e
   split at e
   ·exact absurd e (by decide)
   ·split at e
    ·exact absurd e (by decide)
    ·omega
  ·exact absurd (by rw [e];decide) h1.2
 ·exact absurd h (by decide)
theorem sq0_of (h:Ax x1 x2 x3 y1 y2 y3 z1 z2 z3):Sq0 x1 x2 x3 y1 y2 y3 z1 z2 z3 :=
 ⟨fun e=>sW h.x0 (uC e),fun e=>sW h.y0 (uC e),fun e=>sW h.z0 (uC e)⟩
end
set_option maxRecDepth 100000 in
theorem wB {a b c:ByteArray} {n:Int} {T:TypeId} {r:Bool} (h:(lo n a || lo n b || lo n c)=r):jF 6 [it n,.fv (.nsl 1 T [bS a,bS b,bS c])] (bl (!r)):=by
 obtain ⟨r0,e0⟩:∃ r,lo n a=r:=⟨_,rfl⟩
 obtain ⟨r1,e1⟩:∃ r,lo n b=r:=⟨_,rfl⟩
 obtain ⟨r2,e2⟩:∃ r,lo n c=r:=⟨_,rfl⟩
 rw [e0,e1,e2] at h
 subst h
 refine kgoAS Tryz.func6 (by kernel_rfl) fun w00=>?_
 refine jP 16 22 Tryz.underlying22 a ?_
 refine kgg (.tmp 17) (.tmp 18) a.size n r0 _ cU e0 ?_
 cases r0
 case true=>exact jR Tryz.func6
 refine jP 25 22 Tryz.underlying22 b ?_
 refine kgg (.tmp 26) (.tmp 27) b.size n r1 _ cU e1 ?_
 cases r1
 case true=>exact jR Tryz.func6
 refine jP 35 22 Tryz.underlying22 c ?_
 refine kgg (.tmp 36) (.tmp 37) c.size n r2 _ cU e2 ?_
 cases r2
 case true=>exact jR Tryz.func6
 exact jR Tryz.func6
set_option maxRecDepth 100000 in
theorem shortF4 {o1 o2 o3 x1 x2 x3 y1 y2 y3 z1 z2 z3:ByteArray} {n:Int} {T:TypeId} {r:Bool} (h:(lo n o1 || lo n o2 || lo n o3 || lo n x1 || lo n x2 || lo n x3 || lo n y1 || lo n y2 || lo n y3 || lo n z1 || lo n z2 || lo n z3)=r):jF 6 [it n,.fv (.nsl 4 T [bS o1,bS o2,bS o3,bS x1,bS x2,bS x3,bS y1,bS y2,bS y3,bS z1,bS z2,bS z3])] (bl (!r)):=by
 obtain ⟨r0,e0⟩:∃ r,lo n o1=r:=⟨_,rfl⟩
 obtain ⟨r1,e1⟩:∃ r,lo n o2=r:=⟨_,rfl⟩
 obtain ⟨r2,e2⟩:∃ r,lo n o3=r:=⟨_,rfl⟩
 obtain ⟨r3,e3⟩:∃ r,lo n x1=r:=⟨_,rfl⟩
 obtain ⟨r4,e4⟩:∃ r,lo n x2=r:=⟨_,rfl⟩
 obtain ⟨r5,e5⟩:∃ r,lo n x3=r:=⟨_,rfl⟩
 obtain ⟨r6,e6⟩:∃ r,lo n y1=r:=⟨_,rfl⟩
 obtain ⟨r7,e7⟩:∃ r,lo n y2=r:=⟨_,rfl⟩
 obtain ⟨r8,e8⟩:∃ r,lo n y3=r:=⟨_,rfl⟩
 obtain ⟨r9,e9⟩:∃ r,lo n z1=r:=⟨_,rfl⟩
 obtain ⟨r10,e10⟩:∃ r,lo n z2=r:=⟨_,rfl⟩
 obtain ⟨r11,e11⟩:∃ r,lo n z3=r:=⟨_,rfl⟩
 rw [e0,e1,e2,e3,e4,e5,e6,e7,e8,e9,e10,e11] at h
 subst h
 refine kgoAS Tryz.func6 (by kernel_rfl) fun w00=>?_
 refine jP 16 22 Tryz.underlying22 o1 ?_
 refine kgg (.tmp 17) (.tmp 18) o1.size n r0 _ cU e0 ?_
 cases r0
 case true=>exact jR Tryz.func6
 refine jP 25 22 Tryz.underlying22 o2 ?_
 refine kgg (.tmp 26) (.tmp 27) o2.size n r1 _ cU e1 ?_
 cases r1
 case true=>exact jR Tryz.func6
 refine jP 35 22 Tryz.underlying22 o3 ?_
 refine kgg (.tmp 36) (.tmp 37) o3.size n r2 _ cU e2 ?_
 cases r2
 case true=>exact jR Tryz.func6
 refine jP 16 22 Tryz.underlying22 x1 ?_
 refine kgg (.tmp 17) (.tmp 18) x1.size n r3 _ cU e3 ?_
 cases r3
 case true=>exact jR Tryz.func6
 refine jP 25 22 Tryz.underlying22 x2 ?_
 refine kgg (.tmp 26) (.tmp 27) x2.size n r4 _ cU e4 ?_
 cases r4
 case true=>exact jR Tryz.func6
 refine jP 35 22 Tryz.underlying22 x3 ?_
 refine kgg (.tmp 36) (.tmp 37) x3.size n r5 _ cU e5 ?_
 cases r5
 case true=>exact jR Tryz.func6
 refine jP 16 22 Tryz.underlying22 y1 ?_
 refine kgg (.tmp 17) (.tmp 18) y1.size n r6 _ cU e6 ?_
 cases r6
 case true=>exact jR Tryz.func6
 refine jP 25 22 Tryz.underlying22 y2 ?_
 refine kgg (.tmp 26) (.tmp 27) y2.size n r7 _ cU e7 ?_
 cases r7
 case true=>exact jR Tryz.func6
 refine jP 35 22 Tryz.underlying22 y3 ?_
 refine kgg (.tmp 36) (.tmp 37) y3.size n r8 _ cU e8 ?_
 cases r8
 case true=>exact jR Tryz.func6
 refine jP 16 22 Tryz.underlying22 z1 ?_
 refine kgg (.tmp 17) (.tmp 18) z1.size n r9 _ cU e9 ?_
 cases r9
 case true=>exact jR Tryz.func6
 refine jP 25 22 Tryz.underlying22 z2 ?_
 refine kgg (.tmp 26) (.tmp 27) z2.size n r10 _ cU e10 ?_
 cases r10
 case true=>exact jR Tryz.func6
 refine jP 35 22 Tryz.underlying22 z3 ?_
 refine kgg (.tmp 36) (.tmp 37) z3.size n r11 _ cU e11 ?_
 cases r11
 case true=>exact jR Tryz.func6
 exact jR Tryz.func6
abbrev F12.lo (f:F12) (n:Int):Bool:=(Ab.lo n f.o1 || Ab.lo n f.o2 || Ab.lo n f.o3 || Ab.lo n f.x1 || Ab.lo n f.x2 || Ab.lo n f.x3 || Ab.lo n f.y1 || Ab.lo n f.y2 || Ab.lo n f.y3 || Ab.lo n f.z1 || Ab.lo n f.z2 || Ab.lo n f.z3)
theorem yJ {f:F12} {n:Int} {r:Bool} (h:f.lo n=r):jF 5 [it n,f.av] (bl (!r)):=by
 have hs:=shortF4 (T:=24) h
 refine jG Tryz.func5 fun w00=>?_
 refine jC 6 _ (hs) ?_
 exact jR Tryz.func5
theorem point15:jF 13 [noT,it 15,it 15,noT] (bl true):=by
 refine jG Tryz.func13 fun w00=>?_
 exact jR Tryz.func13
abbrev Bf (z:Int):Prop:=z=1∨z=4∨z=6∨z=15
abbrev noR:AV Kn := .fv (.ag [eT,eT,eT,eT,eT,eT,eT,eT,eT,eT,eT,eT])
abbrev noRV (z:Int):AV Kn := .tup [.ag [eT,eT,eT,eT,eT,eT,eT,eT,eT,eT,eT,eT],.sc (lz z)]
theorem pointBf {z:Int} (h:Bf z):jF 13 [noT,it z,it z,noT] (bl true):=by
 rcases h with rfl|rfl|rfl|rfl
 ·exact yH (by decide)
 ·exact yH (by decide)
 ·exact yH (by decide)
 ·exact point15
theorem axesBad {z:Int} (h:Bf z):jF 14 [noR,it z,it z,noR] (bl true):=by
 rcases h with rfl|rfl|rfl|rfl
 all_goals
  refine jG Tryz.func14 fun w00=>?_
  exact jR Tryz.func14
section
variable {f:FuncId} {w00:World} {Out:Value→World→Prop} {c:Cfg Kn}
theorem kfe (x y:Operand) (a0 a1 a2 a3 a4 a5 a6 a7 a8 a9 b0 b1:ByteArray) (hg:Ok Tryz.prog f w00 Out (cD Tryz.prog 1000 (c.give (bl true))))
 (hc:(c.op.map fun o=>o.op,c.okT (bl true),c.ev x,c.ev y)=(some (.binOp .eql 26 x y 26),true,zB a0 a1 a2 a3 a4 a5 a6 a7 a8 a9 b0 b1,zB a0 a1 a2 a3 a4 a5 a6 a7 a8 a9 b0 b1):=by kernel_rfl):Ok Tryz.prog f w00 Out c :=
 qH (.binOp .eql 26 x y 26) x y _ _ (bl true) hc (by simp [Op.operands]) (by simp [Op.operands]) (fun ρ o β w ho hx hy=>⟨_,agg_eq (by kernel_rfl) (equalFr a0 a1 a2 a3 a4 a5 a6 a7 a8 a9 b0 b1 w) ho (fr_is hx) (fr_is hy),bB rfl⟩) hg
end
theorem axesOk {o1 o2 o3 x1 x2 x3 y1 y2 y3 z1 z2 z3:Rat} (h:Wf o1 o2 o3 x1 x2 x3 y1 y2 y3 z1 z2 z3):jF 14 [frA o1 o2 o3 x1 x2 x3 y1 y2 y3 z1 z2 z3,it 0,it 0,frA o1 o2 o3 x1 x2 x3 y1 y2 y3 z1 z2 z3] (bl true):=by
 have hl:=yI h
 refine jG Tryz.func14 fun w00=>?_
 refine jC 45 _ (hl) ?_
 refine kfe (.tmp 26) (.tmp 27) (writeB o1) (writeB o2) (writeB o3) (writeB x1) (writeB x2) (writeB x3) (writeB y1) (writeB y2) (writeB y3) (writeB z1) (writeB z2) (writeB z3) ?_
 exact jR Tryz.func14
theorem first2Fr {T:TypeId} {x y:Int} (hx:Bf x):jF 69 [.fv (.nsl 2 T [lz x,lz y])] (it x):=by
 rcases hx with rfl|rfl|rfl|rfl
 all_goals
  refine nL Tryz.func69 (by kernel_rfl) fun w00=>?_
  exact jR Tryz.func69
section
variable {f:F12} {z y:Int} {a b c:ByteArray}
theorem readFVE (h:f.Rb) (k:Rb3 a b c) (hz:f.ck=z) (h0:Bf z):jX 36 [gL 35,f.av,gL 37,t3 a b c] (.tup [.ag [.sp csF],.ag [nb (cL a),nb (cL b),nb (cL c)],.sc (lz z)]):=by
 refine jY Tryz.func36 fun w00 hI=>?_
 refine jW hI 35 _ (lB f h hz (by rcases h0 with rfl|rfl|rfl|rfl <;> decide)) ?_
 refine jW hI 37 _ (oP k rfl) ?_
 refine jC 69 [.fv (.nsl 2 31 [lz z,lz (c3 a b c)])] (first2Fr h0) ?_
 exact jR Tryz.func36
theorem apiPlaceErrF (h:f.Rb) (k:Rb3 a b c) (hz:f.ck=z) (h0:Bf z):jX 9 [f.av,t3 a b c] (noV z):=by
 have hr:=readFVE h k hz h0
 rcases h0 with rfl|rfl|rfl|rfl
 all_goals
  refine jY Tryz.func9 fun w00 hI=>?_
  refine jW hI 36 _ (hr) ?_
  exact jR Tryz.func9
theorem apiLocalErrF (h:f.Rb) (k:Rb3 a b c) (hz:f.ck=z) (h0:Bf z):jX 10 [f.av,t3 a b c] (noV z):=by
 have hr:=readFVE h k hz h0
 rcases h0 with rfl|rfl|rfl|rfl
 all_goals
  refine jY Tryz.func10 fun w00 hI=>?_
  refine jW hI 36 _ (hr) ?_
  exact jR Tryz.func10
theorem apiShiftErrF (h:f.Rb) (k:Rb3 a b c) (hz:f.ck=z) (h0:Bf z):jX 11 [f.av,t3 a b c] (noRV z):=by
 have hr:=readFVE h k hz h0
 rcases h0 with rfl|rfl|rfl|rfl
 all_goals
  refine jY Tryz.func11 fun w00 hI=>?_
  refine jW hI 36 _ (hr) ?_
  exact jR Tryz.func11
theorem yK (h:f.Rb) (hz:f.ck=z) (h0:Bf z):jX 12 [f.av] (noV z):=by
 have hr:=lB f h hz (by rcases h0 with rfl|rfl|rfl|rfl <;> decide)
 rcases h0 with rfl|rfl|rfl|rfl
 all_goals
  refine jY Tryz.func12 fun w00 hI=>?_
  refine jW hI 35 _ (hr) ?_
  exact jR Tryz.func12
theorem sX (h:f.Rb) (hz:f.ck=z) (h0:Bf z):jX 8 [f.av] (it z):=by
 have hr:=lB f h hz (by rcases h0 with rfl|rfl|rfl|rfl <;> decide)
 refine jY Tryz.func8 fun w00 hI=>?_
 refine jW hI 35 _ (hr) ?_
 exact jR Tryz.func8
end
section
variable {o1 o2 o3 x1 x2 x3 y1 y2 y3 z1 z2 z3:Rat} {a b c:ByteArray} {z:Int}
theorem readFVP (h:Fv o1 o2 o3 x1 x2 x3 y1 y2 y3 z1 z2 z3) (k:Rb3 a b c) (hz:c3 a b c=z):jX 36 [gL 35,gR o1 o2 o3 x1 x2 x3 y1 y2 y3 z1 z2 z3,gL 37,t3 a b c] (.tup [.ag [nb o1,nb o2,nb o3,nb x1,nb x2,nb x3,nb y1,nb y2,nb y3,nb z1,nb z2,nb z3],.ag [nb (cL a),nb (cL b),nb (cL c)],.sc (lz z)]):=by
 refine jY Tryz.func36 fun w00 hI=>?_
 refine jW hI 35 _ (h.r) ?_
 refine jW hI 37 _ (oP k rfl) ?_
 refine jC 69 [.fv (.nsl 2 31 [z0,lz (c3 a b c)])] (first2Any (x:=0) (.inl rfl) (kS _ _ _) ((f2_r rfl).trans hz)) ?_
 exact jR Tryz.func36
theorem apiPlaceErrP (h:Fv o1 o2 o3 x1 x2 x3 y1 y2 y3 z1 z2 z3) (k:Rb3 a b c) (hz:c3 a b c=z) (h0:B14 z):jX 9 [gR o1 o2 o3 x1 x2 x3 y1 y2 y3 z1 z2 z3,t3 a b c] (noV z):=by
 have hr:=readFVP h k hz
 rcases h0 with rfl|rfl
 all_goals
  refine jY Tryz.func9 fun w00 hI=>?_
  refine jW hI 36 _ (hr) ?_
  exact jR Tryz.func9
theorem apiLocalErrP (h:Fv o1 o2 o3 x1 x2 x3 y1 y2 y3 z1 z2 z3) (k:Rb3 a b c) (hz:c3 a b c=z) (h0:B14 z):jX 10 [gR o1 o2 o3 x1 x2 x3 y1 y2 y3 z1 z2 z3,t3 a b c] (noV z):=by
 have hr:=readFVP h k hz
 rcases h0 with rfl|rfl
 all_goals
  refine jY Tryz.func10 fun w00 hI=>?_
  refine jW hI 36 _ (hr) ?_
  exact jR Tryz.func10
theorem apiShiftErrP (h:Fv o1 o2 o3 x1 x2 x3 y1 y2 y3 z1 z2 z3) (k:Rb3 a b c) (hz:c3 a b c=z) (h0:B14 z):jX 11 [gR o1 o2 o3 x1 x2 x3 y1 y2 y3 z1 z2 z3,t3 a b c] (noRV z):=by
 have hr:=readFVP h k hz
 rcases h0 with rfl|rfl
 all_goals
  refine jY Tryz.func11 fun w00 hI=>?_
  refine jW hI 36 _ (hr) ?_
  exact jR Tryz.func11
theorem oT (h:Fv o1 o2 o3 x1 x2 x3 y1 y2 y3 z1 z2 z3):jX 8 [gR o1 o2 o3 x1 x2 x3 y1 y2 y3 z1 z2 z3] (it 0):=by
 refine jY Tryz.func8 fun w00 hI=>?_
 refine jW hI 35 _ (h.r) ?_
 exact jR Tryz.func8
end
structure F12.Ss (f:F12):Prop where
 o:Ss3 f.o1 f.o2 f.o3
 x:Ss3 f.x1 f.x2 f.x3
 y:Ss3 f.y1 f.y2 f.y3
 z:Ss3 f.z1 f.z2 f.z3
theorem F12.Ss.rb {f:F12} (h:f.Ss):f.Rb:=⟨h.o.sl.rb,h.x.sl.rb,h.y.sl.rb,h.z.sl.rb⟩
section
variable {f:F12} {z:Int} {a b c:ByteArray}
theorem lo_no (h:f.Ss):f.lo 30=false:=by
 simp only [F12.lo,Ab.lo]
 rw [qV h.o.1,qV h.o.2.1,qV h.o.2.2,qV h.x.1,qV h.x.2.1,qV h.x.2.2,qV h.y.1,qV h.y.2.1,qV h.y.2.2,qV h.z.1,qV h.z.2.1,qV h.z.2.2]
 rfl
theorem lo3_no (h:Ss3 a b c):(lo 30 a || lo 30 b || lo 30 c)=false:=by
 simp only [lo]
 rw [qV h.1,qV h.2.1,qV h.2.2]
 rfl
theorem frames_long1 (h:f.lo 30=true):jX 3 [f.av,t3 a b c] (bl true):=by
 have hs:=yJ h
 refine jY Tryz.func3 fun w00 hI=>?_
 refine jW hI 4 [] (qU) ?_
 refine jC 5 _ (hs) ?_
 refine jW hI 4 [] (qU) ?_
 exact jR Tryz.func3
theorem frames_long2 (h:f.lo 30=false) (k:(lo 30 a || lo 30 b || lo 30 c)=true):jX 3 [f.av,t3 a b c] (bl true):=by
 have hs:=yJ h
 have ht:=wB (T:=24) k
 refine jY Tryz.func3 fun w00 hI=>?_
 refine jW hI 4 [] (qU) ?_
 refine jC 5 _ (hs) ?_
 refine jC 6 _ (ht) ?_
 refine jW hI 4 [] (qU) ?_
 exact jR Tryz.func3
set_option maxRecDepth 100000 in
theorem vC (h:f.Ss) (k:Ss3 a b c) (hz:f.ck=z) (h0:Bf z) (kC:jF 7 [f.av] (it z)):jX 3 [f.av,t3 a b c] (bl true):=by
 have hs:=yJ (lo_no h)
 have ht:=wB (T:=24) (lo3_no k)
 have cC:=sX h.rb hz h0
 have c1:=apiPlaceErrF h.rb k.sl.rb hz h0
 have c2:=apiLocalErrF h.rb k.sl.rb hz h0
 have c3':=apiShiftErrF h.rb k.sl.rb hz h0
 have c4:=yK h.rb hz h0
 have pB:=pointBf h0
 have aB:=axesBad h0
 clear hz h k
 rcases h0 with rfl|rfl|rfl|rfl
 all_goals
  refine jY Tryz.func3 fun w00 hI=>?_
  refine jW hI 4 [] (qU) ?_
  refine jC 5 _ (hs) ?_
  refine jC 6 _ (ht) ?_
  refine jC 7 _ (kC) ?_
  refine jW hI 8 _ (cC) ?_
  refine jW hI 9 _ (c1) ?_
  refine jW hI 10 _ (c2) ?_
  refine jW hI 11 _ (c3') ?_
  refine jW hI 12 _ (c4) ?_
  refine jC 13 _ (pB) ?_
  refine jC 13 _ (pB) ?_
  refine jC 14 _ (aB) ?_
  refine jC 13 _ (pB) ?_
  exact jR Tryz.func3
end
section
variable {o1 o2 o3 x1 x2 x3 y1 y2 y3 z1 z2 z3 p1 p2 p3:Rat} {a b c:ByteArray} {z:Int}
abbrev wF (o1 o2 o3 x1 x2 x3 y1 y2 y3 z1 z2 z3:Rat):F12:=⟨writeB o1,writeB o2,writeB o3,writeB x1,writeB x2,writeB x3,writeB y1,writeB y2,writeB y3,writeB z1,writeB z2,writeB z3⟩
theorem Qf.wf (q:Qf o1 o2 o3 x1 x2 x3 y1 y2 y3 z1 z2 z3):Wf o1 o2 o3 x1 x2 x3 y1 y2 y3 z1 z2 z3:=⟨⟨q.o1.wr (by omega),q.o2.wr (by omega),q.o3.wr (by omega)⟩,⟨q.x1.wr (by omega),q.x2.wr (by omega),q.x3.wr (by omega)⟩,⟨q.y1.wr (by omega),q.y2.wr (by omega),q.y3.wr (by omega)⟩,⟨q.z1.wr (by omega),q.z2.wr (by omega),q.z3.wr (by omega)⟩⟩
set_option maxRecDepth 100000 in
theorem frames_bad2 (q:Qf o1 o2 o3 x1 x2 x3 y1 y2 y3 z1 z2 z3) (hx:Ax x1 x2 x3 y1 y2 y3 z1 z2 z3) (hc:ckF x1 x2 x3 y1 y2 y3 z1 z2 z3=0) (h:(wF o1 o2 o3 x1 x2 x3 y1 y2 y3 z1 z2 z3).Ss) (k:Ss3 a b c) (hz:c3 a b c=z) (h0:B14 z):jX 3 [(wF o1 o2 o3 x1 x2 x3 y1 y2 y3 z1 z2 z3).av,t3 a b c] (bl true):=by
 have q0:=sq0_of hx
 have wf:=q.wf
 have fv:=Fr.fv_of wf hx
 have hs:=yJ (lo_no h)
 have ht:=wB (T:=24) (lo3_no k)
 have kC:=kE q
 rw [hc] at kC
 have cC:=oT fv
 have wS:kF (dt x1 x2 x3 x1 x2 x3) (dt y1 y2 y3 y1 y2 y3) (dt z1 z2 z3 z1 z2 z3):=⟨(dtq q.x q.x).wr (by omega),(dtq q.y q.y).wr (by omega),(dtq q.z q.z).wr (by omega)⟩
 have c4:=vA fv wS
 have rS:=oS q
 have pS:=vZ wS
 have c1:=apiPlaceErrP fv k.sl.rb hz h0
 have c2:=apiLocalErrP fv k.sl.rb hz h0
 have c3':=apiShiftErrP fv k.sl.rb hz h0
 have kV:=fE k.sl hz
 have hb:Bf z:=by rcases h0 with e|e <;> simp [Bf,e]
 have pB:=pointBf hb
 have aB:=axesBad hb
 clear q hx hc h k hz q0 wf fv wS hb
 rcases h0 with rfl|rfl
 all_goals
  refine jY Tryz.func3 fun w00 hI=>?_
  refine jW hI 4 [] (qU) ?_
  refine jC 5 _ (hs) ?_
  refine jC 6 _ (ht) ?_
  refine jC 7 _ (kC) ?_
  refine jW hI 8 _ (cC) ?_
  refine jW hI 9 _ (c1) ?_
  refine jW hI 10 _ (c2) ?_
  refine jW hI 11 _ (c3') ?_
  refine jW hI 12 _ (c4) ?_
  refine jC 15 _ (rS) ?_
  refine jC 13 _ (pS) ?_
  refine jC 16 _ (kV) ?_
  refine jC 13 _ (pB) ?_
  refine jC 13 _ (pB) ?_
  refine jC 14 _ (aB) ?_
  exact jR Tryz.func3
set_option maxRecDepth 100000 in
theorem frames_ok (q:Qf o1 o2 o3 x1 x2 x3 y1 y2 y3 z1 z2 z3) (g:Q3 p1 p2 p3) (hx:Ax x1 x2 x3 y1 y2 y3 z1 z2 z3) (hc:ckF x1 x2 x3 y1 y2 y3 z1 z2 z3=0) (h:(wF o1 o2 o3 x1 x2 x3 y1 y2 y3 z1 z2 z3).Ss) (k:Ss3 (writeB p1) (writeB p2) (writeB p3)) (hz:c3 (writeB p1) (writeB p2) (writeB p3)=0):jX 3 [(wF o1 o2 o3 x1 x2 x3 y1 y2 y3 z1 z2 z3).av,vS p1 p2 p3] (bl true):=by
 have q0:=sq0_of hx
 have wf:=q.wf
 have fv:=Fr.fv_of wf hx
 have hs:=yJ (lo_no h)
 have ht:=wB (T:=24) (lo3_no k)
 have kC:=kE q
 rw [hc] at kC
 have cC:=oT fv
 have wS:kF (dt x1 x2 x3 x1 x2 x3) (dt y1 y2 y3 y1 y2 y3) (dt z1 z2 z3 z1 z2 z3):=⟨(dtq q.x q.x).wr (by omega),(dtq q.y q.y).wr (by omega),(dtq q.z q.z).wr (by omega)⟩
 have c4:=vA fv wS
 have rS:=oS q
 have pS:=vZ wS
 have wp:kF p1 p2 p3:=⟨g.a.wr (by omega),g.b.wr (by omega),g.c.wr (by omega)⟩
 have w1:kF (o1+ld p1 p2 p3 x1 y1 z1) (o2+ld p1 p2 p3 x2 y2 z2) (o3+ld p1 p2 p3 x3 y3 z3):=⟨(q.o1.add (ldq g ⟨q.x1,q.y1,q.z1⟩)).wr (by omega),(q.o2.add (ldq g ⟨q.x2,q.y2,q.z2⟩)).wr (by omega),(q.o3.add (ldq g ⟨q.x3,q.y3,q.z3⟩)).wr (by omega)⟩
 have d1:Bq 61 (p1-o1):=g.a.sub q.o1
 have d2:Bq 61 (p2-o2):=g.b.sub q.o2
 have d3:Bq 61 (p3-o3):=g.c.sub q.o3
 have q1:∀ {x y z:Rat},Q3 x y z→Bq 275 (dt (p1-o1) (p2-o2) (p3-o3) x y z):=fun g=>Bq.dt d1 d2 d3 g.a g.b g.c (by omega)
 have w2:kF (dt (p1-o1) (p2-o2) (p3-o3) x1 x2 x3/dt x1 x2 x3 x1 x2 x3) (dt (p1-o1) (p2-o2) (p3-o3) y1 y2 y3/dt y1 y2 y3 y1 y2 y3) (dt (p1-o1) (p2-o2) (p3-o3) z1 z2 z3/dt z1 z2 z3 z1 z2 z3) :=
  ⟨((q1 q.x).div (dtq q.x q.x)).wr (by omega),((q1 q.y).div (dtq q.y q.y)).wr (by omega),((q1 q.z).div (dtq q.z q.z)).wr (by omega)⟩
 have w3:Wf (o1+p1) (o2+p2) (o3+p3) x1 x2 x3 y1 y2 y3 z1 z2 z3:=⟨⟨(q.o1.add g.a).wr (by omega),(q.o2.add g.b).wr (by omega),(q.o3.add g.c).wr (by omega)⟩,wf.x,wf.y,wf.z⟩
 have c1:=zW fv wp rfl rfl rfl w1
 have c2:=apiLocalF fv wp q0 rfl rfl rfl w2
 have c3':=apiShiftF fv wp w3
 have kV:=fE k.sl hz
 have r1:=refPlaceF q g
 have r2:=refLocalF q g q0
 have r3:=refShiftF q g
 have n1:=vZ w1
 have n2:=vZ w2
 have n3:=axesOk w3
 clear q g hx hc h k hz q0 wf fv wS wp w1 w2 w3 d1 d2 d3 q1
 ·skip
  refine jY Tryz.func3 fun w00 hI=>?_
  refine jW hI 4 [] (qU) ?_
  refine jC 5 _ (hs) ?_
  refine jC 6 _ (ht) ?_
  refine jC 7 _ (kC) ?_
  refine jW hI 8 _ (cC) ?_
  refine jW hI 9 _ (c1) ?_
  refine jW hI 10 _ (c2) ?_
  refine jW hI 11 _ (c3') ?_
  refine jW hI 12 _ (c4) ?_
  refine jC 15 _ (rS) ?_
  refine jC 13 _ (pS) ?_
  refine jC 16 _ (kV) ?_
  refine jC 17 _ (r1) ?_
  refine jC 13 _ (n1) ?_
  refine jC 18 _ (r2) ?_
  refine jC 13 _ (n2) ?_
  refine jC 19 _ (r3) ?_
  refine jC 14 _ (n3) ?_
  exact jR Tryz.func3
end
theorem F12.ss_of {f:F12} (h:f.lo 30=false):f.Ss:=by
 simp only [F12.lo,Ab.lo,Bool.or_eq_false_iff,decide_eq_false_iff_not] at h
 obtain ⟨⟨⟨⟨⟨⟨⟨⟨⟨⟨⟨h1,h2⟩,h3⟩,h4⟩,h5⟩,h6⟩,h7⟩,h8⟩,h9⟩,h10⟩,h11⟩,h12⟩:=h
 have k:∀ {s:ByteArray},¬ (30:Int)<(s.size:Nat)→Ab.Ss s:=fun {s} h=>by show s.size≤30;omega
 exact ⟨⟨k h1,k h2,k h3⟩,⟨k h4,k h5,k h6⟩,⟨k h7,k h8,k h9⟩,⟨k h10,k h11,k h12⟩⟩
theorem ckF_values (x1 x2 x3 y1 y2 y3 z1 z2 z3:Rat):ckF x1 x2 x3 y1 y2 y3 z1 z2 z3=0∨ckF x1 x2 x3 y1 y2 y3 z1 z2 z3=6∨ckF x1 x2 x3 y1 y2 y3 z1 z2 z3=15:=by
 unfold ckF
 split
 ·exact .inr (.inl rfl)
 split
 ·exact .inl rfl
 ·exact .inr (.inr rfl)
theorem val_of {q:Rat} (hw:Wr q):cL (writeB q)=q:=(write_inj hw (valB_ok (uZ hw.n hw.d)).1 (lA _)).symm
theorem framesF (f:F12) (a b c:ByteArray):jX 3 [f.av,t3 a b c] (bl true):=by
 cases hl:f.lo 30 with
 | true=>exact frames_long1 hl
 | false =>
   have h:=F12.ss_of hl
   cases hc:(lo 30 a || lo 30 b || lo 30 c) with
   | true=>exact frames_long2 hl hc
   | false =>
     simp only [Bool.or_eq_false_iff,lo,decide_eq_false_iff_not] at hc
     obtain ⟨⟨l1,l2⟩,l3⟩:=hc
     have k:Ss3 a b c:=⟨by show a.size≤30;omega,by show b.size≤30;omega,by show c.size≤30;omega⟩
     by_cases ht:f.ct=0
     ·obtain ⟨ht3,hz4⟩:=sS ht
      obtain ⟨ht2,hz3⟩:=sS ht3
      obtain ⟨hz1,hz2⟩:=sS ht2
      obtain ⟨g1,g2,g3,g4,g5,g6,g7,g8,g9,g10,g11,g12⟩:=f
      obtain ⟨o1,o2,o3,rfl,rfl,rfl,a1,a2,a3⟩:=slwN3 (n:=30) h.o.1 h.o.2.1 h.o.2.2 (by omega) hz1
      obtain ⟨x1,x2,x3,rfl,rfl,rfl,b1,b2,b3⟩:=slwN3 (n:=30) h.x.1 h.x.2.1 h.x.2.2 (by omega) hz2
      obtain ⟨y1,y2,y3,rfl,rfl,rfl,c1,c2,c3'⟩:=slwN3 (n:=30) h.y.1 h.y.2.1 h.y.2.2 (by omega) hz3
      obtain ⟨z1,z2,z3,rfl,rfl,rfl,d1,d2,d3⟩:=slwN3 (n:=30) h.z.1 h.z.2.1 h.z.2.2 (by omega) hz4
      have q:Qf o1 o2 o3 x1 x2 x3 y1 y2 y3 z1 z2 z3:=⟨a1,a2,a3,b1,b2,b3,c1,c2,c3',d1,d2,d3⟩
      have v:∀ {p:Rat},Bq 30 p→cL (writeB p)=p:=fun hp=>val_of (hp.wr (by omega))
      have hck:(wF o1 o2 o3 x1 x2 x3 y1 y2 y3 z1 z2 z3).ck=ckF x1 x2 x3 y1 y2 y3 z1 z2 z3:=by
       unfold F12.ck
       rw [if_pos ht]
       show ckF (cL (writeB x1)) (cL (writeB x2)) (cL (writeB x3)) (cL (writeB y1)) (cL (writeB y2)) (cL (writeB y3)) (cL (writeB z1)) (cL (writeB z2)) (cL (writeB z3))=_
       rw [v b1,v b2,v b3,v c1,v c2,v c3',v d1,v d2,v d3]
      by_cases e0:ckF x1 x2 x3 y1 y2 y3 z1 z2 z3=0
      ·have hx:=ax_of e0
       by_cases hp:c3 a b c=0
       ·obtain ⟨p1,p2,p3,rfl,rfl,rfl,e1,e2,e3⟩:=slwN3 (n:=30) k.1 k.2.1 k.2.2 (by omega) hp
        exact frames_ok q ⟨e1,e2,e3⟩ hx e0 h k hp
       ·exact frames_bad2 q hx e0 h k rfl (ev_b (kS _ _ _) hp)
      ·have hb:Bf (ckF x1 x2 x3 y1 y2 y3 z1 z2 z3):=by
        rcases ckF_values x1 x2 x3 y1 y2 y3 z1 z2 z3 with e|e|e
        ·exact absurd e e0
        ·exact .inr (.inr (.inl e))
        ·exact .inr (.inr (.inr e))
       exact vC h k hck hb (kE q)
     ·have hev:Ev f.ct:=f2_ev (f2_ev (f2_ev (kS _ _ _) (kS _ _ _)) (kS _ _ _)) (kS _ _ _)
      have hck:f.ck=f.ct:=if_neg ht
      have hb:Bf f.ct:=by
       rcases hev with e|e|e
       ·exact absurd e ht
       ·exact .inl e
       ·exact .inr (.inl e)
      have kC:=checkFrameE (fE h.o.sl rfl) (fE h.x.sl rfl) (fE h.y.sl rfl) (fE h.z.sl rfl) (kS _ _ _) (kS _ _ _) (kS _ _ _) (kS _ _ _) (z:=f.ct) rfl ht
      exact vC h k hck hb kC
end Ab
namespace Ab
open Go.ChangeShapes Go.WideShapes Go.ChangeAt Go.RowKit
theorem gPow:Tryz.prog.globalNamed "internal/strconv.uint64pow10" = some 7:=by kernel_rfl
theorem gl_of {W:World} {r:List (String×DataW Unit)} (h:laidMet Tryz.prog (("internal/strconv.uint64pow10",Lib.tabData .u64 Lib.pow10Tab)::r) W) (hs:W.ShapedOpen Tryz.prog):Gl W :=
 ⟨Lib.tabIs_of_head (t:=299) (e:=154) (n:=20) gPow (by kernel_rfl) (by kernel_rfl) (by kernel_rfl) (by kernel_rfl) (by kernel_rfl) h,
  Go.Proofs.cell_of_shapedOpen_int (zero := #[.int .i64 0]) (t:=3) hs (of_decide_eq_true (by kernel_rfl)) (by kernel_rfl) rfl (by kernel_rfl) (by kernel_rfl) (by kernel_rfl)⟩
theorem hold_t3 {β:List Nat} {a b c:ByteArray} {w:World}:(t3 a b c).holds β (.agg #[.string a,.string b,.string c]) w :=
 ⟨[.string a,.string b,.string c],rfl,[.string a],_,rfl,rfl,[.string b],_,rfl,rfl,[.string c],_,rfl,rfl,rfl⟩
end Ab
namespace Ab
open Go.ChangeShapes Go.WideShapes Go.RowKit
def nG (P:Program):Nat→TypeId→Nat→Option Bool
 | 0,_,_=>none
 | d+1,T,i=>match P.underlying T with
   | some (.int .i64)=>if i=0 then some false else none
   | some .string=>if i=0 then some true else none
   | some (.array n e)=>if 0<P.cellsOf e∧i/P.cellsOf e<n then nG P d e (i%P.cellsOf e) else none
   | some (.struct fs)=>(fs.toList.find? fun f=>decide (f.offset≤i∧i<f.offset+P.cellsOf f.type)).bind fun f=>nG P d f.type (i-f.offset)
   | _=>none
def isKind:Bool→Value→Prop
 | true,c => ∃ s:ByteArray,c = .string s∧s.size≤maxLen
 | false,c => ∃ n:Int,c = .int .i64 n∧(Lit.int .i64 n).wf=true
section
variable {H:Type} {enc:TypeId×Value→H} {P:Program} {w:World} {base:Nat} {spare:Nat→Bool} {held:Bool}
theorem piece {cs:List Value} {o n r:Nat} {c:Value} (h:((cs.drop o).take n)[r]?=some c):cs[o+r]?=some c:=by
 rw [List.getElem?_take] at h
 split at h
 ·rw [List.getElem?_drop] at h;exact h
 ·cases h
theorem trod_kind:∀ (d:Nat) {T:TypeId} {fuel i:Nat} {cs:List Value} {x:DataW H×List MemPlace} {k:Bool},DataW.trod enc P w base spare held fuel T cs=some x→nG P d T i=some k→∃ c,cs[i]?=some c∧isKind k c:=by
 intro d
 induction d with
 | zero=>intro T fuel i cs x k _ hk;cases hk
 | succ d ih =>
   intro T fuel i cs x k h hk
   unfold nG at hk
   split at hk
   ·rename_i hu
    split at hk <;> cases hk
    rename_i h0
    subst h0
    cases fuel with
    | zero=>cases h
    | succ m =>
      unfold DataW.trod at h
      rw [hu] at h
      split at h <;> simp_all
      obtain ⟨⟨_,hw⟩,_⟩:=h
      cases ‹IntKind.i64=_›
      exact ⟨_,rfl,hw⟩
   ·rename_i hu
    split at hk <;> cases hk
    rename_i h0
    subst h0
    cases fuel with
    | zero=>cases h
    | succ m =>
      unfold DataW.trod at h
      rw [hu] at h
      split at h <;> simp_all
      exact ⟨_,rfl,h.1⟩
   ·rename_i n e hu
    split at hk
    ·rename_i hi
     obtain ⟨xs,m,_,_,_,hlen,hat⟩:=DataW.trod_array hu h
     have hq:=hat (i/P.cellsOf e) hi.2
     rw [List.getElem?_eq_getElem (by omega)] at hq
     obtain ⟨c,hc,hk'⟩:=ih hq hk
     refine ⟨c,?_,hk'⟩
     have:=piece hc
     rw [Nat.mul_comm,Nat.div_add_mod] at this
     exact this
    ·cases hk
   ·rename_i fs hu
    rw [Option.bind_eq_some_iff] at hk
    obtain ⟨f,hf,hk⟩:=hk
    have hp:=List.find?_some hf
    simp only [decide_eq_true_eq] at hp
    obtain ⟨j,hj,hje⟩:=List.getElem_of_mem (List.mem_of_find?_eq_some hf)
    obtain ⟨xs,n,_,_,_,hlen,hat⟩:=DataW.trod_struct hu h
    have hq:=hat j f (by rw [← hje];simp)
    rw [List.getElem?_eq_getElem (by simp at hj;omega)] at hq
    obtain ⟨c,hc,hk'⟩:=ih hq hk
    refine ⟨c,?_,hk'⟩
    have:=piece hc
    rw [show f.offset+(i-f.offset)=i by omega] at this
    exact this
   ·cases hk
def qW (P:Program):Nat→TypeId→Bool
 | 0,_=>false
 | d+1,T=>match P.underlying T with
   | some (.int _)|some .string=>true
   | some (.array _ e)=>qW P d e
   | some (.struct fs)=>fs.toList.all fun f=>qW P d f.type
   | _=>false
theorem uG {α β:Type} {f g:α→Option (β×List MemPlace)}:∀ {l:List α} {xs:List (β×List MemPlace)},l.mapM f=some xs→(∀ a∈l,∀ x,f a=some x→g a=some x∧x.2 = [])→l.mapM g=some xs∧xs.flatMap (·.2) = []
 | [],xs,h,_=>by simp at h;subst h;exact ⟨rfl,rfl⟩
 | a::l,xs,h,hs=>by
   rw [List.mapM_cons] at h
   simp only [bind,Option.bind_eq_some_iff,pure,Option.some.injEq] at h
   obtain ⟨y,hy,ys,hys,rfl⟩:=h
   obtain ⟨g1,g2⟩:=hs a (by simp) y hy
   obtain ⟨i1,i2⟩:=uG hys fun b hb=>hs b (by simp [hb])
   exact ⟨by rw [List.mapM_cons,g1,i1];rfl,by simp [g2,i2]⟩
def SameRead (enc:TypeId×Value→H) (P:Program) (w:World) (base:Nat) (spare:Nat→Bool) (held:Bool) (w' : World) (base' : Nat) (spare' : Nat→Bool) (d:Nat):Prop :=
 ∀ (T:TypeId) (fuel:Nat) (cs:List Value) (x:DataW H×List MemPlace),qW P d T=true→DataW.trod enc P w base spare held fuel T cs=some x→DataW.trod enc P w' base' spare' held fuel T cs=some x∧x.2 = []
theorem trod_plain {w' : World} {base' : Nat} {spare' : Nat→Bool}:∀ d:Nat,SameRead enc P w base spare held w' base' spare' d:=by
 intro d
 induction d with
 | zero=>intro T fuel cs x hp;cases hp
 | succ d ih =>
   intro T fuel cs x hp h
   cases fuel with
   | zero=>cases h
   | succ m =>
     unfold qW at hp
     unfold DataW.trod at h ⊢
     split at hp
     ·rename_i hu
      rw [hu] at h ⊢
      split at h <;> simp_all <;> (obtain ⟨_,h⟩:=h;rw [← h])
     ·rename_i hu
      rw [hu] at h ⊢
      split at h <;> simp_all <;> (obtain ⟨_,h⟩:=h;rw [← h])
     ·rename_i hu
      rw [hu] at h ⊢
      split at h <;> simp_all
      obtain ⟨hl,xs,hxs,rfl⟩:=h
      obtain ⟨g1,g2⟩:=uG hxs fun a _ x hx=>ih _ _ _ _ hp hx
      exact ⟨⟨xs,g1,rfl⟩,g2⟩
     ·rename_i hu
      rw [hu] at h ⊢
      split at h <;> simp_all
      obtain ⟨hl,xs,hxs,rfl⟩:=h
      obtain ⟨g1,g2⟩:=uG hxs fun a ha x hx=>ih _ _ _ _ (by obtain ⟨j,hj,rfl⟩:=List.getElem_of_mem ha;simpa using hp j (by simpa using hj)) hx
      exact ⟨⟨xs,g1,rfl⟩,g2⟩
     ·cases hp
theorem yL {w' : World} {base' : Nat} {spare' : Nat→Bool} {T:TypeId} {v:Value} {D:DataW H} {p:List MemPlace} (hp:qW P 10 T=true) (h:DataW.Trod enc P w base spare held T v D p):p = []∧DataW.Trod enc P w' base' spare' held T v D []:=by
 obtain ⟨fuel,hf⟩:=h
 obtain ⟨h1,h2⟩:=trod_plain (w':=w') (base':=base') (spare':=spare') 10 _ _ _ _ hp hf
 simp only at h2
 subst h2
 exact ⟨rfl,fuel,h1⟩
theorem agg_of {r:Reach} {b0 n:Nat} {T:TypeId} {v:Value} (hu:(match P.underlying T with|some (.struct _)|some (.array _ _)=>true|_=>false)=true) (hC:P.cellsOf T=n) (hv:Value.okWide P w r b0 T v):∃ cs:Array Value,v = .agg cs∧cs.size=n:=by
 split at hu
 ·rename_i hs
  simp only [Value.okWide,hs] at hv
  obtain ⟨cs,h1,h2,_⟩:=hv
  exact ⟨cs,h1,h2.trans hC⟩
 ·rename_i hs
  simp only [Value.okWide,hs] at hv
  obtain ⟨cs,h1,h2,_⟩:=hv
  exact ⟨cs,h1,h2.trans hC⟩
 ·cases hu
theorem wC {T:TypeId} {cs:Array Value} {D:DataW H} {p:List MemPlace} {k:Bool} (i:Nat) (h:DataW.Trod enc P w base spare held T (.agg cs) D p) (hk:nG P 10 T i=some k):∃ c,cs[i]?=some c∧isKind k c:=by
 obtain ⟨fuel,hf⟩:=h
 obtain ⟨c,h1,h2⟩:=trod_kind 10 hf hk
 exact ⟨c,by simpa [Value.cells] using h1,h2⟩
theorem open_vec {r:Reach} {b0:Nat} {T:TypeId} {v:Value} {D:DataW H} {p:List MemPlace} (hu:(match P.underlying T with|some (.struct _)|some (.array _ _)=>true|_=>false)=true) (hC:P.cellsOf T=3)
 (hk:(nG P 10 T 0,nG P 10 T 1,nG P 10 T 2)=(some true,some true,some true)) (hv:Value.okWide P w r b0 T v) (h:DataW.Trod enc P w base spare held T v D p):∃ a b c:ByteArray,v = .agg #[.string a,.string b,.string c]∧a.size≤maxLen∧b.size≤maxLen∧c.size≤maxLen:=by
 simp only [Prod.mk.injEq] at hk
 obtain ⟨cs,rfl,hs⟩:=agg_of hu hC hv
 obtain ⟨c0,c1,c2,rfl⟩:∃ c0 c1 c2,cs = #[c0,c1,c2]:=by
  obtain ⟨l⟩:=cs
  match l,hs with
  | [c0,c1,c2],_=>exact ⟨c0,c1,c2,rfl⟩
 obtain ⟨_,e0,a,rfl,ha⟩:=wC 0 h hk.1
 obtain ⟨_,e1,b,rfl,hb⟩:=wC 1 h hk.2.1
 obtain ⟨_,e2,c,rfl,hc⟩:=wC 2 h hk.2.2
 simp at e0 e1 e2
 subst e0 e1 e2
 exact ⟨a,b,c,rfl,ha,hb,hc⟩
theorem open_txts {r:Reach} {b0 n:Nat} {T:TypeId} {v:Value} {D:DataW H} {p:List MemPlace} (hu:(match P.underlying T with|some (.struct _)|some (.array _ _)=>true|_=>false)=true) (hC:P.cellsOf T=n)
 (hk:((List.range n).all fun i=>nG P 10 T i==some true)=true) (hv:Value.okWide P w r b0 T v) (h:DataW.Trod enc P w base spare held T v D p):∃ l:List ByteArray,l.length=n∧v = .agg (l.map Value.string).toArray:=by
 obtain ⟨cs,rfl,hs⟩:=agg_of hu hC hv
 refine ⟨cs.toList.map fun v=>match v with | .string s=>s|_=>default,by simp [hs],?_⟩
 congr 1
 apply Array.toList_inj.1
 rw [List.map_map]
 apply List.ext_getElem
 ·simp
 ·intro i h1 h2
  have hi:i<n:=by simpa [hs] using h1
  have hk':=List.all_eq_true.1 hk i (List.mem_range.2 hi)
  obtain ⟨c,e,s,rfl,_⟩:=wC i h (eq_of_beq hk')
  have e2:cs.toList[i] = .string s:=by
   have:=Array.getElem?_eq_some_iff.1 e
   simpa using this.2
  simp [e2]
end
end Ab
end Go.Proofs.YtagahkpgdakofaaGreatDoor
