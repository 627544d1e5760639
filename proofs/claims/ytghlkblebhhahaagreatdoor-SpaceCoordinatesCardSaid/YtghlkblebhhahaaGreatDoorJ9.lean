/- Parts of the proof, joined. -/
import Derived.Test.YtghlkblebhhahaaGreatDoorJ8
import Derived.WalkKit
import Derived.ProofKit
import Derived.OpenShut
import Derived.Deep.DeepHandedRow
import Derived.Deep.DeepWitnessRowRef
import Derived.Lib.LaidTab
import Derived.Stop.LaidErr
import Derived.Shelf.Vars
import Derived.Lay
import Derived.Test.YtghlkblebhhahaaGreatDoorProg
import Derived.ChangeArms
set_option linter.unusedSimpArgs false
set_option linter.unusedVariables false
set_option linter.constructorNameAsVariable false
namespace Go.Proofs.YtghlkblebhhahaaGreatDoor
namespace Ab
open Go.RowKit Pl
section
variable {a b c:Int} {s:ByteArray}
theorem zY {z:Int} {q r:Bool} (hk:jF 15 [hA a b c s] (.fv (.sc (gC z)))) (hf:jF 28 [tx s,it 4] (bl q)) (hr:(decide (z=0)&&q&&decide (In 100 a)&&decide (In 100 b)&&decide (In 100 c))=r) :
 jF 7 [hL a b c s,it 100,it 4] (bl r):=by
 refine Fits.args (l := [hA a b c s,it 100,it 4]) ?_ fun β vs w ⟨v,r,e,h,hr⟩=>⟨v,r,e,hL_A β v w h,hr⟩
 refine jG Tryz.func7 fun w00=>?_
 refine jC 15 [hA a b c s] (hk) ?_
 by_cases hz:z=0
 ·refine kne (.tmp 9) (.const (.int .i64 0)) z 0 false _ bG (by simp [hz]) ?_
  cases q
  ·obtain rfl:r=false:=by rw [← hr];simp
   refine jC 28 [tx s,it 4] (hf) ?_
   exact jR Tryz.func7
  refine jC 28 [tx s,it 4] (hf) ?_
  by_cases a1:a < -100
  ·obtain rfl:r=false:=by rw [← hr];simp;omega
   refine klt (.tmp 25) (.tmp 27) a (-100) true _ bG (decide_eq_true a1) ?_
   exact jR Tryz.func7
  refine klt (.tmp 25) (.tmp 27) a (-100) false _ bG (decide_eq_false a1) ?_
  by_cases a2:100<a
  ·obtain rfl:r=false:=by rw [← hr];simp;omega
   refine kgg (.tmp 33) (.tmp 34) a 100 true _ bG (decide_eq_true a2) ?_
   exact jR Tryz.func7
  refine kgg (.tmp 33) (.tmp 34) a 100 false _ bG (decide_eq_false a2) ?_
  by_cases b1:b < -100
  ·obtain rfl:r=false:=by rw [← hr];simp;omega
   refine klt (.tmp 25) (.tmp 27) b (-100) true _ bG (decide_eq_true b1) ?_
   exact jR Tryz.func7
  refine klt (.tmp 25) (.tmp 27) b (-100) false _ bG (decide_eq_false b1) ?_
  by_cases b2:100<b
  ·obtain rfl:r=false:=by rw [← hr];simp;omega
   refine kgg (.tmp 33) (.tmp 34) b 100 true _ bG (decide_eq_true b2) ?_
   exact jR Tryz.func7
  refine kgg (.tmp 33) (.tmp 34) b 100 false _ bG (decide_eq_false b2) ?_
  by_cases c1:c < -100
  ·obtain rfl:r=false:=by rw [← hr];simp;omega
   refine klt (.tmp 25) (.tmp 27) c (-100) true _ bG (decide_eq_true c1) ?_
   exact jR Tryz.func7
  refine klt (.tmp 25) (.tmp 27) c (-100) false _ bG (decide_eq_false c1) ?_
  by_cases c2:100<c
  ·obtain rfl:r=false:=by rw [← hr];simp;omega
   refine kgg (.tmp 33) (.tmp 34) c 100 true _ bG (decide_eq_true c2) ?_
   exact jR Tryz.func7
  refine kgg (.tmp 33) (.tmp 34) c 100 false _ bG (decide_eq_false c2) ?_
  obtain rfl:r=true:=by rw [← hr];simp [hz];omega
  exact jR Tryz.func7
 ·obtain rfl:r=false:=by rw [← hr];simp [hz]
  refine kne (.tmp 9) (.const (.int .i64 0)) z 0 true _ bG (by simp [hz]) ?_
  exact jR Tryz.func7
end
theorem few4y (s:ByteArray) (h:Fy 4 s):jF 28 [tx s,it 4] (bl true):=by
 obtain ⟨q,rfl,h⟩:=h
 exact kn_F (few4Yes h)
theorem few4n (s:ByteArray) (h:¬ Fy 4 s):jF 28 [tx s,it 4] (bl false):=kn_F (few4No h)
theorem fewHalf4_or {z1 z2 z3:Int} {s:ByteArray} (hs:s.size≤9223372036854775807) :
 (¬ (z1=0∧z2=0∧z3=0)∧In 100 z1∧In 100 z2∧In 100 z3∧Int.gcd (Int.gcd z1 z2:Int) z3=1∧Fy 4 s∧jF 7 [hL z1 z2 z3 s,it 100,it 4] (bl true))∨jF 7 [hL z1 z2 z3 s,it 100,it 4] (bl false):=by
 have hk:=xQ (a:=z1) (b:=z2) (c:=z3) (kn_I (oX hs)) rfl
 by_cases hf:Fy 4 s
 ·have hF := zY hk (few4y s hf) rfl
  by_cases h:hkZ z1 z2 z3 (eR s)=0∧In 100 z1∧In 100 z2∧In 100 z3
  ·left
   obtain ⟨h0,h1,h2,h3⟩:=h
   have e0:=h0
   unfold hkZ at h0
   split at h0
   ·cases h0
   ·rename_i hz
    split at h0
    ·cases h0
    ·split at h0
     ·cases h0
     ·rename_i hg
      refine ⟨hz,h1,h2,h3,Classical.not_not.1 hg,hf,?_⟩
      simpa [e0,h1,h2,h3] using hF
  ·right
   have e:(decide (hkZ z1 z2 z3 (eR s)=0)&&true&&decide (In 100 z1)&&decide (In 100 z2)&&decide (In 100 z3))=false:=by
    rw [Bool.eq_false_iff]
    intro hh
    simp only [Bool.and_eq_true,decide_eq_true_eq,and_true] at hh
    exact h ⟨hh.1.1.1,hh.1.1.2,hh.1.2,hh.2⟩
   rw [e] at hF
   exact hF
 ·exact .inr (zY hk (few4n s hf) (by simp))
section
variable {f:FuncId} {w00:World} {Out:Value→World→Prop} {c:Cfg Kn}
theorem khe (x y:Operand) (a b d:Int) (s:ByteArray) (hg:Ok Tryz.prog f w00 Out (cI Tryz.prog 1000 (c.give (bl true))))
 (hc:(c.op.map fun o=>o.op,c.okT (bl true),c.ev x,c.ev y)=(some (.binOp .eql 29 x y 29),true,hL a b d s,hL a b d s):=by kernel_rfl):Ok Tryz.prog f w00 Out c :=
 oZ (.binOp .eql 29 x y 29) x y _ _ (bl true) hc (by simp [Op.operands]) (by simp [Op.operands]) (fun ρ o β w ho hx hy=>⟨_,agg_eq (by kernel_rfl) (equalHf a b d s w) ho (hL_is hx) (hL_is hy),bE rfl⟩) hg
end
section
variable {o x y z p a b e:Tx} {h1 h2 h3 k1 k2 k3 l1 l2 l3 n:Int} {s t u:ByteArray}
abbrev PlH (o x y z:Tx) (h r:AV Kn):Prop:=jX 13 [qP o x y z,h] r
abbrev LoH (o x y z:Tx) (h r:AV Kn):Prop:=jX 14 [qP o x y z,h] r
abbrev Pla (o x y z:Tx) (v r:AV Kn):Prop:=jX 8 [qP o x y z,v] r
abbrev Loc (o x y z:Tx) (v r:AV Kn):Prop:=jX 9 [qP o x y z,v] r
abbrev v100:AV Kn:=vS ((1:Int):Rat) ((0:Int):Rat) ((0:Int):Rat)
abbrev v000:AV Kn:=vS ((0:Int):Rat) ((0:Int):Rat) ((0:Int):Rat)
structure Both (o x y z p a b:Tx) (h1 h2 h3 k1 k2 k3 l1 l2 l3 n:Int) (s t u:ByteArray):Prop where
 ck:jF 15 [hL k1 k2 k3 t] (it 0)
 cl:jF 15 [hL l1 l2 l3 u] (it 0)
 s1:SdW (hL h1 h2 h3 s) p n
 s2:SdW (hL k1 k2 k3 t) a n
 s3:SdW (hL l1 l2 l3 u) b n
 b:LoH o x y z (hL k1 k2 k3 t) (okL h1 h2 h3 s)
 n:n=1∨n=0∨n = -1
set_option maxRecDepth 100000 in
theorem coord_walk (hF:jF 5 [qP o x y z,it 4] (bl true)) (hP:jF 6 [V3 p,it 4] (bl true)) (hH:jF 7 [hL h1 h2 h3 s,it 100,it 4] (bl true)) (cA:Pla o x y z (V3 p) (okV3 a)) (cB:Loc o x y z (V3 p) (okV3 b)) (kA:jF 10 [V3 a] (it 0)) (kB:jF 10 [V3 b] (it 0))
 (cC:Loc o x y z (V3 a) (okV3 p)) (cD:Pla o x y z (V3 b) (okV3 p)) (cX:Pla o x y z v100 (okV3 e)) (cO:Pla o x y z v000 (okV3 o)) (aX:jF 12 [V3 o,V3 x] (V3 e))
 (hk:(PlH o x y z (hL h1 h2 h3 s) qN∧(LoH o x y z (hL h1 h2 h3 s) qN∨∃ l1 l2 l3 u,LoH o x y z (hL h1 h2 h3 s) (okL l1 l2 l3 u))) ∨
  ∃ k1 k2 k3 t,PlH o x y z (hL h1 h2 h3 s) (okL k1 k2 k3 t)∧(LoH o x y z (hL h1 h2 h3 s) qN∨∃ l1 l2 l3 u,LoH o x y z (hL h1 h2 h3 s) (okL l1 l2 l3 u)∧∃ n,Both o x y z p a b h1 h2 h3 k1 k2 k3 l1 l2 l3 n s t u)) :
 jX 3 [qP o x y z,V3 p,hL h1 h2 h3 s] (bl true):=by
 have i1:wX 1:=by constructor <;> omega
 have i0:wX 0:=by constructor <;> omega
 refine jY Tryz.func3 fun w00 hI=>?_
 refine jW hI 4 [] (xP) ?_
 refine jC 5 [qP o x y z,it 4] (hF) ?_
 refine jC 6 [V3 p,it 4] (hP) ?_
 refine jC 7 [hL h1 h2 h3 s,it 100,it 4] (hH) ?_
 refine jW hI 8 [qP o x y z,V3 p] (cA) ?_
 refine jW hI 9 [qP o x y z,V3 p] (cB) ?_
 refine jC 10 [V3 a] (kA) ?_
 refine jC 10 [V3 b] (kB) ?_
 refine jW hI 9 [qP o x y z,V3 a] (cC) ?_
 refine jW hI 8 [qP o x y z,V3 b] (cD) ?_
 refine jC 11 [it 1,it 0,it 0] (dA i1 i0 i0) ?_
 refine jW hI 8 [qP o x y z,v100] (cX) ?_
 refine jC 11 [it 0,it 0,it 0] (dA i0 i0 i0) ?_
 refine jW hI 8 [qP o x y z,v000] (cO) ?_
 refine kv3 (.tmp 108) (.tmp 109) (p 0) (p 1) (p 2) ?_
 refine kv3 (.tmp 113) (.tmp 114) (p 0) (p 1) (p 2) ?_
 refine kv3 (.tmp 118) (.tmp 120) (o 0) (o 1) (o 2) ?_
 refine jC 12 [V3 o,V3 x] (aX) ?_
 refine kv3 (.tmp 124) (.tmp 129) (e 0) (e 1) (e 2) ?_
 rcases hk with ⟨ck,cl|⟨l1,l2,l3,u,cl⟩⟩|⟨k1,k2,k3,t,ck,cl|⟨l1,l2,l3,u,cl,n,B⟩⟩
 iterate 3 (
  ·refine jW hI 13 [qP o x y z,hL h1 h2 h3 s] (ck) ?_
   refine jW hI 14 [qP o x y z,hL h1 h2 h3 s] (cl) ?_
   exact kret Tryz.func3 (by kernel_rfl))
 refine jW hI 13 [qP o x y z,hL h1 h2 h3 s] (ck) ?_
 refine jW hI 14 [qP o x y z,hL h1 h2 h3 s] (cl) ?_
 refine jC 15 [hL k1 k2 k3 t] (B.ck) ?_
 refine jC 15 [hL l1 l2 l3 u] (B.cl) ?_
 obtain ⟨_,_,s1,s2,s3,cb,hn⟩:=B
 rcases hn with rfl|rfl|rfl
 iterate 3 (
  ·refine jW hI 16 [hL h1 h2 h3 s,V3 p] (s1) ?_
   refine jW hI 16 [hL k1 k2 k3 t,V3 a] (s2) ?_
   refine jW hI 16 [hL l1 l2 l3 u,V3 b] (s3) ?_
   refine jW hI 14 [qP o x y z,hL k1 k2 k3 t] (cb) ?_
   refine khe (.tmp 208) (.tmp 209) h1 h2 h3 s ?_
   exact kret Tryz.func3 (by kernel_rfl))
set_option maxRecDepth 100000 in
theorem xS {b1 b2 b3:Bool} (hF:jF 5 [qP o x y z,it 4] (bl b1)) (hP:jF 6 [V3 p,it 4] (bl b2)) (hH:jF 7 [hL h1 h2 h3 s,it 100,it 4] (bl b3)) (hb:(b1&&b2&&b3)=false) :
 jX 3 [qP o x y z,V3 p,hL h1 h2 h3 s] (bl true):=by
 refine jY Tryz.func3 fun w00 hI=>?_
 refine jW hI 4 [] (xP) ?_
 cases b1
 ·refine jC 5 [qP o x y z,it 4] (hF) ?_
  refine jW hI 4 [] (xP) ?_
  exact jR Tryz.func3
 refine jC 5 [qP o x y z,it 4] (hF) ?_
 cases b2
 ·refine jC 6 [V3 p,it 4] (hP) ?_
  refine jW hI 4 [] (xP) ?_
  exact jR Tryz.func3
 refine jC 6 [V3 p,it 4] (hP) ?_
 cases b3
 ·refine jC 7 [hL h1 h2 h3 s,it 100,it 4] (hH) ?_
  refine jW hI 4 [] (xP) ?_
  exact jR Tryz.func3
 ·cases hb
end
theorem den_mul (p q:Rat):(p*q).den≤p.den*q.den:=by
 rw [Rat.mul_def']
 exact (cE (p.num*q.num) (Nat.ne_of_gt (Nat.mul_pos p.den_pos q.den_pos))).2
theorem den_add (p q:Rat):(p+q).den≤p.den*q.den:=by
 rw [Rat.add_def']
 exact (cE (p.num*q.den+q.num*p.den) (Nat.ne_of_gt (Nat.mul_pos p.den_pos q.den_pos))).2
abbrev B4 (a b c:Rat):Prop:=Bq 4 a∧Bq 4 b∧Bq 4 c
theorem sq_den {a b c:Rat} (h:B4 a b c):(dt a b c a b c).den<10^24:=by
 have s:∀ {q:Rat},Bq 4 q→(q*q).den<10^8:=fun {q} h=>Nat.lt_of_le_of_lt (den_mul q q) (Nat.mul_lt_mul'' (a:=q.den) (b:=q.den) (c:=10^4) (d:=10^4) h.2 h.2)
 have h1:=s h.1
 have h2:=s h.2.1
 have h3:=s h.2.2
 unfold dt
 refine Nat.lt_of_le_of_lt (den_add _ _) ?_
 have h12:(a*a+b*b).den<10^16:=Nat.lt_of_le_of_lt (den_add _ _) (Nat.mul_lt_mul'' (c:=10^8) (d:=10^8) h1 h2)
 exact Nat.mul_lt_mul'' (c:=10^16) (d:=10^8) h12 h3
theorem bq_over {n:Int} {s:Rat} (hn:n.natAbs<10^3) (hs:Bq 26 s) (hd:s.den<10^24) (h0:s≠0):Bq 27 (n/s):=by
 obtain ⟨_,e1,e2⟩:=Parts.inv (Parts.self s) h0
 rw [Rat.div_def,Rat.mul_def']
 obtain ⟨h1,h2⟩:=cE ((n:Rat).num*s⁻¹.num) (Nat.ne_of_gt (Nat.mul_pos (n:Rat).den_pos s⁻¹.den_pos))
 have g1:((n:Rat).num*s⁻¹.num).natAbs=n.natAbs*s.den:=by rw [Int.natAbs_mul,← e1,Rat.num_intCast]
 have g2:(n:Rat).den*s⁻¹.den=s.num.natAbs:=by rw [← e2,Rat.den_intCast,Nat.one_mul]
 exact ⟨Nat.lt_of_le_of_lt (Nat.le_trans h1 (Nat.le_of_eq g1)) (Nat.mul_lt_mul'' (c:=10^3) (d:=10^24) hn hd),Nat.lt_of_le_of_lt (Nat.le_trans h2 (Nat.le_of_eq g2)) (Nat.lt_of_lt_of_le hs.1 (Nat.pow_le_pow_right (by omega) (by omega)))⟩
theorem ap_alg (q1 q2 q3 o1 o2 o3 v1 v2 v3 d:Rat):dt q1 q2 q3 (o1+v1) (o2+v2) (o3+v3)=(d+dt q1 q2 q3 o1 o2 o3)+(dt q1 q2 q3 v1 v2 v3-d):=by unfold dt;grind
theorem bp_alg (n1 n2 n3 o1 o2 o3 p1 p2 p3 d:Rat):dt n1 n2 n3 (p1-o1) (p2-o2) (p3-o3) = -(dt n1 n2 n3 o1 o2 o3-d)+(dt n1 n2 n3 p1 p2 p3-d):=by unfold dt;grind
theorem e4_alg (F u d:Rat):-(F*u-(d+u)*F)=F*d:=by grind
section
variable {o1 o2 o3 x1 x2 x3 y1 y2 y3 z1 z2 z3 p1 p2 p3 d:Rat} {n1 n2 n3:Int}
theorem Gd.fv (h:Gd x1 x2 x3 y1 y2 y3 z1 z2 z3) (ko:B4 o1 o2 o3) (kx:B4 x1 x2 x3) (ky:B4 y1 y2 y3) (kz:B4 z1 z2 z3):Fv o1 o2 o3 x1 x2 x3 y1 y2 y3 z1 z2 z3 :=
 have w:∀ {a b c:Rat},B4 a b c→mT a b c:=fun h=>⟨h.1.wr (by omega),h.2.1.wr (by omega),h.2.2.wr (by omega)⟩
 Fr.fv_of ⟨w ko,w kx,w ky,w kz⟩ h.ax
theorem xT {F a1 a2 a3 q1 q2 q3 e t D:Rat} {k1 k2 k3:Rat} (hF:0<F) (f1:F*q1=k1) (f2:F*q2=k2) (f3:F*q3=k3) (he:e=D*F) (ht:dt q1 q2 q3 a1 a2 a3=D+t):lJ (dt k1 k2 k3 a1 a2 a3-e)=lJ t:=by
 have:dt k1 k2 k3 a1 a2 a3-e=F*t:=by
  have h:dt k1 k2 k3 a1 a2 a3=F*dt q1 q2 q3 a1 a2 a3:=by rw [← f1,← f2,← f3];unfold dt;grind
  rw [h,ht,he]
  grind
 rw [this,sgnR_scale hF]
theorem sK {F q1 q2 q3 k1 k2 k3 x1 x2 x3 n:Rat} (f1:F*q1=k1) (f2:F*q2=k2) (f3:F*q3=k3) (h:dt q1 q2 q3 x1 x2 x3=n):dt k1 k2 k3 x1 x2 x3=F*n:=by rw [← h,← f1,← f2,← f3];unfold dt;grind
theorem coordR (g:Gd x1 x2 x3 y1 y2 y3 z1 z2 z3) (ko:B4 o1 o2 o3) (kx:B4 x1 x2 x3) (ky:B4 y1 y2 y3) (kz:B4 z1 z2 z3) (kp:B4 p1 p2 p3) (h0:¬ (n1=0∧n2=0∧n3=0)) (i1:In 100 n1) (i2:In 100 n2) (i3:In 100 n3) (hg:Int.gcd (Int.gcd n1 n2:Int) n3=1) (kd:Bq 4 d)
 (hF:jF 5 [qP (tx3 o1 o2 o3) (tx3 x1 x2 x3) (tx3 y1 y2 y3) (tx3 z1 z2 z3),it 4] (bl true)) (hP:jF 6 [V3 (tx3 p1 p2 p3),it 4] (bl true)) (hH:jF 7 [hL n1 n2 n3 (writeB d),it 100,it 4] (bl true)) :
 jX 3 [qP (tx3 o1 o2 o3) (tx3 x1 x2 x3) (tx3 y1 y2 y3) (tx3 z1 z2 z3),V3 (tx3 p1 p2 p3),hL n1 n2 n3 (writeB d)] (bl true):=by
 have V:=g.fv ko kx ky kz
 have S:=g.sq
 have hv:Hv n1 n2 n3 d:=hv_of h0 (by unfold Bg;omega) (by unfold Bg;omega) (by unfold Bg;omega) hg (kd.wr (by omega))
 have w3:∀ {k:Nat} {a b c:Rat},Bq k a→Bq k b→Bq k c→k≤600→mT a b c:=fun h1 h2 h3 hk=>⟨h1.wr hk,h2.wr hk,h3.wr hk⟩
 have wp:mT p1 p2 p3:=w3 kp.1 kp.2.1 kp.2.2 (by omega)
 -- the point, the coordinates
 obtain ⟨a1,ea1⟩:∃ a,o1+ld p1 p2 p3 x1 y1 z1=a:=⟨_,rfl⟩
 obtain ⟨a2,ea2⟩:∃ a,o2+ld p1 p2 p3 x2 y2 z2=a:=⟨_,rfl⟩
 obtain ⟨a3,ea3⟩:∃ a,o3+ld p1 p2 p3 x3 y3 z3=a:=⟨_,rfl⟩
 have qa1:Bq 31 a1:=by rw [← ea1];exact ko.1.add (ld_bq kp.1 kp.2.1 kp.2.2 kx.1 ky.1 kz.1 (n:=26) (by omega))
 have qa2:Bq 31 a2:=by rw [← ea2];exact ko.2.1.add (ld_bq kp.1 kp.2.1 kp.2.2 kx.2.1 ky.2.1 kz.2.1 (n:=26) (by omega))
 have qa3:Bq 31 a3:=by rw [← ea3];exact ko.2.2.add (ld_bq kp.1 kp.2.1 kp.2.2 kx.2.2 ky.2.2 kz.2.2 (n:=26) (by omega))
 obtain ⟨b1,eb1⟩:∃ a,dt (p1-o1) (p2-o2) (p3-o3) x1 x2 x3/dt x1 x2 x3 x1 x2 x3=a:=⟨_,rfl⟩
 obtain ⟨b2,eb2⟩:∃ a,dt (p1-o1) (p2-o2) (p3-o3) y1 y2 y3/dt y1 y2 y3 y1 y2 y3=a:=⟨_,rfl⟩
 obtain ⟨b3,eb3⟩:∃ a,dt (p1-o1) (p2-o2) (p3-o3) z1 z2 z3/dt z1 z2 z3 z1 z2 z3=a:=⟨_,rfl⟩
 have c1:Bq 9 (p1-o1):=kp.1.sub ko.1
 have c2:Bq 9 (p2-o2):=kp.2.1.sub ko.2.1
 have c3:Bq 9 (p3-o3):=kp.2.2.sub ko.2.2
 have qs:∀ {a b c:Rat},B4 a b c→Bq 26 (dt a b c a b c):=fun h=>Bq.dt h.1 h.2.1 h.2.2 h.1 h.2.1 h.2.2 (by omega)
 have qb:∀ {a b c:Rat},B4 a b c→Bq 67 (dt (p1-o1) (p2-o2) (p3-o3) a b c/dt a b c a b c):=fun h=>(Bq.dt c1 c2 c3 h.1 h.2.1 h.2.2 (n:=41) (by omega)).div (qs h)
 have qb1:Bq 67 b1:=eb1▸qb kx
 have qb2:Bq 67 b2:=eb2▸qb ky
 have qb3:Bq 67 b3:=eb3▸qb kz
 have wa:=w3 qa1 qa2 qa3 (by omega)
 have wb:=w3 qb1 qb2 qb3 (by omega)
 have bk:=g.back (p1-o1) (p2-o2) (p3-o3)
 rw [eb1,eb2,eb3] at bk
 have fw:=g.fwd p1 p2 p3
 have sb:∀ {a b c:Rat},a+b=c→c-a=b:=fun h=>by grind
 have ad:∀ {a b c:Rat},b=c-a→a+b=c:=fun h=>by grind
 have cA:=lR V wp ea1 ea2 ea3 wa
 have cB:=zU V wp S eb1 eb2 eb3 wb
 have cC:=zU (m1:=p1) (m2:=p2) (m3:=p3) V wa S (by rw [sb ea1,sb ea2,sb ea3,fw.1,oL S.x]) (by rw [sb ea1,sb ea2,sb ea3,fw.2.1,oL S.y]) (by rw [sb ea1,sb ea2,sb ea3,fw.2.2,oL S.z]) wp
 have cD:=lR (m1:=p1) (m2:=p2) (m3:=p3) V wb (ad bk.1) (ad bk.2.1) (ad bk.2.2) wp
 have t0:((0:Int):Rat)=0:=rfl
 have t1:((1:Int):Rat)=1:=rfl
 have l1:∀ x y z:Rat,ld ((1:Int):Rat) ((0:Int):Rat) ((0:Int):Rat) x y z=x:=fun x y z=>by rw [t0,t1];unfold ld;grind
 have l0:∀ x y z:Rat,ld ((0:Int):Rat) ((0:Int):Rat) ((0:Int):Rat) x y z=0:=fun x y z=>by rw [t0];unfold ld;grind
 have u1:Bq 1 ((1:Int):Rat):=bq_int (by decide) (by omega)
 have u0:Bq 1 ((0:Int):Rat):=bq_int (by decide) (by omega)
 have cX:=lR (m1:=o1+x1) (m2:=o2+x2) (m3:=o3+x3) V (w3 u1 u0 u0 (by omega)) (by rw [l1]) (by rw [l1]) (by rw [l1]) (w3 (ko.1.add kx.1) (ko.2.1.add kx.2.1) (ko.2.2.add kx.2.2) (by omega))
 have cO:=lR (m1:=o1) (m2:=o2) (m3:=o3) V (w3 u0 u0 u0 (by omega)) (by rw [l0,Rat.add_zero]) (by rw [l0,Rat.add_zero]) (by rw [l0,Rat.add_zero]) V.w.o
 have sm:∀ {a b:Rat},Bq 4 a→Bq 4 b→jF 37 [tx (writeB a),tx (writeB b)] (tx (writeB (a+b))):=fun h1 h2=>kn_S (vJ (h1.zs (by omega)) (h2.zs (by omega)))
 have aX:=addVecR (sm ko.1 kx.1) (sm ko.2.1 kx.2.1) (sm ko.2.2 kx.2.2)
 -- the half-space in space
 have m3:∀ {n:Int},In 100 n→n.natAbs<10^3:=fun h=>by show _<1000;omega
 have r1:=bq_over (m3 i1) (qs kx) (sq_den kx) S.x
 have r2:=bq_over (m3 i2) (qs ky) (sq_den ky) S.y
 have r3:=bq_over (m3 i3) (qs kz) (sq_den kz) S.z
 have fq:=g.fwd (n1/dt x1 x2 x3 x1 x2 x3) (n2/dt y1 y2 y3 y1 y2 y3) (n3/dt z1 z2 z3 z1 z2 z3)
 rw [oM S.x,oM S.y,oM S.z] at fq
 have ql:∀ {x y z:Rat},Bq 4 x→Bq 4 y→Bq 4 z→Bq 95 (ld (n1/dt x1 x2 x3 x1 x2 x3) (n2/dt y1 y2 y3 y1 y2 y3) (n3/dt z1 z2 z3 z1 z2 z3) x y z):=fun h1 h2 h3=>ld_bq r1 r2 r3 h1 h2 h3 (by omega)
 have qq1:=ql kx.1 ky.1 kz.1
 have qq2:=ql kx.2.1 ky.2.1 kz.2.1
 have qq3:=ql kx.2.2 ky.2.2 kz.2.2
 obtain ⟨q1,eq1⟩:∃ q,ld (n1/dt x1 x2 x3 x1 x2 x3) (n2/dt y1 y2 y3 y1 y2 y3) (n3/dt z1 z2 z3 z1 z2 z3) x1 y1 z1=q:=⟨_,rfl⟩
 obtain ⟨q2,eq2⟩:∃ q,ld (n1/dt x1 x2 x3 x1 x2 x3) (n2/dt y1 y2 y3 y1 y2 y3) (n3/dt z1 z2 z3 z1 z2 z3) x2 y2 z2=q:=⟨_,rfl⟩
 obtain ⟨q3,eq3⟩:∃ q,ld (n1/dt x1 x2 x3 x1 x2 x3) (n2/dt y1 y2 y3 y1 y2 y3) (n3/dt z1 z2 z3 z1 z2 z3) x3 y3 z3=q:=⟨_,rfl⟩
 rw [eq1] at qq1
 rw [eq2] at qq2
 rw [eq3] at qq3
 rw [eq1,eq2,eq3] at fq
 have ni:∀ {n:Int},(n:Rat)=0→n=0:=fun h=>by exact_mod_cast h
 have z3' : ∀ {a b c:Rat},dt 0 0 0 a b c=0:=fun {a b c}=>by unfold dt;grind
 have q0:¬ (q1=0∧q2=0∧q3=0):=fun ⟨e1,e2,e3⟩=>by
  rw [e1,e2,e3,z3',z3',z3'] at fq
  exact h0 ⟨ni fq.1.symm,ni fq.2.1.symm,ni fq.2.2.symm⟩
 have qD:Bq 304 (d+dt q1 q2 q3 o1 o2 o3):=kd.add (Bq.dt qq1 qq2 qq3 ko.1 ko.2.1 ko.2.2 (n:=299) (by omega))
 have L:∀ {q:Rat} {k:Nat},Bq k q→k≤600→Lf 30 q:=fun h hk=>(h.wr hk).lf.mono (by decide)
 have PH:=hw_out qq1 qq2 qq3 qD (by omega) q0
 -- the half-space of coordinates
 have nb' : ∀ {n:Int},In 100 n→Bq 3 (n:Rat):=fun h=>bq_int (m3 h) (by omega)
 have mb:∀ {a b c:Rat},B4 a b c→Bq 23 (dt (n1:Rat) n2 n3 a b c):=fun h=>Bq.dt (nb' i1) (nb' i2) (nb' i3) h.1 h.2.1 h.2.2 (by omega)
 have m0:¬ (dt (n1:Rat) n2 n3 x1 x2 x3=0∧dt (n1:Rat) n2 n3 y1 y2 y3=0∧dt (n1:Rat) n2 n3 z1 z2 z3=0):=fun ⟨e1,e2,e3⟩=>by
  have b:=g.back n1 n2 n3
  have dz:∀ s:Rat,(0:Rat)/s=0:=fun s=>by rw [Rat.div_def,Rat.zero_mul]
  have lz:∀ x y z:Rat,ld 0 0 0 x y z=0:=fun x y z=>by unfold ld;grind
  rw [e1,e2,e3,dz,dz,dz,lz,lz,lz] at b
  exact h0 ⟨ni b.1.symm,ni b.2.1.symm,ni b.2.2.symm⟩
 have mD:Bq 28 (-(dt (n1:Rat) n2 n3 o1 o2 o3-d)):=((mb ko).sub kd).neg
 have LH:=hw_out (mb kx) (mb ky) (mb kz) mD (by omega) m0
 have aP:dt q1 q2 q3 a1 a2 a3=(d+dt q1 q2 q3 o1 o2 o3)+(dt (n1:Rat) n2 n3 p1 p2 p3-d):=by
  have h:=dt_ld (x1:=x1) (x2:=x2) (x3:=x3) (y1:=y1) (y2:=y2) (y3:=y3) (z1:=z1) (z2:=z2) (z3:=z3) q1 q2 q3 p1 p2 p3
  rw [fq.1,fq.2.1,fq.2.2] at h
  rw [← ea1,← ea2,← ea3,← h]
  exact ap_alg _ _ _ _ _ _ _ _ _ _
 have bP:dt (dt (n1:Rat) n2 n3 x1 x2 x3) (dt (n1:Rat) n2 n3 y1 y2 y3) (dt (n1:Rat) n2 n3 z1 z2 z3) b1 b2 b3 = -(dt (n1:Rat) n2 n3 o1 o2 o3-d)+(dt (n1:Rat) n2 n3 p1 p2 p3-d):=by
  have h:=dt_ld (x1:=x1) (x2:=x2) (x3:=x3) (y1:=y1) (y2:=y2) (y3:=y3) (z1:=z1) (z2:=z2) (z3:=z3) (n1:Rat) n2 n3 b1 b2 b3
  rw [bk.1,bk.2.1,bk.2.2] at h
  rw [← h]
  exact bp_alg _ _ _ _ _ _ _ _ _ _
 have LN:∀ {x:AV Kn},_:=fun {x:AV Kn}=>kO (k1:=0) (k2:=0) (k3:=0) (e:=0) (x:=x) V hv
 refine coord_walk (a:=tx3 a1 a2 a3) (b:=tx3 b1 b2 b3) (e:=tx3 (o1+x1) (o2+x2) (o3+x3)) hF hP hH cA cB (tM (yJ qa1 (by omega)) (yJ qa2 (by omega)) (yJ qa3 (by omega))) (tM (yJ qb1 (by omega)) (yJ qb2 (by omega)) (yJ qb3 (by omega))) cC cD cX cO aX ?_
 rcases PH with ⟨k1,k2,k3,f1,f2,f3,s1,s2,s3,kg,kF,kb,kw⟩|kw
 ·refine .inr ⟨k1,k2,k3,writeB _,uQ V hv S eq1 eq2 eq3 (L qq1 (by omega)) (L qq2 (by omega)) (L qq3 (by omega)) (.inl rfl) kw,?_⟩
  rcases LH with ⟨l1,l2,l3,g1,g2,g3,t1,t2,t3,lg,lF,lb,lw⟩|lw
  ·refine .inr ⟨l1,l2,l3,writeB _,kO V hv (.inl rfl) lw,lJ (dt (n1:Rat) n2 n3 p1 p2 p3-d),?_⟩
   have kn:¬ (k1=0∧k2=0∧k3=0):=by rintro ⟨rfl,rfl,rfl⟩;exact absurd kg (by decide)
   have ln:¬ (l1=0∧l2=0∧l3=0):=by rintro ⟨rfl,rfl,rfl⟩;exact absurd lg (by decide)
   have kv:Hv k1 k2 k3 ((d+dt q1 q2 q3 o1 o2 o3)*bB q1 q2 q3):=hv_of kn (by unfold Bg;omega) (by unfold Bg;omega) (by unfold Bg;omega) kg (kb.wr (by omega))
   have lv:Hv l1 l2 l3 (-(dt (n1:Rat) n2 n3 o1 o2 o3-d)*bB (dt (n1:Rat) n2 n3 x1 x2 x3) (dt (n1:Rat) n2 n3 y1 y2 y3) (dt (n1:Rat) n2 n3 z1 z2 z3)):=hv_of ln (by unfold Bg;omega) (by unfold Bg;omega) (by unfold Bg;omega) lg (lb.wr (by omega))
   have hFp:=tS q0
   have W1:=whole_scale hFp h0 hg
   have e1:=sK f1 f2 f3 fq.1
   have e2:=sK f1 f2 f3 fq.2.1
   have e3:=sK f1 f2 f3 fq.2.2
   have e4:-(dt (k1:Rat) k2 k3 o1 o2 o3-(d+dt q1 q2 q3 o1 o2 o3)*bB q1 q2 q3)=bB q1 q2 q3*d:=by
    rw [sK f1 f2 f3 rfl]
    exact e4_alg _ _ _
   refine ⟨pQ kn s1 s2 s3 kg kb (by omega),pQ ln t1 t2 t3 lg lb (by omega),rO hv wp rfl,rO kv wa (xT hFp f1 f2 f3 rfl aP),rO lv wb (xT (tS m0) g1 g2 g3 rfl bP),?_,zX _⟩
   refine kO V kv (.inl rfl) ?_
   rw [e1,e2,e3,e4]
   have hne:bB q1 q2 q3≠0:=fun e=>absurd (e▸hFp) (by decide)
   have B9:∀ {z:Int},Sz z→Bq 9 (z:Rat):=fun hz=>bq_int (by show _<1000000000;omega) (by omega)
   have kx' : ∀ {a b c:Rat},B4 a b c→Lf 30 (dt (k1:Rat) k2 k3 a b c):=fun h=>L (Bq.dt (B9 s1) (B9 s2) (B9 s3) h.1 h.2.1 h.2.2 (n:=41) (by omega)) (by omega)
   have j1:=kx' kx
   have j2:=kx' ky
   have j3:=kx' kz
   rw [e1] at j1
   rw [e2] at j2
   rw [e3] at j3
   have zz:∀ {n:Int},bB q1 q2 q3*n=0→n=0:=fun h=>ni ((Rat.mul_eq_zero.1 h).resolve_left hne)
   have one:∀ t:Rat,bB (bB q1 q2 q3*n1) (bB q1 q2 q3*n2) (bB q1 q2 q3*n3)*(bB q1 q2 q3*t)=t:=fun t=>by rw [← Rat.mul_assoc,W1,Rat.one_mul]
   exact rN ⟨j1,j2,j3,(L (kF.mul kd) (by omega)).mono (by decide),fun ⟨a,b,c⟩=>h0 ⟨zz a,zz b,zz c⟩,one _,one _,one _,by rw [Rat.mul_comm];exact one d,by omega,by omega,by omega,kd.wr (by omega)⟩
  ·exact .inl (LN (.inr rfl) lw)
 ·refine .inl ⟨uQ (k1:=0) (k2:=0) (k3:=0) (e:=0) V hv S eq1 eq2 eq3 (L qq1 (by omega)) (L qq2 (by omega)) (L qq3 (by omega)) (.inr rfl) kw,?_⟩
  rcases LH with ⟨l1,l2,l3,_,_,_,_,_,_,_,_,_,lw⟩|lw
  ·exact .inr ⟨l1,l2,l3,writeB _,kO V hv (.inl rfl) lw⟩
  ·exact .inl (LN (.inr rfl) lw)
end
theorem coordF (o x y z p:Tx) (h1 h2 h3:Int) (s:ByteArray) (hs:s.size≤9223372036854775807):jX 3 [qP o x y z,V3 p,hL h1 h2 h3 s] (bl true):=by
 have hf:=fewHalf4_or (z1:=h1) (z2:=h2) (z3:=h3) hs
 have hv:=zW (a:=p 0) (b:=p 1) (c:=p 2) few4y few4n
 obtain ⟨t3,n3⟩:∃ t,jF 7 [hL h1 h2 h3 s,it 100,it 4] (bl t):=hf.elim (fun ⟨_,_,_,_,_,_,h⟩=>⟨_,h⟩) fun h=>⟨_,h⟩
 obtain ⟨t2,n2⟩:∃ t,jF 6 [V3 p,it 4] (bl t):=hv.elim (fun ⟨_,_,_,h⟩=>⟨_,h⟩) fun h=>⟨_,h⟩
 rcases fewFrame_or (a:=o) (b:=x) (c:=y) (d:=z) (k:=4) (by omega) few4y few4n with ⟨o1,o2,o3,x1,x2,x3,y1,y2,y3,z1,z2,z3,ea,eb,ec,ed,ka,kb,kc,kd,g,hF⟩|hF
 ·rcases hv with ⟨⟨p1,e1,f1⟩,⟨p2,e2,f2⟩,⟨p3,e3,f3⟩,hP⟩|hP
  ·rcases hf with ⟨h0,i1,i2,i3,hg,⟨d,rfl,fd⟩,hH⟩|hH
   ·unfold qP at hF
    rw [ea.1,ea.2.1,ea.2.2,eb.1,eb.2.1,eb.2.2,ec.1,ec.2.1,ec.2.2,ed.1,ed.2.1,ed.2.2] at hF
    rw [e1,e2,e3] at hP
    unfold qP V3
    rw [ea.1,ea.2.1,ea.2.2,eb.1,eb.2.1,eb.2.2,ec.1,ec.2.1,ec.2.2,ed.1,ed.2.1,ed.2.2,e1,e2,e3]
    exact coordR g ka kb kc kd ⟨xR f1,xR f2,xR f3⟩ h0 i1 i2 i3 hg (xR fd) hF hP hH
   ·exact xS hF hP hH rfl
  ·exact xS hF hP n3 rfl
 ·exact xS hF n2 n3 rfl
end Ab
namespace Ab
open Go.ChangeShapes Go.WideShapes Go.ChangeAt Go.RowKit
theorem gPow:Tryz.prog.globalNamed "internal/strconv.uint64pow10" = some 7:=by kernel_rfl
theorem gl_of {W:World} {r:List (String×DataW Unit)} (h:laidMet Tryz.prog (("internal/strconv.uint64pow10",Lib.tabData .u64 Lib.pow10Tab)::r) W) (hs:W.ShapedOpen Tryz.prog):Gl W :=
 ⟨Lib.tabIs_of_head (t:=292) (e:=160) (n:=20) gPow (by kernel_rfl) (by kernel_rfl) (by kernel_rfl) (by kernel_rfl) (by kernel_rfl) h,
  Go.Proofs.cell_of_shapedOpen_int (zero := #[.int .i64 0]) (t:=3) hs (of_decide_eq_true (by kernel_rfl)) (by kernel_rfl) rfl (by kernel_rfl) (by kernel_rfl) (by kernel_rfl)⟩
end Ab
namespace Ab
open Go.ChangeShapes Go.WideShapes Go.RowKit
def gN (P:Program):Nat→TypeId→Nat→Option Bool
 | 0,_,_=>none
 | d+1,T,i=>match P.underlying T with
   | some (.int .i64)=>if i=0 then some false else none
   | some .string=>if i=0 then some true else none
   | some (.array n e)=>if 0<P.cellsOf e∧i/P.cellsOf e<n then gN P d e (i%P.cellsOf e) else none
   | some (.struct fs)=>(fs.toList.find? fun f=>decide (f.offset≤i∧i<f.offset+P.cellsOf f.type)).bind fun f=>gN P d f.type (i-f.offset)
   | _=>none
def isKind:Bool→Value→Prop
 | true,c => ∃ s:ByteArray,c = .string s∧s.size≤maxLen
 | false,c => ∃ n:Int,c = .int .i64 n∧(Lit.int .i64 n).wf=true
section
variable {H:Type} {enc:TypeId×Value→H} {P:Program} {w:World} {base:Nat} {spare:Nat→Bool} {held:Bool}
theorem piece {cs:List Value} {o n r:Nat} {c:Value} (h:((cs.drop o).take n)[r]?=some c):cs[o+r]?=some c:=by
 rw [List.getElem?_take] at h
 split at h
 ·rw [List.getElem?_drop] at h;exact h
 ·cases h
theorem trod_kind:∀ (d:Nat) {T:TypeId} {fuel i:Nat} {cs:List Value} {x:DataW H×List MemPlace} {k:Bool},DataW.trod enc P w base spare held fuel T cs=some x→gN P d T i=some k→∃ c,cs[i]?=some c∧isKind k c:=by
 intro d
 induction d with
 | zero=>intro T fuel i cs x k _ hk;cases hk
 | succ d ih =>
   intro T fuel i cs x k h hk
   unfold gN at hk
   split at hk
   ·rename_i hu
    split at hk <;> cases hk
    rename_i h0
    subst h0
    cases fuel with
    | zero=>cases h
    | succ m =>
      unfold DataW.trod at h
      rw [hu] at h
      split at h <;> simp_all
      obtain ⟨⟨_,hw⟩,_⟩:=h
      cases ‹IntKind.i64=_›
      exact ⟨_,rfl,hw⟩
   ·rename_i hu
    split at hk <;> cases hk
    rename_i h0
    subst h0
    cases fuel with
    | zero=>cases h
    | succ m =>
      unfold DataW.trod at h
      rw [hu] at h
      split at h <;> simp_all
      exact ⟨_,rfl,h.1⟩
   ·rename_i n e hu
    split at hk
    ·rename_i hi
     obtain ⟨xs,m,_,_,_,hlen,hat⟩:=DataW.trod_array hu h
     have hq:=hat (i/P.cellsOf e) hi.2
     rw [List.getElem?_eq_getElem (by omega)] at hq
     obtain ⟨c,hc,hk'⟩:=ih hq hk
     refine ⟨c,?_,hk'⟩
     have:=piece hc
     rw [Nat.mul_comm,Nat.div_add_mod] at this
     exact this
    ·cases hk
   ·rename_i fs hu
    rw [Option.bind_eq_some_iff] at hk
    obtain ⟨f,hf,hk⟩:=hk
    have hp:=List.find?_some hf
    simp only [decide_eq_true_eq] at hp
    obtain ⟨j,hj,hje⟩:=List.getElem_of_mem (List.mem_of_find?_eq_some hf)
    obtain ⟨xs,n,_,_,_,hlen,hat⟩:=DataW.trod_struct hu h
    have hq:=hat j f (by rw [← hje];simp)
    rw [List.getElem?_eq_getElem (by simp at hj;omega)] at hq
    obtain ⟨c,hc,hk'⟩:=ih hq hk
    refine ⟨c,?_,hk'⟩
    have:=piece hc
    rw [show f.offset+(i-f.offset)=i by omega] at this
    exact this
   ·cases hk
def oN (P:Program):Nat→TypeId→Bool
 | 0,_=>false
 | d+1,T=>match P.underlying T with
   | some (.int _)|some .string=>true
   | some (.array _ e)=>oN P d e
   | some (.struct fs)=>fs.toList.all fun f=>oN P d f.type
   | _=>false
theorem tT {α β:Type} {f g:α→Option (β×List MemPlace)}:∀ {l:List α} {xs:List (β×List MemPlace)},l.mapM f=some xs→(∀ a∈l,∀ x,f a=some x→g a=some x∧x.2 = [])→l.mapM g=some xs∧xs.flatMap (·.2) = []
 | [],xs,h,_=>by simp at h;subst h;exact ⟨rfl,rfl⟩
 | a::l,xs,h,hs=>by
   rw [List.mapM_cons] at h
   simp only [bind,Option.bind_eq_some_iff,pure,Option.some.injEq] at h
   obtain ⟨y,hy,ys,hys,rfl⟩:=h
   obtain ⟨g1,g2⟩:=hs a (by simp) y hy
   obtain ⟨i1,i2⟩:=tT hys fun b hb=>hs b (by simp [hb])
   exact ⟨by rw [List.mapM_cons,g1,i1];rfl,by simp [g2,i2]⟩
def SameRead (enc:TypeId×Value→H) (P:Program) (w:World) (base:Nat) (spare:Nat→Bool) (held:Bool) (w' : World) (base' : Nat) (spare' : Nat→Bool) (d:Nat):Prop :=
 ∀ (T:TypeId) (fuel:Nat) (cs:List Value) (x:DataW H×List MemPlace),oN P d T=true→DataW.trod enc P w base spare held fuel T cs=some x→DataW.trod enc P w' base' spare' held fuel T cs=some x∧x.2 = []
theorem trod_plain {w' : World} {base' : Nat} {spare' : Nat→Bool}:∀ d:Nat,SameRead enc P w base spare held w' base' spare' d:=by
 intro d
 induction d with
 | zero=>intro T fuel cs x hp;cases hp
 | succ d ih =>
   intro T fuel cs x hp h
   cases fuel with
   | zero=>cases h
   | succ m =>
     unfold oN at hp
     unfold DataW.trod at h ⊢
     split at hp
     ·rename_i hu
      rw [hu] at h ⊢
      split at h <;> simp_all <;> (obtain ⟨_,h⟩:=h;rw [← h])
     ·rename_i hu
      rw [hu] at h ⊢
      split at h <;> simp_all <;> (obtain ⟨_,h⟩:=h;rw [← h])
     ·rename_i hu
      rw [hu] at h ⊢
      split at h <;> simp_all
      obtain ⟨hl,xs,hxs,rfl⟩:=h
      obtain ⟨g1,g2⟩:=tT hxs fun a _ x hx=>ih _ _ _ _ hp hx
      exact ⟨⟨xs,g1,rfl⟩,g2⟩
     ·rename_i hu
      rw [hu] at h ⊢
      split at h <;> simp_all
      obtain ⟨hl,xs,hxs,rfl⟩:=h
      obtain ⟨g1,g2⟩:=tT hxs fun a ha x hx=>ih _ _ _ _ (by obtain ⟨j,hj,rfl⟩:=List.getElem_of_mem ha;simpa using hp j (by simpa using hj)) hx
      exact ⟨⟨xs,g1,rfl⟩,g2⟩
     ·cases hp
theorem qO {w' : World} {base' : Nat} {spare' : Nat→Bool} {T:TypeId} {v:Value} {D:DataW H} {p:List MemPlace} (hp:oN P 10 T=true) (h:DataW.Trod enc P w base spare held T v D p):p = []∧DataW.Trod enc P w' base' spare' held T v D []:=by
 obtain ⟨fuel,hf⟩:=h
 obtain ⟨h1,h2⟩:=trod_plain (w':=w') (base':=base') (spare':=spare') 10 _ _ _ _ hp hf
 simp only at h2
 subst h2
 exact ⟨rfl,fuel,h1⟩
theorem agg_of {r:Reach} {b0 n:Nat} {T:TypeId} {v:Value} (hu:(match P.underlying T with|some (.struct _)|some (.array _ _)=>true|_=>false)=true) (hC:P.cellsOf T=n) (hv:Value.okWide P w r b0 T v):∃ cs:Array Value,v = .agg cs∧cs.size=n:=by
 split at hu
 ·rename_i hs
  simp only [Value.okWide,hs] at hv
  obtain ⟨cs,h1,h2,_⟩:=hv
  exact ⟨cs,h1,h2.trans hC⟩
 ·rename_i hs
  simp only [Value.okWide,hs] at hv
  obtain ⟨cs,h1,h2,_⟩:=hv
  exact ⟨cs,h1,h2.trans hC⟩
 ·cases hu
theorem kP {T:TypeId} {cs:Array Value} {D:DataW H} {p:List MemPlace} {k:Bool} (i:Nat) (h:DataW.Trod enc P w base spare held T (.agg cs) D p) (hk:gN P 10 T i=some k):∃ c,cs[i]?=some c∧isKind k c:=by
 obtain ⟨fuel,hf⟩:=h
 obtain ⟨c,h1,h2⟩:=trod_kind 10 hf hk
 exact ⟨c,by simpa [Value.cells] using h1,h2⟩
theorem open_vec {r:Reach} {b0:Nat} {T:TypeId} {v:Value} {D:DataW H} {p:List MemPlace} (hu:(match P.underlying T with|some (.struct _)|some (.array _ _)=>true|_=>false)=true) (hC:P.cellsOf T=3)
 (hk:(gN P 10 T 0,gN P 10 T 1,gN P 10 T 2)=(some true,some true,some true)) (hv:Value.okWide P w r b0 T v) (h:DataW.Trod enc P w base spare held T v D p):∃ a b c:ByteArray,v = .agg #[.string a,.string b,.string c]∧a.size≤maxLen∧b.size≤maxLen∧c.size≤maxLen:=by
 simp only [Prod.mk.injEq] at hk
 obtain ⟨cs,rfl,hs⟩:=agg_of hu hC hv
 obtain ⟨c0,c1,c2,rfl⟩:∃ c0 c1 c2,cs = #[c0,c1,c2]:=by
  obtain ⟨l⟩:=cs
  match l,hs with
  | [c0,c1,c2],_=>exact ⟨c0,c1,c2,rfl⟩
 obtain ⟨_,e0,a,rfl,ha⟩:=kP 0 h hk.1
 obtain ⟨_,e1,b,rfl,hb⟩:=kP 1 h hk.2.1
 obtain ⟨_,e2,c,rfl,hc⟩:=kP 2 h hk.2.2
 simp at e0 e1 e2
 subst e0 e1 e2
 exact ⟨a,b,c,rfl,ha,hb,hc⟩
theorem open_txts {r:Reach} {b0 n:Nat} {T:TypeId} {v:Value} {D:DataW H} {p:List MemPlace} (hu:(match P.underlying T with|some (.struct _)|some (.array _ _)=>true|_=>false)=true) (hC:P.cellsOf T=n)
 (hk:((List.range n).all fun i=>gN P 10 T i==some true)=true) (hv:Value.okWide P w r b0 T v) (h:DataW.Trod enc P w base spare held T v D p):∃ l:List ByteArray,l.length=n∧v = .agg (l.map Value.string).toArray:=by
 obtain ⟨cs,rfl,hs⟩:=agg_of hu hC hv
 refine ⟨cs.toList.map fun v=>match v with | .string s=>s|_=>default,by simp [hs],?_⟩
 congr 1
 apply Array.toList_inj.1
 rw [List.map_map]
 apply List.ext_getElem
 ·simp
 ·intro i h1 h2
  have hi:i<n:=by simpa [hs] using h1
  have hk':=List.all_eq_true.1 hk i (List.mem_range.2 hi)
  obtain ⟨c,e,s,rfl,_⟩:=kP i h (eq_of_beq hk')
  have e2:cs.toList[i] = .string s:=by
   have:=Array.getElem?_eq_some_iff.1 e
   simpa using this.2
  simp [e2]
theorem open_half {r:Reach} {b0:Nat} {T:TypeId} {v:Value} {D:DataW H} {p:List MemPlace} (hu:(match P.underlying T with|some (.struct _)|some (.array _ _)=>true|_=>false)=true) (hC:P.cellsOf T=4)
 (hk:(gN P 10 T 0,gN P 10 T 1,gN P 10 T 2,gN P 10 T 3)=(some false,some false,some false,some true)) (hv:Value.okWide P w r b0 T v) (h:DataW.Trod enc P w base spare held T v D p):∃ (a b c:Int) (s:ByteArray),v = .agg #[.int .i64 a,.int .i64 b,.int .i64 c,.string s]∧s.size≤maxLen:=by
 simp only [Prod.mk.injEq] at hk
 obtain ⟨cs,rfl,hs⟩:=agg_of hu hC hv
 obtain ⟨c0,c1,c2,c3,rfl⟩:∃ c0 c1 c2 c3,cs = #[c0,c1,c2,c3]:=by
  obtain ⟨l⟩:=cs
  match l,hs with
  | [c0,c1,c2,c3],_=>exact ⟨c0,c1,c2,c3,rfl⟩
 obtain ⟨_,e0,a,rfl,ha⟩:=kP 0 h hk.1
 obtain ⟨_,e1,b,rfl,hb⟩:=kP 1 h hk.2.1
 obtain ⟨_,e2,c,rfl,hc⟩:=kP 2 h hk.2.2.1
 obtain ⟨_,e3,d,rfl,hd⟩:=kP 3 h hk.2.2.2
 simp at e0 e1 e2 e3
 subst e0 e1 e2 e3
 exact ⟨a,b,c,d,rfl,hd⟩
end
end Ab
end Go.Proofs.YtghlkblebhhahaaGreatDoor
