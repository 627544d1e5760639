/- Parts of the proof, joined. -/
import Derived.Test.YtejbgingjeedaaaGreatDoorJ16
import Derived.Test.YtejbgingjeedaaaGreatDoorJ17
import Derived.Test.YtejbgingjeedaaaGreatDoorJ11
import Derived.Test.YtejbgingjeedaaaGreatDoorJ15
import Derived.Test.YtejbgingjeedaaaGreatDoorJ10
import Derived.Test.YtejbgingjeedaaaGreatDoorJ12
set_option linter.unusedSimpArgs false
set_option linter.unusedVariables false
namespace Go.Proofs.YtejbgingjeedaaaGreatDoor.Ab
open Go.RowKit Go.Proofs.YtejbgingjeedaaaGreatDoor Pl
abbrev hL (a b c:Int) (s:ByteArray):AV Kn := .fv (.ag [.lit (.int .i64 a),.lit (.int .i64 b),.lit (.int .i64 c),bY s])
theorem iv_i3 {a b c:Int} (β:List Nat) (v:Value) (w:World) (h:(iv a b c).holds β v w):(i3 a b c).holds β v w:=by
 obtain ⟨cs,e,x1,r1,e1,h1,x2,r2,e2,h2,x3,r3,e3,h3,hr⟩:=h
 exact ⟨cs,e,x1,r1,e1,h1.1,x2,r2,e2,h2.1,x3,r3,e3,h3.1,hr⟩
abbrev Bg (z:Int):Prop:=z < -999999999∨999999999<z
section
variable {a b c:Int} {s:ByteArray}
theorem checkNormalF (h0:¬ (a=0∧b=0∧c=0)) (ha:¬ Bg a) (hb:¬ Bg b) (hc:¬ Bg c) (hg:Int.gcd (Int.gcd a b:Int) c=1):Fits Tryz.prog 137 [iv a b c] (it 0):=by
 have w:∀ {x:Int},¬ Bg x→x.natAbs<aD:=fun h=>by unfold Bg at h;rw [aJ];omega
 have g1:=dP (a:=0) (b:=a.natAbs) (by rw [aJ];omega) (w ha)
 have l1:Nat.gcd 0 a.natAbs<aD:=by rw [Nat.gcd_zero_left];exact w ha
 have g2:=dP l1 (w hb)
 have l2:Nat.gcd (Nat.gcd 0 a.natAbs) b.natAbs<aD:=by
  rw [Nat.gcd_zero_left]
  by_cases e:a=0
  ·rw [e];simpa using w hb
  ·exact Nat.lt_of_le_of_lt (Nat.gcd_le_left _ (by omega)) (w ha)
 have g3:=dP l2 (w hc)
 have e3:Nat.gcd (Nat.gcd (Nat.gcd 0 a.natAbs) b.natAbs) c.natAbs=1:=by
  rw [Nat.gcd_zero_left]
  exact hg
 rw [e3] at g3
 generalize Nat.gcd (Nat.gcd 0 a.natAbs) b.natAbs=x2 at *
 generalize Nat.gcd 0 a.natAbs=x1 at *
 unfold Bg at ha hb hc
 refine Fits.args (l := [i3 a b c]) ?_ fun β vs w ⟨v,r,e,h,hr⟩=>⟨v,r,e,iv_i3 β v w h,hr⟩
 refine jG Tryz.func137 fun w00=>?_
 refine kz3 (.tmp 6) (.tmp 7) a b c false (by rw [Bool.eq_false_iff];simp;omega) ?_
 refine klt (.tmp 13) (.const (.int .i64 (-999999999))) a (-999999999) false _ dB (by rw [decide_eq_false_iff_not];omega) ?_
 refine kgg (.tmp 16) (.const (.int .i64 999999999)) a 999999999 false _ dB (by rw [decide_eq_false_iff_not];omega) ?_
 refine kneg 21 a (by constructor <;> omega) (by constructor <;> omega) ?_
 refine kabs 20 22 a ?_
 refine kcvu 23 a.natAbs (by omega) ?_
 refine jC 182 [.fv (.sc (.lit (.int .u64 ((0:Nat):Int)))),.fv (.sc (.lit (.int .u64 (a.natAbs:Int))))] (g1) Tryz.call182 ?_
 refine klt (.tmp 13) (.const (.int .i64 (-999999999))) b (-999999999) false _ dB (by rw [decide_eq_false_iff_not];omega) ?_
 refine kgg (.tmp 16) (.const (.int .i64 999999999)) b 999999999 false _ dB (by rw [decide_eq_false_iff_not];omega) ?_
 refine kneg 21 b (by constructor <;> omega) (by constructor <;> omega) ?_
 refine kabs 20 22 b ?_
 refine kcvu 23 b.natAbs (by omega) ?_
 refine jC 182 [.fv (.sc (.lit (.int .u64 (x1:Int)))),.fv (.sc (.lit (.int .u64 (b.natAbs:Int))))] (g2) Tryz.call182 ?_
 refine klt (.tmp 13) (.const (.int .i64 (-999999999))) c (-999999999) false _ dB (by rw [decide_eq_false_iff_not];omega) ?_
 refine kgg (.tmp 16) (.const (.int .i64 999999999)) c 999999999 false _ dB (by rw [decide_eq_false_iff_not];omega) ?_
 refine kneg 21 c (by constructor <;> omega) (by constructor <;> omega) ?_
 refine kabs 20 22 c ?_
 refine kcvu 23 c.natAbs (by omega) ?_
 refine jC 182 [.fv (.sc (.lit (.int .u64 (x2:Int)))),.fv (.sc (.lit (.int .u64 (c.natAbs:Int))))] (g3) Tryz.call182 ?_
 exact jR Tryz.func137
end
def Bq (k:Nat) (q:Rat):Prop:=q.num.natAbs<10^k∧q.den<10^k
theorem Bq.mono {k l:Nat} {q:Rat} (h:Bq k q) (hk:k≤l):Bq l q :=
 ⟨Nat.lt_of_lt_of_le h.1 (Nat.pow_le_pow_right (by omega) hk),Nat.lt_of_lt_of_le h.2 (Nat.pow_le_pow_right (by omega) hk)⟩
theorem Bq.mul {j k:Nat} {p q:Rat} (hp:Bq j p) (hq:Bq k q):Bq (j+k) (p*q):=by
 rw [Rat.mul_def']
 obtain ⟨h1,h2⟩:=dS (p.num*q.num) (Nat.ne_of_gt (Nat.mul_pos p.den_pos q.den_pos))
 rw [Int.natAbs_mul] at h1
 refine ⟨Nat.lt_of_le_of_lt h1 ?_,Nat.lt_of_le_of_lt h2 ?_⟩
 ·rw [Nat.pow_add];exact Nat.mul_lt_mul'' hp.1 hq.1
 ·rw [Nat.pow_add];exact Nat.mul_lt_mul'' hp.2 hq.2
theorem Bq.add {j k:Nat} {p q:Rat} (hp:Bq j p) (hq:Bq k q):Bq (j+k+1) (p+q):=by
 rw [Rat.add_def']
 obtain ⟨h1,h2⟩:=dS (p.num*q.den+q.num*p.den) (Nat.ne_of_gt (Nat.mul_pos p.den_pos q.den_pos))
 have a1:p.num.natAbs*q.den<10^(j+k):=by rw [Nat.pow_add];exact Nat.mul_lt_mul'' hp.1 hq.2
 have a2:q.num.natAbs*p.den<10^(j+k):=by rw [Nat.pow_add,Nat.mul_comm];exact Nat.mul_lt_mul'' hp.2 hq.1
 have a3:p.den*q.den<10^(j+k):=by rw [Nat.pow_add];exact Nat.mul_lt_mul'' hp.2 hq.2
 have a4:10^(j+k+1)=10^(j+k)*10:=Nat.pow_succ _ _
 have a5:=Int.natAbs_add_le (p.num*q.den) (q.num*p.den)
 rw [Int.natAbs_mul,Int.natAbs_mul,Int.natAbs_natCast,Int.natAbs_natCast] at a5
 exact ⟨by omega,by omega⟩
theorem Bq.neg {k:Nat} {p:Rat} (hp:Bq k p):Bq k (-p):=by
 refine ⟨?_,hp.2⟩
 rw [Rat.neg_num,Int.natAbs_neg];exact hp.1
theorem Bq.sub {j k:Nat} {p q:Rat} (hp:Bq j p) (hq:Bq k q):Bq (j+k+1) (p-q):=by
 rw [Rat.sub_eq_add_neg]
 exact hp.add hq.neg
theorem Bq.inv {k:Nat} {p:Rat} (hp:Bq k p):Bq k p⁻¹:=by
 by_cases h0:p=0
 ·subst h0;rw [Rat.inv_zero];exact hp
 ·obtain ⟨_,e1,e2⟩:=Parts.inv (Parts.self p) h0
  exact ⟨by rw [← e1];exact hp.2,by rw [← e2];exact hp.1⟩
theorem Bq.div {j k:Nat} {p q:Rat} (hp:Bq j p) (hq:Bq k q):Bq (j+k) (p/q):=by
 rw [Rat.div_def]
 exact hp.mul hq.inv
theorem Bq.dt {k l n:Nat} {a b c x y z:Rat} (h1:Bq k a) (h2:Bq k b) (h3:Bq k c) (g1:Bq l x) (g2:Bq l y) (g3:Bq l z) (hn:3*(k+l)+2≤n):Bq n (dt a b c x y z) :=
 (((h1.mul g1).add (h2.mul g2)).add (h3.mul g3)).mono (by omega)
theorem Bq.wr {k:Nat} {q:Rat} (h:Bq k q) (hk:k≤600):Wr q:=by
 have h':=h.mono (l:=599+1) hk
 exact ⟨decB_size h'.1,decB_size h'.2⟩
theorem Bq.zs {k:Nat} {q:Rat} (h:Bq k q) (hk:k≤10000):Zs 10000 q:=by
 have h':=h.mono (l:=10000+1) (by omega)
 exact h'
theorem bq_of {k:Nat} {q:Rat} (h:Fw k q):Bq k q:=⟨nD h.1,nD h.2⟩
theorem tW (x:Rat):0≤x*x:=by
 rcases Rat.le_total (a:=0) (b:=x) with h|h
 ·exact Rat.mul_nonneg h h
 ·have h' : 0≤-x:=by grind
  have:=Rat.mul_nonneg h' h'
  grind
theorem tX {x y z:Rat} (h:dt x y z x y z=0):x=0∧y=0∧z=0:=by
 have h1:=tW x
 have h2:=tW y
 have h3:=tW z
 have a1:x*x=0:=by grind
 have a2:y*y=0:=by grind
 have a3:z*z=0:=by grind
 exact ⟨by grind,by grind,by grind⟩
theorem sQ {q:Rat} (h:q≠0):q.num≠0:=fun e=>h (Rat.num_eq_zero.1 e)
theorem dec_and {p q r:Prop} [Decidable p] [Decidable q] [Decidable r] (h:¬ (p∧q∧r)):(decide p&&decide q&&decide r)=false:=by
 rw [Bool.eq_false_iff]
 intro hh
 simp only [Bool.and_eq_true,decide_eq_true_eq] at hh
 exact h ⟨hh.1.1,hh.1.2,hh.2⟩
section
variable {a b c:Int} {s:ByteArray}
abbrev In (k x:Int):Prop := -k≤x∧x≤k
end
section
variable {a b c x y z d:Rat} {k l n:Nat}
theorem subV (h1:Bq k a) (h2:Bq k b) (h3:Bq k c) (g1:Bq l x) (g2:Bq l y) (g3:Bq l z) (hk:k≤10000) (hl:l≤10000):Fits Tryz.prog 50 [vS a b c,vS x y z] (vS (a-x) (b-y) (c-z)) :=
 subVecR (nE (subR (h1.zs hk) (g1.zs hl))) (nE (subR (h2.zs hk) (g2.zs hl))) (nE (subR (h3.zs hk) (g3.zs hl)))
theorem dotV (h1:Bq k a) (h2:Bq k b) (h3:Bq k c) (g1:Bq l x) (g2:Bq l y) (g3:Bq l z) (hk:2*(k+l)<10000):Fits Tryz.prog 52 [vS a b c,vS x y z] (tx (writeB (dt a b c x y z))) :=
 dotR (nE (kK (h1.zs (by omega)) (g1.zs (by omega)))) (nE (kK (h2.zs (by omega)) (g2.zs (by omega)))) (nE (pC ((h1.mul g1).zs (by omega)) ((h2.mul g2).zs (by omega))))
  (nE (kK (h3.zs (by omega)) (g3.zs (by omega)))) (nE (pC (((h1.mul g1).add (h2.mul g2)).zs (by omega)) ((h3.mul g3).zs (by omega))))
theorem squareV (h1:Bq k a) (h2:Bq k b) (h3:Bq k c) (hk:4*k<10000):Fits Tryz.prog 46 [vS a b c] (tx (writeB (dt a b c a b c))):=squareR (dotV h1 h2 h3 h1 h2 h3 (by omega))
end
theorem bq_int {z:Int} {k:Nat} (h:z.natAbs<10^k) (hk:0<k):Bq k (z:Rat):=by
 refine ⟨by rw [Rat.num_intCast];exact h,?_⟩
 rw [Rat.den_intCast]
 have:=Nat.pow_le_pow_right (n:=10) (by omega) hk
 omega
theorem chkB {k:Nat} {q:Rat} (h:Bq k q) (hk:k≤600):Fits Tryz.prog 102 [tx (writeB q)] (it 0):=chkF (h.wr hk).n (h.wr hk).d
section
variable {a1 a2 a3 b1 b2 b3 c1 c2 c3 m1 m2 m3:Rat} {z1 z2 z3:Int}
structure Thr (a1 a2 a3 b1 b2 b3 c1 c2 c3:Rat) (z1 z2 z3:Int) (e:Rat):Prop where
 e1:bO ((b2-a2)*(c3-a3)-(b3-a3)*(c2-a2)) ((b3-a3)*(c1-a1)-(b1-a1)*(c3-a3)) ((b1-a1)*(c2-a2)-(b2-a2)*(c1-a1))*((b2-a2)*(c3-a3)-(b3-a3)*(c2-a2))=z1
 e2:bO ((b2-a2)*(c3-a3)-(b3-a3)*(c2-a2)) ((b3-a3)*(c1-a1)-(b1-a1)*(c3-a3)) ((b1-a1)*(c2-a2)-(b2-a2)*(c1-a1))*((b3-a3)*(c1-a1)-(b1-a1)*(c3-a3))=z2
 e3:bO ((b2-a2)*(c3-a3)-(b3-a3)*(c2-a2)) ((b3-a3)*(c1-a1)-(b1-a1)*(c3-a3)) ((b1-a1)*(c2-a2)-(b2-a2)*(c1-a1))*((b1-a1)*(c2-a2)-(b2-a2)*(c1-a1))=z3
 ed:e=dt z1 z2 z3 a1 a2 a3
 h0:¬ (z1=0∧z2=0∧z3=0)
 s1:Sz z1
 s2:Sz z2
 s3:Sz z3
 g:Int.gcd (Int.gcd z1 z2:Int) z3=1
 b:Bq 300 e
 w:FitsW Tryz.prog Gl 24 [vS a1 a2 a3,vS b1 b2 b3,vS c1 c2 c3] (qV z1 z2 z3 e)
end
end Go.Proofs.YtejbgingjeedaaaGreatDoor.Ab
namespace Go.Proofs.YtejbgingjeedaaaGreatDoor.Ab
open Go.RowKit Go.Proofs.YtejbgingjeedaaaGreatDoor
section
variable {Kc:Value→Bool} {P:Program} {f:FuncId} {w00:World} {Out:Value→World→Prop}
theorem put_put (a:Act) (d:Tmp) (u v:Value):(a.put (some d) u).put (some d) v=a.put (some d) v:=by
 simp [Act.put]
theorem good_own {ops:Array Oper} {o:Oper} {rest:List Oper} {k:List Item} {st:St Kc} {n:Nat} {T:TypeId} {l:List (Seg Kc)} {d:Tmp} (ho:yW P (evL st.slot) (st.blocks.map some) o = .nsl n T l) (hd:o.dst=some d) (hw:pH st.slot ops o=some true)
 (hg:iP P f w00 Out (.plain ops rest k { st with slots:=st.slots.set d (.fv (.sc (.slc st.blocks.length 0 n n))),blocks:=st.blocks ++ [(T,l)] })):iP P f w00 Out (.plain ops (o::rest) k st):=by
 intro β a w hR
 refine iI (hR.wants hw) ?_
 have hs:∀ y∈o.op.operands,(evL st.slot y).holds β (a.eval y) w:=fun y _=>hR.ev y
 unfold Oper.wp
 obtain ⟨cs,e,hl⟩:=aAj ho hs
 rw [e]
 simp only [Oper.upon,hd]
 have h1:=hR.new (d:=d) (T:=T) hl
 have hnew:(β ++ [w.heap.size])[st.blocks.length]?=some w.heap.size:=by rw [← hR.len];simp
 have h2:=h1.put (dst:=some d) (x := .fv (.sc (.slc st.blocks.length 0 n n))) (v := .slice (some ⟨w.heap.size,0,none⟩) n n) ⟨w.heap.size,hnew,rfl⟩
 rw [put_put] at h2
 simp only [St.put,setS,List.set_set] at h2
 exact hg _ _ _ h2
def Cfg.own (P:Program) (c:Cfg Kc):Option (Cfg Kc):=match c with
 | .plain ops (o::rest) k st=>match yW P (evL st.slot) (st.blocks.map some) o,o.dst with
   | .nsl n T l,some d=>if pH st.slot ops o=some true then some (.plain ops rest k { st with slots:=st.slots.set d (.fv (.sc (.slc st.blocks.length 0 n n))),blocks:=st.blocks ++ [(T,l)] }) else none
   | _,_=>none
 | _=>none
theorem Ok.own {c c' : Cfg Kc} (h:c.own P=some c') (hg:Ok P f w00 Out c'):Ok P f w00 Out c:=by
 unfold Cfg.own at h
 split at h
 ·split at h
  ·rename_i ho hd
   split at h
   ·rename_i hw
    injection h with h
    subst h
    exact ⟨good_own ho hd hw hg.good⟩
   ·cases h
  ·cases h
 ·cases h
end
theorem kgoN {f:FuncId} {fn:Func} {args:List (AV Kn)} {x:AV Kn} (n:Nat) (hfn:Tryz.prog.funcs[f]?=some fn) (hc:(fn.body.isSome,decide (args.length≤fn.ntmps),x.noPtr,args.all AV.noPtr)=(true,true,true,true))
 (h:∀ w00,Ok Tryz.prog f w00 (fun v w=>x.holds [] v w) (dC Tryz.prog n (qF fn args))):Fits Tryz.prog f args x:=by
 simp only [Prod.mk.injEq] at hc
 exact fits_go hfn hc.1 hc.2.1 hc.2.2.1 hc.2.2.2 fun w00=>Ok.go (by kernel_rfl) lM n (h w00)
section
variable {f:FuncId} {w00:World} {Out:Value→World→Prop} {c:Cfg Kn}
theorem kown (h:(c.own Tryz.prog).isSome=true) (hg:Ok Tryz.prog f w00 Out (dC Tryz.prog 1000 ((c.own Tryz.prog).getD c))):Ok Tryz.prog f w00 Out c:=by
 obtain ⟨c',hc⟩:=Option.isSome_iff_exists.1 h
 rw [hc] at hg
 exact Ok.own hc (Ok.go (by kernel_rfl) lM 1000 hg)
end
end Go.Proofs.YtejbgingjeedaaaGreatDoor.Ab
namespace Go.Proofs.YtejbgingjeedaaaGreatDoor.Ab
open Go.RowKit Go.Proofs.YtejbgingjeedaaaGreatDoor Pl
section
variable {o1 o2 o3 x1 x2 x3 y1 y2 y3 z1 z2 z3:Rat}
theorem isZeroT {s:ByteArray} {r:Bool} (h:(s.toList==(⟨#[48]⟩:ByteArray).toList)=r):Fits Tryz.prog 94 [tx s] (bl r):=by
 refine jG Tryz.func94 fun w00=>?_
 refine dW (.binOp .eql 22 (.tmp 3) (.const (.string ⟨#[48]⟩)) 22) (.tmp 3) (.const (.string ⟨#[48]⟩)) (tx s) (lt ⟨#[48]⟩) (bl r) (by kernel_rfl) (by simp [Op.operands]) (by simp [Op.operands]) (fun ρ o β w ho hx hy=>⟨_,seq_run ho (aP hx) (aN hy) h,aX rfl⟩) ?_
 exact jR Tryz.func94
theorem isOriginT {a b c:ByteArray} {r:Bool} (h:(a.toList==(⟨#[48]⟩:ByteArray).toList&&b.toList==(⟨#[48]⟩:ByteArray).toList&&c.toList==(⟨#[48]⟩:ByteArray).toList)=r):Fits Tryz.prog 33 [t3 a b c] (bl r):=by
 refine jG Tryz.func33 fun w00=>?_
 refine jC 93 [] (originF) Tryz.call93 ?_
 refine dW (.binOp .eql 24 (.tmp 3) (.tmp 4) 24) (.tmp 3) (.tmp 4) (t3 a b c) (.fv (.ag [.lit (.string ⟨#[48]⟩),.lit (.string ⟨#[48]⟩),.lit (.string ⟨#[48]⟩)])) (bl r) (by kernel_rfl) (by simp [Op.operands]) (by simp [Op.operands]) (fun ρ o β w ho hx hy=>⟨_,agg_eq (by kernel_rfl) (h▸equalT a b c _ _ _ w) ho (s3_is hx) (l3_is hy),aX rfl⟩) ?_
 exact jR Tryz.func33
theorem crossR {a b c d e f p1 p2 p3 p4 p5 p6 r1 r2 r3:ByteArray} (h1:Fits Tryz.prog 106 [tx b,tx f] (tx p1)) (h2:Fits Tryz.prog 106 [tx c,tx e] (tx p2)) (h3:Fits Tryz.prog 105 [tx p1,tx p2] (tx r1)) (h4:Fits Tryz.prog 106 [tx c,tx d] (tx p3)) (h5:Fits Tryz.prog 106 [tx a,tx f] (tx p4)) (h6:Fits Tryz.prog 105 [tx p3,tx p4] (tx r2))
 (h7:Fits Tryz.prog 106 [tx a,tx e] (tx p5)) (h8:Fits Tryz.prog 106 [tx b,tx d] (tx p6)) (h9:Fits Tryz.prog 105 [tx p5,tx p6] (tx r3)):Fits Tryz.prog 148 [t3 a b c,t3 d e f] (t3 r1 r2 r3):=by
 refine jG Tryz.func148 fun w00=>?_
 refine jC 106 [tx b,tx f] (h1) Tryz.call106 ?_
 refine jC 106 [tx c,tx e] (h2) Tryz.call106 ?_
 refine jC 105 [tx p1,tx p2] (h3) Tryz.call105 ?_
 refine jC 106 [tx c,tx d] (h4) Tryz.call106 ?_
 refine jC 106 [tx a,tx f] (h5) Tryz.call106 ?_
 refine jC 105 [tx p3,tx p4] (h6) Tryz.call105 ?_
 refine jC 106 [tx a,tx e] (h7) Tryz.call106 ?_
 refine jC 106 [tx b,tx d] (h8) Tryz.call106 ?_
 refine jC 105 [tx p5,tx p6] (h9) Tryz.call105 ?_
 exact jR Tryz.func148
variable {k l:Nat}
theorem crossV {a b c x y z:Rat} (h1:Bq k a) (h2:Bq k b) (h3:Bq k c) (g1:Bq l x) (g2:Bq l y) (g3:Bq l z) (hk:k+l≤10000):Fits Tryz.prog 148 [vS a b c,vS x y z] (vS (b*z-c*y) (c*x-a*z) (a*y-b*x)) :=
 have m:∀ {p q:Rat},Bq k p→Bq l q→Fits Tryz.prog 106 [tx (writeB p),tx (writeB q)] (tx (writeB (p*q))):=fun hp hq=>nE (kK (hp.zs (by omega)) (hq.zs (by omega)))
 have s:∀ {p q r t:Rat},Bq k p→Bq l q→Bq k r→Bq l t→Fits Tryz.prog 105 [tx (writeB (p*q)),tx (writeB (r*t))] (tx (writeB (p*q-r*t))):=fun hp hq hr ht=>nE (subR ((hp.mul hq).zs (by omega)) ((hr.mul ht).zs (by omega)))
 crossR (m h2 g3) (m h3 g2) (s h2 g3 h3 g2) (m h3 g1) (m h1 g3) (s h3 g1 h1 g3) (m h1 g2) (m h2 g1) (s h1 g2 h2 g1)
theorem detR {a b c d e f g h i p q r v:ByteArray} (h1:Fits Tryz.prog 148 [t3 d e f,t3 g h i] (t3 p q r)) (h2:Fits Tryz.prog 52 [t3 a b c,t3 p q r] (tx v)):Fits Tryz.prog 96 [t3 a b c,t3 d e f,t3 g h i] (tx v):=by
 refine jG Tryz.func96 fun w00=>?_
 refine jC 148 [t3 d e f,t3 g h i] (h1) Tryz.call148 ?_
 refine jC 52 [t3 a b c,t3 p q r] (h2) Tryz.call52 ?_
 exact jR Tryz.func96
abbrev yV (o1 o2 o3 x1 x2 x3 y1 y2 y3 z1 z2 z3:ByteArray):AV Kn := .fv (.ag [bY o1,bY o2,bY o3,bY x1,bY x2,bY x3,bY y1,bY y2,bY y3,bY z1,bY z2,bY z3])
theorem stretchR {o1 o2 o3 x1 x2 x3 y1 y2 y3 z1 z2 z3 p q r:ByteArray} (h1:Fits Tryz.prog 46 [t3 x1 x2 x3] (tx p)) (h2:Fits Tryz.prog 46 [t3 y1 y2 y3] (tx q)) (h3:Fits Tryz.prog 46 [t3 z1 z2 z3] (tx r)):Fits Tryz.prog 15 [yV o1 o2 o3 x1 x2 x3 y1 y2 y3 z1 z2 z3] (t3 p q r):=by
 refine jG Tryz.func15 fun w00=>?_
 refine jC 46 [t3 x1 x2 x3] (h1) Tryz.call46 ?_
 refine jC 46 [t3 y1 y2 y3] (h2) Tryz.call46 ?_
 refine jC 46 [t3 z1 z2 z3] (h3) Tryz.call46 ?_
 exact jR Tryz.func15
end
theorem equalV (d:Nat) (a b c x y z:ByteArray) (w:World):(Op.equalIn (d+2) 24 (.agg #[.string a,.string b,.string c]) (.agg #[.string x,.string y,.string z])).run Tryz.prog w = .ok (a.toList==x.toList&&b.toList==y.toList&&c.toList==z.toList) w :=
 equal3 (d+1) (e:=22) (by kernel_rfl) (by kernel_rfl) (fun w=>by kernel_rfl) (fun w=>by kernel_rfl) (fun w=>run_equalIn_string w _ _ _ _ (by kernel_rfl)) (fun w=>run_equalIn_string w _ _ _ _ (by kernel_rfl)) (fun w=>run_equalIn_string w _ _ _ _ (by kernel_rfl)) w
theorem equalFr (a0 a1 a2 a3 a4 a5 a6 a7 a8 a9 b0 b1:ByteArray) (w:World):(Op.equal 26 (.agg #[.string a0,.string a1,.string a2,.string a3,.string a4,.string a5,.string a6,.string a7,.string a8,.string a9,.string b0,.string b1])
 (.agg #[.string a0,.string a1,.string a2,.string a3,.string a4,.string a5,.string a6,.string a7,.string a8,.string a9,.string b0,.string b1])).run Tryz.prog w = .ok true w:=by
 have u:=Tryz.isAgg24
 have z:=Tryz.sizeOf24
 have k:=fun (a b c:ByteArray) (w:World)=>equalV 9997 a b c a b c w
 simp only [beq_self_eq_true,Bool.and_self] at k
 unfold Op.equal Op.maxDepth
 rw [show (10000:Nat)=9999+1 from rfl,run_equalIn_struct w 9999 _ _ _ (by kernel_rfl) (by kernel_rfl)]
 simp only [Program.fieldsOf,Tryz.underlying26]
 simp [go_sem,u,z,Op.eqFields,k]
theorem vG {β:List Nat} {s:ByteArray} {l:List (Seg Kn)} {cs:List Value} {w:World} (h:holdsL β (bY s::l) cs w):∃ r,cs = .string s::r∧holdsL β l r w:=by
 obtain ⟨a,b,rfl,h1,h2⟩:=h
 rw [show a=_ from h1]
 exact ⟨b,rfl,h2⟩
theorem fr_is {a0 a1 a2 a3 a4 a5 a6 a7 a8 a9 b0 b1:ByteArray} {β:List Nat} {v:Value} {w:World} (h:(yV a0 a1 a2 a3 a4 a5 a6 a7 a8 a9 b0 b1).holds β v w) :
 v = .agg #[.string a0,.string a1,.string a2,.string a3,.string a4,.string a5,.string a6,.string a7,.string a8,.string a9,.string b0,.string b1]:=by
 obtain ⟨cs,rfl,h⟩:=h
 obtain ⟨r0,e0,h0⟩:=vG h
 obtain ⟨r1,e1,h1⟩:=vG h0
 obtain ⟨r2,e2,h2⟩:=vG h1
 obtain ⟨r3,e3,h3⟩:=vG h2
 obtain ⟨r4,e4,h4⟩:=vG h3
 obtain ⟨r5,e5,h5⟩:=vG h4
 obtain ⟨r6,e6,h6⟩:=vG h5
 obtain ⟨r7,e7,h7⟩:=vG h6
 obtain ⟨r8,e8,h8⟩:=vG h7
 obtain ⟨r9,e9,h9⟩:=vG h8
 obtain ⟨r10,e10,h10⟩:=vG h9
 obtain ⟨r11,e11,h11⟩:=vG h10
 rw [e0,e1,e2,e3,e4,e5,e6,e7,e8,e9,e10,e11,show r11 = [] from h11]
abbrev Tx:=Nat→ByteArray
abbrev m3:ByteArray:=⟨#[45,51]⟩
theorem hv_of {z1 z2 z3:Int} {d:Rat} (h0:¬ (z1=0∧z2=0∧z3=0)) (h1:¬ Bg z1) (h2:¬ Bg z2) (h3:¬ Bg z3) (hg:Int.gcd (Int.gcd z1 z2:Int) z3=1) (hd:Wr d):Hv z1 z2 z3 d :=
 ⟨by unfold Bg at h1;omega,by unfold Bg at h2;omega,by unfold Bg at h3;omega,hd,checkNormalF h0 h1 h2 h3 hg⟩
structure On (x1 x2 x3 y1 y2 y3 z1 z2 z3:Rat):Prop where
 xx:dt x1 x2 x3 x1 x2 x3=1
 yy:dt y1 y2 y3 y1 y2 y3=1
 zz:dt z1 z2 z3 z1 z2 z3=1
 xy:dt x1 x2 x3 y1 y2 y3=0
 yz:dt y1 y2 y3 z1 z2 z3=0
 zx:dt z1 z2 z3 x1 x2 x3=0
 c1:y2*z3-y3*z2=x1
 c2:y3*z1-y1*z3=x2
 c3:y1*z2-y2*z1=x3
section
variable {x1 x2 x3 y1 y2 y3 z1 z2 z3 u1 u2 u3 v1 v2 v3 w1 w2 w3:Rat}
theorem On.sgn (h:On x1 x2 x3 y1 y2 y3 z1 z2 z3):dt x1 x2 x3 (y2*z3-y3*z2) (y3*z1-y1*z3) (y1*z2-y2*z1)=1:=by
 rw [h.c1,h.c2,h.c3];exact h.xx
end
theorem kn_L {f:FuncId} {s:ByteArray} {z:Int} (h:Fits Tryz.prog f [rS s] (.fv (.sc (.lit (.int .i64 z))))):Fits Tryz.prog f [tx s] (it z):=by
 intro β w vs hv
 obtain ⟨v,rfl,h1⟩:=dE hv
 rw [aP h1]
 exact (h β w [.string s] ⟨_,_,rfl,cN,rfl⟩).mono fun e w' ⟨v,e1,e2,e3⟩=>⟨v,e1,e2,by rw [bZ e3];exact aX rfl⟩
structure Bn (k:Nat) (x1 x2 x3 y1 y2 y3 z1 z2 z3:Rat):Prop where
 x1:Bq k x1
 x2:Bq k x2
 x3:Bq k x3
 y1:Bq k y1
 y2:Bq k y2
 y3:Bq k y3
 z1:Bq k z1
 z2:Bq k z2
 z3:Bq k z3
section
variable {x1 x2 x3 y1 y2 y3 z1 z2 z3 u1 u2 u3 v1 v2 v3 w1 w2 w3 p1 p2 p3 m1 m2 m3:Rat} {k:Nat}
theorem Bn.wf (h:Bn k x1 x2 x3 y1 y2 y3 z1 z2 z3) (hk:k≤600):Wf ((0:Int):Rat) ((0:Int):Rat) ((0:Int):Rat) x1 x2 x3 y1 y2 y3 z1 z2 z3 :=
 have b0:Wr ((0:Int):Rat):=(bq_int (k:=1) (by decide) (by omega)).wr (by omega)
 ⟨⟨b0,b0,b0⟩,⟨h.x1.wr hk,h.x2.wr hk,h.x3.wr hk⟩,⟨h.y1.wr hk,h.y2.wr hk,h.y3.wr hk⟩,⟨h.z1.wr hk,h.z2.wr hk,h.z3.wr hk⟩⟩
theorem zero_no {a b c:Rat} (h:dt a b c a b c=1) (h1:a=0) (h2:b=0) (h3:c=0):False:=by
 have e:dt a b c a b c=0:=by rw [h1,h2,h3];unfold dt;grind
 rw [e] at h
 exact absurd h (by decide)
theorem one_ne {a b c:Rat} (h:dt a b c a b c=1):(decide (a=0)&&decide (b=0)&&decide (c=0))=false:=dec_and fun ⟨h1,h2,h3⟩=>zero_no h h1 h2 h3
theorem On.fv (h:On x1 x2 x3 y1 y2 y3 z1 z2 z3) (b:Bn k x1 x2 x3 y1 y2 y3 z1 z2 z3) (hk:k≤600):Fv ((0:Int):Rat) ((0:Int):Rat) ((0:Int):Rat) x1 x2 x3 y1 y2 y3 z1 z2 z3 :=
 Fr.fv_of (b.wf hk) ⟨one_ne h.xx,one_ne h.yy,one_ne h.zz,h.xy,h.yz,h.zx,by rw [h.sgn];rfl⟩
end
theorem t0_eq {q:Rat} (h:q=0):((writeB q).toList==(⟨#[48]⟩:ByteArray).toList)=true:=by
 have e:writeB q=⟨#[48]⟩:=by rw [h];exact w0
 rw [e]
 exact beq_self_eq_true _
theorem t0_ne {q:Rat} (h:q≠0):((writeB q).toList==(⟨#[48]⟩:ByteArray).toList)=false:=dZ (kU (sQ h))
theorem gcd_neg3 (z1 z2 z3:Int):Int.gcd (Int.gcd (-z1) (-z2):Int) (-z3)=Int.gcd (Int.gcd z1 z2:Int) z3:=by
 rw [Int.neg_gcd,Int.gcd_neg,Int.gcd_neg]
section
variable {a1 a2 a3 b1 b2 b3 c1 c2 c3 d1 d2 d3:Rat} {z1 z2 z3 i1 i2 i3 j1 j2 j3:Int} {e u v:Rat}
theorem Thr.hv (h:Thr a1 a2 a3 b1 b2 b3 c1 c2 c3 z1 z2 z3 e):Hv z1 z2 z3 e:=by
 have h1:=h.s1
 have h2:=h.s2
 have h3:=h.s3
 exact hv_of h.h0 (by unfold Bg;omega) (by unfold Bg;omega) (by unfold Bg;omega) h.g (h.b.wr (by omega))
theorem Thr.op (h:Thr a1 a2 a3 b1 b2 b3 c1 c2 c3 z1 z2 z3 e):Hv (-z1) (-z2) (-z3) (-e):=by
 have h1:=h.s1
 have h2:=h.s2
 have h3:=h.s3
 exact hv_of (fun ⟨a,b,c⟩=>h.h0 ⟨by omega,by omega,by omega⟩) (by unfold Bg;omega) (by unfold Bg;omega) (by unfold Bg;omega) (by rw [gcd_neg3];exact h.g) (h.b.neg.wr (by omega))
end
open Classical in
open Classical in
theorem t0_dec (q:Rat):((writeB q).toList==(⟨#[48]⟩:ByteArray).toList)=decide (q=0):=by
 by_cases h:q=0
 ·rw [decide_eq_true h,t0_eq h]
 ·rw [decide_eq_false h,t0_ne h]
theorem isZeroQ (q:Rat):Fits Tryz.prog 94 [tx (writeB q)] (bl (decide (q=0))):=isZeroT (t0_dec q)
theorem signQ (q:Rat):Fits Tryz.prog 95 [tx (writeB q)] (it (nK q)):=by
 unfold nK bS
 by_cases h:q.num<0
 ·rw [if_pos h];exact kn_L (signFn h)
 ·rw [if_neg h]
  by_cases h' : 0<q.num
  ·rw [if_pos h'];exact kn_L (signFp h')
  ·rw [if_neg h'];exact kn_L (signF0 (by omega))
section
variable {o1 o2 o3 x1 x2 x3 y1 y2 y3 z1 z2 z3 p q r v:ByteArray} {b1 b2 b3 b4 i1 i2 i3:Bool} {s z n:Int}
theorem shapeZ (h1:Fits Tryz.prog 52 [t3 x1 x2 x3,t3 y1 y2 y3] (tx p)) (j1:Fits Tryz.prog 94 [tx p] (bl i1)) (h2:Fits Tryz.prog 52 [t3 y1 y2 y3,t3 z1 z2 z3] (tx q)) (j2:Fits Tryz.prog 94 [tx q] (bl i2)) (h3:Fits Tryz.prog 52 [t3 z1 z2 z3,t3 x1 x2 x3] (tx r)) (j3:Fits Tryz.prog 94 [tx r] (bl i3))
 (h4:Fits Tryz.prog 96 [t3 x1 x2 x3,t3 y1 y2 y3,t3 z1 z2 z3] (tx v)) (h5:Fits Tryz.prog 95 [tx v] (it s)) (hs:s=1∨s=0∨s = -1) (hz:z=if (i1&&i2&&i3&&s==1)=true then 0 else 15):Fits Tryz.prog 34 [yV o1 o2 o3 x1 x2 x3 y1 y2 y3 z1 z2 z3] (it z):=by
 refine jG Tryz.func34 fun w00=>?_
 refine jC 52 [t3 x1 x2 x3,t3 y1 y2 y3] (h1) Tryz.call52 ?_
 cases i1
 ·obtain rfl:z=15:=hz
  refine jC 94 [tx p] (j1) Tryz.call94 ?_
  exact jR Tryz.func34
 refine jC 94 [tx p] (j1) Tryz.call94 ?_
 refine jC 52 [t3 y1 y2 y3,t3 z1 z2 z3] (h2) Tryz.call52 ?_
 cases i2
 ·obtain rfl:z=15:=hz
  refine jC 94 [tx q] (j2) Tryz.call94 ?_
  exact jR Tryz.func34
 refine jC 94 [tx q] (j2) Tryz.call94 ?_
 refine jC 52 [t3 z1 z2 z3,t3 x1 x2 x3] (h3) Tryz.call52 ?_
 cases i3
 ·obtain rfl:z=15:=hz
  refine jC 94 [tx r] (j3) Tryz.call94 ?_
  exact jR Tryz.func34
 refine jC 94 [tx r] (j3) Tryz.call94 ?_
 refine jC 96 [t3 x1 x2 x3,t3 y1 y2 y3,t3 z1 z2 z3] (h4) Tryz.call96 ?_
 rcases hs with rfl|rfl|rfl
 ·obtain rfl:z=0:=hz
  refine jC 95 [tx v] (h5) Tryz.call95 ?_
  exact jR Tryz.func34
 ·obtain rfl:z=15:=hz
  refine jC 95 [tx v] (h5) Tryz.call95 ?_
  exact jR Tryz.func34
 ·obtain rfl:z=15:=hz
  refine jC 95 [tx v] (h5) Tryz.call95 ?_
  exact jR Tryz.func34
theorem checkFrameZ (h1:Fits Tryz.prog 16 [t3 o1 o2 o3] (it 0)) (h2:Fits Tryz.prog 16 [t3 x1 x2 x3] (it 0)) (h3:Fits Tryz.prog 16 [t3 y1 y2 y3] (it 0)) (h4:Fits Tryz.prog 16 [t3 z1 z2 z3] (it 0))
 (j1:Fits Tryz.prog 33 [t3 x1 x2 x3] (bl i1)) (j2:Fits Tryz.prog 33 [t3 y1 y2 y3] (bl i2)) (j3:Fits Tryz.prog 33 [t3 z1 z2 z3] (bl i3)) (h5:Fits Tryz.prog 34 [yV o1 o2 o3 x1 x2 x3 y1 y2 y3 z1 z2 z3] (it s)) (hz:z=if (i1 || i2 || i3)=true then 6 else s) :
 Fits Tryz.prog 7 [yV o1 o2 o3 x1 x2 x3 y1 y2 y3 z1 z2 z3] (it z):=by
 refine kgoN 15 Tryz.func7 (by kernel_rfl) fun w00=>?_
 refine kown (by kernel_rfl) ?_
 refine jC 16 [t3 o1 o2 o3] (h1) Tryz.call16 ?_
 refine jC 16 [t3 x1 x2 x3] (h2) Tryz.call16 ?_
 refine jC 16 [t3 y1 y2 y3] (h3) Tryz.call16 ?_
 refine jC 16 [t3 z1 z2 z3] (h4) Tryz.call16 ?_
 cases i1
 ·refine jC 33 [t3 x1 x2 x3] (j1) Tryz.call33 ?_
  cases i2
  ·refine jC 33 [t3 y1 y2 y3] (j2) Tryz.call33 ?_
   cases i3
   ·obtain rfl:z=s:=hz
    refine jC 33 [t3 z1 z2 z3] (j3) Tryz.call33 ?_
    refine jC 34 [yV o1 o2 o3 x1 x2 x3 y1 y2 y3 z1 z2 z3] (h5) Tryz.call34 ?_
    exact jR Tryz.func7
   ·obtain rfl:z=6:=hz
    refine jC 33 [t3 z1 z2 z3] (j3) Tryz.call33 ?_
    exact jR Tryz.func7
  ·obtain rfl:z=6:=hz
   refine jC 33 [t3 y1 y2 y3] (j2) Tryz.call33 ?_
   exact jR Tryz.func7
 ·obtain rfl:z=6:=hz
  refine jC 33 [t3 x1 x2 x3] (j1) Tryz.call33 ?_
  exact jR Tryz.func7
end
section
variable {o1 o2 o3 x1 x2 x3 y1 y2 y3 z1 z2 z3:Rat} {k:Nat}
theorem tY (a b c:Rat):Fits Tryz.prog 33 [vS a b c] (bl (decide (a=0)&&decide (b=0)&&decide (c=0))):=isOriginT (by rw [t0_dec,t0_dec,t0_dec])
end
section
variable {o1 o2 o3 x1 x2 x3 y1 y2 y3 z1 z2 z3:Rat}
theorem xZ {r1 r2 r3:Bool} (h:Lm 31 x1 x2 x3 y1 y2 y3 z1 z2 z3) (e1:decide (dt x1 x2 x3 y1 y2 y3=0)=r1) (e2:decide (dt y1 y2 y3 z1 z2 z3=0)=r2) (e3:decide (dt z1 z2 z3 x1 x2 x3=0)=r3) :
 Fits Tryz.prog 146 [kY o1 o2 o3 x1 x2 x3 y1 y2 y3 z1 z2 z3] (bl (r1&&r2&&r3)):=by
 refine jG Tryz.func146 fun w00=>?_
 refine jC 62 [vc x1 x2 x3,vc y1 y2 y3] (nM h.x1 h.x2 h.x3 h.y1 h.y2 h.y3) Tryz.call62 ?_
 refine jC 81 [num (dt x1 x2 x3 y1 y2 y3)] (bK e1) Tryz.call81 ?_
 cases r1
 ·exact jR Tryz.func146
 refine jC 62 [vc y1 y2 y3,vc z1 z2 z3] (nM h.y1 h.y2 h.y3 h.z1 h.z2 h.z3) Tryz.call62 ?_
 refine jC 81 [num (dt y1 y2 y3 z1 z2 z3)] (bK e2) Tryz.call81 ?_
 cases r2
 ·exact jR Tryz.func146
 refine jC 62 [vc z1 z2 z3,vc x1 x2 x3] (nM h.z1 h.z2 h.z3 h.x1 h.x2 h.x3) Tryz.call62 ?_
 refine jC 81 [num (dt z1 z2 z3 x1 x2 x3)] (bK e3) Tryz.call81 ?_
 cases r3 <;> (exact kret Tryz.func146 (by kernel_rfl))
abbrev ax0 (a b c:Rat):Bool:=decide (a=0)&&decide (b=0)&&decide (c=0)
abbrev aAf (x1 x2 x3 y1 y2 y3 z1 z2 z3:Rat):Rat:=dt x1 x2 x3 (y2*z3-y3*z2) (y3*z1-y1*z3) (y1*z2-y2*z1)
abbrev orB (x1 x2 x3 y1 y2 y3 z1 z2 z3:Rat):Bool:=decide (dt x1 x2 x3 y1 y2 y3=0)&&decide (dt y1 y2 y3 z1 z2 z3=0)&&decide (dt z1 z2 z3 x1 x2 x3=0)
def ckF (x1 x2 x3 y1 y2 y3 z1 z2 z3:Rat):Int :=
 if (ax0 x1 x2 x3 || ax0 y1 y2 y3 || ax0 z1 z2 z3)=true then 6 else if orB x1 x2 x3 y1 y2 y3 z1 z2 z3=true∧¬ nK (aAf x1 x2 x3 y1 y2 y3 z1 z2 z3)<0 then 0 else 15
theorem sR (q:Rat):nK q=1∨nK q=0∨nK q = -1:=by
 unfold nK bS
 split
 ·exact .inr (.inr rfl)
 ·split
  ·exact .inl rfl
  ·exact .inr (.inl rfl)
theorem checkFrAnyF {z:Int} (l:Lm 25 x1 x2 x3 y1 y2 y3 z1 z2 z3) (hz:ckF x1 x2 x3 y1 y2 y3 z1 z2 z3=z):Fits Tryz.prog 98 [kY o1 o2 o3 x1 x2 x3 y1 y2 y3 z1 z2 z3] (it z):=by
 have hor:=xZ (o1:=o1) (o2:=o2) (o3:=o3) (Lm.mono l (by decide)) (x1:=x1) (x2:=x2) (x3:=x3) (y1:=y1) (y2:=y2) (y3:=y3) (z1:=z1) (z2:=z2) (z3:=z3) rfl rfl rfl
 obtain ⟨a1,a2,a3,b1,b2,b3,c1,c2,c3⟩:=l
 obtain ⟨s,hs⟩:∃ s,nK (aAf x1 x2 x3 y1 y2 y3 z1 z2 z3)=s:=⟨_,rfl⟩
 have hsv:s=1∨s=0∨s = -1:=hs▸sR _
 have hsF:Fits Tryz.prog 90 [num (dt x1 x2 x3 (y2*z3-y3*z2) (y3*z1-y1*z3) (y1*z2-y2*z1))] (it s):=by
  rw [← hs]
  exact signF
 obtain ⟨r1,e1⟩:∃ r,ax0 x1 x2 x3=r:=⟨_,rfl⟩
 obtain ⟨r2,e2⟩:∃ r,ax0 y1 y2 y3=r:=⟨_,rfl⟩
 obtain ⟨r3,e3⟩:∃ r,ax0 z1 z2 z3=r:=⟨_,rfl⟩
 obtain ⟨r4,e4⟩:∃ r,orB x1 x2 x3 y1 y2 y3 z1 z2 z3=r:=⟨_,rfl⟩
 unfold ckF at hz
 rw [e1,e2,e3,e4,hs] at hz
 have hor:Fits Tryz.prog 146 [kY o1 o2 o3 x1 x2 x3 y1 y2 y3 z1 z2 z3] (bl r4):=by rw [← e4];exact hor
 refine jG Tryz.func98 fun w00=>?_
 refine jC 60 [vc x1 x2 x3] (eZ e1) Tryz.call60 ?_
 cases r1
 case true =>
  obtain rfl:z=6:=hz.symm
  exact jR Tryz.func98
 refine jC 60 [vc y1 y2 y3] (eZ e2) Tryz.call60 ?_
 cases r2
 case true =>
  obtain rfl:z=6:=hz.symm
  exact jR Tryz.func98
 refine jC 60 [vc z1 z2 z3] (eZ e3) Tryz.call60 ?_
 cases r3
 case true =>
  obtain rfl:z=6:=hz.symm
  exact jR Tryz.func98
 refine jC 146 _ (hor) Tryz.call146 ?_
 cases r4
 case false =>
  obtain rfl:z=15:=by rw [← hz];rfl
  exact jR Tryz.func98
 refine jC 61 [vc y1 y2 y3,vc z1 z2 z3] (xJ (by repeat' (first|exact Lf.mono (by assumption) (by decide)|refine Lf.muln ?_ ?_ (by decide)|refine Lf.addn ?_ ?_ (by decide)|refine Lf.subn ?_ ?_ (by decide))) (by repeat' (first|exact Lf.mono (by assumption) (by decide)|refine Lf.muln ?_ ?_ (by decide)|refine Lf.addn ?_ ?_ (by decide)|refine Lf.subn ?_ ?_ (by decide))) (by repeat' (first|exact Lf.mono (by assumption) (by decide)|refine Lf.muln ?_ ?_ (by decide)|refine Lf.addn ?_ ?_ (by decide)|refine Lf.subn ?_ ?_ (by decide))) (by repeat' (first|exact Lf.mono (by assumption) (by decide)|refine Lf.muln ?_ ?_ (by decide)|refine Lf.addn ?_ ?_ (by decide)|refine Lf.subn ?_ ?_ (by decide))) (by repeat' (first|exact Lf.mono (by assumption) (by decide)|refine Lf.muln ?_ ?_ (by decide)|refine Lf.addn ?_ ?_ (by decide)|refine Lf.subn ?_ ?_ (by decide))) (by repeat' (first|exact Lf.mono (by assumption) (by decide)|refine Lf.muln ?_ ?_ (by decide)|refine Lf.addn ?_ ?_ (by decide)|refine Lf.subn ?_ ?_ (by decide)))) Tryz.call61 ?_
 refine jC 62 [vc x1 x2 x3,vc (y2*z3-y3*z2) (y3*z1-y1*z3) (y1*z2-y2*z1)] (nM (by repeat' (first|exact Lf.mono (by assumption) (by decide)|refine Lf.muln ?_ ?_ (by decide)|refine Lf.addn ?_ ?_ (by decide)|refine Lf.subn ?_ ?_ (by decide))) (by repeat' (first|exact Lf.mono (by assumption) (by decide)|refine Lf.muln ?_ ?_ (by decide)|refine Lf.addn ?_ ?_ (by decide)|refine Lf.subn ?_ ?_ (by decide))) (by repeat' (first|exact Lf.mono (by assumption) (by decide)|refine Lf.muln ?_ ?_ (by decide)|refine Lf.addn ?_ ?_ (by decide)|refine Lf.subn ?_ ?_ (by decide))) (by repeat' (first|exact Lf.mono (by assumption) (by decide)|refine Lf.muln ?_ ?_ (by decide)|refine Lf.addn ?_ ?_ (by decide)|refine Lf.subn ?_ ?_ (by decide))) (by repeat' (first|exact Lf.mono (by assumption) (by decide)|refine Lf.muln ?_ ?_ (by decide)|refine Lf.addn ?_ ?_ (by decide)|refine Lf.subn ?_ ?_ (by decide))) (by repeat' (first|exact Lf.mono (by assumption) (by decide)|refine Lf.muln ?_ ?_ (by decide)|refine Lf.addn ?_ ?_ (by decide)|refine Lf.subn ?_ ?_ (by decide)))) Tryz.call62 ?_
 refine jC 90 [num (dt x1 x2 x3 (y2*z3-y3*z2) (y3*z1-y1*z3) (y1*z2-y2*z1))] (hsF) Tryz.call90 ?_
 rcases hsv with rfl|rfl|rfl
 ·obtain rfl:z=0:=by rw [← hz];rfl
  exact jR Tryz.func98
 ·obtain rfl:z=0:=by rw [← hz];rfl
  exact jR Tryz.func98
 ·obtain rfl:z=15:=by rw [← hz];rfl
  exact jR Tryz.func98
end
structure F12 where
 o1:ByteArray
 o2:ByteArray
 o3:ByteArray
 x1:ByteArray
 x2:ByteArray
 x3:ByteArray
 y1:ByteArray
 y2:ByteArray
 y3:ByteArray
 z1:ByteArray
 z2:ByteArray
 z3:ByteArray
abbrev F12.av (f:F12):AV Kn := .fv (.ag [bY f.o1,bY f.o2,bY f.o3,bY f.x1,bY f.x2,bY f.x3,bY f.y1,bY f.y2,bY f.y3,bY f.z1,bY f.z2,bY f.z3])
structure F12.Rb (f:F12):Prop where
 o:Rb3 f.o1 f.o2 f.o3
 x:Rb3 f.x1 f.x2 f.x3
 y:Rb3 f.y1 f.y2 f.y3
 z:Rb3 f.z1 f.z2 f.z3
def F12.ct (f:F12):Int:=f2 (f2 (f2 (c3 f.o1 f.o2 f.o3) (c3 f.x1 f.x2 f.x3)) (c3 f.y1 f.y2 f.y3)) (c3 f.z1 f.z2 f.z3)
noncomputable def F12.ck (f:F12):Int:=if f.ct=0 then ckF (cR f.x1) (cR f.x2) (cR f.x3) (cR f.y1) (cR f.y2) (cR f.y3) (cR f.z1) (cR f.z2) (cR f.z3) else f.ct
theorem kW (s:ByteArray):Wr (cR s):=by
 by_cases h:bW s=0
 ·exact (valB_ok h).2
 ·rw [valB_bad h]
  have h0:decB 0=⟨#[48]⟩:=dec0
  have h1:decB 1=⟨#[49]⟩:=dec1
  exact ⟨by show (decB 0).size≤600;rw [h0];decide,by show (decB 1).size≤600;rw [h1];decide⟩
theorem rv_of {a b c:ByteArray} {z:Int} (h:Rb3 a b c) (hz:c3 a b c=z) (W:World) (hG:Gl W):Calls Tryz.prog 37 #[.agg #[.string a,.string b,.string c]] W (Fr.RV (cR a) (cR b) (cR c) z W):=by
 refine (oO h hz [] W [.agg #[.string a,.string b,.string c]] hG ⟨_,_,rfl,⟨[.string a,.string b,.string c],rfl,[.string a],_,rfl,rfl,[.string b],_,rfl,rfl,[.string c],_,rfl,rfl,rfl⟩,rfl⟩).mono ?_
 rintro e w' ⟨v,e1,e2,vs,rfl,u,r,rfl,h1,u2,r2,rfl,h2,h3⟩
 obtain ⟨k,rfl,h4⟩:=Fr.vc9 (rM.1 h1)
 have h5:[u2] = [.int .i64 z]:=h2.1
 injection h5 with h5
 rw [show r2 = [] from h3,h5] at e1
 exact ⟨k,e1,h4,e2⟩
def csF:CS Kn where
 size:=36
 cold:=true
 pred cs _:=cs.length=36∧∀ c∈cs,c.oneCell'=true∧Kn c=false
 stable _ _ _ h _:=h
 len _ _ h:=h.1
 one _ _ h c hc:=(h.2 c hc).1
 iscold _ _ _ h c hc:=(h.2 c hc).2
theorem kX (f:F12) (h:f.Rb) {z:Int} (hz:f.ck=z) (h0:z≠0):FitsW Tryz.prog Gl 35 [f.av] (.tup [.ag [.sp csF],.sc (lz z)]):=by
 intro β w vs hG hv
 obtain ⟨v,rfl,cs,rfl,h1⟩:=dE hv
 have e:=Fr.holds_txt [f.o1,f.o2,f.o3,f.x1,f.x2,f.x3,f.y1,f.y2,f.y3,f.z1,f.z2,f.z3] cs h1
 rw [e]
 have lm:Lm 25 (cR f.x1) (cR f.x2) (cR f.x3) (cR f.y1) (cR f.y2) (cR f.y3) (cR f.z1) (cR f.z2) (cR f.z3) :=
  Lm.mono ⟨(kW _).lf,(kW _).lf,(kW _).lf,(kW _).lf,(kW _).lf,(kW _).lf,(kW _).lf,(kW _).lf,(kW _).lf⟩ (by decide)
 obtain ⟨zc,hzc⟩:∃ zc,ckF (cR f.x1) (cR f.x2) (cR f.x3) (cR f.y1) (cR f.y2) (cR f.y3) (cR f.z1) (cR f.z2) (cR f.z3)=zc:=⟨_,rfl⟩
 have hzz:(if f.ct=0 then zc else f.ct)=z:=by rw [← hz,← hzc];rfl
 refine (Fr.readFrame_gen f.o1 f.o2 f.o3 f.x1 f.x2 f.x3 f.y1 f.y2 f.y3 f.z1 f.z2 f.z3 _ _ _ _ _ _ _ _ _ _ _ _ _ _ _ _ f.ct zc (kN _ _ _) (kN _ _ _) (kN _ _ _) (kN _ _ _) rfl (rv_of h.o rfl) (rv_of h.x rfl) (rv_of h.y rfl) (rv_of h.z rfl) (fun _ W o x y z k0 k1 k2 k3=>?_) w hG).mono ?_
 ·refine (checkFrAnyF (z:=zc) lm hzc [] W [.agg (Fr.frL o x y z).toArray] ⟨_,_,rfl,Fr.fr_holds k0 k1 k2 k3,rfl⟩).mono ?_
  rintro e w' ⟨v,e1,e2,h1⟩
  have h5:[v] = [.int .i64 zc]:=h1.1
  injection h5 with h5
  exact ⟨by rw [e1,h5],e2⟩
 rintro e w' ⟨o,x,y,z',e1,v0,v1,v2,v3,hb⟩
 rw [hzz] at e1
 have hcs:∀ a b c d:Fr.C9,csF.pred (Fr.frL a b c d) w':=fun a b c d=>⟨rfl,fun v hv=>⟨Fr.frL_one a b c d v hv,by
  have hh:(Fr.frL a b c d).all (fun c => !(Kn c))=true:=by simp [Fr.frL,Fr.C9.cells,Kn]
  have:=List.all_eq_true.1 hh v hv
  simpa using this⟩⟩
 by_cases ht:f.ct=0
 ·rw [if_pos ht] at e1
  exact ⟨_,e1,hb,[.agg (Fr.frL o x y z').toArray,.int .i64 z],rfl,_,_,rfl,⟨_,rfl,_,[],(List.append_nil _).symm,hcs _ _ _ _,rfl⟩,_,_,rfl,⟨rfl,rfl⟩,rfl⟩
 ·rw [if_neg ht] at e1
  exact ⟨_,e1,hb,[.agg (Fr.frL Fr.C9.zero Fr.C9.zero Fr.C9.zero Fr.C9.zero).toArray,.int .i64 z],rfl,_,_,rfl,⟨_,rfl,_,[],(List.append_nil _).symm,hcs _ _ _ _,rfl⟩,_,_,rfl,⟨rfl,rfl⟩,rfl⟩
abbrev nz (d:Nat):AV Kr := .fv (.ag [.lit (.bool true),.sp (pE d)])
theorem signedNF {d:Nat}:Fits Tryz.prog 214 [rl true,di d] (iz (-(d:Int))):=by
 intro β w vs hv
 obtain ⟨v,u,rfl,h1,h2⟩:=eG hv
 rw [bZ h1]
 have := @fB true d β w [.bool true,u] ⟨_,_,rfl,cN,u,[],rfl,h2,rfl⟩
 simpa [gZ] using this
theorem minusP {n:Int} {c:Nat} (hc:n = -(c:Int)):Fits Tryz.prog 213 [pz c] (iz n):=by
 rw [hc]
 refine jT Tryz.func213 fun w00=>?_
 refine jB 214 [rl true,di c] signedNF Tryz.call214 ?_
 exact jS Tryz.func213
theorem minusNZ {d:Nat}:Fits Tryz.prog 213 [nz d] (iz (d:Int)):=by
 refine jT Tryz.func213 fun w00=>?_
 refine jB 214 [rl false,di d] oH Tryz.call214 ?_
 exact jS Tryz.func213
theorem minusN {d:Nat}:Fits Tryz.prog 213 [nz d] (pz d):=mD minusNZ fun _ _ _ h=>iz_pz h
section
variable {n:Int} {d:Nat}
theorem fractionNF {c:Nat} (hc:n = -(c:Int)) (hn:Bd n.natAbs) (hd:Bd d) (hd0:0<d) (hp:n.natAbs<B9^100000000) (hq:d<B9^100000000) (hs1:(aQ (gZ (decide (n<0)) (n.natAbs/Nat.gcd n.natAbs d))).size≤1000000000) (hs2:(aQ ((d/Nat.gcd n.natAbs d:Nat):Int)).size≤1000000000) :
 Fits Tryz.prog 157 [pz c,nz d] (rS (if d/Nat.gcd n.natAbs d=1 then aQ (gZ (decide (n<0)) (n.natAbs/Nat.gcd n.natAbs d)) else aQ (gZ (decide (n<0)) (n.natAbs/Nat.gcd n.natAbs d))++⟨#[47]⟩++aQ ((d/Nat.gcd n.natAbs d:Nat):Int))):=by
 have hg:0<Nat.gcd n.natAbs d:=Nat.gcd_pos_of_pos_right _ hd0
 have hq0:0<d/Nat.gcd n.natAbs d:=Nat.div_pos (Nat.gcd_le_right _ hd0) hg
 have hq1:d/Nat.gcd n.natAbs d≤d:=Nat.div_le_self _ _
 have hp1:(gZ (decide (n<0)) (n.natAbs/Nat.gcd n.natAbs d)).natAbs<B9^100000000:=by rw [sA];exact Nat.lt_of_le_of_lt (Nat.div_le_self _ _) hp
 have hq2:((d/Nat.gcd n.natAbs d:Nat):Int).natAbs<B9^100000000:=by rw [Int.natAbs_natCast];exact Nat.lt_of_le_of_lt hq1 hq
 generalize hG:Nat.gcd n.natAbs d=g at *
 generalize hP:gZ (decide (n<0)) (n.natAbs/g)=p at *
 generalize hQ:d/g=q at *
 by_cases h1:q=1
 ·rw [if_pos h1]
  refine jT Tryz.func157 fun w00=>?_
  refine jB 213 [pz c] (minusP hc) Tryz.call213 ?_
  refine jB 213 [nz d] minusN Tryz.call213 ?_
  refine jB 154 [di n.natAbs,di d] (by have:=kH hn hd;rw [hG] at this;exact this) Tryz.call154 ?_
  refine jB 209 [di n.natAbs,di g] (vE hn hg) Tryz.call209 ?_
  refine jB 209 [di d,di g] (by have:=vE (a:=d) (b:=g) hd hg;rw [hQ] at this;exact this) Tryz.call209 ?_
  refine jB 214 [rb (decide (n<0)),di (n.natAbs/g)] (by have := @fB (decide (n<0)) (n.natAbs/g);rw [hP] at this;exact this) Tryz.call214 ?_
  refine jB 194 [iz p] (pU hp1) Tryz.call194 ?_
  refine bD (.call ⟨.builtin .len,#[.tmp 41],#[187]⟩) (.tmp 41) (.tmp 41) (di q) (di q) (.fv (.sc (.lit (.int .i64 1)))) (by kernel_rfl) (by simp [Op.operands,Call.operands]) (by simp [Op.operands,Call.operands]) (fun ρ o β w ho hx _=>?_) ?_
  ·obtain ⟨ad,c,e,_⟩:=iW (bA.1 hx) hq0 (by rw [h1];exact dX)
   exact ⟨_,kT ho e,fC rfl⟩
  refine bD (.indexAddr 187 (.tmp 45) (.const (.int .i64 0))) (.tmp 45) (.const (.int .i64 0)) (di q) (.fv (.sc (.lit (.int .i64 0)))) (rP q) (by kernel_rfl) (by simp [Op.operands]) (by simp [Op.operands]) (fun ρ o β w ho hx hy=>?_) ?_
  ·obtain ⟨ad,c,e,hc⟩:=iW (bA.1 hx) hq0 (by rw [h1];exact dX)
   exact ⟨_,mC ho e (bZ hy) (by omega),⟨ad,rfl,hc⟩⟩
  refine bD (.load 3 (.tmp 46)) (.tmp 46) (.tmp 46) (rP q) (rP q) (.fv (.sc (.lit (.int .i64 1)))) (by kernel_rfl) (by simp [Op.operands]) (by simp [Op.operands]) (fun ρ o β w ho hx _=>?_) ?_
  ·obtain ⟨ad,e,hc⟩:=hx
   injection e with e
   rw [h1] at hc
   exact ⟨_,tQ ho e hc,fC rfl⟩
  exact jS Tryz.func157
 ·rw [if_neg h1]
  have hcat1:(aQ p).size+(⟨#[47]⟩:ByteArray).size≤9223372036854775807:=by
   have:(⟨#[47]⟩:ByteArray).size=1:=rfl
   omega
  have hcat2:(aQ p++⟨#[47]⟩:ByteArray).size+(aQ (q:Int)).size≤9223372036854775807:=by
   have:(⟨#[47]⟩:ByteArray).size=1:=rfl
   rw [ByteArray.size_append]
   omega
  by_cases h2:q<B9
  ·refine jT Tryz.func157 fun w00=>?_
   refine jB 213 [pz c] (minusP hc) Tryz.call213 ?_
   refine jB 213 [nz d] minusN Tryz.call213 ?_
   refine jB 154 [di n.natAbs,di d] (by have:=kH hn hd;rw [hG] at this;exact this) Tryz.call154 ?_
   refine jB 209 [di n.natAbs,di g] (vE hn hg) Tryz.call209 ?_
   refine jB 209 [di d,di g] (by have:=vE (a:=d) (b:=g) hd hg;rw [hQ] at this;exact this) Tryz.call209 ?_
   refine jB 214 [rb (decide (n<0)),di (n.natAbs/g)] (by have := @fB (decide (n<0)) (n.natAbs/g);rw [hP] at this;exact this) Tryz.call214 ?_
   refine jB 194 [iz p] (pU hp1) Tryz.call194 ?_
   refine bD (.call ⟨.builtin .len,#[.tmp 41],#[187]⟩) (.tmp 41) (.tmp 41) (di q) (di q) (.fv (.sc (.lit (.int .i64 1)))) (by kernel_rfl) (by simp [Op.operands,Call.operands]) (by simp [Op.operands,Call.operands]) (fun ρ o β w ho hx _=>?_) ?_
   ·obtain ⟨ad,c,e,_⟩:=iW (bA.1 hx) hq0 h2
    exact ⟨_,kT ho e,fC rfl⟩
   refine bD (.indexAddr 187 (.tmp 45) (.const (.int .i64 0))) (.tmp 45) (.const (.int .i64 0)) (di q) (.fv (.sc (.lit (.int .i64 0)))) (rP q) (by kernel_rfl) (by simp [Op.operands]) (by simp [Op.operands]) (fun ρ o β w ho hx hy=>?_) ?_
   ·obtain ⟨ad,c,e,hc⟩:=iW (bA.1 hx) hq0 h2
    exact ⟨_,mC ho e (bZ hy) (by omega),⟨ad,rfl,hc⟩⟩
   refine bD (.load 3 (.tmp 46)) (.tmp 46) (.tmp 46) (rP q) (rP q) (rI q) (by kernel_rfl) (by simp [Op.operands]) (by simp [Op.operands]) (fun ρ o β w ho hx _=>?_) ?_
   ·obtain ⟨ad,e,hc⟩:=hx
    injection e with e
    exact ⟨_,tQ ho e hc,cN⟩
   refine bD (.binOp .eql 3 (.tmp 47) (.const (.int .i64 1)) 3) (.tmp 47) (.const (.int .i64 1)) (rI q) (.fv (.sc (.lit (.int .i64 1)))) (rl false) (by kernel_rfl) (by simp [Op.operands]) (by simp [Op.operands]) (fun ρ o β w ho hx hy=>⟨.bool false,jI ho (aZ hx) (bZ hy) (by simp;omega),fC rfl⟩) ?_
   refine bD (.binOp .add 9 (.tmp 51) (.const (.string ⟨#[47]⟩)) 9) (.tmp 51) (.const (.string ⟨#[47]⟩)) (rS (aQ p)) (.fv (.sc (.lit (.string ⟨#[47]⟩)))) (rS (aQ p++⟨#[47]⟩)) (by kernel_rfl) (by simp [Op.operands]) (by simp [Op.operands]) (fun ρ o β w ho hx hy=>⟨_,eW ho (aZ hx) (bZ hy) hcat1,cN⟩) ?_
   refine jB 214 [rl false,di q] oH Tryz.call214 ?_
   refine jB 194 [iz (q:Int)] (pU hq2) Tryz.call194 ?_
   refine bD (.binOp .add 9 (.tmp 52) (.tmp 55) 9) (.tmp 52) (.tmp 55) (rS (aQ p++⟨#[47]⟩)) (rS (aQ (q:Int))) (rS (aQ p++⟨#[47]⟩++aQ (q:Int))) (by kernel_rfl) (by simp [Op.operands]) (by simp [Op.operands]) (fun ρ o β w ho hx hy=>⟨_,eW ho (aZ hx) (aZ hy) hcat2,cN⟩) ?_
   exact jS Tryz.func157
  ·refine jT Tryz.func157 fun w00=>?_
   refine jB 213 [pz c] (minusP hc) Tryz.call213 ?_
   refine jB 213 [nz d] minusN Tryz.call213 ?_
   refine jB 154 [di n.natAbs,di d] (by have:=kH hn hd;rw [hG] at this;exact this) Tryz.call154 ?_
   refine jB 209 [di n.natAbs,di g] (vE hn hg) Tryz.call209 ?_
   refine jB 209 [di d,di g] (by have:=vE (a:=d) (b:=g) hd hg;rw [hQ] at this;exact this) Tryz.call209 ?_
   refine jB 214 [rb (decide (n<0)),di (n.natAbs/g)] (by have := @fB (decide (n<0)) (n.natAbs/g);rw [hP] at this;exact this) Tryz.call214 ?_
   refine jB 194 [iz p] (pU hp1) Tryz.call194 ?_
   refine bD (.call ⟨.builtin .len,#[.tmp 41],#[187]⟩) (.tmp 41) (.tmp 41) (di q) (di q) rNe (by kernel_rfl) (by simp [Op.operands,Call.operands]) (by simp [Op.operands,Call.operands]) (fun ρ o β w ho hx _=>?_) ?_
   ·obtain ⟨A,m,c,e,hm⟩:=vR (bA.1 hx) (Nat.le_of_not_lt h2)
    exact ⟨_,kT ho e,⟨(m:Int),rfl,by omega⟩⟩
   refine bD (.binOp .eql 3 (.tmp 42) (.const (.int .i64 1)) 3) (.tmp 42) (.const (.int .i64 1)) rNe (.fv (.sc (.lit (.int .i64 1)))) (rl false) (by kernel_rfl) (by simp [Op.operands]) (by simp [Op.operands]) (fun ρ o β w ho hx hy=>?_) ?_
   ·obtain ⟨m,e,hm⟩:=hx
    injection e with e
    exact ⟨.bool false,jI ho e (bZ hy) (by simpa using hm),fC rfl⟩
   refine bD (.binOp .add 9 (.tmp 51) (.const (.string ⟨#[47]⟩)) 9) (.tmp 51) (.const (.string ⟨#[47]⟩)) (rS (aQ p)) (.fv (.sc (.lit (.string ⟨#[47]⟩)))) (rS (aQ p++⟨#[47]⟩)) (by kernel_rfl) (by simp [Op.operands]) (by simp [Op.operands]) (fun ρ o β w ho hx hy=>⟨_,eW ho (aZ hx) (bZ hy) hcat1,cN⟩) ?_
   refine jB 214 [rl false,di q] oH Tryz.call214 ?_
   refine jB 194 [iz (q:Int)] (pU hq2) Tryz.call194 ?_
   refine bD (.binOp .add 9 (.tmp 52) (.tmp 55) 9) (.tmp 52) (.tmp 55) (rS (aQ p++⟨#[47]⟩)) (rS (aQ (q:Int))) (rS (aQ p++⟨#[47]⟩++aQ (q:Int))) (by kernel_rfl) (by simp [Op.operands]) (by simp [Op.operands]) (fun ρ o β w ho hx hy=>⟨_,eW ho (aZ hx) (aZ hy) hcat2,cN⟩) ?_
   exact jS Tryz.func157
end
theorem fracNW {n:Int} {c d k:Nat} (hc:n = -(c:Int)) (hk:k≤1000000) (hn:n.natAbs<10^(k+1)) (hd:d<10^(k+1)) (h0:0<d):Fits Tryz.prog 157 [pz c,nz d] (rS (writeB (mkRat n d))):=by
 have h:=fractionNF (n:=n) (d:=d) hc (gC hn (by omega)) (gC hd (by omega)) h0 (bd1_of hn (by omega)) (bd1_of hd (by omega))
  (by have:=pA (k:=k) (z:=gZ (decide (n<0)) (n.natAbs/Nat.gcd n.natAbs d)) (by rw [sA];exact Nat.lt_of_le_of_lt (Nat.div_le_self _ _) hn);omega)
  (by have:=pA (k:=k) (z:=((d/Nat.gcd n.natAbs d:Nat):Int)) (by rw [Int.natAbs_natCast];exact Nat.lt_of_le_of_lt (Nat.div_le_self _ _) hd);omega)
 rw [qN n h0] at h
 exact h
section
variable {p q:Rat}
theorem inv_pos {m:Nat} (h:q.num=(m:Int)):mkRat (q.den:Int) m=q⁻¹:=by
 rw [Rat.inv_def,h,Rat.divInt_ofNat]
theorem inv_neg {m:Nat} (h:q.num = -(m:Int)):mkRat (-(q.den:Int)) m=q⁻¹:=by
 rw [Rat.inv_def,h,Rat.divInt_neg',Rat.divInt_ofNat]
theorem prt_neg {m:Nat} (h:q.num = -(m:Int)) (h0:0<m) {β:List Nat} {v:Value} {w:World} (k:(AV.fv (.ag [rB (decide (q.num<0)),.sp (pE q.num.natAbs)]):AV Kr).holds β v w):(nz m).holds β v w:=by
 have e1:decide (q.num<0)=true:=by rw [decide_eq_true_iff];omega
 have e2:q.num.natAbs=m:=by omega
 rw [e1,e2] at k
 obtain ⟨cs,rfl,a,r,rfl,h1,h2⟩:=k
 exact ⟨_,rfl,a,r,rfl,⟨h1,rfl⟩,h2⟩
theorem prt_pos {m:Nat} (h:q.num=(m:Int)) {β:List Nat} {v:Value} {w:World} (k:(AV.fv (.ag [rB (decide (q.num<0)),.sp (pE q.num.natAbs)]):AV Kr).holds β v w):(pz m).holds β v w:=by
 have k' : (iz q.num).holds β v w:=k
 rw [h] at k'
 exact iz_pz k'
theorem fracPZ {k:Nat} (hk:k≤1000000) (hq:Zs k q) (h0:0<q.num.natAbs):Fits Tryz.prog 157 [iz (q.den:Int),pz q.num.natAbs] (rS (writeB (mkRat (q.den:Int) q.num.natAbs))) :=
 fracW (n:=(q.den:Int)) (k:=k) hk (by rw [Int.natAbs_natCast];exact hq.2) hq.1 h0
theorem fracNZ {k:Nat} (hk:k≤1000000) (hq:Zs k q) (h0:0<q.num.natAbs):Fits Tryz.prog 157 [pz q.den,nz q.num.natAbs] (rS (writeB (mkRat (-((q.den:Nat):Int)) q.num.natAbs))) :=
 fracNW (k:=k) rfl hk (by rw [Int.natAbs_neg,Int.natAbs_natCast];exact hq.2) hq.1 h0
theorem recipF (hq:Zs 10000 q) (h0:q≠0):Fits Tryz.prog 107 [rS (writeB q)] (rS (writeB q⁻¹)):=by
 obtain ⟨s1,s2⟩:=sF hq (by omega)
 have hn:=sQ h0
 have hfr:Fits Tryz.prog 157 [pz q.den,.fv (.ag [rB (decide (q.num<0)),.sp (pE q.num.natAbs)])] (rS (writeB q⁻¹)):=by
  by_cases hs:q.num<0
  ·have e:q.num = -((q.num.natAbs:Nat):Int):=by omega
   rw [← inv_neg e]
   refine rargs (fracNZ (k:=10000) (by omega) hq (by omega)) fun β vs w ⟨v,r,e1,h1,u,r2,e2,h2,h3⟩=>⟨v,r,e1,h1,u,r2,e2,prt_neg e (by omega) h2,h3⟩
  ·have e:q.num=((q.num.natAbs:Nat):Int):=by omega
   rw [← inv_pos e]
   refine rargs (fracPZ (k:=10000) (by omega) hq (by omega)) fun β vs w ⟨v,r,e1,h1,u,r2,e2,h2,h3⟩=>⟨v,r,e1,pz_iz h1,u,r2,e2,prt_pos e h2,h3⟩
 refine jT Tryz.func107 fun w00=>?_
 refine jB 153 [rS (writeB q)] (xW s1 s2) Tryz.call153 ?_
 refine jB 157 [pz q.den,.fv (.ag [rB (decide (q.num<0)),.sp (pE q.num.natAbs)])] hfr Tryz.call157 ?_
 exact jS Tryz.func107
theorem zs_inv {k:Nat} (h:Zs k q) (h0:q≠0):Zs k q⁻¹:=by
 have hn:=sQ h0
 have hd:=q.den_pos
 by_cases hs:q.num<0
 ·have e:q.num = -((q.num.natAbs:Nat):Int):=by omega
  rw [← inv_neg e]
  obtain ⟨e1,e2⟩:=sE (-(q.den:Int)) (d:=q.num.natAbs) (by omega)
  have g:Nat.gcd (-(q.den:Int)).natAbs q.num.natAbs=1:=by rw [Int.natAbs_neg,Int.natAbs_natCast,Nat.gcd_comm];exact q.reduced
  rw [g] at e1 e2
  refine ⟨by rw [e1];simpa using h.2,by rw [e2];simpa using h.1⟩
 ·have e:q.num=((q.num.natAbs:Nat):Int):=by omega
  rw [← inv_pos e]
  obtain ⟨e1,e2⟩:=sE ((q.den:Int)) (d:=q.num.natAbs) (by omega)
  have g:Nat.gcd ((q.den:Int)).natAbs q.num.natAbs=1:=by rw [Int.natAbs_natCast,Nat.gcd_comm];exact q.reduced
  rw [g] at e1 e2
  refine ⟨by rw [e1];simpa using h.2,by rw [e2];simpa using h.1⟩
theorem refDivF (hp:Zs 10000 p) (hq:Zs 10000 q) (h0:q≠0):Fits Tryz.prog 51 [rS (writeB p),rS (writeB q)] (rS (writeB (p/q))):=by
 rw [Rat.div_def]
 refine jT Tryz.func51 fun w00=>?_
 refine jB 107 [rS (writeB q)] (recipF hq h0) Tryz.call107 ?_
 refine jB 106 [rS (writeB p),rS (writeB q⁻¹)] (kK hp (zs_inv hq h0)) Tryz.call106 ?_
 exact jS Tryz.func51
theorem kn_o {f:FuncId} {s u:ByteArray} (h:Fits Tryz.prog f [rS s] (rS u)):Fits Tryz.prog f [tx s] (tx u):=by
 intro β w vs hv
 obtain ⟨v,rfl,h1⟩:=dE hv
 rw [aP h1]
 exact (h β w [.string s] ⟨_,_,rfl,cN,rfl⟩).mono fun e w' ⟨v,e1,e2,e3⟩=>⟨v,e1,e2,by rw [aZ e3];exact bG⟩
theorem kn_IL {f:FuncId} {s:ByteArray} {z:Int} (h:Fits Tryz.prog f [rS s] (rI z)):Fits Tryz.prog f [tx s] (it z):=by
 intro β w vs hv
 obtain ⟨v,rfl,h1⟩:=dE hv
 rw [aP h1]
 exact (h β w [.string s] ⟨_,_,rfl,cN,rfl⟩).mono fun e w' ⟨v,e1,e2,e3⟩=>⟨v,e1,e2,by rw [aZ e3];exact aX rfl⟩
theorem tZ {s:ByteArray} {z:Int} (hs:s.size≤9223372036854775807) (hz:bW s=z):Fits Tryz.prog 102 [tx s] (it z):=kn_IL (hz▸aAc hs)
end
section
variable {f:FuncId} {w00:World} {Out:Value→World→Prop}
theorem iO {c:Cfg Kn} (t:Tmp) (T:TypeId) (hT:Tryz.prog.underlying T=some .string) (s:ByteArray) (hc:(c.op.map fun o=>o.op,c.okT (.fv (.sc (jZ s.size))),c.ev (.tmp t))=(some (.call ⟨.builtin .len,#[.tmp t],#[T]⟩),true,tx s))
 (hg:Ok Tryz.prog f w00 Out (dC Tryz.prog 1000 (c.give (.fv (.sc (jZ s.size)))))):Ok Tryz.prog f w00 Out c:=by
 simp only [Prod.mk.injEq] at hc
 obtain ⟨h1,h2,h3⟩:=hc
 exact dW _ (.tmp t) (.tmp t) (tx s) (tx s) (.fv (.sc (jZ s.size))) (by rw [h1,h2,h3]) (by simp [Op.operands,Call.operands]) (by simp [Op.operands,Call.operands])
  (fun ρ o β w ho hx _=>⟨_,vN ho hT (aP hx),bG⟩) hg
end
section
variable {p q:Rat}
theorem wr_len {q:Rat} (h:Wr q):(writeB q).size≤1000000000:=by
 have h1:=h.n
 have h2:=h.d
 have:=sK q.num
 rw [jM]
 split <;> omega
theorem uA (h:Wr q):Fits Tryz.prog 150 [tx (writeB q)] (it 0):=by
 have h1:=h.n
 have h2:=h.d
 have hl:=sK q.num
 refine jG Tryz.func150 fun w00=>?_
 refine jC 205 [tx (writeB q)] (kn_o (numF (wr_len h))) Tryz.call205 ?_
 refine jC 204 [tx (aQ q.num)] (kn_o (absTF (by omega))) Tryz.call204 ?_
 refine iO 5 22 Tryz.underlying22 (decB q.num.natAbs) (by kernel_rfl) ?_
 refine yL 6 (decB q.num.natAbs).size 600 false (by rw [decide_eq_false_iff_not];omega) (by kernel_rfl) ?_
 refine jC 206 [tx (writeB q)] (kn_o (denOfF (wr_len h))) Tryz.call206 ?_
 refine iO 10 22 Tryz.underlying22 (decB q.den) (by kernel_rfl) ?_
 refine yL 11 (decB q.den).size 600 false (by rw [decide_eq_false_iff_not];omega) (by kernel_rfl) ?_
 exact jR Tryz.func150
end
abbrev Bz (z:Int):Prop:=z=1∨z=3∨z=4∨z=6∨z=7
section
variable {P:Program} {f:FuncId}
theorem fitsAS_of {fn:Func} {n:Nat} {T:TypeId} {l:List (Seg Kn)} {u x:AV Kn} (hfn:P.funcs[f]?=some fn) (hb:fn.body.isSome=true) (hn:decide (2≤fn.ntmps)=true) (hx:x.noPtr=true) (hl:l.all Seg.noPtr=true) (hu:u.noPtr=true)
 (h:∀ w00,Ok P f w00 (fun v w=>x.holds [] v w) (.items [.code (fn.body.getD .skip)] { slots := [u,.fv (.sc (.slc 0 0 n n))]++List.replicate (fn.ntmps-2) .un,blocks := [(T,l)],ro:=1 })):Fits P f [u,.fv (.nsl n T l)] x:=by
 rintro β w vs ⟨v,r,rfl,h1,v2,r2,rfl,⟨g,cs,rfl,hg,hcs⟩,h3⟩
 have h1' : u.holds [g] v w:=AV.noPtr_holds hu h1
 have h3' : r2 = []:=h3
 subst h3'
 have hb2:fn.body=some (fn.body.getD .skip):=by
  cases hb2:fn.body with
  | none=>rw [hb2] at hb;cases hb
  | some c=>rfl
 refine (eO (w00:=w) (Out:=fun v w=>x.holds [] v w) hfn hb2 [u,.fv (.sc (.slc 0 0 n n))] [(T,l)] [g] [v,.slice (some ⟨g,0,none⟩) n n] (fn.ntmps-2) (by simp at hn;simp;omega) ⟨_,_,rfl,h1',_,[],rfl,⟨g,rfl,rfl⟩,rfl⟩ rfl (by simp)
  (fun k T' l' hk=>?_) (by simp;exact lt_of_block hg) (h w).good).mono ?_
 ·match k,hk with
  | 0,hk =>
    simp at hk
    obtain ⟨rfl,rfl⟩:=hk
    exact ⟨g,cs,rfl,hg,hcs.noPtr hl⟩
 ·rintro e w' ⟨v,rfl,hb,ho⟩
  exact ⟨v,rfl,hb,AV.noPtr_holds hx ho⟩
end
theorem kgoAS {f:FuncId} {fn:Func} {n:Nat} {T:TypeId} {l:List (Seg Kn)} {u x:AV Kn} (hfn:Tryz.prog.funcs[f]?=some fn) (hc:(fn.body.isSome,decide (2≤fn.ntmps),x.noPtr,l.all Seg.noPtr,u.noPtr)=(true,true,true,true,true))
 (h:∀ w00,Ok Tryz.prog f w00 (fun v w=>x.holds [] v w) (dC Tryz.prog 1000 (.items [.code (fn.body.getD .skip)] { slots := [u,.fv (.sc (.slc 0 0 n n))]++List.replicate (fn.ntmps-2) .un,blocks := [(T,l)],ro:=1 }))):Fits Tryz.prog f [u,.fv (.nsl n T l)] x:=by
 simp only [Prod.mk.injEq] at hc
 exact fitsAS_of hfn hc.1 hc.2.1 hc.2.2.1 hc.2.2.2.1 hc.2.2.2.2 fun w00=>Ok.go (by kernel_rfl) lM 1000 (h w00)
abbrev lo (n:Int) (s:ByteArray):Bool:=decide (n<(s.size:Nat))
section
variable {a b c d x y u:ByteArray} {n:Int} {T:TypeId} {r:Bool}
theorem checkRowAny {za zb zc z:Int} (h1:Fits Tryz.prog 102 [tx a] (it za)) (h2:Fits Tryz.prog 102 [tx b] (it zb)) (h3:Fits Tryz.prog 102 [tx c] (it zc)) (e1:Ev za) (e2:Ev zb) (e3:Ev zc) (hz:f3 za zb zc=z) :
 Fits Tryz.prog 47 [.fv (.nsl 3 T [bY a,bY b,bY c])] (it z):=by
 rcases e1 with rfl|rfl|rfl
 ·rcases e2 with rfl|rfl|rfl
  ·have hz:zc=z:=hz
   subst hz
   rcases e3 with rfl|rfl|rfl <;> (refine nL Tryz.func47 (by kernel_rfl) fun w00=>?_;refine eM 102 [tx a] (h1) (by kernel_rfl) Tryz.call102 ?_;refine eM 102 [tx b] (h2) (by kernel_rfl) Tryz.call102 ?_;refine eM 102 [tx c] (h3) (by kernel_rfl) Tryz.call102 ?_;exact kret Tryz.func47 (by kernel_rfl))
  all_goals
   have hz:_=z:=hz
   subst hz
   refine nL Tryz.func47 (by kernel_rfl) fun w00=>?_
   refine jC 102 [tx a] (h1) Tryz.call102 ?_
   refine jC 102 [tx b] (h2) Tryz.call102 ?_
   exact jR Tryz.func47
 all_goals
  have hz:_=z:=hz
  subst hz
  refine nL Tryz.func47 (by kernel_rfl) fun w00=>?_
  refine jC 102 [tx a] (h1) Tryz.call102 ?_
  exact jR Tryz.func47
abbrev Sl (s:ByteArray):Prop:=s.size≤40
abbrev Sl3 (a b c:ByteArray):Prop:=Sl a∧Sl b∧Sl c
theorem Sl.rb {s:ByteArray} (h:Sl s):Rb s:=by have h:s.size≤40:=h;show s.size<_;omega
theorem Sl3.rb (h:Sl3 a b c):Rb3 a b c:=⟨Sl.rb h.1,Sl.rb h.2.1,Sl.rb h.2.2⟩
theorem fL {z:Int} (h:Sl3 a b c) (hz:c3 a b c=z):Fits Tryz.prog 16 [t3 a b c] (it z):=by
 have h1:a.size≤40:=h.1
 have h2:b.size≤40:=h.2.1
 have h3:c.size≤40:=h.2.2
 refine jG Tryz.func16 fun w00=>?_
 refine jC 47 [.fv (.nsl 3 22 [bY a,bY b,bY c])] (checkRowAny (tZ (by omega) rfl) (tZ (by omega) rfl) (tZ (by omega) rfl) (dG _) (dG _) (dG _) hz) Tryz.call47 ?_
 exact jR Tryz.func16
abbrev eT:Seg Kn := .lit (.string ⟨#[]⟩)
abbrev noT:AV Kn := .fv (.ag [eT,eT,eT])
abbrev noV (z:Int):AV Kn := .tup [.ag [eT,eT,eT],.sc (lz z)]
theorem scaleR3 (h1:Fits Tryz.prog 106 [tx a,tx b] (tx x)) (h2:Fits Tryz.prog 106 [tx a,tx c] (tx y)) (h3:Fits Tryz.prog 106 [tx a,tx d] (tx u)):Fits Tryz.prog 104 [tx a,t3 b c d] (t3 x y u):=by
 refine jG Tryz.func104 fun w00=>?_
 refine jC 106 [tx a,tx b] (h1) Tryz.call106 ?_
 refine jC 106 [tx a,tx c] (h2) Tryz.call106 ?_
 refine jC 106 [tx a,tx d] (h3) Tryz.call106 ?_
 exact jR Tryz.func104
end
section
variable {f:FuncId} {w00:World} {Out:Value→World→Prop} {c:Cfg Kn}
theorem ke3 (x y:Operand) (a b d a' b' d' : ByteArray) (r:Bool) (h:(a.toList==a'.toList&&b.toList==b'.toList&&d.toList==d'.toList)=r) (hg:Ok Tryz.prog f w00 Out (dC Tryz.prog 1000 (c.give (bl r))))
 (hc:(c.op.map fun o=>o.op,c.okT (bl r),c.ev x,c.ev y)=(some (.binOp .eql 24 x y 24),true,.fv (.ag [bY a,bY b,bY d]),.fv (.ag [bY a',bY b',bY d'])):=by kernel_rfl):Ok Tryz.prog f w00 Out c :=
 dW (.binOp .eql 24 x y 24) x y _ _ (bl r) hc (by simp [Op.operands]) (by simp [Op.operands]) (fun ρ o β w ho hx hy=>⟨_,agg_eq (by kernel_rfl) (h▸equalT a b d a' b' d' w) ho (s3_is hx) (s3_is hy),aX rfl⟩) hg
end
theorem yA {z:Int} (hz:Bz z):Fits Tryz.prog 13 [noT,it z,it z,noT] (bl true):=by
 rcases hz with rfl|rfl|rfl|rfl|rfl
 all_goals
  refine jG Tryz.func13 fun w00=>?_
  exact jR Tryz.func13
theorem gO {a b c:Rat} (h:kA a b c):Fits Tryz.prog 44 [vS a b c] (it 0):=by
 have h1:=uA h.1
 have h2:=uA h.2.1
 have h3:=uA h.2.2
 have hr:Fits Tryz.prog 101 [.fv (.nsl 3 22 [bY (writeB a),bY (writeB b),bY (writeB c)])] (it 0):=by
  refine nL Tryz.func101 (by kernel_rfl) fun w00=>?_
  refine jC 150 [tx (writeB a)] (h1) Tryz.call150 ?_
  refine jC 150 [tx (writeB b)] (h2) Tryz.call150 ?_
  refine jC 150 [tx (writeB c)] (h3) Tryz.call150 ?_
  exact jR Tryz.func101
 refine jG Tryz.func44 fun w00=>?_
 refine jC 101 _ (hr) Tryz.call101 ?_
 exact jR Tryz.func44
theorem vU {a b c:Rat} (h:kA a b c):Fits Tryz.prog 13 [vS a b c,it 0,it 0,vS a b c] (bl true):=by
 have hl:=gO h
 refine jG Tryz.func13 fun w00=>?_
 refine jC 44 _ (hl) Tryz.call44 ?_
 refine ke3 (.tmp 26) (.tmp 27) (writeB a) (writeB b) (writeB c) (writeB a) (writeB b) (writeB c) true (by simp) ?_
 exact jR Tryz.func13
section
variable {a b c x y u p q r:Rat} {s:ByteArray} {z:Int} {t:Bool}
theorem write_inj {p q:Rat} (hp:Wr p) (h:writeB p=writeB q) (hq:Wr q):p=q:=by
 have h1:=(gE p).1
 have h2:=(gE q).1
 have h3:=(gE p).2
 have h4:=(gE q).2
 rw [h] at h1 h3
 have hb:aY p=aY q:=h3.symm.trans h4
 obtain ⟨c1,c2,c3⟩:=sG p
 obtain ⟨d1,d2,d3⟩:=sG q
 rw [hb] at c1 c2 c3
 have hn:p.num.natAbs=q.num.natAbs:=mF (c1.symm.trans d1)
 have hd:p.den=q.den:=by
  by_cases e:p.den=1
  ·by_cases e' : q.den=1
   ·rw [e,e']
   ·exact absurd e (c3.1 (d3.2 e'))
  ·have e':=d3.1 (c3.2 e)
   exact mF ((c2 e).symm.trans (d2 e'))
 have hs:decide (p.num<0)=decide (q.num<0):=h1.symm.trans h2
 refine Rat.ext ?_ hd
 by_cases g:p.num<0
 ·have g' : q.num<0:=by rw [decide_eq_true g] at hs;exact of_decide_eq_true hs.symm
  omega
 ·have g' : ¬ q.num<0:=by rw [decide_eq_false g] at hs;exact of_decide_eq_false hs.symm
  omega
end
section
variable {a b d x y u c:ByteArray} {z y1 y2 y3:Int}
abbrev B14 (z:Int):Prop:=z=1∨z=4
theorem ev_b {z:Int} (h:Ev z) (h0:z≠0):B14 z:=by
 rcases h with h|h|h
 ·exact absurd h h0
 ·exact .inl h
 ·exact .inr h
end
theorem slwN {n:Nat} {s:ByteArray} (h:s.size≤n) (hn:1≤n) (hz:bW s=0):∃ q,s=writeB q∧Bq n q:=by
 obtain ⟨q,rfl,_,_⟩:=qO hz
 rw [jM] at h
 have ht:(decB q.num.natAbs).size≤(aQ q.num).size:=by
  unfold aQ
  split
  ·rw [ByteArray.size_append];omega
  ·exact Nat.le_refl _
 refine ⟨q,rfl,bq_of ⟨by omega,?_⟩⟩
 by_cases hd:q.den=1
 ·rw [hd,dec1];exact hn
 ·rw [if_neg hd] at h;omega
theorem slwN3 {n:Nat} {a b c:ByteArray} (h1:a.size≤n) (h2:b.size≤n) (h3:c.size≤n) (hn:1≤n) (hz:c3 a b c=0):∃ p q r,a=writeB p∧b=writeB q∧c=writeB r∧Bq n p∧Bq n q∧Bq n r:=by
 obtain ⟨k1,k23⟩:=sO hz
 obtain ⟨k2,k3⟩:=sO k23
 obtain ⟨p,e1,q1⟩:=slwN h1 hn k1
 obtain ⟨q,e2,q2⟩:=slwN h2 hn k2
 obtain ⟨r,e3,q3⟩:=slwN h3 hn k3
 exact ⟨p,q,r,e1,e2,e3,q1,q2,q3⟩
abbrev Ss (s:ByteArray):Prop:=s.size≤30
abbrev Ss3 (a b c:ByteArray):Prop:=Ss a∧Ss b∧Ss c
section
variable {s a b c x y u:ByteArray}
theorem Ss.sl (h:Ss s):Sl s:=by have h:s.size≤30:=h;show s.size≤40;omega
theorem Ss3.sl (h:Ss3 a b c):Sl3 a b c:=⟨Ss.sl h.1,Ss.sl h.2.1,Ss.sl h.2.2⟩
theorem qT (h:Ss s):decide ((30:Int)<(s.size:Nat))=false:=by have h:s.size≤30:=h;rw [decide_eq_false_iff_not];omega
end
section
variable {o1 o2 o3 x1 x2 x3 y1 y2 y3 z1 z2 z3:ByteArray} {e1 e2 e3 e4 z:Int}
theorem checkFrameE (h1:Fits Tryz.prog 16 [t3 o1 o2 o3] (it e1)) (h2:Fits Tryz.prog 16 [t3 x1 x2 x3] (it e2)) (h3:Fits Tryz.prog 16 [t3 y1 y2 y3] (it e3)) (h4:Fits Tryz.prog 16 [t3 z1 z2 z3] (it e4))
 (v1:Ev e1) (v2:Ev e2) (v3:Ev e3) (v4:Ev e4) (hz:f2 (f2 (f2 e1 e2) e3) e4=z) (h0:z≠0):Fits Tryz.prog 7 [yV o1 o2 o3 x1 x2 x3 y1 y2 y3 z1 z2 z3] (it z):=by
 rcases v1 with rfl|rfl|rfl
 ·rcases v2 with rfl|rfl|rfl
  ·rcases v3 with rfl|rfl|rfl
   ·rcases v4 with rfl|rfl|rfl
    ·exact absurd hz.symm h0
    all_goals
     have hz:_=z:=hz
     subst hz
     refine kgoN 15 Tryz.func7 (by kernel_rfl) fun w00=>?_
     refine kown (by kernel_rfl) ?_
     refine jC 16 [t3 o1 o2 o3] (h1) Tryz.call16 ?_
     refine jC 16 [t3 x1 x2 x3] (h2) Tryz.call16 ?_
     refine jC 16 [t3 y1 y2 y3] (h3) Tryz.call16 ?_
     refine jC 16 [t3 z1 z2 z3] (h4) Tryz.call16 ?_
     exact jR Tryz.func7
   ·have hz:1=z:=by rw [← hz];rfl
    subst hz
    refine kgoN 15 Tryz.func7 (by kernel_rfl) fun w00=>?_
    refine kown (by kernel_rfl) ?_
    refine jC 16 [t3 o1 o2 o3] (h1) Tryz.call16 ?_
    refine jC 16 [t3 x1 x2 x3] (h2) Tryz.call16 ?_
    refine jC 16 [t3 y1 y2 y3] (h3) Tryz.call16 ?_
    exact jR Tryz.func7
   ·have hz:4=z:=by rw [← hz];rfl
    subst hz
    refine kgoN 15 Tryz.func7 (by kernel_rfl) fun w00=>?_
    refine kown (by kernel_rfl) ?_
    refine jC 16 [t3 o1 o2 o3] (h1) Tryz.call16 ?_
    refine jC 16 [t3 x1 x2 x3] (h2) Tryz.call16 ?_
    refine jC 16 [t3 y1 y2 y3] (h3) Tryz.call16 ?_
    exact jR Tryz.func7
  ·have hz:1=z:=by rw [← hz];rfl
   subst hz
   refine kgoN 15 Tryz.func7 (by kernel_rfl) fun w00=>?_
   refine kown (by kernel_rfl) ?_
   refine jC 16 [t3 o1 o2 o3] (h1) Tryz.call16 ?_
   refine jC 16 [t3 x1 x2 x3] (h2) Tryz.call16 ?_
   exact jR Tryz.func7
  ·have hz:4=z:=by rw [← hz];rfl
   subst hz
   refine kgoN 15 Tryz.func7 (by kernel_rfl) fun w00=>?_
   refine kown (by kernel_rfl) ?_
   refine jC 16 [t3 o1 o2 o3] (h1) Tryz.call16 ?_
   refine jC 16 [t3 x1 x2 x3] (h2) Tryz.call16 ?_
   exact jR Tryz.func7
 ·have hz:1=z:=by rw [← hz];rfl
  subst hz
  refine kgoN 15 Tryz.func7 (by kernel_rfl) fun w00=>?_
  refine kown (by kernel_rfl) ?_
  refine jC 16 [t3 o1 o2 o3] (h1) Tryz.call16 ?_
  exact jR Tryz.func7
 ·have hz:4=z:=by rw [← hz];rfl
  subst hz
  refine kgoN 15 Tryz.func7 (by kernel_rfl) fun w00=>?_
  refine kown (by kernel_rfl) ?_
  refine jC 16 [t3 o1 o2 o3] (h1) Tryz.call16 ?_
  exact jR Tryz.func7
end
section
variable {o1 o2 o3 x1 x2 x3 y1 y2 y3 z1 z2 z3 p1 p2 p3:Rat}
structure Qf (o1 o2 o3 x1 x2 x3 y1 y2 y3 z1 z2 z3:Rat):Prop where
 o1:Bq 30 o1
 o2:Bq 30 o2
 o3:Bq 30 o3
 x1:Bq 30 x1
 x2:Bq 30 x2
 x3:Bq 30 x3
 y1:Bq 30 y1
 y2:Bq 30 y2
 y3:Bq 30 y3
 z1:Bq 30 z1
 z2:Bq 30 z2
 z3:Bq 30 z3
structure Q3 (p1 p2 p3:Rat):Prop where
 a:Bq 30 p1
 b:Bq 30 p2
 c:Bq 30 p3
abbrev frA (o1 o2 o3 x1 x2 x3 y1 y2 y3 z1 z2 z3:Rat):AV Kn:=yV (writeB o1) (writeB o2) (writeB o3) (writeB x1) (writeB x2) (writeB x3) (writeB y1) (writeB y2) (writeB y3) (writeB z1) (writeB z2) (writeB z3)
theorem dtq {a b c x y z:Rat} (h:Q3 a b c) (k:Q3 x y z):Bq 182 (dt a b c x y z):=Bq.dt h.a h.b h.c k.a k.b k.c (by omega)
theorem Qf.x (h:Qf o1 o2 o3 x1 x2 x3 y1 y2 y3 z1 z2 z3):Q3 x1 x2 x3:=⟨h.x1,h.x2,h.x3⟩
theorem Qf.y (h:Qf o1 o2 o3 x1 x2 x3 y1 y2 y3 z1 z2 z3):Q3 y1 y2 y3:=⟨h.y1,h.y2,h.y3⟩
theorem Qf.z (h:Qf o1 o2 o3 x1 x2 x3 y1 y2 y3 z1 z2 z3):Q3 z1 z2 z3:=⟨h.z1,h.z2,h.z3⟩
theorem Qf.o (h:Qf o1 o2 o3 x1 x2 x3 y1 y2 y3 z1 z2 z3):Q3 o1 o2 o3:=⟨h.o1,h.o2,h.o3⟩
theorem oR (h:Qf o1 o2 o3 x1 x2 x3 y1 y2 y3 z1 z2 z3):Fits Tryz.prog 15 [frA o1 o2 o3 x1 x2 x3 y1 y2 y3 z1 z2 z3] (vS (dt x1 x2 x3 x1 x2 x3) (dt y1 y2 y3 y1 y2 y3) (dt z1 z2 z3 z1 z2 z3)) :=
 stretchR (squareV h.x1 h.x2 h.x3 (by omega)) (squareV h.y1 h.y2 h.y3 (by omega)) (squareV h.z1 h.z2 h.z3 (by omega))
theorem scaleV2 {j l:Nat} {c x y z:Rat} (hc:Bq j c) (hx:Bq l x) (hy:Bq l y) (hz:Bq l z) (hj:j≤10000) (hl:l≤10000):Fits Tryz.prog 104 [tx (writeB c),vS x y z] (vS (c*x) (c*y) (c*z)) :=
 scaleR3 (nE (kK (hc.zs hj) (hx.zs hl))) (nE (kK (hc.zs hj) (hy.zs hl))) (nE (kK (hc.zs hj) (hz.zs hl)))
theorem addV2 {j l:Nat} {a b c x y z:Rat} (h1:Bq j a) (h2:Bq j b) (h3:Bq j c) (k1:Bq l x) (k2:Bq l y) (k3:Bq l z) (hj:j≤10000) (hl:l≤10000):Fits Tryz.prog 48 [vS a b c,vS x y z] (vS (a+x) (b+y) (c+z)) :=
 addVecR (nE (pC (h1.zs hj) (k1.zs hl))) (nE (pC (h2.zs hj) (k2.zs hl))) (nE (pC (h3.zs hj) (k3.zs hl)))
theorem refDirectF (h:Qf o1 o2 o3 x1 x2 x3 y1 y2 y3 z1 z2 z3) (k:Q3 p1 p2 p3):Fits Tryz.prog 49 [frA o1 o2 o3 x1 x2 x3 y1 y2 y3 z1 z2 z3,vS p1 p2 p3] (vS (ld p1 p2 p3 x1 y1 z1) (ld p1 p2 p3 x2 y2 z2) (ld p1 p2 p3 x3 y3 z3)):=by
 have k1:=scaleV2 k.a h.x1 h.x2 h.x3 (by omega) (by omega)
 have k2:=scaleV2 k.b h.y1 h.y2 h.y3 (by omega) (by omega)
 have k3:=addV2 (k.a.mul h.x1) (k.a.mul h.x2) (k.a.mul h.x3) (k.b.mul h.y1) (k.b.mul h.y2) (k.b.mul h.y3) (by omega) (by omega)
 have k4:=scaleV2 k.c h.z1 h.z2 h.z3 (by omega) (by omega)
 have k5:=addV2 ((k.a.mul h.x1).add (k.b.mul h.y1)) ((k.a.mul h.x2).add (k.b.mul h.y2)) ((k.a.mul h.x3).add (k.b.mul h.y3)) (k.c.mul h.z1) (k.c.mul h.z2) (k.c.mul h.z3) (by omega) (by omega)
 refine jG Tryz.func49 fun w00=>?_
 refine jC 104 _ (k1) Tryz.call104 ?_
 refine jC 104 _ (k2) Tryz.call104 ?_
 refine jC 48 _ (k3) Tryz.call48 ?_
 refine jC 104 _ (k4) Tryz.call104 ?_
 refine jC 48 _ (k5) Tryz.call48 ?_
 exact jR Tryz.func49
theorem ldq {x y z:Rat} (k:Q3 p1 p2 p3) (h:Q3 x y z):Bq 182 (ld p1 p2 p3 x y z):=(((k.a.mul h.a).add (k.b.mul h.b)).add (k.c.mul h.c)).mono (by omega)
theorem refPlaceF (h:Qf o1 o2 o3 x1 x2 x3 y1 y2 y3 z1 z2 z3) (k:Q3 p1 p2 p3):Fits Tryz.prog 17 [frA o1 o2 o3 x1 x2 x3 y1 y2 y3 z1 z2 z3,vS p1 p2 p3] (vS (o1+ld p1 p2 p3 x1 y1 z1) (o2+ld p1 p2 p3 x2 y2 z2) (o3+ld p1 p2 p3 x3 y3 z3)):=by
 have k1:=refDirectF h k
 have k2:=addV2 h.o1 h.o2 h.o3 (ldq k ⟨h.x1,h.y1,h.z1⟩) (ldq k ⟨h.x2,h.y2,h.z2⟩) (ldq k ⟨h.x3,h.y3,h.z3⟩) (by omega) (by omega)
 refine jG Tryz.func17 fun w00=>?_
 refine jC 49 _ (k1) Tryz.call49 ?_
 refine jC 48 _ (k2) Tryz.call48 ?_
 exact jR Tryz.func17
theorem refLocalF (h:Qf o1 o2 o3 x1 x2 x3 y1 y2 y3 z1 z2 z3) (k:Q3 p1 p2 p3) (h0:Sq0 x1 x2 x3 y1 y2 y3 z1 z2 z3):Fits Tryz.prog 18 [frA o1 o2 o3 x1 x2 x3 y1 y2 y3 z1 z2 z3,vS p1 p2 p3] (vS (dt (p1-o1) (p2-o2) (p3-o3) x1 x2 x3/dt x1 x2 x3 x1 x2 x3) (dt (p1-o1) (p2-o2) (p3-o3) y1 y2 y3/dt y1 y2 y3 y1 y2 y3) (dt (p1-o1) (p2-o2) (p3-o3) z1 z2 z3/dt z1 z2 z3 z1 z2 z3)):=by
 have d1:Bq 61 (p1-o1):=k.a.sub h.o1
 have d2:Bq 61 (p2-o2):=k.b.sub h.o2
 have d3:Bq 61 (p3-o3):=k.c.sub h.o3
 have k1:=subV k.a k.b k.c h.o1 h.o2 h.o3 (by omega) (by omega)
 have k2:=oR h
 have q1:∀ {x y z:Rat},Q3 x y z→Bq 275 (dt (p1-o1) (p2-o2) (p3-o3) x y z):=fun g=>Bq.dt d1 d2 d3 g.a g.b g.c (by omega)
 have kx:=dotV d1 d2 d3 h.x1 h.x2 h.x3 (by omega)
 have ky:=dotV d1 d2 d3 h.y1 h.y2 h.y3 (by omega)
 have kz:=dotV d1 d2 d3 h.z1 h.z2 h.z3 (by omega)
 have rx:=nE (refDivF ((q1 h.x).zs (by omega)) ((dtq h.x h.x).zs (by omega)) h0.x)
 have ry:=nE (refDivF ((q1 h.y).zs (by omega)) ((dtq h.y h.y).zs (by omega)) h0.y)
 have rz:=nE (refDivF ((q1 h.z).zs (by omega)) ((dtq h.z h.z).zs (by omega)) h0.z)
 refine jG Tryz.func18 fun w00=>?_
 refine jC 50 _ (k1) Tryz.call50 ?_
 refine jC 15 _ (k2) Tryz.call15 ?_
 refine jC 52 _ (kx) Tryz.call52 ?_
 refine jC 51 _ (rx) Tryz.call51 ?_
 refine jC 52 _ (ky) Tryz.call52 ?_
 refine jC 51 _ (ry) Tryz.call51 ?_
 refine jC 52 _ (kz) Tryz.call52 ?_
 refine jC 51 _ (rz) Tryz.call51 ?_
 exact jR Tryz.func18
theorem refShiftF (h:Qf o1 o2 o3 x1 x2 x3 y1 y2 y3 z1 z2 z3) (k:Q3 p1 p2 p3):Fits Tryz.prog 19 [frA o1 o2 o3 x1 x2 x3 y1 y2 y3 z1 z2 z3,vS p1 p2 p3] (frA (o1+p1) (o2+p2) (o3+p3) x1 x2 x3 y1 y2 y3 z1 z2 z3):=by
 have k1:=addV2 h.o1 h.o2 h.o3 k.a k.b k.c (by omega) (by omega)
 refine jG Tryz.func19 fun w00=>?_
 refine jC 48 _ (k1) Tryz.call48 ?_
 exact jR Tryz.func19
theorem yB (h:Wf o1 o2 o3 x1 x2 x3 y1 y2 y3 z1 z2 z3):Fits Tryz.prog 45 [frA o1 o2 o3 x1 x2 x3 y1 y2 y3 z1 z2 z3] (it 0):=by
 have k1:=gO h.o
 have k2:=gO h.x
 have k3:=gO h.y
 have k4:=gO h.z
 refine jG Tryz.func45 fun w00=>?_
 refine jC 44 _ (k1) Tryz.call44 ?_
 refine jC 44 _ (k2) Tryz.call44 ?_
 refine jC 44 _ (k3) Tryz.call44 ?_
 refine jC 44 _ (k4) Tryz.call44 ?_
 exact jR Tryz.func45
theorem det_ne (hx:¬ (x1=0∧x2=0∧x3=0)) (hy:¬ (y1=0∧y2=0∧y3=0)) (hz:¬ (z1=0∧z2=0∧z3=0)) (hxy:dt x1 x2 x3 y1 y2 y3=0) (hyz:dt y1 y2 y3 z1 z2 z3=0) (hzx:dt z1 z2 z3 x1 x2 x3=0):aAf x1 x2 x3 y1 y2 y3 z1 z2 z3≠0:=by
 intro h
 have sx:dt x1 x2 x3 x1 x2 x3≠0:=fun e=>hx (tX e)
 have sy:dt y1 y2 y3 y1 y2 y3≠0:=fun e=>hy (tX e)
 have sz:dt z1 z2 z3 z1 z2 z3≠0:=fun e=>hz (tX e)
 have k1:x2*(y1*z2-y2*z1)-x3*(y3*z1-y1*z3)=0:=by grind
 have k2:x3*(y2*z3-y3*z2)-x1*(y1*z2-y2*z1)=0:=by grind
 have k3:x1*(y3*z1-y1*z3)-x2*(y2*z3-y3*z2)=0:=by grind
 have kc:dt (y2*z3-y3*z2) (y3*z1-y1*z3) (y1*z2-y2*z1) (y2*z3-y3*z2) (y3*z1-y1*z3) (y1*z2-y2*z1)=dt y1 y2 y3 y1 y2 y3*dt z1 z2 z3 z1 z2 z3-dt y1 y2 y3 z1 z2 z3*dt y1 y2 y3 z1 z2 z3:=by grind
 have h:dt x1 x2 x3 (y2*z3-y3*z2) (y3*z1-y1*z3) (y1*z2-y2*z1)=0:=h
 generalize y2*z3-y3*z2=c1 at *
 generalize y3*z1-y1*z3=c2 at *
 generalize y1*z2-y2*z1=c3 at *
 have kd:dt x1 x2 x3 x1 x2 x3*dt c1 c2 c3 c1 c2 c3=dt x1 x2 x3 c1 c2 c3*dt x1 x2 x3 c1 c2 c3+(x2*c3-x3*c2)*(x2*c3-x3*c2)+(x3*c1-x1*c3)*(x3*c1-x1*c3)+(x1*c2-x2*c1)*(x1*c2-x2*c1):=by grind
 rw [h,k1,k2,k3,kc,hyz] at kd
 generalize dt x1 x2 x3 x1 x2 x3=a at *
 generalize dt y1 y2 y3 y1 y2 y3=b at *
 generalize dt z1 z2 z3 z1 z2 z3=c at *
 have k5:a*(b*c)=0:=by grind
 rcases Rat.mul_eq_zero.1 k5 with e|e
 ·exact sx e
 ·rcases Rat.mul_eq_zero.1 e with e|e
  ·exact sy e
  ·exact sz e
theorem sS {a b c:Rat} (h:ax0 a b c=false):¬ (a=0∧b=0∧c=0):=fun ⟨e1,e2,e3⟩=>by
 have k:ax0 a b c=true:=by simp [ax0,e1,e2,e3]
 rw [h] at k
 cases k
theorem dec3 {p q r:Prop} [Decidable p] [Decidable q] [Decidable r]:(decide p&&decide q&&decide r)=true↔p∧q∧r:=by simp [and_assoc]
theorem jY (h:Qf o1 o2 o3 x1 x2 x3 y1 y2 y3 z1 z2 z3):Fits Tryz.prog 7 [frA o1 o2 o3 x1 x2 x3 y1 y2 y3 z1 z2 z3] (it (ckF x1 x2 x3 y1 y2 y3 z1 z2 z3)):=by
 have cv:∀ {a b c:Rat},Q3 a b c→Fits Tryz.prog 16 [t3 (writeB a) (writeB b) (writeB c)] (it 0):=fun h=>checkVec3 (chkB h.a (by omega)) (chkB h.b (by omega)) (chkB h.c (by omega))
 have hc:=crossV h.y1 h.y2 h.y3 h.z1 h.z2 h.z3 (by omega)
 have c1:Bq 121 (y2*z3-y3*z2):=(h.y2.mul h.z3).sub (h.y3.mul h.z2)
 have c2:Bq 121 (y3*z1-y1*z3):=(h.y3.mul h.z1).sub (h.y1.mul h.z3)
 have c3:Bq 121 (y1*z2-y2*z1):=(h.y1.mul h.z2).sub (h.y2.mul h.z1)
 have hd:=detR hc (dotV h.x1 h.x2 h.x3 c1 c2 c3 (by omega))
 have hS:=shapeZ (o1:=writeB o1) (o2:=writeB o2) (o3:=writeB o3) (dotV h.x1 h.x2 h.x3 h.y1 h.y2 h.y3 (by omega)) (isZeroQ _) (dotV h.y1 h.y2 h.y3 h.z1 h.z2 h.z3 (by omega)) (isZeroQ _) (dotV h.z1 h.z2 h.z3 h.x1 h.x2 h.x3 (by omega)) (isZeroQ _) hd (signQ _) (sR _) rfl
 refine checkFrameZ (cv h.o) (cv h.x) (cv h.y) (cv h.z) (tY _ _ _) (tY _ _ _) (tY _ _ _) hS ?_
 unfold ckF
 by_cases h0:(ax0 x1 x2 x3 || ax0 y1 y2 y3 || ax0 z1 z2 z3)=true
 ·rw [if_pos h0,if_pos h0]
 ·rw [if_neg h0,if_neg h0]
  have h0:(ax0 x1 x2 x3 || ax0 y1 y2 y3 || ax0 z1 z2 z3)=false:=by simpa using h0
  obtain ⟨h01,n3⟩:=Bool.or_eq_false_iff.1 h0
  obtain ⟨n1,n2⟩:=Bool.or_eq_false_iff.1 h01
  by_cases h1:orB x1 x2 x3 y1 y2 y3 z1 z2 z3=true
  ·have e1:=h1
   rw [dec3] at e1
   have hne:=det_ne (sS n1) (sS n2) (sS n3) e1.1 e1.2.1 e1.2.2
   have hs0:nK (aAf x1 x2 x3 y1 y2 y3 z1 z2 z3)≠0:=by
    unfold nK bS
    have:=sQ hne
    split
    ·decide
    ·split
     ·decide
     ·omega
   have h1' : (decide (dt x1 x2 x3 y1 y2 y3=0)&&decide (dt y1 y2 y3 z1 z2 z3=0)&&decide (dt z1 z2 z3 x1 x2 x3=0))=true:=h1
   rw [h1']
   rcases sR (aAf x1 x2 x3 y1 y2 y3 z1 z2 z3) with e|e|e
   ·have e' : nK (dt x1 x2 x3 (y2*z3-y3*z2) (y3*z1-y1*z3) (y1*z2-y2*z1))=1:=e
    rw [e',if_pos ⟨h1,by decide⟩]
    rfl
   ·exact absurd e hs0
   ·have e' : nK (dt x1 x2 x3 (y2*z3-y3*z2) (y3*z1-y1*z3) (y1*z2-y2*z1)) = -1:=e
    rw [e',if_neg (fun k=>k.2 (by decide))]
    rfl
  ·have h1' : (decide (dt x1 x2 x3 y1 y2 y3=0)&&decide (dt y1 y2 y3 z1 z2 z3=0)&&decide (dt z1 z2 z3 x1 x2 x3=0))=false:=by simpa using h1
   rw [if_neg (fun k=>h1 k.1),h1']
   rfl
theorem ax_of (h:ckF x1 x2 x3 y1 y2 y3 z1 z2 z3=0):Ax x1 x2 x3 y1 y2 y3 z1 z2 z3:=by
 unfold ckF at h
 split at h
 ·exact absurd h (by decide)
 rename_i h0
 split at h
 ·rename_i h1
  have h0:(ax0 x1 x2 x3 || ax0 y1 y2 y3 || ax0 z1 z2 z3)=false:=by simpa using h0
  obtain ⟨h01,n3⟩:=Bool.or_eq_false_iff.1 h0
  obtain ⟨n1,n2⟩:=Bool.or_eq_false_iff.1 h01
  have e1:=h1.1
  rw [dec3] at e1
  have hne:=det_ne (sS n1) (sS n2) (sS n3) e1.1 e1.2.1 e1.2.2
  refine ⟨n1,n2,n3,e1.1,e1.2.1,e1.2.2,?_⟩
  rcases sR (aAf x1 x2 x3 y1 y2 y3 z1 z2 z3) with e|e|e
  ·exact e
  ·exfalso
   have:=sQ hne
   unfold nK bS at e
   split at e
   ·exact absurd e (by decide)
   ·split at e
    ·exact absurd e (by decide)
    ·omega
  ·exact absurd (by rw [e];decide) h1.2
 ·exact absurd h (by decide)
theorem sq0_of (h:Ax x1 x2 x3 y1 y2 y3 z1 z2 z3):Sq0 x1 x2 x3 y1 y2 y3 z1 z2 z3 :=
 ⟨fun e=>sS h.x0 (tX e),fun e=>sS h.y0 (tX e),fun e=>sS h.z0 (tX e)⟩
end
end Go.Proofs.YtejbgingjeedaaaGreatDoor.Ab
