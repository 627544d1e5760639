/- Parts of the proof, joined. -/
import Derived.Test.YtggkobpggnamoaaGreatDoorJ38
import Derived.Test.YtggkobpggnamoaaGreatDoorJ37
import Derived.WalkKit
import Derived.ProofKit
import Derived.OpenShut
import Derived.Deep.DeepHandedRow
import Derived.Deep.DeepWitnessRowRef
import Derived.Lib.LaidTab
import Derived.Stop.LaidErr
import Derived.Shelf.Vars
import Derived.Lay
set_option linter.unusedSimpArgs false
set_option linter.unusedVariables false
namespace Go.Proofs.YtggkobpggnamoaaGreatDoor.Ab
open Go.RowKit Go.Proofs.YtggkobpggnamoaaGreatDoor Pl
def Bq (k:Nat) (q:Rat):Prop:=q.num.natAbs<10^k∧q.den<10^k
theorem Bq.mono {k l:Nat} {q:Rat} (h:Bq k q) (hk:k≤l):Bq l q :=
 ⟨Nat.lt_of_lt_of_le h.1 (Nat.pow_le_pow_right (by omega) hk),Nat.lt_of_lt_of_le h.2 (Nat.pow_le_pow_right (by omega) hk)⟩
theorem Bq.mul {j k:Nat} {p q:Rat} (hp:Bq j p) (hq:Bq k q):Bq (j+k) (p*q):=by
 rw [Rat.mul_def']
 obtain ⟨h1,h2⟩:=mkRat_num_le (p.num*q.num) (Nat.ne_of_gt (Nat.mul_pos p.den_pos q.den_pos))
 rw [Int.natAbs_mul] at h1
 refine ⟨Nat.lt_of_le_of_lt h1 ?_,Nat.lt_of_le_of_lt h2 ?_⟩
 ·rw [Nat.pow_add];exact Nat.mul_lt_mul'' hp.1 hq.1
 ·rw [Nat.pow_add];exact Nat.mul_lt_mul'' hp.2 hq.2
theorem Bq.add {j k:Nat} {p q:Rat} (hp:Bq j p) (hq:Bq k q):Bq (j+k+1) (p+q):=by
 rw [Rat.add_def']
 obtain ⟨h1,h2⟩:=mkRat_num_le (p.num*q.den+q.num*p.den) (Nat.ne_of_gt (Nat.mul_pos p.den_pos q.den_pos))
 have a1:p.num.natAbs*q.den<10^(j+k):=by rw [Nat.pow_add];exact Nat.mul_lt_mul'' hp.1 hq.2
 have a2:q.num.natAbs*p.den<10^(j+k):=by rw [Nat.pow_add,Nat.mul_comm];exact Nat.mul_lt_mul'' hp.2 hq.1
 have a3:p.den*q.den<10^(j+k):=by rw [Nat.pow_add];exact Nat.mul_lt_mul'' hp.2 hq.2
 have a4:10^(j+k+1)=10^(j+k)*10:=Nat.pow_succ _ _
 have a5:=Int.natAbs_add_le (p.num*q.den) (q.num*p.den)
 rw [Int.natAbs_mul,Int.natAbs_mul,Int.natAbs_natCast,Int.natAbs_natCast] at a5
 exact ⟨by omega,by omega⟩
theorem Bq.neg {k:Nat} {p:Rat} (hp:Bq k p):Bq k (-p):=by
 refine ⟨?_,hp.2⟩
 rw [Rat.neg_num,Int.natAbs_neg];exact hp.1
theorem Bq.sub {j k:Nat} {p q:Rat} (hp:Bq j p) (hq:Bq k q):Bq (j+k+1) (p-q):=by
 rw [Rat.sub_eq_add_neg]
 exact hp.add hq.neg
theorem Bq.inv {k:Nat} {p:Rat} (hp:Bq k p):Bq k p⁻¹:=by
 by_cases h0:p=0
 ·subst h0;rw [Rat.inv_zero];exact hp
 ·obtain ⟨_,e1,e2⟩:=Parts.inv (Parts.self p) h0
  exact ⟨by rw [← e1];exact hp.2,by rw [← e2];exact hp.1⟩
theorem Bq.div {j k:Nat} {p q:Rat} (hp:Bq j p) (hq:Bq k q):Bq (j+k) (p/q):=by
 rw [Rat.div_def]
 exact hp.mul hq.inv
theorem Bq.dt {k l n:Nat} {a b c x y z:Rat} (h1:Bq k a) (h2:Bq k b) (h3:Bq k c) (g1:Bq l x) (g2:Bq l y) (g3:Bq l z) (hn:3*(k+l)+2≤n):Bq n (dt a b c x y z) :=
 (((h1.mul g1).add (h2.mul g2)).add (h3.mul g3)).mono (by omega)
theorem Bq.wr {k:Nat} {q:Rat} (h:Bq k q) (hk:k≤600):Wr q:=by
 have h':=h.mono (l:=599+1) hk
 exact ⟨decB_size h'.1,decB_size h'.2⟩
theorem Bq.zs {k:Nat} {q:Rat} (h:Bq k q) (hk:k≤10000):Zs 10000 q:=by
 have h':=h.mono (l:=10000+1) (by omega)
 exact h'
theorem bq_of {k:Nat} {q:Rat} (h:Fw k q):Bq k q:=⟨dec_lt h.1,dec_lt h.2⟩
theorem sq_nonneg (x:Rat):0≤x*x:=by
 rcases Rat.le_total (a:=0) (b:=x) with h|h
 ·exact Rat.mul_nonneg h h
 ·have h' : 0≤-x:=by grind
  have:=Rat.mul_nonneg h' h'
  grind
theorem sum_sq {x y z:Rat} (h:dt x y z x y z=0):x=0∧y=0∧z=0:=by
 have h1:=sq_nonneg x
 have h2:=sq_nonneg y
 have h3:=sq_nonneg z
 have a1:x*x=0:=by grind
 have a2:y*y=0:=by grind
 have a3:z*z=0:=by grind
 exact ⟨by grind,by grind,by grind⟩
theorem numr_ne {q:Rat} (h:q≠0):q.num≠0:=fun e=>h (Rat.num_eq_zero.1 e)
theorem dec_and {p q r:Prop} [Decidable p] [Decidable q] [Decidable r] (h:¬ (p∧q∧r)):(decide p&&decide q&&decide r)=false:=by
 rw [Bool.eq_false_iff]
 intro hh
 simp only [Bool.and_eq_true,decide_eq_true_eq] at hh
 exact h ⟨hh.1.1,hh.1.2,hh.2⟩
theorem dec_and' {p q r:Prop} [Decidable p] [Decidable q] [Decidable r] (h:p∧q∧r):(decide p&&decide q&&decide r)=true:=by
 simp [h.1,h.2.1,h.2.2]
section
variable {a b c x y z:Rat}
theorem apiAlongNoneF (h:Wr3 a b c) (k:Wr3 x y z) (h0:(decide (a=0)&&decide (b=0)&&decide (c=0))=false) (hc:(decide (b*z-c*y=0)&&decide (c*x-a*z=0)&&decide (a*y-b*x=0))=false) :
 FitsW Tryz.prog Gl 18 [vS a b c,vS x y z] (.tup [.sc (.lit (.string ⟨#[]⟩)),.sc (.lit (.int .i64 7))]):=by
 have l1:=h.1.lf
 have l2:=h.2.1.lf
 have l3:=h.2.2.lf
 have m1:=k.1.lf
 have m2:=k.2.1.lf
 have m3:=k.2.2.lf
 refine kgoW Tryz.func18 (by kernel_rfl) fun w00 hG=>?_;have hI:=keepGl hG
 refine kcallW hI 37 [fnv 38,vS a b c,fnv 38,vS x y z] (readVV h k) (by kernel_rfl) Tryz.call37 ?_
 refine kcall 55 [vc a b c] (vIsZeroF h0) (by kernel_rfl) Tryz.call55 ?_
 refine kcall 36 [vc a b c,vc x y z] (crossF (l1.mono (by decide)) (l2.mono (by decide)) (l3.mono (by decide)) (m1.mono (by decide)) (m2.mono (by decide)) (m3.mono (by decide))) (by kernel_rfl) Tryz.call36 ?_
 refine kcall 55 [vc (b*z-c*y) (c*x-a*z) (a*y-b*x)] (vIsZeroF hc) (by kernel_rfl) Tryz.call55 ?_
 exact kret Tryz.func18 (by kernel_rfl)
end
section
variable {a1 a2 a3 b1 b2 b3 t x1 x2 x3 y1 y2 y3 d u v s c1 c2 c3 k:Rat}
set_option maxRecDepth 100000 in
theorem lag_zero (fa1:Fw 8 a1) (fa2:Fw 8 a2) (fa3:Fw 8 a3) (fb1:Fw 8 b1) (fb2:Fw 8 b2) (fb3:Fw 8 b3) (ft:Fw 8 t)
 (cX:FitsW Tryz.prog Gl 7 [t3 (writeB a1) (writeB a2) (writeB a3),t3 (writeB b1) (writeB b2) (writeB b3)] (okVS x1 x2 x3)) (cY:FitsW Tryz.prog Gl 7 [t3 (writeB b1) (writeB b2) (writeB b3),t3 (writeB a1) (writeB a2) (writeB a3)] (okVS y1 y2 y3)) (cD:FitsW Tryz.prog Gl 8 [t3 (writeB a1) (writeB a2) (writeB a3),t3 (writeB b1) (writeB b2) (writeB b3)] (okS d)) (cU:FitsW Tryz.prog Gl 9 [t3 (writeB a1) (writeB a2) (writeB a3)] (okS u)) (cV:FitsW Tryz.prog Gl 9 [t3 (writeB b1) (writeB b2) (writeB b3)] (okS v))
 (kX:Fits Tryz.prog 10 [t3 (writeB x1) (writeB x2) (writeB x3)] (it 0)) (kY:Fits Tryz.prog 10 [t3 (writeB y1) (writeB y2) (writeB y3)] (it 0)) (kR:Fits Tryz.prog 11 [.fv (.nsl 3 22 [isS (writeB d),isS (writeB u),isS (writeB v)])] (it 0))
 (cS:FitsW Tryz.prog Gl 9 [t3 (writeB x1) (writeB x2) (writeB x3)] (okS s)) (cP:FitsW Tryz.prog Gl 8 [t3 (writeB x1) (writeB x2) (writeB x3),t3 (writeB a1) (writeB a2) (writeB a3)] (.tup [.sc (.lit (.string ⟨#[48]⟩)),.sc z0])) (cQ:FitsW Tryz.prog Gl 8 [t3 (writeB x1) (writeB x2) (writeB x3),t3 (writeB b1) (writeB b2) (writeB b3)] (.tup [.sc (.lit (.string ⟨#[48]⟩)),.sc z0]))
 (kS:Fits Tryz.prog 12 [tx (writeB s)] (it 0)) (cO:Fits Tryz.prog 13 [t3 (writeB x1) (writeB x2) (writeB x3),t3 (writeB y1) (writeB y2) (writeB y3)] (.fv (.ag [.lit (.string ⟨#[48]⟩),.lit (.string ⟨#[48]⟩),.lit (.string ⟨#[48]⟩)])))
 (cM:Fits Tryz.prog 16 [tx (writeB d),tx (writeB d)] (tx (writeB (d*d)))) (cA:Fits Tryz.prog 15 [tx (writeB s),tx (writeB (d*d))] (tx (writeB (u*v)))) (cM2:Fits Tryz.prog 16 [tx (writeB u),tx (writeB v)] (tx (writeB (u*v))))
 (hu:((writeB u).toList==(⟨#[48]⟩:ByteArray).toList)=true):FitsW Tryz.prog Gl 3 [t3 (writeB a1) (writeB a2) (writeB a3),t3 (writeB b1) (writeB b2) (writeB b3),tx (writeB t)] (bl true):=by
 refine kgoW Tryz.func3 (by kernel_rfl) fun w00 hG=>?_;have hI:=keepGl hG
 refine kcallW hI 4 [] (awakeF) (by kernel_rfl) Tryz.call4 ?_
 refine kcall 5 [t3 (writeB a1) (writeB a2) (writeB a3),it 8] (fewVecT (kn_F (few8Yes fa1)) (kn_F (few8Yes fa2)) (kn_F (few8Yes fa3))) (by kernel_rfl) Tryz.call5 ?_
 refine kcall 5 [t3 (writeB b1) (writeB b2) (writeB b3),it 8] (fewVecT (kn_F (few8Yes fb1)) (kn_F (few8Yes fb2)) (kn_F (few8Yes fb3))) (by kernel_rfl) Tryz.call5 ?_
 refine kcall 6 [tx (writeB t),it 8] (kn_F (few8Yes ft)) (by kernel_rfl) Tryz.call6 ?_
 refine kcallW hI 7 [t3 (writeB a1) (writeB a2) (writeB a3),t3 (writeB b1) (writeB b2) (writeB b3)] (cX) (by kernel_rfl) Tryz.call7 ?_
 refine kcallW hI 7 [t3 (writeB b1) (writeB b2) (writeB b3),t3 (writeB a1) (writeB a2) (writeB a3)] (cY) (by kernel_rfl) Tryz.call7 ?_
 refine kcallW hI 8 [t3 (writeB a1) (writeB a2) (writeB a3),t3 (writeB b1) (writeB b2) (writeB b3)] (cD) (by kernel_rfl) Tryz.call8 ?_
 refine kcallW hI 9 [t3 (writeB a1) (writeB a2) (writeB a3)] (cU) (by kernel_rfl) Tryz.call9 ?_
 refine kcallW hI 9 [t3 (writeB b1) (writeB b2) (writeB b3)] (cV) (by kernel_rfl) Tryz.call9 ?_
 refine kcall 10 [t3 (writeB x1) (writeB x2) (writeB x3)] (kX) (by kernel_rfl) Tryz.call10 ?_
 refine kcall 10 [t3 (writeB y1) (writeB y2) (writeB y3)] (kY) (by kernel_rfl) Tryz.call10 ?_
 refine kcall 11 [.fv (.nsl 3 22 [isS (writeB d),isS (writeB u),isS (writeB v)])] (kR) (by kernel_rfl) Tryz.call11 ?_
 refine kcallW hI 9 [t3 (writeB x1) (writeB x2) (writeB x3)] (cS) (by kernel_rfl) Tryz.call9 ?_
 refine kcallW hI 8 [t3 (writeB x1) (writeB x2) (writeB x3),t3 (writeB a1) (writeB a2) (writeB a3)] (cP) (by kernel_rfl) Tryz.call8 ?_
 refine kcallW hI 8 [t3 (writeB x1) (writeB x2) (writeB x3),t3 (writeB b1) (writeB b2) (writeB b3)] (cQ) (by kernel_rfl) Tryz.call8 ?_
 refine kcall 12 [tx (writeB s)] (kS) (by kernel_rfl) Tryz.call12 ?_
 refine kcall 13 [t3 (writeB x1) (writeB x2) (writeB x3),t3 (writeB y1) (writeB y2) (writeB y3)] (cO) (by kernel_rfl) Tryz.call13 ?_
 refine kcall 14 [] (originF) (by kernel_rfl) Tryz.call14 ?_
 refine kcall 16 [tx (writeB d),tx (writeB d)] (cM) (by kernel_rfl) Tryz.call16 ?_
 refine kcall 15 [tx (writeB s),tx (writeB (d*d))] (cA) (by kernel_rfl) Tryz.call15 ?_
 refine kcall 16 [tx (writeB u),tx (writeB v)] (cM2) (by kernel_rfl) Tryz.call16 ?_
 refine kop2 (.binOp .neq 22 (.tmp 150) (.tmp 153) 22) (.tmp 150) (.tmp 153) (tx (writeB (u*v))) (tx (writeB (u*v))) (bl false) (by kernel_rfl) (by simp [Op.operands]) (by simp [Op.operands]) (fun ρ o β w ho hx hy=>⟨_,sne_run ho (hold_is hx) (hold_is hy) (by rw [beq_self_eq_true];rfl),lit_hold rfl⟩) ?_
 refine kop2 (.binOp .eql 22 (.tmp 155) (.const (.string ⟨#[48]⟩)) 22) (.tmp 155) (.const (.string ⟨#[48]⟩)) (tx (writeB u)) (lt ⟨#[48]⟩) (bl true) (by kernel_rfl) (by simp [Op.operands]) (by simp [Op.operands]) (fun ρ o β w ho hx hy=>⟨_,seq_run ho (hold_is hx) (hold_lit hy) hu,lit_hold rfl⟩) ?_
 exact kret Tryz.func3 (by kernel_rfl)
set_option maxRecDepth 100000 in
theorem lag_along (fa1:Fw 8 a1) (fa2:Fw 8 a2) (fa3:Fw 8 a3) (fb1:Fw 8 b1) (fb2:Fw 8 b2) (fb3:Fw 8 b3) (ft:Fw 8 t)
 (cX:FitsW Tryz.prog Gl 7 [t3 (writeB a1) (writeB a2) (writeB a3),t3 (writeB b1) (writeB b2) (writeB b3)] (okVS x1 x2 x3)) (cY:FitsW Tryz.prog Gl 7 [t3 (writeB b1) (writeB b2) (writeB b3),t3 (writeB a1) (writeB a2) (writeB a3)] (okVS y1 y2 y3)) (cD:FitsW Tryz.prog Gl 8 [t3 (writeB a1) (writeB a2) (writeB a3),t3 (writeB b1) (writeB b2) (writeB b3)] (okS d)) (cU:FitsW Tryz.prog Gl 9 [t3 (writeB a1) (writeB a2) (writeB a3)] (okS u)) (cV:FitsW Tryz.prog Gl 9 [t3 (writeB b1) (writeB b2) (writeB b3)] (okS v))
 (kX:Fits Tryz.prog 10 [t3 (writeB x1) (writeB x2) (writeB x3)] (it 0)) (kY:Fits Tryz.prog 10 [t3 (writeB y1) (writeB y2) (writeB y3)] (it 0)) (kR:Fits Tryz.prog 11 [.fv (.nsl 3 22 [isS (writeB d),isS (writeB u),isS (writeB v)])] (it 0))
 (cS:FitsW Tryz.prog Gl 9 [t3 (writeB x1) (writeB x2) (writeB x3)] (okS s)) (cP:FitsW Tryz.prog Gl 8 [t3 (writeB x1) (writeB x2) (writeB x3),t3 (writeB a1) (writeB a2) (writeB a3)] (.tup [.sc (.lit (.string ⟨#[48]⟩)),.sc z0])) (cQ:FitsW Tryz.prog Gl 8 [t3 (writeB x1) (writeB x2) (writeB x3),t3 (writeB b1) (writeB b2) (writeB b3)] (.tup [.sc (.lit (.string ⟨#[48]⟩)),.sc z0]))
 (kS:Fits Tryz.prog 12 [tx (writeB s)] (it 0)) (cO:Fits Tryz.prog 13 [t3 (writeB x1) (writeB x2) (writeB x3),t3 (writeB y1) (writeB y2) (writeB y3)] (.fv (.ag [.lit (.string ⟨#[48]⟩),.lit (.string ⟨#[48]⟩),.lit (.string ⟨#[48]⟩)])))
 (cM:Fits Tryz.prog 16 [tx (writeB d),tx (writeB d)] (tx (writeB (d*d)))) (cA:Fits Tryz.prog 15 [tx (writeB s),tx (writeB (d*d))] (tx (writeB (u*v)))) (cM2:Fits Tryz.prog 16 [tx (writeB u),tx (writeB v)] (tx (writeB (u*v))))
 (hu:((writeB u).toList==(⟨#[48]⟩:ByteArray).toList)=false) (cC:FitsW Tryz.prog Gl 17 [tx (writeB t),t3 (writeB a1) (writeB a2) (writeB a3)] (okVS c1 c2 c3)) (cK:FitsW Tryz.prog Gl 18 [t3 (writeB a1) (writeB a2) (writeB a3),.fv (.ag [isS (writeB c1),isS (writeB c2),isS (writeB c3)])] (okS t))
 (cN:FitsW Tryz.prog Gl 18 [t3 (writeB a1) (writeB a2) (writeB a3),t3 (writeB b1) (writeB b2) (writeB b3)] (okS k)) (hs:((writeB s).toList==(⟨#[48]⟩:ByteArray).toList)=true):FitsW Tryz.prog Gl 3 [t3 (writeB a1) (writeB a2) (writeB a3),t3 (writeB b1) (writeB b2) (writeB b3),tx (writeB t)] (bl true):=by
 refine kgoW Tryz.func3 (by kernel_rfl) fun w00 hG=>?_;have hI:=keepGl hG
 refine kcallW hI 4 [] (awakeF) (by kernel_rfl) Tryz.call4 ?_
 refine kcall 5 [t3 (writeB a1) (writeB a2) (writeB a3),it 8] (fewVecT (kn_F (few8Yes fa1)) (kn_F (few8Yes fa2)) (kn_F (few8Yes fa3))) (by kernel_rfl) Tryz.call5 ?_
 refine kcall 5 [t3 (writeB b1) (writeB b2) (writeB b3),it 8] (fewVecT (kn_F (few8Yes fb1)) (kn_F (few8Yes fb2)) (kn_F (few8Yes fb3))) (by kernel_rfl) Tryz.call5 ?_
 refine kcall 6 [tx (writeB t),it 8] (kn_F (few8Yes ft)) (by kernel_rfl) Tryz.call6 ?_
 refine kcallW hI 7 [t3 (writeB a1) (writeB a2) (writeB a3),t3 (writeB b1) (writeB b2) (writeB b3)] (cX) (by kernel_rfl) Tryz.call7 ?_
 refine kcallW hI 7 [t3 (writeB b1) (writeB b2) (writeB b3),t3 (writeB a1) (writeB a2) (writeB a3)] (cY) (by kernel_rfl) Tryz.call7 ?_
 refine kcallW hI 8 [t3 (writeB a1) (writeB a2) (writeB a3),t3 (writeB b1) (writeB b2) (writeB b3)] (cD) (by kernel_rfl) Tryz.call8 ?_
 refine kcallW hI 9 [t3 (writeB a1) (writeB a2) (writeB a3)] (cU) (by kernel_rfl) Tryz.call9 ?_
 refine kcallW hI 9 [t3 (writeB b1) (writeB b2) (writeB b3)] (cV) (by kernel_rfl) Tryz.call9 ?_
 refine kcall 10 [t3 (writeB x1) (writeB x2) (writeB x3)] (kX) (by kernel_rfl) Tryz.call10 ?_
 refine kcall 10 [t3 (writeB y1) (writeB y2) (writeB y3)] (kY) (by kernel_rfl) Tryz.call10 ?_
 refine kcall 11 [.fv (.nsl 3 22 [isS (writeB d),isS (writeB u),isS (writeB v)])] (kR) (by kernel_rfl) Tryz.call11 ?_
 refine kcallW hI 9 [t3 (writeB x1) (writeB x2) (writeB x3)] (cS) (by kernel_rfl) Tryz.call9 ?_
 refine kcallW hI 8 [t3 (writeB x1) (writeB x2) (writeB x3),t3 (writeB a1) (writeB a2) (writeB a3)] (cP) (by kernel_rfl) Tryz.call8 ?_
 refine kcallW hI 8 [t3 (writeB x1) (writeB x2) (writeB x3),t3 (writeB b1) (writeB b2) (writeB b3)] (cQ) (by kernel_rfl) Tryz.call8 ?_
 refine kcall 12 [tx (writeB s)] (kS) (by kernel_rfl) Tryz.call12 ?_
 refine kcall 13 [t3 (writeB x1) (writeB x2) (writeB x3),t3 (writeB y1) (writeB y2) (writeB y3)] (cO) (by kernel_rfl) Tryz.call13 ?_
 refine kcall 14 [] (originF) (by kernel_rfl) Tryz.call14 ?_
 refine kcall 16 [tx (writeB d),tx (writeB d)] (cM) (by kernel_rfl) Tryz.call16 ?_
 refine kcall 15 [tx (writeB s),tx (writeB (d*d))] (cA) (by kernel_rfl) Tryz.call15 ?_
 refine kcall 16 [tx (writeB u),tx (writeB v)] (cM2) (by kernel_rfl) Tryz.call16 ?_
 refine kop2 (.binOp .neq 22 (.tmp 150) (.tmp 153) 22) (.tmp 150) (.tmp 153) (tx (writeB (u*v))) (tx (writeB (u*v))) (bl false) (by kernel_rfl) (by simp [Op.operands]) (by simp [Op.operands]) (fun ρ o β w ho hx hy=>⟨_,sne_run ho (hold_is hx) (hold_is hy) (by rw [beq_self_eq_true];rfl),lit_hold rfl⟩) ?_
 refine kop2 (.binOp .eql 22 (.tmp 155) (.const (.string ⟨#[48]⟩)) 22) (.tmp 155) (.const (.string ⟨#[48]⟩)) (tx (writeB u)) (lt ⟨#[48]⟩) (bl false) (by kernel_rfl) (by simp [Op.operands]) (by simp [Op.operands]) (fun ρ o β w ho hx hy=>⟨_,seq_run ho (hold_is hx) (hold_lit hy) hu,lit_hold rfl⟩) ?_
 refine kcallW hI 17 [tx (writeB t),t3 (writeB a1) (writeB a2) (writeB a3)] (cC) (by kernel_rfl) Tryz.call17 ?_
 refine kcallW hI 18 [t3 (writeB a1) (writeB a2) (writeB a3),.fv (.ag [isS (writeB c1),isS (writeB c2),isS (writeB c3)])] (cK) (by kernel_rfl) Tryz.call18 ?_
 refine kcallW hI 18 [t3 (writeB a1) (writeB a2) (writeB a3),t3 (writeB b1) (writeB b2) (writeB b3)] (cN) (by kernel_rfl) Tryz.call18 ?_
 refine kop2 (.binOp .eql 22 (.tmp 180) (.tmp 181) 22) (.tmp 180) (.tmp 181) (tx (writeB t)) (tx (writeB t)) (bl true) (by kernel_rfl) (by simp [Op.operands]) (by simp [Op.operands]) (fun ρ o β w ho hx hy=>⟨_,seq_run ho (hold_is hx) (hold_is hy) (beq_self_eq_true _),lit_hold rfl⟩) ?_
 refine kop2 (.binOp .eql 22 (.tmp 187) (.const (.string ⟨#[48]⟩)) 22) (.tmp 187) (.const (.string ⟨#[48]⟩)) (tx (writeB s)) (lt ⟨#[48]⟩) (bl true) (by kernel_rfl) (by simp [Op.operands]) (by simp [Op.operands]) (fun ρ o β w ho hx hy=>⟨_,seq_run ho (hold_is hx) (hold_lit hy) hs,lit_hold rfl⟩) ?_
 exact kret Tryz.func3 (by kernel_rfl)
set_option maxRecDepth 100000 in
theorem lag_none (fa1:Fw 8 a1) (fa2:Fw 8 a2) (fa3:Fw 8 a3) (fb1:Fw 8 b1) (fb2:Fw 8 b2) (fb3:Fw 8 b3) (ft:Fw 8 t)
 (cX:FitsW Tryz.prog Gl 7 [t3 (writeB a1) (writeB a2) (writeB a3),t3 (writeB b1) (writeB b2) (writeB b3)] (okVS x1 x2 x3)) (cY:FitsW Tryz.prog Gl 7 [t3 (writeB b1) (writeB b2) (writeB b3),t3 (writeB a1) (writeB a2) (writeB a3)] (okVS y1 y2 y3)) (cD:FitsW Tryz.prog Gl 8 [t3 (writeB a1) (writeB a2) (writeB a3),t3 (writeB b1) (writeB b2) (writeB b3)] (okS d)) (cU:FitsW Tryz.prog Gl 9 [t3 (writeB a1) (writeB a2) (writeB a3)] (okS u)) (cV:FitsW Tryz.prog Gl 9 [t3 (writeB b1) (writeB b2) (writeB b3)] (okS v))
 (kX:Fits Tryz.prog 10 [t3 (writeB x1) (writeB x2) (writeB x3)] (it 0)) (kY:Fits Tryz.prog 10 [t3 (writeB y1) (writeB y2) (writeB y3)] (it 0)) (kR:Fits Tryz.prog 11 [.fv (.nsl 3 22 [isS (writeB d),isS (writeB u),isS (writeB v)])] (it 0))
 (cS:FitsW Tryz.prog Gl 9 [t3 (writeB x1) (writeB x2) (writeB x3)] (okS s)) (cP:FitsW Tryz.prog Gl 8 [t3 (writeB x1) (writeB x2) (writeB x3),t3 (writeB a1) (writeB a2) (writeB a3)] (.tup [.sc (.lit (.string ⟨#[48]⟩)),.sc z0])) (cQ:FitsW Tryz.prog Gl 8 [t3 (writeB x1) (writeB x2) (writeB x3),t3 (writeB b1) (writeB b2) (writeB b3)] (.tup [.sc (.lit (.string ⟨#[48]⟩)),.sc z0]))
 (kS:Fits Tryz.prog 12 [tx (writeB s)] (it 0)) (cO:Fits Tryz.prog 13 [t3 (writeB x1) (writeB x2) (writeB x3),t3 (writeB y1) (writeB y2) (writeB y3)] (.fv (.ag [.lit (.string ⟨#[48]⟩),.lit (.string ⟨#[48]⟩),.lit (.string ⟨#[48]⟩)])))
 (cM:Fits Tryz.prog 16 [tx (writeB d),tx (writeB d)] (tx (writeB (d*d)))) (cA:Fits Tryz.prog 15 [tx (writeB s),tx (writeB (d*d))] (tx (writeB (u*v)))) (cM2:Fits Tryz.prog 16 [tx (writeB u),tx (writeB v)] (tx (writeB (u*v))))
 (hu:((writeB u).toList==(⟨#[48]⟩:ByteArray).toList)=false) (cC:FitsW Tryz.prog Gl 17 [tx (writeB t),t3 (writeB a1) (writeB a2) (writeB a3)] (okVS c1 c2 c3)) (cK:FitsW Tryz.prog Gl 18 [t3 (writeB a1) (writeB a2) (writeB a3),.fv (.ag [isS (writeB c1),isS (writeB c2),isS (writeB c3)])] (okS t))
 (cN:FitsW Tryz.prog Gl 18 [t3 (writeB a1) (writeB a2) (writeB a3),t3 (writeB b1) (writeB b2) (writeB b3)] (.tup [.sc (.lit (.string ⟨#[]⟩)),.sc (.lit (.int .i64 7))])) (hs:((writeB s).toList==(⟨#[48]⟩:ByteArray).toList)=false):FitsW Tryz.prog Gl 3 [t3 (writeB a1) (writeB a2) (writeB a3),t3 (writeB b1) (writeB b2) (writeB b3),tx (writeB t)] (bl true):=by
 refine kgoW Tryz.func3 (by kernel_rfl) fun w00 hG=>?_;have hI:=keepGl hG
 refine kcallW hI 4 [] (awakeF) (by kernel_rfl) Tryz.call4 ?_
 refine kcall 5 [t3 (writeB a1) (writeB a2) (writeB a3),it 8] (fewVecT (kn_F (few8Yes fa1)) (kn_F (few8Yes fa2)) (kn_F (few8Yes fa3))) (by kernel_rfl) Tryz.call5 ?_
 refine kcall 5 [t3 (writeB b1) (writeB b2) (writeB b3),it 8] (fewVecT (kn_F (few8Yes fb1)) (kn_F (few8Yes fb2)) (kn_F (few8Yes fb3))) (by kernel_rfl) Tryz.call5 ?_
 refine kcall 6 [tx (writeB t),it 8] (kn_F (few8Yes ft)) (by kernel_rfl) Tryz.call6 ?_
 refine kcallW hI 7 [t3 (writeB a1) (writeB a2) (writeB a3),t3 (writeB b1) (writeB b2) (writeB b3)] (cX) (by kernel_rfl) Tryz.call7 ?_
 refine kcallW hI 7 [t3 (writeB b1) (writeB b2) (writeB b3),t3 (writeB a1) (writeB a2) (writeB a3)] (cY) (by kernel_rfl) Tryz.call7 ?_
 refine kcallW hI 8 [t3 (writeB a1) (writeB a2) (writeB a3),t3 (writeB b1) (writeB b2) (writeB b3)] (cD) (by kernel_rfl) Tryz.call8 ?_
 refine kcallW hI 9 [t3 (writeB a1) (writeB a2) (writeB a3)] (cU) (by kernel_rfl) Tryz.call9 ?_
 refine kcallW hI 9 [t3 (writeB b1) (writeB b2) (writeB b3)] (cV) (by kernel_rfl) Tryz.call9 ?_
 refine kcall 10 [t3 (writeB x1) (writeB x2) (writeB x3)] (kX) (by kernel_rfl) Tryz.call10 ?_
 refine kcall 10 [t3 (writeB y1) (writeB y2) (writeB y3)] (kY) (by kernel_rfl) Tryz.call10 ?_
 refine kcall 11 [.fv (.nsl 3 22 [isS (writeB d),isS (writeB u),isS (writeB v)])] (kR) (by kernel_rfl) Tryz.call11 ?_
 refine kcallW hI 9 [t3 (writeB x1) (writeB x2) (writeB x3)] (cS) (by kernel_rfl) Tryz.call9 ?_
 refine kcallW hI 8 [t3 (writeB x1) (writeB x2) (writeB x3),t3 (writeB a1) (writeB a2) (writeB a3)] (cP) (by kernel_rfl) Tryz.call8 ?_
 refine kcallW hI 8 [t3 (writeB x1) (writeB x2) (writeB x3),t3 (writeB b1) (writeB b2) (writeB b3)] (cQ) (by kernel_rfl) Tryz.call8 ?_
 refine kcall 12 [tx (writeB s)] (kS) (by kernel_rfl) Tryz.call12 ?_
 refine kcall 13 [t3 (writeB x1) (writeB x2) (writeB x3),t3 (writeB y1) (writeB y2) (writeB y3)] (cO) (by kernel_rfl) Tryz.call13 ?_
 refine kcall 14 [] (originF) (by kernel_rfl) Tryz.call14 ?_
 refine kcall 16 [tx (writeB d),tx (writeB d)] (cM) (by kernel_rfl) Tryz.call16 ?_
 refine kcall 15 [tx (writeB s),tx (writeB (d*d))] (cA) (by kernel_rfl) Tryz.call15 ?_
 refine kcall 16 [tx (writeB u),tx (writeB v)] (cM2) (by kernel_rfl) Tryz.call16 ?_
 refine kop2 (.binOp .neq 22 (.tmp 150) (.tmp 153) 22) (.tmp 150) (.tmp 153) (tx (writeB (u*v))) (tx (writeB (u*v))) (bl false) (by kernel_rfl) (by simp [Op.operands]) (by simp [Op.operands]) (fun ρ o β w ho hx hy=>⟨_,sne_run ho (hold_is hx) (hold_is hy) (by rw [beq_self_eq_true];rfl),lit_hold rfl⟩) ?_
 refine kop2 (.binOp .eql 22 (.tmp 155) (.const (.string ⟨#[48]⟩)) 22) (.tmp 155) (.const (.string ⟨#[48]⟩)) (tx (writeB u)) (lt ⟨#[48]⟩) (bl false) (by kernel_rfl) (by simp [Op.operands]) (by simp [Op.operands]) (fun ρ o β w ho hx hy=>⟨_,seq_run ho (hold_is hx) (hold_lit hy) hu,lit_hold rfl⟩) ?_
 refine kcallW hI 17 [tx (writeB t),t3 (writeB a1) (writeB a2) (writeB a3)] (cC) (by kernel_rfl) Tryz.call17 ?_
 refine kcallW hI 18 [t3 (writeB a1) (writeB a2) (writeB a3),.fv (.ag [isS (writeB c1),isS (writeB c2),isS (writeB c3)])] (cK) (by kernel_rfl) Tryz.call18 ?_
 refine kcallW hI 18 [t3 (writeB a1) (writeB a2) (writeB a3),t3 (writeB b1) (writeB b2) (writeB b3)] (cN) (by kernel_rfl) Tryz.call18 ?_
 refine kop2 (.binOp .eql 22 (.tmp 180) (.tmp 181) 22) (.tmp 180) (.tmp 181) (tx (writeB t)) (tx (writeB t)) (bl true) (by kernel_rfl) (by simp [Op.operands]) (by simp [Op.operands]) (fun ρ o β w ho hx hy=>⟨_,seq_run ho (hold_is hx) (hold_is hy) (beq_self_eq_true _),lit_hold rfl⟩) ?_
 refine kop2 (.binOp .eql 22 (.tmp 187) (.const (.string ⟨#[48]⟩)) 22) (.tmp 187) (.const (.string ⟨#[48]⟩)) (tx (writeB s)) (lt ⟨#[48]⟩) (bl false) (by kernel_rfl) (by simp [Op.operands]) (by simp [Op.operands]) (fun ρ o β w ho hx hy=>⟨_,seq_run ho (hold_is hx) (hold_lit hy) hs,lit_hold rfl⟩) ?_
 exact kret Tryz.func3 (by kernel_rfl)
end
section
variable {a1 a2 a3 b1 b2 b3 t:ByteArray} {c:Bool}
set_option maxRecDepth 100000 in
theorem lag_f1 (h:Fits Tryz.prog 5 [t3 a1 a2 a3,it 8] (bl false)):FitsW Tryz.prog Gl 3 [t3 a1 a2 a3,t3 b1 b2 b3,tx t] (bl true):=by
 refine kgoW Tryz.func3 (by kernel_rfl) fun w00 hG=>?_;have hI:=keepGl hG
 refine kcallW hI 4 [] (awakeF) (by kernel_rfl) Tryz.call4 ?_
 refine kcall 5 [t3 a1 a2 a3,it 8] (h) (by kernel_rfl) Tryz.call5 ?_
 refine kcallW hI 4 [] (awakeF) (by kernel_rfl) Tryz.call4 ?_
 exact kret Tryz.func3 (by kernel_rfl)
set_option maxRecDepth 100000 in
theorem lag_f2 (h1:Fits Tryz.prog 5 [t3 a1 a2 a3,it 8] (bl true)) (h:Fits Tryz.prog 5 [t3 b1 b2 b3,it 8] (bl false)):FitsW Tryz.prog Gl 3 [t3 a1 a2 a3,t3 b1 b2 b3,tx t] (bl true):=by
 refine kgoW Tryz.func3 (by kernel_rfl) fun w00 hG=>?_;have hI:=keepGl hG
 refine kcallW hI 4 [] (awakeF) (by kernel_rfl) Tryz.call4 ?_
 refine kcall 5 [t3 a1 a2 a3,it 8] (h1) (by kernel_rfl) Tryz.call5 ?_
 refine kcall 5 [t3 b1 b2 b3,it 8] (h) (by kernel_rfl) Tryz.call5 ?_
 refine kcallW hI 4 [] (awakeF) (by kernel_rfl) Tryz.call4 ?_
 exact kret Tryz.func3 (by kernel_rfl)
set_option maxRecDepth 100000 in
theorem lag_f3 (h1:Fits Tryz.prog 5 [t3 a1 a2 a3,it 8] (bl true)) (h2:Fits Tryz.prog 5 [t3 b1 b2 b3,it 8] (bl true)) (h:Fits Tryz.prog 6 [tx t,it 8] (bl false)):FitsW Tryz.prog Gl 3 [t3 a1 a2 a3,t3 b1 b2 b3,tx t] (bl true):=by
 refine kgoW Tryz.func3 (by kernel_rfl) fun w00 hG=>?_;have hI:=keepGl hG
 refine kcallW hI 4 [] (awakeF) (by kernel_rfl) Tryz.call4 ?_
 refine kcall 5 [t3 a1 a2 a3,it 8] (h1) (by kernel_rfl) Tryz.call5 ?_
 refine kcall 5 [t3 b1 b2 b3,it 8] (h2) (by kernel_rfl) Tryz.call5 ?_
 refine kcall 6 [tx t,it 8] (h) (by kernel_rfl) Tryz.call6 ?_
 refine kcallW hI 4 [] (awakeF) (by kernel_rfl) Tryz.call4 ?_
 exact kret Tryz.func3 (by kernel_rfl)
end
theorem t0_eq {q:Rat} (h:q=0):((writeB q).toList==(⟨#[48]⟩:ByteArray).toList)=true:=by
 have e:writeB q=⟨#[48]⟩:=by rw [h];exact w0
 rw [e]
 exact beq_self_eq_true _
theorem t0_ne {q:Rat} (h:q≠0):((writeB q).toList==(⟨#[48]⟩:ByteArray).toList)=false:=ne_list (write_ne_zero (numr_ne h))
theorem chkB {k:Nat} {q:Rat} (h:Bq k q) (hk:k≤600):Fits Tryz.prog 12 [tx (writeB q)] (it 0):=chkF (h.wr hk).n (h.wr hk).d
section
variable {a1 a2 a3 b1 b2 b3 t:Rat}
theorem zero_text {f:FuncId} {l:List (AV Kn)} {q:Rat} (h:FitsW Tryz.prog Gl f l (okS q)) (h0:q=0):FitsW Tryz.prog Gl f l (.tup [.sc (.lit (.string ⟨#[48]⟩)),.sc z0]):=by
 have e:writeB q=⟨#[48]⟩:=by rw [h0];exact w0
 simp only [okS,e] at h
 exact h.res fun _ _ _ ⟨vs,e,hv⟩=>⟨vs,e,(FvL.txt (.same .nil)).to hv⟩
theorem zero_texts {f:FuncId} {l:List (AV Kn)} {p q r:Rat} (h:Fits Tryz.prog f l (t3 (writeB p) (writeB q) (writeB r))) (h1:p=0) (h2:q=0) (h3:r=0):Fits Tryz.prog f l (.fv (.ag [.lit (.string ⟨#[48]⟩),.lit (.string ⟨#[48]⟩),.lit (.string ⟨#[48]⟩)])):=by
 have e:writeB 0=⟨#[48]⟩:=w0
 simp only [t3,h1,h2,h3,e] at h
 exact fun β w vs hv=>(h β w vs hv).mono fun _ w' ⟨v,e1,e2,e3⟩=>⟨v,e1,e2,(ag_lit (.txt (.txt (.txt .nil)))).1 e3⟩
theorem lagR (fa1:Fw 8 a1) (fa2:Fw 8 a2) (fa3:Fw 8 a3) (fb1:Fw 8 b1) (fb2:Fw 8 b2) (fb3:Fw 8 b3) (ft:Fw 8 t):FitsW Tryz.prog Gl 3 [t3 (writeB a1) (writeB a2) (writeB a3),t3 (writeB b1) (writeB b2) (writeB b3),tx (writeB t)] (bl true):=by
 have qa1:=bq_of fa1
 have qa2:=bq_of fa2
 have qa3:=bq_of fa3
 have qb1:=bq_of fb1
 have qb2:=bq_of fb2
 have qb3:=bq_of fb3
 have qt:=bq_of ft
 have wa:Wr3 a1 a2 a3:=⟨qa1.wr (by omega),qa2.wr (by omega),qa3.wr (by omega)⟩
 have wb:Wr3 b1 b2 b3:=⟨qb1.wr (by omega),qb2.wr (by omega),qb3.wr (by omega)⟩
 have wt:Wr t:=qt.wr (by omega)
 obtain ⟨x1,hx1⟩:∃ x1,x1=a2*b3-a3*b2:=⟨_,rfl⟩
 obtain ⟨x2,hx2⟩:∃ x2,x2=a3*b1-a1*b3:=⟨_,rfl⟩
 obtain ⟨x3,hx3⟩:∃ x3,x3=a1*b2-a2*b1:=⟨_,rfl⟩
 obtain ⟨y1,hy1⟩:∃ y1,y1=b2*a3-b3*a2:=⟨_,rfl⟩
 obtain ⟨y2,hy2⟩:∃ y2,y2=b3*a1-b1*a3:=⟨_,rfl⟩
 obtain ⟨y3,hy3⟩:∃ y3,y3=b1*a2-b2*a1:=⟨_,rfl⟩
 have qx1:Bq 33 x1:=by rw [hx1];exact (qa2.mul qb3).sub (qa3.mul qb2)
 have qx2:Bq 33 x2:=by rw [hx2];exact (qa3.mul qb1).sub (qa1.mul qb3)
 have qx3:Bq 33 x3:=by rw [hx3];exact (qa1.mul qb2).sub (qa2.mul qb1)
 have qy1:Bq 33 y1:=by rw [hy1];exact (qb2.mul qa3).sub (qb3.mul qa2)
 have qy2:Bq 33 y2:=by rw [hy2];exact (qb3.mul qa1).sub (qb1.mul qa3)
 have qy3:Bq 33 y3:=by rw [hy3];exact (qb1.mul qa2).sub (qb2.mul qa1)
 have wx:Wr3 x1 x2 x3:=⟨qx1.wr (by omega),qx2.wr (by omega),qx3.wr (by omega)⟩
 have wy:Wr3 y1 y2 y3:=⟨qy1.wr (by omega),qy2.wr (by omega),qy3.wr (by omega)⟩
 have cX:=apiCrossF wa wb (by rw [← hx1,← hx2,← hx3];exact wx)
 rw [← hx1,← hx2,← hx3] at cX
 have cY:=apiCrossF wb wa (by rw [← hy1,← hy2,← hy3];exact wy)
 rw [← hy1,← hy2,← hy3] at cY
 obtain ⟨d,hd⟩:∃ d,d=dt a1 a2 a3 b1 b2 b3:=⟨_,rfl⟩
 obtain ⟨u,hu⟩:∃ u,u=dt a1 a2 a3 a1 a2 a3:=⟨_,rfl⟩
 obtain ⟨v,hv⟩:∃ v,v=dt b1 b2 b3 b1 b2 b3:=⟨_,rfl⟩
 obtain ⟨s,hs⟩:∃ s,s=dt x1 x2 x3 x1 x2 x3:=⟨_,rfl⟩
 have qd:Bq 50 d:=by rw [hd];exact Bq.dt qa1 qa2 qa3 qb1 qb2 qb3 (by omega)
 have qu:Bq 50 u:=by rw [hu];exact Bq.dt qa1 qa2 qa3 qa1 qa2 qa3 (by omega)
 have qv:Bq 50 v:=by rw [hv];exact Bq.dt qb1 qb2 qb3 qb1 qb2 qb3 (by omega)
 have qs:Bq 200 s:=by rw [hs];exact Bq.dt qx1 qx2 qx3 qx1 qx2 qx3 (by omega)
 have cD:=apiDotF wa wb (by rw [← hd];exact qd.wr (by omega))
 rw [← hd] at cD
 have cU:=apiSquareF wa (by rw [← hu];exact qu.wr (by omega))
 rw [← hu] at cU
 have cV:=apiSquareF wb (by rw [← hv];exact qv.wr (by omega))
 rw [← hv] at cV
 have cS:=apiSquareF wx (by rw [← hs];exact qs.wr (by omega))
 rw [← hs] at cS
 have cP:=zero_text (apiDotF wx wa ((Bq.dt qx1 qx2 qx3 qa1 qa2 qa3 (n:=200) (by omega)).wr (by omega))) (by rw [hx1,hx2,hx3];grind)
 have cQ:=zero_text (apiDotF wx wb ((Bq.dt qx1 qx2 qx3 qb1 qb2 qb3 (n:=200) (by omega)).wr (by omega))) (by rw [hx1,hx2,hx3];grind)
 have kX:=checkVec3 (chkB qx1 (by omega)) (chkB qx2 (by omega)) (chkB qx3 (by omega))
 have kY:=checkVec3 (chkB qy1 (by omega)) (chkB qy2 (by omega)) (chkB qy3 (by omega))
 have kR:=checkRow3 (T:=22) (chkB qd (by omega)) (chkB qu (by omega)) (chkB qv (by omega))
 have kS:=chkB qs (by omega)
 have cO:=zero_texts (addVecR (kn_S (refAddF (qx1.zs (by omega)) (qy1.zs (by omega)))) (kn_S (refAddF (qx2.zs (by omega)) (qy2.zs (by omega)))) (kn_S (refAddF (qx3.zs (by omega)) (qy3.zs (by omega))))) (by rw [hx1,hy1];grind) (by rw [hx2,hy2];grind) (by rw [hx3,hy3];grind)
 have cM:=kn_S (refMulF (qd.zs (by omega)) (qd.zs (by omega)))
 have cM2:=kn_S (refMulF (qu.zs (by omega)) (qv.zs (by omega)))
 have cA:=kn_S (refAddF (qs.zs (by omega)) ((qd.mul qd).zs (by omega)))
 have eA:s+d*d=u*v:=by rw [hs,hd,hu,hv,hx1,hx2,hx3];grind
 rw [eA] at cA
 by_cases hu0:u=0
 ·exact lag_zero fa1 fa2 fa3 fb1 fb2 fb3 ft cX cY cD cU cV kX kY kR cS cP cQ kS cO cM cA cM2 (t0_eq hu0)
 ·have ha0:¬ (a1=0∧a2=0∧a3=0):=by
   rintro ⟨e1,e2,e3⟩
   apply hu0
   rw [hu,e1,e2,e3]
   kernel_rfl
  have hw:Wr3 (t*a1) (t*a2) (t*a3):=⟨(qt.mul qa1).wr (by omega),(qt.mul qa2).wr (by omega),(qt.mul qa3).wr (by omega)⟩
  have cC:=apiScaleF wt wa hw
  have eK:dt (t*a1) (t*a2) (t*a3) a1 a2 a3/dt a1 a2 a3 a1 a2 a3=t:=by
   have h1:dt (t*a1) (t*a2) (t*a3) a1 a2 a3=t*u:=by rw [hu];grind
   rw [h1,← hu]
   grind
  have cK:=apiAlongF wa hw (dec_and ha0) (dec_and' ⟨by grind,by grind,by grind⟩) (by rw [← hu];exact hu0) (by rw [eK];exact wt)
  rw [eK] at cK
  by_cases hs0:s=0
  ·obtain ⟨e1,e2,e3⟩:=sum_sq (hs▸hs0)
   have hr:Wr (dt b1 b2 b3 a1 a2 a3/dt a1 a2 a3 a1 a2 a3):=((Bq.dt qb1 qb2 qb3 qa1 qa2 qa3 (n:=50) (by omega)).div (Bq.dt qa1 qa2 qa3 qa1 qa2 qa3 (n:=50) (by omega))).wr (by omega)
   have cN:=apiAlongF wa wb (dec_and ha0) (dec_and' ⟨by rw [← hx1];exact e1,by rw [← hx2];exact e2,by rw [← hx3];exact e3⟩) (by rw [← hu];exact hu0) hr
   exact lag_along fa1 fa2 fa3 fb1 fb2 fb3 ft cX cY cD cU cV kX kY kR cS cP cQ kS cO cM cA cM2 (t0_ne hu0) cC cK cN (t0_eq hs0)
  ·have cN:=apiAlongNoneF wa wb (dec_and ha0) (dec_and (by
    rw [← hx1,← hx2,← hx3]
    rintro ⟨e1,e2,e3⟩
    apply hs0
    rw [hs,e1,e2,e3]
    kernel_rfl))
   exact lag_none fa1 fa2 fa3 fb1 fb2 fb3 ft cX cY cD cU cV kX kY kR cS cP cQ kS cO cM cA cM2 (t0_ne hu0) cC cK cN (t0_ne hs0)
end
def Fy (k:Nat) (s:ByteArray):Prop := ∃ q,s=writeB q∧Fw k q
theorem fewVec_or {a b c:ByteArray} {n:Int} {k:Nat} (yes:∀ s,Fy k s→Fits Tryz.prog 6 [tx s,it n] (bl true)) (no:∀ s,¬ Fy k s→Fits Tryz.prog 6 [tx s,it n] (bl false)) :
 (Fy k a∧Fy k b∧Fy k c∧Fits Tryz.prog 5 [t3 a b c,it n] (bl true))∨Fits Tryz.prog 5 [t3 a b c,it n] (bl false):=by
 by_cases h1:Fy k a
 ·by_cases h2:Fy k b
  ·by_cases h3:Fy k c
   ·exact .inl ⟨h1,h2,h3,fewVecT (yes _ h1) (yes _ h2) (yes _ h3)⟩
   ·exact .inr (fewVecF3 (yes _ h1) (yes _ h2) (no _ h3))
  ·exact .inr (fewVecF2 (yes _ h1) (no _ h2))
 ·exact .inr (fewVecF1 (no _ h1))
theorem few8y (s:ByteArray) (h:Fy 8 s):Fits Tryz.prog 6 [tx s,it 8] (bl true):=by
 obtain ⟨q,rfl,h⟩:=h
 exact kn_F (few8Yes h)
theorem few8n (s:ByteArray) (h:¬ Fy 8 s):Fits Tryz.prog 6 [tx s,it 8] (bl false):=kn_F (few8No h)
theorem lagrangeF (a1 a2 a3 b1 b2 b3 t:ByteArray):FitsW Tryz.prog Gl 3 [t3 a1 a2 a3,t3 b1 b2 b3,tx t] (bl true):=by
 rcases fewVec_or (a:=a1) (b:=a2) (c:=a3) few8y few8n with ⟨⟨p1,rfl,f1⟩,⟨p2,rfl,f2⟩,⟨p3,rfl,f3⟩,h1⟩|h1
 ·rcases fewVec_or (a:=b1) (b:=b2) (c:=b3) few8y few8n with ⟨⟨q1,rfl,g1⟩,⟨q2,rfl,g2⟩,⟨q3,rfl,g3⟩,h2⟩|h2
  ·by_cases h3:Fy 8 t
   ·obtain ⟨r,rfl,fr⟩:=h3
    exact lagR f1 f2 f3 g1 g2 g3 fr
   ·exact lag_f3 h1 h2 (few8n _ h3)
  ·exact lag_f2 h1 h2
 ·exact lag_f1 h1
end Go.Proofs.YtggkobpggnamoaaGreatDoor.Ab
namespace Go.Proofs.YtggkobpggnamoaaGreatDoor.Ab
open Go.ChangeShapes Go.WideShapes Go.ChangeAt Go.RowKit Go.Proofs.YtggkobpggnamoaaGreatDoor
theorem gPow:Tryz.prog.globalNamed "internal/strconv.uint64pow10" = some 5:=by kernel_rfl
theorem gl_of {W:World} {r:List (String×DataW Unit)} (h:laidMet Tryz.prog (("internal/strconv.uint64pow10",Lib.tabData .u64 Lib.pow10Tab)::r) W) (hs:W.ShapedOpen Tryz.prog):Gl W :=
 ⟨Lib.tabIs_of_head (t:=281) (e:=168) (n:=20) gPow (by kernel_rfl) (by kernel_rfl) (by kernel_rfl) (by kernel_rfl) (by kernel_rfl) h,
  Go.Proofs.cell_of_shapedOpen_int (zero := #[.int .i64 0]) (t:=3) hs (of_decide_eq_true (by kernel_rfl)) (by kernel_rfl) rfl (by kernel_rfl) (by kernel_rfl) (by kernel_rfl)⟩
section
variable {H:Type} {enc:TypeId×Value→H} {P:Program} {w:World} {base b0:Nat} {spare:Nat→Bool} {held:Bool} {r:Reach}
theorem open_t3 {t e:TypeId} {v:Value} {d:DataW H} {ps:List MemPlace} (ht:P.underlying t=some (.array 3 e)) (he:P.underlying e=some .string) (hc:P.cellsOf e=1) (hC:P.cellsOf t=3)
 (hv:Value.okWide P w r b0 t v) (h:DataW.Trod enc P w base spare held t v d ps) :
 ∃ a b c:ByteArray,v = .agg #[.string a,.string b,.string c]∧d = .agg [.lit (.string a.data.toList),.lit (.string b.data.toList),.lit (.string c.data.toList)]∧ps = []∧a.size≤maxLen∧b.size≤maxLen∧c.size≤maxLen:=by
 have hv' : ∃ cs:Array Value,v = .agg cs∧cs.size=P.cellsOf t:=by
  simp only [Value.okWide,ht] at hv
  obtain ⟨cs,h1,h2,_⟩:=hv
  exact ⟨cs,h1,h2⟩
 obtain ⟨cs,rfl,hsz⟩:=hv'
 obtain ⟨c0,c1,c2,rfl⟩:∃ c0 c1 c2,cs = #[c0,c1,c2]:=by
  obtain ⟨l⟩:=cs
  match l,hsz.trans hC with
  | [c0,c1,c2],_=>exact ⟨c0,c1,c2,rfl⟩
 obtain ⟨fuel,hf⟩:=h
 obtain ⟨xs,m,_,hx,_,hl,hat⟩:=DataW.trod_array ht hf
 obtain ⟨y0,y1,y2,rfl⟩:∃ y0 y1 y2,xs = [y0,y1,y2]:=by
  match xs,hl with
  | [y0,y1,y2],_=>exact ⟨y0,y1,y2,rfl⟩
 have key:∀ {c:Value} {y:DataW H×List MemPlace},DataW.trod enc P w base spare held m e [c]=some y→∃ s:ByteArray,c = .string s∧y=(.lit (.string s.data.toList),[])∧s.size≤maxLen:=by
  intro c y hy
  cases m with
  | zero=>simp [DataW.trod] at hy
  | succ m =>
    unfold DataW.trod at hy
    rw [he] at hy
    cases c <;> simp at hy
    rename_i s
    exact ⟨s,rfl,hy.2.symm,hy.1⟩
 have h0:=hat 0 (by omega)
 have h1:=hat 1 (by omega)
 have h2:=hat 2 (by omega)
 simp only [hc,Value.cells] at h0 h1 h2
 obtain ⟨a,rfl,rfl,ha⟩:=key (c:=c0) (y:=y0) (by simpa using h0)
 obtain ⟨b,rfl,rfl,hb⟩:=key (c:=c1) (y:=y1) (by simpa using h1)
 obtain ⟨c,rfl,rfl,hc⟩:=key (c:=c2) (y:=y2) (by simpa using h2)
 simp only [Prod.mk.injEq] at hx
 exact ⟨a,b,c,rfl,by simpa using hx.1,by simpa using hx.2,ha,hb,hc⟩
theorem shut_t3 {t e:TypeId} {a b c:ByteArray} (ht:P.underlying t=some (.array 3 e)) (he:P.underlying e=some .string) (hc:P.cellsOf e=1) (hC:P.cellsOf t=3) (ha:a.size≤maxLen) (hb:b.size≤maxLen) (hc' : c.size≤maxLen) :
 DataW.Trod enc P w base spare held t (.agg #[.string a,.string b,.string c]) (.agg [.lit (.string a.data.toList),.lit (.string b.data.toList),.lit (.string c.data.toList)]) []:=by
 refine ⟨2,?_⟩
 have key:∀ s:ByteArray,s.size≤maxLen→DataW.trod enc P w base spare held 1 e [.string s]=some (.lit (.string s.data.toList),[]):=by
  intro s hs
  unfold DataW.trod
  rw [he]
  simp [hs]
 have k0:=key a ha
 have k1:=key b hb
 have k2:=key c hc'
 unfold DataW.trod
 simp only [ht,Value.cells]
 rw [if_pos (by simp [hC])]
 have e3:List.range 3 = [0,1,2]:=rfl
 rw [e3]
 simp [hc,k0,k1,k2]
end
theorem hold_t3 {β:List Nat} {a b c:ByteArray} {w:World}:(t3 a b c).holds β (.agg #[.string a,.string b,.string c]) w :=
 ⟨[.string a,.string b,.string c],rfl,[.string a],_,rfl,rfl,[.string b],_,rfl,rfl,[.string c],_,rfl,rfl,rfl⟩
end Go.Proofs.YtggkobpggnamoaaGreatDoor.Ab
