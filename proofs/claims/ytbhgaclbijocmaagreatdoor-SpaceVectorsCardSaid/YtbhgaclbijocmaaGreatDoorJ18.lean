/- Parts of the proof, joined. -/
import Derived.Test.YtbhgaclbijocmaaGreatDoorJ17
import Derived.Test.YtbhgaclbijocmaaGreatDoorJ16
import Derived.Test.YtbhgaclbijocmaaGreatDoorJ3
import Derived.Laws.Tables
import Derived.Laws.StructEq
import Derived.Test.YtbhgaclbijocmaaGreatDoorJ11
import Derived.Test.YtbhgaclbijocmaaGreatDoorJ10
set_option linter.unusedSimpArgs false
set_option linter.unusedVariables false
namespace Go.Proofs.YtbhgaclbijocmaaGreatDoor.Ab
open Go.RowKit Go.Proofs.YtbhgaclbijocmaaGreatDoor Pl
def Bq (k:Nat) (q:Rat):Prop:=q.num.natAbs<10^k∧q.den<10^k
theorem Bq.mono {k l:Nat} {q:Rat} (h:Bq k q) (hk:k≤l):Bq l q :=
 ⟨Nat.lt_of_lt_of_le h.1 (Nat.pow_le_pow_right (by omega) hk),Nat.lt_of_lt_of_le h.2 (Nat.pow_le_pow_right (by omega) hk)⟩
theorem Bq.mul {j k:Nat} {p q:Rat} (hp:Bq j p) (hq:Bq k q):Bq (j+k) (p*q):=by
 rw [Rat.mul_def']
 obtain ⟨h1,h2⟩:=eA (p.num*q.num) (Nat.ne_of_gt (Nat.mul_pos p.den_pos q.den_pos))
 rw [Int.natAbs_mul] at h1
 refine ⟨Nat.lt_of_le_of_lt h1 ?_,Nat.lt_of_le_of_lt h2 ?_⟩
 ·rw [Nat.pow_add];exact Nat.mul_lt_mul'' hp.1 hq.1
 ·rw [Nat.pow_add];exact Nat.mul_lt_mul'' hp.2 hq.2
theorem Bq.add {j k:Nat} {p q:Rat} (hp:Bq j p) (hq:Bq k q):Bq (j+k+1) (p+q):=by
 rw [Rat.add_def']
 obtain ⟨h1,h2⟩:=eA (p.num*q.den+q.num*p.den) (Nat.ne_of_gt (Nat.mul_pos p.den_pos q.den_pos))
 have a1:p.num.natAbs*q.den<10^(j+k):=by rw [Nat.pow_add];exact Nat.mul_lt_mul'' hp.1 hq.2
 have a2:q.num.natAbs*p.den<10^(j+k):=by rw [Nat.pow_add,Nat.mul_comm];exact Nat.mul_lt_mul'' hp.2 hq.1
 have a3:p.den*q.den<10^(j+k):=by rw [Nat.pow_add];exact Nat.mul_lt_mul'' hp.2 hq.2
 have a4:10^(j+k+1)=10^(j+k)*10:=Nat.pow_succ _ _
 have a5:=Int.natAbs_add_le (p.num*q.den) (q.num*p.den)
 rw [Int.natAbs_mul,Int.natAbs_mul,Int.natAbs_natCast,Int.natAbs_natCast] at a5
 exact ⟨by omega,by omega⟩
theorem Bq.neg {k:Nat} {p:Rat} (hp:Bq k p):Bq k (-p):=by
 refine ⟨?_,hp.2⟩
 rw [Rat.neg_num,Int.natAbs_neg];exact hp.1
theorem Bq.sub {j k:Nat} {p q:Rat} (hp:Bq j p) (hq:Bq k q):Bq (j+k+1) (p-q):=by
 rw [Rat.sub_eq_add_neg]
 exact hp.add hq.neg
theorem Bq.inv {k:Nat} {p:Rat} (hp:Bq k p):Bq k p⁻¹:=by
 by_cases h0:p=0
 ·subst h0;rw [Rat.inv_zero];exact hp
 ·obtain ⟨_,e1,e2⟩:=Parts.inv (Parts.self p) h0
  exact ⟨by rw [← e1];exact hp.2,by rw [← e2];exact hp.1⟩
theorem Bq.div {j k:Nat} {p q:Rat} (hp:Bq j p) (hq:Bq k q):Bq (j+k) (p/q):=by
 rw [Rat.div_def]
 exact hp.mul hq.inv
theorem Bq.dt {k l n:Nat} {a b c x y z:Rat} (h1:Bq k a) (h2:Bq k b) (h3:Bq k c) (g1:Bq l x) (g2:Bq l y) (g3:Bq l z) (hn:3*(k+l)+2≤n):Bq n (dt a b c x y z) :=
 (((h1.mul g1).add (h2.mul g2)).add (h3.mul g3)).mono (by omega)
theorem Bq.wr {k:Nat} {q:Rat} (h:Bq k q) (hk:k≤600):Wr q:=by
 have h':=h.mono (l:=599+1) hk
 exact ⟨decB_size h'.1,decB_size h'.2⟩
theorem Bq.zs {k:Nat} {q:Rat} (h:Bq k q) (hk:k≤10000):Zs 10000 q:=by
 have h':=h.mono (l:=10000+1) (by omega)
 exact h'
theorem bq_of {k:Nat} {q:Rat} (h:Fw k q):Bq k q:=⟨nQ h.1,nQ h.2⟩
theorem sq_nonneg (x:Rat):0≤x*x:=by
 rcases Rat.le_total (a:=0) (b:=x) with h|h
 ·exact Rat.mul_nonneg h h
 ·have h' : 0≤-x:=by grind
  have:=Rat.mul_nonneg h' h'
  grind
theorem sum_sq {x y z:Rat} (h:dt x y z x y z=0):x=0∧y=0∧z=0:=by
 have h1:=sq_nonneg x
 have h2:=sq_nonneg y
 have h3:=sq_nonneg z
 have a1:x*x=0:=by grind
 have a2:y*y=0:=by grind
 have a3:z*z=0:=by grind
 exact ⟨by grind,by grind,by grind⟩
theorem numr_ne {q:Rat} (h:q≠0):q.num≠0:=fun e=>h (Rat.num_eq_zero.1 e)
theorem gH {p q r:Prop} [Decidable p] [Decidable q] [Decidable r] (h:¬ (p∧q∧r)):(decide p&&decide q&&decide r)=false:=by
 rw [Bool.eq_false_iff]
 intro hh
 simp only [Bool.and_eq_true,decide_eq_true_eq] at hh
 exact h ⟨hh.1.1,hh.1.2,hh.2⟩
theorem mS {p q r:Prop} [Decidable p] [Decidable q] [Decidable r] (h:p∧q∧r):(decide p&&decide q&&decide r)=true:=by
 simp [h.1,h.2.1,h.2.2]
section
variable {a b c x y z:Rat}
theorem apiAlongNoneF (h:dU a b c) (k:dU x y z) (h0:(decide (a=0)&&decide (b=0)&&decide (c=0))=false) (hc:(decide (b*z-c*y=0)&&decide (c*x-a*z=0)&&decide (a*y-b*x=0))=false) :
 FitsW Tryz.prog Gl 31 [vS a b c,vS x y z] (.tup [.sc (.lit (.string ⟨#[]⟩)),.sc (.lit (.int .i64 7))]):=by
 have l1:=h.1.lf
 have l2:=h.2.1.lf
 have l3:=h.2.2.lf
 have m1:=k.1.lf
 have m2:=k.2.1.lf
 have m3:=k.2.2.lf
 refine bM Tryz.func31 (by kernel_rfl) fun w00 hG=>?_;have hI:=aP hG
 refine aE hI 90 [eV 83,vS a b c,eV 83,vS x y z] (readVV h k) (by kernel_rfl) Tryz.call90 ?_
 refine aB 94 [vc a b c] (fK h0) (by kernel_rfl) Tryz.call94 ?_
 refine aB 92 [vc a b c,vc x y z] (crossF (l1.mono (by decide)) (l2.mono (by decide)) (l3.mono (by decide)) (m1.mono (by decide)) (m2.mono (by decide)) (m3.mono (by decide))) (by kernel_rfl) Tryz.call92 ?_
 refine aB 94 [vc (b*z-c*y) (c*x-a*z) (a*y-b*x)] (fK hc) (by kernel_rfl) Tryz.call94 ?_
 exact aN Tryz.func31 (by kernel_rfl)
theorem apiAlongZeroF (h:dU a b c) (k:dU x y z) (h0:(decide (a=0)&&decide (b=0)&&decide (c=0))=true) :
 FitsW Tryz.prog Gl 31 [vS a b c,vS x y z] (.tup [.sc (.lit (.string ⟨#[]⟩)),.sc (.lit (.int .i64 6))]):=by
 refine bM Tryz.func31 (by kernel_rfl) fun w00 hG=>?_;have hI:=aP hG
 refine aE hI 90 [eV 83,vS a b c,eV 83,vS x y z] (readVV h k) (by kernel_rfl) Tryz.call90 ?_
 refine aB 94 [vc a b c] (fK h0) (by kernel_rfl) Tryz.call94 ?_
 exact aN Tryz.func31 (by kernel_rfl)
end
abbrev nz (d:Nat):AV Kr := .fv (.ag [.lit (.bool true),.sp (csDi d)])
theorem signedNF {d:Nat}:Fits Tryz.prog 161 [rl true,di d] (iz (-(d:Int))):=by
 intro β w vs hv
 obtain ⟨v,u,rfl,h1,h2⟩:=eO hv
 rw [cE h1]
 have := @fN true d β w [.bool true,u] ⟨_,_,rfl,dA,u,[],rfl,h2,rfl⟩
 simpa [iM] using this
theorem minusP {n:Int} {c:Nat} (hc:n = -(c:Int)):Fits Tryz.prog 164 [pz c] (iz n):=by
 rw [hc]
 refine kN Tryz.func164 (by kernel_rfl) fun w00=>?_
 refine aM 161 [rl true,di c] signedNF (by kernel_rfl) Tryz.call161 ?_
 exact eC Tryz.func164 (by kernel_rfl)
theorem minusNZ {d:Nat}:Fits Tryz.prog 164 [nz d] (iz (d:Int)):=by
 refine kN Tryz.func164 (by kernel_rfl) fun w00=>?_
 refine aM 161 [rl false,di d] oY (by kernel_rfl) Tryz.call161 ?_
 exact eC Tryz.func164 (by kernel_rfl)
theorem minusN {d:Nat}:Fits Tryz.prog 164 [nz d] (pz d):=mN minusNZ fun _ _ _ h=>iz_pz h
section
variable {n:Int} {d:Nat}
theorem fractionNF {c:Nat} (hc:n = -(c:Int)) (hn:Bd n.natAbs) (hd:Bd d) (hd0:0<d) (hp:n.natAbs<B9^100000000) (hq:d<B9^100000000) (hs1:(aR (iM (decide (n<0)) (n.natAbs/Nat.gcd n.natAbs d))).size≤1000000000) (hs2:(aR ((d/Nat.gcd n.natAbs d:Nat):Int)).size≤1000000000) :
 Fits Tryz.prog 76 [pz c,nz d] (rS (if d/Nat.gcd n.natAbs d=1 then aR (iM (decide (n<0)) (n.natAbs/Nat.gcd n.natAbs d)) else aR (iM (decide (n<0)) (n.natAbs/Nat.gcd n.natAbs d))++⟨#[47]⟩++aR ((d/Nat.gcd n.natAbs d:Nat):Int))):=by
 have hg:0<Nat.gcd n.natAbs d:=Nat.gcd_pos_of_pos_right _ hd0
 have hq0:0<d/Nat.gcd n.natAbs d:=Nat.div_pos (Nat.gcd_le_right _ hd0) hg
 have hq1:d/Nat.gcd n.natAbs d≤d:=Nat.div_le_self _ _
 have hp1:(iM (decide (n<0)) (n.natAbs/Nat.gcd n.natAbs d)).natAbs<B9^100000000:=by rw [sgz_abs];exact Nat.lt_of_le_of_lt (Nat.div_le_self _ _) hp
 have hq2:((d/Nat.gcd n.natAbs d:Nat):Int).natAbs<B9^100000000:=by rw [Int.natAbs_natCast];exact Nat.lt_of_le_of_lt hq1 hq
 generalize hG:Nat.gcd n.natAbs d=g at *
 generalize hP:iM (decide (n<0)) (n.natAbs/g)=p at *
 generalize hQ:d/g=q at *
 by_cases h1:q=1
 ·rw [if_pos h1]
  refine kN Tryz.func76 (by kernel_rfl) fun w00=>?_
  refine aM 164 [pz c] (minusP hc) (by kernel_rfl) Tryz.call164 ?_
  refine aM 164 [nz d] minusN (by kernel_rfl) Tryz.call164 ?_
  refine aM 69 [di n.natAbs,di d] (by have:=kU hn hd;rw [hG] at this;exact this) (by kernel_rfl) Tryz.call69 ?_
  refine aM 155 [di n.natAbs,di g] (divF hn hg) (by kernel_rfl) Tryz.call155 ?_
  refine aM 155 [di d,di g] (by have:=divF (a:=d) (b:=g) hd hg;rw [hQ] at this;exact this) (by kernel_rfl) Tryz.call155 ?_
  refine aM 161 [rb (decide (n<0)),di (n.natAbs/g)] (by have := @fN (decide (n<0)) (n.natAbs/g);rw [hP] at this;exact this) (by kernel_rfl) Tryz.call161 ?_
  refine aM 72 [iz p] (textF hp1) (by kernel_rfl) Tryz.call72 ?_
  refine bH (.call ⟨.builtin .len,#[.tmp 41],#[92]⟩) (.tmp 41) (.tmp 41) (di q) (di q) (.fv (.sc (.lit (.int .i64 1)))) (by kernel_rfl) (by simp [Op.operands,Call.operands]) (by simp [Op.operands,Call.operands]) (fun ρ o β w ho hx _=>?_) ?_
  ·obtain ⟨ad,c,e,_⟩:=jK (bC.1 hx) hq0 (by rw [h1];exact eE)
   exact ⟨_,lH ho e,fO rfl⟩
  refine bH (.indexAddr 92 (.tmp 45) (.const (.int .i64 0))) (.tmp 45) (.const (.int .i64 0)) (di q) (.fv (.sc (.lit (.int .i64 0)))) (rP q) (by kernel_rfl) (by simp [Op.operands]) (by simp [Op.operands]) (fun ρ o β w ho hx hy=>?_) ?_
  ·obtain ⟨ad,c,e,hc⟩:=jK (bC.1 hx) hq0 (by rw [h1];exact eE)
   exact ⟨_,mM ho e (cE hy) (by omega),⟨ad,rfl,hc⟩⟩
  refine bH (.load 3 (.tmp 46)) (.tmp 46) (.tmp 46) (rP q) (rP q) (.fv (.sc (.lit (.int .i64 1)))) (by kernel_rfl) (by simp [Op.operands]) (by simp [Op.operands]) (fun ρ o β w ho hx _=>?_) ?_
  ·obtain ⟨ad,e,hc⟩:=hx
   injection e with e
   rw [h1] at hc
   exact ⟨_,load_i ho e hc,fO rfl⟩
  exact eC Tryz.func76 (by kernel_rfl)
 ·rw [if_neg h1]
  have hcat1:(aR p).size+(⟨#[47]⟩:ByteArray).size≤9223372036854775807:=by
   have:(⟨#[47]⟩:ByteArray).size=1:=rfl
   omega
  have hcat2:(aR p++⟨#[47]⟩:ByteArray).size+(aR (q:Int)).size≤9223372036854775807:=by
   have:(⟨#[47]⟩:ByteArray).size=1:=rfl
   rw [ByteArray.size_append]
   omega
  by_cases h2:q<B9
  ·refine kN Tryz.func76 (by kernel_rfl) fun w00=>?_
   refine aM 164 [pz c] (minusP hc) (by kernel_rfl) Tryz.call164 ?_
   refine aM 164 [nz d] minusN (by kernel_rfl) Tryz.call164 ?_
   refine aM 69 [di n.natAbs,di d] (by have:=kU hn hd;rw [hG] at this;exact this) (by kernel_rfl) Tryz.call69 ?_
   refine aM 155 [di n.natAbs,di g] (divF hn hg) (by kernel_rfl) Tryz.call155 ?_
   refine aM 155 [di d,di g] (by have:=divF (a:=d) (b:=g) hd hg;rw [hQ] at this;exact this) (by kernel_rfl) Tryz.call155 ?_
   refine aM 161 [rb (decide (n<0)),di (n.natAbs/g)] (by have := @fN (decide (n<0)) (n.natAbs/g);rw [hP] at this;exact this) (by kernel_rfl) Tryz.call161 ?_
   refine aM 72 [iz p] (textF hp1) (by kernel_rfl) Tryz.call72 ?_
   refine bH (.call ⟨.builtin .len,#[.tmp 41],#[92]⟩) (.tmp 41) (.tmp 41) (di q) (di q) (.fv (.sc (.lit (.int .i64 1)))) (by kernel_rfl) (by simp [Op.operands,Call.operands]) (by simp [Op.operands,Call.operands]) (fun ρ o β w ho hx _=>?_) ?_
   ·obtain ⟨ad,c,e,_⟩:=jK (bC.1 hx) hq0 h2
    exact ⟨_,lH ho e,fO rfl⟩
   refine bH (.indexAddr 92 (.tmp 45) (.const (.int .i64 0))) (.tmp 45) (.const (.int .i64 0)) (di q) (.fv (.sc (.lit (.int .i64 0)))) (rP q) (by kernel_rfl) (by simp [Op.operands]) (by simp [Op.operands]) (fun ρ o β w ho hx hy=>?_) ?_
   ·obtain ⟨ad,c,e,hc⟩:=jK (bC.1 hx) hq0 h2
    exact ⟨_,mM ho e (cE hy) (by omega),⟨ad,rfl,hc⟩⟩
   refine bH (.load 3 (.tmp 46)) (.tmp 46) (.tmp 46) (rP q) (rP q) (rI q) (by kernel_rfl) (by simp [Op.operands]) (by simp [Op.operands]) (fun ρ o β w ho hx _=>?_) ?_
   ·obtain ⟨ad,e,hc⟩:=hx
    injection e with e
    exact ⟨_,load_i ho e hc,dA⟩
   refine bH (.binOp .eql 3 (.tmp 47) (.const (.int .i64 1)) 3) (.tmp 47) (.const (.int .i64 1)) (rI q) (.fv (.sc (.lit (.int .i64 1)))) (rl false) (by kernel_rfl) (by simp [Op.operands]) (by simp [Op.operands]) (fun ρ o β w ho hx hy=>⟨.bool false,jS ho (bB hx) (cE hy) (by simp;omega),fO rfl⟩) ?_
   refine bH (.binOp .add 9 (.tmp 51) (.const (.string ⟨#[47]⟩)) 9) (.tmp 51) (.const (.string ⟨#[47]⟩)) (rS (aR p)) (.fv (.sc (.lit (.string ⟨#[47]⟩)))) (rS (aR p++⟨#[47]⟩)) (by kernel_rfl) (by simp [Op.operands]) (by simp [Op.operands]) (fun ρ o β w ho hx hy=>⟨_,fG ho (bB hx) (cE hy) hcat1,dA⟩) ?_
   refine aM 161 [rl false,di q] oY (by kernel_rfl) Tryz.call161 ?_
   refine aM 72 [iz (q:Int)] (textF hq2) (by kernel_rfl) Tryz.call72 ?_
   refine bH (.binOp .add 9 (.tmp 52) (.tmp 55) 9) (.tmp 52) (.tmp 55) (rS (aR p++⟨#[47]⟩)) (rS (aR (q:Int))) (rS (aR p++⟨#[47]⟩++aR (q:Int))) (by kernel_rfl) (by simp [Op.operands]) (by simp [Op.operands]) (fun ρ o β w ho hx hy=>⟨_,fG ho (bB hx) (bB hy) hcat2,dA⟩) ?_
   exact eC Tryz.func76 (by kernel_rfl)
  ·refine kN Tryz.func76 (by kernel_rfl) fun w00=>?_
   refine aM 164 [pz c] (minusP hc) (by kernel_rfl) Tryz.call164 ?_
   refine aM 164 [nz d] minusN (by kernel_rfl) Tryz.call164 ?_
   refine aM 69 [di n.natAbs,di d] (by have:=kU hn hd;rw [hG] at this;exact this) (by kernel_rfl) Tryz.call69 ?_
   refine aM 155 [di n.natAbs,di g] (divF hn hg) (by kernel_rfl) Tryz.call155 ?_
   refine aM 155 [di d,di g] (by have:=divF (a:=d) (b:=g) hd hg;rw [hQ] at this;exact this) (by kernel_rfl) Tryz.call155 ?_
   refine aM 161 [rb (decide (n<0)),di (n.natAbs/g)] (by have := @fN (decide (n<0)) (n.natAbs/g);rw [hP] at this;exact this) (by kernel_rfl) Tryz.call161 ?_
   refine aM 72 [iz p] (textF hp1) (by kernel_rfl) Tryz.call72 ?_
   refine bH (.call ⟨.builtin .len,#[.tmp 41],#[92]⟩) (.tmp 41) (.tmp 41) (di q) (di q) rNe (by kernel_rfl) (by simp [Op.operands,Call.operands]) (by simp [Op.operands,Call.operands]) (fun ρ o β w ho hx _=>?_) ?_
   ·obtain ⟨A,m,c,e,hm⟩:=di_more (bC.1 hx) (Nat.le_of_not_lt h2)
    exact ⟨_,lH ho e,⟨(m:Int),rfl,by omega⟩⟩
   refine bH (.binOp .eql 3 (.tmp 42) (.const (.int .i64 1)) 3) (.tmp 42) (.const (.int .i64 1)) rNe (.fv (.sc (.lit (.int .i64 1)))) (rl false) (by kernel_rfl) (by simp [Op.operands]) (by simp [Op.operands]) (fun ρ o β w ho hx hy=>?_) ?_
   ·obtain ⟨m,e,hm⟩:=hx
    injection e with e
    exact ⟨.bool false,jS ho e (cE hy) (by simpa using hm),fO rfl⟩
   refine bH (.binOp .add 9 (.tmp 51) (.const (.string ⟨#[47]⟩)) 9) (.tmp 51) (.const (.string ⟨#[47]⟩)) (rS (aR p)) (.fv (.sc (.lit (.string ⟨#[47]⟩)))) (rS (aR p++⟨#[47]⟩)) (by kernel_rfl) (by simp [Op.operands]) (by simp [Op.operands]) (fun ρ o β w ho hx hy=>⟨_,fG ho (bB hx) (cE hy) hcat1,dA⟩) ?_
   refine aM 161 [rl false,di q] oY (by kernel_rfl) Tryz.call161 ?_
   refine aM 72 [iz (q:Int)] (textF hq2) (by kernel_rfl) Tryz.call72 ?_
   refine bH (.binOp .add 9 (.tmp 52) (.tmp 55) 9) (.tmp 52) (.tmp 55) (rS (aR p++⟨#[47]⟩)) (rS (aR (q:Int))) (rS (aR p++⟨#[47]⟩++aR (q:Int))) (by kernel_rfl) (by simp [Op.operands]) (by simp [Op.operands]) (fun ρ o β w ho hx hy=>⟨_,fG ho (bB hx) (bB hy) hcat2,dA⟩) ?_
   exact eC Tryz.func76 (by kernel_rfl)
end
theorem fracNW {n:Int} {c d k:Nat} (hc:n = -(c:Int)) (hk:k≤1000000) (hn:n.natAbs<10^(k+1)) (hd:d<10^(k+1)) (h0:0<d):Fits Tryz.prog 76 [pz c,nz d] (rS (writeB (mkRat n d))):=by
 have h:=fractionNF (n:=n) (d:=d) hc (gQ hn (by omega)) (gQ hd (by omega)) h0 (bd1_of hn (by omega)) (bd1_of hd (by omega))
  (by have:=text_size (k:=k) (z:=iM (decide (n<0)) (n.natAbs/Nat.gcd n.natAbs d)) (by rw [sgz_abs];exact Nat.lt_of_le_of_lt (Nat.div_le_self _ _) hn);omega)
  (by have:=text_size (k:=k) (z:=((d/Nat.gcd n.natAbs d:Nat):Int)) (by rw [Int.natAbs_natCast];exact Nat.lt_of_le_of_lt (Nat.div_le_self _ _) hd);omega)
 rw [frac_write n h0] at h
 exact h
section
variable {p q:Rat}
theorem inv_pos {m:Nat} (h:q.num=(m:Int)):mkRat (q.den:Int) m=q⁻¹:=by
 rw [Rat.inv_def,h,Rat.divInt_ofNat]
theorem inv_neg {m:Nat} (h:q.num = -(m:Int)):mkRat (-(q.den:Int)) m=q⁻¹:=by
 rw [Rat.inv_def,h,Rat.divInt_neg',Rat.divInt_ofNat]
theorem prt_neg {m:Nat} (h:q.num = -(m:Int)) (h0:0<m) {β:List Nat} {v:Value} {w:World} (k:(AV.fv (.ag [rB (decide (q.num<0)),.sp (csDi q.num.natAbs)]):AV Kr).holds β v w):(nz m).holds β v w:=by
 have e1:decide (q.num<0)=true:=by rw [decide_eq_true_iff];omega
 have e2:q.num.natAbs=m:=by omega
 rw [e1,e2] at k
 obtain ⟨cs,rfl,a,r,rfl,h1,h2⟩:=k
 exact ⟨_,rfl,a,r,rfl,⟨h1,rfl⟩,h2⟩
theorem prt_pos {m:Nat} (h:q.num=(m:Int)) {β:List Nat} {v:Value} {w:World} (k:(AV.fv (.ag [rB (decide (q.num<0)),.sp (csDi q.num.natAbs)]):AV Kr).holds β v w):(pz m).holds β v w:=by
 have k' : (iz q.num).holds β v w:=k
 rw [h] at k'
 exact iz_pz k'
theorem fracNZ {q:Rat} {k:Nat} (hk:k≤1000000) (hq:Zs k q) (h0:0<q.num.natAbs):Fits Tryz.prog 76 [pz q.den,nz q.num.natAbs] (rS (writeB (mkRat (-((q.den:Nat):Int)) q.num.natAbs))) :=
 fracNW (k:=k) rfl hk (by rw [Int.natAbs_neg,Int.natAbs_natCast];exact hq.2) hq.1 h0
theorem fracPZ {q:Rat} {k:Nat} (hk:k≤1000000) (hq:Zs k q) (h0:0<q.num.natAbs):Fits Tryz.prog 76 [iz (q.den:Int),pz q.num.natAbs] (rS (writeB (mkRat (q.den:Int) q.num.natAbs))) :=
 fracW (n:=(q.den:Int)) (k:=k) hk (by rw [Int.natAbs_natCast];exact hq.2) hq.1 h0
theorem recipF (hq:Zs 10000 q) (h0:q≠0):Fits Tryz.prog 81 [rS (writeB q)] (rS (writeB q⁻¹)):=by
 obtain ⟨s1,s2⟩:=zs_size hq (by omega)
 have hn:=numr_ne h0
 have hfr:Fits Tryz.prog 76 [pz q.den,.fv (.ag [rB (decide (q.num<0)),.sp (csDi q.num.natAbs)])] (rS (writeB q⁻¹)):=by
  by_cases hs:q.num<0
  ·have e:q.num = -((q.num.natAbs:Nat):Int):=by omega
   rw [← inv_neg e]
   refine rargs (fracNZ (k:=10000) (by omega) hq (by omega)) fun β vs w ⟨v,r,e1,h1,u,r2,e2,h2,h3⟩=>⟨v,r,e1,h1,u,r2,e2,prt_neg e (by omega) h2,h3⟩
  ·have e:q.num=((q.num.natAbs:Nat):Int):=by omega
   rw [← inv_pos e]
   refine rargs (fracPZ (k:=10000) (by omega) hq (by omega)) fun β vs w ⟨v,r,e1,h1,u,r2,e2,h2,h3⟩=>⟨v,r,e1,pz_iz h1,u,r2,e2,prt_pos e h2,h3⟩
 refine kN Tryz.func81 (by kernel_rfl) fun w00=>?_
 refine aM 68 [rS (writeB q)] (partsF s1 s2) (by kernel_rfl) Tryz.call68 ?_
 refine aM 76 [pz q.den,.fv (.ag [rB (decide (q.num<0)),.sp (csDi q.num.natAbs)])] hfr (by kernel_rfl) Tryz.call76 ?_
 exact eC Tryz.func81 (by kernel_rfl)
theorem zs_inv {k:Nat} (h:Zs k q) (h0:q≠0):Zs k q⁻¹:=by
 have hn:=numr_ne h0
 have hd:=q.den_pos
 by_cases hs:q.num<0
 ·have e:q.num = -((q.num.natAbs:Nat):Int):=by omega
  rw [← inv_neg e]
  obtain ⟨e1,e2⟩:=mk_parts (-(q.den:Int)) (d:=q.num.natAbs) (by omega)
  have g:Nat.gcd (-(q.den:Int)).natAbs q.num.natAbs=1:=by rw [Int.natAbs_neg,Int.natAbs_natCast,Nat.gcd_comm];exact q.reduced
  rw [g] at e1 e2
  refine ⟨by rw [e1];simpa using h.2,by rw [e2];simpa using h.1⟩
 ·have e:q.num=((q.num.natAbs:Nat):Int):=by omega
  rw [← inv_pos e]
  obtain ⟨e1,e2⟩:=mk_parts ((q.den:Int)) (d:=q.num.natAbs) (by omega)
  have g:Nat.gcd ((q.den:Int)).natAbs q.num.natAbs=1:=by rw [Int.natAbs_natCast,Nat.gcd_comm];exact q.reduced
  rw [g] at e1 e2
  refine ⟨by rw [e1];simpa using h.2,by rw [e2];simpa using h.1⟩
theorem refDivF (hp:Zs 10000 p) (hq:Zs 10000 q) (h0:q≠0):Fits Tryz.prog 21 [rS (writeB p),rS (writeB q)] (rS (writeB (p/q))):=by
 rw [Rat.div_def]
 refine kN Tryz.func21 (by kernel_rfl) fun w00=>?_
 refine aM 81 [rS (writeB q)] (recipF hq h0) (by kernel_rfl) Tryz.call81 ?_
 refine aM 18 [rS (writeB p),rS (writeB q⁻¹)] (dS hp (zs_inv hq h0)) (by kernel_rfl) Tryz.call18 ?_
 exact eC Tryz.func21 (by kernel_rfl)
theorem kn_1 {f:FuncId} {s u:ByteArray} (h:Fits Tryz.prog f [rS s] (rS u)):Fits Tryz.prog f [tx s] (tx u):=by
 intro β w vs hv
 obtain ⟨v,rfl,h1⟩:=dV hv
 rw [aT h1]
 exact (h β w [.string s] ⟨_,_,rfl,dA,rfl⟩).mono fun e w' ⟨v,e1,e2,e3⟩=>⟨v,e1,e2,by rw [bB e3];exact bN⟩
theorem kn_IL {f:FuncId} {s:ByteArray} {z:Int} (h:Fits Tryz.prog f [rS s] (rI z)):Fits Tryz.prog f [tx s] (it z):=by
 intro β w vs hv
 obtain ⟨v,rfl,h1⟩:=dV hv
 rw [aT h1]
 exact (h β w [.string s] ⟨_,_,rfl,dA,rfl⟩).mono fun e w' ⟨v,e1,e2,e3⟩=>⟨v,e1,e2,by rw [bB e3];exact bG rfl⟩
theorem dX {s:ByteArray} {z:Int} (hs:s.size≤9223372036854775807) (hz:aZ s=z):Fits Tryz.prog 13 [tx s] (it z):=kn_IL (hz▸checkAnyF hs)
end
section
variable {f:FuncId} {w00:World} {Out:Value→World→Prop}
theorem iE {c:Cfg Kn} (t:Tmp) (T:TypeId) (hT:Tryz.prog.underlying T=some .string) (s:ByteArray) (hc:(c.op.map fun o=>o.op,c.okT (.fv (.sc (isI s.size))),c.ev (.tmp t))=(some (.call ⟨.builtin .len,#[.tmp t],#[T]⟩),true,tx s))
 (hg:Ok Tryz.prog f w00 Out (eK Tryz.prog 1000 (c.give (.fv (.sc (isI s.size)))))):Ok Tryz.prog f w00 Out c:=by
 simp only [Prod.mk.injEq] at hc
 obtain ⟨h1,h2,h3⟩:=hc
 exact fD _ (.tmp t) (.tmp t) (tx s) (tx s) (.fv (.sc (isI s.size))) (by rw [h1,h2,h3]) (by simp [Op.operands,Call.operands]) (by simp [Op.operands,Call.operands])
  (fun ρ o β w ho hx _=>⟨_,len_run ho hT (aT hx),bN⟩) hg
end
section
variable {p q:Rat}
theorem wr_len {q:Rat} (h:Wr q):(writeB q).size≤1000000000:=by
 have h1:=h.n
 have h2:=h.d
 have:=text_len q.num
 rw [mQ]
 split <;> omega
theorem refLargeF (h:Wr q):Fits Tryz.prog 70 [tx (writeB q)] (it 0):=by
 have h1:=h.n
 have h2:=h.d
 have hl:=text_len q.num
 refine gR Tryz.func70 (by kernel_rfl) fun w00=>?_
 refine aB 157 [tx (writeB q)] (kn_1 (numF (wr_len h))) (by kernel_rfl) Tryz.call157 ?_
 refine aB 156 [tx (aR q.num)] (kn_1 (absTF (by omega))) (by kernel_rfl) Tryz.call156 ?_
 refine iE 5 22 Tryz.underlying22 (decB q.num.natAbs) (by kernel_rfl) ?_
 refine kgt 6 (decB q.num.natAbs).size 600 false (by rw [decide_eq_false_iff_not];omega) (by kernel_rfl) ?_
 refine aB 158 [tx (writeB q)] (kn_1 (denOfF (wr_len h))) (by kernel_rfl) Tryz.call158 ?_
 refine iE 10 22 Tryz.underlying22 (decB q.den) (by kernel_rfl) ?_
 refine kgt 11 (decB q.den).size 600 false (by rw [decide_eq_false_iff_not];omega) (by kernel_rfl) ?_
 exact aN Tryz.func70 (by kernel_rfl)
end
end Go.Proofs.YtbhgaclbijocmaaGreatDoor.Ab
namespace Go.Proofs.YtbhgaclbijocmaaGreatDoor.Ab
open Go.RowKit Go.Proofs.YtbhgaclbijocmaaGreatDoor
theorem equal3 {P:Program} {T e:TypeId} {x0 x1 x2 y0 y1 y2:Value} {r0 r1 r2:Bool} (d:Nat) (hT:P.underlying T=some (.array 3 e)) (he:P.cellsOf e=1) (ha:∀ w,(isAgg e).run P w = .ok false w) (hs:∀ w,(sizeOf e).run P w = .ok 1 w)
 (h0:∀ w,(Op.equalIn d e x0 y0).run P w = .ok r0 w) (h1:∀ w,(Op.equalIn d e x1 y1).run P w = .ok r1 w) (h2:∀ w,(Op.equalIn d e x2 y2).run P w = .ok r2 w) (w:World) :
 (Op.equalIn (d+1) T (.agg #[x0,x1,x2]) (.agg #[y0,y1,y2])).run P w = .ok (r0&&r1&&r2) w:=by
 rw [Op.equalIn]
 simp only [Sem.run_bind,run_underlying hT,Result.andThen_ok,hs]
 simp only [Std.Legacy.Range.forIn_eq_forIn_range',Std.Legacy.Range.size,Nat.sub_zero,Nat.add_sub_cancel,Nat.div_one,List.range'_succ,List.range'_zero,List.forIn_cons,List.forIn_nil]
 simp [go_sem,ha,hs,h0,h1,h2]
 cases r0 <;> cases r1 <;> cases r2 <;> simp
end Go.Proofs.YtbhgaclbijocmaaGreatDoor.Ab
namespace Go.Proofs.YtbhgaclbijocmaaGreatDoor.Ab
open Go.RowKit Go.Proofs.YtbhgaclbijocmaaGreatDoor Pl
theorem guard_eq {T:TypeId} {xs ys:Array Value} {x y:Operand} (h:Tryz.prog.eqGuardType Tryz.prog.depth T=false) (w:World):(eqGuard .eql T x y (.agg xs) (.agg ys)).run Tryz.prog w = .ok () w:=by
 simp [eqGuard,Sem.run_bind,run_program,h]
theorem agg_eq {o:Oper} {ρ:Operand→Value} {w:World} {x y:Operand} {xs ys:Array Value} {T T' : TypeId} {r:Bool} (hg:Tryz.prog.eqGuardType Tryz.prog.depth T=false) (h:(Op.equal T (.agg xs) (.agg ys)).run Tryz.prog w = .ok r w) (ho:o.op = .binOp .eql T x y T') (hx:ρ x = .agg xs) (hy:ρ y = .agg ys) :
 (execOp ρ o).run Tryz.prog w = .ok (.value (.bool r)) w:=by
 simp only [execOp,ho,hx,hy]
 refine bT ?_
 simp only [Sem.run_bind,guard_eq hg,Result.andThen_ok]
 show (do pure (Value.bool (← Op.equal T (.agg xs) (.agg ys))):Sem Value).run Tryz.prog w=_
 rw [Sem.run_bind,h]
 rfl
theorem equalT (a b c x y z:ByteArray) (w:World):(Op.equal 39 (.agg #[.string a,.string b,.string c]) (.agg #[.string x,.string y,.string z])).run Tryz.prog w = .ok (a.toList==x.toList&&b.toList==y.toList&&c.toList==z.toList) w :=
 equal3 9999 (e:=22) (by kernel_rfl) (by kernel_rfl) (fun w=>by kernel_rfl) (fun w=>by kernel_rfl) (fun w=>run_equalIn_string w _ _ _ _ (by kernel_rfl)) (fun w=>run_equalIn_string w _ _ _ _ (by kernel_rfl)) (fun w=>run_equalIn_string w _ _ _ _ (by kernel_rfl)) w
theorem s3_is {a b c:ByteArray} {β:List Nat} {v:Value} {w:World} (h:(.fv (.ag [dI a,dI b,dI c]):AV Kn).holds β v w):v = .agg #[.string a,.string b,.string c]:=by
 obtain ⟨cs,rfl,x1,r1,rfl,h1,x2,r2,rfl,h2,x3,r3,rfl,h3,e⟩:=h
 rw [show r3 = [] from e,show x1=_ from h1,show x2=_ from h2,show x3=_ from h3]
 rfl
theorem l3_is {a b c:Value} {β:List Nat} {v:Value} {w:World} (h:(.fv (.ag [.lit a,.lit b,.lit c]):AV Kn).holds β v w):v = .agg #[a,b,c]:=by
 obtain ⟨cs,rfl,x1,r1,rfl,h1,x2,r2,rfl,h2,x3,r3,rfl,h3,e⟩:=h
 rw [show r3 = [] from e,h1.1,h2.1,h3.1]
 rfl
section
variable {f:FuncId} {w00:World} {Out:Value→World→Prop} {c:Cfg Kn}
theorem kgg (x y:Operand) (a b:Int) (r:Bool) (Y:AV Kn) (hY:∀ β v w,Y.holds β v w→v = .int .i64 b) (h:decide (b<a)=r) (hg:Ok Tryz.prog f w00 Out (eK Tryz.prog 1000 (c.give (bl r))))
 (hc:(c.op.map fun o=>o.op,c.okT (bl r),c.ev x,c.ev y)=(some (.binOp .gtr 3 x y 3),true,.fv (.sc (isI a)),Y):=by kernel_rfl):Ok Tryz.prog f w00 Out c :=
 fD (.binOp .gtr 3 x y 3) x y _ _ (bl r) hc (by simp [Op.operands]) (by simp [Op.operands]) (fun ρ o β w ho hx hy=>⟨_,gt_run ho (aT hx) (hY _ _ _ hy) h,bG rfl⟩) hg
theorem lit_int {b:Int} (β:List Nat) (v:Value) (w:World) (h:(it b).holds β v w):v = .int .i64 b:=aO h
end
end Go.Proofs.YtbhgaclbijocmaaGreatDoor.Ab
namespace Go.Proofs.YtbhgaclbijocmaaGreatDoor.Ab
open Go.RowKit Go.Proofs.YtbhgaclbijocmaaGreatDoor
section
variable {Kc:Value→Bool} {P:Program} {f:FuncId} {w00:World} {Out:Value→World→Prop}
theorem put_put (a:Act) (d:Tmp) (u v:Value):(a.put (some d) u).put (some d) v=a.put (some d) v:=by
 simp [Act.put]
end
end Go.Proofs.YtbhgaclbijocmaaGreatDoor.Ab
namespace Go.Proofs.YtbhgaclbijocmaaGreatDoor.Ab
open Go.RowKit Go.Proofs.YtbhgaclbijocmaaGreatDoor Pl
abbrev hL (a b c:Int) (s:ByteArray):AV Kn := .fv (.ag [.lit (.int .i64 a),.lit (.int .i64 b),.lit (.int .i64 c),dI s])
section
variable {a b c:Int} {s:ByteArray}
abbrev In (k x:Int):Prop := -k≤x∧x≤k
end
section
variable {a b c x y z d:Rat} {k l n:Nat}
theorem dotV (h1:Bq k a) (h2:Bq k b) (h3:Bq k c) (g1:Bq l x) (g2:Bq l y) (g3:Bq l z) (hk:2*(k+l)<10000):Fits Tryz.prog 37 [vS a b c,vS x y z] (tx (writeB (dt a b c x y z))) :=
 dotR (cV (dS (h1.zs (by omega)) (g1.zs (by omega)))) (cV (dS (h2.zs (by omega)) (g2.zs (by omega)))) (cV (dF ((h1.mul g1).zs (by omega)) ((h2.mul g2).zs (by omega))))
  (cV (dS (h3.zs (by omega)) (g3.zs (by omega)))) (cV (dF (((h1.mul g1).add (h2.mul g2)).zs (by omega)) ((h3.mul g3).zs (by omega))))
end
theorem bq_int {z:Int} {k:Nat} (h:z.natAbs<10^k) (hk:0<k):Bq k (z:Rat):=by
 refine ⟨by rw [Rat.num_intCast];exact h,?_⟩
 rw [Rat.den_intCast]
 have:=Nat.pow_le_pow_right (n:=10) (by omega) hk
 omega
section
variable {o1 o2 o3 x1 x2 x3 y1 y2 y3 z1 z2 z3:Rat}
theorem jY {a b c:ByteArray} {r:Bool} (h:(a.toList==(⟨#[48]⟩:ByteArray).toList&&b.toList==(⟨#[48]⟩:ByteArray).toList&&c.toList==(⟨#[48]⟩:ByteArray).toList)=r):Fits Tryz.prog 39 [t3 a b c] (bl r):=by
 refine gR Tryz.func39 (by kernel_rfl) fun w00=>?_
 refine aB 96 [] (originF) (by kernel_rfl) Tryz.call96 ?_
 refine fD (.binOp .eql 39 (.tmp 3) (.tmp 4) 39) (.tmp 3) (.tmp 4) (t3 a b c) (.fv (.ag [.lit (.string ⟨#[48]⟩),.lit (.string ⟨#[48]⟩),.lit (.string ⟨#[48]⟩)])) (bl r) (by kernel_rfl) (by simp [Op.operands]) (by simp [Op.operands]) (fun ρ o β w ho hx hy=>⟨_,agg_eq (by kernel_rfl) (h▸equalT a b c _ _ _ w) ho (s3_is hx) (l3_is hy),bG rfl⟩) ?_
 exact aN Tryz.func39 (by kernel_rfl)
theorem crossR {a b c d e f p1 p2 p3 p4 p5 p6 r1 r2 r3:ByteArray} (h1:Fits Tryz.prog 18 [tx b,tx f] (tx p1)) (h2:Fits Tryz.prog 18 [tx c,tx e] (tx p2)) (h3:Fits Tryz.prog 17 [tx p1,tx p2] (tx r1)) (h4:Fits Tryz.prog 18 [tx c,tx d] (tx p3)) (h5:Fits Tryz.prog 18 [tx a,tx f] (tx p4)) (h6:Fits Tryz.prog 17 [tx p3,tx p4] (tx r2))
 (h7:Fits Tryz.prog 18 [tx a,tx e] (tx p5)) (h8:Fits Tryz.prog 18 [tx b,tx d] (tx p6)) (h9:Fits Tryz.prog 17 [tx p5,tx p6] (tx r3)):Fits Tryz.prog 38 [t3 a b c,t3 d e f] (t3 r1 r2 r3):=by
 refine gR Tryz.func38 (by kernel_rfl) fun w00=>?_
 refine aB 18 [tx b,tx f] (h1) (by kernel_rfl) Tryz.call18 ?_
 refine aB 18 [tx c,tx e] (h2) (by kernel_rfl) Tryz.call18 ?_
 refine aB 17 [tx p1,tx p2] (h3) (by kernel_rfl) Tryz.call17 ?_
 refine aB 18 [tx c,tx d] (h4) (by kernel_rfl) Tryz.call18 ?_
 refine aB 18 [tx a,tx f] (h5) (by kernel_rfl) Tryz.call18 ?_
 refine aB 17 [tx p3,tx p4] (h6) (by kernel_rfl) Tryz.call17 ?_
 refine aB 18 [tx a,tx e] (h7) (by kernel_rfl) Tryz.call18 ?_
 refine aB 18 [tx b,tx d] (h8) (by kernel_rfl) Tryz.call18 ?_
 refine aB 17 [tx p5,tx p6] (h9) (by kernel_rfl) Tryz.call17 ?_
 exact aN Tryz.func38 (by kernel_rfl)
variable {k l:Nat}
theorem crossV {a b c x y z:Rat} (h1:Bq k a) (h2:Bq k b) (h3:Bq k c) (g1:Bq l x) (g2:Bq l y) (g3:Bq l z) (hk:k+l≤10000):Fits Tryz.prog 38 [vS a b c,vS x y z] (vS (b*z-c*y) (c*x-a*z) (a*y-b*x)) :=
 have m:∀ {p q:Rat},Bq k p→Bq l q→Fits Tryz.prog 18 [tx (writeB p),tx (writeB q)] (tx (writeB (p*q))):=fun hp hq=>cV (dS (hp.zs (by omega)) (hq.zs (by omega)))
 have s:∀ {p q r t:Rat},Bq k p→Bq l q→Bq k r→Bq l t→Fits Tryz.prog 17 [tx (writeB (p*q)),tx (writeB (r*t))] (tx (writeB (p*q-r*t))):=fun hp hq hr ht=>cV (nT ((hp.mul hq).zs (by omega)) ((hr.mul ht).zs (by omega)))
 crossR (m h2 g3) (m h3 g2) (s h2 g3 h3 g2) (m h3 g1) (m h1 g3) (s h3 g1 h1 g3) (m h1 g2) (m h2 g1) (s h1 g2 h2 g1)
end
theorem cB {x y z:Int} (hx:Ev x) (hy:Ev y) (hz:f2 x y=z):Fits Tryz.prog 12 [.fv (.nsl 2 3 [lz x,lz y])] (it z):=by
 rcases hx with rfl|rfl|rfl
 ·have hz:y=z:=hz
  subst hz
  rcases hy with rfl|rfl|rfl <;> (refine nJ Tryz.func12 (by kernel_rfl) fun w00=>?_;exact aN Tryz.func12 (by kernel_rfl))
 ·have hz:1=z:=hz
  subst hz
  refine nJ Tryz.func12 (by kernel_rfl) fun w00=>?_
  exact aN Tryz.func12 (by kernel_rfl)
 ·have hz:4=z:=hz
  subst hz
  refine nJ Tryz.func12 (by kernel_rfl) fun w00=>?_
  exact aN Tryz.func12 (by kernel_rfl)
abbrev Bz (z:Int):Prop:=z=1∨z=3∨z=4∨z=6∨z=7
theorem mT {z:Int} (hz:Bz z):Fits Tryz.prog 14 [lt ⟨#[]⟩,it z,it z,lt ⟨#[]⟩] (bl true):=by
 rcases hz with rfl|rfl|rfl|rfl|rfl <;> (refine gR Tryz.func14 (by kernel_rfl) fun w00=>?_;exact aN Tryz.func14 (by kernel_rfl))
theorem dJ {q:Rat} (h:Wr q):Fits Tryz.prog 14 [tx (writeB q),it 0,it 0,tx (writeB q)] (bl true):=by
 have hl:=refLargeF h
 generalize writeB q=s at *
 refine gR Tryz.func14 (by kernel_rfl) fun w00=>?_
 refine aB 70 [tx s] (hl) (by kernel_rfl) Tryz.call70 ?_
 refine fD (.binOp .eql 22 (.tmp 25) (.tmp 26) 22) (.tmp 25) (.tmp 26) (tx s) (tx s) (bl true) (by kernel_rfl) (by simp [Op.operands]) (by simp [Op.operands]) (fun ρ o β w ho hx hy=>⟨_,seq_run ho (aT hx) (aT hy) (beq_self_eq_true _),bG rfl⟩) ?_
 exact aN Tryz.func14 (by kernel_rfl)
end Go.Proofs.YtbhgaclbijocmaaGreatDoor.Ab
