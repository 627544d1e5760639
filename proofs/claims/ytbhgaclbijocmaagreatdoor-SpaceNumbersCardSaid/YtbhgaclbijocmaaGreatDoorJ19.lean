/- Parts of the proof, joined. -/
import Derived.Test.YtbhgaclbijocmaaGreatDoorJ17
import Derived.Test.YtbhgaclbijocmaaGreatDoorJ18
import Derived.Test.YtbhgaclbijocmaaGreatDoorJ3
import Derived.Laws.Tables
import Derived.Laws.StructEq
import Derived.Test.YtbhgaclbijocmaaGreatDoorJ12
import Derived.Test.YtbhgaclbijocmaaGreatDoorJ11
import Derived.WalkKit
import Derived.ProofKit
import Derived.OpenShut
import Derived.Deep.DeepHandedRow
import Derived.Deep.DeepWitnessRowRef
import Derived.Lib.LaidTab
import Derived.Stop.LaidErr
import Derived.Shelf.Vars
import Derived.Lay
set_option linter.unusedSimpArgs false
set_option linter.unusedVariables false
namespace Go.Proofs.YtbhgaclbijocmaaGreatDoor.Ab
open Go.RowKit Go.Proofs.YtbhgaclbijocmaaGreatDoor Pl
abbrev nz (d:Nat):AV Kr := .fv (.ag [.lit (.bool true),.sp (mY d)])
theorem signedNF {d:Nat}:Fits Tryz.prog 161 [rl true,di d] (iz (-(d:Int))):=by
 intro β w vs hv
 obtain ⟨v,u,rfl,h1,h2⟩:=dW hv
 rw [bZ h1]
 have := @fH true d β w [.bool true,u] ⟨_,_,rfl,cU,u,[],rfl,h2,rfl⟩
 simpa [gY] using this
theorem minusP {n:Int} {c:Nat} (hc:n = -(c:Int)):Fits Tryz.prog 164 [pz c] (iz n):=by
 rw [hc]
 refine iT Tryz.func164 (by kernel_rfl) fun w00=>?_
 refine aO 161 [rl true,di c] signedNF (by kernel_rfl) Tryz.call161 ?_
 exact dG Tryz.func164 (by kernel_rfl)
theorem minusNZ {d:Nat}:Fits Tryz.prog 164 [nz d] (iz (d:Int)):=by
 refine iT Tryz.func164 (by kernel_rfl) fun w00=>?_
 refine aO 161 [rl false,di d] lK (by kernel_rfl) Tryz.call161 ?_
 exact dG Tryz.func164 (by kernel_rfl)
theorem minusN {d:Nat}:Fits Tryz.prog 164 [nz d] (pz d):=lM minusNZ fun _ _ _ h=>iz_pz h
section
variable {n:Int} {d:Nat}
theorem fractionNF {c:Nat} (hc:n = -(c:Int)) (hn:Bd n.natAbs) (hd:Bd d) (hd0:0<d) (hp:n.natAbs<B9^100000000) (hq:d<B9^100000000) (hs1:(aS (gY (decide (n<0)) (n.natAbs/Nat.gcd n.natAbs d))).size≤1000000000) (hs2:(aS ((d/Nat.gcd n.natAbs d:Nat):Int)).size≤1000000000) :
 Fits Tryz.prog 76 [pz c,nz d] (rS (if d/Nat.gcd n.natAbs d=1 then aS (gY (decide (n<0)) (n.natAbs/Nat.gcd n.natAbs d)) else aS (gY (decide (n<0)) (n.natAbs/Nat.gcd n.natAbs d))++⟨#[47]⟩++aS ((d/Nat.gcd n.natAbs d:Nat):Int))):=by
 have hg:0<Nat.gcd n.natAbs d:=Nat.gcd_pos_of_pos_right _ hd0
 have hq0:0<d/Nat.gcd n.natAbs d:=Nat.div_pos (Nat.gcd_le_right _ hd0) hg
 have hq1:d/Nat.gcd n.natAbs d≤d:=Nat.div_le_self _ _
 have hp1:(gY (decide (n<0)) (n.natAbs/Nat.gcd n.natAbs d)).natAbs<B9^100000000:=by rw [rE];exact Nat.lt_of_le_of_lt (Nat.div_le_self _ _) hp
 have hq2:((d/Nat.gcd n.natAbs d:Nat):Int).natAbs<B9^100000000:=by rw [Int.natAbs_natCast];exact Nat.lt_of_le_of_lt hq1 hq
 generalize hG:Nat.gcd n.natAbs d=g at *
 generalize hP:gY (decide (n<0)) (n.natAbs/g)=p at *
 generalize hQ:d/g=q at *
 by_cases h1:q=1
 ·rw [if_pos h1]
  refine iT Tryz.func76 (by kernel_rfl) fun w00=>?_
  refine aO 164 [pz c] (minusP hc) (by kernel_rfl) Tryz.call164 ?_
  refine aO 164 [nz d] minusN (by kernel_rfl) Tryz.call164 ?_
  refine aO 69 [di n.natAbs,di d] (by have:=kB hn hd;rw [hG] at this;exact this) (by kernel_rfl) Tryz.call69 ?_
  refine aO 155 [di n.natAbs,di g] (pZ hn hg) (by kernel_rfl) Tryz.call155 ?_
  refine aO 155 [di d,di g] (by have:=pZ (a:=d) (b:=g) hd hg;rw [hQ] at this;exact this) (by kernel_rfl) Tryz.call155 ?_
  refine aO 161 [rb (decide (n<0)),di (n.natAbs/g)] (by have := @fH (decide (n<0)) (n.natAbs/g);rw [hP] at this;exact this) (by kernel_rfl) Tryz.call161 ?_
  refine aO 72 [iz p] (nW hp1) (by kernel_rfl) Tryz.call72 ?_
  refine bG (.call ⟨.builtin .len,#[.tmp 41],#[92]⟩) (.tmp 41) (.tmp 41) (di q) (di q) (.fv (.sc (.lit (.int .i64 1)))) (by kernel_rfl) (by simp [Op.operands,Call.operands]) (by simp [Op.operands,Call.operands]) (fun ρ o β w ho hx _=>?_) ?_
  ·obtain ⟨ad,c,e,_⟩:=iZ (bC.1 hx) hq0 (by rw [h1];exact dR)
   exact ⟨_,iY ho e,eQ rfl⟩
  refine bG (.indexAddr 92 (.tmp 45) (.const (.int .i64 0))) (.tmp 45) (.const (.int .i64 0)) (di q) (.fv (.sc (.lit (.int .i64 0)))) (rP q) (by kernel_rfl) (by simp [Op.operands]) (by simp [Op.operands]) (fun ρ o β w ho hx hy=>?_) ?_
  ·obtain ⟨ad,c,e,hc⟩:=iZ (bC.1 hx) hq0 (by rw [h1];exact dR)
   exact ⟨_,lJ ho e (bZ hy) (by omega),⟨ad,rfl,hc⟩⟩
  refine bG (.load 3 (.tmp 46)) (.tmp 46) (.tmp 46) (rP q) (rP q) (.fv (.sc (.lit (.int .i64 1)))) (by kernel_rfl) (by simp [Op.operands]) (by simp [Op.operands]) (fun ρ o β w ho hx _=>?_) ?_
  ·obtain ⟨ad,e,hc⟩:=hx
   injection e with e
   rw [h1] at hc
   exact ⟨_,sT ho e hc,eQ rfl⟩
  exact dG Tryz.func76 (by kernel_rfl)
 ·rw [if_neg h1]
  have hcat1:(aS p).size+(⟨#[47]⟩:ByteArray).size≤9223372036854775807:=by
   have:(⟨#[47]⟩:ByteArray).size=1:=rfl
   omega
  have hcat2:(aS p++⟨#[47]⟩:ByteArray).size+(aS (q:Int)).size≤9223372036854775807:=by
   have:(⟨#[47]⟩:ByteArray).size=1:=rfl
   rw [ByteArray.size_append]
   omega
  by_cases h2:q<B9
  ·refine iT Tryz.func76 (by kernel_rfl) fun w00=>?_
   refine aO 164 [pz c] (minusP hc) (by kernel_rfl) Tryz.call164 ?_
   refine aO 164 [nz d] minusN (by kernel_rfl) Tryz.call164 ?_
   refine aO 69 [di n.natAbs,di d] (by have:=kB hn hd;rw [hG] at this;exact this) (by kernel_rfl) Tryz.call69 ?_
   refine aO 155 [di n.natAbs,di g] (pZ hn hg) (by kernel_rfl) Tryz.call155 ?_
   refine aO 155 [di d,di g] (by have:=pZ (a:=d) (b:=g) hd hg;rw [hQ] at this;exact this) (by kernel_rfl) Tryz.call155 ?_
   refine aO 161 [rb (decide (n<0)),di (n.natAbs/g)] (by have := @fH (decide (n<0)) (n.natAbs/g);rw [hP] at this;exact this) (by kernel_rfl) Tryz.call161 ?_
   refine aO 72 [iz p] (nW hp1) (by kernel_rfl) Tryz.call72 ?_
   refine bG (.call ⟨.builtin .len,#[.tmp 41],#[92]⟩) (.tmp 41) (.tmp 41) (di q) (di q) (.fv (.sc (.lit (.int .i64 1)))) (by kernel_rfl) (by simp [Op.operands,Call.operands]) (by simp [Op.operands,Call.operands]) (fun ρ o β w ho hx _=>?_) ?_
   ·obtain ⟨ad,c,e,_⟩:=iZ (bC.1 hx) hq0 h2
    exact ⟨_,iY ho e,eQ rfl⟩
   refine bG (.indexAddr 92 (.tmp 45) (.const (.int .i64 0))) (.tmp 45) (.const (.int .i64 0)) (di q) (.fv (.sc (.lit (.int .i64 0)))) (rP q) (by kernel_rfl) (by simp [Op.operands]) (by simp [Op.operands]) (fun ρ o β w ho hx hy=>?_) ?_
   ·obtain ⟨ad,c,e,hc⟩:=iZ (bC.1 hx) hq0 h2
    exact ⟨_,lJ ho e (bZ hy) (by omega),⟨ad,rfl,hc⟩⟩
   refine bG (.load 3 (.tmp 46)) (.tmp 46) (.tmp 46) (rP q) (rP q) (rI q) (by kernel_rfl) (by simp [Op.operands]) (by simp [Op.operands]) (fun ρ o β w ho hx _=>?_) ?_
   ·obtain ⟨ad,e,hc⟩:=hx
    injection e with e
    exact ⟨_,sT ho e hc,cU⟩
   refine bG (.binOp .eql 3 (.tmp 47) (.const (.int .i64 1)) 3) (.tmp 47) (.const (.int .i64 1)) (rI q) (.fv (.sc (.lit (.int .i64 1)))) (rl false) (by kernel_rfl) (by simp [Op.operands]) (by simp [Op.operands]) (fun ρ o β w ho hx hy=>⟨.bool false,iL ho (bE hx) (bZ hy) (by simp;omega),eQ rfl⟩) ?_
   refine bG (.binOp .add 9 (.tmp 51) (.const (.string ⟨#[47]⟩)) 9) (.tmp 51) (.const (.string ⟨#[47]⟩)) (rS (aS p)) (.fv (.sc (.lit (.string ⟨#[47]⟩)))) (rS (aS p++⟨#[47]⟩)) (by kernel_rfl) (by simp [Op.operands]) (by simp [Op.operands]) (fun ρ o β w ho hx hy=>⟨_,eZ ho (bE hx) (bZ hy) hcat1,cU⟩) ?_
   refine aO 161 [rl false,di q] lK (by kernel_rfl) Tryz.call161 ?_
   refine aO 72 [iz (q:Int)] (nW hq2) (by kernel_rfl) Tryz.call72 ?_
   refine bG (.binOp .add 9 (.tmp 52) (.tmp 55) 9) (.tmp 52) (.tmp 55) (rS (aS p++⟨#[47]⟩)) (rS (aS (q:Int))) (rS (aS p++⟨#[47]⟩++aS (q:Int))) (by kernel_rfl) (by simp [Op.operands]) (by simp [Op.operands]) (fun ρ o β w ho hx hy=>⟨_,eZ ho (bE hx) (bE hy) hcat2,cU⟩) ?_
   exact dG Tryz.func76 (by kernel_rfl)
  ·refine iT Tryz.func76 (by kernel_rfl) fun w00=>?_
   refine aO 164 [pz c] (minusP hc) (by kernel_rfl) Tryz.call164 ?_
   refine aO 164 [nz d] minusN (by kernel_rfl) Tryz.call164 ?_
   refine aO 69 [di n.natAbs,di d] (by have:=kB hn hd;rw [hG] at this;exact this) (by kernel_rfl) Tryz.call69 ?_
   refine aO 155 [di n.natAbs,di g] (pZ hn hg) (by kernel_rfl) Tryz.call155 ?_
   refine aO 155 [di d,di g] (by have:=pZ (a:=d) (b:=g) hd hg;rw [hQ] at this;exact this) (by kernel_rfl) Tryz.call155 ?_
   refine aO 161 [rb (decide (n<0)),di (n.natAbs/g)] (by have := @fH (decide (n<0)) (n.natAbs/g);rw [hP] at this;exact this) (by kernel_rfl) Tryz.call161 ?_
   refine aO 72 [iz p] (nW hp1) (by kernel_rfl) Tryz.call72 ?_
   refine bG (.call ⟨.builtin .len,#[.tmp 41],#[92]⟩) (.tmp 41) (.tmp 41) (di q) (di q) rNe (by kernel_rfl) (by simp [Op.operands,Call.operands]) (by simp [Op.operands,Call.operands]) (fun ρ o β w ho hx _=>?_) ?_
   ·obtain ⟨A,m,c,e,hm⟩:=uN (bC.1 hx) (Nat.le_of_not_lt h2)
    exact ⟨_,iY ho e,⟨(m:Int),rfl,by omega⟩⟩
   refine bG (.binOp .eql 3 (.tmp 42) (.const (.int .i64 1)) 3) (.tmp 42) (.const (.int .i64 1)) rNe (.fv (.sc (.lit (.int .i64 1)))) (rl false) (by kernel_rfl) (by simp [Op.operands]) (by simp [Op.operands]) (fun ρ o β w ho hx hy=>?_) ?_
   ·obtain ⟨m,e,hm⟩:=hx
    injection e with e
    exact ⟨.bool false,iL ho e (bZ hy) (by simpa using hm),eQ rfl⟩
   refine bG (.binOp .add 9 (.tmp 51) (.const (.string ⟨#[47]⟩)) 9) (.tmp 51) (.const (.string ⟨#[47]⟩)) (rS (aS p)) (.fv (.sc (.lit (.string ⟨#[47]⟩)))) (rS (aS p++⟨#[47]⟩)) (by kernel_rfl) (by simp [Op.operands]) (by simp [Op.operands]) (fun ρ o β w ho hx hy=>⟨_,eZ ho (bE hx) (bZ hy) hcat1,cU⟩) ?_
   refine aO 161 [rl false,di q] lK (by kernel_rfl) Tryz.call161 ?_
   refine aO 72 [iz (q:Int)] (nW hq2) (by kernel_rfl) Tryz.call72 ?_
   refine bG (.binOp .add 9 (.tmp 52) (.tmp 55) 9) (.tmp 52) (.tmp 55) (rS (aS p++⟨#[47]⟩)) (rS (aS (q:Int))) (rS (aS p++⟨#[47]⟩++aS (q:Int))) (by kernel_rfl) (by simp [Op.operands]) (by simp [Op.operands]) (fun ρ o β w ho hx hy=>⟨_,eZ ho (bE hx) (bE hy) hcat2,cU⟩) ?_
   exact dG Tryz.func76 (by kernel_rfl)
end
theorem fracNW {n:Int} {c d k:Nat} (hc:n = -(c:Int)) (hk:k≤1000000) (hn:n.natAbs<10^(k+1)) (hd:d<10^(k+1)) (h0:0<d):Fits Tryz.prog 76 [pz c,nz d] (rS (writeB (mkRat n d))):=by
 have h:=fractionNF (n:=n) (d:=d) hc (fV hn (by omega)) (fV hd (by omega)) h0 (wV hn (by omega)) (wV hd (by omega))
  (by have:=oS (k:=k) (z:=gY (decide (n<0)) (n.natAbs/Nat.gcd n.natAbs d)) (by rw [rE];exact Nat.lt_of_le_of_lt (Nat.div_le_self _ _) hn);omega)
  (by have:=oS (k:=k) (z:=((d/Nat.gcd n.natAbs d:Nat):Int)) (by rw [Int.natAbs_natCast];exact Nat.lt_of_le_of_lt (Nat.div_le_self _ _) hd);omega)
 rw [qA n h0] at h
 exact h
section
variable {p q:Rat}
theorem inv_pos {m:Nat} (h:q.num=(m:Int)):mkRat (q.den:Int) m=q⁻¹:=by
 rw [Rat.inv_def,h,Rat.divInt_ofNat]
theorem inv_neg {m:Nat} (h:q.num = -(m:Int)):mkRat (-(q.den:Int)) m=q⁻¹:=by
 rw [Rat.inv_def,h,Rat.divInt_neg',Rat.divInt_ofNat]
theorem aAq {m:Nat} (h:q.num = -(m:Int)) (h0:0<m) {β:List Nat} {v:Value} {w:World} (k:(AV.fv (.ag [rB (decide (q.num<0)),.sp (mY q.num.natAbs)]):AV Kr).holds β v w):(nz m).holds β v w:=by
 have e1:decide (q.num<0)=true:=by rw [decide_eq_true_iff];omega
 have e2:q.num.natAbs=m:=by omega
 rw [e1,e2] at k
 obtain ⟨cs,rfl,a,r,rfl,h1,h2⟩:=k
 exact ⟨_,rfl,a,r,rfl,⟨h1,rfl⟩,h2⟩
theorem prt_pos {m:Nat} (h:q.num=(m:Int)) {β:List Nat} {v:Value} {w:World} (k:(AV.fv (.ag [rB (decide (q.num<0)),.sp (mY q.num.natAbs)]):AV Kr).holds β v w):(pz m).holds β v w:=by
 have k' : (iz q.num).holds β v w:=k
 rw [h] at k'
 exact iz_pz k'
theorem fracNZ {q:Rat} {k:Nat} (hk:k≤1000000) (hq:Zs k q) (h0:0<q.num.natAbs):Fits Tryz.prog 76 [pz q.den,nz q.num.natAbs] (rS (writeB (mkRat (-((q.den:Nat):Int)) q.num.natAbs))) :=
 fracNW (k:=k) rfl hk (by rw [Int.natAbs_neg,Int.natAbs_natCast];exact hq.2) hq.1 h0
theorem fracPZ {q:Rat} {k:Nat} (hk:k≤1000000) (hq:Zs k q) (h0:0<q.num.natAbs):Fits Tryz.prog 76 [iz (q.den:Int),pz q.num.natAbs] (rS (writeB (mkRat (q.den:Int) q.num.natAbs))) :=
 fracW (n:=(q.den:Int)) (k:=k) hk (by rw [Int.natAbs_natCast];exact hq.2) hq.1 h0
theorem ltpm {a b k:Nat} (h:a<10^(k+1)) (h2:b≤a+1):b<10^(k+1+1):=by
 rw [Nat.pow_succ]
 have:0<10^(k+1):=Nat.pow_pos (by omega)
 omega
theorem recipF (hq:Zs 10000 q) (h0:q≠0):Fits Tryz.prog 81 [rS (writeB q)] (rS (writeB q⁻¹)):=by
 obtain ⟨s1,s2⟩:=oT hq (by omega)
 have hn:=aAp h0
 have hfr:Fits Tryz.prog 76 [pz q.den,.fv (.ag [rB (decide (q.num<0)),.sp (mY q.num.natAbs)])] (rS (writeB q⁻¹)):=by
  by_cases hs:q.num<0
  ·have e:q.num = -((q.num.natAbs:Nat):Int):=by omega
   rw [← inv_neg e]
   refine wU (fracNZ (k:=10000) (by omega) hq (by omega)) fun β vs w ⟨v,r,e1,h1,u,r2,e2,h2,h3⟩=>⟨v,r,e1,h1,u,r2,e2,aAq e (by omega) h2,h3⟩
  ·have e:q.num=((q.num.natAbs:Nat):Int):=by omega
   rw [← inv_pos e]
   refine wU (fracPZ (k:=10000) (by omega) hq (by omega)) fun β vs w ⟨v,r,e1,h1,u,r2,e2,h2,h3⟩=>⟨v,r,e1,pz_iz h1,u,r2,e2,prt_pos e h2,h3⟩
 refine iT Tryz.func81 (by kernel_rfl) fun w00=>?_
 refine aO 68 [rS (writeB q)] (sW s1 s2) (by kernel_rfl) Tryz.call68 ?_
 refine aO 76 [pz q.den,.fv (.ag [rB (decide (q.num<0)),.sp (mY q.num.natAbs)])] hfr (by kernel_rfl) Tryz.call76 ?_
 exact dG Tryz.func81 (by kernel_rfl)
theorem zs_inv {k:Nat} (h:Zs k q) (h0:q≠0):Zs k q⁻¹:=by
 have hn:=aAp h0
 have hd:=q.den_pos
 by_cases hs:q.num<0
 ·have e:q.num = -((q.num.natAbs:Nat):Int):=by omega
  rw [← inv_neg e]
  obtain ⟨e1,e2⟩:=rJ (-(q.den:Int)) (d:=q.num.natAbs) (by omega)
  have g:Nat.gcd (-(q.den:Int)).natAbs q.num.natAbs=1:=by rw [Int.natAbs_neg,Int.natAbs_natCast,Nat.gcd_comm];exact q.reduced
  rw [g] at e1 e2
  refine ⟨by rw [e1];simpa using h.2,by rw [e2];simpa using h.1⟩
 ·have e:q.num=((q.num.natAbs:Nat):Int):=by omega
  rw [← inv_pos e]
  obtain ⟨e1,e2⟩:=rJ ((q.den:Int)) (d:=q.num.natAbs) (by omega)
  have g:Nat.gcd ((q.den:Int)).natAbs q.num.natAbs=1:=by rw [Int.natAbs_natCast,Nat.gcd_comm];exact q.reduced
  rw [g] at e1 e2
  refine ⟨by rw [e1];simpa using h.2,by rw [e2];simpa using h.1⟩
theorem refDivF (hp:Zs 10000 p) (hq:Zs 10000 q) (h0:q≠0):Fits Tryz.prog 21 [rS (writeB p),rS (writeB q)] (rS (writeB (p/q))):=by
 rw [Rat.div_def]
 refine iT Tryz.func21 (by kernel_rfl) fun w00=>?_
 refine aO 81 [rS (writeB q)] (recipF hq h0) (by kernel_rfl) Tryz.call81 ?_
 refine aO 18 [rS (writeB p),rS (writeB q⁻¹)] (refMulF hp (zs_inv hq h0)) (by kernel_rfl) Tryz.call18 ?_
 exact dG Tryz.func21 (by kernel_rfl)
theorem kn_1 {f:FuncId} {s u:ByteArray} (h:Fits Tryz.prog f [rS s] (rS u)):Fits Tryz.prog f [tx s] (tx u):=by
 intro β w vs hv
 obtain ⟨v,rfl,h1⟩:=dJ hv
 rw [aW h1]
 exact (h β w [.string s] ⟨_,_,rfl,cU,rfl⟩).mono fun e w' ⟨v,e1,e2,e3⟩=>⟨v,e1,e2,by rw [bE e3];exact bT⟩
theorem kn_Z {f:FuncId} {s:ByteArray} {z:Int} (h:Fits Tryz.prog f [rS s] (.fv (.sc (.lit (.int .i64 z))))):Fits Tryz.prog f [tx s] (it z):=by
 intro β w vs hv
 obtain ⟨v,rfl,h1⟩:=dJ hv
 rw [aW h1]
 exact (h β w [.string s] ⟨_,_,rfl,cU,rfl⟩).mono fun e w' ⟨v,e1,e2,e3⟩=>⟨v,e1,e2,by rw [bZ e3];exact bJ rfl⟩
theorem kn_IL {f:FuncId} {s:ByteArray} {z:Int} (h:Fits Tryz.prog f [rS s] (rI z)):Fits Tryz.prog f [tx s] (it z):=by
 intro β w vs hv
 obtain ⟨v,rfl,h1⟩:=dJ hv
 rw [aW h1]
 exact (h β w [.string s] ⟨_,_,rfl,cU,rfl⟩).mono fun e w' ⟨v,e1,e2,e3⟩=>⟨v,e1,e2,by rw [bE e3];exact bJ rfl⟩
theorem jN {s:ByteArray} {z:Int} (hs:s.size≤9223372036854775807) (hz:bA s=z):Fits Tryz.prog 13 [tx s] (it z):=kn_IL (hz▸checkAnyF hs)
theorem sign_cmp (p q:Rat):(eD p q = -1∧(p-q).num<0)∨(eD p q=0∧(p-q).num=0)∨(eD p q=1∧0<(p-q).num):=by
 unfold eD
 by_cases h1:p<q
 ·left
  refine ⟨if_pos h1,Int.not_le.1 fun h=>?_⟩
  have h:=Rat.num_nonneg.1 h
  grind
 ·by_cases h2:q<p
  ·right;right
   refine ⟨by rw [if_neg h1,if_pos h2],?_⟩
   have h3:0≤(p-q).num:=Rat.num_nonneg.2 (by grind)
   have h4:(p-q).num≠0:=fun h=>by
    have:=Rat.num_eq_zero.1 h
    grind
   omega
  ·right;left
   refine ⟨by rw [if_neg h1,if_neg h2],?_⟩
   rw [Rat.num_eq_zero]
   grind
theorem refCmpF (hp:Zs 10000 p) (hq:Zs 10000 q):Fits Tryz.prog 19 [tx (writeB p),tx (writeB q)] (it (eD p q)):=by
 have hs:=kn_S (subR hp hq)
 rcases sign_cmp p q with ⟨e,h⟩|⟨e,h⟩|⟨e,h⟩
 ·rw [e]
  refine jH Tryz.func19 (by kernel_rfl) fun w00=>?_
  refine aB 17 [tx (writeB p),tx (writeB q)] (hs) (by kernel_rfl) Tryz.call17 ?_
  refine aB 80 [tx (writeB (p-q))] (kn_Z (signFn h)) (by kernel_rfl) Tryz.call80 ?_
  exact aU Tryz.func19 (by kernel_rfl)
 ·rw [e]
  refine jH Tryz.func19 (by kernel_rfl) fun w00=>?_
  refine aB 17 [tx (writeB p),tx (writeB q)] (hs) (by kernel_rfl) Tryz.call17 ?_
  refine aB 80 [tx (writeB (p-q))] (kn_Z (signF0 h)) (by kernel_rfl) Tryz.call80 ?_
  exact aU Tryz.func19 (by kernel_rfl)
 ·rw [e]
  refine jH Tryz.func19 (by kernel_rfl) fun w00=>?_
  refine aB 17 [tx (writeB p),tx (writeB q)] (hs) (by kernel_rfl) Tryz.call17 ?_
  refine aB 80 [tx (writeB (p-q))] (kn_Z (signFp h)) (by kernel_rfl) Tryz.call80 ?_
  exact aU Tryz.func19 (by kernel_rfl)
end
section
variable {f:FuncId} {w00:World} {Out:Value→World→Prop}
theorem lR {c:Cfg Kn} (t:Tmp) (T:TypeId) (hT:Tryz.prog.underlying T=some .string) (s:ByteArray) (hc:(c.op.map fun o=>o.op,c.okT (.fv (.sc (sM s.size))),c.ev (.tmp t))=(some (.call ⟨.builtin .len,#[.tmp t],#[T]⟩),true,tx s))
 (hg:Ok Tryz.prog f w00 Out (eU Tryz.prog 1000 (c.give (.fv (.sc (sM s.size)))))):Ok Tryz.prog f w00 Out c:=by
 simp only [Prod.mk.injEq] at hc
 obtain ⟨h1,h2,h3⟩:=hc
 exact fE _ (.tmp t) (.tmp t) (tx s) (tx s) (.fv (.sc (sM s.size))) (by rw [h1,h2,h3]) (by simp [Op.operands,Call.operands]) (by simp [Op.operands,Call.operands])
  (fun ρ o β w ho hx _=>⟨_,uI ho hT (aW hx),bT⟩) hg
end
section
variable {p q:Rat}
theorem wr_len {q:Rat} (h:Wr q):(writeB q).size≤1000000000:=by
 have h1:=h.n
 have h2:=h.d
 have:=wY q.num
 rw [jM]
 split <;> omega
theorem refLargeF (h:Wr q):Fits Tryz.prog 70 [tx (writeB q)] (it 0):=by
 have h1:=h.n
 have h2:=h.d
 have hl:=wY q.num
 refine jH Tryz.func70 (by kernel_rfl) fun w00=>?_
 refine aB 157 [tx (writeB q)] (kn_1 (numF (wr_len h))) (by kernel_rfl) Tryz.call157 ?_
 refine aB 156 [tx (aS q.num)] (kn_1 (absTF (by omega))) (by kernel_rfl) Tryz.call156 ?_
 refine lR 5 22 Tryz.underlying22 (decB q.num.natAbs) (by kernel_rfl) ?_
 refine pH 6 (decB q.num.natAbs).size 600 false (by rw [decide_eq_false_iff_not];omega) (by kernel_rfl) ?_
 refine aB 158 [tx (writeB q)] (kn_1 (denOfF (wr_len h))) (by kernel_rfl) Tryz.call158 ?_
 refine lR 10 22 Tryz.underlying22 (decB q.den) (by kernel_rfl) ?_
 refine pH 11 (decB q.den).size 600 false (by rw [decide_eq_false_iff_not];omega) (by kernel_rfl) ?_
 exact aU Tryz.func70 (by kernel_rfl)
end
theorem di_len {w:World} {v:Value} {r:Nat} (h:Di w v r):∃ A n c,v = .slice A n c∧(r=0→n=0)∧(r≠0→n≠0):=by
 obtain ⟨A,n,c,xs,rfl,hr,hd,hn,rfl⟩:=h
 refine ⟨A,n,c,rfl,fun h0=>?_,fun h0 e=>?_⟩
 ·have:=(Norm.zero_iff cH hn).1 h0
  rw [← hr.len,this];rfl
 ·apply h0
  rw [List.eq_nil_of_length_eq_zero (hr.len.trans e)];rfl
def csPos:CS Kr where
 size:=1
 cold:=false
 pred cs _ := ∃ n:Int,cs = [.int .i64 n]∧0<n
 stable _ _ _ h _:=h
 len cs w h:=by obtain ⟨v,e,_⟩:=h;rw [e];rfl
 one cs w h:=by obtain ⟨v,e,_⟩:=h;rw [e];intro d hd;rw [List.mem_singleton] at hd;rw [hd];rfl
 iscold h:=by cases h
abbrev rPos:AV Kr := .fv (.sc (.sp csPos))
theorem igt_run {o:Oper} {ρ:Operand→Value} {w:World} {x y:Operand} {a b:Int} {r:Bool} (ho:o.op = .binOp .gtr 3 x y 3) (hx:ρ x = .int .i64 a) (hy:ρ y = .int .i64 b) (h:decide (b<a)=r) :
 (execOp ρ o).run Tryz.prog w = .ok (.value (.bool r)) w:=by
 simp only [execOp,ho,hx,hy]
 refine bY ?_
 rw [← h]
 exact cF (by kernel_rfl) w
theorem addOneF {q:Nat} (h:Bd q):Fits Tryz.prog 160 [di q,.fv (.nsl 1 3 [.lit (.int .i64 1)])] (ru (q+1)):=by
 intro β w vs hv
 obtain ⟨v,u,rfl,h1,h2⟩:=dW hv
 obtain ⟨A,n,c,xs,rfl,hr,hd,hn,rfl⟩:=bC.1 h1
 obtain ⟨g,cs,rfl,hg,x,r,rfl,hx,hr2⟩:=h2
 have hx1:x = [.int .i64 1]:=hx.1
 rw [show r = [] from hr2,hx1] at hg
 have hl:n≤1099511627776:=by rw [← hr.len];exact aZ dR hn h
 refine (pK A n c xs (some ⟨g,0,none⟩) 1 1 [1] w hr (ri_one hg) hd (Dig.cons (by rw [cR];omega) (Dig.nil _)) (by omega) (by omega)).mono ?_
 rintro e w' ⟨A2,n2,c2,zs,rfl,h1,h2,h3,h4⟩
 exact ⟨_,rfl,h4,wS.2 ⟨A2,n2,c2,zs,rfl,h1,h2,by rw [h3];simp [val]⟩⟩
theorem signedNR {d:Nat}:Fits Tryz.prog 161 [rl true,ru d] (iz (-(d:Int))):=by
 intro β w vs hv
 obtain ⟨v,u,rfl,h1,h2⟩:=dW hv
 rw [bZ h1]
 have := @signedRF true d β w [.bool true,u] ⟨_,_,rfl,cU,u,[],rfl,h2,rfl⟩
 simpa [gY] using this
theorem floorDivP {a b:Nat} (ha:Bd a) (hb:0<b):Fits Tryz.prog 73 [pz a,pz b] (iz ((a/b:Nat):Int)):=by
 refine iT Tryz.func73 (by kernel_rfl) fun w00=>?_
 refine aO 155 [di a,di b] (pZ ha hb) (by kernel_rfl) Tryz.call155 ?_
 refine aO 161 [rl false,di (a/b)] lK (by kernel_rfl) Tryz.call161 ?_
 exact dG Tryz.func73 (by kernel_rfl)
theorem floorDivN0 {a b:Nat} (ha:Bd a) (hb:0<b) (h0:a%b=0):Fits Tryz.prog 73 [nz a,pz b] (iz (-((a/b:Nat):Int))):=by
 refine iT Tryz.func73 (by kernel_rfl) fun w00=>?_
 refine aO 155 [di a,di b] (pZ ha hb) (by kernel_rfl) Tryz.call155 ?_
 refine bG (.call ⟨.builtin .len,#[.tmp 18],#[92]⟩) (.tmp 18) (.tmp 18) (di (a%b)) (di (a%b)) (.fv (.sc (.lit (.int .i64 0)))) (by kernel_rfl) (by simp [Op.operands,Call.operands]) (by simp [Op.operands,Call.operands]) (fun ρ o β w ho hx _=>?_) ?_
 ·obtain ⟨A,n,c,e,h1,_⟩:=di_len (bC.1 hx)
  have hn:=h1 h0
  subst hn
  exact ⟨_,iY ho e,eQ rfl⟩
 refine aO 161 [rl true,di (a/b)] signedNF (by kernel_rfl) Tryz.call161 ?_
 exact dG Tryz.func73 (by kernel_rfl)
theorem floorDivN1 {a b:Nat} (ha:Bd a) (hb:0<b) (h0:a%b≠0):Fits Tryz.prog 73 [nz a,pz b] (iz (-((a/b+1:Nat):Int))):=by
 refine iT Tryz.func73 (by kernel_rfl) fun w00=>?_
 refine aO 155 [di a,di b] (pZ ha hb) (by kernel_rfl) Tryz.call155 ?_
 refine bG (.call ⟨.builtin .len,#[.tmp 18],#[92]⟩) (.tmp 18) (.tmp 18) (di (a%b)) (di (a%b)) rPos (by kernel_rfl) (by simp [Op.operands,Call.operands]) (by simp [Op.operands,Call.operands]) (fun ρ o β w ho hx _=>?_) ?_
 ·obtain ⟨A,n,c,e,_,h1⟩:=di_len (bC.1 hx)
  have hn:=h1 h0
  exact ⟨_,iY ho e,⟨(n:Int),rfl,by omega⟩⟩
 refine bG (.binOp .gtr 3 (.tmp 19) (.const (.int .i64 0)) 3) (.tmp 19) (.const (.int .i64 0)) rPos (.fv (.sc (.lit (.int .i64 0)))) (rl true) (by kernel_rfl) (by simp [Op.operands]) (by simp [Op.operands]) (fun ρ o β w ho hx hy=>?_) ?_
 ·obtain ⟨m,e,hm⟩:=hx
  injection e with e
  exact ⟨.bool true,igt_run ho e (bZ hy) (by rw [decide_eq_true_iff];exact hm),eQ rfl⟩
 refine aO 160 [di (a/b),.fv (.nsl 1 3 [.lit (.int .i64 1)])] (addOneF (Nat.lt_of_le_of_lt (Nat.div_le_self _ _) ha)) (by kernel_rfl) Tryz.call160 ?_
 refine aO 161 [rl true,ru (a/b+1)] signedNR (by kernel_rfl) Tryz.call161 ?_
 exact dG Tryz.func73 (by kernel_rfl)
section
variable {q:Rat}
theorem isWholeF (hs:(writeB q).size≤1000000000):Fits Tryz.prog 71 [rS (writeB q)] (rl (decide (q.den=1))):=by
 have hsl:=iS q
 have hln:=jM q
 have hres:(((aN (writeB q):Nat):Int)==((writeB q).size:Nat))=decide (q.den=1):=by
  rw [hsl,hln,Bool.eq_iff_iff]
  by_cases h:q.den=1 <;> simp [h] <;> omega
 obtain ⟨b,hb⟩:∃ b,b=decide (q.den=1):=⟨_,rfl⟩
 rw [← hb] at hres ⊢
 refine iT Tryz.func71 (by kernel_rfl) fun w00=>?_
 refine aO 66 [rS (writeB q)] (eW (by omega)) (by kernel_rfl) Tryz.call66 ?_
 refine dS 5 22 Tryz.underlying22 (writeB q) ?_
 refine bG (.binOp .eql 3 (.tmp 4) (.tmp 6) 3) (.tmp 4) (.tmp 6) (rI (aN (writeB q):Nat)) (rI ((writeB q).size:Nat)) (rl b) (by kernel_rfl) (by simp [Op.operands]) (by simp [Op.operands]) (fun ρ o β w ho hx hy=>⟨.bool b,iL ho (bE hx) (bE hy) hres,eQ rfl⟩) ?_
 exact dG Tryz.func71 (by kernel_rfl)
theorem floor_int (h:q.den=1):((q.floor:Int):Rat)=q:=by
 have e:q=((q.num:Int):Rat):=(Rat.ext (by simp) (by simp [h]))
 rw [e]
 simp
theorem floor_le (q:Rat):(q.floor).natAbs≤q.num.natAbs+1:=by
 rw [jY q _ rfl]
 have:=Nat.div_le_self q.num.natAbs q.den
 generalize q.num.natAbs%q.den=r at *
 generalize q.num.natAbs/q.den=m at *
 generalize q.num.natAbs=n at *
 unfold sg
 split <;> split <;> omega
theorem zB (hq:Zs 10000 q):Fits Tryz.prog 15 [rS (writeB q)] (rS (writeB ((q.floor:Int):Rat))):=by
 obtain ⟨s1,s2⟩:=oT hq (by omega)
 have hs:(writeB q).size≤1000000000:=by have:=zs_len hq;omega
 by_cases h1:q.den=1
 ·rw [floor_int h1]
  refine iT Tryz.func15 (by kernel_rfl) fun w00=>?_
  refine aO 71 [rS (writeB q)] (by have:=isWholeF hs;rw [decide_eq_true h1] at this;exact this) (by kernel_rfl) Tryz.call71 ?_
  exact dG Tryz.func15 (by kernel_rfl)
 ·have hn:Bd q.num.natAbs:=fV hq.1 (by omega)
  have hfd:Fits Tryz.prog 73 [.fv (.ag [rB (decide (q.num<0)),.sp (mY q.num.natAbs)]),pz q.den] (iz q.floor):=by
   by_cases hs:q.num<0
   ·have e:q.num = -((q.num.natAbs:Nat):Int):=by omega
    have hf:=jY q true (decide_eq_true hs)
    by_cases hr:q.num.natAbs%q.den=0
    ·rw [if_neg (by simp [hr])] at hf
     have hf' : q.floor = -((q.num.natAbs/q.den:Nat):Int):=hf
     rw [hf']
     exact wU (floorDivN0 hn q.den_pos hr) fun β vs w ⟨v,r,e1,h1,u⟩=>⟨v,r,e1,aAq e (by omega) h1,u⟩
    ·rw [if_pos ⟨rfl,hr⟩] at hf
     have hf' : q.floor = -((q.num.natAbs/q.den+1:Nat):Int):=hf
     rw [hf']
     exact wU (floorDivN1 hn q.den_pos hr) fun β vs w ⟨v,r,e1,h1,u⟩=>⟨v,r,e1,aAq e (by omega) h1,u⟩
   ·have e:q.num=((q.num.natAbs:Nat):Int):=by omega
    have hf:=jY q false (decide_eq_false hs)
    rw [if_neg (by simp)] at hf
    have hf' : q.floor=((q.num.natAbs/q.den:Nat):Int):=hf
    rw [hf']
    exact wU (floorDivP hn q.den_pos) fun β vs w ⟨v,r,e1,h1,u⟩=>⟨v,r,e1,prt_pos e h1,u⟩
  have hz:q.floor.natAbs<B9^100000000:=by
   have h:=floor_le q
   exact wV (k:=10000+1+1) (ltpm hq.1 h) (by omega)
  have hw:writeB ((q.floor:Int):Rat)=aS q.floor:=by rw [iE (by simp)];simp
  rw [hw]
  generalize q.floor=z at *
  refine iT Tryz.func15 (by kernel_rfl) fun w00=>?_
  refine aO 71 [rS (writeB q)] (by have:=isWholeF hs;rw [decide_eq_false h1] at this;exact this) (by kernel_rfl) Tryz.call71 ?_
  refine aO 68 [rS (writeB q)] (sW s1 s2) (by kernel_rfl) Tryz.call68 ?_
  refine aO 73 [.fv (.ag [rB (decide (q.num<0)),.sp (mY q.num.natAbs)]),pz q.den] hfd (by kernel_rfl) Tryz.call73 ?_
  refine aO 72 [iz z] (nW hz) (by kernel_rfl) Tryz.call72 ?_
  exact dG Tryz.func15 (by kernel_rfl)
end
end Go.Proofs.YtbhgaclbijocmaaGreatDoor.Ab
namespace Go.Proofs.YtbhgaclbijocmaaGreatDoor.Ab
open Go.RowKit Go.Proofs.YtbhgaclbijocmaaGreatDoor
end Go.Proofs.YtbhgaclbijocmaaGreatDoor.Ab
namespace Go.Proofs.YtbhgaclbijocmaaGreatDoor.Ab
open Go.RowKit Go.Proofs.YtbhgaclbijocmaaGreatDoor Pl
end Go.Proofs.YtbhgaclbijocmaaGreatDoor.Ab
namespace Go.Proofs.YtbhgaclbijocmaaGreatDoor.Ab
open Go.RowKit Go.Proofs.YtbhgaclbijocmaaGreatDoor
section
variable {Kc:Value→Bool} {P:Program} {f:FuncId} {w00:World} {Out:Value→World→Prop}
theorem put_put (a:Act) (d:Tmp) (u v:Value):(a.put (some d) u).put (some d) v=a.put (some d) v:=by
 simp [Act.put]
end
end Go.Proofs.YtbhgaclbijocmaaGreatDoor.Ab
namespace Go.Proofs.YtbhgaclbijocmaaGreatDoor.Ab
open Go.RowKit Go.Proofs.YtbhgaclbijocmaaGreatDoor Pl
abbrev hL (a b c:Int) (s:ByteArray):AV Kn := .fv (.ag [.lit (.int .i64 a),.lit (.int .i64 b),.lit (.int .i64 c),fL s])
section
variable {a b c:Int} {s:ByteArray}
abbrev In (k x:Int):Prop := -k≤x∧x≤k
end
section
variable {o1 o2 o3 x1 x2 x3 y1 y2 y3 z1 z2 z3:Rat}
theorem isZeroT {s:ByteArray} {r:Bool} (h:(s.toList==(⟨#[48]⟩:ByteArray).toList)=r):Fits Tryz.prog 20 [tx s] (bl r):=by
 refine jH Tryz.func20 (by kernel_rfl) fun w00=>?_
 refine fE (.binOp .eql 22 (.tmp 3) (.const (.string ⟨#[48]⟩)) 22) (.tmp 3) (.const (.string ⟨#[48]⟩)) (tx s) (lt ⟨#[48]⟩) (bl r) (by kernel_rfl) (by simp [Op.operands]) (by simp [Op.operands]) (fun ρ o β w ho hx hy=>⟨_,uJ ho (aW hx) (aR hy) h,bJ rfl⟩) ?_
 exact aU Tryz.func20 (by kernel_rfl)
variable {k l:Nat}
end
theorem tB {x y z:Int} (hx:Ev x) (hy:Ev y) (hz:f2 x y=z):Fits Tryz.prog 12 [.fv (.nsl 2 3 [lz x,lz y])] (it z):=by
 rcases hx with rfl|rfl|rfl
 ·have hz:y=z:=hz
  subst hz
  rcases hy with rfl|rfl|rfl <;> (refine xL Tryz.func12 (by kernel_rfl) fun w00=>?_;exact aU Tryz.func12 (by kernel_rfl))
 ·have hz:1=z:=hz
  subst hz
  refine xL Tryz.func12 (by kernel_rfl) fun w00=>?_
  exact aU Tryz.func12 (by kernel_rfl)
 ·have hz:4=z:=hz
  subst hz
  refine xL Tryz.func12 (by kernel_rfl) fun w00=>?_
  exact aU Tryz.func12 (by kernel_rfl)
abbrev Bz (z:Int):Prop:=z=1∨z=3∨z=4∨z=6∨z=7
theorem tC {z:Int} (hz:Bz z):Fits Tryz.prog 14 [lt ⟨#[]⟩,it z,it z,lt ⟨#[]⟩] (bl true):=by
 rcases hz with rfl|rfl|rfl|rfl|rfl <;> (refine jH Tryz.func14 (by kernel_rfl) fun w00=>?_;exact aU Tryz.func14 (by kernel_rfl))
theorem lS {q:Rat} (h:Wr q):Fits Tryz.prog 14 [tx (writeB q),it 0,it 0,tx (writeB q)] (bl true):=by
 have hl:=refLargeF h
 generalize writeB q=s at *
 refine jH Tryz.func14 (by kernel_rfl) fun w00=>?_
 refine aB 70 [tx s] (hl) (by kernel_rfl) Tryz.call70 ?_
 refine fE (.binOp .eql 22 (.tmp 25) (.tmp 26) 22) (.tmp 25) (.tmp 26) (tx s) (tx s) (bl true) (by kernel_rfl) (by simp [Op.operands]) (by simp [Op.operands]) (fun ρ o β w ho hx hy=>⟨_,uJ ho (aW hx) (aW hy) (beq_self_eq_true _),bJ rfl⟩) ?_
 exact aU Tryz.func14 (by kernel_rfl)
theorem ev_bad {z:Int} (h:Ev z) (h0:z≠0):Bz z:=by
 rcases h with h|h|h
 ·exact absurd h h0
 ·exact .inl h
 ·exact .inr (.inr (.inl h))
section
variable {a b:ByteArray} {z y:Int}
theorem nums_long1 (h:decide ((60:Int)<(a.size:Nat))=true):FitsW Tryz.prog Gl 3 [tx a,tx b] (bl true):=by
 refine cA Tryz.func3 (by kernel_rfl) fun w00 hG=>?_;have hI:=aV hG
 refine aM hI 5 [] (oH) (by kernel_rfl) Tryz.call5 ?_
 refine lR 22 22 Tryz.underlying22 a (by kernel_rfl) ?_
 refine pH 23 a.size 60 true h (by kernel_rfl) ?_
 refine aM hI 5 [] (oH) (by kernel_rfl) Tryz.call5 ?_
 exact aU Tryz.func3 (by kernel_rfl)
theorem nums_long2 (h:decide ((60:Int)<(a.size:Nat))=false) (k:decide ((60:Int)<(b.size:Nat))=true):FitsW Tryz.prog Gl 3 [tx a,tx b] (bl true):=by
 refine cA Tryz.func3 (by kernel_rfl) fun w00 hG=>?_;have hI:=aV hG
 refine aM hI 5 [] (oH) (by kernel_rfl) Tryz.call5 ?_
 refine lR 22 22 Tryz.underlying22 a (by kernel_rfl) ?_
 refine pH 23 a.size 60 false h (by kernel_rfl) ?_
 refine lR 27 22 Tryz.underlying22 b (by kernel_rfl) ?_
 refine pH 28 b.size 60 true k (by kernel_rfl) ?_
 refine aM hI 5 [] (oH) (by kernel_rfl) Tryz.call5 ?_
 exact aU Tryz.func3 (by kernel_rfl)
set_option maxRecDepth 100000 in
theorem nums_bad1 (h:decide ((60:Int)<(a.size:Nat))=false) (k:decide ((60:Int)<(b.size:Nat))=false) (hz:bA a=z) (h0:z≠0):FitsW Tryz.prog Gl 3 [tx a,tx b] (bl true):=by
 have ra:Rb a:=by have:=of_decide_eq_false h;show a.size<_;omega
 have rb' : Rb b:=by have:=of_decide_eq_false k;show b.size<_;omega
 have hf:f2 (bA a) (bA b)=z:=by rw [f2_l (by rw [hz];exact h0)];exact hz
 have c1:=wZ ra rb' hf h0
 have c2:=xA ra rb' hf h0
 have c3:=xB ra rb' hf h0
 have c4:=xC ra rb' hf h0
 have c5:=oF ra rb' hf h0
 have c6:=aAm ra hz h0
 have k1:=jN (by have:=of_decide_eq_false h;omega) hz
 have k2:=jN (s:=b) (by have:=of_decide_eq_false k;omega) rfl
 have hev:Ev z:=hz▸cC a
 have k3:=tB (cC a) (cC b) hf
 have n1:=tC (ev_bad hev h0)
 rw [hz] at k3
 clear hf ra rb'
 generalize bA b=y at *
 rcases hev with rfl|rfl|rfl
 ·exact absurd rfl h0
 all_goals
  refine cA Tryz.func3 (by kernel_rfl) fun w00 hG=>?_;have hI:=aV hG
  refine aM hI 5 [] (oH) (by kernel_rfl) Tryz.call5 ?_
  refine lR 22 22 Tryz.underlying22 a (by kernel_rfl) ?_
  refine pH 23 a.size 60 false h (by kernel_rfl) ?_
  refine lR 27 22 Tryz.underlying22 b (by kernel_rfl) ?_
  refine pH 28 b.size 60 false k (by kernel_rfl) ?_
  refine aM hI 6 [tx a,tx b] (c1) (by kernel_rfl) Tryz.call6 ?_
  refine aM hI 7 [tx a,tx b] (c2) (by kernel_rfl) Tryz.call7 ?_
  refine aM hI 8 [tx a,tx b] (c3) (by kernel_rfl) Tryz.call8 ?_
  refine aM hI 9 [tx a,tx b] (c4) (by kernel_rfl) Tryz.call9 ?_
  refine aM hI 10 [tx a,tx b] (c5) (by kernel_rfl) Tryz.call10 ?_
  refine aM hI 11 [tx a] (c6) (by kernel_rfl) Tryz.call11 ?_
  refine aB 13 [tx a] (k1) (by kernel_rfl) Tryz.call13 ?_
  refine aB 13 [tx b] (k2) (by kernel_rfl) Tryz.call13 ?_
  refine aB 12 _ (k3) (by kernel_rfl) Tryz.call12 ?_
  refine aB 13 [tx a] (k1) (by kernel_rfl) Tryz.call13 ?_
  refine aB 14 _ (n1) (by kernel_rfl) Tryz.call14 ?_
  refine aB 14 _ (n1) (by kernel_rfl) Tryz.call14 ?_
  refine aB 14 _ (n1) (by kernel_rfl) Tryz.call14 ?_
  refine aB 14 _ (n1) (by kernel_rfl) Tryz.call14 ?_
  refine aB 14 _ (n1) (by kernel_rfl) Tryz.call14 ?_
  exact aU Tryz.func3 (by kernel_rfl)
end
section
variable {p q:Rat} {b:ByteArray} {z:Int}
theorem xD {s:ByteArray} (h:decide ((60:Int)<(s.size:Nat))=false) (e:s=writeB p):Fw 60 p:=by
 have h:=of_decide_eq_false h
 have hl:(writeB p).size≤60:=by rw [← e];omega
 rw [jM] at hl
 have ht:(decB p.num.natAbs).size≤(aS p.num).size:=by
  unfold aS
  split
  ·rw [ByteArray.size_append];omega
  ·exact Nat.le_refl _
 refine ⟨by omega,?_⟩
 by_cases hd:p.den=1
 ·rw [hd,dec1];decide
 ·rw [if_neg hd] at hl;omega
theorem bq_floor {k:Nat} {p:Rat} (h:Bq k p):Bq (k+2) ((p.floor:Int):Rat):=by
 have hl:=floor_le p
 have h1:=h.1
 refine ⟨?_,?_⟩
 ·rw [Rat.num_intCast,Nat.pow_succ,Nat.pow_succ]
  have:0<10^k:=Nat.pow_pos (by omega)
  omega
 ·rw [Rat.den_intCast]
  exact Nat.one_lt_pow (by omega) (by omega)
set_option maxRecDepth 100000 in
theorem nums_bad2 (h:decide ((60:Int)<((writeB p).size:Nat))=false) (k:decide ((60:Int)<(b.size:Nat))=false) (hz:bA b=z) (h0:z≠0):FitsW Tryz.prog Gl 3 [tx (writeB p),tx b] (bl true):=by
 have hp:=bq_of (xD h rfl)
 have wp:Wr p:=hp.wr (by omega)
 have ra:Rb (writeB p):=by have:=of_decide_eq_false h;show (writeB p).size<_;omega
 have rb' : Rb b:=by have:=of_decide_eq_false k;show b.size<_;omega
 have hc:bA (writeB p)=0:=oC wp.n wp.d
 have hf:f2 (bA (writeB p)) (bA b)=z:=by rw [f2_r hc];exact hz
 have c1:=wZ ra rb' hf h0
 have c2:=xA ra rb' hf h0
 have c3:=xB ra rb' hf h0
 have c4:=xC ra rb' hf h0
 have c5:=oF ra rb' hf h0
 have hfl:Bq 62 ((p.floor:Int):Rat):=bq_floor hp
 have wfl:Wr ((p.floor:Int):Rat):=hfl.wr (by omega)
 have c6:=yY wp wfl
 have k1:=jN (by have:=of_decide_eq_false h;omega) hc
 have k2:=jN (s:=b) (by have:=of_decide_eq_false k;omega) hz
 have hev:Ev z:=hz▸cC b
 have k3:=tB (x:=0) (.inl rfl) hev (f2_r rfl)
 have k4:=kn_1 (zB (hp.zs (by omega)))
 have n0:=lS wfl
 have n1:=tC (ev_bad hev h0)
 clear hf ra rb' hfl wfl wp hp hc
 generalize writeB ((p.floor:Int):Rat)=fl at *
 generalize writeB p=a at *
 rcases hev with rfl|rfl|rfl
 ·exact absurd rfl h0
 all_goals
  refine cA Tryz.func3 (by kernel_rfl) fun w00 hG=>?_;have hI:=aV hG
  refine aM hI 5 [] (oH) (by kernel_rfl) Tryz.call5 ?_
  refine lR 22 22 Tryz.underlying22 a (by kernel_rfl) ?_
  refine pH 23 a.size 60 false h (by kernel_rfl) ?_
  refine lR 27 22 Tryz.underlying22 b (by kernel_rfl) ?_
  refine pH 28 b.size 60 false k (by kernel_rfl) ?_
  refine aM hI 6 [tx a,tx b] (c1) (by kernel_rfl) Tryz.call6 ?_
  refine aM hI 7 [tx a,tx b] (c2) (by kernel_rfl) Tryz.call7 ?_
  refine aM hI 8 [tx a,tx b] (c3) (by kernel_rfl) Tryz.call8 ?_
  refine aM hI 9 [tx a,tx b] (c4) (by kernel_rfl) Tryz.call9 ?_
  refine aM hI 10 [tx a,tx b] (c5) (by kernel_rfl) Tryz.call10 ?_
  refine aM hI 11 [tx a] (c6) (by kernel_rfl) Tryz.call11 ?_
  refine aB 13 [tx a] (k1) (by kernel_rfl) Tryz.call13 ?_
  refine aB 13 [tx b] (k2) (by kernel_rfl) Tryz.call13 ?_
  refine aB 12 _ (k3) (by kernel_rfl) Tryz.call12 ?_
  refine aB 13 [tx a] (k1) (by kernel_rfl) Tryz.call13 ?_
  refine aB 15 [tx a] (k4) (by kernel_rfl) Tryz.call15 ?_
  refine aB 14 _ (n0) (by kernel_rfl) Tryz.call14 ?_
  refine aB 14 _ (n1) (by kernel_rfl) Tryz.call14 ?_
  refine aB 14 _ (n1) (by kernel_rfl) Tryz.call14 ?_
  refine aB 14 _ (n1) (by kernel_rfl) Tryz.call14 ?_
  refine aB 14 _ (n1) (by kernel_rfl) Tryz.call14 ?_
  exact aU Tryz.func3 (by kernel_rfl)
theorem xE (p q:Rat):eD p q = -1∨eD p q=0∨eD p q=1:=by
 rcases sign_cmp p q with ⟨e,_⟩|⟨e,_⟩|⟨e,_⟩
 ·exact .inl e
 ·exact .inr (.inl e)
 ·exact .inr (.inr e)
set_option maxRecDepth 100000 in
theorem nums_ok (h:decide ((60:Int)<((writeB p).size:Nat))=false) (k:decide ((60:Int)<((writeB q).size:Nat))=false):FitsW Tryz.prog Gl 3 [tx (writeB p),tx (writeB q)] (bl true):=by
 have hp:=bq_of (xD h rfl)
 have hq:=bq_of (xD k rfl)
 have wp:Wr p:=hp.wr (by omega)
 have wq:Wr q:=hq.wr (by omega)
 have hcp:bA (writeB p)=0:=oC wp.n wp.d
 have hcq:bA (writeB q)=0:=oC wq.n wq.d
 have w1:Wr (p+q):=(hp.add hq).wr (by omega)
 have w2:Wr (p-q):=(hp.sub hq).wr (by omega)
 have w3:Wr (p*q):=(hp.mul hq).wr (by omega)
 have wfl:Wr ((p.floor:Int):Rat):=(bq_floor hp).wr (by omega)
 have c1:=apiAddF wp wq w1
 have c2:=apiSubF wp wq w2
 have c3:=apiMulF wp wq w3
 have c5:=apiCompareF wp wq
 have c6:=yY wp wfl
 have zp:=hp.zs (by omega)
 have zq:=hq.zs (by omega)
 have k1:=jN (by have:=of_decide_eq_false h;omega) hcp
 have k2:=jN (s:=writeB q) (by have:=of_decide_eq_false k;omega) hcq
 have k3:=tB (x:=0) (y:=0) (.inl rfl) (.inl rfl) (f2_r rfl)
 have k4:=kn_1 (zB zp)
 have r1:=kn_S (refAddF zp zq)
 have r2:=kn_S (subR zp zq)
 have r3:=kn_S (refMulF zp zq)
 have r5:=refCmpF zp zq
 have n0:=lS wfl
 have n1:=lS w1
 have n2:=lS w2
 have n3:=lS w3
 by_cases h0:q=0
 ·have c4:=apiDivZeroF wp wq h0
  have n4:=tC (z:=6) (by decide)
  have hs:((writeB q).toList==(⟨#[48]⟩:ByteArray).toList)=true:=by
   have e:writeB q=⟨#[48]⟩:=by rw [h0];exact w0
   rw [e];exact beq_self_eq_true _
  have hz:=isZeroT hs
  have hcv:=xE p q
  clear hp hq wp wq hcp hcq w1 w2 w3 wfl zp zq hs h0
  generalize writeB (p+q)=s1 at *
  generalize writeB (p-q)=s2 at *
  generalize writeB (p*q)=s3 at *
  generalize writeB ((p.floor:Int):Rat)=fl at *
  generalize eD p q=c at *
  generalize writeB p=a at *
  generalize writeB q=b at *
  rcases hcv with rfl|rfl|rfl
  all_goals
   refine cA Tryz.func3 (by kernel_rfl) fun w00 hG=>?_;have hI:=aV hG
   refine aM hI 5 [] (oH) (by kernel_rfl) Tryz.call5 ?_
   refine lR 22 22 Tryz.underlying22 a (by kernel_rfl) ?_
   refine pH 23 a.size 60 false h (by kernel_rfl) ?_
   refine lR 27 22 Tryz.underlying22 b (by kernel_rfl) ?_
   refine pH 28 b.size 60 false k (by kernel_rfl) ?_
   refine aM hI 6 [tx a,tx b] (c1) (by kernel_rfl) Tryz.call6 ?_
   refine aM hI 7 [tx a,tx b] (c2) (by kernel_rfl) Tryz.call7 ?_
   refine aM hI 8 [tx a,tx b] (c3) (by kernel_rfl) Tryz.call8 ?_
   refine aM hI 9 [tx a,tx b] (c4) (by kernel_rfl) Tryz.call9 ?_
   refine aM hI 10 [tx a,tx b] (c5) (by kernel_rfl) Tryz.call10 ?_
   refine aM hI 11 [tx a] (c6) (by kernel_rfl) Tryz.call11 ?_
   refine aB 13 [tx a] (k1) (by kernel_rfl) Tryz.call13 ?_
   refine aB 13 [tx b] (k2) (by kernel_rfl) Tryz.call13 ?_
   refine aB 12 _ (k3) (by kernel_rfl) Tryz.call12 ?_
   refine aB 13 [tx a] (k1) (by kernel_rfl) Tryz.call13 ?_
   refine aB 15 [tx a] (k4) (by kernel_rfl) Tryz.call15 ?_
   refine aB 14 _ (n0) (by kernel_rfl) Tryz.call14 ?_
   refine aB 16 [tx a,tx b] (r1) (by kernel_rfl) Tryz.call16 ?_
   refine aB 14 _ (n1) (by kernel_rfl) Tryz.call14 ?_
   refine aB 17 [tx a,tx b] (r2) (by kernel_rfl) Tryz.call17 ?_
   refine aB 14 _ (n2) (by kernel_rfl) Tryz.call14 ?_
   refine aB 18 [tx a,tx b] (r3) (by kernel_rfl) Tryz.call18 ?_
   refine aB 14 _ (n3) (by kernel_rfl) Tryz.call14 ?_
   refine aB 19 [tx a,tx b] (r5) (by kernel_rfl) Tryz.call19 ?_
   refine aB 20 [tx b] (hz) (by kernel_rfl) Tryz.call20 ?_
   refine aB 14 _ (n4) (by kernel_rfl) Tryz.call14 ?_
   exact aU Tryz.func3 (by kernel_rfl)
 ·have hd:=hp.div hq
  have w4:Wr (p/q):=hd.wr (by omega)
  have c4:=apiDivF wp wq h0 w4
  have r4:=kn_S (refDivF zp zq h0)
  have n4:=lS w4
  have hs:((writeB q).toList==(⟨#[48]⟩:ByteArray).toList)=false:=eA (kK (aAp h0))
  have hz:=isZeroT hs
  have hcv:=xE p q
  clear hp hq wp wq hcp hcq w1 w2 w3 wfl zp zq hs h0 hd w4
  generalize writeB (p+q)=s1 at *
  generalize writeB (p-q)=s2 at *
  generalize writeB (p*q)=s3 at *
  generalize writeB (p/q)=s4 at *
  generalize writeB ((p.floor:Int):Rat)=fl at *
  generalize eD p q=c at *
  generalize writeB p=a at *
  generalize writeB q=b at *
  rcases hcv with rfl|rfl|rfl
  all_goals
   refine cA Tryz.func3 (by kernel_rfl) fun w00 hG=>?_;have hI:=aV hG
   refine aM hI 5 [] (oH) (by kernel_rfl) Tryz.call5 ?_
   refine lR 22 22 Tryz.underlying22 a (by kernel_rfl) ?_
   refine pH 23 a.size 60 false h (by kernel_rfl) ?_
   refine lR 27 22 Tryz.underlying22 b (by kernel_rfl) ?_
   refine pH 28 b.size 60 false k (by kernel_rfl) ?_
   refine aM hI 6 [tx a,tx b] (c1) (by kernel_rfl) Tryz.call6 ?_
   refine aM hI 7 [tx a,tx b] (c2) (by kernel_rfl) Tryz.call7 ?_
   refine aM hI 8 [tx a,tx b] (c3) (by kernel_rfl) Tryz.call8 ?_
   refine aM hI 9 [tx a,tx b] (c4) (by kernel_rfl) Tryz.call9 ?_
   refine aM hI 10 [tx a,tx b] (c5) (by kernel_rfl) Tryz.call10 ?_
   refine aM hI 11 [tx a] (c6) (by kernel_rfl) Tryz.call11 ?_
   refine aB 13 [tx a] (k1) (by kernel_rfl) Tryz.call13 ?_
   refine aB 13 [tx b] (k2) (by kernel_rfl) Tryz.call13 ?_
   refine aB 12 _ (k3) (by kernel_rfl) Tryz.call12 ?_
   refine aB 13 [tx a] (k1) (by kernel_rfl) Tryz.call13 ?_
   refine aB 15 [tx a] (k4) (by kernel_rfl) Tryz.call15 ?_
   refine aB 14 _ (n0) (by kernel_rfl) Tryz.call14 ?_
   refine aB 16 [tx a,tx b] (r1) (by kernel_rfl) Tryz.call16 ?_
   refine aB 14 _ (n1) (by kernel_rfl) Tryz.call14 ?_
   refine aB 17 [tx a,tx b] (r2) (by kernel_rfl) Tryz.call17 ?_
   refine aB 14 _ (n2) (by kernel_rfl) Tryz.call14 ?_
   refine aB 18 [tx a,tx b] (r3) (by kernel_rfl) Tryz.call18 ?_
   refine aB 14 _ (n3) (by kernel_rfl) Tryz.call14 ?_
   refine aB 19 [tx a,tx b] (r5) (by kernel_rfl) Tryz.call19 ?_
   refine aB 20 [tx b] (hz) (by kernel_rfl) Tryz.call20 ?_
   refine aB 21 [tx a,tx b] (r4) (by kernel_rfl) Tryz.call21 ?_
   refine aB 14 _ (n4) (by kernel_rfl) Tryz.call14 ?_
   exact aU Tryz.func3 (by kernel_rfl)
end
theorem numbersF (a b:ByteArray):FitsW Tryz.prog Gl 3 [tx a,tx b] (bl true):=by
 cases h:decide ((60:Int)<(a.size:Nat)) with
 | true=>exact nums_long1 h
 | false =>
   cases k:decide ((60:Int)<(b.size:Nat)) with
   | true=>exact nums_long2 h k
   | false =>
     by_cases ha:bA a=0
     ·obtain ⟨p,rfl,_,_⟩:=mS ha
      by_cases hb:bA b=0
      ·obtain ⟨q,rfl,_,_⟩:=mS hb
       exact nums_ok h k
      ·exact nums_bad2 h k rfl hb
     ·exact nums_bad1 h k rfl ha
end Go.Proofs.YtbhgaclbijocmaaGreatDoor.Ab
namespace Go.Proofs.YtbhgaclbijocmaaGreatDoor.Ab
open Go.ChangeShapes Go.WideShapes Go.ChangeAt Go.RowKit Go.Proofs.YtbhgaclbijocmaaGreatDoor
theorem gPow:Tryz.prog.globalNamed "internal/strconv.uint64pow10" = some 5:=by kernel_rfl
theorem gl_of {W:World} {r:List (String×DataW Unit)} (h:laidMet Tryz.prog (("internal/strconv.uint64pow10",Lib.tabData .u64 Lib.pow10Tab)::r) W) (hs:W.ShapedOpen Tryz.prog):Gl W :=
 ⟨Lib.tabIs_of_head (t:=304) (e:=177) (n:=20) gPow (by kernel_rfl) (by kernel_rfl) (by kernel_rfl) (by kernel_rfl) (by kernel_rfl) h,
  Go.Proofs.cell_of_shapedOpen_int (zero := #[.int .i64 0]) (t:=3) hs (of_decide_eq_true (by kernel_rfl)) (by kernel_rfl) rfl (by kernel_rfl) (by kernel_rfl) (by kernel_rfl)⟩
end Go.Proofs.YtbhgaclbijocmaaGreatDoor.Ab
