/- Parts of the proof, joined. -/
import Derived.Test.YtejbgingjeedaaaGreatDoorJ14
import Derived.Test.YtejbgingjeedaaaGreatDoorJ12
set_option linter.unusedSimpArgs false
set_option linter.unusedVariables false
namespace Go.Proofs.YtejbgingjeedaaaGreatDoor.Ab
open Go.RowKit Go.Proofs.YtejbgingjeedaaaGreatDoor Pl
theorem valueF {d:ByteArray} {n:Nat} (hd:AllDig (aC d)) (hs:d.size≤17) (hn:aT (aC d)=n):Fits Tryz.prog 210 [rS d] (rI n):=by
 intro β w vs hv
 obtain ⟨v,rfl,h1⟩:=dE hv
 rw [aZ h1]
 exact (lY d w hd hs).mono fun e w' ⟨e1,e2⟩=>⟨_,e1,by rw [e2];exact Below.refl _ _,by rw [hn];exact cN⟩
theorem neg_run {o:Oper} {ρ:Operand→Value} {w:World} {x y:Operand} {a:Nat} (ho:o.op = .binOp .sub 3 x y 3) (hx:ρ x = .int .i64 0) (hy:ρ y = .int .i64 (a:Int)) (ha:a<4611686018427387904) :
 (execOp ρ o).run Tryz.prog w = .ok (.value (.int .i64 (-(a:Int)))) w:=by
 simp only [execOp,ho,hx,hy]
 refine bJ ?_
 have e:IntKind.i64.wrap (0-(a:Int)) = -(a:Int):=by
  rw [IntWalk.i64_left,IntWalk.wrap64_in _ ⟨by omega,by omega⟩];omega
 rw [Int.zero_sub] at e
 simp [go_sem,e]
section
variable {s u d1 d2:ByteArray} {c n1 n2:Nat}
theorem quick_yes1n (h20:decide ((20:Int)<s.size)=false) (h0:decide ((0:Int)<s.size)=true) (h1:1≤s.size) (hc:∃ h:0<s.size,(s[0]'h).toNat=45) (hext:s.extract 1 s.size=u) (hus:u.size≤s.size) (hn1:n1<4611686018427387904) (h9:decide ((9:Int)<(aK u:Nat))=false) (h10:decide ((10:Int)<((u.size-aK u:Nat):Int))=false) (hd1:u.extract 0 (aK u)=d1) (v1:Fits Tryz.prog 210 [rS d1] (rI n1)) (hlt:decide (((aK u:Nat):Int)<(u.size:Nat))=false):Fits Tryz.prog 155 [rS s] (.tup [.sc (.sp (iM (.int .i64 (-(n1:Int))) rfl false (fun h=>by cases h))),.sc (.lit (.int .i64 1)),.sc (.lit (.bool true))]):=by
 have hs20:s.size≤20:=by rw [decide_eq_false_iff_not] at h20;omega
 refine jT Tryz.func155 fun w00=>?_
 refine dU 11 9 Tryz.underlying9 s ?_
 refine iY 12 20 s.size false h20 ?_
 refine dU 14 9 Tryz.underlying9 s ?_
 refine iY 15 0 s.size true h0 ?_
 refine ridn 18 s hc ?_
 refine rsl1 23 9 Tryz.underlying9 s u h1 hext ?_
 refine jB 151 [rS u] (fE (by omega)) Tryz.call151 ?_
 refine iY 27 9 (aK u:Nat) false h9 ?_
 refine dU 30 9 Tryz.underlying9 u ?_
 refine yQ 31 32 (u.size) (aK u) (cG _) (by omega) ?_
 refine iY 33 10 ((u.size-aK u:Nat):Int) false h10 ?_
 refine rshi 36 37 9 Tryz.underlying9 u (aK u) d1 (cG _) hd1 ?_
 refine jB 210 [rS d1] v1 Tryz.call210 ?_
 refine dU 41 9 Tryz.underlying9 u ?_
 refine vF 40 42 (aK u:Nat) (u.size:Nat) false hlt ?_
 refine bD (.binOp .sub 3 (.const (.int .i64 0)) (.tmp 50) 3) (.const (.int .i64 0)) (.tmp 50) (.fv (.sc (.lit (.int .i64 0)))) (rI n1) (rI (-(n1:Int))) (by kernel_rfl) (by simp [Op.operands]) (by simp [Op.operands]) (fun ρ o β w ho hx hy=>⟨_,neg_run ho (bZ hx) (aZ hy) hn1,cN⟩) ?_
 exact jS Tryz.func155
theorem quick_yes2n (h20:decide ((20:Int)<s.size)=false) (h0:decide ((0:Int)<s.size)=true) (h1:1≤s.size) (hc:∃ h:0<s.size,(s[0]'h).toNat=45) (hext:s.extract 1 s.size=u) (hus:u.size≤s.size) (hn1:n1<4611686018427387904) (h9:decide ((9:Int)<(aK u:Nat))=false) (h10:decide ((10:Int)<((u.size-aK u:Nat):Int))=false) (hd1:u.extract 0 (aK u)=d1) (v1:Fits Tryz.prog 210 [rS d1] (rI n1)) (hlt:decide (((aK u:Nat):Int)<(u.size:Nat))=true) (hd2:u.extract (aK u+1) u.size=d2) (v2:Fits Tryz.prog 210 [rS d2] (rI n2)):Fits Tryz.prog 155 [rS s] (.tup [.sc (.sp (iM (.int .i64 (-(n1:Int))) rfl false (fun h=>by cases h))),.sc (.sp (iM (.int .i64 (n2:Int)) rfl false (fun h=>by cases h))),.sc (.lit (.bool true))]):=by
 have hs20:s.size≤20:=by rw [decide_eq_false_iff_not] at h20;omega
 refine jT Tryz.func155 fun w00=>?_
 refine dU 11 9 Tryz.underlying9 s ?_
 refine iY 12 20 s.size false h20 ?_
 refine dU 14 9 Tryz.underlying9 s ?_
 refine iY 15 0 s.size true h0 ?_
 refine ridn 18 s hc ?_
 refine rsl1 23 9 Tryz.underlying9 s u h1 hext ?_
 refine jB 151 [rS u] (fE (by omega)) Tryz.call151 ?_
 refine iY 27 9 (aK u:Nat) false h9 ?_
 refine dU 30 9 Tryz.underlying9 u ?_
 refine yQ 31 32 (u.size) (aK u) (cG _) (by omega) ?_
 refine iY 33 10 ((u.size-aK u:Nat):Int) false h10 ?_
 refine rshi 36 37 9 Tryz.underlying9 u (aK u) d1 (cG _) hd1 ?_
 refine jB 210 [rS d1] v1 Tryz.call210 ?_
 refine dU 41 9 Tryz.underlying9 u ?_
 refine vF 40 42 (aK u:Nat) (u.size:Nat) true hlt ?_
 refine radd 45 (aK u) (by have:=cG u;omega) ?_
 refine rslo 44 46 9 Tryz.underlying9 u (aK u+1) d2 (by have:=of_decide_eq_true hlt;omega) hd2 ?_
 refine jB 210 [rS d2] v2 Tryz.call210 ?_
 refine bD (.binOp .sub 3 (.const (.int .i64 0)) (.tmp 50) 3) (.const (.int .i64 0)) (.tmp 50) (.fv (.sc (.lit (.int .i64 0)))) (rI n1) (rI (-(n1:Int))) (by kernel_rfl) (by simp [Op.operands]) (by simp [Op.operands]) (fun ρ o β w ho hx hy=>⟨_,neg_run ho (bZ hx) (aZ hy) hn1,cN⟩) ?_
 exact jS Tryz.func155
theorem quick_yes1p (h20:decide ((20:Int)<s.size)=false) (h0:decide ((0:Int)<s.size)=true) (hc:∃ h:0<s.size,(s[0]'h).toNat=c) (hc45:((c:Int)==45)=false) (h9:decide ((9:Int)<(aK s:Nat))=false) (h10:decide ((10:Int)<((s.size-aK s:Nat):Int))=false) (hd1:s.extract 0 (aK s)=d1) (v1:Fits Tryz.prog 210 [rS d1] (rI n1)) (hlt:decide (((aK s:Nat):Int)<(s.size:Nat))=false):Fits Tryz.prog 155 [rS s] (.tup [.sc (.sp (iM (.int .i64 (n1:Int)) rfl false (fun h=>by cases h))),.sc (.lit (.int .i64 1)),.sc (.lit (.bool true))]):=by
 have hs20:s.size≤20:=by rw [decide_eq_false_iff_not] at h20;omega
 refine jT Tryz.func155 fun w00=>?_
 refine dU 11 9 Tryz.underlying9 s ?_
 refine iY 12 20 s.size false h20 ?_
 refine dU 14 9 Tryz.underlying9 s ?_
 refine iY 15 0 s.size true h0 ?_
 refine ridp 18 s c hc ?_
 refine rueq 19 c hc45 ?_
 refine jB 151 [rS s] (fE (by omega)) Tryz.call151 ?_
 refine iY 27 9 (aK s:Nat) false h9 ?_
 refine dU 30 9 Tryz.underlying9 s ?_
 refine yQ 31 32 (s.size) (aK s) (cG _) (by omega) ?_
 refine iY 33 10 ((s.size-aK s:Nat):Int) false h10 ?_
 refine rshi 36 37 9 Tryz.underlying9 s (aK s) d1 (cG _) hd1 ?_
 refine jB 210 [rS d1] v1 Tryz.call210 ?_
 refine dU 41 9 Tryz.underlying9 s ?_
 refine vF 40 42 (aK s:Nat) (s.size:Nat) false hlt ?_
 exact jS Tryz.func155
theorem quick_yes2p (h20:decide ((20:Int)<s.size)=false) (h0:decide ((0:Int)<s.size)=true) (hc:∃ h:0<s.size,(s[0]'h).toNat=c) (hc45:((c:Int)==45)=false) (h9:decide ((9:Int)<(aK s:Nat))=false) (h10:decide ((10:Int)<((s.size-aK s:Nat):Int))=false) (hd1:s.extract 0 (aK s)=d1) (v1:Fits Tryz.prog 210 [rS d1] (rI n1)) (hlt:decide (((aK s:Nat):Int)<(s.size:Nat))=true) (hd2:s.extract (aK s+1) s.size=d2) (v2:Fits Tryz.prog 210 [rS d2] (rI n2)):Fits Tryz.prog 155 [rS s] (.tup [.sc (.sp (iM (.int .i64 (n1:Int)) rfl false (fun h=>by cases h))),.sc (.sp (iM (.int .i64 (n2:Int)) rfl false (fun h=>by cases h))),.sc (.lit (.bool true))]):=by
 have hs20:s.size≤20:=by rw [decide_eq_false_iff_not] at h20;omega
 refine jT Tryz.func155 fun w00=>?_
 refine dU 11 9 Tryz.underlying9 s ?_
 refine iY 12 20 s.size false h20 ?_
 refine dU 14 9 Tryz.underlying9 s ?_
 refine iY 15 0 s.size true h0 ?_
 refine ridp 18 s c hc ?_
 refine rueq 19 c hc45 ?_
 refine jB 151 [rS s] (fE (by omega)) Tryz.call151 ?_
 refine iY 27 9 (aK s:Nat) false h9 ?_
 refine dU 30 9 Tryz.underlying9 s ?_
 refine yQ 31 32 (s.size) (aK s) (cG _) (by omega) ?_
 refine iY 33 10 ((s.size-aK s:Nat):Int) false h10 ?_
 refine rshi 36 37 9 Tryz.underlying9 s (aK s) d1 (cG _) hd1 ?_
 refine jB 210 [rS d1] v1 Tryz.call210 ?_
 refine dU 41 9 Tryz.underlying9 s ?_
 refine vF 40 42 (aK s:Nat) (s.size:Nat) true hlt ?_
 refine radd 45 (aK s) (by have:=cG s;omega) ?_
 refine rslo 44 46 9 Tryz.underlying9 s (aK s+1) d2 (by have:=of_decide_eq_true hlt;omega) hd2 ?_
 refine jB 210 [rS d2] v2 Tryz.call210 ?_
 exact jS Tryz.func155
end
def Sq (q:Rat):Prop:=(decB q.num.natAbs).size≤9∧(q.den=1∨(decB q.den).size≤9)
theorem mE {q:Rat} (h:q.den=1):aY q=aQ (q.num.natAbs:Int):=by unfold aY;rw [if_pos h,cH]
theorem oK {q:Rat} (h:q.den≠1):aY q=aQ (q.num.natAbs:Int)++(⟨#[47]⟩++decB q.den):=by unfold aY;rw [if_neg h,cH]
theorem nC (q:Rat):aK (aY q)=(decB q.num.natAbs).size:=by
 by_cases h:q.den=1
 ·rw [mE h,tR,cH]
 ·rw [oK h,tS,cH]
theorem size47:(⟨#[47]⟩:ByteArray).size=1:=rfl
theorem size45:(⟨#[45]⟩:ByteArray).size=1:=rfl
theorem oL (q:Rat):(aY q).size=(decB q.num.natAbs).size+if q.den=1 then 0 else 1+(decB q.den).size:=by
 by_cases h:q.den=1
 ·rw [mE h,cH,if_pos h];rfl
 ·rw [oK h,if_neg h,ByteArray.size_append,ByteArray.size_append,cH,size47]
theorem tU (q:Rat):∃ c:Nat,(∃ h:0<(aY q).size,((aY q)[0]'h).toNat=c)∧((c:Int)==45)=false:=by
 obtain ⟨c,r,e,hc⟩:=tL q
 have h0:0<(aY q).size:=by
  have:(aY q).size=(aY q).data.toList.length:=rfl
  rw [this,e];simp
 have h1:=cM h0
 have h2:aC (aY q)=c::r:=e
 rw [h2] at h1
 simp at h1
 refine ⟨c.toNat,⟨h0,by rw [← h1]⟩,?_⟩
 simp;omega
theorem iA {q:Rat} (h:q.num<0):1≤(writeB q).size∧(∃ h:0<(writeB q).size,((writeB q)[0]'h).toNat=45)∧(writeB q).extract 1 (writeB q).size=aY q∧(aY q).size≤(writeB q).size∧(writeB q).size=(aY q).size+1:=by
 have e:writeB q=⟨#[45]⟩++aY q:=lU h
 have hsz:(writeB q).size=(aY q).size+1:=by rw [e,ByteArray.size_append,size45];omega
 have h0:0<(writeB q).size:=by omega
 refine ⟨h0,⟨h0,?_⟩,?_,by omega,hsz⟩
 ·have h1:=cM h0
  have h2:aC (writeB q)=45::aC (aY q):=by rw [e];simp [aC]
  rw [h2] at h1
  simp at h1
  rw [← h1];rfl
 ·have h2:aC (writeB q)=45::aC (aY q):=by rw [e];simp [aC]
  have:aC ((writeB q).extract 1 (writeB q).size)=aC (aY q):=by
   rw [aR,List.take_of_length_le (by rw [aE];exact Nat.le_refl _),h2];rfl
  exact ba_ext this
theorem kI {q:Rat} (hq:¬ Sq q):Fits Tryz.prog 155 [rS (writeB q)] qno:=by
 by_cases h20:20<(writeB q).size
 ·exact quick_long (by rw [decide_eq_true_iff];omega)
 have hbs:=oL q
 have hsl:=nC q
 by_cases hn:q.num<0
 ·obtain ⟨f1,f2,f3,f4,f5⟩:=iA hn
  by_cases h9:9<(decB q.num.natAbs).size
  ·exact quick_k9n (by rw [decide_eq_false_iff_not];omega) (by rw [decide_eq_true_iff];omega) f1 f2 f3 f4 (by rw [hsl,decide_eq_true_iff];omega)
  ·refine quick_l10n (by rw [decide_eq_false_iff_not];omega) (by rw [decide_eq_true_iff];omega) f1 f2 f3 f4 (by rw [hsl,decide_eq_false_iff_not];omega) ?_
   rw [hsl,decide_eq_true_iff,hbs]
   have hd:¬ (q.den=1∨(decB q.den).size≤9):=fun h=>hq ⟨by omega,h⟩
   rw [if_neg (fun h=>hd (.inl h))]
   have:¬ (decB q.den).size≤9:=fun h=>hd (.inr h)
   omega
 ·have hw:=eB hn
  obtain ⟨c,c1,c2⟩:=tU q
  have h0:0<(aY q).size:=c1.1
  rw [hw] at h20 ⊢
  by_cases h9:9<(decB q.num.natAbs).size
  ·exact quick_k9p (by rw [decide_eq_false_iff_not];omega) (by rw [decide_eq_true_iff];omega) c1 c2 (by rw [hsl,decide_eq_true_iff];omega)
  ·refine quick_l10p (by rw [decide_eq_false_iff_not];omega) (by rw [decide_eq_true_iff];omega) c1 c2 (by rw [hsl,decide_eq_false_iff_not];omega) ?_
   rw [hsl,decide_eq_true_iff,hbs]
   have hd:¬ (q.den=1∨(decB q.den).size≤9):=fun h=>hq ⟨by omega,h⟩
   rw [if_neg (fun h=>hd (.inl h))]
   have:¬ (decB q.den).size≤9:=fun h=>hd (.inr h)
   omega
def csAny:CS Kr where
 size:=1
 cold:=false
 pred cs _ := ∃ n:Int,cs = [.int .i64 n]
 stable _ _ _ h _:=h
 len cs w h:=by obtain ⟨v,e⟩:=h;rw [e];rfl
 one cs w h:=by obtain ⟨v,e⟩:=h;rw [e];intro d hd;rw [List.mem_singleton] at hd;rw [hd];rfl
 iscold h:=by cases h
abbrev qany (b:Bool):AV Kr := .tup [.sc (.sp csAny),.sc (.sp csAny),.sc (.lit (.bool b))]
theorem kJ {β:List Nat} {v:Value} {w:World} (h:qno.holds β v w):(qany false).holds β v w:=by
 obtain ⟨vs,rfl,a,r,rfl,h1,b,r2,rfl,h2,c,r3,rfl,h3,h4⟩:=h
 exact ⟨_,rfl,a,_,rfl,⟨0,h1.1⟩,b,_,rfl,⟨0,h2.1⟩,c,_,rfl,h3,h4⟩
theorem pow_lift {a k n:Nat} (h:a<10^k) (hk:k≤n):a<B9^n :=
 Nat.lt_of_lt_of_le h (Nat.le_trans (Nat.pow_le_pow_right (by omega) hk) (Nat.pow_le_pow_left (by unfold B9;omega) _))
theorem gC {a k:Nat} (h:a<10^k) (hk:k≤1099511627776):Bd a:=by
 obtain ⟨n,hn⟩:∃ n,n=1099511627776:=⟨_,rfl⟩
 unfold Bd
 rw [← hn] at hk ⊢
 exact pow_lift h hk
theorem bd1_of {a k:Nat} (h:a<10^k) (hk:k≤100000000):a<B9^100000000:=by
 obtain ⟨n,hn⟩:∃ n,n=100000000:=⟨_,rfl⟩
 rw [← hn] at hk ⊢
 exact pow_lift h hk
theorem pA {z:Int} {k:Nat} (h:z.natAbs<10^(k+1)):(aQ z).size≤k+2:=by
 have:=decB_size h
 unfold aQ
 split
 ·rw [ByteArray.size_append,size45];omega
 ·omega
def Zs (k:Nat) (q:Rat):Prop:=q.num.natAbs<10^(k+1)∧q.den<10^(k+1)
theorem fracW {n:Int} {d k:Nat} (hk:k≤1000000) (hn:n.natAbs<10^(k+1)) (hd:d<10^(k+1)) (h0:0<d):Fits Tryz.prog 157 [iz n,pz d] (rS (writeB (mkRat n d))):=by
 have h:=fractionF (n:=n) (d:=d) (gC hn (by omega)) (gC hd (by omega)) h0 (bd1_of hn (by omega)) (bd1_of hd (by omega))
  (by have:=pA (k:=k) (z:=gZ (decide (n<0)) (n.natAbs/Nat.gcd n.natAbs d)) (by rw [sA];exact Nat.lt_of_le_of_lt (Nat.div_le_self _ _) hn);omega)
  (by have:=pA (k:=k) (z:=((d/Nat.gcd n.natAbs d:Nat):Int)) (by rw [Int.natAbs_natCast];exact Nat.lt_of_le_of_lt (Nat.div_le_self _ _) hd);omega)
 rw [qN n h0] at h
 exact h
theorem oM {a b k:Nat} (ha:a<10^(k+1)) (hb:b<10^(k+1)):a*b<10^(2*k+1+1):=by
 have:10^(2*k+1+1)=10^(k+1)*10^(k+1):=by rw [← Nat.pow_add];congr 1;omega
 rw [this]
 exact Nat.mul_lt_mul'' ha hb
theorem add_lt10 {a b k:Nat} (ha:a<10^(k+1)) (hb:b<10^(k+1)):a+b<10^(k+1+1):=by
 have:10^(k+1+1)=10^(k+1)*10:=Nat.pow_succ _ _
 omega
theorem sF {k:Nat} {q:Rat} (h:Zs k q) (hk:k≤10000):(decB q.num.natAbs).size≤100000∧(decB q.den).size≤100000:=by
 have h1:=decB_size h.1
 have h2:=decB_size h.2
 omega
section
variable {p q:Rat} {b1 b2:Bool}
theorem mulBig (hp:Zs 10000 p) (hq:Zs 10000 q) (q1:Fits Tryz.prog 155 [rS (writeB p)] (qany b1)) (q2:Fits Tryz.prog 155 [rS (writeB q)] (qany b2)) (hb:(b1&&b2)=false) :
 Fits Tryz.prog 106 [rS (writeB p),rS (writeB q)] (rS (writeB (p*q))):=by
 have hn:=oM hp.1 hq.1
 rw [← Int.natAbs_mul] at hn
 have hd:=oM hp.2 hq.2
 have s1:=sF hp (Nat.le_refl _)
 have s2:=sF hq (Nat.le_refl _)
 have hf:=fracW (by omega) hn hd (Nat.mul_pos p.den_pos q.den_pos)
 rw [← Rat.mul_def'] at hf
 have w1:=xW s1.1 s1.2
 have w2:=xW s2.1 s2.2
 have t1:=timesZ (gC hp.1 (by omega)) (gC hq.1 (by omega))
 have t2:=timesPP (gC hp.2 (by omega)) (gC hq.2 (by omega))
 generalize writeB p=s at *
 generalize writeB q=u at *
 cases b1 <;> cases b2 <;> first|cases hb|skip
 all_goals
  refine jT Tryz.func106 fun w00=>?_
  refine jB 155 [rS s] q1 Tryz.call155 ?_
  refine jB 155 [rS u] q2 Tryz.call155 ?_
  refine jB 153 [rS s] w1 Tryz.call153 ?_
  refine jB 153 [rS u] w2 Tryz.call153 ?_
  refine jB 159 [iz p.num,iz q.num] t1 Tryz.call159 ?_
  refine jB 159 [pz p.den,pz q.den] t2 Tryz.call159 ?_
  refine jB 157 [iz (p.num*q.num),pz (p.den*q.den)] hf Tryz.call157 ?_
  exact jS Tryz.func106
theorem addBig (hp:Zs 10000 p) (hq:Zs 10000 q) (q1:Fits Tryz.prog 155 [rS (writeB p)] (qany b1)) (q2:Fits Tryz.prog 155 [rS (writeB q)] (qany b2)) (hb:(b1&&b2)=false) :
 Fits Tryz.prog 103 [rS (writeB p),rS (writeB q)] (rS (writeB (p+q))):=by
 obtain ⟨K,hK⟩:∃ K,K=10000:=⟨_,rfl⟩
 rw [← hK] at hp hq
 have hn1:(p.num*(q.den:Int)).natAbs<10^(2*K+1+1):=Nat.lt_of_le_of_lt (Nat.le_of_eq (by rw [Int.natAbs_mul,Int.natAbs_natCast])) (oM hp.1 hq.2)
 have hn2:(q.num*(p.den:Int)).natAbs<10^(2*K+1+1):=Nat.lt_of_le_of_lt (Nat.le_of_eq (by rw [Int.natAbs_mul,Int.natAbs_natCast])) (oM hq.1 hp.2)
 have hn:(p.num*(q.den:Int)+q.num*(p.den:Int)).natAbs<10^(2*K+1+1+1):=Nat.lt_of_le_of_lt (Int.natAbs_add_le _ _) (add_lt10 hn1 hn2)
 have hd:p.den*q.den<10^(2*K+1+1+1):=Nat.lt_of_lt_of_le (oM hp.2 hq.2) (Nat.pow_le_pow_right (by omega) (by omega))
 have s1:=sF hp (by omega)
 have s2:=sF hq (by omega)
 have hf:=fracW (by omega) hn hd (Nat.mul_pos p.den_pos q.den_pos)
 rw [← Rat.add_def'] at hf
 have w1:=xW s1.1 s1.2
 have w2:=xW s2.1 s2.2
 have t1:=timesZP (a:=p.num) (b:=q.den) (gC hp.1 (by omega)) (gC hq.2 (by omega))
 have t2:=timesZP (a:=q.num) (b:=p.den) (gC hq.1 (by omega)) (gC hp.2 (by omega))
 have t3:=timesPP (gC hp.2 (by omega)) (gC hq.2 (by omega))
 have t4:=plusZ (gC hn1 (by omega)) (gC hn2 (by omega))
 generalize writeB p=s at *
 generalize writeB q=u at *
 cases b1 <;> cases b2 <;> first|cases hb|skip
 all_goals
  refine jT Tryz.func103 fun w00=>?_
  refine jB 155 [rS s] q1 Tryz.call155 ?_
  refine jB 155 [rS u] q2 Tryz.call155 ?_
  refine jB 153 [rS s] w1 Tryz.call153 ?_
  refine jB 153 [rS u] w2 Tryz.call153 ?_
  refine jB 159 [iz p.num,pz q.den] t1 Tryz.call159 ?_
  refine jB 159 [iz q.num,pz p.den] t2 Tryz.call159 ?_
  refine jB 158 [iz (p.num*(q.den:Int)),iz (q.num*(p.den:Int))] t4 Tryz.call158 ?_
  refine jB 159 [pz p.den,pz q.den] t3 Tryz.call159 ?_
  refine jB 157 [iz (p.num*(q.den:Int)+q.num*(p.den:Int)),pz (p.den*q.den)] hf Tryz.call157 ?_
  exact jS Tryz.func103
end
end Go.Proofs.YtejbgingjeedaaaGreatDoor.Ab
namespace Go.Proofs.YtejbgingjeedaaaGreatDoor
open Go.RowKit Pl
theorem aAb (b:ByteArray):(⟨#[]⟩:ByteArray)++b=b:=Ab.ba_ext (by simp)
set_option maxHeartbeats 2000000 in
set_option maxRecDepth 100000 in
theorem of_pos (a d:Nat) (w:World) (ha:a≤2000000000000000000) (hd:d≤1000000000000000000) (hd0:0<d) (p q g:Nat) (hg:g=Nat.gcd a d) (hp:p=a/g) (hq:q=d/g) :
 Calls Tryz.prog 156 #[.int .i64 (a:Int),.int .i64 (d:Int)] w fun e w'=>e = .returned (.string (if q=1 then Ab.decB p else Ab.decB p++⟨#[47]⟩++Ab.decB q))∧Below w.heap.size w w':=by
 have hg0:0<g:=by rw [hg];exact Nat.gcd_pos_of_pos_right _ hd0
 have hpa:p≤a:=by rw [hp];exact Nat.div_le_self _ _
 have hqd:q≤d:=by rw [hq];exact Nat.div_le_self _ _
 have hq0:0<q:=by rw [hq,hg];exact Nat.div_pos (Nat.gcd_le_right _ hd0) (Nat.gcd_pos_of_pos_right _ hd0)
 have cg:=aH (rgcd_any a d w (by omega) (by omega))
 rw [← hg] at cg
 have c1:=aH (fun W=>oG p W (by omega))
 have c2:=aH (fun W=>oG q W (by omega))
 have s1:(Ab.decB p).size≤19:=Ab.decB_size (k:=18) (by omega)
 have s2:(Ab.decB q).size≤19:=Ab.decB_size (k:=18) (by omega)
 have T:=aH (show wrap64 ((a:Int)/(g:Int))=(p:Int)∧wrap64 ((d:Int)/(g:Int))=(q:Int) from by
  have e1:(a:Int)/(g:Int)=(p:Int):=by rw [hp];simp
  have e2:(d:Int)/(g:Int)=(q:Int):=by rw [hq];simp
  rw [e1,e2]
  exact ⟨IntWalk.wrap64_in _ ⟨by omega,by omega⟩,IntWalk.wrap64_in _ ⟨by omega,by omega⟩⟩)
 have hz0:((g:Int)==0)=false:=by simp;omega
 have hz1:¬ (g:Int)=0:=by omega
 have hz3:((g:Int) == -1)=false:=by simp
 have b1:(a:Int)≤2000000000000000000:=by omega
 have b2:(d:Int)≤1000000000000000000:=by omega
 have b3:(p:Int)≤2000000000000000000:=by omega
 have b4:(q:Int)≤1000000000000000000:=by omega
 have b5:(1:Int)≤d:=by omega
 have b6:(1:Int)≤q:=by omega
 have HQ:=aH (aI hq0 (aI s1 s2))
 obtain ⟨res,hqq⟩:∃ res,res=(if q=1 then Ab.decB p else Ab.decB p++⟨#[47]⟩++Ab.decB q):=⟨_,rfl⟩
 rw [← hqq]
 have HQQ:=aH hqq
 clear hqq
 clear hg hp hq hpa hqd hg0 hd0 ha hd hq0 s1 s2
 go_enter Tryz.func156,Tryz.ntmps156
 go_wp2_with fail
 rw [show max (a:Int) (-(a:Int))=(a:Int) by omega]
 refine (cg.out).mono ?_
 rintro e w1 ⟨rfl,hb⟩
 go_wp2
 go_quiet (fail)
 have hb2:=cI hb nq
 clear hb
 generalize w1.drewN nq=w2 at *
 rw [T.out.1,T.out.2]
 go_wp2_with fail
 rw [show max (p:Int) (-(p:Int))=(p:Int) by omega]
 refine (c1.out _).mono ?_
 rintro e w3 ⟨rfl,rfl⟩
 obtain ⟨h0,s1,s2⟩:=HQ.out
 by_cases hq1:q=1
 ·have k1:¬ (1:Int)<q:=by omega
  have hr:=aH (HQQ.out.trans (if_pos hq1))
  clear hq1 h0 HQQ
  go_wp2
  go_ret
  have E:(⟨#[]⟩:ByteArray)++Ab.decB p=res:=by rw [hr.out];rw [aAb]
  exact ⟨congrArg (fun s=>Ending.returned (Value.string s)) E,hb2⟩
 ·have k1:(1:Int)<q:=by omega
  have hr:=aH (HQQ.out.trans (if_neg hq1))
  clear hq1 h0 HQQ
  go_wp2_with fail
  refine (c2.out _).mono ?_
  rintro e w4 ⟨rfl,rfl⟩
  go_wp2
  go_ret
  have E:(⟨#[]⟩:ByteArray)++Ab.decB p++⟨#[47]⟩++Ab.decB q=res:=by rw [hr.out];rw [aAb]
  exact ⟨congrArg (fun s=>Ending.returned (Value.string s)) E,hb2⟩
set_option maxHeartbeats 2000000 in
set_option maxRecDepth 100000 in
theorem of_neg (a d:Nat) (w:World) (ha0:0<a) (ha:a≤2000000000000000000) (hd:d≤1000000000000000000) (hd0:0<d) (p q g:Nat) (hg:g=Nat.gcd a d) (hp:p=a/g) (hq:q=d/g) :
 Calls Tryz.prog 156 #[.int .i64 (-(a:Int)),.int .i64 (d:Int)] w fun e w'=>e = .returned (.string (if q=1 then (⟨#[45]⟩++Ab.decB p) else (⟨#[45]⟩++Ab.decB p)++⟨#[47]⟩++Ab.decB q))∧Below w.heap.size w w':=by
 have hg0:0<g:=by rw [hg];exact Nat.gcd_pos_of_pos_right _ hd0
 have hpa:p≤a:=by rw [hp];exact Nat.div_le_self _ _
 have hqd:q≤d:=by rw [hq];exact Nat.div_le_self _ _
 have hq0:0<q:=by rw [hq,hg];exact Nat.div_pos (Nat.gcd_le_right _ hd0) (Nat.gcd_pos_of_pos_right _ hd0)
 have hp0:0<p:=by rw [hp,hg];exact Nat.div_pos (Nat.gcd_le_left _ ha0) (Nat.gcd_pos_of_pos_left _ ha0)
 have cg:=aH (rgcd_any a d w (by omega) (by omega))
 rw [← hg] at cg
 have c1:=aH (fun W=>oG p W (by omega))
 have c2:=aH (fun W=>oG q W (by omega))
 have s1:(Ab.decB p).size≤19:=Ab.decB_size (k:=18) (by omega)
 have s2:(Ab.decB q).size≤19:=Ab.decB_size (k:=18) (by omega)
 have T:=aH (show wrap64 (-((a:Int)/(g:Int)))=(-(p:Int))∧wrap64 ((d:Int)/(g:Int))=(q:Int) from by
  have e1:(a:Int)/(g:Int)=(p:Int):=by rw [hp];simp
  have e2:(d:Int)/(g:Int)=(q:Int):=by rw [hq];simp
  rw [e1,e2]
  exact ⟨IntWalk.wrap64_in _ ⟨by omega,by omega⟩,IntWalk.wrap64_in _ ⟨by omega,by omega⟩⟩)
 have hz0:((g:Int)==0)=false:=by simp;omega
 have hz1:¬ (g:Int)=0:=by omega
 have hz3:((g:Int) == -1)=false:=by simp
 have b1:(a:Int)≤2000000000000000000:=by omega
 have b2:(d:Int)≤1000000000000000000:=by omega
 have b3:(p:Int)≤2000000000000000000:=by omega
 have b4:(q:Int)≤1000000000000000000:=by omega
 have b5:(1:Int)≤d:=by omega
 have b6:(1:Int)≤q:=by omega
 have b7:(1:Int)≤a:=by omega
 have b8:(1:Int)≤p:=by omega
 have HQ:=aH (aI hq0 (aI s1 s2))
 obtain ⟨res,hqq⟩:∃ res,res=(if q=1 then (⟨#[45]⟩++Ab.decB p) else (⟨#[45]⟩++Ab.decB p)++⟨#[47]⟩++Ab.decB q):=⟨_,rfl⟩
 rw [← hqq]
 have HQQ:=aH hqq
 clear hqq
 clear hg hp hq hpa hqd hg0 hd0 ha hd hq0 s1 s2
 go_enter Tryz.func156,Tryz.ntmps156
 go_wp2_with fail
 rw [show max (-(a:Int)) (a:Int)=(a:Int) by omega]
 refine (cg.out).mono ?_
 rintro e w1 ⟨rfl,hb⟩
 go_wp2
 go_quiet (fail)
 have hb2:=cI hb nq
 clear hb
 generalize w1.drewN nq=w2 at *
 rw [T.out.1,T.out.2]
 go_wp2_with fail
 rw [show max (-(p:Int)) (p:Int)=(p:Int) by omega]
 refine (c1.out _).mono ?_
 rintro e w3 ⟨rfl,rfl⟩
 obtain ⟨h0,s1,s2⟩:=HQ.out
 by_cases hq1:q=1
 ·have k1:¬ (1:Int)<q:=by omega
  have hr:=aH (HQQ.out.trans (if_pos hq1))
  clear hq1 h0 HQQ
  go_wp2
  go_ret
  have E:(⟨#[45]⟩:ByteArray)++Ab.decB p=res:=by rw [hr.out]
  exact ⟨congrArg (fun s=>Ending.returned (Value.string s)) E,hb2⟩
 ·have k1:(1:Int)<q:=by omega
  have hr:=aH (HQQ.out.trans (if_neg hq1))
  clear hq1 h0 HQQ
  go_wp2_with fail
  refine (c2.out _).mono ?_
  rintro e w4 ⟨rfl,rfl⟩
  go_wp2
  go_ret
  have E:(⟨#[45]⟩:ByteArray)++Ab.decB p++⟨#[47]⟩++Ab.decB q=res:=by rw [hr.out]
  exact ⟨congrArg (fun s=>Ending.returned (Value.string s)) E,hb2⟩
end Go.Proofs.YtejbgingjeedaaaGreatDoor
namespace Go.Proofs.YtejbgingjeedaaaGreatDoor.Ab
open Go.RowKit Go.Proofs.YtejbgingjeedaaaGreatDoor Pl
def zeroT:ByteArray:=⟨#[48]⟩
def oneT:ByteArray:=⟨#[49]⟩
def decF (s:ByteArray):Bool:=if s.size=0 then false else if 1<s.size∧(aC s).head?=some 48 then false else dT s
theorem decF_dec (n:Nat):decF (decB n)=true:=by
 unfold decF
 have e:aC (decB n)=Lib.decDigits n:=dA n
 rw [if_neg (by have:=sB n;omega),if_neg,uR]
 ·exact fP n
 ·rintro ⟨h1,h2⟩
  rw [e] at h2
  by_cases h0:0<n
  ·exact wT h0 h2
  ·have:n=0:=by omega
   subst this
   rw [dec0] at h1
   exact absurd h1 (by decide)
theorem iH {s:ByteArray} (h:decF s=true):s=decB (aT (aC s)):=by
 unfold decF at h
 split at h
 ·cases h
 ·split at h
  ·cases h
  ·rename_i h0 h1
   have hd:=uR.1 h
   refine ba_ext ?_
   rw [dA]
   refine (zD (aC s).length (aC s) rfl hd ?_ ?_).symm
   ·intro e;apply h0;rw [← aE,e];rfl
   ·by_cases hl:(aC s).length=1
    ·exact .inl hl
    ·right;intro e;apply h1
     refine ⟨?_,e⟩
     rw [aE] at hl
     omega
def iB (s:ByteArray):Bool:=(aC s).head?==some 45
def bE (s:ByteArray):ByteArray:=if iB s=true then s.extract 1 s.size else s
def bW (s:ByteArray):Int :=
 if decF ((bE s).extract 0 (aK (bE s)))=false∨(iB s=true∧(bE s).extract 0 (aK (bE s))=zeroT) then 1
 else if aK (bE s)<(bE s).size∧(decF ((bE s).extract (aK (bE s)+1) (bE s).size)=false∨(bE s).extract (aK (bE s)+1) (bE s).size=zeroT∨(bE s).extract (aK (bE s)+1) (bE s).size=oneT) then 1
 else if 600<aK (bE s)∨600<(bE s).size-aK (bE s)-1 then 4
 else if aK (bE s)<(bE s).size∧Nat.gcd (aT (aC ((bE s).extract 0 (aK (bE s))))) (aT (aC ((bE s).extract (aK (bE s)+1) (bE s).size)))≠1 then 1 else 0
theorem mF {n m:Nat} (h:decB n=decB m):n=m:=by rw [← fD n,h,fD]
theorem vT (s:ByteArray):s.extract 0 s.size=s:=by
 refine ba_ext ?_
 show aC (s.extract 0 s.size)=aC s
 rw [aR,List.drop_zero,List.take_of_length_le (by rw [aE];exact Nat.le_refl _)]
theorem slash_split {s:ByteArray} (h:aK s<s.size):s=s.extract 0 (aK s)++(⟨#[47]⟩++s.extract (aK s+1) s.size):=by
 refine ba_ext ?_
 show aC s=aC _
 have e1:aC (s.extract 0 (aK s)++(⟨#[47]⟩++s.extract (aK s+1) s.size))=aC (s.extract 0 (aK s))++(47::aC (s.extract (aK s+1) s.size)):=by simp [aC]
 have e2:(aC s).take s.size=aC s:=List.take_of_length_le (by rw [aE];exact Nat.le_refl _)
 rw [e1,aR,aR,List.drop_zero,e2]
 have hl:aK s<(aC s).length:=by rw [aE];exact h
 have hk:(aC s)[aK s]'hl=47:=by
  have:=List.findIdx_getElem (xs:=aC s) (p:=fun c=>c==47) (w:=hl)
  exact eq_of_beq this
 conv=>lhs;rw [← List.take_append_drop (aK s) (aC s),List.drop_eq_getElem_cons hl,hk]
theorem neg_split {s:ByteArray} (h:iB s=true):s=⟨#[45]⟩++bE s:=by
 have hh:(aC s).head?=some 45:=eq_of_beq h
 refine ba_ext ?_
 show aC s=aC _
 unfold bE
 rw [if_pos h]
 have e1:aC (⟨#[45]⟩++s.extract 1 s.size)=45::aC (s.extract 1 s.size):=by simp [aC]
 rw [e1,aR,List.take_of_length_le (by rw [aE];exact Nat.le_refl _)]
 generalize aC s=l at hh ⊢
 cases l with
 | nil=>cases hh
 | cons c r =>
   injection hh with hh
   rw [hh];rfl
theorem gE (q:Rat):iB (writeB q)=decide (q.num<0)∧bE (writeB q)=aY q:=by
 by_cases hn:q.num<0
 ·obtain ⟨f1,⟨h0,hc⟩,f3,f4,f5⟩:=iA hn
  have e:iB (writeB q)=true:=by
   unfold iB
   have h2:aC (writeB q)=45::aC (aY q):=by rw [lU hn];simp [aC]
   rw [h2];rfl
  refine ⟨by rw [e,decide_eq_true hn],?_⟩
  unfold bE
  rw [if_pos e,f3]
 ·have e:iB (writeB q)=false:=by
   unfold iB
   obtain ⟨c,r,h1,h2⟩:=tL q
   have h3:aC (aY q)=c::r:=h1
   rw [eB hn,h3]
   show (some c==some 45)=false
   rw [beq_eq_false_iff_ne]
   intro h
   injection h with h
   rw [h] at h2
   exact absurd h2 (by decide)
  refine ⟨by rw [e,decide_eq_false hn],?_⟩
  unfold bE
  rw [if_neg (by rw [e];exact Bool.false_ne_true),eB hn]
theorem sG (q:Rat):(aY q).extract 0 (aK (aY q))=decB q.num.natAbs∧(q.den≠1→(aY q).extract (aK (aY q)+1) (aY q).size=decB q.den)∧(aK (aY q)<(aY q).size↔q.den≠1):=by
 have hsl:=nC q
 have hsz:=oL q
 refine ⟨?_,fun hd=>?_,?_⟩
 ·rw [hsl]
  by_cases h:q.den=1
  ·rw [mE h,cH,vT]
  ·rw [oK h,cH,ext_lo]
 ·rw [hsl,oK hd,cH]
  exact ext_hi _ _
 ·rw [hsl,hsz]
  by_cases h:q.den=1
  ·rw [if_pos h];simp [h]
  ·rw [if_neg h];simp [h];omega
theorem gcd_of (q:Rat):Nat.gcd q.num.natAbs q.den=1:=q.reduced
theorem uU {q:Rat} (h1:(decB q.num.natAbs).size≤600) (h2:(decB q.den).size≤600):bW (writeB q)=0:=by
 obtain ⟨s1,s2⟩:=gE q
 obtain ⟨c1,c2,c3⟩:=sG q
 have hsl:=nC q
 have hsz:=oL q
 unfold bW
 rw [s2,s1,c1]
 rw [if_neg,if_neg,if_neg,if_neg]
 ·rintro ⟨k,e⟩
  have hd:=c3.1 k
  rw [c2 hd,fD,fD] at e
  exact e (gcd_of q)
 ·rw [hsl,hsz]
  by_cases h:q.den=1
  ·rw [if_pos h];omega
  ·rw [if_neg h];omega
 ·rintro ⟨k,e⟩
  have hd:=c3.1 k
  rw [c2 hd] at e
  rcases e with e|e|e
  ·rw [decF_dec] at e;cases e
  ·have:=mF (e.trans dec0.symm)
   exact q.den_nz this
  ·exact hd (mF (e.trans dec1.symm))
 ·rintro (e|⟨e1,e2⟩)
  ·rw [decF_dec] at e;cases e
  ·have:=mF (e2.trans dec0.symm)
   have:=of_decide_eq_true e1
   omega
theorem qO {s:ByteArray} (h:bW s=0):∃ q:Rat,s=writeB q∧(decB q.num.natAbs).size≤600∧(decB q.den).size≤600:=by
 unfold bW at h
 split at h
 ·exact absurd h (by decide)
 rename_i g1
 split at h
 ·exact absurd h (by decide)
 rename_i g2
 split at h
 ·exact absurd h (by decide)
 rename_i g3
 split at h
 ·exact absurd h (by decide)
 rename_i g4
 clear h
 obtain ⟨t,ht⟩:∃ t,t=bE s:=⟨_,rfl⟩
 rw [← ht] at g1 g2 g3 g4
 obtain ⟨k,hk⟩:∃ k,k=aK t:=⟨_,rfl⟩
 rw [← hk] at g1 g2 g3 g4
 have ha:decF (t.extract 0 k)=true:=by
  cases e:decF (t.extract 0 k) with
  | true=>rfl
  | false=>exact absurd (.inl e) g1
 have hz:iB s=true→t.extract 0 k≠zeroT:=fun e1 e2=>g1 (.inr ⟨e1,e2⟩)
 have hae:=iH ha
 obtain ⟨n,hn⟩:∃ n,n=aT (aC (t.extract 0 k)):=⟨_,rfl⟩
 rw [← hn] at hae g4
 have hkl:k≤t.size:=by rw [hk];exact cG t
 have hasz:(decB n).size=k:=by rw [← hae,ByteArray.size_extract];omega
 have hn0:iB s=true→n≠0:=by
  intro e1 e2
  apply hz e1
  rw [hae,e2,dec0];rfl
 obtain ⟨z,hz1,hz2⟩:∃ z:Int,z.natAbs=n∧decide (z<0)=iB s:=by
  cases e:iB s with
  | true=>exact ⟨-(n:Int),by simp,by have:=hn0 e;rw [decide_eq_true_iff];omega⟩
  | false=>exact ⟨(n:Int),by simp,by rw [decide_eq_false_iff_not];omega⟩
 have fin:∀ q:Rat,q.num=z→aY q=t→s=writeB q:=by
  intro q e1 e2
  by_cases hneg:iB s=true
  ·have:q.num<0:=by rw [e1];exact of_decide_eq_true (hz2.trans hneg)
   rw [lU this,e2,ht]
   exact neg_split hneg
  ·have h0:iB s=false:=by cases e:iB s with
    | true=>exact absurd e hneg
    | false=>rfl
   have:¬ q.num<0:=by rw [e1];exact of_decide_eq_false (hz2.trans h0)
   rw [eB this,e2,ht]
   unfold bE
   rw [if_neg hneg]
 by_cases hlt:k<t.size
 ·have hd:decF (t.extract (k+1) t.size)=true:=by
   cases e:decF (t.extract (k+1) t.size) with
   | true=>rfl
   | false=>exact absurd ⟨hlt,.inl e⟩ g2
  have hde:=iH hd
  obtain ⟨m,hm⟩:∃ m,m=aT (aC (t.extract (k+1) t.size)):=⟨_,rfl⟩
  rw [← hm] at hde g4
  have hm0:m≠0:=by
   intro e
   exact g2 ⟨hlt,.inr (.inl (by rw [hde,e,dec0];rfl))⟩
  have hm1:m≠1:=by
   intro e
   exact g2 ⟨hlt,.inr (.inr (by rw [hde,e,dec1];rfl))⟩
  have hg:Nat.gcd n m=1:=by
   by_cases e:Nat.gcd n m=1
   ·exact e
   ·exact absurd ⟨hlt,e⟩ g4
  obtain ⟨p1,p2⟩:=sE z hm0
  rw [hz1,hg] at p1 p2
  have q1:(mkRat z m).num=z:=by rw [p1];simp
  have q2:(mkRat z m).den=m:=by rw [p2];simp
  refine ⟨mkRat z m,fin _ q1 ?_,by rw [q1,hz1,hasz];omega,?_⟩
  ·rw [oK (by rw [q2];exact hm1),cH,q1,hz1,q2,← hae,← hde,hk]
   exact (slash_split (hk▸hlt)).symm
  ·rw [q2,← hde,ByteArray.size_extract];omega
 ·have hkt:k=t.size:=by omega
  have q1:((z:Int):Rat).num=z:=rfl
  have q2:((z:Int):Rat).den=1:=rfl
  refine ⟨(z:Rat),fin _ q1 ?_,by rw [q1,hz1,hasz];omega,by rw [q2,dec1];decide⟩
  rw [mE q2,cH,q1,hz1,← hae,hkt,vT]
theorem sH {o:Oper} {ρ:Operand→Value} {w:World} {x y:Operand} {a b:Int} (ho:o.op = .binOp .mul 3 x y 3) (hx:ρ x = .int .i64 a) (hy:ρ y = .int .i64 b) (h:-9223372036854775808≤a*b∧a*b≤9223372036854775807) :
 (execOp ρ o).run Tryz.prog w = .ok (.value (.int .i64 (a*b))) w:=by
 simp only [execOp,ho,hx,hy]
 refine bJ ?_
 have e:IntKind.i64.wrap (a*b)=a*b:=by rw [IntWalk.i64_left,IntWalk.wrap64_in _ h]
 simp [go_sem,e]
theorem addi_run {o:Oper} {ρ:Operand→Value} {w:World} {x y:Operand} {a b:Int} (ho:o.op = .binOp .add 3 x y 3) (hx:ρ x = .int .i64 a) (hy:ρ y = .int .i64 b) (h:-9223372036854775808≤a+b∧a+b≤9223372036854775807) :
 (execOp ρ o).run Tryz.prog w = .ok (.value (.int .i64 (a+b))) w:=by
 simp only [execOp,ho,hx,hy]
 refine bJ ?_
 have e:IntKind.i64.wrap (a+b)=a+b:=by rw [IntWalk.i64_left,IntWalk.wrap64_in _ h]
 simp [go_sem,e]
theorem nD {n k:Nat} (h:(decB n).size≤k):n<10^k:=by
 have:=gJ (fP n)
 rw [fD,aE] at this
 exact Nat.lt_of_lt_of_le this (Nat.pow_le_pow_right (by omega) h)
abbrev qy (q:Rat):AV Kr := .tup [.sc (.sp (iM (.int .i64 q.num) rfl false (fun h=>by cases h))),.sc (.sp (iM (.int .i64 (q.den:Int)) rfl false (fun h=>by cases h))),.sc (.lit (.bool true))]
theorem sI {q:Rat} {β:List Nat} {v:Value} {w:World} (h:(qy q).holds β v w):(qany true).holds β v w:=by
 obtain ⟨vs,rfl,a,r,rfl,h1,b,r2,rfl,h2,c,r3,rfl,h3,h4⟩:=h
 exact ⟨_,rfl,a,_,rfl,⟨q.num,h1⟩,b,_,rfl,⟨(q.den:Int),h2⟩,c,_,rfl,h3,h4⟩
theorem to_qy1 {q:Rat} {n:Int} (hn:n=q.num) (hd:q.den=1) {β:List Nat} {v:Value} {w:World} (h:(AV.tup [.sc (.sp (iM (.int .i64 n) rfl false (fun h=>by cases h))),.sc (.lit (.int .i64 1)),.sc (.lit (.bool true))]:AV Kr).holds β v w):(qy q).holds β v w:=by
 subst hn
 obtain ⟨vs,rfl,a,r,rfl,h1,b,r2,rfl,h2,c,r3,rfl,h3,h4⟩:=h
 have e:[b] = [.int .i64 1]:=h2.1
 exact ⟨_,rfl,a,_,rfl,h1,b,_,rfl,(by show [b] = [Value.int .i64 (q.den:Int)];rw [hd];exact e),c,_,rfl,h3,h4⟩
theorem to_qy2 {q:Rat} {n:Int} {d:Nat} (hn:n=q.num) (hd:d=q.den) {β:List Nat} {v:Value} {w:World} (h:(AV.tup [.sc (.sp (iM (.int .i64 n) rfl false (fun h=>by cases h))),.sc (.sp (iM (.int .i64 (d:Int)) rfl false (fun h=>by cases h))),.sc (.lit (.bool true))]:AV Kr).holds β v w):(qy q).holds β v w:=by
 subst hn
 subst hd
 exact h
theorem iN {q:Rat} (hq:Sq q):Fits Tryz.prog 155 [rS (writeB q)] (qy q):=by
 have hbs:=oL q
 have hsl:=nC q
 obtain ⟨k1,k2,k3⟩:=sG q
 have n9:=nD hq.1
 have hs9:=hq.1
 have h100:(10:Nat)^9=1000000000:=by decide
 have v1:=valueF (d:=decB q.num.natAbs) (n:=q.num.natAbs) (fP _) (by omega) (fD _)
 by_cases hn:q.num<0
 ·obtain ⟨f1,f2,f3,f4,f5⟩:=iA hn
  have e1:-(q.num.natAbs:Int)=q.num:=by omega
  by_cases hd:q.den=1
  ·rw [if_pos hd] at hbs
   refine mD (quick_yes1n (u:=aY q) (d1:=decB q.num.natAbs) (n1:=q.num.natAbs) ?_ ?_ f1 f2 f3 f4 (by omega) ?_ ?_ k1 v1 ?_) (fun β v w h=>to_qy1 e1 hd h)
   ·rw [decide_eq_false_iff_not];omega
   ·rw [decide_eq_true_iff];omega
   ·rw [hsl,decide_eq_false_iff_not];omega
   ·rw [hsl,decide_eq_false_iff_not];omega
   ·rw [hsl,decide_eq_false_iff_not];omega
  ·rw [if_neg hd] at hbs
   have hd9:(decB q.den).size≤9:=by rcases hq.2 with h|h;exact absurd h hd;exact h
   have v2:=valueF (d:=decB q.den) (n:=q.den) (fP _) (by omega) (fD _)
   refine mD (quick_yes2n (u:=aY q) (d1:=decB q.num.natAbs) (d2:=decB q.den) (n1:=q.num.natAbs) (n2:=q.den) ?_ ?_ f1 f2 f3 f4 (by omega) ?_ ?_ k1 v1 ?_ (k2 hd) v2) (fun β v w h=>to_qy2 e1 rfl h)
   ·rw [decide_eq_false_iff_not];omega
   ·rw [decide_eq_true_iff];omega
   ·rw [hsl,decide_eq_false_iff_not];omega
   ·rw [hsl,decide_eq_false_iff_not];omega
   ·rw [hsl,decide_eq_true_iff];omega
 ·have hw:=eB hn
  obtain ⟨c,c1,c2⟩:=tU q
  have h0:0<(aY q).size:=c1.1
  have e1:(q.num.natAbs:Int)=q.num:=by omega
  rw [hw]
  by_cases hd:q.den=1
  ·rw [if_pos hd] at hbs
   refine mD (quick_yes1p (s:=aY q) (d1:=decB q.num.natAbs) (n1:=q.num.natAbs) ?_ ?_ c1 c2 ?_ ?_ k1 v1 ?_) (fun β v w h=>to_qy1 e1 hd h)
   ·rw [decide_eq_false_iff_not];omega
   ·rw [decide_eq_true_iff];omega
   ·rw [hsl,decide_eq_false_iff_not];omega
   ·rw [hsl,decide_eq_false_iff_not];omega
   ·rw [hsl,decide_eq_false_iff_not];omega
  ·rw [if_neg hd] at hbs
   have hd9:(decB q.den).size≤9:=by rcases hq.2 with h|h;exact absurd h hd;exact h
   have v2:=valueF (d:=decB q.den) (n:=q.den) (fP _) (by omega) (fD _)
   refine mD (quick_yes2p (s:=aY q) (d1:=decB q.num.natAbs) (d2:=decB q.den) (n1:=q.num.natAbs) (n2:=q.den) ?_ ?_ c1 c2 ?_ ?_ k1 v1 ?_ (k2 hd) v2) (fun β v w h=>to_qy2 e1 rfl h)
   ·rw [decide_eq_false_iff_not];omega
   ·rw [decide_eq_true_iff];omega
   ·rw [hsl,decide_eq_false_iff_not];omega
   ·rw [hsl,decide_eq_false_iff_not];omega
   ·rw [hsl,decide_eq_true_iff];omega
theorem ofF {n:Int} {d:Nat} (hn:n.natAbs≤2000000000000000000) (hd:d≤1000000000000000000) (h0:0<d):Fits Tryz.prog 156 [rI n,rI (d:Int)] (rS (writeB (mkRat n d))):=by
 intro β w vs hv
 obtain ⟨v,u,rfl,h1,h2⟩:=eG hv
 rw [aZ h1,aZ h2]
 have hw:=qN n h0
 by_cases hneg:n<0
 ·have e:n = -(n.natAbs:Int):=by omega
  have h:=of_neg n.natAbs d w (by omega) hn hd h0 _ _ _ rfl rfl rfl
  have hp0:0<n.natAbs/Nat.gcd n.natAbs d:=Nat.div_pos (Nat.gcd_le_left _ (by omega)) (Nat.gcd_pos_of_pos_right _ h0)
  have et:aQ (gZ (decide (n<0)) (n.natAbs/Nat.gcd n.natAbs d))=⟨#[45]⟩++decB (n.natAbs/Nat.gcd n.natAbs d):=by
   rw [decide_eq_true hneg]
   generalize n.natAbs/Nat.gcd n.natAbs d=m at hp0
   show aQ (-(m:Int))=_
   unfold aQ
   rw [if_pos (by omega)]
   simp
  rw [et,cH] at hw
  rw [← e,hw] at h
  exact h.mono fun e w' ⟨e1,e2⟩=>⟨_,e1,e2,cN⟩
 ·have e:n=(n.natAbs:Int):=by omega
  have h:=of_pos n.natAbs d w hn hd h0 _ _ _ rfl rfl rfl
  have et:aQ (gZ (decide (n<0)) (n.natAbs/Nat.gcd n.natAbs d))=decB (n.natAbs/Nat.gcd n.natAbs d):=by
   rw [decide_eq_false hneg]
   exact cH _
  rw [et,cH] at hw
  rw [← e,hw] at h
  exact h.mono fun e w' ⟨e1,e2⟩=>⟨_,e1,e2,cN⟩
section
variable {p q:Rat}
theorem sq_lt (h:Sq q):q.num.natAbs<1000000000∧q.den<1000000000:=by
 have h100:(10:Nat)^9=1000000000:=by decide
 refine ⟨by rw [← h100];exact nD h.1,?_⟩
 rcases h.2 with h|h
 ·omega
 ·rw [← h100];exact nD h
theorem qP {a b:Nat} (ha:a<1000000000) (hb:b<1000000000):a*b<1000000000000000000:=Nat.mul_lt_mul'' ha hb
theorem qQ {a b:Int} (ha:a.natAbs<1000000000) (hb:b.natAbs<1000000000):(a*b).natAbs<1000000000000000000:=by rw [Int.natAbs_mul];exact qP ha hb
theorem mulS (hp:Sq p) (hq:Sq q):Fits Tryz.prog 106 [rS (writeB p),rS (writeB q)] (rS (writeB (p*q))):=by
 obtain ⟨a1,a2⟩:=sq_lt hp
 obtain ⟨b1,b2⟩:=sq_lt hq
 have m1:=qQ a1 b1
 have m2:=qP a2 b2
 have hof:=ofF (n:=p.num*q.num) (d:=p.den*q.den) (by omega) (by omega) (Nat.mul_pos p.den_pos q.den_pos)
 rw [← Rat.mul_def',Int.natCast_mul] at hof
 have m3:((p.den:Int)*(q.den:Int))<1000000000000000000:=by rw [← Int.natCast_mul];omega
 have m4:0≤((p.den:Int)*(q.den:Int)):=by rw [← Int.natCast_mul];omega
 have q1:=iN hp
 have q2:=iN hq
 generalize writeB p=s at *
 generalize writeB q=u at *
 refine jT Tryz.func106 fun w00=>?_
 refine jB 155 [rS s] q1 Tryz.call155 ?_
 refine jB 155 [rS u] q2 Tryz.call155 ?_
 refine bD (.binOp .mul 3 (.tmp 31) (.tmp 32) 3) (.tmp 31) (.tmp 32) (rI p.num) (rI q.num) (rI (p.num*q.num)) (by kernel_rfl) (by simp [Op.operands]) (by simp [Op.operands]) (fun ρ o β w ho hx hy=>⟨_,sH ho (aZ hx) (aZ hy) (by omega),cN⟩) ?_
 refine bD (.binOp .mul 3 (.tmp 34) (.tmp 35) 3) (.tmp 34) (.tmp 35) (rI (p.den:Int)) (rI (q.den:Int)) (rI ((p.den:Int)*(q.den:Int))) (by kernel_rfl) (by simp [Op.operands]) (by simp [Op.operands]) (fun ρ o β w ho hx hy=>⟨_,sH ho (aZ hx) (aZ hy) (by omega),cN⟩) ?_
 refine jB 156 [rI (p.num*q.num),rI ((p.den:Int)*(q.den:Int))] hof Tryz.call156 ?_
 exact jS Tryz.func106
theorem addS (hp:Sq p) (hq:Sq q):Fits Tryz.prog 103 [rS (writeB p),rS (writeB q)] (rS (writeB (p+q))):=by
 obtain ⟨a1,a2⟩:=sq_lt hp
 obtain ⟨b1,b2⟩:=sq_lt hq
 have m1:(p.num*(q.den:Int)).natAbs<1000000000000000000:=qQ a1 (by omega)
 have m5:(q.num*(p.den:Int)).natAbs<1000000000000000000:=qQ b1 (by omega)
 have m2:=qP a2 b2
 have hof:=ofF (n:=p.num*(q.den:Int)+q.num*(p.den:Int)) (d:=p.den*q.den) (by omega) (by omega) (Nat.mul_pos p.den_pos q.den_pos)
 rw [← Rat.add_def',Int.natCast_mul] at hof
 have m3:((p.den:Int)*(q.den:Int))<1000000000000000000:=by rw [← Int.natCast_mul];omega
 have m4:0≤((p.den:Int)*(q.den:Int)):=by rw [← Int.natCast_mul];omega
 have q1:=iN hp
 have q2:=iN hq
 generalize writeB p=s at *
 generalize writeB q=u at *
 refine jT Tryz.func103 fun w00=>?_
 refine jB 155 [rS s] q1 Tryz.call155 ?_
 refine jB 155 [rS u] q2 Tryz.call155 ?_
 refine bD (.binOp .mul 3 (.tmp 31) (.tmp 32) 3) (.tmp 31) (.tmp 32) (rI p.num) (rI (q.den:Int)) (rI (p.num*(q.den:Int))) (by kernel_rfl) (by simp [Op.operands]) (by simp [Op.operands]) (fun ρ o β w ho hx hy=>⟨_,sH ho (aZ hx) (aZ hy) (by omega),cN⟩) ?_
 refine bD (.binOp .mul 3 (.tmp 34) (.tmp 35) 3) (.tmp 34) (.tmp 35) (rI q.num) (rI (p.den:Int)) (rI (q.num*(p.den:Int))) (by kernel_rfl) (by simp [Op.operands]) (by simp [Op.operands]) (fun ρ o β w ho hx hy=>⟨_,sH ho (aZ hx) (aZ hy) (by omega),cN⟩) ?_
 refine bD (.binOp .add 3 (.tmp 33) (.tmp 36) 3) (.tmp 33) (.tmp 36) (rI (p.num*(q.den:Int))) (rI (q.num*(p.den:Int))) (rI (p.num*(q.den:Int)+q.num*(p.den:Int))) (by kernel_rfl) (by simp [Op.operands]) (by simp [Op.operands]) (fun ρ o β w ho hx hy=>⟨_,addi_run ho (aZ hx) (aZ hy) (by omega),cN⟩) ?_
 refine bD (.binOp .mul 3 (.tmp 38) (.tmp 39) 3) (.tmp 38) (.tmp 39) (rI (p.den:Int)) (rI (q.den:Int)) (rI ((p.den:Int)*(q.den:Int))) (by kernel_rfl) (by simp [Op.operands]) (by simp [Op.operands]) (fun ρ o β w ho hx hy=>⟨_,sH ho (aZ hx) (aZ hy) (by omega),cN⟩) ?_
 refine jB 156 [rI (p.num*(q.den:Int)+q.num*(p.den:Int)),rI ((p.den:Int)*(q.den:Int))] hof Tryz.call156 ?_
 exact jS Tryz.func103
theorem kK (hp:Zs 10000 p) (hq:Zs 10000 q):Fits Tryz.prog 106 [rS (writeB p),rS (writeB q)] (rS (writeB (p*q))):=by
 by_cases h1:Sq p
 ·by_cases h2:Sq q
  ·exact mulS h1 h2
  ·exact mulBig hp hq (mD (iN h1) fun _ _ _=>sI) (mD (kI h2) fun _ _ _=>kJ) rfl
 ·by_cases h2:Sq q
  ·exact mulBig hp hq (mD (kI h1) fun _ _ _=>kJ) (mD (iN h2) fun _ _ _=>sI) rfl
  ·exact mulBig hp hq (mD (kI h1) fun _ _ _=>kJ) (mD (kI h2) fun _ _ _=>kJ) rfl
theorem pC (hp:Zs 10000 p) (hq:Zs 10000 q):Fits Tryz.prog 103 [rS (writeB p),rS (writeB q)] (rS (writeB (p+q))):=by
 by_cases h1:Sq p
 ·by_cases h2:Sq q
  ·exact addS h1 h2
  ·exact addBig hp hq (mD (iN h1) fun _ _ _=>sI) (mD (kI h2) fun _ _ _=>kJ) rfl
 ·by_cases h2:Sq q
  ·exact addBig hp hq (mD (kI h1) fun _ _ _=>kJ) (mD (iN h2) fun _ _ _=>sI) rfl
  ·exact addBig hp hq (mD (kI h1) fun _ _ _=>kJ) (mD (kI h2) fun _ _ _=>kJ) rfl
end
theorem sJ {o:Oper} {ρ:Operand→Value} {w:World} {x y:Operand} {a:Nat} (ho:o.op = .binOp .sub 3 x y 3) (hx:ρ x = .int .i64 (a:Int)) (hy:ρ y = .int .i64 1) (ha:a≤9223372036854775807) :
 (execOp ρ o).run Tryz.prog w = .ok (.value (.int .i64 ((a:Int)-1))) w:=by
 simp only [execOp,ho,hx,hy]
 refine bJ ?_
 have e:IntKind.i64.wrap ((a:Int)-1)=(a:Int)-1:=by
  rw [IntWalk.i64_left,IntWalk.wrap64_in _ ⟨by omega,by omega⟩]
 simp [go_sem,e]
theorem pD {o:Oper} {ρ:Operand→Value} {w:World} {x y:Operand} {a b:Int} {r:Bool} (ho:o.op = .binOp .neq 3 x y 3) (hx:ρ x = .int .i64 a) (hy:ρ y = .int .i64 b) (h:(a != b)=r) :
 (execOp ρ o).run Tryz.prog w = .ok (.value (.bool r)) w:=by
 simp only [execOp,ho,hx,hy]
 refine bJ ?_
 rw [← h]
 exact bT (by kernel_rfl) w
section
variable {s t a d:ByteArray} {c k n m g:Nat}
theorem check_empty (h0:decide ((0:Int)<(s.size:Nat))=false) (hsl:Fits Tryz.prog 151 [rS s] (rI (0:Int))) (ha:s.extract 0 0=a) (fa:Fits Tryz.prog 152 [rS a] (rl false)):Fits Tryz.prog 102 [rS s] (.fv (.sc (.lit (.int .i64 1)))):=by
 refine jT Tryz.func102 fun w00=>?_
 refine dU 9 9 Tryz.underlying9 s ?_
 refine iY 10 0 (s.size:Nat) false h0 ?_
 refine jB 151 [rS s] hsl Tryz.call151 ?_
 refine bD (.slice 9 (.tmp 21) none (some (.tmp 22)) none) (.tmp 21) (.tmp 22) (rS s) (rI (0:Int)) (rS a) (by kernel_rfl) (by simp [Op.operands]) (by simp [Op.operands]) (fun ρ o β w ho hx hy=>?_) ?_
 ·have:=oI (k:=0) (w:=w) ho Tryz.underlying9 (aZ hx) (aZ hy) (Nat.zero_le _)
  rw [ha] at this
  exact ⟨_,this,cN⟩
 refine jB 152 [rS a] fa Tryz.call152 ?_
 exact jS Tryz.func102
end
end Go.Proofs.YtejbgingjeedaaaGreatDoor.Ab
namespace Go.Proofs.YtejbgingjeedaaaGreatDoor
open Go.RowKit Pl
set_option maxHeartbeats 1000000 in
theorem decForm_any (s:ByteArray) (w:World) (hs:s.size≤9223372036854775807):Calls Tryz.prog 152 #[.string s] w fun e w'=>e = .returned (.bool (Ab.decF s))∧w'=w:=by
 have cd:=aH (fun W=>digits_any s W hs)
 by_cases h0:s.size=0
 ·have hr:Ab.decF s=false:=by unfold Ab.decF;rw [if_pos h0]
  have k0:(s.size:Int)=0:=by omega
  rw [hr]
  clear hr h0 cd
  go_enter Tryz.func152,Tryz.ntmps152
  go_wp2
  go_ret
  exact ⟨rfl,rfl⟩
 ·have hp:0<s.size:=by omega
  obtain ⟨c,hc⟩:∃ c:Nat,(s[0]'hp).toNat=c:=⟨_,rfl⟩
  have hh:(aC s).head?=some 48↔c=48:=by
   have h1:=cM hp
   rw [List.head?_eq_getElem?,h1,← hc]
   constructor
   ·intro h;injection h with h;rw [h];rfl
   ·intro h;congr 1;exact UInt8.toNat_inj.1 h
  have k0:((s.size:Int)==0)=false:=by rw [beq_eq_false_iff_ne];omega
  have p0:(0:Int)<s.size:=by omega
  obtain ⟨r,hr⟩:∃ r,r=Ab.decF s:=⟨_,rfl⟩
  rw [← hr]
  unfold Ab.decF at hr
  rw [if_neg h0] at hr
  by_cases h1:1<s.size
  ·have k1:(1:Int)<s.size:=by omega
   by_cases h48:c=48
   ·rw [if_pos ⟨h1,hh.2 h48⟩] at hr
    subst h48
    have HR:=aH hr
    clear hr hh h1 h0 cd
    go_enter Tryz.func152,Tryz.ntmps152
    go_wp2
    go_ret
    exact ⟨by rw [HR.out];rfl,rfl⟩
   ·rw [if_neg (fun h=>h48 (hh.1 h.2))] at hr
    have k2:((c:Int)==48)=false:=by simp;omega
    have k3:¬ (c:Int)=48:=by omega
    have HR:=aH hr
    clear hr hh h1 h0 h48
    go_enter Tryz.func152,Tryz.ntmps152
    go_wp2_with fail
    refine (cd.out _).mono ?_
    rintro e w' ⟨rfl,rfl⟩
    go_wp2
    go_ret
    exact ⟨by rw [HR.out];rfl,rfl⟩
  ·rw [if_neg (fun h=>h1 h.1)] at hr
   have k1:¬ (1:Int)<s.size:=by omega
   have HR:=aH hr
   clear hr hh h1 h0
   go_enter Tryz.func152,Tryz.ntmps152
   go_wp2_with fail
   refine (cd.out _).mono ?_
   rintro e w' ⟨rfl,rfl⟩
   go_wp2
   go_ret
   exact ⟨by rw [HR.out];rfl,rfl⟩
end Go.Proofs.YtejbgingjeedaaaGreatDoor
namespace Go.Proofs.YtejbgingjeedaaaGreatDoor.Ab
open Go.RowKit Go.Proofs.YtejbgingjeedaaaGreatDoor Pl
theorem oN {s:ByteArray} (hs:s.size≤9223372036854775807):Fits Tryz.prog 152 [rS s] (rl (decF s)):=by
 intro β w vs hv
 obtain ⟨v,rfl,h1⟩:=dE hv
 rw [aZ h1]
 exact (decForm_any s w hs).mono fun e w' ⟨e1,e2⟩=>⟨_,e1,by rw [e2];exact Below.refl _ _,fC rfl⟩
theorem lit_I {z:Int} (β:List Nat) (v:Value) (w:World) (h:(AV.fv (.sc (.lit (.int .i64 z))):AV Kr).holds β v w):(rI z).holds β v w:=h.1
theorem dZ {a b:ByteArray} (h:a≠b):(a.toList==b.toList)=false:=by
 rw [beq_eq_false_iff_ne]
 intro e
 apply h
 rw [Go.ByteArray.toList_eq,Go.ByteArray.toList_eq] at e
 exact ba_ext e
theorem neg_head {s:ByteArray} (h:iB s=true):∃ h:0<s.size,(s[0]'h).toNat=45:=by
 have hh:(aC s).head?=some 45:=eq_of_beq h
 have hp:0<s.size:=by
  rcases Nat.eq_zero_or_pos s.size with e|e
  ·rw [← aE] at e
   rw [List.eq_nil_of_length_eq_zero e] at hh
   cases hh
  ·exact e
 refine ⟨hp,?_⟩
 rw [List.head?_eq_getElem?,cM hp] at hh
 injection hh with hh
 rw [hh];rfl
theorem pos_head {s:ByteArray} (hp:0<s.size) (h:iB s=false):∃ c:Nat,(∃ h:0<s.size,(s[0]'h).toNat=c)∧((c:Int)==45)=false:=by
 refine ⟨_,⟨hp,rfl⟩,?_⟩
 have hh:¬ (aC s).head?=some 45:=by unfold iB at h;rw [beq_eq_false_iff_ne] at h;exact h
 rw [beq_eq_false_iff_ne]
 intro e
 apply hh
 rw [List.head?_eq_getElem?,cM hp]
 congr 1
 apply UInt8.toNat_inj.1
 show (s[0]'hp).toNat=45
 omega
theorem partsT {t:ByteArray} {k n m:Nat} (hts:t.size≤1000000000) (hk:aK t=k) (hlt:k<t.size) (ha:t.extract 0 k=decB n) (hd:t.extract (k+1) t.size=decB m) (hn:(decB n).size≤100000) (hm:(decB m).size≤100000) :
 Fits Tryz.prog 153 [rS t] (.tup [.ag [.lit (.bool false),.sp (pE n)],.ag [.lit (.bool false),.sp (pE m)]]):=by
 have hsl:=fE (s:=t) (by omega)
 rw [hk] at hsl
 refine jT Tryz.func153 fun w00=>?_
 refine jB 151 [rS t] hsl Tryz.call151 ?_
 refine bD (.call ⟨.builtin .len,#[.tmp 10],#[9]⟩) (.tmp 10) (.tmp 10) (rS t) (rS t) (rI t.size) (by kernel_rfl) (by simp [Op.operands,Call.operands]) (by simp [Op.operands,Call.operands]) (fun ρ o β w ho hx _=>⟨_,sC ho Tryz.underlying9 (aZ hx),cN⟩) ?_
 refine bD (.binOp .eql 3 (.tmp 9) (.tmp 11) 3) (.tmp 9) (.tmp 11) (rI (k:Int)) (rI t.size) (rl false) (by kernel_rfl) (by simp [Op.operands]) (by simp [Op.operands]) (fun ρ o β w ho hx hy=>⟨.bool false,jI ho (aZ hx) (aZ hy) (by simp;omega),fC rfl⟩) ?_
 refine bD (.slice 9 (.tmp 16) none (some (.tmp 17)) none) (.tmp 16) (.tmp 17) (rS t) (rI (k:Int)) (rS (decB n)) (by kernel_rfl) (by simp [Op.operands]) (by simp [Op.operands]) (fun ρ o β w ho hx hy=>?_) ?_
 ·have:=oI (w:=w) ho Tryz.underlying9 (aZ hx) (aZ hy) (by omega)
  rw [ha] at this
  exact ⟨_,this,cN⟩
 refine jB 208 [rS (decB n)] (parseDF hn) Tryz.call208 ?_
 refine bD (.binOp .add 3 (.tmp 21) (.const (.int .i64 1)) 3) (.tmp 21) (.const (.int .i64 1)) (rI (k:Int)) (.fv (.sc (.lit (.int .i64 1)))) (rI ((k+1:Nat):Int)) (by kernel_rfl) (by simp [Op.operands]) (by simp [Op.operands]) (fun ρ o β w ho hx hy=>⟨_,sD ho (aZ hx) (bZ hy) (by omega),cN⟩) ?_
 refine bD (.slice 9 (.tmp 20) (some (.tmp 22)) none none) (.tmp 20) (.tmp 22) (rS t) (rI ((k+1:Nat):Int)) (rS (decB m)) (by kernel_rfl) (by simp [Op.operands]) (by simp [Op.operands]) (fun ρ o β w ho hx hy=>?_) ?_
 ·have:=oJ (w:=w) ho Tryz.underlying9 (aZ hx) (aZ hy) (by omega)
  rw [hd] at this
  exact ⟨_,this,cN⟩
 refine jB 208 [rS (decB m)] (parseDF hm) Tryz.call208 ?_
 exact jS Tryz.func153
theorem fG {f:FuncId} {w00:World} {c:Cfg Kr} {fn:Func} {z:Int} (hfn:Tryz.prog.funcs[f]?=some fn) (hc:c.res Tryz.prog fn=some (.fv (.sc (.lit (.int .i64 z))))):Ok Tryz.prog f w00 (fun v w=>(rI z).holds [] v w) c :=
 ⟨good_ret hfn _ hc fun _ _ _ h=>h.1⟩
theorem check_neg {s:ByteArray} {z:Int} (hs:s.size≤9223372036854775807) (hne:0<s.size) (hn:iB s=true) (hz:bW s=z):Fits Tryz.prog 102 [rS s] (rI z):=by
 have hc:=neg_head hn
 have h1:1≤s.size:=hne
 have hsp:bE s=s.extract 1 s.size:=if_pos hn
 unfold bW at hz
 rw [hn] at hz
 obtain ⟨t,hext⟩:∃ t,s.extract 1 s.size=t:=⟨_,rfl⟩
 rw [hsp,hext] at hz
 have hts:t.size<9223372036854775807:=by rw [← hext,ByteArray.size_extract];omega
 have hsl:=fE (s:=t) (by omega)
 have hkl:=cG t
 have hks:aK t=aK t:=rfl
 generalize hk:aK t=k at hsl hkl hks hz
 obtain ⟨a,ha⟩:∃ a,t.extract 0 k=a:=⟨_,rfl⟩
 obtain ⟨d,hd⟩:∃ d,t.extract (k+1) t.size=d:=⟨_,rfl⟩
 have hasz:a.size=k:=by rw [← ha,ByteArray.size_extract];omega
 have hdsz:d.size=t.size-(k+1):=by rw [← hd,ByteArray.size_extract];omega
 rw [ha,hd] at hz
 have fa:=oN (s:=a) (by omega)
 have fd:=oN (s:=d) (by omega)
 refine jT Tryz.func102 fun w00=>?_
 refine dU 9 9 Tryz.underlying9 s ?_
 refine iY 10 0 (s.size:Nat) true (by rw [decide_eq_true_iff];omega) ?_
 refine ridn 13 s hc ?_
 refine rsl1 17 9 Tryz.underlying9 s t h1 hext ?_
 refine jB 151 [rS t] hsl Tryz.call151 ?_
 refine rshi 21 22 9 Tryz.underlying9 t k a hkl ha ?_
 by_cases c1:decF a=false
 ·rw [if_pos (.inl c1)] at hz
  subst hz
  rw [c1] at fa
  refine jB 152 [rS a] fa Tryz.call152 ?_
  exact fG Tryz.func102 (by kernel_rfl)
 rw [Bool.not_eq_false] at c1
 rw [c1] at fa
 refine jB 152 [rS a] fa Tryz.call152 ?_
 refine ridnR 27 s hc ?_
 refine rshi 31 32 9 Tryz.underlying9 t k a hkl ha ?_
 by_cases cz:a=zeroT
 ·rw [if_pos (.inr ⟨rfl,cz⟩)] at hz
  subst hz
  refine tT 33 9 a ⟨#[48]⟩ true (by rw [cz];exact beq_self_eq_true zeroT.toList) ?_
  exact fG Tryz.func102 (by kernel_rfl)
 refine tT 33 9 a ⟨#[48]⟩ false (dZ cz) ?_
 rw [if_neg (by rintro (h|h);exact absurd (h.symm.trans c1) (by decide);exact cz h.2)] at hz
 refine dU 38 9 Tryz.underlying9 t ?_
 by_cases hlt:k<t.size
 ·have fl:decide ((k:Int)<(t.size:Nat))=true:=by rw [decide_eq_true_iff];omega
  refine vF 37 39 (k:Int) (t.size:Nat) true fl ?_
  refine radd 43 k (by omega) ?_
  refine rslo 42 44 9 Tryz.underlying9 t (k+1) d (by omega) hd ?_
  by_cases d1:decF d=false
  ·rw [if_pos ⟨hlt,.inl d1⟩] at hz
   subst hz
   rw [d1] at fd
   refine jB 152 [rS d] fd Tryz.call152 ?_
   exact fG Tryz.func102 (by kernel_rfl)
  rw [Bool.not_eq_false] at d1
  rw [d1] at fd
  refine jB 152 [rS d] fd Tryz.call152 ?_
  refine radd 50 k (by omega) ?_
  refine rslo 49 51 9 Tryz.underlying9 t (k+1) d (by omega) hd ?_
  by_cases d0:d=zeroT
  ·rw [if_pos ⟨hlt,.inr (.inl d0)⟩] at hz
   subst hz
   refine tT 52 9 d ⟨#[48]⟩ true (by rw [d0];exact beq_self_eq_true zeroT.toList) ?_
   exact fG Tryz.func102 (by kernel_rfl)
  refine tT 52 9 d ⟨#[48]⟩ false (dZ d0) ?_
  refine radd 57 k (by omega) ?_
  refine rslo 56 58 9 Tryz.underlying9 t (k+1) d (by omega) hd ?_
  by_cases d2:d=oneT
  ·rw [if_pos ⟨hlt,.inr (.inr d2)⟩] at hz
   subst hz
   refine tT 59 9 d ⟨#[49]⟩ true (by rw [d2];exact beq_self_eq_true oneT.toList) ?_
   exact fG Tryz.func102 (by kernel_rfl)
  refine tT 59 9 d ⟨#[49]⟩ false (dZ d2) ?_
  rw [if_neg (by rintro ⟨_,h|h|h⟩;exact absurd (h.symm.trans d1) (by decide);exact d0 h;exact d2 h)] at hz
  by_cases l1:600<k
  ·rw [if_pos (.inl l1)] at hz
   subst hz
   refine iY 63 600 (k:Int) true (by rw [decide_eq_true_iff];omega) ?_
   exact fG Tryz.func102 (by kernel_rfl)
  refine iY 63 600 (k:Int) false (by rw [decide_eq_false_iff_not];omega) ?_
  refine dU 66 9 Tryz.underlying9 t ?_
  refine yQ 67 68 t.size k hkl (by omega) ?_
  refine bD (.binOp .sub 3 (.tmp 69) (.const (.int .i64 1)) 3) (.tmp 69) (.const (.int .i64 1)) (rI ((t.size-k:Nat):Int)) (.fv (.sc (.lit (.int .i64 1)))) (rI (((t.size-k:Nat):Int)-1)) (by kernel_rfl) (by simp [Op.operands]) (by simp [Op.operands]) (fun ρ o β w ho hx hy=>⟨_,sJ ho (aZ hx) (bZ hy) (by omega),cN⟩) ?_
  by_cases l2:600<t.size-k-1
  ·rw [if_pos (.inr l2)] at hz
   subst hz
   refine iY 70 600 (((t.size-k:Nat):Int)-1) true (by rw [decide_eq_true_iff];omega) ?_
   exact fG Tryz.func102 (by kernel_rfl)
  refine iY 70 600 (((t.size-k:Nat):Int)-1) false (by rw [decide_eq_false_iff_not];omega) ?_
  rw [if_neg (by rintro (h|h) <;> omega)] at hz
  refine dU 74 9 Tryz.underlying9 t ?_
  refine vF 73 75 (k:Int) (t.size:Nat) true fl ?_
  have hae:=iH c1
  have hde:=iH d1
  generalize aT (aC a)=n at hae hz
  generalize aT (aC d)=m at hde hz
  have hp:=partsT (t:=t) (by omega) hk hlt (ha.trans hae) (hd.trans hde) (by rw [← hae];omega) (by rw [← hde];omega)
  have hm0:0<m:=Nat.pos_of_ne_zero fun e=>d0 (by rw [hde,e,dec0];rfl)
  have hg0:0<Nat.gcd n m:=Nat.gcd_pos_of_pos_right _ hm0
  have hg:=kH (a:=n) (b:=m) (gC (nD (n:=n) (k:=600) (by rw [← hae];omega)) (by omega)) (gC (nD (n:=m) (k:=600) (by rw [← hde];omega)) (by omega))
  obtain ⟨g,hgg⟩:∃ g,Nat.gcd n m=g:=⟨_,rfl⟩
  rw [hgg] at hg hg0
  simp only [hgg] at hz
  refine jB 153 [rS t] hp Tryz.call153 ?_
  refine jB 154 [di n,di m] hg Tryz.call154 ?_
  rcases Nat.lt_or_ge g B9 with gb|gb
  ·refine bD (.call ⟨.builtin .len,#[.tmp 87],#[187]⟩) (.tmp 87) (.tmp 87) (di g) (di g) (.fv (.sc (.lit (.int .i64 1)))) (by kernel_rfl) (by simp [Op.operands,Call.operands]) (by simp [Op.operands,Call.operands]) (fun ρ o β w ho hx _=>?_) ?_
   ·obtain ⟨ad,c,e,_⟩:=iW (bA.1 hx) hg0 gb
    exact ⟨_,kT ho e,fC rfl⟩
   refine bD (.indexAddr 187 (.tmp 91) (.const (.int .i64 0))) (.tmp 91) (.const (.int .i64 0)) (di g) (.fv (.sc (.lit (.int .i64 0)))) (rP g) (by kernel_rfl) (by simp [Op.operands]) (by simp [Op.operands]) (fun ρ o β w ho hx hy=>?_) ?_
   ·obtain ⟨ad,c,e,hc⟩:=iW (bA.1 hx) hg0 gb
    exact ⟨_,mC ho e (bZ hy) (by omega),⟨ad,rfl,hc⟩⟩
   refine bD (.load 3 (.tmp 92)) (.tmp 92) (.tmp 92) (rP g) (rP g) (rI (g:Int)) (by kernel_rfl) (by simp [Op.operands]) (by simp [Op.operands]) (fun ρ o β w ho hx _=>?_) ?_
   ·obtain ⟨ad,e,hc⟩:=hx
    injection e with e
    exact ⟨_,tQ ho e hc,cN⟩
   have hne:(((g:Int) != 1) = !decide (g=1)):=by rw [Bool.eq_iff_iff];simp;omega
   by_cases g1:g=1
   ·rw [if_neg (by rintro ⟨_,h⟩;exact h g1)] at hz
    subst hz
    refine bD (.binOp .neq 3 (.tmp 93) (.const (.int .i64 1)) 3) (.tmp 93) (.const (.int .i64 1)) (rI (g:Int)) (.fv (.sc (.lit (.int .i64 1)))) (rl false) (by kernel_rfl) (by simp [Op.operands]) (by simp [Op.operands]) (fun ρ o β w ho hx hy=>⟨.bool false,pD ho (aZ hx) (bZ hy) (by rw [hne];simp [g1]),fC rfl⟩) ?_
    exact fG Tryz.func102 (by kernel_rfl)
   ·rw [if_pos ⟨hlt,g1⟩] at hz
    subst hz
    refine bD (.binOp .neq 3 (.tmp 93) (.const (.int .i64 1)) 3) (.tmp 93) (.const (.int .i64 1)) (rI (g:Int)) (.fv (.sc (.lit (.int .i64 1)))) (rl true) (by kernel_rfl) (by simp [Op.operands]) (by simp [Op.operands]) (fun ρ o β w ho hx hy=>⟨.bool true,pD ho (aZ hx) (bZ hy) (by rw [hne];simp [g1]),fC rfl⟩) ?_
    exact fG Tryz.func102 (by kernel_rfl)
  ·rw [if_pos ⟨hlt,by have:=dX;omega⟩] at hz
   subst hz
   refine bD (.call ⟨.builtin .len,#[.tmp 87],#[187]⟩) (.tmp 87) (.tmp 87) (di g) (di g) rNe (by kernel_rfl) (by simp [Op.operands,Call.operands]) (by simp [Op.operands,Call.operands]) (fun ρ o β w ho hx _=>?_) ?_
   ·obtain ⟨A,m,c,e,hm⟩:=vR (bA.1 hx) gb
    exact ⟨_,kT ho e,⟨(m:Int),rfl,by omega⟩⟩
   refine bD (.binOp .neq 3 (.tmp 88) (.const (.int .i64 1)) 3) (.tmp 88) (.const (.int .i64 1)) rNe (.fv (.sc (.lit (.int .i64 1)))) (rl true) (by kernel_rfl) (by simp [Op.operands]) (by simp [Op.operands]) (fun ρ o β w ho hx hy=>?_) ?_
   ·obtain ⟨x,e,hm⟩:=hx
    injection e with e
    exact ⟨.bool true,pD ho e (bZ hy) (by simpa using hm),fC rfl⟩
   exact fG Tryz.func102 (by kernel_rfl)
 ·have fl:decide ((k:Int)<(t.size:Nat))=false:=by rw [decide_eq_false_iff_not];omega
  refine vF 37 39 (k:Int) (t.size:Nat) false fl ?_
  rw [if_neg (fun h=>hlt h.1)] at hz
  by_cases l1:600<k
  ·rw [if_pos (.inl l1)] at hz
   subst hz
   refine iY 63 600 (k:Int) true (by rw [decide_eq_true_iff];omega) ?_
   exact fG Tryz.func102 (by kernel_rfl)
  rw [if_neg (by rintro (h|h) <;> omega),if_neg (fun h=>hlt h.1)] at hz
  subst hz
  refine iY 63 600 (k:Int) false (by rw [decide_eq_false_iff_not];omega) ?_
  refine dU 66 9 Tryz.underlying9 t ?_
  refine yQ 67 68 t.size k hkl (by omega) ?_
  refine bD (.binOp .sub 3 (.tmp 69) (.const (.int .i64 1)) 3) (.tmp 69) (.const (.int .i64 1)) (rI ((t.size-k:Nat):Int)) (.fv (.sc (.lit (.int .i64 1)))) (rI (((t.size-k:Nat):Int)-1)) (by kernel_rfl) (by simp [Op.operands]) (by simp [Op.operands]) (fun ρ o β w ho hx hy=>⟨_,sJ ho (aZ hx) (bZ hy) (by omega),cN⟩) ?_
  refine iY 70 600 (((t.size-k:Nat):Int)-1) false (by rw [decide_eq_false_iff_not];omega) ?_
  refine dU 74 9 Tryz.underlying9 t ?_
  refine vF 73 75 (k:Int) (t.size:Nat) false fl ?_
  exact fG Tryz.func102 (by kernel_rfl)
theorem check_pos {s:ByteArray} {z:Int} (hs:s.size≤9223372036854775807) (hne:0<s.size) (hn:iB s=false) (hz:bW s=z):Fits Tryz.prog 102 [rS s] (rI z):=by
 obtain ⟨c,hc,hc45⟩:=pos_head hne hn
 have hsp:bE s=s:=if_neg (by rw [hn];exact Bool.false_ne_true)
 unfold bW at hz
 rw [hn,hsp] at hz
 have hts:=hs
 have hsl:=fE (s:=s) (by omega)
 have hkl:=cG s
 have hks:aK s=aK s:=rfl
 generalize hk:aK s=k at hsl hkl hks hz
 obtain ⟨a,ha⟩:∃ a,s.extract 0 k=a:=⟨_,rfl⟩
 obtain ⟨d,hd⟩:∃ d,s.extract (k+1) s.size=d:=⟨_,rfl⟩
 have hasz:a.size=k:=by rw [← ha,ByteArray.size_extract];omega
 have hdsz:d.size=s.size-(k+1):=by rw [← hd,ByteArray.size_extract];omega
 rw [ha,hd] at hz
 have fa:=oN (s:=a) (by omega)
 have fd:=oN (s:=d) (by omega)
 refine jT Tryz.func102 fun w00=>?_
 refine dU 9 9 Tryz.underlying9 s ?_
 refine iY 10 0 (s.size:Nat) true (by rw [decide_eq_true_iff];omega) ?_
 refine ridp 13 s c hc ?_
 refine rueq 14 c hc45 ?_
 refine jB 151 [rS s] hsl Tryz.call151 ?_
 refine rshi 21 22 9 Tryz.underlying9 s k a hkl ha ?_
 by_cases c1:decF a=false
 ·rw [if_pos (.inl c1)] at hz
  subst hz
  rw [c1] at fa
  refine jB 152 [rS a] fa Tryz.call152 ?_
  exact fG Tryz.func102 (by kernel_rfl)
 rw [Bool.not_eq_false] at c1
 rw [c1] at fa
 refine jB 152 [rS a] fa Tryz.call152 ?_
 refine ridpR 27 s c hc ?_
 refine rueq 28 c hc45 ?_
 rw [if_neg (by rintro (h|h);exact absurd (h.symm.trans c1) (by decide);exact absurd h.1 (by decide))] at hz
 refine dU 38 9 Tryz.underlying9 s ?_
 by_cases hlt:k<s.size
 ·have fl:decide ((k:Int)<(s.size:Nat))=true:=by rw [decide_eq_true_iff];omega
  refine vF 37 39 (k:Int) (s.size:Nat) true fl ?_
  refine radd 43 k (by omega) ?_
  refine rslo 42 44 9 Tryz.underlying9 s (k+1) d (by omega) hd ?_
  by_cases d1:decF d=false
  ·rw [if_pos ⟨hlt,.inl d1⟩] at hz
   subst hz
   rw [d1] at fd
   refine jB 152 [rS d] fd Tryz.call152 ?_
   exact fG Tryz.func102 (by kernel_rfl)
  rw [Bool.not_eq_false] at d1
  rw [d1] at fd
  refine jB 152 [rS d] fd Tryz.call152 ?_
  refine radd 50 k (by omega) ?_
  refine rslo 49 51 9 Tryz.underlying9 s (k+1) d (by omega) hd ?_
  by_cases d0:d=zeroT
  ·rw [if_pos ⟨hlt,.inr (.inl d0)⟩] at hz
   subst hz
   refine tT 52 9 d ⟨#[48]⟩ true (by rw [d0];exact beq_self_eq_true zeroT.toList) ?_
   exact fG Tryz.func102 (by kernel_rfl)
  refine tT 52 9 d ⟨#[48]⟩ false (dZ d0) ?_
  refine radd 57 k (by omega) ?_
  refine rslo 56 58 9 Tryz.underlying9 s (k+1) d (by omega) hd ?_
  by_cases d2:d=oneT
  ·rw [if_pos ⟨hlt,.inr (.inr d2)⟩] at hz
   subst hz
   refine tT 59 9 d ⟨#[49]⟩ true (by rw [d2];exact beq_self_eq_true oneT.toList) ?_
   exact fG Tryz.func102 (by kernel_rfl)
  refine tT 59 9 d ⟨#[49]⟩ false (dZ d2) ?_
  rw [if_neg (by rintro ⟨_,h|h|h⟩;exact absurd (h.symm.trans d1) (by decide);exact d0 h;exact d2 h)] at hz
  by_cases l1:600<k
  ·rw [if_pos (.inl l1)] at hz
   subst hz
   refine iY 63 600 (k:Int) true (by rw [decide_eq_true_iff];omega) ?_
   exact fG Tryz.func102 (by kernel_rfl)
  refine iY 63 600 (k:Int) false (by rw [decide_eq_false_iff_not];omega) ?_
  refine dU 66 9 Tryz.underlying9 s ?_
  refine yQ 67 68 s.size k hkl (by omega) ?_
  refine bD (.binOp .sub 3 (.tmp 69) (.const (.int .i64 1)) 3) (.tmp 69) (.const (.int .i64 1)) (rI ((s.size-k:Nat):Int)) (.fv (.sc (.lit (.int .i64 1)))) (rI (((s.size-k:Nat):Int)-1)) (by kernel_rfl) (by simp [Op.operands]) (by simp [Op.operands]) (fun ρ o β w ho hx hy=>⟨_,sJ ho (aZ hx) (bZ hy) (by omega),cN⟩) ?_
  by_cases l2:600<s.size-k-1
  ·rw [if_pos (.inr l2)] at hz
   subst hz
   refine iY 70 600 (((s.size-k:Nat):Int)-1) true (by rw [decide_eq_true_iff];omega) ?_
   exact fG Tryz.func102 (by kernel_rfl)
  refine iY 70 600 (((s.size-k:Nat):Int)-1) false (by rw [decide_eq_false_iff_not];omega) ?_
  rw [if_neg (by rintro (h|h) <;> omega)] at hz
  refine dU 74 9 Tryz.underlying9 s ?_
  refine vF 73 75 (k:Int) (s.size:Nat) true fl ?_
  have hae:=iH c1
  have hde:=iH d1
  generalize aT (aC a)=n at hae hz
  generalize aT (aC d)=m at hde hz
  have hp:=partsT (t:=s) (by omega) hk hlt (ha.trans hae) (hd.trans hde) (by rw [← hae];omega) (by rw [← hde];omega)
  have hm0:0<m:=Nat.pos_of_ne_zero fun e=>d0 (by rw [hde,e,dec0];rfl)
  have hg0:0<Nat.gcd n m:=Nat.gcd_pos_of_pos_right _ hm0
  have hg:=kH (a:=n) (b:=m) (gC (nD (n:=n) (k:=600) (by rw [← hae];omega)) (by omega)) (gC (nD (n:=m) (k:=600) (by rw [← hde];omega)) (by omega))
  obtain ⟨g,hgg⟩:∃ g,Nat.gcd n m=g:=⟨_,rfl⟩
  rw [hgg] at hg hg0
  simp only [hgg] at hz
  refine jB 153 [rS s] hp Tryz.call153 ?_
  refine jB 154 [di n,di m] hg Tryz.call154 ?_
  rcases Nat.lt_or_ge g B9 with gb|gb
  ·refine bD (.call ⟨.builtin .len,#[.tmp 87],#[187]⟩) (.tmp 87) (.tmp 87) (di g) (di g) (.fv (.sc (.lit (.int .i64 1)))) (by kernel_rfl) (by simp [Op.operands,Call.operands]) (by simp [Op.operands,Call.operands]) (fun ρ o β w ho hx _=>?_) ?_
   ·obtain ⟨ad,c,e,_⟩:=iW (bA.1 hx) hg0 gb
    exact ⟨_,kT ho e,fC rfl⟩
   refine bD (.indexAddr 187 (.tmp 91) (.const (.int .i64 0))) (.tmp 91) (.const (.int .i64 0)) (di g) (.fv (.sc (.lit (.int .i64 0)))) (rP g) (by kernel_rfl) (by simp [Op.operands]) (by simp [Op.operands]) (fun ρ o β w ho hx hy=>?_) ?_
   ·obtain ⟨ad,c,e,hc⟩:=iW (bA.1 hx) hg0 gb
    exact ⟨_,mC ho e (bZ hy) (by omega),⟨ad,rfl,hc⟩⟩
   refine bD (.load 3 (.tmp 92)) (.tmp 92) (.tmp 92) (rP g) (rP g) (rI (g:Int)) (by kernel_rfl) (by simp [Op.operands]) (by simp [Op.operands]) (fun ρ o β w ho hx _=>?_) ?_
   ·obtain ⟨ad,e,hc⟩:=hx
    injection e with e
    exact ⟨_,tQ ho e hc,cN⟩
   have hne:(((g:Int) != 1) = !decide (g=1)):=by rw [Bool.eq_iff_iff];simp;omega
   by_cases g1:g=1
   ·rw [if_neg (by rintro ⟨_,h⟩;exact h g1)] at hz
    subst hz
    refine bD (.binOp .neq 3 (.tmp 93) (.const (.int .i64 1)) 3) (.tmp 93) (.const (.int .i64 1)) (rI (g:Int)) (.fv (.sc (.lit (.int .i64 1)))) (rl false) (by kernel_rfl) (by simp [Op.operands]) (by simp [Op.operands]) (fun ρ o β w ho hx hy=>⟨.bool false,pD ho (aZ hx) (bZ hy) (by rw [hne];simp [g1]),fC rfl⟩) ?_
    exact fG Tryz.func102 (by kernel_rfl)
   ·rw [if_pos ⟨hlt,g1⟩] at hz
    subst hz
    refine bD (.binOp .neq 3 (.tmp 93) (.const (.int .i64 1)) 3) (.tmp 93) (.const (.int .i64 1)) (rI (g:Int)) (.fv (.sc (.lit (.int .i64 1)))) (rl true) (by kernel_rfl) (by simp [Op.operands]) (by simp [Op.operands]) (fun ρ o β w ho hx hy=>⟨.bool true,pD ho (aZ hx) (bZ hy) (by rw [hne];simp [g1]),fC rfl⟩) ?_
    exact fG Tryz.func102 (by kernel_rfl)
  ·rw [if_pos ⟨hlt,by have:=dX;omega⟩] at hz
   subst hz
   refine bD (.call ⟨.builtin .len,#[.tmp 87],#[187]⟩) (.tmp 87) (.tmp 87) (di g) (di g) rNe (by kernel_rfl) (by simp [Op.operands,Call.operands]) (by simp [Op.operands,Call.operands]) (fun ρ o β w ho hx _=>?_) ?_
   ·obtain ⟨A,m,c,e,hm⟩:=vR (bA.1 hx) gb
    exact ⟨_,kT ho e,⟨(m:Int),rfl,by omega⟩⟩
   refine bD (.binOp .neq 3 (.tmp 88) (.const (.int .i64 1)) 3) (.tmp 88) (.const (.int .i64 1)) rNe (.fv (.sc (.lit (.int .i64 1)))) (rl true) (by kernel_rfl) (by simp [Op.operands]) (by simp [Op.operands]) (fun ρ o β w ho hx hy=>?_) ?_
   ·obtain ⟨x,e,hm⟩:=hx
    injection e with e
    exact ⟨.bool true,pD ho e (bZ hy) (by simpa using hm),fC rfl⟩
   exact fG Tryz.func102 (by kernel_rfl)
 ·have fl:decide ((k:Int)<(s.size:Nat))=false:=by rw [decide_eq_false_iff_not];omega
  refine vF 37 39 (k:Int) (s.size:Nat) false fl ?_
  rw [if_neg (fun h=>hlt h.1)] at hz
  by_cases l1:600<k
  ·rw [if_pos (.inl l1)] at hz
   subst hz
   refine iY 63 600 (k:Int) true (by rw [decide_eq_true_iff];omega) ?_
   exact fG Tryz.func102 (by kernel_rfl)
  rw [if_neg (by rintro (h|h) <;> omega),if_neg (fun h=>hlt h.1)] at hz
  subst hz
  refine iY 63 600 (k:Int) false (by rw [decide_eq_false_iff_not];omega) ?_
  refine dU 66 9 Tryz.underlying9 s ?_
  refine yQ 67 68 s.size k hkl (by omega) ?_
  refine bD (.binOp .sub 3 (.tmp 69) (.const (.int .i64 1)) 3) (.tmp 69) (.const (.int .i64 1)) (rI ((s.size-k:Nat):Int)) (.fv (.sc (.lit (.int .i64 1)))) (rI (((s.size-k:Nat):Int)-1)) (by kernel_rfl) (by simp [Op.operands]) (by simp [Op.operands]) (fun ρ o β w ho hx hy=>⟨_,sJ ho (aZ hx) (bZ hy) (by omega),cN⟩) ?_
  refine iY 70 600 (((s.size-k:Nat):Int)-1) false (by rw [decide_eq_false_iff_not];omega) ?_
  refine dU 74 9 Tryz.underlying9 s ?_
  refine vF 73 75 (k:Int) (s.size:Nat) false fl ?_
  exact fG Tryz.func102 (by kernel_rfl)
theorem aAc {s:ByteArray} (hs:s.size≤9223372036854775807):Fits Tryz.prog 102 [rS s] (rI (bW s)):=by
 rcases Nat.eq_zero_or_pos s.size with h0|h0
 ·have hbs:aC s = []:=List.eq_nil_of_length_eq_zero (by rw [aE];exact h0)
  have hn:iB s=false:=by unfold iB;rw [hbs];rfl
  have hst:bE s=s:=if_neg (by rw [hn];exact Bool.false_ne_true)
  have hsl:aK s=0:=by unfold aK;rw [hbs];rfl
  have hd:decF (s.extract 0 0)=false:=by unfold decF;rw [if_pos (by rw [ByteArray.size_extract];omega)]
  have e:bW s=1:=by unfold bW;rw [hst,hsl,if_pos (.inl hd)]
  rw [e]
  have h1:=fE (s:=s) (by omega)
  rw [hsl] at h1
  have h2:=oN (s:=s.extract 0 0) (by rw [ByteArray.size_extract];omega)
  rw [hd] at h2
  exact mD (check_empty (by rw [decide_eq_false_iff_not];omega) h1 rfl h2) lit_I
 ·cases e:iB s with
  | true=>exact check_neg hs h0 e rfl
  | false=>exact check_pos hs h0 e rfl
end Go.Proofs.YtejbgingjeedaaaGreatDoor.Ab
namespace Go.Proofs.YtejbgingjeedaaaGreatDoor.Ab
open Go.RowKit Go.Proofs.YtejbgingjeedaaaGreatDoor Pl
section
variable {o1 o2 o3 x1 x2 x3 y1 y2 y3 z1 z2 z3 p1 p2 p3 m1 m2 m3:Rat}
theorem uV (h:Fv o1 o2 o3 x1 x2 x3 y1 y2 y3 z1 z2 z3) (hr:kA (dt x1 x2 x3 x1 x2 x3) (dt y1 y2 y3 y1 y2 y3) (dt z1 z2 z3 z1 z2 z3)):FitsW Tryz.prog Gl 12 [gW o1 o2 o3 x1 x2 x3 y1 y2 y3 z1 z2 z3] (fX (dt x1 x2 x3 x1 x2 x3) (dt y1 y2 y3 y1 y2 y3) (dt z1 z2 z3 z1 z2 z3)):=by
 refine cA Tryz.func12 (by kernel_rfl) fun w00 hG=>?_;have hI:=aS hG
 refine jW hI 35 [gW o1 o2 o3 x1 x2 x3 y1 y2 y3 z1 z2 z3] (h.r) Tryz.call35 ?_
 refine jC 43 [kY o1 o2 o3 x1 x2 x3 y1 y2 y3 z1 z2 z3] (xK (h.w.lm.mono (by decide))) Tryz.call43 ?_
 refine jW hI 39 [vc (dt x1 x2 x3 x1 x2 x3) (dt y1 y2 y3 y1 y2 y3) (dt z1 z2 z3 z1 z2 z3)] (gX hr) Tryz.call39 ?_
 exact jR Tryz.func12
theorem apiLocalF (h:Fv o1 o2 o3 x1 x2 x3 y1 y2 y3 z1 z2 z3) (k:kA p1 p2 p3) (h0:Sq0 x1 x2 x3 y1 y2 y3 z1 z2 z3)
 (e1:dt (p1-o1) (p2-o2) (p3-o3) x1 x2 x3/dt x1 x2 x3 x1 x2 x3=m1) (e2:dt (p1-o1) (p2-o2) (p3-o3) y1 y2 y3/dt y1 y2 y3 y1 y2 y3=m2) (e3:dt (p1-o1) (p2-o2) (p3-o3) z1 z2 z3/dt z1 z2 z3 z1 z2 z3=m3) (hr:kA m1 m2 m3) :
 FitsW Tryz.prog Gl 10 [gW o1 o2 o3 x1 x2 x3 y1 y2 y3 z1 z2 z3,vS p1 p2 p3] (fX m1 m2 m3):=by
 have hl:Fits Tryz.prog 40 [kY o1 o2 o3 x1 x2 x3 y1 y2 y3 z1 z2 z3,vc p1 p2 p3] (vc m1 m2 m3):=by
  rw [← e1,← e2,← e3]
  exact localF (h.w.lm.mono (by decide)) ((vD k).mono (by decide)) ((vD h.w.o).mono (by decide)) h0
 refine cA Tryz.func10 (by kernel_rfl) fun w00 hG=>?_;have hI:=aS hG
 refine jW hI 36 [gP 35,gW o1 o2 o3 x1 x2 x3 y1 y2 y3 z1 z2 z3,gP 37,vS p1 p2 p3] (readFV h k) Tryz.call36 ?_
 refine jC 40 [kY o1 o2 o3 x1 x2 x3 y1 y2 y3 z1 z2 z3,vc p1 p2 p3] (hl) Tryz.call40 ?_
 refine jW hI 39 [vc m1 m2 m3] (gX hr) Tryz.call39 ?_
 exact jR Tryz.func10
theorem apiShiftF (h:Fv o1 o2 o3 x1 x2 x3 y1 y2 y3 z1 z2 z3) (k:kA p1 p2 p3) (hr:Wf (o1+p1) (o2+p2) (o3+p3) x1 x2 x3 y1 y2 y3 z1 z2 z3):FitsW Tryz.prog Gl 11 [gW o1 o2 o3 x1 x2 x3 y1 y2 y3 z1 z2 z3,vS p1 p2 p3] (gF (o1+p1) (o2+p2) (o3+p3) x1 x2 x3 y1 y2 y3 z1 z2 z3):=by
 have ho:=(vD h.w.o).mono (l:=36) (by decide)
 have hk:=(vD k).mono (l:=36) (by decide)
 refine cA Tryz.func11 (by kernel_rfl) fun w00 hG=>?_;have hI:=aS hG
 refine jW hI 36 [gP 35,gW o1 o2 o3 x1 x2 x3 y1 y2 y3 z1 z2 z3,gP 37,vS p1 p2 p3] (readFV h k) Tryz.call36 ?_
 refine jC 41 [vc o1 o2 o3,vc p1 p2 p3] (qH ho.a ho.b ho.c hk.a hk.b hk.c) Tryz.call41 ?_
 refine jW hI 42 [kY (o1+p1) (o2+p2) (o3+p3) x1 x2 x3 y1 y2 y3 z1 z2 z3] (rW hr) Tryz.call42 ?_
 exact jR Tryz.func11
end
theorem isS_lit {β:List Nat} {cs:List Value} {w:World} {b:ByteArray}:(bY b).holds β cs w↔(Seg.lit (.string b):Seg Kn).holds β cs w:=⟨fun h=>⟨h,rfl⟩,fun h=>h.1⟩
inductive LitL:List (Seg Kn)→List (Seg Kn)→Prop where
 | nil:LitL [] []
 | txt {b:ByteArray} {l m}:LitL l m→LitL (bY b::l) (.lit (.string b)::m)
 | same {s:Seg Kn} {l m}:LitL l m→LitL (s::l) (s::m)
theorem LitL.to {β:List Nat} {w:World} {l m:List (Seg Kn)} (h:LitL l m):∀ {cs:List Value},holdsL β l cs w↔holdsL β m cs w:=by
 induction h with
 | nil=>intro cs;exact Iff.rfl
 | txt _ ih =>
   intro cs
   constructor
   ·rintro ⟨a,b,e,h1,h2⟩;exact ⟨a,b,e,isS_lit.1 h1,ih.1 h2⟩
   ·rintro ⟨a,b,e,h1,h2⟩;exact ⟨a,b,e,isS_lit.2 h1,ih.2 h2⟩
 | same _ ih =>
   intro cs
   constructor
   ·rintro ⟨a,b,e,h1,h2⟩;exact ⟨a,b,e,h1,ih.1 h2⟩
   ·rintro ⟨a,b,e,h1,h2⟩;exact ⟨a,b,e,h1,ih.2 h2⟩
theorem ag_lit {β:List Nat} {v:Value} {w:World} {l m:List (Seg Kn)} (h:LitL l m):(AV.fv (.ag l)).holds β v w↔(AV.fv (.ag m)).holds β v w:=by
 constructor
 ·rintro ⟨cs,e,k⟩;exact ⟨cs,e,h.to.1 k⟩
 ·rintro ⟨cs,e,k⟩;exact ⟨cs,e,h.to.2 k⟩
theorem sc_lit {β:List Nat} {v:Value} {w:World} {b:ByteArray}:(AV.fv (.sc (bY b)):AV Kn).holds β v w↔(AV.fv (.sc (.lit (.string b))):AV Kn).holds β v w:=isS_lit (β:=β) (cs := [v])
theorem FitsW.args {P:Program} {I:World→Prop} {f:FuncId} {l l' : List (AV Kn)} {x:AV Kn} (h:FitsW P I f l x) (hl:∀ β vs w,holdsA β l' vs w→holdsA β l vs w):FitsW P I f l' x:=fun β w vs hI hv=>h β w vs hI (hl β vs w hv)
theorem FitsW.res {P:Program} {I:World→Prop} {f:FuncId} {l:List (AV Kn)} {x y:AV Kn} (h:FitsW P I f l x) (hx:∀ β v w,x.holds β v w→y.holds β v w):FitsW P I f l y:=fun β w vs hI hv =>
 (h β w vs hI hv).mono fun e w' ⟨v,e1,e2,e3⟩=>⟨v,e1,e2,hx β v w' e3⟩
theorem dec_two {n:Nat} (h1:10≤n) (h2:n<100):Lib.decDigits n = [UInt8.ofNat (48+n/10),UInt8.ofNat (48+n%10)]:=by
 rw [eQ (by omega),cT (by omega)]
 rfl
theorem bN {n:Nat} (h:n<10):decB n=⟨#[UInt8.ofNat (48+n)]⟩:=by unfold decB;rw [cT h]
theorem mG {n:Nat} (h1:10≤n) (h2:n<100):decB n=⟨#[UInt8.ofNat (48+n/10),UInt8.ofNat (48+n%10)]⟩:=by unfold decB;rw [dec_two h1 h2]
theorem dD {z:Int} {b:ByteArray} (hz:¬ z<0) (h:decB z.natAbs=b):writeB (z:Rat)=b:=by
 rw [← dI,aQ,if_neg hz,h]
theorem fQ {z:Int} {b:ByteArray} (hz:z<0) (h:decB z.natAbs=b):writeB (z:Rat)=⟨#[45]⟩++b:=by
 rw [← dI,aQ,if_pos hz,h]
theorem w0:writeB ((0:Int):Rat)=⟨#[48]⟩:=dD (by omega) (bN (n:=0) (by omega))
theorem w1:writeB ((1:Int):Rat)=⟨#[49]⟩:=dD (by omega) (bN (n:=1) (by omega))
theorem kL (q:Rat):aK (writeB q)=(aQ q.num).size:=by
 by_cases h:q.den=1
 ·rw [jL h,tR]
 ·rw [fF h,tS]
theorem num_cut (q:Rat):(writeB q).extract 0 (aK (writeB q))=aQ q.num:=by
 rw [kL]
 by_cases h:q.den=1
 ·rw [jL h,vT]
 ·rw [fF h,ext_lo]
theorem den_cut {q:Rat} (h:q.den≠1):(writeB q).extract (aK (writeB q)+1) (writeB q).size=decB q.den:=by
 rw [kL,fF h]
 exact ext_hi _ _
theorem jM (q:Rat):(writeB q).size=(aQ q.num).size+if q.den=1 then 0 else 1+(decB q.den).size:=by
 by_cases h:q.den=1
 ·rw [jL h,if_pos h];rfl
 ·rw [fF h,if_neg h,ByteArray.size_append,ByteArray.size_append,size47]
theorem numF {q:Rat} (hs:(writeB q).size≤1000000000):Fits Tryz.prog 205 [rS (writeB q)] (rS (aQ q.num)):=by
 have hc:=num_cut q
 generalize writeB q=s at *
 refine jT Tryz.func205 fun w00=>?_
 refine jB 151 [rS s] (fE (by omega)) Tryz.call151 ?_
 refine rshi 3 5 22 Tryz.underlying22 s (aK s) (aQ q.num) (cG _) hc ?_
 exact jS Tryz.func205
theorem denF1 {q:Rat} (hs:(writeB q).size≤1000000000) (h:q.den=1):Fits Tryz.prog 206 [rS (writeB q)] (rS (decB q.den)):=by
 have hl:=jM q
 have hk:=kL q
 rw [if_pos h] at hl
 have e:decB q.den=⟨#[49]⟩:=by rw [h,dec1]
 rw [e]
 generalize writeB q=s at *
 have key:Fits Tryz.prog 206 [rS s] (.fv (.sc (.lit (.string ⟨#[49]⟩)))):=by
  refine jT Tryz.func206 fun w00=>?_
  refine jB 151 [rS s] (fE (by omega)) Tryz.call151 ?_
  refine dU 7 22 Tryz.underlying22 s ?_
  refine bD (.binOp .eql 3 (.tmp 6) (.tmp 8) 3) (.tmp 6) (.tmp 8) (rI (aK s:Nat)) (rI (s.size:Nat)) (rl true) (by kernel_rfl) (by simp [Op.operands]) (by simp [Op.operands]) (fun ρ o β w ho hx hy=>⟨.bool true,jI ho (aZ hx) (aZ hy) (by simp;omega),fC rfl⟩) ?_
  exact jS Tryz.func206
 exact mD key fun β v w h=>h.1
theorem denF2 {q:Rat} (hs:(writeB q).size≤1000000000) (h:q.den≠1):Fits Tryz.prog 206 [rS (writeB q)] (rS (decB q.den)):=by
 have hl:=jM q
 have hk:=kL q
 rw [if_neg h] at hl
 have hc:=den_cut h
 generalize decB q.den=d at *
 generalize writeB q=s at *
 refine jT Tryz.func206 fun w00=>?_
 refine jB 151 [rS s] (fE (by omega)) Tryz.call151 ?_
 refine dU 7 22 Tryz.underlying22 s ?_
 refine bD (.binOp .eql 3 (.tmp 6) (.tmp 8) 3) (.tmp 6) (.tmp 8) (rI (aK s:Nat)) (rI (s.size:Nat)) (rl false) (by kernel_rfl) (by simp [Op.operands]) (by simp [Op.operands]) (fun ρ o β w ho hx hy=>⟨.bool false,jI ho (aZ hx) (aZ hy) (by simp;omega),fC rfl⟩) ?_
 refine radd 11 (aK s) (by omega) ?_
 refine rslo 10 12 22 Tryz.underlying22 s (aK s+1) d (by omega) hc ?_
 exact jS Tryz.func206
theorem denOfF {q:Rat} (hs:(writeB q).size≤1000000000):Fits Tryz.prog 206 [rS (writeB q)] (rS (decB q.den)):=by
 by_cases h:q.den=1
 ·exact denF1 hs h
 ·exact denF2 hs h
theorem dec0_ne {n:Nat} (h:n≠0):decB n≠zeroT:=fun e=>h (mF (e.trans dec0.symm))
theorem body_ne_zero {q:Rat} (h:q.num≠0):aY q≠zeroT:=by
 by_cases hd:q.den=1
 ·rw [mE hd,cH]
  exact dec0_ne (by omega)
 ·intro e
  have hl:=oL q
  rw [if_neg hd,e] at hl
  have:zeroT.size=1:=rfl
  have:=sB q.num.natAbs
  omega
theorem kU {q:Rat} (h:q.num≠0):writeB q≠zeroT:=by
 by_cases hn:q.num<0
 ·obtain ⟨f1,⟨h0,hc⟩,f3,f4,f5⟩:=iA hn
  intro e
  have h1:=(gE q).1
  rw [e,decide_eq_true hn] at h1
  exact absurd h1 (by decide)
 ·rw [eB hn]
  exact body_ne_zero h
theorem signF0 {q:Rat} (h:q.num=0):Fits Tryz.prog 95 [rS (writeB q)] (.fv (.sc (.lit (.int .i64 0)))):=by
 have e:((writeB q).toList==(⟨#[48]⟩:ByteArray).toList)=true:=by
  have hd:q.den=1:=by have:=q.reduced;rw [h] at this;simpa using this
  rw [jL hd,h]
  have:aQ 0=zeroT:=by unfold aQ;rw [if_neg (by omega)];exact dec0
  rw [this]
  exact beq_self_eq_true zeroT.toList
 generalize writeB q=s at *
 refine jT Tryz.func95 fun w00=>?_
 refine tT 3 22 s ⟨#[48]⟩ true e ?_
 exact jS Tryz.func95
theorem signFn {q:Rat} (h:q.num<0):Fits Tryz.prog 95 [rS (writeB q)] (.fv (.sc (.lit (.int .i64 (-1))))):=by
 have e:=dZ (kU (q:=q) (by omega))
 obtain ⟨f1,hc,f3,f4,f5⟩:=iA h
 have h0:decide ((0:Int)<((writeB q).size:Nat))=true:=by rw [decide_eq_true_iff];omega
 generalize writeB q=s at *
 refine jT Tryz.func95 fun w00=>?_
 refine tT 3 22 s ⟨#[48]⟩ false e ?_
 refine dU 5 22 Tryz.underlying22 s ?_
 refine iY 6 0 (s.size:Nat) true h0 ?_
 refine ridnR 9 s hc ?_
 exact jS Tryz.func95
theorem signFp {q:Rat} (h:0<q.num):Fits Tryz.prog 95 [rS (writeB q)] (.fv (.sc (.lit (.int .i64 1)))):=by
 have e:=dZ (kU (q:=q) (by omega))
 obtain ⟨c,hc,hc45⟩:=tU q
 rw [← eB (by omega)] at hc
 have h0:decide ((0:Int)<((writeB q).size:Nat))=true:=by rw [decide_eq_true_iff];have:=hc.1;omega
 generalize writeB q=s at *
 refine jT Tryz.func95 fun w00=>?_
 refine tT 3 22 s ⟨#[48]⟩ false e ?_
 refine dU 5 22 Tryz.underlying22 s ?_
 refine iY 6 0 (s.size:Nat) true h0 ?_
 refine ridpR 9 s c hc ?_
 refine rueq 10 c hc45 ?_
 exact jS Tryz.func95
theorem absFn {q:Rat} (h:q.num<0) (hs:(writeB q).size≤1000000000):Fits Tryz.prog 204 [rS (writeB q)] (rS (aY q)):=by
 have hg:=signFn h
 obtain ⟨f1,hc,f3,f4,f5⟩:=iA h
 generalize aY q=u at *
 generalize writeB q=s at *
 refine jT Tryz.func204 fun w00=>?_
 refine jB 95 [rS s] hg Tryz.call95 ?_
 refine rsl1 6 22 Tryz.underlying22 s u f1 f3 ?_
 exact jS Tryz.func204
theorem absFp {q:Rat} (h:¬ q.num<0):Fits Tryz.prog 204 [rS (writeB q)] (rS (aY q)):=by
 rw [← eB h]
 by_cases h0:q.num=0
 ·have hg:=signF0 h0
  generalize writeB q=s at *
  refine jT Tryz.func204 fun w00=>?_
  refine jB 95 [rS s] hg Tryz.call95 ?_
  exact jS Tryz.func204
 ·have hg:=signFp (q:=q) (by omega)
  generalize writeB q=s at *
  refine jT Tryz.func204 fun w00=>?_
  refine jB 95 [rS s] hg Tryz.call95 ?_
  exact jS Tryz.func204
theorem absOfF {q:Rat} (hs:(writeB q).size≤1000000000):Fits Tryz.prog 204 [rS (writeB q)] (rS (aY q)):=by
 by_cases h:q.num<0
 ·exact absFn h hs
 ·exact absFp h
theorem absTF {z:Int} (hs:(aQ z).size≤1000000000):Fits Tryz.prog 204 [rS (aQ z)] (rS (decB z.natAbs)):=by
 have h:=absOfF (q:=(z:Rat)) (by rw [← dI];exact hs)
 have e:aY (z:Rat)=decB z.natAbs:=by rw [mE rfl,cH];rfl
 rw [← dI,e] at h
 exact h
def Fw (k:Nat) (q:Rat):Prop:=(decB q.num.natAbs).size≤k∧(decB q.den).size≤k
theorem sK (z:Int):(aQ z).size≤(decB z.natAbs).size+1:=by
 unfold aQ
 split
 ·rw [ByteArray.size_append,size45];omega
 ·omega
theorem kn_I {f:FuncId} {s:ByteArray} {z:Int} (h:Fits Tryz.prog f [rS s] (rI z)):Fits Tryz.prog f [tx s] (.fv (.sc (jZ z))):=by
 intro β w vs hv
 obtain ⟨v,rfl,h1⟩:=dE hv
 rw [aP h1]
 exact (h β w [.string s] ⟨_,_,rfl,cN,rfl⟩).mono fun e w' ⟨v,e1,e2,e3⟩=>⟨v,e1,e2,by rw [aZ e3];exact bG⟩
theorem nE {f:FuncId} {s t u:ByteArray} (h:Fits Tryz.prog f [rS s,rS t] (rS u)):Fits Tryz.prog f [tx s,tx t] (tx u):=by
 intro β w vs hv
 obtain ⟨v,v2,rfl,h1,h2⟩:=eG hv
 rw [aP h1,aP h2]
 exact (h β w [.string s,.string t] ⟨_,_,rfl,cN,_,_,rfl,cN,rfl⟩).mono fun e w' ⟨v,e1,e2,e3⟩=>⟨v,e1,e2,by rw [aZ e3];exact bG⟩
end Go.Proofs.YtejbgingjeedaaaGreatDoor.Ab
