/- Parts of the proof, joined. -/
import Derived.Test.YtbhcckhbbclemaaGreatDoorJ32
set_option linter.unusedSimpArgs false
set_option linter.unusedVariables false
namespace Go.Proofs.YtbhcckhbbclemaaGreatDoor.Ab
open Go.RowKit Go.Proofs.YtbhcckhbbclemaaGreatDoor Pl
abbrev qno:AV Kr := .tup [.sc (.lit (.int .i64 0)),.sc (.lit (.int .i64 0)),.sc (.lit (.bool false))]
section
variable {s u:ByteArray} {c:Nat}
theorem quick_long (h20:decide ((20:Int)<s.size)=true):Fits Tryz.prog 49 [rS s] qno:=by
 refine rgo Tryz.func49 (by kernel_rfl) fun w00=>?_
 refine rlen 11 9 Tryz.underlying9 s ?_
 refine rgt 12 20 s.size true h20 ?_
 exact rret Tryz.func49 (by kernel_rfl)
theorem quick_k9n (h20:decide ((20:Int)<s.size)=false) (h0:decide ((0:Int)<s.size)=true) (h1:1≤s.size) (hc:∃ h:0<s.size,(s[0]'h).toNat=45) (hext:s.extract 1 s.size=u) (hus:u.size≤s.size) (h9:decide ((9:Int)<(slashB u:Nat))=true):Fits Tryz.prog 49 [rS s] qno:=by
 have hs20:s.size≤20:=by rw [decide_eq_false_iff_not] at h20;omega
 refine rgo Tryz.func49 (by kernel_rfl) fun w00=>?_
 refine rlen 11 9 Tryz.underlying9 s ?_
 refine rgt 12 20 s.size false h20 ?_
 refine rlen 14 9 Tryz.underlying9 s ?_
 refine rgt 15 0 s.size true h0 ?_
 refine ridn 18 s hc ?_
 refine rsl1 23 9 Tryz.underlying9 s u h1 hext ?_
 refine rcall 110 [rS u] (slashF (by omega)) (by kernel_rfl) Tryz.call110 ?_
 refine rgt 27 9 (slashB u:Nat) true h9 ?_
 exact rret Tryz.func49 (by kernel_rfl)
theorem quick_l10n (h20:decide ((20:Int)<s.size)=false) (h0:decide ((0:Int)<s.size)=true) (h1:1≤s.size) (hc:∃ h:0<s.size,(s[0]'h).toNat=45) (hext:s.extract 1 s.size=u) (hus:u.size≤s.size) (h9:decide ((9:Int)<(slashB u:Nat))=false) (h10:decide ((10:Int)<((u.size-slashB u:Nat):Int))=true):Fits Tryz.prog 49 [rS s] qno:=by
 have hs20:s.size≤20:=by rw [decide_eq_false_iff_not] at h20;omega
 refine rgo Tryz.func49 (by kernel_rfl) fun w00=>?_
 refine rlen 11 9 Tryz.underlying9 s ?_
 refine rgt 12 20 s.size false h20 ?_
 refine rlen 14 9 Tryz.underlying9 s ?_
 refine rgt 15 0 s.size true h0 ?_
 refine ridn 18 s hc ?_
 refine rsl1 23 9 Tryz.underlying9 s u h1 hext ?_
 refine rcall 110 [rS u] (slashF (by omega)) (by kernel_rfl) Tryz.call110 ?_
 refine rgt 27 9 (slashB u:Nat) false h9 ?_
 refine rlen 30 9 Tryz.underlying9 u ?_
 refine rsub 31 32 (u.size) (slashB u) (slashB_le _) (by omega) ?_
 refine rgt 33 10 ((u.size-slashB u:Nat):Int) true h10 ?_
 exact rret Tryz.func49 (by kernel_rfl)
theorem quick_k9p (h20:decide ((20:Int)<s.size)=false) (h0:decide ((0:Int)<s.size)=true) (hc:∃ h:0<s.size,(s[0]'h).toNat=c) (hc45:((c:Int)==45)=false) (h9:decide ((9:Int)<(slashB s:Nat))=true):Fits Tryz.prog 49 [rS s] qno:=by
 have hs20:s.size≤20:=by rw [decide_eq_false_iff_not] at h20;omega
 refine rgo Tryz.func49 (by kernel_rfl) fun w00=>?_
 refine rlen 11 9 Tryz.underlying9 s ?_
 refine rgt 12 20 s.size false h20 ?_
 refine rlen 14 9 Tryz.underlying9 s ?_
 refine rgt 15 0 s.size true h0 ?_
 refine ridp 18 s c hc ?_
 refine rueq 19 c hc45 ?_
 refine rcall 110 [rS s] (slashF (by omega)) (by kernel_rfl) Tryz.call110 ?_
 refine rgt 27 9 (slashB s:Nat) true h9 ?_
 exact rret Tryz.func49 (by kernel_rfl)
theorem quick_l10p (h20:decide ((20:Int)<s.size)=false) (h0:decide ((0:Int)<s.size)=true) (hc:∃ h:0<s.size,(s[0]'h).toNat=c) (hc45:((c:Int)==45)=false) (h9:decide ((9:Int)<(slashB s:Nat))=false) (h10:decide ((10:Int)<((s.size-slashB s:Nat):Int))=true):Fits Tryz.prog 49 [rS s] qno:=by
 have hs20:s.size≤20:=by rw [decide_eq_false_iff_not] at h20;omega
 refine rgo Tryz.func49 (by kernel_rfl) fun w00=>?_
 refine rlen 11 9 Tryz.underlying9 s ?_
 refine rgt 12 20 s.size false h20 ?_
 refine rlen 14 9 Tryz.underlying9 s ?_
 refine rgt 15 0 s.size true h0 ?_
 refine ridp 18 s c hc ?_
 refine rueq 19 c hc45 ?_
 refine rcall 110 [rS s] (slashF (by omega)) (by kernel_rfl) Tryz.call110 ?_
 refine rgt 27 9 (slashB s:Nat) false h9 ?_
 refine rlen 30 9 Tryz.underlying9 s ?_
 refine rsub 31 32 (s.size) (slashB s) (slashB_le _) (by omega) ?_
 refine rgt 33 10 ((s.size-slashB s:Nat):Int) true h10 ?_
 exact rret Tryz.func49 (by kernel_rfl)
end
theorem valueF {d:ByteArray} {n:Nat} (hd:AllDig (bytesOf d)) (hs:d.size≤17) (hn:natOf (bytesOf d)=n):Fits Tryz.prog 111 [rS d] (rI n):=by
 intro β w vs hv
 obtain ⟨v,rfl,h1⟩:=args1 hv
 rw [r_is h1]
 exact (value_any d w hd hs).mono fun e w' ⟨e1,e2⟩=>⟨_,e1,by rw [e2];exact Below.refl _ _,by rw [hn];exact is_r⟩
theorem neg_run {o:Oper} {ρ:Operand→Value} {w:World} {x y:Operand} {a:Nat} (ho:o.op = .binOp .sub 3 x y 3) (hx:ρ x = .int .i64 0) (hy:ρ y = .int .i64 (a:Int)) (ha:a<4611686018427387904) :
 (execOp ρ o).run Tryz.prog w = .ok (.value (.int .i64 (-(a:Int)))) w:=by
 simp only [execOp,ho,hx,hy]
 refine run_v ?_
 have e:IntKind.i64.wrap (0-(a:Int)) = -(a:Int):=by
  rw [IntWalk.i64_left,IntWalk.wrap64_in _ ⟨by omega,by omega⟩];omega
 rw [Int.zero_sub] at e
 simp [go_sem,e]
section
variable {s u d1 d2:ByteArray} {c n1 n2:Nat}
theorem quick_yes1n (h20:decide ((20:Int)<s.size)=false) (h0:decide ((0:Int)<s.size)=true) (h1:1≤s.size) (hc:∃ h:0<s.size,(s[0]'h).toNat=45) (hext:s.extract 1 s.size=u) (hus:u.size≤s.size) (hn1:n1<4611686018427387904) (h9:decide ((9:Int)<(slashB u:Nat))=false) (h10:decide ((10:Int)<((u.size-slashB u:Nat):Int))=false) (hd1:u.extract 0 (slashB u)=d1) (v1:Fits Tryz.prog 111 [rS d1] (rI n1)) (hlt:decide (((slashB u:Nat):Int)<(u.size:Nat))=false):Fits Tryz.prog 49 [rS s] (.tup [.sc (.sp (csIsR (.int .i64 (-(n1:Int))) rfl false (fun h=>by cases h))),.sc (.lit (.int .i64 1)),.sc (.lit (.bool true))]):=by
 have hs20:s.size≤20:=by rw [decide_eq_false_iff_not] at h20;omega
 refine rgo Tryz.func49 (by kernel_rfl) fun w00=>?_
 refine rlen 11 9 Tryz.underlying9 s ?_
 refine rgt 12 20 s.size false h20 ?_
 refine rlen 14 9 Tryz.underlying9 s ?_
 refine rgt 15 0 s.size true h0 ?_
 refine ridn 18 s hc ?_
 refine rsl1 23 9 Tryz.underlying9 s u h1 hext ?_
 refine rcall 110 [rS u] (slashF (by omega)) (by kernel_rfl) Tryz.call110 ?_
 refine rgt 27 9 (slashB u:Nat) false h9 ?_
 refine rlen 30 9 Tryz.underlying9 u ?_
 refine rsub 31 32 (u.size) (slashB u) (slashB_le _) (by omega) ?_
 refine rgt 33 10 ((u.size-slashB u:Nat):Int) false h10 ?_
 refine rshi 36 37 9 Tryz.underlying9 u (slashB u) d1 (slashB_le _) hd1 ?_
 refine rcall 111 [rS d1] v1 (by kernel_rfl) Tryz.call111 ?_
 refine rlen 41 9 Tryz.underlying9 u ?_
 refine rlss 40 42 (slashB u:Nat) (u.size:Nat) false hlt ?_
 refine rop2 (.binOp .sub 3 (.const (.int .i64 0)) (.tmp 50) 3) (.const (.int .i64 0)) (.tmp 50) (.fv (.sc (.lit (.int .i64 0)))) (rI n1) (rI (-(n1:Int))) (by kernel_rfl) (by simp [Op.operands]) (by simp [Op.operands]) (fun ρ o β w ho hx hy=>⟨_,neg_run ho (r_lit hx) (r_is hy) hn1,is_r⟩) ?_
 exact rret Tryz.func49 (by kernel_rfl)
theorem quick_yes2n (h20:decide ((20:Int)<s.size)=false) (h0:decide ((0:Int)<s.size)=true) (h1:1≤s.size) (hc:∃ h:0<s.size,(s[0]'h).toNat=45) (hext:s.extract 1 s.size=u) (hus:u.size≤s.size) (hn1:n1<4611686018427387904) (h9:decide ((9:Int)<(slashB u:Nat))=false) (h10:decide ((10:Int)<((u.size-slashB u:Nat):Int))=false) (hd1:u.extract 0 (slashB u)=d1) (v1:Fits Tryz.prog 111 [rS d1] (rI n1)) (hlt:decide (((slashB u:Nat):Int)<(u.size:Nat))=true) (hd2:u.extract (slashB u+1) u.size=d2) (v2:Fits Tryz.prog 111 [rS d2] (rI n2)):Fits Tryz.prog 49 [rS s] (.tup [.sc (.sp (csIsR (.int .i64 (-(n1:Int))) rfl false (fun h=>by cases h))),.sc (.sp (csIsR (.int .i64 (n2:Int)) rfl false (fun h=>by cases h))),.sc (.lit (.bool true))]):=by
 have hs20:s.size≤20:=by rw [decide_eq_false_iff_not] at h20;omega
 refine rgo Tryz.func49 (by kernel_rfl) fun w00=>?_
 refine rlen 11 9 Tryz.underlying9 s ?_
 refine rgt 12 20 s.size false h20 ?_
 refine rlen 14 9 Tryz.underlying9 s ?_
 refine rgt 15 0 s.size true h0 ?_
 refine ridn 18 s hc ?_
 refine rsl1 23 9 Tryz.underlying9 s u h1 hext ?_
 refine rcall 110 [rS u] (slashF (by omega)) (by kernel_rfl) Tryz.call110 ?_
 refine rgt 27 9 (slashB u:Nat) false h9 ?_
 refine rlen 30 9 Tryz.underlying9 u ?_
 refine rsub 31 32 (u.size) (slashB u) (slashB_le _) (by omega) ?_
 refine rgt 33 10 ((u.size-slashB u:Nat):Int) false h10 ?_
 refine rshi 36 37 9 Tryz.underlying9 u (slashB u) d1 (slashB_le _) hd1 ?_
 refine rcall 111 [rS d1] v1 (by kernel_rfl) Tryz.call111 ?_
 refine rlen 41 9 Tryz.underlying9 u ?_
 refine rlss 40 42 (slashB u:Nat) (u.size:Nat) true hlt ?_
 refine radd 45 (slashB u) (by have:=slashB_le u;omega) ?_
 refine rslo 44 46 9 Tryz.underlying9 u (slashB u+1) d2 (by have:=of_decide_eq_true hlt;omega) hd2 ?_
 refine rcall 111 [rS d2] v2 (by kernel_rfl) Tryz.call111 ?_
 refine rop2 (.binOp .sub 3 (.const (.int .i64 0)) (.tmp 50) 3) (.const (.int .i64 0)) (.tmp 50) (.fv (.sc (.lit (.int .i64 0)))) (rI n1) (rI (-(n1:Int))) (by kernel_rfl) (by simp [Op.operands]) (by simp [Op.operands]) (fun ρ o β w ho hx hy=>⟨_,neg_run ho (r_lit hx) (r_is hy) hn1,is_r⟩) ?_
 exact rret Tryz.func49 (by kernel_rfl)
theorem quick_yes1p (h20:decide ((20:Int)<s.size)=false) (h0:decide ((0:Int)<s.size)=true) (hc:∃ h:0<s.size,(s[0]'h).toNat=c) (hc45:((c:Int)==45)=false) (h9:decide ((9:Int)<(slashB s:Nat))=false) (h10:decide ((10:Int)<((s.size-slashB s:Nat):Int))=false) (hd1:s.extract 0 (slashB s)=d1) (v1:Fits Tryz.prog 111 [rS d1] (rI n1)) (hlt:decide (((slashB s:Nat):Int)<(s.size:Nat))=false):Fits Tryz.prog 49 [rS s] (.tup [.sc (.sp (csIsR (.int .i64 (n1:Int)) rfl false (fun h=>by cases h))),.sc (.lit (.int .i64 1)),.sc (.lit (.bool true))]):=by
 have hs20:s.size≤20:=by rw [decide_eq_false_iff_not] at h20;omega
 refine rgo Tryz.func49 (by kernel_rfl) fun w00=>?_
 refine rlen 11 9 Tryz.underlying9 s ?_
 refine rgt 12 20 s.size false h20 ?_
 refine rlen 14 9 Tryz.underlying9 s ?_
 refine rgt 15 0 s.size true h0 ?_
 refine ridp 18 s c hc ?_
 refine rueq 19 c hc45 ?_
 refine rcall 110 [rS s] (slashF (by omega)) (by kernel_rfl) Tryz.call110 ?_
 refine rgt 27 9 (slashB s:Nat) false h9 ?_
 refine rlen 30 9 Tryz.underlying9 s ?_
 refine rsub 31 32 (s.size) (slashB s) (slashB_le _) (by omega) ?_
 refine rgt 33 10 ((s.size-slashB s:Nat):Int) false h10 ?_
 refine rshi 36 37 9 Tryz.underlying9 s (slashB s) d1 (slashB_le _) hd1 ?_
 refine rcall 111 [rS d1] v1 (by kernel_rfl) Tryz.call111 ?_
 refine rlen 41 9 Tryz.underlying9 s ?_
 refine rlss 40 42 (slashB s:Nat) (s.size:Nat) false hlt ?_
 exact rret Tryz.func49 (by kernel_rfl)
theorem quick_yes2p (h20:decide ((20:Int)<s.size)=false) (h0:decide ((0:Int)<s.size)=true) (hc:∃ h:0<s.size,(s[0]'h).toNat=c) (hc45:((c:Int)==45)=false) (h9:decide ((9:Int)<(slashB s:Nat))=false) (h10:decide ((10:Int)<((s.size-slashB s:Nat):Int))=false) (hd1:s.extract 0 (slashB s)=d1) (v1:Fits Tryz.prog 111 [rS d1] (rI n1)) (hlt:decide (((slashB s:Nat):Int)<(s.size:Nat))=true) (hd2:s.extract (slashB s+1) s.size=d2) (v2:Fits Tryz.prog 111 [rS d2] (rI n2)):Fits Tryz.prog 49 [rS s] (.tup [.sc (.sp (csIsR (.int .i64 (n1:Int)) rfl false (fun h=>by cases h))),.sc (.sp (csIsR (.int .i64 (n2:Int)) rfl false (fun h=>by cases h))),.sc (.lit (.bool true))]):=by
 have hs20:s.size≤20:=by rw [decide_eq_false_iff_not] at h20;omega
 refine rgo Tryz.func49 (by kernel_rfl) fun w00=>?_
 refine rlen 11 9 Tryz.underlying9 s ?_
 refine rgt 12 20 s.size false h20 ?_
 refine rlen 14 9 Tryz.underlying9 s ?_
 refine rgt 15 0 s.size true h0 ?_
 refine ridp 18 s c hc ?_
 refine rueq 19 c hc45 ?_
 refine rcall 110 [rS s] (slashF (by omega)) (by kernel_rfl) Tryz.call110 ?_
 refine rgt 27 9 (slashB s:Nat) false h9 ?_
 refine rlen 30 9 Tryz.underlying9 s ?_
 refine rsub 31 32 (s.size) (slashB s) (slashB_le _) (by omega) ?_
 refine rgt 33 10 ((s.size-slashB s:Nat):Int) false h10 ?_
 refine rshi 36 37 9 Tryz.underlying9 s (slashB s) d1 (slashB_le _) hd1 ?_
 refine rcall 111 [rS d1] v1 (by kernel_rfl) Tryz.call111 ?_
 refine rlen 41 9 Tryz.underlying9 s ?_
 refine rlss 40 42 (slashB s:Nat) (s.size:Nat) true hlt ?_
 refine radd 45 (slashB s) (by have:=slashB_le s;omega) ?_
 refine rslo 44 46 9 Tryz.underlying9 s (slashB s+1) d2 (by have:=of_decide_eq_true hlt;omega) hd2 ?_
 refine rcall 111 [rS d2] v2 (by kernel_rfl) Tryz.call111 ?_
 exact rret Tryz.func49 (by kernel_rfl)
end
def Sq (q:Rat):Prop:=(decB q.num.natAbs).size≤9∧(q.den=1∨(decB q.den).size≤9)
theorem body_one {q:Rat} (h:q.den=1):bodyB q=textB (q.num.natAbs:Int):=by unfold bodyB;rw [if_pos h,textB_nat]
theorem body_two {q:Rat} (h:q.den≠1):bodyB q=textB (q.num.natAbs:Int)++(⟨#[47]⟩++decB q.den):=by unfold bodyB;rw [if_neg h,textB_nat]
theorem slash_body (q:Rat):slashB (bodyB q)=(decB q.num.natAbs).size:=by
 by_cases h:q.den=1
 ·rw [body_one h,slash_one,textB_nat]
 ·rw [body_two h,slash_two,textB_nat]
theorem size47:(⟨#[47]⟩:ByteArray).size=1:=rfl
theorem size45:(⟨#[45]⟩:ByteArray).size=1:=rfl
theorem body_len (q:Rat):(bodyB q).size=(decB q.num.natAbs).size+if q.den=1 then 0 else 1+(decB q.den).size:=by
 by_cases h:q.den=1
 ·rw [body_one h,textB_nat,if_pos h];rfl
 ·rw [body_two h,if_neg h,ByteArray.size_append,ByteArray.size_append,textB_nat,size47]
theorem body_head (q:Rat):∃ c:Nat,(∃ h:0<(bodyB q).size,((bodyB q)[0]'h).toNat=c)∧((c:Int)==45)=false:=by
 obtain ⟨c,r,e,hc⟩:=body_list q
 have h0:0<(bodyB q).size:=by
  have:(bodyB q).size=(bodyB q).data.toList.length:=rfl
  rw [this,e];simp
 have h1:=bytes_get h0
 have h2:bytesOf (bodyB q)=c::r:=e
 rw [h2] at h1
 simp at h1
 refine ⟨c.toNat,⟨h0,by rw [← h1]⟩,?_⟩
 simp;omega
theorem neg_facts {q:Rat} (h:q.num<0):1≤(writeB q).size∧(∃ h:0<(writeB q).size,((writeB q)[0]'h).toNat=45)∧(writeB q).extract 1 (writeB q).size=bodyB q∧(bodyB q).size≤(writeB q).size∧(writeB q).size=(bodyB q).size+1:=by
 have e:writeB q=⟨#[45]⟩++bodyB q:=write_neg h
 have hsz:(writeB q).size=(bodyB q).size+1:=by rw [e,ByteArray.size_append,size45];omega
 have h0:0<(writeB q).size:=by omega
 refine ⟨h0,⟨h0,?_⟩,?_,by omega,hsz⟩
 ·have h1:=bytes_get h0
  have h2:bytesOf (writeB q)=45::bytesOf (bodyB q):=by rw [e];simp [bytesOf]
  rw [h2] at h1
  simp at h1
  rw [← h1];rfl
 ·have h2:bytesOf (writeB q)=45::bytesOf (bodyB q):=by rw [e];simp [bytesOf]
  have:bytesOf ((writeB q).extract 1 (writeB q).size)=bytesOf (bodyB q):=by
   rw [bytesOf_extract,List.take_of_length_le (by rw [bytesOf_length];exact Nat.le_refl _),h2];rfl
  exact ba_ext this
theorem quickNo {q:Rat} (hq:¬ Sq q):Fits Tryz.prog 49 [rS (writeB q)] qno:=by
 by_cases h20:20<(writeB q).size
 ·exact quick_long (by rw [decide_eq_true_iff];omega)
 have hbs:=body_len q
 have hsl:=slash_body q
 by_cases hn:q.num<0
 ·obtain ⟨f1,f2,f3,f4,f5⟩:=neg_facts hn
  by_cases h9:9<(decB q.num.natAbs).size
  ·exact quick_k9n (by rw [decide_eq_false_iff_not];omega) (by rw [decide_eq_true_iff];omega) f1 f2 f3 f4 (by rw [hsl,decide_eq_true_iff];omega)
  ·refine quick_l10n (by rw [decide_eq_false_iff_not];omega) (by rw [decide_eq_true_iff];omega) f1 f2 f3 f4 (by rw [hsl,decide_eq_false_iff_not];omega) ?_
   rw [hsl,decide_eq_true_iff,hbs]
   have hd:¬ (q.den=1∨(decB q.den).size≤9):=fun h=>hq ⟨by omega,h⟩
   rw [if_neg (fun h=>hd (.inl h))]
   have:¬ (decB q.den).size≤9:=fun h=>hd (.inr h)
   omega
 ·have hw:=write_pos hn
  obtain ⟨c,c1,c2⟩:=body_head q
  have h0:0<(bodyB q).size:=c1.1
  rw [hw] at h20 ⊢
  by_cases h9:9<(decB q.num.natAbs).size
  ·exact quick_k9p (by rw [decide_eq_false_iff_not];omega) (by rw [decide_eq_true_iff];omega) c1 c2 (by rw [hsl,decide_eq_true_iff];omega)
  ·refine quick_l10p (by rw [decide_eq_false_iff_not];omega) (by rw [decide_eq_true_iff];omega) c1 c2 (by rw [hsl,decide_eq_false_iff_not];omega) ?_
   rw [hsl,decide_eq_true_iff,hbs]
   have hd:¬ (q.den=1∨(decB q.den).size≤9):=fun h=>hq ⟨by omega,h⟩
   rw [if_neg (fun h=>hd (.inl h))]
   have:¬ (decB q.den).size≤9:=fun h=>hd (.inr h)
   omega
def csAny:CS Kr where
 size:=1
 cold:=false
 pred cs _ := ∃ n:Int,cs = [.int .i64 n]
 stable _ _ _ h _:=h
 len cs w h:=by obtain ⟨v,e⟩:=h;rw [e];rfl
 one cs w h:=by obtain ⟨v,e⟩:=h;rw [e];intro d hd;rw [List.mem_singleton] at hd;rw [hd];rfl
 iscold h:=by cases h
abbrev qany (b:Bool):AV Kr := .tup [.sc (.sp csAny),.sc (.sp csAny),.sc (.lit (.bool b))]
theorem qany_no {β:List Nat} {v:Value} {w:World} (h:qno.holds β v w):(qany false).holds β v w:=by
 obtain ⟨vs,rfl,a,r,rfl,h1,b,r2,rfl,h2,c,r3,rfl,h3,h4⟩:=h
 exact ⟨_,rfl,a,_,rfl,⟨0,h1.1⟩,b,_,rfl,⟨0,h2.1⟩,c,_,rfl,h3,h4⟩
theorem pow_lift {a k n:Nat} (h:a<10^k) (hk:k≤n):a<B9^n :=
 Nat.lt_of_lt_of_le h (Nat.le_trans (Nat.pow_le_pow_right (by omega) hk) (Nat.pow_le_pow_left (by unfold B9;omega) _))
theorem bd_of {a k:Nat} (h:a<10^k) (hk:k≤1099511627776):Bd a:=by
 obtain ⟨n,hn⟩:∃ n,n=1099511627776:=⟨_,rfl⟩
 unfold Bd
 rw [← hn] at hk ⊢
 exact pow_lift h hk
theorem bd1_of {a k:Nat} (h:a<10^k) (hk:k≤100000000):a<B9^100000000:=by
 obtain ⟨n,hn⟩:∃ n,n=100000000:=⟨_,rfl⟩
 rw [← hn] at hk ⊢
 exact pow_lift h hk
theorem text_size {z:Int} {k:Nat} (h:z.natAbs<10^(k+1)):(textB z).size≤k+2:=by
 have:=decB_size h
 unfold textB
 split
 ·rw [ByteArray.size_append,size45];omega
 ·omega
def Zs (k:Nat) (q:Rat):Prop:=q.num.natAbs<10^(k+1)∧q.den<10^(k+1)
theorem fracW {n:Int} {d k:Nat} (hk:k≤1000000) (hn:n.natAbs<10^(k+1)) (hd:d<10^(k+1)) (h0:0<d):Fits Tryz.prog 52 [iz n,pz d] (rS (writeB (mkRat n d))):=by
 have h:=fractionF (n:=n) (d:=d) (bd_of hn (by omega)) (bd_of hd (by omega)) h0 (bd1_of hn (by omega)) (bd1_of hd (by omega))
  (by have:=text_size (k:=k) (z:=sgz (decide (n<0)) (n.natAbs/Nat.gcd n.natAbs d)) (by rw [sgz_abs];exact Nat.lt_of_le_of_lt (Nat.div_le_self _ _) hn);omega)
  (by have:=text_size (k:=k) (z:=((d/Nat.gcd n.natAbs d:Nat):Int)) (by rw [Int.natAbs_natCast];exact Nat.lt_of_le_of_lt (Nat.div_le_self _ _) hd);omega)
 rw [frac_write n h0] at h
 exact h
theorem mul_lt10 {a b k:Nat} (ha:a<10^(k+1)) (hb:b<10^(k+1)):a*b<10^(2*k+1+1):=by
 have:10^(2*k+1+1)=10^(k+1)*10^(k+1):=by rw [← Nat.pow_add];congr 1;omega
 rw [this]
 exact Nat.mul_lt_mul'' ha hb
theorem add_lt10 {a b k:Nat} (ha:a<10^(k+1)) (hb:b<10^(k+1)):a+b<10^(k+1+1):=by
 have:10^(k+1+1)=10^(k+1)*10:=Nat.pow_succ _ _
 omega
theorem zs_size {k:Nat} {q:Rat} (h:Zs k q) (hk:k≤10000):(decB q.num.natAbs).size≤100000∧(decB q.den).size≤100000:=by
 have h1:=decB_size h.1
 have h2:=decB_size h.2
 omega
section
variable {p q:Rat} {b1 b2:Bool}
theorem mulBig (hp:Zs 10000 p) (hq:Zs 10000 q) (q1:Fits Tryz.prog 49 [rS (writeB p)] (qany b1)) (q2:Fits Tryz.prog 49 [rS (writeB q)] (qany b2)) (hb:(b1&&b2)=false) :
 Fits Tryz.prog 13 [rS (writeB p),rS (writeB q)] (rS (writeB (p*q))):=by
 have hn:=mul_lt10 hp.1 hq.1
 rw [← Int.natAbs_mul] at hn
 have hd:=mul_lt10 hp.2 hq.2
 have s1:=zs_size hp (Nat.le_refl _)
 have s2:=zs_size hq (Nat.le_refl _)
 have hf:=fracW (by omega) hn hd (Nat.mul_pos p.den_pos q.den_pos)
 rw [← Rat.mul_def'] at hf
 have w1:=partsF s1.1 s1.2
 have w2:=partsF s2.1 s2.2
 have t1:=timesZ (bd_of hp.1 (by omega)) (bd_of hq.1 (by omega))
 have t2:=timesPP (bd_of hp.2 (by omega)) (bd_of hq.2 (by omega))
 generalize writeB p=s at *
 generalize writeB q=u at *
 cases b1 <;> cases b2 <;> first|cases hb|skip
 all_goals
  refine rgo Tryz.func13 (by kernel_rfl) fun w00=>?_
  refine rcall 49 [rS s] q1 (by kernel_rfl) Tryz.call49 ?_
  refine rcall 49 [rS u] q2 (by kernel_rfl) Tryz.call49 ?_
  refine rcall 51 [rS s] w1 (by kernel_rfl) Tryz.call51 ?_
  refine rcall 51 [rS u] w2 (by kernel_rfl) Tryz.call51 ?_
  refine rcall 53 [iz p.num,iz q.num] t1 (by kernel_rfl) Tryz.call53 ?_
  refine rcall 53 [pz p.den,pz q.den] t2 (by kernel_rfl) Tryz.call53 ?_
  refine rcall 52 [iz (p.num*q.num),pz (p.den*q.den)] hf (by kernel_rfl) Tryz.call52 ?_
  exact rret Tryz.func13 (by kernel_rfl)
theorem addBig (hp:Zs 10000 p) (hq:Zs 10000 q) (q1:Fits Tryz.prog 49 [rS (writeB p)] (qany b1)) (q2:Fits Tryz.prog 49 [rS (writeB q)] (qany b2)) (hb:(b1&&b2)=false) :
 Fits Tryz.prog 60 [rS (writeB p),rS (writeB q)] (rS (writeB (p+q))):=by
 obtain ⟨K,hK⟩:∃ K,K=10000:=⟨_,rfl⟩
 rw [← hK] at hp hq
 have hn1:(p.num*(q.den:Int)).natAbs<10^(2*K+1+1):=Nat.lt_of_le_of_lt (Nat.le_of_eq (by rw [Int.natAbs_mul,Int.natAbs_natCast])) (mul_lt10 hp.1 hq.2)
 have hn2:(q.num*(p.den:Int)).natAbs<10^(2*K+1+1):=Nat.lt_of_le_of_lt (Nat.le_of_eq (by rw [Int.natAbs_mul,Int.natAbs_natCast])) (mul_lt10 hq.1 hp.2)
 have hn:(p.num*(q.den:Int)+q.num*(p.den:Int)).natAbs<10^(2*K+1+1+1):=Nat.lt_of_le_of_lt (Int.natAbs_add_le _ _) (add_lt10 hn1 hn2)
 have hd:p.den*q.den<10^(2*K+1+1+1):=Nat.lt_of_lt_of_le (mul_lt10 hp.2 hq.2) (Nat.pow_le_pow_right (by omega) (by omega))
 have s1:=zs_size hp (by omega)
 have s2:=zs_size hq (by omega)
 have hf:=fracW (by omega) hn hd (Nat.mul_pos p.den_pos q.den_pos)
 rw [← Rat.add_def'] at hf
 have w1:=partsF s1.1 s1.2
 have w2:=partsF s2.1 s2.2
 have t1:=timesZP (a:=p.num) (b:=q.den) (bd_of hp.1 (by omega)) (bd_of hq.2 (by omega))
 have t2:=timesZP (a:=q.num) (b:=p.den) (bd_of hq.1 (by omega)) (bd_of hp.2 (by omega))
 have t3:=timesPP (bd_of hp.2 (by omega)) (bd_of hq.2 (by omega))
 have t4:=plusZ (bd_of hn1 (by omega)) (bd_of hn2 (by omega))
 generalize writeB p=s at *
 generalize writeB q=u at *
 cases b1 <;> cases b2 <;> first|cases hb|skip
 all_goals
  refine rgo Tryz.func60 (by kernel_rfl) fun w00=>?_
  refine rcall 49 [rS s] q1 (by kernel_rfl) Tryz.call49 ?_
  refine rcall 49 [rS u] q2 (by kernel_rfl) Tryz.call49 ?_
  refine rcall 51 [rS s] w1 (by kernel_rfl) Tryz.call51 ?_
  refine rcall 51 [rS u] w2 (by kernel_rfl) Tryz.call51 ?_
  refine rcall 53 [iz p.num,pz q.den] t1 (by kernel_rfl) Tryz.call53 ?_
  refine rcall 53 [iz q.num,pz p.den] t2 (by kernel_rfl) Tryz.call53 ?_
  refine rcall 122 [iz (p.num*(q.den:Int)),iz (q.num*(p.den:Int))] t4 (by kernel_rfl) Tryz.call122 ?_
  refine rcall 53 [pz p.den,pz q.den] t3 (by kernel_rfl) Tryz.call53 ?_
  refine rcall 52 [iz (p.num*(q.den:Int)+q.num*(p.den:Int)),pz (p.den*q.den)] hf (by kernel_rfl) Tryz.call52 ?_
  exact rret Tryz.func60 (by kernel_rfl)
end
end Go.Proofs.YtbhcckhbbclemaaGreatDoor.Ab
namespace Go.Proofs.YtbhcckhbbclemaaGreatDoor
open Go.RowKit Pl
theorem empty_app (b:ByteArray):(⟨#[]⟩:ByteArray)++b=b:=Ab.ba_ext (by simp)
set_option maxHeartbeats 2000000 in
set_option maxRecDepth 100000 in
theorem of_pos (a d:Nat) (w:World) (ha:a≤2000000000000000000) (hd:d≤1000000000000000000) (hd0:0<d) (p q g:Nat) (hg:g=Nat.gcd a d) (hp:p=a/g) (hq:q=d/g) :
 Calls Tryz.prog 50 #[.int .i64 (a:Int),.int .i64 (d:Int)] w fun e w'=>e = .returned (.string (if q=1 then Ab.decB p else Ab.decB p++⟨#[47]⟩++Ab.decB q))∧Below w.heap.size w w':=by
 have hg0:0<g:=by rw [hg];exact Nat.gcd_pos_of_pos_right _ hd0
 have hpa:p≤a:=by rw [hp];exact Nat.div_le_self _ _
 have hqd:q≤d:=by rw [hq];exact Nat.div_le_self _ _
 have hq0:0<q:=by rw [hq,hg];exact Nat.div_pos (Nat.gcd_le_right _ hd0) (Nat.gcd_pos_of_pos_right _ hd0)
 have cg:=Lib.hid (rgcd_any a d w (by omega) (by omega))
 rw [← hg] at cg
 have c1:=Lib.hid (fun W=>decimal1 p W (by omega))
 have c2:=Lib.hid (fun W=>decimal1 q W (by omega))
 have s1:(Ab.decB p).size≤19:=Ab.decB_size (k:=18) (by omega)
 have s2:(Ab.decB q).size≤19:=Ab.decB_size (k:=18) (by omega)
 have T:=Lib.hid (show wrap64 ((a:Int)/(g:Int))=(p:Int)∧wrap64 ((d:Int)/(g:Int))=(q:Int) from by
  have e1:(a:Int)/(g:Int)=(p:Int):=by rw [hp];simp
  have e2:(d:Int)/(g:Int)=(q:Int):=by rw [hq];simp
  rw [e1,e2]
  exact ⟨IntWalk.wrap64_in _ ⟨by omega,by omega⟩,IntWalk.wrap64_in _ ⟨by omega,by omega⟩⟩)
 have hz0:((g:Int)==0)=false:=by simp;omega
 have hz1:¬ (g:Int)=0:=by omega
 have hz3:((g:Int) == -1)=false:=by simp
 have b1:(a:Int)≤2000000000000000000:=by omega
 have b2:(d:Int)≤1000000000000000000:=by omega
 have b3:(p:Int)≤2000000000000000000:=by omega
 have b4:(q:Int)≤1000000000000000000:=by omega
 have b5:(1:Int)≤d:=by omega
 have b6:(1:Int)≤q:=by omega
 have HQ:=Lib.hid (And.intro hq0 (And.intro s1 s2))
 obtain ⟨res,hqq⟩:∃ res,res=(if q=1 then Ab.decB p else Ab.decB p++⟨#[47]⟩++Ab.decB q):=⟨_,rfl⟩
 rw [← hqq]
 have HQQ:=Lib.hid hqq
 clear hqq
 clear hg hp hq hpa hqd hg0 hd0 ha hd hq0 s1 s2
 go_enter Tryz.func50,Tryz.ntmps50
 go_wp2_with fail
 rw [show max (a:Int) (-(a:Int))=(a:Int) by omega]
 refine (cg.out).mono ?_
 rintro e w1 ⟨rfl,hb⟩
 go_wp2
 go_quiet (fail)
 have hb2:=drewN0 hb nq
 clear hb
 generalize w1.drewN nq=w2 at *
 rw [T.out.1,T.out.2]
 go_wp2_with fail
 rw [show max (p:Int) (-(p:Int))=(p:Int) by omega]
 refine (c1.out _).mono ?_
 rintro e w3 ⟨rfl,rfl⟩
 obtain ⟨h0,s1,s2⟩:=HQ.out
 by_cases hq1:q=1
 ·have k1:¬ (1:Int)<q:=by omega
  have hr:=Lib.hid (HQQ.out.trans (if_pos hq1))
  clear hq1 h0 HQQ
  go_wp2
  go_ret
  have E:(⟨#[]⟩:ByteArray)++Ab.decB p=res:=by rw [hr.out];rw [empty_app]
  exact ⟨congrArg (fun s=>Ending.returned (Value.string s)) E,hb2⟩
 ·have k1:(1:Int)<q:=by omega
  have hr:=Lib.hid (HQQ.out.trans (if_neg hq1))
  clear hq1 h0 HQQ
  go_wp2_with fail
  refine (c2.out _).mono ?_
  rintro e w4 ⟨rfl,rfl⟩
  go_wp2
  go_ret
  have E:(⟨#[]⟩:ByteArray)++Ab.decB p++⟨#[47]⟩++Ab.decB q=res:=by rw [hr.out];rw [empty_app]
  exact ⟨congrArg (fun s=>Ending.returned (Value.string s)) E,hb2⟩
set_option maxHeartbeats 2000000 in
set_option maxRecDepth 100000 in
theorem of_neg (a d:Nat) (w:World) (ha0:0<a) (ha:a≤2000000000000000000) (hd:d≤1000000000000000000) (hd0:0<d) (p q g:Nat) (hg:g=Nat.gcd a d) (hp:p=a/g) (hq:q=d/g) :
 Calls Tryz.prog 50 #[.int .i64 (-(a:Int)),.int .i64 (d:Int)] w fun e w'=>e = .returned (.string (if q=1 then (⟨#[45]⟩++Ab.decB p) else (⟨#[45]⟩++Ab.decB p)++⟨#[47]⟩++Ab.decB q))∧Below w.heap.size w w':=by
 have hg0:0<g:=by rw [hg];exact Nat.gcd_pos_of_pos_right _ hd0
 have hpa:p≤a:=by rw [hp];exact Nat.div_le_self _ _
 have hqd:q≤d:=by rw [hq];exact Nat.div_le_self _ _
 have hq0:0<q:=by rw [hq,hg];exact Nat.div_pos (Nat.gcd_le_right _ hd0) (Nat.gcd_pos_of_pos_right _ hd0)
 have hp0:0<p:=by rw [hp,hg];exact Nat.div_pos (Nat.gcd_le_left _ ha0) (Nat.gcd_pos_of_pos_left _ ha0)
 have cg:=Lib.hid (rgcd_any a d w (by omega) (by omega))
 rw [← hg] at cg
 have c1:=Lib.hid (fun W=>decimal1 p W (by omega))
 have c2:=Lib.hid (fun W=>decimal1 q W (by omega))
 have s1:(Ab.decB p).size≤19:=Ab.decB_size (k:=18) (by omega)
 have s2:(Ab.decB q).size≤19:=Ab.decB_size (k:=18) (by omega)
 have T:=Lib.hid (show wrap64 (-((a:Int)/(g:Int)))=(-(p:Int))∧wrap64 ((d:Int)/(g:Int))=(q:Int) from by
  have e1:(a:Int)/(g:Int)=(p:Int):=by rw [hp];simp
  have e2:(d:Int)/(g:Int)=(q:Int):=by rw [hq];simp
  rw [e1,e2]
  exact ⟨IntWalk.wrap64_in _ ⟨by omega,by omega⟩,IntWalk.wrap64_in _ ⟨by omega,by omega⟩⟩)
 have hz0:((g:Int)==0)=false:=by simp;omega
 have hz1:¬ (g:Int)=0:=by omega
 have hz3:((g:Int) == -1)=false:=by simp
 have b1:(a:Int)≤2000000000000000000:=by omega
 have b2:(d:Int)≤1000000000000000000:=by omega
 have b3:(p:Int)≤2000000000000000000:=by omega
 have b4:(q:Int)≤1000000000000000000:=by omega
 have b5:(1:Int)≤d:=by omega
 have b6:(1:Int)≤q:=by omega
 have b7:(1:Int)≤a:=by omega
 have b8:(1:Int)≤p:=by omega
 have HQ:=Lib.hid (And.intro hq0 (And.intro s1 s2))
 obtain ⟨res,hqq⟩:∃ res,res=(if q=1 then (⟨#[45]⟩++Ab.decB p) else (⟨#[45]⟩++Ab.decB p)++⟨#[47]⟩++Ab.decB q):=⟨_,rfl⟩
 rw [← hqq]
 have HQQ:=Lib.hid hqq
 clear hqq
 clear hg hp hq hpa hqd hg0 hd0 ha hd hq0 s1 s2
 go_enter Tryz.func50,Tryz.ntmps50
 go_wp2_with fail
 rw [show max (-(a:Int)) (a:Int)=(a:Int) by omega]
 refine (cg.out).mono ?_
 rintro e w1 ⟨rfl,hb⟩
 go_wp2
 go_quiet (fail)
 have hb2:=drewN0 hb nq
 clear hb
 generalize w1.drewN nq=w2 at *
 rw [T.out.1,T.out.2]
 go_wp2_with fail
 rw [show max (-(p:Int)) (p:Int)=(p:Int) by omega]
 refine (c1.out _).mono ?_
 rintro e w3 ⟨rfl,rfl⟩
 obtain ⟨h0,s1,s2⟩:=HQ.out
 by_cases hq1:q=1
 ·have k1:¬ (1:Int)<q:=by omega
  have hr:=Lib.hid (HQQ.out.trans (if_pos hq1))
  clear hq1 h0 HQQ
  go_wp2
  go_ret
  have E:(⟨#[45]⟩:ByteArray)++Ab.decB p=res:=by rw [hr.out]
  exact ⟨congrArg (fun s=>Ending.returned (Value.string s)) E,hb2⟩
 ·have k1:(1:Int)<q:=by omega
  have hr:=Lib.hid (HQQ.out.trans (if_neg hq1))
  clear hq1 h0 HQQ
  go_wp2_with fail
  refine (c2.out _).mono ?_
  rintro e w4 ⟨rfl,rfl⟩
  go_wp2
  go_ret
  have E:(⟨#[45]⟩:ByteArray)++Ab.decB p++⟨#[47]⟩++Ab.decB q=res:=by rw [hr.out]
  exact ⟨congrArg (fun s=>Ending.returned (Value.string s)) E,hb2⟩
end Go.Proofs.YtbhcckhbbclemaaGreatDoor
namespace Go.Proofs.YtbhcckhbbclemaaGreatDoor.Ab
open Go.RowKit Go.Proofs.YtbhcckhbbclemaaGreatDoor Pl
def zeroT:ByteArray:=⟨#[48]⟩
def oneT:ByteArray:=⟨#[49]⟩
def decF (s:ByteArray):Bool:=if s.size=0 then false else if 1<s.size∧(bytesOf s).head?=some 48 then false else digitsB s
theorem decF_dec (n:Nat):decF (decB n)=true:=by
 unfold decF
 have e:bytesOf (decB n)=Lib.decDigits n:=decB_list n
 rw [if_neg (by have:=decB_pos n;omega),if_neg,digitsB_iff]
 ·exact decB_dig n
 ·rintro ⟨h1,h2⟩
  rw [e] at h2
  by_cases h0:0<n
  ·exact dec_head h0 h2
  ·have:n=0:=by omega
   subst this
   rw [dec0] at h1
   exact absurd h1 (by decide)
theorem decF_of {s:ByteArray} (h:decF s=true):s=decB (natOf (bytesOf s)):=by
 unfold decF at h
 split at h
 ·cases h
 ·split at h
  ·cases h
  ·rename_i h0 h1
   have hd:=digitsB_iff.1 h
   refine ba_ext ?_
   rw [decB_list]
   refine (dec_natOf (bytesOf s).length (bytesOf s) rfl hd ?_ ?_).symm
   ·intro e;apply h0;rw [← bytesOf_length,e];rfl
   ·by_cases hl:(bytesOf s).length=1
    ·exact .inl hl
    ·right;intro e;apply h1
     refine ⟨?_,e⟩
     rw [bytesOf_length] at hl
     omega
def negB (s:ByteArray):Bool:=(bytesOf s).head?==some 45
def stripB (s:ByteArray):ByteArray:=if negB s=true then s.extract 1 s.size else s
def checkB (s:ByteArray):Int :=
 if decF ((stripB s).extract 0 (slashB (stripB s)))=false∨(negB s=true∧(stripB s).extract 0 (slashB (stripB s))=zeroT) then 1
 else if slashB (stripB s)<(stripB s).size∧(decF ((stripB s).extract (slashB (stripB s)+1) (stripB s).size)=false∨(stripB s).extract (slashB (stripB s)+1) (stripB s).size=zeroT∨(stripB s).extract (slashB (stripB s)+1) (stripB s).size=oneT) then 1
 else if 600<slashB (stripB s)∨600<(stripB s).size-slashB (stripB s)-1 then 4
 else if slashB (stripB s)<(stripB s).size∧Nat.gcd (natOf (bytesOf ((stripB s).extract 0 (slashB (stripB s))))) (natOf (bytesOf ((stripB s).extract (slashB (stripB s)+1) (stripB s).size)))≠1 then 1 else 0
theorem decB_inj {n m:Nat} (h:decB n=decB m):n=m:=by rw [← decB_nat n,h,decB_nat]
theorem ext_all (s:ByteArray):s.extract 0 s.size=s:=by
 refine ba_ext ?_
 show bytesOf (s.extract 0 s.size)=bytesOf s
 rw [bytesOf_extract,List.drop_zero,List.take_of_length_le (by rw [bytesOf_length];exact Nat.le_refl _)]
theorem slash_split {s:ByteArray} (h:slashB s<s.size):s=s.extract 0 (slashB s)++(⟨#[47]⟩++s.extract (slashB s+1) s.size):=by
 refine ba_ext ?_
 show bytesOf s=bytesOf _
 have e1:bytesOf (s.extract 0 (slashB s)++(⟨#[47]⟩++s.extract (slashB s+1) s.size))=bytesOf (s.extract 0 (slashB s))++(47::bytesOf (s.extract (slashB s+1) s.size)):=by simp [bytesOf]
 have e2:(bytesOf s).take s.size=bytesOf s:=List.take_of_length_le (by rw [bytesOf_length];exact Nat.le_refl _)
 rw [e1,bytesOf_extract,bytesOf_extract,List.drop_zero,e2]
 have hl:slashB s<(bytesOf s).length:=by rw [bytesOf_length];exact h
 have hk:(bytesOf s)[slashB s]'hl=47:=by
  have:=List.findIdx_getElem (xs:=bytesOf s) (p:=fun c=>c==47) (w:=hl)
  exact eq_of_beq this
 conv=>lhs;rw [← List.take_append_drop (slashB s) (bytesOf s),List.drop_eq_getElem_cons hl,hk]
theorem neg_split {s:ByteArray} (h:negB s=true):s=⟨#[45]⟩++stripB s:=by
 have hh:(bytesOf s).head?=some 45:=eq_of_beq h
 refine ba_ext ?_
 show bytesOf s=bytesOf _
 unfold stripB
 rw [if_pos h]
 have e1:bytesOf (⟨#[45]⟩++s.extract 1 s.size)=45::bytesOf (s.extract 1 s.size):=by simp [bytesOf]
 rw [e1,bytesOf_extract,List.take_of_length_le (by rw [bytesOf_length];exact Nat.le_refl _)]
 generalize bytesOf s=l at hh ⊢
 cases l with
 | nil=>cases hh
 | cons c r =>
   injection hh with hh
   rw [hh];rfl
theorem strip_write (q:Rat):negB (writeB q)=decide (q.num<0)∧stripB (writeB q)=bodyB q:=by
 by_cases hn:q.num<0
 ·obtain ⟨f1,⟨h0,hc⟩,f3,f4,f5⟩:=neg_facts hn
  have e:negB (writeB q)=true:=by
   unfold negB
   have h2:bytesOf (writeB q)=45::bytesOf (bodyB q):=by rw [write_neg hn];simp [bytesOf]
   rw [h2];rfl
  refine ⟨by rw [e,decide_eq_true hn],?_⟩
  unfold stripB
  rw [if_pos e,f3]
 ·have e:negB (writeB q)=false:=by
   unfold negB
   obtain ⟨c,r,h1,h2⟩:=body_list q
   have h3:bytesOf (bodyB q)=c::r:=h1
   rw [write_pos hn,h3]
   show (some c==some 45)=false
   rw [beq_eq_false_iff_ne]
   intro h
   injection h with h
   rw [h] at h2
   exact absurd h2 (by decide)
  refine ⟨by rw [e,decide_eq_false hn],?_⟩
  unfold stripB
  rw [if_neg (by rw [e];exact Bool.false_ne_true),write_pos hn]
theorem body_cut (q:Rat):(bodyB q).extract 0 (slashB (bodyB q))=decB q.num.natAbs∧(q.den≠1→(bodyB q).extract (slashB (bodyB q)+1) (bodyB q).size=decB q.den)∧(slashB (bodyB q)<(bodyB q).size↔q.den≠1):=by
 have hsl:=slash_body q
 have hsz:=body_len q
 refine ⟨?_,fun hd=>?_,?_⟩
 ·rw [hsl]
  by_cases h:q.den=1
  ·rw [body_one h,textB_nat,ext_all]
  ·rw [body_two h,textB_nat,ext_lo]
 ·rw [hsl,body_two hd,textB_nat]
  exact ext_hi _ _
 ·rw [hsl,hsz]
  by_cases h:q.den=1
  ·rw [if_pos h];simp [h]
  ·rw [if_neg h];simp [h];omega
theorem gcd_of (q:Rat):Nat.gcd q.num.natAbs q.den=1:=q.reduced
theorem check_write {q:Rat} (h1:(decB q.num.natAbs).size≤600) (h2:(decB q.den).size≤600):checkB (writeB q)=0:=by
 obtain ⟨s1,s2⟩:=strip_write q
 obtain ⟨c1,c2,c3⟩:=body_cut q
 have hsl:=slash_body q
 have hsz:=body_len q
 unfold checkB
 rw [s2,s1,c1]
 rw [if_neg,if_neg,if_neg,if_neg]
 ·rintro ⟨k,e⟩
  have hd:=c3.1 k
  rw [c2 hd,decB_nat,decB_nat] at e
  exact e (gcd_of q)
 ·rw [hsl,hsz]
  by_cases h:q.den=1
  ·rw [if_pos h];omega
  ·rw [if_neg h];omega
 ·rintro ⟨k,e⟩
  have hd:=c3.1 k
  rw [c2 hd] at e
  rcases e with e|e|e
  ·rw [decF_dec] at e;cases e
  ·have:=decB_inj (e.trans dec0.symm)
   exact q.den_nz this
  ·exact hd (decB_inj (e.trans dec1.symm))
 ·rintro (e|⟨e1,e2⟩)
  ·rw [decF_dec] at e;cases e
  ·have:=decB_inj (e2.trans dec0.symm)
   have:=of_decide_eq_true e1
   omega
theorem check_zero {s:ByteArray} (h:checkB s=0):∃ q:Rat,s=writeB q∧(decB q.num.natAbs).size≤600∧(decB q.den).size≤600:=by
 unfold checkB at h
 split at h
 ·exact absurd h (by decide)
 rename_i g1
 split at h
 ·exact absurd h (by decide)
 rename_i g2
 split at h
 ·exact absurd h (by decide)
 rename_i g3
 split at h
 ·exact absurd h (by decide)
 rename_i g4
 clear h
 obtain ⟨t,ht⟩:∃ t,t=stripB s:=⟨_,rfl⟩
 rw [← ht] at g1 g2 g3 g4
 obtain ⟨k,hk⟩:∃ k,k=slashB t:=⟨_,rfl⟩
 rw [← hk] at g1 g2 g3 g4
 have ha:decF (t.extract 0 k)=true:=by
  cases e:decF (t.extract 0 k) with
  | true=>rfl
  | false=>exact absurd (.inl e) g1
 have hz:negB s=true→t.extract 0 k≠zeroT:=fun e1 e2=>g1 (.inr ⟨e1,e2⟩)
 have hae:=decF_of ha
 obtain ⟨n,hn⟩:∃ n,n=natOf (bytesOf (t.extract 0 k)):=⟨_,rfl⟩
 rw [← hn] at hae g4
 have hkl:k≤t.size:=by rw [hk];exact slashB_le t
 have hasz:(decB n).size=k:=by rw [← hae,ByteArray.size_extract];omega
 have hn0:negB s=true→n≠0:=by
  intro e1 e2
  apply hz e1
  rw [hae,e2,dec0];rfl
 obtain ⟨z,hz1,hz2⟩:∃ z:Int,z.natAbs=n∧decide (z<0)=negB s:=by
  cases e:negB s with
  | true=>exact ⟨-(n:Int),by simp,by have:=hn0 e;rw [decide_eq_true_iff];omega⟩
  | false=>exact ⟨(n:Int),by simp,by rw [decide_eq_false_iff_not];omega⟩
 have fin:∀ q:Rat,q.num=z→bodyB q=t→s=writeB q:=by
  intro q e1 e2
  by_cases hneg:negB s=true
  ·have:q.num<0:=by rw [e1];exact of_decide_eq_true (hz2.trans hneg)
   rw [write_neg this,e2,ht]
   exact neg_split hneg
  ·have h0:negB s=false:=by cases e:negB s with
    | true=>exact absurd e hneg
    | false=>rfl
   have:¬ q.num<0:=by rw [e1];exact of_decide_eq_false (hz2.trans h0)
   rw [write_pos this,e2,ht]
   unfold stripB
   rw [if_neg hneg]
 by_cases hlt:k<t.size
 ·have hd:decF (t.extract (k+1) t.size)=true:=by
   cases e:decF (t.extract (k+1) t.size) with
   | true=>rfl
   | false=>exact absurd ⟨hlt,.inl e⟩ g2
  have hde:=decF_of hd
  obtain ⟨m,hm⟩:∃ m,m=natOf (bytesOf (t.extract (k+1) t.size)):=⟨_,rfl⟩
  rw [← hm] at hde g4
  have hm0:m≠0:=by
   intro e
   exact g2 ⟨hlt,.inr (.inl (by rw [hde,e,dec0];rfl))⟩
  have hm1:m≠1:=by
   intro e
   exact g2 ⟨hlt,.inr (.inr (by rw [hde,e,dec1];rfl))⟩
  have hg:Nat.gcd n m=1:=by
   by_cases e:Nat.gcd n m=1
   ·exact e
   ·exact absurd ⟨hlt,e⟩ g4
  obtain ⟨p1,p2⟩:=mk_parts z hm0
  rw [hz1,hg] at p1 p2
  have q1:(mkRat z m).num=z:=by rw [p1];simp
  have q2:(mkRat z m).den=m:=by rw [p2];simp
  refine ⟨mkRat z m,fin _ q1 ?_,by rw [q1,hz1,hasz];omega,?_⟩
  ·rw [body_two (by rw [q2];exact hm1),textB_nat,q1,hz1,q2,← hae,← hde,hk]
   exact (slash_split (hk▸hlt)).symm
  ·rw [q2,← hde,ByteArray.size_extract];omega
 ·have hkt:k=t.size:=by omega
  have q1:((z:Int):Rat).num=z:=rfl
  have q2:((z:Int):Rat).den=1:=rfl
  refine ⟨(z:Rat),fin _ q1 ?_,by rw [q1,hz1,hasz];omega,by rw [q2,dec1];decide⟩
  rw [body_one q2,textB_nat,q1,hz1,← hae,hkt,ext_all]
end Go.Proofs.YtbhcckhbbclemaaGreatDoor.Ab
