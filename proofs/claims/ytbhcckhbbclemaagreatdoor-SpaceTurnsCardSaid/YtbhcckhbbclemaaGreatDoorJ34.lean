/- Parts of the proof, joined. -/
import Derived.Test.YtbhcckhbbclemaaGreatDoorJ33
import Derived.Test.YtbhcckhbbclemaaGreatDoorJ26
set_option linter.unusedSimpArgs false
set_option linter.unusedVariables false
namespace Go.Proofs.YtbhcckhbbclemaaGreatDoor.Ab
open Go.RowKit Go.Proofs.YtbhcckhbbclemaaGreatDoor Pl
theorem mul_run {o:Oper} {ρ:Operand→Value} {w:World} {x y:Operand} {a b:Int} (ho:o.op = .binOp .mul 3 x y 3) (hx:ρ x = .int .i64 a) (hy:ρ y = .int .i64 b) (h:-9223372036854775808≤a*b∧a*b≤9223372036854775807) :
 (execOp ρ o).run Tryz.prog w = .ok (.value (.int .i64 (a*b))) w:=by
 simp only [execOp,ho,hx,hy]
 refine run_v ?_
 have e:IntKind.i64.wrap (a*b)=a*b:=by rw [IntWalk.i64_left,IntWalk.wrap64_in _ h]
 simp [go_sem,e]
theorem addi_run {o:Oper} {ρ:Operand→Value} {w:World} {x y:Operand} {a b:Int} (ho:o.op = .binOp .add 3 x y 3) (hx:ρ x = .int .i64 a) (hy:ρ y = .int .i64 b) (h:-9223372036854775808≤a+b∧a+b≤9223372036854775807) :
 (execOp ρ o).run Tryz.prog w = .ok (.value (.int .i64 (a+b))) w:=by
 simp only [execOp,ho,hx,hy]
 refine run_v ?_
 have e:IntKind.i64.wrap (a+b)=a+b:=by rw [IntWalk.i64_left,IntWalk.wrap64_in _ h]
 simp [go_sem,e]
theorem dec_lt {n k:Nat} (h:(decB n).size≤k):n<10^k:=by
 have:=natOf_lt (decB_dig n)
 rw [decB_nat,bytesOf_length] at this
 exact Nat.lt_of_lt_of_le this (Nat.pow_le_pow_right (by omega) h)
abbrev qy (q:Rat):AV Kr := .tup [.sc (.sp (csIsR (.int .i64 q.num) rfl false (fun h=>by cases h))),.sc (.sp (csIsR (.int .i64 (q.den:Int)) rfl false (fun h=>by cases h))),.sc (.lit (.bool true))]
theorem qany_yes {q:Rat} {β:List Nat} {v:Value} {w:World} (h:(qy q).holds β v w):(qany true).holds β v w:=by
 obtain ⟨vs,rfl,a,r,rfl,h1,b,r2,rfl,h2,c,r3,rfl,h3,h4⟩:=h
 exact ⟨_,rfl,a,_,rfl,⟨q.num,h1⟩,b,_,rfl,⟨(q.den:Int),h2⟩,c,_,rfl,h3,h4⟩
theorem to_qy1 {q:Rat} {n:Int} (hn:n=q.num) (hd:q.den=1) {β:List Nat} {v:Value} {w:World} (h:(AV.tup [.sc (.sp (csIsR (.int .i64 n) rfl false (fun h=>by cases h))),.sc (.lit (.int .i64 1)),.sc (.lit (.bool true))]:AV Kr).holds β v w):(qy q).holds β v w:=by
 subst hn
 obtain ⟨vs,rfl,a,r,rfl,h1,b,r2,rfl,h2,c,r3,rfl,h3,h4⟩:=h
 have e:[b] = [.int .i64 1]:=h2.1
 exact ⟨_,rfl,a,_,rfl,h1,b,_,rfl,(by show [b] = [Value.int .i64 (q.den:Int)];rw [hd];exact e),c,_,rfl,h3,h4⟩
theorem to_qy2 {q:Rat} {n:Int} {d:Nat} (hn:n=q.num) (hd:d=q.den) {β:List Nat} {v:Value} {w:World} (h:(AV.tup [.sc (.sp (csIsR (.int .i64 n) rfl false (fun h=>by cases h))),.sc (.sp (csIsR (.int .i64 (d:Int)) rfl false (fun h=>by cases h))),.sc (.lit (.bool true))]:AV Kr).holds β v w):(qy q).holds β v w:=by
 subst hn
 subst hd
 exact h
theorem quickYes {q:Rat} (hq:Sq q):Fits Tryz.prog 49 [rS (writeB q)] (qy q):=by
 have hbs:=body_len q
 have hsl:=slash_body q
 obtain ⟨k1,k2,k3⟩:=body_cut q
 have n9:=dec_lt hq.1
 have hs9:=hq.1
 have h100:(10:Nat)^9=1000000000:=by decide
 have v1:=valueF (d:=decB q.num.natAbs) (n:=q.num.natAbs) (decB_dig _) (by omega) (decB_nat _)
 by_cases hn:q.num<0
 ·obtain ⟨f1,f2,f3,f4,f5⟩:=neg_facts hn
  have e1:-(q.num.natAbs:Int)=q.num:=by omega
  by_cases hd:q.den=1
  ·rw [if_pos hd] at hbs
   refine rres (quick_yes1n (u:=bodyB q) (d1:=decB q.num.natAbs) (n1:=q.num.natAbs) ?_ ?_ f1 f2 f3 f4 (by omega) ?_ ?_ k1 v1 ?_) (fun β v w h=>to_qy1 e1 hd h)
   ·rw [decide_eq_false_iff_not];omega
   ·rw [decide_eq_true_iff];omega
   ·rw [hsl,decide_eq_false_iff_not];omega
   ·rw [hsl,decide_eq_false_iff_not];omega
   ·rw [hsl,decide_eq_false_iff_not];omega
  ·rw [if_neg hd] at hbs
   have hd9:(decB q.den).size≤9:=by rcases hq.2 with h|h;exact absurd h hd;exact h
   have v2:=valueF (d:=decB q.den) (n:=q.den) (decB_dig _) (by omega) (decB_nat _)
   refine rres (quick_yes2n (u:=bodyB q) (d1:=decB q.num.natAbs) (d2:=decB q.den) (n1:=q.num.natAbs) (n2:=q.den) ?_ ?_ f1 f2 f3 f4 (by omega) ?_ ?_ k1 v1 ?_ (k2 hd) v2) (fun β v w h=>to_qy2 e1 rfl h)
   ·rw [decide_eq_false_iff_not];omega
   ·rw [decide_eq_true_iff];omega
   ·rw [hsl,decide_eq_false_iff_not];omega
   ·rw [hsl,decide_eq_false_iff_not];omega
   ·rw [hsl,decide_eq_true_iff];omega
 ·have hw:=write_pos hn
  obtain ⟨c,c1,c2⟩:=body_head q
  have h0:0<(bodyB q).size:=c1.1
  have e1:(q.num.natAbs:Int)=q.num:=by omega
  rw [hw]
  by_cases hd:q.den=1
  ·rw [if_pos hd] at hbs
   refine rres (quick_yes1p (s:=bodyB q) (d1:=decB q.num.natAbs) (n1:=q.num.natAbs) ?_ ?_ c1 c2 ?_ ?_ k1 v1 ?_) (fun β v w h=>to_qy1 e1 hd h)
   ·rw [decide_eq_false_iff_not];omega
   ·rw [decide_eq_true_iff];omega
   ·rw [hsl,decide_eq_false_iff_not];omega
   ·rw [hsl,decide_eq_false_iff_not];omega
   ·rw [hsl,decide_eq_false_iff_not];omega
  ·rw [if_neg hd] at hbs
   have hd9:(decB q.den).size≤9:=by rcases hq.2 with h|h;exact absurd h hd;exact h
   have v2:=valueF (d:=decB q.den) (n:=q.den) (decB_dig _) (by omega) (decB_nat _)
   refine rres (quick_yes2p (s:=bodyB q) (d1:=decB q.num.natAbs) (d2:=decB q.den) (n1:=q.num.natAbs) (n2:=q.den) ?_ ?_ c1 c2 ?_ ?_ k1 v1 ?_ (k2 hd) v2) (fun β v w h=>to_qy2 e1 rfl h)
   ·rw [decide_eq_false_iff_not];omega
   ·rw [decide_eq_true_iff];omega
   ·rw [hsl,decide_eq_false_iff_not];omega
   ·rw [hsl,decide_eq_false_iff_not];omega
   ·rw [hsl,decide_eq_true_iff];omega
theorem ofF {n:Int} {d:Nat} (hn:n.natAbs≤2000000000000000000) (hd:d≤1000000000000000000) (h0:0<d):Fits Tryz.prog 50 [rI n,rI (d:Int)] (rS (writeB (mkRat n d))):=by
 intro β w vs hv
 obtain ⟨v,u,rfl,h1,h2⟩:=args2 hv
 rw [r_is h1,r_is h2]
 have hw:=frac_write n h0
 by_cases hneg:n<0
 ·have e:n = -(n.natAbs:Int):=by omega
  have h:=of_neg n.natAbs d w (by omega) hn hd h0 _ _ _ rfl rfl rfl
  have hp0:0<n.natAbs/Nat.gcd n.natAbs d:=Nat.div_pos (Nat.gcd_le_left _ (by omega)) (Nat.gcd_pos_of_pos_right _ h0)
  have et:textB (sgz (decide (n<0)) (n.natAbs/Nat.gcd n.natAbs d))=⟨#[45]⟩++decB (n.natAbs/Nat.gcd n.natAbs d):=by
   rw [decide_eq_true hneg]
   generalize n.natAbs/Nat.gcd n.natAbs d=m at hp0
   show textB (-(m:Int))=_
   unfold textB
   rw [if_pos (by omega)]
   simp
  rw [et,textB_nat] at hw
  rw [← e,hw] at h
  exact h.mono fun e w' ⟨e1,e2⟩=>⟨_,e1,e2,is_r⟩
 ·have e:n=(n.natAbs:Int):=by omega
  have h:=of_pos n.natAbs d w hn hd h0 _ _ _ rfl rfl rfl
  have et:textB (sgz (decide (n<0)) (n.natAbs/Nat.gcd n.natAbs d))=decB (n.natAbs/Nat.gcd n.natAbs d):=by
   rw [decide_eq_false hneg]
   exact textB_nat _
  rw [et,textB_nat] at hw
  rw [← e,hw] at h
  exact h.mono fun e w' ⟨e1,e2⟩=>⟨_,e1,e2,is_r⟩
section
variable {p q:Rat}
theorem sq_lt (h:Sq q):q.num.natAbs<1000000000∧q.den<1000000000:=by
 have h100:(10:Nat)^9=1000000000:=by decide
 refine ⟨by rw [← h100];exact dec_lt h.1,?_⟩
 rcases h.2 with h|h
 ·omega
 ·rw [← h100];exact dec_lt h
theorem nat_mul_lt {a b:Nat} (ha:a<1000000000) (hb:b<1000000000):a*b<1000000000000000000:=Nat.mul_lt_mul'' ha hb
theorem int_mul_in {a b:Int} (ha:a.natAbs<1000000000) (hb:b.natAbs<1000000000):(a*b).natAbs<1000000000000000000:=by rw [Int.natAbs_mul];exact nat_mul_lt ha hb
theorem mulS (hp:Sq p) (hq:Sq q):Fits Tryz.prog 13 [rS (writeB p),rS (writeB q)] (rS (writeB (p*q))):=by
 obtain ⟨a1,a2⟩:=sq_lt hp
 obtain ⟨b1,b2⟩:=sq_lt hq
 have m1:=int_mul_in a1 b1
 have m2:=nat_mul_lt a2 b2
 have hof:=ofF (n:=p.num*q.num) (d:=p.den*q.den) (by omega) (by omega) (Nat.mul_pos p.den_pos q.den_pos)
 rw [← Rat.mul_def',Int.natCast_mul] at hof
 have m3:((p.den:Int)*(q.den:Int))<1000000000000000000:=by rw [← Int.natCast_mul];omega
 have m4:0≤((p.den:Int)*(q.den:Int)):=by rw [← Int.natCast_mul];omega
 have q1:=quickYes hp
 have q2:=quickYes hq
 generalize writeB p=s at *
 generalize writeB q=u at *
 refine rgo Tryz.func13 (by kernel_rfl) fun w00=>?_
 refine rcall 49 [rS s] q1 (by kernel_rfl) Tryz.call49 ?_
 refine rcall 49 [rS u] q2 (by kernel_rfl) Tryz.call49 ?_
 refine rop2 (.binOp .mul 3 (.tmp 31) (.tmp 32) 3) (.tmp 31) (.tmp 32) (rI p.num) (rI q.num) (rI (p.num*q.num)) (by kernel_rfl) (by simp [Op.operands]) (by simp [Op.operands]) (fun ρ o β w ho hx hy=>⟨_,mul_run ho (r_is hx) (r_is hy) (by omega),is_r⟩) ?_
 refine rop2 (.binOp .mul 3 (.tmp 34) (.tmp 35) 3) (.tmp 34) (.tmp 35) (rI (p.den:Int)) (rI (q.den:Int)) (rI ((p.den:Int)*(q.den:Int))) (by kernel_rfl) (by simp [Op.operands]) (by simp [Op.operands]) (fun ρ o β w ho hx hy=>⟨_,mul_run ho (r_is hx) (r_is hy) (by omega),is_r⟩) ?_
 refine rcall 50 [rI (p.num*q.num),rI ((p.den:Int)*(q.den:Int))] hof (by kernel_rfl) Tryz.call50 ?_
 exact rret Tryz.func13 (by kernel_rfl)
theorem addS (hp:Sq p) (hq:Sq q):Fits Tryz.prog 60 [rS (writeB p),rS (writeB q)] (rS (writeB (p+q))):=by
 obtain ⟨a1,a2⟩:=sq_lt hp
 obtain ⟨b1,b2⟩:=sq_lt hq
 have m1:(p.num*(q.den:Int)).natAbs<1000000000000000000:=int_mul_in a1 (by omega)
 have m5:(q.num*(p.den:Int)).natAbs<1000000000000000000:=int_mul_in b1 (by omega)
 have m2:=nat_mul_lt a2 b2
 have hof:=ofF (n:=p.num*(q.den:Int)+q.num*(p.den:Int)) (d:=p.den*q.den) (by omega) (by omega) (Nat.mul_pos p.den_pos q.den_pos)
 rw [← Rat.add_def',Int.natCast_mul] at hof
 have m3:((p.den:Int)*(q.den:Int))<1000000000000000000:=by rw [← Int.natCast_mul];omega
 have m4:0≤((p.den:Int)*(q.den:Int)):=by rw [← Int.natCast_mul];omega
 have q1:=quickYes hp
 have q2:=quickYes hq
 generalize writeB p=s at *
 generalize writeB q=u at *
 refine rgo Tryz.func60 (by kernel_rfl) fun w00=>?_
 refine rcall 49 [rS s] q1 (by kernel_rfl) Tryz.call49 ?_
 refine rcall 49 [rS u] q2 (by kernel_rfl) Tryz.call49 ?_
 refine rop2 (.binOp .mul 3 (.tmp 31) (.tmp 32) 3) (.tmp 31) (.tmp 32) (rI p.num) (rI (q.den:Int)) (rI (p.num*(q.den:Int))) (by kernel_rfl) (by simp [Op.operands]) (by simp [Op.operands]) (fun ρ o β w ho hx hy=>⟨_,mul_run ho (r_is hx) (r_is hy) (by omega),is_r⟩) ?_
 refine rop2 (.binOp .mul 3 (.tmp 34) (.tmp 35) 3) (.tmp 34) (.tmp 35) (rI q.num) (rI (p.den:Int)) (rI (q.num*(p.den:Int))) (by kernel_rfl) (by simp [Op.operands]) (by simp [Op.operands]) (fun ρ o β w ho hx hy=>⟨_,mul_run ho (r_is hx) (r_is hy) (by omega),is_r⟩) ?_
 refine rop2 (.binOp .add 3 (.tmp 33) (.tmp 36) 3) (.tmp 33) (.tmp 36) (rI (p.num*(q.den:Int))) (rI (q.num*(p.den:Int))) (rI (p.num*(q.den:Int)+q.num*(p.den:Int))) (by kernel_rfl) (by simp [Op.operands]) (by simp [Op.operands]) (fun ρ o β w ho hx hy=>⟨_,addi_run ho (r_is hx) (r_is hy) (by omega),is_r⟩) ?_
 refine rop2 (.binOp .mul 3 (.tmp 38) (.tmp 39) 3) (.tmp 38) (.tmp 39) (rI (p.den:Int)) (rI (q.den:Int)) (rI ((p.den:Int)*(q.den:Int))) (by kernel_rfl) (by simp [Op.operands]) (by simp [Op.operands]) (fun ρ o β w ho hx hy=>⟨_,mul_run ho (r_is hx) (r_is hy) (by omega),is_r⟩) ?_
 refine rcall 50 [rI (p.num*(q.den:Int)+q.num*(p.den:Int)),rI ((p.den:Int)*(q.den:Int))] hof (by kernel_rfl) Tryz.call50 ?_
 exact rret Tryz.func60 (by kernel_rfl)
theorem refMulF (hp:Zs 10000 p) (hq:Zs 10000 q):Fits Tryz.prog 13 [rS (writeB p),rS (writeB q)] (rS (writeB (p*q))):=by
 by_cases h1:Sq p
 ·by_cases h2:Sq q
  ·exact mulS h1 h2
  ·exact mulBig hp hq (rres (quickYes h1) fun _ _ _=>qany_yes) (rres (quickNo h2) fun _ _ _=>qany_no) rfl
 ·by_cases h2:Sq q
  ·exact mulBig hp hq (rres (quickNo h1) fun _ _ _=>qany_no) (rres (quickYes h2) fun _ _ _=>qany_yes) rfl
  ·exact mulBig hp hq (rres (quickNo h1) fun _ _ _=>qany_no) (rres (quickNo h2) fun _ _ _=>qany_no) rfl
theorem refAddF (hp:Zs 10000 p) (hq:Zs 10000 q):Fits Tryz.prog 60 [rS (writeB p),rS (writeB q)] (rS (writeB (p+q))):=by
 by_cases h1:Sq p
 ·by_cases h2:Sq q
  ·exact addS h1 h2
  ·exact addBig hp hq (rres (quickYes h1) fun _ _ _=>qany_yes) (rres (quickNo h2) fun _ _ _=>qany_no) rfl
 ·by_cases h2:Sq q
  ·exact addBig hp hq (rres (quickNo h1) fun _ _ _=>qany_no) (rres (quickYes h2) fun _ _ _=>qany_yes) rfl
  ·exact addBig hp hq (rres (quickNo h1) fun _ _ _=>qany_no) (rres (quickNo h2) fun _ _ _=>qany_no) rfl
end
theorem sub1_run {o:Oper} {ρ:Operand→Value} {w:World} {x y:Operand} {a:Nat} (ho:o.op = .binOp .sub 3 x y 3) (hx:ρ x = .int .i64 (a:Int)) (hy:ρ y = .int .i64 1) (ha:a≤9223372036854775807) :
 (execOp ρ o).run Tryz.prog w = .ok (.value (.int .i64 ((a:Int)-1))) w:=by
 simp only [execOp,ho,hx,hy]
 refine run_v ?_
 have e:IntKind.i64.wrap ((a:Int)-1)=(a:Int)-1:=by
  rw [IntWalk.i64_left,IntWalk.wrap64_in _ ⟨by omega,by omega⟩]
 simp [go_sem,e]
theorem ine_run {o:Oper} {ρ:Operand→Value} {w:World} {x y:Operand} {a b:Int} {r:Bool} (ho:o.op = .binOp .neq 3 x y 3) (hx:ρ x = .int .i64 a) (hy:ρ y = .int .i64 b) (h:(a != b)=r) :
 (execOp ρ o).run Tryz.prog w = .ok (.value (.bool r)) w:=by
 simp only [execOp,ho,hx,hy]
 refine run_v ?_
 rw [← h]
 exact evalP_run (by kernel_rfl) w
section
variable {s t a d:ByteArray} {c k n m g:Nat}
theorem check_empty (h0:decide ((0:Int)<(s.size:Nat))=false) (hsl:Fits Tryz.prog 110 [rS s] (rI (0:Int))) (ha:s.extract 0 0=a) (fa:Fits Tryz.prog 153 [rS a] (rl false)):Fits Tryz.prog 90 [rS s] (.fv (.sc (.lit (.int .i64 1)))):=by
 refine rgo Tryz.func90 (by kernel_rfl) fun w00=>?_
 refine rlen 9 9 Tryz.underlying9 s ?_
 refine rgt 10 0 (s.size:Nat) false h0 ?_
 refine rcall 110 [rS s] hsl (by kernel_rfl) Tryz.call110 ?_
 refine rop2 (.slice 9 (.tmp 21) none (some (.tmp 22)) none) (.tmp 21) (.tmp 22) (rS s) (rI (0:Int)) (rS a) (by kernel_rfl) (by simp [Op.operands]) (by simp [Op.operands]) (fun ρ o β w ho hx hy=>?_) ?_
 ·have:=slice_hi (k:=0) (w:=w) ho Tryz.underlying9 (r_is hx) (r_is hy) (Nat.zero_le _)
  rw [ha] at this
  exact ⟨_,this,is_r⟩
 refine rcall 153 [rS a] fa (by kernel_rfl) Tryz.call153 ?_
 exact rret Tryz.func90 (by kernel_rfl)
end
end Go.Proofs.YtbhcckhbbclemaaGreatDoor.Ab
namespace Go.Proofs.YtbhcckhbbclemaaGreatDoor
open Go.RowKit Pl
set_option maxHeartbeats 1000000 in
theorem decForm_any (s:ByteArray) (w:World) (hs:s.size≤9223372036854775807):Calls Tryz.prog 153 #[.string s] w fun e w'=>e = .returned (.bool (Ab.decF s))∧w'=w:=by
 have cd:=Lib.hid (fun W=>digits_any s W hs)
 by_cases h0:s.size=0
 ·have hr:Ab.decF s=false:=by unfold Ab.decF;rw [if_pos h0]
  have k0:(s.size:Int)=0:=by omega
  rw [hr]
  clear hr h0 cd
  go_enter Tryz.func153,Tryz.ntmps153
  go_wp2
  go_ret
  exact ⟨rfl,rfl⟩
 ·have hp:0<s.size:=by omega
  obtain ⟨c,hc⟩:∃ c:Nat,(s[0]'hp).toNat=c:=⟨_,rfl⟩
  have hh:(bytesOf s).head?=some 48↔c=48:=by
   have h1:=bytes_get hp
   rw [List.head?_eq_getElem?,h1,← hc]
   constructor
   ·intro h;injection h with h;rw [h];rfl
   ·intro h;congr 1;exact UInt8.toNat_inj.1 h
  have k0:((s.size:Int)==0)=false:=by rw [beq_eq_false_iff_ne];omega
  have p0:(0:Int)<s.size:=by omega
  obtain ⟨r,hr⟩:∃ r,r=Ab.decF s:=⟨_,rfl⟩
  rw [← hr]
  unfold Ab.decF at hr
  rw [if_neg h0] at hr
  by_cases h1:1<s.size
  ·have k1:(1:Int)<s.size:=by omega
   by_cases h48:c=48
   ·rw [if_pos ⟨h1,hh.2 h48⟩] at hr
    subst h48
    have HR:=Lib.hid hr
    clear hr hh h1 h0 cd
    go_enter Tryz.func153,Tryz.ntmps153
    go_wp2
    go_ret
    exact ⟨by rw [HR.out];rfl,rfl⟩
   ·rw [if_neg (fun h=>h48 (hh.1 h.2))] at hr
    have k2:((c:Int)==48)=false:=by simp;omega
    have k3:¬ (c:Int)=48:=by omega
    have HR:=Lib.hid hr
    clear hr hh h1 h0 h48
    go_enter Tryz.func153,Tryz.ntmps153
    go_wp2_with fail
    refine (cd.out _).mono ?_
    rintro e w' ⟨rfl,rfl⟩
    go_wp2
    go_ret
    exact ⟨by rw [HR.out];rfl,rfl⟩
  ·rw [if_neg (fun h=>h1 h.1)] at hr
   have k1:¬ (1:Int)<s.size:=by omega
   have HR:=Lib.hid hr
   clear hr hh h1 h0
   go_enter Tryz.func153,Tryz.ntmps153
   go_wp2_with fail
   refine (cd.out _).mono ?_
   rintro e w' ⟨rfl,rfl⟩
   go_wp2
   go_ret
   exact ⟨by rw [HR.out];rfl,rfl⟩
end Go.Proofs.YtbhcckhbbclemaaGreatDoor
namespace Go.Proofs.YtbhcckhbbclemaaGreatDoor.Ab
open Go.RowKit Go.Proofs.YtbhcckhbbclemaaGreatDoor Pl
theorem decFormF {s:ByteArray} (hs:s.size≤9223372036854775807):Fits Tryz.prog 153 [rS s] (rl (decF s)):=by
 intro β w vs hv
 obtain ⟨v,rfl,h1⟩:=args1 hv
 rw [r_is h1]
 exact (decForm_any s w hs).mono fun e w' ⟨e1,e2⟩=>⟨_,e1,by rw [e2];exact Below.refl _ _,rlit rfl⟩
theorem lit_I {z:Int} (β:List Nat) (v:Value) (w:World) (h:(AV.fv (.sc (.lit (.int .i64 z))):AV Kr).holds β v w):(rI z).holds β v w:=h.1
theorem ne_list {a b:ByteArray} (h:a≠b):(a.toList==b.toList)=false:=by
 rw [beq_eq_false_iff_ne]
 intro e
 apply h
 rw [Go.ByteArray.toList_eq,Go.ByteArray.toList_eq] at e
 exact ba_ext e
theorem neg_head {s:ByteArray} (h:negB s=true):∃ h:0<s.size,(s[0]'h).toNat=45:=by
 have hh:(bytesOf s).head?=some 45:=eq_of_beq h
 have hp:0<s.size:=by
  rcases Nat.eq_zero_or_pos s.size with e|e
  ·rw [← bytesOf_length] at e
   rw [List.eq_nil_of_length_eq_zero e] at hh
   cases hh
  ·exact e
 refine ⟨hp,?_⟩
 rw [List.head?_eq_getElem?,bytes_get hp] at hh
 injection hh with hh
 rw [hh];rfl
theorem pos_head {s:ByteArray} (hp:0<s.size) (h:negB s=false):∃ c:Nat,(∃ h:0<s.size,(s[0]'h).toNat=c)∧((c:Int)==45)=false:=by
 refine ⟨_,⟨hp,rfl⟩,?_⟩
 have hh:¬ (bytesOf s).head?=some 45:=by unfold negB at h;rw [beq_eq_false_iff_ne] at h;exact h
 rw [beq_eq_false_iff_ne]
 intro e
 apply hh
 rw [List.head?_eq_getElem?,bytes_get hp]
 congr 1
 apply UInt8.toNat_inj.1
 show (s[0]'hp).toNat=45
 omega
theorem partsT {t:ByteArray} {k n m:Nat} (hts:t.size≤1000000000) (hk:slashB t=k) (hlt:k<t.size) (ha:t.extract 0 k=decB n) (hd:t.extract (k+1) t.size=decB m) (hn:(decB n).size≤100000) (hm:(decB m).size≤100000) :
 Fits Tryz.prog 51 [rS t] (.tup [.ag [.lit (.bool false),.sp (csDi n)],.ag [.lit (.bool false),.sp (csDi m)]]):=by
 have hsl:=slashF (s:=t) (by omega)
 rw [hk] at hsl
 refine rgo Tryz.func51 (by kernel_rfl) fun w00=>?_
 refine rcall 110 [rS t] hsl (by kernel_rfl) Tryz.call110 ?_
 refine rop2 (.call ⟨.builtin .len,#[.tmp 10],#[9]⟩) (.tmp 10) (.tmp 10) (rS t) (rS t) (rI t.size) (by kernel_rfl) (by simp [Op.operands,Call.operands]) (by simp [Op.operands,Call.operands]) (fun ρ o β w ho hx _=>⟨_,rlen_run ho Tryz.underlying9 (r_is hx),is_r⟩) ?_
 refine rop2 (.binOp .eql 3 (.tmp 9) (.tmp 11) 3) (.tmp 9) (.tmp 11) (rI (k:Int)) (rI t.size) (rl false) (by kernel_rfl) (by simp [Op.operands]) (by simp [Op.operands]) (fun ρ o β w ho hx hy=>⟨.bool false,ieq_run ho (r_is hx) (r_is hy) (by simp;omega),rlit rfl⟩) ?_
 refine rop2 (.slice 9 (.tmp 16) none (some (.tmp 17)) none) (.tmp 16) (.tmp 17) (rS t) (rI (k:Int)) (rS (decB n)) (by kernel_rfl) (by simp [Op.operands]) (by simp [Op.operands]) (fun ρ o β w ho hx hy=>?_) ?_
 ·have:=slice_hi (w:=w) ho Tryz.underlying9 (r_is hx) (r_is hy) (by omega)
  rw [ha] at this
  exact ⟨_,this,is_r⟩
 refine rcall 115 [rS (decB n)] (parseDF hn) (by kernel_rfl) Tryz.call115 ?_
 refine rop2 (.binOp .add 3 (.tmp 21) (.const (.int .i64 1)) 3) (.tmp 21) (.const (.int .i64 1)) (rI (k:Int)) (.fv (.sc (.lit (.int .i64 1)))) (rI ((k+1:Nat):Int)) (by kernel_rfl) (by simp [Op.operands]) (by simp [Op.operands]) (fun ρ o β w ho hx hy=>⟨_,add1_run ho (r_is hx) (r_lit hy) (by omega),is_r⟩) ?_
 refine rop2 (.slice 9 (.tmp 20) (some (.tmp 22)) none none) (.tmp 20) (.tmp 22) (rS t) (rI ((k+1:Nat):Int)) (rS (decB m)) (by kernel_rfl) (by simp [Op.operands]) (by simp [Op.operands]) (fun ρ o β w ho hx hy=>?_) ?_
 ·have:=slice_lo (w:=w) ho Tryz.underlying9 (r_is hx) (r_is hy) (by omega)
  rw [hd] at this
  exact ⟨_,this,is_r⟩
 refine rcall 115 [rS (decB m)] (parseDF hm) (by kernel_rfl) Tryz.call115 ?_
 exact rret Tryz.func51 (by kernel_rfl)
theorem rretI {f:FuncId} {w00:World} {c:Cfg Kr} {fn:Func} {z:Int} (hfn:Tryz.prog.funcs[f]?=some fn) (hc:c.res Tryz.prog fn=some (.fv (.sc (.lit (.int .i64 z))))):Ok Tryz.prog f w00 (fun v w=>(rI z).holds [] v w) c :=
 ⟨good_ret hfn _ hc fun _ _ _ h=>h.1⟩
theorem check_neg {s:ByteArray} {z:Int} (hs:s.size≤9223372036854775807) (hne:0<s.size) (hn:negB s=true) (hz:checkB s=z):Fits Tryz.prog 90 [rS s] (rI z):=by
 have hc:=neg_head hn
 have h1:1≤s.size:=hne
 have hsp:stripB s=s.extract 1 s.size:=if_pos hn
 unfold checkB at hz
 rw [hn] at hz
 obtain ⟨t,hext⟩:∃ t,s.extract 1 s.size=t:=⟨_,rfl⟩
 rw [hsp,hext] at hz
 have hts:t.size<9223372036854775807:=by rw [← hext,ByteArray.size_extract];omega
 have hsl:=slashF (s:=t) (by omega)
 have hkl:=slashB_le t
 have hks:slashB t=slashB t:=rfl
 generalize hk:slashB t=k at hsl hkl hks hz
 obtain ⟨a,ha⟩:∃ a,t.extract 0 k=a:=⟨_,rfl⟩
 obtain ⟨d,hd⟩:∃ d,t.extract (k+1) t.size=d:=⟨_,rfl⟩
 have hasz:a.size=k:=by rw [← ha,ByteArray.size_extract];omega
 have hdsz:d.size=t.size-(k+1):=by rw [← hd,ByteArray.size_extract];omega
 rw [ha,hd] at hz
 have fa:=decFormF (s:=a) (by omega)
 have fd:=decFormF (s:=d) (by omega)
 refine rgo Tryz.func90 (by kernel_rfl) fun w00=>?_
 refine rlen 9 9 Tryz.underlying9 s ?_
 refine rgt 10 0 (s.size:Nat) true (by rw [decide_eq_true_iff];omega) ?_
 refine ridn 13 s hc ?_
 refine rsl1 17 9 Tryz.underlying9 s t h1 hext ?_
 refine rcall 110 [rS t] hsl (by kernel_rfl) Tryz.call110 ?_
 refine rshi 21 22 9 Tryz.underlying9 t k a hkl ha ?_
 by_cases c1:decF a=false
 ·rw [if_pos (.inl c1)] at hz
  subst hz
  rw [c1] at fa
  refine rcall 153 [rS a] fa (by kernel_rfl) Tryz.call153 ?_
  exact rretI Tryz.func90 (by kernel_rfl)
 rw [Bool.not_eq_false] at c1
 rw [c1] at fa
 refine rcall 153 [rS a] fa (by kernel_rfl) Tryz.call153 ?_
 refine ridnR 27 s hc ?_
 refine rshi 31 32 9 Tryz.underlying9 t k a hkl ha ?_
 by_cases cz:a=zeroT
 ·rw [if_pos (.inr ⟨rfl,cz⟩)] at hz
  subst hz
  refine rseq 33 9 a ⟨#[48]⟩ true (by rw [cz];exact beq_self_eq_true zeroT.toList) ?_
  exact rretI Tryz.func90 (by kernel_rfl)
 refine rseq 33 9 a ⟨#[48]⟩ false (ne_list cz) ?_
 rw [if_neg (by rintro (h|h);exact absurd (h.symm.trans c1) (by decide);exact cz h.2)] at hz
 refine rlen 38 9 Tryz.underlying9 t ?_
 by_cases hlt:k<t.size
 ·have fl:decide ((k:Int)<(t.size:Nat))=true:=by rw [decide_eq_true_iff];omega
  refine rlss 37 39 (k:Int) (t.size:Nat) true fl ?_
  refine radd 43 k (by omega) ?_
  refine rslo 42 44 9 Tryz.underlying9 t (k+1) d (by omega) hd ?_
  by_cases d1:decF d=false
  ·rw [if_pos ⟨hlt,.inl d1⟩] at hz
   subst hz
   rw [d1] at fd
   refine rcall 153 [rS d] fd (by kernel_rfl) Tryz.call153 ?_
   exact rretI Tryz.func90 (by kernel_rfl)
  rw [Bool.not_eq_false] at d1
  rw [d1] at fd
  refine rcall 153 [rS d] fd (by kernel_rfl) Tryz.call153 ?_
  refine radd 50 k (by omega) ?_
  refine rslo 49 51 9 Tryz.underlying9 t (k+1) d (by omega) hd ?_
  by_cases d0:d=zeroT
  ·rw [if_pos ⟨hlt,.inr (.inl d0)⟩] at hz
   subst hz
   refine rseq 52 9 d ⟨#[48]⟩ true (by rw [d0];exact beq_self_eq_true zeroT.toList) ?_
   exact rretI Tryz.func90 (by kernel_rfl)
  refine rseq 52 9 d ⟨#[48]⟩ false (ne_list d0) ?_
  refine radd 57 k (by omega) ?_
  refine rslo 56 58 9 Tryz.underlying9 t (k+1) d (by omega) hd ?_
  by_cases d2:d=oneT
  ·rw [if_pos ⟨hlt,.inr (.inr d2)⟩] at hz
   subst hz
   refine rseq 59 9 d ⟨#[49]⟩ true (by rw [d2];exact beq_self_eq_true oneT.toList) ?_
   exact rretI Tryz.func90 (by kernel_rfl)
  refine rseq 59 9 d ⟨#[49]⟩ false (ne_list d2) ?_
  rw [if_neg (by rintro ⟨_,h|h|h⟩;exact absurd (h.symm.trans d1) (by decide);exact d0 h;exact d2 h)] at hz
  by_cases l1:600<k
  ·rw [if_pos (.inl l1)] at hz
   subst hz
   refine rgt 63 600 (k:Int) true (by rw [decide_eq_true_iff];omega) ?_
   exact rretI Tryz.func90 (by kernel_rfl)
  refine rgt 63 600 (k:Int) false (by rw [decide_eq_false_iff_not];omega) ?_
  refine rlen 66 9 Tryz.underlying9 t ?_
  refine rsub 67 68 t.size k hkl (by omega) ?_
  refine rop2 (.binOp .sub 3 (.tmp 69) (.const (.int .i64 1)) 3) (.tmp 69) (.const (.int .i64 1)) (rI ((t.size-k:Nat):Int)) (.fv (.sc (.lit (.int .i64 1)))) (rI (((t.size-k:Nat):Int)-1)) (by kernel_rfl) (by simp [Op.operands]) (by simp [Op.operands]) (fun ρ o β w ho hx hy=>⟨_,sub1_run ho (r_is hx) (r_lit hy) (by omega),is_r⟩) ?_
  by_cases l2:600<t.size-k-1
  ·rw [if_pos (.inr l2)] at hz
   subst hz
   refine rgt 70 600 (((t.size-k:Nat):Int)-1) true (by rw [decide_eq_true_iff];omega) ?_
   exact rretI Tryz.func90 (by kernel_rfl)
  refine rgt 70 600 (((t.size-k:Nat):Int)-1) false (by rw [decide_eq_false_iff_not];omega) ?_
  rw [if_neg (by rintro (h|h) <;> omega)] at hz
  refine rlen 74 9 Tryz.underlying9 t ?_
  refine rlss 73 75 (k:Int) (t.size:Nat) true fl ?_
  have hae:=decF_of c1
  have hde:=decF_of d1
  generalize natOf (bytesOf a)=n at hae hz
  generalize natOf (bytesOf d)=m at hde hz
  have hp:=partsT (t:=t) (by omega) hk hlt (ha.trans hae) (hd.trans hde) (by rw [← hae];omega) (by rw [← hde];omega)
  have hm0:0<m:=Nat.pos_of_ne_zero fun e=>d0 (by rw [hde,e,dec0];rfl)
  have hg0:0<Nat.gcd n m:=Nat.gcd_pos_of_pos_right _ hm0
  have hg:=commonF (a:=n) (b:=m) (bd_of (dec_lt (n:=n) (k:=600) (by rw [← hae];omega)) (by omega)) (bd_of (dec_lt (n:=m) (k:=600) (by rw [← hde];omega)) (by omega))
  obtain ⟨g,hgg⟩:∃ g,Nat.gcd n m=g:=⟨_,rfl⟩
  rw [hgg] at hg hg0
  simp only [hgg] at hz
  refine rcall 51 [rS t] hp (by kernel_rfl) Tryz.call51 ?_
  refine rcall 117 [di n,di m] hg (by kernel_rfl) Tryz.call117 ?_
  rcases Nat.lt_or_ge g B9 with gb|gb
  ·refine rop2 (.call ⟨.builtin .len,#[.tmp 87],#[92]⟩) (.tmp 87) (.tmp 87) (di g) (di g) (.fv (.sc (.lit (.int .i64 1)))) (by kernel_rfl) (by simp [Op.operands,Call.operands]) (by simp [Op.operands,Call.operands]) (fun ρ o β w ho hx _=>?_) ?_
   ·obtain ⟨ad,c,e,_⟩:=di_one (di_holds.1 hx) hg0 gb
    exact ⟨_,len_di ho e,rlit rfl⟩
   refine rop2 (.indexAddr 92 (.tmp 91) (.const (.int .i64 0))) (.tmp 91) (.const (.int .i64 0)) (di g) (.fv (.sc (.lit (.int .i64 0)))) (rP g) (by kernel_rfl) (by simp [Op.operands]) (by simp [Op.operands]) (fun ρ o β w ho hx hy=>?_) ?_
   ·obtain ⟨ad,c,e,hc⟩:=di_one (di_holds.1 hx) hg0 gb
    exact ⟨_,index_di ho e (r_lit hy) (by omega),⟨ad,rfl,hc⟩⟩
   refine rop2 (.load 3 (.tmp 92)) (.tmp 92) (.tmp 92) (rP g) (rP g) (rI (g:Int)) (by kernel_rfl) (by simp [Op.operands]) (by simp [Op.operands]) (fun ρ o β w ho hx _=>?_) ?_
   ·obtain ⟨ad,e,hc⟩:=hx
    injection e with e
    exact ⟨_,load_i ho e hc,is_r⟩
   have hne:(((g:Int) != 1) = !decide (g=1)):=by rw [Bool.eq_iff_iff];simp;omega
   by_cases g1:g=1
   ·rw [if_neg (by rintro ⟨_,h⟩;exact h g1)] at hz
    subst hz
    refine rop2 (.binOp .neq 3 (.tmp 93) (.const (.int .i64 1)) 3) (.tmp 93) (.const (.int .i64 1)) (rI (g:Int)) (.fv (.sc (.lit (.int .i64 1)))) (rl false) (by kernel_rfl) (by simp [Op.operands]) (by simp [Op.operands]) (fun ρ o β w ho hx hy=>⟨.bool false,ine_run ho (r_is hx) (r_lit hy) (by rw [hne];simp [g1]),rlit rfl⟩) ?_
    exact rretI Tryz.func90 (by kernel_rfl)
   ·rw [if_pos ⟨hlt,g1⟩] at hz
    subst hz
    refine rop2 (.binOp .neq 3 (.tmp 93) (.const (.int .i64 1)) 3) (.tmp 93) (.const (.int .i64 1)) (rI (g:Int)) (.fv (.sc (.lit (.int .i64 1)))) (rl true) (by kernel_rfl) (by simp [Op.operands]) (by simp [Op.operands]) (fun ρ o β w ho hx hy=>⟨.bool true,ine_run ho (r_is hx) (r_lit hy) (by rw [hne];simp [g1]),rlit rfl⟩) ?_
    exact rretI Tryz.func90 (by kernel_rfl)
  ·rw [if_pos ⟨hlt,by have:=B9_one;omega⟩] at hz
   subst hz
   refine rop2 (.call ⟨.builtin .len,#[.tmp 87],#[92]⟩) (.tmp 87) (.tmp 87) (di g) (di g) rNe (by kernel_rfl) (by simp [Op.operands,Call.operands]) (by simp [Op.operands,Call.operands]) (fun ρ o β w ho hx _=>?_) ?_
   ·obtain ⟨A,m,c,e,hm⟩:=di_more (di_holds.1 hx) gb
    exact ⟨_,len_di ho e,⟨(m:Int),rfl,by omega⟩⟩
   refine rop2 (.binOp .neq 3 (.tmp 88) (.const (.int .i64 1)) 3) (.tmp 88) (.const (.int .i64 1)) rNe (.fv (.sc (.lit (.int .i64 1)))) (rl true) (by kernel_rfl) (by simp [Op.operands]) (by simp [Op.operands]) (fun ρ o β w ho hx hy=>?_) ?_
   ·obtain ⟨x,e,hm⟩:=hx
    injection e with e
    exact ⟨.bool true,ine_run ho e (r_lit hy) (by simpa using hm),rlit rfl⟩
   exact rretI Tryz.func90 (by kernel_rfl)
 ·have fl:decide ((k:Int)<(t.size:Nat))=false:=by rw [decide_eq_false_iff_not];omega
  refine rlss 37 39 (k:Int) (t.size:Nat) false fl ?_
  rw [if_neg (fun h=>hlt h.1)] at hz
  by_cases l1:600<k
  ·rw [if_pos (.inl l1)] at hz
   subst hz
   refine rgt 63 600 (k:Int) true (by rw [decide_eq_true_iff];omega) ?_
   exact rretI Tryz.func90 (by kernel_rfl)
  rw [if_neg (by rintro (h|h) <;> omega),if_neg (fun h=>hlt h.1)] at hz
  subst hz
  refine rgt 63 600 (k:Int) false (by rw [decide_eq_false_iff_not];omega) ?_
  refine rlen 66 9 Tryz.underlying9 t ?_
  refine rsub 67 68 t.size k hkl (by omega) ?_
  refine rop2 (.binOp .sub 3 (.tmp 69) (.const (.int .i64 1)) 3) (.tmp 69) (.const (.int .i64 1)) (rI ((t.size-k:Nat):Int)) (.fv (.sc (.lit (.int .i64 1)))) (rI (((t.size-k:Nat):Int)-1)) (by kernel_rfl) (by simp [Op.operands]) (by simp [Op.operands]) (fun ρ o β w ho hx hy=>⟨_,sub1_run ho (r_is hx) (r_lit hy) (by omega),is_r⟩) ?_
  refine rgt 70 600 (((t.size-k:Nat):Int)-1) false (by rw [decide_eq_false_iff_not];omega) ?_
  refine rlen 74 9 Tryz.underlying9 t ?_
  refine rlss 73 75 (k:Int) (t.size:Nat) false fl ?_
  exact rretI Tryz.func90 (by kernel_rfl)
theorem check_pos {s:ByteArray} {z:Int} (hs:s.size≤9223372036854775807) (hne:0<s.size) (hn:negB s=false) (hz:checkB s=z):Fits Tryz.prog 90 [rS s] (rI z):=by
 obtain ⟨c,hc,hc45⟩:=pos_head hne hn
 have hsp:stripB s=s:=if_neg (by rw [hn];exact Bool.false_ne_true)
 unfold checkB at hz
 rw [hn,hsp] at hz
 have hts:=hs
 have hsl:=slashF (s:=s) (by omega)
 have hkl:=slashB_le s
 have hks:slashB s=slashB s:=rfl
 generalize hk:slashB s=k at hsl hkl hks hz
 obtain ⟨a,ha⟩:∃ a,s.extract 0 k=a:=⟨_,rfl⟩
 obtain ⟨d,hd⟩:∃ d,s.extract (k+1) s.size=d:=⟨_,rfl⟩
 have hasz:a.size=k:=by rw [← ha,ByteArray.size_extract];omega
 have hdsz:d.size=s.size-(k+1):=by rw [← hd,ByteArray.size_extract];omega
 rw [ha,hd] at hz
 have fa:=decFormF (s:=a) (by omega)
 have fd:=decFormF (s:=d) (by omega)
 refine rgo Tryz.func90 (by kernel_rfl) fun w00=>?_
 refine rlen 9 9 Tryz.underlying9 s ?_
 refine rgt 10 0 (s.size:Nat) true (by rw [decide_eq_true_iff];omega) ?_
 refine ridp 13 s c hc ?_
 refine rueq 14 c hc45 ?_
 refine rcall 110 [rS s] hsl (by kernel_rfl) Tryz.call110 ?_
 refine rshi 21 22 9 Tryz.underlying9 s k a hkl ha ?_
 by_cases c1:decF a=false
 ·rw [if_pos (.inl c1)] at hz
  subst hz
  rw [c1] at fa
  refine rcall 153 [rS a] fa (by kernel_rfl) Tryz.call153 ?_
  exact rretI Tryz.func90 (by kernel_rfl)
 rw [Bool.not_eq_false] at c1
 rw [c1] at fa
 refine rcall 153 [rS a] fa (by kernel_rfl) Tryz.call153 ?_
 refine ridpR 27 s c hc ?_
 refine rueq 28 c hc45 ?_
 rw [if_neg (by rintro (h|h);exact absurd (h.symm.trans c1) (by decide);exact absurd h.1 (by decide))] at hz
 refine rlen 38 9 Tryz.underlying9 s ?_
 by_cases hlt:k<s.size
 ·have fl:decide ((k:Int)<(s.size:Nat))=true:=by rw [decide_eq_true_iff];omega
  refine rlss 37 39 (k:Int) (s.size:Nat) true fl ?_
  refine radd 43 k (by omega) ?_
  refine rslo 42 44 9 Tryz.underlying9 s (k+1) d (by omega) hd ?_
  by_cases d1:decF d=false
  ·rw [if_pos ⟨hlt,.inl d1⟩] at hz
   subst hz
   rw [d1] at fd
   refine rcall 153 [rS d] fd (by kernel_rfl) Tryz.call153 ?_
   exact rretI Tryz.func90 (by kernel_rfl)
  rw [Bool.not_eq_false] at d1
  rw [d1] at fd
  refine rcall 153 [rS d] fd (by kernel_rfl) Tryz.call153 ?_
  refine radd 50 k (by omega) ?_
  refine rslo 49 51 9 Tryz.underlying9 s (k+1) d (by omega) hd ?_
  by_cases d0:d=zeroT
  ·rw [if_pos ⟨hlt,.inr (.inl d0)⟩] at hz
   subst hz
   refine rseq 52 9 d ⟨#[48]⟩ true (by rw [d0];exact beq_self_eq_true zeroT.toList) ?_
   exact rretI Tryz.func90 (by kernel_rfl)
  refine rseq 52 9 d ⟨#[48]⟩ false (ne_list d0) ?_
  refine radd 57 k (by omega) ?_
  refine rslo 56 58 9 Tryz.underlying9 s (k+1) d (by omega) hd ?_
  by_cases d2:d=oneT
  ·rw [if_pos ⟨hlt,.inr (.inr d2)⟩] at hz
   subst hz
   refine rseq 59 9 d ⟨#[49]⟩ true (by rw [d2];exact beq_self_eq_true oneT.toList) ?_
   exact rretI Tryz.func90 (by kernel_rfl)
  refine rseq 59 9 d ⟨#[49]⟩ false (ne_list d2) ?_
  rw [if_neg (by rintro ⟨_,h|h|h⟩;exact absurd (h.symm.trans d1) (by decide);exact d0 h;exact d2 h)] at hz
  by_cases l1:600<k
  ·rw [if_pos (.inl l1)] at hz
   subst hz
   refine rgt 63 600 (k:Int) true (by rw [decide_eq_true_iff];omega) ?_
   exact rretI Tryz.func90 (by kernel_rfl)
  refine rgt 63 600 (k:Int) false (by rw [decide_eq_false_iff_not];omega) ?_
  refine rlen 66 9 Tryz.underlying9 s ?_
  refine rsub 67 68 s.size k hkl (by omega) ?_
  refine rop2 (.binOp .sub 3 (.tmp 69) (.const (.int .i64 1)) 3) (.tmp 69) (.const (.int .i64 1)) (rI ((s.size-k:Nat):Int)) (.fv (.sc (.lit (.int .i64 1)))) (rI (((s.size-k:Nat):Int)-1)) (by kernel_rfl) (by simp [Op.operands]) (by simp [Op.operands]) (fun ρ o β w ho hx hy=>⟨_,sub1_run ho (r_is hx) (r_lit hy) (by omega),is_r⟩) ?_
  by_cases l2:600<s.size-k-1
  ·rw [if_pos (.inr l2)] at hz
   subst hz
   refine rgt 70 600 (((s.size-k:Nat):Int)-1) true (by rw [decide_eq_true_iff];omega) ?_
   exact rretI Tryz.func90 (by kernel_rfl)
  refine rgt 70 600 (((s.size-k:Nat):Int)-1) false (by rw [decide_eq_false_iff_not];omega) ?_
  rw [if_neg (by rintro (h|h) <;> omega)] at hz
  refine rlen 74 9 Tryz.underlying9 s ?_
  refine rlss 73 75 (k:Int) (s.size:Nat) true fl ?_
  have hae:=decF_of c1
  have hde:=decF_of d1
  generalize natOf (bytesOf a)=n at hae hz
  generalize natOf (bytesOf d)=m at hde hz
  have hp:=partsT (t:=s) (by omega) hk hlt (ha.trans hae) (hd.trans hde) (by rw [← hae];omega) (by rw [← hde];omega)
  have hm0:0<m:=Nat.pos_of_ne_zero fun e=>d0 (by rw [hde,e,dec0];rfl)
  have hg0:0<Nat.gcd n m:=Nat.gcd_pos_of_pos_right _ hm0
  have hg:=commonF (a:=n) (b:=m) (bd_of (dec_lt (n:=n) (k:=600) (by rw [← hae];omega)) (by omega)) (bd_of (dec_lt (n:=m) (k:=600) (by rw [← hde];omega)) (by omega))
  obtain ⟨g,hgg⟩:∃ g,Nat.gcd n m=g:=⟨_,rfl⟩
  rw [hgg] at hg hg0
  simp only [hgg] at hz
  refine rcall 51 [rS s] hp (by kernel_rfl) Tryz.call51 ?_
  refine rcall 117 [di n,di m] hg (by kernel_rfl) Tryz.call117 ?_
  rcases Nat.lt_or_ge g B9 with gb|gb
  ·refine rop2 (.call ⟨.builtin .len,#[.tmp 87],#[92]⟩) (.tmp 87) (.tmp 87) (di g) (di g) (.fv (.sc (.lit (.int .i64 1)))) (by kernel_rfl) (by simp [Op.operands,Call.operands]) (by simp [Op.operands,Call.operands]) (fun ρ o β w ho hx _=>?_) ?_
   ·obtain ⟨ad,c,e,_⟩:=di_one (di_holds.1 hx) hg0 gb
    exact ⟨_,len_di ho e,rlit rfl⟩
   refine rop2 (.indexAddr 92 (.tmp 91) (.const (.int .i64 0))) (.tmp 91) (.const (.int .i64 0)) (di g) (.fv (.sc (.lit (.int .i64 0)))) (rP g) (by kernel_rfl) (by simp [Op.operands]) (by simp [Op.operands]) (fun ρ o β w ho hx hy=>?_) ?_
   ·obtain ⟨ad,c,e,hc⟩:=di_one (di_holds.1 hx) hg0 gb
    exact ⟨_,index_di ho e (r_lit hy) (by omega),⟨ad,rfl,hc⟩⟩
   refine rop2 (.load 3 (.tmp 92)) (.tmp 92) (.tmp 92) (rP g) (rP g) (rI (g:Int)) (by kernel_rfl) (by simp [Op.operands]) (by simp [Op.operands]) (fun ρ o β w ho hx _=>?_) ?_
   ·obtain ⟨ad,e,hc⟩:=hx
    injection e with e
    exact ⟨_,load_i ho e hc,is_r⟩
   have hne:(((g:Int) != 1) = !decide (g=1)):=by rw [Bool.eq_iff_iff];simp;omega
   by_cases g1:g=1
   ·rw [if_neg (by rintro ⟨_,h⟩;exact h g1)] at hz
    subst hz
    refine rop2 (.binOp .neq 3 (.tmp 93) (.const (.int .i64 1)) 3) (.tmp 93) (.const (.int .i64 1)) (rI (g:Int)) (.fv (.sc (.lit (.int .i64 1)))) (rl false) (by kernel_rfl) (by simp [Op.operands]) (by simp [Op.operands]) (fun ρ o β w ho hx hy=>⟨.bool false,ine_run ho (r_is hx) (r_lit hy) (by rw [hne];simp [g1]),rlit rfl⟩) ?_
    exact rretI Tryz.func90 (by kernel_rfl)
   ·rw [if_pos ⟨hlt,g1⟩] at hz
    subst hz
    refine rop2 (.binOp .neq 3 (.tmp 93) (.const (.int .i64 1)) 3) (.tmp 93) (.const (.int .i64 1)) (rI (g:Int)) (.fv (.sc (.lit (.int .i64 1)))) (rl true) (by kernel_rfl) (by simp [Op.operands]) (by simp [Op.operands]) (fun ρ o β w ho hx hy=>⟨.bool true,ine_run ho (r_is hx) (r_lit hy) (by rw [hne];simp [g1]),rlit rfl⟩) ?_
    exact rretI Tryz.func90 (by kernel_rfl)
  ·rw [if_pos ⟨hlt,by have:=B9_one;omega⟩] at hz
   subst hz
   refine rop2 (.call ⟨.builtin .len,#[.tmp 87],#[92]⟩) (.tmp 87) (.tmp 87) (di g) (di g) rNe (by kernel_rfl) (by simp [Op.operands,Call.operands]) (by simp [Op.operands,Call.operands]) (fun ρ o β w ho hx _=>?_) ?_
   ·obtain ⟨A,m,c,e,hm⟩:=di_more (di_holds.1 hx) gb
    exact ⟨_,len_di ho e,⟨(m:Int),rfl,by omega⟩⟩
   refine rop2 (.binOp .neq 3 (.tmp 88) (.const (.int .i64 1)) 3) (.tmp 88) (.const (.int .i64 1)) rNe (.fv (.sc (.lit (.int .i64 1)))) (rl true) (by kernel_rfl) (by simp [Op.operands]) (by simp [Op.operands]) (fun ρ o β w ho hx hy=>?_) ?_
   ·obtain ⟨x,e,hm⟩:=hx
    injection e with e
    exact ⟨.bool true,ine_run ho e (r_lit hy) (by simpa using hm),rlit rfl⟩
   exact rretI Tryz.func90 (by kernel_rfl)
 ·have fl:decide ((k:Int)<(s.size:Nat))=false:=by rw [decide_eq_false_iff_not];omega
  refine rlss 37 39 (k:Int) (s.size:Nat) false fl ?_
  rw [if_neg (fun h=>hlt h.1)] at hz
  by_cases l1:600<k
  ·rw [if_pos (.inl l1)] at hz
   subst hz
   refine rgt 63 600 (k:Int) true (by rw [decide_eq_true_iff];omega) ?_
   exact rretI Tryz.func90 (by kernel_rfl)
  rw [if_neg (by rintro (h|h) <;> omega),if_neg (fun h=>hlt h.1)] at hz
  subst hz
  refine rgt 63 600 (k:Int) false (by rw [decide_eq_false_iff_not];omega) ?_
  refine rlen 66 9 Tryz.underlying9 s ?_
  refine rsub 67 68 s.size k hkl (by omega) ?_
  refine rop2 (.binOp .sub 3 (.tmp 69) (.const (.int .i64 1)) 3) (.tmp 69) (.const (.int .i64 1)) (rI ((s.size-k:Nat):Int)) (.fv (.sc (.lit (.int .i64 1)))) (rI (((s.size-k:Nat):Int)-1)) (by kernel_rfl) (by simp [Op.operands]) (by simp [Op.operands]) (fun ρ o β w ho hx hy=>⟨_,sub1_run ho (r_is hx) (r_lit hy) (by omega),is_r⟩) ?_
  refine rgt 70 600 (((s.size-k:Nat):Int)-1) false (by rw [decide_eq_false_iff_not];omega) ?_
  refine rlen 74 9 Tryz.underlying9 s ?_
  refine rlss 73 75 (k:Int) (s.size:Nat) false fl ?_
  exact rretI Tryz.func90 (by kernel_rfl)
theorem checkAnyF {s:ByteArray} (hs:s.size≤9223372036854775807):Fits Tryz.prog 90 [rS s] (rI (checkB s)):=by
 rcases Nat.eq_zero_or_pos s.size with h0|h0
 ·have hbs:bytesOf s = []:=List.eq_nil_of_length_eq_zero (by rw [bytesOf_length];exact h0)
  have hn:negB s=false:=by unfold negB;rw [hbs];rfl
  have hst:stripB s=s:=if_neg (by rw [hn];exact Bool.false_ne_true)
  have hsl:slashB s=0:=by unfold slashB;rw [hbs];rfl
  have hd:decF (s.extract 0 0)=false:=by unfold decF;rw [if_pos (by rw [ByteArray.size_extract];omega)]
  have e:checkB s=1:=by unfold checkB;rw [hst,hsl,if_pos (.inl hd)]
  rw [e]
  have h1:=slashF (s:=s) (by omega)
  rw [hsl] at h1
  have h2:=decFormF (s:=s.extract 0 0) (by rw [ByteArray.size_extract];omega)
  rw [hd] at h2
  exact rres (check_empty (by rw [decide_eq_false_iff_not];omega) h1 rfl h2) lit_I
 ·cases e:negB s with
  | true=>exact check_neg hs h0 e rfl
  | false=>exact check_pos hs h0 e rfl
end Go.Proofs.YtbhcckhbbclemaaGreatDoor.Ab
namespace Go.Proofs.YtbhcckhbbclemaaGreatDoor.Ab
open Go.RowKit Go.Proofs.YtbhcckhbbclemaaGreatDoor Pl
end Go.Proofs.YtbhcckhbbclemaaGreatDoor.Ab
