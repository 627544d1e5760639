/- Parts of the proof, joined. -/
import Derived.Test.YtbhcckhbbclemaaGreatDoorJ16
set_option linter.unusedSimpArgs false
set_option linter.unusedVariables false
namespace Go.Proofs.YtbhcckhbbclemaaGreatDoor
open Go.RowKit Pl
def Mach (a:Int):Prop := -9223372036854775807≤a∧a≤9223372036854775807
def M63:Nat:=9223372036854775807
theorem M63_eq:M63=9223372036854775807:=rfl
theorem magnitude_any (a:Int) (w:World) (h1:-9223372036854775808≤a) (h2:a≤9223372036854775807):Calls Tryz.prog 144 #[.int .i64 a] w fun e w'=>e = .returned (.int .u64 ((a.natAbs:Nat):Int))∧w=w':=by
 by_cases hn:a<0
 ·have e1:IntKind.u64.wrap (-IntKind.u64.wrap a)=((a.natAbs:Nat):Int):=by rw [IntKind.wrap_u64,IntKind.wrap_u64];omega
  have H:=Lib.hid hn
  go_enter Tryz.func144,Tryz.ntmps144
  go_wp2
  go_ret
  exact ⟨rfl,rfl⟩
 ·have e1:((a.natAbs:Nat):Int)=a:=by omega
  have h0:0≤a:=by omega
  rw [e1]
  clear e1
  go_enter Tryz.func144,Tryz.ntmps144
  go_wp2
  go_ret
  exact ⟨rfl,rfl⟩
def GivesOk (w:World) (z bad:Int) (e:Ending) (w' : World):Prop := ∃ (r:Int) (ok:Bool),e = .returned (.tuple #[.int .i64 r,.bool ok])∧(ok=true→r=z∧Mach z)∧(ok=false→r=bad∧¬ Mach z)∧Below w.heap.size w w'
theorem GivesOk.yes {P:Program} {f:FuncId} {args:Array Value} {w:World} {z bad:Int} (h:Calls P f args w (GivesOk w z bad)) (hm:Mach z):Calls P f args w (Gives w (.tuple #[.int .i64 z,.bool true])):=h.mono fun e w' ⟨r,ok,h1,h2,h3,h4⟩=>by
 cases ok
 ·exact absurd hm (h3 rfl).2
 ·exact ⟨by rw [h1,(h2 rfl).1],h4⟩
theorem GivesOk.no {P:Program} {f:FuncId} {args:Array Value} {w:World} {z bad:Int} (h:Calls P f args w (GivesOk w z bad)) (hm:¬ Mach z):Calls P f args w (Gives w (.tuple #[.int .i64 bad,.bool false])):=h.mono fun e w' ⟨r,ok,h1,h2,h3,h4⟩=>by
 cases ok
 ·exact ⟨by rw [h1,(h3 rfl).1],h4⟩
 ·exact absurd (h2 rfl).2 hm
theorem small_any (n d:Int) (w:World) (h1:1≤d) (h2:d≤9223372036854775807):Calls Tryz.prog 137 #[.int .i64 n,.int .i64 d] w (Gives w (.agg #[.int .i64 n,.int .i64 (d-1),.pointer none])):=by
 go_enter Tryz.func137,Tryz.ntmps137
 go_wp2
 refine bodyPost_ret (v := .agg #[.int .i64 n,.int .i64 (d-1),.pointer none]) (by simp [results,Tryz.results137,go_sem]) rfl ⟨rfl,?_⟩
 repeat (first|exact Below.refl _ _|(refine Below.setCell ?_ (by first|omega|(simp;done)|(simp;omega)) _)|(refine Below.alloc ?_ (by first|omega|(simp;done)|(simp;omega)) _)|(refine Below.drew ?_)|exact Below.refl _ _)
theorem den_any (n d:Int) (p:Option Addr) (w:World) (h1:0≤d) (h2:d≤9223372036854775806):Calls Tryz.prog 142 #[.agg #[.int .i64 n,.int .i64 d,.pointer p]] w (Gives w (.int .i64 (d+1))):=by
 go_enter Tryz.func142,Tryz.ntmps142
 go_wp2
 go_ret
 refine ⟨rfl,?_⟩
 repeat (first|exact Below.refl _ _|(refine Below.setCell ?_ (by first|omega|(simp;done)|(simp;omega)) _)|(refine Below.alloc ?_ (by first|omega|(simp;done)|(simp;omega)) _)|(refine Below.drew ?_)|exact Below.refl _ _)
set_option maxHeartbeats 1000000 in
theorem isMachine_any (v:Value) (a:Nat) (w:World) (h:Nt w v a):Calls Tryz.prog 135 #[v] w fun e w'=>e = .returned (.bool (decide (a≤M63)))∧w=w':=by
 have H:=Lib.hid h
 obtain ⟨A,n,c,xs,rfl,hr,hd,hno,hval⟩:=h
 have hnc:n≤c:=hr.cap
 have hcm:c≤9223372036854775807:=hr.2.2.1
 by_cases h1:n≤1
 ·have hsmall:a<W64:=by
   rw [← hval]
   have:=val_lt hd
   rw [hr.len] at this
   exact Nat.lt_of_lt_of_le this (Nat.le_trans (Nat.pow_le_pow_right W64_pos h1) (by rw [Nat.pow_one];exact Nat.le_refl _))
  clear hr hd hno hval
  by_cases hm:a≤M63
  ·have hi:(a:Int)≤9223372036854775807:=by rw [M63_eq] at hm;omega
   have hz:decide (a≤M63)=true:=by rw [decide_eq_true_eq];exact hm
   rw [hz]
   have HS:=Lib.hid hsmall
   clear hm hz hsmall
   go_enter Tryz.func135,Tryz.ntmps135
   go_wp2_with (go_at_call 136;refine (nt_low H.out).mono ?_;rw [Nat.mod_eq_of_lt HS.out];rintro e w' ⟨rfl,rfl⟩)
   go_ret
   exact ⟨rfl,rfl⟩
  ·have hi:¬ (a:Int)≤9223372036854775807:=by rw [M63_eq] at hm;omega
   have hz:decide (a≤M63)=false:=by rw [decide_eq_false_iff_not];exact hm
   rw [hz]
   have HS:=Lib.hid hsmall
   clear hm hz hsmall
   go_enter Tryz.func135,Tryz.ntmps135
   go_wp2_with (go_at_call 136;refine (nt_low H.out).mono ?_;rw [Nat.mod_eq_of_lt HS.out];rintro e w' ⟨rfl,rfl⟩)
   go_ret
   exact ⟨ret_bool (by simpa using hi),rfl⟩
 ·have hz:decide (a≤M63)=false:=by
   rw [decide_eq_false_iff_not]
   intro hm
   have:=length_le_of_val W64_one hno (L:=1) (by rw [hval,Nat.pow_one,W64_eq];rw [M63_eq] at hm;omega)
   rw [hr.len] at this
   omega
  rw [hz]
  clear hr hd hno hval hz
  go_enter Tryz.func135,Tryz.ntmps135
  go_wp2
  go_ret
  exact ⟨rfl,rfl⟩
set_option maxHeartbeats 2000000 in
theorem productOf_any (a b:Int) (w:World) (ha:Mach a) (hb:Mach b):Calls Tryz.prog 200 #[.int .i64 a,.int .i64 b] w (GivesOk w (a*b) 0):=by
 obtain ⟨ha1,ha2⟩:=ha
 obtain ⟨hb1,hb2⟩:=hb
 have hal:a.natAbs<W64:=by rw [W64_eq];omega
 have hbl:b.natAbs<W64:=by rw [W64_eq];omega
 obtain ⟨hi,hhi⟩:∃ hi:Nat,hi=a.natAbs*b.natAbs/W64:=⟨_,rfl⟩
 obtain ⟨lo,hlo⟩:∃ lo:Nat,lo=a.natAbs*b.natAbs%W64:=⟨_,rfl⟩
 have hmul:=Lib.hid (fun w=>(Tryz.bits_Mul64 a.natAbs b.natAbs hal hbl w).mono (fun e w' h=>(show e = .returned (.tuple #[.int .u64 (hi:Int),.int .u64 (lo:Int)])∧w=w' from ⟨by rw [h.1,hhi,hlo];rfl,h.2.symm⟩)))
 have hdm:=Nat.div_add_mod (a.natAbs*b.natAbs) W64
 rw [← hhi,← hlo] at hdm
 have hll:lo<W64:=by rw [hlo];exact Nat.mod_lt _ W64_pos
 have HH:=Lib.hid (And.intro hdm hll)
 have hlob:(lo:Int)≤18446744073709551615:=by rw [W64_eq] at hll;omega
 have hhib:(0:Int)≤hi:=by omega
 have hab:∀ r:Nat,hi=0→a.natAbs*b.natAbs=lo:=fun _ h=>by
  have:=HH.out.1
  rw [h,Nat.mul_zero,Nat.zero_add] at this
  exact this.symm
 have HAB:=Lib.hid hab
 have hnm:(hi≠0∨¬ (lo:Int)≤9223372036854775807)→¬ Mach (a*b):=fun h hm=>by
  have e1:=Int.natAbs_mul a b
  have e2:=HH.out.1
  rw [← e1] at e2
  obtain ⟨m1,m2⟩:=hm
  have h3:(a*b).natAbs≤9223372036854775807:=by omega
  generalize (a*b).natAbs=X at *
  rw [W64_eq] at e2
  omega
 have HNM:=Lib.hid hnm
 clear hal hbl hhi hlo hdm hll hab hnm
 by_cases hi0:hi=0
 ·have hal:a.natAbs*b.natAbs=lo:=HAB.out 0 hi0
  subst hi0
  have hz0:(((0:Nat):Int) != 0)=false:=by simp
  by_cases hl:(lo:Int)≤9223372036854775807
  ·have e1:IntKind.i64.wrap (lo:Int)=lo:=by rw [IntKind.wrap_i64];omega
   have hpr:(a<0∧b<0→a*b=lo)∧(¬ a<0∧¬ b<0→a*b=lo)∧(a<0∧¬ b<0→a*b = -(lo:Int))∧(¬ a<0∧b<0→a*b = -(lo:Int)):=by
    rw [← hal]
    push_cast
    refine ⟨fun ⟨h1,h2⟩=>?_,fun ⟨h1,h2⟩=>?_,fun ⟨h1,h2⟩=>?_,fun ⟨h1,h2⟩=>?_⟩
    ·rw [show ((a.natAbs:Nat):Int) = -a from by omega,show ((b.natAbs:Nat):Int) = -b from by omega,Int.neg_mul_neg]
    ·rw [show ((a.natAbs:Nat):Int)=a from by omega,show ((b.natAbs:Nat):Int)=b from by omega]
    ·rw [show ((a.natAbs:Nat):Int) = -a from by omega,show ((b.natAbs:Nat):Int)=b from by omega,Int.neg_mul,Int.neg_neg]
    ·rw [show ((a.natAbs:Nat):Int)=a from by omega,show ((b.natAbs:Nat):Int) = -b from by omega,Int.mul_neg,Int.neg_neg]
   have HP:=Lib.hid hpr
   clear hpr hal
   have hout:∀ r:Int,r=a*b→(r=lo∨r = -(lo:Int))→GivesOk w (a*b) 0 (.returned (.tuple #[.int .i64 r,.bool true])) w:=fun r h1 h2 =>
    ⟨r,true,rfl,fun _=>⟨h1,by unfold Mach;rw [← h1];omega⟩,fun h=>by (cases h),Below.refl _ _⟩
   have HO:=Lib.hid hout
   clear hout
   obtain ⟨s1,hs1⟩:∃ s,decide (a<0)=s:=⟨_,rfl⟩
   obtain ⟨s2,hs2⟩:∃ s,decide (b<0)=s:=⟨_,rfl⟩
   have hn1:=Lib.hid hs1
   have hn2:=Lib.hid hs2
   cases s1 <;> cases s2
   all_goals
    go_enter Tryz.func200,Tryz.ntmps200
    go_wp2_with (first
     | (go_at_call 144;refine (magnitude_any _ _ (by omega) (by omega)).mono ?_;rintro e w' ⟨rfl,rfl⟩)
     | (go_at_call 218;refine (hmul.out _).mono ?_;rintro e w' ⟨rfl,rfl⟩))
    go_ret2
    first
     | exact HO.out _ (HP.out.1 ⟨by have:=hn1.out;simpa using this,by have:=hn2.out;simpa using this⟩).symm (.inl rfl)
     | exact HO.out _ (HP.out.2.1 ⟨by have:=hn1.out;simpa using this,by have:=hn2.out;simpa using this⟩).symm (.inl rfl)
     | exact HO.out _ (HP.out.2.2.1 ⟨by have:=hn1.out;simpa using this,by have:=hn2.out;simpa using this⟩).symm (.inr rfl)
     | exact HO.out _ (HP.out.2.2.2 ⟨by have:=hn1.out;simpa using this,by have:=hn2.out;simpa using this⟩).symm (.inr rfl)
  ·clear hal
   go_enter Tryz.func200,Tryz.ntmps200
   go_wp2_with (first
    | (go_at_call 144;refine (magnitude_any _ _ (by omega) (by omega)).mono ?_;rintro e w' ⟨rfl,rfl⟩)
    | (go_at_call 218;refine (hmul.out _).mono ?_;rintro e w' ⟨rfl,rfl⟩))
   go_ret2
   exact ⟨0,false,rfl,fun h=>by (cases h),fun _=>⟨rfl,HNM.out (by omega)⟩,Below.refl _ _⟩
 ·have hz1:((hi:Int) != 0)=true:=by simp;omega
  go_enter Tryz.func200,Tryz.ntmps200
  go_wp2_with (first
   | (go_at_call 144;refine (magnitude_any _ _ (by omega) (by omega)).mono ?_;rintro e w' ⟨rfl,rfl⟩)
   | (go_at_call 218;refine (hmul.out _).mono ?_;rintro e w' ⟨rfl,rfl⟩))
  go_ret2
  exact ⟨0,false,rfl,fun h=>by (cases h),fun _=>⟨rfl,HNM.out (by omega)⟩,Below.refl _ _⟩
set_option maxHeartbeats 4000000 in
theorem sumOf_any (a b:Int) (w:World) (ha:Mach a) (hb:Mach b):Calls Tryz.prog 198 #[.int .i64 a,.int .i64 b] w (GivesOk w (a+b) (IntKind.i64.wrap (a+b))):=by
 obtain ⟨s,hs⟩:∃ s,IntKind.i64.wrap (a+b)=s:=⟨_,rfl⟩
 have hsv:s=(a+b+9223372036854775808)%18446744073709551616-9223372036854775808:=by rw [← hs,IntKind.wrap_i64]
 obtain ⟨s1,hs1⟩:∃ s1,decide (a<0)=s1:=⟨_,rfl⟩
 obtain ⟨s2,hs2⟩:∃ s2,decide (b<0)=s2:=⟨_,rfl⟩
 obtain ⟨s3,hs3⟩:∃ s3,decide (s<0)=s3:=⟨_,rfl⟩
 obtain ⟨s4,hs4⟩:∃ s4,(s != -9223372036854775808)=s4:=⟨_,rfl⟩
 have H:=Lib.hid (And.intro ha (And.intro hb (And.intro hsv (And.intro hs1 (And.intro hs2 (And.intro hs3 hs4))))))
 rw [hs]
 have hout:∀ ok:Bool,ok=((s1 != s2 || s3==s1)&&s4)→GivesOk w (a+b) s (.returned (.tuple #[.int .i64 s,.bool ok])) w:=fun ok hok=>by
  obtain ⟨⟨a1,a2⟩,⟨b1,b2⟩,hsv,hs1,hs2,hs3,hs4⟩:=H.out
  have key:((s1 != s2 || s3==s1)&&s4)=true↔s=a+b∧Mach (a+b):=by
   unfold Mach
   cases s4
   ·have h4:s = -9223372036854775808:=by simpa using hs4
    simp
    omega
   ·have h4:s≠-9223372036854775808:=by simpa using hs4
    cases s1 <;> cases s2 <;> cases s3 <;> simp at hs1 hs2 hs3 ⊢ <;> omega
  refine ⟨s,ok,rfl,fun h=>key.1 (by rw [← hok,h]),fun h=>⟨rfl,fun hm=>?_⟩,Below.refl _ _⟩
  have hsm:s=a+b:=by obtain ⟨m1,m2⟩:=hm;omega
  have:=key.2 ⟨hsm,hm⟩
  rw [← hok,h] at this
  cases this
 have HO:=Lib.hid hout
 clear ha hb hsv hout
 cases s1 <;> cases s2 <;> cases s3 <;> cases s4
 all_goals
  go_enter Tryz.func198,Tryz.ntmps198
  go_wp2
  go_ret2
  exact HO.out _ (by decide)
def coIs (o:Obj):Obj→World→Prop:=fun o' _=>o'=o
theorem coIs_stable (K:Value→Bool) (o:Obj):StableO K (coIs o):=fun _ _ _ h _=>h
def smV (n d:Int):Value := .agg #[.int .i64 n,.int .i64 (d-1),.pointer none]
set_option maxRecDepth 100000 in
set_option maxHeartbeats 4000000 in
theorem lowest_raw (n d:Int) (g:Nat) (w:World) (hn1:-9223372036854775808≤n) (hn2:n≤9223372036854775807) (hd1:1≤d) (hd2:d≤9223372036854775807) (hg:g=Nat.gcd d.natAbs n.natAbs) :
 Calls Tryz.prog 199 #[.int .i64 n,.int .i64 d] w (Gives w (smV (n/g) (d/g))):=by
 by_cases h1:d=1
 ·subst h1
  have:g=1:=by rw [hg];simp
  subst this
  unfold smV
  rw [show ((1:Nat):Int)=1 from rfl,Int.ediv_one,Int.ediv_one,Int.sub_self]
  clear hg
  go_enter Tryz.func199,Tryz.ntmps199
  go_wp2
  refine bodyPost_ret (v := .agg #[.int .i64 n,.int .i64 0,.pointer none]) (by simp [results,Tryz.results199,go_sem]) rfl ⟨rfl,?_⟩
  repeat (first|exact Below.refl _ _|(refine Below.setCell ?_ (by first|omega|(simp;done)|(simp;omega)) _)|(refine Below.alloc ?_ (by first|omega|(simp;done)|(simp;omega)) _)|(refine Below.drew ?_)|exact Below.refl _ _)
 ·have hz:(d==1)=false:=by simpa using h1
  have hg0:0<g:=by rw [hg];exact Nat.gcd_pos_of_pos_left _ (by omega)
  have hgd:g ∣ d.natAbs:=by rw [hg];exact Nat.gcd_dvd_left _ _
  have hgn:g ∣ n.natAbs:=by rw [hg];exact Nat.gcd_dvd_right _ _
  have hgle:g≤d.natAbs:=Nat.le_of_dvd (by omega) hgd
  have hcw:(d.natAbs:Int)=d:=by omega
  have hw1:IntKind.u64.wrap d=((d.natAbs:Nat):Int):=by rw [IntKind.wrap_u64];omega
  have hw2:IntKind.i64.wrap (g:Int)=g:=by rw [IntKind.wrap_i64];omega
  have hgz:¬ (g=0):=by omega
  obtain ⟨q1,hq1⟩:∃ q1,q1=n/(g:Int):=⟨_,rfl⟩
  obtain ⟨q2,hq2⟩:∃ q2,q2=d/(g:Int):=⟨_,rfl⟩
  have dn:(g:Int) ∣ n:=Int.ofNat_dvd_left.2 hgn
  have dd:(g:Int) ∣ d:=Int.ofNat_dvd_left.2 hgd
  have ht1:n.tdiv (g:Int)=q1:=by rw [hq1];exact Int.tdiv_eq_ediv_of_dvd dn
  have ht2:d.tdiv (g:Int)=q2:=by rw [hq2];exact Int.tdiv_eq_ediv_of_dvd dd
  have m1:q1*g=n:=by rw [hq1];exact Int.ediv_mul_cancel dn
  have m2:q2*g=d:=by rw [hq2];exact Int.ediv_mul_cancel dd
  have r2:1≤q2∧q2≤9223372036854775807:=by
   have:q2≤d:=by rw [hq2];exact Int.ediv_le_self _ (by omega)
   refine ⟨?_,by omega⟩
   rw [hq2]
   exact (Int.le_ediv_iff_mul_le (by omega)).2 (by omega)
  have r1:-9223372036854775808≤q1∧q1≤9223372036854775807:=by
   have h1:q1.natAbs≤n.natAbs:=by
    rw [← m1,Int.natAbs_mul]
    exact Nat.le_mul_of_pos_right _ (by simpa using hg0)
   have h2:n<0→q1<0:=fun h=>by
    apply Int.not_le.1
    intro h3
    have:=Int.mul_nonneg h3 (show (0:Int)≤g by omega)
    omega
   have h3:0≤n→0≤q1:=fun h=>by rw [hq1];exact Int.ediv_nonneg h (by omega)
   omega
  have w1:IntKind.i64.wrap q1=q1:=by rw [IntKind.wrap_i64];omega
  have w2:IntKind.i64.wrap q2=q2:=by rw [IntKind.wrap_i64];omega
  rw [← hq1,← hq2]
  have hgl:d.natAbs<W64:=by rw [W64_eq];omega
  have hnl:n.natAbs<W64:=by rw [W64_eq];omega
  have hgc:=fun w=>gcdWords_any d.natAbs n.natAbs w hgl hnl
  rw [← hg] at hgc
  have HG:=Lib.hid hgc
  have HQ:=Lib.hid (And.intro ht1 (And.intro ht2 (And.intro r1 (And.intro r2 (And.intro w1 w2)))))
  clear hg0 hgd hgn hgle hq1 hq2 dn dd ht1 ht2 m1 m2 r1 r2 w1 w2 hgl hnl hgc hg hcw h1
  go_enter Tryz.func199,Tryz.ntmps199
  go_wp2_with fail
  refine (magnitude_any n _ hn1 hn2).mono ?_
  rintro e w' ⟨rfl,rfl⟩
  go_wp2_with fail
  refine (HG.out _).mono ?_
  rintro e w3 ⟨rfl,b3⟩
  have hR:=keep_blk b3 (heap_alloc_new w _)
  have B3:=Lib.hid (Below.step_trans ((Below.refl w.heap.size w).alloc (Nat.le_refl _) _) b3)
  clear b3
  have t1:∀ w',Calls Tryz.prog 137 #[.int .i64 q1,.int .i64 q2] w' (TyPost w' (Sp.is (smV q1 q2))):=fun w'=>Gives.ty (small_any q1 q2 w' HQ.out.2.2.2.1.1 HQ.out.2.2.2.1.2)
  have T1:=Lib.hid t1
  clear t1
  go_wp2_with fail
  have k1:=HQ.out.1
  have k2:=HQ.out.2.1
  have k3:=HQ.out.2.2.2.2.1
  have k4:=HQ.out.2.2.2.2.2
  refine wp_region_ty Kn [w.heap.size] (by kernel_rfl) (by kernel_rfl) ?_
  repeat (first|(apply ty_is (hg:=rfl);case h=>(intro A w' hB hk;simp [known,specOf,Kd.spec,Sp.is,isVar,Oper.looksAt,Op.operands,Call.operands,Act.eval] at hk;first|(simp [go_sem,hk,hgz,k1,k2,k3,k4];done)|(simp [go_sem,hk,hgz,k1,k2,k3,k4];rfl)|(simp [go_sem,hgz,k1,k2,k3,k4];rfl)))|(refine ty_move _ ?_ (by first|exact .inl rfl|exact .inr rfl) (by rfl) (by simp [specOf,Kd.spec];rfl) ?_ rfl ?_;(first|exact Sp.is_stable _ _|exact spNt_stable (fun _=>rfl) _|exact spTwo_stable (fun _=>rfl) _ _|exact spFr_stable (fun _=>rfl) _|exact spSum_stable (fun _=>rfl) _|exact spSgn_stable _ _|exact spNb_stable (fun _=>rfl) (fun _=>rfl) _|exact spVc_stable (fun _=>rfl) (fun _=>rfl) _)))
  refine ty_call (Sp.is (smV q1 q2)) (Sp.is_stable _ _) rfl (fun A w' hB hk=>?_) ?_;(simp [known,specOf,Kd.spec,Sp.is,isVar,Oper.looksAt,Op.operands,Call.operands,Act.eval] at hk;simp [go_sem,hk];refine tyUpon_enter ?_;exact T1.out _)
  refine ty_old (w.heap.size) (_) (coIs (.cells #[.int .i64 q1,.int .i64 (q2-1),.pointer none] 67 (0,0))) (coIs_stable _ _) rfl rfl (by simp) (by assumption) (by simp [hotObj,Ku,Kn]) (fun A w' hB hk h0=>?_) ?_;(simp [known,specOf,Kd.spec,Sp.is,isVar,Oper.looksAt,Op.operands,Call.operands,Act.eval] at hk;have c0:=cells_of_blk h0;have f0:=frozen_of_blk h0;rw [smV] at hk;simp [go_sem,hk,c0,f0];exact ⟨_,turned3 h0 _ _ _,rfl⟩)
  refine ⟨by first|rfl|decide,fun f w2 hB hF hAp=>?_⟩;simp [Final1,Sp.is,isVar] at hF;simp only [frameOf]
  obtain ⟨o,rfl,ho⟩:=hF.1
  obtain ⟨⟨r0,r1,r2⟩,_⟩:=blk3 ho
  have K:=Lib.hid hB
  clear hB ho hAp hF
  go_wp2
  refine bodyPost_ret (v := .agg #[.int .i64 q1,.int .i64 (q2-1),.pointer none]) (by simp [results,Tryz.results199,go_sem,r0,r1,r2,Act.put]) rfl ⟨rfl,?_⟩
  exact Base.belowT K.out B3.out (Nat.le_refl _)
def Sm (q:Rat):Prop:=q.num.natAbs≤M63∧q.den≤M63
def Nb (w:World) (v:Value) (q:Rat):Prop :=
 (Sm q∧v=smV q.num q.den) ∨
 (¬ Sm q∧∃ g s1 s2,v = .agg #[.int .i64 0,.int .i64 0,.pointer (some ⟨g,0,none⟩)]∧w.heap[g]?=some (.cells #[.bool (decide (q.num<0)),s1,s2] 112 (0,0))∧Nt w s1 q.num.natAbs∧Nt w s2 q.den)
theorem Nb.below {w w' : World} {v:Value} {q:Rat} (h:Nb w v q) (hb:Below w.heap.size w w'):Nb w' v q:=by
 rcases h with h|⟨h,g,s1,s2,e,hk,h1,h2⟩
 ·exact .inl h
 ·exact .inr ⟨h,g,s1,s2,e,keep_blk hb hk,h1.below hb,h2.below hb⟩
theorem Nb.ext {K:Value→Bool} (hK:∀ x,K (.int .u64 x)=true) (hK2:∀ b,K (.bool b)=true) {w w' : World} {v:Value} {q:Rat} (h:Nb w v q) (hx:Ext K w w'):Nb w' v q:=by
 rcases h with h|⟨h,g,s1,s2,e,hk,h1,h2⟩
 ·exact .inl h
 ·exact .inr ⟨h,g,s1,s2,e,hx.block g _ hk (by simp [hotObj,hK2]),h1.ext hK hx,h2.ext hK hx⟩
def spNb (q:Rat):Sp:=fun v w=>Nb w v q
theorem spNb_stable {K:Value→Bool} (hK:∀ x,K (.int .u64 x)=true) (hK2:∀ b,K (.bool b)=true) (q:Rat):Stable K (spNb q):=fun _ _ _ h hx=>Nb.ext hK hK2 h hx
def GivesNb (w:World) (q:Rat) (e:Ending) (w' : World):Prop := ∃ v,e = .returned v∧Nb w' v q∧Below w.heap.size w w'
theorem GivesNb.ty {P:Program} {f:FuncId} {args:Array Value} {w:World} {q:Rat} (h:Calls P f args w (GivesNb w q)):Calls P f args w (TyPost w (spNb q)) :=
 h.mono fun _ _ ⟨v,h1,h2,h3⟩=>⟨v,h1,h3,h2⟩
theorem Nb.form {w:World} {v:Value} {q:Rat} (h:Nb w v q):∃ n d p,v = .agg #[.int .i64 n,.int .i64 d,.pointer p]:=by
 rcases h with ⟨_,rfl⟩|⟨_,g,s1,s2,rfl,_⟩
 ·exact ⟨_,_,_,rfl⟩
 ·exact ⟨_,_,_,rfl⟩
def coNb (q:Rat):Obj→World→Prop:=fun o w => ∃ n d p,o = .cells #[.int .i64 n,.int .i64 d,.pointer p] 67 (0,0)∧Nb w (.agg #[.int .i64 n,.int .i64 d,.pointer p]) q
theorem coNb_stable {K:Value→Bool} (hK:∀ x,K (.int .u64 x)=true) (hK2:∀ b,K (.bool b)=true) (q:Rat):StableO K (coNb q):=fun _ _ _ ⟨n,d,p,e,h⟩ hx=>⟨n,d,p,e,h.ext hK hK2 hx⟩
theorem sm_den {q:Rat} (h:Sm q):1≤(q.den:Int)∧(q.den:Int)≤9223372036854775807:=by
 have:=q.den_pos
 have h2:=h.2
 rw [M63_eq] at h2
 omega
theorem sm_num {q:Rat} (h:Sm q):Mach q.num:=by
 have h2:=h.1
 rw [M63_eq] at h2
 unfold Mach
 omega
set_option maxRecDepth 100000 in
set_option maxHeartbeats 8000000 in
theorem number_any (v:Value) (q:Rat) (w:World) (h:Fr w v q):Calls Tryz.prog 65 #[v] w (GivesNb w q):=by
 obtain ⟨s1,s2,rfl,h1,h2⟩:=h
 obtain ⟨A1,n1,c1,rfl⟩:=h1.form
 obtain ⟨A2,n2,c2,rfl⟩:=h2.form
 obtain ⟨neg,hneg⟩:∃ neg,decide (q.num<0)=neg:=⟨_,rfl⟩
 rw [hneg]
 obtain ⟨hk1,hk2,hb1⟩:=alloc2 w (.cells #[.bool neg,.slice A1 n1 c1,.slice A2 n2 c2] 112) (.cells #[.int .i64 0,.int .i64 0,.pointer none] 67)
 have H:=Lib.hid (And.intro (h1.below hb1) (And.intro (h2.below hb1) (And.intro hb1 (And.intro hk1 (And.intro hk2 hneg)))))
 have HW:=Lib.hid (And.intro h1 h2)
 have hm1:∀ w',Below w.heap.size w w'→Calls Tryz.prog 135 #[.slice A1 n1 c1] w' fun e w''=>e = .returned (.bool (decide (q.num.natAbs≤M63)))∧w'=w'':=fun w' hb=>isMachine_any _ _ _ (h1.below hb)
 have hm2:∀ w',Below w.heap.size w w'→Calls Tryz.prog 135 #[.slice A2 n2 c2] w' fun e w''=>e = .returned (.bool (decide (q.den≤M63)))∧w'=w'':=fun w' hb=>isMachine_any _ _ _ (h2.below hb)
 have HM:=Lib.hid (And.intro hm1 hm2)
 clear h1 h2 hb1 hk1 hk2 hneg hm1 hm2
 by_cases hs:Sm q
 ·have z1:decide (q.num.natAbs≤M63)=true:=by rw [decide_eq_true_eq];exact hs.1
  have z2:decide (q.den≤M63)=true:=by rw [decide_eq_true_eq];exact hs.2
  rw [z1,z2] at HM
  have l1:q.num.natAbs%W64=q.num.natAbs:=Nat.mod_eq_of_lt (by have:=hs.1;rw [M63_eq] at this;rw [W64_eq];omega)
  have l2:q.den%W64=q.den:=Nat.mod_eq_of_lt (by have:=hs.2;rw [M63_eq] at this;rw [W64_eq];omega)
  have w1:IntKind.i64.wrap ((q.num.natAbs:Nat):Int)=((q.num.natAbs:Nat):Int):=by have:=hs.1;rw [M63_eq] at this;rw [IntKind.wrap_i64];omega
  have w2:IntKind.i64.wrap ((q.den:Nat):Int)=(q.den:Int):=by have:=hs.2;rw [M63_eq] at this;rw [IntKind.wrap_i64];omega
  have hd:=sm_den hs
  have hbn:((q.num.natAbs:Nat):Int)≤9223372036854775807:=by have:=hs.1;rw [M63_eq] at this;omega
  have HS:=Lib.hid (And.intro hs (And.intro l1 (And.intro l2 hd)))
  obtain ⟨N,hN⟩:∃ N:Nat,N=q.num.natAbs:=⟨_,rfl⟩
  obtain ⟨D,hD⟩:∃ D:Nat,D=q.den:=⟨_,rfl⟩
  rw [← hN] at w1 hbn
  rw [← hD] at w2
  have hd2:(D:Int)≤9223372036854775807:=by rw [hD];exact hd.2
  have hd1:(1:Int)≤D:=by rw [hD];exact hd.1
  have HND:=Lib.hid (And.intro hN hD)
  clear z1 z2 hs l1 l2 hd hN hD
  cases neg
  ·go_enter Tryz.func65,Tryz.ntmps65
   go_wp2_with fail
   refine (HM.out.1 _ H.out.2.2.1).mono ?_
   rintro e w' ⟨rfl,rfl⟩
   go_wp2_with fail
   refine (HM.out.2 _ H.out.2.2.1).mono ?_
   rintro e w' ⟨rfl,rfl⟩
   go_wp2_with fail
   refine (nt_low H.out.1).mono ?_
   rw [HS.out.2.1,← HND.out.1]
   rintro e w' ⟨rfl,rfl⟩
   go_wp2_with fail
   refine (nt_low H.out.2.1).mono ?_
   rw [HS.out.2.2.1,← HND.out.2]
   rintro e w' ⟨rfl,rfl⟩
   go_wp2_with fail
   refine (small_any _ _ _ hd1 hd2).mono ?_
   rintro e w3 ⟨rfl,b3⟩
   have hk:=keep_blk b3 H.out.2.2.2.2.1
   obtain ⟨⟨h0,h1,h2⟩,f0,f1,f2⟩:=blk3 hk
   have B3:=Lib.hid (Below.step_trans H.out.2.2.1 b3)
   clear b3 hk
   go_wp2
   refine bodyPost_ret (v := .agg #[.int .i64 (N:Int),.int .i64 ((D:Int)-1),.pointer none]) (by simp [results,Tryz.results65,go_sem,h0,h1,h2]) rfl ⟨_,rfl,.inl ⟨HS.out.1,?_⟩,?_⟩
   ·have e:=H.out.2.2.2.2.2
    have e2:q.num=(N:Int):=by
     have:=HND.out.1
     have:¬ q.num<0:=by simpa using e
     omega
    have e3:(q.den:Int)=D:=by rw [HND.out.2]
    rw [smV,e2,e3]
   ·repeat (first|exact B3.out|(refine Below.setCell ?_ (by first|omega|(simp;done)|(simp;omega)) _)|(refine Below.alloc ?_ (by first|omega|(simp;done)|(simp;omega)) _)|(refine Below.drew ?_)|exact Below.refl _ _)
  ·go_enter Tryz.func65,Tryz.ntmps65
   go_wp2_with fail
   refine (HM.out.1 _ H.out.2.2.1).mono ?_
   rintro e w' ⟨rfl,rfl⟩
   go_wp2_with fail
   refine (HM.out.2 _ H.out.2.2.1).mono ?_
   rintro e w' ⟨rfl,rfl⟩
   go_wp2_with fail
   refine (nt_low H.out.1).mono ?_
   rw [HS.out.2.1,← HND.out.1]
   rintro e w' ⟨rfl,rfl⟩
   go_wp2_with fail
   refine (nt_low H.out.2.1).mono ?_
   rw [HS.out.2.2.1,← HND.out.2]
   rintro e w' ⟨rfl,rfl⟩
   go_wp2_with fail
   refine (small_any _ _ _ hd1 hd2).mono ?_
   rintro e w3 ⟨rfl,b3⟩
   have hk:=keep_blk b3 H.out.2.2.2.2.1
   obtain ⟨⟨h0,h1,h2⟩,f0,f1,f2⟩:=blk3 hk
   have B3:=Lib.hid (Below.step_trans H.out.2.2.1 b3)
   clear b3 hk
   go_wp2
   refine bodyPost_ret (v := .agg #[.int .i64 (-(N:Int)),.int .i64 ((D:Int)-1),.pointer none]) (by simp [results,Tryz.results65,go_sem,h0,h1,h2]) rfl ⟨_,rfl,.inl ⟨HS.out.1,?_⟩,?_⟩
   ·have e:=H.out.2.2.2.2.2
    have e2:q.num=(-(N:Int)):=by
     have:=HND.out.1
     have:q.num<0:=by simpa using e
     omega
    have e3:(q.den:Int)=D:=by rw [HND.out.2]
    rw [smV,e2,e3]
   ·repeat (first|exact B3.out|(refine Below.setCell ?_ (by first|omega|(simp;done)|(simp;omega)) _)|(refine Below.alloc ?_ (by first|omega|(simp;done)|(simp;omega)) _)|(refine Below.drew ?_)|exact Below.refl _ _)
 ·have z12:decide (q.num.natAbs≤M63)=false∨(decide (q.num.natAbs≤M63)=true∧decide (q.den≤M63)=false):=by
   rcases Bool.eq_false_or_eq_true (decide (q.num.natAbs≤M63)) with h|h
   ·rcases Bool.eq_false_or_eq_true (decide (q.den≤M63)) with h'|h'
    ·exact absurd ⟨by simpa using h,by simpa using h'⟩ hs
    ·exact .inr ⟨h,h'⟩
   ·exact .inl h
  have HS:=Lib.hid hs
  clear hs
  have hfin:∀ w2,Below w.heap.size w w2→∀ g,w2.heap[g]?=some (.cells #[.bool neg,.slice A1 n1 c1,.slice A2 n2 c2] 112 (0,0))→Nt w2 (.slice A1 n1 c1) q.num.natAbs→Nt w2 (.slice A2 n2 c2) q.den →
   GivesNb w q (.returned (.agg #[.int .i64 0,.int .i64 0,.pointer (some ⟨g,0,none⟩)])) w2:=fun w2 hb g hg hn hd =>
   ⟨_,rfl,.inr ⟨HS.out,g,_,_,rfl,by rw [H.out.2.2.2.2.2];exact hg,hn,hd⟩,hb⟩
  have HF:=Lib.hid hfin
  clear hfin
  rcases z12 with z1|⟨z1,z2⟩
  ·rw [z1] at HM
   clear z1
   go_enter Tryz.func65,Tryz.ntmps65
   go_wp2_with fail
   refine (HM.out.1 _ H.out.2.2.1).mono ?_
   rintro e w' ⟨rfl,rfl⟩
   go_wp2
   refine bodyPost_ret (v := .agg #[.int .i64 0,.int .i64 0,.pointer (some ⟨w.heap.size+1+1,0,none⟩)]) (by simp [results,Tryz.results65,go_sem]) rfl (HF.out _ (alloc3 w _ _ _).2.2.2 _ (alloc3 w _ _ _).2.2.1 (HW.out.1.below (alloc3 w _ _ _).2.2.2) (HW.out.2.below (alloc3 w _ _ _).2.2.2))
  ·rw [z1,z2] at HM
   clear z1 z2
   go_enter Tryz.func65,Tryz.ntmps65
   go_wp2_with fail
   refine (HM.out.1 _ H.out.2.2.1).mono ?_
   rintro e w' ⟨rfl,rfl⟩
   go_wp2_with fail
   refine (HM.out.2 _ H.out.2.2.1).mono ?_
   rintro e w' ⟨rfl,rfl⟩
   go_wp2
   refine bodyPost_ret (v := .agg #[.int .i64 0,.int .i64 0,.pointer (some ⟨w.heap.size+1+1,0,none⟩)]) (by simp [results,Tryz.results65,go_sem]) rfl (HF.out _ (alloc3 w _ _ _).2.2.2 _ (alloc3 w _ _ _).2.2.1 (HW.out.1.below (alloc3 w _ _ _).2.2.2) (HW.out.2.below (alloc3 w _ _ _).2.2.2))
theorem Fr.of_machine {w:World} {q:Rat} {s1 s2:Value} (h1:Nt w s1 q.num.natAbs) (h2:Nt w s2 q.den):Fr w (.agg #[.bool (decide (q.num<0)),s1,s2]) q:=⟨s1,s2,rfl,h1,h2⟩
set_option maxRecDepth 100000 in
set_option maxHeartbeats 8000000 in
theorem numFraction_any (v:Value) (q:Rat) (w:World) (h:Nb w v q):Calls Tryz.prog 150 #[v] w (GivesFr w q):=by
 rcases h with ⟨hs,rfl⟩|⟨hs,g,s1,s2,rfl,hk,h1,h2⟩
 ·obtain ⟨n,hn⟩:∃ n,n=q.num:=⟨_,rfl⟩
  obtain ⟨d,hd⟩:∃ d:Nat,d=q.den:=⟨_,rfl⟩
  unfold smV
  have hmn:=sm_num hs
  have hmd:=sm_den hs
  rw [← hn] at hmn
  rw [← hd] at hmd
  rw [← hn,← hd]
  obtain ⟨hk1,hk2,hb1⟩:=alloc2 w (.cells #[.int .i64 n,.int .i64 ((d:Int)-1),.pointer none] 67) (.cells #[.bool false,.slice none 0 0,.slice none 0 0] 112)
  have H:=Lib.hid (And.intro hn (And.intro hd (And.intro hmn (And.intro hmd (And.intro hb1 (And.intro hk1 hk2))))))
  clear hn hd hmn hmd hb1 hk1 hk2
  go_enter Tryz.func150,Tryz.ntmps150
  go_wp2
  generalize (w.alloc (.cells #[.int .i64 n,.int .i64 ((d:Int)-1),.pointer none] 67)).alloc (.cells #[.bool false,.slice none 0 0,.slice none 0 0] 112)=w1 at *
  have hA:=H.out.2.2.2.2.2.1
  have hR:=H.out.2.2.2.2.2.2
  have t1:∀ w',Calls Tryz.prog 144 #[.int .i64 n] w' (TyPost w' (Sp.is (.int .u64 ((n.natAbs:Nat):Int)))):=fun w'=>by
   obtain ⟨a1,a2⟩:=H.out.2.2.1
   exact (magnitude_any n w' (by omega) a2).mono fun _ w'' ⟨h1,h2⟩=>⟨_,h1,by rw [← h2];exact Below.refl _ _,rfl⟩
  have t2:∀ w',Calls Tryz.prog 133 #[.int .u64 ((n.natAbs:Nat):Int)] w' (TyPost w' (spNt n.natAbs)):=fun w'=>GivesNt.ty (naturalOf_any _ (by obtain ⟨a1,a2⟩:=H.out.2.2.1;rw [W64_eq];omega) w')
  have t3:∀ w',Calls Tryz.prog 142 #[.agg #[.int .i64 n,.int .i64 ((d:Int)-1),.pointer none]] w' (TyPost w' (Sp.is (.int .i64 (d:Int)))):=fun w'=>by
   obtain ⟨a1,a2⟩:=H.out.2.2.2.1
   have:=Gives.ty (den_any n ((d:Int)-1) none w' (by omega) (by omega))
   rwa [Int.sub_add_cancel] at this
  have t4:∀ w',Calls Tryz.prog 133 #[.int .u64 (d:Int)] w' (TyPost w' (spNt d)):=fun w'=>GivesNt.ty (naturalOf_any _ (by obtain ⟨a1,a2⟩:=H.out.2.2.2.1;rw [W64_eq];omega) w')
  have T:=Lib.hid (And.intro t1 (And.intro t2 (And.intro t3 t4)))
  clear t1 t2 t3 t4
  have k1:IntKind.u64.wrap (d:Int)=d:=by obtain ⟨a1,a2⟩:=H.out.2.2.2.1;rw [IntKind.wrap_u64];omega
  obtain ⟨neg,hneg⟩:∃ neg,decide (n<0)=neg:=⟨_,rfl⟩
  have HN:=Lib.hid hneg
  refine wp_region_ty Ku [w.heap.size+1] (by kernel_rfl) (by kernel_rfl) ?_
  repeat (first|(apply ty_is (hg:=rfl);case h=>(intro A w' hB hk;simp [known,specOf,Kd.spec,Sp.is,isVar,Oper.looksAt,Op.operands,Call.operands,Act.eval] at hk;have c_hA:=cells_of_blk (hB.blk hA (by first|(simp;done)|(simp;omega)));first|(simp [go_sem,hk,c_hA,hneg];done)|(simp [go_sem,hk,c_hA,hneg];rfl)|(simp [go_sem,c_hA,hneg];rfl)))|(refine ty_move _ ?_ (by first|exact .inl rfl|exact .inr rfl) (by rfl) (by simp [specOf,Kd.spec];rfl) ?_ rfl ?_;(first|exact Sp.is_stable _ _|exact spNt_stable (fun _=>rfl) _|exact spTwo_stable (fun _=>rfl) _ _|exact spFr_stable (fun _=>rfl) _|exact spSum_stable (fun _=>rfl) _|exact spSgn_stable _ _|exact spNb_stable (fun _=>rfl) (fun _=>rfl) _|exact spVc_stable (fun _=>rfl) (fun _=>rfl) _)))
  refine ty_call (Sp.is (.int .u64 ((n.natAbs:Nat):Int))) (Sp.is_stable _ _) rfl (fun A w' hB hk=>?_) ?_;(simp [known,specOf,Kd.spec,Sp.is,isVar,Oper.looksAt,Op.operands,Call.operands,Act.eval] at hk;have c_hA:=cells_of_blk (hB.blk hA (by first|(simp;done)|(simp;omega)));simp [go_sem,hk,c_hA];refine tyUpon_enter ?_;exact T.out.1 _)
  refine ty_call (spNt n.natAbs) (spNt_stable (fun _=>rfl) _) rfl (fun A w' hB hk=>?_) ?_;(simp [known,specOf,Kd.spec,Sp.is,isVar,Oper.looksAt,Op.operands,Call.operands,Act.eval] at hk;have c_hA:=cells_of_blk (hB.blk hA (by first|(simp;done)|(simp;omega)));simp [go_sem,hk,c_hA];refine tyUpon_enter ?_;exact T.out.2.1 _)
  repeat (first|(apply ty_is (hg:=rfl);case h=>(intro A w' hB hk;simp [known,specOf,Kd.spec,Sp.is,isVar,Oper.looksAt,Op.operands,Call.operands,Act.eval] at hk;have c_hA:=cells_of_blk (hB.blk hA (by first|(simp;done)|(simp;omega)));first|(simp [go_sem,hk,c_hA];done)|(simp [go_sem,hk,c_hA];rfl)|(simp [go_sem,c_hA];rfl)))|(refine ty_move _ ?_ (by first|exact .inl rfl|exact .inr rfl) (by rfl) (by simp [specOf,Kd.spec];rfl) ?_ rfl ?_;(first|exact Sp.is_stable _ _|exact spNt_stable (fun _=>rfl) _|exact spTwo_stable (fun _=>rfl) _ _|exact spFr_stable (fun _=>rfl) _|exact spSum_stable (fun _=>rfl) _|exact spSgn_stable _ _|exact spNb_stable (fun _=>rfl) (fun _=>rfl) _|exact spVc_stable (fun _=>rfl) (fun _=>rfl) _)))
  refine ty_call (Sp.is (.int .i64 (d:Int))) (Sp.is_stable _ _) rfl (fun A w' hB hk=>?_) ?_;(simp [known,specOf,Kd.spec,Sp.is,isVar,Oper.looksAt,Op.operands,Call.operands,Act.eval] at hk;have c_hA:=cells_of_blk (hB.blk hA (by first|(simp;done)|(simp;omega)));simp [go_sem,hk,c_hA];refine tyUpon_enter ?_;exact T.out.2.2.1 _)
  repeat (first|(apply ty_is (hg:=rfl);case h=>(intro A w' hB hk;simp [known,specOf,Kd.spec,Sp.is,isVar,Oper.looksAt,Op.operands,Call.operands,Act.eval] at hk;have c_hA:=cells_of_blk (hB.blk hA (by first|(simp;done)|(simp;omega)));first|(simp [go_sem,hk,c_hA,k1];done)|(simp [go_sem,hk,c_hA,k1];rfl)|(simp [go_sem,c_hA,k1];rfl)))|(refine ty_move _ ?_ (by first|exact .inl rfl|exact .inr rfl) (by rfl) (by simp [specOf,Kd.spec];rfl) ?_ rfl ?_;(first|exact Sp.is_stable _ _|exact spNt_stable (fun _=>rfl) _|exact spTwo_stable (fun _=>rfl) _ _|exact spFr_stable (fun _=>rfl) _|exact spSum_stable (fun _=>rfl) _|exact spSgn_stable _ _|exact spNb_stable (fun _=>rfl) (fun _=>rfl) _|exact spVc_stable (fun _=>rfl) (fun _=>rfl) _)))
  refine ty_call (spNt d) (spNt_stable (fun _=>rfl) _) rfl (fun A w' hB hk=>?_) ?_;(simp [known,specOf,Kd.spec,Sp.is,isVar,Oper.looksAt,Op.operands,Call.operands,Act.eval] at hk;have c_hA:=cells_of_blk (hB.blk hA (by first|(simp;done)|(simp;omega)));simp [go_sem,hk,c_hA];refine tyUpon_enter ?_;exact T.out.2.2.2 _)
  refine ty_call (spFr q) (spFr_stable (fun _=>rfl) _) rfl (fun A w' hB hk=>?_) ?_;(simp [known,specOf,Kd.spec,Sp.is,isVar,Oper.looksAt,Op.operands,Call.operands,Act.eval] at hk;have c_hA:=cells_of_blk (hB.blk hA (by first|(simp;done)|(simp;omega)));obtain ⟨k1,k2,k3⟩:=hk;obtain ⟨B1,m1,u1,e1⟩:=(show Nt _ _ _ from k2).form;obtain ⟨B2,m2,u2,e2⟩:=(show Nt _ _ _ from k3).form;rw [e1] at k2;rw [e2] at k3;simp [go_sem,k1,e1,e2];refine tyUpon_value ?_;have e3:=H.out.1;have e4:=H.out.2.1;rw [e3] at k2;rw [e4] at k3;rw [← HN.out,e3];exact Fr.of_machine k2 k3)
  refine ty_old (w.heap.size+1) (_) (coFr q) (coFr_stable (fun _=>rfl) _) rfl rfl (by simp) (by assumption) (by simp [hotObj,Ku,Kn]) (fun A w' hB hk h0=>?_) ?_;(simp [known,specOf,Kd.spec,Sp.is,isVar,Oper.looksAt,Op.operands,Call.operands,Act.eval] at hk;have c_hA:=cells_of_blk (hB.blk hA (by first|(simp;done)|(simp;omega)));have c0:=cells_of_blk h0;have f0:=frozen_of_blk h0;obtain ⟨k1,z1,z2,k2,k3,k4⟩:=hk;obtain ⟨B1,m1,e1,rfl⟩:=k3.form;obtain ⟨B2,m2,e2,rfl⟩:=k4.form;simp [go_sem,k1,k2,c0,f0];exact ⟨_,turned3 h0 _ _ _,_,_,rfl,k3,k4⟩)
  refine ⟨by first|rfl|decide,fun f w2 hB hF hAp=>?_⟩;simp [Final1,Sp.is,isVar] at hF;simp only [frameOf]
  obtain ⟨o,⟨s1,s2,rfl,k3,k4⟩,ho⟩:=hF.1
  obtain ⟨B1,m1,u1,rfl⟩:=k3.form
  obtain ⟨B2,m2,u2,rfl⟩:=k4.form
  obtain ⟨⟨r0,r1,r2⟩,_⟩:=blk3 ho
  have K:=Lib.hid (And.intro k3 (And.intro k4 hB))
  clear k3 k4 hB ho hA hAp hF
  go_wp2
  refine bodyPost_ret (v := .agg #[.bool (decide (q.num<0)),.slice B1 m1 u1,.slice B2 m2 u2]) (by simp [results,Tryz.results150,go_sem,r0,r1,r2,Act.put]) rfl ⟨_,rfl,⟨_,_,rfl,K.out.1,K.out.2.1⟩,?_⟩
  exact Base.belowT K.out.2.2 H.out.2.2.2.2.1 (by omega)
 ·obtain ⟨A1,n1,c1,rfl⟩:=h1.form
  obtain ⟨A2,n2,c2,rfl⟩:=h2.form
  obtain ⟨hk1,hk2,hb1⟩:=alloc2 w (.cells #[.int .i64 0,.int .i64 0,.pointer (some ⟨g,0,none⟩)] 67) (.cells #[.bool false,.slice none 0 0,.slice none 0 0] 112)
  have hg:=keep_blk hb1 hk
  obtain ⟨⟨g0,g1,g2⟩,_⟩:=blk3 hg
  have hlt:=lt_of_block hk
  have HW:=Lib.hid (And.intro h1 h2)
  clear h1 h2 hk hb1 hs hk1 hk2 hg
  go_enter Tryz.func150,Tryz.ntmps150
  go_wp2
  refine bodyPost_ret (v := .agg #[.bool (decide (q.num<0)),.slice A1 n1 c1,.slice A2 n2 c2]) (by simp [results,Tryz.results150,go_sem]) rfl ⟨_,rfl,⟨_,_,rfl,HW.out.1.below ?_,HW.out.2.below ?_⟩,?_⟩ <;> repeat (first|exact Below.refl _ _|(refine Below.setCell ?_ (by first|omega|(simp;done)|(simp;omega)) _)|(refine Below.alloc ?_ (by first|omega|(simp;done)|(simp;omega)) _)|(refine Below.drew ?_)|exact Below.refl _ _)
end Go.Proofs.YtbhcckhbbclemaaGreatDoor
