/- Parts of the proof, joined. -/
import Derived.Test.YtofcdondmgojiaaGreatDoorJ8
set_option linter.unusedSimpArgs false
set_option linter.unusedVariables false
namespace Go.Proofs.YtofcdondmgojiaaGreatDoor
open Go.RowKit Pl
theorem nanInt64_any (a:Int) (w:World):Calls Tryz.prog 206 #[.int .i64 a] w fun e w'=>e = .returned (.bool false)∧w=w':=by
 have h:(a != a)=false:=by simp
 go_enter Tryz.func206,Tryz.ntmps206
 go_wp2
 go_ret
 exact ⟨ret_bool (by simp),rfl⟩
theorem cmpInt64_any (a b:Int) (w:World):Calls Tryz.prog 150 #[.int .i64 a,.int .i64 b] w fun e w'=>e = .returned (.int .i64 (bZ a b))∧w=w':=by
 rcases Int.lt_trichotomy a b with h|h|h
 ·have hp:=Lib.hid (show bZ a b = -1 by unfold bZ;rw [if_pos h])
  go_enter Tryz.func150,Tryz.ntmps150
  go_wp2_with (go_at_call 206;refine (nanInt64_any _ _).mono ?_;rintro e w' ⟨rfl,rfl⟩)
  go_ret
  exact ⟨bY hp.out.symm,rfl⟩
 ·subst h
  have hp:=Lib.hid (show bZ a a=0 by unfold bZ;rw [if_neg (by omega),if_neg (by omega)])
  go_enter Tryz.func150,Tryz.ntmps150
  go_wp2_with (go_at_call 206;refine (nanInt64_any _ _).mono ?_;rintro e w' ⟨rfl,rfl⟩)
  go_ret
  exact ⟨bY hp.out.symm,rfl⟩
 ·have hp:=Lib.hid (show bZ a b=1 by unfold bZ;rw [if_neg (by omega),if_pos h])
  go_enter Tryz.func150,Tryz.ntmps150
  go_wp2_with (go_at_call 206;refine (nanInt64_any _ _).mono ?_;rintro e w' ⟨rfl,rfl⟩)
  go_ret
  exact ⟨bY hp.out.symm,rfl⟩
theorem sm_zero:Sm 0:=⟨Nat.zero_le _,by show 1≤M63;rw [eS];omega⟩
theorem isZero_nb (v:Value) (q:Rat) (w:World) (h:Nb w v q):Calls Tryz.prog 36 #[v] w (Gives w (.bool (decide (q=0)))):=by
 rcases h with ⟨hs,rfl⟩|⟨hs,g,s1,s2,rfl,_⟩
 ·obtain ⟨z,hz⟩:∃ z,(q.num==0)=z:=⟨_,rfl⟩
  have hq:decide (q=0)=z:=by
   rw [← hz,Bool.eq_iff_iff]
   simp [Rat.num_eq_zero]
  rw [hq]
  clear hq hs
  unfold smV
  generalize q.num=n at *
  cases z
  all_goals
   go_enter Tryz.func36,Tryz.ntmps36
   go_wp2
   go_ret
   refine ⟨rfl,?_⟩
   repeat (first|exact Below.refl _ _|(refine Below.setCell ?_ (by first|omega|(simp;done)|(simp;omega)) _)|(refine Below.alloc ?_ (by first|omega|(simp;done)|(simp;omega)) _)|(refine Below.drew ?_)|exact Below.refl _ _)
 ·have hq:decide (q=0)=false:=by
   rw [decide_eq_false_iff_not]
   intro h
   rw [h] at hs
   exact hs sm_zero
  rw [hq]
  clear hq hs
  go_enter Tryz.func36,Tryz.ntmps36
  go_wp2
  go_ret
  refine ⟨rfl,?_⟩
  repeat (first|exact Below.refl _ _|(refine Below.setCell ?_ (by first|omega|(simp;done)|(simp;omega)) _)|(refine Below.alloc ?_ (by first|omega|(simp;done)|(simp;omega)) _)|(refine Below.drew ?_)|exact Below.refl _ _)
def sgnR (q:Rat):Int:=bZ q.num 0
set_option maxHeartbeats 1000000 in
theorem sign_nb (v:Value) (q:Rat) (w:World) (h:Nb w v q):Calls Tryz.prog 90 #[v] w (Gives w (.int .i64 (sgnR q))):=by
 unfold sgnR
 rcases h with ⟨hs,rfl⟩|⟨hs,g,s1,s2,rfl,hk,h1,h2⟩
 ·unfold smV
  clear hs
  generalize q.num=n at *
  go_enter Tryz.func90,Tryz.ntmps90
  go_wp2_with (go_at_call 150;refine (cmpInt64_any _ _ _).mono ?_;rintro e w' ⟨rfl,rfl⟩)
  go_ret
  refine ⟨rfl,?_⟩
  repeat (first|exact Below.refl _ _|(refine Below.setCell ?_ (by first|omega|(simp;done)|(simp;omega)) _)|(refine Below.alloc ?_ (by first|omega|(simp;done)|(simp;omega)) _)|(refine Below.drew ?_)|exact Below.refl _ _)
 ·obtain ⟨A1,n1,c1,rfl⟩:=h1.form
  obtain ⟨A2,n2,c2,rfl⟩:=h2.form
  have hb1:Below w.heap.size w (w.alloc (.cells #[.int .i64 0,.int .i64 0,.pointer (some ⟨g,0,none⟩)] 67)):=(Below.refl _ _).alloc (Nat.le_refl _) _
  obtain ⟨⟨g0,g1,g2⟩,_⟩:=dR (aL hb1 hk)
  obtain ⟨neg,hneg⟩:∃ neg,decide (q.num<0)=neg:=⟨_,rfl⟩
  have hq:q.num≠0:=fun e=>hs (by rw [Rat.num_eq_zero.1 e];exact sm_zero)
  have hlt:=lt_of_block hk
  have hc:bZ q.num 0=if neg=true then -1 else 1:=by
   rw [← hneg]
   unfold bZ
   by_cases h:q.num<0
   ·rw [if_pos h,if_pos (by simpa using h)]
   ·rw [if_neg h,if_pos (by omega),if_neg (by simpa using h)]
  rw [hc]
  rw [hneg] at g0
  clear hc hq hs h1 h2 hk hb1 hneg
  cases neg
  all_goals
   go_enter Tryz.func90,Tryz.ntmps90
   go_wp2
   go_ret
   refine ⟨rfl,?_⟩
   repeat (first|exact Below.refl _ _|(refine Below.setCell ?_ (by first|omega|(simp;done)|(simp;omega)) _)|(refine Below.alloc ?_ (by first|omega|(simp;done)|(simp;omega)) _)|(refine Below.drew ?_)|exact Below.refl _ _)
theorem areSmall_yes (v v' : Value) (p q:Rat) (w:World) (hp:Sm p) (hq:Sm q) (h:v=smV p.num p.den) (h' : v'=smV q.num q.den):Calls Tryz.prog 143 #[v,v'] w (Gives w (.bool true)):=by
 subst h;subst h'
 unfold smV
 clear hp hq
 go_enter Tryz.func143,Tryz.ntmps143
 go_wp2
 go_ret
 refine ⟨rfl,?_⟩
 repeat (first|exact Below.refl _ _|(refine Below.setCell ?_ (by first|omega|(simp;done)|(simp;omega)) _)|(refine Below.alloc ?_ (by first|omega|(simp;done)|(simp;omega)) _)|(refine Below.drew ?_)|exact Below.refl _ _)
theorem areSmall_no (v v' : Value) (p q:Rat) (w:World) (h:Nb w v p) (h' : Nb w v' q) (hn:¬ (Sm p∧Sm q)):Calls Tryz.prog 143 #[v,v'] w (Gives w (.bool false)):=by
 rcases h with ⟨hs,rfl⟩|⟨hs,g,s1,s2,rfl,hk,h1,h2⟩
 ·rcases h' with ⟨hs',rfl⟩|⟨hs',g',s1',s2',rfl,hk',h1',h2'⟩
  ·exact absurd ⟨hs,hs'⟩ hn
  ·unfold smV
   clear hs hs' hk' h1' h2' hn
   go_enter Tryz.func143,Tryz.ntmps143
   go_wp2
   go_ret
   refine ⟨rfl,?_⟩
   repeat (first|exact Below.refl _ _|(refine Below.setCell ?_ (by first|omega|(simp;done)|(simp;omega)) _)|(refine Below.alloc ?_ (by first|omega|(simp;done)|(simp;omega)) _)|(refine Below.drew ?_)|exact Below.refl _ _)
 ·obtain ⟨n,d,pp,rfl⟩:=h'.form
  clear hs h' hk h1 h2 hn
  go_enter Tryz.func143,Tryz.ntmps143
  go_wp2
  go_ret
  refine ⟨rfl,?_⟩
  repeat (first|exact Below.refl _ _|(refine Below.setCell ?_ (by first|omega|(simp;done)|(simp;omega)) _)|(refine Below.alloc ?_ (by first|omega|(simp;done)|(simp;omega)) _)|(refine Below.drew ?_)|exact Below.refl _ _)
set_option maxRecDepth 100000 in
set_option maxHeartbeats 4000000 in
theorem negated_nb (v:Value) (q:Rat) (w:World) (h:Nb w v q):Calls Tryz.prog 101 #[v] w (GivesNb w (-q)):=by
 rcases h with ⟨hs,rfl⟩|⟨hs,g,s1,s2,rfl,hk,h1,h2⟩
 ·have hm:=sm_num hs
  have hs' : Sm (-q):=⟨by rw [Rat.neg_num,Int.natAbs_neg];exact hs.1,hs.2⟩
  have hv:smV (-q).num (-q).den = .agg #[.int .i64 (-q.num),.int .i64 ((q.den:Int)-1),.pointer none]:=rfl
  obtain ⟨m1,m2⟩:=hm
  have H:=Lib.hid (And.intro hs' hv)
  unfold smV
  clear hs hs' hv
  have hw:IntKind.i64.wrap (-q.num) = -q.num:=by rw [IntKind.wrap_i64];omega
  generalize q.num=n at *
  generalize ((q.den:Int)-1)=d at *
  go_enter Tryz.func101,Tryz.ntmps101
  go_wp2
  refine bodyPost_ret (v := .agg #[.int .i64 (-n),.int .i64 d,.pointer none]) (by simp [results,Tryz.results101,go_sem]) rfl ⟨_,rfl,.inl ⟨H.out.1,H.out.2.symm⟩,?_⟩
  repeat (first|exact Below.refl _ _|(refine Below.setCell ?_ (by first|omega|(simp;done)|(simp;omega)) _)|(refine Below.alloc ?_ (by first|omega|(simp;done)|(simp;omega)) _)|(refine Below.drew ?_)|exact Below.refl _ _)
 ·obtain ⟨A1,n1,c1,rfl⟩:=h1.form
  obtain ⟨A2,n2,c2,rfl⟩:=h2.form
  obtain ⟨hk1,hk2,hb1⟩:=alloc2 w (.cells #[.int .i64 0,.int .i64 0,.pointer (some ⟨g,0,none⟩)] 67) (.cells #[.int .i64 0,.int .i64 0,.pointer none] 67)
  obtain ⟨⟨g0,g1,g2⟩,_⟩:=dR (aL hb1 hk)
  have hq:q≠0:=fun e=>hs (by rw [e];exact sm_zero)
  have hlt:=lt_of_block hk
  have hfr:Fr w (.agg #[.bool (decide (q.num<0)),.slice A1 n1 c1,.slice A2 n2 c2]) q:=⟨_,_,rfl,h1,h2⟩
  have H:=Lib.hid (And.intro hfr (And.intro hq (And.intro hb1 (And.intro hk1 hk2))))
  clear h1 h2 hk hb1 hk1 hk2 hs hq hfr
  go_enter Tryz.func101,Tryz.ntmps101
  go_wp2_with fail
  refine (negated_any _ q _ (H.out.1.below H.out.2.2.1) H.out.2.1).mono ?_
  rintro e w2 ⟨v2,rfl,q2,b2⟩
  have Q2:=Lib.hid (And.intro q2 b2)
  clear q2 b2
  go_wp2_with fail
  refine (fH _ _ _ Q2.out.1).mono ?_
  rintro e w3 ⟨v3,rfl,q3,b3⟩
  obtain ⟨n,d,p,rfl⟩:=q3.form
  have hk:=aL (Below.step_trans Q2.out.2 b3) H.out.2.2.2.2
  obtain ⟨⟨h0,h1,h2⟩,f0,f1,f2⟩:=dR hk
  have Q3:=Lib.hid (And.intro q3 (And.intro b3 hk))
  clear q3 b3 hk
  go_wp2
  refine bodyPost_ret (v := .agg #[.int .i64 n,.int .i64 d,.pointer p]) (by simp [results,Tryz.results101,go_sem,h0,h1,h2]) rfl ⟨_,rfl,?_,?_⟩
  ·exact Nb.ext (K:=Kn) (fun _=>rfl) (fun _=>rfl) Q3.out.1 (Ext.only (only3 _ _ _ _ _) Q3.out.2.2 (by simp [hotObj,Kn]))
  ·repeat (first|exact (Below.step_trans H.out.2.2.1 (Below.step_trans Q2.out.2 Q3.out.2.1))|(refine Below.setCell ?_ (by first|omega|(simp;done)|(simp;omega)) _)|(refine Below.alloc ?_ (by first|omega|(simp;done)|(simp;omega)) _)|(refine Below.drew ?_)|exact Below.refl _ _)
theorem productOf_ex (a b:Int) (ha:Mach a) (hb:Mach b):∃ (r:Int) (ok:Bool),(∀ w,Calls Tryz.prog 204 #[.int .i64 a,.int .i64 b] w (Gives w (.tuple #[.int .i64 r,.bool ok])))∧(ok=true→r=a*b∧Mach (a*b))∧Mach r:=by
 by_cases h:Mach (a*b)
 ·exact ⟨_,true,fun w=>GivesOk.yes (productOf_any a b w ha hb) h,fun _=>⟨rfl,h⟩,h⟩
 ·exact ⟨0,false,fun w=>GivesOk.no (productOf_any a b w ha hb) h,fun h=>(by cases h),by unfold Mach;omega⟩
theorem sumOf_ex (a b:Int) (ha:Mach a) (hb:Mach b):∃ (r:Int) (ok:Bool),(∀ w,Calls Tryz.prog 202 #[.int .i64 a,.int .i64 b] w (Gives w (.tuple #[.int .i64 r,.bool ok])))∧(ok=true→r=a+b∧Mach (a+b))∧-9223372036854775808≤r∧r≤9223372036854775807:=by
 by_cases h:Mach (a+b)
 ·exact ⟨_,true,fun w=>GivesOk.yes (sumOf_any a b w ha hb) h,fun _=>⟨rfl,h⟩,by obtain ⟨h1,h2⟩:=h;omega,h.2⟩
 ·exact ⟨IntKind.i64.wrap (a+b),false,fun w=>GivesOk.no (sumOf_any a b w ha hb) h,fun h=>(by cases h),by rw [IntKind.wrap_i64];omega,by rw [IntKind.wrap_i64];omega⟩
theorem lowest_ex (n:Int) (d:Nat) (hn1:-9223372036854775808≤n) (hn2:n≤9223372036854775807) (hd1:1≤d) (hd2:(d:Int)≤9223372036854775807) :
 (∀ w,Calls Tryz.prog 203 #[.int .i64 n,.int .i64 (d:Int)] w (Gives w (smV (mkRat n d).num (mkRat n d).den)))∧(Mach n→Sm (mkRat n d)):=by
 have e1:(mkRat n d).num=n/((Nat.gcd d n.natAbs:Nat):Int):=by rw [Rat.num_mkRat,if_neg (by omega)]
 have e2:(((mkRat n d).den:Nat):Int)=(d:Int)/((Nat.gcd d n.natAbs:Nat):Int):=by rw [Rat.den_mkRat,if_neg (by omega),Int.natCast_ediv]
 refine ⟨fun w=>?_,fun hm=>?_⟩
 ·rw [e1,e2]
  exact lowest_raw n d _ w hn1 hn2 (by omega) hd2 rfl
 ·obtain ⟨h1,h2⟩:=dX n (d:=d) (by omega)
  obtain ⟨m1,m2⟩:=hm
  exact ⟨Nat.le_trans h1 (by rw [eS];omega),Nat.le_trans h2 (by rw [eS];omega)⟩
def GivesNumOk (w:World) (q:Rat) (e:Ending) (w' : World):Prop := ∃ (n d:Int) (ok:Bool),e = .returned (.tuple #[.agg #[.int .i64 n,.int .i64 d,.pointer none],.bool ok])∧(ok=true→Sm q∧.agg #[.int .i64 n,.int .i64 d,.pointer none]=smV q.num q.den)∧Below w.heap.size w w'
set_option maxRecDepth 100000 in
set_option maxHeartbeats 8000000 in
theorem plusSmall_same (p q:Rat) (w:World) (hp:Sm p) (hq:Sm q) (hd:p.den=q.den):Calls Tryz.prog 144 #[smV p.num p.den,smV q.num q.den] w (GivesNumOk w (p+q)):=by
 have hpq:p+q=mkRat (p.num+q.num) p.den:=by
  rw [Rat.add_def',← hd]
  have := @Rat.mkRat_mul_right (p.num+q.num) p.den p.den p.den_nz
  rw [← this,Int.add_mul]
 have md:=sm_den hp
 obtain ⟨s,ok,hs1,hs2,hs3,hs4⟩:=sumOf_ex p.num q.num (sm_num hp) (sm_num hq)
 obtain ⟨hl1,hl2⟩:=lowest_ex s p.den hs3 hs4 p.den_pos md.2
 rw [← hd]
 unfold smV
 obtain ⟨n,hn⟩:∃ n,n=p.num:=⟨_,rfl⟩
 obtain ⟨m,hm⟩:∃ m,m=q.num:=⟨_,rfl⟩
 obtain ⟨d,hdd⟩:∃ d:Nat,d=p.den:=⟨_,rfl⟩
 rw [← hn,← hm] at hs1
 rw [← hdd] at hl1 md
 rw [← hn,← hm,← hdd]
 have hout:ok=true→Sm (p+q)∧smV (mkRat s d).num (mkRat s d).den=smV (p+q).num (p+q).den:=fun h=>by
  obtain ⟨h1,h2⟩:=hs2 h
  rw [hpq,← h1,hdd]
  exact ⟨hl2 (by rw [h1];exact h2),rfl⟩
 obtain ⟨rn,hrn⟩:∃ rn,rn=(mkRat s d).num:=⟨_,rfl⟩
 obtain ⟨rd,hrd⟩:∃ rd:Int,rd=(((mkRat s d).den:Nat):Int):=⟨_,rfl⟩
 rw [← hrn,← hrd] at hl1 hout
 unfold smV at hl1
 obtain ⟨hk1,hk2,hk3,hb1⟩:=eR w (.cells #[.int .i64 n,.int .i64 ((d:Int)-1),.pointer none] 67) (.cells #[.int .i64 m,.int .i64 ((d:Int)-1),.pointer none] 67) (.cells #[.int .i64 0,.int .i64 0,.pointer none] 67)
 have hden:∀ w',Calls Tryz.prog 100 #[.agg #[.int .i64 n,.int .i64 ((d:Int)-1),.pointer none]] w' (Gives w' (.int .i64 (d:Int))):=fun w'=>by
  have:=den_any n ((d:Int)-1) none w' (by omega) (by omega)
  rwa [Int.sub_add_cancel] at this
 have H:=Lib.hid (And.intro hs1 (And.intro hl1 (And.intro hden (And.intro hout (And.intro hb1 hk3)))))
 have hz:((d:Int)-1==(d:Int)-1)=true:=by simp
 clear hpq hs1 hs2 hs3 hs4 hl1 hl2 hn hm hdd hp hq hd hout hk1 hk2 hk3 hb1 hden hrn hrd md
 go_enter Tryz.func144,Tryz.ntmps144
 go_wp2_with fail
 refine (H.out.1 _).mono ?_
 rintro e w2 ⟨rfl,b2⟩
 have hA2:=aL b2 (eR w (.cells #[.int .i64 n,.int .i64 ((d:Int)-1),.pointer none] 67) (.cells #[.int .i64 m,.int .i64 ((d:Int)-1),.pointer none] 67) (.cells #[.int .i64 0,.int .i64 0,.pointer none] 67)).1
 obtain ⟨⟨u0,u1,u2⟩,_⟩:=dR hA2
 have B2:=Lib.hid b2
 clear b2 hA2
 go_wp2_with fail
 refine (H.out.2.2.1 _).mono ?_
 rintro e w3 ⟨rfl,b3⟩
 have B3:=Lib.hid b3
 clear b3
 go_wp2_with fail
 refine (H.out.2.1 _).mono ?_
 rintro e w4 ⟨rfl,b4⟩
 have hb:=Below.step_trans B2.out (Below.step_trans B3.out b4)
 obtain ⟨⟨r0,r1,r2⟩,f0,f1,f2⟩:=dR (aL hb H.out.2.2.2.2.2)
 have B4:=Lib.hid (Below.step_trans H.out.2.2.2.2.1 hb)
 clear b4 hb
 go_wp2
 refine bodyPost_ret (v := .tuple #[.agg #[.int .i64 rn,.int .i64 (rd-1),.pointer none],.bool ok]) (by simp [results,Tryz.results144,go_sem,r0,r1,r2]) rfl ⟨_,_,_,rfl,H.out.2.2.2.1,?_⟩
 repeat (first|exact B4.out|(refine Below.setCell ?_ (by first|omega|(simp;done)|(simp;omega)) _)|(refine Below.alloc ?_ (by first|omega|(simp;done)|(simp;omega)) _)|(refine Below.drew ?_)|exact Below.refl _ _)
set_option maxRecDepth 100000 in
set_option maxHeartbeats 8000000 in
theorem plusSmall_apart (p q:Rat) (w:World) (hp:Sm p) (hq:Sm q) (hd:p.den≠q.den):Calls Tryz.prog 144 #[smV p.num p.den,smV q.num q.den] w (GivesNumOk w (p+q)):=by
 have hpq:p+q=mkRat (p.num*q.den+q.num*p.den) (p.den*q.den):=Rat.add_def' p q
 have mp:=sm_den hp
 have mq:=sm_den hq
 have np:=sm_num hp
 have nq:=sm_num hq
 unfold smV
 obtain ⟨n,hn⟩:∃ n,n=p.num:=⟨_,rfl⟩
 obtain ⟨m,hm⟩:∃ m,m=q.num:=⟨_,rfl⟩
 obtain ⟨d,hdd⟩:∃ d:Nat,d=p.den:=⟨_,rfl⟩
 obtain ⟨k,hkk⟩:∃ k:Nat,k=q.den:=⟨_,rfl⟩
 rw [← hn,← hm,← hdd,← hkk] at hpq
 rw [← hn] at np ⊢
 rw [← hm] at nq ⊢
 rw [← hdd] at mp hd ⊢
 rw [← hkk] at mq hd ⊢
 have md:Mach d:=by unfold Mach;omega
 have mk:Mach k:=by unfold Mach;omega
 obtain ⟨r1,o1,c1,e1,x1⟩:=productOf_ex n k np mk
 obtain ⟨r2,o2,c2,e2,x2⟩:=productOf_ex m d nq md
 obtain ⟨r3,o3,c3,e3,x3⟩:=productOf_ex d k md mk
 obtain ⟨s,o4,c4,e4,x4,x5⟩:=sumOf_ex r1 r2 x1 x2
 obtain ⟨hk1,hk2,hk3,hb1⟩:=eR w (.cells #[.int .i64 n,.int .i64 ((d:Int)-1),.pointer none] 67) (.cells #[.int .i64 m,.int .i64 ((k:Int)-1),.pointer none] 67) (.cells #[.int .i64 0,.int .i64 0,.pointer none] 67)
 have hden1:∀ w',Calls Tryz.prog 100 #[.agg #[.int .i64 n,.int .i64 ((d:Int)-1),.pointer none]] w' (Gives w' (.int .i64 (d:Int))):=fun w'=>by
  have:=den_any n ((d:Int)-1) none w' (by omega) (by omega)
  rwa [Int.sub_add_cancel] at this
 have hden2:∀ w',Calls Tryz.prog 100 #[.agg #[.int .i64 m,.int .i64 ((k:Int)-1),.pointer none]] w' (Gives w' (.int .i64 (k:Int))):=fun w'=>by
  have:=den_any m ((k:Int)-1) none w' (by omega) (by omega)
  rwa [Int.sub_add_cancel] at this
 have hlow:o1=true→o2=true→o3=true→∃ rn rd:Int,(∀ w',Calls Tryz.prog 203 #[.int .i64 s,.int .i64 r3] w' (Gives w' (.agg #[.int .i64 rn,.int .i64 (rd-1),.pointer none])))∧(o4=true→Sm (p+q)∧.agg #[.int .i64 rn,.int .i64 (rd-1),.pointer none]=smV (p+q).num (p+q).den):=fun h1 h2 h3=>by
  obtain ⟨y1,z1⟩:=e1 h1
  obtain ⟨y2,z2⟩:=e2 h2
  obtain ⟨y3,z3⟩:=e3 h3
  have hr3:r3=((d*k:Nat):Int):=by rw [y3];simp
  have hdk:1≤d*k:=Nat.mul_pos (by omega) (by omega)
  obtain ⟨l1,l2⟩:=lowest_ex s (d*k) x4 x5 hdk (by rw [← hr3];exact x3.2)
  rw [← hr3] at l1
  refine ⟨_,_,l1,fun h4=>?_⟩
  obtain ⟨y4,z4⟩:=e4 h4
  rw [hpq,← y1,← y2,← y4]
  exact ⟨l2 (by rw [y4];exact z4),rfl⟩
 have H:=Lib.hid (And.intro c1 (And.intro c2 (And.intro c3 (And.intro c4 (And.intro hlow (And.intro hb1 (And.intro hk3 (And.intro hden1 hden2))))))))
 have HK:=Lib.hid (And.intro hk1 hk2)
 have hz:((d:Int)-1==(k:Int)-1)=false:=by simp;omega
 clear hpq hp hq mp mq np nq hn hm hdd hkk hd md mk c1 e1 x1 c2 e2 x2 c3 e3 x3 c4 e4 x4 x5 hk1 hk2 hk3 hb1 hden1 hden2 hlow
 go_enter Tryz.func144,Tryz.ntmps144
 go_wp2
 generalize ((w.alloc (.cells #[.int .i64 n,.int .i64 ((d:Int)-1),.pointer none] 67)).alloc (.cells #[.int .i64 m,.int .i64 ((k:Int)-1),.pointer none] 67)).alloc (.cells #[.int .i64 0,.int .i64 0,.pointer none] 67)=w1 at *
 have hA:=HK.out.1
 have hC:=HK.out.2
 have hR:=H.out.2.2.2.2.2.2.1
 have hW:=H.out.2.2.2.2.2.1
 refine wp_region_ty Kn [] (by kernel_rfl) (by kernel_rfl) ?_
 repeat (first|(apply bT (hg:=rfl);case h=>(intro A w' hB hk;simp [known,specOf,Kd.spec,Sp.is,isVar,Oper.looksAt,Op.operands,Call.operands,Act.eval] at hk;have c_hA:=aA (hB.blk hA (by first|(simp;done)|(simp;omega)));have c_hC:=aA (hB.blk hC (by first|(simp;done)|(simp;omega)));first|(simp [go_sem,hk,c_hA,c_hC];done)|(simp [go_sem,hk,c_hA,c_hC];rfl)|(simp [go_sem,c_hA,c_hC];rfl)))|(refine aW _ ?_ (by first|exact .inl rfl|exact .inr rfl) (by rfl) (by simp [specOf,Kd.spec];rfl) ?_ rfl ?_;(first|exact Sp.is_stable _ _|exact aK (fun _=>rfl) _|exact spTwo_stable (fun _=>rfl) _ _|exact spFr_stable (fun _=>rfl) _|exact spSum_stable (fun _=>rfl) _|exact spSgn_stable _ _|exact spNb_stable (fun _=>rfl) (fun _=>rfl) _|exact spVc_stable (fun _=>rfl) (fun _=>rfl) _)))
 refine aQ (Sp.is (.int .i64 (k:Int))) (Sp.is_stable _ _) rfl (fun A w' hB hk=>?_) ?_;(simp [known,specOf,Kd.spec,Sp.is,isVar,Oper.looksAt,Op.operands,Call.operands,Act.eval] at hk;have c_hA:=aA (hB.blk hA (by first|(simp;done)|(simp;omega)));simp [go_sem,hk,c_hA];refine aG ?_;exact Gives.ty (H.out.2.2.2.2.2.2.2.2 _))
 refine aQ (Sp.is (.tuple #[.int .i64 r1,.bool o1])) (Sp.is_stable _ _) rfl (fun A w' hB hk=>?_) ?_;(simp [known,specOf,Kd.spec,Sp.is,isVar,Oper.looksAt,Op.operands,Call.operands,Act.eval] at hk;have c_hA:=aA (hB.blk hA (by first|(simp;done)|(simp;omega)));simp [go_sem,hk,c_hA];refine aG ?_;exact Gives.ty (H.out.1 _))
 repeat (first|(apply bT (hg:=rfl);case h=>(intro A w' hB hk;simp [known,specOf,Kd.spec,Sp.is,isVar,Oper.looksAt,Op.operands,Call.operands,Act.eval] at hk;have c_hA:=aA (hB.blk hA (by first|(simp;done)|(simp;omega)));have c_hC:=aA (hB.blk hC (by first|(simp;done)|(simp;omega)));first|(simp [go_sem,hk,c_hA,c_hC];done)|(simp [go_sem,hk,c_hA,c_hC];rfl)|(simp [go_sem,c_hA,c_hC];rfl)))|(refine aW _ ?_ (by first|exact .inl rfl|exact .inr rfl) (by rfl) (by simp [specOf,Kd.spec];rfl) ?_ rfl ?_;(first|exact Sp.is_stable _ _|exact aK (fun _=>rfl) _|exact spTwo_stable (fun _=>rfl) _ _|exact spFr_stable (fun _=>rfl) _|exact spSum_stable (fun _=>rfl) _|exact spSgn_stable _ _|exact spNb_stable (fun _=>rfl) (fun _=>rfl) _|exact spVc_stable (fun _=>rfl) (fun _=>rfl) _)))
 refine ⟨by first|rfl|decide,fun f w2 hB hF hAp=>?_⟩;simp [Final1,Sp.is,isVar] at hF;simp only [frameOf,Act.put,List.setIfInBounds_toArray,List.set_cons_succ,List.set_cons_zero,hF]
 have hA:=hB.blk hA (by simp)
 have hC:=hB.blk hC (by simp)
 have hR:=hB.blk hR (by simp)
 have hW:=Below.step_trans hW hB.below
 clear hB hAp hF
 go_wp2
 refine wp_region_ty Kn [] (by kernel_rfl) (by kernel_rfl) ?_
 repeat (first|(apply bT (hg:=rfl);case h=>(intro A w' hB hk;simp [known,specOf,Kd.spec,Sp.is,isVar,Oper.looksAt,Op.operands,Call.operands,Act.eval] at hk;have c_hA:=aA (hB.blk hA (by first|(simp;done)|(simp;omega)));have c_hC:=aA (hB.blk hC (by first|(simp;done)|(simp;omega)));first|(simp [go_sem,hk,c_hA,c_hC];done)|(simp [go_sem,hk,c_hA,c_hC];rfl)|(simp [go_sem,c_hA,c_hC];rfl)))|(refine aW _ ?_ (by first|exact .inl rfl|exact .inr rfl) (by rfl) (by simp [specOf,Kd.spec];rfl) ?_ rfl ?_;(first|exact Sp.is_stable _ _|exact aK (fun _=>rfl) _|exact spTwo_stable (fun _=>rfl) _ _|exact spFr_stable (fun _=>rfl) _|exact spSum_stable (fun _=>rfl) _|exact spSgn_stable _ _|exact spNb_stable (fun _=>rfl) (fun _=>rfl) _|exact spVc_stable (fun _=>rfl) (fun _=>rfl) _)))
 refine aQ (Sp.is (.int .i64 (d:Int))) (Sp.is_stable _ _) rfl (fun A w' hB hk=>?_) ?_;(simp [known,specOf,Kd.spec,Sp.is,isVar,Oper.looksAt,Op.operands,Call.operands,Act.eval] at hk;have c_hA:=aA (hB.blk hA (by first|(simp;done)|(simp;omega)));simp [go_sem,hk,c_hA];refine aG ?_;exact Gives.ty (H.out.2.2.2.2.2.2.2.1 _))
 refine aQ (Sp.is (.tuple #[.int .i64 r2,.bool o2])) (Sp.is_stable _ _) rfl (fun A w' hB hk=>?_) ?_;(simp [known,specOf,Kd.spec,Sp.is,isVar,Oper.looksAt,Op.operands,Call.operands,Act.eval] at hk;have c_hA:=aA (hB.blk hA (by first|(simp;done)|(simp;omega)));simp [go_sem,hk,c_hA];refine aG ?_;exact Gives.ty (H.out.2.1 _))
 repeat (first|(apply bT (hg:=rfl);case h=>(intro A w' hB hk;simp [known,specOf,Kd.spec,Sp.is,isVar,Oper.looksAt,Op.operands,Call.operands,Act.eval] at hk;have c_hA:=aA (hB.blk hA (by first|(simp;done)|(simp;omega)));have c_hC:=aA (hB.blk hC (by first|(simp;done)|(simp;omega)));first|(simp [go_sem,hk,c_hA,c_hC];done)|(simp [go_sem,hk,c_hA,c_hC];rfl)|(simp [go_sem,c_hA,c_hC];rfl)))|(refine aW _ ?_ (by first|exact .inl rfl|exact .inr rfl) (by rfl) (by simp [specOf,Kd.spec];rfl) ?_ rfl ?_;(first|exact Sp.is_stable _ _|exact aK (fun _=>rfl) _|exact spTwo_stable (fun _=>rfl) _ _|exact spFr_stable (fun _=>rfl) _|exact spSum_stable (fun _=>rfl) _|exact spSgn_stable _ _|exact spNb_stable (fun _=>rfl) (fun _=>rfl) _|exact spVc_stable (fun _=>rfl) (fun _=>rfl) _)))
 refine ⟨by first|rfl|decide,fun f w2 hB hF hAp=>?_⟩;simp [Final1,Sp.is,isVar] at hF;simp only [frameOf,Act.put,List.setIfInBounds_toArray,List.set_cons_succ,List.set_cons_zero,hF]
 have hA:=hB.blk hA (by simp)
 have hC:=hB.blk hC (by simp)
 have hR:=hB.blk hR (by simp)
 have hW:=Below.step_trans hW hB.below
 clear hB hAp hF
 go_wp2
 refine wp_region_ty Kn [] (by kernel_rfl) (by kernel_rfl) ?_
 repeat (first|(apply bT (hg:=rfl);case h=>(intro A w' hB hk;simp [known,specOf,Kd.spec,Sp.is,isVar,Oper.looksAt,Op.operands,Call.operands,Act.eval] at hk;have c_hA:=aA (hB.blk hA (by first|(simp;done)|(simp;omega)));have c_hC:=aA (hB.blk hC (by first|(simp;done)|(simp;omega)));first|(simp [go_sem,hk,c_hA,c_hC];done)|(simp [go_sem,hk,c_hA,c_hC];rfl)|(simp [go_sem,c_hA,c_hC];rfl)))|(refine aW _ ?_ (by first|exact .inl rfl|exact .inr rfl) (by rfl) (by simp [specOf,Kd.spec];rfl) ?_ rfl ?_;(first|exact Sp.is_stable _ _|exact aK (fun _=>rfl) _|exact spTwo_stable (fun _=>rfl) _ _|exact spFr_stable (fun _=>rfl) _|exact spSum_stable (fun _=>rfl) _|exact spSgn_stable _ _|exact spNb_stable (fun _=>rfl) (fun _=>rfl) _|exact spVc_stable (fun _=>rfl) (fun _=>rfl) _)))
 refine aQ (Sp.is (.int .i64 (d:Int))) (Sp.is_stable _ _) rfl (fun A w' hB hk=>?_) ?_;(simp [known,specOf,Kd.spec,Sp.is,isVar,Oper.looksAt,Op.operands,Call.operands,Act.eval] at hk;have c_hA:=aA (hB.blk hA (by first|(simp;done)|(simp;omega)));simp [go_sem,hk,c_hA];refine aG ?_;exact Gives.ty (H.out.2.2.2.2.2.2.2.1 _))
 repeat (first|(apply bT (hg:=rfl);case h=>(intro A w' hB hk;simp [known,specOf,Kd.spec,Sp.is,isVar,Oper.looksAt,Op.operands,Call.operands,Act.eval] at hk;have c_hA:=aA (hB.blk hA (by first|(simp;done)|(simp;omega)));have c_hC:=aA (hB.blk hC (by first|(simp;done)|(simp;omega)));first|(simp [go_sem,hk,c_hA,c_hC];done)|(simp [go_sem,hk,c_hA,c_hC];rfl)|(simp [go_sem,c_hA,c_hC];rfl)))|(refine aW _ ?_ (by first|exact .inl rfl|exact .inr rfl) (by rfl) (by simp [specOf,Kd.spec];rfl) ?_ rfl ?_;(first|exact Sp.is_stable _ _|exact aK (fun _=>rfl) _|exact spTwo_stable (fun _=>rfl) _ _|exact spFr_stable (fun _=>rfl) _|exact spSum_stable (fun _=>rfl) _|exact spSgn_stable _ _|exact spNb_stable (fun _=>rfl) (fun _=>rfl) _|exact spVc_stable (fun _=>rfl) (fun _=>rfl) _)))
 refine aQ (Sp.is (.int .i64 (k:Int))) (Sp.is_stable _ _) rfl (fun A w' hB hk=>?_) ?_;(simp [known,specOf,Kd.spec,Sp.is,isVar,Oper.looksAt,Op.operands,Call.operands,Act.eval] at hk;have c_hA:=aA (hB.blk hA (by first|(simp;done)|(simp;omega)));simp [go_sem,hk,c_hA];refine aG ?_;exact Gives.ty (H.out.2.2.2.2.2.2.2.2 _))
 refine aQ (Sp.is (.tuple #[.int .i64 r3,.bool o3])) (Sp.is_stable _ _) rfl (fun A w' hB hk=>?_) ?_;(simp [known,specOf,Kd.spec,Sp.is,isVar,Oper.looksAt,Op.operands,Call.operands,Act.eval] at hk;have c_hA:=aA (hB.blk hA (by first|(simp;done)|(simp;omega)));simp [go_sem,hk,c_hA];refine aG ?_;exact Gives.ty (H.out.2.2.1 _))
 repeat (first|(apply bT (hg:=rfl);case h=>(intro A w' hB hk;simp [known,specOf,Kd.spec,Sp.is,isVar,Oper.looksAt,Op.operands,Call.operands,Act.eval] at hk;have c_hA:=aA (hB.blk hA (by first|(simp;done)|(simp;omega)));have c_hC:=aA (hB.blk hC (by first|(simp;done)|(simp;omega)));first|(simp [go_sem,hk,c_hA,c_hC];done)|(simp [go_sem,hk,c_hA,c_hC];rfl)|(simp [go_sem,c_hA,c_hC];rfl)))|(refine aW _ ?_ (by first|exact .inl rfl|exact .inr rfl) (by rfl) (by simp [specOf,Kd.spec];rfl) ?_ rfl ?_;(first|exact Sp.is_stable _ _|exact aK (fun _=>rfl) _|exact spTwo_stable (fun _=>rfl) _ _|exact spFr_stable (fun _=>rfl) _|exact spSum_stable (fun _=>rfl) _|exact spSgn_stable _ _|exact spNb_stable (fun _=>rfl) (fun _=>rfl) _|exact spVc_stable (fun _=>rfl) (fun _=>rfl) _)))
 refine ⟨by first|rfl|decide,fun f w2 hB hF hAp=>?_⟩;simp [Final1,Sp.is,isVar] at hF;simp only [frameOf,Act.put,List.setIfInBounds_toArray,List.set_cons_succ,List.set_cons_zero,hF]
 have hR:=hB.blk hR (by simp)
 have hW:=Below.step_trans hW hB.below
 obtain ⟨⟨r0,ra,rb⟩,f0,f1,f2⟩:=dR hR
 have HR:=Lib.hid (And.intro hR hW)
 clear hB hAp hF hA hC hR hW
 by_cases hall:o1=true∧o2=true∧o3=true
 ·obtain ⟨rfl,rfl,rfl⟩:=hall
  obtain ⟨rn,rd,hl1,hl2⟩:=H.out.2.2.2.2.1 rfl rfl rfl
  have HL:=Lib.hid (And.intro hl1 hl2)
  clear hl1 hl2 r0 ra rb f0 f1 f2
  go_wp2_with fail
  refine (H.out.2.2.2.1 _).mono ?_
  rintro e w5 ⟨rfl,b5⟩
  have B5:=Lib.hid b5
  clear b5
  go_wp2_with fail
  refine (HL.out.1 _).mono ?_
  rintro e w6 ⟨rfl,b6⟩
  have hb:=Below.step_trans B5.out b6
  obtain ⟨⟨r0,ra,rb⟩,f0,f1,f2⟩:=dR (aL hb HR.out.1)
  have B6:=Lib.hid (Below.step_trans HR.out.2 hb)
  clear b6 hb
  go_wp2
  refine bodyPost_ret (v := .tuple #[.agg #[.int .i64 rn,.int .i64 (rd-1),.pointer none],.bool o4]) (by simp [results,Tryz.results144,go_sem,r0,ra,rb]) rfl ⟨_,_,_,rfl,HL.out.2,?_⟩
  repeat (first|exact B6.out|(refine Below.setCell ?_ (by first|omega|(simp;done)|(simp;omega)) _)|(refine Below.alloc ?_ (by first|omega|(simp;done)|(simp;omega)) _)|(refine Below.drew ?_)|exact Below.refl _ _)
 ·cases o1 <;> cases o2 <;> cases o3
  case neg.true.true.true=>exact absurd ⟨rfl,rfl,rfl⟩ hall
  all_goals
   clear hall
   go_wp2
   refine bodyPost_ret (v := .tuple #[.agg #[.int .i64 0,.int .i64 0,.pointer none],.bool false]) (by simp [results,Tryz.results144,go_sem,r0,ra,rb]) rfl ⟨_,_,_,rfl,fun h=>by (cases h),?_⟩
   repeat (first|exact HR.out.2|(refine Below.setCell ?_ (by first|omega|(simp;done)|(simp;omega)) _)|(refine Below.alloc ?_ (by first|omega|(simp;done)|(simp;omega)) _)|(refine Below.drew ?_)|exact Below.refl _ _)
theorem plusSmall_any (p q:Rat) (w:World) (hp:Sm p) (hq:Sm q):Calls Tryz.prog 144 #[smV p.num p.den,smV q.num q.den] w (GivesNumOk w (p+q)):=by
 by_cases hd:p.den=q.den
 ·exact plusSmall_same p q w hp hq hd
 ·exact plusSmall_apart p q w hp hq hd
set_option maxRecDepth 100000 in
set_option maxHeartbeats 8000000 in
theorem plus_nb (v v' : Value) (p q:Rat) (w:World) (h:Nb w v p) (h' : Nb w v' q) (hp:Lf 36 p) (hq:Lf 36 q):Calls Tryz.prog 80 #[v,v'] w (GivesNb w (p+q)):=by
 obtain ⟨n1,d1,a1,rfl⟩:=h.form
 obtain ⟨n2,d2,a2,rfl⟩:=h'.form
 obtain ⟨hk1,hk2,hk3,hb1⟩:=eR w (.cells #[.int .i64 n1,.int .i64 d1,.pointer a1] 67) (.cells #[.int .i64 n2,.int .i64 d2,.pointer a2] 67) (.cells #[.int .i64 0,.int .i64 0,.pointer none] 67)
 have H:=Lib.hid (And.intro (h.below hb1) (And.intro (h'.below hb1) (And.intro hp (And.intro hq (And.intro hb1 (And.intro hk1 (And.intro hk2 hk3)))))))
 by_cases hs:Sm p∧Sm q
 ·have e1:Value.agg #[.int .i64 n1,.int .i64 d1,.pointer a1]=smV p.num p.den:=by
   rcases h with ⟨_,e⟩|⟨hn,_⟩
   ·exact e
   ·exact absurd hs.1 hn
  have e2:Value.agg #[.int .i64 n2,.int .i64 d2,.pointer a2]=smV q.num q.den:=by
   rcases h' with ⟨_,e⟩|⟨hn,_⟩
   ·exact e
   ·exact absurd hs.2 hn
  have ha:∀ w',Calls Tryz.prog 143 #[.agg #[.int .i64 n1,.int .i64 d1,.pointer a1],.agg #[.int .i64 n2,.int .i64 d2,.pointer a2]] w' (Gives w' (.bool true)):=fun w'=>areSmall_yes _ _ p q w' hs.1 hs.2 e1 e2
  have hc:∀ w',Calls Tryz.prog 144 #[.agg #[.int .i64 n1,.int .i64 d1,.pointer a1],.agg #[.int .i64 n2,.int .i64 d2,.pointer a2]] w' (GivesNumOk w' (p+q)):=fun w'=>by
   rw [e1,e2]
   exact plusSmall_any p q w' hs.1 hs.2
  have HS:=Lib.hid (And.intro ha hc)
  clear ha hc e1 e2 hs h h' hp hq hb1 hk1 hk2 hk3
  go_enter Tryz.func80,Tryz.ntmps80
  go_wp2_with fail
  refine (HS.out.1 _).mono ?_
  rintro e w2 ⟨rfl,b2⟩
  have B2:=Lib.hid (And.intro (Below.step_trans H.out.2.2.2.2.1 b2) (And.intro b2 (And.intro (aL b2 H.out.2.2.2.2.2.1) (And.intro (aL b2 H.out.2.2.2.2.2.2.1) (aL b2 H.out.2.2.2.2.2.2.2)))))
  obtain ⟨⟨u0,u1,u2⟩,_⟩:=dR (aL b2 H.out.2.2.2.2.2.1)
  obtain ⟨⟨u3,u4,u5⟩,_⟩:=dR (aL b2 H.out.2.2.2.2.2.2.1)
  clear b2
  go_wp2_with fail
  refine (HS.out.2 _).mono ?_
  rintro e w3 ⟨rn,rd,ok,rfl,hok,b3⟩
  have hA3:=aL b3 B2.out.2.2.1
  have hC3:=aL b3 B2.out.2.2.2.1
  have hR3:=aL b3 B2.out.2.2.2.2
  have B3:=Lib.hid (And.intro hok (And.intro (Below.step_trans B2.out.1 b3) (And.intro (Below.step_trans B2.out.2.1 b3) (And.intro hA3 (And.intro hC3 hR3)))))
  clear u0 u1 u2 u3 u4 u5 b3 hok hA3 hC3 hR3
  have hlt3:=lt_of_block B3.out.2.2.2.2.2
  cases ok
  ·go_wp2
   have hb4:Below w3.heap.size w3 (w3.alloc (.cells #[.int .i64 rn,.int .i64 rd,.pointer none] 67)):=(Below.refl _ _).alloc (Nat.le_refl _) _
   have B4:=Lib.hid (And.intro (Below.step_trans B3.out.2.1 hb4) (And.intro (Below.step_trans B3.out.2.2.1 hb4) (And.intro (aL hb4 B3.out.2.2.2.1) (And.intro (aL hb4 B3.out.2.2.2.2.1) (aL hb4 B3.out.2.2.2.2.2)))))
   clear hb4
   generalize w3.alloc (.cells #[.int .i64 rn,.int .i64 rd,.pointer none] 67)=w4 at *
   have hA:=B4.out.2.2.1
   have hC:=B4.out.2.2.2.1
   have hR:=B4.out.2.2.2.2
   have t1:∀ w',Base [w.heap.size+1+1] w4 w'→Calls Tryz.prog 145 #[.agg #[.int .i64 n1,.int .i64 d1,.pointer a1]] w' (TyPost w' (fR p)):=fun w' hB =>
    GivesFr.ty (cE _ _ _ (Nb.ext (K:=Kn) (fun _=>rfl) (fun _=>rfl) (H.out.1.below B4.out.2.1) (hB.extT B4.out.2.2.2.2 (by simp [hotObj,Kn]))))
   have t2:∀ w',Base [w.heap.size+1+1] w4 w'→Calls Tryz.prog 145 #[.agg #[.int .i64 n2,.int .i64 d2,.pointer a2]] w' (TyPost w' (fR q)):=fun w' hB =>
    GivesFr.ty (cE _ _ _ (Nb.ext (K:=Kn) (fun _=>rfl) (fun _=>rfl) (H.out.2.1.below B4.out.2.1) (hB.extT B4.out.2.2.2.2 (by simp [hotObj,Kn]))))
   have t3:∀ w' x y,Fr w' x p→Fr w' y q→Calls Tryz.prog 146 #[x,y] w' (TyPost w' (fR (p+q))):=fun w' x y hx hy=>GivesFr.ty (fraPlus_any x y p q w' hx hy H.out.2.2.1 H.out.2.2.2.1)
   have t4:∀ w' x,Fr w' x (p+q)→Calls Tryz.prog 65 #[x] w' (TyPost w' (spNb (p+q))):=fun w' x hx=>GivesNb.ty (fH x _ w' hx)
   have T:=Lib.hid (And.intro t1 (And.intro t2 (And.intro t3 t4)))
   clear t1 t2 t3 t4
   refine wp_region_ty Kn [w.heap.size+1+1] (by kernel_rfl) (by kernel_rfl) ?_
   repeat (first|(apply bT (hg:=rfl);case h=>(intro A w' hB hk;simp [known,specOf,Kd.spec,Sp.is,isVar,Oper.looksAt,Op.operands,Call.operands,Act.eval] at hk;have c_hA:=aA (hB.blk hA (by first|(simp;done)|(simp;omega)));have c_hC:=aA (hB.blk hC (by first|(simp;done)|(simp;omega)));first|(simp [go_sem,hk,c_hA,c_hC];done)|(simp [go_sem,hk,c_hA,c_hC];rfl)|(simp [go_sem,c_hA,c_hC];rfl)))|(refine aW _ ?_ (by first|exact .inl rfl|exact .inr rfl) (by rfl) (by simp [specOf,Kd.spec];rfl) ?_ rfl ?_;(first|exact Sp.is_stable _ _|exact aK (fun _=>rfl) _|exact spTwo_stable (fun _=>rfl) _ _|exact spFr_stable (fun _=>rfl) _|exact spSum_stable (fun _=>rfl) _|exact spSgn_stable _ _|exact spNb_stable (fun _=>rfl) (fun _=>rfl) _|exact spVc_stable (fun _=>rfl) (fun _=>rfl) _)))
   refine aQ (fR p) (spFr_stable (fun _=>rfl) _) rfl (fun A w' hB hk=>?_) ?_;(simp [known,specOf,Kd.spec,Sp.is,isVar,Oper.looksAt,Op.operands,Call.operands,Act.eval] at hk;have c_hA:=aA (hB.blk hA (by first|(simp;done)|(simp;omega)));simp [go_sem,hk,c_hA];refine aG ?_;exact T.out.1 _ hB)
   repeat (first|(apply bT (hg:=rfl);case h=>(intro A w' hB hk;simp [known,specOf,Kd.spec,Sp.is,isVar,Oper.looksAt,Op.operands,Call.operands,Act.eval] at hk;have c_hA:=aA (hB.blk hA (by first|(simp;done)|(simp;omega)));have c_hC:=aA (hB.blk hC (by first|(simp;done)|(simp;omega)));first|(simp [go_sem,hk,c_hA,c_hC];done)|(simp [go_sem,hk,c_hA,c_hC];rfl)|(simp [go_sem,c_hA,c_hC];rfl)))|(refine aW _ ?_ (by first|exact .inl rfl|exact .inr rfl) (by rfl) (by simp [specOf,Kd.spec];rfl) ?_ rfl ?_;(first|exact Sp.is_stable _ _|exact aK (fun _=>rfl) _|exact spTwo_stable (fun _=>rfl) _ _|exact spFr_stable (fun _=>rfl) _|exact spSum_stable (fun _=>rfl) _|exact spSgn_stable _ _|exact spNb_stable (fun _=>rfl) (fun _=>rfl) _|exact spVc_stable (fun _=>rfl) (fun _=>rfl) _)))
   refine aQ (fR q) (spFr_stable (fun _=>rfl) _) rfl (fun A w' hB hk=>?_) ?_;(simp [known,specOf,Kd.spec,Sp.is,isVar,Oper.looksAt,Op.operands,Call.operands,Act.eval] at hk;have c_hA:=aA (hB.blk hA (by first|(simp;done)|(simp;omega)));simp [go_sem,hk,c_hA];refine aG ?_;exact T.out.2.1 _ hB)
   refine aQ (fR (p+q)) (spFr_stable (fun _=>rfl) _) rfl (fun A w' hB hk=>?_) ?_;(simp [known,specOf,Kd.spec,Sp.is,isVar,Oper.looksAt,Op.operands,Call.operands,Act.eval] at hk;have c_hA:=aA (hB.blk hA (by first|(simp;done)|(simp;omega)));simp [go_sem,hk,c_hA];refine aG ?_;exact T.out.2.2.1 _ _ _ hk.1 hk.2)
   refine aQ (spNb (p+q)) (spNb_stable (fun _=>rfl) (fun _=>rfl) _) rfl (fun A w' hB hk=>?_) ?_;(simp [known,specOf,Kd.spec,Sp.is,isVar,Oper.looksAt,Op.operands,Call.operands,Act.eval] at hk;have c_hA:=aA (hB.blk hA (by first|(simp;done)|(simp;omega)));simp [go_sem,hk,c_hA];refine aG ?_;exact T.out.2.2.2 _ _ hk)
   refine ty_old (w.heap.size+1+1) (_) (coNb (p+q)) (eL (fun _=>rfl) (fun _=>rfl) _) rfl rfl (by simp) (by assumption) (by simp [hotObj,Ku,Kn]) (fun A w' hB hk h0=>?_) ?_;(simp [known,specOf,Kd.spec,Sp.is,isVar,Oper.looksAt,Op.operands,Call.operands,Act.eval] at hk;have c_hA:=aA (hB.blk hA (by first|(simp;done)|(simp;omega)));have c0:=aA h0;have f0:=aY h0;obtain ⟨k1,k2⟩:=hk;obtain ⟨y1,y2,y3,e1⟩:=(show Nb _ _ _ from k2).form;rw [e1] at k2;simp [go_sem,k1,e1,c0,f0];exact ⟨_,eQ h0 _ _ _,_,_,_,rfl,k2⟩)
   refine ⟨by first|rfl|decide,fun f w2 hB hF hAp=>?_⟩;simp [Final1,Sp.is,isVar] at hF;simp only [frameOf]
   obtain ⟨o,⟨y1,y2,y3,rfl,k3⟩,ho⟩:=hF.1
   obtain ⟨⟨r0,r1,r2⟩,_⟩:=dR ho
   have K:=Lib.hid (And.intro k3 hB)
   clear k3 hB ho hA hC hR hAp hF
   go_wp2
   refine bodyPost_ret (v := .agg #[.int .i64 y1,.int .i64 y2,.pointer y3]) (by simp [results,Tryz.results80,go_sem,r0,r1,r2,Act.put]) rfl ⟨_,rfl,K.out.1,?_⟩
   exact Base.belowT K.out.2 B4.out.1 (by omega)
  ·obtain ⟨hsm,hv⟩:=B3.out.1 rfl
   obtain ⟨⟨g0,g1,g2⟩,f0,f1,f2⟩:=dR B3.out.2.2.2.2.2
   have HV:=Lib.hid (And.intro hsm hv)
   clear hsm hv
   have hpast:∀ (W:World) (o:Obj) (i:Nat),W.heap.size=w3.heap.size→(W.alloc o).cell? ⟨w.heap.size+1+1,i,none⟩=W.cell? ⟨w.heap.size+1+1,i,none⟩:=fun W o i h=>World.cell?_alloc_past _ _ _ (by show w.heap.size+1+1<W.heap.size;omega)
   have HP:=Lib.hid hpast
   clear hpast
   go_wp2
   refine bodyPost_ret (v := .agg #[.int .i64 rn,.int .i64 rd,.pointer none]) (by simp [results,Tryz.results80,go_sem,g0,g1,g2,HP.out]) rfl ⟨_,rfl,.inl HV.out,?_⟩
   repeat (first|exact B3.out.2.1|(refine Below.setCell ?_ (by first|omega|(simp;done)|(simp;omega)) _)|(refine Below.alloc ?_ (by first|omega|(simp;done)|(simp;omega)) _)|(refine Below.drew ?_)|exact Below.refl _ _)
 ·have ha:∀ w',Below w.heap.size w w'→Calls Tryz.prog 143 #[.agg #[.int .i64 n1,.int .i64 d1,.pointer a1],.agg #[.int .i64 n2,.int .i64 d2,.pointer a2]] w' (Gives w' (.bool false)):=fun w' hb=>areSmall_no _ _ p q w' (h.below hb) (h'.below hb) hs
  have HS:=Lib.hid ha
  clear ha hs h h' hp hq hb1 hk1 hk2 hk3
  go_enter Tryz.func80,Tryz.ntmps80
  go_wp2_with fail
  refine (HS.out _ H.out.2.2.2.2.1).mono ?_
  rintro e w2 ⟨rfl,b2⟩
  have B2:=Lib.hid (And.intro (Below.step_trans H.out.2.2.2.2.1 b2) (And.intro b2 (And.intro (aL b2 H.out.2.2.2.2.2.1) (And.intro (aL b2 H.out.2.2.2.2.2.2.1) (aL b2 H.out.2.2.2.2.2.2.2)))))
  clear b2
  go_wp2
  have hA:=B2.out.2.2.1
  have hC:=B2.out.2.2.2.1
  have hR:=B2.out.2.2.2.2
  have t1:∀ w',Base [w.heap.size+1+1] w2 w'→Calls Tryz.prog 145 #[.agg #[.int .i64 n1,.int .i64 d1,.pointer a1]] w' (TyPost w' (fR p)):=fun w' hB =>
   GivesFr.ty (cE _ _ _ (Nb.ext (K:=Kn) (fun _=>rfl) (fun _=>rfl) (H.out.1.below B2.out.2.1) (hB.extT B2.out.2.2.2.2 (by simp [hotObj,Kn]))))
  have t2:∀ w',Base [w.heap.size+1+1] w2 w'→Calls Tryz.prog 145 #[.agg #[.int .i64 n2,.int .i64 d2,.pointer a2]] w' (TyPost w' (fR q)):=fun w' hB =>
   GivesFr.ty (cE _ _ _ (Nb.ext (K:=Kn) (fun _=>rfl) (fun _=>rfl) (H.out.2.1.below B2.out.2.1) (hB.extT B2.out.2.2.2.2 (by simp [hotObj,Kn]))))
  have t3:∀ w' x y,Fr w' x p→Fr w' y q→Calls Tryz.prog 146 #[x,y] w' (TyPost w' (fR (p+q))):=fun w' x y hx hy=>GivesFr.ty (fraPlus_any x y p q w' hx hy H.out.2.2.1 H.out.2.2.2.1)
  have t4:∀ w' x,Fr w' x (p+q)→Calls Tryz.prog 65 #[x] w' (TyPost w' (spNb (p+q))):=fun w' x hx=>GivesNb.ty (fH x _ w' hx)
  have T:=Lib.hid (And.intro t1 (And.intro t2 (And.intro t3 t4)))
  clear t1 t2 t3 t4
  refine wp_region_ty Kn [w.heap.size+1+1] (by kernel_rfl) (by kernel_rfl) ?_
  repeat (first|(apply bT (hg:=rfl);case h=>(intro A w' hB hk;simp [known,specOf,Kd.spec,Sp.is,isVar,Oper.looksAt,Op.operands,Call.operands,Act.eval] at hk;have c_hA:=aA (hB.blk hA (by first|(simp;done)|(simp;omega)));have c_hC:=aA (hB.blk hC (by first|(simp;done)|(simp;omega)));first|(simp [go_sem,hk,c_hA,c_hC];done)|(simp [go_sem,hk,c_hA,c_hC];rfl)|(simp [go_sem,c_hA,c_hC];rfl)))|(refine aW _ ?_ (by first|exact .inl rfl|exact .inr rfl) (by rfl) (by simp [specOf,Kd.spec];rfl) ?_ rfl ?_;(first|exact Sp.is_stable _ _|exact aK (fun _=>rfl) _|exact spTwo_stable (fun _=>rfl) _ _|exact spFr_stable (fun _=>rfl) _|exact spSum_stable (fun _=>rfl) _|exact spSgn_stable _ _|exact spNb_stable (fun _=>rfl) (fun _=>rfl) _|exact spVc_stable (fun _=>rfl) (fun _=>rfl) _)))
  refine aQ (fR p) (spFr_stable (fun _=>rfl) _) rfl (fun A w' hB hk=>?_) ?_;(simp [known,specOf,Kd.spec,Sp.is,isVar,Oper.looksAt,Op.operands,Call.operands,Act.eval] at hk;have c_hA:=aA (hB.blk hA (by first|(simp;done)|(simp;omega)));simp [go_sem,hk,c_hA];refine aG ?_;exact T.out.1 _ hB)
  repeat (first|(apply bT (hg:=rfl);case h=>(intro A w' hB hk;simp [known,specOf,Kd.spec,Sp.is,isVar,Oper.looksAt,Op.operands,Call.operands,Act.eval] at hk;have c_hA:=aA (hB.blk hA (by first|(simp;done)|(simp;omega)));have c_hC:=aA (hB.blk hC (by first|(simp;done)|(simp;omega)));first|(simp [go_sem,hk,c_hA,c_hC];done)|(simp [go_sem,hk,c_hA,c_hC];rfl)|(simp [go_sem,c_hA,c_hC];rfl)))|(refine aW _ ?_ (by first|exact .inl rfl|exact .inr rfl) (by rfl) (by simp [specOf,Kd.spec];rfl) ?_ rfl ?_;(first|exact Sp.is_stable _ _|exact aK (fun _=>rfl) _|exact spTwo_stable (fun _=>rfl) _ _|exact spFr_stable (fun _=>rfl) _|exact spSum_stable (fun _=>rfl) _|exact spSgn_stable _ _|exact spNb_stable (fun _=>rfl) (fun _=>rfl) _|exact spVc_stable (fun _=>rfl) (fun _=>rfl) _)))
  refine aQ (fR q) (spFr_stable (fun _=>rfl) _) rfl (fun A w' hB hk=>?_) ?_;(simp [known,specOf,Kd.spec,Sp.is,isVar,Oper.looksAt,Op.operands,Call.operands,Act.eval] at hk;have c_hA:=aA (hB.blk hA (by first|(simp;done)|(simp;omega)));simp [go_sem,hk,c_hA];refine aG ?_;exact T.out.2.1 _ hB)
  refine aQ (fR (p+q)) (spFr_stable (fun _=>rfl) _) rfl (fun A w' hB hk=>?_) ?_;(simp [known,specOf,Kd.spec,Sp.is,isVar,Oper.looksAt,Op.operands,Call.operands,Act.eval] at hk;have c_hA:=aA (hB.blk hA (by first|(simp;done)|(simp;omega)));simp [go_sem,hk,c_hA];refine aG ?_;exact T.out.2.2.1 _ _ _ hk.1 hk.2)
  refine aQ (spNb (p+q)) (spNb_stable (fun _=>rfl) (fun _=>rfl) _) rfl (fun A w' hB hk=>?_) ?_;(simp [known,specOf,Kd.spec,Sp.is,isVar,Oper.looksAt,Op.operands,Call.operands,Act.eval] at hk;have c_hA:=aA (hB.blk hA (by first|(simp;done)|(simp;omega)));simp [go_sem,hk,c_hA];refine aG ?_;exact T.out.2.2.2 _ _ hk)
  refine ty_old (w.heap.size+1+1) (_) (coNb (p+q)) (eL (fun _=>rfl) (fun _=>rfl) _) rfl rfl (by simp) (by assumption) (by simp [hotObj,Ku,Kn]) (fun A w' hB hk h0=>?_) ?_;(simp [known,specOf,Kd.spec,Sp.is,isVar,Oper.looksAt,Op.operands,Call.operands,Act.eval] at hk;have c_hA:=aA (hB.blk hA (by first|(simp;done)|(simp;omega)));have c0:=aA h0;have f0:=aY h0;obtain ⟨k1,k2⟩:=hk;obtain ⟨y1,y2,y3,e1⟩:=(show Nb _ _ _ from k2).form;rw [e1] at k2;simp [go_sem,k1,e1,c0,f0];exact ⟨_,eQ h0 _ _ _,_,_,_,rfl,k2⟩)
  refine ⟨by first|rfl|decide,fun f w2 hB hF hAp=>?_⟩;simp [Final1,Sp.is,isVar] at hF;simp only [frameOf]
  obtain ⟨o,⟨y1,y2,y3,rfl,k3⟩,ho⟩:=hF.1
  obtain ⟨⟨r0,r1,r2⟩,_⟩:=dR ho
  have K:=Lib.hid (And.intro k3 hB)
  clear k3 hB ho hA hC hR hAp hF
  go_wp2
  refine bodyPost_ret (v := .agg #[.int .i64 y1,.int .i64 y2,.pointer y3]) (by simp [results,Tryz.results80,go_sem,r0,r1,r2,Act.put]) rfl ⟨_,rfl,K.out.1,?_⟩
  exact Base.belowT K.out.2 B2.out.1 (by omega)
theorem small_raw (n d:Int) (w:World) (h1:-9223372036854775807≤d) (h2:d≤9223372036854775807):Calls Tryz.prog 99 #[.int .i64 n,.int .i64 d] w (Gives w (.agg #[.int .i64 n,.int .i64 (d-1),.pointer none])):=by
 go_enter Tryz.func99,Tryz.ntmps99
 go_wp2
 refine bodyPost_ret (v := .agg #[.int .i64 n,.int .i64 (d-1),.pointer none]) (by simp [results,Tryz.results99,go_sem]) rfl ⟨rfl,?_⟩
 repeat (first|exact Below.refl _ _|(refine Below.setCell ?_ (by first|omega|(simp;done)|(simp;omega)) _)|(refine Below.alloc ?_ (by first|omega|(simp;done)|(simp;omega)) _)|(refine Below.drew ?_)|exact Below.refl _ _)
theorem mul_lr (p q:Rat):(p*q).num=(mkRat p.num q.den).num*(mkRat q.num p.den).num∧(p*q).den=(mkRat p.num q.den).den*(mkRat q.num p.den).den:=by
 by_cases hp:p=0
 ·subst hp
  rw [Rat.zero_mul,show (0:Rat).num=0 from rfl,Rat.zero_mkRat,show (0:Rat).den=1 from rfl,show (0:Rat).num=0 from rfl,Int.zero_mul]
  refine ⟨rfl,?_⟩
  rw [Rat.den_mkRat,if_neg (by omega),Nat.gcd_one_left]
 ·by_cases hq:q=0
  ·subst hq
   rw [Rat.mul_zero,show (0:Rat).num=0 from rfl,Rat.zero_mkRat,show (0:Rat).den=1 from rfl,show (0:Rat).num=0 from rfl,Int.mul_zero]
   refine ⟨rfl,?_⟩
   rw [Rat.den_mkRat,if_neg (by omega),Nat.gcd_one_left]
  ·have h1:(mkRat p.num q.den).num.natAbs≠0:=fun h=>by
    have:(mkRat p.num q.den)=0:=Rat.num_eq_zero.1 (by omega)
    rw [Rat.mkRat_eq_zero q.den_nz] at this
    exact hp (Rat.num_eq_zero.1 this)
   have h2:(mkRat q.num p.den).num.natAbs≠0:=fun h=>by
    have:(mkRat q.num p.den)=0:=Rat.num_eq_zero.1 (by omega)
    rw [Rat.mkRat_eq_zero p.den_nz] at this
    exact hq (Rat.num_eq_zero.1 this)
   have h3:=Parts.mul (Parts.self (mkRat p.num q.den)) (Parts.self (mkRat q.num p.den)) h1 h2
   refine ⟨?_,h3.2.2.symm⟩
   rw [h3.num_eq,← sg_sg,sg_of,sg_of]
theorem sm_lr {p q:Rat} (hp:Sm p) (hq:Sm q):Sm (mkRat p.num q.den):=by
 obtain ⟨h1,h2⟩:=dX p.num q.den_nz
 exact ⟨Nat.le_trans h1 hp.1,Nat.le_trans h2 hq.2⟩
set_option maxRecDepth 100000 in
set_option maxHeartbeats 8000000 in
theorem timesSmall_any (p q:Rat) (w:World) (hp:Sm p) (hq:Sm q):Calls Tryz.prog 152 #[smV p.num p.den,smV q.num q.den] w (GivesNumOk w (p*q)):=by
 obtain ⟨hmn,hmd⟩:=mul_lr p q
 have hL:=sm_lr hp hq
 have hR:=sm_lr hq hp
 have mp:=sm_den hp
 have mq:=sm_den hq
 have np:=sm_num hp
 have nq:=sm_num hq
 obtain ⟨l1,_⟩:=lowest_ex p.num q.den (by have:=np.1;omega) np.2 q.den_pos mq.2
 obtain ⟨l2,_⟩:=lowest_ex q.num p.den (by have:=nq.1;omega) nq.2 p.den_pos mp.2
 have mL:=sm_den hL
 have mR:=sm_den hR
 obtain ⟨r1,o1,c1,e1,x1⟩:=productOf_ex _ _ (sm_num hL) (sm_num hR)
 obtain ⟨r2,o2,c2,e2,x2⟩:=productOf_ex ((mkRat p.num q.den).den:Int) ((mkRat q.num p.den).den:Int) ⟨by omega,mL.2⟩ ⟨by omega,mR.2⟩
 have hout:(o1&&o2)=true→Sm (p*q)∧.agg #[.int .i64 r1,.int .i64 (r2-1),.pointer none]=smV (p*q).num (p*q).den:=fun h=>by
  rw [Bool.and_eq_true] at h
  obtain ⟨y1,z1⟩:=e1 h.1
  obtain ⟨y2,z2⟩:=e2 h.2
  have hn:(p*q).num=r1:=by rw [hmn,y1]
  have hd:(((p*q).den:Nat):Int)=r2:=by rw [hmd,y2];simp
  refine ⟨⟨?_,?_⟩,by rw [smV,hn,hd]⟩
  ·rw [hn,eS];obtain ⟨a,b⟩:=x1;omega
  ·rw [eS];obtain ⟨a,b⟩:=x2;omega
 unfold smV at l1 l2 ⊢
 obtain ⟨n,hn⟩:∃ n,n=p.num:=⟨_,rfl⟩
 obtain ⟨m,hm⟩:∃ m,m=q.num:=⟨_,rfl⟩
 obtain ⟨d,hd⟩:∃ d:Int,d=(p.den:Int):=⟨_,rfl⟩
 obtain ⟨k,hk⟩:∃ k:Int,k=(q.den:Int):=⟨_,rfl⟩
 obtain ⟨ln,hln⟩:∃ ln,ln=(mkRat p.num q.den).num:=⟨_,rfl⟩
 obtain ⟨ld,hld⟩:∃ ld:Int,ld=((mkRat p.num q.den).den:Int):=⟨_,rfl⟩
 obtain ⟨rn,hrn⟩:∃ rn,rn=(mkRat q.num p.den).num:=⟨_,rfl⟩
 obtain ⟨rd,hrd⟩:∃ rd:Int,rd=((mkRat q.num p.den).den:Int):=⟨_,rfl⟩
 rw [← hln,← hld] at l1
 rw [← hrn,← hrd] at l2
 rw [← hln,← hrn] at c1
 rw [← hld,← hrd] at c2
 rw [← hld] at mL
 rw [← hrd] at mR
 rw [← hn,← hk] at l1
 rw [← hm,← hd] at l2
 rw [← hd] at mp ⊢
 rw [← hk] at mq ⊢
 rw [← hn,← hm]
 have hden:∀ (a b:Int) (w' : World),1≤b→b≤9223372036854775807→Calls Tryz.prog 100 #[.agg #[.int .i64 a,.int .i64 (b-1),.pointer none]] w' (TyPost w' (Sp.is (.int .i64 b))):=fun a b w' h1 h2=>by
  have:=Gives.ty (den_any a (b-1) none w' (by omega) (by omega))
  rwa [Int.sub_add_cancel] at this
 obtain ⟨hk1,hk2,hk3,hb1⟩:=eR w (.cells #[.int .i64 n,.int .i64 (d-1),.pointer none] 67) (.cells #[.int .i64 m,.int .i64 (k-1),.pointer none] 67) (.cells #[.int .i64 0,.int .i64 0,.pointer none] 67)
 have H:=Lib.hid (And.intro l1 (And.intro l2 (And.intro c1 (And.intro c2 (And.intro hout (And.intro hb1 (And.intro hk3 (And.intro hden (And.intro mp (And.intro mq (And.intro mL (And.intro mR x2))))))))))))
 have HK:=Lib.hid (And.intro hk1 hk2)
 clear hmn hmd hL hR hp hq mp mq np nq l1 l2 mL mR c1 e1 x1 c2 e2 x2 hout hden hk1 hk2 hk3 hb1 hn hm hd hk hln hld hrn hrd
 go_enter Tryz.func152,Tryz.ntmps152
 go_wp2
 generalize ((w.alloc (.cells #[.int .i64 n,.int .i64 (d-1),.pointer none] 67)).alloc (.cells #[.int .i64 m,.int .i64 (k-1),.pointer none] 67)).alloc (.cells #[.int .i64 0,.int .i64 0,.pointer none] 67)=w1 at *
 have hA:=HK.out.1
 have hC:=HK.out.2
 have hR:=H.out.2.2.2.2.2.2.1
 have hW:=H.out.2.2.2.2.2.1
 refine wp_region_ty Kn [] (by kernel_rfl) (by kernel_rfl) ?_
 repeat (first|(apply bT (hg:=rfl);case h=>(intro A w' hB hk;simp [known,specOf,Kd.spec,Sp.is,isVar,Oper.looksAt,Op.operands,Call.operands,Act.eval] at hk;have c_hA:=aA (hB.blk hA (by first|(simp;done)|(simp;omega)));have c_hC:=aA (hB.blk hC (by first|(simp;done)|(simp;omega)));first|(simp [go_sem,hk,c_hA,c_hC];done)|(simp [go_sem,hk,c_hA,c_hC];rfl)|(simp [go_sem,c_hA,c_hC];rfl)))|(refine aW _ ?_ (by first|exact .inl rfl|exact .inr rfl) (by rfl) (by simp [specOf,Kd.spec];rfl) ?_ rfl ?_;(first|exact Sp.is_stable _ _|exact aK (fun _=>rfl) _|exact spTwo_stable (fun _=>rfl) _ _|exact spFr_stable (fun _=>rfl) _|exact spSum_stable (fun _=>rfl) _|exact spSgn_stable _ _|exact spNb_stable (fun _=>rfl) (fun _=>rfl) _|exact spVc_stable (fun _=>rfl) (fun _=>rfl) _)))
 refine aQ (Sp.is (.int .i64 k)) (Sp.is_stable _ _) rfl (fun A w' hB hk=>?_) ?_;(simp [known,specOf,Kd.spec,Sp.is,isVar,Oper.looksAt,Op.operands,Call.operands,Act.eval] at hk;have c_hA:=aA (hB.blk hA (by first|(simp;done)|(simp;omega)));simp [go_sem,hk,c_hA];refine aG ?_;exact H.out.2.2.2.2.2.2.2.1 _ _ _ H.out.2.2.2.2.2.2.2.2.2.1.1 H.out.2.2.2.2.2.2.2.2.2.1.2)
 refine aQ (Sp.is (.agg #[.int .i64 ln,.int .i64 (ld-1),.pointer none])) (Sp.is_stable _ _) rfl (fun A w' hB hk=>?_) ?_;(simp [known,specOf,Kd.spec,Sp.is,isVar,Oper.looksAt,Op.operands,Call.operands,Act.eval] at hk;have c_hA:=aA (hB.blk hA (by first|(simp;done)|(simp;omega)));simp [go_sem,hk,c_hA];refine aG ?_;exact Gives.ty (H.out.1 _))
 repeat (first|(apply bT (hg:=rfl);case h=>(intro A w' hB hk;simp [known,specOf,Kd.spec,Sp.is,isVar,Oper.looksAt,Op.operands,Call.operands,Act.eval] at hk;have c_hA:=aA (hB.blk hA (by first|(simp;done)|(simp;omega)));have c_hC:=aA (hB.blk hC (by first|(simp;done)|(simp;omega)));first|(simp [go_sem,hk,c_hA,c_hC];done)|(simp [go_sem,hk,c_hA,c_hC];rfl)|(simp [go_sem,c_hA,c_hC];rfl)))|(refine aW _ ?_ (by first|exact .inl rfl|exact .inr rfl) (by rfl) (by simp [specOf,Kd.spec];rfl) ?_ rfl ?_;(first|exact Sp.is_stable _ _|exact aK (fun _=>rfl) _|exact spTwo_stable (fun _=>rfl) _ _|exact spFr_stable (fun _=>rfl) _|exact spSum_stable (fun _=>rfl) _|exact spSgn_stable _ _|exact spNb_stable (fun _=>rfl) (fun _=>rfl) _|exact spVc_stable (fun _=>rfl) (fun _=>rfl) _)))
 refine aQ (Sp.is (.int .i64 d)) (Sp.is_stable _ _) rfl (fun A w' hB hk=>?_) ?_;(simp [known,specOf,Kd.spec,Sp.is,isVar,Oper.looksAt,Op.operands,Call.operands,Act.eval] at hk;have c_hA:=aA (hB.blk hA (by first|(simp;done)|(simp;omega)));simp [go_sem,hk,c_hA];refine aG ?_;exact H.out.2.2.2.2.2.2.2.1 _ _ _ H.out.2.2.2.2.2.2.2.2.1.1 H.out.2.2.2.2.2.2.2.2.1.2)
 refine aQ (Sp.is (.agg #[.int .i64 rn,.int .i64 (rd-1),.pointer none])) (Sp.is_stable _ _) rfl (fun A w' hB hk=>?_) ?_;(simp [known,specOf,Kd.spec,Sp.is,isVar,Oper.looksAt,Op.operands,Call.operands,Act.eval] at hk;have c_hA:=aA (hB.blk hA (by first|(simp;done)|(simp;omega)));simp [go_sem,hk,c_hA];refine aG ?_;exact Gives.ty (H.out.2.1 _))
 (apply ty_new (hg:=rfl) (hd:=rfl);(case h=>(intro A w';simp [go_sem];rfl));(case hc=>simp [hotObj,Ku,Kn]))
 (apply ty_new (hg:=rfl) (hd:=rfl);(case h=>(intro A w';simp [go_sem];rfl));(case hc=>simp [hotObj,Ku,Kn]))
 refine ty_put 6 ((.cells #[.int .i64 0,.int .i64 0,.pointer none] 67 (0,0))) (coIs (.cells #[.int .i64 ln,.int .i64 (ld-1),.pointer none] 67 (0,0))) (coIs_stable _ _) rfl rfl (by simp [Oper.looksAt,Op.operands]) (by simp) (fun A w' b hB hk hd h0=>?_) ?_;(simp [known,specOf,Kd.spec,Sp.is,isVar,Oper.looksAt,Op.operands,Call.operands,Act.eval] at hk;simp [Act.eval] at hd;have c_hA:=aA (hB.blk hA (by first|(simp;done)|(simp;omega)));have c0:=aA h0;have f0:=aY h0;simp [go_sem,hd,hk,c0,f0];exact ⟨_,eQ h0 _ _ _,rfl⟩)
 refine ty_put 7 ((.cells #[.int .i64 0,.int .i64 0,.pointer none] 67 (0,0))) (coIs (.cells #[.int .i64 rn,.int .i64 (rd-1),.pointer none] 67 (0,0))) (coIs_stable _ _) rfl rfl (by simp [Oper.looksAt,Op.operands]) (by simp) (fun A w' b hB hk hd h0=>?_) ?_;(simp [known,specOf,Kd.spec,Sp.is,isVar,Oper.looksAt,Op.operands,Call.operands,Act.eval] at hk;simp [Act.eval] at hd;have c_hA:=aA (hB.blk hA (by first|(simp;done)|(simp;omega)));have c0:=aA h0;have f0:=aY h0;simp [go_sem,hd,hk,c0,f0];exact ⟨_,eQ h0 _ _ _,rfl⟩)
 refine ⟨by first|rfl|decide,fun f w2 hB hF hAp=>?_⟩;simp [Final1,Sp.is,isVar] at hF;simp only [frameOf]
 obtain ⟨b7,e7,l7,_,o7,rfl,ho7⟩:=hF.1
 obtain ⟨b6,e6,l6,_,o6,rfl,ho6⟩:=hF.2.1
 have hR:=hB.blk hR (by simp)
 have hW:=Below.step_trans hW hB.below
 obtain ⟨⟨g60,g61,g62⟩,_⟩:=dR ho6
 obtain ⟨⟨g70,g71,g72⟩,_⟩:=dR ho7
 have M:=Lib.hid (And.intro ho6 (And.intro ho7 (And.intro hR hW)))
 clear hB hAp hA hC hR hW ho6 ho7
 go_wp2_with fail
 refine (H.out.2.2.1 _).mono ?_
 rintro e w3 ⟨rfl,b3⟩
 have hA:=aL b3 M.out.1
 have hC:=aL b3 M.out.2.1
 have hR:=aL b3 M.out.2.2.1
 have hW:=Below.step_trans M.out.2.2.2 b3
 clear g60 g61 g62 g70 g71 g72 b3
 go_wp2
 refine wp_region_ty Kn [] (by kernel_rfl) (by kernel_rfl) ?_
 repeat (first|(apply bT (hg:=rfl);case h=>(intro A w' hB hk;simp [known,specOf,Kd.spec,Sp.is,isVar,Oper.looksAt,Op.operands,Call.operands,Act.eval] at hk;have c_hA:=aA (hB.blk hA (by first|(simp;done)|(simp;omega)));have c_hC:=aA (hB.blk hC (by first|(simp;done)|(simp;omega)));first|(simp [go_sem,hk,c_hA,c_hC];done)|(simp [go_sem,hk,c_hA,c_hC];rfl)|(simp [go_sem,c_hA,c_hC];rfl)))|(refine aW _ ?_ (by first|exact .inl rfl|exact .inr rfl) (by rfl) (by simp [specOf,Kd.spec];rfl) ?_ rfl ?_;(first|exact Sp.is_stable _ _|exact aK (fun _=>rfl) _|exact spTwo_stable (fun _=>rfl) _ _|exact spFr_stable (fun _=>rfl) _|exact spSum_stable (fun _=>rfl) _|exact spSgn_stable _ _|exact spNb_stable (fun _=>rfl) (fun _=>rfl) _|exact spVc_stable (fun _=>rfl) (fun _=>rfl) _)))
 refine aQ (Sp.is (.int .i64 ld)) (Sp.is_stable _ _) rfl (fun A w' hB hk=>?_) ?_;(simp [known,specOf,Kd.spec,Sp.is,isVar,Oper.looksAt,Op.operands,Call.operands,Act.eval] at hk;have c_hA:=aA (hB.blk hA (by first|(simp;done)|(simp;omega)));simp [go_sem,hk,c_hA];refine aG ?_;exact H.out.2.2.2.2.2.2.2.1 _ _ _ H.out.2.2.2.2.2.2.2.2.2.2.1.1 H.out.2.2.2.2.2.2.2.2.2.2.1.2)
 repeat (first|(apply bT (hg:=rfl);case h=>(intro A w' hB hk;simp [known,specOf,Kd.spec,Sp.is,isVar,Oper.looksAt,Op.operands,Call.operands,Act.eval] at hk;have c_hA:=aA (hB.blk hA (by first|(simp;done)|(simp;omega)));have c_hC:=aA (hB.blk hC (by first|(simp;done)|(simp;omega)));first|(simp [go_sem,hk,c_hA,c_hC];done)|(simp [go_sem,hk,c_hA,c_hC];rfl)|(simp [go_sem,c_hA,c_hC];rfl)))|(refine aW _ ?_ (by first|exact .inl rfl|exact .inr rfl) (by rfl) (by simp [specOf,Kd.spec];rfl) ?_ rfl ?_;(first|exact Sp.is_stable _ _|exact aK (fun _=>rfl) _|exact spTwo_stable (fun _=>rfl) _ _|exact spFr_stable (fun _=>rfl) _|exact spSum_stable (fun _=>rfl) _|exact spSgn_stable _ _|exact spNb_stable (fun _=>rfl) (fun _=>rfl) _|exact spVc_stable (fun _=>rfl) (fun _=>rfl) _)))
 refine aQ (Sp.is (.int .i64 rd)) (Sp.is_stable _ _) rfl (fun A w' hB hk=>?_) ?_;(simp [known,specOf,Kd.spec,Sp.is,isVar,Oper.looksAt,Op.operands,Call.operands,Act.eval] at hk;have c_hA:=aA (hB.blk hA (by first|(simp;done)|(simp;omega)));simp [go_sem,hk,c_hA];refine aG ?_;exact H.out.2.2.2.2.2.2.2.1 _ _ _ H.out.2.2.2.2.2.2.2.2.2.2.2.1.1 H.out.2.2.2.2.2.2.2.2.2.2.2.1.2)
 refine aQ (Sp.is (.tuple #[.int .i64 r2,.bool o2])) (Sp.is_stable _ _) rfl (fun A w' hB hk=>?_) ?_;(simp [known,specOf,Kd.spec,Sp.is,isVar,Oper.looksAt,Op.operands,Call.operands,Act.eval] at hk;have c_hA:=aA (hB.blk hA (by first|(simp;done)|(simp;omega)));simp [go_sem,hk,c_hA];refine aG ?_;exact Gives.ty (H.out.2.2.2.1 _))
 repeat (first|(apply bT (hg:=rfl);case h=>(intro A w' hB hk;simp [known,specOf,Kd.spec,Sp.is,isVar,Oper.looksAt,Op.operands,Call.operands,Act.eval] at hk;have c_hA:=aA (hB.blk hA (by first|(simp;done)|(simp;omega)));have c_hC:=aA (hB.blk hC (by first|(simp;done)|(simp;omega)));first|(simp [go_sem,hk,c_hA,c_hC];done)|(simp [go_sem,hk,c_hA,c_hC];rfl)|(simp [go_sem,c_hA,c_hC];rfl)))|(refine aW _ ?_ (by first|exact .inl rfl|exact .inr rfl) (by rfl) (by simp [specOf,Kd.spec];rfl) ?_ rfl ?_;(first|exact Sp.is_stable _ _|exact aK (fun _=>rfl) _|exact spTwo_stable (fun _=>rfl) _ _|exact spFr_stable (fun _=>rfl) _|exact spSum_stable (fun _=>rfl) _|exact spSgn_stable _ _|exact spNb_stable (fun _=>rfl) (fun _=>rfl) _|exact spVc_stable (fun _=>rfl) (fun _=>rfl) _)))
 refine ⟨by first|rfl|decide,fun f w2 hB hF hAp=>?_⟩;simp [Final1,Sp.is,isVar] at hF;simp only [frameOf,Act.put,List.setIfInBounds_toArray,List.set_cons_succ,List.set_cons_zero,hF]
 have hR:=hB.blk hR (by simp)
 have hW:=Below.step_trans hW hB.below
 clear hB hAp hA hC hF
 go_wp2_with fail
 refine (small_raw r1 r2 _ H.out.2.2.2.2.2.2.2.2.2.2.2.2.1 H.out.2.2.2.2.2.2.2.2.2.2.2.2.2).mono ?_
 rintro e w6 ⟨rfl,b6⟩
 obtain ⟨⟨r0,ra,rb⟩,f0,f1,f2⟩:=dR (aL b6 hR)
 have B6:=Lib.hid (Below.step_trans hW b6)
 clear b6 hR hW
 have hout:=H.out.2.2.2.2.1
 have HO:=Lib.hid hout
 clear hout
 cases o1 <;> cases o2
 all_goals
  go_wp2
  first
   | (refine bodyPost_ret (v := .tuple #[.agg #[.int .i64 r1,.int .i64 (r2-1),.pointer none],.bool true]) (by simp [results,Tryz.results152,go_sem,r0,ra,rb]) rfl ⟨_,_,_,rfl,fun _=>HO.out rfl,?_⟩
      repeat (first|exact B6.out|(refine Below.setCell ?_ (by first|omega|(simp;done)|(simp;omega)) _)|(refine Below.alloc ?_ (by first|omega|(simp;done)|(simp;omega)) _)|(refine Below.drew ?_)|exact Below.refl _ _))
   | (refine bodyPost_ret (v := .tuple #[.agg #[.int .i64 r1,.int .i64 (r2-1),.pointer none],.bool false]) (by simp [results,Tryz.results152,go_sem,r0,ra,rb]) rfl ⟨_,_,_,rfl,fun h=>by (cases h),?_⟩
      repeat (first|exact B6.out|(refine Below.setCell ?_ (by first|omega|(simp;done)|(simp;omega)) _)|(refine Below.alloc ?_ (by first|omega|(simp;done)|(simp;omega)) _)|(refine Below.drew ?_)|exact Below.refl _ _))
set_option maxRecDepth 100000 in
set_option maxHeartbeats 8000000 in
theorem times_nb (v v' : Value) (p q:Rat) (w:World) (h:Nb w v p) (h' : Nb w v' q) (hp:Lf 38 p) (hq:Lf 38 q):Calls Tryz.prog 94 #[v,v'] w (GivesNb w (p*q)):=by
 obtain ⟨n1,d1,a1,rfl⟩:=h.form
 obtain ⟨n2,d2,a2,rfl⟩:=h'.form
 obtain ⟨hk1,hk2,hk3,hb1⟩:=eR w (.cells #[.int .i64 n1,.int .i64 d1,.pointer a1] 67) (.cells #[.int .i64 n2,.int .i64 d2,.pointer a2] 67) (.cells #[.int .i64 0,.int .i64 0,.pointer none] 67)
 have H:=Lib.hid (And.intro (h.below hb1) (And.intro (h'.below hb1) (And.intro hp (And.intro hq (And.intro hb1 (And.intro hk1 (And.intro hk2 hk3)))))))
 by_cases hs:Sm p∧Sm q
 ·have e1:Value.agg #[.int .i64 n1,.int .i64 d1,.pointer a1]=smV p.num p.den:=by
   rcases h with ⟨_,e⟩|⟨hn,_⟩
   ·exact e
   ·exact absurd hs.1 hn
  have e2:Value.agg #[.int .i64 n2,.int .i64 d2,.pointer a2]=smV q.num q.den:=by
   rcases h' with ⟨_,e⟩|⟨hn,_⟩
   ·exact e
   ·exact absurd hs.2 hn
  have ha:∀ w',Calls Tryz.prog 143 #[.agg #[.int .i64 n1,.int .i64 d1,.pointer a1],.agg #[.int .i64 n2,.int .i64 d2,.pointer a2]] w' (Gives w' (.bool true)):=fun w'=>areSmall_yes _ _ p q w' hs.1 hs.2 e1 e2
  have hc:∀ w',Calls Tryz.prog 152 #[.agg #[.int .i64 n1,.int .i64 d1,.pointer a1],.agg #[.int .i64 n2,.int .i64 d2,.pointer a2]] w' (GivesNumOk w' (p*q)):=fun w'=>by
   rw [e1,e2]
   exact timesSmall_any p q w' hs.1 hs.2
  have HS:=Lib.hid (And.intro ha hc)
  clear ha hc e1 e2 hs h h' hp hq hb1 hk1 hk2 hk3
  go_enter Tryz.func94,Tryz.ntmps94
  go_wp2_with fail
  refine (HS.out.1 _).mono ?_
  rintro e w2 ⟨rfl,b2⟩
  have B2:=Lib.hid (And.intro (Below.step_trans H.out.2.2.2.2.1 b2) (And.intro b2 (And.intro (aL b2 H.out.2.2.2.2.2.1) (And.intro (aL b2 H.out.2.2.2.2.2.2.1) (aL b2 H.out.2.2.2.2.2.2.2)))))
  obtain ⟨⟨u0,u1,u2⟩,_⟩:=dR (aL b2 H.out.2.2.2.2.2.1)
  obtain ⟨⟨u3,u4,u5⟩,_⟩:=dR (aL b2 H.out.2.2.2.2.2.2.1)
  clear b2
  go_wp2_with fail
  refine (HS.out.2 _).mono ?_
  rintro e w3 ⟨rn,rd,ok,rfl,hok,b3⟩
  have hA3:=aL b3 B2.out.2.2.1
  have hC3:=aL b3 B2.out.2.2.2.1
  have hR3:=aL b3 B2.out.2.2.2.2
  have B3:=Lib.hid (And.intro hok (And.intro (Below.step_trans B2.out.1 b3) (And.intro (Below.step_trans B2.out.2.1 b3) (And.intro hA3 (And.intro hC3 hR3)))))
  clear u0 u1 u2 u3 u4 u5 b3 hok hA3 hC3 hR3
  have hlt3:=lt_of_block B3.out.2.2.2.2.2
  cases ok
  ·go_wp2
   have hb4:Below w3.heap.size w3 (w3.alloc (.cells #[.int .i64 rn,.int .i64 rd,.pointer none] 67)):=(Below.refl _ _).alloc (Nat.le_refl _) _
   have B4:=Lib.hid (And.intro (Below.step_trans B3.out.2.1 hb4) (And.intro (Below.step_trans B3.out.2.2.1 hb4) (And.intro (aL hb4 B3.out.2.2.2.1) (And.intro (aL hb4 B3.out.2.2.2.2.1) (aL hb4 B3.out.2.2.2.2.2)))))
   clear hb4
   generalize w3.alloc (.cells #[.int .i64 rn,.int .i64 rd,.pointer none] 67)=w4 at *
   have hA:=B4.out.2.2.1
   have hC:=B4.out.2.2.2.1
   have hR:=B4.out.2.2.2.2
   have t1:∀ w',Base [w.heap.size+1+1] w4 w'→Calls Tryz.prog 145 #[.agg #[.int .i64 n1,.int .i64 d1,.pointer a1]] w' (TyPost w' (fR p)):=fun w' hB =>
    GivesFr.ty (cE _ _ _ (Nb.ext (K:=Kn) (fun _=>rfl) (fun _=>rfl) (H.out.1.below B4.out.2.1) (hB.extT B4.out.2.2.2.2 (by simp [hotObj,Kn]))))
   have t2:∀ w',Base [w.heap.size+1+1] w4 w'→Calls Tryz.prog 145 #[.agg #[.int .i64 n2,.int .i64 d2,.pointer a2]] w' (TyPost w' (fR q)):=fun w' hB =>
    GivesFr.ty (cE _ _ _ (Nb.ext (K:=Kn) (fun _=>rfl) (fun _=>rfl) (H.out.2.1.below B4.out.2.1) (hB.extT B4.out.2.2.2.2 (by simp [hotObj,Kn]))))
   have t3:∀ w' x y,Fr w' x p→Fr w' y q→Calls Tryz.prog 153 #[x,y] w' (TyPost w' (fR (p*q))):=fun w' x y hx hy=>GivesFr.ty (fraTimes_any x y p q w' hx hy H.out.2.2.1 H.out.2.2.2.1)
   have t4:∀ w' x,Fr w' x (p*q)→Calls Tryz.prog 65 #[x] w' (TyPost w' (spNb (p*q))):=fun w' x hx=>GivesNb.ty (fH x _ w' hx)
   have T:=Lib.hid (And.intro t1 (And.intro t2 (And.intro t3 t4)))
   clear t1 t2 t3 t4
   refine wp_region_ty Kn [w.heap.size+1+1] (by kernel_rfl) (by kernel_rfl) ?_
   repeat (first|(apply bT (hg:=rfl);case h=>(intro A w' hB hk;simp [known,specOf,Kd.spec,Sp.is,isVar,Oper.looksAt,Op.operands,Call.operands,Act.eval] at hk;have c_hA:=aA (hB.blk hA (by first|(simp;done)|(simp;omega)));have c_hC:=aA (hB.blk hC (by first|(simp;done)|(simp;omega)));first|(simp [go_sem,hk,c_hA,c_hC];done)|(simp [go_sem,hk,c_hA,c_hC];rfl)|(simp [go_sem,c_hA,c_hC];rfl)))|(refine aW _ ?_ (by first|exact .inl rfl|exact .inr rfl) (by rfl) (by simp [specOf,Kd.spec];rfl) ?_ rfl ?_;(first|exact Sp.is_stable _ _|exact aK (fun _=>rfl) _|exact spTwo_stable (fun _=>rfl) _ _|exact spFr_stable (fun _=>rfl) _|exact spSum_stable (fun _=>rfl) _|exact spSgn_stable _ _|exact spNb_stable (fun _=>rfl) (fun _=>rfl) _|exact spVc_stable (fun _=>rfl) (fun _=>rfl) _)))
   refine aQ (fR p) (spFr_stable (fun _=>rfl) _) rfl (fun A w' hB hk=>?_) ?_;(simp [known,specOf,Kd.spec,Sp.is,isVar,Oper.looksAt,Op.operands,Call.operands,Act.eval] at hk;have c_hA:=aA (hB.blk hA (by first|(simp;done)|(simp;omega)));simp [go_sem,hk,c_hA];refine aG ?_;exact T.out.1 _ hB)
   repeat (first|(apply bT (hg:=rfl);case h=>(intro A w' hB hk;simp [known,specOf,Kd.spec,Sp.is,isVar,Oper.looksAt,Op.operands,Call.operands,Act.eval] at hk;have c_hA:=aA (hB.blk hA (by first|(simp;done)|(simp;omega)));have c_hC:=aA (hB.blk hC (by first|(simp;done)|(simp;omega)));first|(simp [go_sem,hk,c_hA,c_hC];done)|(simp [go_sem,hk,c_hA,c_hC];rfl)|(simp [go_sem,c_hA,c_hC];rfl)))|(refine aW _ ?_ (by first|exact .inl rfl|exact .inr rfl) (by rfl) (by simp [specOf,Kd.spec];rfl) ?_ rfl ?_;(first|exact Sp.is_stable _ _|exact aK (fun _=>rfl) _|exact spTwo_stable (fun _=>rfl) _ _|exact spFr_stable (fun _=>rfl) _|exact spSum_stable (fun _=>rfl) _|exact spSgn_stable _ _|exact spNb_stable (fun _=>rfl) (fun _=>rfl) _|exact spVc_stable (fun _=>rfl) (fun _=>rfl) _)))
   refine aQ (fR q) (spFr_stable (fun _=>rfl) _) rfl (fun A w' hB hk=>?_) ?_;(simp [known,specOf,Kd.spec,Sp.is,isVar,Oper.looksAt,Op.operands,Call.operands,Act.eval] at hk;have c_hA:=aA (hB.blk hA (by first|(simp;done)|(simp;omega)));simp [go_sem,hk,c_hA];refine aG ?_;exact T.out.2.1 _ hB)
   refine aQ (fR (p*q)) (spFr_stable (fun _=>rfl) _) rfl (fun A w' hB hk=>?_) ?_;(simp [known,specOf,Kd.spec,Sp.is,isVar,Oper.looksAt,Op.operands,Call.operands,Act.eval] at hk;have c_hA:=aA (hB.blk hA (by first|(simp;done)|(simp;omega)));simp [go_sem,hk,c_hA];refine aG ?_;exact T.out.2.2.1 _ _ _ hk.1 hk.2)
   refine aQ (spNb (p*q)) (spNb_stable (fun _=>rfl) (fun _=>rfl) _) rfl (fun A w' hB hk=>?_) ?_;(simp [known,specOf,Kd.spec,Sp.is,isVar,Oper.looksAt,Op.operands,Call.operands,Act.eval] at hk;have c_hA:=aA (hB.blk hA (by first|(simp;done)|(simp;omega)));simp [go_sem,hk,c_hA];refine aG ?_;exact T.out.2.2.2 _ _ hk)
   refine ty_old (w.heap.size+1+1) (_) (coNb (p*q)) (eL (fun _=>rfl) (fun _=>rfl) _) rfl rfl (by simp) (by assumption) (by simp [hotObj,Ku,Kn]) (fun A w' hB hk h0=>?_) ?_;(simp [known,specOf,Kd.spec,Sp.is,isVar,Oper.looksAt,Op.operands,Call.operands,Act.eval] at hk;have c_hA:=aA (hB.blk hA (by first|(simp;done)|(simp;omega)));have c0:=aA h0;have f0:=aY h0;obtain ⟨k1,k2⟩:=hk;obtain ⟨y1,y2,y3,e1⟩:=(show Nb _ _ _ from k2).form;rw [e1] at k2;simp [go_sem,k1,e1,c0,f0];exact ⟨_,eQ h0 _ _ _,_,_,_,rfl,k2⟩)
   refine ⟨by first|rfl|decide,fun f w2 hB hF hAp=>?_⟩;simp [Final1,Sp.is,isVar] at hF;simp only [frameOf]
   obtain ⟨o,⟨y1,y2,y3,rfl,k3⟩,ho⟩:=hF.1
   obtain ⟨⟨r0,r1,r2⟩,_⟩:=dR ho
   have K:=Lib.hid (And.intro k3 hB)
   clear k3 hB ho hA hC hR hAp hF
   go_wp2
   refine bodyPost_ret (v := .agg #[.int .i64 y1,.int .i64 y2,.pointer y3]) (by simp [results,Tryz.results94,go_sem,r0,r1,r2,Act.put]) rfl ⟨_,rfl,K.out.1,?_⟩
   exact Base.belowT K.out.2 B4.out.1 (by omega)
  ·obtain ⟨hsm,hv⟩:=B3.out.1 rfl
   obtain ⟨⟨g0,g1,g2⟩,f0,f1,f2⟩:=dR B3.out.2.2.2.2.2
   have HV:=Lib.hid (And.intro hsm hv)
   clear hsm hv
   have hpast:∀ (W:World) (o:Obj) (i:Nat),W.heap.size=w3.heap.size→(W.alloc o).cell? ⟨w.heap.size+1+1,i,none⟩=W.cell? ⟨w.heap.size+1+1,i,none⟩:=fun W o i h=>World.cell?_alloc_past _ _ _ (by show w.heap.size+1+1<W.heap.size;omega)
   have HP:=Lib.hid hpast
   clear hpast
   go_wp2
   refine bodyPost_ret (v := .agg #[.int .i64 rn,.int .i64 rd,.pointer none]) (by simp [results,Tryz.results94,go_sem,g0,g1,g2,HP.out]) rfl ⟨_,rfl,.inl HV.out,?_⟩
   repeat (first|exact B3.out.2.1|(refine Below.setCell ?_ (by first|omega|(simp;done)|(simp;omega)) _)|(refine Below.alloc ?_ (by first|omega|(simp;done)|(simp;omega)) _)|(refine Below.drew ?_)|exact Below.refl _ _)
 ·have ha:∀ w',Below w.heap.size w w'→Calls Tryz.prog 143 #[.agg #[.int .i64 n1,.int .i64 d1,.pointer a1],.agg #[.int .i64 n2,.int .i64 d2,.pointer a2]] w' (Gives w' (.bool false)):=fun w' hb=>areSmall_no _ _ p q w' (h.below hb) (h'.below hb) hs
  have HS:=Lib.hid ha
  clear ha hs h h' hp hq hb1 hk1 hk2 hk3
  go_enter Tryz.func94,Tryz.ntmps94
  go_wp2_with fail
  refine (HS.out _ H.out.2.2.2.2.1).mono ?_
  rintro e w2 ⟨rfl,b2⟩
  have B2:=Lib.hid (And.intro (Below.step_trans H.out.2.2.2.2.1 b2) (And.intro b2 (And.intro (aL b2 H.out.2.2.2.2.2.1) (And.intro (aL b2 H.out.2.2.2.2.2.2.1) (aL b2 H.out.2.2.2.2.2.2.2)))))
  clear b2
  go_wp2
  have hA:=B2.out.2.2.1
  have hC:=B2.out.2.2.2.1
  have hR:=B2.out.2.2.2.2
  have t1:∀ w',Base [w.heap.size+1+1] w2 w'→Calls Tryz.prog 145 #[.agg #[.int .i64 n1,.int .i64 d1,.pointer a1]] w' (TyPost w' (fR p)):=fun w' hB =>
   GivesFr.ty (cE _ _ _ (Nb.ext (K:=Kn) (fun _=>rfl) (fun _=>rfl) (H.out.1.below B2.out.2.1) (hB.extT B2.out.2.2.2.2 (by simp [hotObj,Kn]))))
  have t2:∀ w',Base [w.heap.size+1+1] w2 w'→Calls Tryz.prog 145 #[.agg #[.int .i64 n2,.int .i64 d2,.pointer a2]] w' (TyPost w' (fR q)):=fun w' hB =>
   GivesFr.ty (cE _ _ _ (Nb.ext (K:=Kn) (fun _=>rfl) (fun _=>rfl) (H.out.2.1.below B2.out.2.1) (hB.extT B2.out.2.2.2.2 (by simp [hotObj,Kn]))))
  have t3:∀ w' x y,Fr w' x p→Fr w' y q→Calls Tryz.prog 153 #[x,y] w' (TyPost w' (fR (p*q))):=fun w' x y hx hy=>GivesFr.ty (fraTimes_any x y p q w' hx hy H.out.2.2.1 H.out.2.2.2.1)
  have t4:∀ w' x,Fr w' x (p*q)→Calls Tryz.prog 65 #[x] w' (TyPost w' (spNb (p*q))):=fun w' x hx=>GivesNb.ty (fH x _ w' hx)
  have T:=Lib.hid (And.intro t1 (And.intro t2 (And.intro t3 t4)))
  clear t1 t2 t3 t4
  refine wp_region_ty Kn [w.heap.size+1+1] (by kernel_rfl) (by kernel_rfl) ?_
  repeat (first|(apply bT (hg:=rfl);case h=>(intro A w' hB hk;simp [known,specOf,Kd.spec,Sp.is,isVar,Oper.looksAt,Op.operands,Call.operands,Act.eval] at hk;have c_hA:=aA (hB.blk hA (by first|(simp;done)|(simp;omega)));have c_hC:=aA (hB.blk hC (by first|(simp;done)|(simp;omega)));first|(simp [go_sem,hk,c_hA,c_hC];done)|(simp [go_sem,hk,c_hA,c_hC];rfl)|(simp [go_sem,c_hA,c_hC];rfl)))|(refine aW _ ?_ (by first|exact .inl rfl|exact .inr rfl) (by rfl) (by simp [specOf,Kd.spec];rfl) ?_ rfl ?_;(first|exact Sp.is_stable _ _|exact aK (fun _=>rfl) _|exact spTwo_stable (fun _=>rfl) _ _|exact spFr_stable (fun _=>rfl) _|exact spSum_stable (fun _=>rfl) _|exact spSgn_stable _ _|exact spNb_stable (fun _=>rfl) (fun _=>rfl) _|exact spVc_stable (fun _=>rfl) (fun _=>rfl) _)))
  refine aQ (fR p) (spFr_stable (fun _=>rfl) _) rfl (fun A w' hB hk=>?_) ?_;(simp [known,specOf,Kd.spec,Sp.is,isVar,Oper.looksAt,Op.operands,Call.operands,Act.eval] at hk;have c_hA:=aA (hB.blk hA (by first|(simp;done)|(simp;omega)));simp [go_sem,hk,c_hA];refine aG ?_;exact T.out.1 _ hB)
  repeat (first|(apply bT (hg:=rfl);case h=>(intro A w' hB hk;simp [known,specOf,Kd.spec,Sp.is,isVar,Oper.looksAt,Op.operands,Call.operands,Act.eval] at hk;have c_hA:=aA (hB.blk hA (by first|(simp;done)|(simp;omega)));have c_hC:=aA (hB.blk hC (by first|(simp;done)|(simp;omega)));first|(simp [go_sem,hk,c_hA,c_hC];done)|(simp [go_sem,hk,c_hA,c_hC];rfl)|(simp [go_sem,c_hA,c_hC];rfl)))|(refine aW _ ?_ (by first|exact .inl rfl|exact .inr rfl) (by rfl) (by simp [specOf,Kd.spec];rfl) ?_ rfl ?_;(first|exact Sp.is_stable _ _|exact aK (fun _=>rfl) _|exact spTwo_stable (fun _=>rfl) _ _|exact spFr_stable (fun _=>rfl) _|exact spSum_stable (fun _=>rfl) _|exact spSgn_stable _ _|exact spNb_stable (fun _=>rfl) (fun _=>rfl) _|exact spVc_stable (fun _=>rfl) (fun _=>rfl) _)))
  refine aQ (fR q) (spFr_stable (fun _=>rfl) _) rfl (fun A w' hB hk=>?_) ?_;(simp [known,specOf,Kd.spec,Sp.is,isVar,Oper.looksAt,Op.operands,Call.operands,Act.eval] at hk;have c_hA:=aA (hB.blk hA (by first|(simp;done)|(simp;omega)));simp [go_sem,hk,c_hA];refine aG ?_;exact T.out.2.1 _ hB)
  refine aQ (fR (p*q)) (spFr_stable (fun _=>rfl) _) rfl (fun A w' hB hk=>?_) ?_;(simp [known,specOf,Kd.spec,Sp.is,isVar,Oper.looksAt,Op.operands,Call.operands,Act.eval] at hk;have c_hA:=aA (hB.blk hA (by first|(simp;done)|(simp;omega)));simp [go_sem,hk,c_hA];refine aG ?_;exact T.out.2.2.1 _ _ _ hk.1 hk.2)
  refine aQ (spNb (p*q)) (spNb_stable (fun _=>rfl) (fun _=>rfl) _) rfl (fun A w' hB hk=>?_) ?_;(simp [known,specOf,Kd.spec,Sp.is,isVar,Oper.looksAt,Op.operands,Call.operands,Act.eval] at hk;have c_hA:=aA (hB.blk hA (by first|(simp;done)|(simp;omega)));simp [go_sem,hk,c_hA];refine aG ?_;exact T.out.2.2.2 _ _ hk)
  refine ty_old (w.heap.size+1+1) (_) (coNb (p*q)) (eL (fun _=>rfl) (fun _=>rfl) _) rfl rfl (by simp) (by assumption) (by simp [hotObj,Ku,Kn]) (fun A w' hB hk h0=>?_) ?_;(simp [known,specOf,Kd.spec,Sp.is,isVar,Oper.looksAt,Op.operands,Call.operands,Act.eval] at hk;have c_hA:=aA (hB.blk hA (by first|(simp;done)|(simp;omega)));have c0:=aA h0;have f0:=aY h0;obtain ⟨k1,k2⟩:=hk;obtain ⟨y1,y2,y3,e1⟩:=(show Nb _ _ _ from k2).form;rw [e1] at k2;simp [go_sem,k1,e1,c0,f0];exact ⟨_,eQ h0 _ _ _,_,_,_,rfl,k2⟩)
  refine ⟨by first|rfl|decide,fun f w2 hB hF hAp=>?_⟩;simp [Final1,Sp.is,isVar] at hF;simp only [frameOf]
  obtain ⟨o,⟨y1,y2,y3,rfl,k3⟩,ho⟩:=hF.1
  obtain ⟨⟨r0,r1,r2⟩,_⟩:=dR ho
  have K:=Lib.hid (And.intro k3 hB)
  clear k3 hB ho hA hC hR hAp hF
  go_wp2
  refine bodyPost_ret (v := .agg #[.int .i64 y1,.int .i64 y2,.pointer y3]) (by simp [results,Tryz.results94,go_sem,r0,r1,r2,Act.put]) rfl ⟨_,rfl,K.out.1,?_⟩
  exact Base.belowT K.out.2 B2.out.1 (by omega)
set_option maxRecDepth 100000 in
set_option maxHeartbeats 8000000 in
theorem minus_nb (v v' : Value) (p q:Rat) (w:World) (h:Nb w v p) (h' : Nb w v' q) (hp:Lf 36 p) (hq:Lf 36 q):Calls Tryz.prog 96 #[v,v'] w (GivesNb w (p-q)):=by
 have hsub:p-q=p + -q:=Rat.sub_eq_add_neg p q
 rw [hsub]
 obtain ⟨n1,d1,a1,rfl⟩:=h.form
 obtain ⟨n2,d2,a2,rfl⟩:=h'.form
 obtain ⟨hk1,hk2,hk3,hb1⟩:=eR w (.cells #[.int .i64 n1,.int .i64 d1,.pointer a1] 67) (.cells #[.int .i64 n2,.int .i64 d2,.pointer a2] 67) (.cells #[.int .i64 0,.int .i64 0,.pointer none] 67)
 have H:=Lib.hid (And.intro (h.below hb1) (And.intro (h'.below hb1) (And.intro hp (And.intro hq.neg (And.intro hb1 (And.intro hk1 (And.intro hk2 hk3)))))))
 clear h h' hp hq hb1 hk1 hk2 hk3 hsub
 go_enter Tryz.func96,Tryz.ntmps96
 go_wp2
 generalize ((w.alloc (.cells #[.int .i64 n1,.int .i64 d1,.pointer a1] 67)).alloc (.cells #[.int .i64 n2,.int .i64 d2,.pointer a2] 67)).alloc (.cells #[.int .i64 0,.int .i64 0,.pointer none] 67)=w1 at *
 have hA:=H.out.2.2.2.2.2.1
 have hC:=H.out.2.2.2.2.2.2.1
 have hR:=H.out.2.2.2.2.2.2.2
 have t1:∀ w',Base [w.heap.size+1+1] w1 w'→Calls Tryz.prog 101 #[.agg #[.int .i64 n2,.int .i64 d2,.pointer a2]] w' (TyPost w' (spNb (-q))):=fun w' hB =>
  GivesNb.ty (negated_nb _ _ _ (Nb.ext (K:=Kn) (fun _=>rfl) (fun _=>rfl) H.out.2.1 (hB.extT hR (by simp [hotObj,Kn]))))
 have t2:∀ w' x,Base [w.heap.size+1+1] w1 w'→Nb w' x (-q)→Calls Tryz.prog 80 #[.agg #[.int .i64 n1,.int .i64 d1,.pointer a1],x] w' (TyPost w' (spNb (p + -q))):=fun w' x hB hx =>
  GivesNb.ty (plus_nb _ _ _ _ _ (Nb.ext (K:=Kn) (fun _=>rfl) (fun _=>rfl) H.out.1 (hB.extT hR (by simp [hotObj,Kn]))) hx H.out.2.2.1 H.out.2.2.2.1)
 have T:=Lib.hid (And.intro t1 t2)
 clear t1 t2
 refine wp_region_ty Kn [w.heap.size+1+1] (by kernel_rfl) (by kernel_rfl) ?_
 repeat (first|(apply bT (hg:=rfl);case h=>(intro A w' hB hk;simp [known,specOf,Kd.spec,Sp.is,isVar,Oper.looksAt,Op.operands,Call.operands,Act.eval] at hk;have c_hA:=aA (hB.blk hA (by first|(simp;done)|(simp;omega)));have c_hC:=aA (hB.blk hC (by first|(simp;done)|(simp;omega)));first|(simp [go_sem,hk,c_hA,c_hC];done)|(simp [go_sem,hk,c_hA,c_hC];rfl)|(simp [go_sem,c_hA,c_hC];rfl)))|(refine aW _ ?_ (by first|exact .inl rfl|exact .inr rfl) (by rfl) (by simp [specOf,Kd.spec];rfl) ?_ rfl ?_;(first|exact Sp.is_stable _ _|exact aK (fun _=>rfl) _|exact spTwo_stable (fun _=>rfl) _ _|exact spFr_stable (fun _=>rfl) _|exact spSum_stable (fun _=>rfl) _|exact spSgn_stable _ _|exact spNb_stable (fun _=>rfl) (fun _=>rfl) _|exact spVc_stable (fun _=>rfl) (fun _=>rfl) _)))
 refine aQ (spNb (-q)) (spNb_stable (fun _=>rfl) (fun _=>rfl) _) rfl (fun A w' hB hk=>?_) ?_;(simp [known,specOf,Kd.spec,Sp.is,isVar,Oper.looksAt,Op.operands,Call.operands,Act.eval] at hk;have c_hA:=aA (hB.blk hA (by first|(simp;done)|(simp;omega)));simp [go_sem,hk,c_hA];refine aG ?_;exact T.out.1 _ hB)
 refine aQ (spNb (p + -q)) (spNb_stable (fun _=>rfl) (fun _=>rfl) _) rfl (fun A w' hB hk=>?_) ?_;(simp [known,specOf,Kd.spec,Sp.is,isVar,Oper.looksAt,Op.operands,Call.operands,Act.eval] at hk;have c_hA:=aA (hB.blk hA (by first|(simp;done)|(simp;omega)));simp [go_sem,hk,c_hA];refine aG ?_;exact T.out.2 _ _ hB hk.2)
 refine ty_old (w.heap.size+1+1) (_) (coNb (p + -q)) (eL (fun _=>rfl) (fun _=>rfl) _) rfl rfl (by simp) (by assumption) (by simp [hotObj,Ku,Kn]) (fun A w' hB hk h0=>?_) ?_;(simp [known,specOf,Kd.spec,Sp.is,isVar,Oper.looksAt,Op.operands,Call.operands,Act.eval] at hk;have c_hA:=aA (hB.blk hA (by first|(simp;done)|(simp;omega)));have c0:=aA h0;have f0:=aY h0;obtain ⟨k1,k2⟩:=hk;obtain ⟨y1,y2,y3,e1⟩:=(show Nb _ _ _ from k2).form;rw [e1] at k2;simp [go_sem,k1,e1,c0,f0];exact ⟨_,eQ h0 _ _ _,_,_,_,rfl,k2⟩)
 refine ⟨by first|rfl|decide,fun f w2 hB hF hAp=>?_⟩;simp [Final1,Sp.is,isVar] at hF;simp only [frameOf]
 obtain ⟨o,⟨y1,y2,y3,rfl,k3⟩,ho⟩:=hF.1
 obtain ⟨⟨r0,r1,r2⟩,_⟩:=dR ho
 have K:=Lib.hid (And.intro k3 hB)
 clear k3 hB ho hA hC hR hAp hF
 go_wp2
 refine bodyPost_ret (v := .agg #[.int .i64 y1,.int .i64 y2,.pointer y3]) (by simp [results,Tryz.results96,go_sem,r0,r1,r2,Act.put]) rfl ⟨_,rfl,K.out.1,?_⟩
 exact Base.belowT K.out.2 H.out.2.2.2.2.1 (by omega)
end Go.Proofs.YtofcdondmgojiaaGreatDoor
