/- Parts of the proof, joined. -/
import Derived.Test.YtbhcckhbbclemaaGreatDoorJ17
set_option linter.unusedSimpArgs false
set_option linter.unusedVariables false
namespace Go.Proofs.YtbhcckhbbclemaaGreatDoor
open Go.RowKit Pl
theorem nanInt64_any (a:Int) (w:World):Calls Tryz.prog 202 #[.int .i64 a] w fun e w'=>e = .returned (.bool false)∧w=w':=by
 have h:(a != a)=false:=by simp
 go_enter Tryz.func202,Tryz.ntmps202
 go_wp2
 go_ret
 exact ⟨ret_bool (by simp),rfl⟩
theorem cmpInt64_any (a b:Int) (w:World):Calls Tryz.prog 152 #[.int .i64 a,.int .i64 b] w fun e w'=>e = .returned (.int .i64 (cmpI a b))∧w=w':=by
 rcases Int.lt_trichotomy a b with h|h|h
 ·have hp:=Lib.hid (show cmpI a b = -1 by unfold cmpI;rw [if_pos h])
  go_enter Tryz.func152,Tryz.ntmps152
  go_wp2_with (go_at_call 202;refine (nanInt64_any _ _).mono ?_;rintro e w' ⟨rfl,rfl⟩)
  go_ret
  exact ⟨ret_int hp.out.symm,rfl⟩
 ·subst h
  have hp:=Lib.hid (show cmpI a a=0 by unfold cmpI;rw [if_neg (by omega),if_neg (by omega)])
  go_enter Tryz.func152,Tryz.ntmps152
  go_wp2_with (go_at_call 202;refine (nanInt64_any _ _).mono ?_;rintro e w' ⟨rfl,rfl⟩)
  go_ret
  exact ⟨ret_int hp.out.symm,rfl⟩
 ·have hp:=Lib.hid (show cmpI a b=1 by unfold cmpI;rw [if_neg (by omega),if_pos h])
  go_enter Tryz.func152,Tryz.ntmps152
  go_wp2_with (go_at_call 202;refine (nanInt64_any _ _).mono ?_;rintro e w' ⟨rfl,rfl⟩)
  go_ret
  exact ⟨ret_int hp.out.symm,rfl⟩
theorem sm_zero:Sm 0:=⟨Nat.zero_le _,by show 1≤M63;rw [M63_eq];omega⟩
theorem isZero_nb (v:Value) (q:Rat) (w:World) (h:Nb w v q):Calls Tryz.prog 32 #[v] w (Gives w (.bool (decide (q=0)))):=by
 rcases h with ⟨hs,rfl⟩|⟨hs,g,s1,s2,rfl,_⟩
 ·obtain ⟨z,hz⟩:∃ z,(q.num==0)=z:=⟨_,rfl⟩
  have hq:decide (q=0)=z:=by
   rw [← hz,Bool.eq_iff_iff]
   simp [Rat.num_eq_zero]
  rw [hq]
  clear hq hs
  unfold smV
  generalize q.num=n at *
  cases z
  all_goals
   go_enter Tryz.func32,Tryz.ntmps32
   go_wp2
   go_ret
   refine ⟨rfl,?_⟩
   repeat (first|exact Below.refl _ _|(refine Below.setCell ?_ (by first|omega|(simp;done)|(simp;omega)) _)|(refine Below.alloc ?_ (by first|omega|(simp;done)|(simp;omega)) _)|(refine Below.drew ?_)|exact Below.refl _ _)
 ·have hq:decide (q=0)=false:=by
   rw [decide_eq_false_iff_not]
   intro h
   rw [h] at hs
   exact hs sm_zero
  rw [hq]
  clear hq hs
  go_enter Tryz.func32,Tryz.ntmps32
  go_wp2
  go_ret
  refine ⟨rfl,?_⟩
  repeat (first|exact Below.refl _ _|(refine Below.setCell ?_ (by first|omega|(simp;done)|(simp;omega)) _)|(refine Below.alloc ?_ (by first|omega|(simp;done)|(simp;omega)) _)|(refine Below.drew ?_)|exact Below.refl _ _)
def sgnR (q:Rat):Int:=cmpI q.num 0
set_option maxHeartbeats 1000000 in
theorem sign_nb (v:Value) (q:Rat) (w:World) (h:Nb w v q):Calls Tryz.prog 87 #[v] w (Gives w (.int .i64 (sgnR q))):=by
 unfold sgnR
 rcases h with ⟨hs,rfl⟩|⟨hs,g,s1,s2,rfl,hk,h1,h2⟩
 ·unfold smV
  clear hs
  generalize q.num=n at *
  go_enter Tryz.func87,Tryz.ntmps87
  go_wp2_with (go_at_call 152;refine (cmpInt64_any _ _ _).mono ?_;rintro e w' ⟨rfl,rfl⟩)
  go_ret
  refine ⟨rfl,?_⟩
  repeat (first|exact Below.refl _ _|(refine Below.setCell ?_ (by first|omega|(simp;done)|(simp;omega)) _)|(refine Below.alloc ?_ (by first|omega|(simp;done)|(simp;omega)) _)|(refine Below.drew ?_)|exact Below.refl _ _)
 ·obtain ⟨A1,n1,c1,rfl⟩:=h1.form
  obtain ⟨A2,n2,c2,rfl⟩:=h2.form
  have hb1:Below w.heap.size w (w.alloc (.cells #[.int .i64 0,.int .i64 0,.pointer (some ⟨g,0,none⟩)] 67)):=(Below.refl _ _).alloc (Nat.le_refl _) _
  obtain ⟨⟨g0,g1,g2⟩,_⟩:=blk3 (keep_blk hb1 hk)
  obtain ⟨neg,hneg⟩:∃ neg,decide (q.num<0)=neg:=⟨_,rfl⟩
  have hq:q.num≠0:=fun e=>hs (by rw [Rat.num_eq_zero.1 e];exact sm_zero)
  have hlt:=lt_of_block hk
  have hc:cmpI q.num 0=if neg=true then -1 else 1:=by
   rw [← hneg]
   unfold cmpI
   by_cases h:q.num<0
   ·rw [if_pos h,if_pos (by simpa using h)]
   ·rw [if_neg h,if_pos (by omega),if_neg (by simpa using h)]
  rw [hc]
  rw [hneg] at g0
  clear hc hq hs h1 h2 hk hb1 hneg
  cases neg
  all_goals
   go_enter Tryz.func87,Tryz.ntmps87
   go_wp2
   go_ret
   refine ⟨rfl,?_⟩
   repeat (first|exact Below.refl _ _|(refine Below.setCell ?_ (by first|omega|(simp;done)|(simp;omega)) _)|(refine Below.alloc ?_ (by first|omega|(simp;done)|(simp;omega)) _)|(refine Below.drew ?_)|exact Below.refl _ _)
theorem areSmall_yes (v v' : Value) (p q:Rat) (w:World) (hp:Sm p) (hq:Sm q) (h:v=smV p.num p.den) (h' : v'=smV q.num q.den):Calls Tryz.prog 148 #[v,v'] w (Gives w (.bool true)):=by
 subst h;subst h'
 unfold smV
 clear hp hq
 go_enter Tryz.func148,Tryz.ntmps148
 go_wp2
 go_ret
 refine ⟨rfl,?_⟩
 repeat (first|exact Below.refl _ _|(refine Below.setCell ?_ (by first|omega|(simp;done)|(simp;omega)) _)|(refine Below.alloc ?_ (by first|omega|(simp;done)|(simp;omega)) _)|(refine Below.drew ?_)|exact Below.refl _ _)
theorem areSmall_no (v v' : Value) (p q:Rat) (w:World) (h:Nb w v p) (h' : Nb w v' q) (hn:¬ (Sm p∧Sm q)):Calls Tryz.prog 148 #[v,v'] w (Gives w (.bool false)):=by
 rcases h with ⟨hs,rfl⟩|⟨hs,g,s1,s2,rfl,hk,h1,h2⟩
 ·rcases h' with ⟨hs',rfl⟩|⟨hs',g',s1',s2',rfl,hk',h1',h2'⟩
  ·exact absurd ⟨hs,hs'⟩ hn
  ·unfold smV
   clear hs hs' hk' h1' h2' hn
   go_enter Tryz.func148,Tryz.ntmps148
   go_wp2
   go_ret
   refine ⟨rfl,?_⟩
   repeat (first|exact Below.refl _ _|(refine Below.setCell ?_ (by first|omega|(simp;done)|(simp;omega)) _)|(refine Below.alloc ?_ (by first|omega|(simp;done)|(simp;omega)) _)|(refine Below.drew ?_)|exact Below.refl _ _)
 ·obtain ⟨n,d,pp,rfl⟩:=h'.form
  clear hs h' hk h1 h2 hn
  go_enter Tryz.func148,Tryz.ntmps148
  go_wp2
  go_ret
  refine ⟨rfl,?_⟩
  repeat (first|exact Below.refl _ _|(refine Below.setCell ?_ (by first|omega|(simp;done)|(simp;omega)) _)|(refine Below.alloc ?_ (by first|omega|(simp;done)|(simp;omega)) _)|(refine Below.drew ?_)|exact Below.refl _ _)
set_option maxRecDepth 100000 in
set_option maxHeartbeats 4000000 in
theorem negated_nb (v:Value) (q:Rat) (w:World) (h:Nb w v q):Calls Tryz.prog 146 #[v] w (GivesNb w (-q)):=by
 rcases h with ⟨hs,rfl⟩|⟨hs,g,s1,s2,rfl,hk,h1,h2⟩
 ·have hm:=sm_num hs
  have hs' : Sm (-q):=⟨by rw [Rat.neg_num,Int.natAbs_neg];exact hs.1,hs.2⟩
  have hv:smV (-q).num (-q).den = .agg #[.int .i64 (-q.num),.int .i64 ((q.den:Int)-1),.pointer none]:=rfl
  obtain ⟨m1,m2⟩:=hm
  have H:=Lib.hid (And.intro hs' hv)
  unfold smV
  clear hs hs' hv
  have hw:IntKind.i64.wrap (-q.num) = -q.num:=by rw [IntKind.wrap_i64];omega
  generalize q.num=n at *
  generalize ((q.den:Int)-1)=d at *
  go_enter Tryz.func146,Tryz.ntmps146
  go_wp2
  refine bodyPost_ret (v := .agg #[.int .i64 (-n),.int .i64 d,.pointer none]) (by simp [results,Tryz.results146,go_sem]) rfl ⟨_,rfl,.inl ⟨H.out.1,H.out.2.symm⟩,?_⟩
  repeat (first|exact Below.refl _ _|(refine Below.setCell ?_ (by first|omega|(simp;done)|(simp;omega)) _)|(refine Below.alloc ?_ (by first|omega|(simp;done)|(simp;omega)) _)|(refine Below.drew ?_)|exact Below.refl _ _)
 ·obtain ⟨A1,n1,c1,rfl⟩:=h1.form
  obtain ⟨A2,n2,c2,rfl⟩:=h2.form
  obtain ⟨hk1,hk2,hb1⟩:=alloc2 w (.cells #[.int .i64 0,.int .i64 0,.pointer (some ⟨g,0,none⟩)] 67) (.cells #[.int .i64 0,.int .i64 0,.pointer none] 67)
  obtain ⟨⟨g0,g1,g2⟩,_⟩:=blk3 (keep_blk hb1 hk)
  have hq:q≠0:=fun e=>hs (by rw [e];exact sm_zero)
  have hlt:=lt_of_block hk
  have hfr:Fr w (.agg #[.bool (decide (q.num<0)),.slice A1 n1 c1,.slice A2 n2 c2]) q:=⟨_,_,rfl,h1,h2⟩
  have H:=Lib.hid (And.intro hfr (And.intro hq (And.intro hb1 (And.intro hk1 hk2))))
  clear h1 h2 hk hb1 hk1 hk2 hs hq hfr
  go_enter Tryz.func146,Tryz.ntmps146
  go_wp2_with fail
  refine (negated_any _ q _ (H.out.1.below H.out.2.2.1) H.out.2.1).mono ?_
  rintro e w2 ⟨v2,rfl,q2,b2⟩
  have Q2:=Lib.hid (And.intro q2 b2)
  clear q2 b2
  go_wp2_with fail
  refine (number_any _ _ _ Q2.out.1).mono ?_
  rintro e w3 ⟨v3,rfl,q3,b3⟩
  obtain ⟨n,d,p,rfl⟩:=q3.form
  have hk:=keep_blk (Below.step_trans Q2.out.2 b3) H.out.2.2.2.2
  obtain ⟨⟨h0,h1,h2⟩,f0,f1,f2⟩:=blk3 hk
  have Q3:=Lib.hid (And.intro q3 (And.intro b3 hk))
  clear q3 b3 hk
  go_wp2
  refine bodyPost_ret (v := .agg #[.int .i64 n,.int .i64 d,.pointer p]) (by simp [results,Tryz.results146,go_sem,h0,h1,h2]) rfl ⟨_,rfl,?_,?_⟩
  ·exact Nb.ext (K:=Kn) (fun _=>rfl) (fun _=>rfl) Q3.out.1 (Ext.only (only3 _ _ _ _ _) Q3.out.2.2 (by simp [hotObj,Kn]))
  ·repeat (first|exact (Below.step_trans H.out.2.2.1 (Below.step_trans Q2.out.2 Q3.out.2.1))|(refine Below.setCell ?_ (by first|omega|(simp;done)|(simp;omega)) _)|(refine Below.alloc ?_ (by first|omega|(simp;done)|(simp;omega)) _)|(refine Below.drew ?_)|exact Below.refl _ _)
theorem productOf_ex (a b:Int) (ha:Mach a) (hb:Mach b):∃ (r:Int) (ok:Bool),(∀ w,Calls Tryz.prog 200 #[.int .i64 a,.int .i64 b] w (Gives w (.tuple #[.int .i64 r,.bool ok])))∧(ok=true→r=a*b∧Mach (a*b))∧Mach r:=by
 by_cases h:Mach (a*b)
 ·exact ⟨_,true,fun w=>GivesOk.yes (productOf_any a b w ha hb) h,fun _=>⟨rfl,h⟩,h⟩
 ·exact ⟨0,false,fun w=>GivesOk.no (productOf_any a b w ha hb) h,fun h=>(by cases h),by unfold Mach;omega⟩
theorem sumOf_ex (a b:Int) (ha:Mach a) (hb:Mach b):∃ (r:Int) (ok:Bool),(∀ w,Calls Tryz.prog 198 #[.int .i64 a,.int .i64 b] w (Gives w (.tuple #[.int .i64 r,.bool ok])))∧(ok=true→r=a+b∧Mach (a+b))∧-9223372036854775808≤r∧r≤9223372036854775807:=by
 by_cases h:Mach (a+b)
 ·exact ⟨_,true,fun w=>GivesOk.yes (sumOf_any a b w ha hb) h,fun _=>⟨rfl,h⟩,by obtain ⟨h1,h2⟩:=h;omega,h.2⟩
 ·exact ⟨IntKind.i64.wrap (a+b),false,fun w=>GivesOk.no (sumOf_any a b w ha hb) h,fun h=>(by cases h),by rw [IntKind.wrap_i64];omega,by rw [IntKind.wrap_i64];omega⟩
theorem lowest_ex (n:Int) (d:Nat) (hn1:-9223372036854775808≤n) (hn2:n≤9223372036854775807) (hd1:1≤d) (hd2:(d:Int)≤9223372036854775807) :
 (∀ w,Calls Tryz.prog 199 #[.int .i64 n,.int .i64 (d:Int)] w (Gives w (smV (mkRat n d).num (mkRat n d).den)))∧(Mach n→Sm (mkRat n d)):=by
 have e1:(mkRat n d).num=n/((Nat.gcd d n.natAbs:Nat):Int):=by rw [Rat.num_mkRat,if_neg (by omega)]
 have e2:(((mkRat n d).den:Nat):Int)=(d:Int)/((Nat.gcd d n.natAbs:Nat):Int):=by rw [Rat.den_mkRat,if_neg (by omega),Int.natCast_ediv]
 refine ⟨fun w=>?_,fun hm=>?_⟩
 ·rw [e1,e2]
  exact lowest_raw n d _ w hn1 hn2 (by omega) hd2 rfl
 ·obtain ⟨h1,h2⟩:=mkRat_num_le n (d:=d) (by omega)
  obtain ⟨m1,m2⟩:=hm
  exact ⟨Nat.le_trans h1 (by rw [M63_eq];omega),Nat.le_trans h2 (by rw [M63_eq];omega)⟩
def GivesNumOk (w:World) (q:Rat) (e:Ending) (w' : World):Prop := ∃ (n d:Int) (ok:Bool),e = .returned (.tuple #[.agg #[.int .i64 n,.int .i64 d,.pointer none],.bool ok])∧(ok=true→Sm q∧.agg #[.int .i64 n,.int .i64 d,.pointer none]=smV q.num q.den)∧Below w.heap.size w w'
set_option maxRecDepth 100000 in
set_option maxHeartbeats 8000000 in
theorem plusSmall_same (p q:Rat) (w:World) (hp:Sm p) (hq:Sm q) (hd:p.den=q.den):Calls Tryz.prog 149 #[smV p.num p.den,smV q.num q.den] w (GivesNumOk w (p+q)):=by
 have hpq:p+q=mkRat (p.num+q.num) p.den:=by
  rw [Rat.add_def',← hd]
  have := @Rat.mkRat_mul_right (p.num+q.num) p.den p.den p.den_nz
  rw [← this,Int.add_mul]
 have md:=sm_den hp
 obtain ⟨s,ok,hs1,hs2,hs3,hs4⟩:=sumOf_ex p.num q.num (sm_num hp) (sm_num hq)
 obtain ⟨hl1,hl2⟩:=lowest_ex s p.den hs3 hs4 p.den_pos md.2
 rw [← hd]
 unfold smV
 obtain ⟨n,hn⟩:∃ n,n=p.num:=⟨_,rfl⟩
 obtain ⟨m,hm⟩:∃ m,m=q.num:=⟨_,rfl⟩
 obtain ⟨d,hdd⟩:∃ d:Nat,d=p.den:=⟨_,rfl⟩
 rw [← hn,← hm] at hs1
 rw [← hdd] at hl1 md
 rw [← hn,← hm,← hdd]
 have hout:ok=true→Sm (p+q)∧smV (mkRat s d).num (mkRat s d).den=smV (p+q).num (p+q).den:=fun h=>by
  obtain ⟨h1,h2⟩:=hs2 h
  rw [hpq,← h1,hdd]
  exact ⟨hl2 (by rw [h1];exact h2),rfl⟩
 obtain ⟨rn,hrn⟩:∃ rn,rn=(mkRat s d).num:=⟨_,rfl⟩
 obtain ⟨rd,hrd⟩:∃ rd:Int,rd=(((mkRat s d).den:Nat):Int):=⟨_,rfl⟩
 rw [← hrn,← hrd] at hl1 hout
 unfold smV at hl1
 obtain ⟨hk1,hk2,hk3,hb1⟩:=alloc3 w (.cells #[.int .i64 n,.int .i64 ((d:Int)-1),.pointer none] 67) (.cells #[.int .i64 m,.int .i64 ((d:Int)-1),.pointer none] 67) (.cells #[.int .i64 0,.int .i64 0,.pointer none] 67)
 have hden:∀ w',Calls Tryz.prog 142 #[.agg #[.int .i64 n,.int .i64 ((d:Int)-1),.pointer none]] w' (Gives w' (.int .i64 (d:Int))):=fun w'=>by
  have:=den_any n ((d:Int)-1) none w' (by omega) (by omega)
  rwa [Int.sub_add_cancel] at this
 have H:=Lib.hid (And.intro hs1 (And.intro hl1 (And.intro hden (And.intro hout (And.intro hb1 hk3)))))
 have hz:((d:Int)-1==(d:Int)-1)=true:=by simp
 clear hpq hs1 hs2 hs3 hs4 hl1 hl2 hn hm hdd hp hq hd hout hk1 hk2 hk3 hb1 hden hrn hrd md
 go_enter Tryz.func149,Tryz.ntmps149
 go_wp2_with fail
 refine (H.out.1 _).mono ?_
 rintro e w2 ⟨rfl,b2⟩
 have hA2:=keep_blk b2 (alloc3 w (.cells #[.int .i64 n,.int .i64 ((d:Int)-1),.pointer none] 67) (.cells #[.int .i64 m,.int .i64 ((d:Int)-1),.pointer none] 67) (.cells #[.int .i64 0,.int .i64 0,.pointer none] 67)).1
 obtain ⟨⟨u0,u1,u2⟩,_⟩:=blk3 hA2
 have B2:=Lib.hid b2
 clear b2 hA2
 go_wp2_with fail
 refine (H.out.2.2.1 _).mono ?_
 rintro e w3 ⟨rfl,b3⟩
 have B3:=Lib.hid b3
 clear b3
 go_wp2_with fail
 refine (H.out.2.1 _).mono ?_
 rintro e w4 ⟨rfl,b4⟩
 have hb:=Below.step_trans B2.out (Below.step_trans B3.out b4)
 obtain ⟨⟨r0,r1,r2⟩,f0,f1,f2⟩:=blk3 (keep_blk hb H.out.2.2.2.2.2)
 have B4:=Lib.hid (Below.step_trans H.out.2.2.2.2.1 hb)
 clear b4 hb
 go_wp2
 refine bodyPost_ret (v := .tuple #[.agg #[.int .i64 rn,.int .i64 (rd-1),.pointer none],.bool ok]) (by simp [results,Tryz.results149,go_sem,r0,r1,r2]) rfl ⟨_,_,_,rfl,H.out.2.2.2.1,?_⟩
 repeat (first|exact B4.out|(refine Below.setCell ?_ (by first|omega|(simp;done)|(simp;omega)) _)|(refine Below.alloc ?_ (by first|omega|(simp;done)|(simp;omega)) _)|(refine Below.drew ?_)|exact Below.refl _ _)
set_option maxRecDepth 100000 in
set_option maxHeartbeats 8000000 in
theorem plusSmall_apart (p q:Rat) (w:World) (hp:Sm p) (hq:Sm q) (hd:p.den≠q.den):Calls Tryz.prog 149 #[smV p.num p.den,smV q.num q.den] w (GivesNumOk w (p+q)):=by
 have hpq:p+q=mkRat (p.num*q.den+q.num*p.den) (p.den*q.den):=Rat.add_def' p q
 have mp:=sm_den hp
 have mq:=sm_den hq
 have np:=sm_num hp
 have nq:=sm_num hq
 unfold smV
 obtain ⟨n,hn⟩:∃ n,n=p.num:=⟨_,rfl⟩
 obtain ⟨m,hm⟩:∃ m,m=q.num:=⟨_,rfl⟩
 obtain ⟨d,hdd⟩:∃ d:Nat,d=p.den:=⟨_,rfl⟩
 obtain ⟨k,hkk⟩:∃ k:Nat,k=q.den:=⟨_,rfl⟩
 rw [← hn,← hm,← hdd,← hkk] at hpq
 rw [← hn] at np ⊢
 rw [← hm] at nq ⊢
 rw [← hdd] at mp hd ⊢
 rw [← hkk] at mq hd ⊢
 have md:Mach d:=by unfold Mach;omega
 have mk:Mach k:=by unfold Mach;omega
 obtain ⟨r1,o1,c1,e1,x1⟩:=productOf_ex n k np mk
 obtain ⟨r2,o2,c2,e2,x2⟩:=productOf_ex m d nq md
 obtain ⟨r3,o3,c3,e3,x3⟩:=productOf_ex d k md mk
 obtain ⟨s,o4,c4,e4,x4,x5⟩:=sumOf_ex r1 r2 x1 x2
 obtain ⟨hk1,hk2,hk3,hb1⟩:=alloc3 w (.cells #[.int .i64 n,.int .i64 ((d:Int)-1),.pointer none] 67) (.cells #[.int .i64 m,.int .i64 ((k:Int)-1),.pointer none] 67) (.cells #[.int .i64 0,.int .i64 0,.pointer none] 67)
 have hden1:∀ w',Calls Tryz.prog 142 #[.agg #[.int .i64 n,.int .i64 ((d:Int)-1),.pointer none]] w' (Gives w' (.int .i64 (d:Int))):=fun w'=>by
  have:=den_any n ((d:Int)-1) none w' (by omega) (by omega)
  rwa [Int.sub_add_cancel] at this
 have hden2:∀ w',Calls Tryz.prog 142 #[.agg #[.int .i64 m,.int .i64 ((k:Int)-1),.pointer none]] w' (Gives w' (.int .i64 (k:Int))):=fun w'=>by
  have:=den_any m ((k:Int)-1) none w' (by omega) (by omega)
  rwa [Int.sub_add_cancel] at this
 have hlow:o1=true→o2=true→o3=true→∃ rn rd:Int,(∀ w',Calls Tryz.prog 199 #[.int .i64 s,.int .i64 r3] w' (Gives w' (.agg #[.int .i64 rn,.int .i64 (rd-1),.pointer none])))∧(o4=true→Sm (p+q)∧.agg #[.int .i64 rn,.int .i64 (rd-1),.pointer none]=smV (p+q).num (p+q).den):=fun h1 h2 h3=>by
  obtain ⟨y1,z1⟩:=e1 h1
  obtain ⟨y2,z2⟩:=e2 h2
  obtain ⟨y3,z3⟩:=e3 h3
  have hr3:r3=((d*k:Nat):Int):=by rw [y3];simp
  have hdk:1≤d*k:=Nat.mul_pos (by omega) (by omega)
  obtain ⟨l1,l2⟩:=lowest_ex s (d*k) x4 x5 hdk (by rw [← hr3];exact x3.2)
  rw [← hr3] at l1
  refine ⟨_,_,l1,fun h4=>?_⟩
  obtain ⟨y4,z4⟩:=e4 h4
  rw [hpq,← y1,← y2,← y4]
  exact ⟨l2 (by rw [y4];exact z4),rfl⟩
 have H:=Lib.hid (And.intro c1 (And.intro c2 (And.intro c3 (And.intro c4 (And.intro hlow (And.intro hb1 (And.intro hk3 (And.intro hden1 hden2))))))))
 have HK:=Lib.hid (And.intro hk1 hk2)
 have hz:((d:Int)-1==(k:Int)-1)=false:=by simp;omega
 clear hpq hp hq mp mq np nq hn hm hdd hkk hd md mk c1 e1 x1 c2 e2 x2 c3 e3 x3 c4 e4 x4 x5 hk1 hk2 hk3 hb1 hden1 hden2 hlow
 go_enter Tryz.func149,Tryz.ntmps149
 go_wp2
 generalize ((w.alloc (.cells #[.int .i64 n,.int .i64 ((d:Int)-1),.pointer none] 67)).alloc (.cells #[.int .i64 m,.int .i64 ((k:Int)-1),.pointer none] 67)).alloc (.cells #[.int .i64 0,.int .i64 0,.pointer none] 67)=w1 at *
 have hA:=HK.out.1
 have hC:=HK.out.2
 have hR:=H.out.2.2.2.2.2.2.1
 have hW:=H.out.2.2.2.2.2.1
 refine wp_region_ty Kn [] (by kernel_rfl) (by kernel_rfl) ?_
 repeat (first|(apply ty_is (hg:=rfl);case h=>(intro A w' hB hk;simp [known,specOf,Kd.spec,Sp.is,isVar,Oper.looksAt,Op.operands,Call.operands,Act.eval] at hk;have c_hA:=cells_of_blk (hB.blk hA (by first|(simp;done)|(simp;omega)));have c_hC:=cells_of_blk (hB.blk hC (by first|(simp;done)|(simp;omega)));first|(simp [go_sem,hk,c_hA,c_hC];done)|(simp [go_sem,hk,c_hA,c_hC];rfl)|(simp [go_sem,c_hA,c_hC];rfl)))|(refine ty_move _ ?_ (by first|exact .inl rfl|exact .inr rfl) (by rfl) (by simp [specOf,Kd.spec];rfl) ?_ rfl ?_;(first|exact Sp.is_stable _ _|exact spNt_stable (fun _=>rfl) _|exact spTwo_stable (fun _=>rfl) _ _|exact spFr_stable (fun _=>rfl) _|exact spSum_stable (fun _=>rfl) _|exact spSgn_stable _ _|exact spNb_stable (fun _=>rfl) (fun _=>rfl) _|exact spVc_stable (fun _=>rfl) (fun _=>rfl) _)))
 refine ty_call (Sp.is (.int .i64 (k:Int))) (Sp.is_stable _ _) rfl (fun A w' hB hk=>?_) ?_;(simp [known,specOf,Kd.spec,Sp.is,isVar,Oper.looksAt,Op.operands,Call.operands,Act.eval] at hk;have c_hA:=cells_of_blk (hB.blk hA (by first|(simp;done)|(simp;omega)));simp [go_sem,hk,c_hA];refine tyUpon_enter ?_;exact Gives.ty (H.out.2.2.2.2.2.2.2.2 _))
 refine ty_call (Sp.is (.tuple #[.int .i64 r1,.bool o1])) (Sp.is_stable _ _) rfl (fun A w' hB hk=>?_) ?_;(simp [known,specOf,Kd.spec,Sp.is,isVar,Oper.looksAt,Op.operands,Call.operands,Act.eval] at hk;have c_hA:=cells_of_blk (hB.blk hA (by first|(simp;done)|(simp;omega)));simp [go_sem,hk,c_hA];refine tyUpon_enter ?_;exact Gives.ty (H.out.1 _))
 repeat (first|(apply ty_is (hg:=rfl);case h=>(intro A w' hB hk;simp [known,specOf,Kd.spec,Sp.is,isVar,Oper.looksAt,Op.operands,Call.operands,Act.eval] at hk;have c_hA:=cells_of_blk (hB.blk hA (by first|(simp;done)|(simp;omega)));have c_hC:=cells_of_blk (hB.blk hC (by first|(simp;done)|(simp;omega)));first|(simp [go_sem,hk,c_hA,c_hC];done)|(simp [go_sem,hk,c_hA,c_hC];rfl)|(simp [go_sem,c_hA,c_hC];rfl)))|(refine ty_move _ ?_ (by first|exact .inl rfl|exact .inr rfl) (by rfl) (by simp [specOf,Kd.spec];rfl) ?_ rfl ?_;(first|exact Sp.is_stable _ _|exact spNt_stable (fun _=>rfl) _|exact spTwo_stable (fun _=>rfl) _ _|exact spFr_stable (fun _=>rfl) _|exact spSum_stable (fun _=>rfl) _|exact spSgn_stable _ _|exact spNb_stable (fun _=>rfl) (fun _=>rfl) _|exact spVc_stable (fun _=>rfl) (fun _=>rfl) _)))
 refine ⟨by first|rfl|decide,fun f w2 hB hF hAp=>?_⟩;simp [Final1,Sp.is,isVar] at hF;simp only [frameOf,Act.put,List.setIfInBounds_toArray,List.set_cons_succ,List.set_cons_zero,hF]
 have hA:=hB.blk hA (by simp)
 have hC:=hB.blk hC (by simp)
 have hR:=hB.blk hR (by simp)
 have hW:=Below.step_trans hW hB.below
 clear hB hAp hF
 go_wp2
 refine wp_region_ty Kn [] (by kernel_rfl) (by kernel_rfl) ?_
 repeat (first|(apply ty_is (hg:=rfl);case h=>(intro A w' hB hk;simp [known,specOf,Kd.spec,Sp.is,isVar,Oper.looksAt,Op.operands,Call.operands,Act.eval] at hk;have c_hA:=cells_of_blk (hB.blk hA (by first|(simp;done)|(simp;omega)));have c_hC:=cells_of_blk (hB.blk hC (by first|(simp;done)|(simp;omega)));first|(simp [go_sem,hk,c_hA,c_hC];done)|(simp [go_sem,hk,c_hA,c_hC];rfl)|(simp [go_sem,c_hA,c_hC];rfl)))|(refine ty_move _ ?_ (by first|exact .inl rfl|exact .inr rfl) (by rfl) (by simp [specOf,Kd.spec];rfl) ?_ rfl ?_;(first|exact Sp.is_stable _ _|exact spNt_stable (fun _=>rfl) _|exact spTwo_stable (fun _=>rfl) _ _|exact spFr_stable (fun _=>rfl) _|exact spSum_stable (fun _=>rfl) _|exact spSgn_stable _ _|exact spNb_stable (fun _=>rfl) (fun _=>rfl) _|exact spVc_stable (fun _=>rfl) (fun _=>rfl) _)))
 refine ty_call (Sp.is (.int .i64 (d:Int))) (Sp.is_stable _ _) rfl (fun A w' hB hk=>?_) ?_;(simp [known,specOf,Kd.spec,Sp.is,isVar,Oper.looksAt,Op.operands,Call.operands,Act.eval] at hk;have c_hA:=cells_of_blk (hB.blk hA (by first|(simp;done)|(simp;omega)));simp [go_sem,hk,c_hA];refine tyUpon_enter ?_;exact Gives.ty (H.out.2.2.2.2.2.2.2.1 _))
 refine ty_call (Sp.is (.tuple #[.int .i64 r2,.bool o2])) (Sp.is_stable _ _) rfl (fun A w' hB hk=>?_) ?_;(simp [known,specOf,Kd.spec,Sp.is,isVar,Oper.looksAt,Op.operands,Call.operands,Act.eval] at hk;have c_hA:=cells_of_blk (hB.blk hA (by first|(simp;done)|(simp;omega)));simp [go_sem,hk,c_hA];refine tyUpon_enter ?_;exact Gives.ty (H.out.2.1 _))
 repeat (first|(apply ty_is (hg:=rfl);case h=>(intro A w' hB hk;simp [known,specOf,Kd.spec,Sp.is,isVar,Oper.looksAt,Op.operands,Call.operands,Act.eval] at hk;have c_hA:=cells_of_blk (hB.blk hA (by first|(simp;done)|(simp;omega)));have c_hC:=cells_of_blk (hB.blk hC (by first|(simp;done)|(simp;omega)));first|(simp [go_sem,hk,c_hA,c_hC];done)|(simp [go_sem,hk,c_hA,c_hC];rfl)|(simp [go_sem,c_hA,c_hC];rfl)))|(refine ty_move _ ?_ (by first|exact .inl rfl|exact .inr rfl) (by rfl) (by simp [specOf,Kd.spec];rfl) ?_ rfl ?_;(first|exact Sp.is_stable _ _|exact spNt_stable (fun _=>rfl) _|exact spTwo_stable (fun _=>rfl) _ _|exact spFr_stable (fun _=>rfl) _|exact spSum_stable (fun _=>rfl) _|exact spSgn_stable _ _|exact spNb_stable (fun _=>rfl) (fun _=>rfl) _|exact spVc_stable (fun _=>rfl) (fun _=>rfl) _)))
 refine ⟨by first|rfl|decide,fun f w2 hB hF hAp=>?_⟩;simp [Final1,Sp.is,isVar] at hF;simp only [frameOf,Act.put,List.setIfInBounds_toArray,List.set_cons_succ,List.set_cons_zero,hF]
 have hA:=hB.blk hA (by simp)
 have hC:=hB.blk hC (by simp)
 have hR:=hB.blk hR (by simp)
 have hW:=Below.step_trans hW hB.below
 clear hB hAp hF
 go_wp2
 refine wp_region_ty Kn [] (by kernel_rfl) (by kernel_rfl) ?_
 repeat (first|(apply ty_is (hg:=rfl);case h=>(intro A w' hB hk;simp [known,specOf,Kd.spec,Sp.is,isVar,Oper.looksAt,Op.operands,Call.operands,Act.eval] at hk;have c_hA:=cells_of_blk (hB.blk hA (by first|(simp;done)|(simp;omega)));have c_hC:=cells_of_blk (hB.blk hC (by first|(simp;done)|(simp;omega)));first|(simp [go_sem,hk,c_hA,c_hC];done)|(simp [go_sem,hk,c_hA,c_hC];rfl)|(simp [go_sem,c_hA,c_hC];rfl)))|(refine ty_move _ ?_ (by first|exact .inl rfl|exact .inr rfl) (by rfl) (by simp [specOf,Kd.spec];rfl) ?_ rfl ?_;(first|exact Sp.is_stable _ _|exact spNt_stable (fun _=>rfl) _|exact spTwo_stable (fun _=>rfl) _ _|exact spFr_stable (fun _=>rfl) _|exact spSum_stable (fun _=>rfl) _|exact spSgn_stable _ _|exact spNb_stable (fun _=>rfl) (fun _=>rfl) _|exact spVc_stable (fun _=>rfl) (fun _=>rfl) _)))
 refine ty_call (Sp.is (.int .i64 (d:Int))) (Sp.is_stable _ _) rfl (fun A w' hB hk=>?_) ?_;(simp [known,specOf,Kd.spec,Sp.is,isVar,Oper.looksAt,Op.operands,Call.operands,Act.eval] at hk;have c_hA:=cells_of_blk (hB.blk hA (by first|(simp;done)|(simp;omega)));simp [go_sem,hk,c_hA];refine tyUpon_enter ?_;exact Gives.ty (H.out.2.2.2.2.2.2.2.1 _))
 repeat (first|(apply ty_is (hg:=rfl);case h=>(intro A w' hB hk;simp [known,specOf,Kd.spec,Sp.is,isVar,Oper.looksAt,Op.operands,Call.operands,Act.eval] at hk;have c_hA:=cells_of_blk (hB.blk hA (by first|(simp;done)|(simp;omega)));have c_hC:=cells_of_blk (hB.blk hC (by first|(simp;done)|(simp;omega)));first|(simp [go_sem,hk,c_hA,c_hC];done)|(simp [go_sem,hk,c_hA,c_hC];rfl)|(simp [go_sem,c_hA,c_hC];rfl)))|(refine ty_move _ ?_ (by first|exact .inl rfl|exact .inr rfl) (by rfl) (by simp [specOf,Kd.spec];rfl) ?_ rfl ?_;(first|exact Sp.is_stable _ _|exact spNt_stable (fun _=>rfl) _|exact spTwo_stable (fun _=>rfl) _ _|exact spFr_stable (fun _=>rfl) _|exact spSum_stable (fun _=>rfl) _|exact spSgn_stable _ _|exact spNb_stable (fun _=>rfl) (fun _=>rfl) _|exact spVc_stable (fun _=>rfl) (fun _=>rfl) _)))
 refine ty_call (Sp.is (.int .i64 (k:Int))) (Sp.is_stable _ _) rfl (fun A w' hB hk=>?_) ?_;(simp [known,specOf,Kd.spec,Sp.is,isVar,Oper.looksAt,Op.operands,Call.operands,Act.eval] at hk;have c_hA:=cells_of_blk (hB.blk hA (by first|(simp;done)|(simp;omega)));simp [go_sem,hk,c_hA];refine tyUpon_enter ?_;exact Gives.ty (H.out.2.2.2.2.2.2.2.2 _))
 refine ty_call (Sp.is (.tuple #[.int .i64 r3,.bool o3])) (Sp.is_stable _ _) rfl (fun A w' hB hk=>?_) ?_;(simp [known,specOf,Kd.spec,Sp.is,isVar,Oper.looksAt,Op.operands,Call.operands,Act.eval] at hk;have c_hA:=cells_of_blk (hB.blk hA (by first|(simp;done)|(simp;omega)));simp [go_sem,hk,c_hA];refine tyUpon_enter ?_;exact Gives.ty (H.out.2.2.1 _))
 repeat (first|(apply ty_is (hg:=rfl);case h=>(intro A w' hB hk;simp [known,specOf,Kd.spec,Sp.is,isVar,Oper.looksAt,Op.operands,Call.operands,Act.eval] at hk;have c_hA:=cells_of_blk (hB.blk hA (by first|(simp;done)|(simp;omega)));have c_hC:=cells_of_blk (hB.blk hC (by first|(simp;done)|(simp;omega)));first|(simp [go_sem,hk,c_hA,c_hC];done)|(simp [go_sem,hk,c_hA,c_hC];rfl)|(simp [go_sem,c_hA,c_hC];rfl)))|(refine ty_move _ ?_ (by first|exact .inl rfl|exact .inr rfl) (by rfl) (by simp [specOf,Kd.spec];rfl) ?_ rfl ?_;(first|exact Sp.is_stable _ _|exact spNt_stable (fun _=>rfl) _|exact spTwo_stable (fun _=>rfl) _ _|exact spFr_stable (fun _=>rfl) _|exact spSum_stable (fun _=>rfl) _|exact spSgn_stable _ _|exact spNb_stable (fun _=>rfl) (fun _=>rfl) _|exact spVc_stable (fun _=>rfl) (fun _=>rfl) _)))
 refine ⟨by first|rfl|decide,fun f w2 hB hF hAp=>?_⟩;simp [Final1,Sp.is,isVar] at hF;simp only [frameOf,Act.put,List.setIfInBounds_toArray,List.set_cons_succ,List.set_cons_zero,hF]
 have hR:=hB.blk hR (by simp)
 have hW:=Below.step_trans hW hB.below
 obtain ⟨⟨r0,ra,rb⟩,f0,f1,f2⟩:=blk3 hR
 have HR:=Lib.hid (And.intro hR hW)
 clear hB hAp hF hA hC hR hW
 by_cases hall:o1=true∧o2=true∧o3=true
 ·obtain ⟨rfl,rfl,rfl⟩:=hall
  obtain ⟨rn,rd,hl1,hl2⟩:=H.out.2.2.2.2.1 rfl rfl rfl
  have HL:=Lib.hid (And.intro hl1 hl2)
  clear hl1 hl2 r0 ra rb f0 f1 f2
  go_wp2_with fail
  refine (H.out.2.2.2.1 _).mono ?_
  rintro e w5 ⟨rfl,b5⟩
  have B5:=Lib.hid b5
  clear b5
  go_wp2_with fail
  refine (HL.out.1 _).mono ?_
  rintro e w6 ⟨rfl,b6⟩
  have hb:=Below.step_trans B5.out b6
  obtain ⟨⟨r0,ra,rb⟩,f0,f1,f2⟩:=blk3 (keep_blk hb HR.out.1)
  have B6:=Lib.hid (Below.step_trans HR.out.2 hb)
  clear b6 hb
  go_wp2
  refine bodyPost_ret (v := .tuple #[.agg #[.int .i64 rn,.int .i64 (rd-1),.pointer none],.bool o4]) (by simp [results,Tryz.results149,go_sem,r0,ra,rb]) rfl ⟨_,_,_,rfl,HL.out.2,?_⟩
  repeat (first|exact B6.out|(refine Below.setCell ?_ (by first|omega|(simp;done)|(simp;omega)) _)|(refine Below.alloc ?_ (by first|omega|(simp;done)|(simp;omega)) _)|(refine Below.drew ?_)|exact Below.refl _ _)
 ·cases o1 <;> cases o2 <;> cases o3
  case neg.true.true.true=>exact absurd ⟨rfl,rfl,rfl⟩ hall
  all_goals
   clear hall
   go_wp2
   refine bodyPost_ret (v := .tuple #[.agg #[.int .i64 0,.int .i64 0,.pointer none],.bool false]) (by simp [results,Tryz.results149,go_sem,r0,ra,rb]) rfl ⟨_,_,_,rfl,fun h=>by (cases h),?_⟩
   repeat (first|exact HR.out.2|(refine Below.setCell ?_ (by first|omega|(simp;done)|(simp;omega)) _)|(refine Below.alloc ?_ (by first|omega|(simp;done)|(simp;omega)) _)|(refine Below.drew ?_)|exact Below.refl _ _)
end Go.Proofs.YtbhcckhbbclemaaGreatDoor
