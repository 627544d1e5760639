/- Parts of the proof, joined. -/
import Derived.Test.YtghlkblebhhahaaGreatDoorJ4
import Derived.Test.YtghlkblebhhahaaGreatDoorJ0
import Derived.Test.YtghlkblebhhahaaGreatDoorJ1
import Derived.Test.YtghlkblebhhahaaGreatDoorShelf
set_option maxHeartbeats 4000000
set_option linter.unusedSimpArgs false
set_option linter.unusedVariables false
set_option linter.constructorNameAsVariable false
namespace Go.Proofs.YtghlkblebhhahaaGreatDoor
section
open Go.RowKit Pl
attribute [local simp] known specOf Kd.spec Sp.is isVar Oper.looksAt Op.operands Call.operands Act.eval
set_option maxRecDepth 100000 in
set_option maxHeartbeats 8000000 in
theorem uV (p q:Rat) (w:World) (hp:Sm p) (hq:Sm q) (hd:p.den≠q.den):Calls Tryz.prog 105 #[kE p.num p.den,kE q.num q.den] w (gK w (p+q)):=by
 have hpq:p+q=mkRat (p.num*q.den+q.num*p.den) (p.den*q.den):=Rat.add_def' p q
 have mp:=iF hp
 have mq:=iF hq
 have np:=iG hp
 have nq:=iG hq
 unfold kE
 obtain ⟨n,hn⟩:∃ n,n=p.num:=⟨_,rfl⟩
 obtain ⟨m,hm⟩:∃ m,m=q.num:=⟨_,rfl⟩
 obtain ⟨d,hdd⟩:∃ d:Nat,d=p.den:=⟨_,rfl⟩
 obtain ⟨k,hkk⟩:∃ k:Nat,k=q.den:=⟨_,rfl⟩
 rw [← hn,← hm,← hdd,← hkk] at hpq
 rw [← hn] at np ⊢
 rw [← hm] at nq ⊢
 rw [← hdd] at mp hd ⊢
 rw [← hkk] at mq hd ⊢
 have md:fU d:=by unfold fU;omega
 have mk:fU k:=by unfold fU;omega
 obtain ⟨r1,o1,c1,e1,x1⟩:=fV n k np mk
 obtain ⟨r2,o2,c2,e2,x2⟩:=fV m d nq md
 obtain ⟨r3,o3,c3,e3,x3⟩:=fV d k md mk
 obtain ⟨s,o4,c4,e4,x4,x5⟩:=sumOf_ex r1 r2 x1 x2
 obtain ⟨hk1,hk2,hk3,hb1⟩:=eB w (.cells #[.int .i64 n,.int .i64 ((d:Int)-1),.pointer none] 63) (.cells #[.int .i64 m,.int .i64 ((k:Int)-1),.pointer none] 63) (.cells #[.int .i64 0,.int .i64 0,.pointer none] 63)
 have hden1:∀ w',Calls Tryz.prog 103 #[.agg #[.int .i64 n,.int .i64 ((d:Int)-1),.pointer none]] w' (Gives w' (.int .i64 (d:Int))):=fun w'=>by
  have:=mP n ((d:Int)-1) none w' (by omega) (by omega)
  rwa [Int.sub_add_cancel] at this
 have hden2:∀ w',Calls Tryz.prog 103 #[.agg #[.int .i64 m,.int .i64 ((k:Int)-1),.pointer none]] w' (Gives w' (.int .i64 (k:Int))):=fun w'=>by
  have:=mP m ((k:Int)-1) none w' (by omega) (by omega)
  rwa [Int.sub_add_cancel] at this
 have hlow:o1=true→o2=true→o3=true→∃ rn rd:Int,(∀ w',Calls Tryz.prog 165 #[.int .i64 s,.int .i64 r3] w' (Gives w' (.agg #[.int .i64 rn,.int .i64 (rd-1),.pointer none])))∧(o4=true→Sm (p+q)∧.agg #[.int .i64 rn,.int .i64 (rd-1),.pointer none]=kE (p+q).num (p+q).den):=fun h1 h2 h3=>by
  obtain ⟨y1,z1⟩:=e1 h1
  obtain ⟨y2,z2⟩:=e2 h2
  obtain ⟨y3,z3⟩:=e3 h3
  have hr3:r3=((d*k:Nat):Int):=by rw [y3];simp
  have hdk:1≤d*k:=Nat.mul_pos (by omega) (by omega)
  obtain ⟨l1,l2⟩:=oS s (d*k) x4 x5 hdk (by rw [← hr3];exact x3.2)
  rw [← hr3] at l1
  refine ⟨_,_,l1,fun h4=>?_⟩
  obtain ⟨y4,z4⟩:=e4 h4
  rw [hpq,← y1,← y2,← y4]
  exact ⟨l2 (by rw [y4];exact z4),rfl⟩
 have H:=aH (aI c1 (aI c2 (aI c3 (aI c4 (aI hlow (aI hb1 (aI hk3 (aI hden1 hden2))))))))
 have HK:=aH (aI hk1 hk2)
 have hz:((d:Int)-1==(k:Int)-1)=false:=by simp;omega
 clear hpq hp hq mp mq np nq hn hm hdd hkk hd md mk c1 e1 x1 c2 e2 x2 c3 e3 x3 c4 e4 x4 x5 hk1 hk2 hk3 hb1 hden1 hden2 hlow
 go_enter Tryz.func105,Tryz.ntmps105
 go_wp2
 generalize ((w.alloc (.cells #[.int .i64 n,.int .i64 ((d:Int)-1),.pointer none] 63)).alloc (.cells #[.int .i64 m,.int .i64 ((k:Int)-1),.pointer none] 63)).alloc (.cells #[.int .i64 0,.int .i64 0,.pointer none] 63)=w1 at *
 have hA:=HK.out.1
 have hC:=HK.out.2
 have hR:=H.out.2.2.2.2.2.2.1
 have hW:=H.out.2.2.2.2.2.1
 refine wp_region_ty Kn [] (by kernel_rfl) (by kernel_rfl) ?_
 repeat (first|(apply bQ (hg:=rfl);case h=>(intro A w' hB hk;simp at hk;have c_hA:=aA (hB.blk hA (by simp <;> omega));have c_hC:=aA (hB.blk hC (by simp <;> omega));first|(simp [go_sem,hk,c_hA,c_hC] <;> rfl)|(simp [go_sem,c_hA,c_hC];rfl)))|(refine aY _ ?_ (by first|exact .inl rfl|exact .inr rfl) (by rfl) (by simp [specOf,Kd.spec];rfl) ?_ rfl ?_;(exact Sp.is_stable _ _)))
 refine aN (Sp.is (.int .i64 (k:Int))) (Sp.is_stable _ _) rfl (fun A w' hB hk=>?_) ?_;(simp at hk;have c_hA:=aA (hB.blk hA (by simp <;> omega));simp [go_sem,hk,c_hA];refine aF ?_;exact Gives.ty (H.out.2.2.2.2.2.2.2.2 _))
 refine aN (Sp.is (.tuple #[.int .i64 r1,.bool o1])) (Sp.is_stable _ _) rfl (fun A w' hB hk=>?_) ?_;(simp at hk;have c_hA:=aA (hB.blk hA (by simp <;> omega));simp [go_sem,hk,c_hA];refine aF ?_;exact Gives.ty (H.out.1 _))
 repeat (first|(apply bQ (hg:=rfl);case h=>(intro A w' hB hk;simp at hk;have c_hA:=aA (hB.blk hA (by simp <;> omega));have c_hC:=aA (hB.blk hC (by simp <;> omega));first|(simp [go_sem,hk,c_hA,c_hC] <;> rfl)|(simp [go_sem,c_hA,c_hC];rfl)))|(refine aY _ ?_ (by first|exact .inl rfl|exact .inr rfl) (by rfl) (by simp [specOf,Kd.spec];rfl) ?_ rfl ?_;(exact Sp.is_stable _ _)))
 refine ⟨by first|rfl|decide,fun f w2 hB hF hAp=>?_⟩;simp [Final1,Sp.is,isVar] at hF;simp only [frameOf,Act.put,List.setIfInBounds_toArray,List.set_cons_succ,List.set_cons_zero,hF]
 have hA:=hB.blk hA (by simp)
 have hC:=hB.blk hC (by simp)
 have hR:=hB.blk hR (by simp)
 have hW:=Below.step_trans hW hB.below
 clear hB hAp hF
 go_wp2
 refine wp_region_ty Kn [] (by kernel_rfl) (by kernel_rfl) ?_
 repeat (first|(apply bQ (hg:=rfl);case h=>(intro A w' hB hk;simp at hk;have c_hA:=aA (hB.blk hA (by simp <;> omega));have c_hC:=aA (hB.blk hC (by simp <;> omega));first|(simp [go_sem,hk,c_hA,c_hC] <;> rfl)|(simp [go_sem,c_hA,c_hC];rfl)))|(refine aY _ ?_ (by first|exact .inl rfl|exact .inr rfl) (by rfl) (by simp [specOf,Kd.spec];rfl) ?_ rfl ?_;(exact Sp.is_stable _ _)))
 refine aN (Sp.is (.int .i64 (d:Int))) (Sp.is_stable _ _) rfl (fun A w' hB hk=>?_) ?_;(simp at hk;have c_hA:=aA (hB.blk hA (by simp <;> omega));simp [go_sem,hk,c_hA];refine aF ?_;exact Gives.ty (H.out.2.2.2.2.2.2.2.1 _))
 refine aN (Sp.is (.tuple #[.int .i64 r2,.bool o2])) (Sp.is_stable _ _) rfl (fun A w' hB hk=>?_) ?_;(simp at hk;have c_hA:=aA (hB.blk hA (by simp <;> omega));simp [go_sem,hk,c_hA];refine aF ?_;exact Gives.ty (H.out.2.1 _))
 repeat (first|(apply bQ (hg:=rfl);case h=>(intro A w' hB hk;simp at hk;have c_hA:=aA (hB.blk hA (by simp <;> omega));have c_hC:=aA (hB.blk hC (by simp <;> omega));first|(simp [go_sem,hk,c_hA,c_hC] <;> rfl)|(simp [go_sem,c_hA,c_hC];rfl)))|(refine aY _ ?_ (by first|exact .inl rfl|exact .inr rfl) (by rfl) (by simp [specOf,Kd.spec];rfl) ?_ rfl ?_;(exact Sp.is_stable _ _)))
 refine ⟨by first|rfl|decide,fun f w2 hB hF hAp=>?_⟩;simp [Final1,Sp.is,isVar] at hF;simp only [frameOf,Act.put,List.setIfInBounds_toArray,List.set_cons_succ,List.set_cons_zero,hF]
 have hA:=hB.blk hA (by simp)
 have hC:=hB.blk hC (by simp)
 have hR:=hB.blk hR (by simp)
 have hW:=Below.step_trans hW hB.below
 clear hB hAp hF
 go_wp2
 refine wp_region_ty Kn [] (by kernel_rfl) (by kernel_rfl) ?_
 repeat (first|(apply bQ (hg:=rfl);case h=>(intro A w' hB hk;simp at hk;have c_hA:=aA (hB.blk hA (by simp <;> omega));have c_hC:=aA (hB.blk hC (by simp <;> omega));first|(simp [go_sem,hk,c_hA,c_hC] <;> rfl)|(simp [go_sem,c_hA,c_hC];rfl)))|(refine aY _ ?_ (by first|exact .inl rfl|exact .inr rfl) (by rfl) (by simp [specOf,Kd.spec];rfl) ?_ rfl ?_;(exact Sp.is_stable _ _)))
 refine aN (Sp.is (.int .i64 (d:Int))) (Sp.is_stable _ _) rfl (fun A w' hB hk=>?_) ?_;(simp at hk;have c_hA:=aA (hB.blk hA (by simp <;> omega));simp [go_sem,hk,c_hA];refine aF ?_;exact Gives.ty (H.out.2.2.2.2.2.2.2.1 _))
 repeat (first|(apply bQ (hg:=rfl);case h=>(intro A w' hB hk;simp at hk;have c_hA:=aA (hB.blk hA (by simp <;> omega));have c_hC:=aA (hB.blk hC (by simp <;> omega));first|(simp [go_sem,hk,c_hA,c_hC] <;> rfl)|(simp [go_sem,c_hA,c_hC];rfl)))|(refine aY _ ?_ (by first|exact .inl rfl|exact .inr rfl) (by rfl) (by simp [specOf,Kd.spec];rfl) ?_ rfl ?_;(exact Sp.is_stable _ _)))
 refine aN (Sp.is (.int .i64 (k:Int))) (Sp.is_stable _ _) rfl (fun A w' hB hk=>?_) ?_;(simp at hk;have c_hA:=aA (hB.blk hA (by simp <;> omega));simp [go_sem,hk,c_hA];refine aF ?_;exact Gives.ty (H.out.2.2.2.2.2.2.2.2 _))
 refine aN (Sp.is (.tuple #[.int .i64 r3,.bool o3])) (Sp.is_stable _ _) rfl (fun A w' hB hk=>?_) ?_;(simp at hk;have c_hA:=aA (hB.blk hA (by simp <;> omega));simp [go_sem,hk,c_hA];refine aF ?_;exact Gives.ty (H.out.2.2.1 _))
 repeat (first|(apply bQ (hg:=rfl);case h=>(intro A w' hB hk;simp at hk;have c_hA:=aA (hB.blk hA (by simp <;> omega));have c_hC:=aA (hB.blk hC (by simp <;> omega));first|(simp [go_sem,hk,c_hA,c_hC] <;> rfl)|(simp [go_sem,c_hA,c_hC];rfl)))|(refine aY _ ?_ (by first|exact .inl rfl|exact .inr rfl) (by rfl) (by simp [specOf,Kd.spec];rfl) ?_ rfl ?_;(exact Sp.is_stable _ _)))
 refine ⟨by first|rfl|decide,fun f w2 hB hF hAp=>?_⟩;simp [Final1,Sp.is,isVar] at hF;simp only [frameOf,Act.put,List.setIfInBounds_toArray,List.set_cons_succ,List.set_cons_zero,hF]
 have hR:=hB.blk hR (by simp)
 have hW:=Below.step_trans hW hB.below
 obtain ⟨⟨r0,ra,rb⟩,f0,f1,f2⟩:=dK hR
 have HR:=aH (aI hR hW)
 clear hB hAp hF hA hC hR hW
 by_cases hall:o1=true∧o2=true∧o3=true
 ·obtain ⟨rfl,rfl,rfl⟩:=hall
  obtain ⟨rn,rd,hl1,hl2⟩:=H.out.2.2.2.2.1 rfl rfl rfl
  have HL:=aH (aI hl1 hl2)
  clear hl1 hl2 r0 ra rb f0 f1 f2
  go_wp2_with fail
  refine (H.out.2.2.2.1 _).mono ?_
  rintro e w5 ⟨rfl,b5⟩
  have B5:=aH b5
  clear b5
  go_wp2_with fail
  refine (HL.out.1 _).mono ?_
  rintro e w6 ⟨rfl,b6⟩
  have hb:=Below.step_trans B5.out b6
  obtain ⟨⟨r0,ra,rb⟩,f0,f1,f2⟩:=dK (aK hb HR.out.1)
  have B6:=aH (Below.step_trans HR.out.2 hb)
  clear b6 hb
  go_wp2
  refine bodyPost_ret (v := .tuple #[.agg #[.int .i64 rn,.int .i64 (rd-1),.pointer none],.bool o4]) (by simp [results,Tryz.results105,go_sem,r0,ra,rb]) rfl ⟨_,_,_,rfl,HL.out.2,?_⟩
  repeat (first|exact B6.out|(refine Below.setCell ?_ (by first|omega|(simp <;> omega)) _)|(refine Below.alloc ?_ (by first|omega|(simp <;> omega)) _)|(refine Below.drew ?_)|exact aB _ _)
 ·cases o1 <;> cases o2 <;> cases o3
  case neg.true.true.true=>exact absurd ⟨rfl,rfl,rfl⟩ hall
  all_goals
   clear hall
   go_wp2
   refine bodyPost_ret (v := .tuple #[.agg #[.int .i64 0,.int .i64 0,.pointer none],.bool false]) (by simp [results,Tryz.results105,go_sem,r0,ra,rb]) rfl ⟨_,_,_,rfl,fun h=>by (cases h),?_⟩
   repeat (first|exact HR.out.2|(refine Below.setCell ?_ (by first|omega|(simp <;> omega)) _)|(refine Below.alloc ?_ (by first|omega|(simp <;> omega)) _)|(refine Below.drew ?_)|exact aB _ _)
end
section
open Go.RowKit Pl
attribute [local simp] known specOf Kd.spec Sp.is isVar Oper.looksAt Op.operands Call.operands Act.eval
theorem xY (p q:Rat) (w:World) (hp:Sm p) (hq:Sm q):Calls Tryz.prog 105 #[kE p.num p.den,kE q.num q.den] w (gK w (p+q)):=by
 by_cases hd:p.den=q.den
 ·exact wU p q w hp hq hd
 ·exact uV p q w hp hq hd
set_option maxRecDepth 100000 in
set_option maxHeartbeats 8000000 in
theorem plus_nb (v v' : Value) (p q:Rat) (w:World) (h:Nb w v p) (h' : Nb w v' q) (hp:Lf 36 p) (hq:Lf 36 q):Calls Tryz.prog 44 #[v,v'] w (GivesNb w (p+q)):=by
 obtain ⟨n1,d1,a1,rfl⟩:=h.form
 obtain ⟨n2,d2,a2,rfl⟩:=h'.form
 obtain ⟨hk1,hk2,hk3,hb1⟩:=eB w (.cells #[.int .i64 n1,.int .i64 d1,.pointer a1] 63) (.cells #[.int .i64 n2,.int .i64 d2,.pointer a2] 63) (.cells #[.int .i64 0,.int .i64 0,.pointer none] 63)
 have H:=aH (aI (h.below hb1) (aI (h'.below hb1) (aI hp (aI hq (aI hb1 (aI hk1 (aI hk2 hk3)))))))
 by_cases hs:Sm p∧Sm q
 ·have e1:Value.agg #[.int .i64 n1,.int .i64 d1,.pointer a1]=kE p.num p.den:=by
   rcases h with ⟨_,e⟩|⟨hn,_⟩
   ·exact e
   ·exact absurd hs.1 hn
  have e2:Value.agg #[.int .i64 n2,.int .i64 d2,.pointer a2]=kE q.num q.den:=by
   rcases h' with ⟨_,e⟩|⟨hn,_⟩
   ·exact e
   ·exact absurd hs.2 hn
  have ha:∀ w',Calls Tryz.prog 104 #[.agg #[.int .i64 n1,.int .i64 d1,.pointer a1],.agg #[.int .i64 n2,.int .i64 d2,.pointer a2]] w' (Gives w' (.bool true)):=fun w'=>rE _ _ p q w' hs.1 hs.2 e1 e2
  have hc:∀ w',Calls Tryz.prog 105 #[.agg #[.int .i64 n1,.int .i64 d1,.pointer a1],.agg #[.int .i64 n2,.int .i64 d2,.pointer a2]] w' (gK w' (p+q)):=fun w'=>by
   rw [e1,e2]
   exact xY p q w' hs.1 hs.2
  have HS:=aH (aI ha hc)
  clear ha hc e1 e2 hs h h' hp hq hb1 hk1 hk2 hk3
  go_enter Tryz.func44,Tryz.ntmps44
  go_wp2_with fail
  refine (HS.out.1 _).mono ?_
  rintro e w2 ⟨rfl,b2⟩
  have B2:=aH (aI (Below.step_trans H.out.2.2.2.2.1 b2) (aI b2 (aI (aK b2 H.out.2.2.2.2.2.1) (aI (aK b2 H.out.2.2.2.2.2.2.1) (aK b2 H.out.2.2.2.2.2.2.2)))))
  obtain ⟨⟨u0,u1,u2⟩,_⟩:=dK (aK b2 H.out.2.2.2.2.2.1)
  obtain ⟨⟨u3,u4,u5⟩,_⟩:=dK (aK b2 H.out.2.2.2.2.2.2.1)
  clear b2
  go_wp2_with fail
  refine (HS.out.2 _).mono ?_
  rintro e w3 ⟨rn,rd,ok,rfl,hok,b3⟩
  have hA3:=aK b3 B2.out.2.2.1
  have hC3:=aK b3 B2.out.2.2.2.1
  have hR3:=aK b3 B2.out.2.2.2.2
  have B3:=aH (aI hok (aI (Below.step_trans B2.out.1 b3) (aI (Below.step_trans B2.out.2.1 b3) (aI hA3 (aI hC3 hR3)))))
  clear u0 u1 u2 u3 u4 u5 b3 hok hA3 hC3 hR3
  have hlt3:=lt_of_block B3.out.2.2.2.2.2
  cases ok
  ·go_wp2
   have hb4:Below w3.heap.size w3 (w3.alloc (.cells #[.int .i64 rn,.int .i64 rd,.pointer none] 63)):=(aB _ _).alloc (aR _) _
   have B4:=aH (aI (Below.step_trans B3.out.2.1 hb4) (aI (Below.step_trans B3.out.2.2.1 hb4) (aI (aK hb4 B3.out.2.2.2.1) (aI (aK hb4 B3.out.2.2.2.2.1) (aK hb4 B3.out.2.2.2.2.2)))))
   clear hb4
   generalize w3.alloc (.cells #[.int .i64 rn,.int .i64 rd,.pointer none] 63)=w4 at *
   have hA:=B4.out.2.2.1
   have hC:=B4.out.2.2.2.1
   have hR:=B4.out.2.2.2.2
   have t1:∀ w',Base [w.heap.size+1+1] w4 w'→Calls Tryz.prog 106 #[.agg #[.int .i64 n1,.int .i64 d1,.pointer a1]] w' (TyPost w' (eW p)):=fun w' hB =>
    GivesFr.ty (cF _ _ _ (Nb.ext (K:=Kn) (fun _=>rfl) (fun _=>rfl) (H.out.1.below B4.out.2.1) (hB.extT B4.out.2.2.2.2 (by simp [hotObj,Kn]))))
   have t2:∀ w',Base [w.heap.size+1+1] w4 w'→Calls Tryz.prog 106 #[.agg #[.int .i64 n2,.int .i64 d2,.pointer a2]] w' (TyPost w' (eW q)):=fun w' hB =>
    GivesFr.ty (cF _ _ _ (Nb.ext (K:=Kn) (fun _=>rfl) (fun _=>rfl) (H.out.2.1.below B4.out.2.1) (hB.extT B4.out.2.2.2.2 (by simp [hotObj,Kn]))))
   have t3:∀ w' x y,Fr w' x p→Fr w' y q→Calls Tryz.prog 107 #[x,y] w' (TyPost w' (eW (p+q))):=fun w' x y hx hy=>GivesFr.ty (uC x y p q w' hx hy H.out.2.2.1 H.out.2.2.2.1)
   have t4:∀ w' x,Fr w' x (p+q)→Calls Tryz.prog 58 #[x] w' (TyPost w' (iO (p+q))):=fun w' x hx=>GivesNb.ty (eM x _ w' hx)
   have T:=aH (aI t1 (aI t2 (aI t3 t4)))
   clear t1 t2 t3 t4
   refine wp_region_ty Kn [w.heap.size+1+1] (by kernel_rfl) (by kernel_rfl) ?_
   repeat (first|(apply bQ (hg:=rfl);case h=>(intro A w' hB hk;simp at hk;have c_hA:=aA (hB.blk hA (by simp <;> omega));have c_hC:=aA (hB.blk hC (by simp <;> omega));first|(simp [go_sem,hk,c_hA,c_hC] <;> rfl)|(simp [go_sem,c_hA,c_hC];rfl)))|(refine aY _ ?_ (by first|exact .inl rfl|exact .inr rfl) (by rfl) (by simp [specOf,Kd.spec];rfl) ?_ rfl ?_;(first|exact Sp.is_stable _ _|exact aM (fun _=>rfl) _|exact aV (fun _=>rfl) (fun _=>rfl) _)))
   refine aN (eW p) (aM (fun _=>rfl) _) rfl (fun A w' hB hk=>?_) ?_;(simp at hk;have c_hA:=aA (hB.blk hA (by simp <;> omega));simp [go_sem,hk,c_hA];refine aF ?_;exact T.out.1 _ hB)
   repeat (first|(apply bQ (hg:=rfl);case h=>(intro A w' hB hk;simp at hk;have c_hA:=aA (hB.blk hA (by simp <;> omega));have c_hC:=aA (hB.blk hC (by simp <;> omega));first|(simp [go_sem,hk,c_hA,c_hC] <;> rfl)|(simp [go_sem,c_hA,c_hC];rfl)))|(refine aY _ ?_ (by first|exact .inl rfl|exact .inr rfl) (by rfl) (by simp [specOf,Kd.spec];rfl) ?_ rfl ?_;(first|exact Sp.is_stable _ _|exact aM (fun _=>rfl) _|exact aV (fun _=>rfl) (fun _=>rfl) _)))
   refine aN (eW q) (aM (fun _=>rfl) _) rfl (fun A w' hB hk=>?_) ?_;(simp at hk;have c_hA:=aA (hB.blk hA (by simp <;> omega));simp [go_sem,hk,c_hA];refine aF ?_;exact T.out.2.1 _ hB)
   refine aN (eW (p+q)) (aM (fun _=>rfl) _) rfl (fun A w' hB hk=>?_) ?_;(simp at hk;have c_hA:=aA (hB.blk hA (by simp <;> omega));simp [go_sem,hk,c_hA];refine aF ?_;exact T.out.2.2.1 _ _ _ hk.1 hk.2)
   refine aN (iO (p+q)) (aV (fun _=>rfl) (fun _=>rfl) _) rfl (fun A w' hB hk=>?_) ?_;(simp at hk;have c_hA:=aA (hB.blk hA (by simp <;> omega));simp [go_sem,hk,c_hA];refine aF ?_;exact T.out.2.2.2 _ _ hk)
   refine gH (w.heap.size+1+1) (_) (coNb (p+q)) (dY (fun _=>rfl) (fun _=>rfl) _) rfl rfl (by simp) (by assumption) (by simp [hotObj,Ku,Kn]) (fun A w' hB hk h0=>?_) ?_;(simp at hk;have c_hA:=aA (hB.blk hA (by simp <;> omega));have c0:=aA h0;have f0:=bA h0;obtain ⟨k1,k2⟩:=hk;obtain ⟨y1,y2,y3,e1⟩:=(show Nb _ _ _ from k2).form;rw [e1] at k2;simp [go_sem,k1,e1,c0,f0];exact ⟨_,eA h0 _ _ _,_,_,_,rfl,k2⟩)
   refine ⟨by first|rfl|decide,fun f w2 hB hF hAp=>?_⟩;simp [Final1,Sp.is,isVar] at hF;simp only [frameOf]
   obtain ⟨o,⟨y1,y2,y3,rfl,k3⟩,ho⟩:=hF.1
   obtain ⟨⟨r0,r1,r2⟩,_⟩:=dK ho
   have K:=aH (aI k3 hB)
   clear k3 hB ho hA hC hR hAp hF
   go_wp2
   refine bodyPost_ret (v := .agg #[.int .i64 y1,.int .i64 y2,.pointer y3]) (by simp [results,Tryz.results44,go_sem,r0,r1,r2,Act.put]) rfl ⟨_,rfl,K.out.1,?_⟩
   exact Base.belowT K.out.2 B4.out.1 (by omega)
  ·obtain ⟨hsm,hv⟩:=B3.out.1 rfl
   obtain ⟨⟨g0,g1,g2⟩,f0,f1,f2⟩:=dK B3.out.2.2.2.2.2
   have HV:=aH (aI hsm hv)
   clear hsm hv
   have hpast:∀ (W:World) (o:Obj) (i:Nat),W.heap.size=w3.heap.size→(W.alloc o).cell? ⟨w.heap.size+1+1,i,none⟩=W.cell? ⟨w.heap.size+1+1,i,none⟩:=fun W o i h=>World.cell?_alloc_past _ _ _ (by show w.heap.size+1+1<W.heap.size;omega)
   have HP:=aH hpast
   clear hpast
   go_wp2
   refine bodyPost_ret (v := .agg #[.int .i64 rn,.int .i64 rd,.pointer none]) (by simp [results,Tryz.results44,go_sem,g0,g1,g2,HP.out]) rfl ⟨_,rfl,.inl HV.out,?_⟩
   repeat (first|exact B3.out.2.1|(refine Below.setCell ?_ (by first|omega|(simp <;> omega)) _)|(refine Below.alloc ?_ (by first|omega|(simp <;> omega)) _)|(refine Below.drew ?_)|exact aB _ _)
 ·have ha:∀ w',Below w.heap.size w w'→Calls Tryz.prog 104 #[.agg #[.int .i64 n1,.int .i64 d1,.pointer a1],.agg #[.int .i64 n2,.int .i64 d2,.pointer a2]] w' (Gives w' (.bool false)):=fun w' hb=>uD _ _ p q w' (h.below hb) (h'.below hb) hs
  have HS:=aH ha
  clear ha hs h h' hp hq hb1 hk1 hk2 hk3
  go_enter Tryz.func44,Tryz.ntmps44
  go_wp2_with fail
  refine (HS.out _ H.out.2.2.2.2.1).mono ?_
  rintro e w2 ⟨rfl,b2⟩
  have B2:=aH (aI (Below.step_trans H.out.2.2.2.2.1 b2) (aI b2 (aI (aK b2 H.out.2.2.2.2.2.1) (aI (aK b2 H.out.2.2.2.2.2.2.1) (aK b2 H.out.2.2.2.2.2.2.2)))))
  clear b2
  go_wp2
  have hA:=B2.out.2.2.1
  have hC:=B2.out.2.2.2.1
  have hR:=B2.out.2.2.2.2
  have t1:∀ w',Base [w.heap.size+1+1] w2 w'→Calls Tryz.prog 106 #[.agg #[.int .i64 n1,.int .i64 d1,.pointer a1]] w' (TyPost w' (eW p)):=fun w' hB =>
   GivesFr.ty (cF _ _ _ (Nb.ext (K:=Kn) (fun _=>rfl) (fun _=>rfl) (H.out.1.below B2.out.2.1) (hB.extT B2.out.2.2.2.2 (by simp [hotObj,Kn]))))
  have t2:∀ w',Base [w.heap.size+1+1] w2 w'→Calls Tryz.prog 106 #[.agg #[.int .i64 n2,.int .i64 d2,.pointer a2]] w' (TyPost w' (eW q)):=fun w' hB =>
   GivesFr.ty (cF _ _ _ (Nb.ext (K:=Kn) (fun _=>rfl) (fun _=>rfl) (H.out.2.1.below B2.out.2.1) (hB.extT B2.out.2.2.2.2 (by simp [hotObj,Kn]))))
  have t3:∀ w' x y,Fr w' x p→Fr w' y q→Calls Tryz.prog 107 #[x,y] w' (TyPost w' (eW (p+q))):=fun w' x y hx hy=>GivesFr.ty (uC x y p q w' hx hy H.out.2.2.1 H.out.2.2.2.1)
  have t4:∀ w' x,Fr w' x (p+q)→Calls Tryz.prog 58 #[x] w' (TyPost w' (iO (p+q))):=fun w' x hx=>GivesNb.ty (eM x _ w' hx)
  have T:=aH (aI t1 (aI t2 (aI t3 t4)))
  clear t1 t2 t3 t4
  refine wp_region_ty Kn [w.heap.size+1+1] (by kernel_rfl) (by kernel_rfl) ?_
  repeat (first|(apply bQ (hg:=rfl);case h=>(intro A w' hB hk;simp at hk;have c_hA:=aA (hB.blk hA (by simp <;> omega));have c_hC:=aA (hB.blk hC (by simp <;> omega));first|(simp [go_sem,hk,c_hA,c_hC] <;> rfl)|(simp [go_sem,c_hA,c_hC];rfl)))|(refine aY _ ?_ (by first|exact .inl rfl|exact .inr rfl) (by rfl) (by simp [specOf,Kd.spec];rfl) ?_ rfl ?_;(first|exact Sp.is_stable _ _|exact aM (fun _=>rfl) _|exact aV (fun _=>rfl) (fun _=>rfl) _)))
  refine aN (eW p) (aM (fun _=>rfl) _) rfl (fun A w' hB hk=>?_) ?_;(simp at hk;have c_hA:=aA (hB.blk hA (by simp <;> omega));simp [go_sem,hk,c_hA];refine aF ?_;exact T.out.1 _ hB)
  repeat (first|(apply bQ (hg:=rfl);case h=>(intro A w' hB hk;simp at hk;have c_hA:=aA (hB.blk hA (by simp <;> omega));have c_hC:=aA (hB.blk hC (by simp <;> omega));first|(simp [go_sem,hk,c_hA,c_hC] <;> rfl)|(simp [go_sem,c_hA,c_hC];rfl)))|(refine aY _ ?_ (by first|exact .inl rfl|exact .inr rfl) (by rfl) (by simp [specOf,Kd.spec];rfl) ?_ rfl ?_;(first|exact Sp.is_stable _ _|exact aM (fun _=>rfl) _|exact aV (fun _=>rfl) (fun _=>rfl) _)))
  refine aN (eW q) (aM (fun _=>rfl) _) rfl (fun A w' hB hk=>?_) ?_;(simp at hk;have c_hA:=aA (hB.blk hA (by simp <;> omega));simp [go_sem,hk,c_hA];refine aF ?_;exact T.out.2.1 _ hB)
  refine aN (eW (p+q)) (aM (fun _=>rfl) _) rfl (fun A w' hB hk=>?_) ?_;(simp at hk;have c_hA:=aA (hB.blk hA (by simp <;> omega));simp [go_sem,hk,c_hA];refine aF ?_;exact T.out.2.2.1 _ _ _ hk.1 hk.2)
  refine aN (iO (p+q)) (aV (fun _=>rfl) (fun _=>rfl) _) rfl (fun A w' hB hk=>?_) ?_;(simp at hk;have c_hA:=aA (hB.blk hA (by simp <;> omega));simp [go_sem,hk,c_hA];refine aF ?_;exact T.out.2.2.2 _ _ hk)
  refine gH (w.heap.size+1+1) (_) (coNb (p+q)) (dY (fun _=>rfl) (fun _=>rfl) _) rfl rfl (by simp) (by assumption) (by simp [hotObj,Ku,Kn]) (fun A w' hB hk h0=>?_) ?_;(simp at hk;have c_hA:=aA (hB.blk hA (by simp <;> omega));have c0:=aA h0;have f0:=bA h0;obtain ⟨k1,k2⟩:=hk;obtain ⟨y1,y2,y3,e1⟩:=(show Nb _ _ _ from k2).form;rw [e1] at k2;simp [go_sem,k1,e1,c0,f0];exact ⟨_,eA h0 _ _ _,_,_,_,rfl,k2⟩)
  refine ⟨by first|rfl|decide,fun f w2 hB hF hAp=>?_⟩;simp [Final1,Sp.is,isVar] at hF;simp only [frameOf]
  obtain ⟨o,⟨y1,y2,y3,rfl,k3⟩,ho⟩:=hF.1
  obtain ⟨⟨r0,r1,r2⟩,_⟩:=dK ho
  have K:=aH (aI k3 hB)
  clear k3 hB ho hA hC hR hAp hF
  go_wp2
  refine bodyPost_ret (v := .agg #[.int .i64 y1,.int .i64 y2,.pointer y3]) (by simp [results,Tryz.results44,go_sem,r0,r1,r2,Act.put]) rfl ⟨_,rfl,K.out.1,?_⟩
  exact Base.belowT K.out.2 B2.out.1 (by omega)
end
section
open Go.RowKit Pl
attribute [local simp] known specOf Kd.spec Sp.is isVar Oper.looksAt Op.operands Call.operands Act.eval
theorem sZ (n d:Int) (w:World) (h1:-9223372036854775807≤d) (h2:d≤9223372036854775807):Calls Tryz.prog 102 #[.int .i64 n,.int .i64 d] w (Gives w (.agg #[.int .i64 n,.int .i64 (d-1),.pointer none])):=by
 go_enter Tryz.func102,Tryz.ntmps102
 go_wp2
 refine bodyPost_ret (v := .agg #[.int .i64 n,.int .i64 (d-1),.pointer none]) (by simp [results,Tryz.results102,go_sem]) rfl ⟨rfl,?_⟩
 repeat (first|exact aB _ _|(refine Below.setCell ?_ (by first|omega|(simp <;> omega)) _)|(refine Below.alloc ?_ (by first|omega|(simp <;> omega)) _)|(refine Below.drew ?_)|exact aB _ _)
theorem mul_lr (p q:Rat):(p*q).num=(mkRat p.num q.den).num*(mkRat q.num p.den).num∧(p*q).den=(mkRat p.num q.den).den*(mkRat q.num p.den).den:=by
 by_cases hp:p=0
 ·subst hp
  rw [Rat.zero_mul,show (0:Rat).num=0 from rfl,Rat.zero_mkRat,show (0:Rat).den=1 from rfl,show (0:Rat).num=0 from rfl,Int.zero_mul]
  refine ⟨rfl,?_⟩
  rw [Rat.den_mkRat,if_neg (by omega),Nat.gcd_one_left]
 ·by_cases hq:q=0
  ·subst hq
   rw [Rat.mul_zero,show (0:Rat).num=0 from rfl,Rat.zero_mkRat,show (0:Rat).den=1 from rfl,show (0:Rat).num=0 from rfl,Int.mul_zero]
   refine ⟨rfl,?_⟩
   rw [Rat.den_mkRat,if_neg (by omega),Nat.gcd_one_left]
  ·have h1:(mkRat p.num q.den).num.natAbs≠0:=fun h=>by
    have:(mkRat p.num q.den)=0:=Rat.num_eq_zero.1 (by omega)
    rw [Rat.mkRat_eq_zero q.den_nz] at this
    exact hp (Rat.num_eq_zero.1 this)
   have h2:(mkRat q.num p.den).num.natAbs≠0:=fun h=>by
    have:(mkRat q.num p.den)=0:=Rat.num_eq_zero.1 (by omega)
    rw [Rat.mkRat_eq_zero p.den_nz] at this
    exact hq (Rat.num_eq_zero.1 this)
   have h3:=Parts.mul (Parts.self (mkRat p.num q.den)) (Parts.self (mkRat q.num p.den)) h1 h2
   refine ⟨?_,h3.2.2.symm⟩
   rw [h3.num_eq,← sg_sg,vY,vY]
theorem sm_lr {p q:Rat} (hp:Sm p) (hq:Sm q):Sm (mkRat p.num q.den):=by
 obtain ⟨h1,h2⟩:=cE p.num q.den_nz
 exact ⟨Nat.le_trans h1 hp.1,Nat.le_trans h2 hq.2⟩
set_option maxRecDepth 100000 in
set_option maxHeartbeats 8000000 in
theorem wV (p q:Rat) (w:World) (hp:Sm p) (hq:Sm q):Calls Tryz.prog 162 #[kE p.num p.den,kE q.num q.den] w (gK w (p*q)):=by
 obtain ⟨hmn,hmd⟩:=mul_lr p q
 have hL:=sm_lr hp hq
 have hR:=sm_lr hq hp
 have mp:=iF hp
 have mq:=iF hq
 have np:=iG hp
 have nq:=iG hq
 obtain ⟨l1,_⟩:=oS p.num q.den (by have:=np.1;omega) np.2 q.den_pos mq.2
 obtain ⟨l2,_⟩:=oS q.num p.den (by have:=nq.1;omega) nq.2 p.den_pos mp.2
 have mL:=iF hL
 have mR:=iF hR
 obtain ⟨r1,o1,c1,e1,x1⟩:=fV _ _ (iG hL) (iG hR)
 obtain ⟨r2,o2,c2,e2,x2⟩:=fV ((mkRat p.num q.den).den:Int) ((mkRat q.num p.den).den:Int) ⟨by omega,mL.2⟩ ⟨by omega,mR.2⟩
 have hout:(o1&&o2)=true→Sm (p*q)∧.agg #[.int .i64 r1,.int .i64 (r2-1),.pointer none]=kE (p*q).num (p*q).den:=fun h=>by
  rw [Bool.and_eq_true] at h
  obtain ⟨y1,z1⟩:=e1 h.1
  obtain ⟨y2,z2⟩:=e2 h.2
  have hn:(p*q).num=r1:=by rw [hmn,y1]
  have hd:(((p*q).den:Nat):Int)=r2:=by rw [hmd,y2];simp
  refine ⟨⟨?_,?_⟩,by rw [kE,hn,hd]⟩
  ·rw [hn,dM];obtain ⟨a,b⟩:=x1;omega
  ·rw [dM];obtain ⟨a,b⟩:=x2;omega
 unfold kE at l1 l2 ⊢
 obtain ⟨n,hn⟩:∃ n,n=p.num:=⟨_,rfl⟩
 obtain ⟨m,hm⟩:∃ m,m=q.num:=⟨_,rfl⟩
 obtain ⟨d,hd⟩:∃ d:Int,d=(p.den:Int):=⟨_,rfl⟩
 obtain ⟨k,hk⟩:∃ k:Int,k=(q.den:Int):=⟨_,rfl⟩
 obtain ⟨ln,hln⟩:∃ ln,ln=(mkRat p.num q.den).num:=⟨_,rfl⟩
 obtain ⟨ld,hld⟩:∃ ld:Int,ld=((mkRat p.num q.den).den:Int):=⟨_,rfl⟩
 obtain ⟨rn,hrn⟩:∃ rn,rn=(mkRat q.num p.den).num:=⟨_,rfl⟩
 obtain ⟨rd,hrd⟩:∃ rd:Int,rd=((mkRat q.num p.den).den:Int):=⟨_,rfl⟩
 rw [← hln,← hld] at l1
 rw [← hrn,← hrd] at l2
 rw [← hln,← hrn] at c1
 rw [← hld,← hrd] at c2
 rw [← hld] at mL
 rw [← hrd] at mR
 rw [← hn,← hk] at l1
 rw [← hm,← hd] at l2
 rw [← hd] at mp ⊢
 rw [← hk] at mq ⊢
 rw [← hn,← hm]
 have hden:∀ (a b:Int) (w' : World),1≤b→b≤9223372036854775807→Calls Tryz.prog 103 #[.agg #[.int .i64 a,.int .i64 (b-1),.pointer none]] w' (TyPost w' (Sp.is (.int .i64 b))):=fun a b w' h1 h2=>by
  have:=Gives.ty (mP a (b-1) none w' (by omega) (by omega))
  rwa [Int.sub_add_cancel] at this
 obtain ⟨hk1,hk2,hk3,hb1⟩:=eB w (.cells #[.int .i64 n,.int .i64 (d-1),.pointer none] 63) (.cells #[.int .i64 m,.int .i64 (k-1),.pointer none] 63) (.cells #[.int .i64 0,.int .i64 0,.pointer none] 63)
 have H:=aH (aI l1 (aI l2 (aI c1 (aI c2 (aI hout (aI hb1 (aI hk3 (aI hden (aI mp (aI mq (aI mL (aI mR x2))))))))))))
 have HK:=aH (aI hk1 hk2)
 clear hmn hmd hL hR hp hq mp mq np nq l1 l2 mL mR c1 e1 x1 c2 e2 x2 hout hden hk1 hk2 hk3 hb1 hn hm hd hk hln hld hrn hrd
 go_enter Tryz.func162,Tryz.ntmps162
 go_wp2
 generalize ((w.alloc (.cells #[.int .i64 n,.int .i64 (d-1),.pointer none] 63)).alloc (.cells #[.int .i64 m,.int .i64 (k-1),.pointer none] 63)).alloc (.cells #[.int .i64 0,.int .i64 0,.pointer none] 63)=w1 at *
 have hA:=HK.out.1
 have hC:=HK.out.2
 have hR:=H.out.2.2.2.2.2.2.1
 have hW:=H.out.2.2.2.2.2.1
 refine wp_region_ty Kn [] (by kernel_rfl) (by kernel_rfl) ?_
 repeat (first|(apply bQ (hg:=rfl);case h=>(intro A w' hB hk;simp at hk;have c_hA:=aA (hB.blk hA (by simp <;> omega));have c_hC:=aA (hB.blk hC (by simp <;> omega));first|(simp [go_sem,hk,c_hA,c_hC] <;> rfl)|(simp [go_sem,c_hA,c_hC];rfl)))|(refine aY _ ?_ (by first|exact .inl rfl|exact .inr rfl) (by rfl) (by simp [specOf,Kd.spec];rfl) ?_ rfl ?_;(exact Sp.is_stable _ _)))
 refine aN (Sp.is (.int .i64 k)) (Sp.is_stable _ _) rfl (fun A w' hB hk=>?_) ?_;(simp at hk;have c_hA:=aA (hB.blk hA (by simp <;> omega));simp [go_sem,hk,c_hA];refine aF ?_;exact H.out.2.2.2.2.2.2.2.1 _ _ _ H.out.2.2.2.2.2.2.2.2.2.1.1 H.out.2.2.2.2.2.2.2.2.2.1.2)
 refine aN (Sp.is (.agg #[.int .i64 ln,.int .i64 (ld-1),.pointer none])) (Sp.is_stable _ _) rfl (fun A w' hB hk=>?_) ?_;(simp at hk;have c_hA:=aA (hB.blk hA (by simp <;> omega));simp [go_sem,hk,c_hA];refine aF ?_;exact Gives.ty (H.out.1 _))
 repeat (first|(apply bQ (hg:=rfl);case h=>(intro A w' hB hk;simp at hk;have c_hA:=aA (hB.blk hA (by simp <;> omega));have c_hC:=aA (hB.blk hC (by simp <;> omega));first|(simp [go_sem,hk,c_hA,c_hC] <;> rfl)|(simp [go_sem,c_hA,c_hC];rfl)))|(refine aY _ ?_ (by first|exact .inl rfl|exact .inr rfl) (by rfl) (by simp [specOf,Kd.spec];rfl) ?_ rfl ?_;(exact Sp.is_stable _ _)))
 refine aN (Sp.is (.int .i64 d)) (Sp.is_stable _ _) rfl (fun A w' hB hk=>?_) ?_;(simp at hk;have c_hA:=aA (hB.blk hA (by simp <;> omega));simp [go_sem,hk,c_hA];refine aF ?_;exact H.out.2.2.2.2.2.2.2.1 _ _ _ H.out.2.2.2.2.2.2.2.2.1.1 H.out.2.2.2.2.2.2.2.2.1.2)
 refine aN (Sp.is (.agg #[.int .i64 rn,.int .i64 (rd-1),.pointer none])) (Sp.is_stable _ _) rfl (fun A w' hB hk=>?_) ?_;(simp at hk;have c_hA:=aA (hB.blk hA (by simp <;> omega));simp [go_sem,hk,c_hA];refine aF ?_;exact Gives.ty (H.out.2.1 _))
 (apply zZ (hg:=rfl) (hd:=rfl);(case h=>(intro A w';simp [go_sem];rfl));(case hc=>simp [hotObj,Ku,Kn]))
 (apply zZ (hg:=rfl) (hd:=rfl);(case h=>(intro A w';simp [go_sem];rfl));(case hc=>simp [hotObj,Ku,Kn]))
 refine aAa 6 ((.cells #[.int .i64 0,.int .i64 0,.pointer none] 63 (0,0))) (coIs (.cells #[.int .i64 ln,.int .i64 (ld-1),.pointer none] 63 (0,0))) (nV _ _) rfl rfl (by simp [Oper.looksAt,Op.operands]) (by simp) (fun A w' b hB hk hd h0=>?_) ?_;(simp at hk;simp [Act.eval] at hd;have c_hA:=aA (hB.blk hA (by simp <;> omega));have c0:=aA h0;have f0:=bA h0;simp [go_sem,hd,hk,c0,f0];exact ⟨_,eA h0 _ _ _,rfl⟩)
 refine aAa 7 ((.cells #[.int .i64 0,.int .i64 0,.pointer none] 63 (0,0))) (coIs (.cells #[.int .i64 rn,.int .i64 (rd-1),.pointer none] 63 (0,0))) (nV _ _) rfl rfl (by simp [Oper.looksAt,Op.operands]) (by simp) (fun A w' b hB hk hd h0=>?_) ?_;(simp at hk;simp [Act.eval] at hd;have c_hA:=aA (hB.blk hA (by simp <;> omega));have c0:=aA h0;have f0:=bA h0;simp [go_sem,hd,hk,c0,f0];exact ⟨_,eA h0 _ _ _,rfl⟩)
 refine ⟨by first|rfl|decide,fun f w2 hB hF hAp=>?_⟩;simp [Final1,Sp.is,isVar] at hF;simp only [frameOf]
 obtain ⟨b7,e7,l7,_,o7,rfl,ho7⟩:=hF.1
 obtain ⟨b6,e6,l6,_,o6,rfl,ho6⟩:=hF.2.1
 have hR:=hB.blk hR (by simp)
 have hW:=Below.step_trans hW hB.below
 obtain ⟨⟨g60,g61,g62⟩,_⟩:=dK ho6
 obtain ⟨⟨g70,g71,g72⟩,_⟩:=dK ho7
 have M:=aH (aI ho6 (aI ho7 (aI hR hW)))
 clear hB hAp hA hC hR hW ho6 ho7
 go_wp2_with fail
 refine (H.out.2.2.1 _).mono ?_
 rintro e w3 ⟨rfl,b3⟩
 have hA:=aK b3 M.out.1
 have hC:=aK b3 M.out.2.1
 have hR:=aK b3 M.out.2.2.1
 have hW:=Below.step_trans M.out.2.2.2 b3
 clear g60 g61 g62 g70 g71 g72 b3
 go_wp2
 refine wp_region_ty Kn [] (by kernel_rfl) (by kernel_rfl) ?_
 repeat (first|(apply bQ (hg:=rfl);case h=>(intro A w' hB hk;simp at hk;have c_hA:=aA (hB.blk hA (by simp <;> omega));have c_hC:=aA (hB.blk hC (by simp <;> omega));first|(simp [go_sem,hk,c_hA,c_hC] <;> rfl)|(simp [go_sem,c_hA,c_hC];rfl)))|(refine aY _ ?_ (by first|exact .inl rfl|exact .inr rfl) (by rfl) (by simp [specOf,Kd.spec];rfl) ?_ rfl ?_;(exact Sp.is_stable _ _)))
 refine aN (Sp.is (.int .i64 ld)) (Sp.is_stable _ _) rfl (fun A w' hB hk=>?_) ?_;(simp at hk;have c_hA:=aA (hB.blk hA (by simp <;> omega));simp [go_sem,hk,c_hA];refine aF ?_;exact H.out.2.2.2.2.2.2.2.1 _ _ _ H.out.2.2.2.2.2.2.2.2.2.2.1.1 H.out.2.2.2.2.2.2.2.2.2.2.1.2)
 repeat (first|(apply bQ (hg:=rfl);case h=>(intro A w' hB hk;simp at hk;have c_hA:=aA (hB.blk hA (by simp <;> omega));have c_hC:=aA (hB.blk hC (by simp <;> omega));first|(simp [go_sem,hk,c_hA,c_hC] <;> rfl)|(simp [go_sem,c_hA,c_hC];rfl)))|(refine aY _ ?_ (by first|exact .inl rfl|exact .inr rfl) (by rfl) (by simp [specOf,Kd.spec];rfl) ?_ rfl ?_;(exact Sp.is_stable _ _)))
 refine aN (Sp.is (.int .i64 rd)) (Sp.is_stable _ _) rfl (fun A w' hB hk=>?_) ?_;(simp at hk;have c_hA:=aA (hB.blk hA (by simp <;> omega));simp [go_sem,hk,c_hA];refine aF ?_;exact H.out.2.2.2.2.2.2.2.1 _ _ _ H.out.2.2.2.2.2.2.2.2.2.2.2.1.1 H.out.2.2.2.2.2.2.2.2.2.2.2.1.2)
 refine aN (Sp.is (.tuple #[.int .i64 r2,.bool o2])) (Sp.is_stable _ _) rfl (fun A w' hB hk=>?_) ?_;(simp at hk;have c_hA:=aA (hB.blk hA (by simp <;> omega));simp [go_sem,hk,c_hA];refine aF ?_;exact Gives.ty (H.out.2.2.2.1 _))
 repeat (first|(apply bQ (hg:=rfl);case h=>(intro A w' hB hk;simp at hk;have c_hA:=aA (hB.blk hA (by simp <;> omega));have c_hC:=aA (hB.blk hC (by simp <;> omega));first|(simp [go_sem,hk,c_hA,c_hC] <;> rfl)|(simp [go_sem,c_hA,c_hC];rfl)))|(refine aY _ ?_ (by first|exact .inl rfl|exact .inr rfl) (by rfl) (by simp [specOf,Kd.spec];rfl) ?_ rfl ?_;(exact Sp.is_stable _ _)))
 refine ⟨by first|rfl|decide,fun f w2 hB hF hAp=>?_⟩;simp [Final1,Sp.is,isVar] at hF;simp only [frameOf,Act.put,List.setIfInBounds_toArray,List.set_cons_succ,List.set_cons_zero,hF]
 have hR:=hB.blk hR (by simp)
 have hW:=Below.step_trans hW hB.below
 clear hB hAp hA hC hF
 go_wp2_with fail
 refine (sZ r1 r2 _ H.out.2.2.2.2.2.2.2.2.2.2.2.2.1 H.out.2.2.2.2.2.2.2.2.2.2.2.2.2).mono ?_
 rintro e w6 ⟨rfl,b6⟩
 obtain ⟨⟨r0,ra,rb⟩,f0,f1,f2⟩:=dK (aK b6 hR)
 have B6:=aH (Below.step_trans hW b6)
 clear b6 hR hW
 have hout:=H.out.2.2.2.2.1
 have HO:=aH hout
 clear hout
 cases o1 <;> cases o2
 all_goals
  go_wp2
  first
   | (refine bodyPost_ret (v := .tuple #[.agg #[.int .i64 r1,.int .i64 (r2-1),.pointer none],.bool true]) (by simp [results,Tryz.results162,go_sem,r0,ra,rb]) rfl ⟨_,_,_,rfl,fun _=>HO.out rfl,?_⟩
      repeat (first|exact B6.out|(refine Below.setCell ?_ (by first|omega|(simp <;> omega)) _)|(refine Below.alloc ?_ (by first|omega|(simp <;> omega)) _)|(refine Below.drew ?_)|exact aB _ _))
   | (refine bodyPost_ret (v := .tuple #[.agg #[.int .i64 r1,.int .i64 (r2-1),.pointer none],.bool false]) (by simp [results,Tryz.results162,go_sem,r0,ra,rb]) rfl ⟨_,_,_,rfl,fun h=>by (cases h),?_⟩
      repeat (first|exact B6.out|(refine Below.setCell ?_ (by first|omega|(simp <;> omega)) _)|(refine Below.alloc ?_ (by first|omega|(simp <;> omega)) _)|(refine Below.drew ?_)|exact aB _ _))
end
section
open Go.RowKit Pl
attribute [local simp] known specOf Kd.spec Sp.is isVar Oper.looksAt Op.operands Call.operands Act.eval
set_option maxRecDepth 100000 in
set_option maxHeartbeats 8000000 in
theorem times_nb (v v' : Value) (p q:Rat) (w:World) (h:Nb w v p) (h' : Nb w v' q) (hp:Lf 38 p) (hq:Lf 38 q):Calls Tryz.prog 100 #[v,v'] w (GivesNb w (p*q)):=by
 obtain ⟨n1,d1,a1,rfl⟩:=h.form
 obtain ⟨n2,d2,a2,rfl⟩:=h'.form
 obtain ⟨hk1,hk2,hk3,hb1⟩:=eB w (.cells #[.int .i64 n1,.int .i64 d1,.pointer a1] 63) (.cells #[.int .i64 n2,.int .i64 d2,.pointer a2] 63) (.cells #[.int .i64 0,.int .i64 0,.pointer none] 63)
 have H:=aH (aI (h.below hb1) (aI (h'.below hb1) (aI hp (aI hq (aI hb1 (aI hk1 (aI hk2 hk3)))))))
 by_cases hs:Sm p∧Sm q
 ·have e1:Value.agg #[.int .i64 n1,.int .i64 d1,.pointer a1]=kE p.num p.den:=by
   rcases h with ⟨_,e⟩|⟨hn,_⟩
   ·exact e
   ·exact absurd hs.1 hn
  have e2:Value.agg #[.int .i64 n2,.int .i64 d2,.pointer a2]=kE q.num q.den:=by
   rcases h' with ⟨_,e⟩|⟨hn,_⟩
   ·exact e
   ·exact absurd hs.2 hn
  have ha:∀ w',Calls Tryz.prog 104 #[.agg #[.int .i64 n1,.int .i64 d1,.pointer a1],.agg #[.int .i64 n2,.int .i64 d2,.pointer a2]] w' (Gives w' (.bool true)):=fun w'=>rE _ _ p q w' hs.1 hs.2 e1 e2
  have hc:∀ w',Calls Tryz.prog 162 #[.agg #[.int .i64 n1,.int .i64 d1,.pointer a1],.agg #[.int .i64 n2,.int .i64 d2,.pointer a2]] w' (gK w' (p*q)):=fun w'=>by
   rw [e1,e2]
   exact wV p q w' hs.1 hs.2
  have HS:=aH (aI ha hc)
  clear ha hc e1 e2 hs h h' hp hq hb1 hk1 hk2 hk3
  go_enter Tryz.func100,Tryz.ntmps100
  go_wp2_with fail
  refine (HS.out.1 _).mono ?_
  rintro e w2 ⟨rfl,b2⟩
  have B2:=aH (aI (Below.step_trans H.out.2.2.2.2.1 b2) (aI b2 (aI (aK b2 H.out.2.2.2.2.2.1) (aI (aK b2 H.out.2.2.2.2.2.2.1) (aK b2 H.out.2.2.2.2.2.2.2)))))
  obtain ⟨⟨u0,u1,u2⟩,_⟩:=dK (aK b2 H.out.2.2.2.2.2.1)
  obtain ⟨⟨u3,u4,u5⟩,_⟩:=dK (aK b2 H.out.2.2.2.2.2.2.1)
  clear b2
  go_wp2_with fail
  refine (HS.out.2 _).mono ?_
  rintro e w3 ⟨rn,rd,ok,rfl,hok,b3⟩
  have hA3:=aK b3 B2.out.2.2.1
  have hC3:=aK b3 B2.out.2.2.2.1
  have hR3:=aK b3 B2.out.2.2.2.2
  have B3:=aH (aI hok (aI (Below.step_trans B2.out.1 b3) (aI (Below.step_trans B2.out.2.1 b3) (aI hA3 (aI hC3 hR3)))))
  clear u0 u1 u2 u3 u4 u5 b3 hok hA3 hC3 hR3
  have hlt3:=lt_of_block B3.out.2.2.2.2.2
  cases ok
  ·go_wp2
   have hb4:Below w3.heap.size w3 (w3.alloc (.cells #[.int .i64 rn,.int .i64 rd,.pointer none] 63)):=(aB _ _).alloc (aR _) _
   have B4:=aH (aI (Below.step_trans B3.out.2.1 hb4) (aI (Below.step_trans B3.out.2.2.1 hb4) (aI (aK hb4 B3.out.2.2.2.1) (aI (aK hb4 B3.out.2.2.2.2.1) (aK hb4 B3.out.2.2.2.2.2)))))
   clear hb4
   generalize w3.alloc (.cells #[.int .i64 rn,.int .i64 rd,.pointer none] 63)=w4 at *
   have hA:=B4.out.2.2.1
   have hC:=B4.out.2.2.2.1
   have hR:=B4.out.2.2.2.2
   have t1:∀ w',Base [w.heap.size+1+1] w4 w'→Calls Tryz.prog 106 #[.agg #[.int .i64 n1,.int .i64 d1,.pointer a1]] w' (TyPost w' (eW p)):=fun w' hB =>
    GivesFr.ty (cF _ _ _ (Nb.ext (K:=Kn) (fun _=>rfl) (fun _=>rfl) (H.out.1.below B4.out.2.1) (hB.extT B4.out.2.2.2.2 (by simp [hotObj,Kn]))))
   have t2:∀ w',Base [w.heap.size+1+1] w4 w'→Calls Tryz.prog 106 #[.agg #[.int .i64 n2,.int .i64 d2,.pointer a2]] w' (TyPost w' (eW q)):=fun w' hB =>
    GivesFr.ty (cF _ _ _ (Nb.ext (K:=Kn) (fun _=>rfl) (fun _=>rfl) (H.out.2.1.below B4.out.2.1) (hB.extT B4.out.2.2.2.2 (by simp [hotObj,Kn]))))
   have t3:∀ w' x y,Fr w' x p→Fr w' y q→Calls Tryz.prog 163 #[x,y] w' (TyPost w' (eW (p*q))):=fun w' x y hx hy=>GivesFr.ty (rD x y p q w' hx hy H.out.2.2.1 H.out.2.2.2.1)
   have t4:∀ w' x,Fr w' x (p*q)→Calls Tryz.prog 58 #[x] w' (TyPost w' (iO (p*q))):=fun w' x hx=>GivesNb.ty (eM x _ w' hx)
   have T:=aH (aI t1 (aI t2 (aI t3 t4)))
   clear t1 t2 t3 t4
   refine wp_region_ty Kn [w.heap.size+1+1] (by kernel_rfl) (by kernel_rfl) ?_
   repeat (first|(apply bQ (hg:=rfl);case h=>(intro A w' hB hk;simp at hk;have c_hA:=aA (hB.blk hA (by simp <;> omega));have c_hC:=aA (hB.blk hC (by simp <;> omega));first|(simp [go_sem,hk,c_hA,c_hC] <;> rfl)|(simp [go_sem,c_hA,c_hC];rfl)))|(refine aY _ ?_ (by first|exact .inl rfl|exact .inr rfl) (by rfl) (by simp [specOf,Kd.spec];rfl) ?_ rfl ?_;(first|exact Sp.is_stable _ _|exact aM (fun _=>rfl) _|exact aV (fun _=>rfl) (fun _=>rfl) _)))
   refine aN (eW p) (aM (fun _=>rfl) _) rfl (fun A w' hB hk=>?_) ?_;(simp at hk;have c_hA:=aA (hB.blk hA (by simp <;> omega));simp [go_sem,hk,c_hA];refine aF ?_;exact T.out.1 _ hB)
   repeat (first|(apply bQ (hg:=rfl);case h=>(intro A w' hB hk;simp at hk;have c_hA:=aA (hB.blk hA (by simp <;> omega));have c_hC:=aA (hB.blk hC (by simp <;> omega));first|(simp [go_sem,hk,c_hA,c_hC] <;> rfl)|(simp [go_sem,c_hA,c_hC];rfl)))|(refine aY _ ?_ (by first|exact .inl rfl|exact .inr rfl) (by rfl) (by simp [specOf,Kd.spec];rfl) ?_ rfl ?_;(first|exact Sp.is_stable _ _|exact aM (fun _=>rfl) _|exact aV (fun _=>rfl) (fun _=>rfl) _)))
   refine aN (eW q) (aM (fun _=>rfl) _) rfl (fun A w' hB hk=>?_) ?_;(simp at hk;have c_hA:=aA (hB.blk hA (by simp <;> omega));simp [go_sem,hk,c_hA];refine aF ?_;exact T.out.2.1 _ hB)
   refine aN (eW (p*q)) (aM (fun _=>rfl) _) rfl (fun A w' hB hk=>?_) ?_;(simp at hk;have c_hA:=aA (hB.blk hA (by simp <;> omega));simp [go_sem,hk,c_hA];refine aF ?_;exact T.out.2.2.1 _ _ _ hk.1 hk.2)
   refine aN (iO (p*q)) (aV (fun _=>rfl) (fun _=>rfl) _) rfl (fun A w' hB hk=>?_) ?_;(simp at hk;have c_hA:=aA (hB.blk hA (by simp <;> omega));simp [go_sem,hk,c_hA];refine aF ?_;exact T.out.2.2.2 _ _ hk)
   refine gH (w.heap.size+1+1) (_) (coNb (p*q)) (dY (fun _=>rfl) (fun _=>rfl) _) rfl rfl (by simp) (by assumption) (by simp [hotObj,Ku,Kn]) (fun A w' hB hk h0=>?_) ?_;(simp at hk;have c_hA:=aA (hB.blk hA (by simp <;> omega));have c0:=aA h0;have f0:=bA h0;obtain ⟨k1,k2⟩:=hk;obtain ⟨y1,y2,y3,e1⟩:=(show Nb _ _ _ from k2).form;rw [e1] at k2;simp [go_sem,k1,e1,c0,f0];exact ⟨_,eA h0 _ _ _,_,_,_,rfl,k2⟩)
   refine ⟨by first|rfl|decide,fun f w2 hB hF hAp=>?_⟩;simp [Final1,Sp.is,isVar] at hF;simp only [frameOf]
   obtain ⟨o,⟨y1,y2,y3,rfl,k3⟩,ho⟩:=hF.1
   obtain ⟨⟨r0,r1,r2⟩,_⟩:=dK ho
   have K:=aH (aI k3 hB)
   clear k3 hB ho hA hC hR hAp hF
   go_wp2
   refine bodyPost_ret (v := .agg #[.int .i64 y1,.int .i64 y2,.pointer y3]) (by simp [results,Tryz.results100,go_sem,r0,r1,r2,Act.put]) rfl ⟨_,rfl,K.out.1,?_⟩
   exact Base.belowT K.out.2 B4.out.1 (by omega)
  ·obtain ⟨hsm,hv⟩:=B3.out.1 rfl
   obtain ⟨⟨g0,g1,g2⟩,f0,f1,f2⟩:=dK B3.out.2.2.2.2.2
   have HV:=aH (aI hsm hv)
   clear hsm hv
   have hpast:∀ (W:World) (o:Obj) (i:Nat),W.heap.size=w3.heap.size→(W.alloc o).cell? ⟨w.heap.size+1+1,i,none⟩=W.cell? ⟨w.heap.size+1+1,i,none⟩:=fun W o i h=>World.cell?_alloc_past _ _ _ (by show w.heap.size+1+1<W.heap.size;omega)
   have HP:=aH hpast
   clear hpast
   go_wp2
   refine bodyPost_ret (v := .agg #[.int .i64 rn,.int .i64 rd,.pointer none]) (by simp [results,Tryz.results100,go_sem,g0,g1,g2,HP.out]) rfl ⟨_,rfl,.inl HV.out,?_⟩
   repeat (first|exact B3.out.2.1|(refine Below.setCell ?_ (by first|omega|(simp <;> omega)) _)|(refine Below.alloc ?_ (by first|omega|(simp <;> omega)) _)|(refine Below.drew ?_)|exact aB _ _)
 ·have ha:∀ w',Below w.heap.size w w'→Calls Tryz.prog 104 #[.agg #[.int .i64 n1,.int .i64 d1,.pointer a1],.agg #[.int .i64 n2,.int .i64 d2,.pointer a2]] w' (Gives w' (.bool false)):=fun w' hb=>uD _ _ p q w' (h.below hb) (h'.below hb) hs
  have HS:=aH ha
  clear ha hs h h' hp hq hb1 hk1 hk2 hk3
  go_enter Tryz.func100,Tryz.ntmps100
  go_wp2_with fail
  refine (HS.out _ H.out.2.2.2.2.1).mono ?_
  rintro e w2 ⟨rfl,b2⟩
  have B2:=aH (aI (Below.step_trans H.out.2.2.2.2.1 b2) (aI b2 (aI (aK b2 H.out.2.2.2.2.2.1) (aI (aK b2 H.out.2.2.2.2.2.2.1) (aK b2 H.out.2.2.2.2.2.2.2)))))
  clear b2
  go_wp2
  have hA:=B2.out.2.2.1
  have hC:=B2.out.2.2.2.1
  have hR:=B2.out.2.2.2.2
  have t1:∀ w',Base [w.heap.size+1+1] w2 w'→Calls Tryz.prog 106 #[.agg #[.int .i64 n1,.int .i64 d1,.pointer a1]] w' (TyPost w' (eW p)):=fun w' hB =>
   GivesFr.ty (cF _ _ _ (Nb.ext (K:=Kn) (fun _=>rfl) (fun _=>rfl) (H.out.1.below B2.out.2.1) (hB.extT B2.out.2.2.2.2 (by simp [hotObj,Kn]))))
  have t2:∀ w',Base [w.heap.size+1+1] w2 w'→Calls Tryz.prog 106 #[.agg #[.int .i64 n2,.int .i64 d2,.pointer a2]] w' (TyPost w' (eW q)):=fun w' hB =>
   GivesFr.ty (cF _ _ _ (Nb.ext (K:=Kn) (fun _=>rfl) (fun _=>rfl) (H.out.2.1.below B2.out.2.1) (hB.extT B2.out.2.2.2.2 (by simp [hotObj,Kn]))))
  have t3:∀ w' x y,Fr w' x p→Fr w' y q→Calls Tryz.prog 163 #[x,y] w' (TyPost w' (eW (p*q))):=fun w' x y hx hy=>GivesFr.ty (rD x y p q w' hx hy H.out.2.2.1 H.out.2.2.2.1)
  have t4:∀ w' x,Fr w' x (p*q)→Calls Tryz.prog 58 #[x] w' (TyPost w' (iO (p*q))):=fun w' x hx=>GivesNb.ty (eM x _ w' hx)
  have T:=aH (aI t1 (aI t2 (aI t3 t4)))
  clear t1 t2 t3 t4
  refine wp_region_ty Kn [w.heap.size+1+1] (by kernel_rfl) (by kernel_rfl) ?_
  repeat (first|(apply bQ (hg:=rfl);case h=>(intro A w' hB hk;simp at hk;have c_hA:=aA (hB.blk hA (by simp <;> omega));have c_hC:=aA (hB.blk hC (by simp <;> omega));first|(simp [go_sem,hk,c_hA,c_hC] <;> rfl)|(simp [go_sem,c_hA,c_hC];rfl)))|(refine aY _ ?_ (by first|exact .inl rfl|exact .inr rfl) (by rfl) (by simp [specOf,Kd.spec];rfl) ?_ rfl ?_;(first|exact Sp.is_stable _ _|exact aM (fun _=>rfl) _|exact aV (fun _=>rfl) (fun _=>rfl) _)))
  refine aN (eW p) (aM (fun _=>rfl) _) rfl (fun A w' hB hk=>?_) ?_;(simp at hk;have c_hA:=aA (hB.blk hA (by simp <;> omega));simp [go_sem,hk,c_hA];refine aF ?_;exact T.out.1 _ hB)
  repeat (first|(apply bQ (hg:=rfl);case h=>(intro A w' hB hk;simp at hk;have c_hA:=aA (hB.blk hA (by simp <;> omega));have c_hC:=aA (hB.blk hC (by simp <;> omega));first|(simp [go_sem,hk,c_hA,c_hC] <;> rfl)|(simp [go_sem,c_hA,c_hC];rfl)))|(refine aY _ ?_ (by first|exact .inl rfl|exact .inr rfl) (by rfl) (by simp [specOf,Kd.spec];rfl) ?_ rfl ?_;(first|exact Sp.is_stable _ _|exact aM (fun _=>rfl) _|exact aV (fun _=>rfl) (fun _=>rfl) _)))
  refine aN (eW q) (aM (fun _=>rfl) _) rfl (fun A w' hB hk=>?_) ?_;(simp at hk;have c_hA:=aA (hB.blk hA (by simp <;> omega));simp [go_sem,hk,c_hA];refine aF ?_;exact T.out.2.1 _ hB)
  refine aN (eW (p*q)) (aM (fun _=>rfl) _) rfl (fun A w' hB hk=>?_) ?_;(simp at hk;have c_hA:=aA (hB.blk hA (by simp <;> omega));simp [go_sem,hk,c_hA];refine aF ?_;exact T.out.2.2.1 _ _ _ hk.1 hk.2)
  refine aN (iO (p*q)) (aV (fun _=>rfl) (fun _=>rfl) _) rfl (fun A w' hB hk=>?_) ?_;(simp at hk;have c_hA:=aA (hB.blk hA (by simp <;> omega));simp [go_sem,hk,c_hA];refine aF ?_;exact T.out.2.2.2 _ _ hk)
  refine gH (w.heap.size+1+1) (_) (coNb (p*q)) (dY (fun _=>rfl) (fun _=>rfl) _) rfl rfl (by simp) (by assumption) (by simp [hotObj,Ku,Kn]) (fun A w' hB hk h0=>?_) ?_;(simp at hk;have c_hA:=aA (hB.blk hA (by simp <;> omega));have c0:=aA h0;have f0:=bA h0;obtain ⟨k1,k2⟩:=hk;obtain ⟨y1,y2,y3,e1⟩:=(show Nb _ _ _ from k2).form;rw [e1] at k2;simp [go_sem,k1,e1,c0,f0];exact ⟨_,eA h0 _ _ _,_,_,_,rfl,k2⟩)
  refine ⟨by first|rfl|decide,fun f w2 hB hF hAp=>?_⟩;simp [Final1,Sp.is,isVar] at hF;simp only [frameOf]
  obtain ⟨o,⟨y1,y2,y3,rfl,k3⟩,ho⟩:=hF.1
  obtain ⟨⟨r0,r1,r2⟩,_⟩:=dK ho
  have K:=aH (aI k3 hB)
  clear k3 hB ho hA hC hR hAp hF
  go_wp2
  refine bodyPost_ret (v := .agg #[.int .i64 y1,.int .i64 y2,.pointer y3]) (by simp [results,Tryz.results100,go_sem,r0,r1,r2,Act.put]) rfl ⟨_,rfl,K.out.1,?_⟩
  exact Base.belowT K.out.2 B2.out.1 (by omega)
end
section
open Go.RowKit Pl
attribute [local simp] known specOf Kd.spec Sp.is isVar Oper.looksAt Op.operands Call.operands Act.eval
set_option maxRecDepth 100000 in
set_option maxHeartbeats 8000000 in
theorem minus_nb (v v' : Value) (p q:Rat) (w:World) (h:Nb w v p) (h' : Nb w v' q) (hp:Lf 36 p) (hq:Lf 36 q):Calls Tryz.prog 111 #[v,v'] w (GivesNb w (p-q)):=by
 have hsub:p-q=p + -q:=Rat.sub_eq_add_neg p q
 rw [hsub]
 obtain ⟨n1,d1,a1,rfl⟩:=h.form
 obtain ⟨n2,d2,a2,rfl⟩:=h'.form
 obtain ⟨hk1,hk2,hk3,hb1⟩:=eB w (.cells #[.int .i64 n1,.int .i64 d1,.pointer a1] 63) (.cells #[.int .i64 n2,.int .i64 d2,.pointer a2] 63) (.cells #[.int .i64 0,.int .i64 0,.pointer none] 63)
 have H:=aH (aI (h.below hb1) (aI (h'.below hb1) (aI hp (aI hq.neg (aI hb1 (aI hk1 (aI hk2 hk3)))))))
 clear h h' hp hq hb1 hk1 hk2 hk3 hsub
 go_enter Tryz.func111,Tryz.ntmps111
 go_wp2
 generalize ((w.alloc (.cells #[.int .i64 n1,.int .i64 d1,.pointer a1] 63)).alloc (.cells #[.int .i64 n2,.int .i64 d2,.pointer a2] 63)).alloc (.cells #[.int .i64 0,.int .i64 0,.pointer none] 63)=w1 at *
 have hA:=H.out.2.2.2.2.2.1
 have hC:=H.out.2.2.2.2.2.2.1
 have hR:=H.out.2.2.2.2.2.2.2
 have t1:∀ w',Base [w.heap.size+1+1] w1 w'→Calls Tryz.prog 49 #[.agg #[.int .i64 n2,.int .i64 d2,.pointer a2]] w' (TyPost w' (iO (-q))):=fun w' hB =>
  GivesNb.ty (wT _ _ _ (Nb.ext (K:=Kn) (fun _=>rfl) (fun _=>rfl) H.out.2.1 (hB.extT hR (by simp [hotObj,Kn]))))
 have t2:∀ w' x,Base [w.heap.size+1+1] w1 w'→Nb w' x (-q)→Calls Tryz.prog 44 #[.agg #[.int .i64 n1,.int .i64 d1,.pointer a1],x] w' (TyPost w' (iO (p + -q))):=fun w' x hB hx =>
  GivesNb.ty (plus_nb _ _ _ _ _ (Nb.ext (K:=Kn) (fun _=>rfl) (fun _=>rfl) H.out.1 (hB.extT hR (by simp [hotObj,Kn]))) hx H.out.2.2.1 H.out.2.2.2.1)
 have T:=aH (aI t1 t2)
 clear t1 t2
 refine wp_region_ty Kn [w.heap.size+1+1] (by kernel_rfl) (by kernel_rfl) ?_
 repeat (first|(apply bQ (hg:=rfl);case h=>(intro A w' hB hk;simp at hk;have c_hA:=aA (hB.blk hA (by simp <;> omega));have c_hC:=aA (hB.blk hC (by simp <;> omega));first|(simp [go_sem,hk,c_hA,c_hC] <;> rfl)|(simp [go_sem,c_hA,c_hC];rfl)))|(refine aY _ ?_ (by first|exact .inl rfl|exact .inr rfl) (by rfl) (by simp [specOf,Kd.spec];rfl) ?_ rfl ?_;(first|exact Sp.is_stable _ _|exact aV (fun _=>rfl) (fun _=>rfl) _)))
 refine aN (iO (-q)) (aV (fun _=>rfl) (fun _=>rfl) _) rfl (fun A w' hB hk=>?_) ?_;(simp at hk;have c_hA:=aA (hB.blk hA (by simp <;> omega));simp [go_sem,hk,c_hA];refine aF ?_;exact T.out.1 _ hB)
 refine aN (iO (p + -q)) (aV (fun _=>rfl) (fun _=>rfl) _) rfl (fun A w' hB hk=>?_) ?_;(simp at hk;have c_hA:=aA (hB.blk hA (by simp <;> omega));simp [go_sem,hk,c_hA];refine aF ?_;exact T.out.2 _ _ hB hk.2)
 refine gH (w.heap.size+1+1) (_) (coNb (p + -q)) (dY (fun _=>rfl) (fun _=>rfl) _) rfl rfl (by simp) (by assumption) (by simp [hotObj,Ku,Kn]) (fun A w' hB hk h0=>?_) ?_;(simp at hk;have c_hA:=aA (hB.blk hA (by simp <;> omega));have c0:=aA h0;have f0:=bA h0;obtain ⟨k1,k2⟩:=hk;obtain ⟨y1,y2,y3,e1⟩:=(show Nb _ _ _ from k2).form;rw [e1] at k2;simp [go_sem,k1,e1,c0,f0];exact ⟨_,eA h0 _ _ _,_,_,_,rfl,k2⟩)
 refine ⟨by first|rfl|decide,fun f w2 hB hF hAp=>?_⟩;simp [Final1,Sp.is,isVar] at hF;simp only [frameOf]
 obtain ⟨o,⟨y1,y2,y3,rfl,k3⟩,ho⟩:=hF.1
 obtain ⟨⟨r0,r1,r2⟩,_⟩:=dK ho
 have K:=aH (aI k3 hB)
 clear k3 hB ho hA hC hR hAp hF
 go_wp2
 refine bodyPost_ret (v := .agg #[.int .i64 y1,.int .i64 y2,.pointer y3]) (by simp [results,Tryz.results111,go_sem,r0,r1,r2,Act.put]) rfl ⟨_,rfl,K.out.1,?_⟩
 exact Base.belowT K.out.2 H.out.2.2.2.2.1 (by omega)
end
section
open Go.RowKit Pl
attribute [local simp] known specOf Kd.spec Sp.is isVar Oper.looksAt Op.operands Call.operands Act.eval
theorem inv_form {q:Rat} (h0:q≠0):(q⁻¹).num=sg (decide (q.num<0)) q.den∧(q⁻¹).den=q.num.natAbs:=by
 have h:=Parts.inv (Parts.self q) h0
 exact ⟨h.num_eq,h.2.2.symm⟩
theorem sm_inv {q:Rat} (h:Sm q) (h0:q≠0):Sm q⁻¹:=by
 obtain ⟨e1,e2⟩:=inv_form h0
 refine ⟨?_,by rw [e2];exact h.1⟩
 rw [e1]
 cases decide (q.num<0)
 ·simpa [sg] using h.2
 ·simpa [sg] using h.2
set_option maxRecDepth 100000 in
set_option maxHeartbeats 8000000 in
theorem over_nb (v v' : Value) (p q:Rat) (w:World) (h:Nb w v p) (h' : Nb w v' q) (hp:Lf 38 p) (hq:Lf 38 q) (h0:q≠0):Calls Tryz.prog 42 #[v,v'] w (GivesNb w (p/q)):=by
 rw [Rat.div_def]
 obtain ⟨n1,d1,a1,rfl⟩:=h.form
 have hx:∀ w' x,Nb w' (.agg #[.int .i64 n1,.int .i64 d1,.pointer a1]) p→Nb w' x q⁻¹→Calls Tryz.prog 100 #[.agg #[.int .i64 n1,.int .i64 d1,.pointer a1],x] w' (TyPost w' (iO (p*q⁻¹))):=fun w' x y1 y2 =>
  GivesNb.ty (times_nb _ _ _ _ _ y1 y2 hp hq.inv)
 obtain ⟨f1,f2⟩:=inv_form h0
 have hsi:=fun hs=>sm_inv (q:=q) hs h0
 have hin:∀ v w',Fr w' v q→Calls Tryz.prog 101 #[v] w' (TyPost w' (eW q⁻¹)):=fun v w' hv=>GivesFr.ty (inverse_any v q w' hv h0)
 have hz:q.num≠0:=fun e=>h0 (Rat.num_eq_zero.1 e)
 generalize q⁻¹=r at *
 rcases h' with ⟨hs,rfl⟩|⟨hs,g,s1,s2,rfl,hk,g1,g2⟩
 ·have mn:=iG hs
  have md:=iF hs
  have hsr:=hsi hs
  unfold kE
  clear hsi hin hq h0
  obtain ⟨m,hm⟩:∃ m,m=q.num:=⟨_,rfl⟩
  obtain ⟨k,hk⟩:∃ k:Int,k=(q.den:Int):=⟨_,rfl⟩
  rw [← hm] at mn hz f1 f2 ⊢
  rw [← hk] at md ⊢
  have hf1:r.num=if m<0 then -k else k:=by
   rw [f1,hk]
   by_cases h:m<0 <;> simp [sg,h]
  obtain ⟨mn1,mn2⟩:=mn
  obtain ⟨md1,md2⟩:=md
  clear hm hk hs f1
  obtain ⟨hk1,hk2,hk3,hb1⟩:=eB w (.cells #[.int .i64 n1,.int .i64 d1,.pointer a1] 63) (.cells #[.int .i64 m,.int .i64 (k-1),.pointer none] 63) (.cells #[.int .i64 0,.int .i64 0,.pointer none] 63)
  have t1:∀ w',Calls Tryz.prog 103 #[.agg #[.int .i64 m,.int .i64 (k-1),.pointer none]] w' (TyPost w' (Sp.is (.int .i64 k))):=fun w'=>by
   have:=Gives.ty (mP m (k-1) none w' (by omega) (by omega))
   rwa [Int.sub_add_cancel] at this
  have k1:IntKind.i64.wrap (-k) = -k:=by rw [IntKind.wrap_i64];omega
  have k2:IntKind.i64.wrap (-m) = -m:=by rw [IntKind.wrap_i64];omega
  by_cases hneg:m<0
  ·rw [if_pos hneg] at hf1
   have t2:∀ w',Calls Tryz.prog 102 #[.int .i64 (-k),.int .i64 (-m)] w' (TyPost w' (iO r)):=fun w' =>
    (sZ (-k) (-m) w' (by omega) (by omega)).mono fun _ _ ⟨y1,y2⟩=>⟨_,y1,y2,.inl ⟨hsr,by
     have:((r.den:Nat):Int) = -m:=by rw [f2];omega
     rw [kE,hf1,this]⟩⟩
   have H:=aH (aI (h.below hb1) (aI hb1 (aI hk1 (aI hk2 hk3))))
   have T:=aH (aI t1 (aI t2 hx))
   clear t1 t2 hx h hb1 hk1 hk2 hk3 hf1 f2 hsr mn1 mn2 md1 md2 hz hp
   go_enter Tryz.func42,Tryz.ntmps42
   go_wp2
   generalize ((w.alloc (.cells #[.int .i64 n1,.int .i64 d1,.pointer a1] 63)).alloc (.cells #[.int .i64 m,.int .i64 (k-1),.pointer none] 63)).alloc (.cells #[.int .i64 0,.int .i64 0,.pointer none] 63)=w1 at *
   have hA:=H.out.2.2.1
   have hC:=H.out.2.2.2.1
   have hR:=H.out.2.2.2.2
   refine wp_region_ty Kn [w.heap.size+1+1] (by kernel_rfl) (by kernel_rfl) ?_
   repeat (first|(apply bQ (hg:=rfl);case h=>(intro A w' hB hk;simp at hk;have c_hA:=aA (hB.blk hA (by simp <;> omega));have c_hC:=aA (hB.blk hC (by simp <;> omega));first|(simp [go_sem,hk,c_hA,c_hC] <;> rfl)|(simp [go_sem,c_hA,c_hC];rfl)))|(refine aY _ ?_ (by first|exact .inl rfl|exact .inr rfl) (by rfl) (by simp [specOf,Kd.spec];rfl) ?_ rfl ?_;(first|exact Sp.is_stable _ _|exact aM (fun _=>rfl) _|exact aV (fun _=>rfl) (fun _=>rfl) _)))
   refine aN (Sp.is (.int .i64 k)) (Sp.is_stable _ _) rfl (fun A w' hB hk=>?_) ?_;(simp at hk;have c_hA:=aA (hB.blk hA (by simp <;> omega));simp [go_sem,hk,c_hA];refine aF ?_;exact T.out.1 _)
   repeat (first|(apply bQ (hg:=rfl);case h=>(intro A w' hB hk;simp at hk;have c_hA:=aA (hB.blk hA (by simp <;> omega));have c_hC:=aA (hB.blk hC (by simp <;> omega));first|(simp [go_sem,hk,c_hA,c_hC,k1,k2] <;> rfl)|(simp [go_sem,c_hA,c_hC,k1,k2];rfl)))|(refine aY _ ?_ (by first|exact .inl rfl|exact .inr rfl) (by rfl) (by simp [specOf,Kd.spec];rfl) ?_ rfl ?_;(first|exact Sp.is_stable _ _|exact aM (fun _=>rfl) _|exact aV (fun _=>rfl) (fun _=>rfl) _)))
   refine aN (iO r) (aV (fun _=>rfl) (fun _=>rfl) _) rfl (fun A w' hB hk=>?_) ?_;(simp at hk;have c_hA:=aA (hB.blk hA (by simp <;> omega));simp [go_sem,hk,c_hA];refine aF ?_;exact T.out.2.1 _)
   refine aN (iO (p*r)) (aV (fun _=>rfl) (fun _=>rfl) _) rfl (fun A w' hB hk=>?_) ?_;(simp at hk;have c_hA:=aA (hB.blk hA (by simp <;> omega));simp [go_sem,hk,c_hA];refine aF ?_;exact T.out.2.2 _ _ (Nb.ext (K:=Kn) (fun _=>rfl) (fun _=>rfl) H.out.1 (hB.extT hR (by simp [hotObj,Kn]))) hk.2)
   refine gH (w.heap.size+1+1) (_) (coNb (p*r)) (dY (fun _=>rfl) (fun _=>rfl) _) rfl rfl (by simp) (by assumption) (by simp [hotObj,Ku,Kn]) (fun A w' hB hk h0=>?_) ?_;(simp at hk;have c_hA:=aA (hB.blk hA (by simp <;> omega));have c0:=aA h0;have f0:=bA h0;obtain ⟨k1,k2⟩:=hk;obtain ⟨y1,y2,y3,e1⟩:=(show Nb _ _ _ from k2).form;rw [e1] at k2;simp [go_sem,k1,e1,c0,f0];exact ⟨_,eA h0 _ _ _,_,_,_,rfl,k2⟩)
   refine ⟨by first|rfl|decide,fun f w2 hB hF hAp=>?_⟩;simp [Final1,Sp.is,isVar] at hF;simp only [frameOf]
   obtain ⟨o,⟨y1,y2,y3,rfl,k3⟩,ho⟩:=hF.1
   obtain ⟨⟨r0,r1,r2⟩,_⟩:=dK ho
   have K:=aH (aI k3 hB)
   clear k3 hB ho hA hC hR hAp hF
   go_wp2
   refine bodyPost_ret (v := .agg #[.int .i64 y1,.int .i64 y2,.pointer y3]) (by simp [results,Tryz.results42,go_sem,r0,r1,r2,Act.put]) rfl ⟨_,rfl,K.out.1,?_⟩
   exact Base.belowT K.out.2 H.out.2.1 (by omega)
  ·rw [if_neg hneg] at hf1
   have t2:∀ w',Calls Tryz.prog 102 #[.int .i64 k,.int .i64 m] w' (TyPost w' (iO r)):=fun w' =>
    (sZ k m w' (by omega) (by omega)).mono fun _ _ ⟨y1,y2⟩=>⟨_,y1,y2,.inl ⟨hsr,by
     have:((r.den:Nat):Int)=m:=by rw [f2];omega
     rw [kE,hf1,this]⟩⟩
   have H:=aH (aI (h.below hb1) (aI hb1 (aI hk1 (aI hk2 hk3))))
   have T:=aH (aI t1 (aI t2 hx))
   clear t1 t2 hx h hb1 hk1 hk2 hk3 hf1 f2 hsr mn1 mn2 md1 md2 hz hp
   go_enter Tryz.func42,Tryz.ntmps42
   go_wp2
   generalize ((w.alloc (.cells #[.int .i64 n1,.int .i64 d1,.pointer a1] 63)).alloc (.cells #[.int .i64 m,.int .i64 (k-1),.pointer none] 63)).alloc (.cells #[.int .i64 0,.int .i64 0,.pointer none] 63)=w1 at *
   have hA:=H.out.2.2.1
   have hC:=H.out.2.2.2.1
   have hR:=H.out.2.2.2.2
   refine wp_region_ty Kn [w.heap.size+1+1] (by kernel_rfl) (by kernel_rfl) ?_
   repeat (first|(apply bQ (hg:=rfl);case h=>(intro A w' hB hk;simp at hk;have c_hA:=aA (hB.blk hA (by simp <;> omega));have c_hC:=aA (hB.blk hC (by simp <;> omega));first|(simp [go_sem,hk,c_hA,c_hC] <;> rfl)|(simp [go_sem,c_hA,c_hC];rfl)))|(refine aY _ ?_ (by first|exact .inl rfl|exact .inr rfl) (by rfl) (by simp [specOf,Kd.spec];rfl) ?_ rfl ?_;(first|exact Sp.is_stable _ _|exact aM (fun _=>rfl) _|exact aV (fun _=>rfl) (fun _=>rfl) _)))
   refine aN (Sp.is (.int .i64 k)) (Sp.is_stable _ _) rfl (fun A w' hB hk=>?_) ?_;(simp at hk;have c_hA:=aA (hB.blk hA (by simp <;> omega));simp [go_sem,hk,c_hA];refine aF ?_;exact T.out.1 _)
   repeat (first|(apply bQ (hg:=rfl);case h=>(intro A w' hB hk;simp at hk;have c_hA:=aA (hB.blk hA (by simp <;> omega));have c_hC:=aA (hB.blk hC (by simp <;> omega));first|(simp [go_sem,hk,c_hA,c_hC,k1,k2] <;> rfl)|(simp [go_sem,c_hA,c_hC,k1,k2];rfl)))|(refine aY _ ?_ (by first|exact .inl rfl|exact .inr rfl) (by rfl) (by simp [specOf,Kd.spec];rfl) ?_ rfl ?_;(first|exact Sp.is_stable _ _|exact aM (fun _=>rfl) _|exact aV (fun _=>rfl) (fun _=>rfl) _)))
   refine aN (iO r) (aV (fun _=>rfl) (fun _=>rfl) _) rfl (fun A w' hB hk=>?_) ?_;(simp at hk;have c_hA:=aA (hB.blk hA (by simp <;> omega));simp [go_sem,hk,c_hA];refine aF ?_;exact T.out.2.1 _)
   refine aN (iO (p*r)) (aV (fun _=>rfl) (fun _=>rfl) _) rfl (fun A w' hB hk=>?_) ?_;(simp at hk;have c_hA:=aA (hB.blk hA (by simp <;> omega));simp [go_sem,hk,c_hA];refine aF ?_;exact T.out.2.2 _ _ (Nb.ext (K:=Kn) (fun _=>rfl) (fun _=>rfl) H.out.1 (hB.extT hR (by simp [hotObj,Kn]))) hk.2)
   refine gH (w.heap.size+1+1) (_) (coNb (p*r)) (dY (fun _=>rfl) (fun _=>rfl) _) rfl rfl (by simp) (by assumption) (by simp [hotObj,Ku,Kn]) (fun A w' hB hk h0=>?_) ?_;(simp at hk;have c_hA:=aA (hB.blk hA (by simp <;> omega));have c0:=aA h0;have f0:=bA h0;obtain ⟨k1,k2⟩:=hk;obtain ⟨y1,y2,y3,e1⟩:=(show Nb _ _ _ from k2).form;rw [e1] at k2;simp [go_sem,k1,e1,c0,f0];exact ⟨_,eA h0 _ _ _,_,_,_,rfl,k2⟩)
   refine ⟨by first|rfl|decide,fun f w2 hB hF hAp=>?_⟩;simp [Final1,Sp.is,isVar] at hF;simp only [frameOf]
   obtain ⟨o,⟨y1,y2,y3,rfl,k3⟩,ho⟩:=hF.1
   obtain ⟨⟨r0,r1,r2⟩,_⟩:=dK ho
   have K:=aH (aI k3 hB)
   clear k3 hB ho hA hC hR hAp hF
   go_wp2
   refine bodyPost_ret (v := .agg #[.int .i64 y1,.int .i64 y2,.pointer y3]) (by simp [results,Tryz.results42,go_sem,r0,r1,r2,Act.put]) rfl ⟨_,rfl,K.out.1,?_⟩
   exact Base.belowT K.out.2 H.out.2.1 (by omega)
 ·clear hz f1 f2 hsi h0 hq
  obtain ⟨A1,m1,c1,rfl⟩:=g1.form
  obtain ⟨A2,m2,c2,rfl⟩:=g2.form
  obtain ⟨neg,hneg⟩:∃ neg,decide (q.num<0)=neg:=⟨_,rfl⟩
  rw [hneg] at hk
  obtain ⟨hk1,hk2,hk3,hb1⟩:=eB w (.cells #[.int .i64 n1,.int .i64 d1,.pointer a1] 63) (.cells #[.int .i64 0,.int .i64 0,.pointer (some ⟨g,0,none⟩)] 63) (.cells #[.int .i64 0,.int .i64 0,.pointer none] 63)
  have hfr:Fr w (.agg #[.bool neg,.slice A1 m1 c1,.slice A2 m2 c2]) q:=⟨_,_,by rw [hneg],g1,g2⟩
  have hG1:=aK hb1 hk
  have H:=aH (aI (h.below hb1) (aI hb1 (aI hk1 (aI hk2 (aI hk3 (aI hG1 (hfr.below hb1)))))))
  have t1:∀ w' x,Fr w' x r→Calls Tryz.prog 58 #[x] w' (TyPost w' (iO r)):=fun w' x hx=>GivesNb.ty (eM x _ w' hx)
  have T:=aH (aI hin (aI t1 hx))
  have hlt:=lt_of_block hk
  clear t1 hin hx hk h hb1 hk1 hk2 hk3 hG1 hfr g1 g2 hneg hp hs
  go_enter Tryz.func42,Tryz.ntmps42
  go_wp2
  generalize ((w.alloc (.cells #[.int .i64 n1,.int .i64 d1,.pointer a1] 63)).alloc (.cells #[.int .i64 0,.int .i64 0,.pointer (some ⟨g,0,none⟩)] 63)).alloc (.cells #[.int .i64 0,.int .i64 0,.pointer none] 63)=w1 at *
  have hA:=H.out.2.2.1
  have hC:=H.out.2.2.2.1
  have hR:=H.out.2.2.2.2.1
  have hG:=H.out.2.2.2.2.2.1
  refine wp_region_ty Kn [w.heap.size+1+1] (by kernel_rfl) (by kernel_rfl) ?_
  repeat (first|(apply bQ (hg:=rfl);case h=>(intro A w' hB hk;simp at hk;have c_hA:=aA (hB.blk hA (by simp <;> omega));have c_hC:=aA (hB.blk hC (by simp <;> omega));have c_hG:=aA (hB.blk hG (by simp <;> omega));first|(simp [go_sem,hk,c_hA,c_hC,c_hG] <;> rfl)|(simp [go_sem,c_hA,c_hC,c_hG];rfl)))|(refine aY _ ?_ (by first|exact .inl rfl|exact .inr rfl) (by rfl) (by simp [specOf,Kd.spec];rfl) ?_ rfl ?_;(first|exact Sp.is_stable _ _|exact aM (fun _=>rfl) _|exact aV (fun _=>rfl) (fun _=>rfl) _)))
  refine aN (eW r) (aM (fun _=>rfl) _) rfl (fun A w' hB hk=>?_) ?_;(simp at hk;have c_hA:=aA (hB.blk hA (by simp <;> omega));simp [go_sem,hk,c_hA];refine aF ?_;exact T.out.1 _ _ (Fr.ext (K:=Kn) (fun _=>rfl) H.out.2.2.2.2.2.2 (hB.extT hR (by simp [hotObj,Kn]))))
  refine aN (iO r) (aV (fun _=>rfl) (fun _=>rfl) _) rfl (fun A w' hB hk=>?_) ?_;(simp at hk;have c_hA:=aA (hB.blk hA (by simp <;> omega));simp [go_sem,hk,c_hA];refine aF ?_;exact T.out.2.1 _ _ hk)
  refine aN (iO (p*r)) (aV (fun _=>rfl) (fun _=>rfl) _) rfl (fun A w' hB hk=>?_) ?_;(simp at hk;have c_hA:=aA (hB.blk hA (by simp <;> omega));simp [go_sem,hk,c_hA];refine aF ?_;exact T.out.2.2 _ _ (Nb.ext (K:=Kn) (fun _=>rfl) (fun _=>rfl) H.out.1 (hB.extT hR (by simp [hotObj,Kn]))) hk.2)
  refine gH (w.heap.size+1+1) (_) (coNb (p*r)) (dY (fun _=>rfl) (fun _=>rfl) _) rfl rfl (by simp) (by assumption) (by simp [hotObj,Ku,Kn]) (fun A w' hB hk h0=>?_) ?_;(simp at hk;have c_hA:=aA (hB.blk hA (by simp <;> omega));have c0:=aA h0;have f0:=bA h0;obtain ⟨k1,k2⟩:=hk;obtain ⟨y1,y2,y3,e1⟩:=(show Nb _ _ _ from k2).form;rw [e1] at k2;simp [go_sem,k1,e1,c0,f0];exact ⟨_,eA h0 _ _ _,_,_,_,rfl,k2⟩)
  refine ⟨by first|rfl|decide,fun f w2 hB hF hAp=>?_⟩;simp [Final1,Sp.is,isVar] at hF;simp only [frameOf]
  obtain ⟨o,⟨y1,y2,y3,rfl,k3⟩,ho⟩:=hF.1
  obtain ⟨⟨r0,r1,r2⟩,_⟩:=dK ho
  have K:=aH (aI k3 hB)
  clear k3 hB ho hA hC hR hAp hF
  go_wp2
  refine bodyPost_ret (v := .agg #[.int .i64 y1,.int .i64 y2,.pointer y3]) (by simp [results,Tryz.results42,go_sem,r0,r1,r2,Act.put]) rfl ⟨_,rfl,K.out.1,?_⟩
  exact Base.belowT K.out.2 H.out.2.1 (by omega)
end
section
open Go.RowKit Pl
set_option maxRecDepth 100000 in
theorem integer_any (z:Int) (w:World) (h1:-9223372036854775808≤z) (h2:z≤9223372036854775807):Calls Tryz.prog 71 #[.int .i64 z] w (GivesNb w (z:Rat)):=by
 have hb1:Below w.heap.size w (w.alloc (.cells #[.int .i64 0,.int .i64 0,.pointer none] 63)):=(aB _ _).alloc (aR _) _
 by_cases hz:z = -9223372036854775808
 ·subst hz
  have n1:∀ w',Calls Tryz.prog 129 #[.int .u64 9223372036854775808] w' (GivesNt w' 9223372036854775808):=fun w'=>bX 9223372036854775808 (by rw [aL];decide) w'
  have n2:∀ w',Calls Tryz.prog 129 #[.int .u64 1] w' (GivesNt w' 1):=fun w'=>bX 1 (by rw [aL];decide) w'
  obtain ⟨q,hq⟩:∃ q:Rat,q=((-9223372036854775808:Int):Rat):=⟨_,rfl⟩
  have hfr:∀ w' s1 s2,Nt w' s1 9223372036854775808→Nt w' s2 1→Fr w' (.agg #[.bool true,s1,s2]) q:=fun w' s1 s2 k1 k2=>by
   subst hq
   exact ⟨s1,s2,by rw [Rat.num_intCast];rfl,by rw [Rat.num_intCast];exact k1,by rw [Rat.den_intCast];exact k2⟩
  rw [← hq]
  clear hq
  have hk0:(w.alloc (.cells #[.int .i64 0,.int .i64 0,.pointer none] 63)).heap[w.heap.size]?=some (.cells #[.int .i64 0,.int .i64 0,.pointer none] 63):=heap_alloc_new w _
  have H:=aH (aI n1 (aI n2 (aI hfr (aI hb1 hk0))))
  clear n1 n2 hfr hb1 hk0
  go_enter Tryz.func71,Tryz.ntmps71
  go_wp2_with fail
  refine (H.out.1 _).mono ?_
  rintro e w2 ⟨v2,rfl,q2,b2⟩
  obtain ⟨A1,m1,c1,rfl⟩:=q2.form
  have Q2:=aH (aI q2 b2)
  clear q2 b2
  go_wp2_with fail
  refine (H.out.2.1 _).mono ?_
  rintro e w3 ⟨v3,rfl,q3,b3⟩
  obtain ⟨A2,m2,c2,rfl⟩:=q3.form
  have Q3:=aH (aI (H.out.2.2.1 _ _ _ (Q2.out.1.below b3) q3) (Below.step_trans Q2.out.2 b3))
  clear q3 b3 Q2
  go_wp2_with fail
  refine (eM _ _ _ Q3.out.1).mono ?_
  rintro e w4 ⟨v4,rfl,q4,b4⟩
  obtain ⟨n,d,p,rfl⟩:=q4.form
  have hb4:=Below.step_trans Q3.out.2 b4
  have hk:=aK hb4 H.out.2.2.2.2
  obtain ⟨⟨h0,h1,h2⟩,f0,f1,f2⟩:=dK hk
  have Q4:=aH (aI q4 (aI hb4 hk))
  clear q4 b4 hk hb4 Q3
  go_wp2
  refine bodyPost_ret (v := .agg #[.int .i64 n,.int .i64 d,.pointer p]) (by simp [results,Tryz.results71,go_sem,h0,h1,h2]) rfl ⟨_,rfl,?_,?_⟩
  ·exact Nb.ext (K:=Kn) (fun _=>rfl) (fun _=>rfl) Q4.out.1 (Ext.only (pN _ _ _ _ _) Q4.out.2.2 (by simp [hotObj,Kn]))
  ·repeat (first|exact (Below.step_trans H.out.2.2.2.1 Q4.out.2.1)|(refine Below.setCell ?_ (by first|omega|(simp <;> omega)) _)|(refine Below.alloc ?_ (by first|omega|(simp <;> omega)) _)|(refine Below.drew ?_)|exact aB _ _)
 ·have hnb:∀ w',Nb w' (.agg #[.int .i64 z,.int .i64 0,.pointer none]) (z:Rat):=fun w' => .inl ⟨⟨by rw [Rat.num_intCast,dM];omega,by rw [Rat.den_intCast,dM];omega⟩,by rw [kE,Rat.num_intCast,Rat.den_intCast];rfl⟩
  have H:=aH hnb
  clear hnb hb1
  go_enter Tryz.func71,Tryz.ntmps71
  go_wp2
  refine bodyPost_ret (v := .agg #[.int .i64 z,.int .i64 0,.pointer none]) (by simp [results,Tryz.results71,go_sem]) rfl ⟨_,rfl,H.out _,?_⟩
  repeat (first|exact aB _ _|(refine Below.setCell ?_ (by first|omega|(simp <;> omega)) _)|(refine Below.alloc ?_ (by first|omega|(simp <;> omega)) _)|(refine Below.drew ?_)|exact aB _ _)
attribute [local simp] known specOf Kd.spec Sp.is isVar Oper.looksAt Op.operands Call.operands Act.eval
end
section
open Go.RowKit Pl
attribute [local simp] known specOf Kd.spec Sp.is isVar Oper.looksAt Op.operands Call.operands Act.eval
end
section
open Go.RowKit Pl
theorem blk9 {w:World} {g:Nat} {a b c d e f h i j:Value} {t:TypeId} (hk:w.heap[g]?=some (.cells #[a,b,c,d,e,f,h,i,j] t (0,0))) :
 w.cell? ⟨g,0,none⟩=some a∧w.cell? ⟨g,1,none⟩=some b∧w.cell? ⟨g,2,none⟩=some c∧w.cell? ⟨g,3,none⟩=some d∧w.cell? ⟨g,4,none⟩=some e∧w.cell? ⟨g,5,none⟩=some f∧w.cell? ⟨g,6,none⟩=some h∧w.cell? ⟨g,7,none⟩=some i∧w.cell? ⟨g,8,none⟩=some j:=by
 have hc:=aA hk
 simp [hc]
def Vc (w:World) (v:Value) (a b c:Rat):Prop :=
 ∃ n1 d1 p1 n2 d2 p2 n3 d3 p3,v = .agg #[.int .i64 n1,.int .i64 d1,.pointer p1,.int .i64 n2,.int .i64 d2,.pointer p2,.int .i64 n3,.int .i64 d3,.pointer p3] ∧
   Nb w (.agg #[.int .i64 n1,.int .i64 d1,.pointer p1]) a∧Nb w (.agg #[.int .i64 n2,.int .i64 d2,.pointer p2]) b∧Nb w (.agg #[.int .i64 n3,.int .i64 d3,.pointer p3]) c
theorem Vc.below {w w' : World} {v:Value} {a b c:Rat} (h:Vc w v a b c) (hb:Below w.heap.size w w'):Vc w' v a b c:=by
 obtain ⟨n1,d1,p1,n2,d2,p2,n3,d3,p3,e,h1,h2,h3⟩:=h
 exact ⟨n1,d1,p1,n2,d2,p2,n3,d3,p3,e,h1.below hb,h2.below hb,h3.below hb⟩
theorem Vc.ext {K:Value→Bool} (hK:∀ x,K (.int .u64 x)=true) (hK2:∀ b,K (.bool b)=true) {w w' : World} {v:Value} {a b c:Rat} (h:Vc w v a b c) (hx:Ext K w w'):Vc w' v a b c:=by
 obtain ⟨n1,d1,p1,n2,d2,p2,n3,d3,p3,e,h1,h2,h3⟩:=h
 exact ⟨n1,d1,p1,n2,d2,p2,n3,d3,p3,e,h1.ext hK hK2 hx,h2.ext hK hK2 hx,h3.ext hK hK2 hx⟩
set_option maxRecDepth 100000 in
theorem isZero_vc (v:Value) (a b c:Rat) (w:World) (h:Vc w v a b c):Calls Tryz.prog 61 #[v] w (Gives w (.bool (decide (a=0)&&decide (b=0)&&decide (c=0)))):=by
 obtain ⟨n1,d1,p1,n2,d2,p2,n3,d3,p3,rfl,h1,h2,h3⟩:=h
 have hb1:Below w.heap.size w (w.alloc (.cells #[.int .i64 n1,.int .i64 d1,.pointer p1,.int .i64 n2,.int .i64 d2,.pointer p2,.int .i64 n3,.int .i64 d3,.pointer p3] 65)):=(aB _ _).alloc (aR _) _
 have hk1:=heap_alloc_new w (.cells #[.int .i64 n1,.int .i64 d1,.pointer p1,.int .i64 n2,.int .i64 d2,.pointer p2,.int .i64 n3,.int .i64 d3,.pointer p3] 65)
 have t1:=fun w' (hb:Below w.heap.size w w')=>oR _ _ w' (h1.below hb)
 have t2:=fun w' (hb:Below w.heap.size w w')=>oR _ _ w' (h2.below hb)
 have t3:=fun w' (hb:Below w.heap.size w w')=>oR _ _ w' (h3.below hb)
 clear h1 h2 h3
 generalize decide (a=0)=za at *
 generalize decide (b=0)=zb at *
 generalize decide (c=0)=zc at *
 have H:=aH (aI t1 (aI t2 t3))
 have B1:=aH (aI hb1 hk1)
 clear t1 t2 t3 hb1 hk1
 go_enter Tryz.func61,Tryz.ntmps61
 cases za
 ·skip
  go_wp2_with fail
  refine (H.out.1 _ B1.out.1).mono ?_
  rintro e w2 ⟨rfl,b2⟩
  have B2:=aH (aI (Below.step_trans B1.out.1 b2) (aK b2 B1.out.2))
  obtain ⟨x0,x1,x2,x3,x4,x5,x6,x7,x8⟩:=blk9 B2.out.2
  clear b2
  go_wp2
  go_ret
  exact ⟨rfl,B2.out.1⟩
 ·cases zb
  ·skip
   go_wp2_with fail
   refine (H.out.1 _ B1.out.1).mono ?_
   rintro e w2 ⟨rfl,b2⟩
   have B2:=aH (aI (Below.step_trans B1.out.1 b2) (aK b2 B1.out.2))
   obtain ⟨x0,x1,x2,x3,x4,x5,x6,x7,x8⟩:=blk9 B2.out.2
   clear b2
   go_wp2_with fail
   refine (H.out.2.1 _ B2.out.1).mono ?_
   rintro e w3 ⟨rfl,b2⟩
   have B3:=aH (aI (Below.step_trans B2.out.1 b2) (aK b2 B2.out.2))
   obtain ⟨x0,x1,x2,x3,x4,x5,x6,x7,x8⟩:=blk9 B3.out.2
   clear b2
   go_wp2
   go_ret
   exact ⟨rfl,B3.out.1⟩
  ·skip
   go_wp2_with fail
   refine (H.out.1 _ B1.out.1).mono ?_
   rintro e w2 ⟨rfl,b2⟩
   have B2:=aH (aI (Below.step_trans B1.out.1 b2) (aK b2 B1.out.2))
   obtain ⟨x0,x1,x2,x3,x4,x5,x6,x7,x8⟩:=blk9 B2.out.2
   clear b2
   go_wp2_with fail
   refine (H.out.2.1 _ B2.out.1).mono ?_
   rintro e w3 ⟨rfl,b2⟩
   have B3:=aH (aI (Below.step_trans B2.out.1 b2) (aK b2 B2.out.2))
   obtain ⟨x0,x1,x2,x3,x4,x5,x6,x7,x8⟩:=blk9 B3.out.2
   clear b2
   go_wp2_with fail
   refine (H.out.2.2 _ B3.out.1).mono ?_
   rintro e w4 ⟨rfl,b2⟩
   have B4:=aH (aI (Below.step_trans B3.out.1 b2) (aK b2 B3.out.2))
   obtain ⟨x0,x1,x2,x3,x4,x5,x6,x7,x8⟩:=blk9 B4.out.2
   clear b2
   go_wp2
   go_ret
   exact ⟨rfl,B4.out.1⟩
end
namespace Ab
open Go.RowKit
variable {Kc:Value→Bool}
def Seg.noPtr:Seg Kc→Bool
 | .ptr .. | .slc .. => false
 | _=>true
def FV.noPtr:FV Kc→Bool
 | .sc s=>s.noPtr
 | .ag l | .nsl _ _ l=>l.all Seg.noPtr
 | .clo _ a b=>(a.all fun c=>c.2.all Seg.noPtr)&&(b.all fun c=>c.2.all Seg.noPtr)
 | .un=>true
def AV.noPtr:AV Kc→Bool
 | .fv f=>f.noPtr
 | .tup l=>l.all FV.noPtr
theorem Seg.noPtr_holds {s:Seg Kc} (h:s.noPtr=true) {β γ:List Nat} {cs:List Value} {w:World} (hs:s.holds β cs w):s.holds γ cs w:=by
 cases s <;> first|exact hs|cases h
theorem holdsL.noPtr {β γ:List Nat} {w:World}:∀ {l:List (Seg Kc)} {cs:List Value},l.all Seg.noPtr=true→holdsL β l cs w→holdsL γ l cs w
 | [],_,_,h=>h
 | s::l,_,hn,⟨a,b,e,h1,h2⟩=>by
   rw [List.all_cons,Bool.and_eq_true] at hn
   exact ⟨a,b,e,Seg.noPtr_holds hn.1 h1,holdsL.noPtr hn.2 h2⟩
theorem holdsC.noPtr {β γ:List Nat} {w:World}:∀ {l:List (Bool×List (Seg Kc))} {vs:List Value},(l.all fun c=>c.2.all Seg.noPtr)=true→holdsC β l vs w→holdsC γ l vs w
 | [],_,_,h=>h
 | (b,m)::l,_,hn,⟨v,r,e,h1,h2⟩=>by
   rw [List.all_cons,Bool.and_eq_true] at hn
   refine ⟨v,r,e,?_,holdsC.noPtr hn.2 h2⟩
   cases b with
   | true=>obtain ⟨cs,e,h1⟩:=h1;exact ⟨cs,e,h1.noPtr hn.1⟩
   | false=>exact holdsL.noPtr hn.1 h1
theorem FV.noPtr_holds {f:FV Kc} (h:f.noPtr=true) {β γ:List Nat} {v:Value} {w:World} (hs:f.holds β v w):f.holds γ v w:=by
 cases f with
 | sc s=>exact Seg.noPtr_holds h hs
 | ag l=>obtain ⟨cs,e,hl⟩:=hs;exact ⟨cs,e,hl.noPtr h⟩
 | nsl n T l=>obtain ⟨g,cs,e,hg,hl⟩:=hs;exact ⟨g,cs,e,hg,hl.noPtr h⟩
 | clo F a b =>
   rw [FV.noPtr,Bool.and_eq_true] at h
   obtain ⟨xs,ys,e,h1,h2⟩:=hs
   exact ⟨xs,ys,e,h1.noPtr h.1,h2.noPtr h.2⟩
 | un=>trivial
theorem holdsF.noPtr {β γ:List Nat} {w:World}:∀ {l:List (FV Kc)} {vs:List Value},l.all FV.noPtr=true→holdsF β l vs w→holdsF γ l vs w
 | [],_,_,h=>h
 | f::l,_,hn,⟨v,r,e,h1,h2⟩=>by
   rw [List.all_cons,Bool.and_eq_true] at hn
   exact ⟨v,r,e,FV.noPtr_holds hn.1 h1,holdsF.noPtr hn.2 h2⟩
theorem AV.noPtr_holds {x:AV Kc} (h:x.noPtr=true) {β γ:List Nat} {v:Value} {w:World} (hs:x.holds β v w):x.holds γ v w:=by
 cases x with
 | fv f=>exact FV.noPtr_holds h hs
 | tup l=>obtain ⟨vs,e,hl⟩:=hs;exact ⟨vs,e,hl.noPtr h⟩
def Fits (P:Program) (f:FuncId) (args:List (AV Kc)) (x:AV Kc):Prop :=
 ∀ β w vs,holdsA β args vs w→Calls P f vs.toArray w fun e w' => ∃ v,e = .returned v∧Below w.heap.size w w'∧x.holds β v w'
section
variable {P:Program} {f:FuncId} {w00:World} {Out:Value→World→Prop}
structure Ok (P:Program) (f:FuncId) (w00:World) (Out:Value→World→Prop) (c:Cfg Kc):Prop where
 good:iB P f w00 Out c
theorem Ok.go (hm:P.follows .mixedOrders=true) (hK:KOk Kc) (n:Nat) {c:Cfg Kc} (h:Ok P f w00 Out (cI P n c)):Ok P f w00 Out c:=⟨good_run hm hK n h.good⟩
theorem Ok.call {c:Cfg Kc} (fn:FuncId) (args:List (AV Kc)) {x:AV Kc} (h:Fits P fn args x) (hf:c.callee P=some fn) (ha:c.args P=args) (hx:c.okT x=true) (hfn:∀ (args:Array Value) (w:World),(callFunc fn args).run P w = .ok (.enter fn args) w)
 (hg:Ok P f w00 Out (c.give x)):Ok P f w00 Out c :=
 ⟨oP fn x hf hx hfn (fun β w vs _ _ hv=>h β w vs (by rw [← ha];exact hv)) hg.good⟩
theorem Ok.op {c:Cfg Kc} (o:Oper) (x:AV Kc) (ho:c.op=some o) (hx:c.okT x=true)
 (h:∀ β ρ w,(c.canB=true→Below w00.heap.size w00 w)→Mem β c.mem w→(∀ y∈o.op.operands,(c.ev y).holds β (ρ y) w) →
  (∃ v w',(execOp ρ o).run P w = .ok (.value v) w'∧Below w.heap.size w w'∧x.holds β v w') ∨
  (∃ fn vs,(execOp ρ o).run P w = .ok (.enter fn vs) w∧Calls P fn vs w fun e w' => ∃ v,e = .returned v∧Below w.heap.size w w'∧x.holds β v w'))
 (hg:Ok P f w00 Out (c.give x)):Ok P f w00 Out c:=⟨good_op o x ho hx h hg.good⟩
def FitsW (P:Program) (I:World→Prop) (f:FuncId) (args:List (AV Kc)) (x:AV Kc):Prop :=
 ∀ β w vs,I w→holdsA β args vs w→Calls P f vs.toArray w fun e w' => ∃ v,e = .returned v∧Below w.heap.size w w'∧x.holds β v w'
theorem Ok.callW {I:World→Prop} {c:Cfg Kc} (hI:∀ w,Below w00.heap.size w00 w→I w) (fn:FuncId) (args:List (AV Kc)) {x:AV Kc} (h:FitsW P I fn args x) (hf:c.callee P=some fn) (ha:c.args P=args) (hx:c.okT x=true) (hro:c.canB=true) (hfn:∀ (args:Array Value) (w:World),(callFunc fn args).run P w = .ok (.enter fn args) w)
 (hg:Ok P f w00 Out (c.give x)):Ok P f w00 Out c :=
 ⟨oP fn x hf hx hfn (fun β w vs hB _ hv=>h β w vs (hI w (hB hro)) (by rw [← ha];exact hv)) hg.good⟩
theorem Ok.callS {c:Cfg Kc} (fn:FuncId) (k n:Nat) (T:TypeId) (l:List (Seg Kc)) {x:AV Kc} (h:Fits P fn [.fv (.nsl n T l)] x) (hf:c.callee P=some fn) (ha:c.args P = [.fv (.sc (.slc k 0 n n))]) (hx:c.okT x=true) (hm:c.mem[k]?=some (some (T,l))) (hfn:∀ (args:Array Value) (w:World),(callFunc fn args).run P w = .ok (.enter fn args) w)
 (hg:Ok P f w00 Out (c.give x)):Ok P f w00 Out c :=
 ⟨oP fn x hf hx hfn (fun β w vs _ hM hv=>by
  rw [ha] at hv
  obtain ⟨v,r,rfl,h1,h2⟩:=hv
  obtain ⟨g,hg,hv⟩:=vP h1
  obtain ⟨g',cs,hg',hh,hl⟩:=hM k T l hm
  rw [hg] at hg'
  injection hg' with hg'
  subst hg'
  exact h β w _ ⟨v,r,rfl,⟨g,cs,hv,hh,hl⟩,h2⟩) hg.good⟩
theorem fitsW_of {I:World→Prop} {fn:Func} {args:List (AV Kc)} {x:AV Kc} (hfn:P.funcs[f]?=some fn) (hb:fn.body.isSome=true) (hn:(args.length≤fn.ntmps:Bool)=true) (hx:x.noPtr=true) (ha:args.all AV.noPtr=true)
 (h:∀ w00,I w00→Ok P f w00 (fun v w=>x.holds [] v w) (.items [.code (fn.body.getD .skip)] { slots:=args++List.replicate (fn.ntmps-args.length) .un,blocks := [],ro:=0 })):FitsW P I f args x:=by
 intro β w vs hI hv
 have hv' : holdsA [] args vs w:=by
  have key:∀ {l:List (AV Kc)} {us:List Value},l.all AV.noPtr=true→holdsA β l us w→holdsA [] l us w:=fun {l}=>by
   induction l with
   | nil=>intro us _ h;exact h
   | cons y l ih =>
     rintro us hn ⟨v,r,e,h1,h2⟩
     rw [List.all_cons,Bool.and_eq_true] at hn
     exact ⟨v,r,e,AV.noPtr_holds hn.1 h1,ih hn.2 h2⟩
  exact key ha hv
 have hb2:fn.body=some (fn.body.getD .skip):=by
  cases hb2:fn.body with
  | none=>rw [hb2] at hb;cases hb
  | some c=>rfl
 refine (eZ (w00:=w) (Out:=fun v w=>x.holds [] v w) hfn hb2 args [] [] vs (fn.ntmps-args.length) (by simp at hn;omega) hv' rfl (by simp) (fun k T l hk=>by simp at hk) (by simp) (h w hI).good).mono ?_
 rintro e w' ⟨v,rfl,hb,ho⟩
 exact ⟨v,rfl,hb,AV.noPtr_holds hx ho⟩
theorem fitsS_of {fn:Func} {n:Nat} {T:TypeId} {l:List (Seg Kc)} {x:AV Kc} (hfn:P.funcs[f]?=some fn) (hb:fn.body.isSome=true) (hn:(1≤fn.ntmps:Bool)=true) (hx:x.noPtr=true) (hl:l.all Seg.noPtr=true)
 (h:∀ w00,Ok P f w00 (fun v w=>x.holds [] v w) (.items [.code (fn.body.getD .skip)] { slots := [.fv (.sc (.slc 0 0 n n))]++List.replicate (fn.ntmps-1) .un,blocks := [(T,l)],ro:=1 })):Fits P f [.fv (.nsl n T l)] x:=by
 rintro β w vs ⟨v,r,rfl,⟨g,cs,rfl,hg,hcs⟩,h2⟩
 rw [show r = [] from h2]
 have hb2:fn.body=some (fn.body.getD .skip):=by
  cases hb2:fn.body with
  | none=>rw [hb2] at hb;cases hb
  | some c=>rfl
 refine (eZ (w00:=w) (Out:=fun v w=>x.holds [] v w) hfn hb2 [.fv (.sc (.slc 0 0 n n))] [(T,l)] [g] [.slice (some ⟨g,0,none⟩) n n] (fn.ntmps-1) (by simp at hn;simp;omega) ⟨_,[],rfl,⟨g,rfl,rfl⟩,rfl⟩ rfl (by simp)
  (fun k T' l' hk=>?_) (by simp;exact lt_of_block hg) (h w).good).mono ?_
 ·match k,hk with
  | 0,hk =>
    simp at hk
    obtain ⟨rfl,rfl⟩:=hk
    exact ⟨g,cs,rfl,hg,hcs.noPtr hl⟩
 ·rintro e w' ⟨v,rfl,hb,ho⟩
  exact ⟨v,rfl,hb,AV.noPtr_holds hx ho⟩
theorem fits_of {fn:Func} {code:Code} {args:List (AV Kc)} {x:AV Kc} (hfn:P.funcs[f]?=some fn) (hb:fn.body=some code) (n:Nat) (hn:fn.ntmps=args.length+n) (hx:x.noPtr=true) (ha:args.all AV.noPtr=true)
 (h:∀ w00,iB P f w00 (fun v w=>x.holds [] v w) (.items [.code code] { slots:=args++List.replicate n .un,blocks := [],ro:=0 })):Fits P f args x:=by
 intro β w vs hv
 have hv' : holdsA [] args vs w:=by
  have key:∀ {l:List (AV Kc)} {us:List Value},l.all AV.noPtr=true→holdsA β l us w→holdsA [] l us w:=fun {l}=>by
   induction l with
   | nil=>intro us _ h;exact h
   | cons y l ih =>
     rintro us hn ⟨v,r,e,h1,h2⟩
     rw [List.all_cons,Bool.and_eq_true] at hn
     exact ⟨v,r,e,AV.noPtr_holds hn.1 h1,ih hn.2 h2⟩
  exact key ha hv
 refine (eZ (w00:=w) (Out:=fun v w=>x.holds [] v w) hfn hb args [] [] vs n hn hv' rfl (by simp) (fun k T l hk=>by simp at hk) (by simp) (h w)).mono ?_
 rintro e w' ⟨v,rfl,hb,ho⟩
 exact ⟨v,rfl,hb,AV.noPtr_holds hx ho⟩
abbrev nW (fn:Func) (args:List (AV Kc)):Cfg Kc := .items [.code (fn.body.getD .skip)] { slots:=args++List.replicate (fn.ntmps-args.length) .un,blocks := [],ro:=0 }
theorem fits_go {fn:Func} {args:List (AV Kc)} {x:AV Kc} (hfn:P.funcs[f]?=some fn) (hb:fn.body.isSome=true) (hn:(args.length≤fn.ntmps:Bool)=true) (hx:x.noPtr=true) (ha:args.all AV.noPtr=true)
 (h:∀ w00,Ok P f w00 (fun v w=>x.holds [] v w) (nW fn args)):Fits P f args x:=by
 refine fits_of hfn (code:=fn.body.getD .skip) ?_ (fn.ntmps-args.length) ?_ hx ha (fun w00=>(h w00).good)
 ·cases hb2:fn.body with
  | none=>rw [hb2] at hb;cases hb
  | some c=>rfl
 ·simp at hn
  omega
theorem Ok.ret {c:Cfg Kc} {fn:Func} {x:AV Kc} (hfn:P.funcs[f]?=some fn) (hx:x.noPtr=true) (hr:c.res P fn=some x):Ok P f w00 (fun v w=>x.holds [] v w) c :=
 ⟨vX hfn x hr (fun _ _ _ h=>AV.noPtr_holds hx h)⟩
end
abbrev jF{Kc:Value→Bool}(f:FuncId)(l:List (AV Kc))(x:AV Kc):Prop:=Fits Tryz.prog f l x
theorem nC:KOk Kn:=⟨fun _=>rfl,fun _ _ _=>rfl⟩
def csNb (q:Rat):CS Kn where
 size:=3
 cold:=true
 pred cs w:=Nb w (.agg cs.toArray) q
 stable cs w w' h hx:=Nb.ext (K:=Kn) (fun _=>rfl) (fun _=>rfl) h hx
 len cs w h:=by
  obtain ⟨n,d,p,e⟩:=Nb.form h
  injection e with e
  have:=congrArg Array.toList e
  simp at this
  rw [this];rfl
 one cs w h:=by
  obtain ⟨n,d,p,e⟩:=Nb.form h
  injection e with e
  have:=congrArg Array.toList e
  simp at this
  rw [this]
  intro c hc
  simp at hc
  rcases hc with rfl|rfl|rfl <;> rfl
 iscold _ cs w h:=by
  obtain ⟨n,d,p,e⟩:=Nb.form h
  injection e with e
  have:=congrArg Array.toList e
  simp at this
  rw [this]
  intro c hc
  simp at hc
  rcases hc with rfl|rfl|rfl <;> rfl
abbrev nb (q:Rat):Seg Kn := .sp (csNb q)
abbrev num (q:Rat):AV Kn := .fv (.ag [nb q])
abbrev vc (a b c:Rat):AV Kn := .fv (.ag [nb a,nb b,nb c])
theorem dH {β:List Nat} {v:Value} {w:World} {q:Rat}:(num q).holds β v w↔Nb w v q:=by
 constructor
 ·rintro ⟨cs,rfl,h⟩
  exact mF h
 ·intro h
  obtain ⟨n,d,p,rfl⟩:=Nb.form h
  exact ⟨[.int .i64 n,.int .i64 d,.pointer p],rfl,_,[],rfl,h,rfl⟩
theorem wW {β:List Nat} {v:Value} {w:World} {a b c:Rat}:(vc a b c).holds β v w↔Vc w v a b c:=by
 constructor
 ·rintro ⟨cs,rfl,x1,r1,rfl,h1,x2,r2,rfl,h2,x3,r3,rfl,h3,e⟩
  rw [show r3 = [] from e]
  obtain ⟨n1,d1,p1,e1⟩:=Nb.form h1
  obtain ⟨n2,d2,p2,e2⟩:=Nb.form h2
  obtain ⟨n3,d3,p3,e3⟩:=Nb.form h3
  injection e1 with e1
  injection e2 with e2
  injection e3 with e3
  have e1:=congrArg Array.toList e1
  have e2:=congrArg Array.toList e2
  have e3:=congrArg Array.toList e3
  simp at e1 e2 e3
  subst e1
  subst e2
  subst e3
  exact ⟨n1,d1,p1,n2,d2,p2,n3,d3,p3,rfl,h1,h2,h3⟩
 ·rintro ⟨n1,d1,p1,n2,d2,p2,n3,d3,p3,rfl,h1,h2,h3⟩
  exact ⟨[.int .i64 n1,.int .i64 d1,.pointer p1,.int .i64 n2,.int .i64 d2,.pointer p2,.int .i64 n3,.int .i64 d3,.pointer p3],rfl,
   [.int .i64 n1,.int .i64 d1,.pointer p1],_,rfl,h1,[.int .i64 n2,.int .i64 d2,.pointer p2],_,rfl,h2,[.int .i64 n3,.int .i64 d3,.pointer p3],[],rfl,h3,rfl⟩
theorem dL {β:List Nat} {w:World} {x:AV Kc} {vs:List Value} (h:holdsA β [x] vs w):∃ v,vs = [v]∧x.holds β v w:=by
 obtain ⟨v,r,rfl,h1,h2⟩:=h
 exact ⟨v,by rw [show r = [] from h2],h1⟩
theorem eF {β:List Nat} {w:World} {x y:AV Kc} {vs:List Value} (h:holdsA β [x,y] vs w):∃ v u,vs = [v,u]∧x.holds β v w∧y.holds β u w:=by
 obtain ⟨v,r,rfl,h1,h2⟩:=h
 obtain ⟨u,rfl,h3⟩:=dL h2
 exact ⟨v,u,rfl,h1,h3⟩
theorem fits_nb1 {P:Program} {f:FuncId} {p r:Rat} (h:∀ v w,Nb w v p→Calls P f #[v] w (GivesNb w r)):Fits P f [num p] (num r):=by
 intro β w vs hv
 obtain ⟨v,rfl,h1⟩:=dL hv
 exact (h v w (dH.1 h1)).mono fun e w' ⟨u,e,h1,h2⟩=>⟨u,e,h2,dH.2 h1⟩
theorem rF {P:Program} {f:FuncId} {p q r:Rat} (h:∀ v v' w,Nb w v p→Nb w v' q→Calls P f #[v,v'] w (GivesNb w r)):Fits P f [num p,num q] (num r):=by
 intro β w vs hv
 obtain ⟨v,u,rfl,h1,h2⟩:=eF hv
 exact (h v u w (dH.1 h1) (dH.1 h2)).mono fun e w' ⟨u,e,h1,h2⟩=>⟨u,e,h2,dH.2 h1⟩
theorem kgo {f:FuncId} {fn:Func} {args:List (AV Kn)} {x:AV Kn} (hfn:Tryz.prog.funcs[f]?=some fn) (hc:(fn.body.isSome,decide (args.length≤fn.ntmps),x.noPtr,args.all AV.noPtr)=(true,true,true,true))
 (h:∀ w00,Ok Tryz.prog f w00 (fun v w=>x.holds [] v w) (cI Tryz.prog 1000 (nW fn args))):jF f args x:=by
 simp only [Prod.mk.injEq] at hc
 exact fits_go hfn hc.1 hc.2.1 hc.2.2.1 hc.2.2.2 fun w00=>Ok.go (by kernel_rfl) nC 1000 (h w00)
theorem kgoW {I:World→Prop} {f:FuncId} {fn:Func} {args:List (AV Kn)} {x:AV Kn} (hfn:Tryz.prog.funcs[f]?=some fn) (hc:(fn.body.isSome,decide (args.length≤fn.ntmps),x.noPtr,args.all AV.noPtr)=(true,true,true,true))
 (h:∀ w00,I w00→Ok Tryz.prog f w00 (fun v w=>x.holds [] v w) (cI Tryz.prog 1000 (nW fn args))):FitsW Tryz.prog I f args x:=by
 simp only [Prod.mk.injEq] at hc
 exact fitsW_of hfn hc.1 hc.2.1 hc.2.2.1 hc.2.2.2 fun w00 hI=>Ok.go (by kernel_rfl) nC 1000 (h w00 hI)
theorem kgoS {f:FuncId} {fn:Func} {n:Nat} {T:TypeId} {l:List (Seg Kn)} {x:AV Kn} (hfn:Tryz.prog.funcs[f]?=some fn) (hc:(fn.body.isSome,decide (1≤fn.ntmps),x.noPtr,l.all Seg.noPtr)=(true,true,true,true))
 (h:∀ w00,Ok Tryz.prog f w00 (fun v w=>x.holds [] v w) (cI Tryz.prog 1000 (.items [.code (fn.body.getD .skip)] { slots := [.fv (.sc (.slc 0 0 n n))]++List.replicate (fn.ntmps-1) .un,blocks := [(T,l)],ro:=1 }))):jF f [.fv (.nsl n T l)] x:=by
 simp only [Prod.mk.injEq] at hc
 exact fitsS_of hfn hc.1 hc.2.1 hc.2.2.1 hc.2.2.2 fun w00=>Ok.go (by kernel_rfl) nC 1000 (h w00)
section
variable {f:FuncId} {w00:World} {Out:Value→World→Prop}
theorem eX {c:Cfg Kn} (fn:FuncId) (args:List (AV Kn)) {x:AV Kn} (h:jF fn args x) (hc:(c.callee Tryz.prog,c.args Tryz.prog,c.okT x)=(some fn,args,true)) (hfn:∀ (args:Array Value) (w:World),(callFunc fn args).run Tryz.prog w = .ok (.enter fn args) w)
 (hg:Ok Tryz.prog f w00 Out (cI Tryz.prog 1000 (c.give x))):Ok Tryz.prog f w00 Out c:=by
 simp only [Prod.mk.injEq] at hc
 exact Ok.call fn args h hc.1 hc.2.1 hc.2.2 hfn (Ok.go (by kernel_rfl) nC 1000 hg)
theorem kcallW {I:World→Prop} {c:Cfg Kn} (hI:∀ w,Below w00.heap.size w00 w→I w) (fn:FuncId) (args:List (AV Kn)) {x:AV Kn} (h:FitsW Tryz.prog I fn args x) (hc:(c.callee Tryz.prog,c.args Tryz.prog,c.okT x,c.canB)=(some fn,args,true,true)) (hfn:∀ (args:Array Value) (w:World),(callFunc fn args).run Tryz.prog w = .ok (.enter fn args) w)
 (hg:Ok Tryz.prog f w00 Out (cI Tryz.prog 1000 (c.give x))):Ok Tryz.prog f w00 Out c:=by
 simp only [Prod.mk.injEq] at hc
 exact Ok.callW hI fn args h hc.1 hc.2.1 hc.2.2.1 hc.2.2.2 hfn (Ok.go (by kernel_rfl) nC 1000 hg)
theorem kcallS {c:Cfg Kn} (fn:FuncId) (k n:Nat) (T:TypeId) (l:List (Seg Kn)) {x:AV Kn} (h:jF fn [.fv (.nsl n T l)] x) (hc:(c.callee Tryz.prog,c.args Tryz.prog,c.okT x,c.mem[k]?)=(some fn,[.fv (.sc (.slc k 0 n n))],true,some (some (T,l)))) (hfn:∀ (args:Array Value) (w:World),(callFunc fn args).run Tryz.prog w = .ok (.enter fn args) w)
 (hg:Ok Tryz.prog f w00 Out (cI Tryz.prog 1000 (c.give x))):Ok Tryz.prog f w00 Out c:=by
 simp only [Prod.mk.injEq] at hc
 exact Ok.callS fn k n T l h hc.1 hc.2.1 hc.2.2.1 hc.2.2.2 hfn (Ok.go (by kernel_rfl) nC 1000 hg)
theorem oZ {c:Cfg Kn} (op:Op) (x y:Operand) (X Y r:AV Kn) (hc:(c.op.map fun o=>o.op,c.okT r,c.ev x,c.ev y)=(some op,true,X,Y)) (hx:x∈op.operands) (hy:y∈op.operands)
 (h:∀ (ρ:Operand→Value) (o:Oper) (β:List Nat) (w:World),o.op=op→X.holds β (ρ x) w→Y.holds β (ρ y) w→∃ v,(execOp ρ o).run Tryz.prog w = .ok (.value v) w∧r.holds β v w)
 (hg:Ok Tryz.prog f w00 Out (cI Tryz.prog 1000 (c.give r))):Ok Tryz.prog f w00 Out c:=by
 simp only [Prod.mk.injEq] at hc
 obtain ⟨h1,h2,h3,h4⟩:=hc
 rw [Option.map_eq_some_iff] at h1
 obtain ⟨o,ho,ho2⟩:=h1
 refine Ok.op o r ho h2 (fun β ρ w _ _ hs => .inl ?_) (Ok.go (by kernel_rfl) nC 1000 hg)
 obtain ⟨v,e,hv⟩:=h ρ o β w ho2 (by rw [← h3];exact hs x (by rw [ho2];exact hx)) (by rw [← h4];exact hs y (by rw [ho2];exact hy))
 exact ⟨v,w,e,aB _ _,hv⟩
theorem kret {c:Cfg Kn} {fn:Func} {x:AV Kn} (hfn:Tryz.prog.funcs[f]?=some fn) (hc:(x.noPtr,c.res Tryz.prog fn)=(true,some x)):Ok Tryz.prog f w00 (fun v w=>x.holds [] v w) c:=by
 simp only [Prod.mk.injEq] at hc
 exact Ok.ret hfn hc.1 hc.2
end
theorem jK{f:FuncId}{w00:World}{Out:Value→World→Prop}{c:Cfg Kn}(op:Op)(x y:Operand)(X Y r:AV Kn)(h:∀(ρ:Operand→Value)(o:Oper)(β:List Nat)(w:World),o.op=op→X.holds β (ρ x) w→Y.holds β (ρ y) w→∃v,(execOp ρ o).run Tryz.prog w=.ok (.value v) w∧r.holds β v w)(hg:Ok Tryz.prog f w00 Out (cI Tryz.prog 1000 (c.give r)))(hc:(c.op.map fun o=>o.op,c.okT r,c.ev x,c.ev y)=(some op,true,X,Y):=by kernel_rfl)(hx:x∈op.operands:=by simp [Op.operands,Call.operands])(hy:y∈op.operands:=by simp [Op.operands,Call.operands]):Ok Tryz.prog f w00 Out c:=oZ op x y X Y r hc hx hy h hg
theorem jC{f:FuncId}{w00:World}{Out:Value→World→Prop}{c:Cfg Kn}(fn:FuncId)(args:List (AV Kn)){x:AV Kn}(h:jF fn args x)(hg:Ok Tryz.prog f w00 Out (cI Tryz.prog 1000 (c.give x)))(hc:(c.callee Tryz.prog,c.args Tryz.prog,c.okT x)=(some fn,args,true):=by kernel_rfl)(hfn:∀(args:Array Value)(w:World),(callFunc fn args).run Tryz.prog w=.ok (.enter fn args) w:=by intro _ _;kernel_rfl):Ok Tryz.prog f w00 Out c:=eX fn args h hc hfn hg
theorem jR{f:FuncId}{w00:World}{c:Cfg Kn}{fn:Func}{x:AV Kn}(hfn:Tryz.prog.funcs[f]?=some fn)(hc:(x.noPtr,c.res Tryz.prog fn)=(true,some x):=by kernel_rfl):Ok Tryz.prog f w00 (fun v w=>x.holds [] v w) c:=kret hfn hc
theorem jG{f:FuncId}{fn:Func}{args:List (AV Kn)}{x:AV Kn}(hfn:Tryz.prog.funcs[f]?=some fn)(h:∀w00,Ok Tryz.prog f w00 (fun v w=>x.holds [] v w) (cI Tryz.prog 1000 (nW fn args)))(hc:(fn.body.isSome,decide (args.length≤fn.ntmps),x.noPtr,args.all AV.noPtr)=(true,true,true,true):=by kernel_rfl):jF f args x:=kgo hfn hc h
theorem jW{f:FuncId}{w00:World}{Out:Value→World→Prop}{I:World→Prop}{c:Cfg Kn}(hI:∀w,Below w00.heap.size w00 w→I w)(fn:FuncId)(args:List (AV Kn)){x:AV Kn}(h:FitsW Tryz.prog I fn args x)(hg:Ok Tryz.prog f w00 Out (cI Tryz.prog 1000 (c.give x)))(hc:(c.callee Tryz.prog,c.args Tryz.prog,c.okT x,c.canB)=(some fn,args,true,true):=by kernel_rfl)(hfn:∀(args:Array Value)(w:World),(callFunc fn args).run Tryz.prog w=.ok (.enter fn args) w:=by intro _ _;kernel_rfl):Ok Tryz.prog f w00 Out c:=kcallW hI fn args h hc hfn hg
theorem rG {p q:Rat} (hp:Lf 36 p) (hq:Lf 36 q):jF 44 [num p,num q] (num (p+q)):=rF fun v v' w h h'=>plus_nb v v' p q w h h' hp hq
theorem nX {p q:Rat} (hp:Lf 36 p) (hq:Lf 36 q):jF 111 [num p,num q] (num (p-q)):=rF fun v v' w h h'=>minus_nb v v' p q w h h' hp hq
theorem eY {p q:Rat} (hp:Lf 38 p) (hq:Lf 38 q):jF 100 [num p,num q] (num (p*q)):=rF fun v v' w h h'=>times_nb v v' p q w h h' hp hq
theorem lK {p q:Rat} (hp:Lf 38 p) (hq:Lf 38 q) (h0:q≠0):jF 42 [num p,num q] (num (p/q)):=rF fun v v' w h h'=>over_nb v v' p q w h h' hp hq h0
theorem negatedF {p:Rat}:jF 49 [num p] (num (-p)):=fits_nb1 fun v w h=>wT v p w h
abbrev bl (b:Bool):AV Kn := .fv (.sc (.lit (.bool b)))
abbrev it (n:Int):AV Kn := .fv (.sc (.lit (.int .i64 n)))
theorem kG {p:Rat} {b:Bool} (h:decide (p=0)=b):jF 73 [num p] (bl b):=by
 intro β w vs hv
 obtain ⟨v,rfl,h1⟩:=dL hv
 refine (oR v p w (dH.1 h1)).mono fun e w' ⟨e1,h2⟩=>⟨_,e1,h2,?_⟩
 rw [h]
 exact ⟨rfl,rfl⟩
theorem signF {p:Rat}:jF 53 [num p] (it (lJ p)):=by
 intro β w vs hv
 obtain ⟨v,rfl,h1⟩:=dL hv
 exact (sign_nb v p w (dH.1 h1)).mono fun e w' ⟨e1,h2⟩=>⟨_,e1,h2,rfl,rfl⟩
theorem Lf.addn {n:Nat} {p q:Rat} (hp:Lf (n-2) p) (hq:Lf (n-2) q) (hn:2≤n):Lf n (p+q):=(Lf.add hp hq).mono (by omega)
theorem Lf.subn {n:Nat} {p q:Rat} (hp:Lf (n-2) p) (hq:Lf (n-2) q) (hn:2≤n):Lf n (p-q):=by
 rw [Rat.sub_eq_add_neg]
 exact Lf.addn hp hq.neg hn
theorem Lf.muln {n:Nat} {p q:Rat} (hp:Lf (n-1) p) (hq:Lf (n-1) q) (hn:1≤n):Lf n (p*q):=(Lf.mul hp hq).mono (by omega)
end Ab
namespace Ab
open Go.RowKit
abbrev gE (F:FuncId):AV Kn := .fv (.sc (.lit (.func (.func F) #[] #[])))
abbrev qA (F:FuncId):Prop := ∀ (args:Array Value) (w:World),(callFunc F args).run Tryz.prog w = .ok (.enter F args) w
theorem yY {F:FuncId} {a1 a2 a3 b1 b2 b3 r1 r2 r3:Rat} (hF:qA F) (h1:jF F [num a1,num b1] (num r1)) (h2:jF F [num a2,num b2] (num r2)) (h3:jF F [num a3,num b3] (num r3)) :
 jF 41 [gE F,vc a1 a2 a3,vc b1 b2 b3] (vc r1 r2 r3):=by
 refine jG Tryz.func41 fun w00=>?_
 refine eX F [num a1,num b1] (h1) (by kernel_rfl) (hF) ?_
 refine eX F [num a2,num b2] (h2) (by kernel_rfl) (hF) ?_
 refine eX F [num a3,num b3] (h3) (by kernel_rfl) (hF) ?_
 exact jR Tryz.func41
abbrev cloN (F:FuncId) (c:Rat):AV Kn := .fv (.clo F [(true,[nb c])] [])
theorem eachC {F:FuncId} {c a1 a2 a3 r1 r2 r3:Rat} (hF:qA F) (h1:jF F [num c,num a1] (num r1)) (h2:jF F [num c,num a2] (num r2)) (h3:jF F [num c,num a3] (num r3)) :
 jF 138 [cloN F c,vc a1 a2 a3] (vc r1 r2 r3):=by
 refine jG Tryz.func138 fun w00=>?_
 refine eX F [num c,num a1] (h1) (by kernel_rfl) (hF) ?_
 refine eX F [num c,num a2] (h2) (by kernel_rfl) (hF) ?_
 refine eX F [num c,num a3] (h3) (by kernel_rfl) (hF) ?_
 exact jR Tryz.func138
abbrev iv (a b c:Int):AV Kn := .fv (.ag [.lit (.int .i64 a),.lit (.int .i64 b),.lit (.int .i64 c)])
theorem lM {n:Int} (hn:-9223372036854775808≤n∧n≤9223372036854775807):jF 71 [it n] (num (n:Rat)):=by
 intro β w vs hv
 obtain ⟨v,rfl,h1⟩:=dL hv
 rw [aO h1]
 exact (integer_any n w hn.1 hn.2).mono fun e w' ⟨u,e,h1,h2⟩=>⟨u,e,h2,dH.2 h1⟩
theorem eachI {F:FuncId} {a1 a2 a3:Int} {r1 r2 r3:Rat} (hF:qA F) (h1:jF F [it a1] (num r1)) (h2:jF F [it a2] (num r2)) (h3:jF F [it a3] (num r3)) :
 jF 139 [gE F,iv a1 a2 a3] (vc r1 r2 r3):=by
 refine jG Tryz.func139 fun w00=>?_
 refine eX F [it a1] (h1) (by kernel_rfl) (hF) ?_
 refine eX F [it a2] (h2) (by kernel_rfl) (hF) ?_
 refine eX F [it a3] (h3) (by kernel_rfl) (hF) ?_
 exact jR Tryz.func139
abbrev wX (n:Int):Prop := -9223372036854775808≤n∧n≤9223372036854775807
theorem iT {a b c:Int} (ha:wX a) (hb:wX b) (hc:wX c):jF 76 [iv a b c] (vc a b c):=by
 refine jG Tryz.func76 fun w00=>?_
 refine jC 139 [gE 71,iv a b c] (eachI Tryz.call71 (lM ha) (lM hb) (lM hc)) ?_
 exact jR Tryz.func76
theorem Fits.args {P:Program} {f:FuncId} {l l' : List (AV Kn)} {x:AV Kn} (h:Fits P f l x) (hl:∀ β vs w,holdsA β l' vs w→holdsA β l vs w):Fits P f l' x:=fun β w vs hv=>h β w vs (hl β vs w hv)
abbrev zeroN:AV Kn := .fv (.ag [.lit (.int .i64 0),.lit (.int .i64 0),.lit (.pointer none)])
theorem zero_num {β:List Nat} {v:Value} {w:World} (h:zeroN.holds β v w):(num 0).holds β v w:=by
 obtain ⟨cs,rfl,a,r,rfl,⟨rfl,_⟩,b,r2,rfl,⟨rfl,_⟩,c,r3,rfl,⟨rfl,_⟩,e⟩:=h
 rw [show r3 = [] from e]
 exact dH.2 (.inl ⟨vC,rfl⟩)
section
variable {a1 a2 a3 b1 b2 b3 c:Rat}
theorem tA (h1:Lf 36 a1) (h2:Lf 36 a2) (h3:Lf 36 a3) (k1:Lf 36 b1) (k2:Lf 36 b2) (k3:Lf 36 b3):jF 68 [vc a1 a2 a3,vc b1 b2 b3] (vc (a1+b1) (a2+b2) (a3+b3)):=by
 refine jG Tryz.func68 fun w00=>?_
 refine jC 41 [gE 44,vc a1 a2 a3,vc b1 b2 b3] (yY Tryz.call44 (rG h1 k1) (rG h2 k2) (rG h3 k3)) ?_
 exact jR Tryz.func68
theorem vD (h1:Lf 36 a1) (h2:Lf 36 a2) (h3:Lf 36 a3) (k1:Lf 36 b1) (k2:Lf 36 b2) (k3:Lf 36 b3):jF 67 [vc a1 a2 a3,vc b1 b2 b3] (vc (a1-b1) (a2-b2) (a3-b3)):=by
 refine jG Tryz.func67 fun w00=>?_
 refine jC 41 [gE 111,vc a1 a2 a3,vc b1 b2 b3] (yY Tryz.call111 (nX h1 k1) (nX h2 k2) (nX h3 k3)) ?_
 exact jR Tryz.func67
theorem fW (hc:Lf 38 c) (h1:Lf 38 a1) (h2:Lf 38 a2) (h3:Lf 38 a3):jF 70 [vc a1 a2 a3,num c] (vc (c*a1) (c*a2) (c*a3)):=by
 refine jG Tryz.func70 fun w00=>?_
 refine jC 138 [cloN 100 c,vc a1 a2 a3] (eachC Tryz.call100 (eY hc h1) (eY hc h2) (eY hc h3)) ?_
 exact jR Tryz.func70
theorem totalF {T:TypeId} (h1:Lf 32 a1) (h2:Lf 32 a2) (h3:Lf 32 a3):jF 108 [.fv (.nsl 3 T [nb a1,nb a2,nb a3])] (num (a1+a2+a3)):=by
 refine kgoS Tryz.func108 (by kernel_rfl) fun w00=>?_
 refine jC 44 [zeroN,num a1] (Fits.args (rG (p:=0) (q:=a1) (Lf.zero _) (h1.mono (by decide))) (fun β vs w ⟨v,r,e,k1,k2⟩=>⟨v,r,e,zero_num k1,k2⟩)) ?_
 refine jC 44 [num (0+a1),num a2] (rG ((Lf.addn (n:=34) (Lf.zero _) h1 (by decide)).mono (by decide)) (h2.mono (by decide))) ?_
 refine jC 44 [num (0+a1+a2),num a3] (rG (Lf.addn (n:=36) (Lf.addn (n:=34) (Lf.zero _) h1 (by decide)) (h2.mono (by decide)) (by decide)) (h3.mono (by decide))) ?_
 rw [show a1+a2+a3=0+a1+a2+a3 by rw [Rat.zero_add]]
 exact jR Tryz.func108
theorem crossF (h1:Lf 35 a1) (h2:Lf 35 a2) (h3:Lf 35 a3) (k1:Lf 35 b1) (k2:Lf 35 b2) (k3:Lf 35 b3) :
 jF 62 [vc a1 a2 a3,vc b1 b2 b3] (vc (a2*b3-a3*b2) (a3*b1-a1*b3) (a1*b2-a2*b1)):=by
 refine jG Tryz.func62 fun w00=>?_
 refine jC 100 [num a2,num b3] (eY (h2.mono (by decide)) (k3.mono (by decide))) ?_
 refine jC 100 [num a3,num b2] (eY (h3.mono (by decide)) (k2.mono (by decide))) ?_
 refine jC 111 [num (a2*b3),num (a3*b2)] (nX (h2.mul k3) (h3.mul k2)) ?_
 refine jC 100 [num a3,num b1] (eY (h3.mono (by decide)) (k1.mono (by decide))) ?_
 refine jC 100 [num a1,num b3] (eY (h1.mono (by decide)) (k3.mono (by decide))) ?_
 refine jC 111 [num (a3*b1),num (a1*b3)] (nX (h3.mul k1) (h1.mul k3)) ?_
 refine jC 100 [num a1,num b2] (eY (h1.mono (by decide)) (k2.mono (by decide))) ?_
 refine jC 100 [num a2,num b1] (eY (h2.mono (by decide)) (k1.mono (by decide))) ?_
 refine jC 111 [num (a1*b2),num (a2*b1)] (nX (h1.mul k2) (h2.mul k1)) ?_
 exact jR Tryz.func62
theorem nF (h1:Lf 31 a1) (h2:Lf 31 a2) (h3:Lf 31 a3) (k1:Lf 31 b1) (k2:Lf 31 b2) (k3:Lf 31 b3):jF 45 [vc a1 a2 a3,vc b1 b2 b3] (num (a1*b1+a2*b2+a3*b3)):=by
 refine jG Tryz.func45 fun w00=>?_
 refine jC 41 [gE 100,vc a1 a2 a3,vc b1 b2 b3] (yY Tryz.call100 (eY (h1.mono (by decide)) (k1.mono (by decide))) (eY (h2.mono (by decide)) (k2.mono (by decide))) (eY (h3.mono (by decide)) (k3.mono (by decide)))) ?_
 refine kcallS 108 3 3 64 [nb (a1*b1),nb (a2*b2),nb (a3*b3)] (totalF (h1.mul k1) (h2.mul k2) (h3.mul k3)) (by kernel_rfl) Tryz.call108 ?_
 exact jR Tryz.func45
theorem oT (h1:Lf 31 a1) (h2:Lf 31 a2) (h3:Lf 31 a3):jF 63 [vc a1 a2 a3] (num (a1*a1+a2*a2+a3*a3)):=by
 refine jG Tryz.func63 fun w00=>?_
 refine jC 45 [vc a1 a2 a3,vc a1 a2 a3] (nF h1 h2 h3 h1 h2 h3) ?_
 exact jR Tryz.func63
theorem gW {z:Bool} (h:(decide (a1=0)&&decide (a2=0)&&decide (a3=0))=z):jF 61 [vc a1 a2 a3] (bl z):=by
 intro β w vs hv
 obtain ⟨v,rfl,h1⟩:=dL hv
 refine (isZero_vc v a1 a2 a3 w (wW.1 h1)).mono fun e w' ⟨e1,h2⟩=>⟨_,e1,h2,?_⟩
 rw [h]
 exact ⟨rfl,rfl⟩
end
end Ab
namespace Ab
open Go.RowKit Pl
def csNt (a:Nat):CS Kn where
 size:=1
 cold:=true
 pred cs w := ∃ v,cs = [v]∧Nt w v a
 stable:=fun cs w w' ⟨v,e,h⟩ hx=>⟨v,e,Nt.ext (K:=Kn) (fun _=>rfl) h hx⟩
 len:=fun cs w ⟨v,e,h⟩=>by rw [e];rfl
 one:=fun cs w ⟨v,e,h⟩=>by
  obtain ⟨A,n,c,rfl⟩:=Nt.form h
  rw [e]
  intro c hc
  rw [List.mem_singleton] at hc
  subst hc
  rfl
 iscold:=fun _ cs w ⟨v,e,h⟩=>by
  obtain ⟨A,n,c,rfl⟩:=Nt.form h
  rw [e]
  intro c hc
  rw [List.mem_singleton] at hc
  subst hc
  rfl
abbrev nts (a:Nat):Seg Kn := .sp (csNt a)
abbrev nt (a:Nat):AV Kn := .fv (.sc (nts a))
theorem dJ {β:List Nat} {v:Value} {w:World} {a:Nat}:(nt a).holds β v w↔Nt w v a :=
 ⟨fun ⟨u,e,h⟩=>by injection e with e;rw [e];exact h,fun h=>⟨v,rfl,h⟩⟩
abbrev frv (neg:Bool) (n d:Nat):AV Kn := .fv (.ag [.lit (.bool neg),nts n,nts d])
abbrev fra (q:Rat):AV Kn:=frv (decide (q.num<0)) q.num.natAbs q.den
theorem frv_holds {β:List Nat} {v:Value} {w:World} {neg:Bool} {n d:Nat}:(frv neg n d).holds β v w↔∃ s1 s2,v = .agg #[.bool neg,s1,s2]∧Nt w s1 n∧Nt w s2 d:=by
 constructor
 ·rintro ⟨cs,rfl,a,r,rfl,⟨rfl,_⟩,b,r2,rfl,⟨s1,rfl,h1⟩,c,r3,rfl,⟨s2,rfl,h2⟩,e⟩
  rw [show r3 = [] from e]
  exact ⟨s1,s2,rfl,h1,h2⟩
 ·rintro ⟨s1,s2,rfl,h1,h2⟩
  exact ⟨[.bool neg,s1,s2],rfl,[.bool neg],_,rfl,⟨rfl,rfl⟩,[s1],_,rfl,⟨s1,rfl,h1⟩,[s2],[],rfl,⟨s2,rfl,h2⟩,rfl⟩
theorem tB {β:List Nat} {v:Value} {w:World} {q:Rat}:(fra q).holds β v w↔Fr w v q:=frv_holds
theorem eC {q:Rat}:jF 106 [num q] (fra q):=by
 intro β w vs hv
 obtain ⟨v,rfl,h1⟩:=dL hv
 exact (cF v q w (dH.1 h1)).mono fun e w' ⟨u,e,h1,h2⟩=>⟨u,e,h2,tB.2 h1⟩
theorem iP {q:Rat}:jF 58 [fra q] (num q):=by
 intro β w vs hv
 obtain ⟨v,rfl,h1⟩:=dL hv
 exact (eM v q w (tB.1 h1)).mono fun e w' ⟨u,e,h1,h2⟩=>⟨u,e,h2,dH.2 h1⟩
theorem xZ {a b:Nat} (ha:Lv 40 a) (hb:Lv 40 b) (h0:0<a∨0<b):jF 125 [nt a,nt b] (nt (Nat.gcd a b)):=by
 intro β w vs hv
 obtain ⟨v,u,rfl,h1,h2⟩:=eF hv
 exact (vB v u a b w (dJ.1 h1) (dJ.1 h2) ha hb h0).mono fun e w' ⟨u,e,h1,h2⟩=>⟨u,e,h2,dJ.2 h1⟩
theorem ntimesF {a b:Nat} (ha:Lv 40 a) (hb:Lv 40 b):jF 128 [nt a,nt b] (nt (a*b)):=by
 intro β w vs hv
 obtain ⟨v,u,rfl,h1,h2⟩:=eF hv
 exact (gV (dJ.1 h1) (dJ.1 h2) ha hb).mono fun e w' ⟨u,e,h1,h2⟩=>⟨u,e,h2,dJ.2 h1⟩
theorem jE {a b:Nat} (ha:Lv 40 a) (hb:0<b):jF 126 [nt a,nt b] (.tup [.sc (nts (a/b)),.sc (nts (a%b))]):=by
 intro β w vs hv
 obtain ⟨v,u,rfl,h1,h2⟩:=eF hv
 refine (eV (dJ.1 h1) (dJ.1 h2) ha hb).mono fun e w' ⟨u,u',e,h1,h2,h3⟩=>⟨_,e,h3,?_⟩
 exact ⟨[u,u'],rfl,u,_,rfl,⟨u,rfl,h1⟩,u',_,rfl,⟨u',rfl,h2⟩,rfl⟩
theorem naturalOfF {a:Nat} (ha:a<aD):jF 129 [.fv (.sc (.lit (.int .u64 (a:Int))))] (nt a):=by
 intro β w vs hv
 obtain ⟨v,rfl,h1⟩:=dL hv
 rw [aO h1]
 exact (bX a ha w).mono fun e w' ⟨u,e,h1,h2⟩=>⟨u,e,h2,dJ.2 h1⟩
theorem nY {neg:Bool} {n d:Nat} (hn:Lv 40 n) (hd:Lv 40 d) (hd0:0<d):jF 56 [bl neg,nt n,nt d] (fra (mkRat (sg neg n) d)):=by
 rintro β w vs ⟨v,r,rfl,h0,hv⟩
 obtain ⟨v',u,rfl,h1,h2⟩:=eF hv
 rw [aO h0]
 exact (sX neg n d v' u w (dJ.1 h1) (dJ.1 h2) hn hd hd0).mono fun e w' ⟨u,e,h1,h2⟩=>⟨u,e,h2,tB.2 h1⟩
abbrev hf (a b c d:Rat):AV Kn := .fv (.ag [nb a,nb b,nb c,nb d])
abbrev mB (o1 o2 o3 x1 x2 x3 y1 y2 y3 z1 z2 z3:Rat):AV Kn := .fv (.ag [nb o1,nb o2,nb o3,nb x1,nb x2,nb x3,nb y1,nb y2,nb y3,nb z1,nb z2,nb z3])
abbrev mt (x1 x2 x3 y1 y2 y3 z1 z2 z3:Rat):AV Kn := .fv (.ag [nb x1,nb x2,nb x3,nb y1,nb y2,nb y3,nb z1,nb z2,nb z3])
abbrev dt (a1 a2 a3 b1 b2 b3:Rat):Rat:=a1*b1+a2*b2+a3*b3
theorem iH {n:Nat} {a1 a2 a3 b1 b2 b3:Rat} (h1:Lf (n-5) a1) (h2:Lf (n-5) a2) (h3:Lf (n-5) a3) (k1:Lf (n-5) b1) (k2:Lf (n-5) b2) (k3:Lf (n-5) b3) (hn:5≤n):Lf n (dt a1 a2 a3 b1 b2 b3) :=
 Lf.addn (Lf.addn ((h1.mul k1).mono (by omega)) ((h2.mul k2).mono (by omega)) (by omega)) ((h3.mul k3).mono (by omega)) (by omega)
section
variable {n1 n2 n3 d p1 p2 p3:Rat}
theorem vE (h1:Lf 31 n1) (h2:Lf 31 n2) (h3:Lf 31 n3) (hd:Lf 36 d) (k1:Lf 31 p1) (k2:Lf 31 p2) (k3:Lf 31 p3):jF 48 [hf n1 n2 n3 d,vc p1 p2 p3] (num (dt n1 n2 n3 p1 p2 p3-d)):=by
 refine jG Tryz.func48 fun w00=>?_
 refine jC 45 [vc n1 n2 n3,vc p1 p2 p3] (nF h1 h2 h3 k1 k2 k3) ?_
 refine jC 111 [num (dt n1 n2 n3 p1 p2 p3),num d] (nX (iH h1 h2 h3 k1 k2 k3 (by decide)) hd) ?_
 exact jR Tryz.func48
abbrev lN (n1 n2 n3 d p1 p2 p3:Rat):Rat := -(dt n1 n2 n3 p1 p2 p3-d)/dt n1 n2 n3 n1 n2 n3
theorem lf_way {n:Nat} (h1:Lf (n-11) n1) (h2:Lf (n-11) n2) (h3:Lf (n-11) n3) (hd:Lf (n-6) d) (k1:Lf (n-11) p1) (k2:Lf (n-11) p2) (k3:Lf (n-11) p3) (hn:11≤n):Lf n (lN n1 n2 n3 d p1 p2 p3):=by
 rw [lN,Rat.div_def]
 have e1:Lf (n-6) (dt n1 n2 n3 p1 p2 p3):=iH (h1.mono (by omega)) (h2.mono (by omega)) (h3.mono (by omega)) (k1.mono (by omega)) (k2.mono (by omega)) (k3.mono (by omega)) (by omega)
 have e2:Lf (n-6) (dt n1 n2 n3 n1 n2 n3):=iH (h1.mono (by omega)) (h2.mono (by omega)) (h3.mono (by omega)) (h1.mono (by omega)) (h2.mono (by omega)) (h3.mono (by omega)) (by omega)
 exact Lf.muln ((Lf.subn (n:=n-4) (e1.mono (by omega)) (hd.mono (by omega)) (by omega)).neg.mono (by omega)) ((Lf.inv e2).mono (by omega)) (by omega)
theorem toPlaneF (h1:Lf 25 n1) (h2:Lf 25 n2) (h3:Lf 25 n3) (hd:Lf 30 d) (k1:Lf 25 p1) (k2:Lf 25 p2) (k3:Lf 25 p3) (h0:dt n1 n2 n3 n1 n2 n3≠0) :
 jF 69 [hf n1 n2 n3 d,vc p1 p2 p3] (vc (lN n1 n2 n3 d p1 p2 p3*n1) (lN n1 n2 n3 d p1 p2 p3*n2) (lN n1 n2 n3 d p1 p2 p3*n3)):=by
 have hE:Lf 32 (dt n1 n2 n3 p1 p2 p3-d):=Lf.subn (iH h1 h2 h3 k1 k2 k3 (by decide)) (hd.mono (by decide)) (by decide)
 refine jG Tryz.func69 fun w00=>?_
 refine jC 48 [hf n1 n2 n3 d,vc p1 p2 p3] (vE (h1.mono (by decide)) (h2.mono (by decide)) (h3.mono (by decide)) (hd.mono (by decide)) (k1.mono (by decide)) (k2.mono (by decide)) (k3.mono (by decide))) ?_
 refine jC 49 [num (dt n1 n2 n3 p1 p2 p3-d)] (negatedF) ?_
 refine jC 63 [vc n1 n2 n3] (oT (h1.mono (by decide)) (h2.mono (by decide)) (h3.mono (by decide))) ?_
 refine jC 42 [num (-(dt n1 n2 n3 p1 p2 p3-d)),num (dt n1 n2 n3 n1 n2 n3)] (lK (hE.neg.mono (by decide)) (iH (h1.mono (by decide)) (h2.mono (by decide)) (h3.mono (by decide)) (h1.mono (by decide)) (h2.mono (by decide)) (h3.mono (by decide)) (by decide)) h0) ?_
 refine jC 70 [vc n1 n2 n3,num (lN n1 n2 n3 d p1 p2 p3)] (fW (lf_way (n:=38) (h1.mono (by decide)) (h2.mono (by decide)) (h3.mono (by decide)) (hd.mono (by decide)) (k1.mono (by decide)) (k2.mono (by decide)) (k3.mono (by decide)) (by decide)) (h1.mono (by decide)) (h2.mono (by decide)) (h3.mono (by decide))) ?_
 exact jR Tryz.func69
end
abbrev cloV (F:FuncId) (a b c:Rat):AV Kn := .fv (.clo F [(true,[nb a,nb b,nb c])] [])
section
variable {x1 x2 x3 y1 y2 y3 z1 z2 z3 r1 r2 r3:Rat} {F:FuncId}
theorem eachVN (hF:qA F) (h1:jF F [vc x1 x2 x3] (num r1)) (h2:jF F [vc y1 y2 y3] (num r2)) (h3:jF F [vc z1 z2 z3] (num r3)):jF 47 [gE F,mt x1 x2 x3 y1 y2 y3 z1 z2 z3] (vc r1 r2 r3):=by
 refine jG Tryz.func47 fun w00=>?_
 refine eX F [vc x1 x2 x3] (h1) (by kernel_rfl) (hF) ?_
 refine eX F [vc y1 y2 y3] (h2) (by kernel_rfl) (hF) ?_
 refine eX F [vc z1 z2 z3] (h3) (by kernel_rfl) (hF) ?_
 exact jR Tryz.func47
theorem eachVNc {a b c:Rat} (hF:qA F) (h1:jF F [vc a b c,vc x1 x2 x3] (num r1)) (h2:jF F [vc a b c,vc y1 y2 y3] (num r2)) (h3:jF F [vc a b c,vc z1 z2 z3] (num r3)):jF 47 [cloV F a b c,mt x1 x2 x3 y1 y2 y3 z1 z2 z3] (vc r1 r2 r3):=by
 refine jG Tryz.func47 fun w00=>?_
 refine eX F [vc a b c,vc x1 x2 x3] (h1) (by kernel_rfl) (hF) ?_
 refine eX F [vc a b c,vc y1 y2 y3] (h2) (by kernel_rfl) (hF) ?_
 refine eX F [vc a b c,vc z1 z2 z3] (h3) (by kernel_rfl) (hF) ?_
 exact jR Tryz.func47
theorem eachVVc {s1 s2 s3 t1 t2 t3 u1 u2 u3 o1 o2 o3 a1 a2 a3 b1 b2 b3 c1 c2 c3:Rat} (hF:qA F) (h1:jF F [mB o1 o2 o3 a1 a2 a3 b1 b2 b3 c1 c2 c3,vc x1 x2 x3] (vc s1 s2 s3)) (h2:jF F [mB o1 o2 o3 a1 a2 a3 b1 b2 b3 c1 c2 c3,vc y1 y2 y3] (vc t1 t2 t3)) (h3:jF F [mB o1 o2 o3 a1 a2 a3 b1 b2 b3 c1 c2 c3,vc z1 z2 z3] (vc u1 u2 u3)):jF 77 [.fv (.clo F [(true,[nb o1,nb o2,nb o3,nb a1,nb a2,nb a3,nb b1,nb b2,nb b3,nb c1,nb c2,nb c3])] []),mt x1 x2 x3 y1 y2 y3 z1 z2 z3] (mt s1 s2 s3 t1 t2 t3 u1 u2 u3):=by
 refine jG Tryz.func77 fun w00=>?_
 refine eX F [mB o1 o2 o3 a1 a2 a3 b1 b2 b3 c1 c2 c3,vc x1 x2 x3] (h1) (by kernel_rfl) (hF) ?_
 refine eX F [mB o1 o2 o3 a1 a2 a3 b1 b2 b3 c1 c2 c3,vc y1 y2 y3] (h2) (by kernel_rfl) (hF) ?_
 refine eX F [mB o1 o2 o3 a1 a2 a3 b1 b2 b3 c1 c2 c3,vc z1 z2 z3] (h3) (by kernel_rfl) (hF) ?_
 exact jR Tryz.func77
theorem eachIV {s1 s2 s3 t1 t2 t3 u1 u2 u3:Rat} (hF:qA F) (h1:jF F [iv 1 0 0] (vc s1 s2 s3)) (h2:jF F [iv 0 1 0] (vc t1 t2 t3)) (h3:jF F [iv 0 0 1] (vc u1 u2 u3)):jF 140 [gE F,.fv (.ag [.lit (.int .i64 1),.lit (.int .i64 0),.lit (.int .i64 0),.lit (.int .i64 0),.lit (.int .i64 1),.lit (.int .i64 0),.lit (.int .i64 0),.lit (.int .i64 0),.lit (.int .i64 1)])] (mt s1 s2 s3 t1 t2 t3 u1 u2 u3):=by
 refine jG Tryz.func140 fun w00=>?_
 refine eX F [iv 1 0 0] (h1) (by kernel_rfl) (hF) ?_
 refine eX F [iv 0 1 0] (h2) (by kernel_rfl) (hF) ?_
 refine eX F [iv 0 0 1] (h3) (by kernel_rfl) (hF) ?_
 exact jR Tryz.func140
theorem unitsF:jF 78 [] (mt (1:Int) (0:Int) (0:Int) (0:Int) (1:Int) (0:Int) (0:Int) (0:Int) (1:Int)):=by
 have i1:wX 1:=by constructor <;> omega
 have i0:wX 0:=by constructor <;> omega
 refine jG Tryz.func78 fun w00=>?_
 refine jC 140 [gE 76,.fv (.ag [.lit (.int .i64 1),.lit (.int .i64 0),.lit (.int .i64 0),.lit (.int .i64 0),.lit (.int .i64 1),.lit (.int .i64 0),.lit (.int .i64 0),.lit (.int .i64 0),.lit (.int .i64 1)])] (eachIV Tryz.call76 (iT i1 i0 i0) (iT i0 i1 i0) (iT i0 i0 i1)) ?_
 exact jR Tryz.func78
variable {o1 o2 o3 p1 p2 p3:Rat}
structure Lm (k:Nat) (x1 x2 x3 y1 y2 y3 z1 z2 z3:Rat):Prop where
 x1:Lf k x1
 x2:Lf k x2
 x3:Lf k x3
 y1:Lf k y1
 y2:Lf k y2
 y3:Lf k y3
 z1:Lf k z1
 z2:Lf k z2
 z3:Lf k z3
structure Lv3 (k:Nat) (a b c:Rat):Prop where
 a:Lf k a
 b:Lf k b
 c:Lf k c
theorem Lm.mono {k l:Nat} (h:Lm k x1 x2 x3 y1 y2 y3 z1 z2 z3) (hk:k≤l):Lm l x1 x2 x3 y1 y2 y3 z1 z2 z3:=⟨h.x1.mono hk,h.x2.mono hk,h.x3.mono hk,h.y1.mono hk,h.y2.mono hk,h.y3.mono hk,h.z1.mono hk,h.z2.mono hk,h.z3.mono hk⟩
theorem Lv3.mono {k l:Nat} {a b c:Rat} (h:Lv3 k a b c) (hk:k≤l):Lv3 l a b c:=⟨h.a.mono hk,h.b.mono hk,h.c.mono hk⟩
theorem wY (h:Lm 31 x1 x2 x3 y1 y2 y3 z1 z2 z3):jF 43 [mB o1 o2 o3 x1 x2 x3 y1 y2 y3 z1 z2 z3] (vc (dt x1 x2 x3 x1 x2 x3) (dt y1 y2 y3 y1 y2 y3) (dt z1 z2 z3 z1 z2 z3)):=by
 refine jG Tryz.func43 fun w00=>?_
 refine jC 47 [gE 63,mt x1 x2 x3 y1 y2 y3 z1 z2 z3] (eachVN Tryz.call63 (oT h.x1 h.x2 h.x3) (oT h.y1 h.y2 h.y3) (oT h.z1 h.z2 h.z3)) ?_
 exact jR Tryz.func43
abbrev ld (p1 p2 p3 x y z:Rat):Rat:=p1*x+p2*y+p3*z
theorem yZ (h:Lm 31 x1 x2 x3 y1 y2 y3 z1 z2 z3) (k:Lv3 31 p1 p2 p3):jF 40 [mB o1 o2 o3 x1 x2 x3 y1 y2 y3 z1 z2 z3,vc p1 p2 p3] (vc (ld p1 p2 p3 x1 y1 z1) (ld p1 p2 p3 x2 y2 z2) (ld p1 p2 p3 x3 y3 z3)):=by
 have k1:=k.a.mono (l:=38) (by decide)
 have k2:=k.b.mono (l:=38) (by decide)
 have k3:=k.c.mono (l:=38) (by decide)
 have h':=h.mono (l:=38) (by decide)
 refine jG Tryz.func40 fun w00=>?_
 refine jC 70 [vc x1 x2 x3,num p1] (fW k1 h'.x1 h'.x2 h'.x3) ?_
 refine jC 70 [vc y1 y2 y3,num p2] (fW k2 h'.y1 h'.y2 h'.y3) ?_
 refine jC 68 [vc (p1*x1) (p1*x2) (p1*x3),vc (p2*y1) (p2*y2) (p2*y3)] (tA ((k.a.mul h.x1).mono (by decide)) ((k.a.mul h.x2).mono (by decide)) ((k.a.mul h.x3).mono (by decide)) ((k.b.mul h.y1).mono (by decide)) ((k.b.mul h.y2).mono (by decide)) ((k.b.mul h.y3).mono (by decide))) ?_
 refine jC 70 [vc z1 z2 z3,num p3] (fW k3 h'.z1 h'.z2 h'.z3) ?_
 refine jC 68 [vc (p1*x1+p2*y1) (p1*x2+p2*y2) (p1*x3+p2*y3),vc (p3*z1) (p3*z2) (p3*z3)] (tA (((k.a.mul h.x1).add (k.b.mul h.y1)).mono (by decide)) (((k.a.mul h.x2).add (k.b.mul h.y2)).mono (by decide)) (((k.a.mul h.x3).add (k.b.mul h.y3)).mono (by decide)) ((k.c.mul h.z1).mono (by decide)) ((k.c.mul h.z2).mono (by decide)) ((k.c.mul h.z3).mono (by decide))) ?_
 exact jR Tryz.func40
theorem lf_ld {n:Nat} {p1 p2 p3 x y z:Rat} (k:Lv3 (n-5) p1 p2 p3) (hx:Lf (n-5) x) (hy:Lf (n-5) y) (hz:Lf (n-5) z) (hn:5≤n):Lf n (ld p1 p2 p3 x y z):=iH (a1:=p1) (a2:=p2) (a3:=p3) k.a k.b k.c hx hy hz hn
theorem placeF (h:Lm 31 x1 x2 x3 y1 y2 y3 z1 z2 z3) (k:Lv3 31 p1 p2 p3) (ho:Lv3 36 o1 o2 o3) :
 jF 32 [mB o1 o2 o3 x1 x2 x3 y1 y2 y3 z1 z2 z3,vc p1 p2 p3] (vc (o1+ld p1 p2 p3 x1 y1 z1) (o2+ld p1 p2 p3 x2 y2 z2) (o3+ld p1 p2 p3 x3 y3 z3)):=by
 refine jG Tryz.func32 fun w00=>?_
 refine jC 40 [mB o1 o2 o3 x1 x2 x3 y1 y2 y3 z1 z2 z3,vc p1 p2 p3] (yZ h k) ?_
 refine jC 68 [vc o1 o2 o3,vc (ld p1 p2 p3 x1 y1 z1) (ld p1 p2 p3 x2 y2 z2) (ld p1 p2 p3 x3 y3 z3)] (tA ho.a ho.b ho.c (lf_ld k h.x1 h.y1 h.z1 (by decide)) (lf_ld k h.x2 h.y2 h.z2 (by decide)) (lf_ld k h.x3 h.y3 h.z3 (by decide))) ?_
 exact jR Tryz.func32
structure Sq0 (x1 x2 x3 y1 y2 y3 z1 z2 z3:Rat):Prop where
 x:dt x1 x2 x3 x1 x2 x3≠0
 y:dt y1 y2 y3 y1 y2 y3≠0
 z:dt z1 z2 z3 z1 z2 z3≠0
theorem multiplesF (h:Lm 31 x1 x2 x3 y1 y2 y3 z1 z2 z3) (k:Lv3 31 p1 p2 p3) (h0:Sq0 x1 x2 x3 y1 y2 y3 z1 z2 z3) :
 jF 91 [mB o1 o2 o3 x1 x2 x3 y1 y2 y3 z1 z2 z3,vc p1 p2 p3] (vc (dt p1 p2 p3 x1 x2 x3/dt x1 x2 x3 x1 x2 x3) (dt p1 p2 p3 y1 y2 y3/dt y1 y2 y3 y1 y2 y3) (dt p1 p2 p3 z1 z2 z3/dt z1 z2 z3 z1 z2 z3)):=by
 have l1:=(iH (n:=36) k.a k.b k.c h.x1 h.x2 h.x3 (by decide)).mono (l:=38) (by decide)
 have l2:=(iH (n:=36) k.a k.b k.c h.y1 h.y2 h.y3 (by decide)).mono (l:=38) (by decide)
 have l3:=(iH (n:=36) k.a k.b k.c h.z1 h.z2 h.z3 (by decide)).mono (l:=38) (by decide)
 have m1:=(iH (n:=36) h.x1 h.x2 h.x3 h.x1 h.x2 h.x3 (by decide)).mono (l:=38) (by decide)
 have m2:=(iH (n:=36) h.y1 h.y2 h.y3 h.y1 h.y2 h.y3 (by decide)).mono (l:=38) (by decide)
 have m3:=(iH (n:=36) h.z1 h.z2 h.z3 h.z1 h.z2 h.z3 (by decide)).mono (l:=38) (by decide)
 refine jG Tryz.func91 fun w00=>?_
 refine jC 47 [cloV 45 p1 p2 p3,mt x1 x2 x3 y1 y2 y3 z1 z2 z3] (eachVNc Tryz.call45 (nF k.a k.b k.c h.x1 h.x2 h.x3) (nF k.a k.b k.c h.y1 h.y2 h.y3) (nF k.a k.b k.c h.z1 h.z2 h.z3)) ?_
 refine jC 43 [mB o1 o2 o3 x1 x2 x3 y1 y2 y3 z1 z2 z3] (wY h) ?_
 refine jC 41 [gE 42,vc (dt p1 p2 p3 x1 x2 x3) (dt p1 p2 p3 y1 y2 y3) (dt p1 p2 p3 z1 z2 z3),vc (dt x1 x2 x3 x1 x2 x3) (dt y1 y2 y3 y1 y2 y3) (dt z1 z2 z3 z1 z2 z3)] (yY Tryz.call42 (lK l1 m1 h0.x) (lK l2 m2 h0.y) (lK l3 m3 h0.z)) ?_
 exact jR Tryz.func91
theorem localF (h:Lm 31 x1 x2 x3 y1 y2 y3 z1 z2 z3) (k:Lv3 29 p1 p2 p3) (ho:Lv3 29 o1 o2 o3) (h0:Sq0 x1 x2 x3 y1 y2 y3 z1 z2 z3) :
 jF 34 [mB o1 o2 o3 x1 x2 x3 y1 y2 y3 z1 z2 z3,vc p1 p2 p3] (vc (dt (p1-o1) (p2-o2) (p3-o3) x1 x2 x3/dt x1 x2 x3 x1 x2 x3) (dt (p1-o1) (p2-o2) (p3-o3) y1 y2 y3/dt y1 y2 y3 y1 y2 y3) (dt (p1-o1) (p2-o2) (p3-o3) z1 z2 z3/dt z1 z2 z3 z1 z2 z3)):=by
 have k':=k.mono (l:=36) (by decide)
 have ho':=ho.mono (l:=36) (by decide)
 refine jG Tryz.func34 fun w00=>?_
 refine jC 67 [vc p1 p2 p3,vc o1 o2 o3] (vD k'.a k'.b k'.c ho'.a ho'.b ho'.c) ?_
 refine jC 91 [mB o1 o2 o3 x1 x2 x3 y1 y2 y3 z1 z2 z3,vc (p1-o1) (p2-o2) (p3-o3)] (multiplesF h ⟨Lf.subn k.a ho.a (by decide),Lf.subn k.b ho.b (by decide),Lf.subn k.c ho.c (by decide)⟩ h0) ?_
 exact jR Tryz.func34
theorem uE (h:Lm 31 x1 x2 x3 y1 y2 y3 z1 z2 z3) (hxy:dt x1 x2 x3 y1 y2 y3=0) (hyz:dt y1 y2 y3 z1 z2 z3=0) (hzx:dt z1 z2 z3 x1 x2 x3=0) :
 jF 141 [mB o1 o2 o3 x1 x2 x3 y1 y2 y3 z1 z2 z3] (bl true):=by
 refine jG Tryz.func141 fun w00=>?_
 refine jC 45 [vc x1 x2 x3,vc y1 y2 y3] (nF h.x1 h.x2 h.x3 h.y1 h.y2 h.y3) ?_
 refine jC 73 [num (dt x1 x2 x3 y1 y2 y3)] (kG (b:=true) (by rw [decide_eq_true_eq];exact hxy)) ?_
 refine jC 45 [vc y1 y2 y3,vc z1 z2 z3] (nF h.y1 h.y2 h.y3 h.z1 h.z2 h.z3) ?_
 refine jC 73 [num (dt y1 y2 y3 z1 z2 z3)] (kG (b:=true) (by rw [decide_eq_true_eq];exact hyz)) ?_
 refine jC 45 [vc z1 z2 z3,vc x1 x2 x3] (nF h.z1 h.z2 h.z3 h.x1 h.x2 h.x3) ?_
 refine jC 73 [num (dt z1 z2 z3 x1 x2 x3)] (kG (b:=true) (by rw [decide_eq_true_eq];exact hzx)) ?_
 exact jR Tryz.func141
end
def csIs (v:Value) (h:v.oneCell'=true) (c:Bool) (hc:c=true→Kn v=false):CS Kn where
 size:=1
 cold:=c
 pred cs _:=cs = [v]
 stable _ _ _ h _:=h
 len _ _ h:=by rw [h];rfl
 one _ _ hp:=by rw [hp];intro c hc;rw [List.mem_singleton] at hc;rw [hc];exact h
 iscold hb _ _ hp:=by rw [hp];intro d hd;rw [List.mem_singleton] at hd;rw [hd];exact hc hb
abbrev dD (s:ByteArray):Seg Kn := .sp (csIs (.string s) rfl true (fun _=>rfl))
abbrev gC (n:Int):Seg Kn := .sp (csIs (.int .i64 n) rfl true (fun _=>rfl))
abbrev isU (n:Int):Seg Kn := .sp (csIs (.int .u64 n) rfl false (fun h=>by cases h))
abbrev tx (s:ByteArray):AV Kn := .fv (.sc (dD s))
abbrev lt (s:ByteArray):AV Kn := .fv (.sc (.lit (.string s)))
theorem aQ {v u:Value} {h:v.oneCell'=true} {c:Bool} {hc:c=true→Kn v=false} {β:List Nat} {w:World} (k:(AV.fv (.sc (.sp (csIs v h c hc))):AV Kn).holds β u w):u=v:=by
 have:[u] = [v]:=k
 injection this
theorem bK {v:Value} {h:v.oneCell'=true} {c:Bool} {hc:c=true→Kn v=false} {β:List Nat} {w:World}:(AV.fv (.sc (.sp (csIs v h c hc))):AV Kn).holds β v w:=rfl
theorem bE {v:Value} (h:v.oneCell'=true) {β:List Nat} {w:World}:(AV.fv (.sc (.lit v)):AV Kn).holds β v w:=⟨rfl,h⟩
def Gl (w:World):Prop:=Laid w∧∃ m,w.cell? ⟨0,0,none⟩=some (.int .i64 m)
abbrev jX(f:FuncId)(l:List (AV Kn))(x:AV Kn):Prop:=FitsW Tryz.prog Gl f l x
theorem Gl.below {w w' : World} (h:Gl w) (hb:Below w.heap.size w w'):Gl w':=by
 refine ⟨h.1.below hb,?_⟩
 obtain ⟨m,hm⟩:=h.2
 exact ⟨m,(hb.cell (p:=⟨0,0,none⟩) (block_lt_of_cell hm)).trans hm⟩
theorem keepGl {w00:World} (h:Gl w00):∀ w,Below w00.heap.size w00 w→Gl w:=fun _ hb=>h.below hb
theorem jY{f:FuncId}{fn:Func}{args:List (AV Kn)}{x:AV Kn}(hfn:Tryz.prog.funcs[f]?=some fn)(h:∀w00,(∀w,Below w00.heap.size w00 w→Gl w)→Ok Tryz.prog f w00 (fun v w=>x.holds [] v w) (cI Tryz.prog 1000 (nW fn args)))(hc:(fn.body.isSome,decide (args.length≤fn.ntmps),x.noPtr,args.all AV.noPtr)=(true,true,true,true):=by kernel_rfl):jX f args x:=kgoW hfn hc fun w00 hG=>h w00 (keepGl hG)
def decB (n:Nat):ByteArray:=⟨(Lib.decDigits n).toArray⟩
def overB (q:Rat):ByteArray:=if q.num<0 then ⟨#[45]⟩++decB q.num.natAbs else decB q.num.natAbs
theorem rH {a:Nat} (ha:Lv 20 a):jX 235 [nt a] (tx (decB a)):=by
 intro β w vs hG hv
 obtain ⟨v,rfl,h1⟩:=dL hv
 exact (text_any v a w (dJ.1 h1) ha hG.1).mono fun e w' ⟨e1,h2⟩=>⟨_,e1,h2,bK⟩
def zA (n:Int):ByteArray:=⟨(Lib.itoa n).toArray⟩
theorem formatInt0F {n:Int} (hn:wX n):jX 236 [it n,it 10] (tx (zA n)):=by
 intro β w vs hG hv
 obtain ⟨v,u,rfl,h1,h2⟩:=eF hv
 rw [aO h1,aO h2]
 refine (Tryz.internal_strconv_FormatInt_10 n hn.1 hn.2 w hG.1).mono fun e w' ⟨e1,k,os,e2⟩=>⟨_,e1,?_,bK⟩
 rw [e2]
 exact (nL w k).trans (wH (w.drewN k) os)
theorem wZ {n:Int} (hn:wX n):jX 199 [it n,it 10] (tx (zA n)):=by
 refine jY Tryz.func199 fun w00 hI=>?_
 refine jW hI 236 [it n,it 10] (formatInt0F hn) ?_
 exact jR Tryz.func199
abbrev smA (q:Rat):AV Kn := .fv (.ag [.lit (.int .i64 q.num),.lit (.int .i64 ((q.den:Int)-1)),.lit (.pointer none)])
theorem sm_holds {β:List Nat} {v:Value} {w:World} {q:Rat} (h:Sm q):(num q).holds β v w↔(smA q).holds β v w:=by
 rw [dH]
 constructor
 ·rintro (⟨_,rfl⟩|⟨h2,_⟩)
  ·exact ⟨[_,_,_],rfl,[_],_,rfl,⟨rfl,rfl⟩,[_],_,rfl,⟨rfl,rfl⟩,[_],[],rfl,⟨rfl,rfl⟩,rfl⟩
  ·exact absurd h h2
 ·rintro ⟨cs,rfl,a,r,rfl,⟨rfl,_⟩,b,r2,rfl,⟨rfl,_⟩,c,r3,rfl,⟨rfl,_⟩,e⟩
  rw [show r3 = [] from e]
  exact .inl ⟨h,rfl⟩
theorem denF {q:Rat} (h:Sm q):jF 103 [smA q] (it q.den):=by
 intro β w vs hv
 obtain ⟨v,rfl,h1⟩:=dL hv
 obtain ⟨cs,rfl,a,r,rfl,⟨rfl,_⟩,b,r2,rfl,⟨rfl,_⟩,c,r3,rfl,⟨rfl,_⟩,e⟩:=h1
 rw [show r3 = [] from e]
 have hd:=iF h
 refine (mP q.num ((q.den:Int)-1) none w (by omega) (by omega)).mono fun e w' ⟨e1,h2⟩=>⟨_,e1,h2,?_⟩
 rw [show ((q.den:Int)-1+1)=q.den by omega]
 exact bE rfl
theorem gR {P:Program} {o:Oper} {ρ:Operand→Value} {w:World} {T T' : TypeId} {x y:Operand} {a b:ByteArray} (ho:o.op = .binOp .add T x y T') (hx:ρ x = .string a) (hy:ρ y = .string b) (hs:a.size+b.size≤9223372036854775807) :
 (execOp ρ o).run P w = .ok (.value (.string (a++b))) w:=by
 simp only [execOp,ho,hx,hy]
 refine bH ?_
 have hne:¬ (((a.size+b.size:Nat):Int) > IntKind.i64.max):=by
  have:IntKind.i64.max=9223372036854775807:=by decide
  rw [this]
  omega
 simp only [eqGuard,binOp,Op.stringOp,if_neg hne]
 rfl
theorem decB_size {a k:Nat} (h:a<10^(k+1)):(decB a).size≤k+1:=by
 exact wG h
theorem fraTextF {q:Rat} (hq:Lf 20 q) (hs:(decB q.num.natAbs).size≤1000000000):jX 198 [fra q] (.tup [.sc (dD (overB q)),.sc (dD (decB q.den))]):=by
 by_cases hn:q.num<0
 ·have hd:decide (q.num<0)=true:=by simpa using hn
  have ho:overB q=⟨#[45]⟩++decB q.num.natAbs:=by rw [overB,if_pos hn]
  rw [ho,show fra q=frv true q.num.natAbs q.den by rw [fra,hd]]
  obtain ⟨hq1,hq2⟩:=hq
  generalize q.num.natAbs=n at *
  have hcat:(⟨#[45]⟩:ByteArray).size+(decB n).size≤9223372036854775807:=by
   have:(⟨#[45]⟩:ByteArray).size=1:=rfl
   omega
  refine jY Tryz.func198 fun w00 hI=>?_
  refine jW hI 235 [nt n] (rH hq1) ?_
  refine jW hI 235 [nt q.den] (rH hq2) ?_
  refine jK (.binOp .add 9 (.const (.string ⟨#[45]⟩)) (.tmp 12) 9) (.const (.string ⟨#[45]⟩)) (.tmp 12) (lt ⟨#[45]⟩) (tx (decB n)) (tx (⟨#[45]⟩++decB n)) (fun ρ o β w ho hx hy=>⟨_,gR ho (aO hx) (aQ hy) hcat,bK⟩) ?_
  exact jR Tryz.func198
 ·have hd:decide (q.num<0)=false:=by simpa using hn
  have ho:overB q=decB q.num.natAbs:=by rw [overB,if_neg hn]
  rw [ho,show fra q=frv false q.num.natAbs q.den by rw [fra,hd]]
  refine jY Tryz.func198 fun w00 hI=>?_
  refine jW hI 235 [nt q.num.natAbs] (rH hq.1) ?_
  refine jW hI 235 [nt q.den] (rH hq.2) ?_
  exact jR Tryz.func198
theorem itoa_over (q:Rat):zA q.num=overB q:=by
 unfold zA overB decB Lib.itoa
 split
 ·congr 1
 ·rename_i h
  congr 3
  omega
theorem itoa_den (d:Nat):zA (d:Int)=decB d:=by
 unfold zA decB Lib.itoa
 rw [if_neg (by omega)]
 rfl
theorem smTextF {q:Rat} (h:Sm q):jX 133 [smA q] (.tup [.sc (dD (overB q)),.sc (dD (decB q.den))]):=by
 have hn:=iG h
 have hd:=iF h
 rw [← itoa_over,← itoa_den]
 refine jY Tryz.func133 fun w00 hI=>?_
 refine jW hI 199 [it q.num,it 10] (wZ ⟨by have:=hn.1;omega,by have:=hn.2;omega⟩) ?_
 refine jC 103 [smA q] (denF h) ?_
 refine jW hI 199 [it q.den,it 10] (wZ ⟨by omega,hd.2⟩) ?_
 exact jR Tryz.func133
theorem num_large {I:World→Prop} {f:FuncId} {fn:Func} {q:Rat} {x:AV Kn} (hq:¬ Sm q) (hfn:Tryz.prog.funcs[f]?=some fn) (hc:(fn.body.isSome,decide (1≤fn.ntmps),x.noPtr)=(true,true,true))
 (h:∀ w00,I w00→Ok Tryz.prog f w00 (fun v w=>x.holds [] v w) (cI Tryz.prog 1000 (.items [.code (fn.body.getD .skip)] { slots := [.fv (.ag [.lit (.int .i64 0),.lit (.int .i64 0),.ptr 0 0])]++List.replicate (fn.ntmps-1) .un,blocks := [(103,[.lit (.bool (decide (q.num<0))),nts q.num.natAbs,nts q.den])],ro:=1 }))) :
 FitsW Tryz.prog I f [num q] x:=by
 simp only [Prod.mk.injEq] at hc
 intro β w vs hI hv
 obtain ⟨v,rfl,h1⟩:=dL hv
 rcases dH.1 h1 with ⟨h2,_⟩|⟨_,g,s1,s2,rfl,hg,n1,n2⟩
 ·exact absurd h2 hq
 have hb2:fn.body=some (fn.body.getD .skip):=by
  cases hb2:fn.body with
  | none=>rw [hb2] at hc;cases hc.1
  | some c=>rfl
 have hl:holdsL [g] [Seg.lit (.bool (decide (q.num<0))),nts q.num.natAbs,nts q.den] [.bool (decide (q.num<0)),s1,s2] w :=
  ⟨[.bool (decide (q.num<0))],_,rfl,⟨rfl,rfl⟩,[s1],_,rfl,⟨s1,rfl,n1⟩,[s2],[],rfl,⟨s2,rfl,n2⟩,rfl⟩
 refine (eZ (w00:=w) (Out:=fun v w=>x.holds [] v w) hfn hb2 [.fv (.ag [.lit (.int .i64 0),.lit (.int .i64 0),.ptr 0 0])] [(103,[.lit (.bool (decide (q.num<0))),nts q.num.natAbs,nts q.den])] [g] _ (fn.ntmps-1) (by simp at hc;simp;omega)
  ⟨_,[],rfl,⟨[.int .i64 0,.int .i64 0,.pointer (some ⟨g,0,none⟩)],rfl,[_],_,rfl,⟨rfl,rfl⟩,[_],_,rfl,⟨rfl,rfl⟩,[_],[],rfl,⟨g,rfl,rfl⟩,rfl⟩,rfl⟩ rfl (by simp) (fun k T l hk=>?_) (by simp;exact lt_of_block hg) (Ok.go (by kernel_rfl) nC 1000 (h w hI)).good).mono ?_
 ·match k,hk with
  | 0,hk =>
    simp at hk
    obtain ⟨rfl,rfl⟩:=hk
    exact ⟨g,_,rfl,hg,hl⟩
 ·rintro e w' ⟨v,rfl,hb,ho⟩
  exact ⟨v,rfl,hb,AV.noPtr_holds hc.2.2 ho⟩
theorem numTextF {q:Rat} (hq:Lf 20 q) (hs:(decB q.num.natAbs).size≤1000000000):jX 133 [num q] (.tup [.sc (dD (overB q)),.sc (dD (decB q.den))]):=by
 by_cases h:Sm q
 ·intro β w vs hG hv
  obtain ⟨v,r,rfl,h1,h2⟩:=hv
  exact smTextF h β w _ hG ⟨v,r,rfl,(sm_holds h).1 h1,h2⟩
 ·refine num_large h Tryz.func133 (by kernel_rfl) fun w00 hG=>?_
  have hI:=keepGl hG
  refine jK (.binOp .neq 61 (.tmp 5) (.const (.pointer none)) 61) (.tmp 5) (.const (.pointer none)) (.fv (.sc (.ptr 0 0))) (.fv (.sc (.lit (.pointer none)))) (bl true) (fun ρ o β w ho hx hy=>?_) ?_
  ·obtain ⟨g,_,hx⟩:=fQ hx
   have hy:=aO hy
   refine ⟨.bool true,?_,bE rfl⟩
   simp only [execOp,ho,hx,hy]
   exact bH (bL (by kernel_rfl) w)
  refine jW hI 198 [fra q] (fraTextF hq hs) ?_
  exact jR Tryz.func133
theorem trimF {s t:ByteArray} (h:(⟨(Lib.trimPrefix s.data.toList [45]).toArray⟩:ByteArray)=t):jF 134 [tx s,lt ⟨#[45]⟩] (tx t):=by
 intro β w vs hv
 obtain ⟨v,u,rfl,h1,h2⟩:=eF hv
 rw [aQ h1,aO h2]
 refine (Tryz.strings_TrimPrefix s ⟨#[45]⟩ w).mono fun e w' ⟨e1,e2⟩=>⟨_,e1,by rw [e2];exact aB _ _,?_⟩
 rw [← h]
 exact bK
theorem trim_over {q:Rat}:(⟨(Lib.trimPrefix (overB q).data.toList [45]).toArray⟩:ByteArray)=decB q.num.natAbs:=by
 unfold overB
 split
 ·have:(⟨#[45]⟩++decB q.num.natAbs:ByteArray).data.toList=45::Lib.decDigits q.num.natAbs:=by
   simp [decB]
  rw [this]
  simp [Lib.trimPrefix,Lib.hasPrefix,decB]
 ·simp only [decB]
  have hd:=(cG q.num.natAbs).2
  unfold Lib.trimPrefix
  split
  ·rename_i hp
   exfalso
   have h0:=hd.2
   cases hl:Lib.decDigits q.num.natAbs with
   | nil=>exact h0 hl
   | cons c r =>
     rw [hl] at hp
     simp [Lib.hasPrefix] at hp
     have:=hd.1 c (by rw [hl];simp)
     rw [← hp] at this
     revert this
     decide
  ·rfl
theorem len_run {o:Oper} {ρ:Operand→Value} {w:World} {t:Tmp} {T:TypeId} {s:ByteArray} (ho:o.op = .call ⟨.builtin .len,#[.tmp t],#[T]⟩) (hT:Tryz.prog.underlying T=some .string) (hx:ρ (.tmp t) = .string s) :
 (execOp ρ o).run Tryz.prog w = .ok (.value (.int .i64 s.size)) w:=by
 have hm:(#[Operand.tmp t].map ρ) = #[.string s]:=by simp [hx]
 simp only [execOp,ho,resolve,Sem.run_bind,Sem.run_pure,Result.andThen,hm,invoke,builtin,Builtin.len_]
 simp [Sem.run_bind,run_underlying hT,Result.andThen,goInt]
section
variable {f:FuncId} {w00:World} {Out:Value→World→Prop}
theorem klen {c:Cfg Kn} (t:Tmp) (s:ByteArray) (hc:(c.op.map fun o=>o.op,c.okT (.fv (.sc (gC s.size))),c.ev (.tmp t))=(some (.call ⟨.builtin .len,#[.tmp t],#[9]⟩),true,tx s))
 (hg:Ok Tryz.prog f w00 Out (cI Tryz.prog 1000 (c.give (.fv (.sc (gC s.size)))))):Ok Tryz.prog f w00 Out c:=by
 simp only [Prod.mk.injEq] at hc
 obtain ⟨h1,h2,h3⟩:=hc
 exact oZ _ (.tmp t) (.tmp t) (tx s) (tx s) (.fv (.sc (gC s.size))) (by rw [h1,h2,h3]) (by simp [Op.operands,Call.operands]) (by simp [Op.operands,Call.operands])
  (fun ρ o β w ho hx _=>⟨_,len_run ho Tryz.underlying9 (aQ hx),bK⟩) hg
theorem jO{c:Cfg Kn} (t:Tmp) (s:ByteArray)(hg:Ok Tryz.prog f w00 Out (cI Tryz.prog 1000 (c.give (.fv (.sc (gC s.size))))))(hc:(c.op.map fun o=>o.op,c.okT (.fv (.sc (gC s.size))),c.ev (.tmp t))=(some (.call ⟨.builtin .len,#[.tmp t],#[9]⟩),true,tx s):=by kernel_rfl):Ok Tryz.prog f w00 Out c:=klen t s hc hg
end
theorem xA {o:Oper} {ρ:Operand→Value} {w:World} {x y:Operand} {a b:Int} {r:Bool} (ho:o.op = .binOp .gtr 3 x y 3) (hx:ρ x = .int .i64 a) (hy:ρ y = .int .i64 b) (h:decide (b<a)=r) :
 (execOp ρ o).run Tryz.prog w = .ok (.value (.bool r)) w:=by
 simp only [execOp,ho,hx,hy]
 refine bH ?_
 rw [← h]
 exact bL (by kernel_rfl) w
theorem rJ {o:Oper} {ρ:Operand→Value} {w:World} {x y:Operand} {a b:ByteArray} {r:Bool} {T T' : TypeId} (ho:o.op = .binOp .eql T x y T') (hx:ρ x = .string a) (hy:ρ y = .string b) (h:(a.toList==b.toList)=r) :
 (execOp ρ o).run Tryz.prog w = .ok (.value (.bool r)) w:=by
 simp only [execOp,ho,hx,hy]
 refine bH ?_
 rw [← h]
 exact bL (by kernel_rfl) w
def writeB (q:Rat):ByteArray:=if q.den=1 then overB q else overB q++(⟨#[47]⟩++decB q.den)
theorem rK {a k:Nat} (h:a<10^(k+1)):(decB a).size≤k+1:=decB_size h
theorem over_size {q:Rat}:(overB q).size≤(decB q.num.natAbs).size+1:=by
 unfold overB
 split
 ·simp
  have:(⟨#[45]⟩:ByteArray).size=1:=rfl
  omega
 ·omega
theorem uF {n:Nat}:(!((decB n).toList==(⟨#[49]⟩:ByteArray).toList)) = !decide (n=1):=by
 congr 1
 rw [Bool.eq_iff_iff]
 simp only [beq_iff_eq,decide_eq_true_eq]
 rw [Go.ByteArray.toList_eq,Go.ByteArray.toList_eq]
 simp only [decB]
 constructor
 ·intro h
  have:=(cG n).1
  rw [h] at this
  rw [← this]
  rfl
 ·rintro rfl
  exact cN (by omega)
theorem joinedF {q:Rat} (hn:(decB q.num.natAbs).size≤1000000000) (hd:(decB q.den).size≤1000000000):jF 135 [tx (overB q),tx (decB q.den)] (tx (writeB q)):=by
 have hs:=over_size (q:=q)
 have e1:(⟨#[47]⟩:ByteArray).size=1:=rfl
 have hb1:(overB q).size+(⟨#[47]⟩:ByteArray).size≤9223372036854775807:=by omega
 have hb2:(overB q++⟨#[47]⟩:ByteArray).size+(decB q.den).size≤9223372036854775807:=by
  simp
  omega
 by_cases h:q.den=1
 ·have hw:writeB q=overB q:=by rw [writeB,if_pos h]
  have h3:((decB q.den).toList==(⟨#[49]⟩:ByteArray).toList)=true:=by have:=uF (n:=q.den);rw [h] at this ⊢;simpa using this
  rw [hw]
  refine jG Tryz.func135 fun w00=>?_
  refine jK (.binOp .eql 9 (.tmp 5) (.const (.string ⟨#[49]⟩)) 9) (.tmp 5) (.const (.string ⟨#[49]⟩)) (tx (decB q.den)) (lt ⟨#[49]⟩) (bl true) (fun ρ o β w ho hx hy=>⟨_,rJ ho (aQ hx) (aO hy) h3,bE rfl⟩) ?_
  exact jR Tryz.func135
 ·have hw:writeB q=overB q++⟨#[47]⟩++decB q.den:=by rw [writeB,if_neg h,ByteArray.append_assoc]
  have h3:((decB q.den).toList==(⟨#[49]⟩:ByteArray).toList)=false:=by have:=uF (n:=q.den);rw [decide_eq_false h] at this;simpa using this
  rw [hw]
  refine jG Tryz.func135 fun w00=>?_
  refine jK (.binOp .eql 9 (.tmp 5) (.const (.string ⟨#[49]⟩)) 9) (.tmp 5) (.const (.string ⟨#[49]⟩)) (tx (decB q.den)) (lt ⟨#[49]⟩) (bl false) (fun ρ o β w ho hx hy=>⟨_,rJ ho (aQ hx) (aO hy) h3,bE rfl⟩) ?_
  refine jK (.binOp .add 9 (.tmp 8) (.const (.string ⟨#[47]⟩)) 9) (.tmp 8) (.const (.string ⟨#[47]⟩)) (tx (overB q)) (lt ⟨#[47]⟩) (tx (overB q++⟨#[47]⟩)) (fun ρ o β w ho hx hy=>⟨_,gR ho (aQ hx) (aO hy) hb1,bK⟩) ?_
  refine jK (.binOp .add 9 (.tmp 9) (.tmp 10) 9) (.tmp 9) (.tmp 10) (tx (overB q++⟨#[47]⟩)) (tx (decB q.den)) (tx (overB q++⟨#[47]⟩++decB q.den)) (fun ρ o β w ho hx hy=>⟨_,gR ho (aQ hx) (aQ hy) hb2,bK⟩) ?_
  exact jR Tryz.func135
theorem qB {q:Rat} (hq:Lf 20 q) (hn:(decB q.num.natAbs).size≤600) (hd:(decB q.den).size≤600):jX 59 [num q] (.tup [.sc (dD (writeB q)),.sc (.lit (.int .i64 0))]):=by
 have h1:decide ((600:Int)<((decB q.num.natAbs).size:Int))=false:=by simp;omega
 have h2:decide ((600:Int)<((decB q.den).size:Int))=false:=by simp;omega
 refine jY Tryz.func59 fun w00 hI=>?_
 refine jW hI 133 [num q] (numTextF hq (by omega)) ?_
 refine jC 134 [tx (overB q),lt ⟨#[45]⟩] (trimF trim_over) ?_
 refine jO 12 (decB q.num.natAbs) ?_
 refine jK (.binOp .gtr 3 (.tmp 13) (.const (.int .i64 600)) 3) (.tmp 13) (.const (.int .i64 600)) (.fv (.sc (gC (decB q.num.natAbs).size))) (it 600) (bl false) (fun ρ o β w ho hx hy=>⟨_,xA ho (aQ hx) (aO hy) h1,bE rfl⟩) ?_
 refine jO 16 (decB q.den) ?_
 refine jK (.binOp .gtr 3 (.tmp 17) (.const (.int .i64 600)) 3) (.tmp 17) (.const (.int .i64 600)) (.fv (.sc (gC (decB q.den).size))) (it 600) (bl false) (fun ρ o β w ho hx hy=>⟨_,xA ho (aQ hx) (aO hy) h2,bE rfl⟩) ?_
 refine jC 135 [tx (overB q),tx (decB q.den)] (joinedF (by omega) (by omega)) ?_
 exact jR Tryz.func59
end Ab
section
open Go.RowKit Pl
theorem jH (w:World) (s:ByteArray) (pos:Nat):Below w.heap.size w (w.iter s pos):=(aB _ _).alloc (aR _) _
set_option maxRecDepth 100000 in
theorem isDigits_any (s:ByteArray) (w:World) (hd:AllDig (aC s)) (h0:0<s.size):Calls Tryz.prog 119 #[.string s] w fun e w'=>e = .returned (.bool true)∧Below w.heap.size w w':=by
 have hne:(!(s.toList==(⟨#[]⟩:ByteArray).toList))=true:=by
  rw [Go.ByteArray.toList_eq,Go.ByteArray.toList_eq]
  have:s.data.toList≠[]:=fun h=>by
   have h2:(aC s).length=0:=by simp only [aC];rw [h];rfl
   rw [aG] at h2
   omega
  simpa using this
 have H:=aH (aI hd (aI h0 hne))
 clear hd h0 hne
 go_enter Tryz.func119,Tryz.ntmps119
 go_wp2
 go_loopw [4] (fun _ wr => ∃ pos:Nat,wr=w.iter s pos∧pos≤s.size) (fun _ wr=>s.size-wr.iterPos w.heap.size)
 case atStart=>exact ⟨0,rfl,Nat.zero_le _⟩
 case round =>
  obtain ⟨pos,rfl,hpos⟩:=hrel
  by_cases hp:pos<s.size
  ·have hc:48≤(s[pos]'hp).toNat∧(s[pos]'hp).toNat≤57:=by
    have:=H.out.1 (s[pos]'hp) (by
     unfold aC
     rw [Array.mem_toList_iff]
     exact Array.getElem_mem _)
    exact this
   obtain ⟨c,hcc⟩:∃ c,c=(s[pos]'hp).toNat:=⟨_,rfl⟩
   have hnx:∀ ty,(Instr.next (.pointer (some ⟨w.heap.size,0,none⟩)) true ty).run Tryz.prog (w.iter s pos) = .ok (.tuple #[.bool true,.int .i64 pos,.int .i32 (c:Int)]) (w.iter s (pos+1)):=fun ty=>by
    rw [hcc]
    exact run_next_ascii w s pos ty hp (by omega)
   rw [← hcc] at hc
   have k1:(48:Int)≤c:=by omega
   have k2:(c:Int)≤57:=by omega
   have HH:=aH (aI hp hpos)
   clear hc hcc hp hpos
   go_wp2
   go_roundw
   case rel=>exact ⟨pos+1,rfl,HH.out.1⟩
   case measure =>
    have:=HH.out.1
    simp
    omega
  ·have hnx:∀ ty,(Instr.next (.pointer (some ⟨w.heap.size,0,none⟩)) true ty).run Tryz.prog (w.iter s pos)=_:=fun ty=>run_next_end w s pos ty hp
   have hne:=H.out.2.2
   go_wp2
   go_ret
   exact ⟨by simp at hne ⊢;exact hne,jH _ _ _⟩
end
namespace Ab
open Go.RowKit Pl
theorem oU {s:ByteArray} (hd:AllDig (aC s)) (h0:0<s.size):jF 119 [tx s] (bl true):=by
 intro β w vs hv
 obtain ⟨v,rfl,h1⟩:=dL hv
 rw [aQ h1]
 exact (isDigits_any s w hd h0).mono fun e w' ⟨e1,e2⟩=>⟨_,e1,e2,bE rfl⟩
theorem tC {o:Oper} {ρ:Operand→Value} {w:World} {x y:Operand} {s:ByteArray} {i:Nat} {c:UInt8} {T:TypeId} (ho:o.op = .index T x y) (hT:Tryz.prog.underlying T=some .string) (hx:ρ x = .string s) (hy:ρ y = .int .i64 i) (hc:s[i]?=some c) :
 (execOp ρ o).run Tryz.prog w = .ok (.value (.int .u8 c.toNat)) w:=by
 simp only [execOp,ho,hx,hy]
 refine bH ?_
 simp [Instr.index,asIntOf,Sem.run_bind,run_underlying hT,Result.andThen,hc]
theorem xB {o:Oper} {ρ:Operand→Value} {w:World} {x y:Operand} {a b:Int} {r:Bool} {T T' : TypeId} (ho:o.op = .binOp .neq T x y T') (hx:ρ x = .int .u8 a) (hy:ρ y = .int .u8 b) (h:(a != b)=r) :
 (execOp ρ o).run Tryz.prog w = .ok (.value (.bool r)) w:=by
 simp only [execOp,ho,hx,hy]
 refine bH ?_
 rw [← h]
 exact bL (by kernel_rfl) w
theorem intEq_run {o:Oper} {ρ:Operand→Value} {w:World} {x y:Operand} {a b:Int} {r:Bool} {T T' : TypeId} (ho:o.op = .binOp .eql T x y T') (hx:ρ x = .int .i64 a) (hy:ρ y = .int .i64 b) (h:(a==b)=r) :
 (execOp ρ o).run Tryz.prog w = .ok (.value (.bool r)) w:=by
 simp only [execOp,ho,hx,hy]
 refine bH ?_
 rw [← h]
 exact bL (by kernel_rfl) w
abbrev isB (n:Int):Seg Kn := .sp (csIs (.int .u8 n) rfl true (fun _=>rfl))
theorem lO (n:Nat):jF 137 [tx (decB n)] (bl true):=by
 have hd:=cG n
 have hsz:0<(decB n).size:=by
  have:(Lib.decDigits n).length≠0:=fun h=>hd.2.2 (List.eq_nil_of_length_eq_zero h)
  have e:(decB n).size=(Lib.decDigits n).length:=by simp [decB,ByteArray.size]
  omega
 have hlen:0<(Lib.decDigits n).length:=List.length_pos_iff.2 hd.2.2
 obtain ⟨c,hcl⟩:∃ c,(Lib.decDigits n)[0]?=some c:=⟨_,List.getElem?_eq_getElem hlen⟩
 have hc:(decB n)[0]?=some c:=by
  rw [getElem?_pos (decB n) 0 hsz]
  have:(decB n)[0]'hsz=(Lib.decDigits n)[0]'hlen:=by
   first
    | rfl
    | exact List.getElem_toArray _
  rw [this,← hcl,List.getElem?_eq_getElem hlen]
 by_cases h:c=48
 ·have hone:(decB n).size=1:=by
   have h0:n=0:=by
    rcases Nat.eq_zero_or_pos n with e|e
    ·exact e
    ·exfalso
     have:=wF e
     rw [List.head?_eq_getElem?,hcl,h] at this
     exact this rfl
   subst h0
   simp only [decB]
   rw [cN (by omega)]
   rfl
  have h1:(((c.toNat:Nat):Int) != 48)=false:=by rw [h];rfl
  have h2:(((decB n).size:Int)==1)=true:=by rw [hone];rfl
  refine jG Tryz.func137 fun w00=>?_
  refine jC 119 [tx (decB n)] (oU hd.2.1 hsz) ?_
  refine jK (.index 9 (.tmp 6) (.const (.int .i64 0))) (.tmp 6) (.const (.int .i64 0)) (tx (decB n)) (it 0) (.fv (.sc (isB c.toNat))) (fun ρ o β w ho hx hy=>⟨_,tC (i:=0) ho Tryz.underlying9 (aQ hx) (aO hy) hc,bK⟩) ?_
  refine jK (.binOp .neq 5 (.tmp 7) (.const (.int .u8 48)) 5) (.tmp 7) (.const (.int .u8 48)) (.fv (.sc (isB c.toNat))) (.fv (.sc (.lit (.int .u8 48)))) (bl false) (fun ρ o β w ho hx hy=>⟨_,xB ho (aQ hx) (aO hy) h1,bE rfl⟩) ?_
  refine jO 10 (decB n) ?_
  refine jK (.binOp .eql 3 (.tmp 11) (.const (.int .i64 1)) 3) (.tmp 11) (.const (.int .i64 1)) (.fv (.sc (gC (decB n).size))) (it 1) (bl true) (fun ρ o β w ho hx hy=>⟨_,intEq_run ho (aQ hx) (aO hy) h2,bE rfl⟩) ?_
  exact jR Tryz.func137
 ·have h1:(((c.toNat:Nat):Int) != 48)=true:=by
   rw [bne_iff_ne]
   intro e
   exact h (UInt8.toNat_inj.1 (by have:(48:UInt8).toNat=48:=rfl;omega))
  refine jG Tryz.func137 fun w00=>?_
  refine jC 119 [tx (decB n)] (oU hd.2.1 hsz) ?_
  refine jK (.index 9 (.tmp 6) (.const (.int .i64 0))) (.tmp 6) (.const (.int .i64 0)) (tx (decB n)) (it 0) (.fv (.sc (isB c.toNat))) (fun ρ o β w ho hx hy=>⟨_,tC (i:=0) ho Tryz.underlying9 (aQ hx) (aO hy) hc,bK⟩) ?_
  refine jK (.binOp .neq 5 (.tmp 7) (.const (.int .u8 48)) 5) (.tmp 7) (.const (.int .u8 48)) (.fv (.sc (isB c.toNat))) (.fv (.sc (.lit (.int .u8 48)))) (bl true) (fun ρ o β w ho hx hy=>⟨_,xB ho (aQ hx) (aO hy) h1,bE rfl⟩) ?_
  exact jR Tryz.func137
end Ab
namespace Ab
open Go.RowKit Pl
theorem rL:∀ {l:List UInt8},AllDig l→Lib.index l [47] = -1
 | [],_=>rfl
 | c :: l,h=>by
   have hc:=h c (by simp)
   have h2:([47]:List UInt8).isPrefixOf (c::l)=false:=by
    simp [List.isPrefixOf]
    intro e
    rw [← e] at hc
    revert hc
    decide
   unfold Lib.index
   rw [h2,rL (fun d hd=>h d (by simp [hd]))]
   rfl
theorem xC:∀ {l r:List UInt8},AllDig l→Lib.index (l++47::r) [47]=(l.length:Int)
 | [],r,_=>by
   unfold Lib.index
   rfl
 | c :: l,r,h=>by
   have hc:=h c (by simp)
   have h2:([47]:List UInt8).isPrefixOf (c::(l++47::r))=false:=by
    simp [List.isPrefixOf]
    intro e
    rw [← e] at hc
    revert hc
    decide
   have ih:=xC (l:=l) (r:=r) (fun d hd=>h d (by simp [hd]))
   rw [List.cons_append]
   unfold Lib.index
   rw [h2,ih]
   have:((l.length:Int) == -1)=false:=by rw [beq_eq_false_iff_ne];omega
   rw [this]
   simp
def bC (q:Rat):ByteArray:=if q.den=1 then decB q.num.natAbs else decB q.num.natAbs++(⟨#[47]⟩++decB q.den)
theorem ba_ext {a b:ByteArray} (h:a.data.toList=b.data.toList):a=b:=by
 cases a;cases b
 simp only [ByteArray.mk.injEq]
 exact Array.toList_inj.1 h
theorem cU (n:Nat):(decB n).data.toList=Lib.decDigits n:=by simp [decB]
theorem lP {q:Rat} (h:q.num<0):writeB q=⟨#[45]⟩++bC q:=by
 apply ba_ext
 unfold writeB bC overB
 split <;> simp [h]
theorem dU {q:Rat} (h:¬ q.num<0):writeB q=bC q:=by
 unfold writeB bC overB
 simp only [h,if_false]
theorem tD (q:Rat):∃ c r,(bC q).data.toList=c::r∧(48≤c.toNat∧c.toNat≤57):=by
 have hd:=cG q.num.natAbs
 obtain ⟨c,r,hl⟩:∃ c r,Lib.decDigits q.num.natAbs=c::r:=by
  cases h:Lib.decDigits q.num.natAbs with
  | nil=>exact absurd h hd.2.2
  | cons c r=>exact ⟨c,r,rfl⟩
 have hc:=hd.2.1 c (by rw [hl];simp)
 unfold bC
 split
 ·exact ⟨c,r,by rw [cU,hl],hc⟩
 ·exact ⟨c,r++(⟨#[47]⟩++decB q.den:ByteArray).data.toList,by rw [ByteArray.toList_data_append,cU,hl];rfl,hc⟩
theorem mS {q:Rat} {neg:Bool} (hn:decide (q.num<0)=neg):jF 54 [tx (writeB q),lt ⟨#[45]⟩] (.tup [.sc (dD (bC q)),.sc (.lit (.bool neg))]):=by
 intro β w vs hv
 obtain ⟨v,u,rfl,h1,h2⟩:=eF hv
 rw [aQ h1,aO h2]
 have key:(⟨(Lib.trimPrefix (writeB q).data.toList [45]).toArray⟩:ByteArray)=bC q∧Lib.hasPrefix (writeB q).data.toList [45]=neg:=by
  by_cases h:q.num<0
  ·have hneg:neg=true:=by rw [← hn];simpa using h
   rw [lP h,hneg]
   have e:(⟨#[45]⟩++bC q:ByteArray).data.toList=45::(bC q).data.toList:=by rw [ByteArray.toList_data_append];rfl
   rw [e]
   refine ⟨ba_ext (by simp [Lib.trimPrefix,Lib.hasPrefix]),by simp [Lib.hasPrefix]⟩
  ·have hneg:neg=false:=by rw [← hn];simpa using h
   rw [dU h,hneg]
   obtain ⟨c,r,e,hc⟩:=tD q
   have hp:Lib.hasPrefix (bC q).data.toList [45]=false:=by
    rw [e]
    simp [Lib.hasPrefix,List.isPrefixOf]
    intro h45
    rw [← h45] at hc
    revert hc
    decide
   refine ⟨ba_ext (by unfold Lib.trimPrefix;rw [hp];simp),hp⟩
 refine (Tryz.strings_CutPrefix (writeB q) ⟨#[45]⟩ w).mono fun e w' ⟨e1,e2⟩=>⟨_,e1,by rw [e2];exact aB _ _,?_⟩
 rw [show (⟨#[45]⟩:ByteArray).data.toList = [45] from rfl,key.1,key.2]
 exact ⟨[.string (bC q),.bool neg],rfl,_,_,rfl,bK (β:=β),_,_,rfl,⟨rfl,rfl⟩,rfl⟩
theorem cutF {s a b:ByteArray} {r:Bool} (hs:s.size<4294967281) (h:Lib.cut s.data.toList [47]=(a.data.toList,b.data.toList,r)):jX 136 [tx s,lt ⟨#[47]⟩] (.tup [.sc (dD a),.sc (dD b),.sc (.lit (.bool r))]):=by
 intro β w vs hG hv
 obtain ⟨v,u,rfl,h1,h2⟩:=eF hv
 rw [aQ h1,aO h2]
 obtain ⟨m,hm⟩:=hG.2
 refine (Tryz.strings_Cut s ⟨#[47]⟩ m w hs hm).mono fun e w' ⟨e1,n,e2⟩=>⟨_,e1,by rw [e2];exact nL w n,?_⟩
 rw [show (⟨#[47]⟩:ByteArray).data.toList = [47] from rfl,h]
 have ea:(⟨a.data.toList.toArray⟩:ByteArray)=a:=ba_ext (by simp)
 have eb:(⟨b.data.toList.toArray⟩:ByteArray)=b:=ba_ext (by simp)
 simp only [ea,eb]
 exact ⟨[.string a,.string b,.bool r],rfl,_,_,rfl,bK (β:=β),_,_,rfl,bK (β:=β),_,_,rfl,⟨rfl,rfl⟩,rfl⟩
theorem zB {q:Rat} (h:q.den=1):Lib.cut (bC q).data.toList [47]=((decB q.num.natAbs).data.toList,(⟨#[]⟩:ByteArray).data.toList,false):=by
 unfold bC Lib.cut
 rw [if_pos h,cU,rL (cG q.num.natAbs).2.1]
 rfl
theorem zC {q:Rat} (h:q.den≠1):Lib.cut (bC q).data.toList [47]=((decB q.num.natAbs).data.toList,(decB q.den).data.toList,true):=by
 unfold bC Lib.cut
 have e:(decB q.num.natAbs++(⟨#[47]⟩++decB q.den):ByteArray).data.toList=Lib.decDigits q.num.natAbs++47::Lib.decDigits q.den:=by
  rw [ByteArray.toList_data_append,ByteArray.toList_data_append,cU,cU];rfl
 rw [if_neg h,e,xC (cG q.num.natAbs).2.1,if_pos (by omega),cU,cU]
 simp
theorem dF {n:Nat} (h:(decB n).size≤100000):jF 57 [tx (decB n)] (nt n):=by
 intro β w vs hv
 obtain ⟨v,rfl,h1⟩:=dL hv
 rw [aQ h1]
 have e:aC (decB n)=Lib.decDigits n:=cU n
 refine (uT (decB n) w h (by rw [e];exact (cG n).2.1)).mono fun e' w' ⟨u,e1,h1,h2⟩=>⟨u,e1,h2,?_⟩
 rw [e,(cG n).1] at h1
 exact dJ.2 h1
theorem uG:jF 57 [lt ⟨#[49]⟩] (nt 1):=by
 intro β w vs hv
 obtain ⟨v,rfl,h1⟩:=dL hv
 have e:decB 1=⟨#[49]⟩:=by unfold decB;rw [cN (by omega)];rfl
 exact dF (n:=1) (by rw [e];decide) β w _ ⟨v,[],rfl,by rw [aO h1,← e];exact bK,rfl⟩
theorem isOneF {n:Nat} {b:Bool} (h:decide (n=1)=b):jF 124 [nt n] (bl b):=by
 intro β w vs hv
 obtain ⟨v,rfl,h1⟩:=dL hv
 refine (nU (dJ.1 h1)).mono fun e w' ⟨e1,e2⟩=>⟨_,e1,by rw [e2];exact aB _ _,?_⟩
 rw [h]
 exact bE rfl
theorem rM {q:Rat} {neg:Bool} (h:decide (q.num<0)=neg):jF 58 [frv neg q.num.natAbs q.den] (num q):=by
 rw [← h]
 exact iP
section
variable {f:FuncId} {w00:World} {Out:Value→World→Prop}
theorem klenL {c:Cfg Kn} (t:Tmp) (s:ByteArray) (hc:(c.op.map fun o=>o.op,c.okT (.fv (.sc (gC s.size))),c.ev (.tmp t))=(some (.call ⟨.builtin .len,#[.tmp t],#[9]⟩),true,lt s))
 (hg:Ok Tryz.prog f w00 Out (cI Tryz.prog 1000 (c.give (.fv (.sc (gC s.size)))))):Ok Tryz.prog f w00 Out c:=by
 simp only [Prod.mk.injEq] at hc
 obtain ⟨h1,h2,h3⟩:=hc
 exact oZ _ (.tmp t) (.tmp t) (lt s) (lt s) (.fv (.sc (gC s.size))) (by rw [h1,h2,h3]) (by simp [Op.operands,Call.operands]) (by simp [Op.operands,Call.operands])
  (fun ρ o β w ho hx _=>⟨_,len_run ho Tryz.underlying9 (aO hx),bK⟩) hg
theorem kgt {c:Cfg Kn} (t:Tmp) (a b:Int) (r:Bool) (h:decide (b<a)=r) (hc:(c.op.map fun o=>o.op,c.okT (bl r),c.ev (.tmp t),c.ev (.const (.int .i64 b)))=(some (.binOp .gtr 3 (.tmp t) (.const (.int .i64 b)) 3),true,.fv (.sc (gC a)),it b))
 (hg:Ok Tryz.prog f w00 Out (cI Tryz.prog 1000 (c.give (bl r)))):Ok Tryz.prog f w00 Out c :=
 oZ _ (.tmp t) (.const (.int .i64 b)) _ _ (bl r) hc (by simp [Op.operands]) (by simp [Op.operands]) (fun ρ o β w ho hx hy=>⟨_,xA ho (aQ hx) (aO hy) h,bE rfl⟩) hg
theorem jM{c:Cfg Kn} (t:Tmp) (a b:Int) (r:Bool) (h:decide (b<a)=r)(hg:Ok Tryz.prog f w00 Out (cI Tryz.prog 1000 (c.give (bl r))))(hc:(c.op.map fun o=>o.op,c.okT (bl r),c.ev (.tmp t),c.ev (.const (.int .i64 b)))=(some (.binOp .gtr 3 (.tmp t) (.const (.int .i64 b)) 3),true,.fv (.sc (gC a)),it b):=by kernel_rfl):Ok Tryz.prog f w00 Out c :=kgt t a b r h hc hg
theorem kseq {c:Cfg Kn} (t:Tmp) (a b:ByteArray) (r:Bool) (h:(a.toList==b.toList)=r) (hc:(c.op.map fun o=>o.op,c.okT (bl r),c.ev (.tmp t),c.ev (.const (.string b)))=(some (.binOp .eql 9 (.tmp t) (.const (.string b)) 9),true,tx a,lt b))
 (hg:Ok Tryz.prog f w00 Out (cI Tryz.prog 1000 (c.give (bl r)))):Ok Tryz.prog f w00 Out c :=
 oZ _ (.tmp t) (.const (.string b)) _ _ (bl r) hc (by simp [Op.operands]) (by simp [Op.operands]) (fun ρ o β w ho hx hy=>⟨_,rJ ho (aQ hx) (aO hy) h,bE rfl⟩) hg
theorem jQ{c:Cfg Kn} (t:Tmp) (a b:ByteArray) (r:Bool) (h:(a.toList==b.toList)=r)(hg:Ok Tryz.prog f w00 Out (cI Tryz.prog 1000 (c.give (bl r))))(hc:(c.op.map fun o=>o.op,c.okT (bl r),c.ev (.tmp t),c.ev (.const (.string b)))=(some (.binOp .eql 9 (.tmp t) (.const (.string b)) 9),true,tx a,lt b):=by kernel_rfl):Ok Tryz.prog f w00 Out c :=kseq t a b r h hc hg
end
theorem jI {n m:Nat} {b:ByteArray} (hb:decB m=b):((decB n).toList==b.toList)=decide (n=m):=by
 rw [← hb,Go.ByteArray.toList_eq,Go.ByteArray.toList_eq,cU,cU,Bool.eq_iff_iff]
 simp only [beq_iff_eq,decide_eq_true_eq]
 constructor
 ·intro h
  have:=(cG n).1
  rw [h,(cG m).1] at this
  exact this.symm
 ·rintro rfl
  rfl
theorem dec0:decB 0=⟨#[48]⟩:=by unfold decB;rw [cN (by omega)];rfl
theorem dec1:decB 1=⟨#[49]⟩:=by unfold decB;rw [cN (by omega)];rfl
structure Wr (q:Rat):Prop where
 n:(decB q.num.natAbs).size≤600
 d:(decB q.den).size≤600
theorem xD {n k:Nat} (h:(decB n).size≤19*2^k):Lv k n:=by
 have e:aC (decB n)=Lib.decDigits n:=cU n
 have hd:=cG n
 refine lv_pow k (decB n).size h ?_
 have:=fR hd.2.1
 rw [hd.1] at this
 have hl:(decB n).size=(Lib.decDigits n).length:=by rw [← aG,e]
 rw [hl]
 exact this
theorem Wr.lf {q:Rat} (h:Wr q):Lf 5 q:=⟨xD (by have:=h.n;omega),xD (by have:=h.d;omega)⟩
theorem body_size {q:Rat} (h:Wr q):(bC q).size<4294967281:=by
 have h1:=h.n
 have h2:=h.d
 have:(⟨#[47]⟩:ByteArray).size=1:=rfl
 unfold bC
 split <;> simp <;> omega
theorem zD {q:Rat} (h:Wr q):jX 65 [tx (writeB q)] (.tup [.ag [nb q],.sc (.lit (.int .i64 0))]):=by
 have g1:decide ((600:Int)<((decB q.num.natAbs).size:Int))=false:=by have:=h.n;simp;omega
 have g2:decide ((600:Int)<((decB q.den).size:Int))=false:=by have:=h.d;simp;omega
 have g3:decide ((600:Int)<(((⟨#[49]⟩:ByteArray).size:Nat):Int))=false:=by decide
 have hsz:=body_size h
 have s1:=h.n
 have s2:=h.d
 by_cases hn:q.num<0
 ·have hneg:decide (q.num<0)=true:=by simpa using hn
  have hz:((decB q.num.natAbs).toList==(⟨#[48]⟩:ByteArray).toList)=false:=by rw [jI dec0,decide_eq_false_iff_not];omega
  by_cases hd:q.den=1
  ·skip
   refine jY Tryz.func65 fun w00 hI=>?_
   refine jC 54 [tx (writeB q),lt ⟨#[45]⟩] (mS hneg) ?_
   refine jW hI 136 [tx (bC q),lt ⟨#[47]⟩] (cutF (a:=decB q.num.natAbs) (b:=⟨#[]⟩) (r:=false) hsz (zB hd)) ?_
   refine jC 137 [tx (decB q.num.natAbs)] (lO _) ?_
   refine jQ 31 (decB q.num.natAbs) ⟨#[48]⟩ false hz ?_
   refine jO 53 (decB q.num.natAbs) ?_
   refine jM 54 (decB q.num.natAbs).size 600 false g1 ?_
   refine klenL 57 ⟨#[49]⟩ (by kernel_rfl) ?_
   refine jM 58 ((⟨#[49]⟩:ByteArray).size:Nat) 600 false g3 ?_
   refine jC 57 [tx (decB q.num.natAbs)] (dF (by omega)) ?_
   refine jC 57 [lt ⟨#[49]⟩] (uG) ?_
   refine jC 58 [frv true q.num.natAbs 1] ((by rw [← hd];exact rM hneg)) ?_
   exact jR Tryz.func65
  ·skip
   have y0:((decB q.den).toList==(⟨#[48]⟩:ByteArray).toList)=false:=by rw [jI dec0,decide_eq_false_iff_not];have:=q.den_pos;omega
   have y1:((decB q.den).toList==(⟨#[49]⟩:ByteArray).toList)=false:=by rw [jI dec1];simpa using hd
   refine jY Tryz.func65 fun w00 hI=>?_
   refine jC 54 [tx (writeB q),lt ⟨#[45]⟩] (mS hneg) ?_
   refine jW hI 136 [tx (bC q),lt ⟨#[47]⟩] (cutF (a:=decB q.num.natAbs) (b:=decB q.den) (r:=true) hsz (zC hd)) ?_
   refine jC 137 [tx (decB q.num.natAbs)] (lO _) ?_
   refine jQ 31 (decB q.num.natAbs) ⟨#[48]⟩ false hz ?_
   refine jC 137 [tx (decB q.den)] (lO _) ?_
   refine jQ 43 (decB q.den) ⟨#[48]⟩ false y0 ?_
   refine jQ 47 (decB q.den) ⟨#[49]⟩ false y1 ?_
   refine jO 53 (decB q.num.natAbs) ?_
   refine jM 54 (decB q.num.natAbs).size 600 false g1 ?_
   refine jO 57 (decB q.den) ?_
   refine jM 58 (decB q.den).size 600 false g2 ?_
   refine jC 57 [tx (decB q.num.natAbs)] (dF (by omega)) ?_
   refine jC 57 [tx (decB q.den)] (dF (by omega)) ?_
   refine jC 125 [nt q.num.natAbs,nt q.den] (xZ (h.lf.1.mono (by decide)) (h.lf.2.mono (by decide)) (.inr q.den_pos)) ?_
   refine jC 124 [nt (Nat.gcd q.num.natAbs q.den)] (isOneF (b:=true) (by rw [decide_eq_true_eq];exact q.reduced)) ?_
   refine jC 58 [frv true q.num.natAbs q.den] (rM hneg) ?_
   exact jR Tryz.func65
 ·have hneg:decide (q.num<0)=false:=by simpa using hn
  by_cases hd:q.den=1
  ·skip
   refine jY Tryz.func65 fun w00 hI=>?_
   refine jC 54 [tx (writeB q),lt ⟨#[45]⟩] (mS hneg) ?_
   refine jW hI 136 [tx (bC q),lt ⟨#[47]⟩] (cutF (a:=decB q.num.natAbs) (b:=⟨#[]⟩) (r:=false) hsz (zB hd)) ?_
   refine jC 137 [tx (decB q.num.natAbs)] (lO _) ?_
   refine jO 53 (decB q.num.natAbs) ?_
   refine jM 54 (decB q.num.natAbs).size 600 false g1 ?_
   refine klenL 57 ⟨#[49]⟩ (by kernel_rfl) ?_
   refine jM 58 ((⟨#[49]⟩:ByteArray).size:Nat) 600 false g3 ?_
   refine jC 57 [tx (decB q.num.natAbs)] (dF (by omega)) ?_
   refine jC 57 [lt ⟨#[49]⟩] (uG) ?_
   refine jC 58 [frv false q.num.natAbs 1] ((by rw [← hd];exact rM hneg)) ?_
   exact jR Tryz.func65
  ·skip
   have y0:((decB q.den).toList==(⟨#[48]⟩:ByteArray).toList)=false:=by rw [jI dec0,decide_eq_false_iff_not];have:=q.den_pos;omega
   have y1:((decB q.den).toList==(⟨#[49]⟩:ByteArray).toList)=false:=by rw [jI dec1];simpa using hd
   refine jY Tryz.func65 fun w00 hI=>?_
   refine jC 54 [tx (writeB q),lt ⟨#[45]⟩] (mS hneg) ?_
   refine jW hI 136 [tx (bC q),lt ⟨#[47]⟩] (cutF (a:=decB q.num.natAbs) (b:=decB q.den) (r:=true) hsz (zC hd)) ?_
   refine jC 137 [tx (decB q.num.natAbs)] (lO _) ?_
   refine jC 137 [tx (decB q.den)] (lO _) ?_
   refine jQ 43 (decB q.den) ⟨#[48]⟩ false y0 ?_
   refine jQ 47 (decB q.den) ⟨#[49]⟩ false y1 ?_
   refine jO 53 (decB q.num.natAbs) ?_
   refine jM 54 (decB q.num.natAbs).size 600 false g1 ?_
   refine jO 57 (decB q.den) ?_
   refine jM 58 (decB q.den).size 600 false g2 ?_
   refine jC 57 [tx (decB q.num.natAbs)] (dF (by omega)) ?_
   refine jC 57 [tx (decB q.den)] (dF (by omega)) ?_
   refine jC 125 [nt q.num.natAbs,nt q.den] (xZ (h.lf.1.mono (by decide)) (h.lf.2.mono (by decide)) (.inr q.den_pos)) ?_
   refine jC 124 [nt (Nat.gcd q.num.natAbs q.den)] (isOneF (b:=true) (by rw [decide_eq_true_eq];exact q.reduced)) ?_
   refine jC 58 [frv false q.num.natAbs q.den] (rM hneg) ?_
   exact jR Tryz.func65
abbrev z0:Seg Kn := .lit (.int .i64 0)
theorem gS {T:TypeId}:jF 66 [.fv (.nsl 2 T [z0,z0])] (it 0):=by
 refine kgoS Tryz.func66 (by kernel_rfl) fun w00=>?_
 exact jR Tryz.func66
theorem first3F {T:TypeId}:jF 66 [.fv (.nsl 3 T [z0,z0,z0])] (it 0):=by
 refine kgoS Tryz.func66 (by kernel_rfl) fun w00=>?_
 exact jR Tryz.func66
theorem first4F {T:TypeId}:jF 66 [.fv (.nsl 4 T [z0,z0,z0,z0])] (it 0):=by
 refine kgoS Tryz.func66 (by kernel_rfl) fun w00=>?_
 exact jR Tryz.func66
abbrev vS (a b c:Rat):AV Kn := .fv (.ag [dD (writeB a),dD (writeB b),dD (writeB c)])
abbrev okV (a b c:Rat):AV Kn := .tup [.ag [nb a,nb b,nb c],.sc z0]
abbrev mT (a b c:Rat):Prop:=Wr a∧Wr b∧Wr c
theorem fX {a b c:Rat} (h:mT a b c):jX 31 [vS a b c] (okV a b c):=by
 refine jY Tryz.func31 fun w00 hI=>?_
 refine jW hI 65 [tx (writeB a)] (zD h.1) ?_
 refine jW hI 65 [tx (writeB b)] (zD h.2.1) ?_
 refine jW hI 65 [tx (writeB c)] (zD h.2.2) ?_
 refine kcallS 66 3 3 134 [z0,z0,z0] (first3F) (by kernel_rfl) Tryz.call66 ?_
 exact jR Tryz.func31
theorem tE {a b c:Rat} (h:mT a b c) (ha:Lf 20 a) (hb:Lf 20 b) (hc:Lf 20 c):jX 33 [vc a b c] (.tup [.ag [dD (writeB a),dD (writeB b),dD (writeB c)],.sc z0]):=by
 refine jY Tryz.func33 fun w00 hI=>?_
 refine jW hI 59 [num a] (qB ha h.1.n h.1.d) ?_
 refine jW hI 59 [num b] (qB hb h.2.1.n h.2.1.d) ?_
 refine jW hI 59 [num c] (qB hc h.2.2.n h.2.2.d) ?_
 exact jR Tryz.func33
section
variable {a b c x y z u v d e:Rat}
theorem readRV (h:Wr a) (k:mT x y z):jX 72 [gE 65,tx (writeB a),gE 31,vS x y z] (.tup [.ag [nb a],.ag [nb x,nb y,nb z],.sc z0]):=by
 refine jY Tryz.func72 fun w00 hI=>?_
 refine jW hI 65 [tx (writeB a)] (zD h) ?_
 refine jW hI 31 [vS x y z] (fX k) ?_
 refine jC 66 [.fv (.nsl 2 34 [z0,z0])] (gS) ?_
 exact jR Tryz.func72
theorem readVV (h:mT a b c) (k:mT x y z):jX 60 [gE 31,vS a b c,gE 31,vS x y z] (.tup [.ag [nb a,nb b,nb c],.ag [nb x,nb y,nb z],.sc z0]):=by
 refine jY Tryz.func60 fun w00 hI=>?_
 refine jW hI 31 [vS a b c] (fX h) ?_
 refine jW hI 31 [vS x y z] (fX k) ?_
 refine jC 66 [.fv (.nsl 2 34 [z0,z0])] (gS) ?_
 exact jR Tryz.func60
theorem readVR (h:mT a b c) (k:Wr d):jX 64 [gE 31,vS a b c,gE 65,tx (writeB d)] (.tup [.ag [nb a,nb b,nb c],.ag [nb d],.sc z0]):=by
 refine jY Tryz.func64 fun w00 hI=>?_
 refine jW hI 31 [vS a b c] (fX h) ?_
 refine jW hI 65 [tx (writeB d)] (zD k) ?_
 refine jC 66 [.fv (.nsl 2 34 [z0,z0])] (gS) ?_
 exact jR Tryz.func64
abbrev uH (q:Rat):AV Kn := .tup [.sc (dD (writeB q)),.sc z0]
abbrev fN (a b c:Rat):AV Kn := .tup [.ag [dD (writeB a),dD (writeB b),dD (writeB c)],.sc z0]
theorem apiAlongF (h:mT a b c) (k:mT x y z) (h0:(decide (a=0)&&decide (b=0)&&decide (c=0))=false) (hc:(decide (b*z-c*y=0)&&decide (c*x-a*z=0)&&decide (a*y-b*x=0))=true)
 (hs:dt a b c a b c≠0) (hr:Wr (dt x y z a b c/dt a b c a b c)):jX 18 [vS a b c,vS x y z] (uH (dt x y z a b c/dt a b c a b c)):=by
 have l1:=h.1.lf
 have l2:=h.2.1.lf
 have l3:=h.2.2.lf
 have m1:=k.1.lf
 have m2:=k.2.1.lf
 have m3:=k.2.2.lf
 refine jY Tryz.func18 fun w00 hI=>?_
 refine jW hI 60 [gE 31,vS a b c,gE 31,vS x y z] (readVV h k) ?_
 refine jC 61 [vc a b c] (gW h0) ?_
 refine jC 62 [vc a b c,vc x y z] (crossF (l1.mono (by decide)) (l2.mono (by decide)) (l3.mono (by decide)) (m1.mono (by decide)) (m2.mono (by decide)) (m3.mono (by decide))) ?_
 refine jC 61 [vc (b*z-c*y) (c*x-a*z) (a*y-b*x)] (gW hc) ?_
 refine jC 45 [vc x y z,vc a b c] (nF (m1.mono (by decide)) (m2.mono (by decide)) (m3.mono (by decide)) (l1.mono (by decide)) (l2.mono (by decide)) (l3.mono (by decide))) ?_
 refine jC 63 [vc a b c] (oT (l1.mono (by decide)) (l2.mono (by decide)) (l3.mono (by decide))) ?_
 refine jC 42 [num (dt x y z a b c),num (dt a b c a b c)] (lK (iH (n:=38) (m1.mono (by decide)) (m2.mono (by decide)) (m3.mono (by decide)) (l1.mono (by decide)) (l2.mono (by decide)) (l3.mono (by decide)) (by decide)) (iH (n:=38) (l1.mono (by decide)) (l2.mono (by decide)) (l3.mono (by decide)) (l1.mono (by decide)) (l2.mono (by decide)) (l3.mono (by decide)) (by decide)) hs) ?_
 refine jW hI 59 [num (dt x y z a b c/dt a b c a b c)] (qB (hr.lf.mono (by decide)) hr.n hr.d) ?_
 exact jR Tryz.func18
end
def wn (q:Rat) (n:Nat):Nat:=if q=0 then n else Nat.gcd q.num.natAbs n
def wd (q:Rat) (d:Nat):Nat:=if q=0 then d else d*(q.den/Nat.gcd q.den d)
def bB (a b c:Rat):Rat:=mkRat (sg false (wd c (wd b (wd a 1)))) (wn c (wn b (wn a 0)))
theorem mU {q:Rat} {n:Nat} (h:q≠0):0<wn q n:=by
 unfold wn
 rw [if_neg h]
 have:0<q.num.natAbs:=by
  have:q.num≠0:=fun e=>h (Rat.num_eq_zero.1 e)
  omega
 exact Nat.gcd_pos_of_pos_left _ this
theorem iQ {q:Rat} {n:Nat} (h:0<n):0<wn q n:=by
 unfold wn
 split
 ·exact h
 ·exact Nat.gcd_pos_of_pos_right _ h
theorem wd_pos {q:Rat} {d:Nat} (h:0<d):0<wd q d:=by
 unfold wd
 split
 ·exact h
 ·have h1:=q.den_pos
  have:=Nat.div_pos (Nat.le_of_dvd h1 (Nat.gcd_dvd_left q.den d)) (Nat.gcd_pos_of_pos_left d h1)
  exact Nat.mul_pos h this
theorem zE {q:Rat} {n k:Nat} (hq:Lf k q) (hn:Lv k n):Lv k (wn q n):=by
 unfold wn
 split
 ·exact hn
 ·rename_i h
  have:q.num≠0:=fun e=>h (Rat.num_eq_zero.1 e)
  exact hq.1.le (Nat.gcd_le_left _ (by omega))
theorem zF {q:Rat} {d k:Nat} (hq:Lf k q) (hd:Lv k d):Lv (k+1) (wd q d):=by
 unfold wd
 split
 ·exact hd.mono (by omega)
 ·exact hd.mul (hq.2.le (Nat.div_le_self _ _))
theorem nil_nt {β:List Nat} {v:Value} {w:World} (h:(AV.fv (.sc (.lit (.slice none 0 0))):AV Kn).holds β v w):(nt 0).holds β v w:=by
 rw [aO h]
 exact dJ.2 (Nt.zero w)
theorem num_ne {q:Rat} (h:¬ q=0):0<q.num.natAbs:=by
 have:q.num≠0:=fun e=>h (Rat.num_eq_zero.1 e)
 omega
section
variable {q a b c:Rat} {n n' d d' : Nat}
theorem gcdW (hq:¬ q=0) (lq:Lf 30 q) (ln:Lv 30 n) (hn:wn q n=n'):jF 125 [nt q.num.natAbs,nt n] (nt n'):=by
 subst hn
 unfold wn
 rw [if_neg hq]
 exact xZ (lq.1.mono (by omega)) (ln.mono (by omega)) (.inl (num_ne hq))
theorem gcdW0 (hq:¬ q=0) (lq:Lf 30 q) (hn:wn q 0=n'):jF 125 [nt q.num.natAbs,.fv (.sc (.lit (.slice none 0 0)))] (nt n') :=
 Fits.args (gcdW hq lq (Lv.one _ (by rw [aL];omega)) hn) (fun β vs w ⟨v,r,e,k1,⟨v2,r2,e2,k2,k3⟩⟩=>⟨v,r,e,k1,v2,r2,e2,nil_nt k2,k3⟩)
theorem qC (hq:¬ q=0) (lq:Lf 32 q) (ld:Lv 32 d) (hd:wd q d=d'):jF 128 [nt d,nt (q.den/Nat.gcd q.den d)] (nt d'):=by
 subst hd
 unfold wd
 rw [if_neg hq]
 exact ntimesF (ld.mono (by omega)) ((lq.2.mono (by omega)).le (Nat.div_le_self _ _))
set_option maxRecDepth 100000 in
theorem wholeF (la:Lf 30 a) (lb:Lf 30 b) (lc:Lf 30 c) (h:¬ (a=0∧b=0∧c=0)):jF 168 [vc a b c] (num (bB a b c)):=by
 obtain ⟨d0,e0⟩:∃ d,d=1:=⟨_,rfl⟩
 obtain ⟨n1,f1⟩:∃ n,wn a 0=n:=⟨_,rfl⟩
 obtain ⟨d1,e1⟩:∃ d,wd a d0=d:=⟨_,rfl⟩
 obtain ⟨n2,f2⟩:∃ n,wn b n1=n:=⟨_,rfl⟩
 obtain ⟨d2,e2⟩:∃ d,wd b d1=d:=⟨_,rfl⟩
 obtain ⟨n3,f3⟩:∃ n,wn c n2=n:=⟨_,rfl⟩
 obtain ⟨d3,e3⟩:∃ d,wd c d2=d:=⟨_,rfl⟩
 have hw:bB a b c=mkRat (sg false d3) n3:=by
  subst e0 e1 e2 e3 f1 f2 f3
  rfl
 have hN:0<n3:=by
  rw [← f3,← f2,← f1]
  by_cases hc:c=0
  ·by_cases hb:b=0
   ·exact iQ (iQ (mU fun ha=>h ⟨ha,hb,hc⟩))
   ·exact iQ (mU hb)
  ·exact mU hc
 have ln1:Lv 30 n1:=f1▸zE la (Lv.one _ (by rw [aL];omega))
 have ln2:Lv 30 n2:=f2▸zE lb ln1
 have ln3:Lv 30 n3:=f3▸zE lc ln2
 have ld0:Lv 30 d0:=e0▸Lv.one _ (by rw [aL];omega)
 have ld1:Lv 31 d1:=e1▸zF la ld0
 have ld2:Lv 32 d2:=e2▸zF (lb.mono (by decide)) ld1
 have ld3:Lv 33 d3:=e3▸zF (lc.mono (by decide)) ld2
 have kN:jF 129 [.fv (.sc (.lit (.int .u64 ((1:Nat):Int))))] (nt d0):=e0▸naturalOfF (by rw [aL];omega)
 have zt:∀ {x:Rat},x=0→jF 73 [num x] (bl true):=fun h=>kG (by simpa using h)
 have zf:∀ {x:Rat},¬ x=0→jF 73 [num x] (bl false):=fun h=>kG (by simpa using h)
 rw [hw]
 clear hw e0
 refine jG Tryz.func168 fun w00=>?_
 refine jC 129 [.fv (.sc (.lit (.int .u64 ((1:Nat):Int))))] (kN) ?_
 clear kN
 by_cases ha:a=0
 ·refine jC 73 [num a] (zt ha) ?_
  obtain rfl:n1=0:=by rw [← f1,wn,if_pos ha]
  obtain rfl:d1=d0:=by rw [← e1,wd,if_pos ha]
  by_cases hb:b=0
  ·refine jC 73 [num b] (zt hb) ?_
   obtain rfl:n2=0:=by rw [← f2,wn,if_pos hb]
   obtain rfl:d2=d1:=by rw [← e2,wd,if_pos hb]
   by_cases hc:c=0
   ·exact absurd ⟨ha,hb,hc⟩ h
   ·refine jC 73 [num c] (zf hc) ?_
    refine jC 106 [num c] (eC) ?_
    refine jC 125 [nt c.num.natAbs,.fv (.sc (.lit (.slice none 0 0)))] (gcdW0 hc lc f3) ?_
    refine jC 125 [nt c.den,nt d2] (xZ (lc.2.mono (by omega)) (ld2.mono (by omega)) (.inl c.den_pos)) ?_
    refine jC 126 [nt c.den,nt (Nat.gcd c.den d2)] (jE (lc.2.mono (by omega)) (Nat.gcd_pos_of_pos_left _ c.den_pos)) ?_
    refine jC 128 [nt d2,nt (c.den/Nat.gcd c.den d2)] (qC hc (lc.mono (by decide)) (ld2.mono (by omega)) e3) ?_
    refine jC 56 [bl false,nt d3,nt n3] (nY (ld3.mono (by omega)) (ln3.mono (by omega)) hN) ?_
    refine jC 58 [fra (mkRat (sg false d3) n3)] (iP) ?_
    exact jR Tryz.func168
  ·refine jC 73 [num b] (zf hb) ?_
   refine jC 106 [num b] (eC) ?_
   refine jC 125 [nt b.num.natAbs,.fv (.sc (.lit (.slice none 0 0)))] (gcdW0 hb lb f2) ?_
   refine jC 125 [nt b.den,nt d1] (xZ (lb.2.mono (by omega)) (ld1.mono (by omega)) (.inl b.den_pos)) ?_
   refine jC 126 [nt b.den,nt (Nat.gcd b.den d1)] (jE (lb.2.mono (by omega)) (Nat.gcd_pos_of_pos_left _ b.den_pos)) ?_
   refine jC 128 [nt d1,nt (b.den/Nat.gcd b.den d1)] (qC hb (lb.mono (by decide)) (ld1.mono (by omega)) e2) ?_
   by_cases hc:c=0
   ·refine jC 73 [num c] (zt hc) ?_
    obtain rfl:n3=n2:=by rw [← f3,wn,if_pos hc]
    obtain rfl:d3=d2:=by rw [← e3,wd,if_pos hc]
    refine jC 56 [bl false,nt d3,nt n3] (nY (ld3.mono (by omega)) (ln3.mono (by omega)) hN) ?_
    refine jC 58 [fra (mkRat (sg false d3) n3)] (iP) ?_
    exact jR Tryz.func168
   ·refine jC 73 [num c] (zf hc) ?_
    refine jC 106 [num c] (eC) ?_
    refine jC 125 [nt c.num.natAbs,nt n2] (gcdW hc lc ln2 f3) ?_
    refine jC 125 [nt c.den,nt d2] (xZ (lc.2.mono (by omega)) (ld2.mono (by omega)) (.inl c.den_pos)) ?_
    refine jC 126 [nt c.den,nt (Nat.gcd c.den d2)] (jE (lc.2.mono (by omega)) (Nat.gcd_pos_of_pos_left _ c.den_pos)) ?_
    refine jC 128 [nt d2,nt (c.den/Nat.gcd c.den d2)] (qC hc (lc.mono (by decide)) (ld2.mono (by omega)) e3) ?_
    refine jC 56 [bl false,nt d3,nt n3] (nY (ld3.mono (by omega)) (ln3.mono (by omega)) hN) ?_
    refine jC 58 [fra (mkRat (sg false d3) n3)] (iP) ?_
    exact jR Tryz.func168
 ·refine jC 73 [num a] (zf ha) ?_
  refine jC 106 [num a] (eC) ?_
  refine jC 125 [nt a.num.natAbs,.fv (.sc (.lit (.slice none 0 0)))] (gcdW0 ha la f1) ?_
  refine jC 125 [nt a.den,nt d0] (xZ (la.2.mono (by omega)) (ld0.mono (by omega)) (.inl a.den_pos)) ?_
  refine jC 126 [nt a.den,nt (Nat.gcd a.den d0)] (jE (la.2.mono (by omega)) (Nat.gcd_pos_of_pos_left _ a.den_pos)) ?_
  refine jC 128 [nt d0,nt (a.den/Nat.gcd a.den d0)] (qC ha (la.mono (by decide)) (ld0.mono (by omega)) e1) ?_
  by_cases hb:b=0
  ·refine jC 73 [num b] (zt hb) ?_
   obtain rfl:n2=n1:=by rw [← f2,wn,if_pos hb]
   obtain rfl:d2=d1:=by rw [← e2,wd,if_pos hb]
   by_cases hc:c=0
   ·refine jC 73 [num c] (zt hc) ?_
    obtain rfl:n3=n2:=by rw [← f3,wn,if_pos hc]
    obtain rfl:d3=d2:=by rw [← e3,wd,if_pos hc]
    refine jC 56 [bl false,nt d3,nt n3] (nY (ld3.mono (by omega)) (ln3.mono (by omega)) hN) ?_
    refine jC 58 [fra (mkRat (sg false d3) n3)] (iP) ?_
    exact jR Tryz.func168
   ·refine jC 73 [num c] (zf hc) ?_
    refine jC 106 [num c] (eC) ?_
    refine jC 125 [nt c.num.natAbs,nt n2] (gcdW hc lc ln2 f3) ?_
    refine jC 125 [nt c.den,nt d2] (xZ (lc.2.mono (by omega)) (ld2.mono (by omega)) (.inl c.den_pos)) ?_
    refine jC 126 [nt c.den,nt (Nat.gcd c.den d2)] (jE (lc.2.mono (by omega)) (Nat.gcd_pos_of_pos_left _ c.den_pos)) ?_
    refine jC 128 [nt d2,nt (c.den/Nat.gcd c.den d2)] (qC hc (lc.mono (by decide)) (ld2.mono (by omega)) e3) ?_
    refine jC 56 [bl false,nt d3,nt n3] (nY (ld3.mono (by omega)) (ln3.mono (by omega)) hN) ?_
    refine jC 58 [fra (mkRat (sg false d3) n3)] (iP) ?_
    exact jR Tryz.func168
  ·refine jC 73 [num b] (zf hb) ?_
   refine jC 106 [num b] (eC) ?_
   refine jC 125 [nt b.num.natAbs,nt n1] (gcdW hb lb ln1 f2) ?_
   refine jC 125 [nt b.den,nt d1] (xZ (lb.2.mono (by omega)) (ld1.mono (by omega)) (.inl b.den_pos)) ?_
   refine jC 126 [nt b.den,nt (Nat.gcd b.den d1)] (jE (lb.2.mono (by omega)) (Nat.gcd_pos_of_pos_left _ b.den_pos)) ?_
   refine jC 128 [nt d1,nt (b.den/Nat.gcd b.den d1)] (qC hb (lb.mono (by decide)) (ld1.mono (by omega)) e2) ?_
   by_cases hc:c=0
   ·refine jC 73 [num c] (zt hc) ?_
    obtain rfl:n3=n2:=by rw [← f3,wn,if_pos hc]
    obtain rfl:d3=d2:=by rw [← e3,wd,if_pos hc]
    refine jC 56 [bl false,nt d3,nt n3] (nY (ld3.mono (by omega)) (ln3.mono (by omega)) hN) ?_
    refine jC 58 [fra (mkRat (sg false d3) n3)] (iP) ?_
    exact jR Tryz.func168
   ·refine jC 73 [num c] (zf hc) ?_
    refine jC 106 [num c] (eC) ?_
    refine jC 125 [nt c.num.natAbs,nt n2] (gcdW hc lc ln2 f3) ?_
    refine jC 125 [nt c.den,nt d2] (xZ (lc.2.mono (by omega)) (ld2.mono (by omega)) (.inl c.den_pos)) ?_
    refine jC 126 [nt c.den,nt (Nat.gcd c.den d2)] (jE (lc.2.mono (by omega)) (Nat.gcd_pos_of_pos_left _ c.den_pos)) ?_
    refine jC 128 [nt d2,nt (c.den/Nat.gcd c.den d2)] (qC hc (lc.mono (by decide)) (ld2.mono (by omega)) e3) ?_
    refine jC 56 [bl false,nt d3,nt n3] (nY (ld3.mono (by omega)) (ln3.mono (by omega)) hN) ?_
    refine jC 58 [fra (mkRat (sg false d3) n3)] (iP) ?_
    exact jR Tryz.func168
end
section
variable {n1 n2 n3 d k:Rat} {z1 z2 z3:Int}
theorem mkRat_le (n:Int) {d:Nat} (hd:0<d):(mkRat n d).num.natAbs≤n.natAbs∧(mkRat n d).den≤d:=by
 rw [Rat.num_mkRat,Rat.den_mkRat,if_neg (by omega),if_neg (by omega)]
 exact ⟨Int.natAbs_ediv_le_natAbs _ _,Nat.div_le_self _ _⟩
theorem lf_whole {a b c:Rat} (la:Lf 30 a) (lb:Lf 30 b) (lc:Lf 30 c) (h:¬ (a=0∧b=0∧c=0)):Lf 33 (bB a b c):=by
 have hN:0<wn c (wn b (wn a 0)):=by
  by_cases ha:a=0
  ·by_cases hb:b=0
   ·exact mU (fun hc=>h ⟨ha,hb,hc⟩)
   ·exact iQ (mU hb)
  ·exact iQ (iQ (mU ha))
 have l1:Lv 33 (wd c (wd b (wd a 1))):=zF (lc.mono (by decide)) (zF (lb.mono (by decide)) (zF (k:=30) la (Lv.one _ (by rw [aL];omega))))
 have l2:Lv 33 (wn c (wn b (wn a 0))):=(zE lc (zE lb (zE la (n:=0) (Lv.one _ (by rw [aL];omega))))).mono (by omega)
 have hm:=mkRat_le (sg false (wd c (wd b (wd a 1)))) hN
 have e:(sg false (wd c (wd b (wd a 1)))).natAbs=wd c (wd b (wd a 1)):=by simp [sg]
 rw [e] at hm
 exact ⟨l1.le hm.1,l2.le hm.2⟩
theorem reducedF (l1:Lf 30 n1) (l2:Lf 30 n2) (l3:Lf 30 n3) (ld:Lf 38 d) (h:¬ (n1=0∧n2=0∧n3=0)) :
 jF 109 [hf n1 n2 n3 d] (hf (bB n1 n2 n3*n1) (bB n1 n2 n3*n2) (bB n1 n2 n3*n3) (d*bB n1 n2 n3)):=by
 have lk:=(lf_whole l1 l2 l3 h).mono (l:=38) (by decide)
 refine jG Tryz.func109 fun w00=>?_
 refine jC 168 [vc n1 n2 n3] (wholeF l1 l2 l3 h) ?_
 refine jC 70 [vc n1 n2 n3,num (bB n1 n2 n3)] (fW lk (l1.mono (by decide)) (l2.mono (by decide)) (l3.mono (by decide))) ?_
 refine jC 100 [num d,num (bB n1 n2 n3)] (eY ld lk) ?_
 exact jR Tryz.func109
abbrev hfI (z1 z2 z3:Int) (d:Rat):AV Kn := .fv (.ag [.lit (.int .i64 z1),z0,.lit (.pointer none),.lit (.int .i64 z2),z0,.lit (.pointer none),.lit (.int .i64 z3),z0,.lit (.pointer none),nb d])
abbrev Sz (z:Int):Prop := -999999999≤z∧z≤999999999
theorem nb_int {z:Int} (hz:Sz z) {cs:List Value} {w:World} (h:(csNb (z:Rat)).pred cs w):cs = [.int .i64 z,.int .i64 0,.pointer none]:=by
 have hm:Sm (z:Rat):=by
  constructor
  ·rw [Rat.num_intCast,dM];omega
  ·rw [Rat.den_intCast,dM];omega
 rcases h with ⟨_,e⟩|⟨h2,_⟩
 ·injection e with e
  have:=congrArg Array.toList e
  simpa using this
 ·exact absurd hm h2
theorem hf_int {β:List Nat} {v:Value} {w:World} {q1 q2 q3:Rat} (e1:q1=z1) (e2:q2=z2) (e3:q3=z3) (h1:Sz z1) (h2:Sz z2) (h3:Sz z3) (h:(hf q1 q2 q3 d).holds β v w):(hfI z1 z2 z3 d).holds β v w:=by
 subst e1
 subst e2
 subst e3
 obtain ⟨cs,rfl,x1,r1,rfl,k1,x2,r2,rfl,k2,x3,r3,rfl,k3,hr⟩:=h
 rw [nb_int h1 k1,nb_int h2 k2,nb_int h3 k3]
 exact ⟨_,rfl,[_],_,rfl,⟨rfl,rfl⟩,[_],_,rfl,⟨rfl,rfl⟩,[_],_,rfl,⟨rfl,rfl⟩,[_],_,rfl,⟨rfl,rfl⟩,[_],_,rfl,⟨rfl,rfl⟩,[_],_,rfl,⟨rfl,rfl⟩,[_],_,rfl,⟨rfl,rfl⟩,[_],_,rfl,⟨rfl,rfl⟩,[_],_,rfl,⟨rfl,rfl⟩,hr⟩
theorem Fits.res {P:Program} {f:FuncId} {l:List (AV Kn)} {x y:AV Kn} (h:Fits P f l x) (hx:∀ β v w,x.holds β v w→y.holds β v w):Fits P f l y:=fun β w vs hv =>
 (h β w vs hv).mono fun e w' ⟨v,e1,e2,e3⟩=>⟨v,e1,e2,hx β v w' e3⟩
theorem qF {z:Int} (hz:Sz z):jF 110 [it z] (.fv (.sc (isU (z.natAbs:Int)))):=by
 intro β w vs hv
 obtain ⟨v,rfl,h1⟩:=dL hv
 rw [aO h1]
 exact (dS z w (by have:=hz.1;omega) (by have:=hz.2;omega)).mono fun e w' ⟨e1,e2⟩=>⟨_,e1,by rw [← e2];exact aB _ _,bK⟩
theorem gtU_run {o:Oper} {ρ:Operand→Value} {w:World} {x y:Operand} {a b:Int} {r:Bool} {T T' : TypeId} (ho:o.op = .binOp .gtr T x y T') (hx:ρ x = .int .u64 a) (hy:ρ y = .int .u64 b) (h:decide (b<a)=r) :
 (execOp ρ o).run Tryz.prog w = .ok (.value (.bool r)) w:=by
 simp only [execOp,ho,hx,hy]
 refine bH ?_
 rw [← h]
 exact bL (by kernel_rfl) w
section
variable {f:FuncId} {w00:World} {Out:Value→World→Prop}
theorem kgtU {c:Cfg Kn} (t:Tmp) (a b:Int) (r:Bool) (h:decide (b<a)=r) (hc:(c.op.map fun o=>o.op,c.okT (bl r),c.ev (.tmp t),c.ev (.const (.int .u64 b)))=(some (.binOp .gtr 160 (.tmp t) (.const (.int .u64 b)) 160),true,.fv (.sc (isU a)),.fv (.sc (.lit (.int .u64 b)))))
 (hg:Ok Tryz.prog f w00 Out (cI Tryz.prog 1000 (c.give (bl r)))):Ok Tryz.prog f w00 Out c :=
 oZ _ (.tmp t) (.const (.int .u64 b)) _ _ (bl r) hc (by simp [Op.operands]) (by simp [Op.operands]) (fun ρ o β w ho hx hy=>⟨_,gtU_run ho (aQ hx) (aO hy) h,bE rfl⟩) hg
theorem jN{c:Cfg Kn} (t:Tmp) (a b:Int) (r:Bool) (h:decide (b<a)=r)(hg:Ok Tryz.prog f w00 Out (cI Tryz.prog 1000 (c.give (bl r))))(hc:(c.op.map fun o=>o.op,c.okT (bl r),c.ev (.tmp t),c.ev (.const (.int .u64 b)))=(some (.binOp .gtr 160 (.tmp t) (.const (.int .u64 b)) 160),true,.fv (.sc (isU a)),.fv (.sc (.lit (.int .u64 b)))):=by kernel_rfl):Ok Tryz.prog f w00 Out c :=kgtU t a b r h hc hg
end
abbrev hS (z1 z2 z3:Int) (d:Rat):AV Kn := .fv (.ag [.lit (.int .i64 z1),.lit (.int .i64 z2),.lit (.int .i64 z3),dD (writeB d)])
abbrev pA (z1 z2 z3:Int) (d:Rat):AV Kn := .tup [.ag [.lit (.int .i64 z1),.lit (.int .i64 z2),.lit (.int .i64 z3),dD (writeB d)],.sc z0]
structure Form (n1 n2 n3 d:Rat) (z1 z2 z3:Int) (e:Rat):Prop where
 l1:Lf 30 n1
 l2:Lf 30 n2
 l3:Lf 30 n3
 ld:Lf 38 d
 h0:¬ (n1=0∧n2=0∧n3=0)
 e1:bB n1 n2 n3*n1=z1
 e2:bB n1 n2 n3*n2=z2
 e3:bB n1 n2 n3*n3=z3
 ed:d*bB n1 n2 n3=e
 s1:Sz z1
 s2:Sz z2
 s3:Sz z3
 wr:Wr e
theorem rN {e:Rat} (h:Form n1 n2 n3 d z1 z2 z3 e):jX 46 [hf n1 n2 n3 d] (pA z1 z2 z3 e):=by
 have g:∀ {z:Int},Sz z→decide ((999999999:Int)<(z.natAbs:Int))=false:=fun hz=>by have:=hz.1;have:=hz.2;rw [decide_eq_false_iff_not];omega
 have gr:jF 109 [hf n1 n2 n3 d] (hfI z1 z2 z3 e):=Fits.res (reducedF h.l1 h.l2 h.l3 h.ld h.h0) (fun β v w hv=>hf_int h.e1 h.e2 h.e3 h.s1 h.s2 h.s3 (by rw [h.ed] at hv;exact hv))
 refine jY Tryz.func46 fun w00 hI=>?_
 refine jC 109 [hf n1 n2 n3 d] (gr) ?_
 refine jW hI 59 [num e] (qB (h.wr.lf.mono (by decide)) h.wr.n h.wr.d) ?_
 refine jC 110 [it z1] (qF h.s1) ?_
 refine jN 34 z1.natAbs 999999999 false (g h.s1) ?_
 refine jC 110 [it z2] (qF h.s2) ?_
 refine jN 34 z2.natAbs 999999999 false (g h.s2) ?_
 refine jC 110 [it z3] (qF h.s3) ?_
 refine jN 34 z3.natAbs 999999999 false (g h.s3) ?_
 exact jR Tryz.func46
theorem zG (h1:wX z1) (h2:wX z2) (h3:wX z3) (hd:Wr d) (hc:jF 99 [iv z1 z2 z3] (it 0)):jX 39 [hS z1 z2 z3 d] (.tup [.ag [nb z1,nb z2,nb z3,nb d],.sc z0]):=by
 refine jY Tryz.func39 fun w00 hI=>?_
 refine jW hI 65 [tx (writeB d)] (zD hd) ?_
 refine jC 76 [iv z1 z2 z3] (iT h1 h2 h3) ?_
 refine jC 99 [iv z1 z2 z3] (hc) ?_
 refine jC 66 [.fv (.nsl 2 34 [z0,z0])] (gS) ?_
 exact jR Tryz.func39
end
theorem wn_gcd (q:Rat) (n:Nat):wn q n=Nat.gcd q.num.natAbs n:=by
 unfold wn
 split
 ·rename_i h
  rw [h]
  exact (Nat.gcd_zero_left n).symm
 ·rfl
theorem wd_lcm (q:Rat) (d:Nat):wd q d=Nat.lcm q.den d:=by
 unfold wd
 split
 ·rename_i h
  rw [h]
  exact (Nat.lcm_one_left d).symm
 ·unfold Nat.lcm
  rw [Nat.mul_comm q.den d,Nat.mul_div_assoc d (Nat.gcd_dvd_left q.den d)]
theorem two_divs {L G g p q z:Nat} (hL:0<L) (h:L*p=g*z*G*q) (hG:0<G*g) (hpq:Nat.Coprime p q):G*g/Nat.gcd L (G*g) ∣ p∧q ∣ L/Nat.gcd L (G*g):=by
 obtain ⟨D,hD⟩:∃ D,D=Nat.gcd L (G*g):=⟨_,rfl⟩
 have hD0:0<D:=hD▸Nat.gcd_pos_of_pos_left _ hL
 have hco:Nat.Coprime (L/D) (G*g/D):=hD▸Nat.coprime_div_gcd_div_gcd (hD▸hD0)
 obtain ⟨u,hu⟩:D ∣ L:=hD▸Nat.gcd_dvd_left _ _
 obtain ⟨v,hv⟩:D ∣ G*g:=hD▸Nat.gcd_dvd_right _ _
 rw [← hD]
 rw [hu,hv,Nat.mul_div_cancel_left _ hD0,Nat.mul_div_cancel_left _ hD0] at hco
 rw [hu,hv,Nat.mul_div_cancel_left _ hD0,Nat.mul_div_cancel_left _ hD0]
 have e:u*p=v*z*q:=by
  refine Nat.eq_of_mul_eq_mul_left hD0 ?_
  rw [← Nat.mul_assoc,← hu,h]
  calc g*z*G*q=G*g*(z*q):=by simp only [Nat.mul_comm,Nat.mul_left_comm]
   _=D*(v*z*q):=by rw [hv];simp only [Nat.mul_assoc]
 exact ⟨(Nat.Coprime.symm hco).dvd_of_dvd_mul_left (e▸⟨z*q,by rw [Nat.mul_assoc]⟩),(Nat.Coprime.symm hpq).dvd_of_dvd_mul_right (e▸⟨v*z,by rw [Nat.mul_comm]⟩)⟩
theorem qG {a b c:Rat} (h:¬ (a=0∧b=0∧c=0)):∃ z1 z2 z3:Int,bB a b c*a=z1∧bB a b c*b=z2∧bB a b c*c=z3∧Int.gcd (Int.gcd z1 z2:Int) z3=1∧∃ (L G:Nat),0<L∧0<G∧bB a b c=mkRat L G∧L=Nat.lcm c.den (Nat.lcm b.den (Nat.lcm a.den 1))∧G ∣ a.num.natAbs∧G ∣ b.num.natAbs∧G ∣ c.num.natAbs:=by
 have hN:0<wn c (wn b (wn a 0)):=by
  by_cases ha:a=0
  ·by_cases hb:b=0
   ·exact mU (fun hc=>h ⟨ha,hb,hc⟩)
   ·exact iQ (mU hb)
  ·exact iQ (iQ (mU ha))
 have hM:0<wd c (wd b (wd a 1)):=wd_pos (wd_pos (wd_pos (by omega)))
 have hw:bB a b c=mkRat (wd c (wd b (wd a 1)):Nat) (wn c (wn b (wn a 0))):=by unfold bB;simp [sg]
 simp only [wn_gcd,wd_lcm] at hN hM hw
 obtain ⟨L,hL⟩:∃ L,L=Nat.lcm c.den (Nat.lcm b.den (Nat.lcm a.den 1)):=⟨_,rfl⟩
 obtain ⟨G,hG⟩:∃ G,G=Nat.gcd c.num.natAbs (Nat.gcd b.num.natAbs (Nat.gcd a.num.natAbs 0)):=⟨_,rfl⟩
 rw [← hL] at hM hw
 rw [← hG] at hN hw
 have gc:G ∣ c.num.natAbs:=hG▸Nat.gcd_dvd_left _ _
 have gb:G ∣ b.num.natAbs:=hG▸Nat.dvd_trans (Nat.gcd_dvd_right _ _) (Nat.gcd_dvd_left _ _)
 have ga:G ∣ a.num.natAbs:=hG▸Nat.dvd_trans (Nat.gcd_dvd_right _ _) (Nat.dvd_trans (Nat.gcd_dvd_right _ _) (Nat.gcd_dvd_left _ _))
 have lc:c.den ∣ L:=hL▸Nat.dvd_lcm_left _ _
 have lb:b.den ∣ L:=hL▸Nat.dvd_trans (Nat.dvd_lcm_left _ _) (Nat.dvd_lcm_right _ _)
 have la:a.den ∣ L:=hL▸Nat.dvd_trans (Nat.dvd_trans (Nat.dvd_lcm_left _ _) (Nat.dvd_lcm_right _ _)) (Nat.dvd_lcm_right _ _)
 have key:∀ {q:Rat},G ∣ q.num.natAbs→q.den ∣ L→∃ z:Int,bB a b c*q=z∧L*q.num.natAbs=z.natAbs*G*q.den:=by
  intro q hg hl
  obtain ⟨l,hl⟩:=hl
  obtain ⟨p,hp⟩:(G:Int) ∣ q.num:=Int.ofNat_dvd_left.2 hg
  refine ⟨l*p,?_,?_⟩
  ·have h0:(G:Rat)≠0:=by exact_mod_cast (by omega:G≠0)
   have h1:(q.den:Rat)≠0:=by exact_mod_cast q.den_nz
   have e1:bB a b c*G=L:=by
    rw [hw,Rat.mkRat_eq_div,Rat.div_def,Rat.mul_assoc,Rat.inv_mul_cancel _ h0,Rat.mul_one]
    rfl
   have e2:q*q.den=q.num:=by
    have h2:q=q.num/q.den:=by rw [← Rat.mkRat_eq_div,Rat.mkRat_self]
    have h3:q.num/(q.den:Rat)*q.den=q.num:=by rw [Rat.div_def,Rat.mul_assoc,Rat.inv_mul_cancel _ h1,Rat.mul_one]
    rw [← h2] at h3
    exact h3
   have e3:(L:Rat)=q.den*l:=by rw [hl];push_cast;rfl
   have e4:(q.num:Rat)=G*p:=by rw [hp];push_cast;rfl
   have e5:bB a b c*q*(G*q.den)=(l*p:Rat)*(G*q.den):=by
    calc bB a b c*q*(G*q.den)=bB a b c*G*(q*q.den):=by grind
     _=q.den*l*(G*p):=by rw [e1,e2,e3,e4]
     _=(l*p:Rat)*(G*q.den):=by grind
   have hne:(G*q.den:Rat)≠0:=fun e=>(Rat.mul_eq_zero.1 e).elim h0 h1
   have:=congrArg (· * (G*q.den:Rat)⁻¹) e5
   simp only [Rat.mul_assoc,Rat.mul_inv_cancel _ hne,Rat.mul_one] at this
   rw [this]
   push_cast
   rfl
  ·rw [hl,hp,Int.natAbs_mul,Int.natAbs_mul,Int.natAbs_natCast,Int.natAbs_natCast]
   simp only [Nat.mul_assoc,Nat.mul_comm,Nat.mul_left_comm]
 obtain ⟨z1,e1,f1⟩:=key ga la
 obtain ⟨z2,e2,f2⟩:=key gb lb
 obtain ⟨z3,e3,f3⟩:=key gc lc
 refine ⟨z1,z2,z3,e1,e2,e3,?_,L,G,hM,hN,hw,hL,ga,gb,gc⟩
 obtain ⟨g,hg⟩:∃ g,g=Int.gcd (Int.gcd z1 z2:Int) z3:=⟨_,rfl⟩
 rw [← hg]
 have d3:g ∣ z3.natAbs:=hg▸Nat.gcd_dvd_right _ _
 have d12:g ∣ Int.gcd z1 z2:=hg▸Nat.gcd_dvd_left _ _
 have d1:g ∣ z1.natAbs:=Nat.dvd_trans d12 (Nat.gcd_dvd_left _ _)
 have d2:g ∣ z2.natAbs:=Nat.dvd_trans d12 (Nat.gcd_dvd_right _ _)
 have g0:0<g:=by
  rcases Nat.eq_zero_or_pos g with e|e
  ·exfalso
   rw [e] at d1 d2 d3
   have n1:z1.natAbs=0:=Nat.eq_zero_of_zero_dvd d1
   have n2:z2.natAbs=0:=Nat.eq_zero_of_zero_dvd d2
   have n3:z3.natAbs=0:=Nat.eq_zero_of_zero_dvd d3
   have zero:∀ {q:Rat} {z:Int},L*q.num.natAbs=z.natAbs*G*q.den→z.natAbs=0→q=0:=fun {q z} f n=>by
    rw [n,Nat.zero_mul,Nat.zero_mul] at f
    rcases Nat.mul_eq_zero.1 f with f|f
    ·omega
    ·exact Rat.num_eq_zero.1 (Int.natAbs_eq_zero.1 f)
   exact h ⟨zero f1 n1,zero f2 n2,zero f3 n3⟩
  ·exact e
 have hGg:0<G*g:=Nat.mul_pos hN g0
 have two:∀ {q:Rat} {z:Int},L*q.num.natAbs=z.natAbs*G*q.den→g ∣ z.natAbs→G*g/Nat.gcd L (G*g) ∣ q.num.natAbs∧q.den ∣ L/Nat.gcd L (G*g):=fun {q z} f d=>by
  obtain ⟨z',hz⟩:=d
  exact two_divs hM (by rw [f,hz]) hGg q.reduced
 have t1:=two f1 d1
 have t2:=two f2 d2
 have t3:=two f3 d3
 have hL' : L ∣ L/Nat.gcd L (G*g):=by
  have:=Nat.lcm_dvd t3.2 (Nat.lcm_dvd t2.2 (Nat.lcm_dvd t1.2 (Nat.one_dvd _)))
  rw [← hL] at this
  exact this
 have hG' : G*g/Nat.gcd L (G*g) ∣ G:=by
  have:=Nat.dvd_gcd t3.1 (Nat.dvd_gcd t2.1 (Nat.dvd_gcd t1.1 (Nat.dvd_zero _)))
  rw [← hG] at this
  exact this
 have hD0:0<Nat.gcd L (G*g):=Nat.gcd_pos_of_pos_left _ hM
 have hu:0<L/Nat.gcd L (G*g):=Nat.div_pos (Nat.gcd_le_left _ hM) hD0
 have hle:=Nat.le_of_dvd hu hL'
 have hD1:Nat.gcd L (G*g)=1:=by
  rcases Nat.lt_or_ge 1 (Nat.gcd L (G*g)) with hlt|hge
  ·have:=Nat.div_lt_self hM hlt
   omega
  ·omega
 rw [hD1,Nat.div_one] at hG'
 have hle2:=Nat.le_of_dvd hN hG'
 rcases Nat.lt_or_ge 1 g with hlt|hge
 ·have:G*1<G*g:=Nat.mul_lt_mul_of_pos_left hlt hN
  omega
 ·omega
end Ab
end Go.Proofs.YtghlkblebhhahaaGreatDoor
