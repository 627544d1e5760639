/- Parts of the proof, joined. -/
import Derived.Test.YtejbgingjeedaaaGreatDoorJ7
set_option linter.unusedSimpArgs false
set_option linter.unusedVariables false
namespace Go.Proofs.YtejbgingjeedaaaGreatDoor
open Go.RowKit Pl
def spSum (S:Int):Sp:=fun v w => ∃ neg u,v = .tuple #[.bool neg,u]∧sg neg S.natAbs=S∧Nt w u S.natAbs
def spSgn (S:Int):Sp:=fun v _ => ∃ neg,v = .bool neg∧sg neg S.natAbs=S
theorem spSum_stable {K:Value→Bool} (hK:∀ x,K (.int .u64 x)=true) (S:Int):Stable K (spSum S):=fun _ _ _ ⟨n,u,e,h1,h2⟩ hx=>⟨n,u,e,h1,h2.ext hK hx⟩
theorem spSgn_stable (K:Value→Bool) (S:Int):Stable K (spSgn S):=fun _ _ _ h _=>h
set_option maxRecDepth 100000 in
set_option maxHeartbeats 8000000 in
theorem uK (v v' : Value) (p q:Rat) (w:World) (h:Fr w v p) (h' : Fr w v' q) (hp:Lf 36 p) (hq:Lf 36 q):Calls Tryz.prog 143 #[v,v'] w (GivesFr w (p+q)):=by
 obtain ⟨s1,s2,rfl,h1,h2⟩:=h
 obtain ⟨s3,s4,rfl,h3,h4⟩:=h'
 obtain ⟨A1,n1,c1,rfl⟩:=h1.form
 obtain ⟨A2,n2,c2,rfl⟩:=h2.form
 obtain ⟨A3,n3,c3,rfl⟩:=h3.form
 obtain ⟨A4,n4,c4,rfl⟩:=h4.form
 obtain ⟨hk1,hk2,hk3,hb1⟩:=eJ w (.cells #[.bool (decide (p.num<0)),.slice A1 n1 c1,.slice A2 n2 c2] 97) (.cells #[.bool (decide (q.num<0)),.slice A3 n3 c3,.slice A4 n4 c4] 97) (.cells #[.bool false,.slice none 0 0,.slice none 0 0] 97)
 have H:=aH (aI (h1.below hb1) (aI (h2.below hb1) (aI (h3.below hb1) (aI (h4.below hb1) (aI hp (aI hq (aI hb1 (aI hk1 (aI hk2 hk3)))))))))
 clear h1 h2 h3 h4 hp hq hb1 hk1 hk2 hk3
 obtain ⟨g,hg⟩:∃ g,g=p.den.gcd q.den:=⟨_,rfl⟩
 obtain ⟨ma,hma⟩:∃ ma,ma=p.den/g:=⟨_,rfl⟩
 obtain ⟨mb,hmb⟩:∃ mb,mb=q.den/g:=⟨_,rfl⟩
 obtain ⟨S,hS⟩:∃ S,S=p.num*mb+q.num*ma:=⟨_,rfl⟩
 obtain ⟨g0,ma0,mb0,ed1,ed2,hpq,hgcd⟩:=sZ p q hg hma hmb hS
 have hgl:Lv 36 g:=H.out.2.2.2.2.1.2.le (by rw [hg];exact Nat.gcd_le_left _ p.den_pos)
 have hmal:Lv 36 ma:=H.out.2.2.2.2.1.2.le (by rw [hma];exact Nat.div_le_self _ _)
 have hmbl:Lv 36 mb:=H.out.2.2.2.2.2.1.2.le (by rw [hmb];exact Nat.div_le_self _ _)
 have hSl:Lv 38 S.natAbs:=by
  refine (Lv.add (H.out.2.2.2.2.1.1.mul hmbl) (H.out.2.2.2.2.2.1.1.mul hmal)).le ?_
  rw [hS]
  refine Nat.le_trans (Int.natAbs_add_le _ _) ?_
  rw [Int.natAbs_mul,Int.natAbs_mul,Int.natAbs_natCast,Int.natAbs_natCast]
  exact Nat.le_refl _
 have G:=aH (aI hg (aI hma (aI hmb (aI hS (aI g0 (aI hgl (aI hmal (aI hmbl hSl))))))))
 clear hg hma hmb hS g0 ma0 mb0 ed1 ed2 hpq hgcd hgl hmal hmbl hSl
 have hgn:=G.out.1
 go_enter Tryz.func143,Tryz.ntmps143
 go_wp2_with fail
 generalize ((w.alloc (.cells #[.bool (decide (p.num<0)),.slice A1 n1 c1,.slice A2 n2 c2] 97)).alloc (.cells #[.bool (decide (q.num<0)),.slice A3 n3 c3,.slice A4 n4 c4] 97)).alloc (.cells #[.bool false,.slice none 0 0,.slice none 0 0] 97)=w1 at *
 refine (vK _ _ p.den q.den _ H.out.2.1 H.out.2.2.2.1 (H.out.2.2.2.2.1.2.mono (by omega)) (H.out.2.2.2.2.2.1.2.mono (by omega)) (.inl p.den_pos)).mono ?_
 rw [← hgn]
 clear hgn
 rintro e w2 ⟨vg,rfl,qg,b2⟩
 obtain ⟨Ag,kg,cg,rfl⟩:=qg.form
 have hA:=aM b2 H.out.2.2.2.2.2.2.2.1
 have hC:=aM b2 H.out.2.2.2.2.2.2.2.2.1
 obtain ⟨⟨u0,u1,u2⟩,_⟩:=dN hA
 obtain ⟨⟨u3,u4,u5⟩,_⟩:=dN hC
 have Q2:=aH (aI qg (aI b2 (aI hA hC)))
 clear qg b2 hA hC
 go_wp2_with fail
 refine (fJ (H.out.2.1.below Q2.out.2.1) Q2.out.1 (H.out.2.2.2.2.1.2.mono (by omega)) G.out.2.2.2.2.1).mono ?_
 rw [← G.out.2.1]
 rintro e w3 ⟨vm,x1,rfl,qm,qx,b3⟩
 obtain ⟨Am,km,cm,rfl⟩:=qm.form
 have hb3:=Below.step_trans Q2.out.2.1 b3
 have hA:=aM b3 Q2.out.2.2.1
 have hC:=aM b3 Q2.out.2.2.2
 clear u0 u1 u2 u3 u4 u5
 obtain ⟨⟨u0,u1,u2⟩,_⟩:=dN hA
 obtain ⟨⟨u3,u4,u5⟩,_⟩:=dN hC
 have Q3:=aH (aI qm (aI b3 (aI hb3 (aI hA hC))))
 obtain ⟨Ax1,kx1,cx1,rfl⟩:=qx.form
 clear qm b3 hb3 hA hC qx
 go_wp2_with fail
 refine (fJ (H.out.2.2.2.1.below Q3.out.2.2.1) (Q2.out.1.below Q3.out.2.1) (H.out.2.2.2.2.2.1.2.mono (by omega)) G.out.2.2.2.2.1).mono ?_
 rw [← G.out.2.2.1]
 rintro e w4 ⟨vn,x2,rfl,qn,qx,b4⟩
 obtain ⟨An,kn,cn,rfl⟩:=qn.form
 obtain ⟨Ax2,kx2,cx2,rfl⟩:=qx.form
 have hb4:=Below.step_trans Q3.out.2.2.1 b4
 have hA:=aM b4 Q3.out.2.2.2.1
 have hC:=aM b4 Q3.out.2.2.2.2
 have hR:=aM hb4 H.out.2.2.2.2.2.2.2.2.2
 clear u0 u1 u2 u3 u4 u5
 have Q4:=aH (aI qn (aI b4 (aI hb4 (aI (Q3.out.1.below b4) (aI hR (aI (Q2.out.1.below (Below.step_trans Q3.out.2.1 b4)) (Below.step_trans H.out.2.2.2.2.2.2.1 hb4)))))))
 clear qn b4 hb4 hR qx
 go_wp2_with fail
 have t1:∀ w',Base [] w4 w'→Calls Tryz.prog 119 #[.slice A1 n1 c1,.slice An kn cn] w' (TyPost w' (jQ (p.num.natAbs*mb))):=fun w' hB =>
  GivesNt.ty (iJ (H.out.1.below (Below.step_trans Q4.out.2.2.1 hB.below)) (Q4.out.1.below hB.below) (H.out.2.2.2.2.1.1.mono (by omega)) (G.out.2.2.2.2.2.2.2.1.mono (by omega)))
 have t2:∀ w',Base [] w4 w'→Calls Tryz.prog 119 #[.slice A3 n3 c3,.slice Am km cm] w' (TyPost w' (jQ (q.num.natAbs*ma))):=fun w' hB =>
  GivesNt.ty (iJ (H.out.2.2.1.below (Below.step_trans Q4.out.2.2.1 hB.below)) (Q4.out.2.2.2.1.below hB.below) (H.out.2.2.2.2.2.1.1.mono (by omega)) (G.out.2.2.2.2.2.2.1.mono (by omega)))
 have t3:∀ w' x y,Base [] w4 w'→Nt w' x (p.num.natAbs*mb)→Nt w' y (q.num.natAbs*ma)→Calls Tryz.prog 202 #[.bool (decide (p.num<0)),x,.bool (decide (q.num<0)),y] w' (TyPost w' (spSum S)):=fun w' x y hB hx hy=>by
  have:=vB (decide (p.num<0)) (decide (q.num<0)) _ _ x y w' hx hy (((H.out.2.2.2.2.1.1).mul G.out.2.2.2.2.2.2.2.1).mono (by omega)) (((H.out.2.2.2.2.2.1.1).mul G.out.2.2.2.2.2.2.1).mono (by omega))
  rw [sg_mul,sg_mul,wL,wL,← G.out.2.2.2.1] at this
  exact this.mono fun e w'' ⟨neg,u,h1,h2,h3,h4⟩=>⟨_,h1,h4,neg,u,rfl,h2,h3⟩
 have T1:=aH t1
 have T2:=aH t2
 have T3:=aH t3
 clear t1 t2 t3
 refine wp_region_ty Ku [] (by kernel_rfl) (by kernel_rfl) ?_
 repeat (first|(apply bQ (hg:=rfl);case h=>(intro A w' hB hk;simp [known,specOf,Kd.spec,Sp.is,isVar,Oper.looksAt,Op.operands,Call.operands,Act.eval] at hk;have c_hA:=aA (hB.blk hA (by first|(simp;done)|(simp;omega)));have c_hC:=aA (hB.blk hC (by first|(simp;done)|(simp;omega)));first|(simp [go_sem,hk,c_hA,c_hC];done)|(simp [go_sem,hk,c_hA,c_hC];rfl)|(simp [go_sem,c_hA,c_hC];rfl)))|(refine aV _ ?_ (by first|exact .inl rfl|exact .inr rfl) (by rfl) (by simp [specOf,Kd.spec];rfl) ?_ rfl ?_;(first|exact Sp.is_stable _ _|exact aL (fun _=>rfl) _|exact spTwo_stable (fun _=>rfl) _ _|exact spFr_stable (fun _=>rfl) _|exact spSum_stable (fun _=>rfl) _|exact spSgn_stable _ _|exact spNb_stable (fun _=>rfl) (fun _=>rfl) _|exact spVc_stable (fun _=>rfl) (fun _=>rfl) _)))
 refine aO (jQ (p.num.natAbs*mb)) (aL (fun _=>rfl) _) rfl (fun A w' hB hk=>?_) ?_;(simp [known,specOf,Kd.spec,Sp.is,isVar,Oper.looksAt,Op.operands,Call.operands,Act.eval] at hk;have c_hA:=aA (hB.blk hA (by first|(simp;done)|(simp;omega)));simp [go_sem,hk,c_hA];refine aG ?_;exact T1.out _ hB)
 repeat (first|(apply bQ (hg:=rfl);case h=>(intro A w' hB hk;simp [known,specOf,Kd.spec,Sp.is,isVar,Oper.looksAt,Op.operands,Call.operands,Act.eval] at hk;have c_hA:=aA (hB.blk hA (by first|(simp;done)|(simp;omega)));have c_hC:=aA (hB.blk hC (by first|(simp;done)|(simp;omega)));first|(simp [go_sem,hk,c_hA,c_hC];done)|(simp [go_sem,hk,c_hA,c_hC];rfl)|(simp [go_sem,c_hA,c_hC];rfl)))|(refine aV _ ?_ (by first|exact .inl rfl|exact .inr rfl) (by rfl) (by simp [specOf,Kd.spec];rfl) ?_ rfl ?_;(first|exact Sp.is_stable _ _|exact aL (fun _=>rfl) _|exact spTwo_stable (fun _=>rfl) _ _|exact spFr_stable (fun _=>rfl) _|exact spSum_stable (fun _=>rfl) _|exact spSgn_stable _ _|exact spNb_stable (fun _=>rfl) (fun _=>rfl) _|exact spVc_stable (fun _=>rfl) (fun _=>rfl) _)))
 refine aO (jQ (q.num.natAbs*ma)) (aL (fun _=>rfl) _) rfl (fun A w' hB hk=>?_) ?_;(simp [known,specOf,Kd.spec,Sp.is,isVar,Oper.looksAt,Op.operands,Call.operands,Act.eval] at hk;have c_hA:=aA (hB.blk hA (by first|(simp;done)|(simp;omega)));simp [go_sem,hk,c_hA];refine aG ?_;exact T2.out _ hB)
 refine aO (spSum S) (spSum_stable (fun _=>rfl) _) rfl (fun A w' hB hk=>?_) ?_;(simp [known,specOf,Kd.spec,Sp.is,isVar,Oper.looksAt,Op.operands,Call.operands,Act.eval] at hk;have c_hA:=aA (hB.blk hA (by first|(simp;done)|(simp;omega)));simp [go_sem,hk,c_hA];refine aG ?_;exact T3.out _ _ _ hB hk.2.1 hk.2.2.2)
 repeat (first|(apply bQ (hg:=rfl);case h=>(intro A w' hB hk;simp [known,specOf,Kd.spec,Sp.is,isVar,Oper.looksAt,Op.operands,Call.operands,Act.eval] at hk;have c_hA:=aA (hB.blk hA (by first|(simp;done)|(simp;omega)));first|(simp [go_sem,hk,c_hA];done)|(simp [go_sem,hk,c_hA];rfl)|(simp [go_sem,c_hA];rfl)))|(refine aV _ ?_ (by first|exact .inl rfl|exact .inr rfl) (by rfl) (by simp [specOf,Kd.spec];rfl) ?_ rfl ?_;(first|exact Sp.is_stable _ _|exact aL (fun _=>rfl) _|exact spTwo_stable (fun _=>rfl) _ _|exact spFr_stable (fun _=>rfl) _|exact spSum_stable (fun _=>rfl) _|exact spSgn_stable _ _|exact spNb_stable (fun _=>rfl) (fun _=>rfl) _|exact spVc_stable (fun _=>rfl) (fun _=>rfl) _)))
 refine aO (spSgn S) (spSgn_stable _ _) rfl (fun A w' hB hk=>?_) ?_;(simp [known,specOf,Kd.spec,Sp.is,isVar,Oper.looksAt,Op.operands,Call.operands,Act.eval] at hk;have c_hA:=aA (hB.blk hA (by first|(simp;done)|(simp;omega)));obtain ⟨neg,u,k1,k2,k3⟩:=hk;simp [go_sem,k1];exact iZ ⟨neg,rfl,k2⟩)
 refine aO (jQ S.natAbs) (aL (fun _=>rfl) _) rfl (fun A w' hB hk=>?_) ?_;(simp [known,specOf,Kd.spec,Sp.is,isVar,Oper.looksAt,Op.operands,Call.operands,Act.eval] at hk;have c_hA:=aA (hB.blk hA (by first|(simp;done)|(simp;omega)));obtain ⟨neg,u,k1,k2,k3⟩:=hk;simp [go_sem,k1];exact iZ k3)
 repeat (first|(apply bQ (hg:=rfl);case h=>(intro A w' hB hk;simp [known,specOf,Kd.spec,Sp.is,isVar,Oper.looksAt,Op.operands,Call.operands,Act.eval] at hk;have c_hA:=aA (hB.blk hA (by first|(simp;done)|(simp;omega)));first|(simp [go_sem,hk,c_hA];done)|(simp [go_sem,hk,c_hA];rfl)|(simp [go_sem,c_hA];rfl)))|(refine aV _ ?_ (by first|exact .inl rfl|exact .inr rfl) (by rfl) (by simp [specOf,Kd.spec];rfl) ?_ rfl ?_;(first|exact Sp.is_stable _ _|exact aL (fun _=>rfl) _|exact spTwo_stable (fun _=>rfl) _ _|exact spFr_stable (fun _=>rfl) _|exact spSum_stable (fun _=>rfl) _|exact spSgn_stable _ _|exact spNb_stable (fun _=>rfl) (fun _=>rfl) _|exact spVc_stable (fun _=>rfl) (fun _=>rfl) _)))
 refine ⟨by first|rfl|decide,fun f w2 hB hF hAp=>?_⟩;simp [Final1,Sp.is,isVar] at hF;simp only [frameOf]
 obtain ⟨y1,⟨neg,e10,hneg⟩,hF2⟩:=hF
 obtain ⟨As,ks,cs,e11⟩:=(show Nt _ _ _ from y1).form
 rw [e11] at y1
 have hA2:=hB.blk hA (by simp)
 have hC2:=hB.blk hC (by simp)
 have hR2:=hB.blk Q4.out.2.2.2.2.1 (by simp)
 have Y:=aH (aI (show Nt w2 _ _ from y1) (aI hneg (aI (Below.step_trans Q4.out.2.2.2.2.2.2 hB.below) (aI hR2 hB.below))))
 clear y1 hneg hA hC hA2 hC2 hR2 hB hAp
 by_cases z0:S.natAbs=0
 ·have hpq:p+q=0:=wM G.out.1 G.out.2.1 G.out.2.2.1 G.out.2.2.2.1 z0
  have hz:decide (S.natAbs=0)=true:=by rw [decide_eq_true_eq];exact z0
  have HZ:=aH hpq
  clear hpq z0
  go_wp2_with fail
  refine (dO Y.out.1).mono ?_
  rintro e w' ⟨rfl,rfl⟩
  rw [hz]
  clear hz
  go_wp2_with fail
  refine (rJ _).mono ?_
  rintro e w5 ⟨v1,rfl,⟨s1,s2,rfl,q1,q2⟩,b1⟩
  obtain ⟨E1,k1,m1,rfl⟩:=q1.form
  obtain ⟨E2,k2,m2,rfl⟩:=q2.form
  have hk:=aM b1 Y.out.2.2.2.1
  obtain ⟨⟨h0,h1,h2⟩,f0,f1,f2⟩:=dN hk
  have Q:=aH (aI q1 (aI q2 (aI b1 hk)))
  clear q1 q2 b1 hk
  go_wp2
  refine bodyPost_ret (v := .agg #[.bool (decide ((0:Rat).num<0)),.slice E1 k1 m1,.slice E2 k2 m2]) (by simp [results,Tryz.results143,go_sem,h0,h1,h2]) rfl ⟨_,rfl,?_,?_⟩
  ·rw [HZ.out]
   exact Fr.ext (K:=Ku) (fun _=>rfl) ⟨_,_,rfl,Q.out.1,Q.out.2.1⟩ (Ext.only (pP _ _ _ _ _) Q.out.2.2.2 (by simp [hotObj,Ku]))
  ·repeat (first|exact (Below.step_trans Y.out.2.2.1 Q.out.2.2.1)|(refine Below.setCell ?_ (by first|omega|(simp;done)|(simp;omega)) _)|(refine Below.alloc ?_ (by first|omega|(simp;done)|(simp;omega)) _)|(refine Below.drew ?_)|exact Below.refl _ _)
 ·have hpar:=Parts.add G.out.1 G.out.2.1 G.out.2.2.1 G.out.2.2.2.1 Y.out.2.1 z0
  have hz:decide (S.natAbs=0)=false:=by rw [decide_eq_false_iff_not];exact z0
  obtain ⟨r,hr⟩:∃ r,r=S.natAbs.gcd g:=⟨_,rfl⟩
  rw [← hr] at hpar
  have hr0:0<r:=by rw [hr];exact Nat.gcd_pos_of_pos_right _ G.out.2.2.2.2.1
  have hrg:r≤g:=by rw [hr];exact Nat.gcd_le_right _ G.out.2.2.2.2.1
  have HZ:=aH (aI hpar (aI hr0 (aI hrg z0)))
  have HR:=aH hr
  clear hpar z0 hr0 hrg hr
  go_wp2_with fail
  refine (dO Y.out.1).mono ?_
  rintro e w' ⟨rfl,rfl⟩
  rw [hz]
  clear hz
  go_wp2_with fail
  refine (vK _ _ S.natAbs g _ Y.out.1 (Q4.out.2.2.2.2.2.1.below Y.out.2.2.2.2) (G.out.2.2.2.2.2.2.2.2.mono (by omega)) (G.out.2.2.2.2.2.1.mono (by omega)) (.inr G.out.2.2.2.2.1)).mono ?_
  rw [← HR.out]
  rintro e w5 ⟨v5,rfl,q5,b5⟩
  obtain ⟨A5,k5,c5,rfl⟩:=q5.form
  have Q5:=aH (aI q5 b5)
  clear q5 b5
  go_wp2_with fail
  refine (fJ (Y.out.1.below Q5.out.2) Q5.out.1 (G.out.2.2.2.2.2.2.2.2.mono (by omega)) HZ.out.2.1).mono ?_
  rintro e w6 ⟨v6,x6,rfl,q6,qx,b6⟩
  obtain ⟨A6,k6,c6,rfl⟩:=q6.form
  obtain ⟨Ax6,kx6,cx6,rfl⟩:=qx.form
  have Q6:=aH (aI q6 b6)
  clear q6 b6 qx
  go_wp2_with fail
  refine (fJ (Q4.out.2.2.2.2.2.1.below (Below.step_trans Y.out.2.2.2.2 (Below.step_trans Q5.out.2 Q6.out.2))) (Q5.out.1.below Q6.out.2) (G.out.2.2.2.2.2.1.mono (by omega)) HZ.out.2.1).mono ?_
  rintro e w7 ⟨v7,x7,rfl,q7,qx,b7⟩
  obtain ⟨A7,k7,c7,rfl⟩:=q7.form
  obtain ⟨Ax7,kx7,cx7,rfl⟩:=qx.form
  have hb7:Below w4.heap.size w4 w7:=Below.step_trans Y.out.2.2.2.2 (Below.step_trans Q5.out.2 (Below.step_trans Q6.out.2 b7))
  have Q7:=aH (aI q7 (aI b7 hb7))
  clear q7 b7 qx hb7
  go_wp2_with fail
  refine (iJ (Q4.out.2.2.2.1.below Q7.out.2.2) (Q4.out.1.below Q7.out.2.2) (G.out.2.2.2.2.2.2.1.mono (by omega)) (G.out.2.2.2.2.2.2.2.1.mono (by omega))).mono ?_
  rintro e w8 ⟨v8,rfl,q8,b8⟩
  obtain ⟨A8,k8,c8,rfl⟩:=q8.form
  have Q8:=aH (aI q8 b8)
  clear q8 b8
  go_wp2_with fail
  refine (iJ Q8.out.1 (Q7.out.1.below Q8.out.2) ((G.out.2.2.2.2.2.2.1.mul G.out.2.2.2.2.2.2.2.1).mono (by omega)) ((G.out.2.2.2.2.2.1.le (Nat.div_le_self _ _)).mono (by omega))).mono ?_
  rintro e w9 ⟨v9,rfl,q9,b9⟩
  obtain ⟨A9,k9,c9,rfl⟩:=q9.form
  have hb9:Below w7.heap.size w7 w9:=Below.step_trans Q8.out.2 b9
  have hk:=aM (Below.step_trans Q7.out.2.2 hb9) Q4.out.2.2.2.2.1
  obtain ⟨⟨h0,h1,h2⟩,f0,f1,f2⟩:=dN hk
  have Q9:=aH (aI q9 (aI hb9 hk))
  clear q9 b9 hb9 hk
  go_wp2
  refine bodyPost_ret (v := .agg #[.bool neg,.slice A6 k6 c6,.slice A9 k9 c9]) (by simp [results,Tryz.results143,go_sem,h0,h1,h2]) rfl ⟨_,rfl,?_,?_⟩
  ·exact Fr.ext (K:=Ku) (fun _=>rfl) (Fr.of HZ.out.1 (Q6.out.1.below (Below.step_trans Q7.out.2.1 Q9.out.2.1)) Q9.out.1) (Ext.only (pP _ _ _ _ _) Q9.out.2.2 (by simp [hotObj,Ku]))
  ·repeat (first|exact (Below.step_trans Q4.out.2.2.2.2.2.2 (Below.step_trans Q7.out.2.2 Q9.out.2.1))|(refine Below.setCell ?_ (by first|omega|(simp;done)|(simp;omega)) _)|(refine Below.alloc ?_ (by first|omega|(simp;done)|(simp;omega)) _)|(refine Below.drew ?_)|exact Below.refl _ _)
theorem alloc2 (w:World) (a b:Obj):((w.alloc a).alloc b).heap[w.heap.size]?=some a∧((w.alloc a).alloc b).heap[w.heap.size+1]?=some b∧Below w.heap.size w ((w.alloc a).alloc b):=by
 have h2:Below (w.alloc a).heap.size (w.alloc a) ((w.alloc a).alloc b):=(Below.refl _ _).alloc (Nat.le_refl _) _
 refine ⟨aM h2 (heap_alloc_new w a),?_,((Below.refl _ _).alloc (Nat.le_refl _) _).alloc (by simp) _⟩
 have:=heap_alloc_new (w.alloc a) b;simpa using this
def gK (a:Int):Prop := -9223372036854775807≤a∧a≤9223372036854775807
def M63:Nat:=9223372036854775807
theorem eK:M63=9223372036854775807:=rfl
theorem eS (a:Int) (w:World) (h1:-9223372036854775808≤a) (h2:a≤9223372036854775807):Calls Tryz.prog 136 #[.int .i64 a] w fun e w'=>e = .returned (.int .u64 ((a.natAbs:Nat):Int))∧w=w':=by
 by_cases hn:a<0
 ·have e1:IntKind.u64.wrap (-IntKind.u64.wrap a)=((a.natAbs:Nat):Int):=by rw [IntKind.wrap_u64,IntKind.wrap_u64];omega
  have H:=aH hn
  go_enter Tryz.func136,Tryz.ntmps136
  go_wp2
  go_ret
  exact ⟨rfl,rfl⟩
 ·have e1:((a.natAbs:Nat):Int)=a:=by omega
  have h0:0≤a:=by omega
  rw [e1]
  clear e1
  go_enter Tryz.func136,Tryz.ntmps136
  go_wp2
  go_ret
  exact ⟨rfl,rfl⟩
def GivesOk (w:World) (z bad:Int) (e:Ending) (w' : World):Prop := ∃ (r:Int) (ok:Bool),e = .returned (.tuple #[.int .i64 r,.bool ok])∧(ok=true→r=z∧gK z)∧(ok=false→r=bad∧¬ gK z)∧Below w.heap.size w w'
theorem GivesOk.yes {P:Program} {f:FuncId} {args:Array Value} {w:World} {z bad:Int} (h:Calls P f args w (GivesOk w z bad)) (hm:gK z):Calls P f args w (Gives w (.tuple #[.int .i64 z,.bool true])):=h.mono fun e w' ⟨r,ok,h1,h2,h3,h4⟩=>by
 cases ok
 ·exact absurd hm (h3 rfl).2
 ·exact ⟨by rw [h1,(h2 rfl).1],h4⟩
theorem GivesOk.no {P:Program} {f:FuncId} {args:Array Value} {w:World} {z bad:Int} (h:Calls P f args w (GivesOk w z bad)) (hm:¬ gK z):Calls P f args w (Gives w (.tuple #[.int .i64 bad,.bool false])):=h.mono fun e w' ⟨r,ok,h1,h2,h3,h4⟩=>by
 cases ok
 ·exact ⟨by rw [h1,(h3 rfl).1],h4⟩
 ·exact absurd (h2 rfl).2 hm
theorem tH (n d:Int) (w:World) (h1:1≤d) (h2:d≤9223372036854775807):Calls Tryz.prog 124 #[.int .i64 n,.int .i64 d] w (Gives w (.agg #[.int .i64 n,.int .i64 (d-1),.pointer none])):=by
 go_enter Tryz.func124,Tryz.ntmps124
 go_wp2
 refine bodyPost_ret (v := .agg #[.int .i64 n,.int .i64 (d-1),.pointer none]) (by simp [results,Tryz.results124,go_sem]) rfl ⟨rfl,?_⟩
 repeat (first|exact Below.refl _ _|(refine Below.setCell ?_ (by first|omega|(simp;done)|(simp;omega)) _)|(refine Below.alloc ?_ (by first|omega|(simp;done)|(simp;omega)) _)|(refine Below.drew ?_)|exact Below.refl _ _)
theorem mV (n d:Int) (p:Option Addr) (w:World) (h1:0≤d) (h2:d≤9223372036854775806):Calls Tryz.prog 131 #[.agg #[.int .i64 n,.int .i64 d,.pointer p]] w (Gives w (.int .i64 (d+1))):=by
 go_enter Tryz.func131,Tryz.ntmps131
 go_wp2
 go_ret
 refine ⟨rfl,?_⟩
 repeat (first|exact Below.refl _ _|(refine Below.setCell ?_ (by first|omega|(simp;done)|(simp;omega)) _)|(refine Below.alloc ?_ (by first|omega|(simp;done)|(simp;omega)) _)|(refine Below.drew ?_)|exact Below.refl _ _)
set_option maxHeartbeats 1000000 in
theorem pQ (v:Value) (a:Nat) (w:World) (h:Nt w v a):Calls Tryz.prog 122 #[v] w fun e w'=>e = .returned (.bool (decide (a≤M63)))∧w=w':=by
 have H:=aH h
 obtain ⟨A,n,c,xs,rfl,hr,hd,hno,hval⟩:=h
 have hnc:n≤c:=hr.cap
 have hcm:c≤9223372036854775807:=hr.2.2.1
 by_cases h1:n≤1
 ·have hsmall:a<aD:=by
   rw [← hval]
   have:=bV hd
   rw [hr.len] at this
   exact Nat.lt_of_lt_of_le this (Nat.le_trans (Nat.pow_le_pow_right bC h1) (by rw [Nat.pow_one];exact Nat.le_refl _))
  clear hr hd hno hval
  by_cases hm:a≤M63
  ·have hi:(a:Int)≤9223372036854775807:=by rw [eK] at hm;omega
   have hz:decide (a≤M63)=true:=by rw [decide_eq_true_eq];exact hm
   rw [hz]
   have HS:=aH hsmall
   clear hm hz hsmall
   go_enter Tryz.func122,Tryz.ntmps122
   go_wp2_with (go_at_call 123;refine (qD H.out).mono ?_;rw [Nat.mod_eq_of_lt HS.out];rintro e w' ⟨rfl,rfl⟩)
   go_ret
   exact ⟨rfl,rfl⟩
  ·have hi:¬ (a:Int)≤9223372036854775807:=by rw [eK] at hm;omega
   have hz:decide (a≤M63)=false:=by rw [decide_eq_false_iff_not];exact hm
   rw [hz]
   have HS:=aH hsmall
   clear hm hz hsmall
   go_enter Tryz.func122,Tryz.ntmps122
   go_wp2_with (go_at_call 123;refine (qD H.out).mono ?_;rw [Nat.mod_eq_of_lt HS.out];rintro e w' ⟨rfl,rfl⟩)
   go_ret
   exact ⟨rC (by simpa using hi),rfl⟩
 ·have hz:decide (a≤M63)=false:=by
   rw [decide_eq_false_iff_not]
   intro hm
   have:=aU eH hno (L:=1) (by rw [hval,Nat.pow_one,aJ];rw [eK] at hm;omega)
   rw [hr.len] at this
   omega
  rw [hz]
  clear hr hd hno hval hz
  go_enter Tryz.func122,Tryz.ntmps122
  go_wp2
  go_ret
  exact ⟨rfl,rfl⟩
set_option maxHeartbeats 2000000 in
theorem pR (a b:Int) (w:World) (ha:gK a) (hb:gK b):Calls Tryz.prog 201 #[.int .i64 a,.int .i64 b] w (GivesOk w (a*b) 0):=by
 obtain ⟨ha1,ha2⟩:=ha
 obtain ⟨hb1,hb2⟩:=hb
 have hal:a.natAbs<aD:=by rw [aJ];omega
 have hbl:b.natAbs<aD:=by rw [aJ];omega
 obtain ⟨hi,hhi⟩:∃ hi:Nat,hi=a.natAbs*b.natAbs/aD:=⟨_,rfl⟩
 obtain ⟨lo,hlo⟩:∃ lo:Nat,lo=a.natAbs*b.natAbs%aD:=⟨_,rfl⟩
 have hmul:=aH (fun w=>(Tryz.bits_Mul64 a.natAbs b.natAbs hal hbl w).mono (fun e w' h=>(show e = .returned (.tuple #[.int .u64 (hi:Int),.int .u64 (lo:Int)])∧w=w' from ⟨by rw [h.1,hhi,hlo];rfl,h.2.symm⟩)))
 have hdm:=Nat.div_add_mod (a.natAbs*b.natAbs) aD
 rw [← hhi,← hlo] at hdm
 have hll:lo<aD:=by rw [hlo];exact Nat.mod_lt _ bC
 have HH:=aH (aI hdm hll)
 have hlob:(lo:Int)≤18446744073709551615:=by rw [aJ] at hll;omega
 have hhib:(0:Int)≤hi:=by omega
 have hab:∀ r:Nat,hi=0→a.natAbs*b.natAbs=lo:=fun _ h=>by
  have:=HH.out.1
  rw [h,Nat.mul_zero,Nat.zero_add] at this
  exact this.symm
 have HAB:=aH hab
 have hnm:(hi≠0∨¬ (lo:Int)≤9223372036854775807)→¬ gK (a*b):=fun h hm=>by
  have e1:=Int.natAbs_mul a b
  have e2:=HH.out.1
  rw [← e1] at e2
  obtain ⟨m1,m2⟩:=hm
  have h3:(a*b).natAbs≤9223372036854775807:=by omega
  generalize (a*b).natAbs=X at *
  rw [aJ] at e2
  omega
 have HNM:=aH hnm
 clear hal hbl hhi hlo hdm hll hab hnm
 by_cases hi0:hi=0
 ·have hal:a.natAbs*b.natAbs=lo:=HAB.out 0 hi0
  subst hi0
  have hz0:(((0:Nat):Int) != 0)=false:=by simp
  by_cases hl:(lo:Int)≤9223372036854775807
  ·have e1:IntKind.i64.wrap (lo:Int)=lo:=by rw [IntKind.wrap_i64];omega
   have hpr:(a<0∧b<0→a*b=lo)∧(¬ a<0∧¬ b<0→a*b=lo)∧(a<0∧¬ b<0→a*b = -(lo:Int))∧(¬ a<0∧b<0→a*b = -(lo:Int)):=by
    rw [← hal]
    push_cast
    refine ⟨fun ⟨h1,h2⟩=>?_,fun ⟨h1,h2⟩=>?_,fun ⟨h1,h2⟩=>?_,fun ⟨h1,h2⟩=>?_⟩
    ·rw [show ((a.natAbs:Nat):Int) = -a from by omega,show ((b.natAbs:Nat):Int) = -b from by omega,Int.neg_mul_neg]
    ·rw [show ((a.natAbs:Nat):Int)=a from by omega,show ((b.natAbs:Nat):Int)=b from by omega]
    ·rw [show ((a.natAbs:Nat):Int) = -a from by omega,show ((b.natAbs:Nat):Int)=b from by omega,Int.neg_mul,Int.neg_neg]
    ·rw [show ((a.natAbs:Nat):Int)=a from by omega,show ((b.natAbs:Nat):Int) = -b from by omega,Int.mul_neg,Int.neg_neg]
   have HP:=aH hpr
   clear hpr hal
   have hout:∀ r:Int,r=a*b→(r=lo∨r = -(lo:Int))→GivesOk w (a*b) 0 (.returned (.tuple #[.int .i64 r,.bool true])) w:=fun r h1 h2 =>
    ⟨r,true,rfl,fun _=>⟨h1,by unfold gK;rw [← h1];omega⟩,fun h=>by (cases h),Below.refl _ _⟩
   have HO:=aH hout
   clear hout
   obtain ⟨s1,hs1⟩:∃ s,decide (a<0)=s:=⟨_,rfl⟩
   obtain ⟨s2,hs2⟩:∃ s,decide (b<0)=s:=⟨_,rfl⟩
   have hn1:=aH hs1
   have hn2:=aH hs2
   cases s1 <;> cases s2
   all_goals
    go_enter Tryz.func201,Tryz.ntmps201
    go_wp2_with (first
     | (go_at_call 136;refine (eS _ _ (by omega) (by omega)).mono ?_;rintro e w' ⟨rfl,rfl⟩)
     | (go_at_call 224;refine (hmul.out _).mono ?_;rintro e w' ⟨rfl,rfl⟩))
    go_ret2
    first
     | exact HO.out _ (HP.out.1 ⟨by have:=hn1.out;simpa using this,by have:=hn2.out;simpa using this⟩).symm (.inl rfl)
     | exact HO.out _ (HP.out.2.1 ⟨by have:=hn1.out;simpa using this,by have:=hn2.out;simpa using this⟩).symm (.inl rfl)
     | exact HO.out _ (HP.out.2.2.1 ⟨by have:=hn1.out;simpa using this,by have:=hn2.out;simpa using this⟩).symm (.inr rfl)
     | exact HO.out _ (HP.out.2.2.2 ⟨by have:=hn1.out;simpa using this,by have:=hn2.out;simpa using this⟩).symm (.inr rfl)
  ·clear hal
   go_enter Tryz.func201,Tryz.ntmps201
   go_wp2_with (first
    | (go_at_call 136;refine (eS _ _ (by omega) (by omega)).mono ?_;rintro e w' ⟨rfl,rfl⟩)
    | (go_at_call 224;refine (hmul.out _).mono ?_;rintro e w' ⟨rfl,rfl⟩))
   go_ret2
   exact ⟨0,false,rfl,fun h=>by (cases h),fun _=>⟨rfl,HNM.out (by omega)⟩,Below.refl _ _⟩
 ·have hz1:((hi:Int) != 0)=true:=by simp;omega
  go_enter Tryz.func201,Tryz.ntmps201
  go_wp2_with (first
   | (go_at_call 136;refine (eS _ _ (by omega) (by omega)).mono ?_;rintro e w' ⟨rfl,rfl⟩)
   | (go_at_call 224;refine (hmul.out _).mono ?_;rintro e w' ⟨rfl,rfl⟩))
  go_ret2
  exact ⟨0,false,rfl,fun h=>by (cases h),fun _=>⟨rfl,HNM.out (by omega)⟩,Below.refl _ _⟩
set_option maxHeartbeats 4000000 in
theorem zI (a b:Int) (w:World) (ha:gK a) (hb:gK b):Calls Tryz.prog 199 #[.int .i64 a,.int .i64 b] w (GivesOk w (a+b) (IntKind.i64.wrap (a+b))):=by
 obtain ⟨s,hs⟩:∃ s,IntKind.i64.wrap (a+b)=s:=⟨_,rfl⟩
 have hsv:s=(a+b+9223372036854775808)%18446744073709551616-9223372036854775808:=by rw [← hs,IntKind.wrap_i64]
 obtain ⟨s1,hs1⟩:∃ s1,decide (a<0)=s1:=⟨_,rfl⟩
 obtain ⟨s2,hs2⟩:∃ s2,decide (b<0)=s2:=⟨_,rfl⟩
 obtain ⟨s3,hs3⟩:∃ s3,decide (s<0)=s3:=⟨_,rfl⟩
 obtain ⟨s4,hs4⟩:∃ s4,(s != -9223372036854775808)=s4:=⟨_,rfl⟩
 have H:=aH (aI ha (aI hb (aI hsv (aI hs1 (aI hs2 (aI hs3 hs4))))))
 rw [hs]
 have hout:∀ ok:Bool,ok=((s1 != s2 || s3==s1)&&s4)→GivesOk w (a+b) s (.returned (.tuple #[.int .i64 s,.bool ok])) w:=fun ok hok=>by
  obtain ⟨⟨a1,a2⟩,⟨b1,b2⟩,hsv,hs1,hs2,hs3,hs4⟩:=H.out
  have key:((s1 != s2 || s3==s1)&&s4)=true↔s=a+b∧gK (a+b):=by
   unfold gK
   cases s4
   ·have h4:s = -9223372036854775808:=by simpa using hs4
    simp
    omega
   ·have h4:s≠-9223372036854775808:=by simpa using hs4
    cases s1 <;> cases s2 <;> cases s3 <;> simp at hs1 hs2 hs3 ⊢ <;> omega
  refine ⟨s,ok,rfl,fun h=>key.1 (by rw [← hok,h]),fun h=>⟨rfl,fun hm=>?_⟩,Below.refl _ _⟩
  have hsm:s=a+b:=by obtain ⟨m1,m2⟩:=hm;omega
  have:=key.2 ⟨hsm,hm⟩
  rw [← hok,h] at this
  cases this
 have HO:=aH hout
 clear ha hb hsv hout
 cases s1 <;> cases s2 <;> cases s3 <;> cases s4
 all_goals
  go_enter Tryz.func199,Tryz.ntmps199
  go_wp2
  go_ret2
  exact HO.out _ (by decide)
def coIs (o:Obj):Obj→World→Prop:=fun o' _=>o'=o
theorem oC (K:Value→Bool) (o:Obj):StableO K (coIs o):=fun _ _ _ h _=>h
def kF (n d:Int):Value := .agg #[.int .i64 n,.int .i64 (d-1),.pointer none]
set_option maxRecDepth 100000 in
set_option maxHeartbeats 4000000 in
theorem lowest_raw (n d:Int) (g:Nat) (w:World) (hn1:-9223372036854775808≤n) (hn2:n≤9223372036854775807) (hd1:1≤d) (hd2:d≤9223372036854775807) (hg:g=Nat.gcd d.natAbs n.natAbs) :
 Calls Tryz.prog 200 #[.int .i64 n,.int .i64 d] w (Gives w (kF (n/g) (d/g))):=by
 by_cases h1:d=1
 ·subst h1
  have:g=1:=by rw [hg];simp
  subst this
  unfold kF
  rw [show ((1:Nat):Int)=1 from rfl,Int.ediv_one,Int.ediv_one,Int.sub_self]
  clear hg
  go_enter Tryz.func200,Tryz.ntmps200
  go_wp2
  refine bodyPost_ret (v := .agg #[.int .i64 n,.int .i64 0,.pointer none]) (by simp [results,Tryz.results200,go_sem]) rfl ⟨rfl,?_⟩
  repeat (first|exact Below.refl _ _|(refine Below.setCell ?_ (by first|omega|(simp;done)|(simp;omega)) _)|(refine Below.alloc ?_ (by first|omega|(simp;done)|(simp;omega)) _)|(refine Below.drew ?_)|exact Below.refl _ _)
 ·have hz:(d==1)=false:=by simpa using h1
  have hg0:0<g:=by rw [hg];exact Nat.gcd_pos_of_pos_left _ (by omega)
  have hgd:g ∣ d.natAbs:=by rw [hg];exact Nat.gcd_dvd_left _ _
  have hgn:g ∣ n.natAbs:=by rw [hg];exact Nat.gcd_dvd_right _ _
  have hgle:g≤d.natAbs:=Nat.le_of_dvd (by omega) hgd
  have hcw:(d.natAbs:Int)=d:=by omega
  have hw1:IntKind.u64.wrap d=((d.natAbs:Nat):Int):=by rw [IntKind.wrap_u64];omega
  have hw2:IntKind.i64.wrap (g:Int)=g:=by rw [IntKind.wrap_i64];omega
  have hgz:¬ (g=0):=by omega
  obtain ⟨q1,hq1⟩:∃ q1,q1=n/(g:Int):=⟨_,rfl⟩
  obtain ⟨q2,hq2⟩:∃ q2,q2=d/(g:Int):=⟨_,rfl⟩
  have dn:(g:Int) ∣ n:=Int.ofNat_dvd_left.2 hgn
  have dd:(g:Int) ∣ d:=Int.ofNat_dvd_left.2 hgd
  have ht1:n.tdiv (g:Int)=q1:=by rw [hq1];exact Int.tdiv_eq_ediv_of_dvd dn
  have ht2:d.tdiv (g:Int)=q2:=by rw [hq2];exact Int.tdiv_eq_ediv_of_dvd dd
  have m1:q1*g=n:=by rw [hq1];exact Int.ediv_mul_cancel dn
  have m2:q2*g=d:=by rw [hq2];exact Int.ediv_mul_cancel dd
  have r2:1≤q2∧q2≤9223372036854775807:=by
   have:q2≤d:=by rw [hq2];exact Int.ediv_le_self _ (by omega)
   refine ⟨?_,by omega⟩
   rw [hq2]
   exact (Int.le_ediv_iff_mul_le (by omega)).2 (by omega)
  have r1:-9223372036854775808≤q1∧q1≤9223372036854775807:=by
   have h1:q1.natAbs≤n.natAbs:=by
    rw [← m1,Int.natAbs_mul]
    exact Nat.le_mul_of_pos_right _ (by simpa using hg0)
   have h2:n<0→q1<0:=fun h=>by
    apply Int.not_le.1
    intro h3
    have:=Int.mul_nonneg h3 (show (0:Int)≤g by omega)
    omega
   have h3:0≤n→0≤q1:=fun h=>by rw [hq1];exact Int.ediv_nonneg h (by omega)
   omega
  have w1:IntKind.i64.wrap q1=q1:=by rw [IntKind.wrap_i64];omega
  have w2:IntKind.i64.wrap q2=q2:=by rw [IntKind.wrap_i64];omega
  rw [← hq1,← hq2]
  have hgl:d.natAbs<aD:=by rw [aJ];omega
  have hnl:n.natAbs<aD:=by rw [aJ];omega
  have hgc:=fun w=>jE d.natAbs n.natAbs w hgl hnl
  rw [← hg] at hgc
  have HG:=aH hgc
  have HQ:=aH (aI ht1 (aI ht2 (aI r1 (aI r2 (aI w1 w2)))))
  clear hg0 hgd hgn hgle hq1 hq2 dn dd ht1 ht2 m1 m2 r1 r2 w1 w2 hgl hnl hgc hg hcw h1
  go_enter Tryz.func200,Tryz.ntmps200
  go_wp2_with fail
  refine (eS n _ hn1 hn2).mono ?_
  rintro e w' ⟨rfl,rfl⟩
  go_wp2_with fail
  refine (HG.out _).mono ?_
  rintro e w3 ⟨rfl,b3⟩
  have hR:=aM b3 (heap_alloc_new w _)
  have B3:=aH (Below.step_trans ((Below.refl w.heap.size w).alloc (Nat.le_refl _) _) b3)
  clear b3
  have t1:∀ w',Calls Tryz.prog 124 #[.int .i64 q1,.int .i64 q2] w' (TyPost w' (Sp.is (kF q1 q2))):=fun w'=>Gives.ty (tH q1 q2 w' HQ.out.2.2.2.1.1 HQ.out.2.2.2.1.2)
  have T1:=aH t1
  clear t1
  go_wp2_with fail
  have k1:=HQ.out.1
  have k2:=HQ.out.2.1
  have k3:=HQ.out.2.2.2.2.1
  have k4:=HQ.out.2.2.2.2.2
  refine wp_region_ty Kn [w.heap.size] (by kernel_rfl) (by kernel_rfl) ?_
  repeat (first|(apply bQ (hg:=rfl);case h=>(intro A w' hB hk;simp [known,specOf,Kd.spec,Sp.is,isVar,Oper.looksAt,Op.operands,Call.operands,Act.eval] at hk;first|(simp [go_sem,hk,hgz,k1,k2,k3,k4];done)|(simp [go_sem,hk,hgz,k1,k2,k3,k4];rfl)|(simp [go_sem,hgz,k1,k2,k3,k4];rfl)))|(refine aV _ ?_ (by first|exact .inl rfl|exact .inr rfl) (by rfl) (by simp [specOf,Kd.spec];rfl) ?_ rfl ?_;(first|exact Sp.is_stable _ _|exact aL (fun _=>rfl) _|exact spTwo_stable (fun _=>rfl) _ _|exact spFr_stable (fun _=>rfl) _|exact spSum_stable (fun _=>rfl) _|exact spSgn_stable _ _|exact spNb_stable (fun _=>rfl) (fun _=>rfl) _|exact spVc_stable (fun _=>rfl) (fun _=>rfl) _)))
  refine aO (Sp.is (kF q1 q2)) (Sp.is_stable _ _) rfl (fun A w' hB hk=>?_) ?_;(simp [known,specOf,Kd.spec,Sp.is,isVar,Oper.looksAt,Op.operands,Call.operands,Act.eval] at hk;simp [go_sem,hk];refine aG ?_;exact T1.out _)
  refine gR (w.heap.size) (_) (coIs (.cells #[.int .i64 q1,.int .i64 (q2-1),.pointer none] 69 (0,0))) (oC _ _) rfl rfl (by simp) (by assumption) (by simp [hotObj,Ku,Kn]) (fun A w' hB hk h0=>?_) ?_;(simp [known,specOf,Kd.spec,Sp.is,isVar,Oper.looksAt,Op.operands,Call.operands,Act.eval] at hk;have c0:=aA h0;have f0:=aW h0;rw [kF] at hk;simp [go_sem,hk,c0,f0];exact ⟨_,eI h0 _ _ _,rfl⟩)
  refine ⟨by first|rfl|decide,fun f w2 hB hF hAp=>?_⟩;simp [Final1,Sp.is,isVar] at hF;simp only [frameOf]
  obtain ⟨o,rfl,ho⟩:=hF.1
  obtain ⟨⟨r0,r1,r2⟩,_⟩:=dN ho
  have K:=aH hB
  clear hB ho hAp hF
  go_wp2
  refine bodyPost_ret (v := .agg #[.int .i64 q1,.int .i64 (q2-1),.pointer none]) (by simp [results,Tryz.results200,go_sem,r0,r1,r2,Act.put]) rfl ⟨rfl,?_⟩
  exact Base.belowT K.out B3.out (Nat.le_refl _)
def Sm (q:Rat):Prop:=q.num.natAbs≤M63∧q.den≤M63
def Nb (w:World) (v:Value) (q:Rat):Prop :=
 (Sm q∧v=kF q.num q.den) ∨
 (¬ Sm q∧∃ g s1 s2,v = .agg #[.int .i64 0,.int .i64 0,.pointer (some ⟨g,0,none⟩)]∧w.heap[g]?=some (.cells #[.bool (decide (q.num<0)),s1,s2] 97 (0,0))∧Nt w s1 q.num.natAbs∧Nt w s2 q.den)
theorem Nb.below {w w' : World} {v:Value} {q:Rat} (h:Nb w v q) (hb:Below w.heap.size w w'):Nb w' v q:=by
 rcases h with h|⟨h,g,s1,s2,e,hk,h1,h2⟩
 ·exact .inl h
 ·exact .inr ⟨h,g,s1,s2,e,aM hb hk,h1.below hb,h2.below hb⟩
theorem Nb.ext {K:Value→Bool} (hK:∀ x,K (.int .u64 x)=true) (hK2:∀ b,K (.bool b)=true) {w w' : World} {v:Value} {q:Rat} (h:Nb w v q) (hx:Ext K w w'):Nb w' v q:=by
 rcases h with h|⟨h,g,s1,s2,e,hk,h1,h2⟩
 ·exact .inl h
 ·exact .inr ⟨h,g,s1,s2,e,hx.block g _ hk (by simp [hotObj,hK2]),h1.ext hK hx,h2.ext hK hx⟩
def jF (q:Rat):Sp:=fun v w=>Nb w v q
theorem spNb_stable {K:Value→Bool} (hK:∀ x,K (.int .u64 x)=true) (hK2:∀ b,K (.bool b)=true) (q:Rat):Stable K (jF q):=fun _ _ _ h hx=>Nb.ext hK hK2 h hx
def GivesNb (w:World) (q:Rat) (e:Ending) (w' : World):Prop := ∃ v,e = .returned v∧Nb w' v q∧Below w.heap.size w w'
theorem GivesNb.ty {P:Program} {f:FuncId} {args:Array Value} {w:World} {q:Rat} (h:Calls P f args w (GivesNb w q)):Calls P f args w (TyPost w (jF q)) :=
 h.mono fun _ _ ⟨v,h1,h2,h3⟩=>⟨v,h1,h3,h2⟩
theorem Nb.form {w:World} {v:Value} {q:Rat} (h:Nb w v q):∃ n d p,v = .agg #[.int .i64 n,.int .i64 d,.pointer p]:=by
 rcases h with ⟨_,rfl⟩|⟨_,g,s1,s2,rfl,_⟩
 ·exact ⟨_,_,_,rfl⟩
 ·exact ⟨_,_,_,rfl⟩
def coNb (q:Rat):Obj→World→Prop:=fun o w => ∃ n d p,o = .cells #[.int .i64 n,.int .i64 d,.pointer p] 69 (0,0)∧Nb w (.agg #[.int .i64 n,.int .i64 d,.pointer p]) q
theorem eF {K:Value→Bool} (hK:∀ x,K (.int .u64 x)=true) (hK2:∀ b,K (.bool b)=true) (q:Rat):StableO K (coNb q):=fun _ _ _ ⟨n,d,p,e,h⟩ hx=>⟨n,d,p,e,h.ext hK hK2 hx⟩
theorem iT {q:Rat} (h:Sm q):1≤(q.den:Int)∧(q.den:Int)≤9223372036854775807:=by
 have:=q.den_pos
 have h2:=h.2
 rw [eK] at h2
 omega
theorem iU {q:Rat} (h:Sm q):gK q.num:=by
 have h2:=h.1
 rw [eK] at h2
 unfold gK
 omega
set_option maxRecDepth 100000 in
set_option maxHeartbeats 8000000 in
theorem eY (v:Value) (q:Rat) (w:World) (h:Fr w v q):Calls Tryz.prog 57 #[v] w (GivesNb w q):=by
 obtain ⟨s1,s2,rfl,h1,h2⟩:=h
 obtain ⟨A1,n1,c1,rfl⟩:=h1.form
 obtain ⟨A2,n2,c2,rfl⟩:=h2.form
 obtain ⟨neg,hneg⟩:∃ neg,decide (q.num<0)=neg:=⟨_,rfl⟩
 rw [hneg]
 obtain ⟨hk1,hk2,hb1⟩:=alloc2 w (.cells #[.bool neg,.slice A1 n1 c1,.slice A2 n2 c2] 97) (.cells #[.int .i64 0,.int .i64 0,.pointer none] 69)
 have H:=aH (aI (h1.below hb1) (aI (h2.below hb1) (aI hb1 (aI hk1 (aI hk2 hneg)))))
 have HW:=aH (aI h1 h2)
 have hm1:∀ w',Below w.heap.size w w'→Calls Tryz.prog 122 #[.slice A1 n1 c1] w' fun e w''=>e = .returned (.bool (decide (q.num.natAbs≤M63)))∧w'=w'':=fun w' hb=>pQ _ _ _ (h1.below hb)
 have hm2:∀ w',Below w.heap.size w w'→Calls Tryz.prog 122 #[.slice A2 n2 c2] w' fun e w''=>e = .returned (.bool (decide (q.den≤M63)))∧w'=w'':=fun w' hb=>pQ _ _ _ (h2.below hb)
 have HM:=aH (aI hm1 hm2)
 clear h1 h2 hb1 hk1 hk2 hneg hm1 hm2
 by_cases hs:Sm q
 ·have z1:decide (q.num.natAbs≤M63)=true:=by rw [decide_eq_true_eq];exact hs.1
  have z2:decide (q.den≤M63)=true:=by rw [decide_eq_true_eq];exact hs.2
  rw [z1,z2] at HM
  have l1:q.num.natAbs%aD=q.num.natAbs:=Nat.mod_eq_of_lt (by have:=hs.1;rw [eK] at this;rw [aJ];omega)
  have l2:q.den%aD=q.den:=Nat.mod_eq_of_lt (by have:=hs.2;rw [eK] at this;rw [aJ];omega)
  have w1:IntKind.i64.wrap ((q.num.natAbs:Nat):Int)=((q.num.natAbs:Nat):Int):=by have:=hs.1;rw [eK] at this;rw [IntKind.wrap_i64];omega
  have w2:IntKind.i64.wrap ((q.den:Nat):Int)=(q.den:Int):=by have:=hs.2;rw [eK] at this;rw [IntKind.wrap_i64];omega
  have hd:=iT hs
  have hbn:((q.num.natAbs:Nat):Int)≤9223372036854775807:=by have:=hs.1;rw [eK] at this;omega
  have HS:=aH (aI hs (aI l1 (aI l2 hd)))
  obtain ⟨N,hN⟩:∃ N:Nat,N=q.num.natAbs:=⟨_,rfl⟩
  obtain ⟨D,hD⟩:∃ D:Nat,D=q.den:=⟨_,rfl⟩
  rw [← hN] at w1 hbn
  rw [← hD] at w2
  have hd2:(D:Int)≤9223372036854775807:=by rw [hD];exact hd.2
  have hd1:(1:Int)≤D:=by rw [hD];exact hd.1
  have HND:=aH (aI hN hD)
  clear z1 z2 hs l1 l2 hd hN hD
  cases neg
  ·go_enter Tryz.func57,Tryz.ntmps57
   go_wp2_with fail
   refine (HM.out.1 _ H.out.2.2.1).mono ?_
   rintro e w' ⟨rfl,rfl⟩
   go_wp2_with fail
   refine (HM.out.2 _ H.out.2.2.1).mono ?_
   rintro e w' ⟨rfl,rfl⟩
   go_wp2_with fail
   refine (qD H.out.1).mono ?_
   rw [HS.out.2.1,← HND.out.1]
   rintro e w' ⟨rfl,rfl⟩
   go_wp2_with fail
   refine (qD H.out.2.1).mono ?_
   rw [HS.out.2.2.1,← HND.out.2]
   rintro e w' ⟨rfl,rfl⟩
   go_wp2_with fail
   refine (tH _ _ _ hd1 hd2).mono ?_
   rintro e w3 ⟨rfl,b3⟩
   have hk:=aM b3 H.out.2.2.2.2.1
   obtain ⟨⟨h0,h1,h2⟩,f0,f1,f2⟩:=dN hk
   have B3:=aH (Below.step_trans H.out.2.2.1 b3)
   clear b3 hk
   go_wp2
   refine bodyPost_ret (v := .agg #[.int .i64 (N:Int),.int .i64 ((D:Int)-1),.pointer none]) (by simp [results,Tryz.results57,go_sem,h0,h1,h2]) rfl ⟨_,rfl,.inl ⟨HS.out.1,?_⟩,?_⟩
   ·have e:=H.out.2.2.2.2.2
    have e2:q.num=(N:Int):=by
     have:=HND.out.1
     have:¬ q.num<0:=by simpa using e
     omega
    have e3:(q.den:Int)=D:=by rw [HND.out.2]
    rw [kF,e2,e3]
   ·repeat (first|exact B3.out|(refine Below.setCell ?_ (by first|omega|(simp;done)|(simp;omega)) _)|(refine Below.alloc ?_ (by first|omega|(simp;done)|(simp;omega)) _)|(refine Below.drew ?_)|exact Below.refl _ _)
  ·go_enter Tryz.func57,Tryz.ntmps57
   go_wp2_with fail
   refine (HM.out.1 _ H.out.2.2.1).mono ?_
   rintro e w' ⟨rfl,rfl⟩
   go_wp2_with fail
   refine (HM.out.2 _ H.out.2.2.1).mono ?_
   rintro e w' ⟨rfl,rfl⟩
   go_wp2_with fail
   refine (qD H.out.1).mono ?_
   rw [HS.out.2.1,← HND.out.1]
   rintro e w' ⟨rfl,rfl⟩
   go_wp2_with fail
   refine (qD H.out.2.1).mono ?_
   rw [HS.out.2.2.1,← HND.out.2]
   rintro e w' ⟨rfl,rfl⟩
   go_wp2_with fail
   refine (tH _ _ _ hd1 hd2).mono ?_
   rintro e w3 ⟨rfl,b3⟩
   have hk:=aM b3 H.out.2.2.2.2.1
   obtain ⟨⟨h0,h1,h2⟩,f0,f1,f2⟩:=dN hk
   have B3:=aH (Below.step_trans H.out.2.2.1 b3)
   clear b3 hk
   go_wp2
   refine bodyPost_ret (v := .agg #[.int .i64 (-(N:Int)),.int .i64 ((D:Int)-1),.pointer none]) (by simp [results,Tryz.results57,go_sem,h0,h1,h2]) rfl ⟨_,rfl,.inl ⟨HS.out.1,?_⟩,?_⟩
   ·have e:=H.out.2.2.2.2.2
    have e2:q.num=(-(N:Int)):=by
     have:=HND.out.1
     have:q.num<0:=by simpa using e
     omega
    have e3:(q.den:Int)=D:=by rw [HND.out.2]
    rw [kF,e2,e3]
   ·repeat (first|exact B3.out|(refine Below.setCell ?_ (by first|omega|(simp;done)|(simp;omega)) _)|(refine Below.alloc ?_ (by first|omega|(simp;done)|(simp;omega)) _)|(refine Below.drew ?_)|exact Below.refl _ _)
 ·have z12:decide (q.num.natAbs≤M63)=false∨(decide (q.num.natAbs≤M63)=true∧decide (q.den≤M63)=false):=by
   rcases Bool.eq_false_or_eq_true (decide (q.num.natAbs≤M63)) with h|h
   ·rcases Bool.eq_false_or_eq_true (decide (q.den≤M63)) with h'|h'
    ·exact absurd ⟨by simpa using h,by simpa using h'⟩ hs
    ·exact .inr ⟨h,h'⟩
   ·exact .inl h
  have HS:=aH hs
  clear hs
  have hfin:∀ w2,Below w.heap.size w w2→∀ g,w2.heap[g]?=some (.cells #[.bool neg,.slice A1 n1 c1,.slice A2 n2 c2] 97 (0,0))→Nt w2 (.slice A1 n1 c1) q.num.natAbs→Nt w2 (.slice A2 n2 c2) q.den →
   GivesNb w q (.returned (.agg #[.int .i64 0,.int .i64 0,.pointer (some ⟨g,0,none⟩)])) w2:=fun w2 hb g hg hn hd =>
   ⟨_,rfl,.inr ⟨HS.out,g,_,_,rfl,by rw [H.out.2.2.2.2.2];exact hg,hn,hd⟩,hb⟩
  have HF:=aH hfin
  clear hfin
  rcases z12 with z1|⟨z1,z2⟩
  ·rw [z1] at HM
   clear z1
   go_enter Tryz.func57,Tryz.ntmps57
   go_wp2_with fail
   refine (HM.out.1 _ H.out.2.2.1).mono ?_
   rintro e w' ⟨rfl,rfl⟩
   go_wp2
   refine bodyPost_ret (v := .agg #[.int .i64 0,.int .i64 0,.pointer (some ⟨w.heap.size+1+1,0,none⟩)]) (by simp [results,Tryz.results57,go_sem]) rfl (HF.out _ (eJ w _ _ _).2.2.2 _ (eJ w _ _ _).2.2.1 (HW.out.1.below (eJ w _ _ _).2.2.2) (HW.out.2.below (eJ w _ _ _).2.2.2))
  ·rw [z1,z2] at HM
   clear z1 z2
   go_enter Tryz.func57,Tryz.ntmps57
   go_wp2_with fail
   refine (HM.out.1 _ H.out.2.2.1).mono ?_
   rintro e w' ⟨rfl,rfl⟩
   go_wp2_with fail
   refine (HM.out.2 _ H.out.2.2.1).mono ?_
   rintro e w' ⟨rfl,rfl⟩
   go_wp2
   refine bodyPost_ret (v := .agg #[.int .i64 0,.int .i64 0,.pointer (some ⟨w.heap.size+1+1,0,none⟩)]) (by simp [results,Tryz.results57,go_sem]) rfl (HF.out _ (eJ w _ _ _).2.2.2 _ (eJ w _ _ _).2.2.1 (HW.out.1.below (eJ w _ _ _).2.2.2) (HW.out.2.below (eJ w _ _ _).2.2.2))
theorem Fr.of_machine {w:World} {q:Rat} {s1 s2:Value} (h1:Nt w s1 q.num.natAbs) (h2:Nt w s2 q.den):Fr w (.agg #[.bool (decide (q.num<0)),s1,s2]) q:=⟨s1,s2,rfl,h1,h2⟩
set_option maxRecDepth 100000 in
set_option maxHeartbeats 8000000 in
theorem cD (v:Value) (q:Rat) (w:World) (h:Nb w v q):Calls Tryz.prog 142 #[v] w (GivesFr w q):=by
 rcases h with ⟨hs,rfl⟩|⟨hs,g,s1,s2,rfl,hk,h1,h2⟩
 ·obtain ⟨n,hn⟩:∃ n,n=q.num:=⟨_,rfl⟩
  obtain ⟨d,hd⟩:∃ d:Nat,d=q.den:=⟨_,rfl⟩
  unfold kF
  have hmn:=iU hs
  have hmd:=iT hs
  rw [← hn] at hmn
  rw [← hd] at hmd
  rw [← hn,← hd]
  obtain ⟨hk1,hk2,hb1⟩:=alloc2 w (.cells #[.int .i64 n,.int .i64 ((d:Int)-1),.pointer none] 69) (.cells #[.bool false,.slice none 0 0,.slice none 0 0] 97)
  have H:=aH (aI hn (aI hd (aI hmn (aI hmd (aI hb1 (aI hk1 hk2))))))
  clear hn hd hmn hmd hb1 hk1 hk2
  go_enter Tryz.func142,Tryz.ntmps142
  go_wp2
  generalize (w.alloc (.cells #[.int .i64 n,.int .i64 ((d:Int)-1),.pointer none] 69)).alloc (.cells #[.bool false,.slice none 0 0,.slice none 0 0] 97)=w1 at *
  have hA:=H.out.2.2.2.2.2.1
  have hR:=H.out.2.2.2.2.2.2
  have t1:∀ w',Calls Tryz.prog 136 #[.int .i64 n] w' (TyPost w' (Sp.is (.int .u64 ((n.natAbs:Nat):Int)))):=fun w'=>by
   obtain ⟨a1,a2⟩:=H.out.2.2.1
   exact (eS n w' (by omega) a2).mono fun _ w'' ⟨h1,h2⟩=>⟨_,h1,by rw [← h2];exact Below.refl _ _,rfl⟩
  have t2:∀ w',Calls Tryz.prog 120 #[.int .u64 ((n.natAbs:Nat):Int)] w' (TyPost w' (jQ n.natAbs)):=fun w'=>GivesNt.ty (cB _ (by obtain ⟨a1,a2⟩:=H.out.2.2.1;rw [aJ];omega) w')
  have t3:∀ w',Calls Tryz.prog 131 #[.agg #[.int .i64 n,.int .i64 ((d:Int)-1),.pointer none]] w' (TyPost w' (Sp.is (.int .i64 (d:Int)))):=fun w'=>by
   obtain ⟨a1,a2⟩:=H.out.2.2.2.1
   have:=Gives.ty (mV n ((d:Int)-1) none w' (by omega) (by omega))
   rwa [Int.sub_add_cancel] at this
  have t4:∀ w',Calls Tryz.prog 120 #[.int .u64 (d:Int)] w' (TyPost w' (jQ d)):=fun w'=>GivesNt.ty (cB _ (by obtain ⟨a1,a2⟩:=H.out.2.2.2.1;rw [aJ];omega) w')
  have T:=aH (aI t1 (aI t2 (aI t3 t4)))
  clear t1 t2 t3 t4
  have k1:IntKind.u64.wrap (d:Int)=d:=by obtain ⟨a1,a2⟩:=H.out.2.2.2.1;rw [IntKind.wrap_u64];omega
  obtain ⟨neg,hneg⟩:∃ neg,decide (n<0)=neg:=⟨_,rfl⟩
  have HN:=aH hneg
  refine wp_region_ty Ku [w.heap.size+1] (by kernel_rfl) (by kernel_rfl) ?_
  repeat (first|(apply bQ (hg:=rfl);case h=>(intro A w' hB hk;simp [known,specOf,Kd.spec,Sp.is,isVar,Oper.looksAt,Op.operands,Call.operands,Act.eval] at hk;have c_hA:=aA (hB.blk hA (by first|(simp;done)|(simp;omega)));first|(simp [go_sem,hk,c_hA,hneg];done)|(simp [go_sem,hk,c_hA,hneg];rfl)|(simp [go_sem,c_hA,hneg];rfl)))|(refine aV _ ?_ (by first|exact .inl rfl|exact .inr rfl) (by rfl) (by simp [specOf,Kd.spec];rfl) ?_ rfl ?_;(first|exact Sp.is_stable _ _|exact aL (fun _=>rfl) _|exact spTwo_stable (fun _=>rfl) _ _|exact spFr_stable (fun _=>rfl) _|exact spSum_stable (fun _=>rfl) _|exact spSgn_stable _ _|exact spNb_stable (fun _=>rfl) (fun _=>rfl) _|exact spVc_stable (fun _=>rfl) (fun _=>rfl) _)))
  refine aO (Sp.is (.int .u64 ((n.natAbs:Nat):Int))) (Sp.is_stable _ _) rfl (fun A w' hB hk=>?_) ?_;(simp [known,specOf,Kd.spec,Sp.is,isVar,Oper.looksAt,Op.operands,Call.operands,Act.eval] at hk;have c_hA:=aA (hB.blk hA (by first|(simp;done)|(simp;omega)));simp [go_sem,hk,c_hA];refine aG ?_;exact T.out.1 _)
  refine aO (jQ n.natAbs) (aL (fun _=>rfl) _) rfl (fun A w' hB hk=>?_) ?_;(simp [known,specOf,Kd.spec,Sp.is,isVar,Oper.looksAt,Op.operands,Call.operands,Act.eval] at hk;have c_hA:=aA (hB.blk hA (by first|(simp;done)|(simp;omega)));simp [go_sem,hk,c_hA];refine aG ?_;exact T.out.2.1 _)
  repeat (first|(apply bQ (hg:=rfl);case h=>(intro A w' hB hk;simp [known,specOf,Kd.spec,Sp.is,isVar,Oper.looksAt,Op.operands,Call.operands,Act.eval] at hk;have c_hA:=aA (hB.blk hA (by first|(simp;done)|(simp;omega)));first|(simp [go_sem,hk,c_hA];done)|(simp [go_sem,hk,c_hA];rfl)|(simp [go_sem,c_hA];rfl)))|(refine aV _ ?_ (by first|exact .inl rfl|exact .inr rfl) (by rfl) (by simp [specOf,Kd.spec];rfl) ?_ rfl ?_;(first|exact Sp.is_stable _ _|exact aL (fun _=>rfl) _|exact spTwo_stable (fun _=>rfl) _ _|exact spFr_stable (fun _=>rfl) _|exact spSum_stable (fun _=>rfl) _|exact spSgn_stable _ _|exact spNb_stable (fun _=>rfl) (fun _=>rfl) _|exact spVc_stable (fun _=>rfl) (fun _=>rfl) _)))
  refine aO (Sp.is (.int .i64 (d:Int))) (Sp.is_stable _ _) rfl (fun A w' hB hk=>?_) ?_;(simp [known,specOf,Kd.spec,Sp.is,isVar,Oper.looksAt,Op.operands,Call.operands,Act.eval] at hk;have c_hA:=aA (hB.blk hA (by first|(simp;done)|(simp;omega)));simp [go_sem,hk,c_hA];refine aG ?_;exact T.out.2.2.1 _)
  repeat (first|(apply bQ (hg:=rfl);case h=>(intro A w' hB hk;simp [known,specOf,Kd.spec,Sp.is,isVar,Oper.looksAt,Op.operands,Call.operands,Act.eval] at hk;have c_hA:=aA (hB.blk hA (by first|(simp;done)|(simp;omega)));first|(simp [go_sem,hk,c_hA,k1];done)|(simp [go_sem,hk,c_hA,k1];rfl)|(simp [go_sem,c_hA,k1];rfl)))|(refine aV _ ?_ (by first|exact .inl rfl|exact .inr rfl) (by rfl) (by simp [specOf,Kd.spec];rfl) ?_ rfl ?_;(first|exact Sp.is_stable _ _|exact aL (fun _=>rfl) _|exact spTwo_stable (fun _=>rfl) _ _|exact spFr_stable (fun _=>rfl) _|exact spSum_stable (fun _=>rfl) _|exact spSgn_stable _ _|exact spNb_stable (fun _=>rfl) (fun _=>rfl) _|exact spVc_stable (fun _=>rfl) (fun _=>rfl) _)))
  refine aO (jQ d) (aL (fun _=>rfl) _) rfl (fun A w' hB hk=>?_) ?_;(simp [known,specOf,Kd.spec,Sp.is,isVar,Oper.looksAt,Op.operands,Call.operands,Act.eval] at hk;have c_hA:=aA (hB.blk hA (by first|(simp;done)|(simp;omega)));simp [go_sem,hk,c_hA];refine aG ?_;exact T.out.2.2.2 _)
  refine aO (fK q) (spFr_stable (fun _=>rfl) _) rfl (fun A w' hB hk=>?_) ?_;(simp [known,specOf,Kd.spec,Sp.is,isVar,Oper.looksAt,Op.operands,Call.operands,Act.eval] at hk;have c_hA:=aA (hB.blk hA (by first|(simp;done)|(simp;omega)));obtain ⟨k1,k2,k3⟩:=hk;obtain ⟨B1,m1,u1,e1⟩:=(show Nt _ _ _ from k2).form;obtain ⟨B2,m2,u2,e2⟩:=(show Nt _ _ _ from k3).form;rw [e1] at k2;rw [e2] at k3;simp [go_sem,k1,e1,e2];refine iZ ?_;have e3:=H.out.1;have e4:=H.out.2.1;rw [e3] at k2;rw [e4] at k3;rw [← HN.out,e3];exact Fr.of_machine k2 k3)
  refine gR (w.heap.size+1) (_) (coFr q) (kE (fun _=>rfl) _) rfl rfl (by simp) (by assumption) (by simp [hotObj,Ku,Kn]) (fun A w' hB hk h0=>?_) ?_;(simp [known,specOf,Kd.spec,Sp.is,isVar,Oper.looksAt,Op.operands,Call.operands,Act.eval] at hk;have c_hA:=aA (hB.blk hA (by first|(simp;done)|(simp;omega)));have c0:=aA h0;have f0:=aW h0;obtain ⟨k1,z1,z2,k2,k3,k4⟩:=hk;obtain ⟨B1,m1,e1,rfl⟩:=k3.form;obtain ⟨B2,m2,e2,rfl⟩:=k4.form;simp [go_sem,k1,k2,c0,f0];exact ⟨_,eI h0 _ _ _,_,_,rfl,k3,k4⟩)
  refine ⟨by first|rfl|decide,fun f w2 hB hF hAp=>?_⟩;simp [Final1,Sp.is,isVar] at hF;simp only [frameOf]
  obtain ⟨o,⟨s1,s2,rfl,k3,k4⟩,ho⟩:=hF.1
  obtain ⟨B1,m1,u1,rfl⟩:=k3.form
  obtain ⟨B2,m2,u2,rfl⟩:=k4.form
  obtain ⟨⟨r0,r1,r2⟩,_⟩:=dN ho
  have K:=aH (aI k3 (aI k4 hB))
  clear k3 k4 hB ho hA hAp hF
  go_wp2
  refine bodyPost_ret (v := .agg #[.bool (decide (q.num<0)),.slice B1 m1 u1,.slice B2 m2 u2]) (by simp [results,Tryz.results142,go_sem,r0,r1,r2,Act.put]) rfl ⟨_,rfl,⟨_,_,rfl,K.out.1,K.out.2.1⟩,?_⟩
  exact Base.belowT K.out.2.2 H.out.2.2.2.2.1 (by omega)
 ·obtain ⟨A1,n1,c1,rfl⟩:=h1.form
  obtain ⟨A2,n2,c2,rfl⟩:=h2.form
  obtain ⟨hk1,hk2,hb1⟩:=alloc2 w (.cells #[.int .i64 0,.int .i64 0,.pointer (some ⟨g,0,none⟩)] 69) (.cells #[.bool false,.slice none 0 0,.slice none 0 0] 97)
  have hg:=aM hb1 hk
  obtain ⟨⟨g0,g1,g2⟩,_⟩:=dN hg
  have hlt:=lt_of_block hk
  have HW:=aH (aI h1 h2)
  clear h1 h2 hk hb1 hs hk1 hk2 hg
  go_enter Tryz.func142,Tryz.ntmps142
  go_wp2
  refine bodyPost_ret (v := .agg #[.bool (decide (q.num<0)),.slice A1 n1 c1,.slice A2 n2 c2]) (by simp [results,Tryz.results142,go_sem]) rfl ⟨_,rfl,⟨_,_,rfl,HW.out.1.below ?_,HW.out.2.below ?_⟩,?_⟩ <;> repeat (first|exact Below.refl _ _|(refine Below.setCell ?_ (by first|omega|(simp;done)|(simp;omega)) _)|(refine Below.alloc ?_ (by first|omega|(simp;done)|(simp;omega)) _)|(refine Below.drew ?_)|exact Below.refl _ _)
theorem mW (a:Int) (w:World):Calls Tryz.prog 203 #[.int .i64 a] w fun e w'=>e = .returned (.bool false)∧w=w':=by
 have h:(a != a)=false:=by simp
 go_enter Tryz.func203,Tryz.ntmps203
 go_wp2
 go_ret
 exact ⟨rC (by simp),rfl⟩
theorem cmpInt64_any (a b:Int) (w:World):Calls Tryz.prog 147 #[.int .i64 a,.int .i64 b] w fun e w'=>e = .returned (.int .i64 (bS a b))∧w=w':=by
 rcases Int.lt_trichotomy a b with h|h|h
 ·have hp:=aH (show bS a b = -1 by unfold bS;rw [if_pos h])
  go_enter Tryz.func147,Tryz.ntmps147
  go_wp2_with (go_at_call 203;refine (mW _ _).mono ?_;rintro e w' ⟨rfl,rfl⟩)
  go_ret
  exact ⟨bX hp.out.symm,rfl⟩
 ·subst h
  have hp:=aH (show bS a a=0 by unfold bS;rw [if_neg (by omega),if_neg (by omega)])
  go_enter Tryz.func147,Tryz.ntmps147
  go_wp2_with (go_at_call 203;refine (mW _ _).mono ?_;rintro e w' ⟨rfl,rfl⟩)
  go_ret
  exact ⟨bX hp.out.symm,rfl⟩
 ·have hp:=aH (show bS a b=1 by unfold bS;rw [if_neg (by omega),if_pos h])
  go_enter Tryz.func147,Tryz.ntmps147
  go_wp2_with (go_at_call 203;refine (mW _ _).mono ?_;rintro e w' ⟨rfl,rfl⟩)
  go_ret
  exact ⟨bX hp.out.symm,rfl⟩
theorem vL:Sm 0:=⟨Nat.zero_le _,by show 1≤M63;rw [eK];omega⟩
theorem oW (v:Value) (q:Rat) (w:World) (h:Nb w v q):Calls Tryz.prog 81 #[v] w (Gives w (.bool (decide (q=0)))):=by
 rcases h with ⟨hs,rfl⟩|⟨hs,g,s1,s2,rfl,_⟩
 ·obtain ⟨z,hz⟩:∃ z,(q.num==0)=z:=⟨_,rfl⟩
  have hq:decide (q=0)=z:=by
   rw [← hz,Bool.eq_iff_iff]
   simp [Rat.num_eq_zero]
  rw [hq]
  clear hq hs
  unfold kF
  generalize q.num=n at *
  cases z
  all_goals
   go_enter Tryz.func81,Tryz.ntmps81
   go_wp2
   go_ret
   refine ⟨rfl,?_⟩
   repeat (first|exact Below.refl _ _|(refine Below.setCell ?_ (by first|omega|(simp;done)|(simp;omega)) _)|(refine Below.alloc ?_ (by first|omega|(simp;done)|(simp;omega)) _)|(refine Below.drew ?_)|exact Below.refl _ _)
 ·have hq:decide (q=0)=false:=by
   rw [decide_eq_false_iff_not]
   intro h
   rw [h] at hs
   exact hs vL
  rw [hq]
  clear hq hs
  go_enter Tryz.func81,Tryz.ntmps81
  go_wp2
  go_ret
  refine ⟨rfl,?_⟩
  repeat (first|exact Below.refl _ _|(refine Below.setCell ?_ (by first|omega|(simp;done)|(simp;omega)) _)|(refine Below.alloc ?_ (by first|omega|(simp;done)|(simp;omega)) _)|(refine Below.drew ?_)|exact Below.refl _ _)
def nK (q:Rat):Int:=bS q.num 0
set_option maxHeartbeats 1000000 in
theorem sign_nb (v:Value) (q:Rat) (w:World) (h:Nb w v q):Calls Tryz.prog 90 #[v] w (Gives w (.int .i64 (nK q))):=by
 unfold nK
 rcases h with ⟨hs,rfl⟩|⟨hs,g,s1,s2,rfl,hk,h1,h2⟩
 ·unfold kF
  clear hs
  generalize q.num=n at *
  go_enter Tryz.func90,Tryz.ntmps90
  go_wp2_with (go_at_call 147;refine (cmpInt64_any _ _ _).mono ?_;rintro e w' ⟨rfl,rfl⟩)
  go_ret
  refine ⟨rfl,?_⟩
  repeat (first|exact Below.refl _ _|(refine Below.setCell ?_ (by first|omega|(simp;done)|(simp;omega)) _)|(refine Below.alloc ?_ (by first|omega|(simp;done)|(simp;omega)) _)|(refine Below.drew ?_)|exact Below.refl _ _)
 ·obtain ⟨A1,n1,c1,rfl⟩:=h1.form
  obtain ⟨A2,n2,c2,rfl⟩:=h2.form
  have hb1:Below w.heap.size w (w.alloc (.cells #[.int .i64 0,.int .i64 0,.pointer (some ⟨g,0,none⟩)] 69)):=(Below.refl _ _).alloc (Nat.le_refl _) _
  obtain ⟨⟨g0,g1,g2⟩,_⟩:=dN (aM hb1 hk)
  obtain ⟨neg,hneg⟩:∃ neg,decide (q.num<0)=neg:=⟨_,rfl⟩
  have hq:q.num≠0:=fun e=>hs (by rw [Rat.num_eq_zero.1 e];exact vL)
  have hlt:=lt_of_block hk
  have hc:bS q.num 0=if neg=true then -1 else 1:=by
   rw [← hneg]
   unfold bS
   by_cases h:q.num<0
   ·rw [if_pos h,if_pos (by simpa using h)]
   ·rw [if_neg h,if_pos (by omega),if_neg (by simpa using h)]
  rw [hc]
  rw [hneg] at g0
  clear hc hq hs h1 h2 hk hb1 hneg
  cases neg
  all_goals
   go_enter Tryz.func90,Tryz.ntmps90
   go_wp2
   go_ret
   refine ⟨rfl,?_⟩
   repeat (first|exact Below.refl _ _|(refine Below.setCell ?_ (by first|omega|(simp;done)|(simp;omega)) _)|(refine Below.alloc ?_ (by first|omega|(simp;done)|(simp;omega)) _)|(refine Below.drew ?_)|exact Below.refl _ _)
theorem rL (v v' : Value) (p q:Rat) (w:World) (hp:Sm p) (hq:Sm q) (h:v=kF p.num p.den) (h' : v'=kF q.num q.den):Calls Tryz.prog 140 #[v,v'] w (Gives w (.bool true)):=by
 subst h;subst h'
 unfold kF
 clear hp hq
 go_enter Tryz.func140,Tryz.ntmps140
 go_wp2
 go_ret
 refine ⟨rfl,?_⟩
 repeat (first|exact Below.refl _ _|(refine Below.setCell ?_ (by first|omega|(simp;done)|(simp;omega)) _)|(refine Below.alloc ?_ (by first|omega|(simp;done)|(simp;omega)) _)|(refine Below.drew ?_)|exact Below.refl _ _)
theorem uL (v v' : Value) (p q:Rat) (w:World) (h:Nb w v p) (h' : Nb w v' q) (hn:¬ (Sm p∧Sm q)):Calls Tryz.prog 140 #[v,v'] w (Gives w (.bool false)):=by
 rcases h with ⟨hs,rfl⟩|⟨hs,g,s1,s2,rfl,hk,h1,h2⟩
 ·rcases h' with ⟨hs',rfl⟩|⟨hs',g',s1',s2',rfl,hk',h1',h2'⟩
  ·exact absurd ⟨hs,hs'⟩ hn
  ·unfold kF
   clear hs hs' hk' h1' h2' hn
   go_enter Tryz.func140,Tryz.ntmps140
   go_wp2
   go_ret
   refine ⟨rfl,?_⟩
   repeat (first|exact Below.refl _ _|(refine Below.setCell ?_ (by first|omega|(simp;done)|(simp;omega)) _)|(refine Below.alloc ?_ (by first|omega|(simp;done)|(simp;omega)) _)|(refine Below.drew ?_)|exact Below.refl _ _)
 ·obtain ⟨n,d,pp,rfl⟩:=h'.form
  clear hs h' hk h1 h2 hn
  go_enter Tryz.func140,Tryz.ntmps140
  go_wp2
  go_ret
  refine ⟨rfl,?_⟩
  repeat (first|exact Below.refl _ _|(refine Below.setCell ?_ (by first|omega|(simp;done)|(simp;omega)) _)|(refine Below.alloc ?_ (by first|omega|(simp;done)|(simp;omega)) _)|(refine Below.drew ?_)|exact Below.refl _ _)
set_option maxRecDepth 100000 in
set_option maxHeartbeats 4000000 in
theorem xG (v:Value) (q:Rat) (w:World) (h:Nb w v q):Calls Tryz.prog 138 #[v] w (GivesNb w (-q)):=by
 rcases h with ⟨hs,rfl⟩|⟨hs,g,s1,s2,rfl,hk,h1,h2⟩
 ·have hm:=iU hs
  have hs' : Sm (-q):=⟨by rw [Rat.neg_num,Int.natAbs_neg];exact hs.1,hs.2⟩
  have hv:kF (-q).num (-q).den = .agg #[.int .i64 (-q.num),.int .i64 ((q.den:Int)-1),.pointer none]:=rfl
  obtain ⟨m1,m2⟩:=hm
  have H:=aH (aI hs' hv)
  unfold kF
  clear hs hs' hv
  have hw:IntKind.i64.wrap (-q.num) = -q.num:=by rw [IntKind.wrap_i64];omega
  generalize q.num=n at *
  generalize ((q.den:Int)-1)=d at *
  go_enter Tryz.func138,Tryz.ntmps138
  go_wp2
  refine bodyPost_ret (v := .agg #[.int .i64 (-n),.int .i64 d,.pointer none]) (by simp [results,Tryz.results138,go_sem]) rfl ⟨_,rfl,.inl ⟨H.out.1,H.out.2.symm⟩,?_⟩
  repeat (first|exact Below.refl _ _|(refine Below.setCell ?_ (by first|omega|(simp;done)|(simp;omega)) _)|(refine Below.alloc ?_ (by first|omega|(simp;done)|(simp;omega)) _)|(refine Below.drew ?_)|exact Below.refl _ _)
 ·obtain ⟨A1,n1,c1,rfl⟩:=h1.form
  obtain ⟨A2,n2,c2,rfl⟩:=h2.form
  obtain ⟨hk1,hk2,hb1⟩:=alloc2 w (.cells #[.int .i64 0,.int .i64 0,.pointer (some ⟨g,0,none⟩)] 69) (.cells #[.int .i64 0,.int .i64 0,.pointer none] 69)
  obtain ⟨⟨g0,g1,g2⟩,_⟩:=dN (aM hb1 hk)
  have hq:q≠0:=fun e=>hs (by rw [e];exact vL)
  have hlt:=lt_of_block hk
  have hfr:Fr w (.agg #[.bool (decide (q.num<0)),.slice A1 n1 c1,.slice A2 n2 c2]) q:=⟨_,_,rfl,h1,h2⟩
  have H:=aH (aI hfr (aI hq (aI hb1 (aI hk1 hk2))))
  clear h1 h2 hk hb1 hk1 hk2 hs hq hfr
  go_enter Tryz.func138,Tryz.ntmps138
  go_wp2_with fail
  refine (negated_any _ q _ (H.out.1.below H.out.2.2.1) H.out.2.1).mono ?_
  rintro e w2 ⟨v2,rfl,q2,b2⟩
  have Q2:=aH (aI q2 b2)
  clear q2 b2
  go_wp2_with fail
  refine (eY _ _ _ Q2.out.1).mono ?_
  rintro e w3 ⟨v3,rfl,q3,b3⟩
  obtain ⟨n,d,p,rfl⟩:=q3.form
  have hk:=aM (Below.step_trans Q2.out.2 b3) H.out.2.2.2.2
  obtain ⟨⟨h0,h1,h2⟩,f0,f1,f2⟩:=dN hk
  have Q3:=aH (aI q3 (aI b3 hk))
  clear q3 b3 hk
  go_wp2
  refine bodyPost_ret (v := .agg #[.int .i64 n,.int .i64 d,.pointer p]) (by simp [results,Tryz.results138,go_sem,h0,h1,h2]) rfl ⟨_,rfl,?_,?_⟩
  ·exact Nb.ext (K:=Kn) (fun _=>rfl) (fun _=>rfl) Q3.out.1 (Ext.only (pP _ _ _ _ _) Q3.out.2.2 (by simp [hotObj,Kn]))
  ·repeat (first|exact (Below.step_trans H.out.2.2.1 (Below.step_trans Q2.out.2 Q3.out.2.1))|(refine Below.setCell ?_ (by first|omega|(simp;done)|(simp;omega)) _)|(refine Below.alloc ?_ (by first|omega|(simp;done)|(simp;omega)) _)|(refine Below.drew ?_)|exact Below.refl _ _)
theorem gL (a b:Int) (ha:gK a) (hb:gK b):∃ (r:Int) (ok:Bool),(∀ w,Calls Tryz.prog 201 #[.int .i64 a,.int .i64 b] w (Gives w (.tuple #[.int .i64 r,.bool ok])))∧(ok=true→r=a*b∧gK (a*b))∧gK r:=by
 by_cases h:gK (a*b)
 ·exact ⟨_,true,fun w=>GivesOk.yes (pR a b w ha hb) h,fun _=>⟨rfl,h⟩,h⟩
 ·exact ⟨0,false,fun w=>GivesOk.no (pR a b w ha hb) h,fun h=>(by cases h),by unfold gK;omega⟩
theorem sumOf_ex (a b:Int) (ha:gK a) (hb:gK b):∃ (r:Int) (ok:Bool),(∀ w,Calls Tryz.prog 199 #[.int .i64 a,.int .i64 b] w (Gives w (.tuple #[.int .i64 r,.bool ok])))∧(ok=true→r=a+b∧gK (a+b))∧-9223372036854775808≤r∧r≤9223372036854775807:=by
 by_cases h:gK (a+b)
 ·exact ⟨_,true,fun w=>GivesOk.yes (zI a b w ha hb) h,fun _=>⟨rfl,h⟩,by obtain ⟨h1,h2⟩:=h;omega,h.2⟩
 ·exact ⟨IntKind.i64.wrap (a+b),false,fun w=>GivesOk.no (zI a b w ha hb) h,fun h=>(by cases h),by rw [IntKind.wrap_i64];omega,by rw [IntKind.wrap_i64];omega⟩
theorem oX (n:Int) (d:Nat) (hn1:-9223372036854775808≤n) (hn2:n≤9223372036854775807) (hd1:1≤d) (hd2:(d:Int)≤9223372036854775807) :
 (∀ w,Calls Tryz.prog 200 #[.int .i64 n,.int .i64 (d:Int)] w (Gives w (kF (mkRat n d).num (mkRat n d).den)))∧(gK n→Sm (mkRat n d)):=by
 have e1:(mkRat n d).num=n/((Nat.gcd d n.natAbs:Nat):Int):=by rw [Rat.num_mkRat,if_neg (by omega)]
 have e2:(((mkRat n d).den:Nat):Int)=(d:Int)/((Nat.gcd d n.natAbs:Nat):Int):=by rw [Rat.den_mkRat,if_neg (by omega),Int.natCast_ediv]
 refine ⟨fun w=>?_,fun hm=>?_⟩
 ·rw [e1,e2]
  exact lowest_raw n d _ w hn1 hn2 (by omega) hd2 rfl
 ·obtain ⟨h1,h2⟩:=dS n (d:=d) (by omega)
  obtain ⟨m1,m2⟩:=hm
  exact ⟨Nat.le_trans h1 (by rw [eK];omega),Nat.le_trans h2 (by rw [eK];omega)⟩
def gU (w:World) (q:Rat) (e:Ending) (w' : World):Prop := ∃ (n d:Int) (ok:Bool),e = .returned (.tuple #[.agg #[.int .i64 n,.int .i64 d,.pointer none],.bool ok])∧(ok=true→Sm q∧.agg #[.int .i64 n,.int .i64 d,.pointer none]=kF q.num q.den)∧Below w.heap.size w w'
set_option maxRecDepth 100000 in
set_option maxHeartbeats 8000000 in
theorem xH (p q:Rat) (w:World) (hp:Sm p) (hq:Sm q) (hd:p.den=q.den):Calls Tryz.prog 141 #[kF p.num p.den,kF q.num q.den] w (gU w (p+q)):=by
 have hpq:p+q=mkRat (p.num+q.num) p.den:=by
  rw [Rat.add_def',← hd]
  have := @Rat.mkRat_mul_right (p.num+q.num) p.den p.den p.den_nz
  rw [← this,Int.add_mul]
 have md:=iT hp
 obtain ⟨s,ok,hs1,hs2,hs3,hs4⟩:=sumOf_ex p.num q.num (iU hp) (iU hq)
 obtain ⟨hl1,hl2⟩:=oX s p.den hs3 hs4 p.den_pos md.2
 rw [← hd]
 unfold kF
 obtain ⟨n,hn⟩:∃ n,n=p.num:=⟨_,rfl⟩
 obtain ⟨m,hm⟩:∃ m,m=q.num:=⟨_,rfl⟩
 obtain ⟨d,hdd⟩:∃ d:Nat,d=p.den:=⟨_,rfl⟩
 rw [← hn,← hm] at hs1
 rw [← hdd] at hl1 md
 rw [← hn,← hm,← hdd]
 have hout:ok=true→Sm (p+q)∧kF (mkRat s d).num (mkRat s d).den=kF (p+q).num (p+q).den:=fun h=>by
  obtain ⟨h1,h2⟩:=hs2 h
  rw [hpq,← h1,hdd]
  exact ⟨hl2 (by rw [h1];exact h2),rfl⟩
 obtain ⟨rn,hrn⟩:∃ rn,rn=(mkRat s d).num:=⟨_,rfl⟩
 obtain ⟨rd,hrd⟩:∃ rd:Int,rd=(((mkRat s d).den:Nat):Int):=⟨_,rfl⟩
 rw [← hrn,← hrd] at hl1 hout
 unfold kF at hl1
 obtain ⟨hk1,hk2,hk3,hb1⟩:=eJ w (.cells #[.int .i64 n,.int .i64 ((d:Int)-1),.pointer none] 69) (.cells #[.int .i64 m,.int .i64 ((d:Int)-1),.pointer none] 69) (.cells #[.int .i64 0,.int .i64 0,.pointer none] 69)
 have hden:∀ w',Calls Tryz.prog 131 #[.agg #[.int .i64 n,.int .i64 ((d:Int)-1),.pointer none]] w' (Gives w' (.int .i64 (d:Int))):=fun w'=>by
  have:=mV n ((d:Int)-1) none w' (by omega) (by omega)
  rwa [Int.sub_add_cancel] at this
 have H:=aH (aI hs1 (aI hl1 (aI hden (aI hout (aI hb1 hk3)))))
 have hz:((d:Int)-1==(d:Int)-1)=true:=by simp
 clear hpq hs1 hs2 hs3 hs4 hl1 hl2 hn hm hdd hp hq hd hout hk1 hk2 hk3 hb1 hden hrn hrd md
 go_enter Tryz.func141,Tryz.ntmps141
 go_wp2_with fail
 refine (H.out.1 _).mono ?_
 rintro e w2 ⟨rfl,b2⟩
 have hA2:=aM b2 (eJ w (.cells #[.int .i64 n,.int .i64 ((d:Int)-1),.pointer none] 69) (.cells #[.int .i64 m,.int .i64 ((d:Int)-1),.pointer none] 69) (.cells #[.int .i64 0,.int .i64 0,.pointer none] 69)).1
 obtain ⟨⟨u0,u1,u2⟩,_⟩:=dN hA2
 have B2:=aH b2
 clear b2 hA2
 go_wp2_with fail
 refine (H.out.2.2.1 _).mono ?_
 rintro e w3 ⟨rfl,b3⟩
 have B3:=aH b3
 clear b3
 go_wp2_with fail
 refine (H.out.2.1 _).mono ?_
 rintro e w4 ⟨rfl,b4⟩
 have hb:=Below.step_trans B2.out (Below.step_trans B3.out b4)
 obtain ⟨⟨r0,r1,r2⟩,f0,f1,f2⟩:=dN (aM hb H.out.2.2.2.2.2)
 have B4:=aH (Below.step_trans H.out.2.2.2.2.1 hb)
 clear b4 hb
 go_wp2
 refine bodyPost_ret (v := .tuple #[.agg #[.int .i64 rn,.int .i64 (rd-1),.pointer none],.bool ok]) (by simp [results,Tryz.results141,go_sem,r0,r1,r2]) rfl ⟨_,_,_,rfl,H.out.2.2.2.1,?_⟩
 repeat (first|exact B4.out|(refine Below.setCell ?_ (by first|omega|(simp;done)|(simp;omega)) _)|(refine Below.alloc ?_ (by first|omega|(simp;done)|(simp;omega)) _)|(refine Below.drew ?_)|exact Below.refl _ _)
set_option maxRecDepth 100000 in
set_option maxHeartbeats 8000000 in
theorem vC (p q:Rat) (w:World) (hp:Sm p) (hq:Sm q) (hd:p.den≠q.den):Calls Tryz.prog 141 #[kF p.num p.den,kF q.num q.den] w (gU w (p+q)):=by
 have hpq:p+q=mkRat (p.num*q.den+q.num*p.den) (p.den*q.den):=Rat.add_def' p q
 have mp:=iT hp
 have mq:=iT hq
 have np:=iU hp
 have nq:=iU hq
 unfold kF
 obtain ⟨n,hn⟩:∃ n,n=p.num:=⟨_,rfl⟩
 obtain ⟨m,hm⟩:∃ m,m=q.num:=⟨_,rfl⟩
 obtain ⟨d,hdd⟩:∃ d:Nat,d=p.den:=⟨_,rfl⟩
 obtain ⟨k,hkk⟩:∃ k:Nat,k=q.den:=⟨_,rfl⟩
 rw [← hn,← hm,← hdd,← hkk] at hpq
 rw [← hn] at np ⊢
 rw [← hm] at nq ⊢
 rw [← hdd] at mp hd ⊢
 rw [← hkk] at mq hd ⊢
 have md:gK d:=by unfold gK;omega
 have mk:gK k:=by unfold gK;omega
 obtain ⟨r1,o1,c1,e1,x1⟩:=gL n k np mk
 obtain ⟨r2,o2,c2,e2,x2⟩:=gL m d nq md
 obtain ⟨r3,o3,c3,e3,x3⟩:=gL d k md mk
 obtain ⟨s,o4,c4,e4,x4,x5⟩:=sumOf_ex r1 r2 x1 x2
 obtain ⟨hk1,hk2,hk3,hb1⟩:=eJ w (.cells #[.int .i64 n,.int .i64 ((d:Int)-1),.pointer none] 69) (.cells #[.int .i64 m,.int .i64 ((k:Int)-1),.pointer none] 69) (.cells #[.int .i64 0,.int .i64 0,.pointer none] 69)
 have hden1:∀ w',Calls Tryz.prog 131 #[.agg #[.int .i64 n,.int .i64 ((d:Int)-1),.pointer none]] w' (Gives w' (.int .i64 (d:Int))):=fun w'=>by
  have:=mV n ((d:Int)-1) none w' (by omega) (by omega)
  rwa [Int.sub_add_cancel] at this
 have hden2:∀ w',Calls Tryz.prog 131 #[.agg #[.int .i64 m,.int .i64 ((k:Int)-1),.pointer none]] w' (Gives w' (.int .i64 (k:Int))):=fun w'=>by
  have:=mV m ((k:Int)-1) none w' (by omega) (by omega)
  rwa [Int.sub_add_cancel] at this
 have hlow:o1=true→o2=true→o3=true→∃ rn rd:Int,(∀ w',Calls Tryz.prog 200 #[.int .i64 s,.int .i64 r3] w' (Gives w' (.agg #[.int .i64 rn,.int .i64 (rd-1),.pointer none])))∧(o4=true→Sm (p+q)∧.agg #[.int .i64 rn,.int .i64 (rd-1),.pointer none]=kF (p+q).num (p+q).den):=fun h1 h2 h3=>by
  obtain ⟨y1,z1⟩:=e1 h1
  obtain ⟨y2,z2⟩:=e2 h2
  obtain ⟨y3,z3⟩:=e3 h3
  have hr3:r3=((d*k:Nat):Int):=by rw [y3];simp
  have hdk:1≤d*k:=Nat.mul_pos (by omega) (by omega)
  obtain ⟨l1,l2⟩:=oX s (d*k) x4 x5 hdk (by rw [← hr3];exact x3.2)
  rw [← hr3] at l1
  refine ⟨_,_,l1,fun h4=>?_⟩
  obtain ⟨y4,z4⟩:=e4 h4
  rw [hpq,← y1,← y2,← y4]
  exact ⟨l2 (by rw [y4];exact z4),rfl⟩
 have H:=aH (aI c1 (aI c2 (aI c3 (aI c4 (aI hlow (aI hb1 (aI hk3 (aI hden1 hden2))))))))
 have HK:=aH (aI hk1 hk2)
 have hz:((d:Int)-1==(k:Int)-1)=false:=by simp;omega
 clear hpq hp hq mp mq np nq hn hm hdd hkk hd md mk c1 e1 x1 c2 e2 x2 c3 e3 x3 c4 e4 x4 x5 hk1 hk2 hk3 hb1 hden1 hden2 hlow
 go_enter Tryz.func141,Tryz.ntmps141
 go_wp2
 generalize ((w.alloc (.cells #[.int .i64 n,.int .i64 ((d:Int)-1),.pointer none] 69)).alloc (.cells #[.int .i64 m,.int .i64 ((k:Int)-1),.pointer none] 69)).alloc (.cells #[.int .i64 0,.int .i64 0,.pointer none] 69)=w1 at *
 have hA:=HK.out.1
 have hC:=HK.out.2
 have hR:=H.out.2.2.2.2.2.2.1
 have hW:=H.out.2.2.2.2.2.1
 refine wp_region_ty Kn [] (by kernel_rfl) (by kernel_rfl) ?_
 repeat (first|(apply bQ (hg:=rfl);case h=>(intro A w' hB hk;simp [known,specOf,Kd.spec,Sp.is,isVar,Oper.looksAt,Op.operands,Call.operands,Act.eval] at hk;have c_hA:=aA (hB.blk hA (by first|(simp;done)|(simp;omega)));have c_hC:=aA (hB.blk hC (by first|(simp;done)|(simp;omega)));first|(simp [go_sem,hk,c_hA,c_hC];done)|(simp [go_sem,hk,c_hA,c_hC];rfl)|(simp [go_sem,c_hA,c_hC];rfl)))|(refine aV _ ?_ (by first|exact .inl rfl|exact .inr rfl) (by rfl) (by simp [specOf,Kd.spec];rfl) ?_ rfl ?_;(first|exact Sp.is_stable _ _|exact aL (fun _=>rfl) _|exact spTwo_stable (fun _=>rfl) _ _|exact spFr_stable (fun _=>rfl) _|exact spSum_stable (fun _=>rfl) _|exact spSgn_stable _ _|exact spNb_stable (fun _=>rfl) (fun _=>rfl) _|exact spVc_stable (fun _=>rfl) (fun _=>rfl) _)))
 refine aO (Sp.is (.int .i64 (k:Int))) (Sp.is_stable _ _) rfl (fun A w' hB hk=>?_) ?_;(simp [known,specOf,Kd.spec,Sp.is,isVar,Oper.looksAt,Op.operands,Call.operands,Act.eval] at hk;have c_hA:=aA (hB.blk hA (by first|(simp;done)|(simp;omega)));simp [go_sem,hk,c_hA];refine aG ?_;exact Gives.ty (H.out.2.2.2.2.2.2.2.2 _))
 refine aO (Sp.is (.tuple #[.int .i64 r1,.bool o1])) (Sp.is_stable _ _) rfl (fun A w' hB hk=>?_) ?_;(simp [known,specOf,Kd.spec,Sp.is,isVar,Oper.looksAt,Op.operands,Call.operands,Act.eval] at hk;have c_hA:=aA (hB.blk hA (by first|(simp;done)|(simp;omega)));simp [go_sem,hk,c_hA];refine aG ?_;exact Gives.ty (H.out.1 _))
 repeat (first|(apply bQ (hg:=rfl);case h=>(intro A w' hB hk;simp [known,specOf,Kd.spec,Sp.is,isVar,Oper.looksAt,Op.operands,Call.operands,Act.eval] at hk;have c_hA:=aA (hB.blk hA (by first|(simp;done)|(simp;omega)));have c_hC:=aA (hB.blk hC (by first|(simp;done)|(simp;omega)));first|(simp [go_sem,hk,c_hA,c_hC];done)|(simp [go_sem,hk,c_hA,c_hC];rfl)|(simp [go_sem,c_hA,c_hC];rfl)))|(refine aV _ ?_ (by first|exact .inl rfl|exact .inr rfl) (by rfl) (by simp [specOf,Kd.spec];rfl) ?_ rfl ?_;(first|exact Sp.is_stable _ _|exact aL (fun _=>rfl) _|exact spTwo_stable (fun _=>rfl) _ _|exact spFr_stable (fun _=>rfl) _|exact spSum_stable (fun _=>rfl) _|exact spSgn_stable _ _|exact spNb_stable (fun _=>rfl) (fun _=>rfl) _|exact spVc_stable (fun _=>rfl) (fun _=>rfl) _)))
 refine ⟨by first|rfl|decide,fun f w2 hB hF hAp=>?_⟩;simp [Final1,Sp.is,isVar] at hF;simp only [frameOf,Act.put,List.setIfInBounds_toArray,List.set_cons_succ,List.set_cons_zero,hF]
 have hA:=hB.blk hA (by simp)
 have hC:=hB.blk hC (by simp)
 have hR:=hB.blk hR (by simp)
 have hW:=Below.step_trans hW hB.below
 clear hB hAp hF
 go_wp2
 refine wp_region_ty Kn [] (by kernel_rfl) (by kernel_rfl) ?_
 repeat (first|(apply bQ (hg:=rfl);case h=>(intro A w' hB hk;simp [known,specOf,Kd.spec,Sp.is,isVar,Oper.looksAt,Op.operands,Call.operands,Act.eval] at hk;have c_hA:=aA (hB.blk hA (by first|(simp;done)|(simp;omega)));have c_hC:=aA (hB.blk hC (by first|(simp;done)|(simp;omega)));first|(simp [go_sem,hk,c_hA,c_hC];done)|(simp [go_sem,hk,c_hA,c_hC];rfl)|(simp [go_sem,c_hA,c_hC];rfl)))|(refine aV _ ?_ (by first|exact .inl rfl|exact .inr rfl) (by rfl) (by simp [specOf,Kd.spec];rfl) ?_ rfl ?_;(first|exact Sp.is_stable _ _|exact aL (fun _=>rfl) _|exact spTwo_stable (fun _=>rfl) _ _|exact spFr_stable (fun _=>rfl) _|exact spSum_stable (fun _=>rfl) _|exact spSgn_stable _ _|exact spNb_stable (fun _=>rfl) (fun _=>rfl) _|exact spVc_stable (fun _=>rfl) (fun _=>rfl) _)))
 refine aO (Sp.is (.int .i64 (d:Int))) (Sp.is_stable _ _) rfl (fun A w' hB hk=>?_) ?_;(simp [known,specOf,Kd.spec,Sp.is,isVar,Oper.looksAt,Op.operands,Call.operands,Act.eval] at hk;have c_hA:=aA (hB.blk hA (by first|(simp;done)|(simp;omega)));simp [go_sem,hk,c_hA];refine aG ?_;exact Gives.ty (H.out.2.2.2.2.2.2.2.1 _))
 refine aO (Sp.is (.tuple #[.int .i64 r2,.bool o2])) (Sp.is_stable _ _) rfl (fun A w' hB hk=>?_) ?_;(simp [known,specOf,Kd.spec,Sp.is,isVar,Oper.looksAt,Op.operands,Call.operands,Act.eval] at hk;have c_hA:=aA (hB.blk hA (by first|(simp;done)|(simp;omega)));simp [go_sem,hk,c_hA];refine aG ?_;exact Gives.ty (H.out.2.1 _))
 repeat (first|(apply bQ (hg:=rfl);case h=>(intro A w' hB hk;simp [known,specOf,Kd.spec,Sp.is,isVar,Oper.looksAt,Op.operands,Call.operands,Act.eval] at hk;have c_hA:=aA (hB.blk hA (by first|(simp;done)|(simp;omega)));have c_hC:=aA (hB.blk hC (by first|(simp;done)|(simp;omega)));first|(simp [go_sem,hk,c_hA,c_hC];done)|(simp [go_sem,hk,c_hA,c_hC];rfl)|(simp [go_sem,c_hA,c_hC];rfl)))|(refine aV _ ?_ (by first|exact .inl rfl|exact .inr rfl) (by rfl) (by simp [specOf,Kd.spec];rfl) ?_ rfl ?_;(first|exact Sp.is_stable _ _|exact aL (fun _=>rfl) _|exact spTwo_stable (fun _=>rfl) _ _|exact spFr_stable (fun _=>rfl) _|exact spSum_stable (fun _=>rfl) _|exact spSgn_stable _ _|exact spNb_stable (fun _=>rfl) (fun _=>rfl) _|exact spVc_stable (fun _=>rfl) (fun _=>rfl) _)))
 refine ⟨by first|rfl|decide,fun f w2 hB hF hAp=>?_⟩;simp [Final1,Sp.is,isVar] at hF;simp only [frameOf,Act.put,List.setIfInBounds_toArray,List.set_cons_succ,List.set_cons_zero,hF]
 have hA:=hB.blk hA (by simp)
 have hC:=hB.blk hC (by simp)
 have hR:=hB.blk hR (by simp)
 have hW:=Below.step_trans hW hB.below
 clear hB hAp hF
 go_wp2
 refine wp_region_ty Kn [] (by kernel_rfl) (by kernel_rfl) ?_
 repeat (first|(apply bQ (hg:=rfl);case h=>(intro A w' hB hk;simp [known,specOf,Kd.spec,Sp.is,isVar,Oper.looksAt,Op.operands,Call.operands,Act.eval] at hk;have c_hA:=aA (hB.blk hA (by first|(simp;done)|(simp;omega)));have c_hC:=aA (hB.blk hC (by first|(simp;done)|(simp;omega)));first|(simp [go_sem,hk,c_hA,c_hC];done)|(simp [go_sem,hk,c_hA,c_hC];rfl)|(simp [go_sem,c_hA,c_hC];rfl)))|(refine aV _ ?_ (by first|exact .inl rfl|exact .inr rfl) (by rfl) (by simp [specOf,Kd.spec];rfl) ?_ rfl ?_;(first|exact Sp.is_stable _ _|exact aL (fun _=>rfl) _|exact spTwo_stable (fun _=>rfl) _ _|exact spFr_stable (fun _=>rfl) _|exact spSum_stable (fun _=>rfl) _|exact spSgn_stable _ _|exact spNb_stable (fun _=>rfl) (fun _=>rfl) _|exact spVc_stable (fun _=>rfl) (fun _=>rfl) _)))
 refine aO (Sp.is (.int .i64 (d:Int))) (Sp.is_stable _ _) rfl (fun A w' hB hk=>?_) ?_;(simp [known,specOf,Kd.spec,Sp.is,isVar,Oper.looksAt,Op.operands,Call.operands,Act.eval] at hk;have c_hA:=aA (hB.blk hA (by first|(simp;done)|(simp;omega)));simp [go_sem,hk,c_hA];refine aG ?_;exact Gives.ty (H.out.2.2.2.2.2.2.2.1 _))
 repeat (first|(apply bQ (hg:=rfl);case h=>(intro A w' hB hk;simp [known,specOf,Kd.spec,Sp.is,isVar,Oper.looksAt,Op.operands,Call.operands,Act.eval] at hk;have c_hA:=aA (hB.blk hA (by first|(simp;done)|(simp;omega)));have c_hC:=aA (hB.blk hC (by first|(simp;done)|(simp;omega)));first|(simp [go_sem,hk,c_hA,c_hC];done)|(simp [go_sem,hk,c_hA,c_hC];rfl)|(simp [go_sem,c_hA,c_hC];rfl)))|(refine aV _ ?_ (by first|exact .inl rfl|exact .inr rfl) (by rfl) (by simp [specOf,Kd.spec];rfl) ?_ rfl ?_;(first|exact Sp.is_stable _ _|exact aL (fun _=>rfl) _|exact spTwo_stable (fun _=>rfl) _ _|exact spFr_stable (fun _=>rfl) _|exact spSum_stable (fun _=>rfl) _|exact spSgn_stable _ _|exact spNb_stable (fun _=>rfl) (fun _=>rfl) _|exact spVc_stable (fun _=>rfl) (fun _=>rfl) _)))
 refine aO (Sp.is (.int .i64 (k:Int))) (Sp.is_stable _ _) rfl (fun A w' hB hk=>?_) ?_;(simp [known,specOf,Kd.spec,Sp.is,isVar,Oper.looksAt,Op.operands,Call.operands,Act.eval] at hk;have c_hA:=aA (hB.blk hA (by first|(simp;done)|(simp;omega)));simp [go_sem,hk,c_hA];refine aG ?_;exact Gives.ty (H.out.2.2.2.2.2.2.2.2 _))
 refine aO (Sp.is (.tuple #[.int .i64 r3,.bool o3])) (Sp.is_stable _ _) rfl (fun A w' hB hk=>?_) ?_;(simp [known,specOf,Kd.spec,Sp.is,isVar,Oper.looksAt,Op.operands,Call.operands,Act.eval] at hk;have c_hA:=aA (hB.blk hA (by first|(simp;done)|(simp;omega)));simp [go_sem,hk,c_hA];refine aG ?_;exact Gives.ty (H.out.2.2.1 _))
 repeat (first|(apply bQ (hg:=rfl);case h=>(intro A w' hB hk;simp [known,specOf,Kd.spec,Sp.is,isVar,Oper.looksAt,Op.operands,Call.operands,Act.eval] at hk;have c_hA:=aA (hB.blk hA (by first|(simp;done)|(simp;omega)));have c_hC:=aA (hB.blk hC (by first|(simp;done)|(simp;omega)));first|(simp [go_sem,hk,c_hA,c_hC];done)|(simp [go_sem,hk,c_hA,c_hC];rfl)|(simp [go_sem,c_hA,c_hC];rfl)))|(refine aV _ ?_ (by first|exact .inl rfl|exact .inr rfl) (by rfl) (by simp [specOf,Kd.spec];rfl) ?_ rfl ?_;(first|exact Sp.is_stable _ _|exact aL (fun _=>rfl) _|exact spTwo_stable (fun _=>rfl) _ _|exact spFr_stable (fun _=>rfl) _|exact spSum_stable (fun _=>rfl) _|exact spSgn_stable _ _|exact spNb_stable (fun _=>rfl) (fun _=>rfl) _|exact spVc_stable (fun _=>rfl) (fun _=>rfl) _)))
 refine ⟨by first|rfl|decide,fun f w2 hB hF hAp=>?_⟩;simp [Final1,Sp.is,isVar] at hF;simp only [frameOf,Act.put,List.setIfInBounds_toArray,List.set_cons_succ,List.set_cons_zero,hF]
 have hR:=hB.blk hR (by simp)
 have hW:=Below.step_trans hW hB.below
 obtain ⟨⟨r0,ra,rb⟩,f0,f1,f2⟩:=dN hR
 have HR:=aH (aI hR hW)
 clear hB hAp hF hA hC hR hW
 by_cases hall:o1=true∧o2=true∧o3=true
 ·obtain ⟨rfl,rfl,rfl⟩:=hall
  obtain ⟨rn,rd,hl1,hl2⟩:=H.out.2.2.2.2.1 rfl rfl rfl
  have HL:=aH (aI hl1 hl2)
  clear hl1 hl2 r0 ra rb f0 f1 f2
  go_wp2_with fail
  refine (H.out.2.2.2.1 _).mono ?_
  rintro e w5 ⟨rfl,b5⟩
  have B5:=aH b5
  clear b5
  go_wp2_with fail
  refine (HL.out.1 _).mono ?_
  rintro e w6 ⟨rfl,b6⟩
  have hb:=Below.step_trans B5.out b6
  obtain ⟨⟨r0,ra,rb⟩,f0,f1,f2⟩:=dN (aM hb HR.out.1)
  have B6:=aH (Below.step_trans HR.out.2 hb)
  clear b6 hb
  go_wp2
  refine bodyPost_ret (v := .tuple #[.agg #[.int .i64 rn,.int .i64 (rd-1),.pointer none],.bool o4]) (by simp [results,Tryz.results141,go_sem,r0,ra,rb]) rfl ⟨_,_,_,rfl,HL.out.2,?_⟩
  repeat (first|exact B6.out|(refine Below.setCell ?_ (by first|omega|(simp;done)|(simp;omega)) _)|(refine Below.alloc ?_ (by first|omega|(simp;done)|(simp;omega)) _)|(refine Below.drew ?_)|exact Below.refl _ _)
 ·cases o1 <;> cases o2 <;> cases o3
  case neg.true.true.true=>exact absurd ⟨rfl,rfl,rfl⟩ hall
  all_goals
   clear hall
   go_wp2
   refine bodyPost_ret (v := .tuple #[.agg #[.int .i64 0,.int .i64 0,.pointer none],.bool false]) (by simp [results,Tryz.results141,go_sem,r0,ra,rb]) rfl ⟨_,_,_,rfl,fun h=>by (cases h),?_⟩
   repeat (first|exact HR.out.2|(refine Below.setCell ?_ (by first|omega|(simp;done)|(simp;omega)) _)|(refine Below.alloc ?_ (by first|omega|(simp;done)|(simp;omega)) _)|(refine Below.drew ?_)|exact Below.refl _ _)
end Go.Proofs.YtejbgingjeedaaaGreatDoor
