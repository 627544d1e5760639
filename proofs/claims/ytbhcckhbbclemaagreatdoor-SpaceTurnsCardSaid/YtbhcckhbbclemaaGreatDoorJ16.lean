/- Parts of the proof, joined. -/
import Derived.Test.YtbhcckhbbclemaaGreatDoorJ15
set_option linter.unusedSimpArgs false
set_option linter.unusedVariables false
namespace Go.Proofs.YtbhcckhbbclemaaGreatDoor
open Go.RowKit Pl
theorem mkRat_num_le (z:Int) {d:Nat} (hd:d≠0):(mkRat z d).num.natAbs≤z.natAbs∧(mkRat z d).den≤d:=by
 obtain ⟨h1,h2⟩:=mkRat_dvd z hd
 refine ⟨?_,Nat.le_of_dvd (by omega) h2⟩
 rcases Nat.eq_zero_or_pos z.natAbs with h|h
 ·have:z=0:=by omega
  subst this
  rw [Rat.zero_mkRat]
  exact Nat.le_refl _
 ·exact Nat.le_of_dvd h h1
theorem Lf.mono {k l:Nat} {q:Rat} (h:Lf k q) (hk:k≤l):Lf l q:=⟨h.1.mono hk,h.2.mono hk⟩
theorem Lf.mul {k:Nat} {p q:Rat} (hp:Lf k p) (hq:Lf k q):Lf (k+1) (p*q):=by
 rw [Rat.mul_def']
 obtain ⟨h1,h2⟩:=mkRat_num_le (p.num*q.num) (Nat.ne_of_gt (Nat.mul_pos p.den_pos q.den_pos))
 rw [Int.natAbs_mul] at h1
 exact ⟨(hp.1.mul hq.1).le h1,(hp.2.mul hq.2).le h2⟩
theorem Lf.add {k:Nat} {p q:Rat} (hp:Lf k p) (hq:Lf k q):Lf (k+2) (p+q):=by
 rw [Rat.add_def']
 obtain ⟨h1,h2⟩:=mkRat_num_le (p.num*q.den+q.num*p.den) (Nat.ne_of_gt (Nat.mul_pos p.den_pos q.den_pos))
 refine ⟨(Lv.add (hp.1.mul hq.2) (hq.1.mul hp.2)).le ?_,((hp.2.mul hq.2).le h2).mono (by omega)⟩
 refine Nat.le_trans h1 (Nat.le_trans (Int.natAbs_add_le _ _) ?_)
 rw [Int.natAbs_mul,Int.natAbs_mul,Int.natAbs_natCast,Int.natAbs_natCast]
 exact Nat.le_refl _
theorem Lf.neg {k:Nat} {p:Rat} (hp:Lf k p):Lf k (-p):=by
 refine ⟨?_,hp.2⟩
 rw [Rat.neg_num,Int.natAbs_neg];exact hp.1
theorem Lf.inv {k:Nat} {p:Rat} (hp:Lf k p):Lf k p⁻¹:=by
 by_cases h0:p=0
 ·subst h0;rw [Rat.inv_zero];exact hp
 ·obtain ⟨_,e1,e2⟩:=Parts.inv (Parts.self p) h0
  exact ⟨by rw [← e1];exact hp.2,by rw [← e2];exact hp.1⟩
theorem Lf.zero (k:Nat):Lf k 0:=⟨Lv.one _ W64_pos,Lv.one _ W64_one⟩
theorem Lf.int {k:Nat} {z:Int} (h:Lv k z.natAbs):Lf k (z:Rat):=by
 refine ⟨?_,?_⟩
 ·rw [Rat.num_intCast];exact h
 ·rw [Rat.den_intCast];exact Lv.one _ W64_one
theorem alloc3 (w:World) (a b c:Obj):(((w.alloc a).alloc b).alloc c).heap[w.heap.size]?=some a∧(((w.alloc a).alloc b).alloc c).heap[w.heap.size+1]?=some b∧(((w.alloc a).alloc b).alloc c).heap[w.heap.size+1+1]?=some c∧Below w.heap.size w (((w.alloc a).alloc b).alloc c):=by
 have h1:Below (w.alloc a).heap.size (w.alloc a) (((w.alloc a).alloc b).alloc c):=((Below.refl _ _).alloc (Nat.le_refl _) _).alloc (by simp) _
 have h2:Below ((w.alloc a).alloc b).heap.size ((w.alloc a).alloc b) (((w.alloc a).alloc b).alloc c):=(Below.refl _ _).alloc (Nat.le_refl _) _
 refine ⟨keep_blk h1 (heap_alloc_new w a),keep_blk h2 ?_,?_,(((Below.refl _ _).alloc (Nat.le_refl _) _).alloc (by simp) _).alloc (by simp;omega) _⟩
 ·have:=heap_alloc_new (w.alloc a) b;simpa using this
 ·have:=heap_alloc_new ((w.alloc a).alloc b) c;simpa using this
set_option maxRecDepth 100000 in
set_option maxHeartbeats 8000000 in
theorem fraTimes_any (v v' : Value) (p q:Rat) (w:World) (h:Fr w v p) (h' : Fr w v' q) (hp:Lf 38 p) (hq:Lf 38 q):Calls Tryz.prog 161 #[v,v'] w (GivesFr w (p*q)):=by
 obtain ⟨s1,s2,rfl,h1,h2⟩:=h
 obtain ⟨s3,s4,rfl,h3,h4⟩:=h'
 obtain ⟨A1,n1,c1,rfl⟩:=h1.form
 obtain ⟨A2,n2,c2,rfl⟩:=h2.form
 obtain ⟨A3,n3,c3,rfl⟩:=h3.form
 obtain ⟨A4,n4,c4,rfl⟩:=h4.form
 obtain ⟨hk1,hk2,hk3,hb1⟩:=alloc3 w (.cells #[.bool (decide (p.num<0)),.slice A1 n1 c1,.slice A2 n2 c2] 112) (.cells #[.bool (decide (q.num<0)),.slice A3 n3 c3,.slice A4 n4 c4] 112) (.cells #[.bool false,.slice none 0 0,.slice none 0 0] 112)
 have H:=Lib.hid (And.intro (h1.below hb1) (And.intro (h2.below hb1) (And.intro (h3.below hb1) (And.intro (h4.below hb1) (And.intro hp (And.intro hq (And.intro hb1 (And.intro hk1 (And.intro hk2 hk3)))))))))
 clear h1 h2 h3 h4 hp hq hb1 hk1 hk2 hk3
 go_enter Tryz.func161,Tryz.ntmps161
 go_wp2
 generalize ((w.alloc (.cells #[.bool (decide (p.num<0)),.slice A1 n1 c1,.slice A2 n2 c2] 112)).alloc (.cells #[.bool (decide (q.num<0)),.slice A3 n3 c3,.slice A4 n4 c4] 112)).alloc (.cells #[.bool false,.slice none 0 0,.slice none 0 0] 112)=w1 at *
 have hA:=H.out.2.2.2.2.2.2.2.1
 have hC:=H.out.2.2.2.2.2.2.2.2.1
 obtain ⟨L,hL⟩:∃ L,L=mkRat p.num q.den:=⟨_,rfl⟩
 obtain ⟨R,hR⟩:∃ R,R=mkRat q.num p.den:=⟨_,rfl⟩
 have HLR:=Lib.hid (And.intro hL hR)
 have t1:∀ w',Base [] w1 w'→Calls Tryz.prog 63 #[.bool (decide (p.num<0)),.slice A1 n1 c1,.slice A4 n4 c4] w' (TyPost w' (spFr L)):=fun w' hB=>by
  have:=GivesFr.ty (ratio_any (decide (p.num<0)) p.num.natAbs q.den _ _ w' (H.out.1.below hB.below) (H.out.2.2.2.1.below hB.below) (H.out.2.2.2.2.1.1.mono (by omega)) (H.out.2.2.2.2.2.1.2.mono (by omega)) q.den_pos)
  rwa [sg_of,← hL] at this
 have t2:∀ w',Base [] w1 w'→Calls Tryz.prog 63 #[.bool (decide (q.num<0)),.slice A3 n3 c3,.slice A2 n2 c2] w' (TyPost w' (spFr R)):=fun w' hB=>by
  have:=GivesFr.ty (ratio_any (decide (q.num<0)) q.num.natAbs p.den _ _ w' (H.out.2.2.1.below hB.below) (H.out.2.1.below hB.below) (H.out.2.2.2.2.2.1.1.mono (by omega)) (H.out.2.2.2.2.1.2.mono (by omega)) p.den_pos)
  rwa [sg_of,← hR] at this
 have T1:=Lib.hid t1
 have T2:=Lib.hid t2
 clear t1 t2 hL hR
 refine wp_region_ty Ku [] (by kernel_rfl) (by kernel_rfl) ?_
 repeat (first|(apply ty_is (hg:=rfl);case h=>(intro A w' hB hk;simp [known,specOf,Kd.spec,Sp.is,isVar,Oper.looksAt,Op.operands,Call.operands,Act.eval] at hk;have c_hA:=cells_of_blk (hB.blk hA (by first|(simp;done)|(simp;omega)));have c_hC:=cells_of_blk (hB.blk hC (by first|(simp;done)|(simp;omega)));first|(simp [go_sem,hk,c_hA,c_hC];done)|(simp [go_sem,hk,c_hA,c_hC];rfl)|(simp [go_sem,c_hA,c_hC];rfl)))|(refine ty_move _ ?_ (by first|exact .inl rfl|exact .inr rfl) (by rfl) (by simp [specOf,Kd.spec];rfl) ?_ rfl ?_;(first|exact Sp.is_stable _ _|exact spNt_stable (fun _=>rfl) _|exact spTwo_stable (fun _=>rfl) _ _|exact spFr_stable (fun _=>rfl) _|exact spSum_stable (fun _=>rfl) _|exact spSgn_stable _ _|exact spNb_stable (fun _=>rfl) (fun _=>rfl) _|exact spVc_stable (fun _=>rfl) (fun _=>rfl) _)))
 refine ty_call (spFr L) (spFr_stable (fun _=>rfl) _) rfl (fun A w' hB hk=>?_) ?_;(simp [known,specOf,Kd.spec,Sp.is,isVar,Oper.looksAt,Op.operands,Call.operands,Act.eval] at hk;have c_hA:=cells_of_blk (hB.blk hA (by first|(simp;done)|(simp;omega)));simp [go_sem,hk,c_hA];refine tyUpon_enter ?_;exact T1.out _ hB)
 repeat (first|(apply ty_is (hg:=rfl);case h=>(intro A w' hB hk;simp [known,specOf,Kd.spec,Sp.is,isVar,Oper.looksAt,Op.operands,Call.operands,Act.eval] at hk;have c_hA:=cells_of_blk (hB.blk hA (by first|(simp;done)|(simp;omega)));have c_hC:=cells_of_blk (hB.blk hC (by first|(simp;done)|(simp;omega)));first|(simp [go_sem,hk,c_hA,c_hC];done)|(simp [go_sem,hk,c_hA,c_hC];rfl)|(simp [go_sem,c_hA,c_hC];rfl)))|(refine ty_move _ ?_ (by first|exact .inl rfl|exact .inr rfl) (by rfl) (by simp [specOf,Kd.spec];rfl) ?_ rfl ?_;(first|exact Sp.is_stable _ _|exact spNt_stable (fun _=>rfl) _|exact spTwo_stable (fun _=>rfl) _ _|exact spFr_stable (fun _=>rfl) _|exact spSum_stable (fun _=>rfl) _|exact spSgn_stable _ _|exact spNb_stable (fun _=>rfl) (fun _=>rfl) _|exact spVc_stable (fun _=>rfl) (fun _=>rfl) _)))
 refine ty_call (spFr R) (spFr_stable (fun _=>rfl) _) rfl (fun A w' hB hk=>?_) ?_;(simp [known,specOf,Kd.spec,Sp.is,isVar,Oper.looksAt,Op.operands,Call.operands,Act.eval] at hk;have c_hA:=cells_of_blk (hB.blk hA (by first|(simp;done)|(simp;omega)));simp [go_sem,hk,c_hA];refine tyUpon_enter ?_;exact T2.out _ hB)
 (apply ty_new (hg:=rfl) (hd:=rfl);(case h=>(intro A w';simp [go_sem];rfl));(case hc=>simp [hotObj,Ku,Kn]))
 (apply ty_new (hg:=rfl) (hd:=rfl);(case h=>(intro A w';simp [go_sem];rfl));(case hc=>simp [hotObj,Ku,Kn]))
 refine ty_put 5 ((.cells #[.bool false,.slice none 0 0,.slice none 0 0] 112 (0,0))) (coFr L) (coFr_stable (fun _=>rfl) _) rfl rfl (by simp [Oper.looksAt,Op.operands]) (by simp) (fun A w' b hB hk hd h0=>?_) ?_;(simp [known,specOf,Kd.spec,Sp.is,isVar,Oper.looksAt,Op.operands,Call.operands,Act.eval] at hk;simp [Act.eval] at hd;have c_hA:=cells_of_blk (hB.blk hA (by first|(simp;done)|(simp;omega)));have c0:=cells_of_blk h0;have f0:=frozen_of_blk h0;obtain ⟨k1,z1,z2,k2,k3,k4⟩:=hk;obtain ⟨B1,m1,e1,rfl⟩:=k3.form;obtain ⟨B2,m2,e2,rfl⟩:=k4.form;simp [go_sem,hd,k2,c0,f0];exact ⟨_,turned3 h0 _ _ _,_,_,rfl,k3,k4⟩)
 refine ty_put 6 ((.cells #[.bool false,.slice none 0 0,.slice none 0 0] 112 (0,0))) (coFr R) (coFr_stable (fun _=>rfl) _) rfl rfl (by simp [Oper.looksAt,Op.operands]) (by simp) (fun A w' b hB hk hd h0=>?_) ?_;(simp [known,specOf,Kd.spec,Sp.is,isVar,Oper.looksAt,Op.operands,Call.operands,Act.eval] at hk;simp [Act.eval] at hd;have c_hA:=cells_of_blk (hB.blk hA (by first|(simp;done)|(simp;omega)));have c0:=cells_of_blk h0;have f0:=frozen_of_blk h0;obtain ⟨k1,z1,z2,k2,k3,k4⟩:=hk;obtain ⟨B1,m1,e1,rfl⟩:=k3.form;obtain ⟨B2,m2,e2,rfl⟩:=k4.form;simp [go_sem,hd,k2,c0,f0];exact ⟨_,turned3 h0 _ _ _,_,_,rfl,k3,k4⟩)
 refine ⟨by first|rfl|decide,fun f w2 hB hF hAp=>?_⟩;simp [Final1,Sp.is,isVar] at hF;simp only [frameOf]
 have h56:=hAp 5 6 (.cells #[.bool false,.slice none 0 0,.slice none 0 0] 112 (0,0)) (.cells #[.bool false,.slice none 0 0,.slice none 0 0] 112 (0,0)) (by simp) (by simp) (by decide)
 obtain ⟨b6,e6,l6,_,o6,⟨x1,x2,rfl,y1,y2⟩,ho6⟩:=hF.1
 obtain ⟨b5,e5,l5,_,o5,⟨x3,x4,rfl,y3,y4⟩,ho5⟩:=hF.2.1
 have hF2:=hF.2.2
 have hb56:b5≠b6:=fun e=>h56 (by rw [e5,e6,e])
 obtain ⟨X1,g1,d1,rfl⟩:=y1.form
 obtain ⟨X2,g2,d2,rfl⟩:=y2.form
 obtain ⟨X3,g3,d3,rfl⟩:=y3.form
 obtain ⟨X4,g4,d4,rfl⟩:=y4.form
 clear hF hAp h56
 obtain ⟨⟨r50,r51,r52⟩,_⟩:=blk3 ho5
 obtain ⟨⟨r60,r61,r62⟩,_⟩:=blk3 ho6
 have hres:=hB.blk H.out.2.2.2.2.2.2.2.2.2 (by simp)
 have hb2:Below w.heap.size w w2:=Below.step_trans H.out.2.2.2.2.2.2.1 hB.below
 have M:=Lib.hid (And.intro y1 (And.intro y2 (And.intro y3 (And.intro y4 (And.intro ho5 (And.intro ho6 (And.intro hres (And.intro hb2 (And.intro l5 (And.intro l6 hb56))))))))))
 have HE:=Lib.hid (And.intro e5 e6)
 clear y1 y2 y3 y4 ho5 ho6 hres hb2 hB l5 l6 hb56
 have hlv:Lf 38 L∧Lf 38 R:=by
  obtain ⟨hL,hR⟩:=HLR.out
  obtain ⟨m1,m2⟩:=mkRat_num_le p.num q.den_nz
  obtain ⟨m3,m4⟩:=mkRat_num_le q.num p.den_nz
  rw [hL,hR]
  exact ⟨⟨H.out.2.2.2.2.1.1.le m1,H.out.2.2.2.2.2.1.2.le m2⟩,⟨H.out.2.2.2.2.2.1.1.le m3,H.out.2.2.2.2.1.2.le m4⟩⟩
 have HLV:=Lib.hid hlv
 clear hlv
 have zeroOut:∀ (v:Value) (w3:World),p*q=0→Fr w3 v 0→Fr w3 v (p*q):=fun v w3 h hf=>by rw [h];exact hf
 have ZO:=Lib.hid zeroOut
 clear zeroOut
 by_cases z5:L.num.natAbs=0
 ·have hpq:p*q=0:=by
   have:=Parts.self L
   rw [z5] at this
   rw [HLR.out.1] at this
   exact mul_zero_left this
  have hz:decide (L.num.natAbs=0)=true:=by rw [decide_eq_true_eq];exact z5
  clear z5
  go_wp2_with fail
  refine (nt_isZero M.out.2.2.1).mono ?_
  rintro e w' ⟨rfl,rfl⟩
  rw [hz]
  clear hz
  have HZ:=Lib.hid hpq
  clear hpq
  go_wp2_with fail
  refine (zero_any _).mono ?_
  rintro e w3 ⟨v1,rfl,⟨s1,s2,rfl,q1,q2⟩,b1⟩
  obtain ⟨E1,k1,m1,rfl⟩:=q1.form
  obtain ⟨E2,k2,m2,rfl⟩:=q2.form
  have hk:=keep_blk b1 M.out.2.2.2.2.2.2.1
  obtain ⟨⟨h0,h1,h2⟩,f0,f1,f2⟩:=blk3 hk
  have Q:=Lib.hid (And.intro q1 (And.intro q2 (And.intro b1 hk)))
  clear q1 q2 b1 hk
  go_wp2
  refine bodyPost_ret (v := .agg #[.bool (decide ((0:Rat).num<0)),.slice E1 k1 m1,.slice E2 k2 m2]) (by simp [results,Tryz.results161,go_sem,h0,h1,h2]) rfl ⟨_,rfl,?_,?_⟩
  ·exact ZO.out _ _ HZ.out (Fr.ext (K:=Ku) (fun _=>rfl) ⟨_,_,rfl,Q.out.1,Q.out.2.1⟩ (Ext.only (only3 _ _ _ _ _) Q.out.2.2.2 (by simp [hotObj,Ku])))
  ·repeat (first|exact (Below.step_trans M.out.2.2.2.2.2.2.2.1 Q.out.2.2.1)|(refine Below.setCell ?_ (by first|omega|(simp;done)|(simp;omega)) _)|(refine Below.alloc ?_ (by first|omega|(simp;done)|(simp;omega)) _)|(refine Below.drew ?_)|exact Below.refl _ _)
 ·have hz:decide (L.num.natAbs=0)=false:=by rw [decide_eq_false_iff_not];exact z5
  have HZ5:=Lib.hid z5
  clear z5
  go_wp2_with fail
  refine (nt_isZero M.out.2.2.1).mono ?_
  rintro e w' ⟨rfl,rfl⟩
  rw [hz]
  clear hz
  go_wp2_with fail
  refine (nt_isZero M.out.1).mono ?_
  rintro e w' ⟨rfl,rfl⟩
  by_cases z6:R.num.natAbs=0
  ·have hpq:p*q=0:=by
    have:=Parts.self R
    rw [z6] at this
    rw [HLR.out.2] at this
    exact mul_zero_right this
   have hz:decide (R.num.natAbs=0)=true:=by rw [decide_eq_true_eq];exact z6
   rw [hz]
   clear hz z6
   have HZ:=Lib.hid hpq
   clear hpq
   go_wp2_with fail
   refine (zero_any _).mono ?_
   rintro e w3 ⟨v1,rfl,⟨s1,s2,rfl,q1,q2⟩,b1⟩
   obtain ⟨E1,k1,m1,rfl⟩:=q1.form
   obtain ⟨E2,k2,m2,rfl⟩:=q2.form
   have hk:=keep_blk b1 M.out.2.2.2.2.2.2.1
   obtain ⟨⟨h0,h1,h2⟩,f0,f1,f2⟩:=blk3 hk
   have Q:=Lib.hid (And.intro q1 (And.intro q2 (And.intro b1 hk)))
   clear q1 q2 b1 hk
   go_wp2
   refine bodyPost_ret (v := .agg #[.bool (decide ((0:Rat).num<0)),.slice E1 k1 m1,.slice E2 k2 m2]) (by simp [results,Tryz.results161,go_sem,h0,h1,h2]) rfl ⟨_,rfl,?_,?_⟩
   ·exact ZO.out _ _ HZ.out (Fr.ext (K:=Ku) (fun _=>rfl) ⟨_,_,rfl,Q.out.1,Q.out.2.1⟩ (Ext.only (only3 _ _ _ _ _) Q.out.2.2.2 (by simp [hotObj,Ku])))
   ·repeat (first|exact (Below.step_trans M.out.2.2.2.2.2.2.2.1 Q.out.2.2.1)|(refine Below.setCell ?_ (by first|omega|(simp;done)|(simp;omega)) _)|(refine Below.alloc ?_ (by first|omega|(simp;done)|(simp;omega)) _)|(refine Below.drew ?_)|exact Below.refl _ _)
  ·have hz:decide (R.num.natAbs=0)=false:=by rw [decide_eq_false_iff_not];exact z6
   rw [hz]
   have HZ6:=Lib.hid z6
   clear hz z6
   have hpar:Parts (p*q) (decide (L.num<0) != decide (R.num<0)) (L.num.natAbs*R.num.natAbs) (L.den*R.den):=by
    have h1:=HLR.out.1
    have h2:=HLR.out.2
    have h3:=HZ5.out
    have h4:=HZ6.out
    rw [h1,h2] at *
    exact Parts.mul (Parts.self _) (Parts.self _) h3 h4
   have HP:=Lib.hid hpar
   generalize decide (L.num<0)=nl at *
   generalize decide (R.num<0)=nr at *
   have hA5:=M.out.2.2.2.2.1
   have hA6:=M.out.2.2.2.2.2.1
   have hR0:=M.out.2.2.2.2.2.2.1
   have t1:∀ w',Base [w.heap.size+1+1] w2 w'→Calls Tryz.prog 132 #[.slice X3 g3 d3,.slice X1 g1 d1] w' (TyPost w' (spNt (L.num.natAbs*R.num.natAbs))):=fun w' hB =>
    GivesNt.ty (nt_times (Nt.ext (K:=Ku) (fun _=>rfl) M.out.2.2.1 (hB.extT M.out.2.2.2.2.2.2.1 (by simp [hotObj,Ku]))) (Nt.ext (K:=Ku) (fun _=>rfl) M.out.1 (hB.extT M.out.2.2.2.2.2.2.1 (by simp [hotObj,Ku]))) (HLV.out.1.1.mono (by omega)) (HLV.out.2.1.mono (by omega)))
   have t2:∀ w',Base [w.heap.size+1+1] w2 w'→Calls Tryz.prog 132 #[.slice X4 g4 d4,.slice X2 g2 d2] w' (TyPost w' (spNt (L.den*R.den))):=fun w' hB =>
    GivesNt.ty (nt_times (Nt.ext (K:=Ku) (fun _=>rfl) M.out.2.2.2.1 (hB.extT M.out.2.2.2.2.2.2.1 (by simp [hotObj,Ku]))) (Nt.ext (K:=Ku) (fun _=>rfl) M.out.2.1 (hB.extT M.out.2.2.2.2.2.2.1 (by simp [hotObj,Ku]))) (HLV.out.1.2.mono (by omega)) (HLV.out.2.2.mono (by omega)))
   have T3:=Lib.hid t1
   have T4:=Lib.hid t2
   clear t1 t2 hpar
   have hne5:b5≠w.heap.size+1+1:=by
    have:=M.out.2.2.2.2.2.2.2.2.1
    have:=lt_of_block H.out.2.2.2.2.2.2.2.2.2
    omega
   have hne6:b6≠w.heap.size+1+1:=by
    have:=M.out.2.2.2.2.2.2.2.2.2.1
    have:=lt_of_block H.out.2.2.2.2.2.2.2.2.2
    omega
   go_wp2_with fail
   refine wp_region_ty Ku [w.heap.size+1+1] (by kernel_rfl) (by kernel_rfl) ?_
   repeat (first|(apply ty_is (hg:=rfl);case h=>(intro A w' hB hk;simp [known,specOf,Kd.spec,Sp.is,isVar,Oper.looksAt,Op.operands,Call.operands,Act.eval] at hk;have c_hA5:=cells_of_blk (hB.blk hA5 (by first|(simp;done)|(simp;omega)));have c_hA6:=cells_of_blk (hB.blk hA6 (by first|(simp;done)|(simp;omega)));first|(simp [go_sem,hk,c_hA5,c_hA6];done)|(simp [go_sem,hk,c_hA5,c_hA6];rfl)|(simp [go_sem,c_hA5,c_hA6];rfl)))|(refine ty_move _ ?_ (by first|exact .inl rfl|exact .inr rfl) (by rfl) (by simp [specOf,Kd.spec];rfl) ?_ rfl ?_;(first|exact Sp.is_stable _ _|exact spNt_stable (fun _=>rfl) _|exact spTwo_stable (fun _=>rfl) _ _|exact spFr_stable (fun _=>rfl) _|exact spSum_stable (fun _=>rfl) _|exact spSgn_stable _ _|exact spNb_stable (fun _=>rfl) (fun _=>rfl) _|exact spVc_stable (fun _=>rfl) (fun _=>rfl) _)))
   refine ty_call (spNt (L.num.natAbs*R.num.natAbs)) (spNt_stable (fun _=>rfl) _) rfl (fun A w' hB hk=>?_) ?_;(simp [known,specOf,Kd.spec,Sp.is,isVar,Oper.looksAt,Op.operands,Call.operands,Act.eval] at hk;have c_hA5:=cells_of_blk (hB.blk hA5 (by first|(simp;done)|(simp;omega)));have c_hA6:=cells_of_blk (hB.blk hA6 (by first|(simp;done)|(simp;omega)));simp [go_sem,hk,c_hA5,c_hA6];refine tyUpon_enter ?_;exact T3.out _ hB)
   repeat (first|(apply ty_is (hg:=rfl);case h=>(intro A w' hB hk;simp [known,specOf,Kd.spec,Sp.is,isVar,Oper.looksAt,Op.operands,Call.operands,Act.eval] at hk;have c_hA5:=cells_of_blk (hB.blk hA5 (by first|(simp;done)|(simp;omega)));have c_hA6:=cells_of_blk (hB.blk hA6 (by first|(simp;done)|(simp;omega)));first|(simp [go_sem,hk,c_hA5,c_hA6];done)|(simp [go_sem,hk,c_hA5,c_hA6];rfl)|(simp [go_sem,c_hA5,c_hA6];rfl)))|(refine ty_move _ ?_ (by first|exact .inl rfl|exact .inr rfl) (by rfl) (by simp [specOf,Kd.spec];rfl) ?_ rfl ?_;(first|exact Sp.is_stable _ _|exact spNt_stable (fun _=>rfl) _|exact spTwo_stable (fun _=>rfl) _ _|exact spFr_stable (fun _=>rfl) _|exact spSum_stable (fun _=>rfl) _|exact spSgn_stable _ _|exact spNb_stable (fun _=>rfl) (fun _=>rfl) _|exact spVc_stable (fun _=>rfl) (fun _=>rfl) _)))
   refine ty_call (spNt (L.den*R.den)) (spNt_stable (fun _=>rfl) _) rfl (fun A w' hB hk=>?_) ?_;(simp [known,specOf,Kd.spec,Sp.is,isVar,Oper.looksAt,Op.operands,Call.operands,Act.eval] at hk;have c_hA5:=cells_of_blk (hB.blk hA5 (by first|(simp;done)|(simp;omega)));have c_hA6:=cells_of_blk (hB.blk hA6 (by first|(simp;done)|(simp;omega)));simp [go_sem,hk,c_hA5,c_hA6];refine tyUpon_enter ?_;exact T4.out _ hB)
   refine ty_call (spFr (p*q)) (spFr_stable (fun _=>rfl) _) rfl (fun A w' hB hk=>?_) ?_;(simp [known,specOf,Kd.spec,Sp.is,isVar,Oper.looksAt,Op.operands,Call.operands,Act.eval] at hk;have c_hA5:=cells_of_blk (hB.blk hA5 (by first|(simp;done)|(simp;omega)));obtain ⟨k1,k2,k3⟩:=hk;obtain ⟨B1,m1,u1,e1⟩:=(show Nt _ _ _ from k2).form;obtain ⟨B2,m2,u2,e2⟩:=(show Nt _ _ _ from k3).form;rw [e1] at k2;rw [e2] at k3;simp [go_sem,k1,e1,e2];refine tyUpon_value ?_;exact Fr.of HP.out k2 k3)
   refine ty_old (w.heap.size+1+1) (_) (coFr (p*q)) (coFr_stable (fun _=>rfl) _) rfl rfl (by simp) (by assumption) (by simp [hotObj,Ku,Kn]) (fun A w' hB hk h0=>?_) ?_;(simp [known,specOf,Kd.spec,Sp.is,isVar,Oper.looksAt,Op.operands,Call.operands,Act.eval] at hk;have c_hA5:=cells_of_blk (hB.blk hA5 (by first|(simp;done)|(simp;omega)));have c0:=cells_of_blk h0;have f0:=frozen_of_blk h0;obtain ⟨k1,z1,z2,k2,k3,k4⟩:=hk;obtain ⟨B1,m1,e1,rfl⟩:=k3.form;obtain ⟨B2,m2,e2,rfl⟩:=k4.form;simp [go_sem,k1,k2,c0,f0];exact ⟨_,turned3 h0 _ _ _,_,_,rfl,k3,k4⟩)
   refine ⟨by first|rfl|decide,fun f w2 hB hF hAp=>?_⟩;simp [Final1,Sp.is,isVar] at hF;simp only [frameOf]
   obtain ⟨o,⟨s1,s2,rfl,k3,k4⟩,ho⟩:=hF.1
   obtain ⟨B1,m1,u1,rfl⟩:=k3.form
   obtain ⟨B2,m2,u2,rfl⟩:=k4.form
   obtain ⟨⟨r0,r1,r2⟩,_⟩:=blk3 ho
   have K:=Lib.hid (And.intro k3 (And.intro k4 hB))
   clear k3 k4 hB ho hA5 hA6 hAp
   go_wp2
   refine bodyPost_ret (v := .agg #[.bool (decide ((p*q).num<0)),.slice B1 m1 u1,.slice B2 m2 u2]) (by simp [results,Tryz.results161,go_sem,r0,r1,r2]) rfl ⟨_,rfl,⟨_,_,rfl,K.out.1,K.out.2.1⟩,?_⟩
   exact Base.belowT K.out.2.2 M.out.2.2.2.2.2.2.2.1 (by omega)
def spSum (S:Int):Sp:=fun v w => ∃ neg u,v = .tuple #[.bool neg,u]∧sg neg S.natAbs=S∧Nt w u S.natAbs
def spSgn (S:Int):Sp:=fun v _ => ∃ neg,v = .bool neg∧sg neg S.natAbs=S
theorem spSum_stable {K:Value→Bool} (hK:∀ x,K (.int .u64 x)=true) (S:Int):Stable K (spSum S):=fun _ _ _ ⟨n,u,e,h1,h2⟩ hx=>⟨n,u,e,h1,h2.ext hK hx⟩
theorem spSgn_stable (K:Value→Bool) (S:Int):Stable K (spSgn S):=fun _ _ _ h _=>h
set_option maxRecDepth 100000 in
set_option maxHeartbeats 8000000 in
theorem fraPlus_any (v v' : Value) (p q:Rat) (w:World) (h:Fr w v p) (h' : Fr w v' q) (hp:Lf 36 p) (hq:Lf 36 q):Calls Tryz.prog 151 #[v,v'] w (GivesFr w (p+q)):=by
 obtain ⟨s1,s2,rfl,h1,h2⟩:=h
 obtain ⟨s3,s4,rfl,h3,h4⟩:=h'
 obtain ⟨A1,n1,c1,rfl⟩:=h1.form
 obtain ⟨A2,n2,c2,rfl⟩:=h2.form
 obtain ⟨A3,n3,c3,rfl⟩:=h3.form
 obtain ⟨A4,n4,c4,rfl⟩:=h4.form
 obtain ⟨hk1,hk2,hk3,hb1⟩:=alloc3 w (.cells #[.bool (decide (p.num<0)),.slice A1 n1 c1,.slice A2 n2 c2] 112) (.cells #[.bool (decide (q.num<0)),.slice A3 n3 c3,.slice A4 n4 c4] 112) (.cells #[.bool false,.slice none 0 0,.slice none 0 0] 112)
 have H:=Lib.hid (And.intro (h1.below hb1) (And.intro (h2.below hb1) (And.intro (h3.below hb1) (And.intro (h4.below hb1) (And.intro hp (And.intro hq (And.intro hb1 (And.intro hk1 (And.intro hk2 hk3)))))))))
 clear h1 h2 h3 h4 hp hq hb1 hk1 hk2 hk3
 obtain ⟨g,hg⟩:∃ g,g=p.den.gcd q.den:=⟨_,rfl⟩
 obtain ⟨ma,hma⟩:∃ ma,ma=p.den/g:=⟨_,rfl⟩
 obtain ⟨mb,hmb⟩:∃ mb,mb=q.den/g:=⟨_,rfl⟩
 obtain ⟨S,hS⟩:∃ S,S=p.num*mb+q.num*ma:=⟨_,rfl⟩
 obtain ⟨g0,ma0,mb0,ed1,ed2,hpq,hgcd⟩:=add_parts p q hg hma hmb hS
 have hgl:Lv 36 g:=H.out.2.2.2.2.1.2.le (by rw [hg];exact Nat.gcd_le_left _ p.den_pos)
 have hmal:Lv 36 ma:=H.out.2.2.2.2.1.2.le (by rw [hma];exact Nat.div_le_self _ _)
 have hmbl:Lv 36 mb:=H.out.2.2.2.2.2.1.2.le (by rw [hmb];exact Nat.div_le_self _ _)
 have hSl:Lv 38 S.natAbs:=by
  refine (Lv.add (H.out.2.2.2.2.1.1.mul hmbl) (H.out.2.2.2.2.2.1.1.mul hmal)).le ?_
  rw [hS]
  refine Nat.le_trans (Int.natAbs_add_le _ _) ?_
  rw [Int.natAbs_mul,Int.natAbs_mul,Int.natAbs_natCast,Int.natAbs_natCast]
  exact Nat.le_refl _
 have G:=Lib.hid (And.intro hg (And.intro hma (And.intro hmb (And.intro hS (And.intro g0 (And.intro hgl (And.intro hmal (And.intro hmbl hSl))))))))
 clear hg hma hmb hS g0 ma0 mb0 ed1 ed2 hpq hgcd hgl hmal hmbl hSl
 have hgn:=G.out.1
 go_enter Tryz.func151,Tryz.ntmps151
 go_wp2_with fail
 generalize ((w.alloc (.cells #[.bool (decide (p.num<0)),.slice A1 n1 c1,.slice A2 n2 c2] 112)).alloc (.cells #[.bool (decide (q.num<0)),.slice A3 n3 c3,.slice A4 n4 c4] 112)).alloc (.cells #[.bool false,.slice none 0 0,.slice none 0 0] 112)=w1 at *
 refine (gcd_any _ _ p.den q.den _ H.out.2.1 H.out.2.2.2.1 (H.out.2.2.2.2.1.2.mono (by omega)) (H.out.2.2.2.2.2.1.2.mono (by omega)) (.inl p.den_pos)).mono ?_
 rw [← hgn]
 clear hgn
 rintro e w2 ⟨vg,rfl,qg,b2⟩
 obtain ⟨Ag,kg,cg,rfl⟩:=qg.form
 have hA:=keep_blk b2 H.out.2.2.2.2.2.2.2.1
 have hC:=keep_blk b2 H.out.2.2.2.2.2.2.2.2.1
 obtain ⟨⟨u0,u1,u2⟩,_⟩:=blk3 hA
 obtain ⟨⟨u3,u4,u5⟩,_⟩:=blk3 hC
 have Q2:=Lib.hid (And.intro qg (And.intro b2 (And.intro hA hC)))
 clear qg b2 hA hC
 go_wp2_with fail
 refine (nt_divide (H.out.2.1.below Q2.out.2.1) Q2.out.1 (H.out.2.2.2.2.1.2.mono (by omega)) G.out.2.2.2.2.1).mono ?_
 rw [← G.out.2.1]
 rintro e w3 ⟨vm,x1,rfl,qm,qx,b3⟩
 obtain ⟨Am,km,cm,rfl⟩:=qm.form
 have hb3:=Below.step_trans Q2.out.2.1 b3
 have hA:=keep_blk b3 Q2.out.2.2.1
 have hC:=keep_blk b3 Q2.out.2.2.2
 clear u0 u1 u2 u3 u4 u5
 obtain ⟨⟨u0,u1,u2⟩,_⟩:=blk3 hA
 obtain ⟨⟨u3,u4,u5⟩,_⟩:=blk3 hC
 have Q3:=Lib.hid (And.intro qm (And.intro b3 (And.intro hb3 (And.intro hA hC))))
 obtain ⟨Ax1,kx1,cx1,rfl⟩:=qx.form
 clear qm b3 hb3 hA hC qx
 go_wp2_with fail
 refine (nt_divide (H.out.2.2.2.1.below Q3.out.2.2.1) (Q2.out.1.below Q3.out.2.1) (H.out.2.2.2.2.2.1.2.mono (by omega)) G.out.2.2.2.2.1).mono ?_
 rw [← G.out.2.2.1]
 rintro e w4 ⟨vn,x2,rfl,qn,qx,b4⟩
 obtain ⟨An,kn,cn,rfl⟩:=qn.form
 obtain ⟨Ax2,kx2,cx2,rfl⟩:=qx.form
 have hb4:=Below.step_trans Q3.out.2.2.1 b4
 have hA:=keep_blk b4 Q3.out.2.2.2.1
 have hC:=keep_blk b4 Q3.out.2.2.2.2
 have hR:=keep_blk hb4 H.out.2.2.2.2.2.2.2.2.2
 clear u0 u1 u2 u3 u4 u5
 have Q4:=Lib.hid (And.intro qn (And.intro b4 (And.intro hb4 (And.intro (Q3.out.1.below b4) (And.intro hR (And.intro (Q2.out.1.below (Below.step_trans Q3.out.2.1 b4)) (Below.step_trans H.out.2.2.2.2.2.2.1 hb4)))))))
 clear qn b4 hb4 hR qx
 go_wp2_with fail
 have t1:∀ w',Base [] w4 w'→Calls Tryz.prog 132 #[.slice A1 n1 c1,.slice An kn cn] w' (TyPost w' (spNt (p.num.natAbs*mb))):=fun w' hB =>
  GivesNt.ty (nt_times (H.out.1.below (Below.step_trans Q4.out.2.2.1 hB.below)) (Q4.out.1.below hB.below) (H.out.2.2.2.2.1.1.mono (by omega)) (G.out.2.2.2.2.2.2.2.1.mono (by omega)))
 have t2:∀ w',Base [] w4 w'→Calls Tryz.prog 132 #[.slice A3 n3 c3,.slice Am km cm] w' (TyPost w' (spNt (q.num.natAbs*ma))):=fun w' hB =>
  GivesNt.ty (nt_times (H.out.2.2.1.below (Below.step_trans Q4.out.2.2.1 hB.below)) (Q4.out.2.2.2.1.below hB.below) (H.out.2.2.2.2.2.1.1.mono (by omega)) (G.out.2.2.2.2.2.2.1.mono (by omega)))
 have t3:∀ w' x y,Base [] w4 w'→Nt w' x (p.num.natAbs*mb)→Nt w' y (q.num.natAbs*ma)→Calls Tryz.prog 201 #[.bool (decide (p.num<0)),x,.bool (decide (q.num<0)),y] w' (TyPost w' (spSum S)):=fun w' x y hB hx hy=>by
  have:=sumOfSigned_any (decide (p.num<0)) (decide (q.num<0)) _ _ x y w' hx hy (((H.out.2.2.2.2.1.1).mul G.out.2.2.2.2.2.2.2.1).mono (by omega)) (((H.out.2.2.2.2.2.1.1).mul G.out.2.2.2.2.2.2.1).mono (by omega))
  rw [sg_mul,sg_mul,sg_of,sg_of,← G.out.2.2.2.1] at this
  exact this.mono fun e w'' ⟨neg,u,h1,h2,h3,h4⟩=>⟨_,h1,h4,neg,u,rfl,h2,h3⟩
 have T1:=Lib.hid t1
 have T2:=Lib.hid t2
 have T3:=Lib.hid t3
 clear t1 t2 t3
 refine wp_region_ty Ku [] (by kernel_rfl) (by kernel_rfl) ?_
 repeat (first|(apply ty_is (hg:=rfl);case h=>(intro A w' hB hk;simp [known,specOf,Kd.spec,Sp.is,isVar,Oper.looksAt,Op.operands,Call.operands,Act.eval] at hk;have c_hA:=cells_of_blk (hB.blk hA (by first|(simp;done)|(simp;omega)));have c_hC:=cells_of_blk (hB.blk hC (by first|(simp;done)|(simp;omega)));first|(simp [go_sem,hk,c_hA,c_hC];done)|(simp [go_sem,hk,c_hA,c_hC];rfl)|(simp [go_sem,c_hA,c_hC];rfl)))|(refine ty_move _ ?_ (by first|exact .inl rfl|exact .inr rfl) (by rfl) (by simp [specOf,Kd.spec];rfl) ?_ rfl ?_;(first|exact Sp.is_stable _ _|exact spNt_stable (fun _=>rfl) _|exact spTwo_stable (fun _=>rfl) _ _|exact spFr_stable (fun _=>rfl) _|exact spSum_stable (fun _=>rfl) _|exact spSgn_stable _ _|exact spNb_stable (fun _=>rfl) (fun _=>rfl) _|exact spVc_stable (fun _=>rfl) (fun _=>rfl) _)))
 refine ty_call (spNt (p.num.natAbs*mb)) (spNt_stable (fun _=>rfl) _) rfl (fun A w' hB hk=>?_) ?_;(simp [known,specOf,Kd.spec,Sp.is,isVar,Oper.looksAt,Op.operands,Call.operands,Act.eval] at hk;have c_hA:=cells_of_blk (hB.blk hA (by first|(simp;done)|(simp;omega)));simp [go_sem,hk,c_hA];refine tyUpon_enter ?_;exact T1.out _ hB)
 repeat (first|(apply ty_is (hg:=rfl);case h=>(intro A w' hB hk;simp [known,specOf,Kd.spec,Sp.is,isVar,Oper.looksAt,Op.operands,Call.operands,Act.eval] at hk;have c_hA:=cells_of_blk (hB.blk hA (by first|(simp;done)|(simp;omega)));have c_hC:=cells_of_blk (hB.blk hC (by first|(simp;done)|(simp;omega)));first|(simp [go_sem,hk,c_hA,c_hC];done)|(simp [go_sem,hk,c_hA,c_hC];rfl)|(simp [go_sem,c_hA,c_hC];rfl)))|(refine ty_move _ ?_ (by first|exact .inl rfl|exact .inr rfl) (by rfl) (by simp [specOf,Kd.spec];rfl) ?_ rfl ?_;(first|exact Sp.is_stable _ _|exact spNt_stable (fun _=>rfl) _|exact spTwo_stable (fun _=>rfl) _ _|exact spFr_stable (fun _=>rfl) _|exact spSum_stable (fun _=>rfl) _|exact spSgn_stable _ _|exact spNb_stable (fun _=>rfl) (fun _=>rfl) _|exact spVc_stable (fun _=>rfl) (fun _=>rfl) _)))
 refine ty_call (spNt (q.num.natAbs*ma)) (spNt_stable (fun _=>rfl) _) rfl (fun A w' hB hk=>?_) ?_;(simp [known,specOf,Kd.spec,Sp.is,isVar,Oper.looksAt,Op.operands,Call.operands,Act.eval] at hk;have c_hA:=cells_of_blk (hB.blk hA (by first|(simp;done)|(simp;omega)));simp [go_sem,hk,c_hA];refine tyUpon_enter ?_;exact T2.out _ hB)
 refine ty_call (spSum S) (spSum_stable (fun _=>rfl) _) rfl (fun A w' hB hk=>?_) ?_;(simp [known,specOf,Kd.spec,Sp.is,isVar,Oper.looksAt,Op.operands,Call.operands,Act.eval] at hk;have c_hA:=cells_of_blk (hB.blk hA (by first|(simp;done)|(simp;omega)));simp [go_sem,hk,c_hA];refine tyUpon_enter ?_;exact T3.out _ _ _ hB hk.2.1 hk.2.2.2)
 repeat (first|(apply ty_is (hg:=rfl);case h=>(intro A w' hB hk;simp [known,specOf,Kd.spec,Sp.is,isVar,Oper.looksAt,Op.operands,Call.operands,Act.eval] at hk;have c_hA:=cells_of_blk (hB.blk hA (by first|(simp;done)|(simp;omega)));first|(simp [go_sem,hk,c_hA];done)|(simp [go_sem,hk,c_hA];rfl)|(simp [go_sem,c_hA];rfl)))|(refine ty_move _ ?_ (by first|exact .inl rfl|exact .inr rfl) (by rfl) (by simp [specOf,Kd.spec];rfl) ?_ rfl ?_;(first|exact Sp.is_stable _ _|exact spNt_stable (fun _=>rfl) _|exact spTwo_stable (fun _=>rfl) _ _|exact spFr_stable (fun _=>rfl) _|exact spSum_stable (fun _=>rfl) _|exact spSgn_stable _ _|exact spNb_stable (fun _=>rfl) (fun _=>rfl) _|exact spVc_stable (fun _=>rfl) (fun _=>rfl) _)))
 refine ty_call (spSgn S) (spSgn_stable _ _) rfl (fun A w' hB hk=>?_) ?_;(simp [known,specOf,Kd.spec,Sp.is,isVar,Oper.looksAt,Op.operands,Call.operands,Act.eval] at hk;have c_hA:=cells_of_blk (hB.blk hA (by first|(simp;done)|(simp;omega)));obtain ⟨neg,u,k1,k2,k3⟩:=hk;simp [go_sem,k1];exact tyUpon_value ⟨neg,rfl,k2⟩)
 refine ty_call (spNt S.natAbs) (spNt_stable (fun _=>rfl) _) rfl (fun A w' hB hk=>?_) ?_;(simp [known,specOf,Kd.spec,Sp.is,isVar,Oper.looksAt,Op.operands,Call.operands,Act.eval] at hk;have c_hA:=cells_of_blk (hB.blk hA (by first|(simp;done)|(simp;omega)));obtain ⟨neg,u,k1,k2,k3⟩:=hk;simp [go_sem,k1];exact tyUpon_value k3)
 repeat (first|(apply ty_is (hg:=rfl);case h=>(intro A w' hB hk;simp [known,specOf,Kd.spec,Sp.is,isVar,Oper.looksAt,Op.operands,Call.operands,Act.eval] at hk;have c_hA:=cells_of_blk (hB.blk hA (by first|(simp;done)|(simp;omega)));first|(simp [go_sem,hk,c_hA];done)|(simp [go_sem,hk,c_hA];rfl)|(simp [go_sem,c_hA];rfl)))|(refine ty_move _ ?_ (by first|exact .inl rfl|exact .inr rfl) (by rfl) (by simp [specOf,Kd.spec];rfl) ?_ rfl ?_;(first|exact Sp.is_stable _ _|exact spNt_stable (fun _=>rfl) _|exact spTwo_stable (fun _=>rfl) _ _|exact spFr_stable (fun _=>rfl) _|exact spSum_stable (fun _=>rfl) _|exact spSgn_stable _ _|exact spNb_stable (fun _=>rfl) (fun _=>rfl) _|exact spVc_stable (fun _=>rfl) (fun _=>rfl) _)))
 refine ⟨by first|rfl|decide,fun f w2 hB hF hAp=>?_⟩;simp [Final1,Sp.is,isVar] at hF;simp only [frameOf]
 obtain ⟨y1,⟨neg,e10,hneg⟩,hF2⟩:=hF
 obtain ⟨As,ks,cs,e11⟩:=(show Nt _ _ _ from y1).form
 rw [e11] at y1
 have hA2:=hB.blk hA (by simp)
 have hC2:=hB.blk hC (by simp)
 have hR2:=hB.blk Q4.out.2.2.2.2.1 (by simp)
 have Y:=Lib.hid (And.intro (show Nt w2 _ _ from y1) (And.intro hneg (And.intro (Below.step_trans Q4.out.2.2.2.2.2.2 hB.below) (And.intro hR2 hB.below))))
 clear y1 hneg hA hC hA2 hC2 hR2 hB hAp
 by_cases z0:S.natAbs=0
 ·have hpq:p+q=0:=add_zero_parts G.out.1 G.out.2.1 G.out.2.2.1 G.out.2.2.2.1 z0
  have hz:decide (S.natAbs=0)=true:=by rw [decide_eq_true_eq];exact z0
  have HZ:=Lib.hid hpq
  clear hpq z0
  go_wp2_with fail
  refine (nt_isZero Y.out.1).mono ?_
  rintro e w' ⟨rfl,rfl⟩
  rw [hz]
  clear hz
  go_wp2_with fail
  refine (zero_any _).mono ?_
  rintro e w5 ⟨v1,rfl,⟨s1,s2,rfl,q1,q2⟩,b1⟩
  obtain ⟨E1,k1,m1,rfl⟩:=q1.form
  obtain ⟨E2,k2,m2,rfl⟩:=q2.form
  have hk:=keep_blk b1 Y.out.2.2.2.1
  obtain ⟨⟨h0,h1,h2⟩,f0,f1,f2⟩:=blk3 hk
  have Q:=Lib.hid (And.intro q1 (And.intro q2 (And.intro b1 hk)))
  clear q1 q2 b1 hk
  go_wp2
  refine bodyPost_ret (v := .agg #[.bool (decide ((0:Rat).num<0)),.slice E1 k1 m1,.slice E2 k2 m2]) (by simp [results,Tryz.results151,go_sem,h0,h1,h2]) rfl ⟨_,rfl,?_,?_⟩
  ·rw [HZ.out]
   exact Fr.ext (K:=Ku) (fun _=>rfl) ⟨_,_,rfl,Q.out.1,Q.out.2.1⟩ (Ext.only (only3 _ _ _ _ _) Q.out.2.2.2 (by simp [hotObj,Ku]))
  ·repeat (first|exact (Below.step_trans Y.out.2.2.1 Q.out.2.2.1)|(refine Below.setCell ?_ (by first|omega|(simp;done)|(simp;omega)) _)|(refine Below.alloc ?_ (by first|omega|(simp;done)|(simp;omega)) _)|(refine Below.drew ?_)|exact Below.refl _ _)
 ·have hpar:=Parts.add G.out.1 G.out.2.1 G.out.2.2.1 G.out.2.2.2.1 Y.out.2.1 z0
  have hz:decide (S.natAbs=0)=false:=by rw [decide_eq_false_iff_not];exact z0
  obtain ⟨r,hr⟩:∃ r,r=S.natAbs.gcd g:=⟨_,rfl⟩
  rw [← hr] at hpar
  have hr0:0<r:=by rw [hr];exact Nat.gcd_pos_of_pos_right _ G.out.2.2.2.2.1
  have hrg:r≤g:=by rw [hr];exact Nat.gcd_le_right _ G.out.2.2.2.2.1
  have HZ:=Lib.hid (And.intro hpar (And.intro hr0 (And.intro hrg z0)))
  have HR:=Lib.hid hr
  clear hpar z0 hr0 hrg hr
  go_wp2_with fail
  refine (nt_isZero Y.out.1).mono ?_
  rintro e w' ⟨rfl,rfl⟩
  rw [hz]
  clear hz
  go_wp2_with fail
  refine (gcd_any _ _ S.natAbs g _ Y.out.1 (Q4.out.2.2.2.2.2.1.below Y.out.2.2.2.2) (G.out.2.2.2.2.2.2.2.2.mono (by omega)) (G.out.2.2.2.2.2.1.mono (by omega)) (.inr G.out.2.2.2.2.1)).mono ?_
  rw [← HR.out]
  rintro e w5 ⟨v5,rfl,q5,b5⟩
  obtain ⟨A5,k5,c5,rfl⟩:=q5.form
  have Q5:=Lib.hid (And.intro q5 b5)
  clear q5 b5
  go_wp2_with fail
  refine (nt_divide (Y.out.1.below Q5.out.2) Q5.out.1 (G.out.2.2.2.2.2.2.2.2.mono (by omega)) HZ.out.2.1).mono ?_
  rintro e w6 ⟨v6,x6,rfl,q6,qx,b6⟩
  obtain ⟨A6,k6,c6,rfl⟩:=q6.form
  obtain ⟨Ax6,kx6,cx6,rfl⟩:=qx.form
  have Q6:=Lib.hid (And.intro q6 b6)
  clear q6 b6 qx
  go_wp2_with fail
  refine (nt_divide (Q4.out.2.2.2.2.2.1.below (Below.step_trans Y.out.2.2.2.2 (Below.step_trans Q5.out.2 Q6.out.2))) (Q5.out.1.below Q6.out.2) (G.out.2.2.2.2.2.1.mono (by omega)) HZ.out.2.1).mono ?_
  rintro e w7 ⟨v7,x7,rfl,q7,qx,b7⟩
  obtain ⟨A7,k7,c7,rfl⟩:=q7.form
  obtain ⟨Ax7,kx7,cx7,rfl⟩:=qx.form
  have hb7:Below w4.heap.size w4 w7:=Below.step_trans Y.out.2.2.2.2 (Below.step_trans Q5.out.2 (Below.step_trans Q6.out.2 b7))
  have Q7:=Lib.hid (And.intro q7 (And.intro b7 hb7))
  clear q7 b7 qx hb7
  go_wp2_with fail
  refine (nt_times (Q4.out.2.2.2.1.below Q7.out.2.2) (Q4.out.1.below Q7.out.2.2) (G.out.2.2.2.2.2.2.1.mono (by omega)) (G.out.2.2.2.2.2.2.2.1.mono (by omega))).mono ?_
  rintro e w8 ⟨v8,rfl,q8,b8⟩
  obtain ⟨A8,k8,c8,rfl⟩:=q8.form
  have Q8:=Lib.hid (And.intro q8 b8)
  clear q8 b8
  go_wp2_with fail
  refine (nt_times Q8.out.1 (Q7.out.1.below Q8.out.2) ((G.out.2.2.2.2.2.2.1.mul G.out.2.2.2.2.2.2.2.1).mono (by omega)) ((G.out.2.2.2.2.2.1.le (Nat.div_le_self _ _)).mono (by omega))).mono ?_
  rintro e w9 ⟨v9,rfl,q9,b9⟩
  obtain ⟨A9,k9,c9,rfl⟩:=q9.form
  have hb9:Below w7.heap.size w7 w9:=Below.step_trans Q8.out.2 b9
  have hk:=keep_blk (Below.step_trans Q7.out.2.2 hb9) Q4.out.2.2.2.2.1
  obtain ⟨⟨h0,h1,h2⟩,f0,f1,f2⟩:=blk3 hk
  have Q9:=Lib.hid (And.intro q9 (And.intro hb9 hk))
  clear q9 b9 hb9 hk
  go_wp2
  refine bodyPost_ret (v := .agg #[.bool neg,.slice A6 k6 c6,.slice A9 k9 c9]) (by simp [results,Tryz.results151,go_sem,h0,h1,h2]) rfl ⟨_,rfl,?_,?_⟩
  ·exact Fr.ext (K:=Ku) (fun _=>rfl) (Fr.of HZ.out.1 (Q6.out.1.below (Below.step_trans Q7.out.2.1 Q9.out.2.1)) Q9.out.1) (Ext.only (only3 _ _ _ _ _) Q9.out.2.2 (by simp [hotObj,Ku]))
  ·repeat (first|exact (Below.step_trans Q4.out.2.2.2.2.2.2 (Below.step_trans Q7.out.2.2 Q9.out.2.1))|(refine Below.setCell ?_ (by first|omega|(simp;done)|(simp;omega)) _)|(refine Below.alloc ?_ (by first|omega|(simp;done)|(simp;omega)) _)|(refine Below.drew ?_)|exact Below.refl _ _)
theorem alloc2 (w:World) (a b:Obj):((w.alloc a).alloc b).heap[w.heap.size]?=some a∧((w.alloc a).alloc b).heap[w.heap.size+1]?=some b∧Below w.heap.size w ((w.alloc a).alloc b):=by
 have h2:Below (w.alloc a).heap.size (w.alloc a) ((w.alloc a).alloc b):=(Below.refl _ _).alloc (Nat.le_refl _) _
 refine ⟨keep_blk h2 (heap_alloc_new w a),?_,((Below.refl _ _).alloc (Nat.le_refl _) _).alloc (by simp) _⟩
 have:=heap_alloc_new (w.alloc a) b;simpa using this
end Go.Proofs.YtbhcckhbbclemaaGreatDoor
