/- Parts of the proof, joined. -/
import Derived.Test.YtbhcckhbbclemaaGreatDoorJ19
import Derived.Test.YtbhcckhbbclemaaGreatDoorJ4
set_option linter.unusedSimpArgs false
set_option linter.unusedVariables false
namespace Go.Proofs.YtbhcckhbbclemaaGreatDoor
open Go.RowKit Pl
set_option maxRecDepth 100000 in
set_option maxHeartbeats 8000000 in
theorem times_nb (v v' : Value) (p q:Rat) (w:World) (h:Nb w v p) (h' : Nb w v' q) (hp:Lf 38 p) (hq:Lf 38 q):Calls Tryz.prog 98 #[v,v'] w (GivesNb w (p*q)):=by
 obtain ⟨n1,d1,a1,rfl⟩:=h.form
 obtain ⟨n2,d2,a2,rfl⟩:=h'.form
 obtain ⟨hk1,hk2,hk3,hb1⟩:=alloc3 w (.cells #[.int .i64 n1,.int .i64 d1,.pointer a1] 67) (.cells #[.int .i64 n2,.int .i64 d2,.pointer a2] 67) (.cells #[.int .i64 0,.int .i64 0,.pointer none] 67)
 have H:=Lib.hid (And.intro (h.below hb1) (And.intro (h'.below hb1) (And.intro hp (And.intro hq (And.intro hb1 (And.intro hk1 (And.intro hk2 hk3)))))))
 by_cases hs:Sm p∧Sm q
 ·have e1:Value.agg #[.int .i64 n1,.int .i64 d1,.pointer a1]=smV p.num p.den:=by
   rcases h with ⟨_,e⟩|⟨hn,_⟩
   ·exact e
   ·exact absurd hs.1 hn
  have e2:Value.agg #[.int .i64 n2,.int .i64 d2,.pointer a2]=smV q.num q.den:=by
   rcases h' with ⟨_,e⟩|⟨hn,_⟩
   ·exact e
   ·exact absurd hs.2 hn
  have ha:∀ w',Calls Tryz.prog 148 #[.agg #[.int .i64 n1,.int .i64 d1,.pointer a1],.agg #[.int .i64 n2,.int .i64 d2,.pointer a2]] w' (Gives w' (.bool true)):=fun w'=>areSmall_yes _ _ p q w' hs.1 hs.2 e1 e2
  have hc:∀ w',Calls Tryz.prog 160 #[.agg #[.int .i64 n1,.int .i64 d1,.pointer a1],.agg #[.int .i64 n2,.int .i64 d2,.pointer a2]] w' (GivesNumOk w' (p*q)):=fun w'=>by
   rw [e1,e2]
   exact timesSmall_any p q w' hs.1 hs.2
  have HS:=Lib.hid (And.intro ha hc)
  clear ha hc e1 e2 hs h h' hp hq hb1 hk1 hk2 hk3
  go_enter Tryz.func98,Tryz.ntmps98
  go_wp2_with fail
  refine (HS.out.1 _).mono ?_
  rintro e w2 ⟨rfl,b2⟩
  have B2:=Lib.hid (And.intro (Below.step_trans H.out.2.2.2.2.1 b2) (And.intro b2 (And.intro (keep_blk b2 H.out.2.2.2.2.2.1) (And.intro (keep_blk b2 H.out.2.2.2.2.2.2.1) (keep_blk b2 H.out.2.2.2.2.2.2.2)))))
  obtain ⟨⟨u0,u1,u2⟩,_⟩:=blk3 (keep_blk b2 H.out.2.2.2.2.2.1)
  obtain ⟨⟨u3,u4,u5⟩,_⟩:=blk3 (keep_blk b2 H.out.2.2.2.2.2.2.1)
  clear b2
  go_wp2_with fail
  refine (HS.out.2 _).mono ?_
  rintro e w3 ⟨rn,rd,ok,rfl,hok,b3⟩
  have hA3:=keep_blk b3 B2.out.2.2.1
  have hC3:=keep_blk b3 B2.out.2.2.2.1
  have hR3:=keep_blk b3 B2.out.2.2.2.2
  have B3:=Lib.hid (And.intro hok (And.intro (Below.step_trans B2.out.1 b3) (And.intro (Below.step_trans B2.out.2.1 b3) (And.intro hA3 (And.intro hC3 hR3)))))
  clear u0 u1 u2 u3 u4 u5 b3 hok hA3 hC3 hR3
  have hlt3:=lt_of_block B3.out.2.2.2.2.2
  cases ok
  ·go_wp2
   have hb4:Below w3.heap.size w3 (w3.alloc (.cells #[.int .i64 rn,.int .i64 rd,.pointer none] 67)):=(Below.refl _ _).alloc (Nat.le_refl _) _
   have B4:=Lib.hid (And.intro (Below.step_trans B3.out.2.1 hb4) (And.intro (Below.step_trans B3.out.2.2.1 hb4) (And.intro (keep_blk hb4 B3.out.2.2.2.1) (And.intro (keep_blk hb4 B3.out.2.2.2.2.1) (keep_blk hb4 B3.out.2.2.2.2.2)))))
   clear hb4
   generalize w3.alloc (.cells #[.int .i64 rn,.int .i64 rd,.pointer none] 67)=w4 at *
   have hA:=B4.out.2.2.1
   have hC:=B4.out.2.2.2.1
   have hR:=B4.out.2.2.2.2
   have t1:∀ w',Base [w.heap.size+1+1] w4 w'→Calls Tryz.prog 150 #[.agg #[.int .i64 n1,.int .i64 d1,.pointer a1]] w' (TyPost w' (spFr p)):=fun w' hB =>
    GivesFr.ty (numFraction_any _ _ _ (Nb.ext (K:=Kn) (fun _=>rfl) (fun _=>rfl) (H.out.1.below B4.out.2.1) (hB.extT B4.out.2.2.2.2 (by simp [hotObj,Kn]))))
   have t2:∀ w',Base [w.heap.size+1+1] w4 w'→Calls Tryz.prog 150 #[.agg #[.int .i64 n2,.int .i64 d2,.pointer a2]] w' (TyPost w' (spFr q)):=fun w' hB =>
    GivesFr.ty (numFraction_any _ _ _ (Nb.ext (K:=Kn) (fun _=>rfl) (fun _=>rfl) (H.out.2.1.below B4.out.2.1) (hB.extT B4.out.2.2.2.2 (by simp [hotObj,Kn]))))
   have t3:∀ w' x y,Fr w' x p→Fr w' y q→Calls Tryz.prog 161 #[x,y] w' (TyPost w' (spFr (p*q))):=fun w' x y hx hy=>GivesFr.ty (fraTimes_any x y p q w' hx hy H.out.2.2.1 H.out.2.2.2.1)
   have t4:∀ w' x,Fr w' x (p*q)→Calls Tryz.prog 65 #[x] w' (TyPost w' (spNb (p*q))):=fun w' x hx=>GivesNb.ty (number_any x _ w' hx)
   have T:=Lib.hid (And.intro t1 (And.intro t2 (And.intro t3 t4)))
   clear t1 t2 t3 t4
   refine wp_region_ty Kn [w.heap.size+1+1] (by kernel_rfl) (by kernel_rfl) ?_
   repeat (first|(apply ty_is (hg:=rfl);case h=>(intro A w' hB hk;simp [known,specOf,Kd.spec,Sp.is,isVar,Oper.looksAt,Op.operands,Call.operands,Act.eval] at hk;have c_hA:=cells_of_blk (hB.blk hA (by first|(simp;done)|(simp;omega)));have c_hC:=cells_of_blk (hB.blk hC (by first|(simp;done)|(simp;omega)));first|(simp [go_sem,hk,c_hA,c_hC];done)|(simp [go_sem,hk,c_hA,c_hC];rfl)|(simp [go_sem,c_hA,c_hC];rfl)))|(refine ty_move _ ?_ (by first|exact .inl rfl|exact .inr rfl) (by rfl) (by simp [specOf,Kd.spec];rfl) ?_ rfl ?_;(first|exact Sp.is_stable _ _|exact spNt_stable (fun _=>rfl) _|exact spTwo_stable (fun _=>rfl) _ _|exact spFr_stable (fun _=>rfl) _|exact spSum_stable (fun _=>rfl) _|exact spSgn_stable _ _|exact spNb_stable (fun _=>rfl) (fun _=>rfl) _|exact spVc_stable (fun _=>rfl) (fun _=>rfl) _)))
   refine ty_call (spFr p) (spFr_stable (fun _=>rfl) _) rfl (fun A w' hB hk=>?_) ?_;(simp [known,specOf,Kd.spec,Sp.is,isVar,Oper.looksAt,Op.operands,Call.operands,Act.eval] at hk;have c_hA:=cells_of_blk (hB.blk hA (by first|(simp;done)|(simp;omega)));simp [go_sem,hk,c_hA];refine tyUpon_enter ?_;exact T.out.1 _ hB)
   repeat (first|(apply ty_is (hg:=rfl);case h=>(intro A w' hB hk;simp [known,specOf,Kd.spec,Sp.is,isVar,Oper.looksAt,Op.operands,Call.operands,Act.eval] at hk;have c_hA:=cells_of_blk (hB.blk hA (by first|(simp;done)|(simp;omega)));have c_hC:=cells_of_blk (hB.blk hC (by first|(simp;done)|(simp;omega)));first|(simp [go_sem,hk,c_hA,c_hC];done)|(simp [go_sem,hk,c_hA,c_hC];rfl)|(simp [go_sem,c_hA,c_hC];rfl)))|(refine ty_move _ ?_ (by first|exact .inl rfl|exact .inr rfl) (by rfl) (by simp [specOf,Kd.spec];rfl) ?_ rfl ?_;(first|exact Sp.is_stable _ _|exact spNt_stable (fun _=>rfl) _|exact spTwo_stable (fun _=>rfl) _ _|exact spFr_stable (fun _=>rfl) _|exact spSum_stable (fun _=>rfl) _|exact spSgn_stable _ _|exact spNb_stable (fun _=>rfl) (fun _=>rfl) _|exact spVc_stable (fun _=>rfl) (fun _=>rfl) _)))
   refine ty_call (spFr q) (spFr_stable (fun _=>rfl) _) rfl (fun A w' hB hk=>?_) ?_;(simp [known,specOf,Kd.spec,Sp.is,isVar,Oper.looksAt,Op.operands,Call.operands,Act.eval] at hk;have c_hA:=cells_of_blk (hB.blk hA (by first|(simp;done)|(simp;omega)));simp [go_sem,hk,c_hA];refine tyUpon_enter ?_;exact T.out.2.1 _ hB)
   refine ty_call (spFr (p*q)) (spFr_stable (fun _=>rfl) _) rfl (fun A w' hB hk=>?_) ?_;(simp [known,specOf,Kd.spec,Sp.is,isVar,Oper.looksAt,Op.operands,Call.operands,Act.eval] at hk;have c_hA:=cells_of_blk (hB.blk hA (by first|(simp;done)|(simp;omega)));simp [go_sem,hk,c_hA];refine tyUpon_enter ?_;exact T.out.2.2.1 _ _ _ hk.1 hk.2)
   refine ty_call (spNb (p*q)) (spNb_stable (fun _=>rfl) (fun _=>rfl) _) rfl (fun A w' hB hk=>?_) ?_;(simp [known,specOf,Kd.spec,Sp.is,isVar,Oper.looksAt,Op.operands,Call.operands,Act.eval] at hk;have c_hA:=cells_of_blk (hB.blk hA (by first|(simp;done)|(simp;omega)));simp [go_sem,hk,c_hA];refine tyUpon_enter ?_;exact T.out.2.2.2 _ _ hk)
   refine ty_old (w.heap.size+1+1) (_) (coNb (p*q)) (coNb_stable (fun _=>rfl) (fun _=>rfl) _) rfl rfl (by simp) (by assumption) (by simp [hotObj,Ku,Kn]) (fun A w' hB hk h0=>?_) ?_;(simp [known,specOf,Kd.spec,Sp.is,isVar,Oper.looksAt,Op.operands,Call.operands,Act.eval] at hk;have c_hA:=cells_of_blk (hB.blk hA (by first|(simp;done)|(simp;omega)));have c0:=cells_of_blk h0;have f0:=frozen_of_blk h0;obtain ⟨k1,k2⟩:=hk;obtain ⟨y1,y2,y3,e1⟩:=(show Nb _ _ _ from k2).form;rw [e1] at k2;simp [go_sem,k1,e1,c0,f0];exact ⟨_,turned3 h0 _ _ _,_,_,_,rfl,k2⟩)
   refine ⟨by first|rfl|decide,fun f w2 hB hF hAp=>?_⟩;simp [Final1,Sp.is,isVar] at hF;simp only [frameOf]
   obtain ⟨o,⟨y1,y2,y3,rfl,k3⟩,ho⟩:=hF.1
   obtain ⟨⟨r0,r1,r2⟩,_⟩:=blk3 ho
   have K:=Lib.hid (And.intro k3 hB)
   clear k3 hB ho hA hC hR hAp hF
   go_wp2
   refine bodyPost_ret (v := .agg #[.int .i64 y1,.int .i64 y2,.pointer y3]) (by simp [results,Tryz.results98,go_sem,r0,r1,r2,Act.put]) rfl ⟨_,rfl,K.out.1,?_⟩
   exact Base.belowT K.out.2 B4.out.1 (by omega)
  ·obtain ⟨hsm,hv⟩:=B3.out.1 rfl
   obtain ⟨⟨g0,g1,g2⟩,f0,f1,f2⟩:=blk3 B3.out.2.2.2.2.2
   have HV:=Lib.hid (And.intro hsm hv)
   clear hsm hv
   have hpast:∀ (W:World) (o:Obj) (i:Nat),W.heap.size=w3.heap.size→(W.alloc o).cell? ⟨w.heap.size+1+1,i,none⟩=W.cell? ⟨w.heap.size+1+1,i,none⟩:=fun W o i h=>World.cell?_alloc_past _ _ _ (by show w.heap.size+1+1<W.heap.size;omega)
   have HP:=Lib.hid hpast
   clear hpast
   go_wp2
   refine bodyPost_ret (v := .agg #[.int .i64 rn,.int .i64 rd,.pointer none]) (by simp [results,Tryz.results98,go_sem,g0,g1,g2,HP.out]) rfl ⟨_,rfl,.inl HV.out,?_⟩
   repeat (first|exact B3.out.2.1|(refine Below.setCell ?_ (by first|omega|(simp;done)|(simp;omega)) _)|(refine Below.alloc ?_ (by first|omega|(simp;done)|(simp;omega)) _)|(refine Below.drew ?_)|exact Below.refl _ _)
 ·have ha:∀ w',Below w.heap.size w w'→Calls Tryz.prog 148 #[.agg #[.int .i64 n1,.int .i64 d1,.pointer a1],.agg #[.int .i64 n2,.int .i64 d2,.pointer a2]] w' (Gives w' (.bool false)):=fun w' hb=>areSmall_no _ _ p q w' (h.below hb) (h'.below hb) hs
  have HS:=Lib.hid ha
  clear ha hs h h' hp hq hb1 hk1 hk2 hk3
  go_enter Tryz.func98,Tryz.ntmps98
  go_wp2_with fail
  refine (HS.out _ H.out.2.2.2.2.1).mono ?_
  rintro e w2 ⟨rfl,b2⟩
  have B2:=Lib.hid (And.intro (Below.step_trans H.out.2.2.2.2.1 b2) (And.intro b2 (And.intro (keep_blk b2 H.out.2.2.2.2.2.1) (And.intro (keep_blk b2 H.out.2.2.2.2.2.2.1) (keep_blk b2 H.out.2.2.2.2.2.2.2)))))
  clear b2
  go_wp2
  have hA:=B2.out.2.2.1
  have hC:=B2.out.2.2.2.1
  have hR:=B2.out.2.2.2.2
  have t1:∀ w',Base [w.heap.size+1+1] w2 w'→Calls Tryz.prog 150 #[.agg #[.int .i64 n1,.int .i64 d1,.pointer a1]] w' (TyPost w' (spFr p)):=fun w' hB =>
   GivesFr.ty (numFraction_any _ _ _ (Nb.ext (K:=Kn) (fun _=>rfl) (fun _=>rfl) (H.out.1.below B2.out.2.1) (hB.extT B2.out.2.2.2.2 (by simp [hotObj,Kn]))))
  have t2:∀ w',Base [w.heap.size+1+1] w2 w'→Calls Tryz.prog 150 #[.agg #[.int .i64 n2,.int .i64 d2,.pointer a2]] w' (TyPost w' (spFr q)):=fun w' hB =>
   GivesFr.ty (numFraction_any _ _ _ (Nb.ext (K:=Kn) (fun _=>rfl) (fun _=>rfl) (H.out.2.1.below B2.out.2.1) (hB.extT B2.out.2.2.2.2 (by simp [hotObj,Kn]))))
  have t3:∀ w' x y,Fr w' x p→Fr w' y q→Calls Tryz.prog 161 #[x,y] w' (TyPost w' (spFr (p*q))):=fun w' x y hx hy=>GivesFr.ty (fraTimes_any x y p q w' hx hy H.out.2.2.1 H.out.2.2.2.1)
  have t4:∀ w' x,Fr w' x (p*q)→Calls Tryz.prog 65 #[x] w' (TyPost w' (spNb (p*q))):=fun w' x hx=>GivesNb.ty (number_any x _ w' hx)
  have T:=Lib.hid (And.intro t1 (And.intro t2 (And.intro t3 t4)))
  clear t1 t2 t3 t4
  refine wp_region_ty Kn [w.heap.size+1+1] (by kernel_rfl) (by kernel_rfl) ?_
  repeat (first|(apply ty_is (hg:=rfl);case h=>(intro A w' hB hk;simp [known,specOf,Kd.spec,Sp.is,isVar,Oper.looksAt,Op.operands,Call.operands,Act.eval] at hk;have c_hA:=cells_of_blk (hB.blk hA (by first|(simp;done)|(simp;omega)));have c_hC:=cells_of_blk (hB.blk hC (by first|(simp;done)|(simp;omega)));first|(simp [go_sem,hk,c_hA,c_hC];done)|(simp [go_sem,hk,c_hA,c_hC];rfl)|(simp [go_sem,c_hA,c_hC];rfl)))|(refine ty_move _ ?_ (by first|exact .inl rfl|exact .inr rfl) (by rfl) (by simp [specOf,Kd.spec];rfl) ?_ rfl ?_;(first|exact Sp.is_stable _ _|exact spNt_stable (fun _=>rfl) _|exact spTwo_stable (fun _=>rfl) _ _|exact spFr_stable (fun _=>rfl) _|exact spSum_stable (fun _=>rfl) _|exact spSgn_stable _ _|exact spNb_stable (fun _=>rfl) (fun _=>rfl) _|exact spVc_stable (fun _=>rfl) (fun _=>rfl) _)))
  refine ty_call (spFr p) (spFr_stable (fun _=>rfl) _) rfl (fun A w' hB hk=>?_) ?_;(simp [known,specOf,Kd.spec,Sp.is,isVar,Oper.looksAt,Op.operands,Call.operands,Act.eval] at hk;have c_hA:=cells_of_blk (hB.blk hA (by first|(simp;done)|(simp;omega)));simp [go_sem,hk,c_hA];refine tyUpon_enter ?_;exact T.out.1 _ hB)
  repeat (first|(apply ty_is (hg:=rfl);case h=>(intro A w' hB hk;simp [known,specOf,Kd.spec,Sp.is,isVar,Oper.looksAt,Op.operands,Call.operands,Act.eval] at hk;have c_hA:=cells_of_blk (hB.blk hA (by first|(simp;done)|(simp;omega)));have c_hC:=cells_of_blk (hB.blk hC (by first|(simp;done)|(simp;omega)));first|(simp [go_sem,hk,c_hA,c_hC];done)|(simp [go_sem,hk,c_hA,c_hC];rfl)|(simp [go_sem,c_hA,c_hC];rfl)))|(refine ty_move _ ?_ (by first|exact .inl rfl|exact .inr rfl) (by rfl) (by simp [specOf,Kd.spec];rfl) ?_ rfl ?_;(first|exact Sp.is_stable _ _|exact spNt_stable (fun _=>rfl) _|exact spTwo_stable (fun _=>rfl) _ _|exact spFr_stable (fun _=>rfl) _|exact spSum_stable (fun _=>rfl) _|exact spSgn_stable _ _|exact spNb_stable (fun _=>rfl) (fun _=>rfl) _|exact spVc_stable (fun _=>rfl) (fun _=>rfl) _)))
  refine ty_call (spFr q) (spFr_stable (fun _=>rfl) _) rfl (fun A w' hB hk=>?_) ?_;(simp [known,specOf,Kd.spec,Sp.is,isVar,Oper.looksAt,Op.operands,Call.operands,Act.eval] at hk;have c_hA:=cells_of_blk (hB.blk hA (by first|(simp;done)|(simp;omega)));simp [go_sem,hk,c_hA];refine tyUpon_enter ?_;exact T.out.2.1 _ hB)
  refine ty_call (spFr (p*q)) (spFr_stable (fun _=>rfl) _) rfl (fun A w' hB hk=>?_) ?_;(simp [known,specOf,Kd.spec,Sp.is,isVar,Oper.looksAt,Op.operands,Call.operands,Act.eval] at hk;have c_hA:=cells_of_blk (hB.blk hA (by first|(simp;done)|(simp;omega)));simp [go_sem,hk,c_hA];refine tyUpon_enter ?_;exact T.out.2.2.1 _ _ _ hk.1 hk.2)
  refine ty_call (spNb (p*q)) (spNb_stable (fun _=>rfl) (fun _=>rfl) _) rfl (fun A w' hB hk=>?_) ?_;(simp [known,specOf,Kd.spec,Sp.is,isVar,Oper.looksAt,Op.operands,Call.operands,Act.eval] at hk;have c_hA:=cells_of_blk (hB.blk hA (by first|(simp;done)|(simp;omega)));simp [go_sem,hk,c_hA];refine tyUpon_enter ?_;exact T.out.2.2.2 _ _ hk)
  refine ty_old (w.heap.size+1+1) (_) (coNb (p*q)) (coNb_stable (fun _=>rfl) (fun _=>rfl) _) rfl rfl (by simp) (by assumption) (by simp [hotObj,Ku,Kn]) (fun A w' hB hk h0=>?_) ?_;(simp [known,specOf,Kd.spec,Sp.is,isVar,Oper.looksAt,Op.operands,Call.operands,Act.eval] at hk;have c_hA:=cells_of_blk (hB.blk hA (by first|(simp;done)|(simp;omega)));have c0:=cells_of_blk h0;have f0:=frozen_of_blk h0;obtain ⟨k1,k2⟩:=hk;obtain ⟨y1,y2,y3,e1⟩:=(show Nb _ _ _ from k2).form;rw [e1] at k2;simp [go_sem,k1,e1,c0,f0];exact ⟨_,turned3 h0 _ _ _,_,_,_,rfl,k2⟩)
  refine ⟨by first|rfl|decide,fun f w2 hB hF hAp=>?_⟩;simp [Final1,Sp.is,isVar] at hF;simp only [frameOf]
  obtain ⟨o,⟨y1,y2,y3,rfl,k3⟩,ho⟩:=hF.1
  obtain ⟨⟨r0,r1,r2⟩,_⟩:=blk3 ho
  have K:=Lib.hid (And.intro k3 hB)
  clear k3 hB ho hA hC hR hAp hF
  go_wp2
  refine bodyPost_ret (v := .agg #[.int .i64 y1,.int .i64 y2,.pointer y3]) (by simp [results,Tryz.results98,go_sem,r0,r1,r2,Act.put]) rfl ⟨_,rfl,K.out.1,?_⟩
  exact Base.belowT K.out.2 B2.out.1 (by omega)
set_option maxRecDepth 100000 in
set_option maxHeartbeats 8000000 in
theorem minus_nb (v v' : Value) (p q:Rat) (w:World) (h:Nb w v p) (h' : Nb w v' q) (hp:Lf 36 p) (hq:Lf 36 q):Calls Tryz.prog 99 #[v,v'] w (GivesNb w (p-q)):=by
 have hsub:p-q=p + -q:=Rat.sub_eq_add_neg p q
 rw [hsub]
 obtain ⟨n1,d1,a1,rfl⟩:=h.form
 obtain ⟨n2,d2,a2,rfl⟩:=h'.form
 obtain ⟨hk1,hk2,hk3,hb1⟩:=alloc3 w (.cells #[.int .i64 n1,.int .i64 d1,.pointer a1] 67) (.cells #[.int .i64 n2,.int .i64 d2,.pointer a2] 67) (.cells #[.int .i64 0,.int .i64 0,.pointer none] 67)
 have H:=Lib.hid (And.intro (h.below hb1) (And.intro (h'.below hb1) (And.intro hp (And.intro hq.neg (And.intro hb1 (And.intro hk1 (And.intro hk2 hk3)))))))
 clear h h' hp hq hb1 hk1 hk2 hk3 hsub
 go_enter Tryz.func99,Tryz.ntmps99
 go_wp2
 generalize ((w.alloc (.cells #[.int .i64 n1,.int .i64 d1,.pointer a1] 67)).alloc (.cells #[.int .i64 n2,.int .i64 d2,.pointer a2] 67)).alloc (.cells #[.int .i64 0,.int .i64 0,.pointer none] 67)=w1 at *
 have hA:=H.out.2.2.2.2.2.1
 have hC:=H.out.2.2.2.2.2.2.1
 have hR:=H.out.2.2.2.2.2.2.2
 have t1:∀ w',Base [w.heap.size+1+1] w1 w'→Calls Tryz.prog 146 #[.agg #[.int .i64 n2,.int .i64 d2,.pointer a2]] w' (TyPost w' (spNb (-q))):=fun w' hB =>
  GivesNb.ty (negated_nb _ _ _ (Nb.ext (K:=Kn) (fun _=>rfl) (fun _=>rfl) H.out.2.1 (hB.extT hR (by simp [hotObj,Kn]))))
 have t2:∀ w' x,Base [w.heap.size+1+1] w1 w'→Nb w' x (-q)→Calls Tryz.prog 85 #[.agg #[.int .i64 n1,.int .i64 d1,.pointer a1],x] w' (TyPost w' (spNb (p + -q))):=fun w' x hB hx =>
  GivesNb.ty (plus_nb _ _ _ _ _ (Nb.ext (K:=Kn) (fun _=>rfl) (fun _=>rfl) H.out.1 (hB.extT hR (by simp [hotObj,Kn]))) hx H.out.2.2.1 H.out.2.2.2.1)
 have T:=Lib.hid (And.intro t1 t2)
 clear t1 t2
 refine wp_region_ty Kn [w.heap.size+1+1] (by kernel_rfl) (by kernel_rfl) ?_
 repeat (first|(apply ty_is (hg:=rfl);case h=>(intro A w' hB hk;simp [known,specOf,Kd.spec,Sp.is,isVar,Oper.looksAt,Op.operands,Call.operands,Act.eval] at hk;have c_hA:=cells_of_blk (hB.blk hA (by first|(simp;done)|(simp;omega)));have c_hC:=cells_of_blk (hB.blk hC (by first|(simp;done)|(simp;omega)));first|(simp [go_sem,hk,c_hA,c_hC];done)|(simp [go_sem,hk,c_hA,c_hC];rfl)|(simp [go_sem,c_hA,c_hC];rfl)))|(refine ty_move _ ?_ (by first|exact .inl rfl|exact .inr rfl) (by rfl) (by simp [specOf,Kd.spec];rfl) ?_ rfl ?_;(first|exact Sp.is_stable _ _|exact spNt_stable (fun _=>rfl) _|exact spTwo_stable (fun _=>rfl) _ _|exact spFr_stable (fun _=>rfl) _|exact spSum_stable (fun _=>rfl) _|exact spSgn_stable _ _|exact spNb_stable (fun _=>rfl) (fun _=>rfl) _|exact spVc_stable (fun _=>rfl) (fun _=>rfl) _)))
 refine ty_call (spNb (-q)) (spNb_stable (fun _=>rfl) (fun _=>rfl) _) rfl (fun A w' hB hk=>?_) ?_;(simp [known,specOf,Kd.spec,Sp.is,isVar,Oper.looksAt,Op.operands,Call.operands,Act.eval] at hk;have c_hA:=cells_of_blk (hB.blk hA (by first|(simp;done)|(simp;omega)));simp [go_sem,hk,c_hA];refine tyUpon_enter ?_;exact T.out.1 _ hB)
 refine ty_call (spNb (p + -q)) (spNb_stable (fun _=>rfl) (fun _=>rfl) _) rfl (fun A w' hB hk=>?_) ?_;(simp [known,specOf,Kd.spec,Sp.is,isVar,Oper.looksAt,Op.operands,Call.operands,Act.eval] at hk;have c_hA:=cells_of_blk (hB.blk hA (by first|(simp;done)|(simp;omega)));simp [go_sem,hk,c_hA];refine tyUpon_enter ?_;exact T.out.2 _ _ hB hk.2)
 refine ty_old (w.heap.size+1+1) (_) (coNb (p + -q)) (coNb_stable (fun _=>rfl) (fun _=>rfl) _) rfl rfl (by simp) (by assumption) (by simp [hotObj,Ku,Kn]) (fun A w' hB hk h0=>?_) ?_;(simp [known,specOf,Kd.spec,Sp.is,isVar,Oper.looksAt,Op.operands,Call.operands,Act.eval] at hk;have c_hA:=cells_of_blk (hB.blk hA (by first|(simp;done)|(simp;omega)));have c0:=cells_of_blk h0;have f0:=frozen_of_blk h0;obtain ⟨k1,k2⟩:=hk;obtain ⟨y1,y2,y3,e1⟩:=(show Nb _ _ _ from k2).form;rw [e1] at k2;simp [go_sem,k1,e1,c0,f0];exact ⟨_,turned3 h0 _ _ _,_,_,_,rfl,k2⟩)
 refine ⟨by first|rfl|decide,fun f w2 hB hF hAp=>?_⟩;simp [Final1,Sp.is,isVar] at hF;simp only [frameOf]
 obtain ⟨o,⟨y1,y2,y3,rfl,k3⟩,ho⟩:=hF.1
 obtain ⟨⟨r0,r1,r2⟩,_⟩:=blk3 ho
 have K:=Lib.hid (And.intro k3 hB)
 clear k3 hB ho hA hC hR hAp hF
 go_wp2
 refine bodyPost_ret (v := .agg #[.int .i64 y1,.int .i64 y2,.pointer y3]) (by simp [results,Tryz.results99,go_sem,r0,r1,r2,Act.put]) rfl ⟨_,rfl,K.out.1,?_⟩
 exact Base.belowT K.out.2 H.out.2.2.2.2.1 (by omega)
theorem inv_form {q:Rat} (h0:q≠0):(q⁻¹).num=sg (decide (q.num<0)) q.den∧(q⁻¹).den=q.num.natAbs:=by
 have h:=Parts.inv (Parts.self q) h0
 exact ⟨h.num_eq,h.2.2.symm⟩
theorem sm_inv {q:Rat} (h:Sm q) (h0:q≠0):Sm q⁻¹:=by
 obtain ⟨e1,e2⟩:=inv_form h0
 refine ⟨?_,by rw [e2];exact h.1⟩
 rw [e1]
 cases decide (q.num<0)
 ·simpa [sg] using h.2
 ·simpa [sg] using h.2
set_option maxRecDepth 100000 in
set_option maxHeartbeats 8000000 in
theorem over_nb (v v' : Value) (p q:Rat) (w:World) (h:Nb w v p) (h' : Nb w v' q) (hp:Lf 38 p) (hq:Lf 38 q) (h0:q≠0):Calls Tryz.prog 70 #[v,v'] w (GivesNb w (p/q)):=by
 rw [Rat.div_def]
 obtain ⟨n1,d1,a1,rfl⟩:=h.form
 have hx:∀ w' x,Nb w' (.agg #[.int .i64 n1,.int .i64 d1,.pointer a1]) p→Nb w' x q⁻¹→Calls Tryz.prog 98 #[.agg #[.int .i64 n1,.int .i64 d1,.pointer a1],x] w' (TyPost w' (spNb (p*q⁻¹))):=fun w' x y1 y2 =>
  GivesNb.ty (times_nb _ _ _ _ _ y1 y2 hp hq.inv)
 obtain ⟨f1,f2⟩:=inv_form h0
 have hsi:=fun hs=>sm_inv (q:=q) hs h0
 have hin:∀ v w',Fr w' v q→Calls Tryz.prog 141 #[v] w' (TyPost w' (spFr q⁻¹)):=fun v w' hv=>GivesFr.ty (inverse_any v q w' hv h0)
 have hz:q.num≠0:=fun e=>h0 (Rat.num_eq_zero.1 e)
 generalize q⁻¹=r at *
 rcases h' with ⟨hs,rfl⟩|⟨hs,g,s1,s2,rfl,hk,g1,g2⟩
 ·have mn:=sm_num hs
  have md:=sm_den hs
  have hsr:=hsi hs
  unfold smV
  clear hsi hin hq h0
  obtain ⟨m,hm⟩:∃ m,m=q.num:=⟨_,rfl⟩
  obtain ⟨k,hk⟩:∃ k:Int,k=(q.den:Int):=⟨_,rfl⟩
  rw [← hm] at mn hz f1 f2 ⊢
  rw [← hk] at md ⊢
  have hf1:r.num=if m<0 then -k else k:=by
   rw [f1,hk]
   by_cases h:m<0 <;> simp [sg,h]
  obtain ⟨mn1,mn2⟩:=mn
  obtain ⟨md1,md2⟩:=md
  clear hm hk hs f1
  obtain ⟨hk1,hk2,hk3,hb1⟩:=alloc3 w (.cells #[.int .i64 n1,.int .i64 d1,.pointer a1] 67) (.cells #[.int .i64 m,.int .i64 (k-1),.pointer none] 67) (.cells #[.int .i64 0,.int .i64 0,.pointer none] 67)
  have t1:∀ w',Calls Tryz.prog 142 #[.agg #[.int .i64 m,.int .i64 (k-1),.pointer none]] w' (TyPost w' (Sp.is (.int .i64 k))):=fun w'=>by
   have:=Gives.ty (den_any m (k-1) none w' (by omega) (by omega))
   rwa [Int.sub_add_cancel] at this
  have k1:IntKind.i64.wrap (-k) = -k:=by rw [IntKind.wrap_i64];omega
  have k2:IntKind.i64.wrap (-m) = -m:=by rw [IntKind.wrap_i64];omega
  by_cases hneg:m<0
  ·rw [if_pos hneg] at hf1
   have t2:∀ w',Calls Tryz.prog 137 #[.int .i64 (-k),.int .i64 (-m)] w' (TyPost w' (spNb r)):=fun w' =>
    (small_raw (-k) (-m) w' (by omega) (by omega)).mono fun _ _ ⟨y1,y2⟩=>⟨_,y1,y2,.inl ⟨hsr,by
     have:((r.den:Nat):Int) = -m:=by rw [f2];omega
     rw [smV,hf1,this]⟩⟩
   have H:=Lib.hid (And.intro (h.below hb1) (And.intro hb1 (And.intro hk1 (And.intro hk2 hk3))))
   have T:=Lib.hid (And.intro t1 (And.intro t2 hx))
   clear t1 t2 hx h hb1 hk1 hk2 hk3 hf1 f2 hsr mn1 mn2 md1 md2 hz hp
   go_enter Tryz.func70,Tryz.ntmps70
   go_wp2
   generalize ((w.alloc (.cells #[.int .i64 n1,.int .i64 d1,.pointer a1] 67)).alloc (.cells #[.int .i64 m,.int .i64 (k-1),.pointer none] 67)).alloc (.cells #[.int .i64 0,.int .i64 0,.pointer none] 67)=w1 at *
   have hA:=H.out.2.2.1
   have hC:=H.out.2.2.2.1
   have hR:=H.out.2.2.2.2
   refine wp_region_ty Kn [w.heap.size+1+1] (by kernel_rfl) (by kernel_rfl) ?_
   repeat (first|(apply ty_is (hg:=rfl);case h=>(intro A w' hB hk;simp [known,specOf,Kd.spec,Sp.is,isVar,Oper.looksAt,Op.operands,Call.operands,Act.eval] at hk;have c_hA:=cells_of_blk (hB.blk hA (by first|(simp;done)|(simp;omega)));have c_hC:=cells_of_blk (hB.blk hC (by first|(simp;done)|(simp;omega)));first|(simp [go_sem,hk,c_hA,c_hC];done)|(simp [go_sem,hk,c_hA,c_hC];rfl)|(simp [go_sem,c_hA,c_hC];rfl)))|(refine ty_move _ ?_ (by first|exact .inl rfl|exact .inr rfl) (by rfl) (by simp [specOf,Kd.spec];rfl) ?_ rfl ?_;(first|exact Sp.is_stable _ _|exact spNt_stable (fun _=>rfl) _|exact spTwo_stable (fun _=>rfl) _ _|exact spFr_stable (fun _=>rfl) _|exact spSum_stable (fun _=>rfl) _|exact spSgn_stable _ _|exact spNb_stable (fun _=>rfl) (fun _=>rfl) _|exact spVc_stable (fun _=>rfl) (fun _=>rfl) _)))
   refine ty_call (Sp.is (.int .i64 k)) (Sp.is_stable _ _) rfl (fun A w' hB hk=>?_) ?_;(simp [known,specOf,Kd.spec,Sp.is,isVar,Oper.looksAt,Op.operands,Call.operands,Act.eval] at hk;have c_hA:=cells_of_blk (hB.blk hA (by first|(simp;done)|(simp;omega)));simp [go_sem,hk,c_hA];refine tyUpon_enter ?_;exact T.out.1 _)
   repeat (first|(apply ty_is (hg:=rfl);case h=>(intro A w' hB hk;simp [known,specOf,Kd.spec,Sp.is,isVar,Oper.looksAt,Op.operands,Call.operands,Act.eval] at hk;have c_hA:=cells_of_blk (hB.blk hA (by first|(simp;done)|(simp;omega)));have c_hC:=cells_of_blk (hB.blk hC (by first|(simp;done)|(simp;omega)));first|(simp [go_sem,hk,c_hA,c_hC,k1,k2];done)|(simp [go_sem,hk,c_hA,c_hC,k1,k2];rfl)|(simp [go_sem,c_hA,c_hC,k1,k2];rfl)))|(refine ty_move _ ?_ (by first|exact .inl rfl|exact .inr rfl) (by rfl) (by simp [specOf,Kd.spec];rfl) ?_ rfl ?_;(first|exact Sp.is_stable _ _|exact spNt_stable (fun _=>rfl) _|exact spTwo_stable (fun _=>rfl) _ _|exact spFr_stable (fun _=>rfl) _|exact spSum_stable (fun _=>rfl) _|exact spSgn_stable _ _|exact spNb_stable (fun _=>rfl) (fun _=>rfl) _|exact spVc_stable (fun _=>rfl) (fun _=>rfl) _)))
   refine ty_call (spNb r) (spNb_stable (fun _=>rfl) (fun _=>rfl) _) rfl (fun A w' hB hk=>?_) ?_;(simp [known,specOf,Kd.spec,Sp.is,isVar,Oper.looksAt,Op.operands,Call.operands,Act.eval] at hk;have c_hA:=cells_of_blk (hB.blk hA (by first|(simp;done)|(simp;omega)));simp [go_sem,hk,c_hA];refine tyUpon_enter ?_;exact T.out.2.1 _)
   refine ty_call (spNb (p*r)) (spNb_stable (fun _=>rfl) (fun _=>rfl) _) rfl (fun A w' hB hk=>?_) ?_;(simp [known,specOf,Kd.spec,Sp.is,isVar,Oper.looksAt,Op.operands,Call.operands,Act.eval] at hk;have c_hA:=cells_of_blk (hB.blk hA (by first|(simp;done)|(simp;omega)));simp [go_sem,hk,c_hA];refine tyUpon_enter ?_;exact T.out.2.2 _ _ (Nb.ext (K:=Kn) (fun _=>rfl) (fun _=>rfl) H.out.1 (hB.extT hR (by simp [hotObj,Kn]))) hk.2)
   refine ty_old (w.heap.size+1+1) (_) (coNb (p*r)) (coNb_stable (fun _=>rfl) (fun _=>rfl) _) rfl rfl (by simp) (by assumption) (by simp [hotObj,Ku,Kn]) (fun A w' hB hk h0=>?_) ?_;(simp [known,specOf,Kd.spec,Sp.is,isVar,Oper.looksAt,Op.operands,Call.operands,Act.eval] at hk;have c_hA:=cells_of_blk (hB.blk hA (by first|(simp;done)|(simp;omega)));have c0:=cells_of_blk h0;have f0:=frozen_of_blk h0;obtain ⟨k1,k2⟩:=hk;obtain ⟨y1,y2,y3,e1⟩:=(show Nb _ _ _ from k2).form;rw [e1] at k2;simp [go_sem,k1,e1,c0,f0];exact ⟨_,turned3 h0 _ _ _,_,_,_,rfl,k2⟩)
   refine ⟨by first|rfl|decide,fun f w2 hB hF hAp=>?_⟩;simp [Final1,Sp.is,isVar] at hF;simp only [frameOf]
   obtain ⟨o,⟨y1,y2,y3,rfl,k3⟩,ho⟩:=hF.1
   obtain ⟨⟨r0,r1,r2⟩,_⟩:=blk3 ho
   have K:=Lib.hid (And.intro k3 hB)
   clear k3 hB ho hA hC hR hAp hF
   go_wp2
   refine bodyPost_ret (v := .agg #[.int .i64 y1,.int .i64 y2,.pointer y3]) (by simp [results,Tryz.results70,go_sem,r0,r1,r2,Act.put]) rfl ⟨_,rfl,K.out.1,?_⟩
   exact Base.belowT K.out.2 H.out.2.1 (by omega)
  ·rw [if_neg hneg] at hf1
   have t2:∀ w',Calls Tryz.prog 137 #[.int .i64 k,.int .i64 m] w' (TyPost w' (spNb r)):=fun w' =>
    (small_raw k m w' (by omega) (by omega)).mono fun _ _ ⟨y1,y2⟩=>⟨_,y1,y2,.inl ⟨hsr,by
     have:((r.den:Nat):Int)=m:=by rw [f2];omega
     rw [smV,hf1,this]⟩⟩
   have H:=Lib.hid (And.intro (h.below hb1) (And.intro hb1 (And.intro hk1 (And.intro hk2 hk3))))
   have T:=Lib.hid (And.intro t1 (And.intro t2 hx))
   clear t1 t2 hx h hb1 hk1 hk2 hk3 hf1 f2 hsr mn1 mn2 md1 md2 hz hp
   go_enter Tryz.func70,Tryz.ntmps70
   go_wp2
   generalize ((w.alloc (.cells #[.int .i64 n1,.int .i64 d1,.pointer a1] 67)).alloc (.cells #[.int .i64 m,.int .i64 (k-1),.pointer none] 67)).alloc (.cells #[.int .i64 0,.int .i64 0,.pointer none] 67)=w1 at *
   have hA:=H.out.2.2.1
   have hC:=H.out.2.2.2.1
   have hR:=H.out.2.2.2.2
   refine wp_region_ty Kn [w.heap.size+1+1] (by kernel_rfl) (by kernel_rfl) ?_
   repeat (first|(apply ty_is (hg:=rfl);case h=>(intro A w' hB hk;simp [known,specOf,Kd.spec,Sp.is,isVar,Oper.looksAt,Op.operands,Call.operands,Act.eval] at hk;have c_hA:=cells_of_blk (hB.blk hA (by first|(simp;done)|(simp;omega)));have c_hC:=cells_of_blk (hB.blk hC (by first|(simp;done)|(simp;omega)));first|(simp [go_sem,hk,c_hA,c_hC];done)|(simp [go_sem,hk,c_hA,c_hC];rfl)|(simp [go_sem,c_hA,c_hC];rfl)))|(refine ty_move _ ?_ (by first|exact .inl rfl|exact .inr rfl) (by rfl) (by simp [specOf,Kd.spec];rfl) ?_ rfl ?_;(first|exact Sp.is_stable _ _|exact spNt_stable (fun _=>rfl) _|exact spTwo_stable (fun _=>rfl) _ _|exact spFr_stable (fun _=>rfl) _|exact spSum_stable (fun _=>rfl) _|exact spSgn_stable _ _|exact spNb_stable (fun _=>rfl) (fun _=>rfl) _|exact spVc_stable (fun _=>rfl) (fun _=>rfl) _)))
   refine ty_call (Sp.is (.int .i64 k)) (Sp.is_stable _ _) rfl (fun A w' hB hk=>?_) ?_;(simp [known,specOf,Kd.spec,Sp.is,isVar,Oper.looksAt,Op.operands,Call.operands,Act.eval] at hk;have c_hA:=cells_of_blk (hB.blk hA (by first|(simp;done)|(simp;omega)));simp [go_sem,hk,c_hA];refine tyUpon_enter ?_;exact T.out.1 _)
   repeat (first|(apply ty_is (hg:=rfl);case h=>(intro A w' hB hk;simp [known,specOf,Kd.spec,Sp.is,isVar,Oper.looksAt,Op.operands,Call.operands,Act.eval] at hk;have c_hA:=cells_of_blk (hB.blk hA (by first|(simp;done)|(simp;omega)));have c_hC:=cells_of_blk (hB.blk hC (by first|(simp;done)|(simp;omega)));first|(simp [go_sem,hk,c_hA,c_hC,k1,k2];done)|(simp [go_sem,hk,c_hA,c_hC,k1,k2];rfl)|(simp [go_sem,c_hA,c_hC,k1,k2];rfl)))|(refine ty_move _ ?_ (by first|exact .inl rfl|exact .inr rfl) (by rfl) (by simp [specOf,Kd.spec];rfl) ?_ rfl ?_;(first|exact Sp.is_stable _ _|exact spNt_stable (fun _=>rfl) _|exact spTwo_stable (fun _=>rfl) _ _|exact spFr_stable (fun _=>rfl) _|exact spSum_stable (fun _=>rfl) _|exact spSgn_stable _ _|exact spNb_stable (fun _=>rfl) (fun _=>rfl) _|exact spVc_stable (fun _=>rfl) (fun _=>rfl) _)))
   refine ty_call (spNb r) (spNb_stable (fun _=>rfl) (fun _=>rfl) _) rfl (fun A w' hB hk=>?_) ?_;(simp [known,specOf,Kd.spec,Sp.is,isVar,Oper.looksAt,Op.operands,Call.operands,Act.eval] at hk;have c_hA:=cells_of_blk (hB.blk hA (by first|(simp;done)|(simp;omega)));simp [go_sem,hk,c_hA];refine tyUpon_enter ?_;exact T.out.2.1 _)
   refine ty_call (spNb (p*r)) (spNb_stable (fun _=>rfl) (fun _=>rfl) _) rfl (fun A w' hB hk=>?_) ?_;(simp [known,specOf,Kd.spec,Sp.is,isVar,Oper.looksAt,Op.operands,Call.operands,Act.eval] at hk;have c_hA:=cells_of_blk (hB.blk hA (by first|(simp;done)|(simp;omega)));simp [go_sem,hk,c_hA];refine tyUpon_enter ?_;exact T.out.2.2 _ _ (Nb.ext (K:=Kn) (fun _=>rfl) (fun _=>rfl) H.out.1 (hB.extT hR (by simp [hotObj,Kn]))) hk.2)
   refine ty_old (w.heap.size+1+1) (_) (coNb (p*r)) (coNb_stable (fun _=>rfl) (fun _=>rfl) _) rfl rfl (by simp) (by assumption) (by simp [hotObj,Ku,Kn]) (fun A w' hB hk h0=>?_) ?_;(simp [known,specOf,Kd.spec,Sp.is,isVar,Oper.looksAt,Op.operands,Call.operands,Act.eval] at hk;have c_hA:=cells_of_blk (hB.blk hA (by first|(simp;done)|(simp;omega)));have c0:=cells_of_blk h0;have f0:=frozen_of_blk h0;obtain ⟨k1,k2⟩:=hk;obtain ⟨y1,y2,y3,e1⟩:=(show Nb _ _ _ from k2).form;rw [e1] at k2;simp [go_sem,k1,e1,c0,f0];exact ⟨_,turned3 h0 _ _ _,_,_,_,rfl,k2⟩)
   refine ⟨by first|rfl|decide,fun f w2 hB hF hAp=>?_⟩;simp [Final1,Sp.is,isVar] at hF;simp only [frameOf]
   obtain ⟨o,⟨y1,y2,y3,rfl,k3⟩,ho⟩:=hF.1
   obtain ⟨⟨r0,r1,r2⟩,_⟩:=blk3 ho
   have K:=Lib.hid (And.intro k3 hB)
   clear k3 hB ho hA hC hR hAp hF
   go_wp2
   refine bodyPost_ret (v := .agg #[.int .i64 y1,.int .i64 y2,.pointer y3]) (by simp [results,Tryz.results70,go_sem,r0,r1,r2,Act.put]) rfl ⟨_,rfl,K.out.1,?_⟩
   exact Base.belowT K.out.2 H.out.2.1 (by omega)
 ·clear hz f1 f2 hsi h0 hq
  obtain ⟨A1,m1,c1,rfl⟩:=g1.form
  obtain ⟨A2,m2,c2,rfl⟩:=g2.form
  obtain ⟨neg,hneg⟩:∃ neg,decide (q.num<0)=neg:=⟨_,rfl⟩
  rw [hneg] at hk
  obtain ⟨hk1,hk2,hk3,hb1⟩:=alloc3 w (.cells #[.int .i64 n1,.int .i64 d1,.pointer a1] 67) (.cells #[.int .i64 0,.int .i64 0,.pointer (some ⟨g,0,none⟩)] 67) (.cells #[.int .i64 0,.int .i64 0,.pointer none] 67)
  have hfr:Fr w (.agg #[.bool neg,.slice A1 m1 c1,.slice A2 m2 c2]) q:=⟨_,_,by rw [hneg],g1,g2⟩
  have hG1:=keep_blk hb1 hk
  have H:=Lib.hid (And.intro (h.below hb1) (And.intro hb1 (And.intro hk1 (And.intro hk2 (And.intro hk3 (And.intro hG1 (hfr.below hb1)))))))
  have t1:∀ w' x,Fr w' x r→Calls Tryz.prog 65 #[x] w' (TyPost w' (spNb r)):=fun w' x hx=>GivesNb.ty (number_any x _ w' hx)
  have T:=Lib.hid (And.intro hin (And.intro t1 hx))
  have hlt:=lt_of_block hk
  clear t1 hin hx hk h hb1 hk1 hk2 hk3 hG1 hfr g1 g2 hneg hp hs
  go_enter Tryz.func70,Tryz.ntmps70
  go_wp2
  generalize ((w.alloc (.cells #[.int .i64 n1,.int .i64 d1,.pointer a1] 67)).alloc (.cells #[.int .i64 0,.int .i64 0,.pointer (some ⟨g,0,none⟩)] 67)).alloc (.cells #[.int .i64 0,.int .i64 0,.pointer none] 67)=w1 at *
  have hA:=H.out.2.2.1
  have hC:=H.out.2.2.2.1
  have hR:=H.out.2.2.2.2.1
  have hG:=H.out.2.2.2.2.2.1
  refine wp_region_ty Kn [w.heap.size+1+1] (by kernel_rfl) (by kernel_rfl) ?_
  repeat (first|(apply ty_is (hg:=rfl);case h=>(intro A w' hB hk;simp [known,specOf,Kd.spec,Sp.is,isVar,Oper.looksAt,Op.operands,Call.operands,Act.eval] at hk;have c_hA:=cells_of_blk (hB.blk hA (by first|(simp;done)|(simp;omega)));have c_hC:=cells_of_blk (hB.blk hC (by first|(simp;done)|(simp;omega)));have c_hG:=cells_of_blk (hB.blk hG (by first|(simp;done)|(simp;omega)));first|(simp [go_sem,hk,c_hA,c_hC,c_hG];done)|(simp [go_sem,hk,c_hA,c_hC,c_hG];rfl)|(simp [go_sem,c_hA,c_hC,c_hG];rfl)))|(refine ty_move _ ?_ (by first|exact .inl rfl|exact .inr rfl) (by rfl) (by simp [specOf,Kd.spec];rfl) ?_ rfl ?_;(first|exact Sp.is_stable _ _|exact spNt_stable (fun _=>rfl) _|exact spTwo_stable (fun _=>rfl) _ _|exact spFr_stable (fun _=>rfl) _|exact spSum_stable (fun _=>rfl) _|exact spSgn_stable _ _|exact spNb_stable (fun _=>rfl) (fun _=>rfl) _|exact spVc_stable (fun _=>rfl) (fun _=>rfl) _)))
  refine ty_call (spFr r) (spFr_stable (fun _=>rfl) _) rfl (fun A w' hB hk=>?_) ?_;(simp [known,specOf,Kd.spec,Sp.is,isVar,Oper.looksAt,Op.operands,Call.operands,Act.eval] at hk;have c_hA:=cells_of_blk (hB.blk hA (by first|(simp;done)|(simp;omega)));simp [go_sem,hk,c_hA];refine tyUpon_enter ?_;exact T.out.1 _ _ (Fr.ext (K:=Kn) (fun _=>rfl) H.out.2.2.2.2.2.2 (hB.extT hR (by simp [hotObj,Kn]))))
  refine ty_call (spNb r) (spNb_stable (fun _=>rfl) (fun _=>rfl) _) rfl (fun A w' hB hk=>?_) ?_;(simp [known,specOf,Kd.spec,Sp.is,isVar,Oper.looksAt,Op.operands,Call.operands,Act.eval] at hk;have c_hA:=cells_of_blk (hB.blk hA (by first|(simp;done)|(simp;omega)));simp [go_sem,hk,c_hA];refine tyUpon_enter ?_;exact T.out.2.1 _ _ hk)
  refine ty_call (spNb (p*r)) (spNb_stable (fun _=>rfl) (fun _=>rfl) _) rfl (fun A w' hB hk=>?_) ?_;(simp [known,specOf,Kd.spec,Sp.is,isVar,Oper.looksAt,Op.operands,Call.operands,Act.eval] at hk;have c_hA:=cells_of_blk (hB.blk hA (by first|(simp;done)|(simp;omega)));simp [go_sem,hk,c_hA];refine tyUpon_enter ?_;exact T.out.2.2 _ _ (Nb.ext (K:=Kn) (fun _=>rfl) (fun _=>rfl) H.out.1 (hB.extT hR (by simp [hotObj,Kn]))) hk.2)
  refine ty_old (w.heap.size+1+1) (_) (coNb (p*r)) (coNb_stable (fun _=>rfl) (fun _=>rfl) _) rfl rfl (by simp) (by assumption) (by simp [hotObj,Ku,Kn]) (fun A w' hB hk h0=>?_) ?_;(simp [known,specOf,Kd.spec,Sp.is,isVar,Oper.looksAt,Op.operands,Call.operands,Act.eval] at hk;have c_hA:=cells_of_blk (hB.blk hA (by first|(simp;done)|(simp;omega)));have c0:=cells_of_blk h0;have f0:=frozen_of_blk h0;obtain ⟨k1,k2⟩:=hk;obtain ⟨y1,y2,y3,e1⟩:=(show Nb _ _ _ from k2).form;rw [e1] at k2;simp [go_sem,k1,e1,c0,f0];exact ⟨_,turned3 h0 _ _ _,_,_,_,rfl,k2⟩)
  refine ⟨by first|rfl|decide,fun f w2 hB hF hAp=>?_⟩;simp [Final1,Sp.is,isVar] at hF;simp only [frameOf]
  obtain ⟨o,⟨y1,y2,y3,rfl,k3⟩,ho⟩:=hF.1
  obtain ⟨⟨r0,r1,r2⟩,_⟩:=blk3 ho
  have K:=Lib.hid (And.intro k3 hB)
  clear k3 hB ho hA hC hR hAp hF
  go_wp2
  refine bodyPost_ret (v := .agg #[.int .i64 y1,.int .i64 y2,.pointer y3]) (by simp [results,Tryz.results70,go_sem,r0,r1,r2,Act.put]) rfl ⟨_,rfl,K.out.1,?_⟩
  exact Base.belowT K.out.2 H.out.2.1 (by omega)
set_option maxRecDepth 100000 in
set_option maxHeartbeats 4000000 in
theorem integer_any (z:Int) (w:World) (h1:-9223372036854775808≤z) (h2:z≤9223372036854775807):Calls Tryz.prog 81 #[.int .i64 z] w (GivesNb w (z:Rat)):=by
 have hb1:Below w.heap.size w (w.alloc (.cells #[.int .i64 0,.int .i64 0,.pointer none] 67)):=(Below.refl _ _).alloc (Nat.le_refl _) _
 by_cases hz:z = -9223372036854775808
 ·subst hz
  have n1:∀ w',Calls Tryz.prog 133 #[.int .u64 9223372036854775808] w' (GivesNt w' 9223372036854775808):=fun w'=>naturalOf_any 9223372036854775808 (by rw [W64_eq];decide) w'
  have n2:∀ w',Calls Tryz.prog 133 #[.int .u64 1] w' (GivesNt w' 1):=fun w'=>naturalOf_any 1 (by rw [W64_eq];decide) w'
  obtain ⟨q,hq⟩:∃ q:Rat,q=((-9223372036854775808:Int):Rat):=⟨_,rfl⟩
  have hfr:∀ w' s1 s2,Nt w' s1 9223372036854775808→Nt w' s2 1→Fr w' (.agg #[.bool true,s1,s2]) q:=fun w' s1 s2 k1 k2=>by
   subst hq
   exact ⟨s1,s2,by rw [Rat.num_intCast];rfl,by rw [Rat.num_intCast];exact k1,by rw [Rat.den_intCast];exact k2⟩
  rw [← hq]
  clear hq
  have hk0:(w.alloc (.cells #[.int .i64 0,.int .i64 0,.pointer none] 67)).heap[w.heap.size]?=some (.cells #[.int .i64 0,.int .i64 0,.pointer none] 67):=heap_alloc_new w _
  have H:=Lib.hid (And.intro n1 (And.intro n2 (And.intro hfr (And.intro hb1 hk0))))
  clear n1 n2 hfr hb1 hk0
  go_enter Tryz.func81,Tryz.ntmps81
  go_wp2_with fail
  refine (H.out.1 _).mono ?_
  rintro e w2 ⟨v2,rfl,q2,b2⟩
  obtain ⟨A1,m1,c1,rfl⟩:=q2.form
  have Q2:=Lib.hid (And.intro q2 b2)
  clear q2 b2
  go_wp2_with fail
  refine (H.out.2.1 _).mono ?_
  rintro e w3 ⟨v3,rfl,q3,b3⟩
  obtain ⟨A2,m2,c2,rfl⟩:=q3.form
  have Q3:=Lib.hid (And.intro (H.out.2.2.1 _ _ _ (Q2.out.1.below b3) q3) (Below.step_trans Q2.out.2 b3))
  clear q3 b3 Q2
  go_wp2_with fail
  refine (number_any _ _ _ Q3.out.1).mono ?_
  rintro e w4 ⟨v4,rfl,q4,b4⟩
  obtain ⟨n,d,p,rfl⟩:=q4.form
  have hb4:=Below.step_trans Q3.out.2 b4
  have hk:=keep_blk hb4 H.out.2.2.2.2
  obtain ⟨⟨h0,h1,h2⟩,f0,f1,f2⟩:=blk3 hk
  have Q4:=Lib.hid (And.intro q4 (And.intro hb4 hk))
  clear q4 b4 hk hb4 Q3
  go_wp2
  refine bodyPost_ret (v := .agg #[.int .i64 n,.int .i64 d,.pointer p]) (by simp [results,Tryz.results81,go_sem,h0,h1,h2]) rfl ⟨_,rfl,?_,?_⟩
  ·exact Nb.ext (K:=Kn) (fun _=>rfl) (fun _=>rfl) Q4.out.1 (Ext.only (only3 _ _ _ _ _) Q4.out.2.2 (by simp [hotObj,Kn]))
  ·repeat (first|exact (Below.step_trans H.out.2.2.2.1 Q4.out.2.1)|(refine Below.setCell ?_ (by first|omega|(simp;done)|(simp;omega)) _)|(refine Below.alloc ?_ (by first|omega|(simp;done)|(simp;omega)) _)|(refine Below.drew ?_)|exact Below.refl _ _)
 ·have hnb:∀ w',Nb w' (.agg #[.int .i64 z,.int .i64 0,.pointer none]) (z:Rat):=fun w' => .inl ⟨⟨by rw [Rat.num_intCast,M63_eq];omega,by rw [Rat.den_intCast,M63_eq];omega⟩,by rw [smV,Rat.num_intCast,Rat.den_intCast];rfl⟩
  have H:=Lib.hid hnb
  clear hnb hb1
  go_enter Tryz.func81,Tryz.ntmps81
  go_wp2
  refine bodyPost_ret (v := .agg #[.int .i64 z,.int .i64 0,.pointer none]) (by simp [results,Tryz.results81,go_sem]) rfl ⟨_,rfl,H.out _,?_⟩
  repeat (first|exact Below.refl _ _|(refine Below.setCell ?_ (by first|omega|(simp;done)|(simp;omega)) _)|(refine Below.alloc ?_ (by first|omega|(simp;done)|(simp;omega)) _)|(refine Below.drew ?_)|exact Below.refl _ _)
theorem blk9 {w:World} {g:Nat} {a b c d e f h i j:Value} {t:TypeId} (hk:w.heap[g]?=some (.cells #[a,b,c,d,e,f,h,i,j] t (0,0))) :
 w.cell? ⟨g,0,none⟩=some a∧w.cell? ⟨g,1,none⟩=some b∧w.cell? ⟨g,2,none⟩=some c∧w.cell? ⟨g,3,none⟩=some d∧w.cell? ⟨g,4,none⟩=some e∧w.cell? ⟨g,5,none⟩=some f∧w.cell? ⟨g,6,none⟩=some h∧w.cell? ⟨g,7,none⟩=some i∧w.cell? ⟨g,8,none⟩=some j:=by
 have hc:=cells_of_blk hk
 simp [hc]
end Go.Proofs.YtbhcckhbbclemaaGreatDoor
