/- Parts of the proof, joined. -/
import Derived.Test.YtbhcckhbbclemaaGreatDoorJ18
set_option linter.unusedSimpArgs false
set_option linter.unusedVariables false
namespace Go.Proofs.YtbhcckhbbclemaaGreatDoor
open Go.RowKit Pl
theorem plusSmall_any (p q:Rat) (w:World) (hp:Sm p) (hq:Sm q):Calls Tryz.prog 149 #[smV p.num p.den,smV q.num q.den] w (GivesNumOk w (p+q)):=by
 by_cases hd:p.den=q.den
 ·exact plusSmall_same p q w hp hq hd
 ·exact plusSmall_apart p q w hp hq hd
set_option maxRecDepth 100000 in
set_option maxHeartbeats 8000000 in
theorem plus_nb (v v' : Value) (p q:Rat) (w:World) (h:Nb w v p) (h' : Nb w v' q) (hp:Lf 36 p) (hq:Lf 36 q):Calls Tryz.prog 85 #[v,v'] w (GivesNb w (p+q)):=by
 obtain ⟨n1,d1,a1,rfl⟩:=h.form
 obtain ⟨n2,d2,a2,rfl⟩:=h'.form
 obtain ⟨hk1,hk2,hk3,hb1⟩:=alloc3 w (.cells #[.int .i64 n1,.int .i64 d1,.pointer a1] 67) (.cells #[.int .i64 n2,.int .i64 d2,.pointer a2] 67) (.cells #[.int .i64 0,.int .i64 0,.pointer none] 67)
 have H:=Lib.hid (And.intro (h.below hb1) (And.intro (h'.below hb1) (And.intro hp (And.intro hq (And.intro hb1 (And.intro hk1 (And.intro hk2 hk3)))))))
 by_cases hs:Sm p∧Sm q
 ·have e1:Value.agg #[.int .i64 n1,.int .i64 d1,.pointer a1]=smV p.num p.den:=by
   rcases h with ⟨_,e⟩|⟨hn,_⟩
   ·exact e
   ·exact absurd hs.1 hn
  have e2:Value.agg #[.int .i64 n2,.int .i64 d2,.pointer a2]=smV q.num q.den:=by
   rcases h' with ⟨_,e⟩|⟨hn,_⟩
   ·exact e
   ·exact absurd hs.2 hn
  have ha:∀ w',Calls Tryz.prog 148 #[.agg #[.int .i64 n1,.int .i64 d1,.pointer a1],.agg #[.int .i64 n2,.int .i64 d2,.pointer a2]] w' (Gives w' (.bool true)):=fun w'=>areSmall_yes _ _ p q w' hs.1 hs.2 e1 e2
  have hc:∀ w',Calls Tryz.prog 149 #[.agg #[.int .i64 n1,.int .i64 d1,.pointer a1],.agg #[.int .i64 n2,.int .i64 d2,.pointer a2]] w' (GivesNumOk w' (p+q)):=fun w'=>by
   rw [e1,e2]
   exact plusSmall_any p q w' hs.1 hs.2
  have HS:=Lib.hid (And.intro ha hc)
  clear ha hc e1 e2 hs h h' hp hq hb1 hk1 hk2 hk3
  go_enter Tryz.func85,Tryz.ntmps85
  go_wp2_with fail
  refine (HS.out.1 _).mono ?_
  rintro e w2 ⟨rfl,b2⟩
  have B2:=Lib.hid (And.intro (Below.step_trans H.out.2.2.2.2.1 b2) (And.intro b2 (And.intro (keep_blk b2 H.out.2.2.2.2.2.1) (And.intro (keep_blk b2 H.out.2.2.2.2.2.2.1) (keep_blk b2 H.out.2.2.2.2.2.2.2)))))
  obtain ⟨⟨u0,u1,u2⟩,_⟩:=blk3 (keep_blk b2 H.out.2.2.2.2.2.1)
  obtain ⟨⟨u3,u4,u5⟩,_⟩:=blk3 (keep_blk b2 H.out.2.2.2.2.2.2.1)
  clear b2
  go_wp2_with fail
  refine (HS.out.2 _).mono ?_
  rintro e w3 ⟨rn,rd,ok,rfl,hok,b3⟩
  have hA3:=keep_blk b3 B2.out.2.2.1
  have hC3:=keep_blk b3 B2.out.2.2.2.1
  have hR3:=keep_blk b3 B2.out.2.2.2.2
  have B3:=Lib.hid (And.intro hok (And.intro (Below.step_trans B2.out.1 b3) (And.intro (Below.step_trans B2.out.2.1 b3) (And.intro hA3 (And.intro hC3 hR3)))))
  clear u0 u1 u2 u3 u4 u5 b3 hok hA3 hC3 hR3
  have hlt3:=lt_of_block B3.out.2.2.2.2.2
  cases ok
  ·go_wp2
   have hb4:Below w3.heap.size w3 (w3.alloc (.cells #[.int .i64 rn,.int .i64 rd,.pointer none] 67)):=(Below.refl _ _).alloc (Nat.le_refl _) _
   have B4:=Lib.hid (And.intro (Below.step_trans B3.out.2.1 hb4) (And.intro (Below.step_trans B3.out.2.2.1 hb4) (And.intro (keep_blk hb4 B3.out.2.2.2.1) (And.intro (keep_blk hb4 B3.out.2.2.2.2.1) (keep_blk hb4 B3.out.2.2.2.2.2)))))
   clear hb4
   generalize w3.alloc (.cells #[.int .i64 rn,.int .i64 rd,.pointer none] 67)=w4 at *
   have hA:=B4.out.2.2.1
   have hC:=B4.out.2.2.2.1
   have hR:=B4.out.2.2.2.2
   have t1:∀ w',Base [w.heap.size+1+1] w4 w'→Calls Tryz.prog 150 #[.agg #[.int .i64 n1,.int .i64 d1,.pointer a1]] w' (TyPost w' (spFr p)):=fun w' hB =>
    GivesFr.ty (numFraction_any _ _ _ (Nb.ext (K:=Kn) (fun _=>rfl) (fun _=>rfl) (H.out.1.below B4.out.2.1) (hB.extT B4.out.2.2.2.2 (by simp [hotObj,Kn]))))
   have t2:∀ w',Base [w.heap.size+1+1] w4 w'→Calls Tryz.prog 150 #[.agg #[.int .i64 n2,.int .i64 d2,.pointer a2]] w' (TyPost w' (spFr q)):=fun w' hB =>
    GivesFr.ty (numFraction_any _ _ _ (Nb.ext (K:=Kn) (fun _=>rfl) (fun _=>rfl) (H.out.2.1.below B4.out.2.1) (hB.extT B4.out.2.2.2.2 (by simp [hotObj,Kn]))))
   have t3:∀ w' x y,Fr w' x p→Fr w' y q→Calls Tryz.prog 151 #[x,y] w' (TyPost w' (spFr (p+q))):=fun w' x y hx hy=>GivesFr.ty (fraPlus_any x y p q w' hx hy H.out.2.2.1 H.out.2.2.2.1)
   have t4:∀ w' x,Fr w' x (p+q)→Calls Tryz.prog 65 #[x] w' (TyPost w' (spNb (p+q))):=fun w' x hx=>GivesNb.ty (number_any x _ w' hx)
   have T:=Lib.hid (And.intro t1 (And.intro t2 (And.intro t3 t4)))
   clear t1 t2 t3 t4
   refine wp_region_ty Kn [w.heap.size+1+1] (by kernel_rfl) (by kernel_rfl) ?_
   repeat (first|(apply ty_is (hg:=rfl);case h=>(intro A w' hB hk;simp [known,specOf,Kd.spec,Sp.is,isVar,Oper.looksAt,Op.operands,Call.operands,Act.eval] at hk;have c_hA:=cells_of_blk (hB.blk hA (by first|(simp;done)|(simp;omega)));have c_hC:=cells_of_blk (hB.blk hC (by first|(simp;done)|(simp;omega)));first|(simp [go_sem,hk,c_hA,c_hC];done)|(simp [go_sem,hk,c_hA,c_hC];rfl)|(simp [go_sem,c_hA,c_hC];rfl)))|(refine ty_move _ ?_ (by first|exact .inl rfl|exact .inr rfl) (by rfl) (by simp [specOf,Kd.spec];rfl) ?_ rfl ?_;(first|exact Sp.is_stable _ _|exact spNt_stable (fun _=>rfl) _|exact spTwo_stable (fun _=>rfl) _ _|exact spFr_stable (fun _=>rfl) _|exact spSum_stable (fun _=>rfl) _|exact spSgn_stable _ _|exact spNb_stable (fun _=>rfl) (fun _=>rfl) _|exact spVc_stable (fun _=>rfl) (fun _=>rfl) _)))
   refine ty_call (spFr p) (spFr_stable (fun _=>rfl) _) rfl (fun A w' hB hk=>?_) ?_;(simp [known,specOf,Kd.spec,Sp.is,isVar,Oper.looksAt,Op.operands,Call.operands,Act.eval] at hk;have c_hA:=cells_of_blk (hB.blk hA (by first|(simp;done)|(simp;omega)));simp [go_sem,hk,c_hA];refine tyUpon_enter ?_;exact T.out.1 _ hB)
   repeat (first|(apply ty_is (hg:=rfl);case h=>(intro A w' hB hk;simp [known,specOf,Kd.spec,Sp.is,isVar,Oper.looksAt,Op.operands,Call.operands,Act.eval] at hk;have c_hA:=cells_of_blk (hB.blk hA (by first|(simp;done)|(simp;omega)));have c_hC:=cells_of_blk (hB.blk hC (by first|(simp;done)|(simp;omega)));first|(simp [go_sem,hk,c_hA,c_hC];done)|(simp [go_sem,hk,c_hA,c_hC];rfl)|(simp [go_sem,c_hA,c_hC];rfl)))|(refine ty_move _ ?_ (by first|exact .inl rfl|exact .inr rfl) (by rfl) (by simp [specOf,Kd.spec];rfl) ?_ rfl ?_;(first|exact Sp.is_stable _ _|exact spNt_stable (fun _=>rfl) _|exact spTwo_stable (fun _=>rfl) _ _|exact spFr_stable (fun _=>rfl) _|exact spSum_stable (fun _=>rfl) _|exact spSgn_stable _ _|exact spNb_stable (fun _=>rfl) (fun _=>rfl) _|exact spVc_stable (fun _=>rfl) (fun _=>rfl) _)))
   refine ty_call (spFr q) (spFr_stable (fun _=>rfl) _) rfl (fun A w' hB hk=>?_) ?_;(simp [known,specOf,Kd.spec,Sp.is,isVar,Oper.looksAt,Op.operands,Call.operands,Act.eval] at hk;have c_hA:=cells_of_blk (hB.blk hA (by first|(simp;done)|(simp;omega)));simp [go_sem,hk,c_hA];refine tyUpon_enter ?_;exact T.out.2.1 _ hB)
   refine ty_call (spFr (p+q)) (spFr_stable (fun _=>rfl) _) rfl (fun A w' hB hk=>?_) ?_;(simp [known,specOf,Kd.spec,Sp.is,isVar,Oper.looksAt,Op.operands,Call.operands,Act.eval] at hk;have c_hA:=cells_of_blk (hB.blk hA (by first|(simp;done)|(simp;omega)));simp [go_sem,hk,c_hA];refine tyUpon_enter ?_;exact T.out.2.2.1 _ _ _ hk.1 hk.2)
   refine ty_call (spNb (p+q)) (spNb_stable (fun _=>rfl) (fun _=>rfl) _) rfl (fun A w' hB hk=>?_) ?_;(simp [known,specOf,Kd.spec,Sp.is,isVar,Oper.looksAt,Op.operands,Call.operands,Act.eval] at hk;have c_hA:=cells_of_blk (hB.blk hA (by first|(simp;done)|(simp;omega)));simp [go_sem,hk,c_hA];refine tyUpon_enter ?_;exact T.out.2.2.2 _ _ hk)
   refine ty_old (w.heap.size+1+1) (_) (coNb (p+q)) (coNb_stable (fun _=>rfl) (fun _=>rfl) _) rfl rfl (by simp) (by assumption) (by simp [hotObj,Ku,Kn]) (fun A w' hB hk h0=>?_) ?_;(simp [known,specOf,Kd.spec,Sp.is,isVar,Oper.looksAt,Op.operands,Call.operands,Act.eval] at hk;have c_hA:=cells_of_blk (hB.blk hA (by first|(simp;done)|(simp;omega)));have c0:=cells_of_blk h0;have f0:=frozen_of_blk h0;obtain ⟨k1,k2⟩:=hk;obtain ⟨y1,y2,y3,e1⟩:=(show Nb _ _ _ from k2).form;rw [e1] at k2;simp [go_sem,k1,e1,c0,f0];exact ⟨_,turned3 h0 _ _ _,_,_,_,rfl,k2⟩)
   refine ⟨by first|rfl|decide,fun f w2 hB hF hAp=>?_⟩;simp [Final1,Sp.is,isVar] at hF;simp only [frameOf]
   obtain ⟨o,⟨y1,y2,y3,rfl,k3⟩,ho⟩:=hF.1
   obtain ⟨⟨r0,r1,r2⟩,_⟩:=blk3 ho
   have K:=Lib.hid (And.intro k3 hB)
   clear k3 hB ho hA hC hR hAp hF
   go_wp2
   refine bodyPost_ret (v := .agg #[.int .i64 y1,.int .i64 y2,.pointer y3]) (by simp [results,Tryz.results85,go_sem,r0,r1,r2,Act.put]) rfl ⟨_,rfl,K.out.1,?_⟩
   exact Base.belowT K.out.2 B4.out.1 (by omega)
  ·obtain ⟨hsm,hv⟩:=B3.out.1 rfl
   obtain ⟨⟨g0,g1,g2⟩,f0,f1,f2⟩:=blk3 B3.out.2.2.2.2.2
   have HV:=Lib.hid (And.intro hsm hv)
   clear hsm hv
   have hpast:∀ (W:World) (o:Obj) (i:Nat),W.heap.size=w3.heap.size→(W.alloc o).cell? ⟨w.heap.size+1+1,i,none⟩=W.cell? ⟨w.heap.size+1+1,i,none⟩:=fun W o i h=>World.cell?_alloc_past _ _ _ (by show w.heap.size+1+1<W.heap.size;omega)
   have HP:=Lib.hid hpast
   clear hpast
   go_wp2
   refine bodyPost_ret (v := .agg #[.int .i64 rn,.int .i64 rd,.pointer none]) (by simp [results,Tryz.results85,go_sem,g0,g1,g2,HP.out]) rfl ⟨_,rfl,.inl HV.out,?_⟩
   repeat (first|exact B3.out.2.1|(refine Below.setCell ?_ (by first|omega|(simp;done)|(simp;omega)) _)|(refine Below.alloc ?_ (by first|omega|(simp;done)|(simp;omega)) _)|(refine Below.drew ?_)|exact Below.refl _ _)
 ·have ha:∀ w',Below w.heap.size w w'→Calls Tryz.prog 148 #[.agg #[.int .i64 n1,.int .i64 d1,.pointer a1],.agg #[.int .i64 n2,.int .i64 d2,.pointer a2]] w' (Gives w' (.bool false)):=fun w' hb=>areSmall_no _ _ p q w' (h.below hb) (h'.below hb) hs
  have HS:=Lib.hid ha
  clear ha hs h h' hp hq hb1 hk1 hk2 hk3
  go_enter Tryz.func85,Tryz.ntmps85
  go_wp2_with fail
  refine (HS.out _ H.out.2.2.2.2.1).mono ?_
  rintro e w2 ⟨rfl,b2⟩
  have B2:=Lib.hid (And.intro (Below.step_trans H.out.2.2.2.2.1 b2) (And.intro b2 (And.intro (keep_blk b2 H.out.2.2.2.2.2.1) (And.intro (keep_blk b2 H.out.2.2.2.2.2.2.1) (keep_blk b2 H.out.2.2.2.2.2.2.2)))))
  clear b2
  go_wp2
  have hA:=B2.out.2.2.1
  have hC:=B2.out.2.2.2.1
  have hR:=B2.out.2.2.2.2
  have t1:∀ w',Base [w.heap.size+1+1] w2 w'→Calls Tryz.prog 150 #[.agg #[.int .i64 n1,.int .i64 d1,.pointer a1]] w' (TyPost w' (spFr p)):=fun w' hB =>
   GivesFr.ty (numFraction_any _ _ _ (Nb.ext (K:=Kn) (fun _=>rfl) (fun _=>rfl) (H.out.1.below B2.out.2.1) (hB.extT B2.out.2.2.2.2 (by simp [hotObj,Kn]))))
  have t2:∀ w',Base [w.heap.size+1+1] w2 w'→Calls Tryz.prog 150 #[.agg #[.int .i64 n2,.int .i64 d2,.pointer a2]] w' (TyPost w' (spFr q)):=fun w' hB =>
   GivesFr.ty (numFraction_any _ _ _ (Nb.ext (K:=Kn) (fun _=>rfl) (fun _=>rfl) (H.out.2.1.below B2.out.2.1) (hB.extT B2.out.2.2.2.2 (by simp [hotObj,Kn]))))
  have t3:∀ w' x y,Fr w' x p→Fr w' y q→Calls Tryz.prog 151 #[x,y] w' (TyPost w' (spFr (p+q))):=fun w' x y hx hy=>GivesFr.ty (fraPlus_any x y p q w' hx hy H.out.2.2.1 H.out.2.2.2.1)
  have t4:∀ w' x,Fr w' x (p+q)→Calls Tryz.prog 65 #[x] w' (TyPost w' (spNb (p+q))):=fun w' x hx=>GivesNb.ty (number_any x _ w' hx)
  have T:=Lib.hid (And.intro t1 (And.intro t2 (And.intro t3 t4)))
  clear t1 t2 t3 t4
  refine wp_region_ty Kn [w.heap.size+1+1] (by kernel_rfl) (by kernel_rfl) ?_
  repeat (first|(apply ty_is (hg:=rfl);case h=>(intro A w' hB hk;simp [known,specOf,Kd.spec,Sp.is,isVar,Oper.looksAt,Op.operands,Call.operands,Act.eval] at hk;have c_hA:=cells_of_blk (hB.blk hA (by first|(simp;done)|(simp;omega)));have c_hC:=cells_of_blk (hB.blk hC (by first|(simp;done)|(simp;omega)));first|(simp [go_sem,hk,c_hA,c_hC];done)|(simp [go_sem,hk,c_hA,c_hC];rfl)|(simp [go_sem,c_hA,c_hC];rfl)))|(refine ty_move _ ?_ (by first|exact .inl rfl|exact .inr rfl) (by rfl) (by simp [specOf,Kd.spec];rfl) ?_ rfl ?_;(first|exact Sp.is_stable _ _|exact spNt_stable (fun _=>rfl) _|exact spTwo_stable (fun _=>rfl) _ _|exact spFr_stable (fun _=>rfl) _|exact spSum_stable (fun _=>rfl) _|exact spSgn_stable _ _|exact spNb_stable (fun _=>rfl) (fun _=>rfl) _|exact spVc_stable (fun _=>rfl) (fun _=>rfl) _)))
  refine ty_call (spFr p) (spFr_stable (fun _=>rfl) _) rfl (fun A w' hB hk=>?_) ?_;(simp [known,specOf,Kd.spec,Sp.is,isVar,Oper.looksAt,Op.operands,Call.operands,Act.eval] at hk;have c_hA:=cells_of_blk (hB.blk hA (by first|(simp;done)|(simp;omega)));simp [go_sem,hk,c_hA];refine tyUpon_enter ?_;exact T.out.1 _ hB)
  repeat (first|(apply ty_is (hg:=rfl);case h=>(intro A w' hB hk;simp [known,specOf,Kd.spec,Sp.is,isVar,Oper.looksAt,Op.operands,Call.operands,Act.eval] at hk;have c_hA:=cells_of_blk (hB.blk hA (by first|(simp;done)|(simp;omega)));have c_hC:=cells_of_blk (hB.blk hC (by first|(simp;done)|(simp;omega)));first|(simp [go_sem,hk,c_hA,c_hC];done)|(simp [go_sem,hk,c_hA,c_hC];rfl)|(simp [go_sem,c_hA,c_hC];rfl)))|(refine ty_move _ ?_ (by first|exact .inl rfl|exact .inr rfl) (by rfl) (by simp [specOf,Kd.spec];rfl) ?_ rfl ?_;(first|exact Sp.is_stable _ _|exact spNt_stable (fun _=>rfl) _|exact spTwo_stable (fun _=>rfl) _ _|exact spFr_stable (fun _=>rfl) _|exact spSum_stable (fun _=>rfl) _|exact spSgn_stable _ _|exact spNb_stable (fun _=>rfl) (fun _=>rfl) _|exact spVc_stable (fun _=>rfl) (fun _=>rfl) _)))
  refine ty_call (spFr q) (spFr_stable (fun _=>rfl) _) rfl (fun A w' hB hk=>?_) ?_;(simp [known,specOf,Kd.spec,Sp.is,isVar,Oper.looksAt,Op.operands,Call.operands,Act.eval] at hk;have c_hA:=cells_of_blk (hB.blk hA (by first|(simp;done)|(simp;omega)));simp [go_sem,hk,c_hA];refine tyUpon_enter ?_;exact T.out.2.1 _ hB)
  refine ty_call (spFr (p+q)) (spFr_stable (fun _=>rfl) _) rfl (fun A w' hB hk=>?_) ?_;(simp [known,specOf,Kd.spec,Sp.is,isVar,Oper.looksAt,Op.operands,Call.operands,Act.eval] at hk;have c_hA:=cells_of_blk (hB.blk hA (by first|(simp;done)|(simp;omega)));simp [go_sem,hk,c_hA];refine tyUpon_enter ?_;exact T.out.2.2.1 _ _ _ hk.1 hk.2)
  refine ty_call (spNb (p+q)) (spNb_stable (fun _=>rfl) (fun _=>rfl) _) rfl (fun A w' hB hk=>?_) ?_;(simp [known,specOf,Kd.spec,Sp.is,isVar,Oper.looksAt,Op.operands,Call.operands,Act.eval] at hk;have c_hA:=cells_of_blk (hB.blk hA (by first|(simp;done)|(simp;omega)));simp [go_sem,hk,c_hA];refine tyUpon_enter ?_;exact T.out.2.2.2 _ _ hk)
  refine ty_old (w.heap.size+1+1) (_) (coNb (p+q)) (coNb_stable (fun _=>rfl) (fun _=>rfl) _) rfl rfl (by simp) (by assumption) (by simp [hotObj,Ku,Kn]) (fun A w' hB hk h0=>?_) ?_;(simp [known,specOf,Kd.spec,Sp.is,isVar,Oper.looksAt,Op.operands,Call.operands,Act.eval] at hk;have c_hA:=cells_of_blk (hB.blk hA (by first|(simp;done)|(simp;omega)));have c0:=cells_of_blk h0;have f0:=frozen_of_blk h0;obtain ⟨k1,k2⟩:=hk;obtain ⟨y1,y2,y3,e1⟩:=(show Nb _ _ _ from k2).form;rw [e1] at k2;simp [go_sem,k1,e1,c0,f0];exact ⟨_,turned3 h0 _ _ _,_,_,_,rfl,k2⟩)
  refine ⟨by first|rfl|decide,fun f w2 hB hF hAp=>?_⟩;simp [Final1,Sp.is,isVar] at hF;simp only [frameOf]
  obtain ⟨o,⟨y1,y2,y3,rfl,k3⟩,ho⟩:=hF.1
  obtain ⟨⟨r0,r1,r2⟩,_⟩:=blk3 ho
  have K:=Lib.hid (And.intro k3 hB)
  clear k3 hB ho hA hC hR hAp hF
  go_wp2
  refine bodyPost_ret (v := .agg #[.int .i64 y1,.int .i64 y2,.pointer y3]) (by simp [results,Tryz.results85,go_sem,r0,r1,r2,Act.put]) rfl ⟨_,rfl,K.out.1,?_⟩
  exact Base.belowT K.out.2 B2.out.1 (by omega)
theorem small_raw (n d:Int) (w:World) (h1:-9223372036854775807≤d) (h2:d≤9223372036854775807):Calls Tryz.prog 137 #[.int .i64 n,.int .i64 d] w (Gives w (.agg #[.int .i64 n,.int .i64 (d-1),.pointer none])):=by
 go_enter Tryz.func137,Tryz.ntmps137
 go_wp2
 refine bodyPost_ret (v := .agg #[.int .i64 n,.int .i64 (d-1),.pointer none]) (by simp [results,Tryz.results137,go_sem]) rfl ⟨rfl,?_⟩
 repeat (first|exact Below.refl _ _|(refine Below.setCell ?_ (by first|omega|(simp;done)|(simp;omega)) _)|(refine Below.alloc ?_ (by first|omega|(simp;done)|(simp;omega)) _)|(refine Below.drew ?_)|exact Below.refl _ _)
theorem mul_lr (p q:Rat):(p*q).num=(mkRat p.num q.den).num*(mkRat q.num p.den).num∧(p*q).den=(mkRat p.num q.den).den*(mkRat q.num p.den).den:=by
 by_cases hp:p=0
 ·subst hp
  rw [Rat.zero_mul,show (0:Rat).num=0 from rfl,Rat.zero_mkRat,show (0:Rat).den=1 from rfl,show (0:Rat).num=0 from rfl,Int.zero_mul]
  refine ⟨rfl,?_⟩
  rw [Rat.den_mkRat,if_neg (by omega),Nat.gcd_one_left]
 ·by_cases hq:q=0
  ·subst hq
   rw [Rat.mul_zero,show (0:Rat).num=0 from rfl,Rat.zero_mkRat,show (0:Rat).den=1 from rfl,show (0:Rat).num=0 from rfl,Int.mul_zero]
   refine ⟨rfl,?_⟩
   rw [Rat.den_mkRat,if_neg (by omega),Nat.gcd_one_left]
  ·have h1:(mkRat p.num q.den).num.natAbs≠0:=fun h=>by
    have:(mkRat p.num q.den)=0:=Rat.num_eq_zero.1 (by omega)
    rw [Rat.mkRat_eq_zero q.den_nz] at this
    exact hp (Rat.num_eq_zero.1 this)
   have h2:(mkRat q.num p.den).num.natAbs≠0:=fun h=>by
    have:(mkRat q.num p.den)=0:=Rat.num_eq_zero.1 (by omega)
    rw [Rat.mkRat_eq_zero p.den_nz] at this
    exact hq (Rat.num_eq_zero.1 this)
   have h3:=Parts.mul (Parts.self (mkRat p.num q.den)) (Parts.self (mkRat q.num p.den)) h1 h2
   refine ⟨?_,h3.2.2.symm⟩
   rw [h3.num_eq,← sg_sg,sg_of,sg_of]
theorem sm_lr {p q:Rat} (hp:Sm p) (hq:Sm q):Sm (mkRat p.num q.den):=by
 obtain ⟨h1,h2⟩:=mkRat_num_le p.num q.den_nz
 exact ⟨Nat.le_trans h1 hp.1,Nat.le_trans h2 hq.2⟩
set_option maxRecDepth 100000 in
set_option maxHeartbeats 8000000 in
theorem timesSmall_any (p q:Rat) (w:World) (hp:Sm p) (hq:Sm q):Calls Tryz.prog 160 #[smV p.num p.den,smV q.num q.den] w (GivesNumOk w (p*q)):=by
 obtain ⟨hmn,hmd⟩:=mul_lr p q
 have hL:=sm_lr hp hq
 have hR:=sm_lr hq hp
 have mp:=sm_den hp
 have mq:=sm_den hq
 have np:=sm_num hp
 have nq:=sm_num hq
 obtain ⟨l1,_⟩:=lowest_ex p.num q.den (by have:=np.1;omega) np.2 q.den_pos mq.2
 obtain ⟨l2,_⟩:=lowest_ex q.num p.den (by have:=nq.1;omega) nq.2 p.den_pos mp.2
 have mL:=sm_den hL
 have mR:=sm_den hR
 obtain ⟨r1,o1,c1,e1,x1⟩:=productOf_ex _ _ (sm_num hL) (sm_num hR)
 obtain ⟨r2,o2,c2,e2,x2⟩:=productOf_ex ((mkRat p.num q.den).den:Int) ((mkRat q.num p.den).den:Int) ⟨by omega,mL.2⟩ ⟨by omega,mR.2⟩
 have hout:(o1&&o2)=true→Sm (p*q)∧.agg #[.int .i64 r1,.int .i64 (r2-1),.pointer none]=smV (p*q).num (p*q).den:=fun h=>by
  rw [Bool.and_eq_true] at h
  obtain ⟨y1,z1⟩:=e1 h.1
  obtain ⟨y2,z2⟩:=e2 h.2
  have hn:(p*q).num=r1:=by rw [hmn,y1]
  have hd:(((p*q).den:Nat):Int)=r2:=by rw [hmd,y2];simp
  refine ⟨⟨?_,?_⟩,by rw [smV,hn,hd]⟩
  ·rw [hn,M63_eq];obtain ⟨a,b⟩:=x1;omega
  ·rw [M63_eq];obtain ⟨a,b⟩:=x2;omega
 unfold smV at l1 l2 ⊢
 obtain ⟨n,hn⟩:∃ n,n=p.num:=⟨_,rfl⟩
 obtain ⟨m,hm⟩:∃ m,m=q.num:=⟨_,rfl⟩
 obtain ⟨d,hd⟩:∃ d:Int,d=(p.den:Int):=⟨_,rfl⟩
 obtain ⟨k,hk⟩:∃ k:Int,k=(q.den:Int):=⟨_,rfl⟩
 obtain ⟨ln,hln⟩:∃ ln,ln=(mkRat p.num q.den).num:=⟨_,rfl⟩
 obtain ⟨ld,hld⟩:∃ ld:Int,ld=((mkRat p.num q.den).den:Int):=⟨_,rfl⟩
 obtain ⟨rn,hrn⟩:∃ rn,rn=(mkRat q.num p.den).num:=⟨_,rfl⟩
 obtain ⟨rd,hrd⟩:∃ rd:Int,rd=((mkRat q.num p.den).den:Int):=⟨_,rfl⟩
 rw [← hln,← hld] at l1
 rw [← hrn,← hrd] at l2
 rw [← hln,← hrn] at c1
 rw [← hld,← hrd] at c2
 rw [← hld] at mL
 rw [← hrd] at mR
 rw [← hn,← hk] at l1
 rw [← hm,← hd] at l2
 rw [← hd] at mp ⊢
 rw [← hk] at mq ⊢
 rw [← hn,← hm]
 have hden:∀ (a b:Int) (w' : World),1≤b→b≤9223372036854775807→Calls Tryz.prog 142 #[.agg #[.int .i64 a,.int .i64 (b-1),.pointer none]] w' (TyPost w' (Sp.is (.int .i64 b))):=fun a b w' h1 h2=>by
  have:=Gives.ty (den_any a (b-1) none w' (by omega) (by omega))
  rwa [Int.sub_add_cancel] at this
 obtain ⟨hk1,hk2,hk3,hb1⟩:=alloc3 w (.cells #[.int .i64 n,.int .i64 (d-1),.pointer none] 67) (.cells #[.int .i64 m,.int .i64 (k-1),.pointer none] 67) (.cells #[.int .i64 0,.int .i64 0,.pointer none] 67)
 have H:=Lib.hid (And.intro l1 (And.intro l2 (And.intro c1 (And.intro c2 (And.intro hout (And.intro hb1 (And.intro hk3 (And.intro hden (And.intro mp (And.intro mq (And.intro mL (And.intro mR x2))))))))))))
 have HK:=Lib.hid (And.intro hk1 hk2)
 clear hmn hmd hL hR hp hq mp mq np nq l1 l2 mL mR c1 e1 x1 c2 e2 x2 hout hden hk1 hk2 hk3 hb1 hn hm hd hk hln hld hrn hrd
 go_enter Tryz.func160,Tryz.ntmps160
 go_wp2
 generalize ((w.alloc (.cells #[.int .i64 n,.int .i64 (d-1),.pointer none] 67)).alloc (.cells #[.int .i64 m,.int .i64 (k-1),.pointer none] 67)).alloc (.cells #[.int .i64 0,.int .i64 0,.pointer none] 67)=w1 at *
 have hA:=HK.out.1
 have hC:=HK.out.2
 have hR:=H.out.2.2.2.2.2.2.1
 have hW:=H.out.2.2.2.2.2.1
 refine wp_region_ty Kn [] (by kernel_rfl) (by kernel_rfl) ?_
 repeat (first|(apply ty_is (hg:=rfl);case h=>(intro A w' hB hk;simp [known,specOf,Kd.spec,Sp.is,isVar,Oper.looksAt,Op.operands,Call.operands,Act.eval] at hk;have c_hA:=cells_of_blk (hB.blk hA (by first|(simp;done)|(simp;omega)));have c_hC:=cells_of_blk (hB.blk hC (by first|(simp;done)|(simp;omega)));first|(simp [go_sem,hk,c_hA,c_hC];done)|(simp [go_sem,hk,c_hA,c_hC];rfl)|(simp [go_sem,c_hA,c_hC];rfl)))|(refine ty_move _ ?_ (by first|exact .inl rfl|exact .inr rfl) (by rfl) (by simp [specOf,Kd.spec];rfl) ?_ rfl ?_;(first|exact Sp.is_stable _ _|exact spNt_stable (fun _=>rfl) _|exact spTwo_stable (fun _=>rfl) _ _|exact spFr_stable (fun _=>rfl) _|exact spSum_stable (fun _=>rfl) _|exact spSgn_stable _ _|exact spNb_stable (fun _=>rfl) (fun _=>rfl) _|exact spVc_stable (fun _=>rfl) (fun _=>rfl) _)))
 refine ty_call (Sp.is (.int .i64 k)) (Sp.is_stable _ _) rfl (fun A w' hB hk=>?_) ?_;(simp [known,specOf,Kd.spec,Sp.is,isVar,Oper.looksAt,Op.operands,Call.operands,Act.eval] at hk;have c_hA:=cells_of_blk (hB.blk hA (by first|(simp;done)|(simp;omega)));simp [go_sem,hk,c_hA];refine tyUpon_enter ?_;exact H.out.2.2.2.2.2.2.2.1 _ _ _ H.out.2.2.2.2.2.2.2.2.2.1.1 H.out.2.2.2.2.2.2.2.2.2.1.2)
 refine ty_call (Sp.is (.agg #[.int .i64 ln,.int .i64 (ld-1),.pointer none])) (Sp.is_stable _ _) rfl (fun A w' hB hk=>?_) ?_;(simp [known,specOf,Kd.spec,Sp.is,isVar,Oper.looksAt,Op.operands,Call.operands,Act.eval] at hk;have c_hA:=cells_of_blk (hB.blk hA (by first|(simp;done)|(simp;omega)));simp [go_sem,hk,c_hA];refine tyUpon_enter ?_;exact Gives.ty (H.out.1 _))
 repeat (first|(apply ty_is (hg:=rfl);case h=>(intro A w' hB hk;simp [known,specOf,Kd.spec,Sp.is,isVar,Oper.looksAt,Op.operands,Call.operands,Act.eval] at hk;have c_hA:=cells_of_blk (hB.blk hA (by first|(simp;done)|(simp;omega)));have c_hC:=cells_of_blk (hB.blk hC (by first|(simp;done)|(simp;omega)));first|(simp [go_sem,hk,c_hA,c_hC];done)|(simp [go_sem,hk,c_hA,c_hC];rfl)|(simp [go_sem,c_hA,c_hC];rfl)))|(refine ty_move _ ?_ (by first|exact .inl rfl|exact .inr rfl) (by rfl) (by simp [specOf,Kd.spec];rfl) ?_ rfl ?_;(first|exact Sp.is_stable _ _|exact spNt_stable (fun _=>rfl) _|exact spTwo_stable (fun _=>rfl) _ _|exact spFr_stable (fun _=>rfl) _|exact spSum_stable (fun _=>rfl) _|exact spSgn_stable _ _|exact spNb_stable (fun _=>rfl) (fun _=>rfl) _|exact spVc_stable (fun _=>rfl) (fun _=>rfl) _)))
 refine ty_call (Sp.is (.int .i64 d)) (Sp.is_stable _ _) rfl (fun A w' hB hk=>?_) ?_;(simp [known,specOf,Kd.spec,Sp.is,isVar,Oper.looksAt,Op.operands,Call.operands,Act.eval] at hk;have c_hA:=cells_of_blk (hB.blk hA (by first|(simp;done)|(simp;omega)));simp [go_sem,hk,c_hA];refine tyUpon_enter ?_;exact H.out.2.2.2.2.2.2.2.1 _ _ _ H.out.2.2.2.2.2.2.2.2.1.1 H.out.2.2.2.2.2.2.2.2.1.2)
 refine ty_call (Sp.is (.agg #[.int .i64 rn,.int .i64 (rd-1),.pointer none])) (Sp.is_stable _ _) rfl (fun A w' hB hk=>?_) ?_;(simp [known,specOf,Kd.spec,Sp.is,isVar,Oper.looksAt,Op.operands,Call.operands,Act.eval] at hk;have c_hA:=cells_of_blk (hB.blk hA (by first|(simp;done)|(simp;omega)));simp [go_sem,hk,c_hA];refine tyUpon_enter ?_;exact Gives.ty (H.out.2.1 _))
 (apply ty_new (hg:=rfl) (hd:=rfl);(case h=>(intro A w';simp [go_sem];rfl));(case hc=>simp [hotObj,Ku,Kn]))
 (apply ty_new (hg:=rfl) (hd:=rfl);(case h=>(intro A w';simp [go_sem];rfl));(case hc=>simp [hotObj,Ku,Kn]))
 refine ty_put 6 ((.cells #[.int .i64 0,.int .i64 0,.pointer none] 67 (0,0))) (coIs (.cells #[.int .i64 ln,.int .i64 (ld-1),.pointer none] 67 (0,0))) (coIs_stable _ _) rfl rfl (by simp [Oper.looksAt,Op.operands]) (by simp) (fun A w' b hB hk hd h0=>?_) ?_;(simp [known,specOf,Kd.spec,Sp.is,isVar,Oper.looksAt,Op.operands,Call.operands,Act.eval] at hk;simp [Act.eval] at hd;have c_hA:=cells_of_blk (hB.blk hA (by first|(simp;done)|(simp;omega)));have c0:=cells_of_blk h0;have f0:=frozen_of_blk h0;simp [go_sem,hd,hk,c0,f0];exact ⟨_,turned3 h0 _ _ _,rfl⟩)
 refine ty_put 7 ((.cells #[.int .i64 0,.int .i64 0,.pointer none] 67 (0,0))) (coIs (.cells #[.int .i64 rn,.int .i64 (rd-1),.pointer none] 67 (0,0))) (coIs_stable _ _) rfl rfl (by simp [Oper.looksAt,Op.operands]) (by simp) (fun A w' b hB hk hd h0=>?_) ?_;(simp [known,specOf,Kd.spec,Sp.is,isVar,Oper.looksAt,Op.operands,Call.operands,Act.eval] at hk;simp [Act.eval] at hd;have c_hA:=cells_of_blk (hB.blk hA (by first|(simp;done)|(simp;omega)));have c0:=cells_of_blk h0;have f0:=frozen_of_blk h0;simp [go_sem,hd,hk,c0,f0];exact ⟨_,turned3 h0 _ _ _,rfl⟩)
 refine ⟨by first|rfl|decide,fun f w2 hB hF hAp=>?_⟩;simp [Final1,Sp.is,isVar] at hF;simp only [frameOf]
 obtain ⟨b7,e7,l7,_,o7,rfl,ho7⟩:=hF.1
 obtain ⟨b6,e6,l6,_,o6,rfl,ho6⟩:=hF.2.1
 have hR:=hB.blk hR (by simp)
 have hW:=Below.step_trans hW hB.below
 obtain ⟨⟨g60,g61,g62⟩,_⟩:=blk3 ho6
 obtain ⟨⟨g70,g71,g72⟩,_⟩:=blk3 ho7
 have M:=Lib.hid (And.intro ho6 (And.intro ho7 (And.intro hR hW)))
 clear hB hAp hA hC hR hW ho6 ho7
 go_wp2_with fail
 refine (H.out.2.2.1 _).mono ?_
 rintro e w3 ⟨rfl,b3⟩
 have hA:=keep_blk b3 M.out.1
 have hC:=keep_blk b3 M.out.2.1
 have hR:=keep_blk b3 M.out.2.2.1
 have hW:=Below.step_trans M.out.2.2.2 b3
 clear g60 g61 g62 g70 g71 g72 b3
 go_wp2
 refine wp_region_ty Kn [] (by kernel_rfl) (by kernel_rfl) ?_
 repeat (first|(apply ty_is (hg:=rfl);case h=>(intro A w' hB hk;simp [known,specOf,Kd.spec,Sp.is,isVar,Oper.looksAt,Op.operands,Call.operands,Act.eval] at hk;have c_hA:=cells_of_blk (hB.blk hA (by first|(simp;done)|(simp;omega)));have c_hC:=cells_of_blk (hB.blk hC (by first|(simp;done)|(simp;omega)));first|(simp [go_sem,hk,c_hA,c_hC];done)|(simp [go_sem,hk,c_hA,c_hC];rfl)|(simp [go_sem,c_hA,c_hC];rfl)))|(refine ty_move _ ?_ (by first|exact .inl rfl|exact .inr rfl) (by rfl) (by simp [specOf,Kd.spec];rfl) ?_ rfl ?_;(first|exact Sp.is_stable _ _|exact spNt_stable (fun _=>rfl) _|exact spTwo_stable (fun _=>rfl) _ _|exact spFr_stable (fun _=>rfl) _|exact spSum_stable (fun _=>rfl) _|exact spSgn_stable _ _|exact spNb_stable (fun _=>rfl) (fun _=>rfl) _|exact spVc_stable (fun _=>rfl) (fun _=>rfl) _)))
 refine ty_call (Sp.is (.int .i64 ld)) (Sp.is_stable _ _) rfl (fun A w' hB hk=>?_) ?_;(simp [known,specOf,Kd.spec,Sp.is,isVar,Oper.looksAt,Op.operands,Call.operands,Act.eval] at hk;have c_hA:=cells_of_blk (hB.blk hA (by first|(simp;done)|(simp;omega)));simp [go_sem,hk,c_hA];refine tyUpon_enter ?_;exact H.out.2.2.2.2.2.2.2.1 _ _ _ H.out.2.2.2.2.2.2.2.2.2.2.1.1 H.out.2.2.2.2.2.2.2.2.2.2.1.2)
 repeat (first|(apply ty_is (hg:=rfl);case h=>(intro A w' hB hk;simp [known,specOf,Kd.spec,Sp.is,isVar,Oper.looksAt,Op.operands,Call.operands,Act.eval] at hk;have c_hA:=cells_of_blk (hB.blk hA (by first|(simp;done)|(simp;omega)));have c_hC:=cells_of_blk (hB.blk hC (by first|(simp;done)|(simp;omega)));first|(simp [go_sem,hk,c_hA,c_hC];done)|(simp [go_sem,hk,c_hA,c_hC];rfl)|(simp [go_sem,c_hA,c_hC];rfl)))|(refine ty_move _ ?_ (by first|exact .inl rfl|exact .inr rfl) (by rfl) (by simp [specOf,Kd.spec];rfl) ?_ rfl ?_;(first|exact Sp.is_stable _ _|exact spNt_stable (fun _=>rfl) _|exact spTwo_stable (fun _=>rfl) _ _|exact spFr_stable (fun _=>rfl) _|exact spSum_stable (fun _=>rfl) _|exact spSgn_stable _ _|exact spNb_stable (fun _=>rfl) (fun _=>rfl) _|exact spVc_stable (fun _=>rfl) (fun _=>rfl) _)))
 refine ty_call (Sp.is (.int .i64 rd)) (Sp.is_stable _ _) rfl (fun A w' hB hk=>?_) ?_;(simp [known,specOf,Kd.spec,Sp.is,isVar,Oper.looksAt,Op.operands,Call.operands,Act.eval] at hk;have c_hA:=cells_of_blk (hB.blk hA (by first|(simp;done)|(simp;omega)));simp [go_sem,hk,c_hA];refine tyUpon_enter ?_;exact H.out.2.2.2.2.2.2.2.1 _ _ _ H.out.2.2.2.2.2.2.2.2.2.2.2.1.1 H.out.2.2.2.2.2.2.2.2.2.2.2.1.2)
 refine ty_call (Sp.is (.tuple #[.int .i64 r2,.bool o2])) (Sp.is_stable _ _) rfl (fun A w' hB hk=>?_) ?_;(simp [known,specOf,Kd.spec,Sp.is,isVar,Oper.looksAt,Op.operands,Call.operands,Act.eval] at hk;have c_hA:=cells_of_blk (hB.blk hA (by first|(simp;done)|(simp;omega)));simp [go_sem,hk,c_hA];refine tyUpon_enter ?_;exact Gives.ty (H.out.2.2.2.1 _))
 repeat (first|(apply ty_is (hg:=rfl);case h=>(intro A w' hB hk;simp [known,specOf,Kd.spec,Sp.is,isVar,Oper.looksAt,Op.operands,Call.operands,Act.eval] at hk;have c_hA:=cells_of_blk (hB.blk hA (by first|(simp;done)|(simp;omega)));have c_hC:=cells_of_blk (hB.blk hC (by first|(simp;done)|(simp;omega)));first|(simp [go_sem,hk,c_hA,c_hC];done)|(simp [go_sem,hk,c_hA,c_hC];rfl)|(simp [go_sem,c_hA,c_hC];rfl)))|(refine ty_move _ ?_ (by first|exact .inl rfl|exact .inr rfl) (by rfl) (by simp [specOf,Kd.spec];rfl) ?_ rfl ?_;(first|exact Sp.is_stable _ _|exact spNt_stable (fun _=>rfl) _|exact spTwo_stable (fun _=>rfl) _ _|exact spFr_stable (fun _=>rfl) _|exact spSum_stable (fun _=>rfl) _|exact spSgn_stable _ _|exact spNb_stable (fun _=>rfl) (fun _=>rfl) _|exact spVc_stable (fun _=>rfl) (fun _=>rfl) _)))
 refine ⟨by first|rfl|decide,fun f w2 hB hF hAp=>?_⟩;simp [Final1,Sp.is,isVar] at hF;simp only [frameOf,Act.put,List.setIfInBounds_toArray,List.set_cons_succ,List.set_cons_zero,hF]
 have hR:=hB.blk hR (by simp)
 have hW:=Below.step_trans hW hB.below
 clear hB hAp hA hC hF
 go_wp2_with fail
 refine (small_raw r1 r2 _ H.out.2.2.2.2.2.2.2.2.2.2.2.2.1 H.out.2.2.2.2.2.2.2.2.2.2.2.2.2).mono ?_
 rintro e w6 ⟨rfl,b6⟩
 obtain ⟨⟨r0,ra,rb⟩,f0,f1,f2⟩:=blk3 (keep_blk b6 hR)
 have B6:=Lib.hid (Below.step_trans hW b6)
 clear b6 hR hW
 have hout:=H.out.2.2.2.2.1
 have HO:=Lib.hid hout
 clear hout
 cases o1 <;> cases o2
 all_goals
  go_wp2
  first
   | (refine bodyPost_ret (v := .tuple #[.agg #[.int .i64 r1,.int .i64 (r2-1),.pointer none],.bool true]) (by simp [results,Tryz.results160,go_sem,r0,ra,rb]) rfl ⟨_,_,_,rfl,fun _=>HO.out rfl,?_⟩
      repeat (first|exact B6.out|(refine Below.setCell ?_ (by first|omega|(simp;done)|(simp;omega)) _)|(refine Below.alloc ?_ (by first|omega|(simp;done)|(simp;omega)) _)|(refine Below.drew ?_)|exact Below.refl _ _))
   | (refine bodyPost_ret (v := .tuple #[.agg #[.int .i64 r1,.int .i64 (r2-1),.pointer none],.bool false]) (by simp [results,Tryz.results160,go_sem,r0,ra,rb]) rfl ⟨_,_,_,rfl,fun h=>by (cases h),?_⟩
      repeat (first|exact B6.out|(refine Below.setCell ?_ (by first|omega|(simp;done)|(simp;omega)) _)|(refine Below.alloc ?_ (by first|omega|(simp;done)|(simp;omega)) _)|(refine Below.drew ?_)|exact Below.refl _ _))
end Go.Proofs.YtbhcckhbbclemaaGreatDoor
