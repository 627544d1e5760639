/- Parts of the proof, joined. -/
import Derived.Test.YtejbgingjeedaaaGreatDoorJ8
import Derived.Test.YtejbgingjeedaaaGreatDoorJ1
set_option linter.unusedSimpArgs false
set_option linter.unusedVariables false
namespace Go.Proofs.YtejbgingjeedaaaGreatDoor
open Go.RowKit Pl
theorem yJ (p q:Rat) (w:World) (hp:Sm p) (hq:Sm q):Calls Tryz.prog 141 #[kF p.num p.den,kF q.num q.den] w (gU w (p+q)):=by
 by_cases hd:p.den=q.den
 ·exact xH p q w hp hq hd
 ·exact vC p q w hp hq hd
set_option maxRecDepth 100000 in
set_option maxHeartbeats 8000000 in
theorem plus_nb (v v' : Value) (p q:Rat) (w:World) (h:Nb w v p) (h' : Nb w v' q) (hp:Lf 36 p) (hq:Lf 36 q):Calls Tryz.prog 79 #[v,v'] w (GivesNb w (p+q)):=by
 obtain ⟨n1,d1,a1,rfl⟩:=h.form
 obtain ⟨n2,d2,a2,rfl⟩:=h'.form
 obtain ⟨hk1,hk2,hk3,hb1⟩:=eJ w (.cells #[.int .i64 n1,.int .i64 d1,.pointer a1] 69) (.cells #[.int .i64 n2,.int .i64 d2,.pointer a2] 69) (.cells #[.int .i64 0,.int .i64 0,.pointer none] 69)
 have H:=aH (aI (h.below hb1) (aI (h'.below hb1) (aI hp (aI hq (aI hb1 (aI hk1 (aI hk2 hk3)))))))
 by_cases hs:Sm p∧Sm q
 ·have e1:Value.agg #[.int .i64 n1,.int .i64 d1,.pointer a1]=kF p.num p.den:=by
   rcases h with ⟨_,e⟩|⟨hn,_⟩
   ·exact e
   ·exact absurd hs.1 hn
  have e2:Value.agg #[.int .i64 n2,.int .i64 d2,.pointer a2]=kF q.num q.den:=by
   rcases h' with ⟨_,e⟩|⟨hn,_⟩
   ·exact e
   ·exact absurd hs.2 hn
  have ha:∀ w',Calls Tryz.prog 140 #[.agg #[.int .i64 n1,.int .i64 d1,.pointer a1],.agg #[.int .i64 n2,.int .i64 d2,.pointer a2]] w' (Gives w' (.bool true)):=fun w'=>rL _ _ p q w' hs.1 hs.2 e1 e2
  have hc:∀ w',Calls Tryz.prog 141 #[.agg #[.int .i64 n1,.int .i64 d1,.pointer a1],.agg #[.int .i64 n2,.int .i64 d2,.pointer a2]] w' (gU w' (p+q)):=fun w'=>by
   rw [e1,e2]
   exact yJ p q w' hs.1 hs.2
  have HS:=aH (aI ha hc)
  clear ha hc e1 e2 hs h h' hp hq hb1 hk1 hk2 hk3
  go_enter Tryz.func79,Tryz.ntmps79
  go_wp2_with fail
  refine (HS.out.1 _).mono ?_
  rintro e w2 ⟨rfl,b2⟩
  have B2:=aH (aI (Below.step_trans H.out.2.2.2.2.1 b2) (aI b2 (aI (aM b2 H.out.2.2.2.2.2.1) (aI (aM b2 H.out.2.2.2.2.2.2.1) (aM b2 H.out.2.2.2.2.2.2.2)))))
  obtain ⟨⟨u0,u1,u2⟩,_⟩:=dN (aM b2 H.out.2.2.2.2.2.1)
  obtain ⟨⟨u3,u4,u5⟩,_⟩:=dN (aM b2 H.out.2.2.2.2.2.2.1)
  clear b2
  go_wp2_with fail
  refine (HS.out.2 _).mono ?_
  rintro e w3 ⟨rn,rd,ok,rfl,hok,b3⟩
  have hA3:=aM b3 B2.out.2.2.1
  have hC3:=aM b3 B2.out.2.2.2.1
  have hR3:=aM b3 B2.out.2.2.2.2
  have B3:=aH (aI hok (aI (Below.step_trans B2.out.1 b3) (aI (Below.step_trans B2.out.2.1 b3) (aI hA3 (aI hC3 hR3)))))
  clear u0 u1 u2 u3 u4 u5 b3 hok hA3 hC3 hR3
  have hlt3:=lt_of_block B3.out.2.2.2.2.2
  cases ok
  ·go_wp2
   have hb4:Below w3.heap.size w3 (w3.alloc (.cells #[.int .i64 rn,.int .i64 rd,.pointer none] 69)):=(Below.refl _ _).alloc (Nat.le_refl _) _
   have B4:=aH (aI (Below.step_trans B3.out.2.1 hb4) (aI (Below.step_trans B3.out.2.2.1 hb4) (aI (aM hb4 B3.out.2.2.2.1) (aI (aM hb4 B3.out.2.2.2.2.1) (aM hb4 B3.out.2.2.2.2.2)))))
   clear hb4
   generalize w3.alloc (.cells #[.int .i64 rn,.int .i64 rd,.pointer none] 69)=w4 at *
   have hA:=B4.out.2.2.1
   have hC:=B4.out.2.2.2.1
   have hR:=B4.out.2.2.2.2
   have t1:∀ w',Base [w.heap.size+1+1] w4 w'→Calls Tryz.prog 142 #[.agg #[.int .i64 n1,.int .i64 d1,.pointer a1]] w' (TyPost w' (fK p)):=fun w' hB =>
    GivesFr.ty (cD _ _ _ (Nb.ext (K:=Kn) (fun _=>rfl) (fun _=>rfl) (H.out.1.below B4.out.2.1) (hB.extT B4.out.2.2.2.2 (by simp [hotObj,Kn]))))
   have t2:∀ w',Base [w.heap.size+1+1] w4 w'→Calls Tryz.prog 142 #[.agg #[.int .i64 n2,.int .i64 d2,.pointer a2]] w' (TyPost w' (fK q)):=fun w' hB =>
    GivesFr.ty (cD _ _ _ (Nb.ext (K:=Kn) (fun _=>rfl) (fun _=>rfl) (H.out.2.1.below B4.out.2.1) (hB.extT B4.out.2.2.2.2 (by simp [hotObj,Kn]))))
   have t3:∀ w' x y,Fr w' x p→Fr w' y q→Calls Tryz.prog 143 #[x,y] w' (TyPost w' (fK (p+q))):=fun w' x y hx hy=>GivesFr.ty (uK x y p q w' hx hy H.out.2.2.1 H.out.2.2.2.1)
   have t4:∀ w' x,Fr w' x (p+q)→Calls Tryz.prog 57 #[x] w' (TyPost w' (jF (p+q))):=fun w' x hx=>GivesNb.ty (eY x _ w' hx)
   have T:=aH (aI t1 (aI t2 (aI t3 t4)))
   clear t1 t2 t3 t4
   refine wp_region_ty Kn [w.heap.size+1+1] (by kernel_rfl) (by kernel_rfl) ?_
   repeat (first|(apply bQ (hg:=rfl);case h=>(intro A w' hB hk;simp [known,specOf,Kd.spec,Sp.is,isVar,Oper.looksAt,Op.operands,Call.operands,Act.eval] at hk;have c_hA:=aA (hB.blk hA (by first|(simp;done)|(simp;omega)));have c_hC:=aA (hB.blk hC (by first|(simp;done)|(simp;omega)));first|(simp [go_sem,hk,c_hA,c_hC];done)|(simp [go_sem,hk,c_hA,c_hC];rfl)|(simp [go_sem,c_hA,c_hC];rfl)))|(refine aV _ ?_ (by first|exact .inl rfl|exact .inr rfl) (by rfl) (by simp [specOf,Kd.spec];rfl) ?_ rfl ?_;(first|exact Sp.is_stable _ _|exact aL (fun _=>rfl) _|exact spTwo_stable (fun _=>rfl) _ _|exact spFr_stable (fun _=>rfl) _|exact spSum_stable (fun _=>rfl) _|exact spSgn_stable _ _|exact spNb_stable (fun _=>rfl) (fun _=>rfl) _|exact spVc_stable (fun _=>rfl) (fun _=>rfl) _)))
   refine aO (fK p) (spFr_stable (fun _=>rfl) _) rfl (fun A w' hB hk=>?_) ?_;(simp [known,specOf,Kd.spec,Sp.is,isVar,Oper.looksAt,Op.operands,Call.operands,Act.eval] at hk;have c_hA:=aA (hB.blk hA (by first|(simp;done)|(simp;omega)));simp [go_sem,hk,c_hA];refine aG ?_;exact T.out.1 _ hB)
   repeat (first|(apply bQ (hg:=rfl);case h=>(intro A w' hB hk;simp [known,specOf,Kd.spec,Sp.is,isVar,Oper.looksAt,Op.operands,Call.operands,Act.eval] at hk;have c_hA:=aA (hB.blk hA (by first|(simp;done)|(simp;omega)));have c_hC:=aA (hB.blk hC (by first|(simp;done)|(simp;omega)));first|(simp [go_sem,hk,c_hA,c_hC];done)|(simp [go_sem,hk,c_hA,c_hC];rfl)|(simp [go_sem,c_hA,c_hC];rfl)))|(refine aV _ ?_ (by first|exact .inl rfl|exact .inr rfl) (by rfl) (by simp [specOf,Kd.spec];rfl) ?_ rfl ?_;(first|exact Sp.is_stable _ _|exact aL (fun _=>rfl) _|exact spTwo_stable (fun _=>rfl) _ _|exact spFr_stable (fun _=>rfl) _|exact spSum_stable (fun _=>rfl) _|exact spSgn_stable _ _|exact spNb_stable (fun _=>rfl) (fun _=>rfl) _|exact spVc_stable (fun _=>rfl) (fun _=>rfl) _)))
   refine aO (fK q) (spFr_stable (fun _=>rfl) _) rfl (fun A w' hB hk=>?_) ?_;(simp [known,specOf,Kd.spec,Sp.is,isVar,Oper.looksAt,Op.operands,Call.operands,Act.eval] at hk;have c_hA:=aA (hB.blk hA (by first|(simp;done)|(simp;omega)));simp [go_sem,hk,c_hA];refine aG ?_;exact T.out.2.1 _ hB)
   refine aO (fK (p+q)) (spFr_stable (fun _=>rfl) _) rfl (fun A w' hB hk=>?_) ?_;(simp [known,specOf,Kd.spec,Sp.is,isVar,Oper.looksAt,Op.operands,Call.operands,Act.eval] at hk;have c_hA:=aA (hB.blk hA (by first|(simp;done)|(simp;omega)));simp [go_sem,hk,c_hA];refine aG ?_;exact T.out.2.2.1 _ _ _ hk.1 hk.2)
   refine aO (jF (p+q)) (spNb_stable (fun _=>rfl) (fun _=>rfl) _) rfl (fun A w' hB hk=>?_) ?_;(simp [known,specOf,Kd.spec,Sp.is,isVar,Oper.looksAt,Op.operands,Call.operands,Act.eval] at hk;have c_hA:=aA (hB.blk hA (by first|(simp;done)|(simp;omega)));simp [go_sem,hk,c_hA];refine aG ?_;exact T.out.2.2.2 _ _ hk)
   refine gR (w.heap.size+1+1) (_) (coNb (p+q)) (eF (fun _=>rfl) (fun _=>rfl) _) rfl rfl (by simp) (by assumption) (by simp [hotObj,Ku,Kn]) (fun A w' hB hk h0=>?_) ?_;(simp [known,specOf,Kd.spec,Sp.is,isVar,Oper.looksAt,Op.operands,Call.operands,Act.eval] at hk;have c_hA:=aA (hB.blk hA (by first|(simp;done)|(simp;omega)));have c0:=aA h0;have f0:=aW h0;obtain ⟨k1,k2⟩:=hk;obtain ⟨y1,y2,y3,e1⟩:=(show Nb _ _ _ from k2).form;rw [e1] at k2;simp [go_sem,k1,e1,c0,f0];exact ⟨_,eI h0 _ _ _,_,_,_,rfl,k2⟩)
   refine ⟨by first|rfl|decide,fun f w2 hB hF hAp=>?_⟩;simp [Final1,Sp.is,isVar] at hF;simp only [frameOf]
   obtain ⟨o,⟨y1,y2,y3,rfl,k3⟩,ho⟩:=hF.1
   obtain ⟨⟨r0,r1,r2⟩,_⟩:=dN ho
   have K:=aH (aI k3 hB)
   clear k3 hB ho hA hC hR hAp hF
   go_wp2
   refine bodyPost_ret (v := .agg #[.int .i64 y1,.int .i64 y2,.pointer y3]) (by simp [results,Tryz.results79,go_sem,r0,r1,r2,Act.put]) rfl ⟨_,rfl,K.out.1,?_⟩
   exact Base.belowT K.out.2 B4.out.1 (by omega)
  ·obtain ⟨hsm,hv⟩:=B3.out.1 rfl
   obtain ⟨⟨g0,g1,g2⟩,f0,f1,f2⟩:=dN B3.out.2.2.2.2.2
   have HV:=aH (aI hsm hv)
   clear hsm hv
   have hpast:∀ (W:World) (o:Obj) (i:Nat),W.heap.size=w3.heap.size→(W.alloc o).cell? ⟨w.heap.size+1+1,i,none⟩=W.cell? ⟨w.heap.size+1+1,i,none⟩:=fun W o i h=>World.cell?_alloc_past _ _ _ (by show w.heap.size+1+1<W.heap.size;omega)
   have HP:=aH hpast
   clear hpast
   go_wp2
   refine bodyPost_ret (v := .agg #[.int .i64 rn,.int .i64 rd,.pointer none]) (by simp [results,Tryz.results79,go_sem,g0,g1,g2,HP.out]) rfl ⟨_,rfl,.inl HV.out,?_⟩
   repeat (first|exact B3.out.2.1|(refine Below.setCell ?_ (by first|omega|(simp;done)|(simp;omega)) _)|(refine Below.alloc ?_ (by first|omega|(simp;done)|(simp;omega)) _)|(refine Below.drew ?_)|exact Below.refl _ _)
 ·have ha:∀ w',Below w.heap.size w w'→Calls Tryz.prog 140 #[.agg #[.int .i64 n1,.int .i64 d1,.pointer a1],.agg #[.int .i64 n2,.int .i64 d2,.pointer a2]] w' (Gives w' (.bool false)):=fun w' hb=>uL _ _ p q w' (h.below hb) (h'.below hb) hs
  have HS:=aH ha
  clear ha hs h h' hp hq hb1 hk1 hk2 hk3
  go_enter Tryz.func79,Tryz.ntmps79
  go_wp2_with fail
  refine (HS.out _ H.out.2.2.2.2.1).mono ?_
  rintro e w2 ⟨rfl,b2⟩
  have B2:=aH (aI (Below.step_trans H.out.2.2.2.2.1 b2) (aI b2 (aI (aM b2 H.out.2.2.2.2.2.1) (aI (aM b2 H.out.2.2.2.2.2.2.1) (aM b2 H.out.2.2.2.2.2.2.2)))))
  clear b2
  go_wp2
  have hA:=B2.out.2.2.1
  have hC:=B2.out.2.2.2.1
  have hR:=B2.out.2.2.2.2
  have t1:∀ w',Base [w.heap.size+1+1] w2 w'→Calls Tryz.prog 142 #[.agg #[.int .i64 n1,.int .i64 d1,.pointer a1]] w' (TyPost w' (fK p)):=fun w' hB =>
   GivesFr.ty (cD _ _ _ (Nb.ext (K:=Kn) (fun _=>rfl) (fun _=>rfl) (H.out.1.below B2.out.2.1) (hB.extT B2.out.2.2.2.2 (by simp [hotObj,Kn]))))
  have t2:∀ w',Base [w.heap.size+1+1] w2 w'→Calls Tryz.prog 142 #[.agg #[.int .i64 n2,.int .i64 d2,.pointer a2]] w' (TyPost w' (fK q)):=fun w' hB =>
   GivesFr.ty (cD _ _ _ (Nb.ext (K:=Kn) (fun _=>rfl) (fun _=>rfl) (H.out.2.1.below B2.out.2.1) (hB.extT B2.out.2.2.2.2 (by simp [hotObj,Kn]))))
  have t3:∀ w' x y,Fr w' x p→Fr w' y q→Calls Tryz.prog 143 #[x,y] w' (TyPost w' (fK (p+q))):=fun w' x y hx hy=>GivesFr.ty (uK x y p q w' hx hy H.out.2.2.1 H.out.2.2.2.1)
  have t4:∀ w' x,Fr w' x (p+q)→Calls Tryz.prog 57 #[x] w' (TyPost w' (jF (p+q))):=fun w' x hx=>GivesNb.ty (eY x _ w' hx)
  have T:=aH (aI t1 (aI t2 (aI t3 t4)))
  clear t1 t2 t3 t4
  refine wp_region_ty Kn [w.heap.size+1+1] (by kernel_rfl) (by kernel_rfl) ?_
  repeat (first|(apply bQ (hg:=rfl);case h=>(intro A w' hB hk;simp [known,specOf,Kd.spec,Sp.is,isVar,Oper.looksAt,Op.operands,Call.operands,Act.eval] at hk;have c_hA:=aA (hB.blk hA (by first|(simp;done)|(simp;omega)));have c_hC:=aA (hB.blk hC (by first|(simp;done)|(simp;omega)));first|(simp [go_sem,hk,c_hA,c_hC];done)|(simp [go_sem,hk,c_hA,c_hC];rfl)|(simp [go_sem,c_hA,c_hC];rfl)))|(refine aV _ ?_ (by first|exact .inl rfl|exact .inr rfl) (by rfl) (by simp [specOf,Kd.spec];rfl) ?_ rfl ?_;(first|exact Sp.is_stable _ _|exact aL (fun _=>rfl) _|exact spTwo_stable (fun _=>rfl) _ _|exact spFr_stable (fun _=>rfl) _|exact spSum_stable (fun _=>rfl) _|exact spSgn_stable _ _|exact spNb_stable (fun _=>rfl) (fun _=>rfl) _|exact spVc_stable (fun _=>rfl) (fun _=>rfl) _)))
  refine aO (fK p) (spFr_stable (fun _=>rfl) _) rfl (fun A w' hB hk=>?_) ?_;(simp [known,specOf,Kd.spec,Sp.is,isVar,Oper.looksAt,Op.operands,Call.operands,Act.eval] at hk;have c_hA:=aA (hB.blk hA (by first|(simp;done)|(simp;omega)));simp [go_sem,hk,c_hA];refine aG ?_;exact T.out.1 _ hB)
  repeat (first|(apply bQ (hg:=rfl);case h=>(intro A w' hB hk;simp [known,specOf,Kd.spec,Sp.is,isVar,Oper.looksAt,Op.operands,Call.operands,Act.eval] at hk;have c_hA:=aA (hB.blk hA (by first|(simp;done)|(simp;omega)));have c_hC:=aA (hB.blk hC (by first|(simp;done)|(simp;omega)));first|(simp [go_sem,hk,c_hA,c_hC];done)|(simp [go_sem,hk,c_hA,c_hC];rfl)|(simp [go_sem,c_hA,c_hC];rfl)))|(refine aV _ ?_ (by first|exact .inl rfl|exact .inr rfl) (by rfl) (by simp [specOf,Kd.spec];rfl) ?_ rfl ?_;(first|exact Sp.is_stable _ _|exact aL (fun _=>rfl) _|exact spTwo_stable (fun _=>rfl) _ _|exact spFr_stable (fun _=>rfl) _|exact spSum_stable (fun _=>rfl) _|exact spSgn_stable _ _|exact spNb_stable (fun _=>rfl) (fun _=>rfl) _|exact spVc_stable (fun _=>rfl) (fun _=>rfl) _)))
  refine aO (fK q) (spFr_stable (fun _=>rfl) _) rfl (fun A w' hB hk=>?_) ?_;(simp [known,specOf,Kd.spec,Sp.is,isVar,Oper.looksAt,Op.operands,Call.operands,Act.eval] at hk;have c_hA:=aA (hB.blk hA (by first|(simp;done)|(simp;omega)));simp [go_sem,hk,c_hA];refine aG ?_;exact T.out.2.1 _ hB)
  refine aO (fK (p+q)) (spFr_stable (fun _=>rfl) _) rfl (fun A w' hB hk=>?_) ?_;(simp [known,specOf,Kd.spec,Sp.is,isVar,Oper.looksAt,Op.operands,Call.operands,Act.eval] at hk;have c_hA:=aA (hB.blk hA (by first|(simp;done)|(simp;omega)));simp [go_sem,hk,c_hA];refine aG ?_;exact T.out.2.2.1 _ _ _ hk.1 hk.2)
  refine aO (jF (p+q)) (spNb_stable (fun _=>rfl) (fun _=>rfl) _) rfl (fun A w' hB hk=>?_) ?_;(simp [known,specOf,Kd.spec,Sp.is,isVar,Oper.looksAt,Op.operands,Call.operands,Act.eval] at hk;have c_hA:=aA (hB.blk hA (by first|(simp;done)|(simp;omega)));simp [go_sem,hk,c_hA];refine aG ?_;exact T.out.2.2.2 _ _ hk)
  refine gR (w.heap.size+1+1) (_) (coNb (p+q)) (eF (fun _=>rfl) (fun _=>rfl) _) rfl rfl (by simp) (by assumption) (by simp [hotObj,Ku,Kn]) (fun A w' hB hk h0=>?_) ?_;(simp [known,specOf,Kd.spec,Sp.is,isVar,Oper.looksAt,Op.operands,Call.operands,Act.eval] at hk;have c_hA:=aA (hB.blk hA (by first|(simp;done)|(simp;omega)));have c0:=aA h0;have f0:=aW h0;obtain ⟨k1,k2⟩:=hk;obtain ⟨y1,y2,y3,e1⟩:=(show Nb _ _ _ from k2).form;rw [e1] at k2;simp [go_sem,k1,e1,c0,f0];exact ⟨_,eI h0 _ _ _,_,_,_,rfl,k2⟩)
  refine ⟨by first|rfl|decide,fun f w2 hB hF hAp=>?_⟩;simp [Final1,Sp.is,isVar] at hF;simp only [frameOf]
  obtain ⟨o,⟨y1,y2,y3,rfl,k3⟩,ho⟩:=hF.1
  obtain ⟨⟨r0,r1,r2⟩,_⟩:=dN ho
  have K:=aH (aI k3 hB)
  clear k3 hB ho hA hC hR hAp hF
  go_wp2
  refine bodyPost_ret (v := .agg #[.int .i64 y1,.int .i64 y2,.pointer y3]) (by simp [results,Tryz.results79,go_sem,r0,r1,r2,Act.put]) rfl ⟨_,rfl,K.out.1,?_⟩
  exact Base.belowT K.out.2 B2.out.1 (by omega)
theorem tI (n d:Int) (w:World) (h1:-9223372036854775807≤d) (h2:d≤9223372036854775807):Calls Tryz.prog 124 #[.int .i64 n,.int .i64 d] w (Gives w (.agg #[.int .i64 n,.int .i64 (d-1),.pointer none])):=by
 go_enter Tryz.func124,Tryz.ntmps124
 go_wp2
 refine bodyPost_ret (v := .agg #[.int .i64 n,.int .i64 (d-1),.pointer none]) (by simp [results,Tryz.results124,go_sem]) rfl ⟨rfl,?_⟩
 repeat (first|exact Below.refl _ _|(refine Below.setCell ?_ (by first|omega|(simp;done)|(simp;omega)) _)|(refine Below.alloc ?_ (by first|omega|(simp;done)|(simp;omega)) _)|(refine Below.drew ?_)|exact Below.refl _ _)
theorem mul_lr (p q:Rat):(p*q).num=(mkRat p.num q.den).num*(mkRat q.num p.den).num∧(p*q).den=(mkRat p.num q.den).den*(mkRat q.num p.den).den:=by
 by_cases hp:p=0
 ·subst hp
  rw [Rat.zero_mul,show (0:Rat).num=0 from rfl,Rat.zero_mkRat,show (0:Rat).den=1 from rfl,show (0:Rat).num=0 from rfl,Int.zero_mul]
  refine ⟨rfl,?_⟩
  rw [Rat.den_mkRat,if_neg (by omega),Nat.gcd_one_left]
 ·by_cases hq:q=0
  ·subst hq
   rw [Rat.mul_zero,show (0:Rat).num=0 from rfl,Rat.zero_mkRat,show (0:Rat).den=1 from rfl,show (0:Rat).num=0 from rfl,Int.mul_zero]
   refine ⟨rfl,?_⟩
   rw [Rat.den_mkRat,if_neg (by omega),Nat.gcd_one_left]
  ·have h1:(mkRat p.num q.den).num.natAbs≠0:=fun h=>by
    have:(mkRat p.num q.den)=0:=Rat.num_eq_zero.1 (by omega)
    rw [Rat.mkRat_eq_zero q.den_nz] at this
    exact hp (Rat.num_eq_zero.1 this)
   have h2:(mkRat q.num p.den).num.natAbs≠0:=fun h=>by
    have:(mkRat q.num p.den)=0:=Rat.num_eq_zero.1 (by omega)
    rw [Rat.mkRat_eq_zero p.den_nz] at this
    exact hq (Rat.num_eq_zero.1 this)
   have h3:=Parts.mul (Parts.self (mkRat p.num q.den)) (Parts.self (mkRat q.num p.den)) h1 h2
   refine ⟨?_,h3.2.2.symm⟩
   rw [h3.num_eq,← sg_sg,wL,wL]
theorem sm_lr {p q:Rat} (hp:Sm p) (hq:Sm q):Sm (mkRat p.num q.den):=by
 obtain ⟨h1,h2⟩:=dS p.num q.den_nz
 exact ⟨Nat.le_trans h1 hp.1,Nat.le_trans h2 hq.2⟩
set_option maxRecDepth 100000 in
set_option maxHeartbeats 8000000 in
theorem xI (p q:Rat) (w:World) (hp:Sm p) (hq:Sm q):Calls Tryz.prog 192 #[kF p.num p.den,kF q.num q.den] w (gU w (p*q)):=by
 obtain ⟨hmn,hmd⟩:=mul_lr p q
 have hL:=sm_lr hp hq
 have hR:=sm_lr hq hp
 have mp:=iT hp
 have mq:=iT hq
 have np:=iU hp
 have nq:=iU hq
 obtain ⟨l1,_⟩:=oX p.num q.den (by have:=np.1;omega) np.2 q.den_pos mq.2
 obtain ⟨l2,_⟩:=oX q.num p.den (by have:=nq.1;omega) nq.2 p.den_pos mp.2
 have mL:=iT hL
 have mR:=iT hR
 obtain ⟨r1,o1,c1,e1,x1⟩:=gL _ _ (iU hL) (iU hR)
 obtain ⟨r2,o2,c2,e2,x2⟩:=gL ((mkRat p.num q.den).den:Int) ((mkRat q.num p.den).den:Int) ⟨by omega,mL.2⟩ ⟨by omega,mR.2⟩
 have hout:(o1&&o2)=true→Sm (p*q)∧.agg #[.int .i64 r1,.int .i64 (r2-1),.pointer none]=kF (p*q).num (p*q).den:=fun h=>by
  rw [Bool.and_eq_true] at h
  obtain ⟨y1,z1⟩:=e1 h.1
  obtain ⟨y2,z2⟩:=e2 h.2
  have hn:(p*q).num=r1:=by rw [hmn,y1]
  have hd:(((p*q).den:Nat):Int)=r2:=by rw [hmd,y2];simp
  refine ⟨⟨?_,?_⟩,by rw [kF,hn,hd]⟩
  ·rw [hn,eK];obtain ⟨a,b⟩:=x1;omega
  ·rw [eK];obtain ⟨a,b⟩:=x2;omega
 unfold kF at l1 l2 ⊢
 obtain ⟨n,hn⟩:∃ n,n=p.num:=⟨_,rfl⟩
 obtain ⟨m,hm⟩:∃ m,m=q.num:=⟨_,rfl⟩
 obtain ⟨d,hd⟩:∃ d:Int,d=(p.den:Int):=⟨_,rfl⟩
 obtain ⟨k,hk⟩:∃ k:Int,k=(q.den:Int):=⟨_,rfl⟩
 obtain ⟨ln,hln⟩:∃ ln,ln=(mkRat p.num q.den).num:=⟨_,rfl⟩
 obtain ⟨ld,hld⟩:∃ ld:Int,ld=((mkRat p.num q.den).den:Int):=⟨_,rfl⟩
 obtain ⟨rn,hrn⟩:∃ rn,rn=(mkRat q.num p.den).num:=⟨_,rfl⟩
 obtain ⟨rd,hrd⟩:∃ rd:Int,rd=((mkRat q.num p.den).den:Int):=⟨_,rfl⟩
 rw [← hln,← hld] at l1
 rw [← hrn,← hrd] at l2
 rw [← hln,← hrn] at c1
 rw [← hld,← hrd] at c2
 rw [← hld] at mL
 rw [← hrd] at mR
 rw [← hn,← hk] at l1
 rw [← hm,← hd] at l2
 rw [← hd] at mp ⊢
 rw [← hk] at mq ⊢
 rw [← hn,← hm]
 have hden:∀ (a b:Int) (w' : World),1≤b→b≤9223372036854775807→Calls Tryz.prog 131 #[.agg #[.int .i64 a,.int .i64 (b-1),.pointer none]] w' (TyPost w' (Sp.is (.int .i64 b))):=fun a b w' h1 h2=>by
  have:=Gives.ty (mV a (b-1) none w' (by omega) (by omega))
  rwa [Int.sub_add_cancel] at this
 obtain ⟨hk1,hk2,hk3,hb1⟩:=eJ w (.cells #[.int .i64 n,.int .i64 (d-1),.pointer none] 69) (.cells #[.int .i64 m,.int .i64 (k-1),.pointer none] 69) (.cells #[.int .i64 0,.int .i64 0,.pointer none] 69)
 have H:=aH (aI l1 (aI l2 (aI c1 (aI c2 (aI hout (aI hb1 (aI hk3 (aI hden (aI mp (aI mq (aI mL (aI mR x2))))))))))))
 have HK:=aH (aI hk1 hk2)
 clear hmn hmd hL hR hp hq mp mq np nq l1 l2 mL mR c1 e1 x1 c2 e2 x2 hout hden hk1 hk2 hk3 hb1 hn hm hd hk hln hld hrn hrd
 go_enter Tryz.func192,Tryz.ntmps192
 go_wp2
 generalize ((w.alloc (.cells #[.int .i64 n,.int .i64 (d-1),.pointer none] 69)).alloc (.cells #[.int .i64 m,.int .i64 (k-1),.pointer none] 69)).alloc (.cells #[.int .i64 0,.int .i64 0,.pointer none] 69)=w1 at *
 have hA:=HK.out.1
 have hC:=HK.out.2
 have hR:=H.out.2.2.2.2.2.2.1
 have hW:=H.out.2.2.2.2.2.1
 refine wp_region_ty Kn [] (by kernel_rfl) (by kernel_rfl) ?_
 repeat (first|(apply bQ (hg:=rfl);case h=>(intro A w' hB hk;simp [known,specOf,Kd.spec,Sp.is,isVar,Oper.looksAt,Op.operands,Call.operands,Act.eval] at hk;have c_hA:=aA (hB.blk hA (by first|(simp;done)|(simp;omega)));have c_hC:=aA (hB.blk hC (by first|(simp;done)|(simp;omega)));first|(simp [go_sem,hk,c_hA,c_hC];done)|(simp [go_sem,hk,c_hA,c_hC];rfl)|(simp [go_sem,c_hA,c_hC];rfl)))|(refine aV _ ?_ (by first|exact .inl rfl|exact .inr rfl) (by rfl) (by simp [specOf,Kd.spec];rfl) ?_ rfl ?_;(first|exact Sp.is_stable _ _|exact aL (fun _=>rfl) _|exact spTwo_stable (fun _=>rfl) _ _|exact spFr_stable (fun _=>rfl) _|exact spSum_stable (fun _=>rfl) _|exact spSgn_stable _ _|exact spNb_stable (fun _=>rfl) (fun _=>rfl) _|exact spVc_stable (fun _=>rfl) (fun _=>rfl) _)))
 refine aO (Sp.is (.int .i64 k)) (Sp.is_stable _ _) rfl (fun A w' hB hk=>?_) ?_;(simp [known,specOf,Kd.spec,Sp.is,isVar,Oper.looksAt,Op.operands,Call.operands,Act.eval] at hk;have c_hA:=aA (hB.blk hA (by first|(simp;done)|(simp;omega)));simp [go_sem,hk,c_hA];refine aG ?_;exact H.out.2.2.2.2.2.2.2.1 _ _ _ H.out.2.2.2.2.2.2.2.2.2.1.1 H.out.2.2.2.2.2.2.2.2.2.1.2)
 refine aO (Sp.is (.agg #[.int .i64 ln,.int .i64 (ld-1),.pointer none])) (Sp.is_stable _ _) rfl (fun A w' hB hk=>?_) ?_;(simp [known,specOf,Kd.spec,Sp.is,isVar,Oper.looksAt,Op.operands,Call.operands,Act.eval] at hk;have c_hA:=aA (hB.blk hA (by first|(simp;done)|(simp;omega)));simp [go_sem,hk,c_hA];refine aG ?_;exact Gives.ty (H.out.1 _))
 repeat (first|(apply bQ (hg:=rfl);case h=>(intro A w' hB hk;simp [known,specOf,Kd.spec,Sp.is,isVar,Oper.looksAt,Op.operands,Call.operands,Act.eval] at hk;have c_hA:=aA (hB.blk hA (by first|(simp;done)|(simp;omega)));have c_hC:=aA (hB.blk hC (by first|(simp;done)|(simp;omega)));first|(simp [go_sem,hk,c_hA,c_hC];done)|(simp [go_sem,hk,c_hA,c_hC];rfl)|(simp [go_sem,c_hA,c_hC];rfl)))|(refine aV _ ?_ (by first|exact .inl rfl|exact .inr rfl) (by rfl) (by simp [specOf,Kd.spec];rfl) ?_ rfl ?_;(first|exact Sp.is_stable _ _|exact aL (fun _=>rfl) _|exact spTwo_stable (fun _=>rfl) _ _|exact spFr_stable (fun _=>rfl) _|exact spSum_stable (fun _=>rfl) _|exact spSgn_stable _ _|exact spNb_stable (fun _=>rfl) (fun _=>rfl) _|exact spVc_stable (fun _=>rfl) (fun _=>rfl) _)))
 refine aO (Sp.is (.int .i64 d)) (Sp.is_stable _ _) rfl (fun A w' hB hk=>?_) ?_;(simp [known,specOf,Kd.spec,Sp.is,isVar,Oper.looksAt,Op.operands,Call.operands,Act.eval] at hk;have c_hA:=aA (hB.blk hA (by first|(simp;done)|(simp;omega)));simp [go_sem,hk,c_hA];refine aG ?_;exact H.out.2.2.2.2.2.2.2.1 _ _ _ H.out.2.2.2.2.2.2.2.2.1.1 H.out.2.2.2.2.2.2.2.2.1.2)
 refine aO (Sp.is (.agg #[.int .i64 rn,.int .i64 (rd-1),.pointer none])) (Sp.is_stable _ _) rfl (fun A w' hB hk=>?_) ?_;(simp [known,specOf,Kd.spec,Sp.is,isVar,Oper.looksAt,Op.operands,Call.operands,Act.eval] at hk;have c_hA:=aA (hB.blk hA (by first|(simp;done)|(simp;omega)));simp [go_sem,hk,c_hA];refine aG ?_;exact Gives.ty (H.out.2.1 _))
 (apply aAg (hg:=rfl) (hd:=rfl);(case h=>(intro A w';simp [go_sem];rfl));(case hc=>simp [hotObj,Ku,Kn]))
 (apply aAg (hg:=rfl) (hd:=rfl);(case h=>(intro A w';simp [go_sem];rfl));(case hc=>simp [hotObj,Ku,Kn]))
 refine aAh 6 ((.cells #[.int .i64 0,.int .i64 0,.pointer none] 69 (0,0))) (coIs (.cells #[.int .i64 ln,.int .i64 (ld-1),.pointer none] 69 (0,0))) (oC _ _) rfl rfl (by simp [Oper.looksAt,Op.operands]) (by simp) (fun A w' b hB hk hd h0=>?_) ?_;(simp [known,specOf,Kd.spec,Sp.is,isVar,Oper.looksAt,Op.operands,Call.operands,Act.eval] at hk;simp [Act.eval] at hd;have c_hA:=aA (hB.blk hA (by first|(simp;done)|(simp;omega)));have c0:=aA h0;have f0:=aW h0;simp [go_sem,hd,hk,c0,f0];exact ⟨_,eI h0 _ _ _,rfl⟩)
 refine aAh 7 ((.cells #[.int .i64 0,.int .i64 0,.pointer none] 69 (0,0))) (coIs (.cells #[.int .i64 rn,.int .i64 (rd-1),.pointer none] 69 (0,0))) (oC _ _) rfl rfl (by simp [Oper.looksAt,Op.operands]) (by simp) (fun A w' b hB hk hd h0=>?_) ?_;(simp [known,specOf,Kd.spec,Sp.is,isVar,Oper.looksAt,Op.operands,Call.operands,Act.eval] at hk;simp [Act.eval] at hd;have c_hA:=aA (hB.blk hA (by first|(simp;done)|(simp;omega)));have c0:=aA h0;have f0:=aW h0;simp [go_sem,hd,hk,c0,f0];exact ⟨_,eI h0 _ _ _,rfl⟩)
 refine ⟨by first|rfl|decide,fun f w2 hB hF hAp=>?_⟩;simp [Final1,Sp.is,isVar] at hF;simp only [frameOf]
 obtain ⟨b7,e7,l7,_,o7,rfl,ho7⟩:=hF.1
 obtain ⟨b6,e6,l6,_,o6,rfl,ho6⟩:=hF.2.1
 have hR:=hB.blk hR (by simp)
 have hW:=Below.step_trans hW hB.below
 obtain ⟨⟨g60,g61,g62⟩,_⟩:=dN ho6
 obtain ⟨⟨g70,g71,g72⟩,_⟩:=dN ho7
 have M:=aH (aI ho6 (aI ho7 (aI hR hW)))
 clear hB hAp hA hC hR hW ho6 ho7
 go_wp2_with fail
 refine (H.out.2.2.1 _).mono ?_
 rintro e w3 ⟨rfl,b3⟩
 have hA:=aM b3 M.out.1
 have hC:=aM b3 M.out.2.1
 have hR:=aM b3 M.out.2.2.1
 have hW:=Below.step_trans M.out.2.2.2 b3
 clear g60 g61 g62 g70 g71 g72 b3
 go_wp2
 refine wp_region_ty Kn [] (by kernel_rfl) (by kernel_rfl) ?_
 repeat (first|(apply bQ (hg:=rfl);case h=>(intro A w' hB hk;simp [known,specOf,Kd.spec,Sp.is,isVar,Oper.looksAt,Op.operands,Call.operands,Act.eval] at hk;have c_hA:=aA (hB.blk hA (by first|(simp;done)|(simp;omega)));have c_hC:=aA (hB.blk hC (by first|(simp;done)|(simp;omega)));first|(simp [go_sem,hk,c_hA,c_hC];done)|(simp [go_sem,hk,c_hA,c_hC];rfl)|(simp [go_sem,c_hA,c_hC];rfl)))|(refine aV _ ?_ (by first|exact .inl rfl|exact .inr rfl) (by rfl) (by simp [specOf,Kd.spec];rfl) ?_ rfl ?_;(first|exact Sp.is_stable _ _|exact aL (fun _=>rfl) _|exact spTwo_stable (fun _=>rfl) _ _|exact spFr_stable (fun _=>rfl) _|exact spSum_stable (fun _=>rfl) _|exact spSgn_stable _ _|exact spNb_stable (fun _=>rfl) (fun _=>rfl) _|exact spVc_stable (fun _=>rfl) (fun _=>rfl) _)))
 refine aO (Sp.is (.int .i64 ld)) (Sp.is_stable _ _) rfl (fun A w' hB hk=>?_) ?_;(simp [known,specOf,Kd.spec,Sp.is,isVar,Oper.looksAt,Op.operands,Call.operands,Act.eval] at hk;have c_hA:=aA (hB.blk hA (by first|(simp;done)|(simp;omega)));simp [go_sem,hk,c_hA];refine aG ?_;exact H.out.2.2.2.2.2.2.2.1 _ _ _ H.out.2.2.2.2.2.2.2.2.2.2.1.1 H.out.2.2.2.2.2.2.2.2.2.2.1.2)
 repeat (first|(apply bQ (hg:=rfl);case h=>(intro A w' hB hk;simp [known,specOf,Kd.spec,Sp.is,isVar,Oper.looksAt,Op.operands,Call.operands,Act.eval] at hk;have c_hA:=aA (hB.blk hA (by first|(simp;done)|(simp;omega)));have c_hC:=aA (hB.blk hC (by first|(simp;done)|(simp;omega)));first|(simp [go_sem,hk,c_hA,c_hC];done)|(simp [go_sem,hk,c_hA,c_hC];rfl)|(simp [go_sem,c_hA,c_hC];rfl)))|(refine aV _ ?_ (by first|exact .inl rfl|exact .inr rfl) (by rfl) (by simp [specOf,Kd.spec];rfl) ?_ rfl ?_;(first|exact Sp.is_stable _ _|exact aL (fun _=>rfl) _|exact spTwo_stable (fun _=>rfl) _ _|exact spFr_stable (fun _=>rfl) _|exact spSum_stable (fun _=>rfl) _|exact spSgn_stable _ _|exact spNb_stable (fun _=>rfl) (fun _=>rfl) _|exact spVc_stable (fun _=>rfl) (fun _=>rfl) _)))
 refine aO (Sp.is (.int .i64 rd)) (Sp.is_stable _ _) rfl (fun A w' hB hk=>?_) ?_;(simp [known,specOf,Kd.spec,Sp.is,isVar,Oper.looksAt,Op.operands,Call.operands,Act.eval] at hk;have c_hA:=aA (hB.blk hA (by first|(simp;done)|(simp;omega)));simp [go_sem,hk,c_hA];refine aG ?_;exact H.out.2.2.2.2.2.2.2.1 _ _ _ H.out.2.2.2.2.2.2.2.2.2.2.2.1.1 H.out.2.2.2.2.2.2.2.2.2.2.2.1.2)
 refine aO (Sp.is (.tuple #[.int .i64 r2,.bool o2])) (Sp.is_stable _ _) rfl (fun A w' hB hk=>?_) ?_;(simp [known,specOf,Kd.spec,Sp.is,isVar,Oper.looksAt,Op.operands,Call.operands,Act.eval] at hk;have c_hA:=aA (hB.blk hA (by first|(simp;done)|(simp;omega)));simp [go_sem,hk,c_hA];refine aG ?_;exact Gives.ty (H.out.2.2.2.1 _))
 repeat (first|(apply bQ (hg:=rfl);case h=>(intro A w' hB hk;simp [known,specOf,Kd.spec,Sp.is,isVar,Oper.looksAt,Op.operands,Call.operands,Act.eval] at hk;have c_hA:=aA (hB.blk hA (by first|(simp;done)|(simp;omega)));have c_hC:=aA (hB.blk hC (by first|(simp;done)|(simp;omega)));first|(simp [go_sem,hk,c_hA,c_hC];done)|(simp [go_sem,hk,c_hA,c_hC];rfl)|(simp [go_sem,c_hA,c_hC];rfl)))|(refine aV _ ?_ (by first|exact .inl rfl|exact .inr rfl) (by rfl) (by simp [specOf,Kd.spec];rfl) ?_ rfl ?_;(first|exact Sp.is_stable _ _|exact aL (fun _=>rfl) _|exact spTwo_stable (fun _=>rfl) _ _|exact spFr_stable (fun _=>rfl) _|exact spSum_stable (fun _=>rfl) _|exact spSgn_stable _ _|exact spNb_stable (fun _=>rfl) (fun _=>rfl) _|exact spVc_stable (fun _=>rfl) (fun _=>rfl) _)))
 refine ⟨by first|rfl|decide,fun f w2 hB hF hAp=>?_⟩;simp [Final1,Sp.is,isVar] at hF;simp only [frameOf,Act.put,List.setIfInBounds_toArray,List.set_cons_succ,List.set_cons_zero,hF]
 have hR:=hB.blk hR (by simp)
 have hW:=Below.step_trans hW hB.below
 clear hB hAp hA hC hF
 go_wp2_with fail
 refine (tI r1 r2 _ H.out.2.2.2.2.2.2.2.2.2.2.2.2.1 H.out.2.2.2.2.2.2.2.2.2.2.2.2.2).mono ?_
 rintro e w6 ⟨rfl,b6⟩
 obtain ⟨⟨r0,ra,rb⟩,f0,f1,f2⟩:=dN (aM b6 hR)
 have B6:=aH (Below.step_trans hW b6)
 clear b6 hR hW
 have hout:=H.out.2.2.2.2.1
 have HO:=aH hout
 clear hout
 cases o1 <;> cases o2
 all_goals
  go_wp2
  first
   | (refine bodyPost_ret (v := .tuple #[.agg #[.int .i64 r1,.int .i64 (r2-1),.pointer none],.bool true]) (by simp [results,Tryz.results192,go_sem,r0,ra,rb]) rfl ⟨_,_,_,rfl,fun _=>HO.out rfl,?_⟩
      repeat (first|exact B6.out|(refine Below.setCell ?_ (by first|omega|(simp;done)|(simp;omega)) _)|(refine Below.alloc ?_ (by first|omega|(simp;done)|(simp;omega)) _)|(refine Below.drew ?_)|exact Below.refl _ _))
   | (refine bodyPost_ret (v := .tuple #[.agg #[.int .i64 r1,.int .i64 (r2-1),.pointer none],.bool false]) (by simp [results,Tryz.results192,go_sem,r0,ra,rb]) rfl ⟨_,_,_,rfl,fun h=>by (cases h),?_⟩
      repeat (first|exact B6.out|(refine Below.setCell ?_ (by first|omega|(simp;done)|(simp;omega)) _)|(refine Below.alloc ?_ (by first|omega|(simp;done)|(simp;omega)) _)|(refine Below.drew ?_)|exact Below.refl _ _))
set_option maxRecDepth 100000 in
set_option maxHeartbeats 8000000 in
theorem times_nb (v v' : Value) (p q:Rat) (w:World) (h:Nb w v p) (h' : Nb w v' q) (hp:Lf 38 p) (hq:Lf 38 q):Calls Tryz.prog 127 #[v,v'] w (GivesNb w (p*q)):=by
 obtain ⟨n1,d1,a1,rfl⟩:=h.form
 obtain ⟨n2,d2,a2,rfl⟩:=h'.form
 obtain ⟨hk1,hk2,hk3,hb1⟩:=eJ w (.cells #[.int .i64 n1,.int .i64 d1,.pointer a1] 69) (.cells #[.int .i64 n2,.int .i64 d2,.pointer a2] 69) (.cells #[.int .i64 0,.int .i64 0,.pointer none] 69)
 have H:=aH (aI (h.below hb1) (aI (h'.below hb1) (aI hp (aI hq (aI hb1 (aI hk1 (aI hk2 hk3)))))))
 by_cases hs:Sm p∧Sm q
 ·have e1:Value.agg #[.int .i64 n1,.int .i64 d1,.pointer a1]=kF p.num p.den:=by
   rcases h with ⟨_,e⟩|⟨hn,_⟩
   ·exact e
   ·exact absurd hs.1 hn
  have e2:Value.agg #[.int .i64 n2,.int .i64 d2,.pointer a2]=kF q.num q.den:=by
   rcases h' with ⟨_,e⟩|⟨hn,_⟩
   ·exact e
   ·exact absurd hs.2 hn
  have ha:∀ w',Calls Tryz.prog 140 #[.agg #[.int .i64 n1,.int .i64 d1,.pointer a1],.agg #[.int .i64 n2,.int .i64 d2,.pointer a2]] w' (Gives w' (.bool true)):=fun w'=>rL _ _ p q w' hs.1 hs.2 e1 e2
  have hc:∀ w',Calls Tryz.prog 192 #[.agg #[.int .i64 n1,.int .i64 d1,.pointer a1],.agg #[.int .i64 n2,.int .i64 d2,.pointer a2]] w' (gU w' (p*q)):=fun w'=>by
   rw [e1,e2]
   exact xI p q w' hs.1 hs.2
  have HS:=aH (aI ha hc)
  clear ha hc e1 e2 hs h h' hp hq hb1 hk1 hk2 hk3
  go_enter Tryz.func127,Tryz.ntmps127
  go_wp2_with fail
  refine (HS.out.1 _).mono ?_
  rintro e w2 ⟨rfl,b2⟩
  have B2:=aH (aI (Below.step_trans H.out.2.2.2.2.1 b2) (aI b2 (aI (aM b2 H.out.2.2.2.2.2.1) (aI (aM b2 H.out.2.2.2.2.2.2.1) (aM b2 H.out.2.2.2.2.2.2.2)))))
  obtain ⟨⟨u0,u1,u2⟩,_⟩:=dN (aM b2 H.out.2.2.2.2.2.1)
  obtain ⟨⟨u3,u4,u5⟩,_⟩:=dN (aM b2 H.out.2.2.2.2.2.2.1)
  clear b2
  go_wp2_with fail
  refine (HS.out.2 _).mono ?_
  rintro e w3 ⟨rn,rd,ok,rfl,hok,b3⟩
  have hA3:=aM b3 B2.out.2.2.1
  have hC3:=aM b3 B2.out.2.2.2.1
  have hR3:=aM b3 B2.out.2.2.2.2
  have B3:=aH (aI hok (aI (Below.step_trans B2.out.1 b3) (aI (Below.step_trans B2.out.2.1 b3) (aI hA3 (aI hC3 hR3)))))
  clear u0 u1 u2 u3 u4 u5 b3 hok hA3 hC3 hR3
  have hlt3:=lt_of_block B3.out.2.2.2.2.2
  cases ok
  ·go_wp2
   have hb4:Below w3.heap.size w3 (w3.alloc (.cells #[.int .i64 rn,.int .i64 rd,.pointer none] 69)):=(Below.refl _ _).alloc (Nat.le_refl _) _
   have B4:=aH (aI (Below.step_trans B3.out.2.1 hb4) (aI (Below.step_trans B3.out.2.2.1 hb4) (aI (aM hb4 B3.out.2.2.2.1) (aI (aM hb4 B3.out.2.2.2.2.1) (aM hb4 B3.out.2.2.2.2.2)))))
   clear hb4
   generalize w3.alloc (.cells #[.int .i64 rn,.int .i64 rd,.pointer none] 69)=w4 at *
   have hA:=B4.out.2.2.1
   have hC:=B4.out.2.2.2.1
   have hR:=B4.out.2.2.2.2
   have t1:∀ w',Base [w.heap.size+1+1] w4 w'→Calls Tryz.prog 142 #[.agg #[.int .i64 n1,.int .i64 d1,.pointer a1]] w' (TyPost w' (fK p)):=fun w' hB =>
    GivesFr.ty (cD _ _ _ (Nb.ext (K:=Kn) (fun _=>rfl) (fun _=>rfl) (H.out.1.below B4.out.2.1) (hB.extT B4.out.2.2.2.2 (by simp [hotObj,Kn]))))
   have t2:∀ w',Base [w.heap.size+1+1] w4 w'→Calls Tryz.prog 142 #[.agg #[.int .i64 n2,.int .i64 d2,.pointer a2]] w' (TyPost w' (fK q)):=fun w' hB =>
    GivesFr.ty (cD _ _ _ (Nb.ext (K:=Kn) (fun _=>rfl) (fun _=>rfl) (H.out.2.1.below B4.out.2.1) (hB.extT B4.out.2.2.2.2 (by simp [hotObj,Kn]))))
   have t3:∀ w' x y,Fr w' x p→Fr w' y q→Calls Tryz.prog 193 #[x,y] w' (TyPost w' (fK (p*q))):=fun w' x y hx hy=>GivesFr.ty (rK x y p q w' hx hy H.out.2.2.1 H.out.2.2.2.1)
   have t4:∀ w' x,Fr w' x (p*q)→Calls Tryz.prog 57 #[x] w' (TyPost w' (jF (p*q))):=fun w' x hx=>GivesNb.ty (eY x _ w' hx)
   have T:=aH (aI t1 (aI t2 (aI t3 t4)))
   clear t1 t2 t3 t4
   refine wp_region_ty Kn [w.heap.size+1+1] (by kernel_rfl) (by kernel_rfl) ?_
   repeat (first|(apply bQ (hg:=rfl);case h=>(intro A w' hB hk;simp [known,specOf,Kd.spec,Sp.is,isVar,Oper.looksAt,Op.operands,Call.operands,Act.eval] at hk;have c_hA:=aA (hB.blk hA (by first|(simp;done)|(simp;omega)));have c_hC:=aA (hB.blk hC (by first|(simp;done)|(simp;omega)));first|(simp [go_sem,hk,c_hA,c_hC];done)|(simp [go_sem,hk,c_hA,c_hC];rfl)|(simp [go_sem,c_hA,c_hC];rfl)))|(refine aV _ ?_ (by first|exact .inl rfl|exact .inr rfl) (by rfl) (by simp [specOf,Kd.spec];rfl) ?_ rfl ?_;(first|exact Sp.is_stable _ _|exact aL (fun _=>rfl) _|exact spTwo_stable (fun _=>rfl) _ _|exact spFr_stable (fun _=>rfl) _|exact spSum_stable (fun _=>rfl) _|exact spSgn_stable _ _|exact spNb_stable (fun _=>rfl) (fun _=>rfl) _|exact spVc_stable (fun _=>rfl) (fun _=>rfl) _)))
   refine aO (fK p) (spFr_stable (fun _=>rfl) _) rfl (fun A w' hB hk=>?_) ?_;(simp [known,specOf,Kd.spec,Sp.is,isVar,Oper.looksAt,Op.operands,Call.operands,Act.eval] at hk;have c_hA:=aA (hB.blk hA (by first|(simp;done)|(simp;omega)));simp [go_sem,hk,c_hA];refine aG ?_;exact T.out.1 _ hB)
   repeat (first|(apply bQ (hg:=rfl);case h=>(intro A w' hB hk;simp [known,specOf,Kd.spec,Sp.is,isVar,Oper.looksAt,Op.operands,Call.operands,Act.eval] at hk;have c_hA:=aA (hB.blk hA (by first|(simp;done)|(simp;omega)));have c_hC:=aA (hB.blk hC (by first|(simp;done)|(simp;omega)));first|(simp [go_sem,hk,c_hA,c_hC];done)|(simp [go_sem,hk,c_hA,c_hC];rfl)|(simp [go_sem,c_hA,c_hC];rfl)))|(refine aV _ ?_ (by first|exact .inl rfl|exact .inr rfl) (by rfl) (by simp [specOf,Kd.spec];rfl) ?_ rfl ?_;(first|exact Sp.is_stable _ _|exact aL (fun _=>rfl) _|exact spTwo_stable (fun _=>rfl) _ _|exact spFr_stable (fun _=>rfl) _|exact spSum_stable (fun _=>rfl) _|exact spSgn_stable _ _|exact spNb_stable (fun _=>rfl) (fun _=>rfl) _|exact spVc_stable (fun _=>rfl) (fun _=>rfl) _)))
   refine aO (fK q) (spFr_stable (fun _=>rfl) _) rfl (fun A w' hB hk=>?_) ?_;(simp [known,specOf,Kd.spec,Sp.is,isVar,Oper.looksAt,Op.operands,Call.operands,Act.eval] at hk;have c_hA:=aA (hB.blk hA (by first|(simp;done)|(simp;omega)));simp [go_sem,hk,c_hA];refine aG ?_;exact T.out.2.1 _ hB)
   refine aO (fK (p*q)) (spFr_stable (fun _=>rfl) _) rfl (fun A w' hB hk=>?_) ?_;(simp [known,specOf,Kd.spec,Sp.is,isVar,Oper.looksAt,Op.operands,Call.operands,Act.eval] at hk;have c_hA:=aA (hB.blk hA (by first|(simp;done)|(simp;omega)));simp [go_sem,hk,c_hA];refine aG ?_;exact T.out.2.2.1 _ _ _ hk.1 hk.2)
   refine aO (jF (p*q)) (spNb_stable (fun _=>rfl) (fun _=>rfl) _) rfl (fun A w' hB hk=>?_) ?_;(simp [known,specOf,Kd.spec,Sp.is,isVar,Oper.looksAt,Op.operands,Call.operands,Act.eval] at hk;have c_hA:=aA (hB.blk hA (by first|(simp;done)|(simp;omega)));simp [go_sem,hk,c_hA];refine aG ?_;exact T.out.2.2.2 _ _ hk)
   refine gR (w.heap.size+1+1) (_) (coNb (p*q)) (eF (fun _=>rfl) (fun _=>rfl) _) rfl rfl (by simp) (by assumption) (by simp [hotObj,Ku,Kn]) (fun A w' hB hk h0=>?_) ?_;(simp [known,specOf,Kd.spec,Sp.is,isVar,Oper.looksAt,Op.operands,Call.operands,Act.eval] at hk;have c_hA:=aA (hB.blk hA (by first|(simp;done)|(simp;omega)));have c0:=aA h0;have f0:=aW h0;obtain ⟨k1,k2⟩:=hk;obtain ⟨y1,y2,y3,e1⟩:=(show Nb _ _ _ from k2).form;rw [e1] at k2;simp [go_sem,k1,e1,c0,f0];exact ⟨_,eI h0 _ _ _,_,_,_,rfl,k2⟩)
   refine ⟨by first|rfl|decide,fun f w2 hB hF hAp=>?_⟩;simp [Final1,Sp.is,isVar] at hF;simp only [frameOf]
   obtain ⟨o,⟨y1,y2,y3,rfl,k3⟩,ho⟩:=hF.1
   obtain ⟨⟨r0,r1,r2⟩,_⟩:=dN ho
   have K:=aH (aI k3 hB)
   clear k3 hB ho hA hC hR hAp hF
   go_wp2
   refine bodyPost_ret (v := .agg #[.int .i64 y1,.int .i64 y2,.pointer y3]) (by simp [results,Tryz.results127,go_sem,r0,r1,r2,Act.put]) rfl ⟨_,rfl,K.out.1,?_⟩
   exact Base.belowT K.out.2 B4.out.1 (by omega)
  ·obtain ⟨hsm,hv⟩:=B3.out.1 rfl
   obtain ⟨⟨g0,g1,g2⟩,f0,f1,f2⟩:=dN B3.out.2.2.2.2.2
   have HV:=aH (aI hsm hv)
   clear hsm hv
   have hpast:∀ (W:World) (o:Obj) (i:Nat),W.heap.size=w3.heap.size→(W.alloc o).cell? ⟨w.heap.size+1+1,i,none⟩=W.cell? ⟨w.heap.size+1+1,i,none⟩:=fun W o i h=>World.cell?_alloc_past _ _ _ (by show w.heap.size+1+1<W.heap.size;omega)
   have HP:=aH hpast
   clear hpast
   go_wp2
   refine bodyPost_ret (v := .agg #[.int .i64 rn,.int .i64 rd,.pointer none]) (by simp [results,Tryz.results127,go_sem,g0,g1,g2,HP.out]) rfl ⟨_,rfl,.inl HV.out,?_⟩
   repeat (first|exact B3.out.2.1|(refine Below.setCell ?_ (by first|omega|(simp;done)|(simp;omega)) _)|(refine Below.alloc ?_ (by first|omega|(simp;done)|(simp;omega)) _)|(refine Below.drew ?_)|exact Below.refl _ _)
 ·have ha:∀ w',Below w.heap.size w w'→Calls Tryz.prog 140 #[.agg #[.int .i64 n1,.int .i64 d1,.pointer a1],.agg #[.int .i64 n2,.int .i64 d2,.pointer a2]] w' (Gives w' (.bool false)):=fun w' hb=>uL _ _ p q w' (h.below hb) (h'.below hb) hs
  have HS:=aH ha
  clear ha hs h h' hp hq hb1 hk1 hk2 hk3
  go_enter Tryz.func127,Tryz.ntmps127
  go_wp2_with fail
  refine (HS.out _ H.out.2.2.2.2.1).mono ?_
  rintro e w2 ⟨rfl,b2⟩
  have B2:=aH (aI (Below.step_trans H.out.2.2.2.2.1 b2) (aI b2 (aI (aM b2 H.out.2.2.2.2.2.1) (aI (aM b2 H.out.2.2.2.2.2.2.1) (aM b2 H.out.2.2.2.2.2.2.2)))))
  clear b2
  go_wp2
  have hA:=B2.out.2.2.1
  have hC:=B2.out.2.2.2.1
  have hR:=B2.out.2.2.2.2
  have t1:∀ w',Base [w.heap.size+1+1] w2 w'→Calls Tryz.prog 142 #[.agg #[.int .i64 n1,.int .i64 d1,.pointer a1]] w' (TyPost w' (fK p)):=fun w' hB =>
   GivesFr.ty (cD _ _ _ (Nb.ext (K:=Kn) (fun _=>rfl) (fun _=>rfl) (H.out.1.below B2.out.2.1) (hB.extT B2.out.2.2.2.2 (by simp [hotObj,Kn]))))
  have t2:∀ w',Base [w.heap.size+1+1] w2 w'→Calls Tryz.prog 142 #[.agg #[.int .i64 n2,.int .i64 d2,.pointer a2]] w' (TyPost w' (fK q)):=fun w' hB =>
   GivesFr.ty (cD _ _ _ (Nb.ext (K:=Kn) (fun _=>rfl) (fun _=>rfl) (H.out.2.1.below B2.out.2.1) (hB.extT B2.out.2.2.2.2 (by simp [hotObj,Kn]))))
  have t3:∀ w' x y,Fr w' x p→Fr w' y q→Calls Tryz.prog 193 #[x,y] w' (TyPost w' (fK (p*q))):=fun w' x y hx hy=>GivesFr.ty (rK x y p q w' hx hy H.out.2.2.1 H.out.2.2.2.1)
  have t4:∀ w' x,Fr w' x (p*q)→Calls Tryz.prog 57 #[x] w' (TyPost w' (jF (p*q))):=fun w' x hx=>GivesNb.ty (eY x _ w' hx)
  have T:=aH (aI t1 (aI t2 (aI t3 t4)))
  clear t1 t2 t3 t4
  refine wp_region_ty Kn [w.heap.size+1+1] (by kernel_rfl) (by kernel_rfl) ?_
  repeat (first|(apply bQ (hg:=rfl);case h=>(intro A w' hB hk;simp [known,specOf,Kd.spec,Sp.is,isVar,Oper.looksAt,Op.operands,Call.operands,Act.eval] at hk;have c_hA:=aA (hB.blk hA (by first|(simp;done)|(simp;omega)));have c_hC:=aA (hB.blk hC (by first|(simp;done)|(simp;omega)));first|(simp [go_sem,hk,c_hA,c_hC];done)|(simp [go_sem,hk,c_hA,c_hC];rfl)|(simp [go_sem,c_hA,c_hC];rfl)))|(refine aV _ ?_ (by first|exact .inl rfl|exact .inr rfl) (by rfl) (by simp [specOf,Kd.spec];rfl) ?_ rfl ?_;(first|exact Sp.is_stable _ _|exact aL (fun _=>rfl) _|exact spTwo_stable (fun _=>rfl) _ _|exact spFr_stable (fun _=>rfl) _|exact spSum_stable (fun _=>rfl) _|exact spSgn_stable _ _|exact spNb_stable (fun _=>rfl) (fun _=>rfl) _|exact spVc_stable (fun _=>rfl) (fun _=>rfl) _)))
  refine aO (fK p) (spFr_stable (fun _=>rfl) _) rfl (fun A w' hB hk=>?_) ?_;(simp [known,specOf,Kd.spec,Sp.is,isVar,Oper.looksAt,Op.operands,Call.operands,Act.eval] at hk;have c_hA:=aA (hB.blk hA (by first|(simp;done)|(simp;omega)));simp [go_sem,hk,c_hA];refine aG ?_;exact T.out.1 _ hB)
  repeat (first|(apply bQ (hg:=rfl);case h=>(intro A w' hB hk;simp [known,specOf,Kd.spec,Sp.is,isVar,Oper.looksAt,Op.operands,Call.operands,Act.eval] at hk;have c_hA:=aA (hB.blk hA (by first|(simp;done)|(simp;omega)));have c_hC:=aA (hB.blk hC (by first|(simp;done)|(simp;omega)));first|(simp [go_sem,hk,c_hA,c_hC];done)|(simp [go_sem,hk,c_hA,c_hC];rfl)|(simp [go_sem,c_hA,c_hC];rfl)))|(refine aV _ ?_ (by first|exact .inl rfl|exact .inr rfl) (by rfl) (by simp [specOf,Kd.spec];rfl) ?_ rfl ?_;(first|exact Sp.is_stable _ _|exact aL (fun _=>rfl) _|exact spTwo_stable (fun _=>rfl) _ _|exact spFr_stable (fun _=>rfl) _|exact spSum_stable (fun _=>rfl) _|exact spSgn_stable _ _|exact spNb_stable (fun _=>rfl) (fun _=>rfl) _|exact spVc_stable (fun _=>rfl) (fun _=>rfl) _)))
  refine aO (fK q) (spFr_stable (fun _=>rfl) _) rfl (fun A w' hB hk=>?_) ?_;(simp [known,specOf,Kd.spec,Sp.is,isVar,Oper.looksAt,Op.operands,Call.operands,Act.eval] at hk;have c_hA:=aA (hB.blk hA (by first|(simp;done)|(simp;omega)));simp [go_sem,hk,c_hA];refine aG ?_;exact T.out.2.1 _ hB)
  refine aO (fK (p*q)) (spFr_stable (fun _=>rfl) _) rfl (fun A w' hB hk=>?_) ?_;(simp [known,specOf,Kd.spec,Sp.is,isVar,Oper.looksAt,Op.operands,Call.operands,Act.eval] at hk;have c_hA:=aA (hB.blk hA (by first|(simp;done)|(simp;omega)));simp [go_sem,hk,c_hA];refine aG ?_;exact T.out.2.2.1 _ _ _ hk.1 hk.2)
  refine aO (jF (p*q)) (spNb_stable (fun _=>rfl) (fun _=>rfl) _) rfl (fun A w' hB hk=>?_) ?_;(simp [known,specOf,Kd.spec,Sp.is,isVar,Oper.looksAt,Op.operands,Call.operands,Act.eval] at hk;have c_hA:=aA (hB.blk hA (by first|(simp;done)|(simp;omega)));simp [go_sem,hk,c_hA];refine aG ?_;exact T.out.2.2.2 _ _ hk)
  refine gR (w.heap.size+1+1) (_) (coNb (p*q)) (eF (fun _=>rfl) (fun _=>rfl) _) rfl rfl (by simp) (by assumption) (by simp [hotObj,Ku,Kn]) (fun A w' hB hk h0=>?_) ?_;(simp [known,specOf,Kd.spec,Sp.is,isVar,Oper.looksAt,Op.operands,Call.operands,Act.eval] at hk;have c_hA:=aA (hB.blk hA (by first|(simp;done)|(simp;omega)));have c0:=aA h0;have f0:=aW h0;obtain ⟨k1,k2⟩:=hk;obtain ⟨y1,y2,y3,e1⟩:=(show Nb _ _ _ from k2).form;rw [e1] at k2;simp [go_sem,k1,e1,c0,f0];exact ⟨_,eI h0 _ _ _,_,_,_,rfl,k2⟩)
  refine ⟨by first|rfl|decide,fun f w2 hB hF hAp=>?_⟩;simp [Final1,Sp.is,isVar] at hF;simp only [frameOf]
  obtain ⟨o,⟨y1,y2,y3,rfl,k3⟩,ho⟩:=hF.1
  obtain ⟨⟨r0,r1,r2⟩,_⟩:=dN ho
  have K:=aH (aI k3 hB)
  clear k3 hB ho hA hC hR hAp hF
  go_wp2
  refine bodyPost_ret (v := .agg #[.int .i64 y1,.int .i64 y2,.pointer y3]) (by simp [results,Tryz.results127,go_sem,r0,r1,r2,Act.put]) rfl ⟨_,rfl,K.out.1,?_⟩
  exact Base.belowT K.out.2 B2.out.1 (by omega)
set_option maxRecDepth 100000 in
set_option maxHeartbeats 8000000 in
theorem minus_nb (v v' : Value) (p q:Rat) (w:World) (h:Nb w v p) (h' : Nb w v' q) (hp:Lf 36 p) (hq:Lf 36 q):Calls Tryz.prog 128 #[v,v'] w (GivesNb w (p-q)):=by
 have hsub:p-q=p + -q:=Rat.sub_eq_add_neg p q
 rw [hsub]
 obtain ⟨n1,d1,a1,rfl⟩:=h.form
 obtain ⟨n2,d2,a2,rfl⟩:=h'.form
 obtain ⟨hk1,hk2,hk3,hb1⟩:=eJ w (.cells #[.int .i64 n1,.int .i64 d1,.pointer a1] 69) (.cells #[.int .i64 n2,.int .i64 d2,.pointer a2] 69) (.cells #[.int .i64 0,.int .i64 0,.pointer none] 69)
 have H:=aH (aI (h.below hb1) (aI (h'.below hb1) (aI hp (aI hq.neg (aI hb1 (aI hk1 (aI hk2 hk3)))))))
 clear h h' hp hq hb1 hk1 hk2 hk3 hsub
 go_enter Tryz.func128,Tryz.ntmps128
 go_wp2
 generalize ((w.alloc (.cells #[.int .i64 n1,.int .i64 d1,.pointer a1] 69)).alloc (.cells #[.int .i64 n2,.int .i64 d2,.pointer a2] 69)).alloc (.cells #[.int .i64 0,.int .i64 0,.pointer none] 69)=w1 at *
 have hA:=H.out.2.2.2.2.2.1
 have hC:=H.out.2.2.2.2.2.2.1
 have hR:=H.out.2.2.2.2.2.2.2
 have t1:∀ w',Base [w.heap.size+1+1] w1 w'→Calls Tryz.prog 138 #[.agg #[.int .i64 n2,.int .i64 d2,.pointer a2]] w' (TyPost w' (jF (-q))):=fun w' hB =>
  GivesNb.ty (xG _ _ _ (Nb.ext (K:=Kn) (fun _=>rfl) (fun _=>rfl) H.out.2.1 (hB.extT hR (by simp [hotObj,Kn]))))
 have t2:∀ w' x,Base [w.heap.size+1+1] w1 w'→Nb w' x (-q)→Calls Tryz.prog 79 #[.agg #[.int .i64 n1,.int .i64 d1,.pointer a1],x] w' (TyPost w' (jF (p + -q))):=fun w' x hB hx =>
  GivesNb.ty (plus_nb _ _ _ _ _ (Nb.ext (K:=Kn) (fun _=>rfl) (fun _=>rfl) H.out.1 (hB.extT hR (by simp [hotObj,Kn]))) hx H.out.2.2.1 H.out.2.2.2.1)
 have T:=aH (aI t1 t2)
 clear t1 t2
 refine wp_region_ty Kn [w.heap.size+1+1] (by kernel_rfl) (by kernel_rfl) ?_
 repeat (first|(apply bQ (hg:=rfl);case h=>(intro A w' hB hk;simp [known,specOf,Kd.spec,Sp.is,isVar,Oper.looksAt,Op.operands,Call.operands,Act.eval] at hk;have c_hA:=aA (hB.blk hA (by first|(simp;done)|(simp;omega)));have c_hC:=aA (hB.blk hC (by first|(simp;done)|(simp;omega)));first|(simp [go_sem,hk,c_hA,c_hC];done)|(simp [go_sem,hk,c_hA,c_hC];rfl)|(simp [go_sem,c_hA,c_hC];rfl)))|(refine aV _ ?_ (by first|exact .inl rfl|exact .inr rfl) (by rfl) (by simp [specOf,Kd.spec];rfl) ?_ rfl ?_;(first|exact Sp.is_stable _ _|exact aL (fun _=>rfl) _|exact spTwo_stable (fun _=>rfl) _ _|exact spFr_stable (fun _=>rfl) _|exact spSum_stable (fun _=>rfl) _|exact spSgn_stable _ _|exact spNb_stable (fun _=>rfl) (fun _=>rfl) _|exact spVc_stable (fun _=>rfl) (fun _=>rfl) _)))
 refine aO (jF (-q)) (spNb_stable (fun _=>rfl) (fun _=>rfl) _) rfl (fun A w' hB hk=>?_) ?_;(simp [known,specOf,Kd.spec,Sp.is,isVar,Oper.looksAt,Op.operands,Call.operands,Act.eval] at hk;have c_hA:=aA (hB.blk hA (by first|(simp;done)|(simp;omega)));simp [go_sem,hk,c_hA];refine aG ?_;exact T.out.1 _ hB)
 refine aO (jF (p + -q)) (spNb_stable (fun _=>rfl) (fun _=>rfl) _) rfl (fun A w' hB hk=>?_) ?_;(simp [known,specOf,Kd.spec,Sp.is,isVar,Oper.looksAt,Op.operands,Call.operands,Act.eval] at hk;have c_hA:=aA (hB.blk hA (by first|(simp;done)|(simp;omega)));simp [go_sem,hk,c_hA];refine aG ?_;exact T.out.2 _ _ hB hk.2)
 refine gR (w.heap.size+1+1) (_) (coNb (p + -q)) (eF (fun _=>rfl) (fun _=>rfl) _) rfl rfl (by simp) (by assumption) (by simp [hotObj,Ku,Kn]) (fun A w' hB hk h0=>?_) ?_;(simp [known,specOf,Kd.spec,Sp.is,isVar,Oper.looksAt,Op.operands,Call.operands,Act.eval] at hk;have c_hA:=aA (hB.blk hA (by first|(simp;done)|(simp;omega)));have c0:=aA h0;have f0:=aW h0;obtain ⟨k1,k2⟩:=hk;obtain ⟨y1,y2,y3,e1⟩:=(show Nb _ _ _ from k2).form;rw [e1] at k2;simp [go_sem,k1,e1,c0,f0];exact ⟨_,eI h0 _ _ _,_,_,_,rfl,k2⟩)
 refine ⟨by first|rfl|decide,fun f w2 hB hF hAp=>?_⟩;simp [Final1,Sp.is,isVar] at hF;simp only [frameOf]
 obtain ⟨o,⟨y1,y2,y3,rfl,k3⟩,ho⟩:=hF.1
 obtain ⟨⟨r0,r1,r2⟩,_⟩:=dN ho
 have K:=aH (aI k3 hB)
 clear k3 hB ho hA hC hR hAp hF
 go_wp2
 refine bodyPost_ret (v := .agg #[.int .i64 y1,.int .i64 y2,.pointer y3]) (by simp [results,Tryz.results128,go_sem,r0,r1,r2,Act.put]) rfl ⟨_,rfl,K.out.1,?_⟩
 exact Base.belowT K.out.2 H.out.2.2.2.2.1 (by omega)
theorem inv_form {q:Rat} (h0:q≠0):(q⁻¹).num=sg (decide (q.num<0)) q.den∧(q⁻¹).den=q.num.natAbs:=by
 have h:=Parts.inv (Parts.self q) h0
 exact ⟨h.num_eq,h.2.2.symm⟩
theorem sm_inv {q:Rat} (h:Sm q) (h0:q≠0):Sm q⁻¹:=by
 obtain ⟨e1,e2⟩:=inv_form h0
 refine ⟨?_,by rw [e2];exact h.1⟩
 rw [e1]
 cases decide (q.num<0)
 ·simpa [sg] using h.2
 ·simpa [sg] using h.2
set_option maxRecDepth 100000 in
set_option maxHeartbeats 8000000 in
theorem over_nb (v v' : Value) (p q:Rat) (w:World) (h:Nb w v p) (h' : Nb w v' q) (hp:Lf 38 p) (hq:Lf 38 q) (h0:q≠0):Calls Tryz.prog 63 #[v,v'] w (GivesNb w (p/q)):=by
 rw [Rat.div_def]
 obtain ⟨n1,d1,a1,rfl⟩:=h.form
 have hx:∀ w' x,Nb w' (.agg #[.int .i64 n1,.int .i64 d1,.pointer a1]) p→Nb w' x q⁻¹→Calls Tryz.prog 127 #[.agg #[.int .i64 n1,.int .i64 d1,.pointer a1],x] w' (TyPost w' (jF (p*q⁻¹))):=fun w' x y1 y2 =>
  GivesNb.ty (times_nb _ _ _ _ _ y1 y2 hp hq.inv)
 obtain ⟨f1,f2⟩:=inv_form h0
 have hsi:=fun hs=>sm_inv (q:=q) hs h0
 have hin:∀ v w',Fr w' v q→Calls Tryz.prog 130 #[v] w' (TyPost w' (fK q⁻¹)):=fun v w' hv=>GivesFr.ty (inverse_any v q w' hv h0)
 have hz:q.num≠0:=fun e=>h0 (Rat.num_eq_zero.1 e)
 generalize q⁻¹=r at *
 rcases h' with ⟨hs,rfl⟩|⟨hs,g,s1,s2,rfl,hk,g1,g2⟩
 ·have mn:=iU hs
  have md:=iT hs
  have hsr:=hsi hs
  unfold kF
  clear hsi hin hq h0
  obtain ⟨m,hm⟩:∃ m,m=q.num:=⟨_,rfl⟩
  obtain ⟨k,hk⟩:∃ k:Int,k=(q.den:Int):=⟨_,rfl⟩
  rw [← hm] at mn hz f1 f2 ⊢
  rw [← hk] at md ⊢
  have hf1:r.num=if m<0 then -k else k:=by
   rw [f1,hk]
   by_cases h:m<0 <;> simp [sg,h]
  obtain ⟨mn1,mn2⟩:=mn
  obtain ⟨md1,md2⟩:=md
  clear hm hk hs f1
  obtain ⟨hk1,hk2,hk3,hb1⟩:=eJ w (.cells #[.int .i64 n1,.int .i64 d1,.pointer a1] 69) (.cells #[.int .i64 m,.int .i64 (k-1),.pointer none] 69) (.cells #[.int .i64 0,.int .i64 0,.pointer none] 69)
  have t1:∀ w',Calls Tryz.prog 131 #[.agg #[.int .i64 m,.int .i64 (k-1),.pointer none]] w' (TyPost w' (Sp.is (.int .i64 k))):=fun w'=>by
   have:=Gives.ty (mV m (k-1) none w' (by omega) (by omega))
   rwa [Int.sub_add_cancel] at this
  have k1:IntKind.i64.wrap (-k) = -k:=by rw [IntKind.wrap_i64];omega
  have k2:IntKind.i64.wrap (-m) = -m:=by rw [IntKind.wrap_i64];omega
  by_cases hneg:m<0
  ·rw [if_pos hneg] at hf1
   have t2:∀ w',Calls Tryz.prog 124 #[.int .i64 (-k),.int .i64 (-m)] w' (TyPost w' (jF r)):=fun w' =>
    (tI (-k) (-m) w' (by omega) (by omega)).mono fun _ _ ⟨y1,y2⟩=>⟨_,y1,y2,.inl ⟨hsr,by
     have:((r.den:Nat):Int) = -m:=by rw [f2];omega
     rw [kF,hf1,this]⟩⟩
   have H:=aH (aI (h.below hb1) (aI hb1 (aI hk1 (aI hk2 hk3))))
   have T:=aH (aI t1 (aI t2 hx))
   clear t1 t2 hx h hb1 hk1 hk2 hk3 hf1 f2 hsr mn1 mn2 md1 md2 hz hp
   go_enter Tryz.func63,Tryz.ntmps63
   go_wp2
   generalize ((w.alloc (.cells #[.int .i64 n1,.int .i64 d1,.pointer a1] 69)).alloc (.cells #[.int .i64 m,.int .i64 (k-1),.pointer none] 69)).alloc (.cells #[.int .i64 0,.int .i64 0,.pointer none] 69)=w1 at *
   have hA:=H.out.2.2.1
   have hC:=H.out.2.2.2.1
   have hR:=H.out.2.2.2.2
   refine wp_region_ty Kn [w.heap.size+1+1] (by kernel_rfl) (by kernel_rfl) ?_
   repeat (first|(apply bQ (hg:=rfl);case h=>(intro A w' hB hk;simp [known,specOf,Kd.spec,Sp.is,isVar,Oper.looksAt,Op.operands,Call.operands,Act.eval] at hk;have c_hA:=aA (hB.blk hA (by first|(simp;done)|(simp;omega)));have c_hC:=aA (hB.blk hC (by first|(simp;done)|(simp;omega)));first|(simp [go_sem,hk,c_hA,c_hC];done)|(simp [go_sem,hk,c_hA,c_hC];rfl)|(simp [go_sem,c_hA,c_hC];rfl)))|(refine aV _ ?_ (by first|exact .inl rfl|exact .inr rfl) (by rfl) (by simp [specOf,Kd.spec];rfl) ?_ rfl ?_;(first|exact Sp.is_stable _ _|exact aL (fun _=>rfl) _|exact spTwo_stable (fun _=>rfl) _ _|exact spFr_stable (fun _=>rfl) _|exact spSum_stable (fun _=>rfl) _|exact spSgn_stable _ _|exact spNb_stable (fun _=>rfl) (fun _=>rfl) _|exact spVc_stable (fun _=>rfl) (fun _=>rfl) _)))
   refine aO (Sp.is (.int .i64 k)) (Sp.is_stable _ _) rfl (fun A w' hB hk=>?_) ?_;(simp [known,specOf,Kd.spec,Sp.is,isVar,Oper.looksAt,Op.operands,Call.operands,Act.eval] at hk;have c_hA:=aA (hB.blk hA (by first|(simp;done)|(simp;omega)));simp [go_sem,hk,c_hA];refine aG ?_;exact T.out.1 _)
   repeat (first|(apply bQ (hg:=rfl);case h=>(intro A w' hB hk;simp [known,specOf,Kd.spec,Sp.is,isVar,Oper.looksAt,Op.operands,Call.operands,Act.eval] at hk;have c_hA:=aA (hB.blk hA (by first|(simp;done)|(simp;omega)));have c_hC:=aA (hB.blk hC (by first|(simp;done)|(simp;omega)));first|(simp [go_sem,hk,c_hA,c_hC,k1,k2];done)|(simp [go_sem,hk,c_hA,c_hC,k1,k2];rfl)|(simp [go_sem,c_hA,c_hC,k1,k2];rfl)))|(refine aV _ ?_ (by first|exact .inl rfl|exact .inr rfl) (by rfl) (by simp [specOf,Kd.spec];rfl) ?_ rfl ?_;(first|exact Sp.is_stable _ _|exact aL (fun _=>rfl) _|exact spTwo_stable (fun _=>rfl) _ _|exact spFr_stable (fun _=>rfl) _|exact spSum_stable (fun _=>rfl) _|exact spSgn_stable _ _|exact spNb_stable (fun _=>rfl) (fun _=>rfl) _|exact spVc_stable (fun _=>rfl) (fun _=>rfl) _)))
   refine aO (jF r) (spNb_stable (fun _=>rfl) (fun _=>rfl) _) rfl (fun A w' hB hk=>?_) ?_;(simp [known,specOf,Kd.spec,Sp.is,isVar,Oper.looksAt,Op.operands,Call.operands,Act.eval] at hk;have c_hA:=aA (hB.blk hA (by first|(simp;done)|(simp;omega)));simp [go_sem,hk,c_hA];refine aG ?_;exact T.out.2.1 _)
   refine aO (jF (p*r)) (spNb_stable (fun _=>rfl) (fun _=>rfl) _) rfl (fun A w' hB hk=>?_) ?_;(simp [known,specOf,Kd.spec,Sp.is,isVar,Oper.looksAt,Op.operands,Call.operands,Act.eval] at hk;have c_hA:=aA (hB.blk hA (by first|(simp;done)|(simp;omega)));simp [go_sem,hk,c_hA];refine aG ?_;exact T.out.2.2 _ _ (Nb.ext (K:=Kn) (fun _=>rfl) (fun _=>rfl) H.out.1 (hB.extT hR (by simp [hotObj,Kn]))) hk.2)
   refine gR (w.heap.size+1+1) (_) (coNb (p*r)) (eF (fun _=>rfl) (fun _=>rfl) _) rfl rfl (by simp) (by assumption) (by simp [hotObj,Ku,Kn]) (fun A w' hB hk h0=>?_) ?_;(simp [known,specOf,Kd.spec,Sp.is,isVar,Oper.looksAt,Op.operands,Call.operands,Act.eval] at hk;have c_hA:=aA (hB.blk hA (by first|(simp;done)|(simp;omega)));have c0:=aA h0;have f0:=aW h0;obtain ⟨k1,k2⟩:=hk;obtain ⟨y1,y2,y3,e1⟩:=(show Nb _ _ _ from k2).form;rw [e1] at k2;simp [go_sem,k1,e1,c0,f0];exact ⟨_,eI h0 _ _ _,_,_,_,rfl,k2⟩)
   refine ⟨by first|rfl|decide,fun f w2 hB hF hAp=>?_⟩;simp [Final1,Sp.is,isVar] at hF;simp only [frameOf]
   obtain ⟨o,⟨y1,y2,y3,rfl,k3⟩,ho⟩:=hF.1
   obtain ⟨⟨r0,r1,r2⟩,_⟩:=dN ho
   have K:=aH (aI k3 hB)
   clear k3 hB ho hA hC hR hAp hF
   go_wp2
   refine bodyPost_ret (v := .agg #[.int .i64 y1,.int .i64 y2,.pointer y3]) (by simp [results,Tryz.results63,go_sem,r0,r1,r2,Act.put]) rfl ⟨_,rfl,K.out.1,?_⟩
   exact Base.belowT K.out.2 H.out.2.1 (by omega)
  ·rw [if_neg hneg] at hf1
   have t2:∀ w',Calls Tryz.prog 124 #[.int .i64 k,.int .i64 m] w' (TyPost w' (jF r)):=fun w' =>
    (tI k m w' (by omega) (by omega)).mono fun _ _ ⟨y1,y2⟩=>⟨_,y1,y2,.inl ⟨hsr,by
     have:((r.den:Nat):Int)=m:=by rw [f2];omega
     rw [kF,hf1,this]⟩⟩
   have H:=aH (aI (h.below hb1) (aI hb1 (aI hk1 (aI hk2 hk3))))
   have T:=aH (aI t1 (aI t2 hx))
   clear t1 t2 hx h hb1 hk1 hk2 hk3 hf1 f2 hsr mn1 mn2 md1 md2 hz hp
   go_enter Tryz.func63,Tryz.ntmps63
   go_wp2
   generalize ((w.alloc (.cells #[.int .i64 n1,.int .i64 d1,.pointer a1] 69)).alloc (.cells #[.int .i64 m,.int .i64 (k-1),.pointer none] 69)).alloc (.cells #[.int .i64 0,.int .i64 0,.pointer none] 69)=w1 at *
   have hA:=H.out.2.2.1
   have hC:=H.out.2.2.2.1
   have hR:=H.out.2.2.2.2
   refine wp_region_ty Kn [w.heap.size+1+1] (by kernel_rfl) (by kernel_rfl) ?_
   repeat (first|(apply bQ (hg:=rfl);case h=>(intro A w' hB hk;simp [known,specOf,Kd.spec,Sp.is,isVar,Oper.looksAt,Op.operands,Call.operands,Act.eval] at hk;have c_hA:=aA (hB.blk hA (by first|(simp;done)|(simp;omega)));have c_hC:=aA (hB.blk hC (by first|(simp;done)|(simp;omega)));first|(simp [go_sem,hk,c_hA,c_hC];done)|(simp [go_sem,hk,c_hA,c_hC];rfl)|(simp [go_sem,c_hA,c_hC];rfl)))|(refine aV _ ?_ (by first|exact .inl rfl|exact .inr rfl) (by rfl) (by simp [specOf,Kd.spec];rfl) ?_ rfl ?_;(first|exact Sp.is_stable _ _|exact aL (fun _=>rfl) _|exact spTwo_stable (fun _=>rfl) _ _|exact spFr_stable (fun _=>rfl) _|exact spSum_stable (fun _=>rfl) _|exact spSgn_stable _ _|exact spNb_stable (fun _=>rfl) (fun _=>rfl) _|exact spVc_stable (fun _=>rfl) (fun _=>rfl) _)))
   refine aO (Sp.is (.int .i64 k)) (Sp.is_stable _ _) rfl (fun A w' hB hk=>?_) ?_;(simp [known,specOf,Kd.spec,Sp.is,isVar,Oper.looksAt,Op.operands,Call.operands,Act.eval] at hk;have c_hA:=aA (hB.blk hA (by first|(simp;done)|(simp;omega)));simp [go_sem,hk,c_hA];refine aG ?_;exact T.out.1 _)
   repeat (first|(apply bQ (hg:=rfl);case h=>(intro A w' hB hk;simp [known,specOf,Kd.spec,Sp.is,isVar,Oper.looksAt,Op.operands,Call.operands,Act.eval] at hk;have c_hA:=aA (hB.blk hA (by first|(simp;done)|(simp;omega)));have c_hC:=aA (hB.blk hC (by first|(simp;done)|(simp;omega)));first|(simp [go_sem,hk,c_hA,c_hC,k1,k2];done)|(simp [go_sem,hk,c_hA,c_hC,k1,k2];rfl)|(simp [go_sem,c_hA,c_hC,k1,k2];rfl)))|(refine aV _ ?_ (by first|exact .inl rfl|exact .inr rfl) (by rfl) (by simp [specOf,Kd.spec];rfl) ?_ rfl ?_;(first|exact Sp.is_stable _ _|exact aL (fun _=>rfl) _|exact spTwo_stable (fun _=>rfl) _ _|exact spFr_stable (fun _=>rfl) _|exact spSum_stable (fun _=>rfl) _|exact spSgn_stable _ _|exact spNb_stable (fun _=>rfl) (fun _=>rfl) _|exact spVc_stable (fun _=>rfl) (fun _=>rfl) _)))
   refine aO (jF r) (spNb_stable (fun _=>rfl) (fun _=>rfl) _) rfl (fun A w' hB hk=>?_) ?_;(simp [known,specOf,Kd.spec,Sp.is,isVar,Oper.looksAt,Op.operands,Call.operands,Act.eval] at hk;have c_hA:=aA (hB.blk hA (by first|(simp;done)|(simp;omega)));simp [go_sem,hk,c_hA];refine aG ?_;exact T.out.2.1 _)
   refine aO (jF (p*r)) (spNb_stable (fun _=>rfl) (fun _=>rfl) _) rfl (fun A w' hB hk=>?_) ?_;(simp [known,specOf,Kd.spec,Sp.is,isVar,Oper.looksAt,Op.operands,Call.operands,Act.eval] at hk;have c_hA:=aA (hB.blk hA (by first|(simp;done)|(simp;omega)));simp [go_sem,hk,c_hA];refine aG ?_;exact T.out.2.2 _ _ (Nb.ext (K:=Kn) (fun _=>rfl) (fun _=>rfl) H.out.1 (hB.extT hR (by simp [hotObj,Kn]))) hk.2)
   refine gR (w.heap.size+1+1) (_) (coNb (p*r)) (eF (fun _=>rfl) (fun _=>rfl) _) rfl rfl (by simp) (by assumption) (by simp [hotObj,Ku,Kn]) (fun A w' hB hk h0=>?_) ?_;(simp [known,specOf,Kd.spec,Sp.is,isVar,Oper.looksAt,Op.operands,Call.operands,Act.eval] at hk;have c_hA:=aA (hB.blk hA (by first|(simp;done)|(simp;omega)));have c0:=aA h0;have f0:=aW h0;obtain ⟨k1,k2⟩:=hk;obtain ⟨y1,y2,y3,e1⟩:=(show Nb _ _ _ from k2).form;rw [e1] at k2;simp [go_sem,k1,e1,c0,f0];exact ⟨_,eI h0 _ _ _,_,_,_,rfl,k2⟩)
   refine ⟨by first|rfl|decide,fun f w2 hB hF hAp=>?_⟩;simp [Final1,Sp.is,isVar] at hF;simp only [frameOf]
   obtain ⟨o,⟨y1,y2,y3,rfl,k3⟩,ho⟩:=hF.1
   obtain ⟨⟨r0,r1,r2⟩,_⟩:=dN ho
   have K:=aH (aI k3 hB)
   clear k3 hB ho hA hC hR hAp hF
   go_wp2
   refine bodyPost_ret (v := .agg #[.int .i64 y1,.int .i64 y2,.pointer y3]) (by simp [results,Tryz.results63,go_sem,r0,r1,r2,Act.put]) rfl ⟨_,rfl,K.out.1,?_⟩
   exact Base.belowT K.out.2 H.out.2.1 (by omega)
 ·clear hz f1 f2 hsi h0 hq
  obtain ⟨A1,m1,c1,rfl⟩:=g1.form
  obtain ⟨A2,m2,c2,rfl⟩:=g2.form
  obtain ⟨neg,hneg⟩:∃ neg,decide (q.num<0)=neg:=⟨_,rfl⟩
  rw [hneg] at hk
  obtain ⟨hk1,hk2,hk3,hb1⟩:=eJ w (.cells #[.int .i64 n1,.int .i64 d1,.pointer a1] 69) (.cells #[.int .i64 0,.int .i64 0,.pointer (some ⟨g,0,none⟩)] 69) (.cells #[.int .i64 0,.int .i64 0,.pointer none] 69)
  have hfr:Fr w (.agg #[.bool neg,.slice A1 m1 c1,.slice A2 m2 c2]) q:=⟨_,_,by rw [hneg],g1,g2⟩
  have hG1:=aM hb1 hk
  have H:=aH (aI (h.below hb1) (aI hb1 (aI hk1 (aI hk2 (aI hk3 (aI hG1 (hfr.below hb1)))))))
  have t1:∀ w' x,Fr w' x r→Calls Tryz.prog 57 #[x] w' (TyPost w' (jF r)):=fun w' x hx=>GivesNb.ty (eY x _ w' hx)
  have T:=aH (aI hin (aI t1 hx))
  have hlt:=lt_of_block hk
  clear t1 hin hx hk h hb1 hk1 hk2 hk3 hG1 hfr g1 g2 hneg hp hs
  go_enter Tryz.func63,Tryz.ntmps63
  go_wp2
  generalize ((w.alloc (.cells #[.int .i64 n1,.int .i64 d1,.pointer a1] 69)).alloc (.cells #[.int .i64 0,.int .i64 0,.pointer (some ⟨g,0,none⟩)] 69)).alloc (.cells #[.int .i64 0,.int .i64 0,.pointer none] 69)=w1 at *
  have hA:=H.out.2.2.1
  have hC:=H.out.2.2.2.1
  have hR:=H.out.2.2.2.2.1
  have hG:=H.out.2.2.2.2.2.1
  refine wp_region_ty Kn [w.heap.size+1+1] (by kernel_rfl) (by kernel_rfl) ?_
  repeat (first|(apply bQ (hg:=rfl);case h=>(intro A w' hB hk;simp [known,specOf,Kd.spec,Sp.is,isVar,Oper.looksAt,Op.operands,Call.operands,Act.eval] at hk;have c_hA:=aA (hB.blk hA (by first|(simp;done)|(simp;omega)));have c_hC:=aA (hB.blk hC (by first|(simp;done)|(simp;omega)));have c_hG:=aA (hB.blk hG (by first|(simp;done)|(simp;omega)));first|(simp [go_sem,hk,c_hA,c_hC,c_hG];done)|(simp [go_sem,hk,c_hA,c_hC,c_hG];rfl)|(simp [go_sem,c_hA,c_hC,c_hG];rfl)))|(refine aV _ ?_ (by first|exact .inl rfl|exact .inr rfl) (by rfl) (by simp [specOf,Kd.spec];rfl) ?_ rfl ?_;(first|exact Sp.is_stable _ _|exact aL (fun _=>rfl) _|exact spTwo_stable (fun _=>rfl) _ _|exact spFr_stable (fun _=>rfl) _|exact spSum_stable (fun _=>rfl) _|exact spSgn_stable _ _|exact spNb_stable (fun _=>rfl) (fun _=>rfl) _|exact spVc_stable (fun _=>rfl) (fun _=>rfl) _)))
  refine aO (fK r) (spFr_stable (fun _=>rfl) _) rfl (fun A w' hB hk=>?_) ?_;(simp [known,specOf,Kd.spec,Sp.is,isVar,Oper.looksAt,Op.operands,Call.operands,Act.eval] at hk;have c_hA:=aA (hB.blk hA (by first|(simp;done)|(simp;omega)));simp [go_sem,hk,c_hA];refine aG ?_;exact T.out.1 _ _ (Fr.ext (K:=Kn) (fun _=>rfl) H.out.2.2.2.2.2.2 (hB.extT hR (by simp [hotObj,Kn]))))
  refine aO (jF r) (spNb_stable (fun _=>rfl) (fun _=>rfl) _) rfl (fun A w' hB hk=>?_) ?_;(simp [known,specOf,Kd.spec,Sp.is,isVar,Oper.looksAt,Op.operands,Call.operands,Act.eval] at hk;have c_hA:=aA (hB.blk hA (by first|(simp;done)|(simp;omega)));simp [go_sem,hk,c_hA];refine aG ?_;exact T.out.2.1 _ _ hk)
  refine aO (jF (p*r)) (spNb_stable (fun _=>rfl) (fun _=>rfl) _) rfl (fun A w' hB hk=>?_) ?_;(simp [known,specOf,Kd.spec,Sp.is,isVar,Oper.looksAt,Op.operands,Call.operands,Act.eval] at hk;have c_hA:=aA (hB.blk hA (by first|(simp;done)|(simp;omega)));simp [go_sem,hk,c_hA];refine aG ?_;exact T.out.2.2 _ _ (Nb.ext (K:=Kn) (fun _=>rfl) (fun _=>rfl) H.out.1 (hB.extT hR (by simp [hotObj,Kn]))) hk.2)
  refine gR (w.heap.size+1+1) (_) (coNb (p*r)) (eF (fun _=>rfl) (fun _=>rfl) _) rfl rfl (by simp) (by assumption) (by simp [hotObj,Ku,Kn]) (fun A w' hB hk h0=>?_) ?_;(simp [known,specOf,Kd.spec,Sp.is,isVar,Oper.looksAt,Op.operands,Call.operands,Act.eval] at hk;have c_hA:=aA (hB.blk hA (by first|(simp;done)|(simp;omega)));have c0:=aA h0;have f0:=aW h0;obtain ⟨k1,k2⟩:=hk;obtain ⟨y1,y2,y3,e1⟩:=(show Nb _ _ _ from k2).form;rw [e1] at k2;simp [go_sem,k1,e1,c0,f0];exact ⟨_,eI h0 _ _ _,_,_,_,rfl,k2⟩)
  refine ⟨by first|rfl|decide,fun f w2 hB hF hAp=>?_⟩;simp [Final1,Sp.is,isVar] at hF;simp only [frameOf]
  obtain ⟨o,⟨y1,y2,y3,rfl,k3⟩,ho⟩:=hF.1
  obtain ⟨⟨r0,r1,r2⟩,_⟩:=dN ho
  have K:=aH (aI k3 hB)
  clear k3 hB ho hA hC hR hAp hF
  go_wp2
  refine bodyPost_ret (v := .agg #[.int .i64 y1,.int .i64 y2,.pointer y3]) (by simp [results,Tryz.results63,go_sem,r0,r1,r2,Act.put]) rfl ⟨_,rfl,K.out.1,?_⟩
  exact Base.belowT K.out.2 H.out.2.1 (by omega)
set_option maxRecDepth 100000 in
set_option maxHeartbeats 4000000 in
theorem integer_any (z:Int) (w:World) (h1:-9223372036854775808≤z) (h2:z≤9223372036854775807):Calls Tryz.prog 75 #[.int .i64 z] w (GivesNb w (z:Rat)):=by
 have hb1:Below w.heap.size w (w.alloc (.cells #[.int .i64 0,.int .i64 0,.pointer none] 69)):=(Below.refl _ _).alloc (Nat.le_refl _) _
 by_cases hz:z = -9223372036854775808
 ·subst hz
  have n1:∀ w',Calls Tryz.prog 120 #[.int .u64 9223372036854775808] w' (GivesNt w' 9223372036854775808):=fun w'=>cB 9223372036854775808 (by rw [aJ];decide) w'
  have n2:∀ w',Calls Tryz.prog 120 #[.int .u64 1] w' (GivesNt w' 1):=fun w'=>cB 1 (by rw [aJ];decide) w'
  obtain ⟨q,hq⟩:∃ q:Rat,q=((-9223372036854775808:Int):Rat):=⟨_,rfl⟩
  have hfr:∀ w' s1 s2,Nt w' s1 9223372036854775808→Nt w' s2 1→Fr w' (.agg #[.bool true,s1,s2]) q:=fun w' s1 s2 k1 k2=>by
   subst hq
   exact ⟨s1,s2,by rw [Rat.num_intCast];rfl,by rw [Rat.num_intCast];exact k1,by rw [Rat.den_intCast];exact k2⟩
  rw [← hq]
  clear hq
  have hk0:(w.alloc (.cells #[.int .i64 0,.int .i64 0,.pointer none] 69)).heap[w.heap.size]?=some (.cells #[.int .i64 0,.int .i64 0,.pointer none] 69):=heap_alloc_new w _
  have H:=aH (aI n1 (aI n2 (aI hfr (aI hb1 hk0))))
  clear n1 n2 hfr hb1 hk0
  go_enter Tryz.func75,Tryz.ntmps75
  go_wp2_with fail
  refine (H.out.1 _).mono ?_
  rintro e w2 ⟨v2,rfl,q2,b2⟩
  obtain ⟨A1,m1,c1,rfl⟩:=q2.form
  have Q2:=aH (aI q2 b2)
  clear q2 b2
  go_wp2_with fail
  refine (H.out.2.1 _).mono ?_
  rintro e w3 ⟨v3,rfl,q3,b3⟩
  obtain ⟨A2,m2,c2,rfl⟩:=q3.form
  have Q3:=aH (aI (H.out.2.2.1 _ _ _ (Q2.out.1.below b3) q3) (Below.step_trans Q2.out.2 b3))
  clear q3 b3 Q2
  go_wp2_with fail
  refine (eY _ _ _ Q3.out.1).mono ?_
  rintro e w4 ⟨v4,rfl,q4,b4⟩
  obtain ⟨n,d,p,rfl⟩:=q4.form
  have hb4:=Below.step_trans Q3.out.2 b4
  have hk:=aM hb4 H.out.2.2.2.2
  obtain ⟨⟨h0,h1,h2⟩,f0,f1,f2⟩:=dN hk
  have Q4:=aH (aI q4 (aI hb4 hk))
  clear q4 b4 hk hb4 Q3
  go_wp2
  refine bodyPost_ret (v := .agg #[.int .i64 n,.int .i64 d,.pointer p]) (by simp [results,Tryz.results75,go_sem,h0,h1,h2]) rfl ⟨_,rfl,?_,?_⟩
  ·exact Nb.ext (K:=Kn) (fun _=>rfl) (fun _=>rfl) Q4.out.1 (Ext.only (pP _ _ _ _ _) Q4.out.2.2 (by simp [hotObj,Kn]))
  ·repeat (first|exact (Below.step_trans H.out.2.2.2.1 Q4.out.2.1)|(refine Below.setCell ?_ (by first|omega|(simp;done)|(simp;omega)) _)|(refine Below.alloc ?_ (by first|omega|(simp;done)|(simp;omega)) _)|(refine Below.drew ?_)|exact Below.refl _ _)
 ·have hnb:∀ w',Nb w' (.agg #[.int .i64 z,.int .i64 0,.pointer none]) (z:Rat):=fun w' => .inl ⟨⟨by rw [Rat.num_intCast,eK];omega,by rw [Rat.den_intCast,eK];omega⟩,by rw [kF,Rat.num_intCast,Rat.den_intCast];rfl⟩
  have H:=aH hnb
  clear hnb hb1
  go_enter Tryz.func75,Tryz.ntmps75
  go_wp2
  refine bodyPost_ret (v := .agg #[.int .i64 z,.int .i64 0,.pointer none]) (by simp [results,Tryz.results75,go_sem]) rfl ⟨_,rfl,H.out _,?_⟩
  repeat (first|exact Below.refl _ _|(refine Below.setCell ?_ (by first|omega|(simp;done)|(simp;omega)) _)|(refine Below.alloc ?_ (by first|omega|(simp;done)|(simp;omega)) _)|(refine Below.drew ?_)|exact Below.refl _ _)
theorem blk9 {w:World} {g:Nat} {a b c d e f h i j:Value} {t:TypeId} (hk:w.heap[g]?=some (.cells #[a,b,c,d,e,f,h,i,j] t (0,0))) :
 w.cell? ⟨g,0,none⟩=some a∧w.cell? ⟨g,1,none⟩=some b∧w.cell? ⟨g,2,none⟩=some c∧w.cell? ⟨g,3,none⟩=some d∧w.cell? ⟨g,4,none⟩=some e∧w.cell? ⟨g,5,none⟩=some f∧w.cell? ⟨g,6,none⟩=some h∧w.cell? ⟨g,7,none⟩=some i∧w.cell? ⟨g,8,none⟩=some j:=by
 have hc:=aA hk
 simp [hc]
def Vc (w:World) (v:Value) (a b c:Rat):Prop :=
 ∃ n1 d1 p1 n2 d2 p2 n3 d3 p3,v = .agg #[.int .i64 n1,.int .i64 d1,.pointer p1,.int .i64 n2,.int .i64 d2,.pointer p2,.int .i64 n3,.int .i64 d3,.pointer p3] ∧
   Nb w (.agg #[.int .i64 n1,.int .i64 d1,.pointer p1]) a∧Nb w (.agg #[.int .i64 n2,.int .i64 d2,.pointer p2]) b∧Nb w (.agg #[.int .i64 n3,.int .i64 d3,.pointer p3]) c
theorem Vc.below {w w' : World} {v:Value} {a b c:Rat} (h:Vc w v a b c) (hb:Below w.heap.size w w'):Vc w' v a b c:=by
 obtain ⟨n1,d1,p1,n2,d2,p2,n3,d3,p3,e,h1,h2,h3⟩:=h
 exact ⟨n1,d1,p1,n2,d2,p2,n3,d3,p3,e,h1.below hb,h2.below hb,h3.below hb⟩
theorem Vc.ext {K:Value→Bool} (hK:∀ x,K (.int .u64 x)=true) (hK2:∀ b,K (.bool b)=true) {w w' : World} {v:Value} {a b c:Rat} (h:Vc w v a b c) (hx:Ext K w w'):Vc w' v a b c:=by
 obtain ⟨n1,d1,p1,n2,d2,p2,n3,d3,p3,e,h1,h2,h3⟩:=h
 exact ⟨n1,d1,p1,n2,d2,p2,n3,d3,p3,e,h1.ext hK hK2 hx,h2.ext hK hK2 hx,h3.ext hK hK2 hx⟩
set_option maxRecDepth 100000 in
set_option maxHeartbeats 4000000 in
theorem isZero_vc (v:Value) (a b c:Rat) (w:World) (h:Vc w v a b c):Calls Tryz.prog 60 #[v] w (Gives w (.bool (decide (a=0)&&decide (b=0)&&decide (c=0)))):=by
 obtain ⟨n1,d1,p1,n2,d2,p2,n3,d3,p3,rfl,h1,h2,h3⟩:=h
 have hb1:Below w.heap.size w (w.alloc (.cells #[.int .i64 n1,.int .i64 d1,.pointer p1,.int .i64 n2,.int .i64 d2,.pointer p2,.int .i64 n3,.int .i64 d3,.pointer p3] 71)):=(Below.refl _ _).alloc (Nat.le_refl _) _
 have hk1:=heap_alloc_new w (.cells #[.int .i64 n1,.int .i64 d1,.pointer p1,.int .i64 n2,.int .i64 d2,.pointer p2,.int .i64 n3,.int .i64 d3,.pointer p3] 71)
 have t1:=fun w' (hb:Below w.heap.size w w')=>oW _ _ w' (h1.below hb)
 have t2:=fun w' (hb:Below w.heap.size w w')=>oW _ _ w' (h2.below hb)
 have t3:=fun w' (hb:Below w.heap.size w w')=>oW _ _ w' (h3.below hb)
 clear h1 h2 h3
 generalize decide (a=0)=za at *
 generalize decide (b=0)=zb at *
 generalize decide (c=0)=zc at *
 have H:=aH (aI t1 (aI t2 t3))
 have B1:=aH (aI hb1 hk1)
 clear t1 t2 t3 hb1 hk1
 go_enter Tryz.func60,Tryz.ntmps60
 cases za
 ·skip
  go_wp2_with fail
  refine (H.out.1 _ B1.out.1).mono ?_
  rintro e w2 ⟨rfl,b2⟩
  have B2:=aH (aI (Below.step_trans B1.out.1 b2) (aM b2 B1.out.2))
  obtain ⟨x0,x1,x2,x3,x4,x5,x6,x7,x8⟩:=blk9 B2.out.2
  clear b2
  go_wp2
  go_ret
  exact ⟨rfl,B2.out.1⟩
 ·cases zb
  ·skip
   go_wp2_with fail
   refine (H.out.1 _ B1.out.1).mono ?_
   rintro e w2 ⟨rfl,b2⟩
   have B2:=aH (aI (Below.step_trans B1.out.1 b2) (aM b2 B1.out.2))
   obtain ⟨x0,x1,x2,x3,x4,x5,x6,x7,x8⟩:=blk9 B2.out.2
   clear b2
   go_wp2_with fail
   refine (H.out.2.1 _ B2.out.1).mono ?_
   rintro e w3 ⟨rfl,b2⟩
   have B3:=aH (aI (Below.step_trans B2.out.1 b2) (aM b2 B2.out.2))
   obtain ⟨x0,x1,x2,x3,x4,x5,x6,x7,x8⟩:=blk9 B3.out.2
   clear b2
   go_wp2
   go_ret
   exact ⟨rfl,B3.out.1⟩
  ·skip
   go_wp2_with fail
   refine (H.out.1 _ B1.out.1).mono ?_
   rintro e w2 ⟨rfl,b2⟩
   have B2:=aH (aI (Below.step_trans B1.out.1 b2) (aM b2 B1.out.2))
   obtain ⟨x0,x1,x2,x3,x4,x5,x6,x7,x8⟩:=blk9 B2.out.2
   clear b2
   go_wp2_with fail
   refine (H.out.2.1 _ B2.out.1).mono ?_
   rintro e w3 ⟨rfl,b2⟩
   have B3:=aH (aI (Below.step_trans B2.out.1 b2) (aM b2 B2.out.2))
   obtain ⟨x0,x1,x2,x3,x4,x5,x6,x7,x8⟩:=blk9 B3.out.2
   clear b2
   go_wp2_with fail
   refine (H.out.2.2 _ B3.out.1).mono ?_
   rintro e w4 ⟨rfl,b2⟩
   have B4:=aH (aI (Below.step_trans B3.out.1 b2) (aM b2 B3.out.2))
   obtain ⟨x0,x1,x2,x3,x4,x5,x6,x7,x8⟩:=blk9 B4.out.2
   clear b2
   go_wp2
   go_ret
   exact ⟨rfl,B4.out.1⟩
end Go.Proofs.YtejbgingjeedaaaGreatDoor
