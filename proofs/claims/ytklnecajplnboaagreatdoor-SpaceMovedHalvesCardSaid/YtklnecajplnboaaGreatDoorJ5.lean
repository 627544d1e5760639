/- Parts of the proof, joined. -/
import Derived.Test.YtklnecajplnboaaGreatDoorJ4
import Derived.Test.YtklnecajplnboaaGreatDoorJ1
import Derived.Test.YtklnecajplnboaaGreatDoorShelf
set_option maxHeartbeats 4000000
set_option linter.unusedSimpArgs false
set_option linter.unusedVariables false
set_option linter.constructorNameAsVariable false
namespace Go.Proofs.YtklnecajplnboaaGreatDoor
section
open Go.RowKit Pl
attribute [local simp] known specOf Kd.spec Sp.is isVar Oper.looksAt Op.operands Call.operands Act.eval
set_option maxRecDepth 100000 in
set_option maxHeartbeats 8000000 in
theorem times_nb (v v' : Value) (p q:Rat) (w:World) (h:Nb w v p) (h' : Nb w v' q) (hp:Lf 38 p) (hq:Lf 38 q):Calls Tryz.prog 94 #[v,v'] w (GivesNb w (p*q)):=by
 obtain ⟨n1,d1,a1,rfl⟩:=h.form
 obtain ⟨n2,d2,a2,rfl⟩:=h'.form
 obtain ⟨hk1,hk2,hk3,hb1⟩:=eF w (.cells #[.int .i64 n1,.int .i64 d1,.pointer a1] 63) (.cells #[.int .i64 n2,.int .i64 d2,.pointer a2] 63) (.cells #[.int .i64 0,.int .i64 0,.pointer none] 63)
 have H:=aH (aI (h.below hb1) (aI (h'.below hb1) (aI hp (aI hq (aI hb1 (aI hk1 (aI hk2 hk3)))))))
 by_cases hs:Sm p∧Sm q
 ·have e1:Value.agg #[.int .i64 n1,.int .i64 d1,.pointer a1]=kQ p.num p.den:=by
   rcases h with ⟨_,e⟩|⟨hn,_⟩
   ·exact e
   ·exact absurd hs.1 hn
  have e2:Value.agg #[.int .i64 n2,.int .i64 d2,.pointer a2]=kQ q.num q.den:=by
   rcases h' with ⟨_,e⟩|⟨hn,_⟩
   ·exact e
   ·exact absurd hs.2 hn
  have ha:∀ w',Calls Tryz.prog 98 #[.agg #[.int .i64 n1,.int .i64 d1,.pointer a1],.agg #[.int .i64 n2,.int .i64 d2,.pointer a2]] w' (Gives w' (.bool true)):=fun w'=>sL _ _ p q w' hs.1 hs.2 e1 e2
  have hc:∀ w',Calls Tryz.prog 162 #[.agg #[.int .i64 n1,.int .i64 d1,.pointer a1],.agg #[.int .i64 n2,.int .i64 d2,.pointer a2]] w' (gR w' (p*q)):=fun w'=>by
   rw [e1,e2]
   exact yN p q w' hs.1 hs.2
  have HS:=aH (aI ha hc)
  clear ha hc e1 e2 hs h h' hp hq hb1 hk1 hk2 hk3
  go_enter Tryz.func94,Tryz.ntmps94
  go_wp2_with fail
  refine (HS.out.1 _).mono ?_
  rintro e w2 ⟨rfl,b2⟩
  have B2:=aH (aI (Below.step_trans H.out.2.2.2.2.1 b2) (aI b2 (aI (aK b2 H.out.2.2.2.2.2.1) (aI (aK b2 H.out.2.2.2.2.2.2.1) (aK b2 H.out.2.2.2.2.2.2.2)))))
  obtain ⟨⟨u0,u1,u2⟩,_⟩:=dM (aK b2 H.out.2.2.2.2.2.1)
  obtain ⟨⟨u3,u4,u5⟩,_⟩:=dM (aK b2 H.out.2.2.2.2.2.2.1)
  clear b2
  go_wp2_with fail
  refine (HS.out.2 _).mono ?_
  rintro e w3 ⟨rn,rd,ok,rfl,hok,b3⟩
  have hA3:=aK b3 B2.out.2.2.1
  have hC3:=aK b3 B2.out.2.2.2.1
  have hR3:=aK b3 B2.out.2.2.2.2
  have B3:=aH (aI hok (aI (Below.step_trans B2.out.1 b3) (aI (Below.step_trans B2.out.2.1 b3) (aI hA3 (aI hC3 hR3)))))
  clear u0 u1 u2 u3 u4 u5 b3 hok hA3 hC3 hR3
  have hlt3:=lt_of_block B3.out.2.2.2.2.2
  cases ok
  ·go_wp2
   have hb4:Below w3.heap.size w3 (w3.alloc (.cells #[.int .i64 rn,.int .i64 rd,.pointer none] 63)):=(aB _ _).alloc (aR _) _
   have B4:=aH (aI (Below.step_trans B3.out.2.1 hb4) (aI (Below.step_trans B3.out.2.2.1 hb4) (aI (aK hb4 B3.out.2.2.2.1) (aI (aK hb4 B3.out.2.2.2.2.1) (aK hb4 B3.out.2.2.2.2.2)))))
   clear hb4
   generalize w3.alloc (.cells #[.int .i64 rn,.int .i64 rd,.pointer none] 63)=w4 at *
   have hA:=B4.out.2.2.1
   have hC:=B4.out.2.2.2.1
   have hR:=B4.out.2.2.2.2
   have t1:∀ w',Base [w.heap.size+1+1] w4 w'→Calls Tryz.prog 100 #[.agg #[.int .i64 n1,.int .i64 d1,.pointer a1]] w' (TyPost w' (fE p)):=fun w' hB =>
    GivesFr.ty (cE _ _ _ (Nb.ext (K:=Kn) (fun _=>rfl) (fun _=>rfl) (H.out.1.below B4.out.2.1) (hB.extT B4.out.2.2.2.2 (by simp [hotObj,Kn]))))
   have t2:∀ w',Base [w.heap.size+1+1] w4 w'→Calls Tryz.prog 100 #[.agg #[.int .i64 n2,.int .i64 d2,.pointer a2]] w' (TyPost w' (fE q)):=fun w' hB =>
    GivesFr.ty (cE _ _ _ (Nb.ext (K:=Kn) (fun _=>rfl) (fun _=>rfl) (H.out.2.1.below B4.out.2.1) (hB.extT B4.out.2.2.2.2 (by simp [hotObj,Kn]))))
   have t3:∀ w' x y,Fr w' x p→Fr w' y q→Calls Tryz.prog 163 #[x,y] w' (TyPost w' (fE (p*q))):=fun w' x y hx hy=>GivesFr.ty (sK x y p q w' hx hy H.out.2.2.1 H.out.2.2.2.1)
   have t4:∀ w' x,Fr w' x (p*q)→Calls Tryz.prog 58 #[x] w' (TyPost w' (jE (p*q))):=fun w' x hx=>GivesNb.ty (eT x _ w' hx)
   have T:=aH (aI t1 (aI t2 (aI t3 t4)))
   clear t1 t2 t3 t4
   refine wp_region_ty Kn [w.heap.size+1+1] (by kernel_rfl) (by kernel_rfl) ?_
   repeat (first|(apply bS (hg:=rfl);case h=>(intro A w' hB hk;simp at hk;have c_hA:=aA (hB.blk hA (by simp <;> omega));have c_hC:=aA (hB.blk hC (by simp <;> omega));first|(simp [go_sem,hk,c_hA,c_hC] <;> rfl)|(simp [go_sem,c_hA,c_hC];rfl)))|(refine aY _ ?_ (by first|exact .inl rfl|exact .inr rfl) (by rfl) (by simp [specOf,Kd.spec];rfl) ?_ rfl ?_;(first|exact Sp.is_stable _ _|exact aP (fun _=>rfl) _|exact aW (fun _=>rfl) (fun _=>rfl) _)))
   refine aQ (fE p) (aP (fun _=>rfl) _) rfl (fun A w' hB hk=>?_) ?_;(simp at hk;have c_hA:=aA (hB.blk hA (by simp <;> omega));simp [go_sem,hk,c_hA];refine aG ?_;exact T.out.1 _ hB)
   repeat (first|(apply bS (hg:=rfl);case h=>(intro A w' hB hk;simp at hk;have c_hA:=aA (hB.blk hA (by simp <;> omega));have c_hC:=aA (hB.blk hC (by simp <;> omega));first|(simp [go_sem,hk,c_hA,c_hC] <;> rfl)|(simp [go_sem,c_hA,c_hC];rfl)))|(refine aY _ ?_ (by first|exact .inl rfl|exact .inr rfl) (by rfl) (by simp [specOf,Kd.spec];rfl) ?_ rfl ?_;(first|exact Sp.is_stable _ _|exact aP (fun _=>rfl) _|exact aW (fun _=>rfl) (fun _=>rfl) _)))
   refine aQ (fE q) (aP (fun _=>rfl) _) rfl (fun A w' hB hk=>?_) ?_;(simp at hk;have c_hA:=aA (hB.blk hA (by simp <;> omega));simp [go_sem,hk,c_hA];refine aG ?_;exact T.out.2.1 _ hB)
   refine aQ (fE (p*q)) (aP (fun _=>rfl) _) rfl (fun A w' hB hk=>?_) ?_;(simp at hk;have c_hA:=aA (hB.blk hA (by simp <;> omega));simp [go_sem,hk,c_hA];refine aG ?_;exact T.out.2.2.1 _ _ _ hk.1 hk.2)
   refine aQ (jE (p*q)) (aW (fun _=>rfl) (fun _=>rfl) _) rfl (fun A w' hB hk=>?_) ?_;(simp at hk;have c_hA:=aA (hB.blk hA (by simp <;> omega));simp [go_sem,hk,c_hA];refine aG ?_;exact T.out.2.2.2 _ _ hk)
   refine gP (w.heap.size+1+1) (_) (coNb (p*q)) (eC (fun _=>rfl) (fun _=>rfl) _) rfl rfl (by simp) (by assumption) (by simp [hotObj,Ku,Kn]) (fun A w' hB hk h0=>?_) ?_;(simp at hk;have c_hA:=aA (hB.blk hA (by simp <;> omega));have c0:=aA h0;have f0:=bA h0;obtain ⟨k1,k2⟩:=hk;obtain ⟨y1,y2,y3,e1⟩:=(show Nb _ _ _ from k2).form;rw [e1] at k2;simp [go_sem,k1,e1,c0,f0];exact ⟨_,eE h0 _ _ _,_,_,_,rfl,k2⟩)
   refine ⟨by first|rfl|decide,fun f w2 hB hF hAp=>?_⟩;simp [Final1,Sp.is,isVar] at hF;simp only [frameOf]
   obtain ⟨o,⟨y1,y2,y3,rfl,k3⟩,ho⟩:=hF.1
   obtain ⟨⟨r0,r1,r2⟩,_⟩:=dM ho
   have K:=aH (aI k3 hB)
   clear k3 hB ho hA hC hR hAp hF
   go_wp2
   refine bodyPost_ret (v := .agg #[.int .i64 y1,.int .i64 y2,.pointer y3]) (by simp [results,Tryz.results94,go_sem,r0,r1,r2,Act.put]) rfl ⟨_,rfl,K.out.1,?_⟩
   exact Base.belowT K.out.2 B4.out.1 (by omega)
  ·obtain ⟨hsm,hv⟩:=B3.out.1 rfl
   obtain ⟨⟨g0,g1,g2⟩,f0,f1,f2⟩:=dM B3.out.2.2.2.2.2
   have HV:=aH (aI hsm hv)
   clear hsm hv
   have hpast:∀ (W:World) (o:Obj) (i:Nat),W.heap.size=w3.heap.size→(W.alloc o).cell? ⟨w.heap.size+1+1,i,none⟩=W.cell? ⟨w.heap.size+1+1,i,none⟩:=fun W o i h=>World.cell?_alloc_past _ _ _ (by show w.heap.size+1+1<W.heap.size;omega)
   have HP:=aH hpast
   clear hpast
   go_wp2
   refine bodyPost_ret (v := .agg #[.int .i64 rn,.int .i64 rd,.pointer none]) (by simp [results,Tryz.results94,go_sem,g0,g1,g2,HP.out]) rfl ⟨_,rfl,.inl HV.out,?_⟩
   repeat (first|exact B3.out.2.1|(refine Below.setCell ?_ (by first|omega|(simp <;> omega)) _)|(refine Below.alloc ?_ (by first|omega|(simp <;> omega)) _)|(refine Below.drew ?_)|exact aB _ _)
 ·have ha:∀ w',Below w.heap.size w w'→Calls Tryz.prog 98 #[.agg #[.int .i64 n1,.int .i64 d1,.pointer a1],.agg #[.int .i64 n2,.int .i64 d2,.pointer a2]] w' (Gives w' (.bool false)):=fun w' hb=>vW _ _ p q w' (h.below hb) (h'.below hb) hs
  have HS:=aH ha
  clear ha hs h h' hp hq hb1 hk1 hk2 hk3
  go_enter Tryz.func94,Tryz.ntmps94
  go_wp2_with fail
  refine (HS.out _ H.out.2.2.2.2.1).mono ?_
  rintro e w2 ⟨rfl,b2⟩
  have B2:=aH (aI (Below.step_trans H.out.2.2.2.2.1 b2) (aI b2 (aI (aK b2 H.out.2.2.2.2.2.1) (aI (aK b2 H.out.2.2.2.2.2.2.1) (aK b2 H.out.2.2.2.2.2.2.2)))))
  clear b2
  go_wp2
  have hA:=B2.out.2.2.1
  have hC:=B2.out.2.2.2.1
  have hR:=B2.out.2.2.2.2
  have t1:∀ w',Base [w.heap.size+1+1] w2 w'→Calls Tryz.prog 100 #[.agg #[.int .i64 n1,.int .i64 d1,.pointer a1]] w' (TyPost w' (fE p)):=fun w' hB =>
   GivesFr.ty (cE _ _ _ (Nb.ext (K:=Kn) (fun _=>rfl) (fun _=>rfl) (H.out.1.below B2.out.2.1) (hB.extT B2.out.2.2.2.2 (by simp [hotObj,Kn]))))
  have t2:∀ w',Base [w.heap.size+1+1] w2 w'→Calls Tryz.prog 100 #[.agg #[.int .i64 n2,.int .i64 d2,.pointer a2]] w' (TyPost w' (fE q)):=fun w' hB =>
   GivesFr.ty (cE _ _ _ (Nb.ext (K:=Kn) (fun _=>rfl) (fun _=>rfl) (H.out.2.1.below B2.out.2.1) (hB.extT B2.out.2.2.2.2 (by simp [hotObj,Kn]))))
  have t3:∀ w' x y,Fr w' x p→Fr w' y q→Calls Tryz.prog 163 #[x,y] w' (TyPost w' (fE (p*q))):=fun w' x y hx hy=>GivesFr.ty (sK x y p q w' hx hy H.out.2.2.1 H.out.2.2.2.1)
  have t4:∀ w' x,Fr w' x (p*q)→Calls Tryz.prog 58 #[x] w' (TyPost w' (jE (p*q))):=fun w' x hx=>GivesNb.ty (eT x _ w' hx)
  have T:=aH (aI t1 (aI t2 (aI t3 t4)))
  clear t1 t2 t3 t4
  refine wp_region_ty Kn [w.heap.size+1+1] (by kernel_rfl) (by kernel_rfl) ?_
  repeat (first|(apply bS (hg:=rfl);case h=>(intro A w' hB hk;simp at hk;have c_hA:=aA (hB.blk hA (by simp <;> omega));have c_hC:=aA (hB.blk hC (by simp <;> omega));first|(simp [go_sem,hk,c_hA,c_hC] <;> rfl)|(simp [go_sem,c_hA,c_hC];rfl)))|(refine aY _ ?_ (by first|exact .inl rfl|exact .inr rfl) (by rfl) (by simp [specOf,Kd.spec];rfl) ?_ rfl ?_;(first|exact Sp.is_stable _ _|exact aP (fun _=>rfl) _|exact aW (fun _=>rfl) (fun _=>rfl) _)))
  refine aQ (fE p) (aP (fun _=>rfl) _) rfl (fun A w' hB hk=>?_) ?_;(simp at hk;have c_hA:=aA (hB.blk hA (by simp <;> omega));simp [go_sem,hk,c_hA];refine aG ?_;exact T.out.1 _ hB)
  repeat (first|(apply bS (hg:=rfl);case h=>(intro A w' hB hk;simp at hk;have c_hA:=aA (hB.blk hA (by simp <;> omega));have c_hC:=aA (hB.blk hC (by simp <;> omega));first|(simp [go_sem,hk,c_hA,c_hC] <;> rfl)|(simp [go_sem,c_hA,c_hC];rfl)))|(refine aY _ ?_ (by first|exact .inl rfl|exact .inr rfl) (by rfl) (by simp [specOf,Kd.spec];rfl) ?_ rfl ?_;(first|exact Sp.is_stable _ _|exact aP (fun _=>rfl) _|exact aW (fun _=>rfl) (fun _=>rfl) _)))
  refine aQ (fE q) (aP (fun _=>rfl) _) rfl (fun A w' hB hk=>?_) ?_;(simp at hk;have c_hA:=aA (hB.blk hA (by simp <;> omega));simp [go_sem,hk,c_hA];refine aG ?_;exact T.out.2.1 _ hB)
  refine aQ (fE (p*q)) (aP (fun _=>rfl) _) rfl (fun A w' hB hk=>?_) ?_;(simp at hk;have c_hA:=aA (hB.blk hA (by simp <;> omega));simp [go_sem,hk,c_hA];refine aG ?_;exact T.out.2.2.1 _ _ _ hk.1 hk.2)
  refine aQ (jE (p*q)) (aW (fun _=>rfl) (fun _=>rfl) _) rfl (fun A w' hB hk=>?_) ?_;(simp at hk;have c_hA:=aA (hB.blk hA (by simp <;> omega));simp [go_sem,hk,c_hA];refine aG ?_;exact T.out.2.2.2 _ _ hk)
  refine gP (w.heap.size+1+1) (_) (coNb (p*q)) (eC (fun _=>rfl) (fun _=>rfl) _) rfl rfl (by simp) (by assumption) (by simp [hotObj,Ku,Kn]) (fun A w' hB hk h0=>?_) ?_;(simp at hk;have c_hA:=aA (hB.blk hA (by simp <;> omega));have c0:=aA h0;have f0:=bA h0;obtain ⟨k1,k2⟩:=hk;obtain ⟨y1,y2,y3,e1⟩:=(show Nb _ _ _ from k2).form;rw [e1] at k2;simp [go_sem,k1,e1,c0,f0];exact ⟨_,eE h0 _ _ _,_,_,_,rfl,k2⟩)
  refine ⟨by first|rfl|decide,fun f w2 hB hF hAp=>?_⟩;simp [Final1,Sp.is,isVar] at hF;simp only [frameOf]
  obtain ⟨o,⟨y1,y2,y3,rfl,k3⟩,ho⟩:=hF.1
  obtain ⟨⟨r0,r1,r2⟩,_⟩:=dM ho
  have K:=aH (aI k3 hB)
  clear k3 hB ho hA hC hR hAp hF
  go_wp2
  refine bodyPost_ret (v := .agg #[.int .i64 y1,.int .i64 y2,.pointer y3]) (by simp [results,Tryz.results94,go_sem,r0,r1,r2,Act.put]) rfl ⟨_,rfl,K.out.1,?_⟩
  exact Base.belowT K.out.2 B2.out.1 (by omega)
end
section
open Go.RowKit Pl
attribute [local simp] known specOf Kd.spec Sp.is isVar Oper.looksAt Op.operands Call.operands Act.eval
set_option maxRecDepth 100000 in
set_option maxHeartbeats 8000000 in
theorem minus_nb (v v' : Value) (p q:Rat) (w:World) (h:Nb w v p) (h' : Nb w v' q) (hp:Lf 36 p) (hq:Lf 36 q):Calls Tryz.prog 105 #[v,v'] w (GivesNb w (p-q)):=by
 have hsub:p-q=p + -q:=Rat.sub_eq_add_neg p q
 rw [hsub]
 obtain ⟨n1,d1,a1,rfl⟩:=h.form
 obtain ⟨n2,d2,a2,rfl⟩:=h'.form
 obtain ⟨hk1,hk2,hk3,hb1⟩:=eF w (.cells #[.int .i64 n1,.int .i64 d1,.pointer a1] 63) (.cells #[.int .i64 n2,.int .i64 d2,.pointer a2] 63) (.cells #[.int .i64 0,.int .i64 0,.pointer none] 63)
 have H:=aH (aI (h.below hb1) (aI (h'.below hb1) (aI hp (aI hq.neg (aI hb1 (aI hk1 (aI hk2 hk3)))))))
 clear h h' hp hq hb1 hk1 hk2 hk3 hsub
 go_enter Tryz.func105,Tryz.ntmps105
 go_wp2
 generalize ((w.alloc (.cells #[.int .i64 n1,.int .i64 d1,.pointer a1] 63)).alloc (.cells #[.int .i64 n2,.int .i64 d2,.pointer a2] 63)).alloc (.cells #[.int .i64 0,.int .i64 0,.pointer none] 63)=w1 at *
 have hA:=H.out.2.2.2.2.2.1
 have hC:=H.out.2.2.2.2.2.2.1
 have hR:=H.out.2.2.2.2.2.2.2
 have t1:∀ w',Base [w.heap.size+1+1] w1 w'→Calls Tryz.prog 40 #[.agg #[.int .i64 n2,.int .i64 d2,.pointer a2]] w' (TyPost w' (jE (-q))):=fun w' hB =>
  GivesNb.ty (yL _ _ _ (Nb.ext (K:=Kn) (fun _=>rfl) (fun _=>rfl) H.out.2.1 (hB.extT hR (by simp [hotObj,Kn]))))
 have t2:∀ w' x,Base [w.heap.size+1+1] w1 w'→Nb w' x (-q)→Calls Tryz.prog 35 #[.agg #[.int .i64 n1,.int .i64 d1,.pointer a1],x] w' (TyPost w' (jE (p + -q))):=fun w' x hB hx =>
  GivesNb.ty (plus_nb _ _ _ _ _ (Nb.ext (K:=Kn) (fun _=>rfl) (fun _=>rfl) H.out.1 (hB.extT hR (by simp [hotObj,Kn]))) hx H.out.2.2.1 H.out.2.2.2.1)
 have T:=aH (aI t1 t2)
 clear t1 t2
 refine wp_region_ty Kn [w.heap.size+1+1] (by kernel_rfl) (by kernel_rfl) ?_
 repeat (first|(apply bS (hg:=rfl);case h=>(intro A w' hB hk;simp at hk;have c_hA:=aA (hB.blk hA (by simp <;> omega));have c_hC:=aA (hB.blk hC (by simp <;> omega));first|(simp [go_sem,hk,c_hA,c_hC] <;> rfl)|(simp [go_sem,c_hA,c_hC];rfl)))|(refine aY _ ?_ (by first|exact .inl rfl|exact .inr rfl) (by rfl) (by simp [specOf,Kd.spec];rfl) ?_ rfl ?_;(first|exact Sp.is_stable _ _|exact aW (fun _=>rfl) (fun _=>rfl) _)))
 refine aQ (jE (-q)) (aW (fun _=>rfl) (fun _=>rfl) _) rfl (fun A w' hB hk=>?_) ?_;(simp at hk;have c_hA:=aA (hB.blk hA (by simp <;> omega));simp [go_sem,hk,c_hA];refine aG ?_;exact T.out.1 _ hB)
 refine aQ (jE (p + -q)) (aW (fun _=>rfl) (fun _=>rfl) _) rfl (fun A w' hB hk=>?_) ?_;(simp at hk;have c_hA:=aA (hB.blk hA (by simp <;> omega));simp [go_sem,hk,c_hA];refine aG ?_;exact T.out.2 _ _ hB hk.2)
 refine gP (w.heap.size+1+1) (_) (coNb (p + -q)) (eC (fun _=>rfl) (fun _=>rfl) _) rfl rfl (by simp) (by assumption) (by simp [hotObj,Ku,Kn]) (fun A w' hB hk h0=>?_) ?_;(simp at hk;have c_hA:=aA (hB.blk hA (by simp <;> omega));have c0:=aA h0;have f0:=bA h0;obtain ⟨k1,k2⟩:=hk;obtain ⟨y1,y2,y3,e1⟩:=(show Nb _ _ _ from k2).form;rw [e1] at k2;simp [go_sem,k1,e1,c0,f0];exact ⟨_,eE h0 _ _ _,_,_,_,rfl,k2⟩)
 refine ⟨by first|rfl|decide,fun f w2 hB hF hAp=>?_⟩;simp [Final1,Sp.is,isVar] at hF;simp only [frameOf]
 obtain ⟨o,⟨y1,y2,y3,rfl,k3⟩,ho⟩:=hF.1
 obtain ⟨⟨r0,r1,r2⟩,_⟩:=dM ho
 have K:=aH (aI k3 hB)
 clear k3 hB ho hA hC hR hAp hF
 go_wp2
 refine bodyPost_ret (v := .agg #[.int .i64 y1,.int .i64 y2,.pointer y3]) (by simp [results,Tryz.results105,go_sem,r0,r1,r2,Act.put]) rfl ⟨_,rfl,K.out.1,?_⟩
 exact Base.belowT K.out.2 H.out.2.2.2.2.1 (by omega)
end
section
open Go.RowKit Pl
attribute [local simp] known specOf Kd.spec Sp.is isVar Oper.looksAt Op.operands Call.operands Act.eval
theorem inv_form {q:Rat} (h0:q≠0):(q⁻¹).num=sg (decide (q.num<0)) q.den∧(q⁻¹).den=q.num.natAbs:=by
 have h:=Parts.inv (Parts.self q) h0
 exact ⟨h.num_eq,h.2.2.symm⟩
theorem sm_inv {q:Rat} (h:Sm q) (h0:q≠0):Sm q⁻¹:=by
 obtain ⟨e1,e2⟩:=inv_form h0
 refine ⟨?_,by rw [e2];exact h.1⟩
 rw [e1]
 cases decide (q.num<0)
 ·simpa [sg] using h.2
 ·simpa [sg] using h.2
set_option maxRecDepth 100000 in
set_option maxHeartbeats 8000000 in
theorem over_nb (v v' : Value) (p q:Rat) (w:World) (h:Nb w v p) (h' : Nb w v' q) (hp:Lf 38 p) (hq:Lf 38 q) (h0:q≠0):Calls Tryz.prog 33 #[v,v'] w (GivesNb w (p/q)):=by
 rw [Rat.div_def]
 obtain ⟨n1,d1,a1,rfl⟩:=h.form
 have hx:∀ w' x,Nb w' (.agg #[.int .i64 n1,.int .i64 d1,.pointer a1]) p→Nb w' x q⁻¹→Calls Tryz.prog 94 #[.agg #[.int .i64 n1,.int .i64 d1,.pointer a1],x] w' (TyPost w' (jE (p*q⁻¹))):=fun w' x y1 y2 =>
  GivesNb.ty (times_nb _ _ _ _ _ y1 y2 hp hq.inv)
 obtain ⟨f1,f2⟩:=inv_form h0
 have hsi:=fun hs=>sm_inv (q:=q) hs h0
 have hin:∀ v w',Fr w' v q→Calls Tryz.prog 95 #[v] w' (TyPost w' (fE q⁻¹)):=fun v w' hv=>GivesFr.ty (inverse_any v q w' hv h0)
 have hz:q.num≠0:=fun e=>h0 (Rat.num_eq_zero.1 e)
 generalize q⁻¹=r at *
 rcases h' with ⟨hs,rfl⟩|⟨hs,g,s1,s2,rfl,hk,g1,g2⟩
 ·have mn:=iS hs
  have md:=iR hs
  have hsr:=hsi hs
  unfold kQ
  clear hsi hin hq h0
  obtain ⟨m,hm⟩:∃ m,m=q.num:=⟨_,rfl⟩
  obtain ⟨k,hk⟩:∃ k:Int,k=(q.den:Int):=⟨_,rfl⟩
  rw [← hm] at mn hz f1 f2 ⊢
  rw [← hk] at md ⊢
  have hf1:r.num=if m<0 then -k else k:=by
   rw [f1,hk]
   by_cases h:m<0 <;> simp [sg,h]
  obtain ⟨mn1,mn2⟩:=mn
  obtain ⟨md1,md2⟩:=md
  clear hm hk hs f1
  obtain ⟨hk1,hk2,hk3,hb1⟩:=eF w (.cells #[.int .i64 n1,.int .i64 d1,.pointer a1] 63) (.cells #[.int .i64 m,.int .i64 (k-1),.pointer none] 63) (.cells #[.int .i64 0,.int .i64 0,.pointer none] 63)
  have t1:∀ w',Calls Tryz.prog 97 #[.agg #[.int .i64 m,.int .i64 (k-1),.pointer none]] w' (TyPost w' (Sp.is (.int .i64 k))):=fun w'=>by
   have:=Gives.ty (nB m (k-1) none w' (by omega) (by omega))
   rwa [Int.sub_add_cancel] at this
  have k1:IntKind.i64.wrap (-k) = -k:=by rw [IntKind.wrap_i64];omega
  have k2:IntKind.i64.wrap (-m) = -m:=by rw [IntKind.wrap_i64];omega
  by_cases hneg:m<0
  ·rw [if_pos hneg] at hf1
   have t2:∀ w',Calls Tryz.prog 96 #[.int .i64 (-k),.int .i64 (-m)] w' (TyPost w' (jE r)):=fun w' =>
    (uI (-k) (-m) w' (by omega) (by omega)).mono fun _ _ ⟨y1,y2⟩=>⟨_,y1,y2,.inl ⟨hsr,by
     have:((r.den:Nat):Int) = -m:=by rw [f2];omega
     rw [kQ,hf1,this]⟩⟩
   have H:=aH (aI (h.below hb1) (aI hb1 (aI hk1 (aI hk2 hk3))))
   have T:=aH (aI t1 (aI t2 hx))
   clear t1 t2 hx h hb1 hk1 hk2 hk3 hf1 f2 hsr mn1 mn2 md1 md2 hz hp
   go_enter Tryz.func33,Tryz.ntmps33
   go_wp2
   generalize ((w.alloc (.cells #[.int .i64 n1,.int .i64 d1,.pointer a1] 63)).alloc (.cells #[.int .i64 m,.int .i64 (k-1),.pointer none] 63)).alloc (.cells #[.int .i64 0,.int .i64 0,.pointer none] 63)=w1 at *
   have hA:=H.out.2.2.1
   have hC:=H.out.2.2.2.1
   have hR:=H.out.2.2.2.2
   refine wp_region_ty Kn [w.heap.size+1+1] (by kernel_rfl) (by kernel_rfl) ?_
   repeat (first|(apply bS (hg:=rfl);case h=>(intro A w' hB hk;simp at hk;have c_hA:=aA (hB.blk hA (by simp <;> omega));have c_hC:=aA (hB.blk hC (by simp <;> omega));first|(simp [go_sem,hk,c_hA,c_hC] <;> rfl)|(simp [go_sem,c_hA,c_hC];rfl)))|(refine aY _ ?_ (by first|exact .inl rfl|exact .inr rfl) (by rfl) (by simp [specOf,Kd.spec];rfl) ?_ rfl ?_;(first|exact Sp.is_stable _ _|exact aP (fun _=>rfl) _|exact aW (fun _=>rfl) (fun _=>rfl) _)))
   refine aQ (Sp.is (.int .i64 k)) (Sp.is_stable _ _) rfl (fun A w' hB hk=>?_) ?_;(simp at hk;have c_hA:=aA (hB.blk hA (by simp <;> omega));simp [go_sem,hk,c_hA];refine aG ?_;exact T.out.1 _)
   repeat (first|(apply bS (hg:=rfl);case h=>(intro A w' hB hk;simp at hk;have c_hA:=aA (hB.blk hA (by simp <;> omega));have c_hC:=aA (hB.blk hC (by simp <;> omega));first|(simp [go_sem,hk,c_hA,c_hC,k1,k2] <;> rfl)|(simp [go_sem,c_hA,c_hC,k1,k2];rfl)))|(refine aY _ ?_ (by first|exact .inl rfl|exact .inr rfl) (by rfl) (by simp [specOf,Kd.spec];rfl) ?_ rfl ?_;(first|exact Sp.is_stable _ _|exact aP (fun _=>rfl) _|exact aW (fun _=>rfl) (fun _=>rfl) _)))
   refine aQ (jE r) (aW (fun _=>rfl) (fun _=>rfl) _) rfl (fun A w' hB hk=>?_) ?_;(simp at hk;have c_hA:=aA (hB.blk hA (by simp <;> omega));simp [go_sem,hk,c_hA];refine aG ?_;exact T.out.2.1 _)
   refine aQ (jE (p*r)) (aW (fun _=>rfl) (fun _=>rfl) _) rfl (fun A w' hB hk=>?_) ?_;(simp at hk;have c_hA:=aA (hB.blk hA (by simp <;> omega));simp [go_sem,hk,c_hA];refine aG ?_;exact T.out.2.2 _ _ (Nb.ext (K:=Kn) (fun _=>rfl) (fun _=>rfl) H.out.1 (hB.extT hR (by simp [hotObj,Kn]))) hk.2)
   refine gP (w.heap.size+1+1) (_) (coNb (p*r)) (eC (fun _=>rfl) (fun _=>rfl) _) rfl rfl (by simp) (by assumption) (by simp [hotObj,Ku,Kn]) (fun A w' hB hk h0=>?_) ?_;(simp at hk;have c_hA:=aA (hB.blk hA (by simp <;> omega));have c0:=aA h0;have f0:=bA h0;obtain ⟨k1,k2⟩:=hk;obtain ⟨y1,y2,y3,e1⟩:=(show Nb _ _ _ from k2).form;rw [e1] at k2;simp [go_sem,k1,e1,c0,f0];exact ⟨_,eE h0 _ _ _,_,_,_,rfl,k2⟩)
   refine ⟨by first|rfl|decide,fun f w2 hB hF hAp=>?_⟩;simp [Final1,Sp.is,isVar] at hF;simp only [frameOf]
   obtain ⟨o,⟨y1,y2,y3,rfl,k3⟩,ho⟩:=hF.1
   obtain ⟨⟨r0,r1,r2⟩,_⟩:=dM ho
   have K:=aH (aI k3 hB)
   clear k3 hB ho hA hC hR hAp hF
   go_wp2
   refine bodyPost_ret (v := .agg #[.int .i64 y1,.int .i64 y2,.pointer y3]) (by simp [results,Tryz.results33,go_sem,r0,r1,r2,Act.put]) rfl ⟨_,rfl,K.out.1,?_⟩
   exact Base.belowT K.out.2 H.out.2.1 (by omega)
  ·rw [if_neg hneg] at hf1
   have t2:∀ w',Calls Tryz.prog 96 #[.int .i64 k,.int .i64 m] w' (TyPost w' (jE r)):=fun w' =>
    (uI k m w' (by omega) (by omega)).mono fun _ _ ⟨y1,y2⟩=>⟨_,y1,y2,.inl ⟨hsr,by
     have:((r.den:Nat):Int)=m:=by rw [f2];omega
     rw [kQ,hf1,this]⟩⟩
   have H:=aH (aI (h.below hb1) (aI hb1 (aI hk1 (aI hk2 hk3))))
   have T:=aH (aI t1 (aI t2 hx))
   clear t1 t2 hx h hb1 hk1 hk2 hk3 hf1 f2 hsr mn1 mn2 md1 md2 hz hp
   go_enter Tryz.func33,Tryz.ntmps33
   go_wp2
   generalize ((w.alloc (.cells #[.int .i64 n1,.int .i64 d1,.pointer a1] 63)).alloc (.cells #[.int .i64 m,.int .i64 (k-1),.pointer none] 63)).alloc (.cells #[.int .i64 0,.int .i64 0,.pointer none] 63)=w1 at *
   have hA:=H.out.2.2.1
   have hC:=H.out.2.2.2.1
   have hR:=H.out.2.2.2.2
   refine wp_region_ty Kn [w.heap.size+1+1] (by kernel_rfl) (by kernel_rfl) ?_
   repeat (first|(apply bS (hg:=rfl);case h=>(intro A w' hB hk;simp at hk;have c_hA:=aA (hB.blk hA (by simp <;> omega));have c_hC:=aA (hB.blk hC (by simp <;> omega));first|(simp [go_sem,hk,c_hA,c_hC] <;> rfl)|(simp [go_sem,c_hA,c_hC];rfl)))|(refine aY _ ?_ (by first|exact .inl rfl|exact .inr rfl) (by rfl) (by simp [specOf,Kd.spec];rfl) ?_ rfl ?_;(first|exact Sp.is_stable _ _|exact aP (fun _=>rfl) _|exact aW (fun _=>rfl) (fun _=>rfl) _)))
   refine aQ (Sp.is (.int .i64 k)) (Sp.is_stable _ _) rfl (fun A w' hB hk=>?_) ?_;(simp at hk;have c_hA:=aA (hB.blk hA (by simp <;> omega));simp [go_sem,hk,c_hA];refine aG ?_;exact T.out.1 _)
   repeat (first|(apply bS (hg:=rfl);case h=>(intro A w' hB hk;simp at hk;have c_hA:=aA (hB.blk hA (by simp <;> omega));have c_hC:=aA (hB.blk hC (by simp <;> omega));first|(simp [go_sem,hk,c_hA,c_hC,k1,k2] <;> rfl)|(simp [go_sem,c_hA,c_hC,k1,k2];rfl)))|(refine aY _ ?_ (by first|exact .inl rfl|exact .inr rfl) (by rfl) (by simp [specOf,Kd.spec];rfl) ?_ rfl ?_;(first|exact Sp.is_stable _ _|exact aP (fun _=>rfl) _|exact aW (fun _=>rfl) (fun _=>rfl) _)))
   refine aQ (jE r) (aW (fun _=>rfl) (fun _=>rfl) _) rfl (fun A w' hB hk=>?_) ?_;(simp at hk;have c_hA:=aA (hB.blk hA (by simp <;> omega));simp [go_sem,hk,c_hA];refine aG ?_;exact T.out.2.1 _)
   refine aQ (jE (p*r)) (aW (fun _=>rfl) (fun _=>rfl) _) rfl (fun A w' hB hk=>?_) ?_;(simp at hk;have c_hA:=aA (hB.blk hA (by simp <;> omega));simp [go_sem,hk,c_hA];refine aG ?_;exact T.out.2.2 _ _ (Nb.ext (K:=Kn) (fun _=>rfl) (fun _=>rfl) H.out.1 (hB.extT hR (by simp [hotObj,Kn]))) hk.2)
   refine gP (w.heap.size+1+1) (_) (coNb (p*r)) (eC (fun _=>rfl) (fun _=>rfl) _) rfl rfl (by simp) (by assumption) (by simp [hotObj,Ku,Kn]) (fun A w' hB hk h0=>?_) ?_;(simp at hk;have c_hA:=aA (hB.blk hA (by simp <;> omega));have c0:=aA h0;have f0:=bA h0;obtain ⟨k1,k2⟩:=hk;obtain ⟨y1,y2,y3,e1⟩:=(show Nb _ _ _ from k2).form;rw [e1] at k2;simp [go_sem,k1,e1,c0,f0];exact ⟨_,eE h0 _ _ _,_,_,_,rfl,k2⟩)
   refine ⟨by first|rfl|decide,fun f w2 hB hF hAp=>?_⟩;simp [Final1,Sp.is,isVar] at hF;simp only [frameOf]
   obtain ⟨o,⟨y1,y2,y3,rfl,k3⟩,ho⟩:=hF.1
   obtain ⟨⟨r0,r1,r2⟩,_⟩:=dM ho
   have K:=aH (aI k3 hB)
   clear k3 hB ho hA hC hR hAp hF
   go_wp2
   refine bodyPost_ret (v := .agg #[.int .i64 y1,.int .i64 y2,.pointer y3]) (by simp [results,Tryz.results33,go_sem,r0,r1,r2,Act.put]) rfl ⟨_,rfl,K.out.1,?_⟩
   exact Base.belowT K.out.2 H.out.2.1 (by omega)
 ·clear hz f1 f2 hsi h0 hq
  obtain ⟨A1,m1,c1,rfl⟩:=g1.form
  obtain ⟨A2,m2,c2,rfl⟩:=g2.form
  obtain ⟨neg,hneg⟩:∃ neg,decide (q.num<0)=neg:=⟨_,rfl⟩
  rw [hneg] at hk
  obtain ⟨hk1,hk2,hk3,hb1⟩:=eF w (.cells #[.int .i64 n1,.int .i64 d1,.pointer a1] 63) (.cells #[.int .i64 0,.int .i64 0,.pointer (some ⟨g,0,none⟩)] 63) (.cells #[.int .i64 0,.int .i64 0,.pointer none] 63)
  have hfr:Fr w (.agg #[.bool neg,.slice A1 m1 c1,.slice A2 m2 c2]) q:=⟨_,_,by rw [hneg],g1,g2⟩
  have hG1:=aK hb1 hk
  have H:=aH (aI (h.below hb1) (aI hb1 (aI hk1 (aI hk2 (aI hk3 (aI hG1 (hfr.below hb1)))))))
  have t1:∀ w' x,Fr w' x r→Calls Tryz.prog 58 #[x] w' (TyPost w' (jE r)):=fun w' x hx=>GivesNb.ty (eT x _ w' hx)
  have T:=aH (aI hin (aI t1 hx))
  have hlt:=lt_of_block hk
  clear t1 hin hx hk h hb1 hk1 hk2 hk3 hG1 hfr g1 g2 hneg hp hs
  go_enter Tryz.func33,Tryz.ntmps33
  go_wp2
  generalize ((w.alloc (.cells #[.int .i64 n1,.int .i64 d1,.pointer a1] 63)).alloc (.cells #[.int .i64 0,.int .i64 0,.pointer (some ⟨g,0,none⟩)] 63)).alloc (.cells #[.int .i64 0,.int .i64 0,.pointer none] 63)=w1 at *
  have hA:=H.out.2.2.1
  have hC:=H.out.2.2.2.1
  have hR:=H.out.2.2.2.2.1
  have hG:=H.out.2.2.2.2.2.1
  refine wp_region_ty Kn [w.heap.size+1+1] (by kernel_rfl) (by kernel_rfl) ?_
  repeat (first|(apply bS (hg:=rfl);case h=>(intro A w' hB hk;simp at hk;have c_hA:=aA (hB.blk hA (by simp <;> omega));have c_hC:=aA (hB.blk hC (by simp <;> omega));have c_hG:=aA (hB.blk hG (by simp <;> omega));first|(simp [go_sem,hk,c_hA,c_hC,c_hG] <;> rfl)|(simp [go_sem,c_hA,c_hC,c_hG];rfl)))|(refine aY _ ?_ (by first|exact .inl rfl|exact .inr rfl) (by rfl) (by simp [specOf,Kd.spec];rfl) ?_ rfl ?_;(first|exact Sp.is_stable _ _|exact aP (fun _=>rfl) _|exact aW (fun _=>rfl) (fun _=>rfl) _)))
  refine aQ (fE r) (aP (fun _=>rfl) _) rfl (fun A w' hB hk=>?_) ?_;(simp at hk;have c_hA:=aA (hB.blk hA (by simp <;> omega));simp [go_sem,hk,c_hA];refine aG ?_;exact T.out.1 _ _ (Fr.ext (K:=Kn) (fun _=>rfl) H.out.2.2.2.2.2.2 (hB.extT hR (by simp [hotObj,Kn]))))
  refine aQ (jE r) (aW (fun _=>rfl) (fun _=>rfl) _) rfl (fun A w' hB hk=>?_) ?_;(simp at hk;have c_hA:=aA (hB.blk hA (by simp <;> omega));simp [go_sem,hk,c_hA];refine aG ?_;exact T.out.2.1 _ _ hk)
  refine aQ (jE (p*r)) (aW (fun _=>rfl) (fun _=>rfl) _) rfl (fun A w' hB hk=>?_) ?_;(simp at hk;have c_hA:=aA (hB.blk hA (by simp <;> omega));simp [go_sem,hk,c_hA];refine aG ?_;exact T.out.2.2 _ _ (Nb.ext (K:=Kn) (fun _=>rfl) (fun _=>rfl) H.out.1 (hB.extT hR (by simp [hotObj,Kn]))) hk.2)
  refine gP (w.heap.size+1+1) (_) (coNb (p*r)) (eC (fun _=>rfl) (fun _=>rfl) _) rfl rfl (by simp) (by assumption) (by simp [hotObj,Ku,Kn]) (fun A w' hB hk h0=>?_) ?_;(simp at hk;have c_hA:=aA (hB.blk hA (by simp <;> omega));have c0:=aA h0;have f0:=bA h0;obtain ⟨k1,k2⟩:=hk;obtain ⟨y1,y2,y3,e1⟩:=(show Nb _ _ _ from k2).form;rw [e1] at k2;simp [go_sem,k1,e1,c0,f0];exact ⟨_,eE h0 _ _ _,_,_,_,rfl,k2⟩)
  refine ⟨by first|rfl|decide,fun f w2 hB hF hAp=>?_⟩;simp [Final1,Sp.is,isVar] at hF;simp only [frameOf]
  obtain ⟨o,⟨y1,y2,y3,rfl,k3⟩,ho⟩:=hF.1
  obtain ⟨⟨r0,r1,r2⟩,_⟩:=dM ho
  have K:=aH (aI k3 hB)
  clear k3 hB ho hA hC hR hAp hF
  go_wp2
  refine bodyPost_ret (v := .agg #[.int .i64 y1,.int .i64 y2,.pointer y3]) (by simp [results,Tryz.results33,go_sem,r0,r1,r2,Act.put]) rfl ⟨_,rfl,K.out.1,?_⟩
  exact Base.belowT K.out.2 H.out.2.1 (by omega)
end
section
open Go.RowKit Pl
set_option maxRecDepth 100000 in
theorem integer_any (z:Int) (w:World) (h1:-9223372036854775808≤z) (h2:z≤9223372036854775807):Calls Tryz.prog 74 #[.int .i64 z] w (GivesNb w (z:Rat)):=by
 have hb1:Below w.heap.size w (w.alloc (.cells #[.int .i64 0,.int .i64 0,.pointer none] 63)):=(aB _ _).alloc (aR _) _
 by_cases hz:z = -9223372036854775808
 ·subst hz
  have n1:∀ w',Calls Tryz.prog 146 #[.int .u64 9223372036854775808] w' (GivesNt w' 9223372036854775808):=fun w'=>cA 9223372036854775808 (by rw [aL];decide) w'
  have n2:∀ w',Calls Tryz.prog 146 #[.int .u64 1] w' (GivesNt w' 1):=fun w'=>cA 1 (by rw [aL];decide) w'
  obtain ⟨q,hq⟩:∃ q:Rat,q=((-9223372036854775808:Int):Rat):=⟨_,rfl⟩
  have hfr:∀ w' s1 s2,Nt w' s1 9223372036854775808→Nt w' s2 1→Fr w' (.agg #[.bool true,s1,s2]) q:=fun w' s1 s2 k1 k2=>by
   subst hq
   exact ⟨s1,s2,by rw [Rat.num_intCast];rfl,by rw [Rat.num_intCast];exact k1,by rw [Rat.den_intCast];exact k2⟩
  rw [← hq]
  clear hq
  have hk0:(w.alloc (.cells #[.int .i64 0,.int .i64 0,.pointer none] 63)).heap[w.heap.size]?=some (.cells #[.int .i64 0,.int .i64 0,.pointer none] 63):=heap_alloc_new w _
  have H:=aH (aI n1 (aI n2 (aI hfr (aI hb1 hk0))))
  clear n1 n2 hfr hb1 hk0
  go_enter Tryz.func74,Tryz.ntmps74
  go_wp2_with fail
  refine (H.out.1 _).mono ?_
  rintro e w2 ⟨v2,rfl,q2,b2⟩
  obtain ⟨A1,m1,c1,rfl⟩:=q2.form
  have Q2:=aH (aI q2 b2)
  clear q2 b2
  go_wp2_with fail
  refine (H.out.2.1 _).mono ?_
  rintro e w3 ⟨v3,rfl,q3,b3⟩
  obtain ⟨A2,m2,c2,rfl⟩:=q3.form
  have Q3:=aH (aI (H.out.2.2.1 _ _ _ (Q2.out.1.below b3) q3) (Below.step_trans Q2.out.2 b3))
  clear q3 b3 Q2
  go_wp2_with fail
  refine (eT _ _ _ Q3.out.1).mono ?_
  rintro e w4 ⟨v4,rfl,q4,b4⟩
  obtain ⟨n,d,p,rfl⟩:=q4.form
  have hb4:=Below.step_trans Q3.out.2 b4
  have hk:=aK hb4 H.out.2.2.2.2
  obtain ⟨⟨h0,h1,h2⟩,f0,f1,f2⟩:=dM hk
  have Q4:=aH (aI q4 (aI hb4 hk))
  clear q4 b4 hk hb4 Q3
  go_wp2
  refine bodyPost_ret (v := .agg #[.int .i64 n,.int .i64 d,.pointer p]) (by simp [results,Tryz.results74,go_sem,h0,h1,h2]) rfl ⟨_,rfl,?_,?_⟩
  ·exact Nb.ext (K:=Kn) (fun _=>rfl) (fun _=>rfl) Q4.out.1 (Ext.only (qM _ _ _ _ _) Q4.out.2.2 (by simp [hotObj,Kn]))
  ·repeat (first|exact (Below.step_trans H.out.2.2.2.1 Q4.out.2.1)|(refine Below.setCell ?_ (by first|omega|(simp <;> omega)) _)|(refine Below.alloc ?_ (by first|omega|(simp <;> omega)) _)|(refine Below.drew ?_)|exact aB _ _)
 ·have hnb:∀ w',Nb w' (.agg #[.int .i64 z,.int .i64 0,.pointer none]) (z:Rat):=fun w' => .inl ⟨⟨by rw [Rat.num_intCast,dO];omega,by rw [Rat.den_intCast,dO];omega⟩,by rw [kQ,Rat.num_intCast,Rat.den_intCast];rfl⟩
  have H:=aH hnb
  clear hnb hb1
  go_enter Tryz.func74,Tryz.ntmps74
  go_wp2
  refine bodyPost_ret (v := .agg #[.int .i64 z,.int .i64 0,.pointer none]) (by simp [results,Tryz.results74,go_sem]) rfl ⟨_,rfl,H.out _,?_⟩
  repeat (first|exact aB _ _|(refine Below.setCell ?_ (by first|omega|(simp <;> omega)) _)|(refine Below.alloc ?_ (by first|omega|(simp <;> omega)) _)|(refine Below.drew ?_)|exact aB _ _)
theorem blk9 {w:World} {g:Nat} {a b c d e f h i j:Value} {t:TypeId} (hk:w.heap[g]?=some (.cells #[a,b,c,d,e,f,h,i,j] t (0,0))) :
 w.cell? ⟨g,0,none⟩=some a∧w.cell? ⟨g,1,none⟩=some b∧w.cell? ⟨g,2,none⟩=some c∧w.cell? ⟨g,3,none⟩=some d∧w.cell? ⟨g,4,none⟩=some e∧w.cell? ⟨g,5,none⟩=some f∧w.cell? ⟨g,6,none⟩=some h∧w.cell? ⟨g,7,none⟩=some i∧w.cell? ⟨g,8,none⟩=some j:=by
 have hc:=aA hk
 simp [hc]
def Vc (w:World) (v:Value) (a b c:Rat):Prop :=
 ∃ n1 d1 p1 n2 d2 p2 n3 d3 p3,v = .agg #[.int .i64 n1,.int .i64 d1,.pointer p1,.int .i64 n2,.int .i64 d2,.pointer p2,.int .i64 n3,.int .i64 d3,.pointer p3] ∧
   Nb w (.agg #[.int .i64 n1,.int .i64 d1,.pointer p1]) a∧Nb w (.agg #[.int .i64 n2,.int .i64 d2,.pointer p2]) b∧Nb w (.agg #[.int .i64 n3,.int .i64 d3,.pointer p3]) c
theorem Vc.below {w w' : World} {v:Value} {a b c:Rat} (h:Vc w v a b c) (hb:Below w.heap.size w w'):Vc w' v a b c:=by
 obtain ⟨n1,d1,p1,n2,d2,p2,n3,d3,p3,e,h1,h2,h3⟩:=h
 exact ⟨n1,d1,p1,n2,d2,p2,n3,d3,p3,e,h1.below hb,h2.below hb,h3.below hb⟩
theorem Vc.ext {K:Value→Bool} (hK:∀ x,K (.int .u64 x)=true) (hK2:∀ b,K (.bool b)=true) {w w' : World} {v:Value} {a b c:Rat} (h:Vc w v a b c) (hx:Ext K w w'):Vc w' v a b c:=by
 obtain ⟨n1,d1,p1,n2,d2,p2,n3,d3,p3,e,h1,h2,h3⟩:=h
 exact ⟨n1,d1,p1,n2,d2,p2,n3,d3,p3,e,h1.ext hK hK2 hx,h2.ext hK hK2 hx,h3.ext hK hK2 hx⟩
set_option maxRecDepth 100000 in
theorem isZero_vc (v:Value) (a b c:Rat) (w:World) (h:Vc w v a b c):Calls Tryz.prog 62 #[v] w (Gives w (.bool (decide (a=0)&&decide (b=0)&&decide (c=0)))):=by
 obtain ⟨n1,d1,p1,n2,d2,p2,n3,d3,p3,rfl,h1,h2,h3⟩:=h
 have hb1:Below w.heap.size w (w.alloc (.cells #[.int .i64 n1,.int .i64 d1,.pointer p1,.int .i64 n2,.int .i64 d2,.pointer p2,.int .i64 n3,.int .i64 d3,.pointer p3] 65)):=(aB _ _).alloc (aR _) _
 have hk1:=heap_alloc_new w (.cells #[.int .i64 n1,.int .i64 d1,.pointer p1,.int .i64 n2,.int .i64 d2,.pointer p2,.int .i64 n3,.int .i64 d3,.pointer p3] 65)
 have t1:=fun w' (hb:Below w.heap.size w w')=>pO _ _ w' (h1.below hb)
 have t2:=fun w' (hb:Below w.heap.size w w')=>pO _ _ w' (h2.below hb)
 have t3:=fun w' (hb:Below w.heap.size w w')=>pO _ _ w' (h3.below hb)
 clear h1 h2 h3
 generalize decide (a=0)=za at *
 generalize decide (b=0)=zb at *
 generalize decide (c=0)=zc at *
 have H:=aH (aI t1 (aI t2 t3))
 have B1:=aH (aI hb1 hk1)
 clear t1 t2 t3 hb1 hk1
 go_enter Tryz.func62,Tryz.ntmps62
 cases za
 ·skip
  go_wp2_with fail
  refine (H.out.1 _ B1.out.1).mono ?_
  rintro e w2 ⟨rfl,b2⟩
  have B2:=aH (aI (Below.step_trans B1.out.1 b2) (aK b2 B1.out.2))
  obtain ⟨x0,x1,x2,x3,x4,x5,x6,x7,x8⟩:=blk9 B2.out.2
  clear b2
  go_wp2
  go_ret
  exact ⟨rfl,B2.out.1⟩
 ·cases zb
  ·skip
   go_wp2_with fail
   refine (H.out.1 _ B1.out.1).mono ?_
   rintro e w2 ⟨rfl,b2⟩
   have B2:=aH (aI (Below.step_trans B1.out.1 b2) (aK b2 B1.out.2))
   obtain ⟨x0,x1,x2,x3,x4,x5,x6,x7,x8⟩:=blk9 B2.out.2
   clear b2
   go_wp2_with fail
   refine (H.out.2.1 _ B2.out.1).mono ?_
   rintro e w3 ⟨rfl,b2⟩
   have B3:=aH (aI (Below.step_trans B2.out.1 b2) (aK b2 B2.out.2))
   obtain ⟨x0,x1,x2,x3,x4,x5,x6,x7,x8⟩:=blk9 B3.out.2
   clear b2
   go_wp2
   go_ret
   exact ⟨rfl,B3.out.1⟩
  ·skip
   go_wp2_with fail
   refine (H.out.1 _ B1.out.1).mono ?_
   rintro e w2 ⟨rfl,b2⟩
   have B2:=aH (aI (Below.step_trans B1.out.1 b2) (aK b2 B1.out.2))
   obtain ⟨x0,x1,x2,x3,x4,x5,x6,x7,x8⟩:=blk9 B2.out.2
   clear b2
   go_wp2_with fail
   refine (H.out.2.1 _ B2.out.1).mono ?_
   rintro e w3 ⟨rfl,b2⟩
   have B3:=aH (aI (Below.step_trans B2.out.1 b2) (aK b2 B2.out.2))
   obtain ⟨x0,x1,x2,x3,x4,x5,x6,x7,x8⟩:=blk9 B3.out.2
   clear b2
   go_wp2_with fail
   refine (H.out.2.2 _ B3.out.1).mono ?_
   rintro e w4 ⟨rfl,b2⟩
   have B4:=aH (aI (Below.step_trans B3.out.1 b2) (aK b2 B3.out.2))
   obtain ⟨x0,x1,x2,x3,x4,x5,x6,x7,x8⟩:=blk9 B4.out.2
   clear b2
   go_wp2
   go_ret
   exact ⟨rfl,B4.out.1⟩
end
namespace Ab
open Go.RowKit
variable {Kc:Value→Bool}
def Seg.noPtr:Seg Kc→Bool
 | .ptr .. | .slc .. => false
 | _=>true
def FV.noPtr:FV Kc→Bool
 | .sc s=>s.noPtr
 | .ag l | .nsl _ _ l=>l.all Seg.noPtr
 | .clo _ a b=>(a.all fun c=>c.2.all Seg.noPtr)&&(b.all fun c=>c.2.all Seg.noPtr)
 | .un=>true
def AV.noPtr:AV Kc→Bool
 | .fv f=>f.noPtr
 | .tup l=>l.all FV.noPtr
theorem Seg.noPtr_holds {s:Seg Kc} (h:s.noPtr=true) {β γ:List Nat} {cs:List Value} {w:World} (hs:s.holds β cs w):s.holds γ cs w:=by
 cases s <;> first|exact hs|cases h
theorem holdsL.noPtr {β γ:List Nat} {w:World}:∀ {l:List (Seg Kc)} {cs:List Value},l.all Seg.noPtr=true→holdsL β l cs w→holdsL γ l cs w
 | [],_,_,h=>h
 | s::l,_,hn,⟨a,b,e,h1,h2⟩=>by
   rw [List.all_cons,Bool.and_eq_true] at hn
   exact ⟨a,b,e,Seg.noPtr_holds hn.1 h1,holdsL.noPtr hn.2 h2⟩
theorem holdsC.noPtr {β γ:List Nat} {w:World}:∀ {l:List (Bool×List (Seg Kc))} {vs:List Value},(l.all fun c=>c.2.all Seg.noPtr)=true→holdsC β l vs w→holdsC γ l vs w
 | [],_,_,h=>h
 | (b,m)::l,_,hn,⟨v,r,e,h1,h2⟩=>by
   rw [List.all_cons,Bool.and_eq_true] at hn
   refine ⟨v,r,e,?_,holdsC.noPtr hn.2 h2⟩
   cases b with
   | true=>obtain ⟨cs,e,h1⟩:=h1;exact ⟨cs,e,h1.noPtr hn.1⟩
   | false=>exact holdsL.noPtr hn.1 h1
theorem FV.noPtr_holds {f:FV Kc} (h:f.noPtr=true) {β γ:List Nat} {v:Value} {w:World} (hs:f.holds β v w):f.holds γ v w:=by
 cases f with
 | sc s=>exact Seg.noPtr_holds h hs
 | ag l=>obtain ⟨cs,e,hl⟩:=hs;exact ⟨cs,e,hl.noPtr h⟩
 | nsl n T l=>obtain ⟨g,cs,e,hg,hl⟩:=hs;exact ⟨g,cs,e,hg,hl.noPtr h⟩
 | clo F a b =>
   rw [FV.noPtr,Bool.and_eq_true] at h
   obtain ⟨xs,ys,e,h1,h2⟩:=hs
   exact ⟨xs,ys,e,h1.noPtr h.1,h2.noPtr h.2⟩
 | un=>trivial
theorem holdsF.noPtr {β γ:List Nat} {w:World}:∀ {l:List (FV Kc)} {vs:List Value},l.all FV.noPtr=true→holdsF β l vs w→holdsF γ l vs w
 | [],_,_,h=>h
 | f::l,_,hn,⟨v,r,e,h1,h2⟩=>by
   rw [List.all_cons,Bool.and_eq_true] at hn
   exact ⟨v,r,e,FV.noPtr_holds hn.1 h1,holdsF.noPtr hn.2 h2⟩
theorem AV.noPtr_holds {x:AV Kc} (h:x.noPtr=true) {β γ:List Nat} {v:Value} {w:World} (hs:x.holds β v w):x.holds γ v w:=by
 cases x with
 | fv f=>exact FV.noPtr_holds h hs
 | tup l=>obtain ⟨vs,e,hl⟩:=hs;exact ⟨vs,e,hl.noPtr h⟩
def Fits (P:Program) (f:FuncId) (args:List (AV Kc)) (x:AV Kc):Prop :=
 ∀ β w vs,holdsA β args vs w→Calls P f vs.toArray w fun e w' => ∃ v,e = .returned v∧Below w.heap.size w w'∧x.holds β v w'
section
variable {P:Program} {f:FuncId} {w00:World} {Out:Value→World→Prop}
structure Ok (P:Program) (f:FuncId) (w00:World) (Out:Value→World→Prop) (c:Cfg Kc):Prop where
 good:iN P f w00 Out c
theorem Ok.go (hm:P.follows .mixedOrders=true) (hK:KOk Kc) (n:Nat) {c:Cfg Kc} (h:Ok P f w00 Out (cG P n c)):Ok P f w00 Out c:=⟨good_run hm hK n h.good⟩
theorem Ok.call {c:Cfg Kc} (fn:FuncId) (args:List (AV Kc)) {x:AV Kc} (h:Fits P fn args x) (hf:c.callee P=some fn) (ha:c.args P=args) (hx:c.okT x=true) (hfn:∀ (args:Array Value) (w:World),(callFunc fn args).run P w = .ok (.enter fn args) w)
 (hg:Ok P f w00 Out (c.give x)):Ok P f w00 Out c :=
 ⟨pM fn x hf hx hfn (fun β w vs _ _ hv=>h β w vs (by rw [← ha];exact hv)) hg.good⟩
theorem Ok.op {c:Cfg Kc} (o:Oper) (x:AV Kc) (ho:c.op=some o) (hx:c.okT x=true)
 (h:∀ β ρ w,(c.canB=true→Below w00.heap.size w00 w)→Mem β c.mem w→(∀ y∈o.op.operands,(c.ev y).holds β (ρ y) w) →
  (∃ v w',(execOp ρ o).run P w = .ok (.value v) w'∧Below w.heap.size w w'∧x.holds β v w') ∨
  (∃ fn vs,(execOp ρ o).run P w = .ok (.enter fn vs) w∧Calls P fn vs w fun e w' => ∃ v,e = .returned v∧Below w.heap.size w w'∧x.holds β v w'))
 (hg:Ok P f w00 Out (c.give x)):Ok P f w00 Out c:=⟨good_op o x ho hx h hg.good⟩
def FitsW (P:Program) (I:World→Prop) (f:FuncId) (args:List (AV Kc)) (x:AV Kc):Prop :=
 ∀ β w vs,I w→holdsA β args vs w→Calls P f vs.toArray w fun e w' => ∃ v,e = .returned v∧Below w.heap.size w w'∧x.holds β v w'
theorem Ok.callW {I:World→Prop} {c:Cfg Kc} (hI:∀ w,Below w00.heap.size w00 w→I w) (fn:FuncId) (args:List (AV Kc)) {x:AV Kc} (h:FitsW P I fn args x) (hf:c.callee P=some fn) (ha:c.args P=args) (hx:c.okT x=true) (hro:c.canB=true) (hfn:∀ (args:Array Value) (w:World),(callFunc fn args).run P w = .ok (.enter fn args) w)
 (hg:Ok P f w00 Out (c.give x)):Ok P f w00 Out c :=
 ⟨pM fn x hf hx hfn (fun β w vs hB _ hv=>h β w vs (hI w (hB hro)) (by rw [← ha];exact hv)) hg.good⟩
theorem Ok.callS {c:Cfg Kc} (fn:FuncId) (k n:Nat) (T:TypeId) (l:List (Seg Kc)) {x:AV Kc} (h:Fits P fn [.fv (.nsl n T l)] x) (hf:c.callee P=some fn) (ha:c.args P = [.fv (.sc (.slc k 0 n n))]) (hx:c.okT x=true) (hm:c.mem[k]?=some (some (T,l))) (hfn:∀ (args:Array Value) (w:World),(callFunc fn args).run P w = .ok (.enter fn args) w)
 (hg:Ok P f w00 Out (c.give x)):Ok P f w00 Out c :=
 ⟨pM fn x hf hx hfn (fun β w vs _ hM hv=>by
  rw [ha] at hv
  obtain ⟨v,r,rfl,h1,h2⟩:=hv
  obtain ⟨g,hg,hv⟩:=xQ h1
  obtain ⟨g',cs,hg',hh,hl⟩:=hM k T l hm
  rw [hg] at hg'
  injection hg' with hg'
  subst hg'
  exact h β w _ ⟨v,r,rfl,⟨g,cs,hv,hh,hl⟩,h2⟩) hg.good⟩
theorem fitsW_of {I:World→Prop} {fn:Func} {args:List (AV Kc)} {x:AV Kc} (hfn:P.funcs[f]?=some fn) (hb:fn.body.isSome=true) (hn:(args.length≤fn.ntmps:Bool)=true) (hx:x.noPtr=true) (ha:args.all AV.noPtr=true)
 (h:∀ w00,I w00→Ok P f w00 (fun v w=>x.holds [] v w) (.items [.code (fn.body.getD .skip)] { slots:=args++List.replicate (fn.ntmps-args.length) .un,blocks := [],ro:=0 })):FitsW P I f args x:=by
 intro β w vs hI hv
 have hv' : holdsA [] args vs w:=by
  have key:∀ {l:List (AV Kc)} {us:List Value},l.all AV.noPtr=true→holdsA β l us w→holdsA [] l us w:=fun {l}=>by
   induction l with
   | nil=>intro us _ h;exact h
   | cons y l ih =>
     rintro us hn ⟨v,r,e,h1,h2⟩
     rw [List.all_cons,Bool.and_eq_true] at hn
     exact ⟨v,r,e,AV.noPtr_holds hn.1 h1,ih hn.2 h2⟩
  exact key ha hv
 have hb2:fn.body=some (fn.body.getD .skip):=by
  cases hb2:fn.body with
  | none=>rw [hb2] at hb;cases hb
  | some c=>rfl
 refine (eM (w00:=w) (Out:=fun v w=>x.holds [] v w) hfn hb2 args [] [] vs (fn.ntmps-args.length) (by simp at hn;omega) hv' rfl (by simp) (fun k T l hk=>by simp at hk) (by simp) (h w hI).good).mono ?_
 rintro e w' ⟨v,rfl,hb,ho⟩
 exact ⟨v,rfl,hb,AV.noPtr_holds hx ho⟩
theorem fitsS_of {fn:Func} {n:Nat} {T:TypeId} {l:List (Seg Kc)} {x:AV Kc} (hfn:P.funcs[f]?=some fn) (hb:fn.body.isSome=true) (hn:(1≤fn.ntmps:Bool)=true) (hx:x.noPtr=true) (hl:l.all Seg.noPtr=true)
 (h:∀ w00,Ok P f w00 (fun v w=>x.holds [] v w) (.items [.code (fn.body.getD .skip)] { slots := [.fv (.sc (.slc 0 0 n n))]++List.replicate (fn.ntmps-1) .un,blocks := [(T,l)],ro:=1 })):Fits P f [.fv (.nsl n T l)] x:=by
 rintro β w vs ⟨v,r,rfl,⟨g,cs,rfl,hg,hcs⟩,h2⟩
 rw [show r = [] from h2]
 have hb2:fn.body=some (fn.body.getD .skip):=by
  cases hb2:fn.body with
  | none=>rw [hb2] at hb;cases hb
  | some c=>rfl
 refine (eM (w00:=w) (Out:=fun v w=>x.holds [] v w) hfn hb2 [.fv (.sc (.slc 0 0 n n))] [(T,l)] [g] [.slice (some ⟨g,0,none⟩) n n] (fn.ntmps-1) (by simp at hn;simp;omega) ⟨_,[],rfl,⟨g,rfl,rfl⟩,rfl⟩ rfl (by simp)
  (fun k T' l' hk=>?_) (by simp;exact lt_of_block hg) (h w).good).mono ?_
 ·match k,hk with
  | 0,hk =>
    simp at hk
    obtain ⟨rfl,rfl⟩:=hk
    exact ⟨g,cs,rfl,hg,hcs.noPtr hl⟩
 ·rintro e w' ⟨v,rfl,hb,ho⟩
  exact ⟨v,rfl,hb,AV.noPtr_holds hx ho⟩
theorem fits_of {fn:Func} {code:Code} {args:List (AV Kc)} {x:AV Kc} (hfn:P.funcs[f]?=some fn) (hb:fn.body=some code) (n:Nat) (hn:fn.ntmps=args.length+n) (hx:x.noPtr=true) (ha:args.all AV.noPtr=true)
 (h:∀ w00,iN P f w00 (fun v w=>x.holds [] v w) (.items [.code code] { slots:=args++List.replicate n .un,blocks := [],ro:=0 })):Fits P f args x:=by
 intro β w vs hv
 have hv' : holdsA [] args vs w:=by
  have key:∀ {l:List (AV Kc)} {us:List Value},l.all AV.noPtr=true→holdsA β l us w→holdsA [] l us w:=fun {l}=>by
   induction l with
   | nil=>intro us _ h;exact h
   | cons y l ih =>
     rintro us hn ⟨v,r,e,h1,h2⟩
     rw [List.all_cons,Bool.and_eq_true] at hn
     exact ⟨v,r,e,AV.noPtr_holds hn.1 h1,ih hn.2 h2⟩
  exact key ha hv
 refine (eM (w00:=w) (Out:=fun v w=>x.holds [] v w) hfn hb args [] [] vs n hn hv' rfl (by simp) (fun k T l hk=>by simp at hk) (by simp) (h w)).mono ?_
 rintro e w' ⟨v,rfl,hb,ho⟩
 exact ⟨v,rfl,hb,AV.noPtr_holds hx ho⟩
abbrev oP (fn:Func) (args:List (AV Kc)):Cfg Kc := .items [.code (fn.body.getD .skip)] { slots:=args++List.replicate (fn.ntmps-args.length) .un,blocks := [],ro:=0 }
theorem fits_go {fn:Func} {args:List (AV Kc)} {x:AV Kc} (hfn:P.funcs[f]?=some fn) (hb:fn.body.isSome=true) (hn:(args.length≤fn.ntmps:Bool)=true) (hx:x.noPtr=true) (ha:args.all AV.noPtr=true)
 (h:∀ w00,Ok P f w00 (fun v w=>x.holds [] v w) (oP fn args)):Fits P f args x:=by
 refine fits_of hfn (code:=fn.body.getD .skip) ?_ (fn.ntmps-args.length) ?_ hx ha (fun w00=>(h w00).good)
 ·cases hb2:fn.body with
  | none=>rw [hb2] at hb;cases hb
  | some c=>rfl
 ·simp at hn
  omega
theorem Ok.ret {c:Cfg Kc} {fn:Func} {x:AV Kc} (hfn:P.funcs[f]?=some fn) (hx:x.noPtr=true) (hr:c.res P fn=some x):Ok P f w00 (fun v w=>x.holds [] v w) c :=
 ⟨xX hfn x hr (fun _ _ _ h=>AV.noPtr_holds hx h)⟩
end
abbrev jF{Kc:Value→Bool}(f:FuncId)(l:List (AV Kc))(x:AV Kc):Prop:=Fits Tryz.prog f l x
theorem lU:KOk Kn:=⟨fun _=>rfl,fun _ _ _=>rfl⟩
def csNb (q:Rat):CS Kn where
 size:=3
 cold:=true
 pred cs w:=Nb w (.agg cs.toArray) q
 stable cs w w' h hx:=Nb.ext (K:=Kn) (fun _=>rfl) (fun _=>rfl) h hx
 len cs w h:=by
  obtain ⟨n,d,p,e⟩:=Nb.form h
  injection e with e
  have:=congrArg Array.toList e
  simp at this
  rw [this];rfl
 one cs w h:=by
  obtain ⟨n,d,p,e⟩:=Nb.form h
  injection e with e
  have:=congrArg Array.toList e
  simp at this
  rw [this]
  intro c hc
  simp at hc
  rcases hc with rfl|rfl|rfl <;> rfl
 iscold _ cs w h:=by
  obtain ⟨n,d,p,e⟩:=Nb.form h
  injection e with e
  have:=congrArg Array.toList e
  simp at this
  rw [this]
  intro c hc
  simp at hc
  rcases hc with rfl|rfl|rfl <;> rfl
abbrev nb (q:Rat):Seg Kn := .sp (csNb q)
abbrev num (q:Rat):AV Kn := .fv (.ag [nb q])
abbrev vc (a b c:Rat):AV Kn := .fv (.ag [nb a,nb b,nb c])
theorem dH {β:List Nat} {v:Value} {w:World} {q:Rat}:(num q).holds β v w↔Nb w v q:=by
 constructor
 ·rintro ⟨cs,rfl,h⟩
  exact mU h
 ·intro h
  obtain ⟨n,d,p,rfl⟩:=Nb.form h
  exact ⟨[.int .i64 n,.int .i64 d,.pointer p],rfl,_,[],rfl,h,rfl⟩
theorem sM {β:List Nat} {v:Value} {w:World} {a b c:Rat}:(vc a b c).holds β v w↔Vc w v a b c:=by
 constructor
 ·rintro ⟨cs,rfl,x1,r1,rfl,h1,x2,r2,rfl,h2,x3,r3,rfl,h3,e⟩
  rw [show r3 = [] from e]
  obtain ⟨n1,d1,p1,e1⟩:=Nb.form h1
  obtain ⟨n2,d2,p2,e2⟩:=Nb.form h2
  obtain ⟨n3,d3,p3,e3⟩:=Nb.form h3
  injection e1 with e1
  injection e2 with e2
  injection e3 with e3
  have e1:=congrArg Array.toList e1
  have e2:=congrArg Array.toList e2
  have e3:=congrArg Array.toList e3
  simp at e1 e2 e3
  subst e1
  subst e2
  subst e3
  exact ⟨n1,d1,p1,n2,d2,p2,n3,d3,p3,rfl,h1,h2,h3⟩
 ·rintro ⟨n1,d1,p1,n2,d2,p2,n3,d3,p3,rfl,h1,h2,h3⟩
  exact ⟨[.int .i64 n1,.int .i64 d1,.pointer p1,.int .i64 n2,.int .i64 d2,.pointer p2,.int .i64 n3,.int .i64 d3,.pointer p3],rfl,
   [.int .i64 n1,.int .i64 d1,.pointer p1],_,rfl,h1,[.int .i64 n2,.int .i64 d2,.pointer p2],_,rfl,h2,[.int .i64 n3,.int .i64 d3,.pointer p3],[],rfl,h3,rfl⟩
theorem dC {β:List Nat} {w:World} {x:AV Kc} {vs:List Value} (h:holdsA β [x] vs w):∃ v,vs = [v]∧x.holds β v w:=by
 obtain ⟨v,r,rfl,h1,h2⟩:=h
 exact ⟨v,by rw [show r = [] from h2],h1⟩
theorem dJ {β:List Nat} {w:World} {x y:AV Kc} {vs:List Value} (h:holdsA β [x,y] vs w):∃ v u,vs = [v,u]∧x.holds β v w∧y.holds β u w:=by
 obtain ⟨v,r,rfl,h1,h2⟩:=h
 obtain ⟨u,rfl,h3⟩:=dC h2
 exact ⟨v,u,rfl,h1,h3⟩
theorem fits_nb1 {P:Program} {f:FuncId} {p r:Rat} (h:∀ v w,Nb w v p→Calls P f #[v] w (GivesNb w r)):Fits P f [num p] (num r):=by
 intro β w vs hv
 obtain ⟨v,rfl,h1⟩:=dC hv
 exact (h v w (dH.1 h1)).mono fun e w' ⟨u,e,h1,h2⟩=>⟨u,e,h2,dH.2 h1⟩
theorem sN {P:Program} {f:FuncId} {p q r:Rat} (h:∀ v v' w,Nb w v p→Nb w v' q→Calls P f #[v,v'] w (GivesNb w r)):Fits P f [num p,num q] (num r):=by
 intro β w vs hv
 obtain ⟨v,u,rfl,h1,h2⟩:=dJ hv
 exact (h v u w (dH.1 h1) (dH.1 h2)).mono fun e w' ⟨u,e,h1,h2⟩=>⟨u,e,h2,dH.2 h1⟩
theorem kgo {f:FuncId} {fn:Func} {args:List (AV Kn)} {x:AV Kn} (hfn:Tryz.prog.funcs[f]?=some fn) (hc:(fn.body.isSome,decide (args.length≤fn.ntmps),x.noPtr,args.all AV.noPtr)=(true,true,true,true))
 (h:∀ w00,Ok Tryz.prog f w00 (fun v w=>x.holds [] v w) (cG Tryz.prog 1000 (oP fn args))):jF f args x:=by
 simp only [Prod.mk.injEq] at hc
 exact fits_go hfn hc.1 hc.2.1 hc.2.2.1 hc.2.2.2 fun w00=>Ok.go (by kernel_rfl) lU 1000 (h w00)
theorem kgoW {I:World→Prop} {f:FuncId} {fn:Func} {args:List (AV Kn)} {x:AV Kn} (hfn:Tryz.prog.funcs[f]?=some fn) (hc:(fn.body.isSome,decide (args.length≤fn.ntmps),x.noPtr,args.all AV.noPtr)=(true,true,true,true))
 (h:∀ w00,I w00→Ok Tryz.prog f w00 (fun v w=>x.holds [] v w) (cG Tryz.prog 1000 (oP fn args))):FitsW Tryz.prog I f args x:=by
 simp only [Prod.mk.injEq] at hc
 exact fitsW_of hfn hc.1 hc.2.1 hc.2.2.1 hc.2.2.2 fun w00 hI=>Ok.go (by kernel_rfl) lU 1000 (h w00 hI)
theorem lA {f:FuncId} {fn:Func} {n:Nat} {T:TypeId} {l:List (Seg Kn)} {x:AV Kn} (hfn:Tryz.prog.funcs[f]?=some fn) (hc:(fn.body.isSome,decide (1≤fn.ntmps),x.noPtr,l.all Seg.noPtr)=(true,true,true,true))
 (h:∀ w00,Ok Tryz.prog f w00 (fun v w=>x.holds [] v w) (cG Tryz.prog 1000 (.items [.code (fn.body.getD .skip)] { slots := [.fv (.sc (.slc 0 0 n n))]++List.replicate (fn.ntmps-1) .un,blocks := [(T,l)],ro:=1 }))):jF f [.fv (.nsl n T l)] x:=by
 simp only [Prod.mk.injEq] at hc
 exact fitsS_of hfn hc.1 hc.2.1 hc.2.2.1 hc.2.2.2 fun w00=>Ok.go (by kernel_rfl) lU 1000 (h w00)
section
variable {f:FuncId} {w00:World} {Out:Value→World→Prop}
theorem eI {c:Cfg Kn} (fn:FuncId) (args:List (AV Kn)) {x:AV Kn} (h:jF fn args x) (hc:(c.callee Tryz.prog,c.args Tryz.prog,c.okT x)=(some fn,args,true)) (hfn:∀ (args:Array Value) (w:World),(callFunc fn args).run Tryz.prog w = .ok (.enter fn args) w)
 (hg:Ok Tryz.prog f w00 Out (cG Tryz.prog 1000 (c.give x))):Ok Tryz.prog f w00 Out c:=by
 simp only [Prod.mk.injEq] at hc
 exact Ok.call fn args h hc.1 hc.2.1 hc.2.2 hfn (Ok.go (by kernel_rfl) lU 1000 hg)
theorem kcallW {I:World→Prop} {c:Cfg Kn} (hI:∀ w,Below w00.heap.size w00 w→I w) (fn:FuncId) (args:List (AV Kn)) {x:AV Kn} (h:FitsW Tryz.prog I fn args x) (hc:(c.callee Tryz.prog,c.args Tryz.prog,c.okT x,c.canB)=(some fn,args,true,true)) (hfn:∀ (args:Array Value) (w:World),(callFunc fn args).run Tryz.prog w = .ok (.enter fn args) w)
 (hg:Ok Tryz.prog f w00 Out (cG Tryz.prog 1000 (c.give x))):Ok Tryz.prog f w00 Out c:=by
 simp only [Prod.mk.injEq] at hc
 exact Ok.callW hI fn args h hc.1 hc.2.1 hc.2.2.1 hc.2.2.2 hfn (Ok.go (by kernel_rfl) lU 1000 hg)
theorem kcallS {c:Cfg Kn} (fn:FuncId) (k n:Nat) (T:TypeId) (l:List (Seg Kn)) {x:AV Kn} (h:jF fn [.fv (.nsl n T l)] x) (hc:(c.callee Tryz.prog,c.args Tryz.prog,c.okT x,c.mem[k]?)=(some fn,[.fv (.sc (.slc k 0 n n))],true,some (some (T,l)))) (hfn:∀ (args:Array Value) (w:World),(callFunc fn args).run Tryz.prog w = .ok (.enter fn args) w)
 (hg:Ok Tryz.prog f w00 Out (cG Tryz.prog 1000 (c.give x))):Ok Tryz.prog f w00 Out c:=by
 simp only [Prod.mk.injEq] at hc
 exact Ok.callS fn k n T l h hc.1 hc.2.1 hc.2.2.1 hc.2.2.2 hfn (Ok.go (by kernel_rfl) lU 1000 hg)
theorem qA {c:Cfg Kn} (op:Op) (x y:Operand) (X Y r:AV Kn) (hc:(c.op.map fun o=>o.op,c.okT r,c.ev x,c.ev y)=(some op,true,X,Y)) (hx:x∈op.operands) (hy:y∈op.operands)
 (h:∀ (ρ:Operand→Value) (o:Oper) (β:List Nat) (w:World),o.op=op→X.holds β (ρ x) w→Y.holds β (ρ y) w→∃ v,(execOp ρ o).run Tryz.prog w = .ok (.value v) w∧r.holds β v w)
 (hg:Ok Tryz.prog f w00 Out (cG Tryz.prog 1000 (c.give r))):Ok Tryz.prog f w00 Out c:=by
 simp only [Prod.mk.injEq] at hc
 obtain ⟨h1,h2,h3,h4⟩:=hc
 rw [Option.map_eq_some_iff] at h1
 obtain ⟨o,ho,ho2⟩:=h1
 refine Ok.op o r ho h2 (fun β ρ w _ _ hs => .inl ?_) (Ok.go (by kernel_rfl) lU 1000 hg)
 obtain ⟨v,e,hv⟩:=h ρ o β w ho2 (by rw [← h3];exact hs x (by rw [ho2];exact hx)) (by rw [← h4];exact hs y (by rw [ho2];exact hy))
 exact ⟨v,w,e,aB _ _,hv⟩
theorem kret {c:Cfg Kn} {fn:Func} {x:AV Kn} (hfn:Tryz.prog.funcs[f]?=some fn) (hc:(x.noPtr,c.res Tryz.prog fn)=(true,some x)):Ok Tryz.prog f w00 (fun v w=>x.holds [] v w) c:=by
 simp only [Prod.mk.injEq] at hc
 exact Ok.ret hfn hc.1 hc.2
end
theorem jK{f:FuncId}{w00:World}{Out:Value→World→Prop}{c:Cfg Kn}(op:Op)(x y:Operand)(X Y r:AV Kn)(h:∀(ρ:Operand→Value)(o:Oper)(β:List Nat)(w:World),o.op=op→X.holds β (ρ x) w→Y.holds β (ρ y) w→∃v,(execOp ρ o).run Tryz.prog w=.ok (.value v) w∧r.holds β v w)(hg:Ok Tryz.prog f w00 Out (cG Tryz.prog 1000 (c.give r)))(hc:(c.op.map fun o=>o.op,c.okT r,c.ev x,c.ev y)=(some op,true,X,Y):=by kernel_rfl)(hx:x∈op.operands:=by simp [Op.operands,Call.operands])(hy:y∈op.operands:=by simp [Op.operands,Call.operands]):Ok Tryz.prog f w00 Out c:=qA op x y X Y r hc hx hy h hg
theorem jC{f:FuncId}{w00:World}{Out:Value→World→Prop}{c:Cfg Kn}(fn:FuncId)(args:List (AV Kn)){x:AV Kn}(h:jF fn args x)(hg:Ok Tryz.prog f w00 Out (cG Tryz.prog 1000 (c.give x)))(hc:(c.callee Tryz.prog,c.args Tryz.prog,c.okT x)=(some fn,args,true):=by kernel_rfl)(hfn:∀(args:Array Value)(w:World),(callFunc fn args).run Tryz.prog w=.ok (.enter fn args) w:=by intro _ _;kernel_rfl):Ok Tryz.prog f w00 Out c:=eI fn args h hc hfn hg
theorem jR{f:FuncId}{w00:World}{c:Cfg Kn}{fn:Func}{x:AV Kn}(hfn:Tryz.prog.funcs[f]?=some fn)(hc:(x.noPtr,c.res Tryz.prog fn)=(true,some x):=by kernel_rfl):Ok Tryz.prog f w00 (fun v w=>x.holds [] v w) c:=kret hfn hc
theorem jG{f:FuncId}{fn:Func}{args:List (AV Kn)}{x:AV Kn}(hfn:Tryz.prog.funcs[f]?=some fn)(h:∀w00,Ok Tryz.prog f w00 (fun v w=>x.holds [] v w) (cG Tryz.prog 1000 (oP fn args)))(hc:(fn.body.isSome,decide (args.length≤fn.ntmps),x.noPtr,args.all AV.noPtr)=(true,true,true,true):=by kernel_rfl):jF f args x:=kgo hfn hc h
theorem jW{f:FuncId}{w00:World}{Out:Value→World→Prop}{I:World→Prop}{c:Cfg Kn}(hI:∀w,Below w00.heap.size w00 w→I w)(fn:FuncId)(args:List (AV Kn)){x:AV Kn}(h:FitsW Tryz.prog I fn args x)(hg:Ok Tryz.prog f w00 Out (cG Tryz.prog 1000 (c.give x)))(hc:(c.callee Tryz.prog,c.args Tryz.prog,c.okT x,c.canB)=(some fn,args,true,true):=by kernel_rfl)(hfn:∀(args:Array Value)(w:World),(callFunc fn args).run Tryz.prog w=.ok (.enter fn args) w:=by intro _ _;kernel_rfl):Ok Tryz.prog f w00 Out c:=kcallW hI fn args h hc hfn hg
theorem sO {p q:Rat} (hp:Lf 36 p) (hq:Lf 36 q):jF 35 [num p,num q] (num (p+q)):=sN fun v v' w h h'=>plus_nb v v' p q w h h' hp hq
theorem oQ {p q:Rat} (hp:Lf 36 p) (hq:Lf 36 q):jF 105 [num p,num q] (num (p-q)):=sN fun v v' w h h'=>minus_nb v v' p q w h h' hp hq
theorem fG {p q:Rat} (hp:Lf 38 p) (hq:Lf 38 q):jF 94 [num p,num q] (num (p*q)):=sN fun v v' w h h'=>times_nb v v' p q w h h' hp hq
theorem qP {p q:Rat} (hp:Lf 38 p) (hq:Lf 38 q) (h0:q≠0):jF 33 [num p,num q] (num (p/q)):=sN fun v v' w h h'=>over_nb v v' p q w h h' hp hq h0
theorem negatedF {p:Rat}:jF 40 [num p] (num (-p)):=fits_nb1 fun v w h=>yL v p w h
abbrev bl (b:Bool):AV Kn := .fv (.sc (.lit (.bool b)))
abbrev it (n:Int):AV Kn := .fv (.sc (.lit (.int .i64 n)))
theorem gF {p:Rat} {b:Bool} (h:decide (p=0)=b):jF 79 [num p] (bl b):=by
 intro β w vs hv
 obtain ⟨v,rfl,h1⟩:=dC hv
 refine (pO v p w (dH.1 h1)).mono fun e w' ⟨e1,h2⟩=>⟨_,e1,h2,?_⟩
 rw [h]
 exact ⟨rfl,rfl⟩
theorem signF {p:Rat}:jF 88 [num p] (it (nD p)):=by
 intro β w vs hv
 obtain ⟨v,rfl,h1⟩:=dC hv
 exact (sign_nb v p w (dH.1 h1)).mono fun e w' ⟨e1,h2⟩=>⟨_,e1,h2,rfl,rfl⟩
theorem Lf.addn {n:Nat} {p q:Rat} (hp:Lf (n-2) p) (hq:Lf (n-2) q) (hn:2≤n):Lf n (p+q):=(Lf.add hp hq).mono (by omega)
theorem Lf.subn {n:Nat} {p q:Rat} (hp:Lf (n-2) p) (hq:Lf (n-2) q) (hn:2≤n):Lf n (p-q):=by
 rw [Rat.sub_eq_add_neg]
 exact Lf.addn hp hq.neg hn
theorem Lf.muln {n:Nat} {p q:Rat} (hp:Lf (n-1) p) (hq:Lf (n-1) q) (hn:1≤n):Lf n (p*q):=(Lf.mul hp hq).mono (by omega)
end Ab
namespace Ab
open Go.RowKit
abbrev gL (F:FuncId):AV Kn := .fv (.sc (.lit (.func (.func F) #[] #[])))
abbrev rA (F:FuncId):Prop := ∀ (args:Array Value) (w:World),(callFunc F args).run Tryz.prog w = .ok (.enter F args) w
theorem joinF {F:FuncId} {a1 a2 a3 b1 b2 b3 r1 r2 r3:Rat} (hF:rA F) (h1:jF F [num a1,num b1] (num r1)) (h2:jF F [num a2,num b2] (num r2)) (h3:jF F [num a3,num b3] (num r3)) :
 jF 32 [gL F,vc a1 a2 a3,vc b1 b2 b3] (vc r1 r2 r3):=by
 refine jG Tryz.func32 fun w00=>?_
 refine eI F [num a1,num b1] (h1) (by kernel_rfl) (hF) ?_
 refine eI F [num a2,num b2] (h2) (by kernel_rfl) (hF) ?_
 refine eI F [num a3,num b3] (h3) (by kernel_rfl) (hF) ?_
 exact jR Tryz.func32
abbrev cloN (F:FuncId) (c:Rat):AV Kn := .fv (.clo F [(true,[nb c])] [])
theorem eachC {F:FuncId} {c a1 a2 a3 r1 r2 r3:Rat} (hF:rA F) (h1:jF F [num c,num a1] (num r1)) (h2:jF F [num c,num a2] (num r2)) (h3:jF F [num c,num a3] (num r3)) :
 jF 155 [cloN F c,vc a1 a2 a3] (vc r1 r2 r3):=by
 refine jG Tryz.func155 fun w00=>?_
 refine eI F [num c,num a1] (h1) (by kernel_rfl) (hF) ?_
 refine eI F [num c,num a2] (h2) (by kernel_rfl) (hF) ?_
 refine eI F [num c,num a3] (h3) (by kernel_rfl) (hF) ?_
 exact jR Tryz.func155
abbrev iv (a b c:Int):AV Kn := .fv (.ag [.lit (.int .i64 a),.lit (.int .i64 b),.lit (.int .i64 c)])
theorem lW {n:Int} (hn:-9223372036854775808≤n∧n≤9223372036854775807):jF 74 [it n] (num (n:Rat)):=by
 intro β w vs hv
 obtain ⟨v,rfl,h1⟩:=dC hv
 rw [aM h1]
 exact (integer_any n w hn.1 hn.2).mono fun e w' ⟨u,e,h1,h2⟩=>⟨u,e,h2,dH.2 h1⟩
theorem eachI {F:FuncId} {a1 a2 a3:Int} {r1 r2 r3:Rat} (hF:rA F) (h1:jF F [it a1] (num r1)) (h2:jF F [it a2] (num r2)) (h3:jF F [it a3] (num r3)) :
 jF 156 [gL F,iv a1 a2 a3] (vc r1 r2 r3):=by
 refine jG Tryz.func156 fun w00=>?_
 refine eI F [it a1] (h1) (by kernel_rfl) (hF) ?_
 refine eI F [it a2] (h2) (by kernel_rfl) (hF) ?_
 refine eI F [it a3] (h3) (by kernel_rfl) (hF) ?_
 exact jR Tryz.func156
abbrev rC (n:Int):Prop := -9223372036854775808≤n∧n≤9223372036854775807
theorem gS {a b c:Int} (ha:rC a) (hb:rC b) (hc:rC c):jF 82 [iv a b c] (vc a b c):=by
 refine jG Tryz.func82 fun w00=>?_
 refine jC 156 [gL 74,iv a b c] (eachI Tryz.call74 (lW ha) (lW hb) (lW hc)) ?_
 exact jR Tryz.func82
theorem Fits.args {P:Program} {f:FuncId} {l l' : List (AV Kn)} {x:AV Kn} (h:Fits P f l x) (hl:∀ β vs w,holdsA β l' vs w→holdsA β l vs w):Fits P f l' x:=fun β w vs hv=>h β w vs (hl β vs w hv)
abbrev zeroN:AV Kn := .fv (.ag [.lit (.int .i64 0),.lit (.int .i64 0),.lit (.pointer none)])
theorem zero_num {β:List Nat} {v:Value} {w:World} (h:zeroN.holds β v w):(num 0).holds β v w:=by
 obtain ⟨cs,rfl,a,r,rfl,⟨rfl,_⟩,b,r2,rfl,⟨rfl,_⟩,c,r3,rfl,⟨rfl,_⟩,e⟩:=h
 rw [show r3 = [] from e]
 exact dH.2 (.inl ⟨wW,rfl⟩)
section
variable {a1 a2 a3 b1 b2 b3 c:Rat}
theorem uJ (h1:Lf 36 a1) (h2:Lf 36 a2) (h3:Lf 36 a3) (k1:Lf 36 b1) (k2:Lf 36 b2) (k3:Lf 36 b3):jF 71 [vc a1 a2 a3,vc b1 b2 b3] (vc (a1+b1) (a2+b2) (a3+b3)):=by
 refine jG Tryz.func71 fun w00=>?_
 refine jC 32 [gL 35,vc a1 a2 a3,vc b1 b2 b3] (joinF Tryz.call35 (sO h1 k1) (sO h2 k2) (sO h3 k3)) ?_
 exact jR Tryz.func71
theorem vminusF (h1:Lf 36 a1) (h2:Lf 36 a2) (h3:Lf 36 a3) (k1:Lf 36 b1) (k2:Lf 36 b2) (k3:Lf 36 b3):jF 69 [vc a1 a2 a3,vc b1 b2 b3] (vc (a1-b1) (a2-b2) (a3-b3)):=by
 refine jG Tryz.func69 fun w00=>?_
 refine jC 32 [gL 105,vc a1 a2 a3,vc b1 b2 b3] (joinF Tryz.call105 (oQ h1 k1) (oQ h2 k2) (oQ h3 k3)) ?_
 exact jR Tryz.func69
theorem gG (hc:Lf 38 c) (h1:Lf 38 a1) (h2:Lf 38 a2) (h3:Lf 38 a3):jF 73 [vc a1 a2 a3,num c] (vc (c*a1) (c*a2) (c*a3)):=by
 refine jG Tryz.func73 fun w00=>?_
 refine jC 155 [cloN 94 c,vc a1 a2 a3] (eachC Tryz.call94 (fG hc h1) (fG hc h2) (fG hc h3)) ?_
 exact jR Tryz.func73
theorem totalF {T:TypeId} (h1:Lf 32 a1) (h2:Lf 32 a2) (h3:Lf 32 a3):jF 102 [.fv (.nsl 3 T [nb a1,nb a2,nb a3])] (num (a1+a2+a3)):=by
 refine lA Tryz.func102 (by kernel_rfl) fun w00=>?_
 refine jC 35 [zeroN,num a1] (Fits.args (sO (p:=0) (q:=a1) (Lf.zero _) (h1.mono (by decide))) (fun β vs w ⟨v,r,e,k1,k2⟩=>⟨v,r,e,zero_num k1,k2⟩)) ?_
 refine jC 35 [num (0+a1),num a2] (sO ((Lf.addn (n:=34) (Lf.zero _) h1 (by decide)).mono (by decide)) (h2.mono (by decide))) ?_
 refine jC 35 [num (0+a1+a2),num a3] (sO (Lf.addn (n:=36) (Lf.addn (n:=34) (Lf.zero _) h1 (by decide)) (h2.mono (by decide)) (by decide)) (h3.mono (by decide))) ?_
 rw [show a1+a2+a3=0+a1+a2+a3 by rw [Rat.zero_add]]
 exact jR Tryz.func102
theorem yO (h1:Lf 35 a1) (h2:Lf 35 a2) (h3:Lf 35 a3) (k1:Lf 35 b1) (k2:Lf 35 b2) (k3:Lf 35 b3) :
 jF 63 [vc a1 a2 a3,vc b1 b2 b3] (vc (a2*b3-a3*b2) (a3*b1-a1*b3) (a1*b2-a2*b1)):=by
 refine jG Tryz.func63 fun w00=>?_
 refine jC 94 [num a2,num b3] (fG (h2.mono (by decide)) (k3.mono (by decide))) ?_
 refine jC 94 [num a3,num b2] (fG (h3.mono (by decide)) (k2.mono (by decide))) ?_
 refine jC 105 [num (a2*b3),num (a3*b2)] (oQ (h2.mul k3) (h3.mul k2)) ?_
 refine jC 94 [num a3,num b1] (fG (h3.mono (by decide)) (k1.mono (by decide))) ?_
 refine jC 94 [num a1,num b3] (fG (h1.mono (by decide)) (k3.mono (by decide))) ?_
 refine jC 105 [num (a3*b1),num (a1*b3)] (oQ (h3.mul k1) (h1.mul k3)) ?_
 refine jC 94 [num a1,num b2] (fG (h1.mono (by decide)) (k2.mono (by decide))) ?_
 refine jC 94 [num a2,num b1] (fG (h2.mono (by decide)) (k1.mono (by decide))) ?_
 refine jC 105 [num (a1*b2),num (a2*b1)] (oQ (h1.mul k2) (h2.mul k1)) ?_
 exact jR Tryz.func63
theorem nE (h1:Lf 31 a1) (h2:Lf 31 a2) (h3:Lf 31 a3) (k1:Lf 31 b1) (k2:Lf 31 b2) (k3:Lf 31 b3):jF 36 [vc a1 a2 a3,vc b1 b2 b3] (num (a1*b1+a2*b2+a3*b3)):=by
 refine jG Tryz.func36 fun w00=>?_
 refine jC 32 [gL 94,vc a1 a2 a3,vc b1 b2 b3] (joinF Tryz.call94 (fG (h1.mono (by decide)) (k1.mono (by decide))) (fG (h2.mono (by decide)) (k2.mono (by decide))) (fG (h3.mono (by decide)) (k3.mono (by decide)))) ?_
 refine kcallS 102 3 3 64 [nb (a1*b1),nb (a2*b2),nb (a3*b3)] (totalF (h1.mul k1) (h2.mul k2) (h3.mul k3)) (by kernel_rfl) Tryz.call102 ?_
 exact jR Tryz.func36
theorem pR (h1:Lf 31 a1) (h2:Lf 31 a2) (h3:Lf 31 a3):jF 64 [vc a1 a2 a3] (num (a1*a1+a2*a2+a3*a3)):=by
 refine jG Tryz.func64 fun w00=>?_
 refine jC 36 [vc a1 a2 a3,vc a1 a2 a3] (nE h1 h2 h3 h1 h2 h3) ?_
 exact jR Tryz.func64
theorem eU {z:Bool} (h:(decide (a1=0)&&decide (a2=0)&&decide (a3=0))=z):jF 62 [vc a1 a2 a3] (bl z):=by
 intro β w vs hv
 obtain ⟨v,rfl,h1⟩:=dC hv
 refine (isZero_vc v a1 a2 a3 w (sM.1 h1)).mono fun e w' ⟨e1,h2⟩=>⟨_,e1,h2,?_⟩
 rw [h]
 exact ⟨rfl,rfl⟩
end
end Ab
namespace Ab
open Go.RowKit Pl
def csNt (a:Nat):CS Kn where
 size:=1
 cold:=true
 pred cs w := ∃ v,cs = [v]∧Nt w v a
 stable:=fun cs w w' ⟨v,e,h⟩ hx=>⟨v,e,Nt.ext (K:=Kn) (fun _=>rfl) h hx⟩
 len:=fun cs w ⟨v,e,h⟩=>by rw [e];rfl
 one:=fun cs w ⟨v,e,h⟩=>by
  obtain ⟨A,n,c,rfl⟩:=Nt.form h
  rw [e]
  intro c hc
  rw [List.mem_singleton] at hc
  subst hc
  rfl
 iscold:=fun _ cs w ⟨v,e,h⟩=>by
  obtain ⟨A,n,c,rfl⟩:=Nt.form h
  rw [e]
  intro c hc
  rw [List.mem_singleton] at hc
  subst hc
  rfl
abbrev nts (a:Nat):Seg Kn := .sp (csNt a)
abbrev nt (a:Nat):AV Kn := .fv (.sc (nts a))
theorem dK {β:List Nat} {v:Value} {w:World} {a:Nat}:(nt a).holds β v w↔Nt w v a :=
 ⟨fun ⟨u,e,h⟩=>by injection e with e;rw [e];exact h,fun h=>⟨v,rfl,h⟩⟩
abbrev frv (neg:Bool) (n d:Nat):AV Kn := .fv (.ag [.lit (.bool neg),nts n,nts d])
abbrev fra (q:Rat):AV Kn:=frv (decide (q.num<0)) q.num.natAbs q.den
theorem frv_holds {β:List Nat} {v:Value} {w:World} {neg:Bool} {n d:Nat}:(frv neg n d).holds β v w↔∃ s1 s2,v = .agg #[.bool neg,s1,s2]∧Nt w s1 n∧Nt w s2 d:=by
 constructor
 ·rintro ⟨cs,rfl,a,r,rfl,⟨rfl,_⟩,b,r2,rfl,⟨s1,rfl,h1⟩,c,r3,rfl,⟨s2,rfl,h2⟩,e⟩
  rw [show r3 = [] from e]
  exact ⟨s1,s2,rfl,h1,h2⟩
 ·rintro ⟨s1,s2,rfl,h1,h2⟩
  exact ⟨[.bool neg,s1,s2],rfl,[.bool neg],_,rfl,⟨rfl,rfl⟩,[s1],_,rfl,⟨s1,rfl,h1⟩,[s2],[],rfl,⟨s2,rfl,h2⟩,rfl⟩
theorem uK {β:List Nat} {v:Value} {w:World} {q:Rat}:(fra q).holds β v w↔Fr w v q:=frv_holds
theorem eG {q:Rat}:jF 100 [num q] (fra q):=by
 intro β w vs hv
 obtain ⟨v,rfl,h1⟩:=dC hv
 exact (cE v q w (dH.1 h1)).mono fun e w' ⟨u,e,h1,h2⟩=>⟨u,e,h2,uK.2 h1⟩
theorem jH {q:Rat}:jF 58 [fra q] (num q):=by
 intro β w vs hv
 obtain ⟨v,rfl,h1⟩:=dC hv
 exact (eT v q w (uK.1 h1)).mono fun e w' ⟨u,e,h1,h2⟩=>⟨u,e,h2,dH.2 h1⟩
theorem yP {a b:Nat} (ha:Lv 40 a) (hb:Lv 40 b) (h0:0<a∨0<b):jF 142 [nt a,nt b] (nt (Nat.gcd a b)):=by
 intro β w vs hv
 obtain ⟨v,u,rfl,h1,h2⟩:=dJ hv
 exact (wV v u a b w (dK.1 h1) (dK.1 h2) ha hb h0).mono fun e w' ⟨u,e,h1,h2⟩=>⟨u,e,h2,dK.2 h1⟩
theorem ntimesF {a b:Nat} (ha:Lv 40 a) (hb:Lv 40 b):jF 145 [nt a,nt b] (nt (a*b)):=by
 intro β w vs hv
 obtain ⟨v,u,rfl,h1,h2⟩:=dJ hv
 exact (iH (dK.1 h1) (dK.1 h2) ha hb).mono fun e w' ⟨u,e,h1,h2⟩=>⟨u,e,h2,dK.2 h1⟩
theorem kG {a b:Nat} (ha:Lv 40 a) (hb:0<b):jF 143 [nt a,nt b] (.tup [.sc (nts (a/b)),.sc (nts (a%b))]):=by
 intro β w vs hv
 obtain ⟨v,u,rfl,h1,h2⟩:=dJ hv
 refine (fD (dK.1 h1) (dK.1 h2) ha hb).mono fun e w' ⟨u,u',e,h1,h2,h3⟩=>⟨_,e,h3,?_⟩
 exact ⟨[u,u'],rfl,u,_,rfl,⟨u,rfl,h1⟩,u',_,rfl,⟨u',rfl,h2⟩,rfl⟩
theorem naturalOfF {a:Nat} (ha:a<aD):jF 146 [.fv (.sc (.lit (.int .u64 (a:Int))))] (nt a):=by
 intro β w vs hv
 obtain ⟨v,rfl,h1⟩:=dC hv
 rw [aM h1]
 exact (cA a ha w).mono fun e w' ⟨u,e,h1,h2⟩=>⟨u,e,h2,dK.2 h1⟩
theorem oR {neg:Bool} {n d:Nat} (hn:Lv 40 n) (hd:Lv 40 d) (hd0:0<d):jF 56 [bl neg,nt n,nt d] (fra (mkRat (sg neg n) d)):=by
 rintro β w vs ⟨v,r,rfl,h0,hv⟩
 obtain ⟨v',u,rfl,h1,h2⟩:=dJ hv
 rw [aM h0]
 exact (uG neg n d v' u w (dK.1 h1) (dK.1 h2) hn hd hd0).mono fun e w' ⟨u,e,h1,h2⟩=>⟨u,e,h2,uK.2 h1⟩
abbrev hf (a b c d:Rat):AV Kn := .fv (.ag [nb a,nb b,nb c,nb d])
abbrev nV (o1 o2 o3 x1 x2 x3 y1 y2 y3 z1 z2 z3:Rat):AV Kn := .fv (.ag [nb o1,nb o2,nb o3,nb x1,nb x2,nb x3,nb y1,nb y2,nb y3,nb z1,nb z2,nb z3])
abbrev mt (x1 x2 x3 y1 y2 y3 z1 z2 z3:Rat):AV Kn := .fv (.ag [nb x1,nb x2,nb x3,nb y1,nb y2,nb y3,nb z1,nb z2,nb z3])
abbrev dt (a1 a2 a3 b1 b2 b3:Rat):Rat:=a1*b1+a2*b2+a3*b3
theorem qQ {n:Nat} {a1 a2 a3 b1 b2 b3:Rat} (h1:Lf (n-5) a1) (h2:Lf (n-5) a2) (h3:Lf (n-5) a3) (k1:Lf (n-5) b1) (k2:Lf (n-5) b2) (k3:Lf (n-5) b3) (hn:5≤n):Lf n (dt a1 a2 a3 b1 b2 b3) :=
 Lf.addn (Lf.addn ((h1.mul k1).mono (by omega)) ((h2.mul k2).mono (by omega)) (by omega)) ((h3.mul k3).mono (by omega)) (by omega)
section
variable {n1 n2 n3 d p1 p2 p3:Rat}
theorem wX (h1:Lf 31 n1) (h2:Lf 31 n2) (h3:Lf 31 n3) (hd:Lf 36 d) (k1:Lf 31 p1) (k2:Lf 31 p2) (k3:Lf 31 p3):jF 39 [hf n1 n2 n3 d,vc p1 p2 p3] (num (dt n1 n2 n3 p1 p2 p3-d)):=by
 refine jG Tryz.func39 fun w00=>?_
 refine jC 36 [vc n1 n2 n3,vc p1 p2 p3] (nE h1 h2 h3 k1 k2 k3) ?_
 refine jC 105 [num (dt n1 n2 n3 p1 p2 p3),num d] (oQ (qQ h1 h2 h3 k1 k2 k3 (by decide)) hd) ?_
 exact jR Tryz.func39
abbrev lX (n1 n2 n3 d p1 p2 p3:Rat):Rat := -(dt n1 n2 n3 p1 p2 p3-d)/dt n1 n2 n3 n1 n2 n3
theorem lf_way {n:Nat} (h1:Lf (n-11) n1) (h2:Lf (n-11) n2) (h3:Lf (n-11) n3) (hd:Lf (n-6) d) (k1:Lf (n-11) p1) (k2:Lf (n-11) p2) (k3:Lf (n-11) p3) (hn:11≤n):Lf n (lX n1 n2 n3 d p1 p2 p3):=by
 rw [lX,Rat.div_def]
 have e1:Lf (n-6) (dt n1 n2 n3 p1 p2 p3):=qQ (h1.mono (by omega)) (h2.mono (by omega)) (h3.mono (by omega)) (k1.mono (by omega)) (k2.mono (by omega)) (k3.mono (by omega)) (by omega)
 have e2:Lf (n-6) (dt n1 n2 n3 n1 n2 n3):=qQ (h1.mono (by omega)) (h2.mono (by omega)) (h3.mono (by omega)) (h1.mono (by omega)) (h2.mono (by omega)) (h3.mono (by omega)) (by omega)
 exact Lf.muln ((Lf.subn (n:=n-4) (e1.mono (by omega)) (hd.mono (by omega)) (by omega)).neg.mono (by omega)) ((Lf.inv e2).mono (by omega)) (by omega)
theorem toPlaneF (h1:Lf 25 n1) (h2:Lf 25 n2) (h3:Lf 25 n3) (hd:Lf 30 d) (k1:Lf 25 p1) (k2:Lf 25 p2) (k3:Lf 25 p3) (h0:dt n1 n2 n3 n1 n2 n3≠0) :
 jF 72 [hf n1 n2 n3 d,vc p1 p2 p3] (vc (lX n1 n2 n3 d p1 p2 p3*n1) (lX n1 n2 n3 d p1 p2 p3*n2) (lX n1 n2 n3 d p1 p2 p3*n3)):=by
 have hE:Lf 32 (dt n1 n2 n3 p1 p2 p3-d):=Lf.subn (qQ h1 h2 h3 k1 k2 k3 (by decide)) (hd.mono (by decide)) (by decide)
 refine jG Tryz.func72 fun w00=>?_
 refine jC 39 [hf n1 n2 n3 d,vc p1 p2 p3] (wX (h1.mono (by decide)) (h2.mono (by decide)) (h3.mono (by decide)) (hd.mono (by decide)) (k1.mono (by decide)) (k2.mono (by decide)) (k3.mono (by decide))) ?_
 refine jC 40 [num (dt n1 n2 n3 p1 p2 p3-d)] (negatedF) ?_
 refine jC 64 [vc n1 n2 n3] (pR (h1.mono (by decide)) (h2.mono (by decide)) (h3.mono (by decide))) ?_
 refine jC 33 [num (-(dt n1 n2 n3 p1 p2 p3-d)),num (dt n1 n2 n3 n1 n2 n3)] (qP (hE.neg.mono (by decide)) (qQ (h1.mono (by decide)) (h2.mono (by decide)) (h3.mono (by decide)) (h1.mono (by decide)) (h2.mono (by decide)) (h3.mono (by decide)) (by decide)) h0) ?_
 refine jC 73 [vc n1 n2 n3,num (lX n1 n2 n3 d p1 p2 p3)] (gG (lf_way (n:=38) (h1.mono (by decide)) (h2.mono (by decide)) (h3.mono (by decide)) (hd.mono (by decide)) (k1.mono (by decide)) (k2.mono (by decide)) (k3.mono (by decide)) (by decide)) (h1.mono (by decide)) (h2.mono (by decide)) (h3.mono (by decide))) ?_
 exact jR Tryz.func72
end
abbrev cloV (F:FuncId) (a b c:Rat):AV Kn := .fv (.clo F [(true,[nb a,nb b,nb c])] [])
section
variable {x1 x2 x3 y1 y2 y3 z1 z2 z3 r1 r2 r3:Rat} {F:FuncId}
theorem eachVN (hF:rA F) (h1:jF F [vc x1 x2 x3] (num r1)) (h2:jF F [vc y1 y2 y3] (num r2)) (h3:jF F [vc z1 z2 z3] (num r3)):jF 38 [gL F,mt x1 x2 x3 y1 y2 y3 z1 z2 z3] (vc r1 r2 r3):=by
 refine jG Tryz.func38 fun w00=>?_
 refine eI F [vc x1 x2 x3] (h1) (by kernel_rfl) (hF) ?_
 refine eI F [vc y1 y2 y3] (h2) (by kernel_rfl) (hF) ?_
 refine eI F [vc z1 z2 z3] (h3) (by kernel_rfl) (hF) ?_
 exact jR Tryz.func38
theorem eachVNc {a b c:Rat} (hF:rA F) (h1:jF F [vc a b c,vc x1 x2 x3] (num r1)) (h2:jF F [vc a b c,vc y1 y2 y3] (num r2)) (h3:jF F [vc a b c,vc z1 z2 z3] (num r3)):jF 38 [cloV F a b c,mt x1 x2 x3 y1 y2 y3 z1 z2 z3] (vc r1 r2 r3):=by
 refine jG Tryz.func38 fun w00=>?_
 refine eI F [vc a b c,vc x1 x2 x3] (h1) (by kernel_rfl) (hF) ?_
 refine eI F [vc a b c,vc y1 y2 y3] (h2) (by kernel_rfl) (hF) ?_
 refine eI F [vc a b c,vc z1 z2 z3] (h3) (by kernel_rfl) (hF) ?_
 exact jR Tryz.func38
theorem eachVVc {s1 s2 s3 t1 t2 t3 u1 u2 u3 o1 o2 o3 a1 a2 a3 b1 b2 b3 c1 c2 c3:Rat} (hF:rA F) (h1:jF F [nV o1 o2 o3 a1 a2 a3 b1 b2 b3 c1 c2 c3,vc x1 x2 x3] (vc s1 s2 s3)) (h2:jF F [nV o1 o2 o3 a1 a2 a3 b1 b2 b3 c1 c2 c3,vc y1 y2 y3] (vc t1 t2 t3)) (h3:jF F [nV o1 o2 o3 a1 a2 a3 b1 b2 b3 c1 c2 c3,vc z1 z2 z3] (vc u1 u2 u3)):jF 83 [.fv (.clo F [(true,[nb o1,nb o2,nb o3,nb a1,nb a2,nb a3,nb b1,nb b2,nb b3,nb c1,nb c2,nb c3])] []),mt x1 x2 x3 y1 y2 y3 z1 z2 z3] (mt s1 s2 s3 t1 t2 t3 u1 u2 u3):=by
 refine jG Tryz.func83 fun w00=>?_
 refine eI F [nV o1 o2 o3 a1 a2 a3 b1 b2 b3 c1 c2 c3,vc x1 x2 x3] (h1) (by kernel_rfl) (hF) ?_
 refine eI F [nV o1 o2 o3 a1 a2 a3 b1 b2 b3 c1 c2 c3,vc y1 y2 y3] (h2) (by kernel_rfl) (hF) ?_
 refine eI F [nV o1 o2 o3 a1 a2 a3 b1 b2 b3 c1 c2 c3,vc z1 z2 z3] (h3) (by kernel_rfl) (hF) ?_
 exact jR Tryz.func83
theorem eachIV {s1 s2 s3 t1 t2 t3 u1 u2 u3:Rat} (hF:rA F) (h1:jF F [iv 1 0 0] (vc s1 s2 s3)) (h2:jF F [iv 0 1 0] (vc t1 t2 t3)) (h3:jF F [iv 0 0 1] (vc u1 u2 u3)):jF 157 [gL F,.fv (.ag [.lit (.int .i64 1),.lit (.int .i64 0),.lit (.int .i64 0),.lit (.int .i64 0),.lit (.int .i64 1),.lit (.int .i64 0),.lit (.int .i64 0),.lit (.int .i64 0),.lit (.int .i64 1)])] (mt s1 s2 s3 t1 t2 t3 u1 u2 u3):=by
 refine jG Tryz.func157 fun w00=>?_
 refine eI F [iv 1 0 0] (h1) (by kernel_rfl) (hF) ?_
 refine eI F [iv 0 1 0] (h2) (by kernel_rfl) (hF) ?_
 refine eI F [iv 0 0 1] (h3) (by kernel_rfl) (hF) ?_
 exact jR Tryz.func157
theorem unitsF:jF 84 [] (mt (1:Int) (0:Int) (0:Int) (0:Int) (1:Int) (0:Int) (0:Int) (0:Int) (1:Int)):=by
 have i1:rC 1:=by constructor <;> omega
 have i0:rC 0:=by constructor <;> omega
 refine jG Tryz.func84 fun w00=>?_
 refine jC 157 [gL 82,.fv (.ag [.lit (.int .i64 1),.lit (.int .i64 0),.lit (.int .i64 0),.lit (.int .i64 0),.lit (.int .i64 1),.lit (.int .i64 0),.lit (.int .i64 0),.lit (.int .i64 0),.lit (.int .i64 1)])] (eachIV Tryz.call82 (gS i1 i0 i0) (gS i0 i1 i0) (gS i0 i0 i1)) ?_
 exact jR Tryz.func84
variable {o1 o2 o3 p1 p2 p3:Rat}
structure Lm (k:Nat) (x1 x2 x3 y1 y2 y3 z1 z2 z3:Rat):Prop where
 x1:Lf k x1
 x2:Lf k x2
 x3:Lf k x3
 y1:Lf k y1
 y2:Lf k y2
 y3:Lf k y3
 z1:Lf k z1
 z2:Lf k z2
 z3:Lf k z3
structure Lv3 (k:Nat) (a b c:Rat):Prop where
 a:Lf k a
 b:Lf k b
 c:Lf k c
theorem Lm.mono {k l:Nat} (h:Lm k x1 x2 x3 y1 y2 y3 z1 z2 z3) (hk:k≤l):Lm l x1 x2 x3 y1 y2 y3 z1 z2 z3:=⟨h.x1.mono hk,h.x2.mono hk,h.x3.mono hk,h.y1.mono hk,h.y2.mono hk,h.y3.mono hk,h.z1.mono hk,h.z2.mono hk,h.z3.mono hk⟩
theorem Lv3.mono {k l:Nat} {a b c:Rat} (h:Lv3 k a b c) (hk:k≤l):Lv3 l a b c:=⟨h.a.mono hk,h.b.mono hk,h.c.mono hk⟩
theorem squaresF (h:Lm 31 x1 x2 x3 y1 y2 y3 z1 z2 z3):jF 34 [nV o1 o2 o3 x1 x2 x3 y1 y2 y3 z1 z2 z3] (vc (dt x1 x2 x3 x1 x2 x3) (dt y1 y2 y3 y1 y2 y3) (dt z1 z2 z3 z1 z2 z3)):=by
 refine jG Tryz.func34 fun w00=>?_
 refine jC 38 [gL 64,mt x1 x2 x3 y1 y2 y3 z1 z2 z3] (eachVN Tryz.call64 (pR h.x1 h.x2 h.x3) (pR h.y1 h.y2 h.y3) (pR h.z1 h.z2 h.z3)) ?_
 exact jR Tryz.func34
abbrev ld (p1 p2 p3 x y z:Rat):Rat:=p1*x+p2*y+p3*z
theorem leadF (h:Lm 31 x1 x2 x3 y1 y2 y3 z1 z2 z3) (k:Lv3 31 p1 p2 p3):jF 31 [nV o1 o2 o3 x1 x2 x3 y1 y2 y3 z1 z2 z3,vc p1 p2 p3] (vc (ld p1 p2 p3 x1 y1 z1) (ld p1 p2 p3 x2 y2 z2) (ld p1 p2 p3 x3 y3 z3)):=by
 have k1:=k.a.mono (l:=38) (by decide)
 have k2:=k.b.mono (l:=38) (by decide)
 have k3:=k.c.mono (l:=38) (by decide)
 have h':=h.mono (l:=38) (by decide)
 refine jG Tryz.func31 fun w00=>?_
 refine jC 73 [vc x1 x2 x3,num p1] (gG k1 h'.x1 h'.x2 h'.x3) ?_
 refine jC 73 [vc y1 y2 y3,num p2] (gG k2 h'.y1 h'.y2 h'.y3) ?_
 refine jC 71 [vc (p1*x1) (p1*x2) (p1*x3),vc (p2*y1) (p2*y2) (p2*y3)] (uJ ((k.a.mul h.x1).mono (by decide)) ((k.a.mul h.x2).mono (by decide)) ((k.a.mul h.x3).mono (by decide)) ((k.b.mul h.y1).mono (by decide)) ((k.b.mul h.y2).mono (by decide)) ((k.b.mul h.y3).mono (by decide))) ?_
 refine jC 73 [vc z1 z2 z3,num p3] (gG k3 h'.z1 h'.z2 h'.z3) ?_
 refine jC 71 [vc (p1*x1+p2*y1) (p1*x2+p2*y2) (p1*x3+p2*y3),vc (p3*z1) (p3*z2) (p3*z3)] (uJ (((k.a.mul h.x1).add (k.b.mul h.y1)).mono (by decide)) (((k.a.mul h.x2).add (k.b.mul h.y2)).mono (by decide)) (((k.a.mul h.x3).add (k.b.mul h.y3)).mono (by decide)) ((k.c.mul h.z1).mono (by decide)) ((k.c.mul h.z2).mono (by decide)) ((k.c.mul h.z3).mono (by decide))) ?_
 exact jR Tryz.func31
theorem lf_ld {n:Nat} {p1 p2 p3 x y z:Rat} (k:Lv3 (n-5) p1 p2 p3) (hx:Lf (n-5) x) (hy:Lf (n-5) y) (hz:Lf (n-5) z) (hn:5≤n):Lf n (ld p1 p2 p3 x y z):=qQ (a1:=p1) (a2:=p2) (a3:=p3) k.a k.b k.c hx hy hz hn
theorem placeF (h:Lm 31 x1 x2 x3 y1 y2 y3 z1 z2 z3) (k:Lv3 31 p1 p2 p3) (ho:Lv3 36 o1 o2 o3) :
 jF 77 [nV o1 o2 o3 x1 x2 x3 y1 y2 y3 z1 z2 z3,vc p1 p2 p3] (vc (o1+ld p1 p2 p3 x1 y1 z1) (o2+ld p1 p2 p3 x2 y2 z2) (o3+ld p1 p2 p3 x3 y3 z3)):=by
 refine jG Tryz.func77 fun w00=>?_
 refine jC 31 [nV o1 o2 o3 x1 x2 x3 y1 y2 y3 z1 z2 z3,vc p1 p2 p3] (leadF h k) ?_
 refine jC 71 [vc o1 o2 o3,vc (ld p1 p2 p3 x1 y1 z1) (ld p1 p2 p3 x2 y2 z2) (ld p1 p2 p3 x3 y3 z3)] (uJ ho.a ho.b ho.c (lf_ld k h.x1 h.y1 h.z1 (by decide)) (lf_ld k h.x2 h.y2 h.z2 (by decide)) (lf_ld k h.x3 h.y3 h.z3 (by decide))) ?_
 exact jR Tryz.func77
structure Sq0 (x1 x2 x3 y1 y2 y3 z1 z2 z3:Rat):Prop where
 x:dt x1 x2 x3 x1 x2 x3≠0
 y:dt y1 y2 y3 y1 y2 y3≠0
 z:dt z1 z2 z3 z1 z2 z3≠0
theorem vX (h:Lm 31 x1 x2 x3 y1 y2 y3 z1 z2 z3) (hxy:dt x1 x2 x3 y1 y2 y3=0) (hyz:dt y1 y2 y3 z1 z2 z3=0) (hzx:dt z1 z2 z3 x1 x2 x3=0) :
 jF 158 [nV o1 o2 o3 x1 x2 x3 y1 y2 y3 z1 z2 z3] (bl true):=by
 refine jG Tryz.func158 fun w00=>?_
 refine jC 36 [vc x1 x2 x3,vc y1 y2 y3] (nE h.x1 h.x2 h.x3 h.y1 h.y2 h.y3) ?_
 refine jC 79 [num (dt x1 x2 x3 y1 y2 y3)] (gF (b:=true) (by rw [decide_eq_true_eq];exact hxy)) ?_
 refine jC 36 [vc y1 y2 y3,vc z1 z2 z3] (nE h.y1 h.y2 h.y3 h.z1 h.z2 h.z3) ?_
 refine jC 79 [num (dt y1 y2 y3 z1 z2 z3)] (gF (b:=true) (by rw [decide_eq_true_eq];exact hyz)) ?_
 refine jC 36 [vc z1 z2 z3,vc x1 x2 x3] (nE h.z1 h.z2 h.z3 h.x1 h.x2 h.x3) ?_
 refine jC 79 [num (dt z1 z2 z3 x1 x2 x3)] (gF (b:=true) (by rw [decide_eq_true_eq];exact hzx)) ?_
 exact jR Tryz.func158
end
def csIs (v:Value) (h:v.oneCell'=true) (c:Bool) (hc:c=true→Kn v=false):CS Kn where
 size:=1
 cold:=c
 pred cs _:=cs = [v]
 stable _ _ _ h _:=h
 len _ _ h:=by rw [h];rfl
 one _ _ hp:=by rw [hp];intro c hc;rw [List.mem_singleton] at hc;rw [hc];exact h
 iscold hb _ _ hp:=by rw [hp];intro d hd;rw [List.mem_singleton] at hd;rw [hd];exact hc hb
abbrev cH (s:ByteArray):Seg Kn := .sp (csIs (.string s) rfl true (fun _=>rfl))
abbrev eV (n:Int):Seg Kn := .sp (csIs (.int .i64 n) rfl true (fun _=>rfl))
abbrev isU (n:Int):Seg Kn := .sp (csIs (.int .u64 n) rfl false (fun h=>by cases h))
abbrev tx (s:ByteArray):AV Kn := .fv (.sc (cH s))
abbrev lt (s:ByteArray):AV Kn := .fv (.sc (.lit (.string s)))
theorem aO {v u:Value} {h:v.oneCell'=true} {c:Bool} {hc:c=true→Kn v=false} {β:List Nat} {w:World} (k:(AV.fv (.sc (.sp (csIs v h c hc))):AV Kn).holds β u w):u=v:=by
 have:[u] = [v]:=k
 injection this
theorem bE {v:Value} {h:v.oneCell'=true} {c:Bool} {hc:c=true→Kn v=false} {β:List Nat} {w:World}:(AV.fv (.sc (.sp (csIs v h c hc))):AV Kn).holds β v w:=rfl
theorem aX {v:Value} (h:v.oneCell'=true) {β:List Nat} {w:World}:(AV.fv (.sc (.lit v)):AV Kn).holds β v w:=⟨rfl,h⟩
def Gl (w:World):Prop:=Laid w∧∃ m,w.cell? ⟨0,0,none⟩=some (.int .i64 m)
abbrev jX(f:FuncId)(l:List (AV Kn))(x:AV Kn):Prop:=FitsW Tryz.prog Gl f l x
theorem Gl.below {w w' : World} (h:Gl w) (hb:Below w.heap.size w w'):Gl w':=by
 refine ⟨h.1.below hb,?_⟩
 obtain ⟨m,hm⟩:=h.2
 exact ⟨m,(hb.cell (p:=⟨0,0,none⟩) (block_lt_of_cell hm)).trans hm⟩
theorem keepGl {w00:World} (h:Gl w00):∀ w,Below w00.heap.size w00 w→Gl w:=fun _ hb=>h.below hb
theorem jY{f:FuncId}{fn:Func}{args:List (AV Kn)}{x:AV Kn}(hfn:Tryz.prog.funcs[f]?=some fn)(h:∀w00,(∀w,Below w00.heap.size w00 w→Gl w)→Ok Tryz.prog f w00 (fun v w=>x.holds [] v w) (cG Tryz.prog 1000 (oP fn args)))(hc:(fn.body.isSome,decide (args.length≤fn.ntmps),x.noPtr,args.all AV.noPtr)=(true,true,true,true):=by kernel_rfl):jX f args x:=kgoW hfn hc fun w00 hG=>h w00 (keepGl hG)
def decB (n:Nat):ByteArray:=⟨(Lib.decDigits n).toArray⟩
def overB (q:Rat):ByteArray:=if q.num<0 then ⟨#[45]⟩++decB q.num.natAbs else decB q.num.natAbs
theorem sP {a:Nat} (ha:Lv 20 a):jX 251 [nt a] (tx (decB a)):=by
 intro β w vs hG hv
 obtain ⟨v,rfl,h1⟩:=dC hv
 exact (text_any v a w (dK.1 h1) ha hG.1).mono fun e w' ⟨e1,h2⟩=>⟨_,e1,h2,bE⟩
def itoaB (n:Int):ByteArray:=⟨(Lib.itoa n).toArray⟩
theorem formatInt0F {n:Int} (hn:rC n):jX 252 [it n,it 10] (tx (itoaB n)):=by
 intro β w vs hG hv
 obtain ⟨v,u,rfl,h1,h2⟩:=dJ hv
 rw [aM h1,aM h2]
 refine (Tryz.internal_strconv_FormatInt_10 n hn.1 hn.2 w hG.1).mono fun e w' ⟨e1,k,os,e2⟩=>⟨_,e1,?_,bE⟩
 rw [e2]
 exact (oE w k).trans (yB (w.drewN k) os)
theorem yQ {n:Int} (hn:rC n):jX 215 [it n,it 10] (tx (itoaB n)):=by
 refine jY Tryz.func215 fun w00 hI=>?_
 refine jW hI 252 [it n,it 10] (formatInt0F hn) ?_
 exact jR Tryz.func215
abbrev smA (q:Rat):AV Kn := .fv (.ag [.lit (.int .i64 q.num),.lit (.int .i64 ((q.den:Int)-1)),.lit (.pointer none)])
theorem sm_holds {β:List Nat} {v:Value} {w:World} {q:Rat} (h:Sm q):(num q).holds β v w↔(smA q).holds β v w:=by
 rw [dH]
 constructor
 ·rintro (⟨_,rfl⟩|⟨h2,_⟩)
  ·exact ⟨[_,_,_],rfl,[_],_,rfl,⟨rfl,rfl⟩,[_],_,rfl,⟨rfl,rfl⟩,[_],[],rfl,⟨rfl,rfl⟩,rfl⟩
  ·exact absurd h h2
 ·rintro ⟨cs,rfl,a,r,rfl,⟨rfl,_⟩,b,r2,rfl,⟨rfl,_⟩,c,r3,rfl,⟨rfl,_⟩,e⟩
  rw [show r3 = [] from e]
  exact .inl ⟨h,rfl⟩
theorem denF {q:Rat} (h:Sm q):jF 97 [smA q] (it q.den):=by
 intro β w vs hv
 obtain ⟨v,rfl,h1⟩:=dC hv
 obtain ⟨cs,rfl,a,r,rfl,⟨rfl,_⟩,b,r2,rfl,⟨rfl,_⟩,c,r3,rfl,⟨rfl,_⟩,e⟩:=h1
 rw [show r3 = [] from e]
 have hd:=iR h
 refine (nB q.num ((q.den:Int)-1) none w (by omega) (by omega)).mono fun e w' ⟨e1,h2⟩=>⟨_,e1,h2,?_⟩
 rw [show ((q.den:Int)-1+1)=q.den by omega]
 exact aX rfl
theorem eR {P:Program} {o:Oper} {ρ:Operand→Value} {w:World} {T T' : TypeId} {x y:Operand} {a b:ByteArray} (ho:o.op = .binOp .add T x y T') (hx:ρ x = .string a) (hy:ρ y = .string b) (hs:a.size+b.size≤9223372036854775807) :
 (execOp ρ o).run P w = .ok (.value (.string (a++b))) w:=by
 simp only [execOp,ho,hx,hy]
 refine bJ ?_
 have hne:¬ (((a.size+b.size:Nat):Int) > IntKind.i64.max):=by
  have:IntKind.i64.max=9223372036854775807:=by decide
  rw [this]
  omega
 simp only [eqGuard,binOp,Op.stringOp,if_neg hne]
 rfl
theorem decB_size {a k:Nat} (h:a<10^(k+1)):(decB a).size≤k+1:=by
 exact xK h
theorem fraTextF {q:Rat} (hq:Lf 20 q) (hs:(decB q.num.natAbs).size≤1000000000):jX 214 [fra q] (.tup [.sc (cH (overB q)),.sc (cH (decB q.den))]):=by
 by_cases hn:q.num<0
 ·have hd:decide (q.num<0)=true:=by simpa using hn
  have ho:overB q=⟨#[45]⟩++decB q.num.natAbs:=by rw [overB,if_pos hn]
  rw [ho,show fra q=frv true q.num.natAbs q.den by rw [fra,hd]]
  obtain ⟨hq1,hq2⟩:=hq
  generalize q.num.natAbs=n at *
  have hcat:(⟨#[45]⟩:ByteArray).size+(decB n).size≤9223372036854775807:=by
   have:(⟨#[45]⟩:ByteArray).size=1:=rfl
   omega
  refine jY Tryz.func214 fun w00 hI=>?_
  refine jW hI 251 [nt n] (sP hq1) ?_
  refine jW hI 251 [nt q.den] (sP hq2) ?_
  refine jK (.binOp .add 9 (.const (.string ⟨#[45]⟩)) (.tmp 12) 9) (.const (.string ⟨#[45]⟩)) (.tmp 12) (lt ⟨#[45]⟩) (tx (decB n)) (tx (⟨#[45]⟩++decB n)) (fun ρ o β w ho hx hy=>⟨_,eR ho (aM hx) (aO hy) hcat,bE⟩) ?_
  exact jR Tryz.func214
 ·have hd:decide (q.num<0)=false:=by simpa using hn
  have ho:overB q=decB q.num.natAbs:=by rw [overB,if_neg hn]
  rw [ho,show fra q=frv false q.num.natAbs q.den by rw [fra,hd]]
  refine jY Tryz.func214 fun w00 hI=>?_
  refine jW hI 251 [nt q.num.natAbs] (sP hq.1) ?_
  refine jW hI 251 [nt q.den] (sP hq.2) ?_
  exact jR Tryz.func214
theorem itoa_over (q:Rat):itoaB q.num=overB q:=by
 unfold itoaB overB decB Lib.itoa
 split
 ·congr 1
 ·rename_i h
  congr 3
  omega
theorem itoa_den (d:Nat):itoaB (d:Int)=decB d:=by
 unfold itoaB decB Lib.itoa
 rw [if_neg (by omega)]
 rfl
theorem smTextF {q:Rat} (h:Sm q):jX 150 [smA q] (.tup [.sc (cH (overB q)),.sc (cH (decB q.den))]):=by
 have hn:=iS h
 have hd:=iR h
 rw [← itoa_over,← itoa_den]
 refine jY Tryz.func150 fun w00 hI=>?_
 refine jW hI 215 [it q.num,it 10] (yQ ⟨by have:=hn.1;omega,by have:=hn.2;omega⟩) ?_
 refine jC 97 [smA q] (denF h) ?_
 refine jW hI 215 [it q.den,it 10] (yQ ⟨by omega,hd.2⟩) ?_
 exact jR Tryz.func150
theorem num_large {I:World→Prop} {f:FuncId} {fn:Func} {q:Rat} {x:AV Kn} (hq:¬ Sm q) (hfn:Tryz.prog.funcs[f]?=some fn) (hc:(fn.body.isSome,decide (1≤fn.ntmps),x.noPtr)=(true,true,true))
 (h:∀ w00,I w00→Ok Tryz.prog f w00 (fun v w=>x.holds [] v w) (cG Tryz.prog 1000 (.items [.code (fn.body.getD .skip)] { slots := [.fv (.ag [.lit (.int .i64 0),.lit (.int .i64 0),.ptr 0 0])]++List.replicate (fn.ntmps-1) .un,blocks := [(103,[.lit (.bool (decide (q.num<0))),nts q.num.natAbs,nts q.den])],ro:=1 }))) :
 FitsW Tryz.prog I f [num q] x:=by
 simp only [Prod.mk.injEq] at hc
 intro β w vs hI hv
 obtain ⟨v,rfl,h1⟩:=dC hv
 rcases dH.1 h1 with ⟨h2,_⟩|⟨_,g,s1,s2,rfl,hg,n1,n2⟩
 ·exact absurd h2 hq
 have hb2:fn.body=some (fn.body.getD .skip):=by
  cases hb2:fn.body with
  | none=>rw [hb2] at hc;cases hc.1
  | some c=>rfl
 have hl:holdsL [g] [Seg.lit (.bool (decide (q.num<0))),nts q.num.natAbs,nts q.den] [.bool (decide (q.num<0)),s1,s2] w :=
  ⟨[.bool (decide (q.num<0))],_,rfl,⟨rfl,rfl⟩,[s1],_,rfl,⟨s1,rfl,n1⟩,[s2],[],rfl,⟨s2,rfl,n2⟩,rfl⟩
 refine (eM (w00:=w) (Out:=fun v w=>x.holds [] v w) hfn hb2 [.fv (.ag [.lit (.int .i64 0),.lit (.int .i64 0),.ptr 0 0])] [(103,[.lit (.bool (decide (q.num<0))),nts q.num.natAbs,nts q.den])] [g] _ (fn.ntmps-1) (by simp at hc;simp;omega)
  ⟨_,[],rfl,⟨[.int .i64 0,.int .i64 0,.pointer (some ⟨g,0,none⟩)],rfl,[_],_,rfl,⟨rfl,rfl⟩,[_],_,rfl,⟨rfl,rfl⟩,[_],[],rfl,⟨g,rfl,rfl⟩,rfl⟩,rfl⟩ rfl (by simp) (fun k T l hk=>?_) (by simp;exact lt_of_block hg) (Ok.go (by kernel_rfl) lU 1000 (h w hI)).good).mono ?_
 ·match k,hk with
  | 0,hk =>
    simp at hk
    obtain ⟨rfl,rfl⟩:=hk
    exact ⟨g,_,rfl,hg,hl⟩
 ·rintro e w' ⟨v,rfl,hb,ho⟩
  exact ⟨v,rfl,hb,AV.noPtr_holds hc.2.2 ho⟩
theorem yR {q:Rat} (hq:Lf 20 q) (hs:(decB q.num.natAbs).size≤1000000000):jX 150 [num q] (.tup [.sc (cH (overB q)),.sc (cH (decB q.den))]):=by
 by_cases h:Sm q
 ·intro β w vs hG hv
  obtain ⟨v,r,rfl,h1,h2⟩:=hv
  exact smTextF h β w _ hG ⟨v,r,rfl,(sm_holds h).1 h1,h2⟩
 ·refine num_large h Tryz.func150 (by kernel_rfl) fun w00 hG=>?_
  have hI:=keepGl hG
  refine jK (.binOp .neq 61 (.tmp 5) (.const (.pointer none)) 61) (.tmp 5) (.const (.pointer none)) (.fv (.sc (.ptr 0 0))) (.fv (.sc (.lit (.pointer none)))) (bl true) (fun ρ o β w ho hx hy=>?_) ?_
  ·obtain ⟨g,_,hx⟩:=fZ hx
   have hy:=aM hy
   refine ⟨.bool true,?_,aX rfl⟩
   simp only [execOp,ho,hx,hy]
   exact bJ (bL (by kernel_rfl) w)
  refine jW hI 214 [fra q] (fraTextF hq hs) ?_
  exact jR Tryz.func150
theorem trimF {s t:ByteArray} (h:(⟨(Lib.trimPrefix s.data.toList [45]).toArray⟩:ByteArray)=t):jF 151 [tx s,lt ⟨#[45]⟩] (tx t):=by
 intro β w vs hv
 obtain ⟨v,u,rfl,h1,h2⟩:=dJ hv
 rw [aO h1,aM h2]
 refine (Tryz.strings_TrimPrefix s ⟨#[45]⟩ w).mono fun e w' ⟨e1,e2⟩=>⟨_,e1,by rw [e2];exact aB _ _,?_⟩
 rw [← h]
 exact bE
theorem uL {q:Rat}:(⟨(Lib.trimPrefix (overB q).data.toList [45]).toArray⟩:ByteArray)=decB q.num.natAbs:=by
 unfold overB
 split
 ·have:(⟨#[45]⟩++decB q.num.natAbs:ByteArray).data.toList=45::Lib.decDigits q.num.natAbs:=by
   simp [decB]
  rw [this]
  simp [Lib.trimPrefix,Lib.hasPrefix,decB]
 ·simp only [decB]
  have hd:=(cF q.num.natAbs).2
  unfold Lib.trimPrefix
  split
  ·rename_i hp
   exfalso
   have h0:=hd.2
   cases hl:Lib.decDigits q.num.natAbs with
   | nil=>exact h0 hl
   | cons c r =>
     rw [hl] at hp
     simp [Lib.hasPrefix] at hp
     have:=hd.1 c (by rw [hl];simp)
     rw [← hp] at this
     revert this
     decide
  ·rfl
theorem wY {o:Oper} {ρ:Operand→Value} {w:World} {t:Tmp} {T:TypeId} {s:ByteArray} (ho:o.op = .call ⟨.builtin .len,#[.tmp t],#[T]⟩) (hT:Tryz.prog.underlying T=some .string) (hx:ρ (.tmp t) = .string s) :
 (execOp ρ o).run Tryz.prog w = .ok (.value (.int .i64 s.size)) w:=by
 have hm:(#[Operand.tmp t].map ρ) = #[.string s]:=by simp [hx]
 simp only [execOp,ho,resolve,Sem.run_bind,Sem.run_pure,Result.andThen,hm,invoke,builtin,Builtin.len_]
 simp [Sem.run_bind,run_underlying hT,Result.andThen,goInt]
section
variable {f:FuncId} {w00:World} {Out:Value→World→Prop}
theorem klen {c:Cfg Kn} (t:Tmp) (s:ByteArray) (hc:(c.op.map fun o=>o.op,c.okT (.fv (.sc (eV s.size))),c.ev (.tmp t))=(some (.call ⟨.builtin .len,#[.tmp t],#[9]⟩),true,tx s))
 (hg:Ok Tryz.prog f w00 Out (cG Tryz.prog 1000 (c.give (.fv (.sc (eV s.size)))))):Ok Tryz.prog f w00 Out c:=by
 simp only [Prod.mk.injEq] at hc
 obtain ⟨h1,h2,h3⟩:=hc
 exact qA _ (.tmp t) (.tmp t) (tx s) (tx s) (.fv (.sc (eV s.size))) (by rw [h1,h2,h3]) (by simp [Op.operands,Call.operands]) (by simp [Op.operands,Call.operands])
  (fun ρ o β w ho hx _=>⟨_,wY ho Tryz.underlying9 (aO hx),bE⟩) hg
theorem jO{c:Cfg Kn} (t:Tmp) (s:ByteArray)(hg:Ok Tryz.prog f w00 Out (cG Tryz.prog 1000 (c.give (.fv (.sc (eV s.size))))))(hc:(c.op.map fun o=>o.op,c.okT (.fv (.sc (eV s.size))),c.ev (.tmp t))=(some (.call ⟨.builtin .len,#[.tmp t],#[9]⟩),true,tx s):=by kernel_rfl):Ok Tryz.prog f w00 Out c:=klen t s hc hg
end
theorem yS {o:Oper} {ρ:Operand→Value} {w:World} {x y:Operand} {a b:Int} {r:Bool} (ho:o.op = .binOp .gtr 3 x y 3) (hx:ρ x = .int .i64 a) (hy:ρ y = .int .i64 b) (h:decide (b<a)=r) :
 (execOp ρ o).run Tryz.prog w = .ok (.value (.bool r)) w:=by
 simp only [execOp,ho,hx,hy]
 refine bJ ?_
 rw [← h]
 exact bL (by kernel_rfl) w
theorem sQ {o:Oper} {ρ:Operand→Value} {w:World} {x y:Operand} {a b:ByteArray} {r:Bool} {T T' : TypeId} (ho:o.op = .binOp .eql T x y T') (hx:ρ x = .string a) (hy:ρ y = .string b) (h:(a.toList==b.toList)=r) :
 (execOp ρ o).run Tryz.prog w = .ok (.value (.bool r)) w:=by
 simp only [execOp,ho,hx,hy]
 refine bJ ?_
 rw [← h]
 exact bL (by kernel_rfl) w
def writeB (q:Rat):ByteArray:=if q.den=1 then overB q else overB q++(⟨#[47]⟩++decB q.den)
theorem sR {a k:Nat} (h:a<10^(k+1)):(decB a).size≤k+1:=decB_size h
theorem over_size {q:Rat}:(overB q).size≤(decB q.num.natAbs).size+1:=by
 unfold overB
 split
 ·simp
  have:(⟨#[45]⟩:ByteArray).size=1:=rfl
  omega
 ·omega
theorem vY {n:Nat}:(!((decB n).toList==(⟨#[49]⟩:ByteArray).toList)) = !decide (n=1):=by
 congr 1
 rw [Bool.eq_iff_iff]
 simp only [beq_iff_eq,decide_eq_true_eq]
 rw [Go.ByteArray.toList_eq,Go.ByteArray.toList_eq]
 simp only [decB]
 constructor
 ·intro h
  have:=(cF n).1
  rw [h] at this
  rw [← this]
  rfl
 ·rintro rfl
  exact cT (by omega)
theorem joinedF {q:Rat} (hn:(decB q.num.natAbs).size≤1000000000) (hd:(decB q.den).size≤1000000000):jF 152 [tx (overB q),tx (decB q.den)] (tx (writeB q)):=by
 have hs:=over_size (q:=q)
 have e1:(⟨#[47]⟩:ByteArray).size=1:=rfl
 have hb1:(overB q).size+(⟨#[47]⟩:ByteArray).size≤9223372036854775807:=by omega
 have hb2:(overB q++⟨#[47]⟩:ByteArray).size+(decB q.den).size≤9223372036854775807:=by
  simp
  omega
 by_cases h:q.den=1
 ·have hw:writeB q=overB q:=by rw [writeB,if_pos h]
  have h3:((decB q.den).toList==(⟨#[49]⟩:ByteArray).toList)=true:=by have:=vY (n:=q.den);rw [h] at this ⊢;simpa using this
  rw [hw]
  refine jG Tryz.func152 fun w00=>?_
  refine jK (.binOp .eql 9 (.tmp 5) (.const (.string ⟨#[49]⟩)) 9) (.tmp 5) (.const (.string ⟨#[49]⟩)) (tx (decB q.den)) (lt ⟨#[49]⟩) (bl true) (fun ρ o β w ho hx hy=>⟨_,sQ ho (aO hx) (aM hy) h3,aX rfl⟩) ?_
  exact jR Tryz.func152
 ·have hw:writeB q=overB q++⟨#[47]⟩++decB q.den:=by rw [writeB,if_neg h,ByteArray.append_assoc]
  have h3:((decB q.den).toList==(⟨#[49]⟩:ByteArray).toList)=false:=by have:=vY (n:=q.den);rw [decide_eq_false h] at this;simpa using this
  rw [hw]
  refine jG Tryz.func152 fun w00=>?_
  refine jK (.binOp .eql 9 (.tmp 5) (.const (.string ⟨#[49]⟩)) 9) (.tmp 5) (.const (.string ⟨#[49]⟩)) (tx (decB q.den)) (lt ⟨#[49]⟩) (bl false) (fun ρ o β w ho hx hy=>⟨_,sQ ho (aO hx) (aM hy) h3,aX rfl⟩) ?_
  refine jK (.binOp .add 9 (.tmp 8) (.const (.string ⟨#[47]⟩)) 9) (.tmp 8) (.const (.string ⟨#[47]⟩)) (tx (overB q)) (lt ⟨#[47]⟩) (tx (overB q++⟨#[47]⟩)) (fun ρ o β w ho hx hy=>⟨_,eR ho (aO hx) (aM hy) hb1,bE⟩) ?_
  refine jK (.binOp .add 9 (.tmp 9) (.tmp 10) 9) (.tmp 9) (.tmp 10) (tx (overB q++⟨#[47]⟩)) (tx (decB q.den)) (tx (overB q++⟨#[47]⟩++decB q.den)) (fun ρ o β w ho hx hy=>⟨_,eR ho (aO hx) (aO hy) hb2,bE⟩) ?_
  exact jR Tryz.func152
theorem rD {q:Rat} (hq:Lf 20 q) (hn:(decB q.num.natAbs).size≤600) (hd:(decB q.den).size≤600):jX 59 [num q] (.tup [.sc (cH (writeB q)),.sc (.lit (.int .i64 0))]):=by
 have h1:decide ((600:Int)<((decB q.num.natAbs).size:Int))=false:=by simp;omega
 have h2:decide ((600:Int)<((decB q.den).size:Int))=false:=by simp;omega
 refine jY Tryz.func59 fun w00 hI=>?_
 refine jW hI 150 [num q] (yR hq (by omega)) ?_
 refine jC 151 [tx (overB q),lt ⟨#[45]⟩] (trimF uL) ?_
 refine jO 12 (decB q.num.natAbs) ?_
 refine jK (.binOp .gtr 3 (.tmp 13) (.const (.int .i64 600)) 3) (.tmp 13) (.const (.int .i64 600)) (.fv (.sc (eV (decB q.num.natAbs).size))) (it 600) (bl false) (fun ρ o β w ho hx hy=>⟨_,yS ho (aO hx) (aM hy) h1,aX rfl⟩) ?_
 refine jO 16 (decB q.den) ?_
 refine jK (.binOp .gtr 3 (.tmp 17) (.const (.int .i64 600)) 3) (.tmp 17) (.const (.int .i64 600)) (.fv (.sc (eV (decB q.den).size))) (it 600) (bl false) (fun ρ o β w ho hx hy=>⟨_,yS ho (aO hx) (aM hy) h2,aX rfl⟩) ?_
 refine jC 152 [tx (overB q),tx (decB q.den)] (joinedF (by omega) (by omega)) ?_
 exact jR Tryz.func59
end Ab
section
open Go.RowKit Pl
theorem eW (w:World) (s:ByteArray) (pos:Nat):Below w.heap.size w (w.iter s pos):=(aB _ _).alloc (aR _) _
set_option maxRecDepth 100000 in
theorem isDigits_any (s:ByteArray) (w:World) (hd:AllDig (aC s)) (h0:0<s.size):Calls Tryz.prog 136 #[.string s] w fun e w'=>e = .returned (.bool true)∧Below w.heap.size w w':=by
 have hne:(!(s.toList==(⟨#[]⟩:ByteArray).toList))=true:=by
  rw [Go.ByteArray.toList_eq,Go.ByteArray.toList_eq]
  have:s.data.toList≠[]:=fun h=>by
   have h2:(aC s).length=0:=by simp only [aC];rw [h];rfl
   rw [aE] at h2
   omega
  simpa using this
 have H:=aH (aI hd (aI h0 hne))
 clear hd h0 hne
 go_enter Tryz.func136,Tryz.ntmps136
 go_wp2
 go_loopw [4] (fun _ wr => ∃ pos:Nat,wr=w.iter s pos∧pos≤s.size) (fun _ wr=>s.size-wr.iterPos w.heap.size)
 case atStart=>exact ⟨0,rfl,Nat.zero_le _⟩
 case round =>
  obtain ⟨pos,rfl,hpos⟩:=hrel
  by_cases hp:pos<s.size
  ·have hc:48≤(s[pos]'hp).toNat∧(s[pos]'hp).toNat≤57:=by
    have:=H.out.1 (s[pos]'hp) (by
     unfold aC
     rw [Array.mem_toList_iff]
     exact Array.getElem_mem _)
    exact this
   obtain ⟨c,hcc⟩:∃ c,c=(s[pos]'hp).toNat:=⟨_,rfl⟩
   have hnx:∀ ty,(Instr.next (.pointer (some ⟨w.heap.size,0,none⟩)) true ty).run Tryz.prog (w.iter s pos) = .ok (.tuple #[.bool true,.int .i64 pos,.int .i32 (c:Int)]) (w.iter s (pos+1)):=fun ty=>by
    rw [hcc]
    exact run_next_ascii w s pos ty hp (by omega)
   rw [← hcc] at hc
   have k1:(48:Int)≤c:=by omega
   have k2:(c:Int)≤57:=by omega
   have HH:=aH (aI hp hpos)
   clear hc hcc hp hpos
   go_wp2
   go_roundw
   case rel=>exact ⟨pos+1,rfl,HH.out.1⟩
   case measure =>
    have:=HH.out.1
    simp
    omega
  ·have hnx:∀ ty,(Instr.next (.pointer (some ⟨w.heap.size,0,none⟩)) true ty).run Tryz.prog (w.iter s pos)=_:=fun ty=>run_next_end w s pos ty hp
   have hne:=H.out.2.2
   go_wp2
   go_ret
   exact ⟨by simp at hne ⊢;exact hne,eW _ _ _⟩
end
namespace Ab
open Go.RowKit Pl
theorem pS {s:ByteArray} (hd:AllDig (aC s)) (h0:0<s.size):jF 136 [tx s] (bl true):=by
 intro β w vs hv
 obtain ⟨v,rfl,h1⟩:=dC hv
 rw [aO h1]
 exact (isDigits_any s w hd h0).mono fun e w' ⟨e1,e2⟩=>⟨_,e1,e2,aX rfl⟩
theorem lY {o:Oper} {ρ:Operand→Value} {w:World} {x y:Operand} {s:ByteArray} {i:Nat} {c:UInt8} {T:TypeId} (ho:o.op = .index T x y) (hT:Tryz.prog.underlying T=some .string) (hx:ρ x = .string s) (hy:ρ y = .int .i64 i) (hc:s[i]?=some c) :
 (execOp ρ o).run Tryz.prog w = .ok (.value (.int .u8 c.toNat)) w:=by
 simp only [execOp,ho,hx,hy]
 refine bJ ?_
 simp [Instr.index,asIntOf,Sem.run_bind,run_underlying hT,Result.andThen,hc]
theorem nF {o:Oper} {ρ:Operand→Value} {w:World} {x y:Operand} {a b:Int} {r:Bool} {T T' : TypeId} (ho:o.op = .binOp .neq T x y T') (hx:ρ x = .int .u8 a) (hy:ρ y = .int .u8 b) (h:(a != b)=r) :
 (execOp ρ o).run Tryz.prog w = .ok (.value (.bool r)) w:=by
 simp only [execOp,ho,hx,hy]
 refine bJ ?_
 rw [← h]
 exact bL (by kernel_rfl) w
theorem intEq_run {o:Oper} {ρ:Operand→Value} {w:World} {x y:Operand} {a b:Int} {r:Bool} {T T' : TypeId} (ho:o.op = .binOp .eql T x y T') (hx:ρ x = .int .i64 a) (hy:ρ y = .int .i64 b) (h:(a==b)=r) :
 (execOp ρ o).run Tryz.prog w = .ok (.value (.bool r)) w:=by
 simp only [execOp,ho,hx,hy]
 refine bJ ?_
 rw [← h]
 exact bL (by kernel_rfl) w
abbrev isB (n:Int):Seg Kn := .sp (csIs (.int .u8 n) rfl true (fun _=>rfl))
theorem lZ (n:Nat):jF 154 [tx (decB n)] (bl true):=by
 have hd:=cF n
 have hsz:0<(decB n).size:=by
  have:(Lib.decDigits n).length≠0:=fun h=>hd.2.2 (List.eq_nil_of_length_eq_zero h)
  have e:(decB n).size=(Lib.decDigits n).length:=by simp [decB,ByteArray.size]
  omega
 have hlen:0<(Lib.decDigits n).length:=List.length_pos_iff.2 hd.2.2
 obtain ⟨c,hcl⟩:∃ c,(Lib.decDigits n)[0]?=some c:=⟨_,List.getElem?_eq_getElem hlen⟩
 have hc:(decB n)[0]?=some c:=by
  rw [getElem?_pos (decB n) 0 hsz]
  have:(decB n)[0]'hsz=(Lib.decDigits n)[0]'hlen:=by
   first
    | rfl
    | exact List.getElem_toArray _
  rw [this,← hcl,List.getElem?_eq_getElem hlen]
 by_cases h:c=48
 ·have hone:(decB n).size=1:=by
   have h0:n=0:=by
    rcases Nat.eq_zero_or_pos n with e|e
    ·exact e
    ·exfalso
     have:=xJ e
     rw [List.head?_eq_getElem?,hcl,h] at this
     exact this rfl
   subst h0
   simp only [decB]
   rw [cT (by omega)]
   rfl
  have h1:(((c.toNat:Nat):Int) != 48)=false:=by rw [h];rfl
  have h2:(((decB n).size:Int)==1)=true:=by rw [hone];rfl
  refine jG Tryz.func154 fun w00=>?_
  refine jC 136 [tx (decB n)] (pS hd.2.1 hsz) ?_
  refine jK (.index 9 (.tmp 6) (.const (.int .i64 0))) (.tmp 6) (.const (.int .i64 0)) (tx (decB n)) (it 0) (.fv (.sc (isB c.toNat))) (fun ρ o β w ho hx hy=>⟨_,lY (i:=0) ho Tryz.underlying9 (aO hx) (aM hy) hc,bE⟩) ?_
  refine jK (.binOp .neq 5 (.tmp 7) (.const (.int .u8 48)) 5) (.tmp 7) (.const (.int .u8 48)) (.fv (.sc (isB c.toNat))) (.fv (.sc (.lit (.int .u8 48)))) (bl false) (fun ρ o β w ho hx hy=>⟨_,nF ho (aO hx) (aM hy) h1,aX rfl⟩) ?_
  refine jO 10 (decB n) ?_
  refine jK (.binOp .eql 3 (.tmp 11) (.const (.int .i64 1)) 3) (.tmp 11) (.const (.int .i64 1)) (.fv (.sc (eV (decB n).size))) (it 1) (bl true) (fun ρ o β w ho hx hy=>⟨_,intEq_run ho (aO hx) (aM hy) h2,aX rfl⟩) ?_
  exact jR Tryz.func154
 ·have h1:(((c.toNat:Nat):Int) != 48)=true:=by
   rw [bne_iff_ne]
   intro e
   exact h (UInt8.toNat_inj.1 (by have:(48:UInt8).toNat=48:=rfl;omega))
  refine jG Tryz.func154 fun w00=>?_
  refine jC 136 [tx (decB n)] (pS hd.2.1 hsz) ?_
  refine jK (.index 9 (.tmp 6) (.const (.int .i64 0))) (.tmp 6) (.const (.int .i64 0)) (tx (decB n)) (it 0) (.fv (.sc (isB c.toNat))) (fun ρ o β w ho hx hy=>⟨_,lY (i:=0) ho Tryz.underlying9 (aO hx) (aM hy) hc,bE⟩) ?_
  refine jK (.binOp .neq 5 (.tmp 7) (.const (.int .u8 48)) 5) (.tmp 7) (.const (.int .u8 48)) (.fv (.sc (isB c.toNat))) (.fv (.sc (.lit (.int .u8 48)))) (bl true) (fun ρ o β w ho hx hy=>⟨_,nF ho (aO hx) (aM hy) h1,aX rfl⟩) ?_
  exact jR Tryz.func154
end Ab
namespace Ab
open Go.RowKit Pl
theorem sS:∀ {l:List UInt8},AllDig l→Lib.index l [47] = -1
 | [],_=>rfl
 | c :: l,h=>by
   have hc:=h c (by simp)
   have h2:([47]:List UInt8).isPrefixOf (c::l)=false:=by
    simp [List.isPrefixOf]
    intro e
    rw [← e] at hc
    revert hc
    decide
   unfold Lib.index
   rw [h2,sS (fun d hd=>h d (by simp [hd]))]
   rfl
theorem yT:∀ {l r:List UInt8},AllDig l→Lib.index (l++47::r) [47]=(l.length:Int)
 | [],r,_=>by
   unfold Lib.index
   rfl
 | c :: l,r,h=>by
   have hc:=h c (by simp)
   have h2:([47]:List UInt8).isPrefixOf (c::(l++47::r))=false:=by
    simp [List.isPrefixOf]
    intro e
    rw [← e] at hc
    revert hc
    decide
   have ih:=yT (l:=l) (r:=r) (fun d hd=>h d (by simp [hd]))
   rw [List.cons_append]
   unfold Lib.index
   rw [h2,ih]
   have:((l.length:Int) == -1)=false:=by rw [beq_eq_false_iff_ne];omega
   rw [this]
   simp
def bB (q:Rat):ByteArray:=if q.den=1 then decB q.num.natAbs else decB q.num.natAbs++(⟨#[47]⟩++decB q.den)
theorem ba_ext {a b:ByteArray} (h:a.data.toList=b.data.toList):a=b:=by
 cases a;cases b
 simp only [ByteArray.mk.injEq]
 exact Array.toList_inj.1 h
theorem dA (n:Nat):(decB n).data.toList=Lib.decDigits n:=by simp [decB]
theorem mA {q:Rat} (h:q.num<0):writeB q=⟨#[45]⟩++bB q:=by
 apply ba_ext
 unfold writeB bB overB
 split <;> simp [h]
theorem dZ {q:Rat} (h:¬ q.num<0):writeB q=bB q:=by
 unfold writeB bB overB
 simp only [h,if_false]
theorem uM (q:Rat):∃ c r,(bB q).data.toList=c::r∧(48≤c.toNat∧c.toNat≤57):=by
 have hd:=cF q.num.natAbs
 obtain ⟨c,r,hl⟩:∃ c r,Lib.decDigits q.num.natAbs=c::r:=by
  cases h:Lib.decDigits q.num.natAbs with
  | nil=>exact absurd h hd.2.2
  | cons c r=>exact ⟨c,r,rfl⟩
 have hc:=hd.2.1 c (by rw [hl];simp)
 unfold bB
 split
 ·exact ⟨c,r,by rw [dA,hl],hc⟩
 ·exact ⟨c,r++(⟨#[47]⟩++decB q.den:ByteArray).data.toList,by rw [ByteArray.toList_data_append,dA,hl];rfl,hc⟩
theorem nG {q:Rat} {neg:Bool} (hn:decide (q.num<0)=neg):jF 54 [tx (writeB q),lt ⟨#[45]⟩] (.tup [.sc (cH (bB q)),.sc (.lit (.bool neg))]):=by
 intro β w vs hv
 obtain ⟨v,u,rfl,h1,h2⟩:=dJ hv
 rw [aO h1,aM h2]
 have key:(⟨(Lib.trimPrefix (writeB q).data.toList [45]).toArray⟩:ByteArray)=bB q∧Lib.hasPrefix (writeB q).data.toList [45]=neg:=by
  by_cases h:q.num<0
  ·have hneg:neg=true:=by rw [← hn];simpa using h
   rw [mA h,hneg]
   have e:(⟨#[45]⟩++bB q:ByteArray).data.toList=45::(bB q).data.toList:=by rw [ByteArray.toList_data_append];rfl
   rw [e]
   refine ⟨ba_ext (by simp [Lib.trimPrefix,Lib.hasPrefix]),by simp [Lib.hasPrefix]⟩
  ·have hneg:neg=false:=by rw [← hn];simpa using h
   rw [dZ h,hneg]
   obtain ⟨c,r,e,hc⟩:=uM q
   have hp:Lib.hasPrefix (bB q).data.toList [45]=false:=by
    rw [e]
    simp [Lib.hasPrefix,List.isPrefixOf]
    intro h45
    rw [← h45] at hc
    revert hc
    decide
   refine ⟨ba_ext (by unfold Lib.trimPrefix;rw [hp];simp),hp⟩
 refine (Tryz.strings_CutPrefix (writeB q) ⟨#[45]⟩ w).mono fun e w' ⟨e1,e2⟩=>⟨_,e1,by rw [e2];exact aB _ _,?_⟩
 rw [show (⟨#[45]⟩:ByteArray).data.toList = [45] from rfl,key.1,key.2]
 exact ⟨[.string (bB q),.bool neg],rfl,_,_,rfl,bE (β:=β),_,_,rfl,⟨rfl,rfl⟩,rfl⟩
theorem sT {s a b:ByteArray} {r:Bool} (hs:s.size<4294967281) (h:Lib.cut s.data.toList [47]=(a.data.toList,b.data.toList,r)):jX 153 [tx s,lt ⟨#[47]⟩] (.tup [.sc (cH a),.sc (cH b),.sc (.lit (.bool r))]):=by
 intro β w vs hG hv
 obtain ⟨v,u,rfl,h1,h2⟩:=dJ hv
 rw [aO h1,aM h2]
 obtain ⟨m,hm⟩:=hG.2
 refine (Tryz.strings_Cut s ⟨#[47]⟩ m w hs hm).mono fun e w' ⟨e1,n,e2⟩=>⟨_,e1,by rw [e2];exact oE w n,?_⟩
 rw [show (⟨#[47]⟩:ByteArray).data.toList = [47] from rfl,h]
 have ea:(⟨a.data.toList.toArray⟩:ByteArray)=a:=ba_ext (by simp)
 have eb:(⟨b.data.toList.toArray⟩:ByteArray)=b:=ba_ext (by simp)
 simp only [ea,eb]
 exact ⟨[.string a,.string b,.bool r],rfl,_,_,rfl,bE (β:=β),_,_,rfl,bE (β:=β),_,_,rfl,⟨rfl,rfl⟩,rfl⟩
theorem cut_whole {q:Rat} (h:q.den=1):Lib.cut (bB q).data.toList [47]=((decB q.num.natAbs).data.toList,(⟨#[]⟩:ByteArray).data.toList,false):=by
 unfold bB Lib.cut
 rw [if_pos h,dA,sS (cF q.num.natAbs).2.1]
 rfl
theorem cut_parts {q:Rat} (h:q.den≠1):Lib.cut (bB q).data.toList [47]=((decB q.num.natAbs).data.toList,(decB q.den).data.toList,true):=by
 unfold bB Lib.cut
 have e:(decB q.num.natAbs++(⟨#[47]⟩++decB q.den):ByteArray).data.toList=Lib.decDigits q.num.natAbs++47::Lib.decDigits q.den:=by
  rw [ByteArray.toList_data_append,ByteArray.toList_data_append,dA,dA];rfl
 rw [if_neg h,e,yT (cF q.num.natAbs).2.1,if_pos (by omega),dA,dA]
 simp
theorem bV {n:Nat} (h:(decB n).size≤100000):jF 57 [tx (decB n)] (nt n):=by
 intro β w vs hv
 obtain ⟨v,rfl,h1⟩:=dC hv
 rw [aO h1]
 have e:aC (decB n)=Lib.decDigits n:=dA n
 refine (wM (decB n) w h (by rw [e];exact (cF n).2.1)).mono fun e' w' ⟨u,e1,h1,h2⟩=>⟨u,e1,h2,?_⟩
 rw [e,(cF n).1] at h1
 exact dK.2 h1
theorem vZ:jF 57 [lt ⟨#[49]⟩] (nt 1):=by
 intro β w vs hv
 obtain ⟨v,rfl,h1⟩:=dC hv
 have e:decB 1=⟨#[49]⟩:=by unfold decB;rw [cT (by omega)];rfl
 exact bV (n:=1) (by rw [e];decide) β w _ ⟨v,[],rfl,by rw [aM h1,← e];exact bE,rfl⟩
theorem isOneF {n:Nat} {b:Bool} (h:decide (n=1)=b):jF 141 [nt n] (bl b):=by
 intro β w vs hv
 obtain ⟨v,rfl,h1⟩:=dC hv
 refine (oM (dK.1 h1)).mono fun e w' ⟨e1,e2⟩=>⟨_,e1,by rw [e2];exact aB _ _,?_⟩
 rw [h]
 exact aX rfl
theorem sU {q:Rat} {neg:Bool} (h:decide (q.num<0)=neg):jF 58 [frv neg q.num.natAbs q.den] (num q):=by
 rw [← h]
 exact jH
section
variable {f:FuncId} {w00:World} {Out:Value→World→Prop}
theorem klenL {c:Cfg Kn} (t:Tmp) (s:ByteArray) (hc:(c.op.map fun o=>o.op,c.okT (.fv (.sc (eV s.size))),c.ev (.tmp t))=(some (.call ⟨.builtin .len,#[.tmp t],#[9]⟩),true,lt s))
 (hg:Ok Tryz.prog f w00 Out (cG Tryz.prog 1000 (c.give (.fv (.sc (eV s.size)))))):Ok Tryz.prog f w00 Out c:=by
 simp only [Prod.mk.injEq] at hc
 obtain ⟨h1,h2,h3⟩:=hc
 exact qA _ (.tmp t) (.tmp t) (lt s) (lt s) (.fv (.sc (eV s.size))) (by rw [h1,h2,h3]) (by simp [Op.operands,Call.operands]) (by simp [Op.operands,Call.operands])
  (fun ρ o β w ho hx _=>⟨_,wY ho Tryz.underlying9 (aM hx),bE⟩) hg
theorem kgt {c:Cfg Kn} (t:Tmp) (a b:Int) (r:Bool) (h:decide (b<a)=r) (hc:(c.op.map fun o=>o.op,c.okT (bl r),c.ev (.tmp t),c.ev (.const (.int .i64 b)))=(some (.binOp .gtr 3 (.tmp t) (.const (.int .i64 b)) 3),true,.fv (.sc (eV a)),it b))
 (hg:Ok Tryz.prog f w00 Out (cG Tryz.prog 1000 (c.give (bl r)))):Ok Tryz.prog f w00 Out c :=
 qA _ (.tmp t) (.const (.int .i64 b)) _ _ (bl r) hc (by simp [Op.operands]) (by simp [Op.operands]) (fun ρ o β w ho hx hy=>⟨_,yS ho (aO hx) (aM hy) h,aX rfl⟩) hg
theorem jM{c:Cfg Kn} (t:Tmp) (a b:Int) (r:Bool) (h:decide (b<a)=r)(hg:Ok Tryz.prog f w00 Out (cG Tryz.prog 1000 (c.give (bl r))))(hc:(c.op.map fun o=>o.op,c.okT (bl r),c.ev (.tmp t),c.ev (.const (.int .i64 b)))=(some (.binOp .gtr 3 (.tmp t) (.const (.int .i64 b)) 3),true,.fv (.sc (eV a)),it b):=by kernel_rfl):Ok Tryz.prog f w00 Out c :=kgt t a b r h hc hg
theorem kseq {c:Cfg Kn} (t:Tmp) (a b:ByteArray) (r:Bool) (h:(a.toList==b.toList)=r) (hc:(c.op.map fun o=>o.op,c.okT (bl r),c.ev (.tmp t),c.ev (.const (.string b)))=(some (.binOp .eql 9 (.tmp t) (.const (.string b)) 9),true,tx a,lt b))
 (hg:Ok Tryz.prog f w00 Out (cG Tryz.prog 1000 (c.give (bl r)))):Ok Tryz.prog f w00 Out c :=
 qA _ (.tmp t) (.const (.string b)) _ _ (bl r) hc (by simp [Op.operands]) (by simp [Op.operands]) (fun ρ o β w ho hx hy=>⟨_,sQ ho (aO hx) (aM hy) h,aX rfl⟩) hg
theorem jQ{c:Cfg Kn} (t:Tmp) (a b:ByteArray) (r:Bool) (h:(a.toList==b.toList)=r)(hg:Ok Tryz.prog f w00 Out (cG Tryz.prog 1000 (c.give (bl r))))(hc:(c.op.map fun o=>o.op,c.okT (bl r),c.ev (.tmp t),c.ev (.const (.string b)))=(some (.binOp .eql 9 (.tmp t) (.const (.string b)) 9),true,tx a,lt b):=by kernel_rfl):Ok Tryz.prog f w00 Out c :=kseq t a b r h hc hg
end
theorem kI {n m:Nat} {b:ByteArray} (hb:decB m=b):((decB n).toList==b.toList)=decide (n=m):=by
 rw [← hb,Go.ByteArray.toList_eq,Go.ByteArray.toList_eq,dA,dA,Bool.eq_iff_iff]
 simp only [beq_iff_eq,decide_eq_true_eq]
 constructor
 ·intro h
  have:=(cF n).1
  rw [h,(cF m).1] at this
  exact this.symm
 ·rintro rfl
  rfl
theorem dec0:decB 0=⟨#[48]⟩:=by unfold decB;rw [cT (by omega)];rfl
theorem dec1:decB 1=⟨#[49]⟩:=by unfold decB;rw [cT (by omega)];rfl
structure Wr (q:Rat):Prop where
 n:(decB q.num.natAbs).size≤600
 d:(decB q.den).size≤600
theorem gT {n k:Nat} (h:(decB n).size≤19*2^k):Lv k n:=by
 have e:aC (decB n)=Lib.decDigits n:=dA n
 have hd:=cF n
 refine lv_pow k (decB n).size h ?_
 have:=fW hd.2.1
 rw [hd.1] at this
 have hl:(decB n).size=(Lib.decDigits n).length:=by rw [← aE,e]
 rw [hl]
 exact this
theorem Wr.lf {q:Rat} (h:Wr q):Lf 5 q:=⟨gT (by have:=h.n;omega),gT (by have:=h.d;omega)⟩
theorem body_size {q:Rat} (h:Wr q):(bB q).size<4294967281:=by
 have h1:=h.n
 have h2:=h.d
 have:(⟨#[47]⟩:ByteArray).size=1:=rfl
 unfold bB
 split <;> simp <;> omega
theorem yU {q:Rat} (h:Wr q):jX 67 [tx (writeB q)] (.tup [.ag [nb q],.sc (.lit (.int .i64 0))]):=by
 have g1:decide ((600:Int)<((decB q.num.natAbs).size:Int))=false:=by have:=h.n;simp;omega
 have g2:decide ((600:Int)<((decB q.den).size:Int))=false:=by have:=h.d;simp;omega
 have g3:decide ((600:Int)<(((⟨#[49]⟩:ByteArray).size:Nat):Int))=false:=by decide
 have hsz:=body_size h
 have s1:=h.n
 have s2:=h.d
 by_cases hn:q.num<0
 ·have hneg:decide (q.num<0)=true:=by simpa using hn
  have hz:((decB q.num.natAbs).toList==(⟨#[48]⟩:ByteArray).toList)=false:=by rw [kI dec0,decide_eq_false_iff_not];omega
  by_cases hd:q.den=1
  ·skip
   refine jY Tryz.func67 fun w00 hI=>?_
   refine jC 54 [tx (writeB q),lt ⟨#[45]⟩] (nG hneg) ?_
   refine jW hI 153 [tx (bB q),lt ⟨#[47]⟩] (sT (a:=decB q.num.natAbs) (b:=⟨#[]⟩) (r:=false) hsz (cut_whole hd)) ?_
   refine jC 154 [tx (decB q.num.natAbs)] (lZ _) ?_
   refine jQ 31 (decB q.num.natAbs) ⟨#[48]⟩ false hz ?_
   refine jO 53 (decB q.num.natAbs) ?_
   refine jM 54 (decB q.num.natAbs).size 600 false g1 ?_
   refine klenL 57 ⟨#[49]⟩ (by kernel_rfl) ?_
   refine jM 58 ((⟨#[49]⟩:ByteArray).size:Nat) 600 false g3 ?_
   refine jC 57 [tx (decB q.num.natAbs)] (bV (by omega)) ?_
   refine jC 57 [lt ⟨#[49]⟩] (vZ) ?_
   refine jC 58 [frv true q.num.natAbs 1] ((by rw [← hd];exact sU hneg)) ?_
   exact jR Tryz.func67
  ·skip
   have y0:((decB q.den).toList==(⟨#[48]⟩:ByteArray).toList)=false:=by rw [kI dec0,decide_eq_false_iff_not];have:=q.den_pos;omega
   have y1:((decB q.den).toList==(⟨#[49]⟩:ByteArray).toList)=false:=by rw [kI dec1];simpa using hd
   refine jY Tryz.func67 fun w00 hI=>?_
   refine jC 54 [tx (writeB q),lt ⟨#[45]⟩] (nG hneg) ?_
   refine jW hI 153 [tx (bB q),lt ⟨#[47]⟩] (sT (a:=decB q.num.natAbs) (b:=decB q.den) (r:=true) hsz (cut_parts hd)) ?_
   refine jC 154 [tx (decB q.num.natAbs)] (lZ _) ?_
   refine jQ 31 (decB q.num.natAbs) ⟨#[48]⟩ false hz ?_
   refine jC 154 [tx (decB q.den)] (lZ _) ?_
   refine jQ 43 (decB q.den) ⟨#[48]⟩ false y0 ?_
   refine jQ 47 (decB q.den) ⟨#[49]⟩ false y1 ?_
   refine jO 53 (decB q.num.natAbs) ?_
   refine jM 54 (decB q.num.natAbs).size 600 false g1 ?_
   refine jO 57 (decB q.den) ?_
   refine jM 58 (decB q.den).size 600 false g2 ?_
   refine jC 57 [tx (decB q.num.natAbs)] (bV (by omega)) ?_
   refine jC 57 [tx (decB q.den)] (bV (by omega)) ?_
   refine jC 142 [nt q.num.natAbs,nt q.den] (yP (h.lf.1.mono (by decide)) (h.lf.2.mono (by decide)) (.inr q.den_pos)) ?_
   refine jC 141 [nt (Nat.gcd q.num.natAbs q.den)] (isOneF (b:=true) (by rw [decide_eq_true_eq];exact q.reduced)) ?_
   refine jC 58 [frv true q.num.natAbs q.den] (sU hneg) ?_
   exact jR Tryz.func67
 ·have hneg:decide (q.num<0)=false:=by simpa using hn
  by_cases hd:q.den=1
  ·skip
   refine jY Tryz.func67 fun w00 hI=>?_
   refine jC 54 [tx (writeB q),lt ⟨#[45]⟩] (nG hneg) ?_
   refine jW hI 153 [tx (bB q),lt ⟨#[47]⟩] (sT (a:=decB q.num.natAbs) (b:=⟨#[]⟩) (r:=false) hsz (cut_whole hd)) ?_
   refine jC 154 [tx (decB q.num.natAbs)] (lZ _) ?_
   refine jO 53 (decB q.num.natAbs) ?_
   refine jM 54 (decB q.num.natAbs).size 600 false g1 ?_
   refine klenL 57 ⟨#[49]⟩ (by kernel_rfl) ?_
   refine jM 58 ((⟨#[49]⟩:ByteArray).size:Nat) 600 false g3 ?_
   refine jC 57 [tx (decB q.num.natAbs)] (bV (by omega)) ?_
   refine jC 57 [lt ⟨#[49]⟩] (vZ) ?_
   refine jC 58 [frv false q.num.natAbs 1] ((by rw [← hd];exact sU hneg)) ?_
   exact jR Tryz.func67
  ·skip
   have y0:((decB q.den).toList==(⟨#[48]⟩:ByteArray).toList)=false:=by rw [kI dec0,decide_eq_false_iff_not];have:=q.den_pos;omega
   have y1:((decB q.den).toList==(⟨#[49]⟩:ByteArray).toList)=false:=by rw [kI dec1];simpa using hd
   refine jY Tryz.func67 fun w00 hI=>?_
   refine jC 54 [tx (writeB q),lt ⟨#[45]⟩] (nG hneg) ?_
   refine jW hI 153 [tx (bB q),lt ⟨#[47]⟩] (sT (a:=decB q.num.natAbs) (b:=decB q.den) (r:=true) hsz (cut_parts hd)) ?_
   refine jC 154 [tx (decB q.num.natAbs)] (lZ _) ?_
   refine jC 154 [tx (decB q.den)] (lZ _) ?_
   refine jQ 43 (decB q.den) ⟨#[48]⟩ false y0 ?_
   refine jQ 47 (decB q.den) ⟨#[49]⟩ false y1 ?_
   refine jO 53 (decB q.num.natAbs) ?_
   refine jM 54 (decB q.num.natAbs).size 600 false g1 ?_
   refine jO 57 (decB q.den) ?_
   refine jM 58 (decB q.den).size 600 false g2 ?_
   refine jC 57 [tx (decB q.num.natAbs)] (bV (by omega)) ?_
   refine jC 57 [tx (decB q.den)] (bV (by omega)) ?_
   refine jC 142 [nt q.num.natAbs,nt q.den] (yP (h.lf.1.mono (by decide)) (h.lf.2.mono (by decide)) (.inr q.den_pos)) ?_
   refine jC 141 [nt (Nat.gcd q.num.natAbs q.den)] (isOneF (b:=true) (by rw [decide_eq_true_eq];exact q.reduced)) ?_
   refine jC 58 [frv false q.num.natAbs q.den] (sU hneg) ?_
   exact jR Tryz.func67
abbrev z0:Seg Kn := .lit (.int .i64 0)
theorem iC {T:TypeId}:jF 68 [.fv (.nsl 2 T [z0,z0])] (it 0):=by
 refine lA Tryz.func68 (by kernel_rfl) fun w00=>?_
 exact jR Tryz.func68
theorem first3F {T:TypeId}:jF 68 [.fv (.nsl 3 T [z0,z0,z0])] (it 0):=by
 refine lA Tryz.func68 (by kernel_rfl) fun w00=>?_
 exact jR Tryz.func68
theorem first4F {T:TypeId}:jF 68 [.fv (.nsl 4 T [z0,z0,z0,z0])] (it 0):=by
 refine lA Tryz.func68 (by kernel_rfl) fun w00=>?_
 exact jR Tryz.func68
abbrev vS (a b c:Rat):AV Kn := .fv (.ag [cH (writeB a),cH (writeB b),cH (writeB c)])
abbrev okV (a b c:Rat):AV Kn := .tup [.ag [nb a,nb b,nb c],.sc z0]
abbrev pT (a b c:Rat):Prop:=Wr a∧Wr b∧Wr c
theorem gH {a b c:Rat} (h:pT a b c):jX 61 [vS a b c] (okV a b c):=by
 refine jY Tryz.func61 fun w00 hI=>?_
 refine jW hI 67 [tx (writeB a)] (yU h.1) ?_
 refine jW hI 67 [tx (writeB b)] (yU h.2.1) ?_
 refine jW hI 67 [tx (writeB c)] (yU h.2.2) ?_
 refine kcallS 68 3 3 192 [z0,z0,z0] (first3F) (by kernel_rfl) Tryz.call68 ?_
 exact jR Tryz.func61
theorem uN {a b c:Rat} (h:pT a b c) (ha:Lf 20 a) (hb:Lf 20 b) (hc:Lf 20 c):jX 75 [vc a b c] (.tup [.ag [cH (writeB a),cH (writeB b),cH (writeB c)],.sc z0]):=by
 refine jY Tryz.func75 fun w00 hI=>?_
 refine jW hI 59 [num a] (rD ha h.1.n h.1.d) ?_
 refine jW hI 59 [num b] (rD hb h.2.1.n h.2.1.d) ?_
 refine jW hI 59 [num c] (rD hc h.2.2.n h.2.2.d) ?_
 exact jR Tryz.func75
section
variable {a b c x y z u v d e:Rat}
theorem readRV (h:Wr a) (k:pT x y z):jX 78 [gL 67,tx (writeB a),gL 61,vS x y z] (.tup [.ag [nb a],.ag [nb x,nb y,nb z],.sc z0]):=by
 refine jY Tryz.func78 fun w00 hI=>?_
 refine jW hI 67 [tx (writeB a)] (yU h) ?_
 refine jW hI 61 [vS x y z] (gH k) ?_
 refine jC 68 [.fv (.nsl 2 32 [z0,z0])] (iC) ?_
 exact jR Tryz.func78
theorem readVV (h:pT a b c) (k:pT x y z):jX 60 [gL 61,vS a b c,gL 61,vS x y z] (.tup [.ag [nb a,nb b,nb c],.ag [nb x,nb y,nb z],.sc z0]):=by
 refine jY Tryz.func60 fun w00 hI=>?_
 refine jW hI 61 [vS a b c] (gH h) ?_
 refine jW hI 61 [vS x y z] (gH k) ?_
 refine jC 68 [.fv (.nsl 2 32 [z0,z0])] (iC) ?_
 exact jR Tryz.func60
theorem readVR (h:pT a b c) (k:Wr d):jX 66 [gL 61,vS a b c,gL 67,tx (writeB d)] (.tup [.ag [nb a,nb b,nb c],.ag [nb d],.sc z0]):=by
 refine jY Tryz.func66 fun w00 hI=>?_
 refine jW hI 61 [vS a b c] (gH h) ?_
 refine jW hI 67 [tx (writeB d)] (yU k) ?_
 refine jC 68 [.fv (.nsl 2 32 [z0,z0])] (iC) ?_
 exact jR Tryz.func66
abbrev wB (q:Rat):AV Kn := .tup [.sc (cH (writeB q)),.sc z0]
abbrev gI (a b c:Rat):AV Kn := .tup [.ag [cH (writeB a),cH (writeB b),cH (writeB c)],.sc z0]
theorem apiAlongF (h:pT a b c) (k:pT x y z) (h0:(decide (a=0)&&decide (b=0)&&decide (c=0))=false) (hc:(decide (b*z-c*y=0)&&decide (c*x-a*z=0)&&decide (a*y-b*x=0))=true)
 (hs:dt a b c a b c≠0) (hr:Wr (dt x y z a b c/dt a b c a b c)):jX 15 [vS a b c,vS x y z] (wB (dt x y z a b c/dt a b c a b c)):=by
 have l1:=h.1.lf
 have l2:=h.2.1.lf
 have l3:=h.2.2.lf
 have m1:=k.1.lf
 have m2:=k.2.1.lf
 have m3:=k.2.2.lf
 refine jY Tryz.func15 fun w00 hI=>?_
 refine jW hI 60 [gL 61,vS a b c,gL 61,vS x y z] (readVV h k) ?_
 refine jC 62 [vc a b c] (eU h0) ?_
 refine jC 63 [vc a b c,vc x y z] (yO (l1.mono (by decide)) (l2.mono (by decide)) (l3.mono (by decide)) (m1.mono (by decide)) (m2.mono (by decide)) (m3.mono (by decide))) ?_
 refine jC 62 [vc (b*z-c*y) (c*x-a*z) (a*y-b*x)] (eU hc) ?_
 refine jC 36 [vc x y z,vc a b c] (nE (m1.mono (by decide)) (m2.mono (by decide)) (m3.mono (by decide)) (l1.mono (by decide)) (l2.mono (by decide)) (l3.mono (by decide))) ?_
 refine jC 64 [vc a b c] (pR (l1.mono (by decide)) (l2.mono (by decide)) (l3.mono (by decide))) ?_
 refine jC 33 [num (dt x y z a b c),num (dt a b c a b c)] (qP (qQ (n:=38) (m1.mono (by decide)) (m2.mono (by decide)) (m3.mono (by decide)) (l1.mono (by decide)) (l2.mono (by decide)) (l3.mono (by decide)) (by decide)) (qQ (n:=38) (l1.mono (by decide)) (l2.mono (by decide)) (l3.mono (by decide)) (l1.mono (by decide)) (l2.mono (by decide)) (l3.mono (by decide)) (by decide)) hs) ?_
 refine jW hI 59 [num (dt x y z a b c/dt a b c a b c)] (rD (hr.lf.mono (by decide)) hr.n hr.d) ?_
 exact jR Tryz.func15
end
def wn (q:Rat) (n:Nat):Nat:=if q=0 then n else Nat.gcd q.num.natAbs n
def wd (q:Rat) (d:Nat):Nat:=if q=0 then d else d*(q.den/Nat.gcd q.den d)
def bG (a b c:Rat):Rat:=mkRat (sg false (wd c (wd b (wd a 1)))) (wn c (wn b (wn a 0)))
theorem nI {q:Rat} {n:Nat} (h:q≠0):0<wn q n:=by
 unfold wn
 rw [if_neg h]
 have:0<q.num.natAbs:=by
  have:q.num≠0:=fun e=>h (Rat.num_eq_zero.1 e)
  omega
 exact Nat.gcd_pos_of_pos_left _ this
theorem jI {q:Rat} {n:Nat} (h:0<n):0<wn q n:=by
 unfold wn
 split
 ·exact h
 ·exact Nat.gcd_pos_of_pos_right _ h
theorem wd_pos {q:Rat} {d:Nat} (h:0<d):0<wd q d:=by
 unfold wd
 split
 ·exact h
 ·have h1:=q.den_pos
  have:=Nat.div_pos (Nat.le_of_dvd h1 (Nat.gcd_dvd_left q.den d)) (Nat.gcd_pos_of_pos_left d h1)
  exact Nat.mul_pos h this
theorem lv_wn {q:Rat} {n k:Nat} (hq:Lf k q) (hn:Lv k n):Lv k (wn q n):=by
 unfold wn
 split
 ·exact hn
 ·rename_i h
  have:q.num≠0:=fun e=>h (Rat.num_eq_zero.1 e)
  exact hq.1.le (Nat.gcd_le_left _ (by omega))
theorem lv_wd {q:Rat} {d k:Nat} (hq:Lf k q) (hd:Lv k d):Lv (k+1) (wd q d):=by
 unfold wd
 split
 ·exact hd.mono (by omega)
 ·exact hd.mul (hq.2.le (Nat.div_le_self _ _))
theorem nil_nt {β:List Nat} {v:Value} {w:World} (h:(AV.fv (.sc (.lit (.slice none 0 0))):AV Kn).holds β v w):(nt 0).holds β v w:=by
 rw [aM h]
 exact dK.2 (Nt.zero w)
theorem num_ne {q:Rat} (h:¬ q=0):0<q.num.natAbs:=by
 have:q.num≠0:=fun e=>h (Rat.num_eq_zero.1 e)
 omega
section
variable {q a b c:Rat} {n n' d d' : Nat}
theorem gcdW (hq:¬ q=0) (lq:Lf 30 q) (ln:Lv 30 n) (hn:wn q n=n'):jF 142 [nt q.num.natAbs,nt n] (nt n'):=by
 subst hn
 unfold wn
 rw [if_neg hq]
 exact yP (lq.1.mono (by omega)) (ln.mono (by omega)) (.inl (num_ne hq))
theorem gcdW0 (hq:¬ q=0) (lq:Lf 30 q) (hn:wn q 0=n'):jF 142 [nt q.num.natAbs,.fv (.sc (.lit (.slice none 0 0)))] (nt n') :=
 Fits.args (gcdW hq lq (Lv.one _ (by rw [aL];omega)) hn) (fun β vs w ⟨v,r,e,k1,⟨v2,r2,e2,k2,k3⟩⟩=>⟨v,r,e,k1,v2,r2,e2,nil_nt k2,k3⟩)
theorem rE (hq:¬ q=0) (lq:Lf 32 q) (ld:Lv 32 d) (hd:wd q d=d'):jF 145 [nt d,nt (q.den/Nat.gcd q.den d)] (nt d'):=by
 subst hd
 unfold wd
 rw [if_neg hq]
 exact ntimesF (ld.mono (by omega)) ((lq.2.mono (by omega)).le (Nat.div_le_self _ _))
set_option maxRecDepth 100000 in
theorem wholeF (la:Lf 30 a) (lb:Lf 30 b) (lc:Lf 30 c) (h:¬ (a=0∧b=0∧c=0)):jF 168 [vc a b c] (num (bG a b c)):=by
 obtain ⟨d0,e0⟩:∃ d,d=1:=⟨_,rfl⟩
 obtain ⟨n1,f1⟩:∃ n,wn a 0=n:=⟨_,rfl⟩
 obtain ⟨d1,e1⟩:∃ d,wd a d0=d:=⟨_,rfl⟩
 obtain ⟨n2,f2⟩:∃ n,wn b n1=n:=⟨_,rfl⟩
 obtain ⟨d2,e2⟩:∃ d,wd b d1=d:=⟨_,rfl⟩
 obtain ⟨n3,f3⟩:∃ n,wn c n2=n:=⟨_,rfl⟩
 obtain ⟨d3,e3⟩:∃ d,wd c d2=d:=⟨_,rfl⟩
 have hw:bG a b c=mkRat (sg false d3) n3:=by
  subst e0 e1 e2 e3 f1 f2 f3
  rfl
 have hN:0<n3:=by
  rw [← f3,← f2,← f1]
  by_cases hc:c=0
  ·by_cases hb:b=0
   ·exact jI (jI (nI fun ha=>h ⟨ha,hb,hc⟩))
   ·exact jI (nI hb)
  ·exact nI hc
 have ln1:Lv 30 n1:=f1▸lv_wn la (Lv.one _ (by rw [aL];omega))
 have ln2:Lv 30 n2:=f2▸lv_wn lb ln1
 have ln3:Lv 30 n3:=f3▸lv_wn lc ln2
 have ld0:Lv 30 d0:=e0▸Lv.one _ (by rw [aL];omega)
 have ld1:Lv 31 d1:=e1▸lv_wd la ld0
 have ld2:Lv 32 d2:=e2▸lv_wd (lb.mono (by decide)) ld1
 have ld3:Lv 33 d3:=e3▸lv_wd (lc.mono (by decide)) ld2
 have kN:jF 146 [.fv (.sc (.lit (.int .u64 ((1:Nat):Int))))] (nt d0):=e0▸naturalOfF (by rw [aL];omega)
 have zt:∀ {x:Rat},x=0→jF 79 [num x] (bl true):=fun h=>gF (by simpa using h)
 have zf:∀ {x:Rat},¬ x=0→jF 79 [num x] (bl false):=fun h=>gF (by simpa using h)
 rw [hw]
 clear hw e0
 refine jG Tryz.func168 fun w00=>?_
 refine jC 146 [.fv (.sc (.lit (.int .u64 ((1:Nat):Int))))] (kN) ?_
 clear kN
 by_cases ha:a=0
 ·refine jC 79 [num a] (zt ha) ?_
  obtain rfl:n1=0:=by rw [← f1,wn,if_pos ha]
  obtain rfl:d1=d0:=by rw [← e1,wd,if_pos ha]
  by_cases hb:b=0
  ·refine jC 79 [num b] (zt hb) ?_
   obtain rfl:n2=0:=by rw [← f2,wn,if_pos hb]
   obtain rfl:d2=d1:=by rw [← e2,wd,if_pos hb]
   by_cases hc:c=0
   ·exact absurd ⟨ha,hb,hc⟩ h
   ·refine jC 79 [num c] (zf hc) ?_
    refine jC 100 [num c] (eG) ?_
    refine jC 142 [nt c.num.natAbs,.fv (.sc (.lit (.slice none 0 0)))] (gcdW0 hc lc f3) ?_
    refine jC 142 [nt c.den,nt d2] (yP (lc.2.mono (by omega)) (ld2.mono (by omega)) (.inl c.den_pos)) ?_
    refine jC 143 [nt c.den,nt (Nat.gcd c.den d2)] (kG (lc.2.mono (by omega)) (Nat.gcd_pos_of_pos_left _ c.den_pos)) ?_
    refine jC 145 [nt d2,nt (c.den/Nat.gcd c.den d2)] (rE hc (lc.mono (by decide)) (ld2.mono (by omega)) e3) ?_
    refine jC 56 [bl false,nt d3,nt n3] (oR (ld3.mono (by omega)) (ln3.mono (by omega)) hN) ?_
    refine jC 58 [fra (mkRat (sg false d3) n3)] (jH) ?_
    exact jR Tryz.func168
  ·refine jC 79 [num b] (zf hb) ?_
   refine jC 100 [num b] (eG) ?_
   refine jC 142 [nt b.num.natAbs,.fv (.sc (.lit (.slice none 0 0)))] (gcdW0 hb lb f2) ?_
   refine jC 142 [nt b.den,nt d1] (yP (lb.2.mono (by omega)) (ld1.mono (by omega)) (.inl b.den_pos)) ?_
   refine jC 143 [nt b.den,nt (Nat.gcd b.den d1)] (kG (lb.2.mono (by omega)) (Nat.gcd_pos_of_pos_left _ b.den_pos)) ?_
   refine jC 145 [nt d1,nt (b.den/Nat.gcd b.den d1)] (rE hb (lb.mono (by decide)) (ld1.mono (by omega)) e2) ?_
   by_cases hc:c=0
   ·refine jC 79 [num c] (zt hc) ?_
    obtain rfl:n3=n2:=by rw [← f3,wn,if_pos hc]
    obtain rfl:d3=d2:=by rw [← e3,wd,if_pos hc]
    refine jC 56 [bl false,nt d3,nt n3] (oR (ld3.mono (by omega)) (ln3.mono (by omega)) hN) ?_
    refine jC 58 [fra (mkRat (sg false d3) n3)] (jH) ?_
    exact jR Tryz.func168
   ·refine jC 79 [num c] (zf hc) ?_
    refine jC 100 [num c] (eG) ?_
    refine jC 142 [nt c.num.natAbs,nt n2] (gcdW hc lc ln2 f3) ?_
    refine jC 142 [nt c.den,nt d2] (yP (lc.2.mono (by omega)) (ld2.mono (by omega)) (.inl c.den_pos)) ?_
    refine jC 143 [nt c.den,nt (Nat.gcd c.den d2)] (kG (lc.2.mono (by omega)) (Nat.gcd_pos_of_pos_left _ c.den_pos)) ?_
    refine jC 145 [nt d2,nt (c.den/Nat.gcd c.den d2)] (rE hc (lc.mono (by decide)) (ld2.mono (by omega)) e3) ?_
    refine jC 56 [bl false,nt d3,nt n3] (oR (ld3.mono (by omega)) (ln3.mono (by omega)) hN) ?_
    refine jC 58 [fra (mkRat (sg false d3) n3)] (jH) ?_
    exact jR Tryz.func168
 ·refine jC 79 [num a] (zf ha) ?_
  refine jC 100 [num a] (eG) ?_
  refine jC 142 [nt a.num.natAbs,.fv (.sc (.lit (.slice none 0 0)))] (gcdW0 ha la f1) ?_
  refine jC 142 [nt a.den,nt d0] (yP (la.2.mono (by omega)) (ld0.mono (by omega)) (.inl a.den_pos)) ?_
  refine jC 143 [nt a.den,nt (Nat.gcd a.den d0)] (kG (la.2.mono (by omega)) (Nat.gcd_pos_of_pos_left _ a.den_pos)) ?_
  refine jC 145 [nt d0,nt (a.den/Nat.gcd a.den d0)] (rE ha (la.mono (by decide)) (ld0.mono (by omega)) e1) ?_
  by_cases hb:b=0
  ·refine jC 79 [num b] (zt hb) ?_
   obtain rfl:n2=n1:=by rw [← f2,wn,if_pos hb]
   obtain rfl:d2=d1:=by rw [← e2,wd,if_pos hb]
   by_cases hc:c=0
   ·refine jC 79 [num c] (zt hc) ?_
    obtain rfl:n3=n2:=by rw [← f3,wn,if_pos hc]
    obtain rfl:d3=d2:=by rw [← e3,wd,if_pos hc]
    refine jC 56 [bl false,nt d3,nt n3] (oR (ld3.mono (by omega)) (ln3.mono (by omega)) hN) ?_
    refine jC 58 [fra (mkRat (sg false d3) n3)] (jH) ?_
    exact jR Tryz.func168
   ·refine jC 79 [num c] (zf hc) ?_
    refine jC 100 [num c] (eG) ?_
    refine jC 142 [nt c.num.natAbs,nt n2] (gcdW hc lc ln2 f3) ?_
    refine jC 142 [nt c.den,nt d2] (yP (lc.2.mono (by omega)) (ld2.mono (by omega)) (.inl c.den_pos)) ?_
    refine jC 143 [nt c.den,nt (Nat.gcd c.den d2)] (kG (lc.2.mono (by omega)) (Nat.gcd_pos_of_pos_left _ c.den_pos)) ?_
    refine jC 145 [nt d2,nt (c.den/Nat.gcd c.den d2)] (rE hc (lc.mono (by decide)) (ld2.mono (by omega)) e3) ?_
    refine jC 56 [bl false,nt d3,nt n3] (oR (ld3.mono (by omega)) (ln3.mono (by omega)) hN) ?_
    refine jC 58 [fra (mkRat (sg false d3) n3)] (jH) ?_
    exact jR Tryz.func168
  ·refine jC 79 [num b] (zf hb) ?_
   refine jC 100 [num b] (eG) ?_
   refine jC 142 [nt b.num.natAbs,nt n1] (gcdW hb lb ln1 f2) ?_
   refine jC 142 [nt b.den,nt d1] (yP (lb.2.mono (by omega)) (ld1.mono (by omega)) (.inl b.den_pos)) ?_
   refine jC 143 [nt b.den,nt (Nat.gcd b.den d1)] (kG (lb.2.mono (by omega)) (Nat.gcd_pos_of_pos_left _ b.den_pos)) ?_
   refine jC 145 [nt d1,nt (b.den/Nat.gcd b.den d1)] (rE hb (lb.mono (by decide)) (ld1.mono (by omega)) e2) ?_
   by_cases hc:c=0
   ·refine jC 79 [num c] (zt hc) ?_
    obtain rfl:n3=n2:=by rw [← f3,wn,if_pos hc]
    obtain rfl:d3=d2:=by rw [← e3,wd,if_pos hc]
    refine jC 56 [bl false,nt d3,nt n3] (oR (ld3.mono (by omega)) (ln3.mono (by omega)) hN) ?_
    refine jC 58 [fra (mkRat (sg false d3) n3)] (jH) ?_
    exact jR Tryz.func168
   ·refine jC 79 [num c] (zf hc) ?_
    refine jC 100 [num c] (eG) ?_
    refine jC 142 [nt c.num.natAbs,nt n2] (gcdW hc lc ln2 f3) ?_
    refine jC 142 [nt c.den,nt d2] (yP (lc.2.mono (by omega)) (ld2.mono (by omega)) (.inl c.den_pos)) ?_
    refine jC 143 [nt c.den,nt (Nat.gcd c.den d2)] (kG (lc.2.mono (by omega)) (Nat.gcd_pos_of_pos_left _ c.den_pos)) ?_
    refine jC 145 [nt d2,nt (c.den/Nat.gcd c.den d2)] (rE hc (lc.mono (by decide)) (ld2.mono (by omega)) e3) ?_
    refine jC 56 [bl false,nt d3,nt n3] (oR (ld3.mono (by omega)) (ln3.mono (by omega)) hN) ?_
    refine jC 58 [fra (mkRat (sg false d3) n3)] (jH) ?_
    exact jR Tryz.func168
end
section
variable {n1 n2 n3 d k:Rat} {z1 z2 z3:Int}
theorem mkRat_le (n:Int) {d:Nat} (hd:0<d):(mkRat n d).num.natAbs≤n.natAbs∧(mkRat n d).den≤d:=by
 rw [Rat.num_mkRat,Rat.den_mkRat,if_neg (by omega),if_neg (by omega)]
 exact ⟨Int.natAbs_ediv_le_natAbs _ _,Nat.div_le_self _ _⟩
theorem lf_whole {a b c:Rat} (la:Lf 30 a) (lb:Lf 30 b) (lc:Lf 30 c) (h:¬ (a=0∧b=0∧c=0)):Lf 33 (bG a b c):=by
 have hN:0<wn c (wn b (wn a 0)):=by
  by_cases ha:a=0
  ·by_cases hb:b=0
   ·exact nI (fun hc=>h ⟨ha,hb,hc⟩)
   ·exact jI (nI hb)
  ·exact jI (jI (nI ha))
 have l1:Lv 33 (wd c (wd b (wd a 1))):=lv_wd (lc.mono (by decide)) (lv_wd (lb.mono (by decide)) (lv_wd (k:=30) la (Lv.one _ (by rw [aL];omega))))
 have l2:Lv 33 (wn c (wn b (wn a 0))):=(lv_wn lc (lv_wn lb (lv_wn la (n:=0) (Lv.one _ (by rw [aL];omega))))).mono (by omega)
 have hm:=mkRat_le (sg false (wd c (wd b (wd a 1)))) hN
 have e:(sg false (wd c (wd b (wd a 1)))).natAbs=wd c (wd b (wd a 1)):=by simp [sg]
 rw [e] at hm
 exact ⟨l1.le hm.1,l2.le hm.2⟩
theorem yV (l1:Lf 30 n1) (l2:Lf 30 n2) (l3:Lf 30 n3) (ld:Lf 38 d) (h:¬ (n1=0∧n2=0∧n3=0)) :
 jF 103 [hf n1 n2 n3 d] (hf (bG n1 n2 n3*n1) (bG n1 n2 n3*n2) (bG n1 n2 n3*n3) (d*bG n1 n2 n3)):=by
 have lk:=(lf_whole l1 l2 l3 h).mono (l:=38) (by decide)
 refine jG Tryz.func103 fun w00=>?_
 refine jC 168 [vc n1 n2 n3] (wholeF l1 l2 l3 h) ?_
 refine jC 73 [vc n1 n2 n3,num (bG n1 n2 n3)] (gG lk (l1.mono (by decide)) (l2.mono (by decide)) (l3.mono (by decide))) ?_
 refine jC 94 [num d,num (bG n1 n2 n3)] (fG ld lk) ?_
 exact jR Tryz.func103
abbrev hfI (z1 z2 z3:Int) (d:Rat):AV Kn := .fv (.ag [.lit (.int .i64 z1),z0,.lit (.pointer none),.lit (.int .i64 z2),z0,.lit (.pointer none),.lit (.int .i64 z3),z0,.lit (.pointer none),nb d])
abbrev Sz (z:Int):Prop := -999999999≤z∧z≤999999999
theorem nb_int {z:Int} (hz:Sz z) {cs:List Value} {w:World} (h:(csNb (z:Rat)).pred cs w):cs = [.int .i64 z,.int .i64 0,.pointer none]:=by
 have hm:Sm (z:Rat):=by
  constructor
  ·rw [Rat.num_intCast,dO];omega
  ·rw [Rat.den_intCast,dO];omega
 rcases h with ⟨_,e⟩|⟨h2,_⟩
 ·injection e with e
  have:=congrArg Array.toList e
  simpa using this
 ·exact absurd hm h2
theorem hf_int {β:List Nat} {v:Value} {w:World} {q1 q2 q3:Rat} (e1:q1=z1) (e2:q2=z2) (e3:q3=z3) (h1:Sz z1) (h2:Sz z2) (h3:Sz z3) (h:(hf q1 q2 q3 d).holds β v w):(hfI z1 z2 z3 d).holds β v w:=by
 subst e1
 subst e2
 subst e3
 obtain ⟨cs,rfl,x1,r1,rfl,k1,x2,r2,rfl,k2,x3,r3,rfl,k3,hr⟩:=h
 rw [nb_int h1 k1,nb_int h2 k2,nb_int h3 k3]
 exact ⟨_,rfl,[_],_,rfl,⟨rfl,rfl⟩,[_],_,rfl,⟨rfl,rfl⟩,[_],_,rfl,⟨rfl,rfl⟩,[_],_,rfl,⟨rfl,rfl⟩,[_],_,rfl,⟨rfl,rfl⟩,[_],_,rfl,⟨rfl,rfl⟩,[_],_,rfl,⟨rfl,rfl⟩,[_],_,rfl,⟨rfl,rfl⟩,[_],_,rfl,⟨rfl,rfl⟩,hr⟩
theorem Fits.res {P:Program} {f:FuncId} {l:List (AV Kn)} {x y:AV Kn} (h:Fits P f l x) (hx:∀ β v w,x.holds β v w→y.holds β v w):Fits P f l y:=fun β w vs hv =>
 (h β w vs hv).mono fun e w' ⟨v,e1,e2,e3⟩=>⟨v,e1,e2,hx β v w' e3⟩
theorem rF {z:Int} (hz:Sz z):jF 104 [it z] (.fv (.sc (isU (z.natAbs:Int)))):=by
 intro β w vs hv
 obtain ⟨v,rfl,h1⟩:=dC hv
 rw [aM h1]
 exact (dV z w (by have:=hz.1;omega) (by have:=hz.2;omega)).mono fun e w' ⟨e1,e2⟩=>⟨_,e1,by rw [← e2];exact aB _ _,bE⟩
theorem gtU_run {o:Oper} {ρ:Operand→Value} {w:World} {x y:Operand} {a b:Int} {r:Bool} {T T' : TypeId} (ho:o.op = .binOp .gtr T x y T') (hx:ρ x = .int .u64 a) (hy:ρ y = .int .u64 b) (h:decide (b<a)=r) :
 (execOp ρ o).run Tryz.prog w = .ok (.value (.bool r)) w:=by
 simp only [execOp,ho,hx,hy]
 refine bJ ?_
 rw [← h]
 exact bL (by kernel_rfl) w
section
variable {f:FuncId} {w00:World} {Out:Value→World→Prop}
theorem kgtU {c:Cfg Kn} (t:Tmp) (a b:Int) (r:Bool) (h:decide (b<a)=r) (hc:(c.op.map fun o=>o.op,c.okT (bl r),c.ev (.tmp t),c.ev (.const (.int .u64 b)))=(some (.binOp .gtr 151 (.tmp t) (.const (.int .u64 b)) 151),true,.fv (.sc (isU a)),.fv (.sc (.lit (.int .u64 b)))))
 (hg:Ok Tryz.prog f w00 Out (cG Tryz.prog 1000 (c.give (bl r)))):Ok Tryz.prog f w00 Out c :=
 qA _ (.tmp t) (.const (.int .u64 b)) _ _ (bl r) hc (by simp [Op.operands]) (by simp [Op.operands]) (fun ρ o β w ho hx hy=>⟨_,gtU_run ho (aO hx) (aM hy) h,aX rfl⟩) hg
theorem jN{c:Cfg Kn} (t:Tmp) (a b:Int) (r:Bool) (h:decide (b<a)=r)(hg:Ok Tryz.prog f w00 Out (cG Tryz.prog 1000 (c.give (bl r))))(hc:(c.op.map fun o=>o.op,c.okT (bl r),c.ev (.tmp t),c.ev (.const (.int .u64 b)))=(some (.binOp .gtr 151 (.tmp t) (.const (.int .u64 b)) 151),true,.fv (.sc (isU a)),.fv (.sc (.lit (.int .u64 b)))):=by kernel_rfl):Ok Tryz.prog f w00 Out c :=kgtU t a b r h hc hg
end
abbrev hS (z1 z2 z3:Int) (d:Rat):AV Kn := .fv (.ag [.lit (.int .i64 z1),.lit (.int .i64 z2),.lit (.int .i64 z3),cH (writeB d)])
abbrev rX (z1 z2 z3:Int) (d:Rat):AV Kn := .tup [.ag [.lit (.int .i64 z1),.lit (.int .i64 z2),.lit (.int .i64 z3),cH (writeB d)],.sc z0]
structure Form (n1 n2 n3 d:Rat) (z1 z2 z3:Int) (e:Rat):Prop where
 l1:Lf 30 n1
 l2:Lf 30 n2
 l3:Lf 30 n3
 ld:Lf 38 d
 h0:¬ (n1=0∧n2=0∧n3=0)
 e1:bG n1 n2 n3*n1=z1
 e2:bG n1 n2 n3*n2=z2
 e3:bG n1 n2 n3*n3=z3
 ed:d*bG n1 n2 n3=e
 s1:Sz z1
 s2:Sz z2
 s3:Sz z3
 wr:Wr e
theorem wZ {e:Rat} (h:Form n1 n2 n3 d z1 z2 z3 e):jX 37 [hf n1 n2 n3 d] (rX z1 z2 z3 e):=by
 have g:∀ {z:Int},Sz z→decide ((999999999:Int)<(z.natAbs:Int))=false:=fun hz=>by have:=hz.1;have:=hz.2;rw [decide_eq_false_iff_not];omega
 have gr:jF 103 [hf n1 n2 n3 d] (hfI z1 z2 z3 e):=Fits.res (yV h.l1 h.l2 h.l3 h.ld h.h0) (fun β v w hv=>hf_int h.e1 h.e2 h.e3 h.s1 h.s2 h.s3 (by rw [h.ed] at hv;exact hv))
 refine jY Tryz.func37 fun w00 hI=>?_
 refine jC 103 [hf n1 n2 n3 d] (gr) ?_
 refine jW hI 59 [num e] (rD (h.wr.lf.mono (by decide)) h.wr.n h.wr.d) ?_
 refine jC 104 [it z1] (rF h.s1) ?_
 refine jN 34 z1.natAbs 999999999 false (g h.s1) ?_
 refine jC 104 [it z2] (rF h.s2) ?_
 refine jN 34 z2.natAbs 999999999 false (g h.s2) ?_
 refine jC 104 [it z3] (rF h.s3) ?_
 refine jN 34 z3.natAbs 999999999 false (g h.s3) ?_
 exact jR Tryz.func37
theorem readHalfF (h1:rC z1) (h2:rC z2) (h3:rC z3) (hd:Wr d) (hc:jF 93 [iv z1 z2 z3] (it 0)):jX 30 [hS z1 z2 z3 d] (.tup [.ag [nb z1,nb z2,nb z3,nb d],.sc z0]):=by
 refine jY Tryz.func30 fun w00 hI=>?_
 refine jW hI 67 [tx (writeB d)] (yU hd) ?_
 refine jC 82 [iv z1 z2 z3] (gS h1 h2 h3) ?_
 refine jC 93 [iv z1 z2 z3] (hc) ?_
 refine jC 68 [.fv (.nsl 2 32 [z0,z0])] (iC) ?_
 exact jR Tryz.func30
end
theorem dB {a b:Nat} (ha:a<aD) (hb:b<aD):Fits (Kc:=Kn) Tryz.prog 161 [.fv (.sc (.lit (.int .u64 (a:Int)))),.fv (.sc (.lit (.int .u64 (b:Int))))] (.fv (.sc (.lit (.int .u64 ((Nat.gcd a b:Nat):Int))))):=by
 intro β w vs hv
 obtain ⟨v,u,rfl,h1,h2⟩:=dJ hv
 rw [aM h1,aM h2]
 exact (jD a b w ha hb).mono fun e w' ⟨e1,e2⟩=>⟨_,e1,by first|exact e2|(rw [← e2];exact aB _ _),aX rfl⟩
theorem ck_111:jF 93 [iv (1) (1) (1)] (it 0):=by
 refine jG Tryz.func93 fun w00=>?_
 refine jC 161 [.fv (.sc (.lit (.int .u64 ((0:Nat):Int)))),.fv (.sc (.lit (.int .u64 ((1:Nat):Int))))] (dB (by rw [aL];omega) (by rw [aL];omega)) ?_
 refine jC 161 [.fv (.sc (.lit (.int .u64 ((1:Nat):Int)))),.fv (.sc (.lit (.int .u64 ((1:Nat):Int))))] (dB (by rw [aL];omega) (by rw [aL];omega)) ?_
 refine jC 161 [.fv (.sc (.lit (.int .u64 ((1:Nat):Int)))),.fv (.sc (.lit (.int .u64 ((1:Nat):Int))))] (dB (by rw [aL];omega) (by rw [aL];omega)) ?_
 exact jR Tryz.func93
theorem ck_100:jF 93 [iv (1) (0) (0)] (it 0):=by
 refine jG Tryz.func93 fun w00=>?_
 refine jC 161 [.fv (.sc (.lit (.int .u64 ((0:Nat):Int)))),.fv (.sc (.lit (.int .u64 ((1:Nat):Int))))] (dB (by rw [aL];omega) (by rw [aL];omega)) ?_
 refine jC 161 [.fv (.sc (.lit (.int .u64 ((1:Nat):Int)))),.fv (.sc (.lit (.int .u64 ((0:Nat):Int))))] (dB (by rw [aL];omega) (by rw [aL];omega)) ?_
 refine jC 161 [.fv (.sc (.lit (.int .u64 ((1:Nat):Int)))),.fv (.sc (.lit (.int .u64 ((0:Nat):Int))))] (dB (by rw [aL];omega) (by rw [aL];omega)) ?_
 exact jR Tryz.func93
theorem ck_302:jF 93 [iv (3) (0) (-2)] (it 0):=by
 refine jG Tryz.func93 fun w00=>?_
 refine jC 161 [.fv (.sc (.lit (.int .u64 ((0:Nat):Int)))),.fv (.sc (.lit (.int .u64 ((3:Nat):Int))))] (dB (by rw [aL];omega) (by rw [aL];omega)) ?_
 refine jC 161 [.fv (.sc (.lit (.int .u64 ((3:Nat):Int)))),.fv (.sc (.lit (.int .u64 ((0:Nat):Int))))] (dB (by rw [aL];omega) (by rw [aL];omega)) ?_
 refine jC 161 [.fv (.sc (.lit (.int .u64 ((3:Nat):Int)))),.fv (.sc (.lit (.int .u64 ((2:Nat):Int))))] (dB (by rw [aL];omega) (by rw [aL];omega)) ?_
 exact jR Tryz.func93
section
variable {z1 z2 z3:Int} {d p1 p2 p3 n1 n2 n3 e:Rat}
structure Hv (z1 z2 z3:Int) (d:Rat):Prop where
 s1:Sz z1
 s2:Sz z2
 s3:Sz z3
 d:Wr d
 ck:jF 93 [iv z1 z2 z3] (it 0)
theorem cC {z:Int} (h:Sz z) {k:Nat}:Lf k (z:Rat):=Lf.int (Lv.one _ (by have:=h.1;have:=h.2;rw [aL];omega))
theorem m_sz {z:Int} (h:Sz z):rC z:=⟨by have:=h.1;omega,by have:=h.2;omega⟩
theorem readHV (h:Hv z1 z2 z3 d) (k:pT p1 p2 p3):jX 70 [gL 30,hS z1 z2 z3 d,gL 61,vS p1 p2 p3] (.tup [.ag [nb z1,nb z2,nb z3,nb d],.ag [nb p1,nb p2,nb p3],.sc z0]):=by
 refine jY Tryz.func70 fun w00 hI=>?_
 refine jW hI 30 [hS z1 z2 z3 d] (readHalfF (m_sz h.s1) (m_sz h.s2) (m_sz h.s3) h.d h.ck) ?_
 refine jW hI 61 [vS p1 p2 p3] (gH k) ?_
 refine jC 68 [.fv (.nsl 2 32 [z0,z0])] (iC) ?_
 exact jR Tryz.func70
theorem apiSideF {s:Int} (h:Hv z1 z2 z3 d) (k:pT p1 p2 p3) (hs:nD (dt z1 z2 z3 p1 p2 p3-d)=s):jX 25 [hS z1 z2 z3 d,vS p1 p2 p3] (.tup [.sc (.lit (.int .i64 s)),.sc z0]):=by
 rw [← hs]
 refine jY Tryz.func25 fun w00 hI=>?_
 refine jW hI 70 [gL 30,hS z1 z2 z3 d,gL 61,vS p1 p2 p3] (readHV h k) ?_
 refine jC 39 [hf z1 z2 z3 d,vc p1 p2 p3] (wX (cC h.s1) (cC h.s2) (cC h.s3) (h.d.lf.mono (by decide)) (k.1.lf.mono (by decide)) (k.2.1.lf.mono (by decide)) (k.2.2.lf.mono (by decide))) ?_
 refine jC 88 [num (dt z1 z2 z3 p1 p2 p3-d)] (signF) ?_
 exact jR Tryz.func25
theorem apiMakeHalfF (k:pT n1 n2 n3) (hd:Wr d) (h:Form n1 n2 n3 d z1 z2 z3 e):jX 17 [vS n1 n2 n3,tx (writeB d)] (rX z1 z2 z3 e):=by
 have h0:(decide (n1=0)&&decide (n2=0)&&decide (n3=0))=false:=by
  rw [Bool.eq_false_iff]
  intro hh
  simp only [Bool.and_eq_true,decide_eq_true_eq] at hh
  exact h.h0 ⟨hh.1.1,hh.1.2,hh.2⟩
 refine jY Tryz.func17 fun w00 hI=>?_
 refine jW hI 66 [gL 61,vS n1 n2 n3,gL 67,tx (writeB d)] (readVR k hd) ?_
 refine jC 62 [vc n1 n2 n3] (eU h0) ?_
 refine jW hI 37 [hf n1 n2 n3 d] (wZ h) ?_
 exact jR Tryz.func17
variable {a1 a2 a3 b1 b2 b3 c1 c2 c3:Rat}
theorem apiThroughF (ka:pT a1 a2 a3) (kb:pT b1 b2 b3) (kc:pT c1 c2 c3) {m1 m2 m3:Rat}
 (e1:(b2-a2)*(c3-a3)-(b3-a3)*(c2-a2)=m1) (e2:(b3-a3)*(c1-a1)-(b1-a1)*(c3-a3)=m2) (e3:(b1-a1)*(c2-a2)-(b2-a2)*(c1-a1)=m3)
 (h:Form m1 m2 m3 (dt m1 m2 m3 a1 a2 a3) z1 z2 z3 e):jX 18 [vS a1 a2 a3,vS b1 b2 b3,vS c1 c2 c3] (rX z1 z2 z3 e):=by
 have h0:(decide (m1=0)&&decide (m2=0)&&decide (m3=0))=false:=by
  rw [Bool.eq_false_iff]
  intro hh
  simp only [Bool.and_eq_true,decide_eq_true_eq] at hh
  exact h.h0 ⟨hh.1.1,hh.1.2,hh.2⟩
 have s:∀ {x y:Rat},Wr x→Wr y→Lf 35 (x-y):=fun hx hy=>Lf.subn (hx.lf.mono (by decide)) (hy.lf.mono (by decide)) (by decide)
 have hcross:jF 63 [vc (b1-a1) (b2-a2) (b3-a3),vc (c1-a1) (c2-a2) (c3-a3)] (vc m1 m2 m3):=by
  have:=yO (s kb.1 ka.1) (s kb.2.1 ka.2.1) (s kb.2.2 ka.2.2) (s kc.1 ka.1) (s kc.2.1 ka.2.1) (s kc.2.2 ka.2.2)
  rw [e1,e2,e3] at this
  exact this
 refine jY Tryz.func18 fun w00 hI=>?_
 refine jW hI 60 [gL 61,vS a1 a2 a3,gL 61,vS b1 b2 b3] (readVV ka kb) ?_
 refine jW hI 61 [vS c1 c2 c3] (gH kc) ?_
 refine jC 68 [.fv (.nsl 2 32 [z0,z0])] (iC) ?_
 refine jC 69 [vc b1 b2 b3,vc a1 a2 a3] (vminusF (kb.1.lf.mono (by decide)) (kb.2.1.lf.mono (by decide)) (kb.2.2.lf.mono (by decide)) (ka.1.lf.mono (by decide)) (ka.2.1.lf.mono (by decide)) (ka.2.2.lf.mono (by decide))) ?_
 refine jC 69 [vc c1 c2 c3,vc a1 a2 a3] (vminusF (kc.1.lf.mono (by decide)) (kc.2.1.lf.mono (by decide)) (kc.2.2.lf.mono (by decide)) (ka.1.lf.mono (by decide)) (ka.2.1.lf.mono (by decide)) (ka.2.2.lf.mono (by decide))) ?_
 refine jC 63 [vc (b1-a1) (b2-a2) (b3-a3),vc (c1-a1) (c2-a2) (c3-a3)] (hcross) ?_
 refine jC 62 [vc m1 m2 m3] (eU h0) ?_
 refine jC 36 [vc m1 m2 m3,vc a1 a2 a3] (nE (h.l1.mono (by decide)) (h.l2.mono (by decide)) (h.l3.mono (by decide)) (ka.1.lf.mono (by decide)) (ka.2.1.lf.mono (by decide)) (ka.2.2.lf.mono (by decide))) ?_
 refine jW hI 37 [hf m1 m2 m3 (dt m1 m2 m3 a1 a2 a3)] (wZ h) ?_
 exact jR Tryz.func18
theorem apiMirrorF {m1 m2 m3:Rat} (h:Hv z1 z2 z3 d) (k:pT p1 p2 p3) (h0:dt (z1:Rat) z2 z3 z1 z2 z3≠0)
 (e1:p1+((2:Int):Rat)*(lX z1 z2 z3 d p1 p2 p3*z1)=m1) (e2:p2+((2:Int):Rat)*(lX z1 z2 z3 d p1 p2 p3*z2)=m2) (e3:p3+((2:Int):Rat)*(lX z1 z2 z3 d p1 p2 p3*z3)=m3) (hr:pT m1 m2 m3) :
 jX 19 [hS z1 z2 z3 d,vS p1 p2 p3] (gI m1 m2 m3):=by
 have lw:Lf 20 (lX z1 z2 z3 d p1 p2 p3):=lf_way (cC h.s1) (cC h.s2) (cC h.s3) (h.d.lf.mono (by decide)) (k.1.lf.mono (by decide)) (k.2.1.lf.mono (by decide)) (k.2.2.lf.mono (by decide)) (by decide)
 have l2:Lf 20 ((2:Int):Rat):=Lf.int (Lv.one _ (by rw [aL];decide))
 have lm:∀ {z:Int},Sz z→Lf 22 (((2:Int):Rat)*(lX z1 z2 z3 d p1 p2 p3*z)):=fun hz=>Lf.muln (n:=22) (l2.mono (by decide)) (Lf.muln (n:=21) lw (cC hz) (by decide)) (by decide)
 have hp:jF 71 [vc p1 p2 p3,vc (((2:Int):Rat)*(lX z1 z2 z3 d p1 p2 p3*z1)) (((2:Int):Rat)*(lX z1 z2 z3 d p1 p2 p3*z2)) (((2:Int):Rat)*(lX z1 z2 z3 d p1 p2 p3*z3))] (vc m1 m2 m3):=by
  rw [← e1,← e2,← e3]
  exact uJ (k.1.lf.mono (by decide)) (k.2.1.lf.mono (by decide)) (k.2.2.lf.mono (by decide)) ((lm h.s1).mono (by decide)) ((lm h.s2).mono (by decide)) ((lm h.s3).mono (by decide))
 refine jY Tryz.func19 fun w00 hI=>?_
 refine jW hI 70 [gL 30,hS z1 z2 z3 d,gL 61,vS p1 p2 p3] (readHV h k) ?_
 refine jC 72 [hf z1 z2 z3 d,vc p1 p2 p3] (toPlaneF (cC h.s1) (cC h.s2) (cC h.s3) (h.d.lf.mono (by decide)) (k.1.lf.mono (by decide)) (k.2.1.lf.mono (by decide)) (k.2.2.lf.mono (by decide)) h0) ?_
 refine jC 74 [it 2] (lW (by constructor <;> omega)) ?_
 refine jC 73 [vc (lX z1 z2 z3 d p1 p2 p3*z1) (lX z1 z2 z3 d p1 p2 p3*z2) (lX z1 z2 z3 d p1 p2 p3*z3),num ((2:Int):Rat)] (gG (l2.mono (by decide)) (Lf.muln (n:=38) (lw.mono (by decide)) (cC h.s1) (by decide)) (Lf.muln (n:=38) (lw.mono (by decide)) (cC h.s2) (by decide)) (Lf.muln (n:=38) (lw.mono (by decide)) (cC h.s3) (by decide))) ?_
 refine jC 71 [vc p1 p2 p3,vc (((2:Int):Rat)*(lX z1 z2 z3 d p1 p2 p3*z1)) (((2:Int):Rat)*(lX z1 z2 z3 d p1 p2 p3*z2)) (((2:Int):Rat)*(lX z1 z2 z3 d p1 p2 p3*z3))] (hp) ?_
 refine jW hI 75 [vc m1 m2 m3] (uN hr (hr.1.lf.mono (by decide)) (hr.2.1.lf.mono (by decide)) (hr.2.2.lf.mono (by decide))) ?_
 exact jR Tryz.func19
theorem apiMeetF {v1 v2 v3 m1 m2 m3:Rat} (h:Hv z1 z2 z3 d) (k:pT p1 p2 p3) (kv:pT v1 v2 v3) (h0:dt z1 z2 z3 v1 v2 v3≠0)
 (e1:p1-(dt z1 z2 z3 p1 p2 p3-d)/dt z1 z2 z3 v1 v2 v3*v1=m1) (e2:p2-(dt z1 z2 z3 p1 p2 p3-d)/dt z1 z2 z3 v1 v2 v3*v2=m2) (e3:p3-(dt z1 z2 z3 p1 p2 p3-d)/dt z1 z2 z3 v1 v2 v3*v3=m3) (hr:pT m1 m2 m3) :
 jX 24 [hS z1 z2 z3 d,vS p1 p2 p3,vS v1 v2 v3] (gI m1 m2 m3):=by
 have lE:Lf 16 (dt z1 z2 z3 p1 p2 p3-d):=Lf.subn (qQ (n:=14) (cC h.s1) (cC h.s2) (cC h.s3) (k.1.lf.mono (by decide)) (k.2.1.lf.mono (by decide)) (k.2.2.lf.mono (by decide)) (by decide)) (h.d.lf.mono (by decide)) (by decide)
 have lV:Lf 16 (dt z1 z2 z3 v1 v2 v3):=qQ (cC h.s1) (cC h.s2) (cC h.s3) (kv.1.lf.mono (by decide)) (kv.2.1.lf.mono (by decide)) (kv.2.2.lf.mono (by decide)) (by decide)
 have lQ:Lf 17 ((dt z1 z2 z3 p1 p2 p3-d)/dt z1 z2 z3 v1 v2 v3):=by
  rw [Rat.div_def]
  exact Lf.muln lE (Lf.inv lV) (by decide)
 have lm:∀ {x:Rat},Wr x→Lf 18 ((dt z1 z2 z3 p1 p2 p3-d)/dt z1 z2 z3 v1 v2 v3*x):=fun hx=>Lf.muln lQ (hx.lf.mono (by decide)) (by decide)
 have hi:decide (dt z1 z2 z3 v1 v2 v3=0)=false:=by rw [decide_eq_false_iff_not];exact h0
 obtain ⟨Q,hQ⟩:∃ Q,Q=(dt z1 z2 z3 p1 p2 p3-d)/dt z1 z2 z3 v1 v2 v3:=⟨_,rfl⟩
 rw [← hQ] at e1 e2 e3 lQ lm
 have ho:jF 33 [num (dt z1 z2 z3 p1 p2 p3-d),num (dt z1 z2 z3 v1 v2 v3)] (num Q):=by
  rw [hQ]
  exact qP (lE.mono (by decide)) (lV.mono (by decide)) h0
 have hp:jF 69 [vc p1 p2 p3,vc (Q*v1) (Q*v2) (Q*v3)] (vc m1 m2 m3):=by
  rw [← e1,← e2,← e3]
  exact vminusF (k.1.lf.mono (by decide)) (k.2.1.lf.mono (by decide)) (k.2.2.lf.mono (by decide)) ((lm kv.1).mono (by decide)) ((lm kv.2.1).mono (by decide)) ((lm kv.2.2).mono (by decide))
 refine jY Tryz.func24 fun w00 hI=>?_
 refine jW hI 70 [gL 30,hS z1 z2 z3 d,gL 61,vS p1 p2 p3] (readHV h k) ?_
 refine jW hI 61 [vS v1 v2 v3] (gH kv) ?_
 refine jC 68 [.fv (.nsl 2 32 [z0,z0])] (iC) ?_
 refine jC 36 [vc z1 z2 z3,vc v1 v2 v3] (nE (cC h.s1) (cC h.s2) (cC h.s3) (kv.1.lf.mono (by decide)) (kv.2.1.lf.mono (by decide)) (kv.2.2.lf.mono (by decide))) ?_
 refine jC 79 [num (dt z1 z2 z3 v1 v2 v3)] (gF hi) ?_
 refine jC 39 [hf z1 z2 z3 d,vc p1 p2 p3] (wX (cC h.s1) (cC h.s2) (cC h.s3) (h.d.lf.mono (by decide)) (k.1.lf.mono (by decide)) (k.2.1.lf.mono (by decide)) (k.2.2.lf.mono (by decide))) ?_
 refine jC 33 [num (dt z1 z2 z3 p1 p2 p3-d),num (dt z1 z2 z3 v1 v2 v3)] (ho) ?_
 refine jC 73 [vc v1 v2 v3,num Q] (gG (lQ.mono (by decide)) (kv.1.lf.mono (by decide)) (kv.2.1.lf.mono (by decide)) (kv.2.2.lf.mono (by decide))) ?_
 refine jC 69 [vc p1 p2 p3,vc (Q*v1) (Q*v2) (Q*v3)] (hp) ?_
 refine jW hI 75 [vc m1 m2 m3] (uN hr (hr.1.lf.mono (by decide)) (hr.2.1.lf.mono (by decide)) (hr.2.2.lf.mono (by decide))) ?_
 exact jR Tryz.func24
end
section
variable {o1 o2 o3 x1 x2 x3 y1 y2 y3 z1 z2 z3 m1 m2 m3 p1 p2 p3:Rat}
structure Ax (x1 x2 x3 y1 y2 y3 z1 z2 z3:Rat):Prop where
 x0:(decide (x1=0)&&decide (x2=0)&&decide (x3=0))=false
 y0:(decide (y1=0)&&decide (y2=0)&&decide (y3=0))=false
 z0:(decide (z1=0)&&decide (z2=0)&&decide (z3=0))=false
 xy:dt x1 x2 x3 y1 y2 y3=0
 yz:dt y1 y2 y3 z1 z2 z3=0
 zx:dt z1 z2 z3 x1 x2 x3=0
 s:nD (dt x1 x2 x3 (y2*z3-y3*z2) (y3*z1-y1*z3) (y1*z2-y2*z1))=1
theorem checkF (l:Lm 25 x1 x2 x3 y1 y2 y3 z1 z2 z3) (h:Ax x1 x2 x3 y1 y2 y3 z1 z2 z3):jF 92 [nV o1 o2 o3 x1 x2 x3 y1 y2 y3 z1 z2 z3] (it 0):=by
 obtain ⟨a1,a2,a3,b1,b2,b3,c1,c2,c3⟩:=l
 have hs:jF 88 [num (dt x1 x2 x3 (y2*z3-y3*z2) (y3*z1-y1*z3) (y1*z2-y2*z1))] (it 1):=by
  rw [← h.s]
  exact signF
 refine jG Tryz.func92 fun w00=>?_
 refine jC 62 [vc x1 x2 x3] (eU h.x0) ?_
 refine jC 62 [vc y1 y2 y3] (eU h.y0) ?_
 refine jC 62 [vc z1 z2 z3] (eU h.z0) ?_
 refine jC 158 [nV o1 o2 o3 x1 x2 x3 y1 y2 y3 z1 z2 z3] (vX (Lm.mono ⟨a1,a2,a3,b1,b2,b3,c1,c2,c3⟩ (by decide)) h.xy h.yz h.zx) ?_
 refine jC 63 [vc y1 y2 y3,vc z1 z2 z3] (yO (by repeat' (first|exact Lf.mono (by assumption) (by decide)|refine Lf.muln ?_ ?_ (by decide)|refine Lf.addn ?_ ?_ (by decide)|refine Lf.subn ?_ ?_ (by decide))) (by repeat' (first|exact Lf.mono (by assumption) (by decide)|refine Lf.muln ?_ ?_ (by decide)|refine Lf.addn ?_ ?_ (by decide)|refine Lf.subn ?_ ?_ (by decide))) (by repeat' (first|exact Lf.mono (by assumption) (by decide)|refine Lf.muln ?_ ?_ (by decide)|refine Lf.addn ?_ ?_ (by decide)|refine Lf.subn ?_ ?_ (by decide))) (by repeat' (first|exact Lf.mono (by assumption) (by decide)|refine Lf.muln ?_ ?_ (by decide)|refine Lf.addn ?_ ?_ (by decide)|refine Lf.subn ?_ ?_ (by decide))) (by repeat' (first|exact Lf.mono (by assumption) (by decide)|refine Lf.muln ?_ ?_ (by decide)|refine Lf.addn ?_ ?_ (by decide)|refine Lf.subn ?_ ?_ (by decide))) (by repeat' (first|exact Lf.mono (by assumption) (by decide)|refine Lf.muln ?_ ?_ (by decide)|refine Lf.addn ?_ ?_ (by decide)|refine Lf.subn ?_ ?_ (by decide)))) ?_
 refine jC 36 [vc x1 x2 x3,vc (y2*z3-y3*z2) (y3*z1-y1*z3) (y1*z2-y2*z1)] (nE (by repeat' (first|exact Lf.mono (by assumption) (by decide)|refine Lf.muln ?_ ?_ (by decide)|refine Lf.addn ?_ ?_ (by decide)|refine Lf.subn ?_ ?_ (by decide))) (by repeat' (first|exact Lf.mono (by assumption) (by decide)|refine Lf.muln ?_ ?_ (by decide)|refine Lf.addn ?_ ?_ (by decide)|refine Lf.subn ?_ ?_ (by decide))) (by repeat' (first|exact Lf.mono (by assumption) (by decide)|refine Lf.muln ?_ ?_ (by decide)|refine Lf.addn ?_ ?_ (by decide)|refine Lf.subn ?_ ?_ (by decide))) (by repeat' (first|exact Lf.mono (by assumption) (by decide)|refine Lf.muln ?_ ?_ (by decide)|refine Lf.addn ?_ ?_ (by decide)|refine Lf.subn ?_ ?_ (by decide))) (by repeat' (first|exact Lf.mono (by assumption) (by decide)|refine Lf.muln ?_ ?_ (by decide)|refine Lf.addn ?_ ?_ (by decide)|refine Lf.subn ?_ ?_ (by decide))) (by repeat' (first|exact Lf.mono (by assumption) (by decide)|refine Lf.muln ?_ ?_ (by decide)|refine Lf.addn ?_ ?_ (by decide)|refine Lf.subn ?_ ?_ (by decide)))) ?_
 refine jC 88 [num (dt x1 x2 x3 (y2*z3-y3*z2) (y3*z1-y1*z3) (y1*z2-y2*z1))] (hs) ?_
 exact jR Tryz.func92
abbrev iT (o1 o2 o3 x1 x2 x3 y1 y2 y3 z1 z2 z3:Rat):AV Kn := .fv (.ag [cH (writeB o1),cH (writeB o2),cH (writeB o3),cH (writeB x1),cH (writeB x2),cH (writeB x3),cH (writeB y1),cH (writeB y2),cH (writeB y3),cH (writeB z1),cH (writeB z2),cH (writeB z3)])
abbrev gJ (o1 o2 o3 x1 x2 x3 y1 y2 y3 z1 z2 z3:Rat):AV Kn := .tup [.ag [cH (writeB o1),cH (writeB o2),cH (writeB o3),cH (writeB x1),cH (writeB x2),cH (writeB x3),cH (writeB y1),cH (writeB y2),cH (writeB y3),cH (writeB z1),cH (writeB z2),cH (writeB z3)],.sc z0]
abbrev okFr (o1 o2 o3 x1 x2 x3 y1 y2 y3 z1 z2 z3:Rat):AV Kn := .tup [.ag [nb o1,nb o2,nb o3,nb x1,nb x2,nb x3,nb y1,nb y2,nb y3,nb z1,nb z2,nb z3],.sc z0]
structure Wf (o1 o2 o3 x1 x2 x3 y1 y2 y3 z1 z2 z3:Rat):Prop where
 o:pT o1 o2 o3
 x:pT x1 x2 x3
 y:pT y1 y2 y3
 z:pT z1 z2 z3
theorem zV {a b c:Rat} (h:pT a b c):Lv3 5 a b c:=⟨h.1.lf,h.2.1.lf,h.2.2.lf⟩
theorem Wf.lm (h:Wf o1 o2 o3 x1 x2 x3 y1 y2 y3 z1 z2 z3):Lm 5 x1 x2 x3 y1 y2 y3 z1 z2 z3:=⟨h.x.1.lf,h.x.2.1.lf,h.x.2.2.lf,h.y.1.lf,h.y.2.1.lf,h.y.2.2.lf,h.z.1.lf,h.z.2.1.lf,h.z.2.2.lf⟩
theorem mB {a b c:Rat} (h:pT a b c):jX 75 [vc a b c] (gI a b c):=uN h (h.1.lf.mono (by decide)) (h.2.1.lf.mono (by decide)) (h.2.2.lf.mono (by decide))
theorem yW (h:Wf o1 o2 o3 x1 x2 x3 y1 y2 y3 z1 z2 z3):jX 85 [nV o1 o2 o3 x1 x2 x3 y1 y2 y3 z1 z2 z3] (gJ o1 o2 o3 x1 x2 x3 y1 y2 y3 z1 z2 z3):=by
 refine jY Tryz.func85 fun w00 hI=>?_
 refine jW hI 75 [vc o1 o2 o3] (mB h.o) ?_
 refine jW hI 75 [vc x1 x2 x3] (mB h.x) ?_
 refine jW hI 75 [vc y1 y2 y3] (mB h.y) ?_
 refine jW hI 75 [vc z1 z2 z3] (mB h.z) ?_
 refine jC 68 [.fv (.nsl 4 32 [z0,z0,z0,z0])] (first4F) ?_
 exact jR Tryz.func85
theorem rG (h:Wf o1 o2 o3 x1 x2 x3 y1 y2 y3 z1 z2 z3) (hxy:dt x1 x2 x3 y1 y2 y3=0) (hyz:dt y1 y2 y3 z1 z2 z3=0) (hzx:dt z1 z2 z3 x1 x2 x3=0):jX 87 [nV o1 o2 o3 x1 x2 x3 y1 y2 y3 z1 z2 z3] (gJ o1 o2 o3 x1 x2 x3 y1 y2 y3 z1 z2 z3):=by
 refine jY Tryz.func87 fun w00 hI=>?_
 refine jC 158 [nV o1 o2 o3 x1 x2 x3 y1 y2 y3 z1 z2 z3] (vX (h.lm.mono (by decide)) hxy hyz hzx) ?_
 refine jW hI 85 [nV o1 o2 o3 x1 x2 x3 y1 y2 y3 z1 z2 z3] (yW h) ?_
 exact jR Tryz.func87
structure Fv (o1 o2 o3 x1 x2 x3 y1 y2 y3 z1 z2 z3:Rat):Prop where
 w:Wf o1 o2 o3 x1 x2 x3 y1 y2 y3 z1 z2 z3
 a:Ax x1 x2 x3 y1 y2 y3 z1 z2 z3
 r:jX 29 [iT o1 o2 o3 x1 x2 x3 y1 y2 y3 z1 z2 z3] (okFr o1 o2 o3 x1 x2 x3 y1 y2 y3 z1 z2 z3)
variable {n1 n2 n3:Int} {d e:Rat} {k1 k2 k3:Int}
theorem readFV (h:Fv o1 o2 o3 x1 x2 x3 y1 y2 y3 z1 z2 z3) (k:pT p1 p2 p3):jX 76 [gL 29,iT o1 o2 o3 x1 x2 x3 y1 y2 y3 z1 z2 z3,gL 61,vS p1 p2 p3] (.tup [.ag [nb o1,nb o2,nb o3,nb x1,nb x2,nb x3,nb y1,nb y2,nb y3,nb z1,nb z2,nb z3],.ag [nb p1,nb p2,nb p3],.sc z0]):=by
 refine jY Tryz.func76 fun w00 hI=>?_
 refine jW hI 29 [iT o1 o2 o3 x1 x2 x3 y1 y2 y3 z1 z2 z3] (h.r) ?_
 refine jW hI 61 [vS p1 p2 p3] (gH k) ?_
 refine jC 68 [.fv (.nsl 2 32 [z0,z0])] (iC) ?_
 exact jR Tryz.func76
theorem readFH (h:Fv o1 o2 o3 x1 x2 x3 y1 y2 y3 z1 z2 z3) (k:Hv n1 n2 n3 d):jX 28 [gL 29,iT o1 o2 o3 x1 x2 x3 y1 y2 y3 z1 z2 z3,gL 30,hS n1 n2 n3 d] (.tup [.ag [nb o1,nb o2,nb o3,nb x1,nb x2,nb x3,nb y1,nb y2,nb y3,nb z1,nb z2,nb z3],.ag [nb n1,nb n2,nb n3,nb d],.sc z0]):=by
 refine jY Tryz.func28 fun w00 hI=>?_
 refine jW hI 29 [iT o1 o2 o3 x1 x2 x3 y1 y2 y3 z1 z2 z3] (h.r) ?_
 refine jW hI 30 [hS n1 n2 n3 d] (readHalfF (m_sz k.s1) (m_sz k.s2) (m_sz k.s3) k.d k.ck) ?_
 refine jC 68 [.fv (.nsl 2 32 [z0,z0])] (iC) ?_
 exact jR Tryz.func28
theorem apiPlaceF (h:Fv o1 o2 o3 x1 x2 x3 y1 y2 y3 z1 z2 z3) (k:pT p1 p2 p3) (e1:o1+ld p1 p2 p3 x1 y1 z1=m1) (e2:o2+ld p1 p2 p3 x2 y2 z2=m2) (e3:o3+ld p1 p2 p3 x3 y3 z3=m3) (hr:pT m1 m2 m3) :
 jX 20 [iT o1 o2 o3 x1 x2 x3 y1 y2 y3 z1 z2 z3,vS p1 p2 p3] (gI m1 m2 m3):=by
 have hp:jF 77 [nV o1 o2 o3 x1 x2 x3 y1 y2 y3 z1 z2 z3,vc p1 p2 p3] (vc m1 m2 m3):=by
  rw [← e1,← e2,← e3]
  exact placeF (h.w.lm.mono (by decide)) ((zV k).mono (by decide)) ((zV h.w.o).mono (by decide))
 refine jY Tryz.func20 fun w00 hI=>?_
 refine jW hI 76 [gL 29,iT o1 o2 o3 x1 x2 x3 y1 y2 y3 z1 z2 z3,gL 61,vS p1 p2 p3] (readFV h k) ?_
 refine jC 77 [nV o1 o2 o3 x1 x2 x3 y1 y2 y3 z1 z2 z3,vc p1 p2 p3] (hp) ?_
 refine jW hI 75 [vc m1 m2 m3] (mB hr) ?_
 exact jR Tryz.func20
theorem nJ {p q:Rat} {k l:Nat} (hp:Lf k p) (hq:Lf k q) (hk:k+1≤l):Lf l (p/q):=by
 rw [Rat.div_def]
 exact Lf.mono (hp.mul hq.inv) hk
theorem zW (h:Fv o1 o2 o3 x1 x2 x3 y1 y2 y3 z1 z2 z3) (k:Hv n1 n2 n3 d) (h0:Sq0 x1 x2 x3 y1 y2 y3 z1 z2 z3) {q1 q2 q3:Rat}
 (e1:ld (n1/dt x1 x2 x3 x1 x2 x3) (n2/dt y1 y2 y3 y1 y2 y3) (n3/dt z1 z2 z3 z1 z2 z3) x1 y1 z1=q1) (e2:ld (n1/dt x1 x2 x3 x1 x2 x3) (n2/dt y1 y2 y3 y1 y2 y3) (n3/dt z1 z2 z3 z1 z2 z3) x2 y2 z2=q2) (e3:ld (n1/dt x1 x2 x3 x1 x2 x3) (n2/dt y1 y2 y3 y1 y2 y3) (n3/dt z1 z2 z3 z1 z2 z3) x3 y3 z3=q3)
 (hm:Form q1 q2 q3 (d+dt q1 q2 q3 o1 o2 o3) k1 k2 k3 e):jX 6 [iT o1 o2 o3 x1 x2 x3 y1 y2 y3 z1 z2 z3,hS n1 n2 n3 d] (rX k1 k2 k3 e):=by
 obtain ⟨a1,a2,a3,b1,b2,b3,c1,c2,c3⟩:=h.w.lm
 obtain ⟨g1,g2,g3⟩:=zV h.w.o
 have ld':=k.d.lf
 have t1:=cC k.s1 (k:=10)
 have t2:=cC k.s2 (k:=10)
 have t3:=cC k.s3 (k:=10)
 have s1:Lf 10 (dt x1 x2 x3 x1 x2 x3):=by repeat' (first|exact Lf.mono (by assumption) (by decide)|refine Lf.muln ?_ ?_ (by decide)|refine Lf.addn ?_ ?_ (by decide)|refine Lf.subn ?_ ?_ (by decide))
 have s2:Lf 10 (dt y1 y2 y3 y1 y2 y3):=by repeat' (first|exact Lf.mono (by assumption) (by decide)|refine Lf.muln ?_ ?_ (by decide)|refine Lf.addn ?_ ?_ (by decide)|refine Lf.subn ?_ ?_ (by decide))
 have s3:Lf 10 (dt z1 z2 z3 z1 z2 z3):=by repeat' (first|exact Lf.mono (by assumption) (by decide)|refine Lf.muln ?_ ?_ (by decide)|refine Lf.addn ?_ ?_ (by decide)|refine Lf.subn ?_ ?_ (by decide))
 have r1:=nJ t1 s1 (aR 11)
 have r2:=nJ t2 s2 (aR 11)
 have r3:=nJ t3 s3 (aR 11)
 have j:jF 32 [gL 33,vc n1 n2 n3,vc (dt x1 x2 x3 x1 x2 x3) (dt y1 y2 y3 y1 y2 y3) (dt z1 z2 z3 z1 z2 z3)] (vc (n1/dt x1 x2 x3 x1 x2 x3) (n2/dt y1 y2 y3 y1 y2 y3) (n3/dt z1 z2 z3 z1 z2 z3)) :=
  joinF Tryz.call33 (qP (t1.mono (by decide)) (s1.mono (by decide)) h0.x) (qP (t2.mono (by decide)) (s2.mono (by decide)) h0.y) (qP (t3.mono (by decide)) (s3.mono (by decide)) h0.z)
 have hl:jF 31 [nV o1 o2 o3 x1 x2 x3 y1 y2 y3 z1 z2 z3,vc (n1/dt x1 x2 x3 x1 x2 x3) (n2/dt y1 y2 y3 y1 y2 y3) (n3/dt z1 z2 z3 z1 z2 z3)] (vc q1 q2 q3):=by
  rw [← e1,← e2,← e3]
  exact leadF (h.w.lm.mono (by decide)) ⟨r1.mono (by decide),r2.mono (by decide),r3.mono (by decide)⟩
 have l1:=hm.l1
 have l2:=hm.l2
 have l3:=hm.l3
 refine jY Tryz.func6 fun w00 hI=>?_
 refine jW hI 28 [gL 29,iT o1 o2 o3 x1 x2 x3 y1 y2 y3 z1 z2 z3,gL 30,hS n1 n2 n3 d] (readFH h k) ?_
 refine jC 34 [nV o1 o2 o3 x1 x2 x3 y1 y2 y3 z1 z2 z3] (squaresF (h.w.lm.mono (by decide))) ?_
 refine jC 32 [gL 33,vc n1 n2 n3,vc (dt x1 x2 x3 x1 x2 x3) (dt y1 y2 y3 y1 y2 y3) (dt z1 z2 z3 z1 z2 z3)] (j) ?_
 refine jC 31 [nV o1 o2 o3 x1 x2 x3 y1 y2 y3 z1 z2 z3,vc (n1/dt x1 x2 x3 x1 x2 x3) (n2/dt y1 y2 y3 y1 y2 y3) (n3/dt z1 z2 z3 z1 z2 z3)] (hl) ?_
 refine jC 36 [vc q1 q2 q3,vc o1 o2 o3] (nE (by repeat' (first|exact Lf.mono (by assumption) (by decide)|refine Lf.muln ?_ ?_ (by decide)|refine Lf.addn ?_ ?_ (by decide)|refine Lf.subn ?_ ?_ (by decide))) (by repeat' (first|exact Lf.mono (by assumption) (by decide)|refine Lf.muln ?_ ?_ (by decide)|refine Lf.addn ?_ ?_ (by decide)|refine Lf.subn ?_ ?_ (by decide))) (by repeat' (first|exact Lf.mono (by assumption) (by decide)|refine Lf.muln ?_ ?_ (by decide)|refine Lf.addn ?_ ?_ (by decide)|refine Lf.subn ?_ ?_ (by decide))) (by repeat' (first|exact Lf.mono (by assumption) (by decide)|refine Lf.muln ?_ ?_ (by decide)|refine Lf.addn ?_ ?_ (by decide)|refine Lf.subn ?_ ?_ (by decide))) (by repeat' (first|exact Lf.mono (by assumption) (by decide)|refine Lf.muln ?_ ?_ (by decide)|refine Lf.addn ?_ ?_ (by decide)|refine Lf.subn ?_ ?_ (by decide))) (by repeat' (first|exact Lf.mono (by assumption) (by decide)|refine Lf.muln ?_ ?_ (by decide)|refine Lf.addn ?_ ?_ (by decide)|refine Lf.subn ?_ ?_ (by decide)))) ?_
 refine jC 35 [num d,num (dt q1 q2 q3 o1 o2 o3)] (sO (by repeat' (first|exact Lf.mono (by assumption) (by decide)|refine Lf.muln ?_ ?_ (by decide)|refine Lf.addn ?_ ?_ (by decide)|refine Lf.subn ?_ ?_ (by decide))) (by repeat' (first|exact Lf.mono (by assumption) (by decide)|refine Lf.muln ?_ ?_ (by decide)|refine Lf.addn ?_ ?_ (by decide)|refine Lf.subn ?_ ?_ (by decide)))) ?_
 refine jW hI 37 [hf q1 q2 q3 (d+dt q1 q2 q3 o1 o2 o3)] (wZ hm) ?_
 exact jR Tryz.func6
end
section
variable {w u1 u2 u3 v1 v2 v3:Rat}
abbrev tc (w s D c v u:Rat):Rat:=((1:Int):Rat)/(w*w+s)*((w*w-s)*v+((2:Int):Rat)*w*c+((2:Int):Rat)*D*u)
theorem turnedF (hw:Lf 8 w) (h1:Lf 8 u1) (h2:Lf 8 u2) (h3:Lf 8 u3) (k1:Lf 8 v1) (k2:Lf 8 v2) (k3:Lf 8 v3) (h0:w*w+dt u1 u2 u3 u1 u2 u3≠0) :
 jF 81 [num w,vc u1 u2 u3,vc v1 v2 v3] (vc (tc w (dt u1 u2 u3 u1 u2 u3) (dt u1 u2 u3 v1 v2 v3) (u2*v3-u3*v2) v1 u1) (tc w (dt u1 u2 u3 u1 u2 u3) (dt u1 u2 u3 v1 v2 v3) (u3*v1-u1*v3) v2 u2) (tc w (dt u1 u2 u3 u1 u2 u3) (dt u1 u2 u3 v1 v2 v3) (u1*v2-u2*v1) v3 u3)):=by
 have i2:Lf 8 ((2:Int):Rat):=Lf.int (Lv.one _ (by rw [aL];decide))
 have i1:Lf 8 ((1:Int):Rat):=Lf.int (Lv.one _ (by rw [aL];decide))
 have ls:Lf 14 (dt u1 u2 u3 u1 u2 u3):=by repeat' (first|exact Lf.mono (by assumption) (by decide)|refine Lf.muln ?_ ?_ (by decide)|refine Lf.addn ?_ ?_ (by decide)|refine Lf.subn ?_ ?_ (by decide))
 have lD:Lf 14 (dt u1 u2 u3 v1 v2 v3):=by repeat' (first|exact Lf.mono (by assumption) (by decide)|refine Lf.muln ?_ ?_ (by decide)|refine Lf.addn ?_ ?_ (by decide)|refine Lf.subn ?_ ?_ (by decide))
 have lL:Lf 16 (w*w+dt u1 u2 u3 u1 u2 u3):=by repeat' (first|exact Lf.mono (by assumption) (by decide)|refine Lf.muln ?_ ?_ (by decide)|refine Lf.addn ?_ ?_ (by decide)|refine Lf.subn ?_ ?_ (by decide))
 obtain ⟨S,hS⟩:∃ S,S=dt u1 u2 u3 u1 u2 u3:=⟨_,rfl⟩
 obtain ⟨D,hD⟩:∃ D,D=dt u1 u2 u3 v1 v2 v3:=⟨_,rfl⟩
 have sq:jF 64 [vc u1 u2 u3] (num S):=by rw [hS];exact pR (by repeat' (first|exact Lf.mono (by assumption) (by decide)|refine Lf.muln ?_ ?_ (by decide)|refine Lf.addn ?_ ?_ (by decide)|refine Lf.subn ?_ ?_ (by decide))) (by repeat' (first|exact Lf.mono (by assumption) (by decide)|refine Lf.muln ?_ ?_ (by decide)|refine Lf.addn ?_ ?_ (by decide)|refine Lf.subn ?_ ?_ (by decide))) (by repeat' (first|exact Lf.mono (by assumption) (by decide)|refine Lf.muln ?_ ?_ (by decide)|refine Lf.addn ?_ ?_ (by decide)|refine Lf.subn ?_ ?_ (by decide)))
 have dd:jF 36 [vc u1 u2 u3,vc v1 v2 v3] (num D):=by rw [hD];exact nE (by repeat' (first|exact Lf.mono (by assumption) (by decide)|refine Lf.muln ?_ ?_ (by decide)|refine Lf.addn ?_ ?_ (by decide)|refine Lf.subn ?_ ?_ (by decide))) (by repeat' (first|exact Lf.mono (by assumption) (by decide)|refine Lf.muln ?_ ?_ (by decide)|refine Lf.addn ?_ ?_ (by decide)|refine Lf.subn ?_ ?_ (by decide))) (by repeat' (first|exact Lf.mono (by assumption) (by decide)|refine Lf.muln ?_ ?_ (by decide)|refine Lf.addn ?_ ?_ (by decide)|refine Lf.subn ?_ ?_ (by decide))) (by repeat' (first|exact Lf.mono (by assumption) (by decide)|refine Lf.muln ?_ ?_ (by decide)|refine Lf.addn ?_ ?_ (by decide)|refine Lf.subn ?_ ?_ (by decide))) (by repeat' (first|exact Lf.mono (by assumption) (by decide)|refine Lf.muln ?_ ?_ (by decide)|refine Lf.addn ?_ ?_ (by decide)|refine Lf.subn ?_ ?_ (by decide))) (by repeat' (first|exact Lf.mono (by assumption) (by decide)|refine Lf.muln ?_ ?_ (by decide)|refine Lf.addn ?_ ?_ (by decide)|refine Lf.subn ?_ ?_ (by decide)))
 rw [← hS] at ls lL h0
 rw [← hD] at lD
 rw [← hS,← hD]
 clear hS hD
 have lq:=nJ (i1.mono (by decide:8≤16)) lL (aR 17)
 refine jG Tryz.func81 fun w00=>?_
 refine jC 74 [it 2] (lW (by constructor <;> omega)) ?_
 refine jC 94 [num w,num w] (fG (by repeat' (first|exact Lf.mono (by assumption) (by decide)|refine Lf.muln ?_ ?_ (by decide)|refine Lf.addn ?_ ?_ (by decide)|refine Lf.subn ?_ ?_ (by decide))) (by repeat' (first|exact Lf.mono (by assumption) (by decide)|refine Lf.muln ?_ ?_ (by decide)|refine Lf.addn ?_ ?_ (by decide)|refine Lf.subn ?_ ?_ (by decide)))) ?_
 refine jC 64 [vc u1 u2 u3] (sq) ?_
 refine jC 105 [num (w*w),num S] (oQ (by repeat' (first|exact Lf.mono (by assumption) (by decide)|refine Lf.muln ?_ ?_ (by decide)|refine Lf.addn ?_ ?_ (by decide)|refine Lf.subn ?_ ?_ (by decide))) (by repeat' (first|exact Lf.mono (by assumption) (by decide)|refine Lf.muln ?_ ?_ (by decide)|refine Lf.addn ?_ ?_ (by decide)|refine Lf.subn ?_ ?_ (by decide)))) ?_
 refine jC 73 [vc v1 v2 v3,num (w*w-S)] (gG (by repeat' (first|exact Lf.mono (by assumption) (by decide)|refine Lf.muln ?_ ?_ (by decide)|refine Lf.addn ?_ ?_ (by decide)|refine Lf.subn ?_ ?_ (by decide))) (by repeat' (first|exact Lf.mono (by assumption) (by decide)|refine Lf.muln ?_ ?_ (by decide)|refine Lf.addn ?_ ?_ (by decide)|refine Lf.subn ?_ ?_ (by decide))) (by repeat' (first|exact Lf.mono (by assumption) (by decide)|refine Lf.muln ?_ ?_ (by decide)|refine Lf.addn ?_ ?_ (by decide)|refine Lf.subn ?_ ?_ (by decide))) (by repeat' (first|exact Lf.mono (by assumption) (by decide)|refine Lf.muln ?_ ?_ (by decide)|refine Lf.addn ?_ ?_ (by decide)|refine Lf.subn ?_ ?_ (by decide)))) ?_
 refine jC 63 [vc u1 u2 u3,vc v1 v2 v3] (yO (by repeat' (first|exact Lf.mono (by assumption) (by decide)|refine Lf.muln ?_ ?_ (by decide)|refine Lf.addn ?_ ?_ (by decide)|refine Lf.subn ?_ ?_ (by decide))) (by repeat' (first|exact Lf.mono (by assumption) (by decide)|refine Lf.muln ?_ ?_ (by decide)|refine Lf.addn ?_ ?_ (by decide)|refine Lf.subn ?_ ?_ (by decide))) (by repeat' (first|exact Lf.mono (by assumption) (by decide)|refine Lf.muln ?_ ?_ (by decide)|refine Lf.addn ?_ ?_ (by decide)|refine Lf.subn ?_ ?_ (by decide))) (by repeat' (first|exact Lf.mono (by assumption) (by decide)|refine Lf.muln ?_ ?_ (by decide)|refine Lf.addn ?_ ?_ (by decide)|refine Lf.subn ?_ ?_ (by decide))) (by repeat' (first|exact Lf.mono (by assumption) (by decide)|refine Lf.muln ?_ ?_ (by decide)|refine Lf.addn ?_ ?_ (by decide)|refine Lf.subn ?_ ?_ (by decide))) (by repeat' (first|exact Lf.mono (by assumption) (by decide)|refine Lf.muln ?_ ?_ (by decide)|refine Lf.addn ?_ ?_ (by decide)|refine Lf.subn ?_ ?_ (by decide)))) ?_
 refine jC 94 [num ((2:Int):Rat),num w] (fG (by repeat' (first|exact Lf.mono (by assumption) (by decide)|refine Lf.muln ?_ ?_ (by decide)|refine Lf.addn ?_ ?_ (by decide)|refine Lf.subn ?_ ?_ (by decide))) (by repeat' (first|exact Lf.mono (by assumption) (by decide)|refine Lf.muln ?_ ?_ (by decide)|refine Lf.addn ?_ ?_ (by decide)|refine Lf.subn ?_ ?_ (by decide)))) ?_
 refine jC 73 [vc (u2*v3-u3*v2) (u3*v1-u1*v3) (u1*v2-u2*v1),num (((2:Int):Rat)*w)] (gG (by repeat' (first|exact Lf.mono (by assumption) (by decide)|refine Lf.muln ?_ ?_ (by decide)|refine Lf.addn ?_ ?_ (by decide)|refine Lf.subn ?_ ?_ (by decide))) (by repeat' (first|exact Lf.mono (by assumption) (by decide)|refine Lf.muln ?_ ?_ (by decide)|refine Lf.addn ?_ ?_ (by decide)|refine Lf.subn ?_ ?_ (by decide))) (by repeat' (first|exact Lf.mono (by assumption) (by decide)|refine Lf.muln ?_ ?_ (by decide)|refine Lf.addn ?_ ?_ (by decide)|refine Lf.subn ?_ ?_ (by decide))) (by repeat' (first|exact Lf.mono (by assumption) (by decide)|refine Lf.muln ?_ ?_ (by decide)|refine Lf.addn ?_ ?_ (by decide)|refine Lf.subn ?_ ?_ (by decide)))) ?_
 refine jC 71 [vc ((w*w-S)*v1) ((w*w-S)*v2) ((w*w-S)*v3),vc (((2:Int):Rat)*w*(u2*v3-u3*v2)) (((2:Int):Rat)*w*(u3*v1-u1*v3)) (((2:Int):Rat)*w*(u1*v2-u2*v1))] (uJ (by repeat' (first|exact Lf.mono (by assumption) (by decide)|refine Lf.muln ?_ ?_ (by decide)|refine Lf.addn ?_ ?_ (by decide)|refine Lf.subn ?_ ?_ (by decide))) (by repeat' (first|exact Lf.mono (by assumption) (by decide)|refine Lf.muln ?_ ?_ (by decide)|refine Lf.addn ?_ ?_ (by decide)|refine Lf.subn ?_ ?_ (by decide))) (by repeat' (first|exact Lf.mono (by assumption) (by decide)|refine Lf.muln ?_ ?_ (by decide)|refine Lf.addn ?_ ?_ (by decide)|refine Lf.subn ?_ ?_ (by decide))) (by repeat' (first|exact Lf.mono (by assumption) (by decide)|refine Lf.muln ?_ ?_ (by decide)|refine Lf.addn ?_ ?_ (by decide)|refine Lf.subn ?_ ?_ (by decide))) (by repeat' (first|exact Lf.mono (by assumption) (by decide)|refine Lf.muln ?_ ?_ (by decide)|refine Lf.addn ?_ ?_ (by decide)|refine Lf.subn ?_ ?_ (by decide))) (by repeat' (first|exact Lf.mono (by assumption) (by decide)|refine Lf.muln ?_ ?_ (by decide)|refine Lf.addn ?_ ?_ (by decide)|refine Lf.subn ?_ ?_ (by decide)))) ?_
 refine jC 36 [vc u1 u2 u3,vc v1 v2 v3] (dd) ?_
 refine jC 94 [num ((2:Int):Rat),num D] (fG (by repeat' (first|exact Lf.mono (by assumption) (by decide)|refine Lf.muln ?_ ?_ (by decide)|refine Lf.addn ?_ ?_ (by decide)|refine Lf.subn ?_ ?_ (by decide))) (by repeat' (first|exact Lf.mono (by assumption) (by decide)|refine Lf.muln ?_ ?_ (by decide)|refine Lf.addn ?_ ?_ (by decide)|refine Lf.subn ?_ ?_ (by decide)))) ?_
 refine jC 73 [vc u1 u2 u3,num (((2:Int):Rat)*D)] (gG (by repeat' (first|exact Lf.mono (by assumption) (by decide)|refine Lf.muln ?_ ?_ (by decide)|refine Lf.addn ?_ ?_ (by decide)|refine Lf.subn ?_ ?_ (by decide))) (by repeat' (first|exact Lf.mono (by assumption) (by decide)|refine Lf.muln ?_ ?_ (by decide)|refine Lf.addn ?_ ?_ (by decide)|refine Lf.subn ?_ ?_ (by decide))) (by repeat' (first|exact Lf.mono (by assumption) (by decide)|refine Lf.muln ?_ ?_ (by decide)|refine Lf.addn ?_ ?_ (by decide)|refine Lf.subn ?_ ?_ (by decide))) (by repeat' (first|exact Lf.mono (by assumption) (by decide)|refine Lf.muln ?_ ?_ (by decide)|refine Lf.addn ?_ ?_ (by decide)|refine Lf.subn ?_ ?_ (by decide)))) ?_
 refine jC 71 [vc ((w*w-S)*v1+((2:Int):Rat)*w*(u2*v3-u3*v2)) ((w*w-S)*v2+((2:Int):Rat)*w*(u3*v1-u1*v3)) ((w*w-S)*v3+((2:Int):Rat)*w*(u1*v2-u2*v1)),vc (((2:Int):Rat)*D*u1) (((2:Int):Rat)*D*u2) (((2:Int):Rat)*D*u3)] (uJ (by repeat' (first|exact Lf.mono (by assumption) (by decide)|refine Lf.muln ?_ ?_ (by decide)|refine Lf.addn ?_ ?_ (by decide)|refine Lf.subn ?_ ?_ (by decide))) (by repeat' (first|exact Lf.mono (by assumption) (by decide)|refine Lf.muln ?_ ?_ (by decide)|refine Lf.addn ?_ ?_ (by decide)|refine Lf.subn ?_ ?_ (by decide))) (by repeat' (first|exact Lf.mono (by assumption) (by decide)|refine Lf.muln ?_ ?_ (by decide)|refine Lf.addn ?_ ?_ (by decide)|refine Lf.subn ?_ ?_ (by decide))) (by repeat' (first|exact Lf.mono (by assumption) (by decide)|refine Lf.muln ?_ ?_ (by decide)|refine Lf.addn ?_ ?_ (by decide)|refine Lf.subn ?_ ?_ (by decide))) (by repeat' (first|exact Lf.mono (by assumption) (by decide)|refine Lf.muln ?_ ?_ (by decide)|refine Lf.addn ?_ ?_ (by decide)|refine Lf.subn ?_ ?_ (by decide))) (by repeat' (first|exact Lf.mono (by assumption) (by decide)|refine Lf.muln ?_ ?_ (by decide)|refine Lf.addn ?_ ?_ (by decide)|refine Lf.subn ?_ ?_ (by decide)))) ?_
 refine jC 74 [it 1] (lW (by constructor <;> omega)) ?_
 refine jC 35 [num (w*w),num S] (sO (by repeat' (first|exact Lf.mono (by assumption) (by decide)|refine Lf.muln ?_ ?_ (by decide)|refine Lf.addn ?_ ?_ (by decide)|refine Lf.subn ?_ ?_ (by decide))) (by repeat' (first|exact Lf.mono (by assumption) (by decide)|refine Lf.muln ?_ ?_ (by decide)|refine Lf.addn ?_ ?_ (by decide)|refine Lf.subn ?_ ?_ (by decide)))) ?_
 refine jC 33 [num ((1:Int):Rat),num (w*w+S)] (qP (by repeat' (first|exact Lf.mono (by assumption) (by decide)|refine Lf.muln ?_ ?_ (by decide)|refine Lf.addn ?_ ?_ (by decide)|refine Lf.subn ?_ ?_ (by decide))) (by repeat' (first|exact Lf.mono (by assumption) (by decide)|refine Lf.muln ?_ ?_ (by decide)|refine Lf.addn ?_ ?_ (by decide)|refine Lf.subn ?_ ?_ (by decide))) h0) ?_
 refine jC 73 [vc ((w*w-S)*v1+((2:Int):Rat)*w*(u2*v3-u3*v2)+((2:Int):Rat)*D*u1) ((w*w-S)*v2+((2:Int):Rat)*w*(u3*v1-u1*v3)+((2:Int):Rat)*D*u2) ((w*w-S)*v3+((2:Int):Rat)*w*(u1*v2-u2*v1)+((2:Int):Rat)*D*u3),num (((1:Int):Rat)/(w*w+S))] (gG (by repeat' (first|exact Lf.mono (by assumption) (by decide)|refine Lf.muln ?_ ?_ (by decide)|refine Lf.addn ?_ ?_ (by decide)|refine Lf.subn ?_ ?_ (by decide))) (by repeat' (first|exact Lf.mono (by assumption) (by decide)|refine Lf.muln ?_ ?_ (by decide)|refine Lf.addn ?_ ?_ (by decide)|refine Lf.subn ?_ ?_ (by decide))) (by repeat' (first|exact Lf.mono (by assumption) (by decide)|refine Lf.muln ?_ ?_ (by decide)|refine Lf.addn ?_ ?_ (by decide)|refine Lf.subn ?_ ?_ (by decide))) (by repeat' (first|exact Lf.mono (by assumption) (by decide)|refine Lf.muln ?_ ?_ (by decide)|refine Lf.addn ?_ ?_ (by decide)|refine Lf.subn ?_ ?_ (by decide)))) ?_
 exact jR Tryz.func81
end
variable {Kc:Value→Bool}
def Seg.ren (ks:List Nat):Seg Kc→Seg Kc
 | .ptr k off => .ptr (ks.getD k 0) off
 | .slc k off n c => .slc (ks.getD k 0) off n c
 | s=>s
def FV.ren (ks:List Nat):FV Kc→FV Kc
 | .sc s => .sc (s.ren ks)
 | .ag l => .ag (l.map (Seg.ren ks))
 | .nsl n T l => .nsl n T (l.map (Seg.ren ks))
 | .clo F a b => .clo F (a.map fun c=>(c.1,c.2.map (Seg.ren ks))) (b.map fun c=>(c.1,c.2.map (Seg.ren ks)))
 | .un => .un
def AV.ren (ks:List Nat):AV Kc→AV Kc
 | .fv f => .fv (f.ren ks)
 | .tup l => .tup (l.map (FV.ren ks))
def Seg.inR (n:Nat):Seg Kc→Bool
 | .ptr k _=>decide (k<n)
 | .slc k _ _ _=>decide (k<n)
 | _=>true
def FV.inR (n:Nat):FV Kc→Bool
 | .sc s=>s.inR n
 | .ag l | .nsl _ _ l=>l.all (Seg.inR n)
 | .clo _ a b=>(a.all fun c=>c.2.all (Seg.inR n))&&(b.all fun c=>c.2.all (Seg.inR n))
 | .un=>true
def AV.inR (n:Nat):AV Kc→Bool
 | .fv f=>f.inR n
 | .tup l=>l.all (FV.inR n)
abbrev sub (β ks:List Nat):List Nat:=ks.map fun k=>β.getD k 0
theorem sub_at {β ks:List Nat} {k g:Nat} (hk:k<ks.length) (h:β[ks.getD k 0]?=some g):(sub β ks)[k]?=some g:=by
 rw [List.getElem?_map,List.getElem?_eq_getElem hk]
 rw [List.getD_eq_getElem?_getD,List.getElem?_eq_getElem hk] at h
 simp only [Option.getD_some] at h
 simp [h]
theorem Seg.ren_holds {β ks:List Nat} {s:Seg Kc} {cs:List Value} {w:World} (hr:s.inR ks.length=true) (h:(s.ren ks).holds β cs w):s.holds (sub β ks) cs w:=by
 cases s with
 | lit v=>exact h
 | sp s=>exact h
 | ptr k off=>obtain ⟨g,h1,e⟩:=h;exact ⟨g,sub_at (by simpa [Seg.inR] using hr) h1,e⟩
 | slc k off n c=>obtain ⟨g,h1,e⟩:=h;exact ⟨g,sub_at (by simpa [Seg.inR] using hr) h1,e⟩
theorem holdsL.ren {β ks:List Nat} {w:World}:∀ {l:List (Seg Kc)} {cs:List Value},l.all (Seg.inR ks.length)=true→holdsL β (l.map (Seg.ren ks)) cs w→holdsL (sub β ks) l cs w
 | [],_,_,h=>h
 | s::l,_,hn,⟨a,b,e,h1,h2⟩=>by
   rw [List.all_cons,Bool.and_eq_true] at hn
   exact ⟨a,b,e,Seg.ren_holds hn.1 h1,holdsL.ren hn.2 h2⟩
theorem holdsC.ren {β ks:List Nat} {w:World}:∀ {l:List (Bool×List (Seg Kc))} {vs:List Value},(l.all fun c=>c.2.all (Seg.inR ks.length))=true→holdsC β (l.map fun c=>(c.1,c.2.map (Seg.ren ks))) vs w→holdsC (sub β ks) l vs w
 | [],_,_,h=>h
 | (b,m)::l,_,hn,⟨v,r,e,h1,h2⟩=>by
   rw [List.all_cons,Bool.and_eq_true] at hn
   refine ⟨v,r,e,?_,holdsC.ren hn.2 h2⟩
   cases b with
   | true=>obtain ⟨cs,e,h1⟩:=h1;exact ⟨cs,e,h1.ren hn.1⟩
   | false=>exact holdsL.ren hn.1 h1
theorem FV.ren_holds {β ks:List Nat} {f:FV Kc} {v:Value} {w:World} (hr:f.inR ks.length=true) (h:(f.ren ks).holds β v w):f.holds (sub β ks) v w:=by
 cases f with
 | sc s=>exact Seg.ren_holds hr h
 | ag l=>obtain ⟨cs,e,hl⟩:=h;exact ⟨cs,e,hl.ren hr⟩
 | nsl n T l=>obtain ⟨g,cs,e,hg,hl⟩:=h;exact ⟨g,cs,e,hg,hl.ren hr⟩
 | clo F a b =>
   rw [FV.inR,Bool.and_eq_true] at hr
   obtain ⟨xs,ys,e,h1,h2⟩:=h
   exact ⟨xs,ys,e,h1.ren hr.1,h2.ren hr.2⟩
 | un=>trivial
theorem holdsF.ren {β ks:List Nat} {w:World}:∀ {l:List (FV Kc)} {vs:List Value},l.all (FV.inR ks.length)=true→holdsF β (l.map (FV.ren ks)) vs w→holdsF (sub β ks) l vs w
 | [],_,_,h=>h
 | f::l,_,hn,⟨v,r,e,h1,h2⟩=>by
   rw [List.all_cons,Bool.and_eq_true] at hn
   exact ⟨v,r,e,FV.ren_holds hn.1 h1,holdsF.ren hn.2 h2⟩
theorem AV.ren_holds {β ks:List Nat} {x:AV Kc} {v:Value} {w:World} (hr:x.inR ks.length=true) (h:(x.ren ks).holds β v w):x.holds (sub β ks) v w:=by
 cases x with
 | fv f=>exact FV.ren_holds hr h
 | tup l=>obtain ⟨vs,e,h⟩:=h;exact ⟨vs,e,h.ren hr⟩
theorem holdsA.ren {β ks:List Nat} {w:World}:∀ {l:List (AV Kc)} {vs:List Value},l.all (AV.inR ks.length)=true→holdsA β (l.map (AV.ren ks)) vs w→holdsA (sub β ks) l vs w
 | [],_,_,h=>h
 | x::l,_,hn,⟨v,r,e,h1,h2⟩=>by
   rw [List.all_cons,Bool.and_eq_true] at hn
   exact ⟨v,r,e,AV.ren_holds hn.1 h1,holdsA.ren hn.2 h2⟩
def FitsM (P:Program) (f:FuncId) (bl:List (TypeId×List (Seg Kc))) (args:List (AV Kc)) (x:AV Kc):Prop :=
 ∀ β w vs,β.length=bl.length→β.Nodup→Mem β (bl.map some) w→holdsA β args vs w→Calls P f vs.toArray w fun e w' => ∃ v,e = .returned v∧Below w.heap.size w w'∧x.holds [] v w'
section
variable {P:Program} {f:FuncId} {w00:World} {Out:Value→World→Prop}
theorem fitsM_of {fn:Func} {bl:List (TypeId×List (Seg Kc))} {args:List (AV Kc)} {x:AV Kc} (hfn:P.funcs[f]?=some fn) (hb:fn.body.isSome=true) (hn:(args.length≤fn.ntmps:Bool)=true)
 (h:∀ w00,Ok P f w00 (fun v w=>x.holds [] v w) (.items [.code (fn.body.getD .skip)] { slots:=args++List.replicate (fn.ntmps-args.length) .un,blocks:=bl,ro:=bl.length })):FitsM P f bl args x:=by
 intro β w vs hl hnd hM hv
 have hb2:fn.body=some (fn.body.getD .skip):=by
  cases hb2:fn.body with
  | none=>rw [hb2] at hb;cases hb
  | some c=>rfl
 refine (eM (w00:=w) (Out:=fun v w=>x.holds [] v w) hfn hb2 args bl β vs (fn.ntmps-args.length) (by simp at hn;omega) hv hl hnd hM (fun g hg=>?_) (h w).good).mono ?_
 ·obtain ⟨k,hk⟩:=List.getElem?_of_mem hg
  have hk' : k<bl.length:=by rw [← hl];exact (List.getElem?_eq_some_iff.1 hk).1
  obtain ⟨g',cs,hg',hh,_⟩:=hM k bl[k].1 bl[k].2 (by simp [hk'])
  rw [hk] at hg'
  injection hg' with hg'
  subst hg'
  exact lt_of_block hh
 ·rintro e w' ⟨v,rfl,hb,ho⟩
  exact ⟨v,rfl,hb,ho⟩
theorem mem_sub {β ks:List Nat} {w:World} {mem:List (Option (TypeId×List (Seg Kc)))} {bl:List (TypeId×List (Seg Kc))} (hM:Mem β mem w) (hb:ks.map (fun k=>mem[k]?)=bl.map (fun b=>some (some b))) (hp:(bl.all fun b=>b.2.all Seg.noPtr)=true):Mem (sub β ks) (bl.map some) w:=by
 intro k T l hk
 rw [List.getElem?_map] at hk
 cases hbk:bl[k]? with
 | none=>rw [hbk] at hk;cases hk
 | some b =>
   rw [hbk] at hk
   simp only [Option.map_some,Option.some.injEq] at hk
   subst hk
   have h1:(ks.map (fun k=>mem[k]?))[k]?=some (some (some (T,l))):=by rw [hb,List.getElem?_map,hbk];rfl
   rw [List.getElem?_map] at h1
   cases hkk:ks[k]? with
   | none=>rw [hkk] at h1;cases h1
   | some j =>
     rw [hkk] at h1
     simp only [Option.map_some,Option.some.injEq] at h1
     obtain ⟨g,cs,h2,h3,h4⟩:=hM j T l h1
     refine ⟨g,cs,?_,h3,holdsL.noPtr ?_ h4⟩
     ·rw [List.getElem?_map,hkk]
      simp [h2]
     ·exact List.all_eq_true.1 hp (T,l) (List.mem_of_getElem? hbk)
theorem yX {γ:List Nat} {w:World} {bl:List (TypeId×List (Seg Kc))} (hl:γ.length=bl.length) (hM:Mem γ (bl.map some) w) (hnd:(bl.map (·.1)).Nodup):γ.Nodup:=by
 rw [List.Nodup,List.pairwise_iff_getElem] at hnd ⊢
 intro i j hi hj hij he
 have hi' : i<bl.length:=by omega
 have hj' : j<bl.length:=by omega
 obtain ⟨g,cs,h1,h2,_⟩:=hM i bl[i].1 bl[i].2 (by simp [hi'])
 obtain ⟨g',cs',h3,h4,_⟩:=hM j bl[j].1 bl[j].2 (by simp [hj'])
 rw [List.getElem?_eq_getElem hi] at h1
 rw [List.getElem?_eq_getElem hj] at h3
 injection h1 with h1
 injection h3 with h3
 rw [← h1,he,h3,h4] at h2
 injection h2 with h2
 injection h2 with _ h5 _
 refine hnd i j (by simpa using hi') (by simpa using hj') hij ?_
 simp [h5]
theorem Ok.callM {c:Cfg Kc} (fn:FuncId) (ks:List Nat) (bl:List (TypeId×List (Seg Kc))) (args:List (AV Kc)) {x:AV Kc} (h:FitsM P fn bl args x) (hf:c.callee P=some fn) (ha:c.args P=args.map (AV.ren ks)) (hx:c.okT x=true) (hnp:x.noPtr=true)
 (hb:ks.map (fun k=>c.mem[k]?)=bl.map (fun b=>some (some b))) (hr:args.all (AV.inR ks.length)=true) (hp:(bl.all fun b=>b.2.all Seg.noPtr)=true) (hnd:(bl.map (·.1)).Nodup) (hfn:∀ (args:Array Value) (w:World),(callFunc fn args).run P w = .ok (.enter fn args) w)
 (hg:Ok P f w00 Out (c.give x)):Ok P f w00 Out c :=
 ⟨pM fn x hf hx hfn (fun β w vs _ hM hv=>by
  rw [ha] at hv
  have hl:(sub β ks).length=bl.length:=by have:=congrArg List.length hb;simpa using this
  have hM':=mem_sub hM hb hp
  refine (h (sub β ks) w vs hl (yX hl hM' hnd) hM' (hv.ren hr)).mono ?_
  rintro e w' ⟨v,e1,e2,e3⟩
  exact ⟨v,e1,e2,AV.noPtr_holds hnp e3⟩) hg.good⟩
end
theorem kgoM {f:FuncId} {fn:Func} {bl:List (TypeId×List (Seg Kn))} {args:List (AV Kn)} {x:AV Kn} (hfn:Tryz.prog.funcs[f]?=some fn) (hc:(fn.body.isSome,decide (args.length≤fn.ntmps))=(true,true)) (_h:True)
 (h:∀ w00,Ok Tryz.prog f w00 (fun v w=>x.holds [] v w) (cG Tryz.prog 1000 (.items [.code (fn.body.getD .skip)] { slots:=args++List.replicate (fn.ntmps-args.length) .un,blocks:=bl,ro:=bl.length }))):FitsM Tryz.prog f bl args x:=by
 simp only [Prod.mk.injEq] at hc
 exact fitsM_of hfn hc.1 hc.2 fun w00=>Ok.go (by kernel_rfl) lU 1000 (h w00)
theorem yY {f:FuncId} {w00:World} {Out:Value→World→Prop} {c:Cfg Kn} (fn:FuncId) (ks:List Nat) (bl:List (TypeId×List (Seg Kn))) (args:List (AV Kn)) {x:AV Kn} (h:FitsM Tryz.prog fn bl args x)
 (hc:(c.callee Tryz.prog,c.args Tryz.prog,c.okT x,x.noPtr,ks.map (fun k=>c.mem[k]?),args.all (AV.inR ks.length),(bl.all fun b=>b.2.all Seg.noPtr))=(some fn,args.map (AV.ren ks),true,true,bl.map (fun b=>some (some b)),true,true)) (hnd:(bl.map (·.1)).Nodup) (hfn:∀ (args:Array Value) (w:World),(callFunc fn args).run Tryz.prog w = .ok (.enter fn args) w)
 (hg:Ok Tryz.prog f w00 Out (cG Tryz.prog 1000 (c.give x))):Ok Tryz.prog f w00 Out c:=by
 simp only [Prod.mk.injEq] at hc
 obtain ⟨h1,h2,h3,h4,h5,h6,h7⟩:=hc
 exact Ok.callM fn ks bl args h h1 h2 h3 h4 h5 h6 h7 hnd hfn (Ok.go (by kernel_rfl) lU 1000 hg)
end Ab
end Go.Proofs.YtklnecajplnboaaGreatDoor
