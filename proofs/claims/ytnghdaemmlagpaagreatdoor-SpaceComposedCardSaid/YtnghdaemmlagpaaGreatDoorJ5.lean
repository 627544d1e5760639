/- Parts of the proof, joined. -/
import Derived.Test.YtnghdaemmlagpaaGreatDoorJ4
import Derived.Test.YtnghdaemmlagpaaGreatDoorJ1
import Derived.Test.YtnghdaemmlagpaaGreatDoorShelf
set_option maxHeartbeats 4000000
set_option linter.unusedSimpArgs false
set_option linter.unusedVariables false
set_option linter.constructorNameAsVariable false
namespace Go.Proofs.YtnghdaemmlagpaaGreatDoor
section
open Go.RowKit Pl
attribute [local simp] known specOf Kd.spec Sp.is isVar Oper.looksAt Op.operands Call.operands Act.eval
set_option maxRecDepth 100000 in
set_option maxHeartbeats 8000000 in
theorem times_nb (v v' : Value) (p q:Rat) (w:World) (h:Nb w v p) (h' : Nb w v' q) (hp:Lf 38 p) (hq:Lf 38 q):Calls Tryz.prog 111 #[v,v'] w (GivesNb w (p*q)):=by
 obtain ⟨n1,d1,a1,rfl⟩:=h.form
 obtain ⟨n2,d2,a2,rfl⟩:=h'.form
 obtain ⟨hk1,hk2,hk3,hb1⟩:=eK w (.cells #[.int .i64 n1,.int .i64 d1,.pointer a1] 66) (.cells #[.int .i64 n2,.int .i64 d2,.pointer a2] 66) (.cells #[.int .i64 0,.int .i64 0,.pointer none] 66)
 have H:=aH (aI (h.below hb1) (aI (h'.below hb1) (aI hp (aI hq (aI hb1 (aI hk1 (aI hk2 hk3)))))))
 by_cases hs:Sm p∧Sm q
 ·have e1:Value.agg #[.int .i64 n1,.int .i64 d1,.pointer a1]=lP p.num p.den:=by
   rcases h with ⟨_,e⟩|⟨hn,_⟩
   ·exact e
   ·exact absurd hs.1 hn
  have e2:Value.agg #[.int .i64 n2,.int .i64 d2,.pointer a2]=lP q.num q.den:=by
   rcases h' with ⟨_,e⟩|⟨hn,_⟩
   ·exact e
   ·exact absurd hs.2 hn
  have ha:∀ w',Calls Tryz.prog 153 #[.agg #[.int .i64 n1,.int .i64 d1,.pointer a1],.agg #[.int .i64 n2,.int .i64 d2,.pointer a2]] w' (Gives w' (.bool true)):=fun w'=>sZ _ _ p q w' hs.1 hs.2 e1 e2
  have hc:∀ w',Calls Tryz.prog 165 #[.agg #[.int .i64 n1,.int .i64 d1,.pointer a1],.agg #[.int .i64 n2,.int .i64 d2,.pointer a2]] w' (iD w' (p*q)):=fun w'=>by
   rw [e1,e2]
   exact zA p q w' hs.1 hs.2
  have HS:=aH (aI ha hc)
  clear ha hc e1 e2 hs h h' hp hq hb1 hk1 hk2 hk3
  go_enter Tryz.func111,Tryz.ntmps111
  go_wp2_with fail
  refine (HS.out.1 _).mono ?_
  rintro e w2 ⟨rfl,b2⟩
  have B2:=aH (aI (Below.step_trans H.out.2.2.2.2.1 b2) (aI b2 (aI (aK b2 H.out.2.2.2.2.2.1) (aI (aK b2 H.out.2.2.2.2.2.2.1) (aK b2 H.out.2.2.2.2.2.2.2)))))
  obtain ⟨⟨u0,u1,u2⟩,_⟩:=dM (aK b2 H.out.2.2.2.2.2.1)
  obtain ⟨⟨u3,u4,u5⟩,_⟩:=dM (aK b2 H.out.2.2.2.2.2.2.1)
  clear b2
  go_wp2_with fail
  refine (HS.out.2 _).mono ?_
  rintro e w3 ⟨rn,rd,ok,rfl,hok,b3⟩
  have hA3:=aK b3 B2.out.2.2.1
  have hC3:=aK b3 B2.out.2.2.2.1
  have hR3:=aK b3 B2.out.2.2.2.2
  have B3:=aH (aI hok (aI (Below.step_trans B2.out.1 b3) (aI (Below.step_trans B2.out.2.1 b3) (aI hA3 (aI hC3 hR3)))))
  clear u0 u1 u2 u3 u4 u5 b3 hok hA3 hC3 hR3
  have hlt3:=lt_of_block B3.out.2.2.2.2.2
  cases ok
  ·go_wp2
   have hb4:Below w3.heap.size w3 (w3.alloc (.cells #[.int .i64 rn,.int .i64 rd,.pointer none] 66)):=(aB _ _).alloc (aR _) _
   have B4:=aH (aI (Below.step_trans B3.out.2.1 hb4) (aI (Below.step_trans B3.out.2.2.1 hb4) (aI (aK hb4 B3.out.2.2.2.1) (aI (aK hb4 B3.out.2.2.2.2.1) (aK hb4 B3.out.2.2.2.2.2)))))
   clear hb4
   generalize w3.alloc (.cells #[.int .i64 rn,.int .i64 rd,.pointer none] 66)=w4 at *
   have hA:=B4.out.2.2.1
   have hC:=B4.out.2.2.2.1
   have hR:=B4.out.2.2.2.2
   have t1:∀ w',Base [w.heap.size+1+1] w4 w'→Calls Tryz.prog 155 #[.agg #[.int .i64 n1,.int .i64 d1,.pointer a1]] w' (TyPost w' (fM p)):=fun w' hB =>
    GivesFr.ty (cF _ _ _ (Nb.ext (K:=Kn) (fun _=>rfl) (fun _=>rfl) (H.out.1.below B4.out.2.1) (hB.extT B4.out.2.2.2.2 (by simp [hotObj,Kn]))))
   have t2:∀ w',Base [w.heap.size+1+1] w4 w'→Calls Tryz.prog 155 #[.agg #[.int .i64 n2,.int .i64 d2,.pointer a2]] w' (TyPost w' (fM q)):=fun w' hB =>
    GivesFr.ty (cF _ _ _ (Nb.ext (K:=Kn) (fun _=>rfl) (fun _=>rfl) (H.out.2.1.below B4.out.2.1) (hB.extT B4.out.2.2.2.2 (by simp [hotObj,Kn]))))
   have t3:∀ w' x y,Fr w' x p→Fr w' y q→Calls Tryz.prog 166 #[x,y] w' (TyPost w' (fM (p*q))):=fun w' x y hx hy=>GivesFr.ty (sY x y p q w' hx hy H.out.2.2.1 H.out.2.2.2.1)
   have t4:∀ w' x,Fr w' x (p*q)→Calls Tryz.prog 74 #[x] w' (TyPost w' (kK (p*q))):=fun w' x hx=>GivesNb.ty (fB x _ w' hx)
   have T:=aH (aI t1 (aI t2 (aI t3 t4)))
   clear t1 t2 t3 t4
   refine wp_region_ty Kn [w.heap.size+1+1] (by kernel_rfl) (by kernel_rfl) ?_
   repeat (first|(apply bV (hg:=rfl);case h=>(intro A w' hB hk;simp at hk;have c_hA:=aA (hB.blk hA (by simp <;> omega));have c_hC:=aA (hB.blk hC (by simp <;> omega));first|(simp [go_sem,hk,c_hA,c_hC] <;> rfl)|(simp [go_sem,c_hA,c_hC];rfl)))|(refine aX _ ?_ (by first|exact .inl rfl|exact .inr rfl) (by rfl) (by simp [specOf,Kd.spec];rfl) ?_ rfl ?_;(first|exact Sp.is_stable _ _|exact aM (fun _=>rfl) _|exact aV (fun _=>rfl) (fun _=>rfl) _)))
   refine aO (fM p) (aM (fun _=>rfl) _) rfl (fun A w' hB hk=>?_) ?_;(simp at hk;have c_hA:=aA (hB.blk hA (by simp <;> omega));simp [go_sem,hk,c_hA];refine aG ?_;exact T.out.1 _ hB)
   repeat (first|(apply bV (hg:=rfl);case h=>(intro A w' hB hk;simp at hk;have c_hA:=aA (hB.blk hA (by simp <;> omega));have c_hC:=aA (hB.blk hC (by simp <;> omega));first|(simp [go_sem,hk,c_hA,c_hC] <;> rfl)|(simp [go_sem,c_hA,c_hC];rfl)))|(refine aX _ ?_ (by first|exact .inl rfl|exact .inr rfl) (by rfl) (by simp [specOf,Kd.spec];rfl) ?_ rfl ?_;(first|exact Sp.is_stable _ _|exact aM (fun _=>rfl) _|exact aV (fun _=>rfl) (fun _=>rfl) _)))
   refine aO (fM q) (aM (fun _=>rfl) _) rfl (fun A w' hB hk=>?_) ?_;(simp at hk;have c_hA:=aA (hB.blk hA (by simp <;> omega));simp [go_sem,hk,c_hA];refine aG ?_;exact T.out.2.1 _ hB)
   refine aO (fM (p*q)) (aM (fun _=>rfl) _) rfl (fun A w' hB hk=>?_) ?_;(simp at hk;have c_hA:=aA (hB.blk hA (by simp <;> omega));simp [go_sem,hk,c_hA];refine aG ?_;exact T.out.2.2.1 _ _ _ hk.1 hk.2)
   refine aO (kK (p*q)) (aV (fun _=>rfl) (fun _=>rfl) _) rfl (fun A w' hB hk=>?_) ?_;(simp at hk;have c_hA:=aA (hB.blk hA (by simp <;> omega));simp [go_sem,hk,c_hA];refine aG ?_;exact T.out.2.2.2 _ _ hk)
   refine iB (w.heap.size+1+1) (_) (coNb (p*q)) (eG (fun _=>rfl) (fun _=>rfl) _) rfl rfl (by simp) (by assumption) (by simp [hotObj,Ku,Kn]) (fun A w' hB hk h0=>?_) ?_;(simp at hk;have c_hA:=aA (hB.blk hA (by simp <;> omega));have c0:=aA h0;have f0:=aZ h0;obtain ⟨k1,k2⟩:=hk;obtain ⟨y1,y2,y3,e1⟩:=(show Nb _ _ _ from k2).form;rw [e1] at k2;simp [go_sem,k1,e1,c0,f0];exact ⟨_,eJ h0 _ _ _,_,_,_,rfl,k2⟩)
   refine ⟨by first|rfl|decide,fun f w2 hB hF hAp=>?_⟩;simp [Final1,Sp.is,isVar] at hF;simp only [frameOf]
   obtain ⟨o,⟨y1,y2,y3,rfl,k3⟩,ho⟩:=hF.1
   obtain ⟨⟨r0,r1,r2⟩,_⟩:=dM ho
   have K:=aH (aI k3 hB)
   clear k3 hB ho hA hC hR hAp hF
   go_wp2
   refine bodyPost_ret (v := .agg #[.int .i64 y1,.int .i64 y2,.pointer y3]) (by simp [results,Tryz.results111,go_sem,r0,r1,r2,Act.put]) rfl ⟨_,rfl,K.out.1,?_⟩
   exact Base.belowT K.out.2 B4.out.1 (by omega)
  ·obtain ⟨hsm,hv⟩:=B3.out.1 rfl
   obtain ⟨⟨g0,g1,g2⟩,f0,f1,f2⟩:=dM B3.out.2.2.2.2.2
   have HV:=aH (aI hsm hv)
   clear hsm hv
   have hpast:∀ (W:World) (o:Obj) (i:Nat),W.heap.size=w3.heap.size→(W.alloc o).cell? ⟨w.heap.size+1+1,i,none⟩=W.cell? ⟨w.heap.size+1+1,i,none⟩:=fun W o i h=>World.cell?_alloc_past _ _ _ (by show w.heap.size+1+1<W.heap.size;omega)
   have HP:=aH hpast
   clear hpast
   go_wp2
   refine bodyPost_ret (v := .agg #[.int .i64 rn,.int .i64 rd,.pointer none]) (by simp [results,Tryz.results111,go_sem,g0,g1,g2,HP.out]) rfl ⟨_,rfl,.inl HV.out,?_⟩
   repeat (first|exact B3.out.2.1|(refine Below.setCell ?_ (by first|omega|(simp <;> omega)) _)|(refine Below.alloc ?_ (by first|omega|(simp <;> omega)) _)|(refine Below.drew ?_)|exact aB _ _)
 ·have ha:∀ w',Below w.heap.size w w'→Calls Tryz.prog 153 #[.agg #[.int .i64 n1,.int .i64 d1,.pointer a1],.agg #[.int .i64 n2,.int .i64 d2,.pointer a2]] w' (Gives w' (.bool false)):=fun w' hb=>wC _ _ p q w' (h.below hb) (h'.below hb) hs
  have HS:=aH ha
  clear ha hs h h' hp hq hb1 hk1 hk2 hk3
  go_enter Tryz.func111,Tryz.ntmps111
  go_wp2_with fail
  refine (HS.out _ H.out.2.2.2.2.1).mono ?_
  rintro e w2 ⟨rfl,b2⟩
  have B2:=aH (aI (Below.step_trans H.out.2.2.2.2.1 b2) (aI b2 (aI (aK b2 H.out.2.2.2.2.2.1) (aI (aK b2 H.out.2.2.2.2.2.2.1) (aK b2 H.out.2.2.2.2.2.2.2)))))
  clear b2
  go_wp2
  have hA:=B2.out.2.2.1
  have hC:=B2.out.2.2.2.1
  have hR:=B2.out.2.2.2.2
  have t1:∀ w',Base [w.heap.size+1+1] w2 w'→Calls Tryz.prog 155 #[.agg #[.int .i64 n1,.int .i64 d1,.pointer a1]] w' (TyPost w' (fM p)):=fun w' hB =>
   GivesFr.ty (cF _ _ _ (Nb.ext (K:=Kn) (fun _=>rfl) (fun _=>rfl) (H.out.1.below B2.out.2.1) (hB.extT B2.out.2.2.2.2 (by simp [hotObj,Kn]))))
  have t2:∀ w',Base [w.heap.size+1+1] w2 w'→Calls Tryz.prog 155 #[.agg #[.int .i64 n2,.int .i64 d2,.pointer a2]] w' (TyPost w' (fM q)):=fun w' hB =>
   GivesFr.ty (cF _ _ _ (Nb.ext (K:=Kn) (fun _=>rfl) (fun _=>rfl) (H.out.2.1.below B2.out.2.1) (hB.extT B2.out.2.2.2.2 (by simp [hotObj,Kn]))))
  have t3:∀ w' x y,Fr w' x p→Fr w' y q→Calls Tryz.prog 166 #[x,y] w' (TyPost w' (fM (p*q))):=fun w' x y hx hy=>GivesFr.ty (sY x y p q w' hx hy H.out.2.2.1 H.out.2.2.2.1)
  have t4:∀ w' x,Fr w' x (p*q)→Calls Tryz.prog 74 #[x] w' (TyPost w' (kK (p*q))):=fun w' x hx=>GivesNb.ty (fB x _ w' hx)
  have T:=aH (aI t1 (aI t2 (aI t3 t4)))
  clear t1 t2 t3 t4
  refine wp_region_ty Kn [w.heap.size+1+1] (by kernel_rfl) (by kernel_rfl) ?_
  repeat (first|(apply bV (hg:=rfl);case h=>(intro A w' hB hk;simp at hk;have c_hA:=aA (hB.blk hA (by simp <;> omega));have c_hC:=aA (hB.blk hC (by simp <;> omega));first|(simp [go_sem,hk,c_hA,c_hC] <;> rfl)|(simp [go_sem,c_hA,c_hC];rfl)))|(refine aX _ ?_ (by first|exact .inl rfl|exact .inr rfl) (by rfl) (by simp [specOf,Kd.spec];rfl) ?_ rfl ?_;(first|exact Sp.is_stable _ _|exact aM (fun _=>rfl) _|exact aV (fun _=>rfl) (fun _=>rfl) _)))
  refine aO (fM p) (aM (fun _=>rfl) _) rfl (fun A w' hB hk=>?_) ?_;(simp at hk;have c_hA:=aA (hB.blk hA (by simp <;> omega));simp [go_sem,hk,c_hA];refine aG ?_;exact T.out.1 _ hB)
  repeat (first|(apply bV (hg:=rfl);case h=>(intro A w' hB hk;simp at hk;have c_hA:=aA (hB.blk hA (by simp <;> omega));have c_hC:=aA (hB.blk hC (by simp <;> omega));first|(simp [go_sem,hk,c_hA,c_hC] <;> rfl)|(simp [go_sem,c_hA,c_hC];rfl)))|(refine aX _ ?_ (by first|exact .inl rfl|exact .inr rfl) (by rfl) (by simp [specOf,Kd.spec];rfl) ?_ rfl ?_;(first|exact Sp.is_stable _ _|exact aM (fun _=>rfl) _|exact aV (fun _=>rfl) (fun _=>rfl) _)))
  refine aO (fM q) (aM (fun _=>rfl) _) rfl (fun A w' hB hk=>?_) ?_;(simp at hk;have c_hA:=aA (hB.blk hA (by simp <;> omega));simp [go_sem,hk,c_hA];refine aG ?_;exact T.out.2.1 _ hB)
  refine aO (fM (p*q)) (aM (fun _=>rfl) _) rfl (fun A w' hB hk=>?_) ?_;(simp at hk;have c_hA:=aA (hB.blk hA (by simp <;> omega));simp [go_sem,hk,c_hA];refine aG ?_;exact T.out.2.2.1 _ _ _ hk.1 hk.2)
  refine aO (kK (p*q)) (aV (fun _=>rfl) (fun _=>rfl) _) rfl (fun A w' hB hk=>?_) ?_;(simp at hk;have c_hA:=aA (hB.blk hA (by simp <;> omega));simp [go_sem,hk,c_hA];refine aG ?_;exact T.out.2.2.2 _ _ hk)
  refine iB (w.heap.size+1+1) (_) (coNb (p*q)) (eG (fun _=>rfl) (fun _=>rfl) _) rfl rfl (by simp) (by assumption) (by simp [hotObj,Ku,Kn]) (fun A w' hB hk h0=>?_) ?_;(simp at hk;have c_hA:=aA (hB.blk hA (by simp <;> omega));have c0:=aA h0;have f0:=aZ h0;obtain ⟨k1,k2⟩:=hk;obtain ⟨y1,y2,y3,e1⟩:=(show Nb _ _ _ from k2).form;rw [e1] at k2;simp [go_sem,k1,e1,c0,f0];exact ⟨_,eJ h0 _ _ _,_,_,_,rfl,k2⟩)
  refine ⟨by first|rfl|decide,fun f w2 hB hF hAp=>?_⟩;simp [Final1,Sp.is,isVar] at hF;simp only [frameOf]
  obtain ⟨o,⟨y1,y2,y3,rfl,k3⟩,ho⟩:=hF.1
  obtain ⟨⟨r0,r1,r2⟩,_⟩:=dM ho
  have K:=aH (aI k3 hB)
  clear k3 hB ho hA hC hR hAp hF
  go_wp2
  refine bodyPost_ret (v := .agg #[.int .i64 y1,.int .i64 y2,.pointer y3]) (by simp [results,Tryz.results111,go_sem,r0,r1,r2,Act.put]) rfl ⟨_,rfl,K.out.1,?_⟩
  exact Base.belowT K.out.2 B2.out.1 (by omega)
end
section
open Go.RowKit Pl
attribute [local simp] known specOf Kd.spec Sp.is isVar Oper.looksAt Op.operands Call.operands Act.eval
set_option maxRecDepth 100000 in
set_option maxHeartbeats 8000000 in
theorem minus_nb (v v' : Value) (p q:Rat) (w:World) (h:Nb w v p) (h' : Nb w v' q) (hp:Lf 36 p) (hq:Lf 36 q):Calls Tryz.prog 112 #[v,v'] w (GivesNb w (p-q)):=by
 have hsub:p-q=p + -q:=Rat.sub_eq_add_neg p q
 rw [hsub]
 obtain ⟨n1,d1,a1,rfl⟩:=h.form
 obtain ⟨n2,d2,a2,rfl⟩:=h'.form
 obtain ⟨hk1,hk2,hk3,hb1⟩:=eK w (.cells #[.int .i64 n1,.int .i64 d1,.pointer a1] 66) (.cells #[.int .i64 n2,.int .i64 d2,.pointer a2] 66) (.cells #[.int .i64 0,.int .i64 0,.pointer none] 66)
 have H:=aH (aI (h.below hb1) (aI (h'.below hb1) (aI hp (aI hq.neg (aI hb1 (aI hk1 (aI hk2 hk3)))))))
 clear h h' hp hq hb1 hk1 hk2 hk3 hsub
 go_enter Tryz.func112,Tryz.ntmps112
 go_wp2
 generalize ((w.alloc (.cells #[.int .i64 n1,.int .i64 d1,.pointer a1] 66)).alloc (.cells #[.int .i64 n2,.int .i64 d2,.pointer a2] 66)).alloc (.cells #[.int .i64 0,.int .i64 0,.pointer none] 66)=w1 at *
 have hA:=H.out.2.2.2.2.2.1
 have hC:=H.out.2.2.2.2.2.2.1
 have hR:=H.out.2.2.2.2.2.2.2
 have t1:∀ w',Base [w.heap.size+1+1] w1 w'→Calls Tryz.prog 151 #[.agg #[.int .i64 n2,.int .i64 d2,.pointer a2]] w' (TyPost w' (kK (-q))):=fun w' hB =>
  GivesNb.ty (yY _ _ _ (Nb.ext (K:=Kn) (fun _=>rfl) (fun _=>rfl) H.out.2.1 (hB.extT hR (by simp [hotObj,Kn]))))
 have t2:∀ w' x,Base [w.heap.size+1+1] w1 w'→Nb w' x (-q)→Calls Tryz.prog 96 #[.agg #[.int .i64 n1,.int .i64 d1,.pointer a1],x] w' (TyPost w' (kK (p + -q))):=fun w' x hB hx =>
  GivesNb.ty (plus_nb _ _ _ _ _ (Nb.ext (K:=Kn) (fun _=>rfl) (fun _=>rfl) H.out.1 (hB.extT hR (by simp [hotObj,Kn]))) hx H.out.2.2.1 H.out.2.2.2.1)
 have T:=aH (aI t1 t2)
 clear t1 t2
 refine wp_region_ty Kn [w.heap.size+1+1] (by kernel_rfl) (by kernel_rfl) ?_
 repeat (first|(apply bV (hg:=rfl);case h=>(intro A w' hB hk;simp at hk;have c_hA:=aA (hB.blk hA (by simp <;> omega));have c_hC:=aA (hB.blk hC (by simp <;> omega));first|(simp [go_sem,hk,c_hA,c_hC] <;> rfl)|(simp [go_sem,c_hA,c_hC];rfl)))|(refine aX _ ?_ (by first|exact .inl rfl|exact .inr rfl) (by rfl) (by simp [specOf,Kd.spec];rfl) ?_ rfl ?_;(first|exact Sp.is_stable _ _|exact aV (fun _=>rfl) (fun _=>rfl) _)))
 refine aO (kK (-q)) (aV (fun _=>rfl) (fun _=>rfl) _) rfl (fun A w' hB hk=>?_) ?_;(simp at hk;have c_hA:=aA (hB.blk hA (by simp <;> omega));simp [go_sem,hk,c_hA];refine aG ?_;exact T.out.1 _ hB)
 refine aO (kK (p + -q)) (aV (fun _=>rfl) (fun _=>rfl) _) rfl (fun A w' hB hk=>?_) ?_;(simp at hk;have c_hA:=aA (hB.blk hA (by simp <;> omega));simp [go_sem,hk,c_hA];refine aG ?_;exact T.out.2 _ _ hB hk.2)
 refine iB (w.heap.size+1+1) (_) (coNb (p + -q)) (eG (fun _=>rfl) (fun _=>rfl) _) rfl rfl (by simp) (by assumption) (by simp [hotObj,Ku,Kn]) (fun A w' hB hk h0=>?_) ?_;(simp at hk;have c_hA:=aA (hB.blk hA (by simp <;> omega));have c0:=aA h0;have f0:=aZ h0;obtain ⟨k1,k2⟩:=hk;obtain ⟨y1,y2,y3,e1⟩:=(show Nb _ _ _ from k2).form;rw [e1] at k2;simp [go_sem,k1,e1,c0,f0];exact ⟨_,eJ h0 _ _ _,_,_,_,rfl,k2⟩)
 refine ⟨by first|rfl|decide,fun f w2 hB hF hAp=>?_⟩;simp [Final1,Sp.is,isVar] at hF;simp only [frameOf]
 obtain ⟨o,⟨y1,y2,y3,rfl,k3⟩,ho⟩:=hF.1
 obtain ⟨⟨r0,r1,r2⟩,_⟩:=dM ho
 have K:=aH (aI k3 hB)
 clear k3 hB ho hA hC hR hAp hF
 go_wp2
 refine bodyPost_ret (v := .agg #[.int .i64 y1,.int .i64 y2,.pointer y3]) (by simp [results,Tryz.results112,go_sem,r0,r1,r2,Act.put]) rfl ⟨_,rfl,K.out.1,?_⟩
 exact Base.belowT K.out.2 H.out.2.2.2.2.1 (by omega)
end
section
open Go.RowKit Pl
attribute [local simp] known specOf Kd.spec Sp.is isVar Oper.looksAt Op.operands Call.operands Act.eval
theorem inv_form {q:Rat} (h0:q≠0):(q⁻¹).num=sg (decide (q.num<0)) q.den∧(q⁻¹).den=q.num.natAbs:=by
 have h:=Parts.inv (Parts.self q) h0
 exact ⟨h.num_eq,h.2.2.symm⟩
theorem sm_inv {q:Rat} (h:Sm q) (h0:q≠0):Sm q⁻¹:=by
 obtain ⟨e1,e2⟩:=inv_form h0
 refine ⟨?_,by rw [e2];exact h.1⟩
 rw [e1]
 cases decide (q.num<0)
 ·simpa [sg] using h.2
 ·simpa [sg] using h.2
set_option maxRecDepth 100000 in
set_option maxHeartbeats 8000000 in
theorem over_nb (v v' : Value) (p q:Rat) (w:World) (h:Nb w v p) (h' : Nb w v' q) (hp:Lf 38 p) (hq:Lf 38 q) (h0:q≠0):Calls Tryz.prog 79 #[v,v'] w (GivesNb w (p/q)):=by
 rw [Rat.div_def]
 obtain ⟨n1,d1,a1,rfl⟩:=h.form
 have hx:∀ w' x,Nb w' (.agg #[.int .i64 n1,.int .i64 d1,.pointer a1]) p→Nb w' x q⁻¹→Calls Tryz.prog 111 #[.agg #[.int .i64 n1,.int .i64 d1,.pointer a1],x] w' (TyPost w' (kK (p*q⁻¹))):=fun w' x y1 y2 =>
  GivesNb.ty (times_nb _ _ _ _ _ y1 y2 hp hq.inv)
 obtain ⟨f1,f2⟩:=inv_form h0
 have hsi:=fun hs=>sm_inv (q:=q) hs h0
 have hin:∀ v w',Fr w' v q→Calls Tryz.prog 146 #[v] w' (TyPost w' (fM q⁻¹)):=fun v w' hv=>GivesFr.ty (inverse_any v q w' hv h0)
 have hz:q.num≠0:=fun e=>h0 (Rat.num_eq_zero.1 e)
 generalize q⁻¹=r at *
 rcases h' with ⟨hs,rfl⟩|⟨hs,g,s1,s2,rfl,hk,g1,g2⟩
 ·have mn:=jU hs
  have md:=jJ hs
  have hsr:=hsi hs
  unfold lP
  clear hsi hin hq h0
  obtain ⟨m,hm⟩:∃ m,m=q.num:=⟨_,rfl⟩
  obtain ⟨k,hk⟩:∃ k:Int,k=(q.den:Int):=⟨_,rfl⟩
  rw [← hm] at mn hz f1 f2 ⊢
  rw [← hk] at md ⊢
  have hf1:r.num=if m<0 then -k else k:=by
   rw [f1,hk]
   by_cases h:m<0 <;> simp [sg,h]
  obtain ⟨mn1,mn2⟩:=mn
  obtain ⟨md1,md2⟩:=md
  clear hm hk hs f1
  obtain ⟨hk1,hk2,hk3,hb1⟩:=eK w (.cells #[.int .i64 n1,.int .i64 d1,.pointer a1] 66) (.cells #[.int .i64 m,.int .i64 (k-1),.pointer none] 66) (.cells #[.int .i64 0,.int .i64 0,.pointer none] 66)
  have t1:∀ w',Calls Tryz.prog 147 #[.agg #[.int .i64 m,.int .i64 (k-1),.pointer none]] w' (TyPost w' (Sp.is (.int .i64 k))):=fun w'=>by
   have:=Gives.ty (nV m (k-1) none w' (by omega) (by omega))
   rwa [Int.sub_add_cancel] at this
  have k1:IntKind.i64.wrap (-k) = -k:=by rw [IntKind.wrap_i64];omega
  have k2:IntKind.i64.wrap (-m) = -m:=by rw [IntKind.wrap_i64];omega
  by_cases hneg:m<0
  ·rw [if_pos hneg] at hf1
   have t2:∀ w',Calls Tryz.prog 141 #[.int .i64 (-k),.int .i64 (-m)] w' (TyPost w' (kK r)):=fun w' =>
    (uU (-k) (-m) w' (by omega) (by omega)).mono fun _ _ ⟨y1,y2⟩=>⟨_,y1,y2,.inl ⟨hsr,by
     have:((r.den:Nat):Int) = -m:=by rw [f2];omega
     rw [lP,hf1,this]⟩⟩
   have H:=aH (aI (h.below hb1) (aI hb1 (aI hk1 (aI hk2 hk3))))
   have T:=aH (aI t1 (aI t2 hx))
   clear t1 t2 hx h hb1 hk1 hk2 hk3 hf1 f2 hsr mn1 mn2 md1 md2 hz hp
   go_enter Tryz.func79,Tryz.ntmps79
   go_wp2
   generalize ((w.alloc (.cells #[.int .i64 n1,.int .i64 d1,.pointer a1] 66)).alloc (.cells #[.int .i64 m,.int .i64 (k-1),.pointer none] 66)).alloc (.cells #[.int .i64 0,.int .i64 0,.pointer none] 66)=w1 at *
   have hA:=H.out.2.2.1
   have hC:=H.out.2.2.2.1
   have hR:=H.out.2.2.2.2
   refine wp_region_ty Kn [w.heap.size+1+1] (by kernel_rfl) (by kernel_rfl) ?_
   repeat (first|(apply bV (hg:=rfl);case h=>(intro A w' hB hk;simp at hk;have c_hA:=aA (hB.blk hA (by simp <;> omega));have c_hC:=aA (hB.blk hC (by simp <;> omega));first|(simp [go_sem,hk,c_hA,c_hC] <;> rfl)|(simp [go_sem,c_hA,c_hC];rfl)))|(refine aX _ ?_ (by first|exact .inl rfl|exact .inr rfl) (by rfl) (by simp [specOf,Kd.spec];rfl) ?_ rfl ?_;(first|exact Sp.is_stable _ _|exact aM (fun _=>rfl) _|exact aV (fun _=>rfl) (fun _=>rfl) _)))
   refine aO (Sp.is (.int .i64 k)) (Sp.is_stable _ _) rfl (fun A w' hB hk=>?_) ?_;(simp at hk;have c_hA:=aA (hB.blk hA (by simp <;> omega));simp [go_sem,hk,c_hA];refine aG ?_;exact T.out.1 _)
   repeat (first|(apply bV (hg:=rfl);case h=>(intro A w' hB hk;simp at hk;have c_hA:=aA (hB.blk hA (by simp <;> omega));have c_hC:=aA (hB.blk hC (by simp <;> omega));first|(simp [go_sem,hk,c_hA,c_hC,k1,k2] <;> rfl)|(simp [go_sem,c_hA,c_hC,k1,k2];rfl)))|(refine aX _ ?_ (by first|exact .inl rfl|exact .inr rfl) (by rfl) (by simp [specOf,Kd.spec];rfl) ?_ rfl ?_;(first|exact Sp.is_stable _ _|exact aM (fun _=>rfl) _|exact aV (fun _=>rfl) (fun _=>rfl) _)))
   refine aO (kK r) (aV (fun _=>rfl) (fun _=>rfl) _) rfl (fun A w' hB hk=>?_) ?_;(simp at hk;have c_hA:=aA (hB.blk hA (by simp <;> omega));simp [go_sem,hk,c_hA];refine aG ?_;exact T.out.2.1 _)
   refine aO (kK (p*r)) (aV (fun _=>rfl) (fun _=>rfl) _) rfl (fun A w' hB hk=>?_) ?_;(simp at hk;have c_hA:=aA (hB.blk hA (by simp <;> omega));simp [go_sem,hk,c_hA];refine aG ?_;exact T.out.2.2 _ _ (Nb.ext (K:=Kn) (fun _=>rfl) (fun _=>rfl) H.out.1 (hB.extT hR (by simp [hotObj,Kn]))) hk.2)
   refine iB (w.heap.size+1+1) (_) (coNb (p*r)) (eG (fun _=>rfl) (fun _=>rfl) _) rfl rfl (by simp) (by assumption) (by simp [hotObj,Ku,Kn]) (fun A w' hB hk h0=>?_) ?_;(simp at hk;have c_hA:=aA (hB.blk hA (by simp <;> omega));have c0:=aA h0;have f0:=aZ h0;obtain ⟨k1,k2⟩:=hk;obtain ⟨y1,y2,y3,e1⟩:=(show Nb _ _ _ from k2).form;rw [e1] at k2;simp [go_sem,k1,e1,c0,f0];exact ⟨_,eJ h0 _ _ _,_,_,_,rfl,k2⟩)
   refine ⟨by first|rfl|decide,fun f w2 hB hF hAp=>?_⟩;simp [Final1,Sp.is,isVar] at hF;simp only [frameOf]
   obtain ⟨o,⟨y1,y2,y3,rfl,k3⟩,ho⟩:=hF.1
   obtain ⟨⟨r0,r1,r2⟩,_⟩:=dM ho
   have K:=aH (aI k3 hB)
   clear k3 hB ho hA hC hR hAp hF
   go_wp2
   refine bodyPost_ret (v := .agg #[.int .i64 y1,.int .i64 y2,.pointer y3]) (by simp [results,Tryz.results79,go_sem,r0,r1,r2,Act.put]) rfl ⟨_,rfl,K.out.1,?_⟩
   exact Base.belowT K.out.2 H.out.2.1 (by omega)
  ·rw [if_neg hneg] at hf1
   have t2:∀ w',Calls Tryz.prog 141 #[.int .i64 k,.int .i64 m] w' (TyPost w' (kK r)):=fun w' =>
    (uU k m w' (by omega) (by omega)).mono fun _ _ ⟨y1,y2⟩=>⟨_,y1,y2,.inl ⟨hsr,by
     have:((r.den:Nat):Int)=m:=by rw [f2];omega
     rw [lP,hf1,this]⟩⟩
   have H:=aH (aI (h.below hb1) (aI hb1 (aI hk1 (aI hk2 hk3))))
   have T:=aH (aI t1 (aI t2 hx))
   clear t1 t2 hx h hb1 hk1 hk2 hk3 hf1 f2 hsr mn1 mn2 md1 md2 hz hp
   go_enter Tryz.func79,Tryz.ntmps79
   go_wp2
   generalize ((w.alloc (.cells #[.int .i64 n1,.int .i64 d1,.pointer a1] 66)).alloc (.cells #[.int .i64 m,.int .i64 (k-1),.pointer none] 66)).alloc (.cells #[.int .i64 0,.int .i64 0,.pointer none] 66)=w1 at *
   have hA:=H.out.2.2.1
   have hC:=H.out.2.2.2.1
   have hR:=H.out.2.2.2.2
   refine wp_region_ty Kn [w.heap.size+1+1] (by kernel_rfl) (by kernel_rfl) ?_
   repeat (first|(apply bV (hg:=rfl);case h=>(intro A w' hB hk;simp at hk;have c_hA:=aA (hB.blk hA (by simp <;> omega));have c_hC:=aA (hB.blk hC (by simp <;> omega));first|(simp [go_sem,hk,c_hA,c_hC] <;> rfl)|(simp [go_sem,c_hA,c_hC];rfl)))|(refine aX _ ?_ (by first|exact .inl rfl|exact .inr rfl) (by rfl) (by simp [specOf,Kd.spec];rfl) ?_ rfl ?_;(first|exact Sp.is_stable _ _|exact aM (fun _=>rfl) _|exact aV (fun _=>rfl) (fun _=>rfl) _)))
   refine aO (Sp.is (.int .i64 k)) (Sp.is_stable _ _) rfl (fun A w' hB hk=>?_) ?_;(simp at hk;have c_hA:=aA (hB.blk hA (by simp <;> omega));simp [go_sem,hk,c_hA];refine aG ?_;exact T.out.1 _)
   repeat (first|(apply bV (hg:=rfl);case h=>(intro A w' hB hk;simp at hk;have c_hA:=aA (hB.blk hA (by simp <;> omega));have c_hC:=aA (hB.blk hC (by simp <;> omega));first|(simp [go_sem,hk,c_hA,c_hC,k1,k2] <;> rfl)|(simp [go_sem,c_hA,c_hC,k1,k2];rfl)))|(refine aX _ ?_ (by first|exact .inl rfl|exact .inr rfl) (by rfl) (by simp [specOf,Kd.spec];rfl) ?_ rfl ?_;(first|exact Sp.is_stable _ _|exact aM (fun _=>rfl) _|exact aV (fun _=>rfl) (fun _=>rfl) _)))
   refine aO (kK r) (aV (fun _=>rfl) (fun _=>rfl) _) rfl (fun A w' hB hk=>?_) ?_;(simp at hk;have c_hA:=aA (hB.blk hA (by simp <;> omega));simp [go_sem,hk,c_hA];refine aG ?_;exact T.out.2.1 _)
   refine aO (kK (p*r)) (aV (fun _=>rfl) (fun _=>rfl) _) rfl (fun A w' hB hk=>?_) ?_;(simp at hk;have c_hA:=aA (hB.blk hA (by simp <;> omega));simp [go_sem,hk,c_hA];refine aG ?_;exact T.out.2.2 _ _ (Nb.ext (K:=Kn) (fun _=>rfl) (fun _=>rfl) H.out.1 (hB.extT hR (by simp [hotObj,Kn]))) hk.2)
   refine iB (w.heap.size+1+1) (_) (coNb (p*r)) (eG (fun _=>rfl) (fun _=>rfl) _) rfl rfl (by simp) (by assumption) (by simp [hotObj,Ku,Kn]) (fun A w' hB hk h0=>?_) ?_;(simp at hk;have c_hA:=aA (hB.blk hA (by simp <;> omega));have c0:=aA h0;have f0:=aZ h0;obtain ⟨k1,k2⟩:=hk;obtain ⟨y1,y2,y3,e1⟩:=(show Nb _ _ _ from k2).form;rw [e1] at k2;simp [go_sem,k1,e1,c0,f0];exact ⟨_,eJ h0 _ _ _,_,_,_,rfl,k2⟩)
   refine ⟨by first|rfl|decide,fun f w2 hB hF hAp=>?_⟩;simp [Final1,Sp.is,isVar] at hF;simp only [frameOf]
   obtain ⟨o,⟨y1,y2,y3,rfl,k3⟩,ho⟩:=hF.1
   obtain ⟨⟨r0,r1,r2⟩,_⟩:=dM ho
   have K:=aH (aI k3 hB)
   clear k3 hB ho hA hC hR hAp hF
   go_wp2
   refine bodyPost_ret (v := .agg #[.int .i64 y1,.int .i64 y2,.pointer y3]) (by simp [results,Tryz.results79,go_sem,r0,r1,r2,Act.put]) rfl ⟨_,rfl,K.out.1,?_⟩
   exact Base.belowT K.out.2 H.out.2.1 (by omega)
 ·clear hz f1 f2 hsi h0 hq
  obtain ⟨A1,m1,c1,rfl⟩:=g1.form
  obtain ⟨A2,m2,c2,rfl⟩:=g2.form
  obtain ⟨neg,hneg⟩:∃ neg,decide (q.num<0)=neg:=⟨_,rfl⟩
  rw [hneg] at hk
  obtain ⟨hk1,hk2,hk3,hb1⟩:=eK w (.cells #[.int .i64 n1,.int .i64 d1,.pointer a1] 66) (.cells #[.int .i64 0,.int .i64 0,.pointer (some ⟨g,0,none⟩)] 66) (.cells #[.int .i64 0,.int .i64 0,.pointer none] 66)
  have hfr:Fr w (.agg #[.bool neg,.slice A1 m1 c1,.slice A2 m2 c2]) q:=⟨_,_,by rw [hneg],g1,g2⟩
  have hG1:=aK hb1 hk
  have H:=aH (aI (h.below hb1) (aI hb1 (aI hk1 (aI hk2 (aI hk3 (aI hG1 (hfr.below hb1)))))))
  have t1:∀ w' x,Fr w' x r→Calls Tryz.prog 74 #[x] w' (TyPost w' (kK r)):=fun w' x hx=>GivesNb.ty (fB x _ w' hx)
  have T:=aH (aI hin (aI t1 hx))
  have hlt:=lt_of_block hk
  clear t1 hin hx hk h hb1 hk1 hk2 hk3 hG1 hfr g1 g2 hneg hp hs
  go_enter Tryz.func79,Tryz.ntmps79
  go_wp2
  generalize ((w.alloc (.cells #[.int .i64 n1,.int .i64 d1,.pointer a1] 66)).alloc (.cells #[.int .i64 0,.int .i64 0,.pointer (some ⟨g,0,none⟩)] 66)).alloc (.cells #[.int .i64 0,.int .i64 0,.pointer none] 66)=w1 at *
  have hA:=H.out.2.2.1
  have hC:=H.out.2.2.2.1
  have hR:=H.out.2.2.2.2.1
  have hG:=H.out.2.2.2.2.2.1
  refine wp_region_ty Kn [w.heap.size+1+1] (by kernel_rfl) (by kernel_rfl) ?_
  repeat (first|(apply bV (hg:=rfl);case h=>(intro A w' hB hk;simp at hk;have c_hA:=aA (hB.blk hA (by simp <;> omega));have c_hC:=aA (hB.blk hC (by simp <;> omega));have c_hG:=aA (hB.blk hG (by simp <;> omega));first|(simp [go_sem,hk,c_hA,c_hC,c_hG] <;> rfl)|(simp [go_sem,c_hA,c_hC,c_hG];rfl)))|(refine aX _ ?_ (by first|exact .inl rfl|exact .inr rfl) (by rfl) (by simp [specOf,Kd.spec];rfl) ?_ rfl ?_;(first|exact Sp.is_stable _ _|exact aM (fun _=>rfl) _|exact aV (fun _=>rfl) (fun _=>rfl) _)))
  refine aO (fM r) (aM (fun _=>rfl) _) rfl (fun A w' hB hk=>?_) ?_;(simp at hk;have c_hA:=aA (hB.blk hA (by simp <;> omega));simp [go_sem,hk,c_hA];refine aG ?_;exact T.out.1 _ _ (Fr.ext (K:=Kn) (fun _=>rfl) H.out.2.2.2.2.2.2 (hB.extT hR (by simp [hotObj,Kn]))))
  refine aO (kK r) (aV (fun _=>rfl) (fun _=>rfl) _) rfl (fun A w' hB hk=>?_) ?_;(simp at hk;have c_hA:=aA (hB.blk hA (by simp <;> omega));simp [go_sem,hk,c_hA];refine aG ?_;exact T.out.2.1 _ _ hk)
  refine aO (kK (p*r)) (aV (fun _=>rfl) (fun _=>rfl) _) rfl (fun A w' hB hk=>?_) ?_;(simp at hk;have c_hA:=aA (hB.blk hA (by simp <;> omega));simp [go_sem,hk,c_hA];refine aG ?_;exact T.out.2.2 _ _ (Nb.ext (K:=Kn) (fun _=>rfl) (fun _=>rfl) H.out.1 (hB.extT hR (by simp [hotObj,Kn]))) hk.2)
  refine iB (w.heap.size+1+1) (_) (coNb (p*r)) (eG (fun _=>rfl) (fun _=>rfl) _) rfl rfl (by simp) (by assumption) (by simp [hotObj,Ku,Kn]) (fun A w' hB hk h0=>?_) ?_;(simp at hk;have c_hA:=aA (hB.blk hA (by simp <;> omega));have c0:=aA h0;have f0:=aZ h0;obtain ⟨k1,k2⟩:=hk;obtain ⟨y1,y2,y3,e1⟩:=(show Nb _ _ _ from k2).form;rw [e1] at k2;simp [go_sem,k1,e1,c0,f0];exact ⟨_,eJ h0 _ _ _,_,_,_,rfl,k2⟩)
  refine ⟨by first|rfl|decide,fun f w2 hB hF hAp=>?_⟩;simp [Final1,Sp.is,isVar] at hF;simp only [frameOf]
  obtain ⟨o,⟨y1,y2,y3,rfl,k3⟩,ho⟩:=hF.1
  obtain ⟨⟨r0,r1,r2⟩,_⟩:=dM ho
  have K:=aH (aI k3 hB)
  clear k3 hB ho hA hC hR hAp hF
  go_wp2
  refine bodyPost_ret (v := .agg #[.int .i64 y1,.int .i64 y2,.pointer y3]) (by simp [results,Tryz.results79,go_sem,r0,r1,r2,Act.put]) rfl ⟨_,rfl,K.out.1,?_⟩
  exact Base.belowT K.out.2 H.out.2.1 (by omega)
end
section
open Go.RowKit Pl
set_option maxRecDepth 100000 in
theorem integer_any (z:Int) (w:World) (h1:-9223372036854775808≤z) (h2:z≤9223372036854775807):Calls Tryz.prog 90 #[.int .i64 z] w (GivesNb w (z:Rat)):=by
 have hb1:Below w.heap.size w (w.alloc (.cells #[.int .i64 0,.int .i64 0,.pointer none] 66)):=(aB _ _).alloc (aR _) _
 by_cases hz:z = -9223372036854775808
 ·subst hz
  have n1:∀ w',Calls Tryz.prog 137 #[.int .u64 9223372036854775808] w' (GivesNt w' 9223372036854775808):=fun w'=>cE 9223372036854775808 (by rw [aL];decide) w'
  have n2:∀ w',Calls Tryz.prog 137 #[.int .u64 1] w' (GivesNt w' 1):=fun w'=>cE 1 (by rw [aL];decide) w'
  obtain ⟨q,hq⟩:∃ q:Rat,q=((-9223372036854775808:Int):Rat):=⟨_,rfl⟩
  have hfr:∀ w' s1 s2,Nt w' s1 9223372036854775808→Nt w' s2 1→Fr w' (.agg #[.bool true,s1,s2]) q:=fun w' s1 s2 k1 k2=>by
   subst hq
   exact ⟨s1,s2,by rw [Rat.num_intCast];rfl,by rw [Rat.num_intCast];exact k1,by rw [Rat.den_intCast];exact k2⟩
  rw [← hq]
  clear hq
  have hk0:(w.alloc (.cells #[.int .i64 0,.int .i64 0,.pointer none] 66)).heap[w.heap.size]?=some (.cells #[.int .i64 0,.int .i64 0,.pointer none] 66):=heap_alloc_new w _
  have H:=aH (aI n1 (aI n2 (aI hfr (aI hb1 hk0))))
  clear n1 n2 hfr hb1 hk0
  go_enter Tryz.func90,Tryz.ntmps90
  go_wp2_with fail
  refine (H.out.1 _).mono ?_
  rintro e w2 ⟨v2,rfl,q2,b2⟩
  obtain ⟨A1,m1,c1,rfl⟩:=q2.form
  have Q2:=aH (aI q2 b2)
  clear q2 b2
  go_wp2_with fail
  refine (H.out.2.1 _).mono ?_
  rintro e w3 ⟨v3,rfl,q3,b3⟩
  obtain ⟨A2,m2,c2,rfl⟩:=q3.form
  have Q3:=aH (aI (H.out.2.2.1 _ _ _ (Q2.out.1.below b3) q3) (Below.step_trans Q2.out.2 b3))
  clear q3 b3 Q2
  go_wp2_with fail
  refine (fB _ _ _ Q3.out.1).mono ?_
  rintro e w4 ⟨v4,rfl,q4,b4⟩
  obtain ⟨n,d,p,rfl⟩:=q4.form
  have hb4:=Below.step_trans Q3.out.2 b4
  have hk:=aK hb4 H.out.2.2.2.2
  obtain ⟨⟨h0,h1,h2⟩,f0,f1,f2⟩:=dM hk
  have Q4:=aH (aI q4 (aI hb4 hk))
  clear q4 b4 hk hb4 Q3
  go_wp2
  refine bodyPost_ret (v := .agg #[.int .i64 n,.int .i64 d,.pointer p]) (by simp [results,Tryz.results90,go_sem,h0,h1,h2]) rfl ⟨_,rfl,?_,?_⟩
  ·exact Nb.ext (K:=Kn) (fun _=>rfl) (fun _=>rfl) Q4.out.1 (Ext.only (rE _ _ _ _ _) Q4.out.2.2 (by simp [hotObj,Kn]))
  ·repeat (first|exact (Below.step_trans H.out.2.2.2.1 Q4.out.2.1)|(refine Below.setCell ?_ (by first|omega|(simp <;> omega)) _)|(refine Below.alloc ?_ (by first|omega|(simp <;> omega)) _)|(refine Below.drew ?_)|exact aB _ _)
 ·have hnb:∀ w',Nb w' (.agg #[.int .i64 z,.int .i64 0,.pointer none]) (z:Rat):=fun w' => .inl ⟨⟨by rw [Rat.num_intCast,eL];omega,by rw [Rat.den_intCast,eL];omega⟩,by rw [lP,Rat.num_intCast,Rat.den_intCast];rfl⟩
  have H:=aH hnb
  clear hnb hb1
  go_enter Tryz.func90,Tryz.ntmps90
  go_wp2
  refine bodyPost_ret (v := .agg #[.int .i64 z,.int .i64 0,.pointer none]) (by simp [results,Tryz.results90,go_sem]) rfl ⟨_,rfl,H.out _,?_⟩
  repeat (first|exact aB _ _|(refine Below.setCell ?_ (by first|omega|(simp <;> omega)) _)|(refine Below.alloc ?_ (by first|omega|(simp <;> omega)) _)|(refine Below.drew ?_)|exact aB _ _)
theorem blk9 {w:World} {g:Nat} {a b c d e f h i j:Value} {t:TypeId} (hk:w.heap[g]?=some (.cells #[a,b,c,d,e,f,h,i,j] t (0,0))) :
 w.cell? ⟨g,0,none⟩=some a∧w.cell? ⟨g,1,none⟩=some b∧w.cell? ⟨g,2,none⟩=some c∧w.cell? ⟨g,3,none⟩=some d∧w.cell? ⟨g,4,none⟩=some e∧w.cell? ⟨g,5,none⟩=some f∧w.cell? ⟨g,6,none⟩=some h∧w.cell? ⟨g,7,none⟩=some i∧w.cell? ⟨g,8,none⟩=some j:=by
 have hc:=aA hk
 simp [hc]
def Vc (w:World) (v:Value) (a b c:Rat):Prop :=
 ∃ n1 d1 p1 n2 d2 p2 n3 d3 p3,v = .agg #[.int .i64 n1,.int .i64 d1,.pointer p1,.int .i64 n2,.int .i64 d2,.pointer p2,.int .i64 n3,.int .i64 d3,.pointer p3] ∧
   Nb w (.agg #[.int .i64 n1,.int .i64 d1,.pointer p1]) a∧Nb w (.agg #[.int .i64 n2,.int .i64 d2,.pointer p2]) b∧Nb w (.agg #[.int .i64 n3,.int .i64 d3,.pointer p3]) c
theorem Vc.below {w w' : World} {v:Value} {a b c:Rat} (h:Vc w v a b c) (hb:Below w.heap.size w w'):Vc w' v a b c:=by
 obtain ⟨n1,d1,p1,n2,d2,p2,n3,d3,p3,e,h1,h2,h3⟩:=h
 exact ⟨n1,d1,p1,n2,d2,p2,n3,d3,p3,e,h1.below hb,h2.below hb,h3.below hb⟩
theorem Vc.ext {K:Value→Bool} (hK:∀ x,K (.int .u64 x)=true) (hK2:∀ b,K (.bool b)=true) {w w' : World} {v:Value} {a b c:Rat} (h:Vc w v a b c) (hx:Ext K w w'):Vc w' v a b c:=by
 obtain ⟨n1,d1,p1,n2,d2,p2,n3,d3,p3,e,h1,h2,h3⟩:=h
 exact ⟨n1,d1,p1,n2,d2,p2,n3,d3,p3,e,h1.ext hK hK2 hx,h2.ext hK hK2 hx,h3.ext hK hK2 hx⟩
set_option maxRecDepth 100000 in
theorem isZero_vc (v:Value) (a b c:Rat) (w:World) (h:Vc w v a b c):Calls Tryz.prog 44 #[v] w (Gives w (.bool (decide (a=0)&&decide (b=0)&&decide (c=0)))):=by
 obtain ⟨n1,d1,p1,n2,d2,p2,n3,d3,p3,rfl,h1,h2,h3⟩:=h
 have hb1:Below w.heap.size w (w.alloc (.cells #[.int .i64 n1,.int .i64 d1,.pointer p1,.int .i64 n2,.int .i64 d2,.pointer p2,.int .i64 n3,.int .i64 d3,.pointer p3] 68)):=(aB _ _).alloc (aR _) _
 have hk1:=heap_alloc_new w (.cells #[.int .i64 n1,.int .i64 d1,.pointer p1,.int .i64 n2,.int .i64 d2,.pointer p2,.int .i64 n3,.int .i64 d3,.pointer p3] 68)
 have t1:=fun w' (hb:Below w.heap.size w w')=>qG _ _ w' (h1.below hb)
 have t2:=fun w' (hb:Below w.heap.size w w')=>qG _ _ w' (h2.below hb)
 have t3:=fun w' (hb:Below w.heap.size w w')=>qG _ _ w' (h3.below hb)
 clear h1 h2 h3
 generalize decide (a=0)=za at *
 generalize decide (b=0)=zb at *
 generalize decide (c=0)=zc at *
 have H:=aH (aI t1 (aI t2 t3))
 have B1:=aH (aI hb1 hk1)
 clear t1 t2 t3 hb1 hk1
 go_enter Tryz.func44,Tryz.ntmps44
 cases za
 ·skip
  go_wp2_with fail
  refine (H.out.1 _ B1.out.1).mono ?_
  rintro e w2 ⟨rfl,b2⟩
  have B2:=aH (aI (Below.step_trans B1.out.1 b2) (aK b2 B1.out.2))
  obtain ⟨x0,x1,x2,x3,x4,x5,x6,x7,x8⟩:=blk9 B2.out.2
  clear b2
  go_wp2
  go_ret
  exact ⟨rfl,B2.out.1⟩
 ·cases zb
  ·skip
   go_wp2_with fail
   refine (H.out.1 _ B1.out.1).mono ?_
   rintro e w2 ⟨rfl,b2⟩
   have B2:=aH (aI (Below.step_trans B1.out.1 b2) (aK b2 B1.out.2))
   obtain ⟨x0,x1,x2,x3,x4,x5,x6,x7,x8⟩:=blk9 B2.out.2
   clear b2
   go_wp2_with fail
   refine (H.out.2.1 _ B2.out.1).mono ?_
   rintro e w3 ⟨rfl,b2⟩
   have B3:=aH (aI (Below.step_trans B2.out.1 b2) (aK b2 B2.out.2))
   obtain ⟨x0,x1,x2,x3,x4,x5,x6,x7,x8⟩:=blk9 B3.out.2
   clear b2
   go_wp2
   go_ret
   exact ⟨rfl,B3.out.1⟩
  ·skip
   go_wp2_with fail
   refine (H.out.1 _ B1.out.1).mono ?_
   rintro e w2 ⟨rfl,b2⟩
   have B2:=aH (aI (Below.step_trans B1.out.1 b2) (aK b2 B1.out.2))
   obtain ⟨x0,x1,x2,x3,x4,x5,x6,x7,x8⟩:=blk9 B2.out.2
   clear b2
   go_wp2_with fail
   refine (H.out.2.1 _ B2.out.1).mono ?_
   rintro e w3 ⟨rfl,b2⟩
   have B3:=aH (aI (Below.step_trans B2.out.1 b2) (aK b2 B2.out.2))
   obtain ⟨x0,x1,x2,x3,x4,x5,x6,x7,x8⟩:=blk9 B3.out.2
   clear b2
   go_wp2_with fail
   refine (H.out.2.2 _ B3.out.1).mono ?_
   rintro e w4 ⟨rfl,b2⟩
   have B4:=aH (aI (Below.step_trans B3.out.1 b2) (aK b2 B3.out.2))
   obtain ⟨x0,x1,x2,x3,x4,x5,x6,x7,x8⟩:=blk9 B4.out.2
   clear b2
   go_wp2
   go_ret
   exact ⟨rfl,B4.out.1⟩
end
namespace Ab
open Go.RowKit
variable {Kc:Value→Bool}
def Seg.noPtr:Seg Kc→Bool
 | .ptr .. | .slc .. => false
 | _=>true
def FV.noPtr:FV Kc→Bool
 | .sc s=>s.noPtr
 | .ag l | .nsl _ _ l=>l.all Seg.noPtr
 | .clo _ a b=>(a.all fun c=>c.2.all Seg.noPtr)&&(b.all fun c=>c.2.all Seg.noPtr)
 | .un=>true
def AV.noPtr:AV Kc→Bool
 | .fv f=>f.noPtr
 | .tup l=>l.all FV.noPtr
theorem Seg.noPtr_holds {s:Seg Kc} (h:s.noPtr=true) {β γ:List Nat} {cs:List Value} {w:World} (hs:s.holds β cs w):s.holds γ cs w:=by
 cases s <;> first|exact hs|cases h
theorem holdsL.noPtr {β γ:List Nat} {w:World}:∀ {l:List (Seg Kc)} {cs:List Value},l.all Seg.noPtr=true→holdsL β l cs w→holdsL γ l cs w
 | [],_,_,h=>h
 | s::l,_,hn,⟨a,b,e,h1,h2⟩=>by
   rw [List.all_cons,Bool.and_eq_true] at hn
   exact ⟨a,b,e,Seg.noPtr_holds hn.1 h1,holdsL.noPtr hn.2 h2⟩
theorem holdsC.noPtr {β γ:List Nat} {w:World}:∀ {l:List (Bool×List (Seg Kc))} {vs:List Value},(l.all fun c=>c.2.all Seg.noPtr)=true→holdsC β l vs w→holdsC γ l vs w
 | [],_,_,h=>h
 | (b,m)::l,_,hn,⟨v,r,e,h1,h2⟩=>by
   rw [List.all_cons,Bool.and_eq_true] at hn
   refine ⟨v,r,e,?_,holdsC.noPtr hn.2 h2⟩
   cases b with
   | true=>obtain ⟨cs,e,h1⟩:=h1;exact ⟨cs,e,h1.noPtr hn.1⟩
   | false=>exact holdsL.noPtr hn.1 h1
theorem FV.noPtr_holds {f:FV Kc} (h:f.noPtr=true) {β γ:List Nat} {v:Value} {w:World} (hs:f.holds β v w):f.holds γ v w:=by
 cases f with
 | sc s=>exact Seg.noPtr_holds h hs
 | ag l=>obtain ⟨cs,e,hl⟩:=hs;exact ⟨cs,e,hl.noPtr h⟩
 | nsl n T l=>obtain ⟨g,cs,e,hg,hl⟩:=hs;exact ⟨g,cs,e,hg,hl.noPtr h⟩
 | clo F a b =>
   rw [FV.noPtr,Bool.and_eq_true] at h
   obtain ⟨xs,ys,e,h1,h2⟩:=hs
   exact ⟨xs,ys,e,h1.noPtr h.1,h2.noPtr h.2⟩
 | un=>trivial
theorem holdsF.noPtr {β γ:List Nat} {w:World}:∀ {l:List (FV Kc)} {vs:List Value},l.all FV.noPtr=true→holdsF β l vs w→holdsF γ l vs w
 | [],_,_,h=>h
 | f::l,_,hn,⟨v,r,e,h1,h2⟩=>by
   rw [List.all_cons,Bool.and_eq_true] at hn
   exact ⟨v,r,e,FV.noPtr_holds hn.1 h1,holdsF.noPtr hn.2 h2⟩
theorem AV.noPtr_holds {x:AV Kc} (h:x.noPtr=true) {β γ:List Nat} {v:Value} {w:World} (hs:x.holds β v w):x.holds γ v w:=by
 cases x with
 | fv f=>exact FV.noPtr_holds h hs
 | tup l=>obtain ⟨vs,e,hl⟩:=hs;exact ⟨vs,e,hl.noPtr h⟩
def Fits (P:Program) (f:FuncId) (args:List (AV Kc)) (x:AV Kc):Prop :=
 ∀ β w vs,holdsA β args vs w→Calls P f vs.toArray w fun e w' => ∃ v,e = .returned v∧Below w.heap.size w w'∧x.holds β v w'
section
variable {P:Program} {f:FuncId} {w00:World} {Out:Value→World→Prop}
structure Ok (P:Program) (f:FuncId) (w00:World) (Out:Value→World→Prop) (c:Cfg Kc):Prop where
 good:jD P f w00 Out c
theorem Ok.go (hm:P.follows .mixedOrders=true) (hK:KOk Kc) (n:Nat) {c:Cfg Kc} (h:Ok P f w00 Out (cG P n c)):Ok P f w00 Out c:=⟨good_run hm hK n h.good⟩
theorem Ok.call {c:Cfg Kc} (fn:FuncId) (args:List (AV Kc)) {x:AV Kc} (h:Fits P fn args x) (hf:c.callee P=some fn) (ha:c.args P=args) (hx:c.okT x=true) (hfn:∀ (args:Array Value) (w:World),(callFunc fn args).run P w = .ok (.enter fn args) w)
 (hg:Ok P f w00 Out (c.give x)):Ok P f w00 Out c :=
 ⟨qD fn x hf hx hfn (fun β w vs _ _ hv=>h β w vs (by rw [← ha];exact hv)) hg.good⟩
theorem Ok.op {c:Cfg Kc} (o:Oper) (x:AV Kc) (ho:c.op=some o) (hx:c.okT x=true)
 (h:∀ β ρ w,(c.canB=true→Below w00.heap.size w00 w)→Mem β c.mem w→(∀ y∈o.op.operands,(c.ev y).holds β (ρ y) w) →
  (∃ v w',(execOp ρ o).run P w = .ok (.value v) w'∧Below w.heap.size w w'∧x.holds β v w') ∨
  (∃ fn vs,(execOp ρ o).run P w = .ok (.enter fn vs) w∧Calls P fn vs w fun e w' => ∃ v,e = .returned v∧Below w.heap.size w w'∧x.holds β v w'))
 (hg:Ok P f w00 Out (c.give x)):Ok P f w00 Out c:=⟨good_op o x ho hx h hg.good⟩
def FitsW (P:Program) (I:World→Prop) (f:FuncId) (args:List (AV Kc)) (x:AV Kc):Prop :=
 ∀ β w vs,I w→holdsA β args vs w→Calls P f vs.toArray w fun e w' => ∃ v,e = .returned v∧Below w.heap.size w w'∧x.holds β v w'
theorem Ok.callW {I:World→Prop} {c:Cfg Kc} (hI:∀ w,Below w00.heap.size w00 w→I w) (fn:FuncId) (args:List (AV Kc)) {x:AV Kc} (h:FitsW P I fn args x) (hf:c.callee P=some fn) (ha:c.args P=args) (hx:c.okT x=true) (hro:c.canB=true) (hfn:∀ (args:Array Value) (w:World),(callFunc fn args).run P w = .ok (.enter fn args) w)
 (hg:Ok P f w00 Out (c.give x)):Ok P f w00 Out c :=
 ⟨qD fn x hf hx hfn (fun β w vs hB _ hv=>h β w vs (hI w (hB hro)) (by rw [← ha];exact hv)) hg.good⟩
theorem Ok.callS {c:Cfg Kc} (fn:FuncId) (k n:Nat) (T:TypeId) (l:List (Seg Kc)) {x:AV Kc} (h:Fits P fn [.fv (.nsl n T l)] x) (hf:c.callee P=some fn) (ha:c.args P = [.fv (.sc (.slc k 0 n n))]) (hx:c.okT x=true) (hm:c.mem[k]?=some (some (T,l))) (hfn:∀ (args:Array Value) (w:World),(callFunc fn args).run P w = .ok (.enter fn args) w)
 (hg:Ok P f w00 Out (c.give x)):Ok P f w00 Out c :=
 ⟨qD fn x hf hx hfn (fun β w vs _ hM hv=>by
  rw [ha] at hv
  obtain ⟨v,r,rfl,h1,h2⟩:=hv
  obtain ⟨g,hg,hv⟩:=yE h1
  obtain ⟨g',cs,hg',hh,hl⟩:=hM k T l hm
  rw [hg] at hg'
  injection hg' with hg'
  subst hg'
  exact h β w _ ⟨v,r,rfl,⟨g,cs,hv,hh,hl⟩,h2⟩) hg.good⟩
theorem fitsW_of {I:World→Prop} {fn:Func} {args:List (AV Kc)} {x:AV Kc} (hfn:P.funcs[f]?=some fn) (hb:fn.body.isSome=true) (hn:(args.length≤fn.ntmps:Bool)=true) (hx:x.noPtr=true) (ha:args.all AV.noPtr=true)
 (h:∀ w00,I w00→Ok P f w00 (fun v w=>x.holds [] v w) (.items [.code (fn.body.getD .skip)] { slots:=args++List.replicate (fn.ntmps-args.length) .un,blocks := [],ro:=0 })):FitsW P I f args x:=by
 intro β w vs hI hv
 have hv' : holdsA [] args vs w:=by
  have key:∀ {l:List (AV Kc)} {us:List Value},l.all AV.noPtr=true→holdsA β l us w→holdsA [] l us w:=fun {l}=>by
   induction l with
   | nil=>intro us _ h;exact h
   | cons y l ih =>
     rintro us hn ⟨v,r,e,h1,h2⟩
     rw [List.all_cons,Bool.and_eq_true] at hn
     exact ⟨v,r,e,AV.noPtr_holds hn.1 h1,ih hn.2 h2⟩
  exact key ha hv
 have hb2:fn.body=some (fn.body.getD .skip):=by
  cases hb2:fn.body with
  | none=>rw [hb2] at hb;cases hb
  | some c=>rfl
 refine (eU (w00:=w) (Out:=fun v w=>x.holds [] v w) hfn hb2 args [] [] vs (fn.ntmps-args.length) (by simp at hn;omega) hv' rfl (by simp) (fun k T l hk=>by simp at hk) (by simp) (h w hI).good).mono ?_
 rintro e w' ⟨v,rfl,hb,ho⟩
 exact ⟨v,rfl,hb,AV.noPtr_holds hx ho⟩
theorem fitsS_of {fn:Func} {n:Nat} {T:TypeId} {l:List (Seg Kc)} {x:AV Kc} (hfn:P.funcs[f]?=some fn) (hb:fn.body.isSome=true) (hn:(1≤fn.ntmps:Bool)=true) (hx:x.noPtr=true) (hl:l.all Seg.noPtr=true)
 (h:∀ w00,Ok P f w00 (fun v w=>x.holds [] v w) (.items [.code (fn.body.getD .skip)] { slots := [.fv (.sc (.slc 0 0 n n))]++List.replicate (fn.ntmps-1) .un,blocks := [(T,l)],ro:=1 })):Fits P f [.fv (.nsl n T l)] x:=by
 rintro β w vs ⟨v,r,rfl,⟨g,cs,rfl,hg,hcs⟩,h2⟩
 rw [show r = [] from h2]
 have hb2:fn.body=some (fn.body.getD .skip):=by
  cases hb2:fn.body with
  | none=>rw [hb2] at hb;cases hb
  | some c=>rfl
 refine (eU (w00:=w) (Out:=fun v w=>x.holds [] v w) hfn hb2 [.fv (.sc (.slc 0 0 n n))] [(T,l)] [g] [.slice (some ⟨g,0,none⟩) n n] (fn.ntmps-1) (by simp at hn;simp;omega) ⟨_,[],rfl,⟨g,rfl,rfl⟩,rfl⟩ rfl (by simp)
  (fun k T' l' hk=>?_) (by simp;exact lt_of_block hg) (h w).good).mono ?_
 ·match k,hk with
  | 0,hk =>
    simp at hk
    obtain ⟨rfl,rfl⟩:=hk
    exact ⟨g,cs,rfl,hg,hcs.noPtr hl⟩
 ·rintro e w' ⟨v,rfl,hb,ho⟩
  exact ⟨v,rfl,hb,AV.noPtr_holds hx ho⟩
theorem fits_of {fn:Func} {code:Code} {args:List (AV Kc)} {x:AV Kc} (hfn:P.funcs[f]?=some fn) (hb:fn.body=some code) (n:Nat) (hn:fn.ntmps=args.length+n) (hx:x.noPtr=true) (ha:args.all AV.noPtr=true)
 (h:∀ w00,jD P f w00 (fun v w=>x.holds [] v w) (.items [.code code] { slots:=args++List.replicate n .un,blocks := [],ro:=0 })):Fits P f args x:=by
 intro β w vs hv
 have hv' : holdsA [] args vs w:=by
  have key:∀ {l:List (AV Kc)} {us:List Value},l.all AV.noPtr=true→holdsA β l us w→holdsA [] l us w:=fun {l}=>by
   induction l with
   | nil=>intro us _ h;exact h
   | cons y l ih =>
     rintro us hn ⟨v,r,e,h1,h2⟩
     rw [List.all_cons,Bool.and_eq_true] at hn
     exact ⟨v,r,e,AV.noPtr_holds hn.1 h1,ih hn.2 h2⟩
  exact key ha hv
 refine (eU (w00:=w) (Out:=fun v w=>x.holds [] v w) hfn hb args [] [] vs n hn hv' rfl (by simp) (fun k T l hk=>by simp at hk) (by simp) (h w)).mono ?_
 rintro e w' ⟨v,rfl,hb,ho⟩
 exact ⟨v,rfl,hb,AV.noPtr_holds hx ho⟩
abbrev pJ (fn:Func) (args:List (AV Kc)):Cfg Kc := .items [.code (fn.body.getD .skip)] { slots:=args++List.replicate (fn.ntmps-args.length) .un,blocks := [],ro:=0 }
theorem fits_go {fn:Func} {args:List (AV Kc)} {x:AV Kc} (hfn:P.funcs[f]?=some fn) (hb:fn.body.isSome=true) (hn:(args.length≤fn.ntmps:Bool)=true) (hx:x.noPtr=true) (ha:args.all AV.noPtr=true)
 (h:∀ w00,Ok P f w00 (fun v w=>x.holds [] v w) (pJ fn args)):Fits P f args x:=by
 refine fits_of hfn (code:=fn.body.getD .skip) ?_ (fn.ntmps-args.length) ?_ hx ha (fun w00=>(h w00).good)
 ·cases hb2:fn.body with
  | none=>rw [hb2] at hb;cases hb
  | some c=>rfl
 ·simp at hn
  omega
theorem Ok.ret {c:Cfg Kc} {fn:Func} {x:AV Kc} (hfn:P.funcs[f]?=some fn) (hx:x.noPtr=true) (hr:c.res P fn=some x):Ok P f w00 (fun v w=>x.holds [] v w) c :=
 ⟨good_ret hfn x hr (fun _ _ _ h=>AV.noPtr_holds hx h)⟩
end
abbrev jF{Kc:Value→Bool}(f:FuncId)(l:List (AV Kc))(x:AV Kc):Prop:=Fits Tryz.prog f l x
theorem mP:KOk Kn:=⟨fun _=>rfl,fun _ _ _=>rfl⟩
def csNb (q:Rat):CS Kn where
 size:=3
 cold:=true
 pred cs w:=Nb w (.agg cs.toArray) q
 stable cs w w' h hx:=Nb.ext (K:=Kn) (fun _=>rfl) (fun _=>rfl) h hx
 len cs w h:=by
  obtain ⟨n,d,p,e⟩:=Nb.form h
  injection e with e
  have:=congrArg Array.toList e
  simp at this
  rw [this];rfl
 one cs w h:=by
  obtain ⟨n,d,p,e⟩:=Nb.form h
  injection e with e
  have:=congrArg Array.toList e
  simp at this
  rw [this]
  intro c hc
  simp at hc
  rcases hc with rfl|rfl|rfl <;> rfl
 iscold _ cs w h:=by
  obtain ⟨n,d,p,e⟩:=Nb.form h
  injection e with e
  have:=congrArg Array.toList e
  simp at this
  rw [this]
  intro c hc
  simp at hc
  rcases hc with rfl|rfl|rfl <;> rfl
abbrev nb (q:Rat):Seg Kn := .sp (csNb q)
abbrev num (q:Rat):AV Kn := .fv (.ag [nb q])
abbrev vc (a b c:Rat):AV Kn := .fv (.ag [nb a,nb b,nb c])
theorem dI {β:List Nat} {v:Value} {w:World} {q:Rat}:(num q).holds β v w↔Nb w v q:=by
 constructor
 ·rintro ⟨cs,rfl,h⟩
  exact nO h
 ·intro h
  obtain ⟨n,d,p,rfl⟩:=Nb.form h
  exact ⟨[.int .i64 n,.int .i64 d,.pointer p],rfl,_,[],rfl,h,rfl⟩
theorem tA {β:List Nat} {v:Value} {w:World} {a b c:Rat}:(vc a b c).holds β v w↔Vc w v a b c:=by
 constructor
 ·rintro ⟨cs,rfl,x1,r1,rfl,h1,x2,r2,rfl,h2,x3,r3,rfl,h3,e⟩
  rw [show r3 = [] from e]
  obtain ⟨n1,d1,p1,e1⟩:=Nb.form h1
  obtain ⟨n2,d2,p2,e2⟩:=Nb.form h2
  obtain ⟨n3,d3,p3,e3⟩:=Nb.form h3
  injection e1 with e1
  injection e2 with e2
  injection e3 with e3
  have e1:=congrArg Array.toList e1
  have e2:=congrArg Array.toList e2
  have e3:=congrArg Array.toList e3
  simp at e1 e2 e3
  subst e1
  subst e2
  subst e3
  exact ⟨n1,d1,p1,n2,d2,p2,n3,d3,p3,rfl,h1,h2,h3⟩
 ·rintro ⟨n1,d1,p1,n2,d2,p2,n3,d3,p3,rfl,h1,h2,h3⟩
  exact ⟨[.int .i64 n1,.int .i64 d1,.pointer p1,.int .i64 n2,.int .i64 d2,.pointer p2,.int .i64 n3,.int .i64 d3,.pointer p3],rfl,
   [.int .i64 n1,.int .i64 d1,.pointer p1],_,rfl,h1,[.int .i64 n2,.int .i64 d2,.pointer p2],_,rfl,h2,[.int .i64 n3,.int .i64 d3,.pointer p3],[],rfl,h3,rfl⟩
theorem dF {β:List Nat} {w:World} {x:AV Kc} {vs:List Value} (h:holdsA β [x] vs w):∃ v,vs = [v]∧x.holds β v w:=by
 obtain ⟨v,r,rfl,h1,h2⟩:=h
 exact ⟨v,by rw [show r = [] from h2],h1⟩
theorem eB {β:List Nat} {w:World} {x y:AV Kc} {vs:List Value} (h:holdsA β [x,y] vs w):∃ v u,vs = [v,u]∧x.holds β v w∧y.holds β u w:=by
 obtain ⟨v,r,rfl,h1,h2⟩:=h
 obtain ⟨u,rfl,h3⟩:=dF h2
 exact ⟨v,u,rfl,h1,h3⟩
theorem fits_nb1 {P:Program} {f:FuncId} {p r:Rat} (h:∀ v w,Nb w v p→Calls P f #[v] w (GivesNb w r)):Fits P f [num p] (num r):=by
 intro β w vs hv
 obtain ⟨v,rfl,h1⟩:=dF hv
 exact (h v w (dI.1 h1)).mono fun e w' ⟨u,e,h1,h2⟩=>⟨u,e,h2,dI.2 h1⟩
theorem tB {P:Program} {f:FuncId} {p q r:Rat} (h:∀ v v' w,Nb w v p→Nb w v' q→Calls P f #[v,v'] w (GivesNb w r)):Fits P f [num p,num q] (num r):=by
 intro β w vs hv
 obtain ⟨v,u,rfl,h1,h2⟩:=eB hv
 exact (h v u w (dI.1 h1) (dI.1 h2)).mono fun e w' ⟨u,e,h1,h2⟩=>⟨u,e,h2,dI.2 h1⟩
theorem kgo {f:FuncId} {fn:Func} {args:List (AV Kn)} {x:AV Kn} (hfn:Tryz.prog.funcs[f]?=some fn) (hc:(fn.body.isSome,decide (args.length≤fn.ntmps),x.noPtr,args.all AV.noPtr)=(true,true,true,true))
 (h:∀ w00,Ok Tryz.prog f w00 (fun v w=>x.holds [] v w) (cG Tryz.prog 1000 (pJ fn args))):jF f args x:=by
 simp only [Prod.mk.injEq] at hc
 exact fits_go hfn hc.1 hc.2.1 hc.2.2.1 hc.2.2.2 fun w00=>Ok.go (by kernel_rfl) mP 1000 (h w00)
theorem kgoW {I:World→Prop} {f:FuncId} {fn:Func} {args:List (AV Kn)} {x:AV Kn} (hfn:Tryz.prog.funcs[f]?=some fn) (hc:(fn.body.isSome,decide (args.length≤fn.ntmps),x.noPtr,args.all AV.noPtr)=(true,true,true,true))
 (h:∀ w00,I w00→Ok Tryz.prog f w00 (fun v w=>x.holds [] v w) (cG Tryz.prog 1000 (pJ fn args))):FitsW Tryz.prog I f args x:=by
 simp only [Prod.mk.injEq] at hc
 exact fitsW_of hfn hc.1 hc.2.1 hc.2.2.1 hc.2.2.2 fun w00 hI=>Ok.go (by kernel_rfl) mP 1000 (h w00 hI)
theorem lA {f:FuncId} {fn:Func} {n:Nat} {T:TypeId} {l:List (Seg Kn)} {x:AV Kn} (hfn:Tryz.prog.funcs[f]?=some fn) (hc:(fn.body.isSome,decide (1≤fn.ntmps),x.noPtr,l.all Seg.noPtr)=(true,true,true,true))
 (h:∀ w00,Ok Tryz.prog f w00 (fun v w=>x.holds [] v w) (cG Tryz.prog 1000 (.items [.code (fn.body.getD .skip)] { slots := [.fv (.sc (.slc 0 0 n n))]++List.replicate (fn.ntmps-1) .un,blocks := [(T,l)],ro:=1 }))):jF f [.fv (.nsl n T l)] x:=by
 simp only [Prod.mk.injEq] at hc
 exact fitsS_of hfn hc.1 hc.2.1 hc.2.2.1 hc.2.2.2 fun w00=>Ok.go (by kernel_rfl) mP 1000 (h w00)
section
variable {f:FuncId} {w00:World} {Out:Value→World→Prop}
theorem dS {c:Cfg Kn} (fn:FuncId) (args:List (AV Kn)) {x:AV Kn} (h:jF fn args x) (hc:(c.callee Tryz.prog,c.args Tryz.prog,c.okT x)=(some fn,args,true)) (hfn:∀ (args:Array Value) (w:World),(callFunc fn args).run Tryz.prog w = .ok (.enter fn args) w)
 (hg:Ok Tryz.prog f w00 Out (cG Tryz.prog 1000 (c.give x))):Ok Tryz.prog f w00 Out c:=by
 simp only [Prod.mk.injEq] at hc
 exact Ok.call fn args h hc.1 hc.2.1 hc.2.2 hfn (Ok.go (by kernel_rfl) mP 1000 hg)
theorem kcallW {I:World→Prop} {c:Cfg Kn} (hI:∀ w,Below w00.heap.size w00 w→I w) (fn:FuncId) (args:List (AV Kn)) {x:AV Kn} (h:FitsW Tryz.prog I fn args x) (hc:(c.callee Tryz.prog,c.args Tryz.prog,c.okT x,c.canB)=(some fn,args,true,true)) (hfn:∀ (args:Array Value) (w:World),(callFunc fn args).run Tryz.prog w = .ok (.enter fn args) w)
 (hg:Ok Tryz.prog f w00 Out (cG Tryz.prog 1000 (c.give x))):Ok Tryz.prog f w00 Out c:=by
 simp only [Prod.mk.injEq] at hc
 exact Ok.callW hI fn args h hc.1 hc.2.1 hc.2.2.1 hc.2.2.2 hfn (Ok.go (by kernel_rfl) mP 1000 hg)
theorem kcallS {c:Cfg Kn} (fn:FuncId) (k n:Nat) (T:TypeId) (l:List (Seg Kn)) {x:AV Kn} (h:jF fn [.fv (.nsl n T l)] x) (hc:(c.callee Tryz.prog,c.args Tryz.prog,c.okT x,c.mem[k]?)=(some fn,[.fv (.sc (.slc k 0 n n))],true,some (some (T,l)))) (hfn:∀ (args:Array Value) (w:World),(callFunc fn args).run Tryz.prog w = .ok (.enter fn args) w)
 (hg:Ok Tryz.prog f w00 Out (cG Tryz.prog 1000 (c.give x))):Ok Tryz.prog f w00 Out c:=by
 simp only [Prod.mk.injEq] at hc
 exact Ok.callS fn k n T l h hc.1 hc.2.1 hc.2.2.1 hc.2.2.2 hfn (Ok.go (by kernel_rfl) mP 1000 hg)
theorem pK {c:Cfg Kn} (op:Op) (x y:Operand) (X Y r:AV Kn) (hc:(c.op.map fun o=>o.op,c.okT r,c.ev x,c.ev y)=(some op,true,X,Y)) (hx:x∈op.operands) (hy:y∈op.operands)
 (h:∀ (ρ:Operand→Value) (o:Oper) (β:List Nat) (w:World),o.op=op→X.holds β (ρ x) w→Y.holds β (ρ y) w→∃ v,(execOp ρ o).run Tryz.prog w = .ok (.value v) w∧r.holds β v w)
 (hg:Ok Tryz.prog f w00 Out (cG Tryz.prog 1000 (c.give r))):Ok Tryz.prog f w00 Out c:=by
 simp only [Prod.mk.injEq] at hc
 obtain ⟨h1,h2,h3,h4⟩:=hc
 rw [Option.map_eq_some_iff] at h1
 obtain ⟨o,ho,ho2⟩:=h1
 refine Ok.op o r ho h2 (fun β ρ w _ _ hs => .inl ?_) (Ok.go (by kernel_rfl) mP 1000 hg)
 obtain ⟨v,e,hv⟩:=h ρ o β w ho2 (by rw [← h3];exact hs x (by rw [ho2];exact hx)) (by rw [← h4];exact hs y (by rw [ho2];exact hy))
 exact ⟨v,w,e,aB _ _,hv⟩
theorem kret {c:Cfg Kn} {fn:Func} {x:AV Kn} (hfn:Tryz.prog.funcs[f]?=some fn) (hc:(x.noPtr,c.res Tryz.prog fn)=(true,some x)):Ok Tryz.prog f w00 (fun v w=>x.holds [] v w) c:=by
 simp only [Prod.mk.injEq] at hc
 exact Ok.ret hfn hc.1 hc.2
end
theorem jK{f:FuncId}{w00:World}{Out:Value→World→Prop}{c:Cfg Kn}(op:Op)(x y:Operand)(X Y r:AV Kn)(h:∀(ρ:Operand→Value)(o:Oper)(β:List Nat)(w:World),o.op=op→X.holds β (ρ x) w→Y.holds β (ρ y) w→∃v,(execOp ρ o).run Tryz.prog w=.ok (.value v) w∧r.holds β v w)(hg:Ok Tryz.prog f w00 Out (cG Tryz.prog 1000 (c.give r)))(hc:(c.op.map fun o=>o.op,c.okT r,c.ev x,c.ev y)=(some op,true,X,Y):=by kernel_rfl)(hx:x∈op.operands:=by simp [Op.operands,Call.operands])(hy:y∈op.operands:=by simp [Op.operands,Call.operands]):Ok Tryz.prog f w00 Out c:=pK op x y X Y r hc hx hy h hg
theorem jC{f:FuncId}{w00:World}{Out:Value→World→Prop}{c:Cfg Kn}(fn:FuncId)(args:List (AV Kn)){x:AV Kn}(h:jF fn args x)(hg:Ok Tryz.prog f w00 Out (cG Tryz.prog 1000 (c.give x)))(hc:(c.callee Tryz.prog,c.args Tryz.prog,c.okT x)=(some fn,args,true):=by kernel_rfl)(hfn:∀(args:Array Value)(w:World),(callFunc fn args).run Tryz.prog w=.ok (.enter fn args) w:=by intro _ _;kernel_rfl):Ok Tryz.prog f w00 Out c:=dS fn args h hc hfn hg
theorem jR{f:FuncId}{w00:World}{c:Cfg Kn}{fn:Func}{x:AV Kn}(hfn:Tryz.prog.funcs[f]?=some fn)(hc:(x.noPtr,c.res Tryz.prog fn)=(true,some x):=by kernel_rfl):Ok Tryz.prog f w00 (fun v w=>x.holds [] v w) c:=kret hfn hc
theorem jG{f:FuncId}{fn:Func}{args:List (AV Kn)}{x:AV Kn}(hfn:Tryz.prog.funcs[f]?=some fn)(h:∀w00,Ok Tryz.prog f w00 (fun v w=>x.holds [] v w) (cG Tryz.prog 1000 (pJ fn args)))(hc:(fn.body.isSome,decide (args.length≤fn.ntmps),x.noPtr,args.all AV.noPtr)=(true,true,true,true):=by kernel_rfl):jF f args x:=kgo hfn hc h
theorem jW{f:FuncId}{w00:World}{Out:Value→World→Prop}{I:World→Prop}{c:Cfg Kn}(hI:∀w,Below w00.heap.size w00 w→I w)(fn:FuncId)(args:List (AV Kn)){x:AV Kn}(h:FitsW Tryz.prog I fn args x)(hg:Ok Tryz.prog f w00 Out (cG Tryz.prog 1000 (c.give x)))(hc:(c.callee Tryz.prog,c.args Tryz.prog,c.okT x,c.canB)=(some fn,args,true,true):=by kernel_rfl)(hfn:∀(args:Array Value)(w:World),(callFunc fn args).run Tryz.prog w=.ok (.enter fn args) w:=by intro _ _;kernel_rfl):Ok Tryz.prog f w00 Out c:=kcallW hI fn args h hc hfn hg
theorem wD {p q:Rat} (hp:Lf 36 p) (hq:Lf 36 q):jF 96 [num p,num q] (num (p+q)):=tB fun v v' w h h'=>plus_nb v v' p q w h h' hp hq
theorem pL {p q:Rat} (hp:Lf 36 p) (hq:Lf 36 q):jF 112 [num p,num q] (num (p-q)):=tB fun v v' w h h'=>minus_nb v v' p q w h h' hp hq
theorem fO {p q:Rat} (hp:Lf 38 p) (hq:Lf 38 q):jF 111 [num p,num q] (num (p*q)):=tB fun v v' w h h'=>times_nb v v' p q w h h' hp hq
theorem rH {p q:Rat} (hp:Lf 38 p) (hq:Lf 38 q) (h0:q≠0):jF 79 [num p,num q] (num (p/q)):=tB fun v v' w h h'=>over_nb v v' p q w h h' hp hq h0
theorem negatedF {p:Rat}:jF 151 [num p] (num (-p)):=fits_nb1 fun v w h=>yY v p w h
abbrev bl (b:Bool):AV Kn := .fv (.sc (.lit (.bool b)))
abbrev it (n:Int):AV Kn := .fv (.sc (.lit (.int .i64 n)))
theorem fU {p:Rat} {b:Bool} (h:decide (p=0)=b):jF 43 [num p] (bl b):=by
 intro β w vs hv
 obtain ⟨v,rfl,h1⟩:=dF hv
 refine (qG v p w (dI.1 h1)).mono fun e w' ⟨e1,h2⟩=>⟨_,e1,h2,?_⟩
 rw [h]
 exact ⟨rfl,rfl⟩
theorem signF {p:Rat}:jF 98 [num p] (it (lK p)):=by
 intro β w vs hv
 obtain ⟨v,rfl,h1⟩:=dF hv
 exact (sign_nb v p w (dI.1 h1)).mono fun e w' ⟨e1,h2⟩=>⟨_,e1,h2,rfl,rfl⟩
theorem Lf.addn {n:Nat} {p q:Rat} (hp:Lf (n-2) p) (hq:Lf (n-2) q) (hn:2≤n):Lf n (p+q):=(Lf.add hp hq).mono (by omega)
theorem Lf.subn {n:Nat} {p q:Rat} (hp:Lf (n-2) p) (hq:Lf (n-2) q) (hn:2≤n):Lf n (p-q):=by
 rw [Rat.sub_eq_add_neg]
 exact Lf.addn hp hq.neg hn
theorem Lf.muln {n:Nat} {p q:Rat} (hp:Lf (n-1) p) (hq:Lf (n-1) q) (hn:1≤n):Lf n (p*q):=(Lf.mul hp hq).mono (by omega)
end Ab
namespace Ab
open Go.RowKit
abbrev gP (F:FuncId):AV Kn := .fv (.sc (.lit (.func (.func F) #[] #[])))
abbrev rW (F:FuncId):Prop := ∀ (args:Array Value) (w:World),(callFunc F args).run Tryz.prog w = .ok (.enter F args) w
theorem joinF {F:FuncId} {a1 a2 a3 b1 b2 b3 r1 r2 r3:Rat} (hF:rW F) (h1:jF F [num a1,num b1] (num r1)) (h2:jF F [num a2,num b2] (num r2)) (h3:jF F [num a3,num b3] (num r3)) :
 jF 94 [gP F,vc a1 a2 a3,vc b1 b2 b3] (vc r1 r2 r3):=by
 refine jG Tryz.func94 fun w00=>?_
 refine dS F [num a1,num b1] (h1) (by kernel_rfl) (hF) ?_
 refine dS F [num a2,num b2] (h2) (by kernel_rfl) (hF) ?_
 refine dS F [num a3,num b3] (h3) (by kernel_rfl) (hF) ?_
 exact jR Tryz.func94
abbrev cloN (F:FuncId) (c:Rat):AV Kn := .fv (.clo F [(true,[nb c])] [])
theorem eachC {F:FuncId} {c a1 a2 a3 r1 r2 r3:Rat} (hF:rW F) (h1:jF F [num c,num a1] (num r1)) (h2:jF F [num c,num a2] (num r2)) (h3:jF F [num c,num a3] (num r3)) :
 jF 152 [cloN F c,vc a1 a2 a3] (vc r1 r2 r3):=by
 refine jG Tryz.func152 fun w00=>?_
 refine dS F [num c,num a1] (h1) (by kernel_rfl) (hF) ?_
 refine dS F [num c,num a2] (h2) (by kernel_rfl) (hF) ?_
 refine dS F [num c,num a3] (h3) (by kernel_rfl) (hF) ?_
 exact jR Tryz.func152
abbrev iv (a b c:Int):AV Kn := .fv (.ag [.lit (.int .i64 a),.lit (.int .i64 b),.lit (.int .i64 c)])
theorem mQ {n:Int} (hn:-9223372036854775808≤n∧n≤9223372036854775807):jF 90 [it n] (num (n:Rat)):=by
 intro β w vs hv
 obtain ⟨v,rfl,h1⟩:=dF hv
 rw [aN h1]
 exact (integer_any n w hn.1 hn.2).mono fun e w' ⟨u,e,h1,h2⟩=>⟨u,e,h2,dI.2 h1⟩
theorem eachI {F:FuncId} {a1 a2 a3:Int} {r1 r2 r3:Rat} (hF:rW F) (h1:jF F [it a1] (num r1)) (h2:jF F [it a2] (num r2)) (h3:jF F [it a3] (num r3)) :
 jF 104 [gP F,iv a1 a2 a3] (vc r1 r2 r3):=by
 refine jG Tryz.func104 fun w00=>?_
 refine dS F [it a1] (h1) (by kernel_rfl) (hF) ?_
 refine dS F [it a2] (h2) (by kernel_rfl) (hF) ?_
 refine dS F [it a3] (h3) (by kernel_rfl) (hF) ?_
 exact jR Tryz.func104
abbrev uV (n:Int):Prop := -9223372036854775808≤n∧n≤9223372036854775807
theorem iE {a b c:Int} (ha:uV a) (hb:uV b) (hc:uV c):jF 37 [iv a b c] (vc a b c):=by
 refine jG Tryz.func37 fun w00=>?_
 refine jC 104 [gP 90,iv a b c] (eachI Tryz.call90 (mQ ha) (mQ hb) (mQ hc)) ?_
 exact jR Tryz.func37
theorem Fits.args {P:Program} {f:FuncId} {l l' : List (AV Kn)} {x:AV Kn} (h:Fits P f l x) (hl:∀ β vs w,holdsA β l' vs w→holdsA β l vs w):Fits P f l' x:=fun β w vs hv=>h β w vs (hl β vs w hv)
abbrev zeroN:AV Kn := .fv (.ag [.lit (.int .i64 0),.lit (.int .i64 0),.lit (.pointer none)])
theorem zero_num {β:List Nat} {v:Value} {w:World} (h:zeroN.holds β v w):(num 0).holds β v w:=by
 obtain ⟨cs,rfl,a,r,rfl,⟨rfl,_⟩,b,r2,rfl,⟨rfl,_⟩,c,r3,rfl,⟨rfl,_⟩,e⟩:=h
 rw [show r3 = [] from e]
 exact dI.2 (.inl ⟨xJ,rfl⟩)
section
variable {a1 a2 a3 b1 b2 b3 c:Rat}
theorem uW (h1:Lf 36 a1) (h2:Lf 36 a2) (h3:Lf 36 a3) (k1:Lf 36 b1) (k2:Lf 36 b2) (k3:Lf 36 b3):jF 87 [vc a1 a2 a3,vc b1 b2 b3] (vc (a1+b1) (a2+b2) (a3+b3)):=by
 refine jG Tryz.func87 fun w00=>?_
 refine jC 94 [gP 96,vc a1 a2 a3,vc b1 b2 b3] (joinF Tryz.call96 (wD h1 k1) (wD h2 k2) (wD h3 k3)) ?_
 exact jR Tryz.func87
theorem xK (h1:Lf 36 a1) (h2:Lf 36 a2) (h3:Lf 36 a3) (k1:Lf 36 b1) (k2:Lf 36 b2) (k3:Lf 36 b3):jF 84 [vc a1 a2 a3,vc b1 b2 b3] (vc (a1-b1) (a2-b2) (a3-b3)):=by
 refine jG Tryz.func84 fun w00=>?_
 refine jC 94 [gP 112,vc a1 a2 a3,vc b1 b2 b3] (joinF Tryz.call112 (pL h1 k1) (pL h2 k2) (pL h3 k3)) ?_
 exact jR Tryz.func84
theorem gQ (hc:Lf 38 c) (h1:Lf 38 a1) (h2:Lf 38 a2) (h3:Lf 38 a3):jF 89 [vc a1 a2 a3,num c] (vc (c*a1) (c*a2) (c*a3)):=by
 refine jG Tryz.func89 fun w00=>?_
 refine jC 152 [cloN 111 c,vc a1 a2 a3] (eachC Tryz.call111 (fO hc h1) (fO hc h2) (fO hc h3)) ?_
 exact jR Tryz.func89
theorem totalF {T:TypeId} (h1:Lf 32 a1) (h2:Lf 32 a2) (h3:Lf 32 a3):jF 145 [.fv (.nsl 3 T [nb a1,nb a2,nb a3])] (num (a1+a2+a3)):=by
 refine lA Tryz.func145 (by kernel_rfl) fun w00=>?_
 refine jC 96 [zeroN,num a1] (Fits.args (wD (p:=0) (q:=a1) (Lf.zero _) (h1.mono (by decide))) (fun β vs w ⟨v,r,e,k1,k2⟩=>⟨v,r,e,zero_num k1,k2⟩)) ?_
 refine jC 96 [num (0+a1),num a2] (wD ((Lf.addn (n:=34) (Lf.zero _) h1 (by decide)).mono (by decide)) (h2.mono (by decide))) ?_
 refine jC 96 [num (0+a1+a2),num a3] (wD (Lf.addn (n:=36) (Lf.addn (n:=34) (Lf.zero _) h1 (by decide)) (h2.mono (by decide)) (by decide)) (h3.mono (by decide))) ?_
 rw [show a1+a2+a3=0+a1+a2+a3 by rw [Rat.zero_add]]
 exact jR Tryz.func145
theorem zB (h1:Lf 35 a1) (h2:Lf 35 a2) (h3:Lf 35 a3) (k1:Lf 35 b1) (k2:Lf 35 b2) (k3:Lf 35 b3) :
 jF 77 [vc a1 a2 a3,vc b1 b2 b3] (vc (a2*b3-a3*b2) (a3*b1-a1*b3) (a1*b2-a2*b1)):=by
 refine jG Tryz.func77 fun w00=>?_
 refine jC 111 [num a2,num b3] (fO (h2.mono (by decide)) (k3.mono (by decide))) ?_
 refine jC 111 [num a3,num b2] (fO (h3.mono (by decide)) (k2.mono (by decide))) ?_
 refine jC 112 [num (a2*b3),num (a3*b2)] (pL (h2.mul k3) (h3.mul k2)) ?_
 refine jC 111 [num a3,num b1] (fO (h3.mono (by decide)) (k1.mono (by decide))) ?_
 refine jC 111 [num a1,num b3] (fO (h1.mono (by decide)) (k3.mono (by decide))) ?_
 refine jC 112 [num (a3*b1),num (a1*b3)] (pL (h3.mul k1) (h1.mul k3)) ?_
 refine jC 111 [num a1,num b2] (fO (h1.mono (by decide)) (k2.mono (by decide))) ?_
 refine jC 111 [num a2,num b1] (fO (h2.mono (by decide)) (k1.mono (by decide))) ?_
 refine jC 112 [num (a1*b2),num (a2*b1)] (pL (h1.mul k2) (h2.mul k1)) ?_
 exact jR Tryz.func77
theorem oO (h1:Lf 31 a1) (h2:Lf 31 a2) (h3:Lf 31 a3) (k1:Lf 31 b1) (k2:Lf 31 b2) (k3:Lf 31 b3):jF 78 [vc a1 a2 a3,vc b1 b2 b3] (num (a1*b1+a2*b2+a3*b3)):=by
 refine jG Tryz.func78 fun w00=>?_
 refine jC 94 [gP 111,vc a1 a2 a3,vc b1 b2 b3] (joinF Tryz.call111 (fO (h1.mono (by decide)) (k1.mono (by decide))) (fO (h2.mono (by decide)) (k2.mono (by decide))) (fO (h3.mono (by decide)) (k3.mono (by decide)))) ?_
 refine kcallS 145 3 3 67 [nb (a1*b1),nb (a2*b2),nb (a3*b3)] (totalF (h1.mul k1) (h2.mul k2) (h3.mul k3)) (by kernel_rfl) Tryz.call145 ?_
 exact jR Tryz.func78
theorem qI (h1:Lf 31 a1) (h2:Lf 31 a2) (h3:Lf 31 a3):jF 80 [vc a1 a2 a3] (num (a1*a1+a2*a2+a3*a3)):=by
 refine jG Tryz.func80 fun w00=>?_
 refine jC 78 [vc a1 a2 a3,vc a1 a2 a3] (oO h1 h2 h3 h1 h2 h3) ?_
 exact jR Tryz.func80
theorem eQ {z:Bool} (h:(decide (a1=0)&&decide (a2=0)&&decide (a3=0))=z):jF 44 [vc a1 a2 a3] (bl z):=by
 intro β w vs hv
 obtain ⟨v,rfl,h1⟩:=dF hv
 refine (isZero_vc v a1 a2 a3 w (tA.1 h1)).mono fun e w' ⟨e1,h2⟩=>⟨_,e1,h2,?_⟩
 rw [h]
 exact ⟨rfl,rfl⟩
end
end Ab
namespace Ab
open Go.RowKit Pl
def csNt (a:Nat):CS Kn where
 size:=1
 cold:=true
 pred cs w := ∃ v,cs = [v]∧Nt w v a
 stable:=fun cs w w' ⟨v,e,h⟩ hx=>⟨v,e,Nt.ext (K:=Kn) (fun _=>rfl) h hx⟩
 len:=fun cs w ⟨v,e,h⟩=>by rw [e];rfl
 one:=fun cs w ⟨v,e,h⟩=>by
  obtain ⟨A,n,c,rfl⟩:=Nt.form h
  rw [e]
  intro c hc
  rw [List.mem_singleton] at hc
  subst hc
  rfl
 iscold:=fun _ cs w ⟨v,e,h⟩=>by
  obtain ⟨A,n,c,rfl⟩:=Nt.form h
  rw [e]
  intro c hc
  rw [List.mem_singleton] at hc
  subst hc
  rfl
abbrev nts (a:Nat):Seg Kn := .sp (csNt a)
abbrev nt (a:Nat):AV Kn := .fv (.sc (nts a))
theorem dK {β:List Nat} {v:Value} {w:World} {a:Nat}:(nt a).holds β v w↔Nt w v a :=
 ⟨fun ⟨u,e,h⟩=>by injection e with e;rw [e];exact h,fun h=>⟨v,rfl,h⟩⟩
abbrev frv (neg:Bool) (n d:Nat):AV Kn := .fv (.ag [.lit (.bool neg),nts n,nts d])
abbrev fra (q:Rat):AV Kn:=frv (decide (q.num<0)) q.num.natAbs q.den
theorem frv_holds {β:List Nat} {v:Value} {w:World} {neg:Bool} {n d:Nat}:(frv neg n d).holds β v w↔∃ s1 s2,v = .agg #[.bool neg,s1,s2]∧Nt w s1 n∧Nt w s2 d:=by
 constructor
 ·rintro ⟨cs,rfl,a,r,rfl,⟨rfl,_⟩,b,r2,rfl,⟨s1,rfl,h1⟩,c,r3,rfl,⟨s2,rfl,h2⟩,e⟩
  rw [show r3 = [] from e]
  exact ⟨s1,s2,rfl,h1,h2⟩
 ·rintro ⟨s1,s2,rfl,h1,h2⟩
  exact ⟨[.bool neg,s1,s2],rfl,[.bool neg],_,rfl,⟨rfl,rfl⟩,[s1],_,rfl,⟨s1,rfl,h1⟩,[s2],[],rfl,⟨s2,rfl,h2⟩,rfl⟩
theorem uX {β:List Nat} {v:Value} {w:World} {q:Rat}:(fra q).holds β v w↔Fr w v q:=frv_holds
theorem eM {q:Rat}:jF 155 [num q] (fra q):=by
 intro β w vs hv
 obtain ⟨v,rfl,h1⟩:=dF hv
 exact (cF v q w (dI.1 h1)).mono fun e w' ⟨u,e,h1,h2⟩=>⟨u,e,h2,uX.2 h1⟩
theorem kL {q:Rat}:jF 74 [fra q] (num q):=by
 intro β w vs hv
 obtain ⟨v,rfl,h1⟩:=dF hv
 exact (fB v q w (uX.1 h1)).mono fun e w' ⟨u,e,h1,h2⟩=>⟨u,e,h2,dI.2 h1⟩
theorem zC {a b:Nat} (ha:Lv 40 a) (hb:Lv 40 b) (h0:0<a∨0<b):jF 109 [nt a,nt b] (nt (Nat.gcd a b)):=by
 intro β w vs hv
 obtain ⟨v,u,rfl,h1,h2⟩:=eB hv
 exact (xH v u a b w (dK.1 h1) (dK.1 h2) ha hb h0).mono fun e w' ⟨u,e,h1,h2⟩=>⟨u,e,h2,dK.2 h1⟩
theorem ntimesF {a b:Nat} (ha:Lv 40 a) (hb:Lv 40 b):jF 136 [nt a,nt b] (nt (a*b)):=by
 intro β w vs hv
 obtain ⟨v,u,rfl,h1,h2⟩:=eB hv
 exact (iV (dK.1 h1) (dK.1 h2) ha hb).mono fun e w' ⟨u,e,h1,h2⟩=>⟨u,e,h2,dK.2 h1⟩
theorem lB {a b:Nat} (ha:Lv 40 a) (hb:0<b):jF 134 [nt a,nt b] (.tup [.sc (nts (a/b)),.sc (nts (a%b))]):=by
 intro β w vs hv
 obtain ⟨v,u,rfl,h1,h2⟩:=eB hv
 refine (fL (dK.1 h1) (dK.1 h2) ha hb).mono fun e w' ⟨u,u',e,h1,h2,h3⟩=>⟨_,e,h3,?_⟩
 exact ⟨[u,u'],rfl,u,_,rfl,⟨u,rfl,h1⟩,u',_,rfl,⟨u',rfl,h2⟩,rfl⟩
theorem naturalOfF {a:Nat} (ha:a<aD):jF 137 [.fv (.sc (.lit (.int .u64 (a:Int))))] (nt a):=by
 intro β w vs hv
 obtain ⟨v,rfl,h1⟩:=dF hv
 rw [aN h1]
 exact (cE a ha w).mono fun e w' ⟨u,e,h1,h2⟩=>⟨u,e,h2,dK.2 h1⟩
theorem pM {neg:Bool} {n d:Nat} (hn:Lv 40 n) (hd:Lv 40 d) (hd0:0<d):jF 72 [bl neg,nt n,nt d] (fra (mkRat (sg neg n) d)):=by
 rintro β w vs ⟨v,r,rfl,h0,hv⟩
 obtain ⟨v',u,rfl,h1,h2⟩:=eB hv
 rw [aN h0]
 exact (uS neg n d v' u w (dK.1 h1) (dK.1 h2) hn hd hd0).mono fun e w' ⟨u,e,h1,h2⟩=>⟨u,e,h2,uX.2 h1⟩
abbrev hf (a b c d:Rat):AV Kn := .fv (.ag [nb a,nb b,nb c,nb d])
abbrev iF (o1 o2 o3 x1 x2 x3 y1 y2 y3 z1 z2 z3:Rat):AV Kn := .fv (.ag [nb o1,nb o2,nb o3,nb x1,nb x2,nb x3,nb y1,nb y2,nb y3,nb z1,nb z2,nb z3])
abbrev mt (x1 x2 x3 y1 y2 y3 z1 z2 z3:Rat):AV Kn := .fv (.ag [nb x1,nb x2,nb x3,nb y1,nb y2,nb y3,nb z1,nb z2,nb z3])
abbrev dt (a1 a2 a3 b1 b2 b3:Rat):Rat:=a1*b1+a2*b2+a3*b3
theorem jZ {n:Nat} {a1 a2 a3 b1 b2 b3:Rat} (h1:Lf (n-5) a1) (h2:Lf (n-5) a2) (h3:Lf (n-5) a3) (k1:Lf (n-5) b1) (k2:Lf (n-5) b2) (k3:Lf (n-5) b3) (hn:5≤n):Lf n (dt a1 a2 a3 b1 b2 b3) :=
 Lf.addn (Lf.addn ((h1.mul k1).mono (by omega)) ((h2.mul k2).mono (by omega)) (by omega)) ((h3.mul k3).mono (by omega)) (by omega)
section
variable {n1 n2 n3 d p1 p2 p3:Rat}
theorem excessF (h1:Lf 31 n1) (h2:Lf 31 n2) (h3:Lf 31 n3) (hd:Lf 36 d) (k1:Lf 31 p1) (k2:Lf 31 p2) (k3:Lf 31 p3):jF 97 [hf n1 n2 n3 d,vc p1 p2 p3] (num (dt n1 n2 n3 p1 p2 p3-d)):=by
 refine jG Tryz.func97 fun w00=>?_
 refine jC 78 [vc n1 n2 n3,vc p1 p2 p3] (oO h1 h2 h3 k1 k2 k3) ?_
 refine jC 112 [num (dt n1 n2 n3 p1 p2 p3),num d] (pL (jZ h1 h2 h3 k1 k2 k3 (by decide)) hd) ?_
 exact jR Tryz.func97
abbrev mS (n1 n2 n3 d p1 p2 p3:Rat):Rat := -(dt n1 n2 n3 p1 p2 p3-d)/dt n1 n2 n3 n1 n2 n3
theorem lf_way {n:Nat} (h1:Lf (n-11) n1) (h2:Lf (n-11) n2) (h3:Lf (n-11) n3) (hd:Lf (n-6) d) (k1:Lf (n-11) p1) (k2:Lf (n-11) p2) (k3:Lf (n-11) p3) (hn:11≤n):Lf n (mS n1 n2 n3 d p1 p2 p3):=by
 rw [mS,Rat.div_def]
 have e1:Lf (n-6) (dt n1 n2 n3 p1 p2 p3):=jZ (h1.mono (by omega)) (h2.mono (by omega)) (h3.mono (by omega)) (k1.mono (by omega)) (k2.mono (by omega)) (k3.mono (by omega)) (by omega)
 have e2:Lf (n-6) (dt n1 n2 n3 n1 n2 n3):=jZ (h1.mono (by omega)) (h2.mono (by omega)) (h3.mono (by omega)) (h1.mono (by omega)) (h2.mono (by omega)) (h3.mono (by omega)) (by omega)
 exact Lf.muln ((Lf.subn (n:=n-4) (e1.mono (by omega)) (hd.mono (by omega)) (by omega)).neg.mono (by omega)) ((Lf.inv e2).mono (by omega)) (by omega)
theorem toPlaneF (h1:Lf 25 n1) (h2:Lf 25 n2) (h3:Lf 25 n3) (hd:Lf 30 d) (k1:Lf 25 p1) (k2:Lf 25 p2) (k3:Lf 25 p3) (h0:dt n1 n2 n3 n1 n2 n3≠0) :
 jF 88 [hf n1 n2 n3 d,vc p1 p2 p3] (vc (mS n1 n2 n3 d p1 p2 p3*n1) (mS n1 n2 n3 d p1 p2 p3*n2) (mS n1 n2 n3 d p1 p2 p3*n3)):=by
 have hE:Lf 32 (dt n1 n2 n3 p1 p2 p3-d):=Lf.subn (jZ h1 h2 h3 k1 k2 k3 (by decide)) (hd.mono (by decide)) (by decide)
 refine jG Tryz.func88 fun w00=>?_
 refine jC 97 [hf n1 n2 n3 d,vc p1 p2 p3] (excessF (h1.mono (by decide)) (h2.mono (by decide)) (h3.mono (by decide)) (hd.mono (by decide)) (k1.mono (by decide)) (k2.mono (by decide)) (k3.mono (by decide))) ?_
 refine jC 151 [num (dt n1 n2 n3 p1 p2 p3-d)] (negatedF) ?_
 refine jC 80 [vc n1 n2 n3] (qI (h1.mono (by decide)) (h2.mono (by decide)) (h3.mono (by decide))) ?_
 refine jC 79 [num (-(dt n1 n2 n3 p1 p2 p3-d)),num (dt n1 n2 n3 n1 n2 n3)] (rH (hE.neg.mono (by decide)) (jZ (h1.mono (by decide)) (h2.mono (by decide)) (h3.mono (by decide)) (h1.mono (by decide)) (h2.mono (by decide)) (h3.mono (by decide)) (by decide)) h0) ?_
 refine jC 89 [vc n1 n2 n3,num (mS n1 n2 n3 d p1 p2 p3)] (gQ (lf_way (n:=38) (h1.mono (by decide)) (h2.mono (by decide)) (h3.mono (by decide)) (hd.mono (by decide)) (k1.mono (by decide)) (k2.mono (by decide)) (k3.mono (by decide)) (by decide)) (h1.mono (by decide)) (h2.mono (by decide)) (h3.mono (by decide))) ?_
 exact jR Tryz.func88
end
abbrev cloV (F:FuncId) (a b c:Rat):AV Kn := .fv (.clo F [(true,[nb a,nb b,nb c])] [])
section
variable {x1 x2 x3 y1 y2 y3 z1 z2 z3 r1 r2 r3:Rat} {F:FuncId}
theorem eachVN (hF:rW F) (h1:jF F [vc x1 x2 x3] (num r1)) (h2:jF F [vc y1 y2 y3] (num r2)) (h3:jF F [vc z1 z2 z3] (num r3)):jF 105 [gP F,mt x1 x2 x3 y1 y2 y3 z1 z2 z3] (vc r1 r2 r3):=by
 refine jG Tryz.func105 fun w00=>?_
 refine dS F [vc x1 x2 x3] (h1) (by kernel_rfl) (hF) ?_
 refine dS F [vc y1 y2 y3] (h2) (by kernel_rfl) (hF) ?_
 refine dS F [vc z1 z2 z3] (h3) (by kernel_rfl) (hF) ?_
 exact jR Tryz.func105
theorem eachVNc {a b c:Rat} (hF:rW F) (h1:jF F [vc a b c,vc x1 x2 x3] (num r1)) (h2:jF F [vc a b c,vc y1 y2 y3] (num r2)) (h3:jF F [vc a b c,vc z1 z2 z3] (num r3)):jF 105 [cloV F a b c,mt x1 x2 x3 y1 y2 y3 z1 z2 z3] (vc r1 r2 r3):=by
 refine jG Tryz.func105 fun w00=>?_
 refine dS F [vc a b c,vc x1 x2 x3] (h1) (by kernel_rfl) (hF) ?_
 refine dS F [vc a b c,vc y1 y2 y3] (h2) (by kernel_rfl) (hF) ?_
 refine dS F [vc a b c,vc z1 z2 z3] (h3) (by kernel_rfl) (hF) ?_
 exact jR Tryz.func105
theorem eachVVc {s1 s2 s3 t1 t2 t3 u1 u2 u3 o1 o2 o3 a1 a2 a3 b1 b2 b3 c1 c2 c3:Rat} (hF:rW F) (h1:jF F [iF o1 o2 o3 a1 a2 a3 b1 b2 b3 c1 c2 c3,vc x1 x2 x3] (vc s1 s2 s3)) (h2:jF F [iF o1 o2 o3 a1 a2 a3 b1 b2 b3 c1 c2 c3,vc y1 y2 y3] (vc t1 t2 t3)) (h3:jF F [iF o1 o2 o3 a1 a2 a3 b1 b2 b3 c1 c2 c3,vc z1 z2 z3] (vc u1 u2 u3)):jF 33 [.fv (.clo F [(true,[nb o1,nb o2,nb o3,nb a1,nb a2,nb a3,nb b1,nb b2,nb b3,nb c1,nb c2,nb c3])] []),mt x1 x2 x3 y1 y2 y3 z1 z2 z3] (mt s1 s2 s3 t1 t2 t3 u1 u2 u3):=by
 refine jG Tryz.func33 fun w00=>?_
 refine dS F [iF o1 o2 o3 a1 a2 a3 b1 b2 b3 c1 c2 c3,vc x1 x2 x3] (h1) (by kernel_rfl) (hF) ?_
 refine dS F [iF o1 o2 o3 a1 a2 a3 b1 b2 b3 c1 c2 c3,vc y1 y2 y3] (h2) (by kernel_rfl) (hF) ?_
 refine dS F [iF o1 o2 o3 a1 a2 a3 b1 b2 b3 c1 c2 c3,vc z1 z2 z3] (h3) (by kernel_rfl) (hF) ?_
 exact jR Tryz.func33
theorem eachIV {s1 s2 s3 t1 t2 t3 u1 u2 u3:Rat} (hF:rW F) (h1:jF F [iv 1 0 0] (vc s1 s2 s3)) (h2:jF F [iv 0 1 0] (vc t1 t2 t3)) (h3:jF F [iv 0 0 1] (vc u1 u2 u3)):jF 106 [gP F,.fv (.ag [.lit (.int .i64 1),.lit (.int .i64 0),.lit (.int .i64 0),.lit (.int .i64 0),.lit (.int .i64 1),.lit (.int .i64 0),.lit (.int .i64 0),.lit (.int .i64 0),.lit (.int .i64 1)])] (mt s1 s2 s3 t1 t2 t3 u1 u2 u3):=by
 refine jG Tryz.func106 fun w00=>?_
 refine dS F [iv 1 0 0] (h1) (by kernel_rfl) (hF) ?_
 refine dS F [iv 0 1 0] (h2) (by kernel_rfl) (hF) ?_
 refine dS F [iv 0 0 1] (h3) (by kernel_rfl) (hF) ?_
 exact jR Tryz.func106
theorem unitsF:jF 39 [] (mt (1:Int) (0:Int) (0:Int) (0:Int) (1:Int) (0:Int) (0:Int) (0:Int) (1:Int)):=by
 have i1:uV 1:=by constructor <;> omega
 have i0:uV 0:=by constructor <;> omega
 refine jG Tryz.func39 fun w00=>?_
 refine jC 106 [gP 37,.fv (.ag [.lit (.int .i64 1),.lit (.int .i64 0),.lit (.int .i64 0),.lit (.int .i64 0),.lit (.int .i64 1),.lit (.int .i64 0),.lit (.int .i64 0),.lit (.int .i64 0),.lit (.int .i64 1)])] (eachIV Tryz.call37 (iE i1 i0 i0) (iE i0 i1 i0) (iE i0 i0 i1)) ?_
 exact jR Tryz.func39
variable {o1 o2 o3 p1 p2 p3:Rat}
structure Lm (k:Nat) (x1 x2 x3 y1 y2 y3 z1 z2 z3:Rat):Prop where
 x1:Lf k x1
 x2:Lf k x2
 x3:Lf k x3
 y1:Lf k y1
 y2:Lf k y2
 y3:Lf k y3
 z1:Lf k z1
 z2:Lf k z2
 z3:Lf k z3
structure Lv3 (k:Nat) (a b c:Rat):Prop where
 a:Lf k a
 b:Lf k b
 c:Lf k c
theorem Lm.mono {k l:Nat} (h:Lm k x1 x2 x3 y1 y2 y3 z1 z2 z3) (hk:k≤l):Lm l x1 x2 x3 y1 y2 y3 z1 z2 z3:=⟨h.x1.mono hk,h.x2.mono hk,h.x3.mono hk,h.y1.mono hk,h.y2.mono hk,h.y3.mono hk,h.z1.mono hk,h.z2.mono hk,h.z3.mono hk⟩
theorem Lv3.mono {k l:Nat} {a b c:Rat} (h:Lv3 k a b c) (hk:k≤l):Lv3 l a b c:=⟨h.a.mono hk,h.b.mono hk,h.c.mono hk⟩
theorem squaresF (h:Lm 31 x1 x2 x3 y1 y2 y3 z1 z2 z3):jF 95 [iF o1 o2 o3 x1 x2 x3 y1 y2 y3 z1 z2 z3] (vc (dt x1 x2 x3 x1 x2 x3) (dt y1 y2 y3 y1 y2 y3) (dt z1 z2 z3 z1 z2 z3)):=by
 refine jG Tryz.func95 fun w00=>?_
 refine jC 105 [gP 80,mt x1 x2 x3 y1 y2 y3 z1 z2 z3] (eachVN Tryz.call80 (qI h.x1 h.x2 h.x3) (qI h.y1 h.y2 h.y3) (qI h.z1 h.z2 h.z3)) ?_
 exact jR Tryz.func95
abbrev ld (p1 p2 p3 x y z:Rat):Rat:=p1*x+p2*y+p3*z
theorem wE (h:Lm 31 x1 x2 x3 y1 y2 y3 z1 z2 z3) (k:Lv3 31 p1 p2 p3):jF 34 [iF o1 o2 o3 x1 x2 x3 y1 y2 y3 z1 z2 z3,vc p1 p2 p3] (vc (ld p1 p2 p3 x1 y1 z1) (ld p1 p2 p3 x2 y2 z2) (ld p1 p2 p3 x3 y3 z3)):=by
 have k1:=k.a.mono (l:=38) (by decide)
 have k2:=k.b.mono (l:=38) (by decide)
 have k3:=k.c.mono (l:=38) (by decide)
 have h':=h.mono (l:=38) (by decide)
 refine jG Tryz.func34 fun w00=>?_
 refine jC 89 [vc x1 x2 x3,num p1] (gQ k1 h'.x1 h'.x2 h'.x3) ?_
 refine jC 89 [vc y1 y2 y3,num p2] (gQ k2 h'.y1 h'.y2 h'.y3) ?_
 refine jC 87 [vc (p1*x1) (p1*x2) (p1*x3),vc (p2*y1) (p2*y2) (p2*y3)] (uW ((k.a.mul h.x1).mono (by decide)) ((k.a.mul h.x2).mono (by decide)) ((k.a.mul h.x3).mono (by decide)) ((k.b.mul h.y1).mono (by decide)) ((k.b.mul h.y2).mono (by decide)) ((k.b.mul h.y3).mono (by decide))) ?_
 refine jC 89 [vc z1 z2 z3,num p3] (gQ k3 h'.z1 h'.z2 h'.z3) ?_
 refine jC 87 [vc (p1*x1+p2*y1) (p1*x2+p2*y2) (p1*x3+p2*y3),vc (p3*z1) (p3*z2) (p3*z3)] (uW (((k.a.mul h.x1).add (k.b.mul h.y1)).mono (by decide)) (((k.a.mul h.x2).add (k.b.mul h.y2)).mono (by decide)) (((k.a.mul h.x3).add (k.b.mul h.y3)).mono (by decide)) ((k.c.mul h.z1).mono (by decide)) ((k.c.mul h.z2).mono (by decide)) ((k.c.mul h.z3).mono (by decide))) ?_
 exact jR Tryz.func34
theorem lf_ld {n:Nat} {p1 p2 p3 x y z:Rat} (k:Lv3 (n-5) p1 p2 p3) (hx:Lf (n-5) x) (hy:Lf (n-5) y) (hz:Lf (n-5) z) (hn:5≤n):Lf n (ld p1 p2 p3 x y z):=jZ (a1:=p1) (a2:=p2) (a3:=p3) k.a k.b k.c hx hy hz hn
theorem placeF (h:Lm 31 x1 x2 x3 y1 y2 y3 z1 z2 z3) (k:Lv3 31 p1 p2 p3) (ho:Lv3 36 o1 o2 o3) :
 jF 32 [iF o1 o2 o3 x1 x2 x3 y1 y2 y3 z1 z2 z3,vc p1 p2 p3] (vc (o1+ld p1 p2 p3 x1 y1 z1) (o2+ld p1 p2 p3 x2 y2 z2) (o3+ld p1 p2 p3 x3 y3 z3)):=by
 refine jG Tryz.func32 fun w00=>?_
 refine jC 34 [iF o1 o2 o3 x1 x2 x3 y1 y2 y3 z1 z2 z3,vc p1 p2 p3] (wE h k) ?_
 refine jC 87 [vc o1 o2 o3,vc (ld p1 p2 p3 x1 y1 z1) (ld p1 p2 p3 x2 y2 z2) (ld p1 p2 p3 x3 y3 z3)] (uW ho.a ho.b ho.c (lf_ld k h.x1 h.y1 h.z1 (by decide)) (lf_ld k h.x2 h.y2 h.z2 (by decide)) (lf_ld k h.x3 h.y3 h.z3 (by decide))) ?_
 exact jR Tryz.func32
structure Sq0 (x1 x2 x3 y1 y2 y3 z1 z2 z3:Rat):Prop where
 x:dt x1 x2 x3 x1 x2 x3≠0
 y:dt y1 y2 y3 y1 y2 y3≠0
 z:dt z1 z2 z3 z1 z2 z3≠0
theorem nX (h:Lm 31 x1 x2 x3 y1 y2 y3 z1 z2 z3) (k:Lv3 31 p1 p2 p3) (h0:Sq0 x1 x2 x3 y1 y2 y3 z1 z2 z3) :
 jF 38 [iF o1 o2 o3 x1 x2 x3 y1 y2 y3 z1 z2 z3,vc p1 p2 p3] (vc (dt p1 p2 p3 x1 x2 x3/dt x1 x2 x3 x1 x2 x3) (dt p1 p2 p3 y1 y2 y3/dt y1 y2 y3 y1 y2 y3) (dt p1 p2 p3 z1 z2 z3/dt z1 z2 z3 z1 z2 z3)):=by
 have l1:=(jZ (n:=36) k.a k.b k.c h.x1 h.x2 h.x3 (by decide)).mono (l:=38) (by decide)
 have l2:=(jZ (n:=36) k.a k.b k.c h.y1 h.y2 h.y3 (by decide)).mono (l:=38) (by decide)
 have l3:=(jZ (n:=36) k.a k.b k.c h.z1 h.z2 h.z3 (by decide)).mono (l:=38) (by decide)
 have m1:=(jZ (n:=36) h.x1 h.x2 h.x3 h.x1 h.x2 h.x3 (by decide)).mono (l:=38) (by decide)
 have m2:=(jZ (n:=36) h.y1 h.y2 h.y3 h.y1 h.y2 h.y3 (by decide)).mono (l:=38) (by decide)
 have m3:=(jZ (n:=36) h.z1 h.z2 h.z3 h.z1 h.z2 h.z3 (by decide)).mono (l:=38) (by decide)
 refine jG Tryz.func38 fun w00=>?_
 refine jC 105 [cloV 78 p1 p2 p3,mt x1 x2 x3 y1 y2 y3 z1 z2 z3] (eachVNc Tryz.call78 (oO k.a k.b k.c h.x1 h.x2 h.x3) (oO k.a k.b k.c h.y1 h.y2 h.y3) (oO k.a k.b k.c h.z1 h.z2 h.z3)) ?_
 refine jC 95 [iF o1 o2 o3 x1 x2 x3 y1 y2 y3 z1 z2 z3] (squaresF h) ?_
 refine jC 94 [gP 79,vc (dt p1 p2 p3 x1 x2 x3) (dt p1 p2 p3 y1 y2 y3) (dt p1 p2 p3 z1 z2 z3),vc (dt x1 x2 x3 x1 x2 x3) (dt y1 y2 y3 y1 y2 y3) (dt z1 z2 z3 z1 z2 z3)] (joinF Tryz.call79 (rH l1 m1 h0.x) (rH l2 m2 h0.y) (rH l3 m3 h0.z)) ?_
 exact jR Tryz.func38
theorem localF (h:Lm 31 x1 x2 x3 y1 y2 y3 z1 z2 z3) (k:Lv3 29 p1 p2 p3) (ho:Lv3 29 o1 o2 o3) (h0:Sq0 x1 x2 x3 y1 y2 y3 z1 z2 z3) :
 jF 36 [iF o1 o2 o3 x1 x2 x3 y1 y2 y3 z1 z2 z3,vc p1 p2 p3] (vc (dt (p1-o1) (p2-o2) (p3-o3) x1 x2 x3/dt x1 x2 x3 x1 x2 x3) (dt (p1-o1) (p2-o2) (p3-o3) y1 y2 y3/dt y1 y2 y3 y1 y2 y3) (dt (p1-o1) (p2-o2) (p3-o3) z1 z2 z3/dt z1 z2 z3 z1 z2 z3)):=by
 have k':=k.mono (l:=36) (by decide)
 have ho':=ho.mono (l:=36) (by decide)
 refine jG Tryz.func36 fun w00=>?_
 refine jC 84 [vc p1 p2 p3,vc o1 o2 o3] (xK k'.a k'.b k'.c ho'.a ho'.b ho'.c) ?_
 refine jC 38 [iF o1 o2 o3 x1 x2 x3 y1 y2 y3 z1 z2 z3,vc (p1-o1) (p2-o2) (p3-o3)] (nX h ⟨Lf.subn k.a ho.a (by decide),Lf.subn k.b ho.b (by decide),Lf.subn k.c ho.c (by decide)⟩ h0) ?_
 exact jR Tryz.func36
theorem wG (h:Lm 31 x1 x2 x3 y1 y2 y3 z1 z2 z3) (hxy:dt x1 x2 x3 y1 y2 y3=0) (hyz:dt y1 y2 y3 z1 z2 z3=0) (hzx:dt z1 z2 z3 x1 x2 x3=0) :
 jF 103 [iF o1 o2 o3 x1 x2 x3 y1 y2 y3 z1 z2 z3] (bl true):=by
 refine jG Tryz.func103 fun w00=>?_
 refine jC 78 [vc x1 x2 x3,vc y1 y2 y3] (oO h.x1 h.x2 h.x3 h.y1 h.y2 h.y3) ?_
 refine jC 43 [num (dt x1 x2 x3 y1 y2 y3)] (fU (b:=true) (by rw [decide_eq_true_eq];exact hxy)) ?_
 refine jC 78 [vc y1 y2 y3,vc z1 z2 z3] (oO h.y1 h.y2 h.y3 h.z1 h.z2 h.z3) ?_
 refine jC 43 [num (dt y1 y2 y3 z1 z2 z3)] (fU (b:=true) (by rw [decide_eq_true_eq];exact hyz)) ?_
 refine jC 78 [vc z1 z2 z3,vc x1 x2 x3] (oO h.z1 h.z2 h.z3 h.x1 h.x2 h.x3) ?_
 refine jC 43 [num (dt z1 z2 z3 x1 x2 x3)] (fU (b:=true) (by rw [decide_eq_true_eq];exact hzx)) ?_
 exact jR Tryz.func103
end
def csIs (v:Value) (h:v.oneCell'=true) (c:Bool) (hc:c=true→Kn v=false):CS Kn where
 size:=1
 cold:=c
 pred cs _:=cs = [v]
 stable _ _ _ h _:=h
 len _ _ h:=by rw [h];rfl
 one _ _ hp:=by rw [hp];intro c hc;rw [List.mem_singleton] at hc;rw [hc];exact h
 iscold hb _ _ hp:=by rw [hp];intro d hd;rw [List.mem_singleton] at hd;rw [hd];exact hc hb
abbrev bK (s:ByteArray):Seg Kn := .sp (csIs (.string s) rfl true (fun _=>rfl))
abbrev gY (n:Int):Seg Kn := .sp (csIs (.int .i64 n) rfl true (fun _=>rfl))
abbrev isU (n:Int):Seg Kn := .sp (csIs (.int .u64 n) rfl false (fun h=>by cases h))
abbrev tx (s:ByteArray):AV Kn := .fv (.sc (bK s))
abbrev lt (s:ByteArray):AV Kn := .fv (.sc (.lit (.string s)))
theorem aP {v u:Value} {h:v.oneCell'=true} {c:Bool} {hc:c=true→Kn v=false} {β:List Nat} {w:World} (k:(AV.fv (.sc (.sp (csIs v h c hc))):AV Kn).holds β u w):u=v:=by
 have:[u] = [v]:=k
 injection this
theorem bF {v:Value} {h:v.oneCell'=true} {c:Bool} {hc:c=true→Kn v=false} {β:List Nat} {w:World}:(AV.fv (.sc (.sp (csIs v h c hc))):AV Kn).holds β v w:=rfl
theorem aY {v:Value} (h:v.oneCell'=true) {β:List Nat} {w:World}:(AV.fv (.sc (.lit v)):AV Kn).holds β v w:=⟨rfl,h⟩
def Gl (w:World):Prop:=Laid w∧∃ m,w.cell? ⟨0,0,none⟩=some (.int .i64 m)
abbrev jX(f:FuncId)(l:List (AV Kn))(x:AV Kn):Prop:=FitsW Tryz.prog Gl f l x
theorem Gl.below {w w' : World} (h:Gl w) (hb:Below w.heap.size w w'):Gl w':=by
 refine ⟨h.1.below hb,?_⟩
 obtain ⟨m,hm⟩:=h.2
 exact ⟨m,(hb.cell (p:=⟨0,0,none⟩) (block_lt_of_cell hm)).trans hm⟩
theorem keepGl {w00:World} (h:Gl w00):∀ w,Below w00.heap.size w00 w→Gl w:=fun _ hb=>h.below hb
theorem jY{f:FuncId}{fn:Func}{args:List (AV Kn)}{x:AV Kn}(hfn:Tryz.prog.funcs[f]?=some fn)(h:∀w00,(∀w,Below w00.heap.size w00 w→Gl w)→Ok Tryz.prog f w00 (fun v w=>x.holds [] v w) (cG Tryz.prog 1000 (pJ fn args)))(hc:(fn.body.isSome,decide (args.length≤fn.ntmps),x.noPtr,args.all AV.noPtr)=(true,true,true,true):=by kernel_rfl):jX f args x:=kgoW hfn hc fun w00 hG=>h w00 (keepGl hG)
def decB (n:Nat):ByteArray:=⟨(Lib.decDigits n).toArray⟩
def overB (q:Rat):ByteArray:=if q.num<0 then ⟨#[45]⟩++decB q.num.natAbs else decB q.num.natAbs
theorem tC {a:Nat} (ha:Lv 20 a):jX 247 [nt a] (tx (decB a)):=by
 intro β w vs hG hv
 obtain ⟨v,rfl,h1⟩:=dF hv
 exact (text_any v a w (dK.1 h1) ha hG.1).mono fun e w' ⟨e1,h2⟩=>⟨_,e1,h2,bF⟩
def itoaB (n:Int):ByteArray:=⟨(Lib.itoa n).toArray⟩
theorem formatInt0F {n:Int} (hn:uV n):jX 248 [it n,it 10] (tx (itoaB n)):=by
 intro β w vs hG hv
 obtain ⟨v,u,rfl,h1,h2⟩:=eB hv
 rw [aN h1,aN h2]
 refine (Tryz.internal_strconv_FormatInt_10 n hn.1 hn.2 w hG.1).mono fun e w' ⟨e1,k,os,e2⟩=>⟨_,e1,?_,bF⟩
 rw [e2]
 exact (oY w k).trans (yO (w.drewN k) os)
theorem zD {n:Int} (hn:uV n):jX 206 [it n,it 10] (tx (itoaB n)):=by
 refine jY Tryz.func206 fun w00 hI=>?_
 refine jW hI 248 [it n,it 10] (formatInt0F hn) ?_
 exact jR Tryz.func206
abbrev smA (q:Rat):AV Kn := .fv (.ag [.lit (.int .i64 q.num),.lit (.int .i64 ((q.den:Int)-1)),.lit (.pointer none)])
theorem sm_holds {β:List Nat} {v:Value} {w:World} {q:Rat} (h:Sm q):(num q).holds β v w↔(smA q).holds β v w:=by
 rw [dI]
 constructor
 ·rintro (⟨_,rfl⟩|⟨h2,_⟩)
  ·exact ⟨[_,_,_],rfl,[_],_,rfl,⟨rfl,rfl⟩,[_],_,rfl,⟨rfl,rfl⟩,[_],[],rfl,⟨rfl,rfl⟩,rfl⟩
  ·exact absurd h h2
 ·rintro ⟨cs,rfl,a,r,rfl,⟨rfl,_⟩,b,r2,rfl,⟨rfl,_⟩,c,r3,rfl,⟨rfl,_⟩,e⟩
  rw [show r3 = [] from e]
  exact .inl ⟨h,rfl⟩
theorem denF {q:Rat} (h:Sm q):jF 147 [smA q] (it q.den):=by
 intro β w vs hv
 obtain ⟨v,rfl,h1⟩:=dF hv
 obtain ⟨cs,rfl,a,r,rfl,⟨rfl,_⟩,b,r2,rfl,⟨rfl,_⟩,c,r3,rfl,⟨rfl,_⟩,e⟩:=h1
 rw [show r3 = [] from e]
 have hd:=jJ h
 refine (nV q.num ((q.den:Int)-1) none w (by omega) (by omega)).mono fun e w' ⟨e1,h2⟩=>⟨_,e1,h2,?_⟩
 rw [show ((q.den:Int)-1+1)=q.den by omega]
 exact aY rfl
theorem eZ {P:Program} {o:Oper} {ρ:Operand→Value} {w:World} {T T' : TypeId} {x y:Operand} {a b:ByteArray} (ho:o.op = .binOp .add T x y T') (hx:ρ x = .string a) (hy:ρ y = .string b) (hs:a.size+b.size≤9223372036854775807) :
 (execOp ρ o).run P w = .ok (.value (.string (a++b))) w:=by
 simp only [execOp,ho,hx,hy]
 refine bQ ?_
 have hne:¬ (((a.size+b.size:Nat):Int) > IntKind.i64.max):=by
  have:IntKind.i64.max=9223372036854775807:=by decide
  rw [this]
  omega
 simp only [eqGuard,binOp,Op.stringOp,if_neg hne]
 rfl
theorem decB_size {a k:Nat} (h:a<10^(k+1)):(decB a).size≤k+1:=by
 exact xY h
theorem fraTextF {q:Rat} (hq:Lf 20 q) (hs:(decB q.num.natAbs).size≤1000000000):jX 205 [fra q] (.tup [.sc (bK (overB q)),.sc (bK (decB q.den))]):=by
 by_cases hn:q.num<0
 ·have hd:decide (q.num<0)=true:=by simpa using hn
  have ho:overB q=⟨#[45]⟩++decB q.num.natAbs:=by rw [overB,if_pos hn]
  rw [ho,show fra q=frv true q.num.natAbs q.den by rw [fra,hd]]
  obtain ⟨hq1,hq2⟩:=hq
  generalize q.num.natAbs=n at *
  have hcat:(⟨#[45]⟩:ByteArray).size+(decB n).size≤9223372036854775807:=by
   have:(⟨#[45]⟩:ByteArray).size=1:=rfl
   omega
  refine jY Tryz.func205 fun w00 hI=>?_
  refine jW hI 247 [nt n] (tC hq1) ?_
  refine jW hI 247 [nt q.den] (tC hq2) ?_
  refine jK (.binOp .add 9 (.const (.string ⟨#[45]⟩)) (.tmp 12) 9) (.const (.string ⟨#[45]⟩)) (.tmp 12) (lt ⟨#[45]⟩) (tx (decB n)) (tx (⟨#[45]⟩++decB n)) (fun ρ o β w ho hx hy=>⟨_,eZ ho (aN hx) (aP hy) hcat,bF⟩) ?_
  exact jR Tryz.func205
 ·have hd:decide (q.num<0)=false:=by simpa using hn
  have ho:overB q=decB q.num.natAbs:=by rw [overB,if_neg hn]
  rw [ho,show fra q=frv false q.num.natAbs q.den by rw [fra,hd]]
  refine jY Tryz.func205 fun w00 hI=>?_
  refine jW hI 247 [nt q.num.natAbs] (tC hq.1) ?_
  refine jW hI 247 [nt q.den] (tC hq.2) ?_
  exact jR Tryz.func205
theorem itoa_over (q:Rat):itoaB q.num=overB q:=by
 unfold itoaB overB decB Lib.itoa
 split
 ·congr 1
 ·rename_i h
  congr 3
  omega
theorem itoa_den (d:Nat):itoaB (d:Int)=decB d:=by
 unfold itoaB decB Lib.itoa
 rw [if_neg (by omega)]
 rfl
theorem smTextF {q:Rat} (h:Sm q):jX 142 [smA q] (.tup [.sc (bK (overB q)),.sc (bK (decB q.den))]):=by
 have hn:=jU h
 have hd:=jJ h
 rw [← itoa_over,← itoa_den]
 refine jY Tryz.func142 fun w00 hI=>?_
 refine jW hI 206 [it q.num,it 10] (zD ⟨by have:=hn.1;omega,by have:=hn.2;omega⟩) ?_
 refine jC 147 [smA q] (denF h) ?_
 refine jW hI 206 [it q.den,it 10] (zD ⟨by omega,hd.2⟩) ?_
 exact jR Tryz.func142
theorem num_large {I:World→Prop} {f:FuncId} {fn:Func} {q:Rat} {x:AV Kn} (hq:¬ Sm q) (hfn:Tryz.prog.funcs[f]?=some fn) (hc:(fn.body.isSome,decide (1≤fn.ntmps),x.noPtr)=(true,true,true))
 (h:∀ w00,I w00→Ok Tryz.prog f w00 (fun v w=>x.holds [] v w) (cG Tryz.prog 1000 (.items [.code (fn.body.getD .skip)] { slots := [.fv (.ag [.lit (.int .i64 0),.lit (.int .i64 0),.ptr 0 0])]++List.replicate (fn.ntmps-1) .un,blocks := [(108,[.lit (.bool (decide (q.num<0))),nts q.num.natAbs,nts q.den])],ro:=1 }))) :
 FitsW Tryz.prog I f [num q] x:=by
 simp only [Prod.mk.injEq] at hc
 intro β w vs hI hv
 obtain ⟨v,rfl,h1⟩:=dF hv
 rcases dI.1 h1 with ⟨h2,_⟩|⟨_,g,s1,s2,rfl,hg,n1,n2⟩
 ·exact absurd h2 hq
 have hb2:fn.body=some (fn.body.getD .skip):=by
  cases hb2:fn.body with
  | none=>rw [hb2] at hc;cases hc.1
  | some c=>rfl
 have hl:holdsL [g] [Seg.lit (.bool (decide (q.num<0))),nts q.num.natAbs,nts q.den] [.bool (decide (q.num<0)),s1,s2] w :=
  ⟨[.bool (decide (q.num<0))],_,rfl,⟨rfl,rfl⟩,[s1],_,rfl,⟨s1,rfl,n1⟩,[s2],[],rfl,⟨s2,rfl,n2⟩,rfl⟩
 refine (eU (w00:=w) (Out:=fun v w=>x.holds [] v w) hfn hb2 [.fv (.ag [.lit (.int .i64 0),.lit (.int .i64 0),.ptr 0 0])] [(108,[.lit (.bool (decide (q.num<0))),nts q.num.natAbs,nts q.den])] [g] _ (fn.ntmps-1) (by simp at hc;simp;omega)
  ⟨_,[],rfl,⟨[.int .i64 0,.int .i64 0,.pointer (some ⟨g,0,none⟩)],rfl,[_],_,rfl,⟨rfl,rfl⟩,[_],_,rfl,⟨rfl,rfl⟩,[_],[],rfl,⟨g,rfl,rfl⟩,rfl⟩,rfl⟩ rfl (by simp) (fun k T l hk=>?_) (by simp;exact lt_of_block hg) (Ok.go (by kernel_rfl) mP 1000 (h w hI)).good).mono ?_
 ·match k,hk with
  | 0,hk =>
    simp at hk
    obtain ⟨rfl,rfl⟩:=hk
    exact ⟨g,_,rfl,hg,hl⟩
 ·rintro e w' ⟨v,rfl,hb,ho⟩
  exact ⟨v,rfl,hb,AV.noPtr_holds hc.2.2 ho⟩
theorem numTextF {q:Rat} (hq:Lf 20 q) (hs:(decB q.num.natAbs).size≤1000000000):jX 142 [num q] (.tup [.sc (bK (overB q)),.sc (bK (decB q.den))]):=by
 by_cases h:Sm q
 ·intro β w vs hG hv
  obtain ⟨v,r,rfl,h1,h2⟩:=hv
  exact smTextF h β w _ hG ⟨v,r,rfl,(sm_holds h).1 h1,h2⟩
 ·refine num_large h Tryz.func142 (by kernel_rfl) fun w00 hG=>?_
  have hI:=keepGl hG
  refine jK (.binOp .neq 64 (.tmp 5) (.const (.pointer none)) 64) (.tmp 5) (.const (.pointer none)) (.fv (.sc (.ptr 0 0))) (.fv (.sc (.lit (.pointer none)))) (bl true) (fun ρ o β w ho hx hy=>?_) ?_
  ·obtain ⟨g,_,hx⟩:=gK hx
   have hy:=aN hy
   refine ⟨.bool true,?_,aY rfl⟩
   simp only [execOp,ho,hx,hy]
   exact bQ (bX (by kernel_rfl) w)
  refine jW hI 205 [fra q] (fraTextF hq hs) ?_
  exact jR Tryz.func142
theorem trimF {s t:ByteArray} (h:(⟨(Lib.trimPrefix s.data.toList [45]).toArray⟩:ByteArray)=t):jF 143 [tx s,lt ⟨#[45]⟩] (tx t):=by
 intro β w vs hv
 obtain ⟨v,u,rfl,h1,h2⟩:=eB hv
 rw [aP h1,aN h2]
 refine (Tryz.strings_TrimPrefix s ⟨#[45]⟩ w).mono fun e w' ⟨e1,e2⟩=>⟨_,e1,by rw [e2];exact aB _ _,?_⟩
 rw [← h]
 exact bF
theorem trim_over {q:Rat}:(⟨(Lib.trimPrefix (overB q).data.toList [45]).toArray⟩:ByteArray)=decB q.num.natAbs:=by
 unfold overB
 split
 ·have:(⟨#[45]⟩++decB q.num.natAbs:ByteArray).data.toList=45::Lib.decDigits q.num.natAbs:=by
   simp [decB]
  rw [this]
  simp [Lib.trimPrefix,Lib.hasPrefix,decB]
 ·simp only [decB]
  have hd:=(cH q.num.natAbs).2
  unfold Lib.trimPrefix
  split
  ·rename_i hp
   exfalso
   have h0:=hd.2
   cases hl:Lib.decDigits q.num.natAbs with
   | nil=>exact h0 hl
   | cons c r =>
     rw [hl] at hp
     simp [Lib.hasPrefix] at hp
     have:=hd.1 c (by rw [hl];simp)
     rw [← hp] at this
     revert this
     decide
  ·rfl
theorem xL {o:Oper} {ρ:Operand→Value} {w:World} {t:Tmp} {T:TypeId} {s:ByteArray} (ho:o.op = .call ⟨.builtin .len,#[.tmp t],#[T]⟩) (hT:Tryz.prog.underlying T=some .string) (hx:ρ (.tmp t) = .string s) :
 (execOp ρ o).run Tryz.prog w = .ok (.value (.int .i64 s.size)) w:=by
 have hm:(#[Operand.tmp t].map ρ) = #[.string s]:=by simp [hx]
 simp only [execOp,ho,resolve,Sem.run_bind,Sem.run_pure,Result.andThen,hm,invoke,builtin,Builtin.len_]
 simp [Sem.run_bind,run_underlying hT,Result.andThen,goInt]
section
variable {f:FuncId} {w00:World} {Out:Value→World→Prop}
theorem klen {c:Cfg Kn} (t:Tmp) (s:ByteArray) (hc:(c.op.map fun o=>o.op,c.okT (.fv (.sc (gY s.size))),c.ev (.tmp t))=(some (.call ⟨.builtin .len,#[.tmp t],#[9]⟩),true,tx s))
 (hg:Ok Tryz.prog f w00 Out (cG Tryz.prog 1000 (c.give (.fv (.sc (gY s.size)))))):Ok Tryz.prog f w00 Out c:=by
 simp only [Prod.mk.injEq] at hc
 obtain ⟨h1,h2,h3⟩:=hc
 exact pK _ (.tmp t) (.tmp t) (tx s) (tx s) (.fv (.sc (gY s.size))) (by rw [h1,h2,h3]) (by simp [Op.operands,Call.operands]) (by simp [Op.operands,Call.operands])
  (fun ρ o β w ho hx _=>⟨_,xL ho Tryz.underlying9 (aP hx),bF⟩) hg
theorem jO{c:Cfg Kn} (t:Tmp) (s:ByteArray)(hg:Ok Tryz.prog f w00 Out (cG Tryz.prog 1000 (c.give (.fv (.sc (gY s.size))))))(hc:(c.op.map fun o=>o.op,c.okT (.fv (.sc (gY s.size))),c.ev (.tmp t))=(some (.call ⟨.builtin .len,#[.tmp t],#[9]⟩),true,tx s):=by kernel_rfl):Ok Tryz.prog f w00 Out c:=klen t s hc hg
end
theorem zE {o:Oper} {ρ:Operand→Value} {w:World} {x y:Operand} {a b:Int} {r:Bool} (ho:o.op = .binOp .gtr 3 x y 3) (hx:ρ x = .int .i64 a) (hy:ρ y = .int .i64 b) (h:decide (b<a)=r) :
 (execOp ρ o).run Tryz.prog w = .ok (.value (.bool r)) w:=by
 simp only [execOp,ho,hx,hy]
 refine bQ ?_
 rw [← h]
 exact bX (by kernel_rfl) w
theorem tD {o:Oper} {ρ:Operand→Value} {w:World} {x y:Operand} {a b:ByteArray} {r:Bool} {T T' : TypeId} (ho:o.op = .binOp .eql T x y T') (hx:ρ x = .string a) (hy:ρ y = .string b) (h:(a.toList==b.toList)=r) :
 (execOp ρ o).run Tryz.prog w = .ok (.value (.bool r)) w:=by
 simp only [execOp,ho,hx,hy]
 refine bQ ?_
 rw [← h]
 exact bX (by kernel_rfl) w
def writeB (q:Rat):ByteArray:=if q.den=1 then overB q else overB q++(⟨#[47]⟩++decB q.den)
theorem tE {a k:Nat} (h:a<10^(k+1)):(decB a).size≤k+1:=decB_size h
theorem over_size {q:Rat}:(overB q).size≤(decB q.num.natAbs).size+1:=by
 unfold overB
 split
 ·simp
  have:(⟨#[45]⟩:ByteArray).size=1:=rfl
  omega
 ·omega
theorem wH {n:Nat}:(!((decB n).toList==(⟨#[49]⟩:ByteArray).toList)) = !decide (n=1):=by
 congr 1
 rw [Bool.eq_iff_iff]
 simp only [beq_iff_eq,decide_eq_true_eq]
 rw [Go.ByteArray.toList_eq,Go.ByteArray.toList_eq]
 simp only [decB]
 constructor
 ·intro h
  have:=(cH n).1
  rw [h] at this
  rw [← this]
  rfl
 ·rintro rfl
  exact cW (by omega)
theorem joinedF {q:Rat} (hn:(decB q.num.natAbs).size≤1000000000) (hd:(decB q.den).size≤1000000000):jF 144 [tx (overB q),tx (decB q.den)] (tx (writeB q)):=by
 have hs:=over_size (q:=q)
 have e1:(⟨#[47]⟩:ByteArray).size=1:=rfl
 have hb1:(overB q).size+(⟨#[47]⟩:ByteArray).size≤9223372036854775807:=by omega
 have hb2:(overB q++⟨#[47]⟩:ByteArray).size+(decB q.den).size≤9223372036854775807:=by
  simp
  omega
 by_cases h:q.den=1
 ·have hw:writeB q=overB q:=by rw [writeB,if_pos h]
  have h3:((decB q.den).toList==(⟨#[49]⟩:ByteArray).toList)=true:=by have:=wH (n:=q.den);rw [h] at this ⊢;simpa using this
  rw [hw]
  refine jG Tryz.func144 fun w00=>?_
  refine jK (.binOp .eql 9 (.tmp 5) (.const (.string ⟨#[49]⟩)) 9) (.tmp 5) (.const (.string ⟨#[49]⟩)) (tx (decB q.den)) (lt ⟨#[49]⟩) (bl true) (fun ρ o β w ho hx hy=>⟨_,tD ho (aP hx) (aN hy) h3,aY rfl⟩) ?_
  exact jR Tryz.func144
 ·have hw:writeB q=overB q++⟨#[47]⟩++decB q.den:=by rw [writeB,if_neg h,ByteArray.append_assoc]
  have h3:((decB q.den).toList==(⟨#[49]⟩:ByteArray).toList)=false:=by have:=wH (n:=q.den);rw [decide_eq_false h] at this;simpa using this
  rw [hw]
  refine jG Tryz.func144 fun w00=>?_
  refine jK (.binOp .eql 9 (.tmp 5) (.const (.string ⟨#[49]⟩)) 9) (.tmp 5) (.const (.string ⟨#[49]⟩)) (tx (decB q.den)) (lt ⟨#[49]⟩) (bl false) (fun ρ o β w ho hx hy=>⟨_,tD ho (aP hx) (aN hy) h3,aY rfl⟩) ?_
  refine jK (.binOp .add 9 (.tmp 8) (.const (.string ⟨#[47]⟩)) 9) (.tmp 8) (.const (.string ⟨#[47]⟩)) (tx (overB q)) (lt ⟨#[47]⟩) (tx (overB q++⟨#[47]⟩)) (fun ρ o β w ho hx hy=>⟨_,eZ ho (aP hx) (aN hy) hb1,bF⟩) ?_
  refine jK (.binOp .add 9 (.tmp 9) (.tmp 10) 9) (.tmp 9) (.tmp 10) (tx (overB q++⟨#[47]⟩)) (tx (decB q.den)) (tx (overB q++⟨#[47]⟩++decB q.den)) (fun ρ o β w ho hx hy=>⟨_,eZ ho (aP hx) (aP hy) hb2,bF⟩) ?_
  exact jR Tryz.func144
theorem uY {q:Rat} (hq:Lf 20 q) (hn:(decB q.num.natAbs).size≤600) (hd:(decB q.den).size≤600):jX 75 [num q] (.tup [.sc (bK (writeB q)),.sc (.lit (.int .i64 0))]):=by
 have h1:decide ((600:Int)<((decB q.num.natAbs).size:Int))=false:=by simp;omega
 have h2:decide ((600:Int)<((decB q.den).size:Int))=false:=by simp;omega
 refine jY Tryz.func75 fun w00 hI=>?_
 refine jW hI 142 [num q] (numTextF hq (by omega)) ?_
 refine jC 143 [tx (overB q),lt ⟨#[45]⟩] (trimF trim_over) ?_
 refine jO 12 (decB q.num.natAbs) ?_
 refine jK (.binOp .gtr 3 (.tmp 13) (.const (.int .i64 600)) 3) (.tmp 13) (.const (.int .i64 600)) (.fv (.sc (gY (decB q.num.natAbs).size))) (it 600) (bl false) (fun ρ o β w ho hx hy=>⟨_,zE ho (aP hx) (aN hy) h1,aY rfl⟩) ?_
 refine jO 16 (decB q.den) ?_
 refine jK (.binOp .gtr 3 (.tmp 17) (.const (.int .i64 600)) 3) (.tmp 17) (.const (.int .i64 600)) (.fv (.sc (gY (decB q.den).size))) (it 600) (bl false) (fun ρ o β w ho hx hy=>⟨_,zE ho (aP hx) (aN hy) h2,aY rfl⟩) ?_
 refine jC 144 [tx (overB q),tx (decB q.den)] (joinedF (by omega) (by omega)) ?_
 exact jR Tryz.func75
end Ab
section
open Go.RowKit Pl
theorem fC (w:World) (s:ByteArray) (pos:Nat):Below w.heap.size w (w.iter s pos):=(aB _ _).alloc (aR _) _
set_option maxRecDepth 100000 in
theorem isDigits_any (s:ByteArray) (w:World) (hd:AllDig (aC s)) (h0:0<s.size):Calls Tryz.prog 129 #[.string s] w fun e w'=>e = .returned (.bool true)∧Below w.heap.size w w':=by
 have hne:(!(s.toList==(⟨#[]⟩:ByteArray).toList))=true:=by
  rw [Go.ByteArray.toList_eq,Go.ByteArray.toList_eq]
  have:s.data.toList≠[]:=fun h=>by
   have h2:(aC s).length=0:=by simp only [aC];rw [h];rfl
   rw [aE] at h2
   omega
  simpa using this
 have H:=aH (aI hd (aI h0 hne))
 clear hd h0 hne
 go_enter Tryz.func129,Tryz.ntmps129
 go_wp2
 go_loopw [4] (fun _ wr => ∃ pos:Nat,wr=w.iter s pos∧pos≤s.size) (fun _ wr=>s.size-wr.iterPos w.heap.size)
 case atStart=>exact ⟨0,rfl,Nat.zero_le _⟩
 case round =>
  obtain ⟨pos,rfl,hpos⟩:=hrel
  by_cases hp:pos<s.size
  ·have hc:48≤(s[pos]'hp).toNat∧(s[pos]'hp).toNat≤57:=by
    have:=H.out.1 (s[pos]'hp) (by
     unfold aC
     rw [Array.mem_toList_iff]
     exact Array.getElem_mem _)
    exact this
   obtain ⟨c,hcc⟩:∃ c,c=(s[pos]'hp).toNat:=⟨_,rfl⟩
   have hnx:∀ ty,(Instr.next (.pointer (some ⟨w.heap.size,0,none⟩)) true ty).run Tryz.prog (w.iter s pos) = .ok (.tuple #[.bool true,.int .i64 pos,.int .i32 (c:Int)]) (w.iter s (pos+1)):=fun ty=>by
    rw [hcc]
    exact run_next_ascii w s pos ty hp (by omega)
   rw [← hcc] at hc
   have k1:(48:Int)≤c:=by omega
   have k2:(c:Int)≤57:=by omega
   have HH:=aH (aI hp hpos)
   clear hc hcc hp hpos
   go_wp2
   go_roundw
   case rel=>exact ⟨pos+1,rfl,HH.out.1⟩
   case measure =>
    have:=HH.out.1
    simp
    omega
  ·have hnx:∀ ty,(Instr.next (.pointer (some ⟨w.heap.size,0,none⟩)) true ty).run Tryz.prog (w.iter s pos)=_:=fun ty=>run_next_end w s pos ty hp
   have hne:=H.out.2.2
   go_wp2
   go_ret
   exact ⟨by simp at hne ⊢;exact hne,fC _ _ _⟩
end
namespace Ab
open Go.RowKit Pl
theorem qJ {s:ByteArray} (hd:AllDig (aC s)) (h0:0<s.size):jF 129 [tx s] (bl true):=by
 intro β w vs hv
 obtain ⟨v,rfl,h1⟩:=dF hv
 rw [aP h1]
 exact (isDigits_any s w hd h0).mono fun e w' ⟨e1,e2⟩=>⟨_,e1,e2,aY rfl⟩
theorem mT {o:Oper} {ρ:Operand→Value} {w:World} {x y:Operand} {s:ByteArray} {i:Nat} {c:UInt8} {T:TypeId} (ho:o.op = .index T x y) (hT:Tryz.prog.underlying T=some .string) (hx:ρ x = .string s) (hy:ρ y = .int .i64 i) (hc:s[i]?=some c) :
 (execOp ρ o).run Tryz.prog w = .ok (.value (.int .u8 c.toNat)) w:=by
 simp only [execOp,ho,hx,hy]
 refine bQ ?_
 simp [Instr.index,asIntOf,Sem.run_bind,run_underlying hT,Result.andThen,hc]
theorem nY {o:Oper} {ρ:Operand→Value} {w:World} {x y:Operand} {a b:Int} {r:Bool} {T T' : TypeId} (ho:o.op = .binOp .neq T x y T') (hx:ρ x = .int .u8 a) (hy:ρ y = .int .u8 b) (h:(a != b)=r) :
 (execOp ρ o).run Tryz.prog w = .ok (.value (.bool r)) w:=by
 simp only [execOp,ho,hx,hy]
 refine bQ ?_
 rw [← h]
 exact bX (by kernel_rfl) w
theorem intEq_run {o:Oper} {ρ:Operand→Value} {w:World} {x y:Operand} {a b:Int} {r:Bool} {T T' : TypeId} (ho:o.op = .binOp .eql T x y T') (hx:ρ x = .int .i64 a) (hy:ρ y = .int .i64 b) (h:(a==b)=r) :
 (execOp ρ o).run Tryz.prog w = .ok (.value (.bool r)) w:=by
 simp only [execOp,ho,hx,hy]
 refine bQ ?_
 rw [← h]
 exact bX (by kernel_rfl) w
abbrev isB (n:Int):Seg Kn := .sp (csIs (.int .u8 n) rfl true (fun _=>rfl))
theorem mU (n:Nat):jF 108 [tx (decB n)] (bl true):=by
 have hd:=cH n
 have hsz:0<(decB n).size:=by
  have:(Lib.decDigits n).length≠0:=fun h=>hd.2.2 (List.eq_nil_of_length_eq_zero h)
  have e:(decB n).size=(Lib.decDigits n).length:=by simp [decB,ByteArray.size]
  omega
 have hlen:0<(Lib.decDigits n).length:=List.length_pos_iff.2 hd.2.2
 obtain ⟨c,hcl⟩:∃ c,(Lib.decDigits n)[0]?=some c:=⟨_,List.getElem?_eq_getElem hlen⟩
 have hc:(decB n)[0]?=some c:=by
  rw [getElem?_pos (decB n) 0 hsz]
  have:(decB n)[0]'hsz=(Lib.decDigits n)[0]'hlen:=by
   first
    | rfl
    | exact List.getElem_toArray _
  rw [this,← hcl,List.getElem?_eq_getElem hlen]
 by_cases h:c=48
 ·have hone:(decB n).size=1:=by
   have h0:n=0:=by
    rcases Nat.eq_zero_or_pos n with e|e
    ·exact e
    ·exfalso
     have:=xX e
     rw [List.head?_eq_getElem?,hcl,h] at this
     exact this rfl
   subst h0
   simp only [decB]
   rw [cW (by omega)]
   rfl
  have h1:(((c.toNat:Nat):Int) != 48)=false:=by rw [h];rfl
  have h2:(((decB n).size:Int)==1)=true:=by rw [hone];rfl
  refine jG Tryz.func108 fun w00=>?_
  refine jC 129 [tx (decB n)] (qJ hd.2.1 hsz) ?_
  refine jK (.index 9 (.tmp 6) (.const (.int .i64 0))) (.tmp 6) (.const (.int .i64 0)) (tx (decB n)) (it 0) (.fv (.sc (isB c.toNat))) (fun ρ o β w ho hx hy=>⟨_,mT (i:=0) ho Tryz.underlying9 (aP hx) (aN hy) hc,bF⟩) ?_
  refine jK (.binOp .neq 5 (.tmp 7) (.const (.int .u8 48)) 5) (.tmp 7) (.const (.int .u8 48)) (.fv (.sc (isB c.toNat))) (.fv (.sc (.lit (.int .u8 48)))) (bl false) (fun ρ o β w ho hx hy=>⟨_,nY ho (aP hx) (aN hy) h1,aY rfl⟩) ?_
  refine jO 10 (decB n) ?_
  refine jK (.binOp .eql 3 (.tmp 11) (.const (.int .i64 1)) 3) (.tmp 11) (.const (.int .i64 1)) (.fv (.sc (gY (decB n).size))) (it 1) (bl true) (fun ρ o β w ho hx hy=>⟨_,intEq_run ho (aP hx) (aN hy) h2,aY rfl⟩) ?_
  exact jR Tryz.func108
 ·have h1:(((c.toNat:Nat):Int) != 48)=true:=by
   rw [bne_iff_ne]
   intro e
   exact h (UInt8.toNat_inj.1 (by have:(48:UInt8).toNat=48:=rfl;omega))
  refine jG Tryz.func108 fun w00=>?_
  refine jC 129 [tx (decB n)] (qJ hd.2.1 hsz) ?_
  refine jK (.index 9 (.tmp 6) (.const (.int .i64 0))) (.tmp 6) (.const (.int .i64 0)) (tx (decB n)) (it 0) (.fv (.sc (isB c.toNat))) (fun ρ o β w ho hx hy=>⟨_,mT (i:=0) ho Tryz.underlying9 (aP hx) (aN hy) hc,bF⟩) ?_
  refine jK (.binOp .neq 5 (.tmp 7) (.const (.int .u8 48)) 5) (.tmp 7) (.const (.int .u8 48)) (.fv (.sc (isB c.toNat))) (.fv (.sc (.lit (.int .u8 48)))) (bl true) (fun ρ o β w ho hx hy=>⟨_,nY ho (aP hx) (aN hy) h1,aY rfl⟩) ?_
  exact jR Tryz.func108
end Ab
namespace Ab
open Go.RowKit Pl
theorem tF:∀ {l:List UInt8},AllDig l→Lib.index l [47] = -1
 | [],_=>rfl
 | c :: l,h=>by
   have hc:=h c (by simp)
   have h2:([47]:List UInt8).isPrefixOf (c::l)=false:=by
    simp [List.isPrefixOf]
    intro e
    rw [← e] at hc
    revert hc
    decide
   unfold Lib.index
   rw [h2,tF (fun d hd=>h d (by simp [hd]))]
   rfl
theorem zF:∀ {l r:List UInt8},AllDig l→Lib.index (l++47::r) [47]=(l.length:Int)
 | [],r,_=>by
   unfold Lib.index
   rfl
 | c :: l,r,h=>by
   have hc:=h c (by simp)
   have h2:([47]:List UInt8).isPrefixOf (c::(l++47::r))=false:=by
    simp [List.isPrefixOf]
    intro e
    rw [← e] at hc
    revert hc
    decide
   have ih:=zF (l:=l) (r:=r) (fun d hd=>h d (by simp [hd]))
   rw [List.cons_append]
   unfold Lib.index
   rw [h2,ih]
   have:((l.length:Int) == -1)=false:=by rw [beq_eq_false_iff_ne];omega
   rw [this]
   simp
def bA (q:Rat):ByteArray:=if q.den=1 then decB q.num.natAbs else decB q.num.natAbs++(⟨#[47]⟩++decB q.den)
theorem ba_ext {a b:ByteArray} (h:a.data.toList=b.data.toList):a=b:=by
 cases a;cases b
 simp only [ByteArray.mk.injEq]
 exact Array.toList_inj.1 h
theorem dD (n:Nat):(decB n).data.toList=Lib.decDigits n:=by simp [decB]
theorem mV {q:Rat} (h:q.num<0):writeB q=⟨#[45]⟩++bA q:=by
 apply ba_ext
 unfold writeB bA overB
 split <;> simp [h]
theorem eD {q:Rat} (h:¬ q.num<0):writeB q=bA q:=by
 unfold writeB bA overB
 simp only [h,if_false]
theorem uZ (q:Rat):∃ c r,(bA q).data.toList=c::r∧(48≤c.toNat∧c.toNat≤57):=by
 have hd:=cH q.num.natAbs
 obtain ⟨c,r,hl⟩:∃ c r,Lib.decDigits q.num.natAbs=c::r:=by
  cases h:Lib.decDigits q.num.natAbs with
  | nil=>exact absurd h hd.2.2
  | cons c r=>exact ⟨c,r,rfl⟩
 have hc:=hd.2.1 c (by rw [hl];simp)
 unfold bA
 split
 ·exact ⟨c,r,by rw [dD,hl],hc⟩
 ·exact ⟨c,r++(⟨#[47]⟩++decB q.den:ByteArray).data.toList,by rw [ByteArray.toList_data_append,dD,hl];rfl,hc⟩
theorem nZ {q:Rat} {neg:Bool} (hn:decide (q.num<0)=neg):jF 70 [tx (writeB q),lt ⟨#[45]⟩] (.tup [.sc (bK (bA q)),.sc (.lit (.bool neg))]):=by
 intro β w vs hv
 obtain ⟨v,u,rfl,h1,h2⟩:=eB hv
 rw [aP h1,aN h2]
 have key:(⟨(Lib.trimPrefix (writeB q).data.toList [45]).toArray⟩:ByteArray)=bA q∧Lib.hasPrefix (writeB q).data.toList [45]=neg:=by
  by_cases h:q.num<0
  ·have hneg:neg=true:=by rw [← hn];simpa using h
   rw [mV h,hneg]
   have e:(⟨#[45]⟩++bA q:ByteArray).data.toList=45::(bA q).data.toList:=by rw [ByteArray.toList_data_append];rfl
   rw [e]
   refine ⟨ba_ext (by simp [Lib.trimPrefix,Lib.hasPrefix]),by simp [Lib.hasPrefix]⟩
  ·have hneg:neg=false:=by rw [← hn];simpa using h
   rw [eD h,hneg]
   obtain ⟨c,r,e,hc⟩:=uZ q
   have hp:Lib.hasPrefix (bA q).data.toList [45]=false:=by
    rw [e]
    simp [Lib.hasPrefix,List.isPrefixOf]
    intro h45
    rw [← h45] at hc
    revert hc
    decide
   refine ⟨ba_ext (by unfold Lib.trimPrefix;rw [hp];simp),hp⟩
 refine (Tryz.strings_CutPrefix (writeB q) ⟨#[45]⟩ w).mono fun e w' ⟨e1,e2⟩=>⟨_,e1,by rw [e2];exact aB _ _,?_⟩
 rw [show (⟨#[45]⟩:ByteArray).data.toList = [45] from rfl,key.1,key.2]
 exact ⟨[.string (bA q),.bool neg],rfl,_,_,rfl,bF (β:=β),_,_,rfl,⟨rfl,rfl⟩,rfl⟩
theorem tG {s a b:ByteArray} {r:Bool} (hs:s.size<4294967281) (h:Lib.cut s.data.toList [47]=(a.data.toList,b.data.toList,r)):jX 107 [tx s,lt ⟨#[47]⟩] (.tup [.sc (bK a),.sc (bK b),.sc (.lit (.bool r))]):=by
 intro β w vs hG hv
 obtain ⟨v,u,rfl,h1,h2⟩:=eB hv
 rw [aP h1,aN h2]
 obtain ⟨m,hm⟩:=hG.2
 refine (Tryz.strings_Cut s ⟨#[47]⟩ m w hs hm).mono fun e w' ⟨e1,n,e2⟩=>⟨_,e1,by rw [e2];exact oY w n,?_⟩
 rw [show (⟨#[47]⟩:ByteArray).data.toList = [47] from rfl,h]
 have ea:(⟨a.data.toList.toArray⟩:ByteArray)=a:=ba_ext (by simp)
 have eb:(⟨b.data.toList.toArray⟩:ByteArray)=b:=ba_ext (by simp)
 simp only [ea,eb]
 exact ⟨[.string a,.string b,.bool r],rfl,_,_,rfl,bF (β:=β),_,_,rfl,bF (β:=β),_,_,rfl,⟨rfl,rfl⟩,rfl⟩
theorem cut_whole {q:Rat} (h:q.den=1):Lib.cut (bA q).data.toList [47]=((decB q.num.natAbs).data.toList,(⟨#[]⟩:ByteArray).data.toList,false):=by
 unfold bA Lib.cut
 rw [if_pos h,dD,tF (cH q.num.natAbs).2.1]
 rfl
theorem cut_parts {q:Rat} (h:q.den≠1):Lib.cut (bA q).data.toList [47]=((decB q.num.natAbs).data.toList,(decB q.den).data.toList,true):=by
 unfold bA Lib.cut
 have e:(decB q.num.natAbs++(⟨#[47]⟩++decB q.den):ByteArray).data.toList=Lib.decDigits q.num.natAbs++47::Lib.decDigits q.den:=by
  rw [ByteArray.toList_data_append,ByteArray.toList_data_append,dD,dD];rfl
 rw [if_neg h,e,zF (cH q.num.natAbs).2.1,if_pos (by omega),dD,dD]
 simp
theorem bY {n:Nat} (h:(decB n).size≤100000):jF 73 [tx (decB n)] (nt n):=by
 intro β w vs hv
 obtain ⟨v,rfl,h1⟩:=dF hv
 rw [aP h1]
 have e:aC (decB n)=Lib.decDigits n:=dD n
 refine (wW (decB n) w h (by rw [e];exact (cH n).2.1)).mono fun e' w' ⟨u,e1,h1,h2⟩=>⟨u,e1,h2,?_⟩
 rw [e,(cH n).1] at h1
 exact dK.2 h1
theorem wI:jF 73 [lt ⟨#[49]⟩] (nt 1):=by
 intro β w vs hv
 obtain ⟨v,rfl,h1⟩:=dF hv
 have e:decB 1=⟨#[49]⟩:=by unfold decB;rw [cW (by omega)];rfl
 exact bY (n:=1) (by rw [e];decide) β w _ ⟨v,[],rfl,by rw [aN h1,← e];exact bF,rfl⟩
theorem isOneF {n:Nat} {b:Bool} (h:decide (n=1)=b):jF 110 [nt n] (bl b):=by
 intro β w vs hv
 obtain ⟨v,rfl,h1⟩:=dF hv
 refine (pH (dK.1 h1)).mono fun e w' ⟨e1,e2⟩=>⟨_,e1,by rw [e2];exact aB _ _,?_⟩
 rw [h]
 exact aY rfl
theorem tH {q:Rat} {neg:Bool} (h:decide (q.num<0)=neg):jF 74 [frv neg q.num.natAbs q.den] (num q):=by
 rw [← h]
 exact kL
section
variable {f:FuncId} {w00:World} {Out:Value→World→Prop}
theorem klenL {c:Cfg Kn} (t:Tmp) (s:ByteArray) (hc:(c.op.map fun o=>o.op,c.okT (.fv (.sc (gY s.size))),c.ev (.tmp t))=(some (.call ⟨.builtin .len,#[.tmp t],#[9]⟩),true,lt s))
 (hg:Ok Tryz.prog f w00 Out (cG Tryz.prog 1000 (c.give (.fv (.sc (gY s.size)))))):Ok Tryz.prog f w00 Out c:=by
 simp only [Prod.mk.injEq] at hc
 obtain ⟨h1,h2,h3⟩:=hc
 exact pK _ (.tmp t) (.tmp t) (lt s) (lt s) (.fv (.sc (gY s.size))) (by rw [h1,h2,h3]) (by simp [Op.operands,Call.operands]) (by simp [Op.operands,Call.operands])
  (fun ρ o β w ho hx _=>⟨_,xL ho Tryz.underlying9 (aN hx),bF⟩) hg
theorem kgt {c:Cfg Kn} (t:Tmp) (a b:Int) (r:Bool) (h:decide (b<a)=r) (hc:(c.op.map fun o=>o.op,c.okT (bl r),c.ev (.tmp t),c.ev (.const (.int .i64 b)))=(some (.binOp .gtr 3 (.tmp t) (.const (.int .i64 b)) 3),true,.fv (.sc (gY a)),it b))
 (hg:Ok Tryz.prog f w00 Out (cG Tryz.prog 1000 (c.give (bl r)))):Ok Tryz.prog f w00 Out c :=
 pK _ (.tmp t) (.const (.int .i64 b)) _ _ (bl r) hc (by simp [Op.operands]) (by simp [Op.operands]) (fun ρ o β w ho hx hy=>⟨_,zE ho (aP hx) (aN hy) h,aY rfl⟩) hg
theorem jM{c:Cfg Kn} (t:Tmp) (a b:Int) (r:Bool) (h:decide (b<a)=r)(hg:Ok Tryz.prog f w00 Out (cG Tryz.prog 1000 (c.give (bl r))))(hc:(c.op.map fun o=>o.op,c.okT (bl r),c.ev (.tmp t),c.ev (.const (.int .i64 b)))=(some (.binOp .gtr 3 (.tmp t) (.const (.int .i64 b)) 3),true,.fv (.sc (gY a)),it b):=by kernel_rfl):Ok Tryz.prog f w00 Out c :=kgt t a b r h hc hg
theorem kseq {c:Cfg Kn} (t:Tmp) (a b:ByteArray) (r:Bool) (h:(a.toList==b.toList)=r) (hc:(c.op.map fun o=>o.op,c.okT (bl r),c.ev (.tmp t),c.ev (.const (.string b)))=(some (.binOp .eql 9 (.tmp t) (.const (.string b)) 9),true,tx a,lt b))
 (hg:Ok Tryz.prog f w00 Out (cG Tryz.prog 1000 (c.give (bl r)))):Ok Tryz.prog f w00 Out c :=
 pK _ (.tmp t) (.const (.string b)) _ _ (bl r) hc (by simp [Op.operands]) (by simp [Op.operands]) (fun ρ o β w ho hx hy=>⟨_,tD ho (aP hx) (aN hy) h,aY rfl⟩) hg
theorem jQ{c:Cfg Kn} (t:Tmp) (a b:ByteArray) (r:Bool) (h:(a.toList==b.toList)=r)(hg:Ok Tryz.prog f w00 Out (cG Tryz.prog 1000 (c.give (bl r))))(hc:(c.op.map fun o=>o.op,c.okT (bl r),c.ev (.tmp t),c.ev (.const (.string b)))=(some (.binOp .eql 9 (.tmp t) (.const (.string b)) 9),true,tx a,lt b):=by kernel_rfl):Ok Tryz.prog f w00 Out c :=kseq t a b r h hc hg
end
theorem lF {n m:Nat} {b:ByteArray} (hb:decB m=b):((decB n).toList==b.toList)=decide (n=m):=by
 rw [← hb,Go.ByteArray.toList_eq,Go.ByteArray.toList_eq,dD,dD,Bool.eq_iff_iff]
 simp only [beq_iff_eq,decide_eq_true_eq]
 constructor
 ·intro h
  have:=(cH n).1
  rw [h,(cH m).1] at this
  exact this.symm
 ·rintro rfl
  rfl
theorem dec0:decB 0=⟨#[48]⟩:=by unfold decB;rw [cW (by omega)];rfl
theorem dec1:decB 1=⟨#[49]⟩:=by unfold decB;rw [cW (by omega)];rfl
structure Wr (q:Rat):Prop where
 n:(decB q.num.natAbs).size≤600
 d:(decB q.den).size≤600
theorem oA {n k:Nat} (h:(decB n).size≤19*2^k):Lv k n:=by
 have e:aC (decB n)=Lib.decDigits n:=dD n
 have hd:=cH n
 refine lv_pow k (decB n).size h ?_
 have:=gH hd.2.1
 rw [hd.1] at this
 have hl:(decB n).size=(Lib.decDigits n).length:=by rw [← aE,e]
 rw [hl]
 exact this
theorem Wr.lf {q:Rat} (h:Wr q):Lf 5 q:=⟨oA (by have:=h.n;omega),oA (by have:=h.d;omega)⟩
theorem body_size {q:Rat} (h:Wr q):(bA q).size<4294967281:=by
 have h1:=h.n
 have h2:=h.d
 have:(⟨#[47]⟩:ByteArray).size=1:=rfl
 unfold bA
 split <;> simp <;> omega
theorem zG {q:Rat} (h:Wr q):jX 41 [tx (writeB q)] (.tup [.ag [nb q],.sc (.lit (.int .i64 0))]):=by
 have g1:decide ((600:Int)<((decB q.num.natAbs).size:Int))=false:=by have:=h.n;simp;omega
 have g2:decide ((600:Int)<((decB q.den).size:Int))=false:=by have:=h.d;simp;omega
 have g3:decide ((600:Int)<(((⟨#[49]⟩:ByteArray).size:Nat):Int))=false:=by decide
 have hsz:=body_size h
 have s1:=h.n
 have s2:=h.d
 by_cases hn:q.num<0
 ·have hneg:decide (q.num<0)=true:=by simpa using hn
  have hz:((decB q.num.natAbs).toList==(⟨#[48]⟩:ByteArray).toList)=false:=by rw [lF dec0,decide_eq_false_iff_not];omega
  by_cases hd:q.den=1
  ·skip
   refine jY Tryz.func41 fun w00 hI=>?_
   refine jC 70 [tx (writeB q),lt ⟨#[45]⟩] (nZ hneg) ?_
   refine jW hI 107 [tx (bA q),lt ⟨#[47]⟩] (tG (a:=decB q.num.natAbs) (b:=⟨#[]⟩) (r:=false) hsz (cut_whole hd)) ?_
   refine jC 108 [tx (decB q.num.natAbs)] (mU _) ?_
   refine jQ 31 (decB q.num.natAbs) ⟨#[48]⟩ false hz ?_
   refine jO 53 (decB q.num.natAbs) ?_
   refine jM 54 (decB q.num.natAbs).size 600 false g1 ?_
   refine klenL 57 ⟨#[49]⟩ (by kernel_rfl) ?_
   refine jM 58 ((⟨#[49]⟩:ByteArray).size:Nat) 600 false g3 ?_
   refine jC 73 [tx (decB q.num.natAbs)] (bY (by omega)) ?_
   refine jC 73 [lt ⟨#[49]⟩] (wI) ?_
   refine jC 74 [frv true q.num.natAbs 1] ((by rw [← hd];exact tH hneg)) ?_
   exact jR Tryz.func41
  ·skip
   have y0:((decB q.den).toList==(⟨#[48]⟩:ByteArray).toList)=false:=by rw [lF dec0,decide_eq_false_iff_not];have:=q.den_pos;omega
   have y1:((decB q.den).toList==(⟨#[49]⟩:ByteArray).toList)=false:=by rw [lF dec1];simpa using hd
   refine jY Tryz.func41 fun w00 hI=>?_
   refine jC 70 [tx (writeB q),lt ⟨#[45]⟩] (nZ hneg) ?_
   refine jW hI 107 [tx (bA q),lt ⟨#[47]⟩] (tG (a:=decB q.num.natAbs) (b:=decB q.den) (r:=true) hsz (cut_parts hd)) ?_
   refine jC 108 [tx (decB q.num.natAbs)] (mU _) ?_
   refine jQ 31 (decB q.num.natAbs) ⟨#[48]⟩ false hz ?_
   refine jC 108 [tx (decB q.den)] (mU _) ?_
   refine jQ 43 (decB q.den) ⟨#[48]⟩ false y0 ?_
   refine jQ 47 (decB q.den) ⟨#[49]⟩ false y1 ?_
   refine jO 53 (decB q.num.natAbs) ?_
   refine jM 54 (decB q.num.natAbs).size 600 false g1 ?_
   refine jO 57 (decB q.den) ?_
   refine jM 58 (decB q.den).size 600 false g2 ?_
   refine jC 73 [tx (decB q.num.natAbs)] (bY (by omega)) ?_
   refine jC 73 [tx (decB q.den)] (bY (by omega)) ?_
   refine jC 109 [nt q.num.natAbs,nt q.den] (zC (h.lf.1.mono (by decide)) (h.lf.2.mono (by decide)) (.inr q.den_pos)) ?_
   refine jC 110 [nt (Nat.gcd q.num.natAbs q.den)] (isOneF (b:=true) (by rw [decide_eq_true_eq];exact q.reduced)) ?_
   refine jC 74 [frv true q.num.natAbs q.den] (tH hneg) ?_
   exact jR Tryz.func41
 ·have hneg:decide (q.num<0)=false:=by simpa using hn
  by_cases hd:q.den=1
  ·skip
   refine jY Tryz.func41 fun w00 hI=>?_
   refine jC 70 [tx (writeB q),lt ⟨#[45]⟩] (nZ hneg) ?_
   refine jW hI 107 [tx (bA q),lt ⟨#[47]⟩] (tG (a:=decB q.num.natAbs) (b:=⟨#[]⟩) (r:=false) hsz (cut_whole hd)) ?_
   refine jC 108 [tx (decB q.num.natAbs)] (mU _) ?_
   refine jO 53 (decB q.num.natAbs) ?_
   refine jM 54 (decB q.num.natAbs).size 600 false g1 ?_
   refine klenL 57 ⟨#[49]⟩ (by kernel_rfl) ?_
   refine jM 58 ((⟨#[49]⟩:ByteArray).size:Nat) 600 false g3 ?_
   refine jC 73 [tx (decB q.num.natAbs)] (bY (by omega)) ?_
   refine jC 73 [lt ⟨#[49]⟩] (wI) ?_
   refine jC 74 [frv false q.num.natAbs 1] ((by rw [← hd];exact tH hneg)) ?_
   exact jR Tryz.func41
  ·skip
   have y0:((decB q.den).toList==(⟨#[48]⟩:ByteArray).toList)=false:=by rw [lF dec0,decide_eq_false_iff_not];have:=q.den_pos;omega
   have y1:((decB q.den).toList==(⟨#[49]⟩:ByteArray).toList)=false:=by rw [lF dec1];simpa using hd
   refine jY Tryz.func41 fun w00 hI=>?_
   refine jC 70 [tx (writeB q),lt ⟨#[45]⟩] (nZ hneg) ?_
   refine jW hI 107 [tx (bA q),lt ⟨#[47]⟩] (tG (a:=decB q.num.natAbs) (b:=decB q.den) (r:=true) hsz (cut_parts hd)) ?_
   refine jC 108 [tx (decB q.num.natAbs)] (mU _) ?_
   refine jC 108 [tx (decB q.den)] (mU _) ?_
   refine jQ 43 (decB q.den) ⟨#[48]⟩ false y0 ?_
   refine jQ 47 (decB q.den) ⟨#[49]⟩ false y1 ?_
   refine jO 53 (decB q.num.natAbs) ?_
   refine jM 54 (decB q.num.natAbs).size 600 false g1 ?_
   refine jO 57 (decB q.den) ?_
   refine jM 58 (decB q.den).size 600 false g2 ?_
   refine jC 73 [tx (decB q.num.natAbs)] (bY (by omega)) ?_
   refine jC 73 [tx (decB q.den)] (bY (by omega)) ?_
   refine jC 109 [nt q.num.natAbs,nt q.den] (zC (h.lf.1.mono (by decide)) (h.lf.2.mono (by decide)) (.inr q.den_pos)) ?_
   refine jC 110 [nt (Nat.gcd q.num.natAbs q.den)] (isOneF (b:=true) (by rw [decide_eq_true_eq];exact q.reduced)) ?_
   refine jC 74 [frv false q.num.natAbs q.den] (tH hneg) ?_
   exact jR Tryz.func41
abbrev z0:Seg Kn := .lit (.int .i64 0)
theorem iP {T:TypeId}:jF 83 [.fv (.nsl 2 T [z0,z0])] (it 0):=by
 refine lA Tryz.func83 (by kernel_rfl) fun w00=>?_
 exact jR Tryz.func83
theorem first3F {T:TypeId}:jF 83 [.fv (.nsl 3 T [z0,z0,z0])] (it 0):=by
 refine lA Tryz.func83 (by kernel_rfl) fun w00=>?_
 exact jR Tryz.func83
theorem first4F {T:TypeId}:jF 83 [.fv (.nsl 4 T [z0,z0,z0,z0])] (it 0):=by
 refine lA Tryz.func83 (by kernel_rfl) fun w00=>?_
 exact jR Tryz.func83
abbrev vS (a b c:Rat):AV Kn := .fv (.ag [bK (writeB a),bK (writeB b),bK (writeB c)])
abbrev okV (a b c:Rat):AV Kn := .tup [.ag [nb a,nb b,nb c],.sc z0]
abbrev oP (a b c:Rat):Prop:=Wr a∧Wr b∧Wr c
theorem gR {a b c:Rat} (h:oP a b c):jX 42 [vS a b c] (okV a b c):=by
 refine jY Tryz.func42 fun w00 hI=>?_
 refine jW hI 41 [tx (writeB a)] (zG h.1) ?_
 refine jW hI 41 [tx (writeB b)] (zG h.2.1) ?_
 refine jW hI 41 [tx (writeB c)] (zG h.2.2) ?_
 refine kcallS 83 3 3 151 [z0,z0,z0] (first3F) (by kernel_rfl) Tryz.call83 ?_
 exact jR Tryz.func42
theorem vA {a b c:Rat} (h:oP a b c) (ha:Lf 20 a) (hb:Lf 20 b) (hc:Lf 20 c):jX 91 [vc a b c] (.tup [.ag [bK (writeB a),bK (writeB b),bK (writeB c)],.sc z0]):=by
 refine jY Tryz.func91 fun w00 hI=>?_
 refine jW hI 75 [num a] (uY ha h.1.n h.1.d) ?_
 refine jW hI 75 [num b] (uY hb h.2.1.n h.2.1.d) ?_
 refine jW hI 75 [num c] (uY hc h.2.2.n h.2.2.d) ?_
 exact jR Tryz.func91
section
variable {a b c x y z u v d e:Rat}
theorem readRV (h:Wr a) (k:oP x y z):jX 40 [gP 41,tx (writeB a),gP 42,vS x y z] (.tup [.ag [nb a],.ag [nb x,nb y,nb z],.sc z0]):=by
 refine jY Tryz.func40 fun w00 hI=>?_
 refine jW hI 41 [tx (writeB a)] (zG h) ?_
 refine jW hI 42 [vS x y z] (gR k) ?_
 refine jC 83 [.fv (.nsl 2 30 [z0,z0])] (iP) ?_
 exact jR Tryz.func40
theorem readVV (h:oP a b c) (k:oP x y z):jX 76 [gP 42,vS a b c,gP 42,vS x y z] (.tup [.ag [nb a,nb b,nb c],.ag [nb x,nb y,nb z],.sc z0]):=by
 refine jY Tryz.func76 fun w00 hI=>?_
 refine jW hI 42 [vS a b c] (gR h) ?_
 refine jW hI 42 [vS x y z] (gR k) ?_
 refine jC 83 [.fv (.nsl 2 30 [z0,z0])] (iP) ?_
 exact jR Tryz.func76
theorem readVR (h:oP a b c) (k:Wr d):jX 81 [gP 42,vS a b c,gP 41,tx (writeB d)] (.tup [.ag [nb a,nb b,nb c],.ag [nb d],.sc z0]):=by
 refine jY Tryz.func81 fun w00 hI=>?_
 refine jW hI 42 [vS a b c] (gR h) ?_
 refine jW hI 41 [tx (writeB d)] (zG k) ?_
 refine jC 83 [.fv (.nsl 2 30 [z0,z0])] (iP) ?_
 exact jR Tryz.func81
abbrev wJ (q:Rat):AV Kn := .tup [.sc (bK (writeB q)),.sc z0]
abbrev gS (a b c:Rat):AV Kn := .tup [.ag [bK (writeB a),bK (writeB b),bK (writeB c)],.sc z0]
theorem apiAlongF (h:oP a b c) (k:oP x y z) (h0:(decide (a=0)&&decide (b=0)&&decide (c=0))=false) (hc:(decide (b*z-c*y=0)&&decide (c*x-a*z=0)&&decide (a*y-b*x=0))=true)
 (hs:dt a b c a b c≠0) (hr:Wr (dt x y z a b c/dt a b c a b c)):jX 18 [vS a b c,vS x y z] (wJ (dt x y z a b c/dt a b c a b c)):=by
 have l1:=h.1.lf
 have l2:=h.2.1.lf
 have l3:=h.2.2.lf
 have m1:=k.1.lf
 have m2:=k.2.1.lf
 have m3:=k.2.2.lf
 refine jY Tryz.func18 fun w00 hI=>?_
 refine jW hI 76 [gP 42,vS a b c,gP 42,vS x y z] (readVV h k) ?_
 refine jC 44 [vc a b c] (eQ h0) ?_
 refine jC 77 [vc a b c,vc x y z] (zB (l1.mono (by decide)) (l2.mono (by decide)) (l3.mono (by decide)) (m1.mono (by decide)) (m2.mono (by decide)) (m3.mono (by decide))) ?_
 refine jC 44 [vc (b*z-c*y) (c*x-a*z) (a*y-b*x)] (eQ hc) ?_
 refine jC 78 [vc x y z,vc a b c] (oO (m1.mono (by decide)) (m2.mono (by decide)) (m3.mono (by decide)) (l1.mono (by decide)) (l2.mono (by decide)) (l3.mono (by decide))) ?_
 refine jC 80 [vc a b c] (qI (l1.mono (by decide)) (l2.mono (by decide)) (l3.mono (by decide))) ?_
 refine jC 79 [num (dt x y z a b c),num (dt a b c a b c)] (rH (jZ (n:=38) (m1.mono (by decide)) (m2.mono (by decide)) (m3.mono (by decide)) (l1.mono (by decide)) (l2.mono (by decide)) (l3.mono (by decide)) (by decide)) (jZ (n:=38) (l1.mono (by decide)) (l2.mono (by decide)) (l3.mono (by decide)) (l1.mono (by decide)) (l2.mono (by decide)) (l3.mono (by decide)) (by decide)) hs) ?_
 refine jW hI 75 [num (dt x y z a b c/dt a b c a b c)] (uY (hr.lf.mono (by decide)) hr.n hr.d) ?_
 exact jR Tryz.func18
end
def wn (q:Rat) (n:Nat):Nat:=if q=0 then n else Nat.gcd q.num.natAbs n
def wd (q:Rat) (d:Nat):Nat:=if q=0 then d else d*(q.den/Nat.gcd q.den d)
def fP (a b c:Rat):Rat:=mkRat (sg false (wd c (wd b (wd a 1)))) (wn c (wn b (wn a 0)))
theorem vB {q:Rat} {n:Nat} (h:q≠0):0<wn q n:=by
 unfold wn
 rw [if_neg h]
 have:0<q.num.natAbs:=by
  have:q.num≠0:=fun e=>h (Rat.num_eq_zero.1 e)
  omega
 exact Nat.gcd_pos_of_pos_left _ this
theorem qK {q:Rat} {n:Nat} (h:0<n):0<wn q n:=by
 unfold wn
 split
 ·exact h
 ·exact Nat.gcd_pos_of_pos_right _ h
theorem lv_wn {q:Rat} {n k:Nat} (hq:Lf k q) (hn:Lv k n):Lv k (wn q n):=by
 unfold wn
 split
 ·exact hn
 ·rename_i h
  have:q.num≠0:=fun e=>h (Rat.num_eq_zero.1 e)
  exact hq.1.le (Nat.gcd_le_left _ (by omega))
theorem lv_wd {q:Rat} {d k:Nat} (hq:Lf k q) (hd:Lv k d):Lv (k+1) (wd q d):=by
 unfold wd
 split
 ·exact hd.mono (by omega)
 ·exact hd.mul (hq.2.le (Nat.div_le_self _ _))
theorem nil_nt {β:List Nat} {v:Value} {w:World} (h:(AV.fv (.sc (.lit (.slice none 0 0))):AV Kn).holds β v w):(nt 0).holds β v w:=by
 rw [aN h]
 exact dK.2 (Nt.zero w)
theorem num_ne {q:Rat} (h:¬ q=0):0<q.num.natAbs:=by
 have:q.num≠0:=fun e=>h (Rat.num_eq_zero.1 e)
 omega
section
variable {q a b c:Rat} {n n' d d' : Nat}
theorem gcdW (hq:¬ q=0) (lq:Lf 30 q) (ln:Lv 30 n) (hn:wn q n=n'):jF 109 [nt q.num.natAbs,nt n] (nt n'):=by
 subst hn
 unfold wn
 rw [if_neg hq]
 exact zC (lq.1.mono (by omega)) (ln.mono (by omega)) (.inl (num_ne hq))
theorem gcdW0 (hq:¬ q=0) (lq:Lf 30 q) (hn:wn q 0=n'):jF 109 [nt q.num.natAbs,.fv (.sc (.lit (.slice none 0 0)))] (nt n') :=
 Fits.args (gcdW hq lq (Lv.one _ (by rw [aL];omega)) hn) (fun β vs w ⟨v,r,e,k1,⟨v2,r2,e2,k2,k3⟩⟩=>⟨v,r,e,k1,v2,r2,e2,nil_nt k2,k3⟩)
theorem rX (hq:¬ q=0) (lq:Lf 32 q) (ld:Lv 32 d) (hd:wd q d=d'):jF 136 [nt d,nt (q.den/Nat.gcd q.den d)] (nt d'):=by
 subst hd
 unfold wd
 rw [if_neg hq]
 exact ntimesF (ld.mono (by omega)) ((lq.2.mono (by omega)).le (Nat.div_le_self _ _))
set_option maxRecDepth 100000 in
theorem wholeF (la:Lf 30 a) (lb:Lf 30 b) (lc:Lf 30 c) (h:¬ (a=0∧b=0∧c=0)):jF 208 [vc a b c] (num (fP a b c)):=by
 obtain ⟨d0,e0⟩:∃ d,d=1:=⟨_,rfl⟩
 obtain ⟨n1,f1⟩:∃ n,wn a 0=n:=⟨_,rfl⟩
 obtain ⟨d1,e1⟩:∃ d,wd a d0=d:=⟨_,rfl⟩
 obtain ⟨n2,f2⟩:∃ n,wn b n1=n:=⟨_,rfl⟩
 obtain ⟨d2,e2⟩:∃ d,wd b d1=d:=⟨_,rfl⟩
 obtain ⟨n3,f3⟩:∃ n,wn c n2=n:=⟨_,rfl⟩
 obtain ⟨d3,e3⟩:∃ d,wd c d2=d:=⟨_,rfl⟩
 have hw:fP a b c=mkRat (sg false d3) n3:=by
  subst e0 e1 e2 e3 f1 f2 f3
  rfl
 have hN:0<n3:=by
  rw [← f3,← f2,← f1]
  by_cases hc:c=0
  ·by_cases hb:b=0
   ·exact qK (qK (vB fun ha=>h ⟨ha,hb,hc⟩))
   ·exact qK (vB hb)
  ·exact vB hc
 have ln1:Lv 30 n1:=f1▸lv_wn la (Lv.one _ (by rw [aL];omega))
 have ln2:Lv 30 n2:=f2▸lv_wn lb ln1
 have ln3:Lv 30 n3:=f3▸lv_wn lc ln2
 have ld0:Lv 30 d0:=e0▸Lv.one _ (by rw [aL];omega)
 have ld1:Lv 31 d1:=e1▸lv_wd la ld0
 have ld2:Lv 32 d2:=e2▸lv_wd (lb.mono (by decide)) ld1
 have ld3:Lv 33 d3:=e3▸lv_wd (lc.mono (by decide)) ld2
 have kN:jF 137 [.fv (.sc (.lit (.int .u64 ((1:Nat):Int))))] (nt d0):=e0▸naturalOfF (by rw [aL];omega)
 have zt:∀ {x:Rat},x=0→jF 43 [num x] (bl true):=fun h=>fU (by simpa using h)
 have zf:∀ {x:Rat},¬ x=0→jF 43 [num x] (bl false):=fun h=>fU (by simpa using h)
 rw [hw]
 clear hw e0
 refine jG Tryz.func208 fun w00=>?_
 refine jC 137 [.fv (.sc (.lit (.int .u64 ((1:Nat):Int))))] (kN) ?_
 clear kN
 by_cases ha:a=0
 ·refine jC 43 [num a] (zt ha) ?_
  obtain rfl:n1=0:=by rw [← f1,wn,if_pos ha]
  obtain rfl:d1=d0:=by rw [← e1,wd,if_pos ha]
  by_cases hb:b=0
  ·refine jC 43 [num b] (zt hb) ?_
   obtain rfl:n2=0:=by rw [← f2,wn,if_pos hb]
   obtain rfl:d2=d1:=by rw [← e2,wd,if_pos hb]
   by_cases hc:c=0
   ·exact absurd ⟨ha,hb,hc⟩ h
   ·refine jC 43 [num c] (zf hc) ?_
    refine jC 155 [num c] (eM) ?_
    refine jC 109 [nt c.num.natAbs,.fv (.sc (.lit (.slice none 0 0)))] (gcdW0 hc lc f3) ?_
    refine jC 109 [nt c.den,nt d2] (zC (lc.2.mono (by omega)) (ld2.mono (by omega)) (.inl c.den_pos)) ?_
    refine jC 134 [nt c.den,nt (Nat.gcd c.den d2)] (lB (lc.2.mono (by omega)) (Nat.gcd_pos_of_pos_left _ c.den_pos)) ?_
    refine jC 136 [nt d2,nt (c.den/Nat.gcd c.den d2)] (rX hc (lc.mono (by decide)) (ld2.mono (by omega)) e3) ?_
    refine jC 72 [bl false,nt d3,nt n3] (pM (ld3.mono (by omega)) (ln3.mono (by omega)) hN) ?_
    refine jC 74 [fra (mkRat (sg false d3) n3)] (kL) ?_
    exact jR Tryz.func208
  ·refine jC 43 [num b] (zf hb) ?_
   refine jC 155 [num b] (eM) ?_
   refine jC 109 [nt b.num.natAbs,.fv (.sc (.lit (.slice none 0 0)))] (gcdW0 hb lb f2) ?_
   refine jC 109 [nt b.den,nt d1] (zC (lb.2.mono (by omega)) (ld1.mono (by omega)) (.inl b.den_pos)) ?_
   refine jC 134 [nt b.den,nt (Nat.gcd b.den d1)] (lB (lb.2.mono (by omega)) (Nat.gcd_pos_of_pos_left _ b.den_pos)) ?_
   refine jC 136 [nt d1,nt (b.den/Nat.gcd b.den d1)] (rX hb (lb.mono (by decide)) (ld1.mono (by omega)) e2) ?_
   by_cases hc:c=0
   ·refine jC 43 [num c] (zt hc) ?_
    obtain rfl:n3=n2:=by rw [← f3,wn,if_pos hc]
    obtain rfl:d3=d2:=by rw [← e3,wd,if_pos hc]
    refine jC 72 [bl false,nt d3,nt n3] (pM (ld3.mono (by omega)) (ln3.mono (by omega)) hN) ?_
    refine jC 74 [fra (mkRat (sg false d3) n3)] (kL) ?_
    exact jR Tryz.func208
   ·refine jC 43 [num c] (zf hc) ?_
    refine jC 155 [num c] (eM) ?_
    refine jC 109 [nt c.num.natAbs,nt n2] (gcdW hc lc ln2 f3) ?_
    refine jC 109 [nt c.den,nt d2] (zC (lc.2.mono (by omega)) (ld2.mono (by omega)) (.inl c.den_pos)) ?_
    refine jC 134 [nt c.den,nt (Nat.gcd c.den d2)] (lB (lc.2.mono (by omega)) (Nat.gcd_pos_of_pos_left _ c.den_pos)) ?_
    refine jC 136 [nt d2,nt (c.den/Nat.gcd c.den d2)] (rX hc (lc.mono (by decide)) (ld2.mono (by omega)) e3) ?_
    refine jC 72 [bl false,nt d3,nt n3] (pM (ld3.mono (by omega)) (ln3.mono (by omega)) hN) ?_
    refine jC 74 [fra (mkRat (sg false d3) n3)] (kL) ?_
    exact jR Tryz.func208
 ·refine jC 43 [num a] (zf ha) ?_
  refine jC 155 [num a] (eM) ?_
  refine jC 109 [nt a.num.natAbs,.fv (.sc (.lit (.slice none 0 0)))] (gcdW0 ha la f1) ?_
  refine jC 109 [nt a.den,nt d0] (zC (la.2.mono (by omega)) (ld0.mono (by omega)) (.inl a.den_pos)) ?_
  refine jC 134 [nt a.den,nt (Nat.gcd a.den d0)] (lB (la.2.mono (by omega)) (Nat.gcd_pos_of_pos_left _ a.den_pos)) ?_
  refine jC 136 [nt d0,nt (a.den/Nat.gcd a.den d0)] (rX ha (la.mono (by decide)) (ld0.mono (by omega)) e1) ?_
  by_cases hb:b=0
  ·refine jC 43 [num b] (zt hb) ?_
   obtain rfl:n2=n1:=by rw [← f2,wn,if_pos hb]
   obtain rfl:d2=d1:=by rw [← e2,wd,if_pos hb]
   by_cases hc:c=0
   ·refine jC 43 [num c] (zt hc) ?_
    obtain rfl:n3=n2:=by rw [← f3,wn,if_pos hc]
    obtain rfl:d3=d2:=by rw [← e3,wd,if_pos hc]
    refine jC 72 [bl false,nt d3,nt n3] (pM (ld3.mono (by omega)) (ln3.mono (by omega)) hN) ?_
    refine jC 74 [fra (mkRat (sg false d3) n3)] (kL) ?_
    exact jR Tryz.func208
   ·refine jC 43 [num c] (zf hc) ?_
    refine jC 155 [num c] (eM) ?_
    refine jC 109 [nt c.num.natAbs,nt n2] (gcdW hc lc ln2 f3) ?_
    refine jC 109 [nt c.den,nt d2] (zC (lc.2.mono (by omega)) (ld2.mono (by omega)) (.inl c.den_pos)) ?_
    refine jC 134 [nt c.den,nt (Nat.gcd c.den d2)] (lB (lc.2.mono (by omega)) (Nat.gcd_pos_of_pos_left _ c.den_pos)) ?_
    refine jC 136 [nt d2,nt (c.den/Nat.gcd c.den d2)] (rX hc (lc.mono (by decide)) (ld2.mono (by omega)) e3) ?_
    refine jC 72 [bl false,nt d3,nt n3] (pM (ld3.mono (by omega)) (ln3.mono (by omega)) hN) ?_
    refine jC 74 [fra (mkRat (sg false d3) n3)] (kL) ?_
    exact jR Tryz.func208
  ·refine jC 43 [num b] (zf hb) ?_
   refine jC 155 [num b] (eM) ?_
   refine jC 109 [nt b.num.natAbs,nt n1] (gcdW hb lb ln1 f2) ?_
   refine jC 109 [nt b.den,nt d1] (zC (lb.2.mono (by omega)) (ld1.mono (by omega)) (.inl b.den_pos)) ?_
   refine jC 134 [nt b.den,nt (Nat.gcd b.den d1)] (lB (lb.2.mono (by omega)) (Nat.gcd_pos_of_pos_left _ b.den_pos)) ?_
   refine jC 136 [nt d1,nt (b.den/Nat.gcd b.den d1)] (rX hb (lb.mono (by decide)) (ld1.mono (by omega)) e2) ?_
   by_cases hc:c=0
   ·refine jC 43 [num c] (zt hc) ?_
    obtain rfl:n3=n2:=by rw [← f3,wn,if_pos hc]
    obtain rfl:d3=d2:=by rw [← e3,wd,if_pos hc]
    refine jC 72 [bl false,nt d3,nt n3] (pM (ld3.mono (by omega)) (ln3.mono (by omega)) hN) ?_
    refine jC 74 [fra (mkRat (sg false d3) n3)] (kL) ?_
    exact jR Tryz.func208
   ·refine jC 43 [num c] (zf hc) ?_
    refine jC 155 [num c] (eM) ?_
    refine jC 109 [nt c.num.natAbs,nt n2] (gcdW hc lc ln2 f3) ?_
    refine jC 109 [nt c.den,nt d2] (zC (lc.2.mono (by omega)) (ld2.mono (by omega)) (.inl c.den_pos)) ?_
    refine jC 134 [nt c.den,nt (Nat.gcd c.den d2)] (lB (lc.2.mono (by omega)) (Nat.gcd_pos_of_pos_left _ c.den_pos)) ?_
    refine jC 136 [nt d2,nt (c.den/Nat.gcd c.den d2)] (rX hc (lc.mono (by decide)) (ld2.mono (by omega)) e3) ?_
    refine jC 72 [bl false,nt d3,nt n3] (pM (ld3.mono (by omega)) (ln3.mono (by omega)) hN) ?_
    refine jC 74 [fra (mkRat (sg false d3) n3)] (kL) ?_
    exact jR Tryz.func208
end
section
variable {n1 n2 n3 d k:Rat} {z1 z2 z3:Int}
theorem mkRat_le (n:Int) {d:Nat} (hd:0<d):(mkRat n d).num.natAbs≤n.natAbs∧(mkRat n d).den≤d:=by
 rw [Rat.num_mkRat,Rat.den_mkRat,if_neg (by omega),if_neg (by omega)]
 exact ⟨Int.natAbs_ediv_le_natAbs _ _,Nat.div_le_self _ _⟩
theorem lf_whole {a b c:Rat} (la:Lf 30 a) (lb:Lf 30 b) (lc:Lf 30 c) (h:¬ (a=0∧b=0∧c=0)):Lf 33 (fP a b c):=by
 have hN:0<wn c (wn b (wn a 0)):=by
  by_cases ha:a=0
  ·by_cases hb:b=0
   ·exact vB (fun hc=>h ⟨ha,hb,hc⟩)
   ·exact qK (vB hb)
  ·exact qK (qK (vB ha))
 have l1:Lv 33 (wd c (wd b (wd a 1))):=lv_wd (lc.mono (by decide)) (lv_wd (lb.mono (by decide)) (lv_wd (k:=30) la (Lv.one _ (by rw [aL];omega))))
 have l2:Lv 33 (wn c (wn b (wn a 0))):=(lv_wn lc (lv_wn lb (lv_wn la (n:=0) (Lv.one _ (by rw [aL];omega))))).mono (by omega)
 have hm:=mkRat_le (sg false (wd c (wd b (wd a 1)))) hN
 have e:(sg false (wd c (wd b (wd a 1)))).natAbs=wd c (wd b (wd a 1)):=by simp [sg]
 rw [e] at hm
 exact ⟨l1.le hm.1,l2.le hm.2⟩
theorem reducedF (l1:Lf 30 n1) (l2:Lf 30 n2) (l3:Lf 30 n3) (ld:Lf 38 d) (h:¬ (n1=0∧n2=0∧n3=0)) :
 jF 148 [hf n1 n2 n3 d] (hf (fP n1 n2 n3*n1) (fP n1 n2 n3*n2) (fP n1 n2 n3*n3) (d*fP n1 n2 n3)):=by
 have lk:=(lf_whole l1 l2 l3 h).mono (l:=38) (by decide)
 refine jG Tryz.func148 fun w00=>?_
 refine jC 208 [vc n1 n2 n3] (wholeF l1 l2 l3 h) ?_
 refine jC 89 [vc n1 n2 n3,num (fP n1 n2 n3)] (gQ lk (l1.mono (by decide)) (l2.mono (by decide)) (l3.mono (by decide))) ?_
 refine jC 111 [num d,num (fP n1 n2 n3)] (fO ld lk) ?_
 exact jR Tryz.func148
abbrev hfI (z1 z2 z3:Int) (d:Rat):AV Kn := .fv (.ag [.lit (.int .i64 z1),z0,.lit (.pointer none),.lit (.int .i64 z2),z0,.lit (.pointer none),.lit (.int .i64 z3),z0,.lit (.pointer none),nb d])
abbrev Sz (z:Int):Prop := -999999999≤z∧z≤999999999
theorem nb_int {z:Int} (hz:Sz z) {cs:List Value} {w:World} (h:(csNb (z:Rat)).pred cs w):cs = [.int .i64 z,.int .i64 0,.pointer none]:=by
 have hm:Sm (z:Rat):=by
  constructor
  ·rw [Rat.num_intCast,eL];omega
  ·rw [Rat.den_intCast,eL];omega
 rcases h with ⟨_,e⟩|⟨h2,_⟩
 ·injection e with e
  have:=congrArg Array.toList e
  simpa using this
 ·exact absurd hm h2
theorem hf_int {β:List Nat} {v:Value} {w:World} {q1 q2 q3:Rat} (e1:q1=z1) (e2:q2=z2) (e3:q3=z3) (h1:Sz z1) (h2:Sz z2) (h3:Sz z3) (h:(hf q1 q2 q3 d).holds β v w):(hfI z1 z2 z3 d).holds β v w:=by
 subst e1
 subst e2
 subst e3
 obtain ⟨cs,rfl,x1,r1,rfl,k1,x2,r2,rfl,k2,x3,r3,rfl,k3,hr⟩:=h
 rw [nb_int h1 k1,nb_int h2 k2,nb_int h3 k3]
 exact ⟨_,rfl,[_],_,rfl,⟨rfl,rfl⟩,[_],_,rfl,⟨rfl,rfl⟩,[_],_,rfl,⟨rfl,rfl⟩,[_],_,rfl,⟨rfl,rfl⟩,[_],_,rfl,⟨rfl,rfl⟩,[_],_,rfl,⟨rfl,rfl⟩,[_],_,rfl,⟨rfl,rfl⟩,[_],_,rfl,⟨rfl,rfl⟩,[_],_,rfl,⟨rfl,rfl⟩,hr⟩
theorem Fits.res {P:Program} {f:FuncId} {l:List (AV Kn)} {x y:AV Kn} (h:Fits P f l x) (hx:∀ β v w,x.holds β v w→y.holds β v w):Fits P f l y:=fun β w vs hv =>
 (h β w vs hv).mono fun e w' ⟨v,e1,e2,e3⟩=>⟨v,e1,e2,hx β v w' e3⟩
theorem rY {z:Int} (hz:Sz z):jF 149 [it z] (.fv (.sc (isU (z.natAbs:Int)))):=by
 intro β w vs hv
 obtain ⟨v,rfl,h1⟩:=dF hv
 rw [aN h1]
 exact (eV z w (by have:=hz.1;omega) (by have:=hz.2;omega)).mono fun e w' ⟨e1,e2⟩=>⟨_,e1,by rw [← e2];exact aB _ _,bF⟩
theorem gtU_run {o:Oper} {ρ:Operand→Value} {w:World} {x y:Operand} {a b:Int} {r:Bool} {T T' : TypeId} (ho:o.op = .binOp .gtr T x y T') (hx:ρ x = .int .u64 a) (hy:ρ y = .int .u64 b) (h:decide (b<a)=r) :
 (execOp ρ o).run Tryz.prog w = .ok (.value (.bool r)) w:=by
 simp only [execOp,ho,hx,hy]
 refine bQ ?_
 rw [← h]
 exact bX (by kernel_rfl) w
section
variable {f:FuncId} {w00:World} {Out:Value→World→Prop}
theorem kgtU {c:Cfg Kn} (t:Tmp) (a b:Int) (r:Bool) (h:decide (b<a)=r) (hc:(c.op.map fun o=>o.op,c.okT (bl r),c.ev (.tmp t),c.ev (.const (.int .u64 b)))=(some (.binOp .gtr 173 (.tmp t) (.const (.int .u64 b)) 173),true,.fv (.sc (isU a)),.fv (.sc (.lit (.int .u64 b)))))
 (hg:Ok Tryz.prog f w00 Out (cG Tryz.prog 1000 (c.give (bl r)))):Ok Tryz.prog f w00 Out c :=
 pK _ (.tmp t) (.const (.int .u64 b)) _ _ (bl r) hc (by simp [Op.operands]) (by simp [Op.operands]) (fun ρ o β w ho hx hy=>⟨_,gtU_run ho (aP hx) (aN hy) h,aY rfl⟩) hg
theorem jN{c:Cfg Kn} (t:Tmp) (a b:Int) (r:Bool) (h:decide (b<a)=r)(hg:Ok Tryz.prog f w00 Out (cG Tryz.prog 1000 (c.give (bl r))))(hc:(c.op.map fun o=>o.op,c.okT (bl r),c.ev (.tmp t),c.ev (.const (.int .u64 b)))=(some (.binOp .gtr 173 (.tmp t) (.const (.int .u64 b)) 173),true,.fv (.sc (isU a)),.fv (.sc (.lit (.int .u64 b)))):=by kernel_rfl):Ok Tryz.prog f w00 Out c :=kgtU t a b r h hc hg
end
abbrev hS (z1 z2 z3:Int) (d:Rat):AV Kn := .fv (.ag [.lit (.int .i64 z1),.lit (.int .i64 z2),.lit (.int .i64 z3),bK (writeB d)])
abbrev sL (z1 z2 z3:Int) (d:Rat):AV Kn := .tup [.ag [.lit (.int .i64 z1),.lit (.int .i64 z2),.lit (.int .i64 z3),bK (writeB d)],.sc z0]
structure Form (n1 n2 n3 d:Rat) (z1 z2 z3:Int) (e:Rat):Prop where
 l1:Lf 30 n1
 l2:Lf 30 n2
 l3:Lf 30 n3
 ld:Lf 38 d
 h0:¬ (n1=0∧n2=0∧n3=0)
 e1:fP n1 n2 n3*n1=z1
 e2:fP n1 n2 n3*n2=z2
 e3:fP n1 n2 n3*n3=z3
 ed:d*fP n1 n2 n3=e
 s1:Sz z1
 s2:Sz z2
 s3:Sz z3
 wr:Wr e
theorem hWriteF {e:Rat} (h:Form n1 n2 n3 d z1 z2 z3 e):jX 82 [hf n1 n2 n3 d] (sL z1 z2 z3 e):=by
 have g:∀ {z:Int},Sz z→decide ((999999999:Int)<(z.natAbs:Int))=false:=fun hz=>by have:=hz.1;have:=hz.2;rw [decide_eq_false_iff_not];omega
 have gr:jF 148 [hf n1 n2 n3 d] (hfI z1 z2 z3 e):=Fits.res (reducedF h.l1 h.l2 h.l3 h.ld h.h0) (fun β v w hv=>hf_int h.e1 h.e2 h.e3 h.s1 h.s2 h.s3 (by rw [h.ed] at hv;exact hv))
 refine jY Tryz.func82 fun w00 hI=>?_
 refine jC 148 [hf n1 n2 n3 d] (gr) ?_
 refine jW hI 75 [num e] (uY (h.wr.lf.mono (by decide)) h.wr.n h.wr.d) ?_
 refine jC 149 [it z1] (rY h.s1) ?_
 refine jN 34 z1.natAbs 999999999 false (g h.s1) ?_
 refine jC 149 [it z2] (rY h.s2) ?_
 refine jN 34 z2.natAbs 999999999 false (g h.s2) ?_
 refine jC 149 [it z3] (rY h.s3) ?_
 refine jN 34 z3.natAbs 999999999 false (g h.s3) ?_
 exact jR Tryz.func82
theorem readHalfF (h1:uV z1) (h2:uV z2) (h3:uV z3) (hd:Wr d) (hc:jF 150 [iv z1 z2 z3] (it 0)):jX 86 [hS z1 z2 z3 d] (.tup [.ag [nb z1,nb z2,nb z3,nb d],.sc z0]):=by
 refine jY Tryz.func86 fun w00 hI=>?_
 refine jW hI 41 [tx (writeB d)] (zG hd) ?_
 refine jC 37 [iv z1 z2 z3] (iE h1 h2 h3) ?_
 refine jC 150 [iv z1 z2 z3] (hc) ?_
 refine jC 83 [.fv (.nsl 2 30 [z0,z0])] (iP) ?_
 exact jR Tryz.func86
end
theorem dO {a b:Nat} (ha:a<aD) (hb:b<aD):Fits (Kc:=Kn) Tryz.prog 164 [.fv (.sc (.lit (.int .u64 (a:Int)))),.fv (.sc (.lit (.int .u64 (b:Int))))] (.fv (.sc (.lit (.int .u64 ((Nat.gcd a b:Nat):Int))))):=by
 intro β w vs hv
 obtain ⟨v,u,rfl,h1,h2⟩:=eB hv
 rw [aN h1,aN h2]
 exact (kJ a b w ha hb).mono fun e w' ⟨e1,e2⟩=>⟨_,e1,by first|exact e2|(rw [← e2];exact aB _ _),aY rfl⟩
theorem ck_111:jF 150 [iv (1) (1) (1)] (it 0):=by
 refine jG Tryz.func150 fun w00=>?_
 refine jC 164 [.fv (.sc (.lit (.int .u64 ((0:Nat):Int)))),.fv (.sc (.lit (.int .u64 ((1:Nat):Int))))] (dO (by rw [aL];omega) (by rw [aL];omega)) ?_
 refine jC 164 [.fv (.sc (.lit (.int .u64 ((1:Nat):Int)))),.fv (.sc (.lit (.int .u64 ((1:Nat):Int))))] (dO (by rw [aL];omega) (by rw [aL];omega)) ?_
 refine jC 164 [.fv (.sc (.lit (.int .u64 ((1:Nat):Int)))),.fv (.sc (.lit (.int .u64 ((1:Nat):Int))))] (dO (by rw [aL];omega) (by rw [aL];omega)) ?_
 exact jR Tryz.func150
theorem ck_100:jF 150 [iv (1) (0) (0)] (it 0):=by
 refine jG Tryz.func150 fun w00=>?_
 refine jC 164 [.fv (.sc (.lit (.int .u64 ((0:Nat):Int)))),.fv (.sc (.lit (.int .u64 ((1:Nat):Int))))] (dO (by rw [aL];omega) (by rw [aL];omega)) ?_
 refine jC 164 [.fv (.sc (.lit (.int .u64 ((1:Nat):Int)))),.fv (.sc (.lit (.int .u64 ((0:Nat):Int))))] (dO (by rw [aL];omega) (by rw [aL];omega)) ?_
 refine jC 164 [.fv (.sc (.lit (.int .u64 ((1:Nat):Int)))),.fv (.sc (.lit (.int .u64 ((0:Nat):Int))))] (dO (by rw [aL];omega) (by rw [aL];omega)) ?_
 exact jR Tryz.func150
theorem ck_302:jF 150 [iv (3) (0) (-2)] (it 0):=by
 refine jG Tryz.func150 fun w00=>?_
 refine jC 164 [.fv (.sc (.lit (.int .u64 ((0:Nat):Int)))),.fv (.sc (.lit (.int .u64 ((3:Nat):Int))))] (dO (by rw [aL];omega) (by rw [aL];omega)) ?_
 refine jC 164 [.fv (.sc (.lit (.int .u64 ((3:Nat):Int)))),.fv (.sc (.lit (.int .u64 ((0:Nat):Int))))] (dO (by rw [aL];omega) (by rw [aL];omega)) ?_
 refine jC 164 [.fv (.sc (.lit (.int .u64 ((3:Nat):Int)))),.fv (.sc (.lit (.int .u64 ((2:Nat):Int))))] (dO (by rw [aL];omega) (by rw [aL];omega)) ?_
 exact jR Tryz.func150
section
variable {z1 z2 z3:Int} {d p1 p2 p3 n1 n2 n3 e:Rat}
structure Hv (z1 z2 z3:Int) (d:Rat):Prop where
 s1:Sz z1
 s2:Sz z2
 s3:Sz z3
 d:Wr d
 ck:jF 150 [iv z1 z2 z3] (it 0)
theorem dX {z:Int} (h:Sz z) {k:Nat}:Lf k (z:Rat):=Lf.int (Lv.one _ (by have:=h.1;have:=h.2;rw [aL];omega))
theorem m_sz {z:Int} (h:Sz z):uV z:=⟨by have:=h.1;omega,by have:=h.2;omega⟩
theorem readHV (h:Hv z1 z2 z3 d) (k:oP p1 p2 p3):jX 85 [gP 86,hS z1 z2 z3 d,gP 42,vS p1 p2 p3] (.tup [.ag [nb z1,nb z2,nb z3,nb d],.ag [nb p1,nb p2,nb p3],.sc z0]):=by
 refine jY Tryz.func85 fun w00 hI=>?_
 refine jW hI 86 [hS z1 z2 z3 d] (readHalfF (m_sz h.s1) (m_sz h.s2) (m_sz h.s3) h.d h.ck) ?_
 refine jW hI 42 [vS p1 p2 p3] (gR k) ?_
 refine jC 83 [.fv (.nsl 2 30 [z0,z0])] (iP) ?_
 exact jR Tryz.func85
theorem apiSideF {s:Int} (h:Hv z1 z2 z3 d) (k:oP p1 p2 p3) (hs:lK (dt z1 z2 z3 p1 p2 p3-d)=s):jX 27 [hS z1 z2 z3 d,vS p1 p2 p3] (.tup [.sc (.lit (.int .i64 s)),.sc z0]):=by
 rw [← hs]
 refine jY Tryz.func27 fun w00 hI=>?_
 refine jW hI 85 [gP 86,hS z1 z2 z3 d,gP 42,vS p1 p2 p3] (readHV h k) ?_
 refine jC 97 [hf z1 z2 z3 d,vc p1 p2 p3] (excessF (dX h.s1) (dX h.s2) (dX h.s3) (h.d.lf.mono (by decide)) (k.1.lf.mono (by decide)) (k.2.1.lf.mono (by decide)) (k.2.2.lf.mono (by decide))) ?_
 refine jC 98 [num (dt z1 z2 z3 p1 p2 p3-d)] (signF) ?_
 exact jR Tryz.func27
theorem apiMakeHalfF (k:oP n1 n2 n3) (hd:Wr d) (h:Form n1 n2 n3 d z1 z2 z3 e):jX 20 [vS n1 n2 n3,tx (writeB d)] (sL z1 z2 z3 e):=by
 have h0:(decide (n1=0)&&decide (n2=0)&&decide (n3=0))=false:=by
  rw [Bool.eq_false_iff]
  intro hh
  simp only [Bool.and_eq_true,decide_eq_true_eq] at hh
  exact h.h0 ⟨hh.1.1,hh.1.2,hh.2⟩
 refine jY Tryz.func20 fun w00 hI=>?_
 refine jW hI 81 [gP 42,vS n1 n2 n3,gP 41,tx (writeB d)] (readVR k hd) ?_
 refine jC 44 [vc n1 n2 n3] (eQ h0) ?_
 refine jW hI 82 [hf n1 n2 n3 d] (hWriteF h) ?_
 exact jR Tryz.func20
variable {a1 a2 a3 b1 b2 b3 c1 c2 c3:Rat}
theorem apiThroughF (ka:oP a1 a2 a3) (kb:oP b1 b2 b3) (kc:oP c1 c2 c3) {m1 m2 m3:Rat}
 (e1:(b2-a2)*(c3-a3)-(b3-a3)*(c2-a2)=m1) (e2:(b3-a3)*(c1-a1)-(b1-a1)*(c3-a3)=m2) (e3:(b1-a1)*(c2-a2)-(b2-a2)*(c1-a1)=m3)
 (h:Form m1 m2 m3 (dt m1 m2 m3 a1 a2 a3) z1 z2 z3 e):jX 21 [vS a1 a2 a3,vS b1 b2 b3,vS c1 c2 c3] (sL z1 z2 z3 e):=by
 have h0:(decide (m1=0)&&decide (m2=0)&&decide (m3=0))=false:=by
  rw [Bool.eq_false_iff]
  intro hh
  simp only [Bool.and_eq_true,decide_eq_true_eq] at hh
  exact h.h0 ⟨hh.1.1,hh.1.2,hh.2⟩
 have s:∀ {x y:Rat},Wr x→Wr y→Lf 35 (x-y):=fun hx hy=>Lf.subn (hx.lf.mono (by decide)) (hy.lf.mono (by decide)) (by decide)
 have hcross:jF 77 [vc (b1-a1) (b2-a2) (b3-a3),vc (c1-a1) (c2-a2) (c3-a3)] (vc m1 m2 m3):=by
  have:=zB (s kb.1 ka.1) (s kb.2.1 ka.2.1) (s kb.2.2 ka.2.2) (s kc.1 ka.1) (s kc.2.1 ka.2.1) (s kc.2.2 ka.2.2)
  rw [e1,e2,e3] at this
  exact this
 refine jY Tryz.func21 fun w00 hI=>?_
 refine jW hI 76 [gP 42,vS a1 a2 a3,gP 42,vS b1 b2 b3] (readVV ka kb) ?_
 refine jW hI 42 [vS c1 c2 c3] (gR kc) ?_
 refine jC 83 [.fv (.nsl 2 30 [z0,z0])] (iP) ?_
 refine jC 84 [vc b1 b2 b3,vc a1 a2 a3] (xK (kb.1.lf.mono (by decide)) (kb.2.1.lf.mono (by decide)) (kb.2.2.lf.mono (by decide)) (ka.1.lf.mono (by decide)) (ka.2.1.lf.mono (by decide)) (ka.2.2.lf.mono (by decide))) ?_
 refine jC 84 [vc c1 c2 c3,vc a1 a2 a3] (xK (kc.1.lf.mono (by decide)) (kc.2.1.lf.mono (by decide)) (kc.2.2.lf.mono (by decide)) (ka.1.lf.mono (by decide)) (ka.2.1.lf.mono (by decide)) (ka.2.2.lf.mono (by decide))) ?_
 refine jC 77 [vc (b1-a1) (b2-a2) (b3-a3),vc (c1-a1) (c2-a2) (c3-a3)] (hcross) ?_
 refine jC 44 [vc m1 m2 m3] (eQ h0) ?_
 refine jC 78 [vc m1 m2 m3,vc a1 a2 a3] (oO (h.l1.mono (by decide)) (h.l2.mono (by decide)) (h.l3.mono (by decide)) (ka.1.lf.mono (by decide)) (ka.2.1.lf.mono (by decide)) (ka.2.2.lf.mono (by decide))) ?_
 refine jW hI 82 [hf m1 m2 m3 (dt m1 m2 m3 a1 a2 a3)] (hWriteF h) ?_
 exact jR Tryz.func21
theorem apiMirrorF {m1 m2 m3:Rat} (h:Hv z1 z2 z3 d) (k:oP p1 p2 p3) (h0:dt (z1:Rat) z2 z3 z1 z2 z3≠0)
 (e1:p1+((2:Int):Rat)*(mS z1 z2 z3 d p1 p2 p3*z1)=m1) (e2:p2+((2:Int):Rat)*(mS z1 z2 z3 d p1 p2 p3*z2)=m2) (e3:p3+((2:Int):Rat)*(mS z1 z2 z3 d p1 p2 p3*z3)=m3) (hr:oP m1 m2 m3) :
 jX 22 [hS z1 z2 z3 d,vS p1 p2 p3] (gS m1 m2 m3):=by
 have lw:Lf 20 (mS z1 z2 z3 d p1 p2 p3):=lf_way (dX h.s1) (dX h.s2) (dX h.s3) (h.d.lf.mono (by decide)) (k.1.lf.mono (by decide)) (k.2.1.lf.mono (by decide)) (k.2.2.lf.mono (by decide)) (by decide)
 have l2:Lf 20 ((2:Int):Rat):=Lf.int (Lv.one _ (by rw [aL];decide))
 have lm:∀ {z:Int},Sz z→Lf 22 (((2:Int):Rat)*(mS z1 z2 z3 d p1 p2 p3*z)):=fun hz=>Lf.muln (n:=22) (l2.mono (by decide)) (Lf.muln (n:=21) lw (dX hz) (by decide)) (by decide)
 have hp:jF 87 [vc p1 p2 p3,vc (((2:Int):Rat)*(mS z1 z2 z3 d p1 p2 p3*z1)) (((2:Int):Rat)*(mS z1 z2 z3 d p1 p2 p3*z2)) (((2:Int):Rat)*(mS z1 z2 z3 d p1 p2 p3*z3))] (vc m1 m2 m3):=by
  rw [← e1,← e2,← e3]
  exact uW (k.1.lf.mono (by decide)) (k.2.1.lf.mono (by decide)) (k.2.2.lf.mono (by decide)) ((lm h.s1).mono (by decide)) ((lm h.s2).mono (by decide)) ((lm h.s3).mono (by decide))
 refine jY Tryz.func22 fun w00 hI=>?_
 refine jW hI 85 [gP 86,hS z1 z2 z3 d,gP 42,vS p1 p2 p3] (readHV h k) ?_
 refine jC 88 [hf z1 z2 z3 d,vc p1 p2 p3] (toPlaneF (dX h.s1) (dX h.s2) (dX h.s3) (h.d.lf.mono (by decide)) (k.1.lf.mono (by decide)) (k.2.1.lf.mono (by decide)) (k.2.2.lf.mono (by decide)) h0) ?_
 refine jC 90 [it 2] (mQ (by constructor <;> omega)) ?_
 refine jC 89 [vc (mS z1 z2 z3 d p1 p2 p3*z1) (mS z1 z2 z3 d p1 p2 p3*z2) (mS z1 z2 z3 d p1 p2 p3*z3),num ((2:Int):Rat)] (gQ (l2.mono (by decide)) (Lf.muln (n:=38) (lw.mono (by decide)) (dX h.s1) (by decide)) (Lf.muln (n:=38) (lw.mono (by decide)) (dX h.s2) (by decide)) (Lf.muln (n:=38) (lw.mono (by decide)) (dX h.s3) (by decide))) ?_
 refine jC 87 [vc p1 p2 p3,vc (((2:Int):Rat)*(mS z1 z2 z3 d p1 p2 p3*z1)) (((2:Int):Rat)*(mS z1 z2 z3 d p1 p2 p3*z2)) (((2:Int):Rat)*(mS z1 z2 z3 d p1 p2 p3*z3))] (hp) ?_
 refine jW hI 91 [vc m1 m2 m3] (vA hr (hr.1.lf.mono (by decide)) (hr.2.1.lf.mono (by decide)) (hr.2.2.lf.mono (by decide))) ?_
 exact jR Tryz.func22
theorem apiMeetF {v1 v2 v3 m1 m2 m3:Rat} (h:Hv z1 z2 z3 d) (k:oP p1 p2 p3) (kv:oP v1 v2 v3) (h0:dt z1 z2 z3 v1 v2 v3≠0)
 (e1:p1-(dt z1 z2 z3 p1 p2 p3-d)/dt z1 z2 z3 v1 v2 v3*v1=m1) (e2:p2-(dt z1 z2 z3 p1 p2 p3-d)/dt z1 z2 z3 v1 v2 v3*v2=m2) (e3:p3-(dt z1 z2 z3 p1 p2 p3-d)/dt z1 z2 z3 v1 v2 v3*v3=m3) (hr:oP m1 m2 m3) :
 jX 26 [hS z1 z2 z3 d,vS p1 p2 p3,vS v1 v2 v3] (gS m1 m2 m3):=by
 have lE:Lf 16 (dt z1 z2 z3 p1 p2 p3-d):=Lf.subn (jZ (n:=14) (dX h.s1) (dX h.s2) (dX h.s3) (k.1.lf.mono (by decide)) (k.2.1.lf.mono (by decide)) (k.2.2.lf.mono (by decide)) (by decide)) (h.d.lf.mono (by decide)) (by decide)
 have lV:Lf 16 (dt z1 z2 z3 v1 v2 v3):=jZ (dX h.s1) (dX h.s2) (dX h.s3) (kv.1.lf.mono (by decide)) (kv.2.1.lf.mono (by decide)) (kv.2.2.lf.mono (by decide)) (by decide)
 have lQ:Lf 17 ((dt z1 z2 z3 p1 p2 p3-d)/dt z1 z2 z3 v1 v2 v3):=by
  rw [Rat.div_def]
  exact Lf.muln lE (Lf.inv lV) (by decide)
 have lm:∀ {x:Rat},Wr x→Lf 18 ((dt z1 z2 z3 p1 p2 p3-d)/dt z1 z2 z3 v1 v2 v3*x):=fun hx=>Lf.muln lQ (hx.lf.mono (by decide)) (by decide)
 have hi:decide (dt z1 z2 z3 v1 v2 v3=0)=false:=by rw [decide_eq_false_iff_not];exact h0
 obtain ⟨Q,hQ⟩:∃ Q,Q=(dt z1 z2 z3 p1 p2 p3-d)/dt z1 z2 z3 v1 v2 v3:=⟨_,rfl⟩
 rw [← hQ] at e1 e2 e3 lQ lm
 have ho:jF 79 [num (dt z1 z2 z3 p1 p2 p3-d),num (dt z1 z2 z3 v1 v2 v3)] (num Q):=by
  rw [hQ]
  exact rH (lE.mono (by decide)) (lV.mono (by decide)) h0
 have hp:jF 84 [vc p1 p2 p3,vc (Q*v1) (Q*v2) (Q*v3)] (vc m1 m2 m3):=by
  rw [← e1,← e2,← e3]
  exact xK (k.1.lf.mono (by decide)) (k.2.1.lf.mono (by decide)) (k.2.2.lf.mono (by decide)) ((lm kv.1).mono (by decide)) ((lm kv.2.1).mono (by decide)) ((lm kv.2.2).mono (by decide))
 refine jY Tryz.func26 fun w00 hI=>?_
 refine jW hI 85 [gP 86,hS z1 z2 z3 d,gP 42,vS p1 p2 p3] (readHV h k) ?_
 refine jW hI 42 [vS v1 v2 v3] (gR kv) ?_
 refine jC 83 [.fv (.nsl 2 30 [z0,z0])] (iP) ?_
 refine jC 78 [vc z1 z2 z3,vc v1 v2 v3] (oO (dX h.s1) (dX h.s2) (dX h.s3) (kv.1.lf.mono (by decide)) (kv.2.1.lf.mono (by decide)) (kv.2.2.lf.mono (by decide))) ?_
 refine jC 43 [num (dt z1 z2 z3 v1 v2 v3)] (fU hi) ?_
 refine jC 97 [hf z1 z2 z3 d,vc p1 p2 p3] (excessF (dX h.s1) (dX h.s2) (dX h.s3) (h.d.lf.mono (by decide)) (k.1.lf.mono (by decide)) (k.2.1.lf.mono (by decide)) (k.2.2.lf.mono (by decide))) ?_
 refine jC 79 [num (dt z1 z2 z3 p1 p2 p3-d),num (dt z1 z2 z3 v1 v2 v3)] (ho) ?_
 refine jC 89 [vc v1 v2 v3,num Q] (gQ (lQ.mono (by decide)) (kv.1.lf.mono (by decide)) (kv.2.1.lf.mono (by decide)) (kv.2.2.lf.mono (by decide))) ?_
 refine jC 84 [vc p1 p2 p3,vc (Q*v1) (Q*v2) (Q*v3)] (hp) ?_
 refine jW hI 91 [vc m1 m2 m3] (vA hr (hr.1.lf.mono (by decide)) (hr.2.1.lf.mono (by decide)) (hr.2.2.lf.mono (by decide))) ?_
 exact jR Tryz.func26
end
section
variable {o1 o2 o3 x1 x2 x3 y1 y2 y3 z1 z2 z3 m1 m2 m3 p1 p2 p3:Rat}
structure Ax (x1 x2 x3 y1 y2 y3 z1 z2 z3:Rat):Prop where
 x0:(decide (x1=0)&&decide (x2=0)&&decide (x3=0))=false
 y0:(decide (y1=0)&&decide (y2=0)&&decide (y3=0))=false
 z0:(decide (z1=0)&&decide (z2=0)&&decide (z3=0))=false
 xy:dt x1 x2 x3 y1 y2 y3=0
 yz:dt y1 y2 y3 z1 z2 z3=0
 zx:dt z1 z2 z3 x1 x2 x3=0
 s:lK (dt x1 x2 x3 (y2*z3-y3*z2) (y3*z1-y1*z3) (y1*z2-y2*z1))=1
theorem checkF (l:Lm 25 x1 x2 x3 y1 y2 y3 z1 z2 z3) (h:Ax x1 x2 x3 y1 y2 y3 z1 z2 z3):jF 102 [iF o1 o2 o3 x1 x2 x3 y1 y2 y3 z1 z2 z3] (it 0):=by
 obtain ⟨a1,a2,a3,b1,b2,b3,c1,c2,c3⟩:=l
 have hs:jF 98 [num (dt x1 x2 x3 (y2*z3-y3*z2) (y3*z1-y1*z3) (y1*z2-y2*z1))] (it 1):=by
  rw [← h.s]
  exact signF
 refine jG Tryz.func102 fun w00=>?_
 refine jC 44 [vc x1 x2 x3] (eQ h.x0) ?_
 refine jC 44 [vc y1 y2 y3] (eQ h.y0) ?_
 refine jC 44 [vc z1 z2 z3] (eQ h.z0) ?_
 refine jC 103 [iF o1 o2 o3 x1 x2 x3 y1 y2 y3 z1 z2 z3] (wG (Lm.mono ⟨a1,a2,a3,b1,b2,b3,c1,c2,c3⟩ (by decide)) h.xy h.yz h.zx) ?_
 refine jC 77 [vc y1 y2 y3,vc z1 z2 z3] (zB (by repeat' (first|exact Lf.mono (by assumption) (by decide)|refine Lf.muln ?_ ?_ (by decide)|refine Lf.addn ?_ ?_ (by decide)|refine Lf.subn ?_ ?_ (by decide))) (by repeat' (first|exact Lf.mono (by assumption) (by decide)|refine Lf.muln ?_ ?_ (by decide)|refine Lf.addn ?_ ?_ (by decide)|refine Lf.subn ?_ ?_ (by decide))) (by repeat' (first|exact Lf.mono (by assumption) (by decide)|refine Lf.muln ?_ ?_ (by decide)|refine Lf.addn ?_ ?_ (by decide)|refine Lf.subn ?_ ?_ (by decide))) (by repeat' (first|exact Lf.mono (by assumption) (by decide)|refine Lf.muln ?_ ?_ (by decide)|refine Lf.addn ?_ ?_ (by decide)|refine Lf.subn ?_ ?_ (by decide))) (by repeat' (first|exact Lf.mono (by assumption) (by decide)|refine Lf.muln ?_ ?_ (by decide)|refine Lf.addn ?_ ?_ (by decide)|refine Lf.subn ?_ ?_ (by decide))) (by repeat' (first|exact Lf.mono (by assumption) (by decide)|refine Lf.muln ?_ ?_ (by decide)|refine Lf.addn ?_ ?_ (by decide)|refine Lf.subn ?_ ?_ (by decide)))) ?_
 refine jC 78 [vc x1 x2 x3,vc (y2*z3-y3*z2) (y3*z1-y1*z3) (y1*z2-y2*z1)] (oO (by repeat' (first|exact Lf.mono (by assumption) (by decide)|refine Lf.muln ?_ ?_ (by decide)|refine Lf.addn ?_ ?_ (by decide)|refine Lf.subn ?_ ?_ (by decide))) (by repeat' (first|exact Lf.mono (by assumption) (by decide)|refine Lf.muln ?_ ?_ (by decide)|refine Lf.addn ?_ ?_ (by decide)|refine Lf.subn ?_ ?_ (by decide))) (by repeat' (first|exact Lf.mono (by assumption) (by decide)|refine Lf.muln ?_ ?_ (by decide)|refine Lf.addn ?_ ?_ (by decide)|refine Lf.subn ?_ ?_ (by decide))) (by repeat' (first|exact Lf.mono (by assumption) (by decide)|refine Lf.muln ?_ ?_ (by decide)|refine Lf.addn ?_ ?_ (by decide)|refine Lf.subn ?_ ?_ (by decide))) (by repeat' (first|exact Lf.mono (by assumption) (by decide)|refine Lf.muln ?_ ?_ (by decide)|refine Lf.addn ?_ ?_ (by decide)|refine Lf.subn ?_ ?_ (by decide))) (by repeat' (first|exact Lf.mono (by assumption) (by decide)|refine Lf.muln ?_ ?_ (by decide)|refine Lf.addn ?_ ?_ (by decide)|refine Lf.subn ?_ ?_ (by decide)))) ?_
 refine jC 98 [num (dt x1 x2 x3 (y2*z3-y3*z2) (y3*z1-y1*z3) (y1*z2-y2*z1))] (hs) ?_
 exact jR Tryz.func102
abbrev gZ (o1 o2 o3 x1 x2 x3 y1 y2 y3 z1 z2 z3:Rat):AV Kn := .fv (.ag [bK (writeB o1),bK (writeB o2),bK (writeB o3),bK (writeB x1),bK (writeB x2),bK (writeB x3),bK (writeB y1),bK (writeB y2),bK (writeB y3),bK (writeB z1),bK (writeB z2),bK (writeB z3)])
abbrev gT (o1 o2 o3 x1 x2 x3 y1 y2 y3 z1 z2 z3:Rat):AV Kn := .tup [.ag [bK (writeB o1),bK (writeB o2),bK (writeB o3),bK (writeB x1),bK (writeB x2),bK (writeB x3),bK (writeB y1),bK (writeB y2),bK (writeB y3),bK (writeB z1),bK (writeB z2),bK (writeB z3)],.sc z0]
abbrev okFr (o1 o2 o3 x1 x2 x3 y1 y2 y3 z1 z2 z3:Rat):AV Kn := .tup [.ag [nb o1,nb o2,nb o3,nb x1,nb x2,nb x3,nb y1,nb y2,nb y3,nb z1,nb z2,nb z3],.sc z0]
structure Wf (o1 o2 o3 x1 x2 x3 y1 y2 y3 z1 z2 z3:Rat):Prop where
 o:oP o1 o2 o3
 x:oP x1 x2 x3
 y:oP y1 y2 y3
 z:oP z1 z2 z3
theorem tI {a b c:Rat} (h:oP a b c):Lv3 5 a b c:=⟨h.1.lf,h.2.1.lf,h.2.2.lf⟩
theorem Wf.lm (h:Wf o1 o2 o3 x1 x2 x3 y1 y2 y3 z1 z2 z3):Lm 5 x1 x2 x3 y1 y2 y3 z1 z2 z3:=⟨h.x.1.lf,h.x.2.1.lf,h.x.2.2.lf,h.y.1.lf,h.y.2.1.lf,h.y.2.2.lf,h.z.1.lf,h.z.2.1.lf,h.z.2.2.lf⟩
theorem mW {a b c:Rat} (h:oP a b c):jX 91 [vc a b c] (gS a b c):=vA h (h.1.lf.mono (by decide)) (h.2.1.lf.mono (by decide)) (h.2.2.lf.mono (by decide))
theorem zH (h:Wf o1 o2 o3 x1 x2 x3 y1 y2 y3 z1 z2 z3):jX 47 [iF o1 o2 o3 x1 x2 x3 y1 y2 y3 z1 z2 z3] (gT o1 o2 o3 x1 x2 x3 y1 y2 y3 z1 z2 z3):=by
 refine jY Tryz.func47 fun w00 hI=>?_
 refine jW hI 91 [vc o1 o2 o3] (mW h.o) ?_
 refine jW hI 91 [vc x1 x2 x3] (mW h.x) ?_
 refine jW hI 91 [vc y1 y2 y3] (mW h.y) ?_
 refine jW hI 91 [vc z1 z2 z3] (mW h.z) ?_
 refine jC 83 [.fv (.nsl 4 30 [z0,z0,z0,z0])] (first4F) ?_
 exact jR Tryz.func47
theorem lG (h:Wf o1 o2 o3 x1 x2 x3 y1 y2 y3 z1 z2 z3) (hxy:dt x1 x2 x3 y1 y2 y3=0) (hyz:dt y1 y2 y3 z1 z2 z3=0) (hzx:dt z1 z2 z3 x1 x2 x3=0):jX 35 [iF o1 o2 o3 x1 x2 x3 y1 y2 y3 z1 z2 z3] (gT o1 o2 o3 x1 x2 x3 y1 y2 y3 z1 z2 z3):=by
 refine jY Tryz.func35 fun w00 hI=>?_
 refine jC 103 [iF o1 o2 o3 x1 x2 x3 y1 y2 y3 z1 z2 z3] (wG (h.lm.mono (by decide)) hxy hyz hzx) ?_
 refine jW hI 47 [iF o1 o2 o3 x1 x2 x3 y1 y2 y3 z1 z2 z3] (zH h) ?_
 exact jR Tryz.func35
structure Fv (o1 o2 o3 x1 x2 x3 y1 y2 y3 z1 z2 z3:Rat):Prop where
 w:Wf o1 o2 o3 x1 x2 x3 y1 y2 y3 z1 z2 z3
 a:Ax x1 x2 x3 y1 y2 y3 z1 z2 z3
 r:jX 31 [gZ o1 o2 o3 x1 x2 x3 y1 y2 y3 z1 z2 z3] (okFr o1 o2 o3 x1 x2 x3 y1 y2 y3 z1 z2 z3)
variable {n1 n2 n3:Int} {d e:Rat} {k1 k2 k3:Int}
theorem readFV (h:Fv o1 o2 o3 x1 x2 x3 y1 y2 y3 z1 z2 z3) (k:oP p1 p2 p3):jX 92 [gP 31,gZ o1 o2 o3 x1 x2 x3 y1 y2 y3 z1 z2 z3,gP 42,vS p1 p2 p3] (.tup [.ag [nb o1,nb o2,nb o3,nb x1,nb x2,nb x3,nb y1,nb y2,nb y3,nb z1,nb z2,nb z3],.ag [nb p1,nb p2,nb p3],.sc z0]):=by
 refine jY Tryz.func92 fun w00 hI=>?_
 refine jW hI 31 [gZ o1 o2 o3 x1 x2 x3 y1 y2 y3 z1 z2 z3] (h.r) ?_
 refine jW hI 42 [vS p1 p2 p3] (gR k) ?_
 refine jC 83 [.fv (.nsl 2 30 [z0,z0])] (iP) ?_
 exact jR Tryz.func92
theorem readFH (h:Fv o1 o2 o3 x1 x2 x3 y1 y2 y3 z1 z2 z3) (k:Hv n1 n2 n3 d):jX 93 [gP 31,gZ o1 o2 o3 x1 x2 x3 y1 y2 y3 z1 z2 z3,gP 86,hS n1 n2 n3 d] (.tup [.ag [nb o1,nb o2,nb o3,nb x1,nb x2,nb x3,nb y1,nb y2,nb y3,nb z1,nb z2,nb z3],.ag [nb n1,nb n2,nb n3,nb d],.sc z0]):=by
 refine jY Tryz.func93 fun w00 hI=>?_
 refine jW hI 31 [gZ o1 o2 o3 x1 x2 x3 y1 y2 y3 z1 z2 z3] (h.r) ?_
 refine jW hI 86 [hS n1 n2 n3 d] (readHalfF (m_sz k.s1) (m_sz k.s2) (m_sz k.s3) k.d k.ck) ?_
 refine jC 83 [.fv (.nsl 2 30 [z0,z0])] (iP) ?_
 exact jR Tryz.func93
theorem apiPlaceF (h:Fv o1 o2 o3 x1 x2 x3 y1 y2 y3 z1 z2 z3) (k:oP p1 p2 p3) (e1:o1+ld p1 p2 p3 x1 y1 z1=m1) (e2:o2+ld p1 p2 p3 x2 y2 z2=m2) (e3:o3+ld p1 p2 p3 x3 y3 z3=m3) (hr:oP m1 m2 m3) :
 jX 23 [gZ o1 o2 o3 x1 x2 x3 y1 y2 y3 z1 z2 z3,vS p1 p2 p3] (gS m1 m2 m3):=by
 have hp:jF 32 [iF o1 o2 o3 x1 x2 x3 y1 y2 y3 z1 z2 z3,vc p1 p2 p3] (vc m1 m2 m3):=by
  rw [← e1,← e2,← e3]
  exact placeF (h.w.lm.mono (by decide)) ((tI k).mono (by decide)) ((tI h.w.o).mono (by decide))
 refine jY Tryz.func23 fun w00 hI=>?_
 refine jW hI 92 [gP 31,gZ o1 o2 o3 x1 x2 x3 y1 y2 y3 z1 z2 z3,gP 42,vS p1 p2 p3] (readFV h k) ?_
 refine jC 32 [iF o1 o2 o3 x1 x2 x3 y1 y2 y3 z1 z2 z3,vc p1 p2 p3] (hp) ?_
 refine jW hI 91 [vc m1 m2 m3] (mW hr) ?_
 exact jR Tryz.func23
theorem xM {p q:Rat} {k l:Nat} (hp:Lf k p) (hq:Lf k q) (hk:k+1≤l):Lf l (p/q):=by
 rw [Rat.div_def]
 exact Lf.mono (hp.mul hq.inv) hk
theorem aAc (h:Fv o1 o2 o3 x1 x2 x3 y1 y2 y3 z1 z2 z3) (k:Hv n1 n2 n3 d) (h0:Sq0 x1 x2 x3 y1 y2 y3 z1 z2 z3) {q1 q2 q3:Rat}
 (e1:ld (n1/dt x1 x2 x3 x1 x2 x3) (n2/dt y1 y2 y3 y1 y2 y3) (n3/dt z1 z2 z3 z1 z2 z3) x1 y1 z1=q1) (e2:ld (n1/dt x1 x2 x3 x1 x2 x3) (n2/dt y1 y2 y3 y1 y2 y3) (n3/dt z1 z2 z3 z1 z2 z3) x2 y2 z2=q2) (e3:ld (n1/dt x1 x2 x3 x1 x2 x3) (n2/dt y1 y2 y3 y1 y2 y3) (n3/dt z1 z2 z3 z1 z2 z3) x3 y3 z3=q3)
 (hm:Form q1 q2 q3 (d+dt q1 q2 q3 o1 o2 o3) k1 k2 k3 e):jX 25 [gZ o1 o2 o3 x1 x2 x3 y1 y2 y3 z1 z2 z3,hS n1 n2 n3 d] (sL k1 k2 k3 e):=by
 obtain ⟨a1,a2,a3,b1,b2,b3,c1,c2,c3⟩:=h.w.lm
 obtain ⟨g1,g2,g3⟩:=tI h.w.o
 have ld':=k.d.lf
 have t1:=dX k.s1 (k:=10)
 have t2:=dX k.s2 (k:=10)
 have t3:=dX k.s3 (k:=10)
 have s1:Lf 10 (dt x1 x2 x3 x1 x2 x3):=by repeat' (first|exact Lf.mono (by assumption) (by decide)|refine Lf.muln ?_ ?_ (by decide)|refine Lf.addn ?_ ?_ (by decide)|refine Lf.subn ?_ ?_ (by decide))
 have s2:Lf 10 (dt y1 y2 y3 y1 y2 y3):=by repeat' (first|exact Lf.mono (by assumption) (by decide)|refine Lf.muln ?_ ?_ (by decide)|refine Lf.addn ?_ ?_ (by decide)|refine Lf.subn ?_ ?_ (by decide))
 have s3:Lf 10 (dt z1 z2 z3 z1 z2 z3):=by repeat' (first|exact Lf.mono (by assumption) (by decide)|refine Lf.muln ?_ ?_ (by decide)|refine Lf.addn ?_ ?_ (by decide)|refine Lf.subn ?_ ?_ (by decide))
 have r1:=xM t1 s1 (aR 11)
 have r2:=xM t2 s2 (aR 11)
 have r3:=xM t3 s3 (aR 11)
 have j:jF 94 [gP 79,vc n1 n2 n3,vc (dt x1 x2 x3 x1 x2 x3) (dt y1 y2 y3 y1 y2 y3) (dt z1 z2 z3 z1 z2 z3)] (vc (n1/dt x1 x2 x3 x1 x2 x3) (n2/dt y1 y2 y3 y1 y2 y3) (n3/dt z1 z2 z3 z1 z2 z3)) :=
  joinF Tryz.call79 (rH (t1.mono (by decide)) (s1.mono (by decide)) h0.x) (rH (t2.mono (by decide)) (s2.mono (by decide)) h0.y) (rH (t3.mono (by decide)) (s3.mono (by decide)) h0.z)
 have hl:jF 34 [iF o1 o2 o3 x1 x2 x3 y1 y2 y3 z1 z2 z3,vc (n1/dt x1 x2 x3 x1 x2 x3) (n2/dt y1 y2 y3 y1 y2 y3) (n3/dt z1 z2 z3 z1 z2 z3)] (vc q1 q2 q3):=by
  rw [← e1,← e2,← e3]
  exact wE (h.w.lm.mono (by decide)) ⟨r1.mono (by decide),r2.mono (by decide),r3.mono (by decide)⟩
 have l1:=hm.l1
 have l2:=hm.l2
 have l3:=hm.l3
 refine jY Tryz.func25 fun w00 hI=>?_
 refine jW hI 93 [gP 31,gZ o1 o2 o3 x1 x2 x3 y1 y2 y3 z1 z2 z3,gP 86,hS n1 n2 n3 d] (readFH h k) ?_
 refine jC 95 [iF o1 o2 o3 x1 x2 x3 y1 y2 y3 z1 z2 z3] (squaresF (h.w.lm.mono (by decide))) ?_
 refine jC 94 [gP 79,vc n1 n2 n3,vc (dt x1 x2 x3 x1 x2 x3) (dt y1 y2 y3 y1 y2 y3) (dt z1 z2 z3 z1 z2 z3)] (j) ?_
 refine jC 34 [iF o1 o2 o3 x1 x2 x3 y1 y2 y3 z1 z2 z3,vc (n1/dt x1 x2 x3 x1 x2 x3) (n2/dt y1 y2 y3 y1 y2 y3) (n3/dt z1 z2 z3 z1 z2 z3)] (hl) ?_
 refine jC 78 [vc q1 q2 q3,vc o1 o2 o3] (oO (by repeat' (first|exact Lf.mono (by assumption) (by decide)|refine Lf.muln ?_ ?_ (by decide)|refine Lf.addn ?_ ?_ (by decide)|refine Lf.subn ?_ ?_ (by decide))) (by repeat' (first|exact Lf.mono (by assumption) (by decide)|refine Lf.muln ?_ ?_ (by decide)|refine Lf.addn ?_ ?_ (by decide)|refine Lf.subn ?_ ?_ (by decide))) (by repeat' (first|exact Lf.mono (by assumption) (by decide)|refine Lf.muln ?_ ?_ (by decide)|refine Lf.addn ?_ ?_ (by decide)|refine Lf.subn ?_ ?_ (by decide))) (by repeat' (first|exact Lf.mono (by assumption) (by decide)|refine Lf.muln ?_ ?_ (by decide)|refine Lf.addn ?_ ?_ (by decide)|refine Lf.subn ?_ ?_ (by decide))) (by repeat' (first|exact Lf.mono (by assumption) (by decide)|refine Lf.muln ?_ ?_ (by decide)|refine Lf.addn ?_ ?_ (by decide)|refine Lf.subn ?_ ?_ (by decide))) (by repeat' (first|exact Lf.mono (by assumption) (by decide)|refine Lf.muln ?_ ?_ (by decide)|refine Lf.addn ?_ ?_ (by decide)|refine Lf.subn ?_ ?_ (by decide)))) ?_
 refine jC 96 [num d,num (dt q1 q2 q3 o1 o2 o3)] (wD (by repeat' (first|exact Lf.mono (by assumption) (by decide)|refine Lf.muln ?_ ?_ (by decide)|refine Lf.addn ?_ ?_ (by decide)|refine Lf.subn ?_ ?_ (by decide))) (by repeat' (first|exact Lf.mono (by assumption) (by decide)|refine Lf.muln ?_ ?_ (by decide)|refine Lf.addn ?_ ?_ (by decide)|refine Lf.subn ?_ ?_ (by decide)))) ?_
 refine jW hI 82 [hf q1 q2 q3 (d+dt q1 q2 q3 o1 o2 o3)] (hWriteF hm) ?_
 exact jR Tryz.func25
end
section
variable {w u1 u2 u3 v1 v2 v3:Rat}
abbrev tc (w s D c v u:Rat):Rat:=((1:Int):Rat)/(w*w+s)*((w*w-s)*v+((2:Int):Rat)*w*c+((2:Int):Rat)*D*u)
theorem qL (hw:Lf 8 w) (h1:Lf 8 u1) (h2:Lf 8 u2) (h3:Lf 8 u3) (k1:Lf 8 v1) (k2:Lf 8 v2) (k3:Lf 8 v3) (h0:w*w+dt u1 u2 u3 u1 u2 u3≠0) :
 jF 46 [num w,vc u1 u2 u3,vc v1 v2 v3] (vc (tc w (dt u1 u2 u3 u1 u2 u3) (dt u1 u2 u3 v1 v2 v3) (u2*v3-u3*v2) v1 u1) (tc w (dt u1 u2 u3 u1 u2 u3) (dt u1 u2 u3 v1 v2 v3) (u3*v1-u1*v3) v2 u2) (tc w (dt u1 u2 u3 u1 u2 u3) (dt u1 u2 u3 v1 v2 v3) (u1*v2-u2*v1) v3 u3)):=by
 have i2:Lf 8 ((2:Int):Rat):=Lf.int (Lv.one _ (by rw [aL];decide))
 have i1:Lf 8 ((1:Int):Rat):=Lf.int (Lv.one _ (by rw [aL];decide))
 have ls:Lf 14 (dt u1 u2 u3 u1 u2 u3):=by repeat' (first|exact Lf.mono (by assumption) (by decide)|refine Lf.muln ?_ ?_ (by decide)|refine Lf.addn ?_ ?_ (by decide)|refine Lf.subn ?_ ?_ (by decide))
 have lD:Lf 14 (dt u1 u2 u3 v1 v2 v3):=by repeat' (first|exact Lf.mono (by assumption) (by decide)|refine Lf.muln ?_ ?_ (by decide)|refine Lf.addn ?_ ?_ (by decide)|refine Lf.subn ?_ ?_ (by decide))
 have lL:Lf 16 (w*w+dt u1 u2 u3 u1 u2 u3):=by repeat' (first|exact Lf.mono (by assumption) (by decide)|refine Lf.muln ?_ ?_ (by decide)|refine Lf.addn ?_ ?_ (by decide)|refine Lf.subn ?_ ?_ (by decide))
 obtain ⟨S,hS⟩:∃ S,S=dt u1 u2 u3 u1 u2 u3:=⟨_,rfl⟩
 obtain ⟨D,hD⟩:∃ D,D=dt u1 u2 u3 v1 v2 v3:=⟨_,rfl⟩
 have sq:jF 80 [vc u1 u2 u3] (num S):=by rw [hS];exact qI (by repeat' (first|exact Lf.mono (by assumption) (by decide)|refine Lf.muln ?_ ?_ (by decide)|refine Lf.addn ?_ ?_ (by decide)|refine Lf.subn ?_ ?_ (by decide))) (by repeat' (first|exact Lf.mono (by assumption) (by decide)|refine Lf.muln ?_ ?_ (by decide)|refine Lf.addn ?_ ?_ (by decide)|refine Lf.subn ?_ ?_ (by decide))) (by repeat' (first|exact Lf.mono (by assumption) (by decide)|refine Lf.muln ?_ ?_ (by decide)|refine Lf.addn ?_ ?_ (by decide)|refine Lf.subn ?_ ?_ (by decide)))
 have dd:jF 78 [vc u1 u2 u3,vc v1 v2 v3] (num D):=by rw [hD];exact oO (by repeat' (first|exact Lf.mono (by assumption) (by decide)|refine Lf.muln ?_ ?_ (by decide)|refine Lf.addn ?_ ?_ (by decide)|refine Lf.subn ?_ ?_ (by decide))) (by repeat' (first|exact Lf.mono (by assumption) (by decide)|refine Lf.muln ?_ ?_ (by decide)|refine Lf.addn ?_ ?_ (by decide)|refine Lf.subn ?_ ?_ (by decide))) (by repeat' (first|exact Lf.mono (by assumption) (by decide)|refine Lf.muln ?_ ?_ (by decide)|refine Lf.addn ?_ ?_ (by decide)|refine Lf.subn ?_ ?_ (by decide))) (by repeat' (first|exact Lf.mono (by assumption) (by decide)|refine Lf.muln ?_ ?_ (by decide)|refine Lf.addn ?_ ?_ (by decide)|refine Lf.subn ?_ ?_ (by decide))) (by repeat' (first|exact Lf.mono (by assumption) (by decide)|refine Lf.muln ?_ ?_ (by decide)|refine Lf.addn ?_ ?_ (by decide)|refine Lf.subn ?_ ?_ (by decide))) (by repeat' (first|exact Lf.mono (by assumption) (by decide)|refine Lf.muln ?_ ?_ (by decide)|refine Lf.addn ?_ ?_ (by decide)|refine Lf.subn ?_ ?_ (by decide)))
 rw [← hS] at ls lL h0
 rw [← hD] at lD
 rw [← hS,← hD]
 clear hS hD
 have lq:=xM (i1.mono (by decide:8≤16)) lL (aR 17)
 refine jG Tryz.func46 fun w00=>?_
 refine jC 90 [it 2] (mQ (by constructor <;> omega)) ?_
 refine jC 111 [num w,num w] (fO (by repeat' (first|exact Lf.mono (by assumption) (by decide)|refine Lf.muln ?_ ?_ (by decide)|refine Lf.addn ?_ ?_ (by decide)|refine Lf.subn ?_ ?_ (by decide))) (by repeat' (first|exact Lf.mono (by assumption) (by decide)|refine Lf.muln ?_ ?_ (by decide)|refine Lf.addn ?_ ?_ (by decide)|refine Lf.subn ?_ ?_ (by decide)))) ?_
 refine jC 80 [vc u1 u2 u3] (sq) ?_
 refine jC 112 [num (w*w),num S] (pL (by repeat' (first|exact Lf.mono (by assumption) (by decide)|refine Lf.muln ?_ ?_ (by decide)|refine Lf.addn ?_ ?_ (by decide)|refine Lf.subn ?_ ?_ (by decide))) (by repeat' (first|exact Lf.mono (by assumption) (by decide)|refine Lf.muln ?_ ?_ (by decide)|refine Lf.addn ?_ ?_ (by decide)|refine Lf.subn ?_ ?_ (by decide)))) ?_
 refine jC 89 [vc v1 v2 v3,num (w*w-S)] (gQ (by repeat' (first|exact Lf.mono (by assumption) (by decide)|refine Lf.muln ?_ ?_ (by decide)|refine Lf.addn ?_ ?_ (by decide)|refine Lf.subn ?_ ?_ (by decide))) (by repeat' (first|exact Lf.mono (by assumption) (by decide)|refine Lf.muln ?_ ?_ (by decide)|refine Lf.addn ?_ ?_ (by decide)|refine Lf.subn ?_ ?_ (by decide))) (by repeat' (first|exact Lf.mono (by assumption) (by decide)|refine Lf.muln ?_ ?_ (by decide)|refine Lf.addn ?_ ?_ (by decide)|refine Lf.subn ?_ ?_ (by decide))) (by repeat' (first|exact Lf.mono (by assumption) (by decide)|refine Lf.muln ?_ ?_ (by decide)|refine Lf.addn ?_ ?_ (by decide)|refine Lf.subn ?_ ?_ (by decide)))) ?_
 refine jC 77 [vc u1 u2 u3,vc v1 v2 v3] (zB (by repeat' (first|exact Lf.mono (by assumption) (by decide)|refine Lf.muln ?_ ?_ (by decide)|refine Lf.addn ?_ ?_ (by decide)|refine Lf.subn ?_ ?_ (by decide))) (by repeat' (first|exact Lf.mono (by assumption) (by decide)|refine Lf.muln ?_ ?_ (by decide)|refine Lf.addn ?_ ?_ (by decide)|refine Lf.subn ?_ ?_ (by decide))) (by repeat' (first|exact Lf.mono (by assumption) (by decide)|refine Lf.muln ?_ ?_ (by decide)|refine Lf.addn ?_ ?_ (by decide)|refine Lf.subn ?_ ?_ (by decide))) (by repeat' (first|exact Lf.mono (by assumption) (by decide)|refine Lf.muln ?_ ?_ (by decide)|refine Lf.addn ?_ ?_ (by decide)|refine Lf.subn ?_ ?_ (by decide))) (by repeat' (first|exact Lf.mono (by assumption) (by decide)|refine Lf.muln ?_ ?_ (by decide)|refine Lf.addn ?_ ?_ (by decide)|refine Lf.subn ?_ ?_ (by decide))) (by repeat' (first|exact Lf.mono (by assumption) (by decide)|refine Lf.muln ?_ ?_ (by decide)|refine Lf.addn ?_ ?_ (by decide)|refine Lf.subn ?_ ?_ (by decide)))) ?_
 refine jC 111 [num ((2:Int):Rat),num w] (fO (by repeat' (first|exact Lf.mono (by assumption) (by decide)|refine Lf.muln ?_ ?_ (by decide)|refine Lf.addn ?_ ?_ (by decide)|refine Lf.subn ?_ ?_ (by decide))) (by repeat' (first|exact Lf.mono (by assumption) (by decide)|refine Lf.muln ?_ ?_ (by decide)|refine Lf.addn ?_ ?_ (by decide)|refine Lf.subn ?_ ?_ (by decide)))) ?_
 refine jC 89 [vc (u2*v3-u3*v2) (u3*v1-u1*v3) (u1*v2-u2*v1),num (((2:Int):Rat)*w)] (gQ (by repeat' (first|exact Lf.mono (by assumption) (by decide)|refine Lf.muln ?_ ?_ (by decide)|refine Lf.addn ?_ ?_ (by decide)|refine Lf.subn ?_ ?_ (by decide))) (by repeat' (first|exact Lf.mono (by assumption) (by decide)|refine Lf.muln ?_ ?_ (by decide)|refine Lf.addn ?_ ?_ (by decide)|refine Lf.subn ?_ ?_ (by decide))) (by repeat' (first|exact Lf.mono (by assumption) (by decide)|refine Lf.muln ?_ ?_ (by decide)|refine Lf.addn ?_ ?_ (by decide)|refine Lf.subn ?_ ?_ (by decide))) (by repeat' (first|exact Lf.mono (by assumption) (by decide)|refine Lf.muln ?_ ?_ (by decide)|refine Lf.addn ?_ ?_ (by decide)|refine Lf.subn ?_ ?_ (by decide)))) ?_
 refine jC 87 [vc ((w*w-S)*v1) ((w*w-S)*v2) ((w*w-S)*v3),vc (((2:Int):Rat)*w*(u2*v3-u3*v2)) (((2:Int):Rat)*w*(u3*v1-u1*v3)) (((2:Int):Rat)*w*(u1*v2-u2*v1))] (uW (by repeat' (first|exact Lf.mono (by assumption) (by decide)|refine Lf.muln ?_ ?_ (by decide)|refine Lf.addn ?_ ?_ (by decide)|refine Lf.subn ?_ ?_ (by decide))) (by repeat' (first|exact Lf.mono (by assumption) (by decide)|refine Lf.muln ?_ ?_ (by decide)|refine Lf.addn ?_ ?_ (by decide)|refine Lf.subn ?_ ?_ (by decide))) (by repeat' (first|exact Lf.mono (by assumption) (by decide)|refine Lf.muln ?_ ?_ (by decide)|refine Lf.addn ?_ ?_ (by decide)|refine Lf.subn ?_ ?_ (by decide))) (by repeat' (first|exact Lf.mono (by assumption) (by decide)|refine Lf.muln ?_ ?_ (by decide)|refine Lf.addn ?_ ?_ (by decide)|refine Lf.subn ?_ ?_ (by decide))) (by repeat' (first|exact Lf.mono (by assumption) (by decide)|refine Lf.muln ?_ ?_ (by decide)|refine Lf.addn ?_ ?_ (by decide)|refine Lf.subn ?_ ?_ (by decide))) (by repeat' (first|exact Lf.mono (by assumption) (by decide)|refine Lf.muln ?_ ?_ (by decide)|refine Lf.addn ?_ ?_ (by decide)|refine Lf.subn ?_ ?_ (by decide)))) ?_
 refine jC 78 [vc u1 u2 u3,vc v1 v2 v3] (dd) ?_
 refine jC 111 [num ((2:Int):Rat),num D] (fO (by repeat' (first|exact Lf.mono (by assumption) (by decide)|refine Lf.muln ?_ ?_ (by decide)|refine Lf.addn ?_ ?_ (by decide)|refine Lf.subn ?_ ?_ (by decide))) (by repeat' (first|exact Lf.mono (by assumption) (by decide)|refine Lf.muln ?_ ?_ (by decide)|refine Lf.addn ?_ ?_ (by decide)|refine Lf.subn ?_ ?_ (by decide)))) ?_
 refine jC 89 [vc u1 u2 u3,num (((2:Int):Rat)*D)] (gQ (by repeat' (first|exact Lf.mono (by assumption) (by decide)|refine Lf.muln ?_ ?_ (by decide)|refine Lf.addn ?_ ?_ (by decide)|refine Lf.subn ?_ ?_ (by decide))) (by repeat' (first|exact Lf.mono (by assumption) (by decide)|refine Lf.muln ?_ ?_ (by decide)|refine Lf.addn ?_ ?_ (by decide)|refine Lf.subn ?_ ?_ (by decide))) (by repeat' (first|exact Lf.mono (by assumption) (by decide)|refine Lf.muln ?_ ?_ (by decide)|refine Lf.addn ?_ ?_ (by decide)|refine Lf.subn ?_ ?_ (by decide))) (by repeat' (first|exact Lf.mono (by assumption) (by decide)|refine Lf.muln ?_ ?_ (by decide)|refine Lf.addn ?_ ?_ (by decide)|refine Lf.subn ?_ ?_ (by decide)))) ?_
 refine jC 87 [vc ((w*w-S)*v1+((2:Int):Rat)*w*(u2*v3-u3*v2)) ((w*w-S)*v2+((2:Int):Rat)*w*(u3*v1-u1*v3)) ((w*w-S)*v3+((2:Int):Rat)*w*(u1*v2-u2*v1)),vc (((2:Int):Rat)*D*u1) (((2:Int):Rat)*D*u2) (((2:Int):Rat)*D*u3)] (uW (by repeat' (first|exact Lf.mono (by assumption) (by decide)|refine Lf.muln ?_ ?_ (by decide)|refine Lf.addn ?_ ?_ (by decide)|refine Lf.subn ?_ ?_ (by decide))) (by repeat' (first|exact Lf.mono (by assumption) (by decide)|refine Lf.muln ?_ ?_ (by decide)|refine Lf.addn ?_ ?_ (by decide)|refine Lf.subn ?_ ?_ (by decide))) (by repeat' (first|exact Lf.mono (by assumption) (by decide)|refine Lf.muln ?_ ?_ (by decide)|refine Lf.addn ?_ ?_ (by decide)|refine Lf.subn ?_ ?_ (by decide))) (by repeat' (first|exact Lf.mono (by assumption) (by decide)|refine Lf.muln ?_ ?_ (by decide)|refine Lf.addn ?_ ?_ (by decide)|refine Lf.subn ?_ ?_ (by decide))) (by repeat' (first|exact Lf.mono (by assumption) (by decide)|refine Lf.muln ?_ ?_ (by decide)|refine Lf.addn ?_ ?_ (by decide)|refine Lf.subn ?_ ?_ (by decide))) (by repeat' (first|exact Lf.mono (by assumption) (by decide)|refine Lf.muln ?_ ?_ (by decide)|refine Lf.addn ?_ ?_ (by decide)|refine Lf.subn ?_ ?_ (by decide)))) ?_
 refine jC 90 [it 1] (mQ (by constructor <;> omega)) ?_
 refine jC 96 [num (w*w),num S] (wD (by repeat' (first|exact Lf.mono (by assumption) (by decide)|refine Lf.muln ?_ ?_ (by decide)|refine Lf.addn ?_ ?_ (by decide)|refine Lf.subn ?_ ?_ (by decide))) (by repeat' (first|exact Lf.mono (by assumption) (by decide)|refine Lf.muln ?_ ?_ (by decide)|refine Lf.addn ?_ ?_ (by decide)|refine Lf.subn ?_ ?_ (by decide)))) ?_
 refine jC 79 [num ((1:Int):Rat),num (w*w+S)] (rH (by repeat' (first|exact Lf.mono (by assumption) (by decide)|refine Lf.muln ?_ ?_ (by decide)|refine Lf.addn ?_ ?_ (by decide)|refine Lf.subn ?_ ?_ (by decide))) (by repeat' (first|exact Lf.mono (by assumption) (by decide)|refine Lf.muln ?_ ?_ (by decide)|refine Lf.addn ?_ ?_ (by decide)|refine Lf.subn ?_ ?_ (by decide))) h0) ?_
 refine jC 89 [vc ((w*w-S)*v1+((2:Int):Rat)*w*(u2*v3-u3*v2)+((2:Int):Rat)*D*u1) ((w*w-S)*v2+((2:Int):Rat)*w*(u3*v1-u1*v3)+((2:Int):Rat)*D*u2) ((w*w-S)*v3+((2:Int):Rat)*w*(u1*v2-u2*v1)+((2:Int):Rat)*D*u3),num (((1:Int):Rat)/(w*w+S))] (gQ (by repeat' (first|exact Lf.mono (by assumption) (by decide)|refine Lf.muln ?_ ?_ (by decide)|refine Lf.addn ?_ ?_ (by decide)|refine Lf.subn ?_ ?_ (by decide))) (by repeat' (first|exact Lf.mono (by assumption) (by decide)|refine Lf.muln ?_ ?_ (by decide)|refine Lf.addn ?_ ?_ (by decide)|refine Lf.subn ?_ ?_ (by decide))) (by repeat' (first|exact Lf.mono (by assumption) (by decide)|refine Lf.muln ?_ ?_ (by decide)|refine Lf.addn ?_ ?_ (by decide)|refine Lf.subn ?_ ?_ (by decide))) (by repeat' (first|exact Lf.mono (by assumption) (by decide)|refine Lf.muln ?_ ?_ (by decide)|refine Lf.addn ?_ ?_ (by decide)|refine Lf.subn ?_ ?_ (by decide)))) ?_
 exact jR Tryz.func46
end
variable {Kc:Value→Bool}
def Seg.ren (ks:List Nat):Seg Kc→Seg Kc
 | .ptr k off => .ptr (ks.getD k 0) off
 | .slc k off n c => .slc (ks.getD k 0) off n c
 | s=>s
def FV.ren (ks:List Nat):FV Kc→FV Kc
 | .sc s => .sc (s.ren ks)
 | .ag l => .ag (l.map (Seg.ren ks))
 | .nsl n T l => .nsl n T (l.map (Seg.ren ks))
 | .clo F a b => .clo F (a.map fun c=>(c.1,c.2.map (Seg.ren ks))) (b.map fun c=>(c.1,c.2.map (Seg.ren ks)))
 | .un => .un
def AV.ren (ks:List Nat):AV Kc→AV Kc
 | .fv f => .fv (f.ren ks)
 | .tup l => .tup (l.map (FV.ren ks))
def Seg.inR (n:Nat):Seg Kc→Bool
 | .ptr k _=>decide (k<n)
 | .slc k _ _ _=>decide (k<n)
 | _=>true
def FV.inR (n:Nat):FV Kc→Bool
 | .sc s=>s.inR n
 | .ag l | .nsl _ _ l=>l.all (Seg.inR n)
 | .clo _ a b=>(a.all fun c=>c.2.all (Seg.inR n))&&(b.all fun c=>c.2.all (Seg.inR n))
 | .un=>true
def AV.inR (n:Nat):AV Kc→Bool
 | .fv f=>f.inR n
 | .tup l=>l.all (FV.inR n)
abbrev sub (β ks:List Nat):List Nat:=ks.map fun k=>β.getD k 0
theorem sub_at {β ks:List Nat} {k g:Nat} (hk:k<ks.length) (h:β[ks.getD k 0]?=some g):(sub β ks)[k]?=some g:=by
 rw [List.getElem?_map,List.getElem?_eq_getElem hk]
 rw [List.getD_eq_getElem?_getD,List.getElem?_eq_getElem hk] at h
 simp only [Option.getD_some] at h
 simp [h]
theorem Seg.ren_holds {β ks:List Nat} {s:Seg Kc} {cs:List Value} {w:World} (hr:s.inR ks.length=true) (h:(s.ren ks).holds β cs w):s.holds (sub β ks) cs w:=by
 cases s with
 | lit v=>exact h
 | sp s=>exact h
 | ptr k off=>obtain ⟨g,h1,e⟩:=h;exact ⟨g,sub_at (by simpa [Seg.inR] using hr) h1,e⟩
 | slc k off n c=>obtain ⟨g,h1,e⟩:=h;exact ⟨g,sub_at (by simpa [Seg.inR] using hr) h1,e⟩
theorem holdsL.ren {β ks:List Nat} {w:World}:∀ {l:List (Seg Kc)} {cs:List Value},l.all (Seg.inR ks.length)=true→holdsL β (l.map (Seg.ren ks)) cs w→holdsL (sub β ks) l cs w
 | [],_,_,h=>h
 | s::l,_,hn,⟨a,b,e,h1,h2⟩=>by
   rw [List.all_cons,Bool.and_eq_true] at hn
   exact ⟨a,b,e,Seg.ren_holds hn.1 h1,holdsL.ren hn.2 h2⟩
theorem holdsC.ren {β ks:List Nat} {w:World}:∀ {l:List (Bool×List (Seg Kc))} {vs:List Value},(l.all fun c=>c.2.all (Seg.inR ks.length))=true→holdsC β (l.map fun c=>(c.1,c.2.map (Seg.ren ks))) vs w→holdsC (sub β ks) l vs w
 | [],_,_,h=>h
 | (b,m)::l,_,hn,⟨v,r,e,h1,h2⟩=>by
   rw [List.all_cons,Bool.and_eq_true] at hn
   refine ⟨v,r,e,?_,holdsC.ren hn.2 h2⟩
   cases b with
   | true=>obtain ⟨cs,e,h1⟩:=h1;exact ⟨cs,e,h1.ren hn.1⟩
   | false=>exact holdsL.ren hn.1 h1
theorem FV.ren_holds {β ks:List Nat} {f:FV Kc} {v:Value} {w:World} (hr:f.inR ks.length=true) (h:(f.ren ks).holds β v w):f.holds (sub β ks) v w:=by
 cases f with
 | sc s=>exact Seg.ren_holds hr h
 | ag l=>obtain ⟨cs,e,hl⟩:=h;exact ⟨cs,e,hl.ren hr⟩
 | nsl n T l=>obtain ⟨g,cs,e,hg,hl⟩:=h;exact ⟨g,cs,e,hg,hl.ren hr⟩
 | clo F a b =>
   rw [FV.inR,Bool.and_eq_true] at hr
   obtain ⟨xs,ys,e,h1,h2⟩:=h
   exact ⟨xs,ys,e,h1.ren hr.1,h2.ren hr.2⟩
 | un=>trivial
theorem holdsF.ren {β ks:List Nat} {w:World}:∀ {l:List (FV Kc)} {vs:List Value},l.all (FV.inR ks.length)=true→holdsF β (l.map (FV.ren ks)) vs w→holdsF (sub β ks) l vs w
 | [],_,_,h=>h
 | f::l,_,hn,⟨v,r,e,h1,h2⟩=>by
   rw [List.all_cons,Bool.and_eq_true] at hn
   exact ⟨v,r,e,FV.ren_holds hn.1 h1,holdsF.ren hn.2 h2⟩
theorem AV.ren_holds {β ks:List Nat} {x:AV Kc} {v:Value} {w:World} (hr:x.inR ks.length=true) (h:(x.ren ks).holds β v w):x.holds (sub β ks) v w:=by
 cases x with
 | fv f=>exact FV.ren_holds hr h
 | tup l=>obtain ⟨vs,e,h⟩:=h;exact ⟨vs,e,h.ren hr⟩
theorem holdsA.ren {β ks:List Nat} {w:World}:∀ {l:List (AV Kc)} {vs:List Value},l.all (AV.inR ks.length)=true→holdsA β (l.map (AV.ren ks)) vs w→holdsA (sub β ks) l vs w
 | [],_,_,h=>h
 | x::l,_,hn,⟨v,r,e,h1,h2⟩=>by
   rw [List.all_cons,Bool.and_eq_true] at hn
   exact ⟨v,r,e,AV.ren_holds hn.1 h1,holdsA.ren hn.2 h2⟩
def FitsM (P:Program) (f:FuncId) (bl:List (TypeId×List (Seg Kc))) (args:List (AV Kc)) (x:AV Kc):Prop :=
 ∀ β w vs,β.length=bl.length→β.Nodup→Mem β (bl.map some) w→holdsA β args vs w→Calls P f vs.toArray w fun e w' => ∃ v,e = .returned v∧Below w.heap.size w w'∧x.holds [] v w'
section
variable {P:Program} {f:FuncId} {w00:World} {Out:Value→World→Prop}
theorem fitsM_of {fn:Func} {bl:List (TypeId×List (Seg Kc))} {args:List (AV Kc)} {x:AV Kc} (hfn:P.funcs[f]?=some fn) (hb:fn.body.isSome=true) (hn:(args.length≤fn.ntmps:Bool)=true)
 (h:∀ w00,Ok P f w00 (fun v w=>x.holds [] v w) (.items [.code (fn.body.getD .skip)] { slots:=args++List.replicate (fn.ntmps-args.length) .un,blocks:=bl,ro:=bl.length })):FitsM P f bl args x:=by
 intro β w vs hl hnd hM hv
 have hb2:fn.body=some (fn.body.getD .skip):=by
  cases hb2:fn.body with
  | none=>rw [hb2] at hb;cases hb
  | some c=>rfl
 refine (eU (w00:=w) (Out:=fun v w=>x.holds [] v w) hfn hb2 args bl β vs (fn.ntmps-args.length) (by simp at hn;omega) hv hl hnd hM (fun g hg=>?_) (h w).good).mono ?_
 ·obtain ⟨k,hk⟩:=List.getElem?_of_mem hg
  have hk' : k<bl.length:=by rw [← hl];exact (List.getElem?_eq_some_iff.1 hk).1
  obtain ⟨g',cs,hg',hh,_⟩:=hM k bl[k].1 bl[k].2 (by simp [hk'])
  rw [hk] at hg'
  injection hg' with hg'
  subst hg'
  exact lt_of_block hh
 ·rintro e w' ⟨v,rfl,hb,ho⟩
  exact ⟨v,rfl,hb,ho⟩
theorem mem_sub {β ks:List Nat} {w:World} {mem:List (Option (TypeId×List (Seg Kc)))} {bl:List (TypeId×List (Seg Kc))} (hM:Mem β mem w) (hb:ks.map (fun k=>mem[k]?)=bl.map (fun b=>some (some b))) (hp:(bl.all fun b=>b.2.all Seg.noPtr)=true):Mem (sub β ks) (bl.map some) w:=by
 intro k T l hk
 rw [List.getElem?_map] at hk
 cases hbk:bl[k]? with
 | none=>rw [hbk] at hk;cases hk
 | some b =>
   rw [hbk] at hk
   simp only [Option.map_some,Option.some.injEq] at hk
   subst hk
   have h1:(ks.map (fun k=>mem[k]?))[k]?=some (some (some (T,l))):=by rw [hb,List.getElem?_map,hbk];rfl
   rw [List.getElem?_map] at h1
   cases hkk:ks[k]? with
   | none=>rw [hkk] at h1;cases h1
   | some j =>
     rw [hkk] at h1
     simp only [Option.map_some,Option.some.injEq] at h1
     obtain ⟨g,cs,h2,h3,h4⟩:=hM j T l h1
     refine ⟨g,cs,?_,h3,holdsL.noPtr ?_ h4⟩
     ·rw [List.getElem?_map,hkk]
      simp [h2]
     ·exact List.all_eq_true.1 hp (T,l) (List.mem_of_getElem? hbk)
theorem zI {γ:List Nat} {w:World} {bl:List (TypeId×List (Seg Kc))} (hl:γ.length=bl.length) (hM:Mem γ (bl.map some) w) (hnd:(bl.map (·.1)).Nodup):γ.Nodup:=by
 rw [List.Nodup,List.pairwise_iff_getElem] at hnd ⊢
 intro i j hi hj hij he
 have hi' : i<bl.length:=by omega
 have hj' : j<bl.length:=by omega
 obtain ⟨g,cs,h1,h2,_⟩:=hM i bl[i].1 bl[i].2 (by simp [hi'])
 obtain ⟨g',cs',h3,h4,_⟩:=hM j bl[j].1 bl[j].2 (by simp [hj'])
 rw [List.getElem?_eq_getElem hi] at h1
 rw [List.getElem?_eq_getElem hj] at h3
 injection h1 with h1
 injection h3 with h3
 rw [← h1,he,h3,h4] at h2
 injection h2 with h2
 injection h2 with _ h5 _
 refine hnd i j (by simpa using hi') (by simpa using hj') hij ?_
 simp [h5]
theorem Ok.callM {c:Cfg Kc} (fn:FuncId) (ks:List Nat) (bl:List (TypeId×List (Seg Kc))) (args:List (AV Kc)) {x:AV Kc} (h:FitsM P fn bl args x) (hf:c.callee P=some fn) (ha:c.args P=args.map (AV.ren ks)) (hx:c.okT x=true) (hnp:x.noPtr=true)
 (hb:ks.map (fun k=>c.mem[k]?)=bl.map (fun b=>some (some b))) (hr:args.all (AV.inR ks.length)=true) (hp:(bl.all fun b=>b.2.all Seg.noPtr)=true) (hnd:(bl.map (·.1)).Nodup) (hfn:∀ (args:Array Value) (w:World),(callFunc fn args).run P w = .ok (.enter fn args) w)
 (hg:Ok P f w00 Out (c.give x)):Ok P f w00 Out c :=
 ⟨qD fn x hf hx hfn (fun β w vs _ hM hv=>by
  rw [ha] at hv
  have hl:(sub β ks).length=bl.length:=by have:=congrArg List.length hb;simpa using this
  have hM':=mem_sub hM hb hp
  refine (h (sub β ks) w vs hl (zI hl hM' hnd) hM' (hv.ren hr)).mono ?_
  rintro e w' ⟨v,e1,e2,e3⟩
  exact ⟨v,e1,e2,AV.noPtr_holds hnp e3⟩) hg.good⟩
end
theorem kgoM {f:FuncId} {fn:Func} {bl:List (TypeId×List (Seg Kn))} {args:List (AV Kn)} {x:AV Kn} (hfn:Tryz.prog.funcs[f]?=some fn) (hc:(fn.body.isSome,decide (args.length≤fn.ntmps))=(true,true)) (_h:True)
 (h:∀ w00,Ok Tryz.prog f w00 (fun v w=>x.holds [] v w) (cG Tryz.prog 1000 (.items [.code (fn.body.getD .skip)] { slots:=args++List.replicate (fn.ntmps-args.length) .un,blocks:=bl,ro:=bl.length }))):FitsM Tryz.prog f bl args x:=by
 simp only [Prod.mk.injEq] at hc
 exact fitsM_of hfn hc.1 hc.2 fun w00=>Ok.go (by kernel_rfl) mP 1000 (h w00)
theorem zJ {f:FuncId} {w00:World} {Out:Value→World→Prop} {c:Cfg Kn} (fn:FuncId) (ks:List Nat) (bl:List (TypeId×List (Seg Kn))) (args:List (AV Kn)) {x:AV Kn} (h:FitsM Tryz.prog fn bl args x)
 (hc:(c.callee Tryz.prog,c.args Tryz.prog,c.okT x,x.noPtr,ks.map (fun k=>c.mem[k]?),args.all (AV.inR ks.length),(bl.all fun b=>b.2.all Seg.noPtr))=(some fn,args.map (AV.ren ks),true,true,bl.map (fun b=>some (some b)),true,true)) (hnd:(bl.map (·.1)).Nodup) (hfn:∀ (args:Array Value) (w:World),(callFunc fn args).run Tryz.prog w = .ok (.enter fn args) w)
 (hg:Ok Tryz.prog f w00 Out (cG Tryz.prog 1000 (c.give x))):Ok Tryz.prog f w00 Out c:=by
 simp only [Prod.mk.injEq] at hc
 obtain ⟨h1,h2,h3,h4,h5,h6,h7⟩:=hc
 exact Ok.callM fn ks bl args h h1 h2 h3 h4 h5 h6 h7 hnd hfn (Ok.go (by kernel_rfl) mP 1000 hg)
end Ab
end Go.Proofs.YtnghdaemmlagpaaGreatDoor
