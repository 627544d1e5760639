/- Parts of the proof, joined. -/
import Derived.Test.YtnhafhpmocabiaaGreatDoorJ4
import Derived.Test.YtnhafhpmocabiaaGreatDoorJ1
import Derived.Test.YtnhafhpmocabiaaGreatDoorShelf
import Derived.Laws.RangeAny
import Derived.Test.YtnhafhpmocabiaaGreatDoorJ0
import Derived.Test.YtnhafhpmocabiaaGreatDoorJ3
import Derived.Deep.LoopGhost
import Derived.Laws.Runes
import Derived.WalkMore
import Derived.Handy
import Derived.Deep.RegionWith
import Derived.RangeFuncNested
import Derived.RangeFuncBound
import Derived.RangeFuncCalls
import Derived.RangeFuncLeaves
import Derived.Shelf.Abstract
import Derived.Shelf.RegionOpen
import Derived.WalkKit
import Derived.OwnWalkIn
import Derived.TacticsInMore
import Derived.LoopNIn
import Derived.LoopIn
import Derived.KernelRfl
import Derived.Test.YtnhafhpmocabiaaGreatDoorProg
import Derived.Laws.Tables
import Derived.Laws.CopyOwn
set_option maxHeartbeats 4000000
set_option linter.unusedSimpArgs false
set_option linter.unusedVariables false
set_option linter.constructorNameAsVariable false
namespace Go.Proofs.YtnhafhpmocabiaaGreatDoor
section
open Go.RowKit Pl
attribute [local simp] known specOf Kd.spec Sp.is isVar Oper.looksAt Op.operands Call.operands Act.eval
set_option maxRecDepth 100000 in
set_option maxHeartbeats 8000000 in
theorem xB (v v' : Value) (p q:Rat) (w:World) (h:Nb w v p) (h' : Nb w v' q) (hp:Lf 38 p) (hq:Lf 38 q):Calls Tryz.prog 122 #[v,v'] w (GivesNb w (p*q)):=by
 obtain ⟨n1,d1,a1,rfl⟩:=h.form
 obtain ⟨n2,d2,a2,rfl⟩:=h'.form
 obtain ⟨hk1,hk2,hk3,hb1⟩:=cQ w (.cells #[.int .i64 n1,.int .i64 d1,.pointer a1] 63) (.cells #[.int .i64 n2,.int .i64 d2,.pointer a2] 63) (.cells #[.int .i64 0,.int .i64 0,.pointer none] 63)
 have H:=aH (aI (h.below hb1) (aI (h'.below hb1) (aI hp (aI hq (aI hb1 (aI hk1 (aI hk2 hk3)))))))
 by_cases hs:Sm p∧Sm q
 ·have e1:Value.agg #[.int .i64 n1,.int .i64 d1,.pointer a1]=fX p.num p.den:=by
   rcases h with ⟨_,e⟩|⟨hn,_⟩
   ·exact e
   ·exact absurd hs.1 hn
  have e2:Value.agg #[.int .i64 n2,.int .i64 d2,.pointer a2]=fX q.num q.den:=by
   rcases h' with ⟨_,e⟩|⟨hn,_⟩
   ·exact e
   ·exact absurd hs.2 hn
  have ha:∀ w',Calls Tryz.prog 136 #[.agg #[.int .i64 n1,.int .i64 d1,.pointer a1],.agg #[.int .i64 n2,.int .i64 d2,.pointer a2]] w' (Gives w' (.bool true)):=fun w'=>kO _ _ p q w' hs.1 hs.2 e1 e2
  have hc:∀ w',Calls Tryz.prog 181 #[.agg #[.int .i64 n1,.int .i64 d1,.pointer a1],.agg #[.int .i64 n2,.int .i64 d2,.pointer a2]] w' (dY w' (p*q)):=fun w'=>by
   rw [e1,e2]
   exact nU p q w' hs.1 hs.2
  have HS:=aH (aI ha hc)
  clear ha hc e1 e2 hs h h' hp hq hb1 hk1 hk2 hk3
  go_enter Tryz.func122,Tryz.ntmps122
  go_wp2_with fail
  refine (HS.out.1 _).mono ?_
  rintro e w2 ⟨rfl,b2⟩
  have B2:=aH (aI (Below.step_trans H.out.2.2.2.2.1 b2) (aI b2 (aI (aF b2 H.out.2.2.2.2.2.1) (aI (aF b2 H.out.2.2.2.2.2.2.1) (aF b2 H.out.2.2.2.2.2.2.2)))))
  obtain ⟨⟨u0,u1,u2⟩,_⟩:=bU (aF b2 H.out.2.2.2.2.2.1)
  obtain ⟨⟨u3,u4,u5⟩,_⟩:=bU (aF b2 H.out.2.2.2.2.2.2.1)
  clear b2
  go_wp2_with fail
  refine (HS.out.2 _).mono ?_
  rintro e w3 ⟨rn,rd,ok,rfl,hok,b3⟩
  have hA3:=aF b3 B2.out.2.2.1
  have hC3:=aF b3 B2.out.2.2.2.1
  have hR3:=aF b3 B2.out.2.2.2.2
  have B3:=aH (aI hok (aI (Below.step_trans B2.out.1 b3) (aI (Below.step_trans B2.out.2.1 b3) (aI hA3 (aI hC3 hR3)))))
  clear u0 u1 u2 u3 u4 u5 b3 hok hA3 hC3 hR3
  have hlt3:=lt_of_block B3.out.2.2.2.2.2
  cases ok
  ·go_wp2
   have hb4:Below w3.heap.size w3 (w3.alloc (.cells #[.int .i64 rn,.int .i64 rd,.pointer none] 63)):=(aB _ _).alloc (aR _) _
   have B4:=aH (aI (Below.step_trans B3.out.2.1 hb4) (aI (Below.step_trans B3.out.2.2.1 hb4) (aI (aF hb4 B3.out.2.2.2.1) (aI (aF hb4 B3.out.2.2.2.2.1) (aF hb4 B3.out.2.2.2.2.2)))))
   clear hb4
   generalize w3.alloc (.cells #[.int .i64 rn,.int .i64 rd,.pointer none] 63)=w4 at *
   have hA:=B4.out.2.2.1
   have hC:=B4.out.2.2.2.1
   have hR:=B4.out.2.2.2.2
   have t1:∀ w',Base [w.heap.size+1+1] w4 w'→Calls Tryz.prog 138 #[.agg #[.int .i64 n1,.int .i64 d1,.pointer a1]] w' (TyPost w' (dC p)):=fun w' hB =>
    GivesFr.ty (aX _ _ _ (Nb.ext (K:=Kn) (fun _=>rfl) (fun _=>rfl) (H.out.1.below B4.out.2.1) (hB.extT B4.out.2.2.2.2 (by simp [hotObj,Kn]))))
   have t2:∀ w',Base [w.heap.size+1+1] w4 w'→Calls Tryz.prog 138 #[.agg #[.int .i64 n2,.int .i64 d2,.pointer a2]] w' (TyPost w' (dC q)):=fun w' hB =>
    GivesFr.ty (aX _ _ _ (Nb.ext (K:=Kn) (fun _=>rfl) (fun _=>rfl) (H.out.2.1.below B4.out.2.1) (hB.extT B4.out.2.2.2.2 (by simp [hotObj,Kn]))))
   have t3:∀ w' x y,Fr w' x p→Fr w' y q→Calls Tryz.prog 182 #[x,y] w' (TyPost w' (dC (p*q))):=fun w' x y hx hy=>GivesFr.ty (kL x y p q w' hx hy H.out.2.2.1 H.out.2.2.2.1)
   have t4:∀ w' x,Fr w' x (p*q)→Calls Tryz.prog 37 #[x] w' (TyPost w' (kM (p*q))):=fun w' x hx=>GivesNb.ty (dX x _ w' hx)
   have T:=aH (aI t1 (aI t2 (aI t3 t4)))
   clear t1 t2 t3 t4
   refine wp_region_ty Kn [w.heap.size+1+1] (by kernel_rfl) (by kernel_rfl) ?_
   repeat (first|(apply aW (hg:=rfl);case h=>(intro A w' hB hk;simp at hk;have c_hA:=aA (hB.blk hA (by simp <;> omega));have c_hC:=aA (hB.blk hC (by simp <;> omega));first|(simp [go_sem,hk,c_hA,c_hC] <;> rfl)|(simp [go_sem,c_hA,c_hC];rfl)))|(refine aO _ ?_ (by first|exact .inl rfl|exact .inr rfl) (by rfl) (by simp [specOf,Kd.spec];rfl) ?_ rfl ?_;(first|exact Sp.is_stable _ _|exact aJ (fun _=>rfl) _|exact aV (fun _=>rfl) (fun _=>rfl) _)))
   refine aK (dC p) (aJ (fun _=>rfl) _) rfl (fun A w' hB hk=>?_) ?_;(simp at hk;have c_hA:=aA (hB.blk hA (by simp <;> omega));simp [go_sem,hk,c_hA];refine aE ?_;exact T.out.1 _ hB)
   repeat (first|(apply aW (hg:=rfl);case h=>(intro A w' hB hk;simp at hk;have c_hA:=aA (hB.blk hA (by simp <;> omega));have c_hC:=aA (hB.blk hC (by simp <;> omega));first|(simp [go_sem,hk,c_hA,c_hC] <;> rfl)|(simp [go_sem,c_hA,c_hC];rfl)))|(refine aO _ ?_ (by first|exact .inl rfl|exact .inr rfl) (by rfl) (by simp [specOf,Kd.spec];rfl) ?_ rfl ?_;(first|exact Sp.is_stable _ _|exact aJ (fun _=>rfl) _|exact aV (fun _=>rfl) (fun _=>rfl) _)))
   refine aK (dC q) (aJ (fun _=>rfl) _) rfl (fun A w' hB hk=>?_) ?_;(simp at hk;have c_hA:=aA (hB.blk hA (by simp <;> omega));simp [go_sem,hk,c_hA];refine aE ?_;exact T.out.2.1 _ hB)
   refine aK (dC (p*q)) (aJ (fun _=>rfl) _) rfl (fun A w' hB hk=>?_) ?_;(simp at hk;have c_hA:=aA (hB.blk hA (by simp <;> omega));simp [go_sem,hk,c_hA];refine aE ?_;exact T.out.2.2.1 _ _ _ hk.1 hk.2)
   refine aK (kM (p*q)) (aV (fun _=>rfl) (fun _=>rfl) _) rfl (fun A w' hB hk=>?_) ?_;(simp at hk;have c_hA:=aA (hB.blk hA (by simp <;> omega));simp [go_sem,hk,c_hA];refine aE ?_;exact T.out.2.2.2 _ _ hk)
   refine fK (w.heap.size+1+1) (_) (vD (p*q)) (eH (fun _=>rfl) (fun _=>rfl) _) rfl rfl (by simp) (by assumption) (by simp [hotObj,Ku,Kn]) (fun A w' hB hk h0=>?_) ?_;(simp at hk;have c_hA:=aA (hB.blk hA (by simp <;> omega));have c0:=aA h0;have f0:=aP h0;obtain ⟨k1,k2⟩:=hk;obtain ⟨y1,y2,y3,e1⟩:=(show Nb _ _ _ from k2).form;rw [e1] at k2;simp [go_sem,k1,e1,c0,f0];exact ⟨_,dD h0 _ _ _,_,_,_,rfl,k2⟩)
   refine ⟨by first|rfl|decide,fun f w2 hB hF hAp=>?_⟩;simp [Final1,Sp.is,isVar] at hF;simp only [frameOf]
   obtain ⟨o,⟨y1,y2,y3,rfl,k3⟩,ho⟩:=hF.1
   obtain ⟨⟨r0,r1,r2⟩,_⟩:=bU ho
   have K:=aH (aI k3 hB)
   clear k3 hB ho hA hC hR hAp hF
   go_wp2
   refine bodyPost_ret (v := .agg #[.int .i64 y1,.int .i64 y2,.pointer y3]) (by simp [results,Tryz.results122,go_sem,r0,r1,r2,Act.put]) rfl ⟨_,rfl,K.out.1,?_⟩
   exact Base.belowT K.out.2 B4.out.1 (by omega)
  ·obtain ⟨hsm,hv⟩:=B3.out.1 rfl
   obtain ⟨⟨g0,g1,g2⟩,f0,f1,f2⟩:=bU B3.out.2.2.2.2.2
   have HV:=aH (aI hsm hv)
   clear hsm hv
   have hpast:∀ (W:World) (o:Obj) (i:Nat),W.heap.size=w3.heap.size→(W.alloc o).cell? ⟨w.heap.size+1+1,i,none⟩=W.cell? ⟨w.heap.size+1+1,i,none⟩:=fun W o i h=>World.cell?_alloc_past _ _ _ (by show w.heap.size+1+1<W.heap.size;omega)
   have HP:=aH hpast
   clear hpast
   go_wp2
   refine bodyPost_ret (v := .agg #[.int .i64 rn,.int .i64 rd,.pointer none]) (by simp [results,Tryz.results122,go_sem,g0,g1,g2,HP.out]) rfl ⟨_,rfl,.inl HV.out,?_⟩
   repeat (first|exact B3.out.2.1|(refine Below.setCell ?_ (by first|omega|(simp <;> omega)) _)|(refine Below.alloc ?_ (by first|omega|(simp <;> omega)) _)|(refine Below.drew ?_)|exact aB _ _)
 ·have ha:∀ w',Below w.heap.size w w'→Calls Tryz.prog 136 #[.agg #[.int .i64 n1,.int .i64 d1,.pointer a1],.agg #[.int .i64 n2,.int .i64 d2,.pointer a2]] w' (Gives w' (.bool false)):=fun w' hb=>mC _ _ p q w' (h.below hb) (h'.below hb) hs
  have HS:=aH ha
  clear ha hs h h' hp hq hb1 hk1 hk2 hk3
  go_enter Tryz.func122,Tryz.ntmps122
  go_wp2_with fail
  refine (HS.out _ H.out.2.2.2.2.1).mono ?_
  rintro e w2 ⟨rfl,b2⟩
  have B2:=aH (aI (Below.step_trans H.out.2.2.2.2.1 b2) (aI b2 (aI (aF b2 H.out.2.2.2.2.2.1) (aI (aF b2 H.out.2.2.2.2.2.2.1) (aF b2 H.out.2.2.2.2.2.2.2)))))
  clear b2
  go_wp2
  have hA:=B2.out.2.2.1
  have hC:=B2.out.2.2.2.1
  have hR:=B2.out.2.2.2.2
  have t1:∀ w',Base [w.heap.size+1+1] w2 w'→Calls Tryz.prog 138 #[.agg #[.int .i64 n1,.int .i64 d1,.pointer a1]] w' (TyPost w' (dC p)):=fun w' hB =>
   GivesFr.ty (aX _ _ _ (Nb.ext (K:=Kn) (fun _=>rfl) (fun _=>rfl) (H.out.1.below B2.out.2.1) (hB.extT B2.out.2.2.2.2 (by simp [hotObj,Kn]))))
  have t2:∀ w',Base [w.heap.size+1+1] w2 w'→Calls Tryz.prog 138 #[.agg #[.int .i64 n2,.int .i64 d2,.pointer a2]] w' (TyPost w' (dC q)):=fun w' hB =>
   GivesFr.ty (aX _ _ _ (Nb.ext (K:=Kn) (fun _=>rfl) (fun _=>rfl) (H.out.2.1.below B2.out.2.1) (hB.extT B2.out.2.2.2.2 (by simp [hotObj,Kn]))))
  have t3:∀ w' x y,Fr w' x p→Fr w' y q→Calls Tryz.prog 182 #[x,y] w' (TyPost w' (dC (p*q))):=fun w' x y hx hy=>GivesFr.ty (kL x y p q w' hx hy H.out.2.2.1 H.out.2.2.2.1)
  have t4:∀ w' x,Fr w' x (p*q)→Calls Tryz.prog 37 #[x] w' (TyPost w' (kM (p*q))):=fun w' x hx=>GivesNb.ty (dX x _ w' hx)
  have T:=aH (aI t1 (aI t2 (aI t3 t4)))
  clear t1 t2 t3 t4
  refine wp_region_ty Kn [w.heap.size+1+1] (by kernel_rfl) (by kernel_rfl) ?_
  repeat (first|(apply aW (hg:=rfl);case h=>(intro A w' hB hk;simp at hk;have c_hA:=aA (hB.blk hA (by simp <;> omega));have c_hC:=aA (hB.blk hC (by simp <;> omega));first|(simp [go_sem,hk,c_hA,c_hC] <;> rfl)|(simp [go_sem,c_hA,c_hC];rfl)))|(refine aO _ ?_ (by first|exact .inl rfl|exact .inr rfl) (by rfl) (by simp [specOf,Kd.spec];rfl) ?_ rfl ?_;(first|exact Sp.is_stable _ _|exact aJ (fun _=>rfl) _|exact aV (fun _=>rfl) (fun _=>rfl) _)))
  refine aK (dC p) (aJ (fun _=>rfl) _) rfl (fun A w' hB hk=>?_) ?_;(simp at hk;have c_hA:=aA (hB.blk hA (by simp <;> omega));simp [go_sem,hk,c_hA];refine aE ?_;exact T.out.1 _ hB)
  repeat (first|(apply aW (hg:=rfl);case h=>(intro A w' hB hk;simp at hk;have c_hA:=aA (hB.blk hA (by simp <;> omega));have c_hC:=aA (hB.blk hC (by simp <;> omega));first|(simp [go_sem,hk,c_hA,c_hC] <;> rfl)|(simp [go_sem,c_hA,c_hC];rfl)))|(refine aO _ ?_ (by first|exact .inl rfl|exact .inr rfl) (by rfl) (by simp [specOf,Kd.spec];rfl) ?_ rfl ?_;(first|exact Sp.is_stable _ _|exact aJ (fun _=>rfl) _|exact aV (fun _=>rfl) (fun _=>rfl) _)))
  refine aK (dC q) (aJ (fun _=>rfl) _) rfl (fun A w' hB hk=>?_) ?_;(simp at hk;have c_hA:=aA (hB.blk hA (by simp <;> omega));simp [go_sem,hk,c_hA];refine aE ?_;exact T.out.2.1 _ hB)
  refine aK (dC (p*q)) (aJ (fun _=>rfl) _) rfl (fun A w' hB hk=>?_) ?_;(simp at hk;have c_hA:=aA (hB.blk hA (by simp <;> omega));simp [go_sem,hk,c_hA];refine aE ?_;exact T.out.2.2.1 _ _ _ hk.1 hk.2)
  refine aK (kM (p*q)) (aV (fun _=>rfl) (fun _=>rfl) _) rfl (fun A w' hB hk=>?_) ?_;(simp at hk;have c_hA:=aA (hB.blk hA (by simp <;> omega));simp [go_sem,hk,c_hA];refine aE ?_;exact T.out.2.2.2 _ _ hk)
  refine fK (w.heap.size+1+1) (_) (vD (p*q)) (eH (fun _=>rfl) (fun _=>rfl) _) rfl rfl (by simp) (by assumption) (by simp [hotObj,Ku,Kn]) (fun A w' hB hk h0=>?_) ?_;(simp at hk;have c_hA:=aA (hB.blk hA (by simp <;> omega));have c0:=aA h0;have f0:=aP h0;obtain ⟨k1,k2⟩:=hk;obtain ⟨y1,y2,y3,e1⟩:=(show Nb _ _ _ from k2).form;rw [e1] at k2;simp [go_sem,k1,e1,c0,f0];exact ⟨_,dD h0 _ _ _,_,_,_,rfl,k2⟩)
  refine ⟨by first|rfl|decide,fun f w2 hB hF hAp=>?_⟩;simp [Final1,Sp.is,isVar] at hF;simp only [frameOf]
  obtain ⟨o,⟨y1,y2,y3,rfl,k3⟩,ho⟩:=hF.1
  obtain ⟨⟨r0,r1,r2⟩,_⟩:=bU ho
  have K:=aH (aI k3 hB)
  clear k3 hB ho hA hC hR hAp hF
  go_wp2
  refine bodyPost_ret (v := .agg #[.int .i64 y1,.int .i64 y2,.pointer y3]) (by simp [results,Tryz.results122,go_sem,r0,r1,r2,Act.put]) rfl ⟨_,rfl,K.out.1,?_⟩
  exact Base.belowT K.out.2 B2.out.1 (by omega)
end
section
open Go.RowKit Pl
attribute [local simp] known specOf Kd.spec Sp.is isVar Oper.looksAt Op.operands Call.operands Act.eval
set_option maxRecDepth 100000 in
set_option maxHeartbeats 8000000 in
theorem xC (v v' : Value) (p q:Rat) (w:World) (h:Nb w v p) (h' : Nb w v' q) (hp:Lf 36 p) (hq:Lf 36 q):Calls Tryz.prog 125 #[v,v'] w (GivesNb w (p-q)):=by
 have hsub:p-q=p + -q:=Rat.sub_eq_add_neg p q
 rw [hsub]
 obtain ⟨n1,d1,a1,rfl⟩:=h.form
 obtain ⟨n2,d2,a2,rfl⟩:=h'.form
 obtain ⟨hk1,hk2,hk3,hb1⟩:=cQ w (.cells #[.int .i64 n1,.int .i64 d1,.pointer a1] 63) (.cells #[.int .i64 n2,.int .i64 d2,.pointer a2] 63) (.cells #[.int .i64 0,.int .i64 0,.pointer none] 63)
 have H:=aH (aI (h.below hb1) (aI (h'.below hb1) (aI hp (aI hq.neg (aI hb1 (aI hk1 (aI hk2 hk3)))))))
 clear h h' hp hq hb1 hk1 hk2 hk3 hsub
 go_enter Tryz.func125,Tryz.ntmps125
 go_wp2
 generalize ((w.alloc (.cells #[.int .i64 n1,.int .i64 d1,.pointer a1] 63)).alloc (.cells #[.int .i64 n2,.int .i64 d2,.pointer a2] 63)).alloc (.cells #[.int .i64 0,.int .i64 0,.pointer none] 63)=w1 at *
 have hA:=H.out.2.2.2.2.2.1
 have hC:=H.out.2.2.2.2.2.2.1
 have hR:=H.out.2.2.2.2.2.2.2
 have t1:∀ w',Base [w.heap.size+1+1] w1 w'→Calls Tryz.prog 131 #[.agg #[.int .i64 n2,.int .i64 d2,.pointer a2]] w' (TyPost w' (kM (-q))):=fun w' hB =>
  GivesNb.ty (sT _ _ _ (Nb.ext (K:=Kn) (fun _=>rfl) (fun _=>rfl) H.out.2.1 (hB.extT hR (by simp [hotObj,Kn]))))
 have t2:∀ w' x,Base [w.heap.size+1+1] w1 w'→Nb w' x (-q)→Calls Tryz.prog 76 #[.agg #[.int .i64 n1,.int .i64 d1,.pointer a1],x] w' (TyPost w' (kM (p + -q))):=fun w' x hB hx =>
  GivesNb.ty (uB _ _ _ _ _ (Nb.ext (K:=Kn) (fun _=>rfl) (fun _=>rfl) H.out.1 (hB.extT hR (by simp [hotObj,Kn]))) hx H.out.2.2.1 H.out.2.2.2.1)
 have T:=aH (aI t1 t2)
 clear t1 t2
 refine wp_region_ty Kn [w.heap.size+1+1] (by kernel_rfl) (by kernel_rfl) ?_
 repeat (first|(apply aW (hg:=rfl);case h=>(intro A w' hB hk;simp at hk;have c_hA:=aA (hB.blk hA (by simp <;> omega));have c_hC:=aA (hB.blk hC (by simp <;> omega));first|(simp [go_sem,hk,c_hA,c_hC] <;> rfl)|(simp [go_sem,c_hA,c_hC];rfl)))|(refine aO _ ?_ (by first|exact .inl rfl|exact .inr rfl) (by rfl) (by simp [specOf,Kd.spec];rfl) ?_ rfl ?_;(first|exact Sp.is_stable _ _|exact aV (fun _=>rfl) (fun _=>rfl) _)))
 refine aK (kM (-q)) (aV (fun _=>rfl) (fun _=>rfl) _) rfl (fun A w' hB hk=>?_) ?_;(simp at hk;have c_hA:=aA (hB.blk hA (by simp <;> omega));simp [go_sem,hk,c_hA];refine aE ?_;exact T.out.1 _ hB)
 refine aK (kM (p + -q)) (aV (fun _=>rfl) (fun _=>rfl) _) rfl (fun A w' hB hk=>?_) ?_;(simp at hk;have c_hA:=aA (hB.blk hA (by simp <;> omega));simp [go_sem,hk,c_hA];refine aE ?_;exact T.out.2 _ _ hB hk.2)
 refine fK (w.heap.size+1+1) (_) (vD (p + -q)) (eH (fun _=>rfl) (fun _=>rfl) _) rfl rfl (by simp) (by assumption) (by simp [hotObj,Ku,Kn]) (fun A w' hB hk h0=>?_) ?_;(simp at hk;have c_hA:=aA (hB.blk hA (by simp <;> omega));have c0:=aA h0;have f0:=aP h0;obtain ⟨k1,k2⟩:=hk;obtain ⟨y1,y2,y3,e1⟩:=(show Nb _ _ _ from k2).form;rw [e1] at k2;simp [go_sem,k1,e1,c0,f0];exact ⟨_,dD h0 _ _ _,_,_,_,rfl,k2⟩)
 refine ⟨by first|rfl|decide,fun f w2 hB hF hAp=>?_⟩;simp [Final1,Sp.is,isVar] at hF;simp only [frameOf]
 obtain ⟨o,⟨y1,y2,y3,rfl,k3⟩,ho⟩:=hF.1
 obtain ⟨⟨r0,r1,r2⟩,_⟩:=bU ho
 have K:=aH (aI k3 hB)
 clear k3 hB ho hA hC hR hAp hF
 go_wp2
 refine bodyPost_ret (v := .agg #[.int .i64 y1,.int .i64 y2,.pointer y3]) (by simp [results,Tryz.results125,go_sem,r0,r1,r2,Act.put]) rfl ⟨_,rfl,K.out.1,?_⟩
 exact Base.belowT K.out.2 H.out.2.2.2.2.1 (by omega)
end
section
open Go.RowKit Pl
attribute [local simp] known specOf Kd.spec Sp.is isVar Oper.looksAt Op.operands Call.operands Act.eval
end
section
open Go.RowKit Pl
theorem vF {w:World} {g:Nat} {a b c d e f h i j:Value} {t:TypeId} (hk:w.heap[g]?=some (.cells #[a,b,c,d,e,f,h,i,j] t (0,0))) :
 w.cell? ⟨g,0,none⟩=some a∧w.cell? ⟨g,1,none⟩=some b∧w.cell? ⟨g,2,none⟩=some c∧w.cell? ⟨g,3,none⟩=some d∧w.cell? ⟨g,4,none⟩=some e∧w.cell? ⟨g,5,none⟩=some f∧w.cell? ⟨g,6,none⟩=some h∧w.cell? ⟨g,7,none⟩=some i∧w.cell? ⟨g,8,none⟩=some j:=by
 have hc:=aA hk
 simp [hc]
def Vc (w:World) (v:Value) (a b c:Rat):Prop :=
 ∃ n1 d1 p1 n2 d2 p2 n3 d3 p3,v = .agg #[.int .i64 n1,.int .i64 d1,.pointer p1,.int .i64 n2,.int .i64 d2,.pointer p2,.int .i64 n3,.int .i64 d3,.pointer p3] ∧
   Nb w (.agg #[.int .i64 n1,.int .i64 d1,.pointer p1]) a∧Nb w (.agg #[.int .i64 n2,.int .i64 d2,.pointer p2]) b∧Nb w (.agg #[.int .i64 n3,.int .i64 d3,.pointer p3]) c
theorem Vc.below {w w' : World} {v:Value} {a b c:Rat} (h:Vc w v a b c) (hb:Below w.heap.size w w'):Vc w' v a b c:=by
 obtain ⟨n1,d1,p1,n2,d2,p2,n3,d3,p3,e,h1,h2,h3⟩:=h
 exact ⟨n1,d1,p1,n2,d2,p2,n3,d3,p3,e,h1.below hb,h2.below hb,h3.below hb⟩
theorem Vc.ext {K:Value→Bool} (hK:∀ x,K (.int .u64 x)=true) (hK2:∀ b,K (.bool b)=true) {w w' : World} {v:Value} {a b c:Rat} (h:Vc w v a b c) (hx:Ext K w w'):Vc w' v a b c:=by
 obtain ⟨n1,d1,p1,n2,d2,p2,n3,d3,p3,e,h1,h2,h3⟩:=h
 exact ⟨n1,d1,p1,n2,d2,p2,n3,d3,p3,e,h1.ext hK hK2 hx,h2.ext hK hK2 hx,h3.ext hK hK2 hx⟩
def spVc (a b c:Rat):Sp:=fun v w=>Vc w v a b c
def GivesVc (w:World) (a b c:Rat) (e:Ending) (w' : World):Prop := ∃ v,e = .returned v∧Vc w' v a b c∧Below w.heap.size w w'
theorem GivesVc.ty {P:Program} {f:FuncId} {args:Array Value} {w:World} {a b c:Rat} (h:Calls P f args w (GivesVc w a b c)):Calls P f args w (TyPost w (spVc a b c)) :=
 h.mono fun _ _ ⟨v,h1,h2,h3⟩=>⟨v,h1,h3,h2⟩
set_option maxRecDepth 100000 in
theorem vG (v:Value) (a b c:Rat) (w:World) (h:Vc w v a b c):Calls Tryz.prog 54 #[v] w (Gives w (.bool (decide (a=0)&&decide (b=0)&&decide (c=0)))):=by
 obtain ⟨n1,d1,p1,n2,d2,p2,n3,d3,p3,rfl,h1,h2,h3⟩:=h
 have hb1:Below w.heap.size w (w.alloc (.cells #[.int .i64 n1,.int .i64 d1,.pointer p1,.int .i64 n2,.int .i64 d2,.pointer p2,.int .i64 n3,.int .i64 d3,.pointer p3] 95)):=(aB _ _).alloc (aR _) _
 have hk1:=heap_alloc_new w (.cells #[.int .i64 n1,.int .i64 d1,.pointer p1,.int .i64 n2,.int .i64 d2,.pointer p2,.int .i64 n3,.int .i64 d3,.pointer p3] 95)
 have t1:=fun w' (hb:Below w.heap.size w w')=>iH _ _ w' (h1.below hb)
 have t2:=fun w' (hb:Below w.heap.size w w')=>iH _ _ w' (h2.below hb)
 have t3:=fun w' (hb:Below w.heap.size w w')=>iH _ _ w' (h3.below hb)
 clear h1 h2 h3
 generalize decide (a=0)=za at *
 generalize decide (b=0)=zb at *
 generalize decide (c=0)=zc at *
 have H:=aH (aI t1 (aI t2 t3))
 have B1:=aH (aI hb1 hk1)
 clear t1 t2 t3 hb1 hk1
 go_enter Tryz.func54,Tryz.ntmps54
 cases za
 ·skip
  go_wp2_with fail
  refine (H.out.1 _ B1.out.1).mono ?_
  rintro e w2 ⟨rfl,b2⟩
  have B2:=aH (aI (Below.step_trans B1.out.1 b2) (aF b2 B1.out.2))
  obtain ⟨x0,x1,x2,x3,x4,x5,x6,x7,x8⟩:=vF B2.out.2
  clear b2
  go_wp2
  go_ret
  exact ⟨rfl,B2.out.1⟩
 ·cases zb
  ·skip
   go_wp2_with fail
   refine (H.out.1 _ B1.out.1).mono ?_
   rintro e w2 ⟨rfl,b2⟩
   have B2:=aH (aI (Below.step_trans B1.out.1 b2) (aF b2 B1.out.2))
   obtain ⟨x0,x1,x2,x3,x4,x5,x6,x7,x8⟩:=vF B2.out.2
   clear b2
   go_wp2_with fail
   refine (H.out.2.1 _ B2.out.1).mono ?_
   rintro e w3 ⟨rfl,b2⟩
   have B3:=aH (aI (Below.step_trans B2.out.1 b2) (aF b2 B2.out.2))
   obtain ⟨x0,x1,x2,x3,x4,x5,x6,x7,x8⟩:=vF B3.out.2
   clear b2
   go_wp2
   go_ret
   exact ⟨rfl,B3.out.1⟩
  ·skip
   go_wp2_with fail
   refine (H.out.1 _ B1.out.1).mono ?_
   rintro e w2 ⟨rfl,b2⟩
   have B2:=aH (aI (Below.step_trans B1.out.1 b2) (aF b2 B1.out.2))
   obtain ⟨x0,x1,x2,x3,x4,x5,x6,x7,x8⟩:=vF B2.out.2
   clear b2
   go_wp2_with fail
   refine (H.out.2.1 _ B2.out.1).mono ?_
   rintro e w3 ⟨rfl,b2⟩
   have B3:=aH (aI (Below.step_trans B2.out.1 b2) (aF b2 B2.out.2))
   obtain ⟨x0,x1,x2,x3,x4,x5,x6,x7,x8⟩:=vF B3.out.2
   clear b2
   go_wp2_with fail
   refine (H.out.2.2 _ B3.out.1).mono ?_
   rintro e w4 ⟨rfl,b2⟩
   have B4:=aH (aI (Below.step_trans B3.out.1 b2) (aF b2 B3.out.2))
   obtain ⟨x0,x1,x2,x3,x4,x5,x6,x7,x8⟩:=vF B4.out.2
   clear b2
   go_wp2
   go_ret
   exact ⟨rfl,B4.out.1⟩
end
namespace Ab
open Go.RowKit
variable {Kc:Value→Bool}
def Seg.noPtr:Seg Kc→Bool
 | .ptr .. | .slc .. => false
 | _=>true
def FV.noPtr:FV Kc→Bool
 | .sc s=>s.noPtr
 | .ag l | .nsl _ _ l=>l.all Seg.noPtr
 | .clo _ a b=>(a.all fun c=>c.2.all Seg.noPtr)&&(b.all fun c=>c.2.all Seg.noPtr)
 | .un=>true
def AV.noPtr:AV Kc→Bool
 | .fv f=>f.noPtr
 | .tup l=>l.all FV.noPtr
theorem Seg.noPtr_holds {s:Seg Kc} (h:s.noPtr=true) {β γ:List Nat} {cs:List Value} {w:World} (hs:s.holds β cs w):s.holds γ cs w:=by
 cases s <;> first|exact hs|cases h
theorem holdsL.noPtr {β γ:List Nat} {w:World}:∀ {l:List (Seg Kc)} {cs:List Value},l.all Seg.noPtr=true→holdsL β l cs w→holdsL γ l cs w
 | [],_,_,h=>h
 | s::l,_,hn,⟨a,b,e,h1,h2⟩=>by
   rw [List.all_cons,Bool.and_eq_true] at hn
   exact ⟨a,b,e,Seg.noPtr_holds hn.1 h1,holdsL.noPtr hn.2 h2⟩
theorem holdsC.noPtr {β γ:List Nat} {w:World}:∀ {l:List (Bool×List (Seg Kc))} {vs:List Value},(l.all fun c=>c.2.all Seg.noPtr)=true→holdsC β l vs w→holdsC γ l vs w
 | [],_,_,h=>h
 | (b,m)::l,_,hn,⟨v,r,e,h1,h2⟩=>by
   rw [List.all_cons,Bool.and_eq_true] at hn
   refine ⟨v,r,e,?_,holdsC.noPtr hn.2 h2⟩
   cases b with
   | true=>obtain ⟨cs,e,h1⟩:=h1;exact ⟨cs,e,h1.noPtr hn.1⟩
   | false=>exact holdsL.noPtr hn.1 h1
theorem FV.noPtr_holds {f:FV Kc} (h:f.noPtr=true) {β γ:List Nat} {v:Value} {w:World} (hs:f.holds β v w):f.holds γ v w:=by
 cases f with
 | sc s=>exact Seg.noPtr_holds h hs
 | ag l=>obtain ⟨cs,e,hl⟩:=hs;exact ⟨cs,e,hl.noPtr h⟩
 | nsl n T l=>obtain ⟨g,cs,e,hg,hl⟩:=hs;exact ⟨g,cs,e,hg,hl.noPtr h⟩
 | clo F a b =>
   rw [FV.noPtr,Bool.and_eq_true] at h
   obtain ⟨xs,ys,e,h1,h2⟩:=hs
   exact ⟨xs,ys,e,h1.noPtr h.1,h2.noPtr h.2⟩
 | un=>trivial
theorem holdsF.noPtr {β γ:List Nat} {w:World}:∀ {l:List (FV Kc)} {vs:List Value},l.all FV.noPtr=true→holdsF β l vs w→holdsF γ l vs w
 | [],_,_,h=>h
 | f::l,_,hn,⟨v,r,e,h1,h2⟩=>by
   rw [List.all_cons,Bool.and_eq_true] at hn
   exact ⟨v,r,e,FV.noPtr_holds hn.1 h1,holdsF.noPtr hn.2 h2⟩
theorem AV.noPtr_holds {x:AV Kc} (h:x.noPtr=true) {β γ:List Nat} {v:Value} {w:World} (hs:x.holds β v w):x.holds γ v w:=by
 cases x with
 | fv f=>exact FV.noPtr_holds h hs
 | tup l=>obtain ⟨vs,e,hl⟩:=hs;exact ⟨vs,e,hl.noPtr h⟩
def Fits (P:Program) (f:FuncId) (args:List (AV Kc)) (x:AV Kc):Prop :=
 ∀ β w vs,aZ β args vs w→Calls P f vs.toArray w fun e w' => ∃ v,e = .returned v∧Below w.heap.size w w'∧x.holds β v w'
section
variable {P:Program} {f:FuncId} {w00:World} {Out:Value→World→Prop}
structure Ok (P:Program) (f:FuncId) (w00:World) (Out:Value→World→Prop) (c:Cfg Kc):Prop where
 good:dW P f w00 Out c
theorem Ok.go (hm:P.follows .mixedOrders=true) (hK:KOk Kc) (n:Nat) {c:Cfg Kc} (h:Ok P f w00 Out (cW P n c)):Ok P f w00 Out c:=⟨qV hm hK n h.good⟩
theorem Ok.call {c:Cfg Kc} (fn:FuncId) (args:List (AV Kc)) {x:AV Kc} (h:Fits P fn args x) (hf:c.callee P=some fn) (ha:c.args P=args) (hx:c.okT x=true) (hfn:∀ (args:Array Value) (w:World),(callFunc fn args).run P w = .ok (.enter fn args) w)
 (hg:Ok P f w00 Out (c.give x)):Ok P f w00 Out c :=
 ⟨lG fn x hf hx hfn (fun β w vs _ _ hv=>h β w vs (by rw [← ha];exact hv)) hg.good⟩
theorem Ok.op {c:Cfg Kc} (o:Oper) (x:AV Kc) (ho:c.op=some o) (hx:c.okT x=true)
 (h:∀ β ρ w,(c.canB=true→Below w00.heap.size w00 w)→Mem β c.mem w→(∀ y∈o.op.operands,(c.ev y).holds β (ρ y) w) →
  (∃ v w',(execOp ρ o).run P w = .ok (.value v) w'∧Below w.heap.size w w'∧x.holds β v w') ∨
  (∃ fn vs,(execOp ρ o).run P w = .ok (.enter fn vs) w∧Calls P fn vs w fun e w' => ∃ v,e = .returned v∧Below w.heap.size w w'∧x.holds β v w'))
 (hg:Ok P f w00 Out (c.give x)):Ok P f w00 Out c:=⟨tR o x ho hx h hg.good⟩
def FitsW (P:Program) (I:World→Prop) (f:FuncId) (args:List (AV Kc)) (x:AV Kc):Prop :=
 ∀ β w vs,I w→aZ β args vs w→Calls P f vs.toArray w fun e w' => ∃ v,e = .returned v∧Below w.heap.size w w'∧x.holds β v w'
theorem Fits.wide {I:World→Prop} {args:List (AV Kc)} {x:AV Kc} (h:Fits P f args x):FitsW P I f args x:=fun β w vs _ hv=>h β w vs hv
theorem Ok.callW {I:World→Prop} {c:Cfg Kc} (hI:∀ w,Below w00.heap.size w00 w→I w) (fn:FuncId) (args:List (AV Kc)) {x:AV Kc} (h:FitsW P I fn args x) (hf:c.callee P=some fn) (ha:c.args P=args) (hx:c.okT x=true) (hro:c.canB=true) (hfn:∀ (args:Array Value) (w:World),(callFunc fn args).run P w = .ok (.enter fn args) w)
 (hg:Ok P f w00 Out (c.give x)):Ok P f w00 Out c :=
 ⟨lG fn x hf hx hfn (fun β w vs hB _ hv=>h β w vs (hI w (hB hro)) (by rw [← ha];exact hv)) hg.good⟩
theorem Ok.callS {c:Cfg Kc} (fn:FuncId) (k n:Nat) (T:TypeId) (l:List (Seg Kc)) {x:AV Kc} (h:Fits P fn [.fv (.nsl n T l)] x) (hf:c.callee P=some fn) (ha:c.args P = [.fv (.sc (.slc k 0 n n))]) (hx:c.okT x=true) (hm:c.mem[k]?=some (some (T,l))) (hfn:∀ (args:Array Value) (w:World),(callFunc fn args).run P w = .ok (.enter fn args) w)
 (hg:Ok P f w00 Out (c.give x)):Ok P f w00 Out c :=
 ⟨lG fn x hf hx hfn (fun β w vs _ hM hv=>by
  rw [ha] at hv
  obtain ⟨v,r,rfl,h1,h2⟩:=hv
  obtain ⟨g,hg,hv⟩:=nB h1
  obtain ⟨g',cs,hg',hh,hl⟩:=hM k T l hm
  rw [hg] at hg'
  injection hg' with hg'
  subst hg'
  exact h β w _ ⟨v,r,rfl,⟨g,cs,hv,hh,hl⟩,h2⟩) hg.good⟩
theorem xD {I:World→Prop} {fn:Func} {args:List (AV Kc)} {x:AV Kc} (hfn:P.funcs[f]?=some fn) (hb:fn.body.isSome=true) (hn:(args.length≤fn.ntmps:Bool)=true) (hx:x.noPtr=true) (ha:args.all AV.noPtr=true)
 (h:∀ w00,I w00→Ok P f w00 (fun v w=>x.holds [] v w) (.items [.code (fn.body.getD .skip)] { slots:=args++List.replicate (fn.ntmps-args.length) .un,blocks := [],ro:=0 })):FitsW P I f args x:=by
 intro β w vs hI hv
 have hv' : aZ [] args vs w:=by
  have key:∀ {l:List (AV Kc)} {us:List Value},l.all AV.noPtr=true→aZ β l us w→aZ [] l us w:=fun {l}=>by
   induction l with
   | nil=>intro us _ h;exact h
   | cons y l ih =>
     rintro us hn ⟨v,r,e,h1,h2⟩
     rw [List.all_cons,Bool.and_eq_true] at hn
     exact ⟨v,r,e,AV.noPtr_holds hn.1 h1,ih hn.2 h2⟩
  exact key ha hv
 have hb2:fn.body=some (fn.body.getD .skip):=by
  cases hb2:fn.body with
  | none=>rw [hb2] at hb;cases hb
  | some c=>rfl
 refine (eA (w00:=w) (Out:=fun v w=>x.holds [] v w) hfn hb2 args [] [] vs (fn.ntmps-args.length) (by simp at hn;omega) hv' rfl (by simp) (fun k T l hk=>by simp at hk) (by simp) (h w hI).good).mono ?_
 rintro e w' ⟨v,rfl,hb,ho⟩
 exact ⟨v,rfl,hb,AV.noPtr_holds hx ho⟩
theorem xE {fn:Func} {n:Nat} {T:TypeId} {l:List (Seg Kc)} {x:AV Kc} (hfn:P.funcs[f]?=some fn) (hb:fn.body.isSome=true) (hn:(1≤fn.ntmps:Bool)=true) (hx:x.noPtr=true) (hl:l.all Seg.noPtr=true)
 (h:∀ w00,Ok P f w00 (fun v w=>x.holds [] v w) (.items [.code (fn.body.getD .skip)] { slots := [.fv (.sc (.slc 0 0 n n))]++List.replicate (fn.ntmps-1) .un,blocks := [(T,l)],ro:=1 })):Fits P f [.fv (.nsl n T l)] x:=by
 rintro β w vs ⟨v,r,rfl,⟨g,cs,rfl,hg,hcs⟩,h2⟩
 rw [show r = [] from h2]
 have hb2:fn.body=some (fn.body.getD .skip):=by
  cases hb2:fn.body with
  | none=>rw [hb2] at hb;cases hb
  | some c=>rfl
 refine (eA (w00:=w) (Out:=fun v w=>x.holds [] v w) hfn hb2 [.fv (.sc (.slc 0 0 n n))] [(T,l)] [g] [.slice (some ⟨g,0,none⟩) n n] (fn.ntmps-1) (by simp at hn;simp;omega) ⟨_,[],rfl,⟨g,rfl,rfl⟩,rfl⟩ rfl (by simp)
  (fun k T' l' hk=>?_) (by simp;exact lt_of_block hg) (h w).good).mono ?_
 ·match k,hk with
  | 0,hk =>
    simp at hk
    obtain ⟨rfl,rfl⟩:=hk
    exact ⟨g,cs,rfl,hg,hcs.noPtr hl⟩
 ·rintro e w' ⟨v,rfl,hb,ho⟩
  exact ⟨v,rfl,hb,AV.noPtr_holds hx ho⟩
theorem Ok.cond {c:Operand} {x y:Code} {k:List Item} {st:St Kc} (t:Bool) (h:∀ β v w,Mem β (st.blocks.map some) w→(oH st.slot c).holds β v w→v = .bool t)
 (hg:Ok P f w00 Out (.items (.code (if t then x else y)::k) st)):Ok P f w00 Out (.items (.code (.cond c x y)::k) st):=⟨uT t h hg.good⟩
theorem zH {fn:Func} {code:Code} {args:List (AV Kc)} {x:AV Kc} (hfn:P.funcs[f]?=some fn) (hb:fn.body=some code) (n:Nat) (hn:fn.ntmps=args.length+n) (hx:x.noPtr=true) (ha:args.all AV.noPtr=true)
 (h:∀ w00,dW P f w00 (fun v w=>x.holds [] v w) (.items [.code code] { slots:=args++List.replicate n .un,blocks := [],ro:=0 })):Fits P f args x:=by
 intro β w vs hv
 have hv' : aZ [] args vs w:=by
  have key:∀ {l:List (AV Kc)} {us:List Value},l.all AV.noPtr=true→aZ β l us w→aZ [] l us w:=fun {l}=>by
   induction l with
   | nil=>intro us _ h;exact h
   | cons y l ih =>
     rintro us hn ⟨v,r,e,h1,h2⟩
     rw [List.all_cons,Bool.and_eq_true] at hn
     exact ⟨v,r,e,AV.noPtr_holds hn.1 h1,ih hn.2 h2⟩
  exact key ha hv
 refine (eA (w00:=w) (Out:=fun v w=>x.holds [] v w) hfn hb args [] [] vs n hn hv' rfl (by simp) (fun k T l hk=>by simp at hk) (by simp) (h w)).mono ?_
 rintro e w' ⟨v,rfl,hb,ho⟩
 exact ⟨v,rfl,hb,AV.noPtr_holds hx ho⟩
abbrev nV (fn:Func) (args:List (AV Kc)):Cfg Kc := .items [.code (fn.body.getD .skip)] { slots:=args++List.replicate (fn.ntmps-args.length) .un,blocks := [],ro:=0 }
theorem zI {fn:Func} {args:List (AV Kc)} {x:AV Kc} (hfn:P.funcs[f]?=some fn) (hb:fn.body.isSome=true) (hn:(args.length≤fn.ntmps:Bool)=true) (hx:x.noPtr=true) (ha:args.all AV.noPtr=true)
 (h:∀ w00,Ok P f w00 (fun v w=>x.holds [] v w) (nV fn args)):Fits P f args x:=by
 refine zH hfn (code:=fn.body.getD .skip) ?_ (fn.ntmps-args.length) ?_ hx ha (fun w00=>(h w00).good)
 ·cases hb2:fn.body with
  | none=>rw [hb2] at hb;cases hb
  | some c=>rfl
 ·simp at hn
  omega
theorem Ok.ret {c:Cfg Kc} {fn:Func} {x:AV Kc} (hfn:P.funcs[f]?=some fn) (hx:x.noPtr=true) (hr:c.res P fn=some x):Ok P f w00 (fun v w=>x.holds [] v w) c :=
 ⟨wI hfn x hr (fun _ _ _ h=>AV.noPtr_holds hx h)⟩
end
abbrev jF{Kc:Value→Bool}(f:FuncId)(l:List (AV Kc))(x:AV Kc):Prop:=Fits Tryz.prog f l x
theorem mD:KOk Kn:=⟨fun _=>rfl,fun _ _ _=>rfl⟩
def csNb (q:Rat):CS Kn where
 size:=3
 cold:=true
 pred cs w:=Nb w (.agg cs.toArray) q
 stable cs w w' h hx:=Nb.ext (K:=Kn) (fun _=>rfl) (fun _=>rfl) h hx
 len cs w h:=by
  obtain ⟨n,d,p,e⟩:=Nb.form h
  injection e with e
  have:=congrArg Array.toList e
  simp at this
  rw [this];rfl
 one cs w h:=by
  obtain ⟨n,d,p,e⟩:=Nb.form h
  injection e with e
  have:=congrArg Array.toList e
  simp at this
  rw [this]
  intro c hc
  simp at hc
  rcases hc with rfl|rfl|rfl <;> rfl
 iscold _ cs w h:=by
  obtain ⟨n,d,p,e⟩:=Nb.form h
  injection e with e
  have:=congrArg Array.toList e
  simp at this
  rw [this]
  intro c hc
  simp at hc
  rcases hc with rfl|rfl|rfl <;> rfl
abbrev nb (q:Rat):Seg Kn := .sp (csNb q)
abbrev num (q:Rat):AV Kn := .fv (.ag [nb q])
abbrev vc (a b c:Rat):AV Kn := .fv (.ag [nb a,nb b,nb c])
theorem cK {β:List Nat} {v:Value} {w:World} {q:Rat}:(num q).holds β v w↔Nb w v q:=by
 constructor
 ·rintro ⟨cs,rfl,h⟩
  exact gD h
 ·intro h
  obtain ⟨n,d,p,rfl⟩:=Nb.form h
  exact ⟨[.int .i64 n,.int .i64 d,.pointer p],rfl,_,[],rfl,h,rfl⟩
theorem nW {β:List Nat} {v:Value} {w:World} {a b c:Rat}:(vc a b c).holds β v w↔Vc w v a b c:=by
 constructor
 ·rintro ⟨cs,rfl,x1,r1,rfl,h1,x2,r2,rfl,h2,x3,r3,rfl,h3,e⟩
  rw [show r3 = [] from e]
  obtain ⟨n1,d1,p1,e1⟩:=Nb.form h1
  obtain ⟨n2,d2,p2,e2⟩:=Nb.form h2
  obtain ⟨n3,d3,p3,e3⟩:=Nb.form h3
  injection e1 with e1
  injection e2 with e2
  injection e3 with e3
  have e1:=congrArg Array.toList e1
  have e2:=congrArg Array.toList e2
  have e3:=congrArg Array.toList e3
  simp at e1 e2 e3
  subst e1
  subst e2
  subst e3
  exact ⟨n1,d1,p1,n2,d2,p2,n3,d3,p3,rfl,h1,h2,h3⟩
 ·rintro ⟨n1,d1,p1,n2,d2,p2,n3,d3,p3,rfl,h1,h2,h3⟩
  exact ⟨[.int .i64 n1,.int .i64 d1,.pointer p1,.int .i64 n2,.int .i64 d2,.pointer p2,.int .i64 n3,.int .i64 d3,.pointer p3],rfl,
   [.int .i64 n1,.int .i64 d1,.pointer p1],_,rfl,h1,[.int .i64 n2,.int .i64 d2,.pointer p2],_,rfl,h2,[.int .i64 n3,.int .i64 d3,.pointer p3],[],rfl,h3,rfl⟩
theorem eM {β:List Nat} {w:World} {x:AV Kc} {vs:List Value} (h:aZ β [x] vs w):∃ v,vs = [v]∧x.holds β v w:=by
 obtain ⟨v,r,rfl,h1,h2⟩:=h
 exact ⟨v,by rw [show r = [] from h2],h1⟩
theorem iX {β:List Nat} {w:World} {x y:AV Kc} {vs:List Value} (h:aZ β [x,y] vs w):∃ v u,vs = [v,u]∧x.holds β v w∧y.holds β u w:=by
 obtain ⟨v,r,rfl,h1,h2⟩:=h
 obtain ⟨u,rfl,h3⟩:=eM h2
 exact ⟨v,u,rfl,h1,h3⟩
theorem nX {P:Program} {f:FuncId} {p q r:Rat} (h:∀ v v' w,Nb w v p→Nb w v' q→Calls P f #[v,v'] w (GivesNb w r)):Fits P f [num p,num q] (num r):=by
 intro β w vs hv
 obtain ⟨v,u,rfl,h1,h2⟩:=iX hv
 exact (h v u w (cK.1 h1) (cK.1 h2)).mono fun e w' ⟨u,e,h1,h2⟩=>⟨u,e,h2,cK.2 h1⟩
theorem kgo {f:FuncId} {fn:Func} {args:List (AV Kn)} {x:AV Kn} (hfn:Tryz.prog.funcs[f]?=some fn) (hc:(fn.body.isSome,decide (args.length≤fn.ntmps),x.noPtr,args.all AV.noPtr)=(true,true,true,true))
 (h:∀ w00,Ok Tryz.prog f w00 (fun v w=>x.holds [] v w) (cW Tryz.prog 1000 (nV fn args))):jF f args x:=by
 simp only [Prod.mk.injEq] at hc
 exact zI hfn hc.1 hc.2.1 hc.2.2.1 hc.2.2.2 fun w00=>Ok.go (by kernel_rfl) mD 1000 (h w00)
theorem kgoW {I:World→Prop} {f:FuncId} {fn:Func} {args:List (AV Kn)} {x:AV Kn} (hfn:Tryz.prog.funcs[f]?=some fn) (hc:(fn.body.isSome,decide (args.length≤fn.ntmps),x.noPtr,args.all AV.noPtr)=(true,true,true,true))
 (h:∀ w00,I w00→Ok Tryz.prog f w00 (fun v w=>x.holds [] v w) (cW Tryz.prog 1000 (nV fn args))):FitsW Tryz.prog I f args x:=by
 simp only [Prod.mk.injEq] at hc
 exact xD hfn hc.1 hc.2.1 hc.2.2.1 hc.2.2.2 fun w00 hI=>Ok.go (by kernel_rfl) mD 1000 (h w00 hI)
theorem vH {f:FuncId} {fn:Func} {n:Nat} {T:TypeId} {l:List (Seg Kn)} {x:AV Kn} (hfn:Tryz.prog.funcs[f]?=some fn) (hc:(fn.body.isSome,decide (1≤fn.ntmps),x.noPtr,l.all Seg.noPtr)=(true,true,true,true))
 (h:∀ w00,Ok Tryz.prog f w00 (fun v w=>x.holds [] v w) (cW Tryz.prog 1000 (.items [.code (fn.body.getD .skip)] { slots := [.fv (.sc (.slc 0 0 n n))]++List.replicate (fn.ntmps-1) .un,blocks := [(T,l)],ro:=1 }))):jF f [.fv (.nsl n T l)] x:=by
 simp only [Prod.mk.injEq] at hc
 exact xE hfn hc.1 hc.2.1 hc.2.2.1 hc.2.2.2 fun w00=>Ok.go (by kernel_rfl) mD 1000 (h w00)
section
variable {f:FuncId} {w00:World} {Out:Value→World→Prop}
theorem nY {c:Cfg Kn} (fn:FuncId) (args:List (AV Kn)) {x:AV Kn} (h:jF fn args x) (hc:(c.callee Tryz.prog,c.args Tryz.prog,c.okT x)=(some fn,args,true)) (hfn:∀ (args:Array Value) (w:World),(callFunc fn args).run Tryz.prog w = .ok (.enter fn args) w)
 (hg:Ok Tryz.prog f w00 Out (cW Tryz.prog 1000 (c.give x))):Ok Tryz.prog f w00 Out c:=by
 simp only [Prod.mk.injEq] at hc
 exact Ok.call fn args h hc.1 hc.2.1 hc.2.2 hfn (Ok.go (by kernel_rfl) mD 1000 hg)
theorem aAs {I:World→Prop} {c:Cfg Kn} (hI:∀ w,Below w00.heap.size w00 w→I w) (fn:FuncId) (args:List (AV Kn)) {x:AV Kn} (h:FitsW Tryz.prog I fn args x) (hc:(c.callee Tryz.prog,c.args Tryz.prog,c.okT x,c.canB)=(some fn,args,true,true)) (hfn:∀ (args:Array Value) (w:World),(callFunc fn args).run Tryz.prog w = .ok (.enter fn args) w)
 (hg:Ok Tryz.prog f w00 Out (cW Tryz.prog 1000 (c.give x))):Ok Tryz.prog f w00 Out c:=by
 simp only [Prod.mk.injEq] at hc
 exact Ok.callW hI fn args h hc.1 hc.2.1 hc.2.2.1 hc.2.2.2 hfn (Ok.go (by kernel_rfl) mD 1000 hg)
theorem xF {c:Cfg Kn} (fn:FuncId) (k n:Nat) (T:TypeId) (l:List (Seg Kn)) {x:AV Kn} (h:jF fn [.fv (.nsl n T l)] x) (hc:(c.callee Tryz.prog,c.args Tryz.prog,c.okT x,c.mem[k]?)=(some fn,[.fv (.sc (.slc k 0 n n))],true,some (some (T,l)))) (hfn:∀ (args:Array Value) (w:World),(callFunc fn args).run Tryz.prog w = .ok (.enter fn args) w)
 (hg:Ok Tryz.prog f w00 Out (cW Tryz.prog 1000 (c.give x))):Ok Tryz.prog f w00 Out c:=by
 simp only [Prod.mk.injEq] at hc
 exact Ok.callS fn k n T l h hc.1 hc.2.1 hc.2.2.1 hc.2.2.2 hfn (Ok.go (by kernel_rfl) mD 1000 hg)
theorem mM {c:Cfg Kn} (op:Op) (x y:Operand) (X Y r:AV Kn) (hc:(c.op.map fun o=>o.op,c.okT r,c.ev x,c.ev y)=(some op,true,X,Y)) (hx:x∈op.operands) (hy:y∈op.operands)
 (h:∀ (ρ:Operand→Value) (o:Oper) (β:List Nat) (w:World),o.op=op→X.holds β (ρ x) w→Y.holds β (ρ y) w→∃ v,(execOp ρ o).run Tryz.prog w = .ok (.value v) w∧r.holds β v w)
 (hg:Ok Tryz.prog f w00 Out (cW Tryz.prog 1000 (c.give r))):Ok Tryz.prog f w00 Out c:=by
 simp only [Prod.mk.injEq] at hc
 obtain ⟨h1,h2,h3,h4⟩:=hc
 rw [Option.map_eq_some_iff] at h1
 obtain ⟨o,ho,ho2⟩:=h1
 refine Ok.op o r ho h2 (fun β ρ w _ _ hs => .inl ?_) (Ok.go (by kernel_rfl) mD 1000 hg)
 obtain ⟨v,e,hv⟩:=h ρ o β w ho2 (by rw [← h3];exact hs x (by rw [ho2];exact hx)) (by rw [← h4];exact hs y (by rw [ho2];exact hy))
 exact ⟨v,w,e,aB _ _,hv⟩
theorem kret {c:Cfg Kn} {fn:Func} {x:AV Kn} (hfn:Tryz.prog.funcs[f]?=some fn) (hc:(x.noPtr,c.res Tryz.prog fn)=(true,some x)):Ok Tryz.prog f w00 (fun v w=>x.holds [] v w) c:=by
 simp only [Prod.mk.injEq] at hc
 exact Ok.ret hfn hc.1 hc.2
end
theorem jK{f:FuncId}{w00:World}{Out:Value→World→Prop}{c:Cfg Kn}(op:Op)(x y:Operand)(X Y r:AV Kn)(h:∀(ρ:Operand→Value)(o:Oper)(β:List Nat)(w:World),o.op=op→X.holds β (ρ x) w→Y.holds β (ρ y) w→∃v,(execOp ρ o).run Tryz.prog w=.ok (.value v) w∧r.holds β v w)(hg:Ok Tryz.prog f w00 Out (cW Tryz.prog 1000 (c.give r)))(hc:(c.op.map fun o=>o.op,c.okT r,c.ev x,c.ev y)=(some op,true,X,Y):=by kernel_rfl)(hx:x∈op.operands:=by simp [Op.operands,Call.operands])(hy:y∈op.operands:=by simp [Op.operands,Call.operands]):Ok Tryz.prog f w00 Out c:=mM op x y X Y r hc hx hy h hg
theorem jC{f:FuncId}{w00:World}{Out:Value→World→Prop}{c:Cfg Kn}(fn:FuncId)(args:List (AV Kn)){x:AV Kn}(h:jF fn args x)(hg:Ok Tryz.prog f w00 Out (cW Tryz.prog 1000 (c.give x)))(hc:(c.callee Tryz.prog,c.args Tryz.prog,c.okT x)=(some fn,args,true):=by kernel_rfl)(hfn:∀(args:Array Value)(w:World),(callFunc fn args).run Tryz.prog w=.ok (.enter fn args) w:=by intro _ _;kernel_rfl):Ok Tryz.prog f w00 Out c:=nY fn args h hc hfn hg
theorem jR{f:FuncId}{w00:World}{c:Cfg Kn}{fn:Func}{x:AV Kn}(hfn:Tryz.prog.funcs[f]?=some fn)(hc:(x.noPtr,c.res Tryz.prog fn)=(true,some x):=by kernel_rfl):Ok Tryz.prog f w00 (fun v w=>x.holds [] v w) c:=kret hfn hc
theorem jG{f:FuncId}{fn:Func}{args:List (AV Kn)}{x:AV Kn}(hfn:Tryz.prog.funcs[f]?=some fn)(h:∀w00,Ok Tryz.prog f w00 (fun v w=>x.holds [] v w) (cW Tryz.prog 1000 (nV fn args)))(hc:(fn.body.isSome,decide (args.length≤fn.ntmps),x.noPtr,args.all AV.noPtr)=(true,true,true,true):=by kernel_rfl):jF f args x:=kgo hfn hc h
theorem jW{f:FuncId}{w00:World}{Out:Value→World→Prop}{I:World→Prop}{c:Cfg Kn}(hI:∀w,Below w00.heap.size w00 w→I w)(fn:FuncId)(args:List (AV Kn)){x:AV Kn}(h:FitsW Tryz.prog I fn args x)(hg:Ok Tryz.prog f w00 Out (cW Tryz.prog 1000 (c.give x)))(hc:(c.callee Tryz.prog,c.args Tryz.prog,c.okT x,c.canB)=(some fn,args,true,true):=by kernel_rfl)(hfn:∀(args:Array Value)(w:World),(callFunc fn args).run Tryz.prog w=.ok (.enter fn args) w:=by intro _ _;kernel_rfl):Ok Tryz.prog f w00 Out c:=aAs hI fn args h hc hfn hg
theorem xG {p q:Rat} (hp:Lf 36 p) (hq:Lf 36 q):jF 76 [num p,num q] (num (p+q)):=nX fun v v' w h h'=>uB v v' p q w h h' hp hq
theorem lO {p q:Rat} (hp:Lf 36 p) (hq:Lf 36 q):jF 125 [num p,num q] (num (p-q)):=nX fun v v' w h h'=>xC v v' p q w h h' hp hq
theorem dZ {p q:Rat} (hp:Lf 38 p) (hq:Lf 38 q):jF 122 [num p,num q] (num (p*q)):=nX fun v v' w h h'=>xB v v' p q w h h' hp hq
abbrev bl (b:Bool):AV Kn := .fv (.sc (.lit (.bool b)))
abbrev it (n:Int):AV Kn := .fv (.sc (.lit (.int .i64 n)))
theorem kP {p:Rat} {b:Bool} (h:decide (p=0)=b):jF 78 [num p] (bl b):=by
 intro β w vs hv
 obtain ⟨v,rfl,h1⟩:=eM hv
 refine (iH v p w (cK.1 h1)).mono fun e w' ⟨e1,h2⟩=>⟨_,e1,h2,?_⟩
 rw [h]
 exact ⟨rfl,rfl⟩
theorem signF {p:Rat}:jF 88 [num p] (it (zF p)):=by
 intro β w vs hv
 obtain ⟨v,rfl,h1⟩:=eM hv
 exact (zG v p w (cK.1 h1)).mono fun e w' ⟨e1,h2⟩=>⟨_,e1,h2,rfl,rfl⟩
theorem Lf.addn {n:Nat} {p q:Rat} (hp:Lf (n-2) p) (hq:Lf (n-2) q) (hn:2≤n):Lf n (p+q):=(Lf.add hp hq).mono (by omega)
theorem Lf.subn {n:Nat} {p q:Rat} (hp:Lf (n-2) p) (hq:Lf (n-2) q) (hn:2≤n):Lf n (p-q):=by
 rw [Rat.sub_eq_add_neg]
 exact Lf.addn hp hq.neg hn
theorem Lf.muln {n:Nat} {p q:Rat} (hp:Lf (n-1) p) (hq:Lf (n-1) q) (hn:1≤n):Lf n (p*q):=(Lf.mul hp hq).mono (by omega)
end Ab
namespace Ab
open Go.RowKit
abbrev fnv (F:FuncId):AV Kn := .fv (.sc (.lit (.func (.func F) #[] #[])))
abbrev xH (F:FuncId):Prop := ∀ (args:Array Value) (w:World),(callFunc F args).run Tryz.prog w = .ok (.enter F args) w
theorem aAe {F:FuncId} {a1 a2 a3 b1 b2 b3 r1 r2 r3:Rat} (hF:xH F) (h1:jF F [num a1,num b1] (num r1)) (h2:jF F [num a2,num b2] (num r2)) (h3:jF F [num a3,num b3] (num r3)) :
 jF 74 [fnv F,vc a1 a2 a3,vc b1 b2 b3] (vc r1 r2 r3):=by
 refine jG Tryz.func74 fun w00=>?_
 refine nY F [num a1,num b1] (h1) (by kernel_rfl) (hF) ?_
 refine nY F [num a2,num b2] (h2) (by kernel_rfl) (hF) ?_
 refine nY F [num a3,num b3] (h3) (by kernel_rfl) (hF) ?_
 exact jR Tryz.func74
abbrev cloN (F:FuncId) (c:Rat):AV Kn := .fv (.clo F [(true,[nb c])] [])
theorem eachC {F:FuncId} {c a1 a2 a3 r1 r2 r3:Rat} (hF:xH F) (h1:jF F [num c,num a1] (num r1)) (h2:jF F [num c,num a2] (num r2)) (h3:jF F [num c,num a3] (num r3)) :
 jF 132 [cloN F c,vc a1 a2 a3] (vc r1 r2 r3):=by
 refine jG Tryz.func132 fun w00=>?_
 refine nY F [num c,num a1] (h1) (by kernel_rfl) (hF) ?_
 refine nY F [num c,num a2] (h2) (by kernel_rfl) (hF) ?_
 refine nY F [num c,num a3] (h3) (by kernel_rfl) (hF) ?_
 exact jR Tryz.func132
abbrev iv (a b c:Int):AV Kn := .fv (.ag [.lit (.int .i64 a),.lit (.int .i64 b),.lit (.int .i64 c)])
abbrev M64 (n:Int):Prop := -9223372036854775808≤n∧n≤9223372036854775807
theorem Fits.args {P:Program} {f:FuncId} {l l' : List (AV Kn)} {x:AV Kn} (h:Fits P f l x) (hl:∀ β vs w,aZ β l' vs w→aZ β l vs w):Fits P f l' x:=fun β w vs hv=>h β w vs (hl β vs w hv)
abbrev zeroN:AV Kn := .fv (.ag [.lit (.int .i64 0),.lit (.int .i64 0),.lit (.pointer none)])
theorem xI {β:List Nat} {v:Value} {w:World} (h:zeroN.holds β v w):(num 0).holds β v w:=by
 obtain ⟨cs,rfl,a,r,rfl,⟨rfl,_⟩,b,r2,rfl,⟨rfl,_⟩,c,r3,rfl,⟨rfl,_⟩,e⟩:=h
 rw [show r3 = [] from e]
 exact cK.2 (.inl ⟨mQ,rfl⟩)
section
variable {a1 a2 a3 b1 b2 b3 c:Rat}
theorem uC (h1:Lf 36 a1) (h2:Lf 36 a2) (h3:Lf 36 a3) (k1:Lf 36 b1) (k2:Lf 36 b2) (k3:Lf 36 b3):jF 62 [vc a1 a2 a3,vc b1 b2 b3] (vc (a1-b1) (a2-b2) (a3-b3)):=by
 refine jG Tryz.func62 fun w00=>?_
 refine jC 74 [fnv 125,vc a1 a2 a3,vc b1 b2 b3] (aAe Tryz.call125 (lO h1 k1) (lO h2 k2) (lO h3 k3)) ?_
 exact jR Tryz.func62
theorem zJ (hc:Lf 38 c) (h1:Lf 38 a1) (h2:Lf 38 a2) (h3:Lf 38 a3):jF 67 [vc a1 a2 a3,num c] (vc (c*a1) (c*a2) (c*a3)):=by
 refine jG Tryz.func67 fun w00=>?_
 refine jC 132 [cloN 122 c,vc a1 a2 a3] (eachC Tryz.call122 (dZ hc h1) (dZ hc h2) (dZ hc h3)) ?_
 exact jR Tryz.func67
theorem totalF {T:TypeId} (h1:Lf 32 a1) (h2:Lf 32 a2) (h3:Lf 32 a3):jF 126 [.fv (.nsl 3 T [nb a1,nb a2,nb a3])] (num (a1+a2+a3)):=by
 refine vH Tryz.func126 (by kernel_rfl) fun w00=>?_
 refine jC 76 [zeroN,num a1] (Fits.args (xG (p:=0) (q:=a1) (Lf.zero _) (h1.mono (by decide))) (fun β vs w ⟨v,r,e,k1,k2⟩=>⟨v,r,e,xI k1,k2⟩)) ?_
 refine jC 76 [num (0+a1),num a2] (xG ((Lf.addn (n:=34) (Lf.zero _) h1 (by decide)).mono (by decide)) (h2.mono (by decide))) ?_
 refine jC 76 [num (0+a1+a2),num a3] (xG (Lf.addn (n:=36) (Lf.addn (n:=34) (Lf.zero _) h1 (by decide)) (h2.mono (by decide)) (by decide)) (h3.mono (by decide))) ?_
 rw [show a1+a2+a3=0+a1+a2+a3 by rw [Rat.zero_add]]
 exact jR Tryz.func126
theorem xJ (h1:Lf 35 a1) (h2:Lf 35 a2) (h3:Lf 35 a3) (k1:Lf 35 b1) (k2:Lf 35 b2) (k3:Lf 35 b3) :
 jF 55 [vc a1 a2 a3,vc b1 b2 b3] (vc (a2*b3-a3*b2) (a3*b1-a1*b3) (a1*b2-a2*b1)):=by
 refine jG Tryz.func55 fun w00=>?_
 refine jC 122 [num a2,num b3] (dZ (h2.mono (by decide)) (k3.mono (by decide))) ?_
 refine jC 122 [num a3,num b2] (dZ (h3.mono (by decide)) (k2.mono (by decide))) ?_
 refine jC 125 [num (a2*b3),num (a3*b2)] (lO (h2.mul k3) (h3.mul k2)) ?_
 refine jC 122 [num a3,num b1] (dZ (h3.mono (by decide)) (k1.mono (by decide))) ?_
 refine jC 122 [num a1,num b3] (dZ (h1.mono (by decide)) (k3.mono (by decide))) ?_
 refine jC 125 [num (a3*b1),num (a1*b3)] (lO (h3.mul k1) (h1.mul k3)) ?_
 refine jC 122 [num a1,num b2] (dZ (h1.mono (by decide)) (k2.mono (by decide))) ?_
 refine jC 122 [num a2,num b1] (dZ (h2.mono (by decide)) (k1.mono (by decide))) ?_
 refine jC 125 [num (a1*b2),num (a2*b1)] (lO (h1.mul k2) (h2.mul k1)) ?_
 exact jR Tryz.func55
theorem xK (h1:Lf 31 a1) (h2:Lf 31 a2) (h3:Lf 31 a3) (k1:Lf 31 b1) (k2:Lf 31 b2) (k3:Lf 31 b3):jF 56 [vc a1 a2 a3,vc b1 b2 b3] (num (a1*b1+a2*b2+a3*b3)):=by
 refine jG Tryz.func56 fun w00=>?_
 refine jC 74 [fnv 122,vc a1 a2 a3,vc b1 b2 b3] (aAe Tryz.call122 (dZ (h1.mono (by decide)) (k1.mono (by decide))) (dZ (h2.mono (by decide)) (k2.mono (by decide))) (dZ (h3.mono (by decide)) (k3.mono (by decide)))) ?_
 refine xF 126 3 3 94 [nb (a1*b1),nb (a2*b2),nb (a3*b3)] (totalF (h1.mul k1) (h2.mul k2) (h3.mul k3)) (by kernel_rfl) Tryz.call126 ?_
 exact jR Tryz.func56
theorem kQ {z:Bool} (h:(decide (a1=0)&&decide (a2=0)&&decide (a3=0))=z):jF 54 [vc a1 a2 a3] (bl z):=by
 intro β w vs hv
 obtain ⟨v,rfl,h1⟩:=eM hv
 refine (vG v a1 a2 a3 w (nW.1 h1)).mono fun e w' ⟨e1,h2⟩=>⟨_,e1,h2,?_⟩
 rw [h]
 exact ⟨rfl,rfl⟩
end
end Ab
namespace Ab
open Go.RowKit Pl
def csNt (a:Nat):CS Kn where
 size:=1
 cold:=true
 pred cs w := ∃ v,cs = [v]∧Nt w v a
 stable:=fun cs w w' ⟨v,e,h⟩ hx=>⟨v,e,Nt.ext (K:=Kn) (fun _=>rfl) h hx⟩
 len:=fun cs w ⟨v,e,h⟩=>by rw [e];rfl
 one:=fun cs w ⟨v,e,h⟩=>by
  obtain ⟨A,n,c,rfl⟩:=Nt.form h
  rw [e]
  intro c hc
  rw [List.mem_singleton] at hc
  subst hc
  rfl
 iscold:=fun _ cs w ⟨v,e,h⟩=>by
  obtain ⟨A,n,c,rfl⟩:=Nt.form h
  rw [e]
  intro c hc
  rw [List.mem_singleton] at hc
  subst hc
  rfl
abbrev xL (a:Nat):Seg Kn := .sp (csNt a)
abbrev nt (a:Nat):AV Kn := .fv (.sc (xL a))
theorem bK {β:List Nat} {v:Value} {w:World} {a:Nat}:(nt a).holds β v w↔Nt w v a :=
 ⟨fun ⟨u,e,h⟩=>by injection e with e;rw [e];exact h,fun h=>⟨v,rfl,h⟩⟩
abbrev zK (neg:Bool) (n d:Nat):AV Kn := .fv (.ag [.lit (.bool neg),xL n,xL d])
abbrev rQ (q:Rat):AV Kn:=zK (decide (q.num<0)) q.num.natAbs q.den
theorem vI {β:List Nat} {v:Value} {w:World} {neg:Bool} {n d:Nat}:(zK neg n d).holds β v w↔∃ s1 s2,v = .agg #[.bool neg,s1,s2]∧Nt w s1 n∧Nt w s2 d:=by
 constructor
 ·rintro ⟨cs,rfl,a,r,rfl,⟨rfl,_⟩,b,r2,rfl,⟨s1,rfl,h1⟩,c,r3,rfl,⟨s2,rfl,h2⟩,e⟩
  rw [show r3 = [] from e]
  exact ⟨s1,s2,rfl,h1,h2⟩
 ·rintro ⟨s1,s2,rfl,h1,h2⟩
  exact ⟨[.bool neg,s1,s2],rfl,[.bool neg],_,rfl,⟨rfl,rfl⟩,[s1],_,rfl,⟨s1,rfl,h1⟩,[s2],[],rfl,⟨s2,rfl,h2⟩,rfl⟩
theorem lP {β:List Nat} {v:Value} {w:World} {q:Rat}:(rQ q).holds β v w↔Fr w v q:=vI
theorem cE {q:Rat}:jF 138 [num q] (rQ q):=by
 intro β w vs hv
 obtain ⟨v,rfl,h1⟩:=eM hv
 exact (aX v q w (cK.1 h1)).mono fun e w' ⟨u,e,h1,h2⟩=>⟨u,e,h2,lP.2 h1⟩
theorem fH {q:Rat}:jF 37 [rQ q] (num q):=by
 intro β w vs hv
 obtain ⟨v,rfl,h1⟩:=eM hv
 exact (dX v q w (lP.1 h1)).mono fun e w' ⟨u,e,h1,h2⟩=>⟨u,e,h2,cK.2 h1⟩
theorem oM {a b:Nat} (ha:Lv 40 a) (hb:Lv 40 b) (h0:0<a∨0<b):jF 91 [nt a,nt b] (nt (Nat.gcd a b)):=by
 intro β w vs hv
 obtain ⟨v,u,rfl,h1,h2⟩:=iX hv
 exact (mP v u a b w (bK.1 h1) (bK.1 h2) ha hb h0).mono fun e w' ⟨u,e,h1,h2⟩=>⟨u,e,h2,bK.2 h1⟩
theorem zL {a b:Nat} (ha:Lv 40 a) (hb:Lv 40 b):jF 103 [nt a,nt b] (nt (a*b)):=by
 intro β w vs hv
 obtain ⟨v,u,rfl,h1,h2⟩:=iX hv
 exact (eG (bK.1 h1) (bK.1 h2) ha hb).mono fun e w' ⟨u,e,h1,h2⟩=>⟨u,e,h2,bK.2 h1⟩
theorem fB {a b:Nat} (ha:Lv 40 a) (hb:0<b):jF 101 [nt a,nt b] (.tup [.sc (xL (a/b)),.sc (xL (a%b))]):=by
 intro β w vs hv
 obtain ⟨v,u,rfl,h1,h2⟩:=iX hv
 refine (cU (bK.1 h1) (bK.1 h2) ha hb).mono fun e w' ⟨u,u',e,h1,h2,h3⟩=>⟨_,e,h3,?_⟩
 exact ⟨[u,u'],rfl,u,_,rfl,⟨u,rfl,h1⟩,u',_,rfl,⟨u',rfl,h2⟩,rfl⟩
theorem sU {a:Nat} (ha:a<aC):jF 104 [.fv (.sc (.lit (.int .u64 (a:Int))))] (nt a):=by
 intro β w vs hv
 obtain ⟨v,rfl,h1⟩:=eM hv
 rw [aN h1]
 exact (bD a ha w).mono fun e w' ⟨u,e,h1,h2⟩=>⟨u,e,h2,bK.2 h1⟩
theorem jL {neg:Bool} {n d:Nat} (hn:Lv 40 n) (hd:Lv 40 d) (hd0:0<d):jF 35 [bl neg,nt n,nt d] (rQ (mkRat (sg neg n) d)):=by
 rintro β w vs ⟨v,r,rfl,h0,hv⟩
 obtain ⟨v',u,rfl,h1,h2⟩:=iX hv
 rw [aN h0]
 exact (lM neg n d v' u w (bK.1 h1) (bK.1 h2) hn hd hd0).mono fun e w' ⟨u,e,h1,h2⟩=>⟨u,e,h2,lP.2 h1⟩
abbrev hf (a b c d:Rat):AV Kn := .fv (.ag [nb a,nb b,nb c,nb d])
abbrev frm (o1 o2 o3 x1 x2 x3 y1 y2 y3 z1 z2 z3:Rat):AV Kn := .fv (.ag [nb o1,nb o2,nb o3,nb x1,nb x2,nb x3,nb y1,nb y2,nb y3,nb z1,nb z2,nb z3])
abbrev dt (a1 a2 a3 b1 b2 b3:Rat):Rat:=a1*b1+a2*b2+a3*b3
section
variable {x1 x2 x3 y1 y2 y3 z1 z2 z3 r1 r2 r3:Rat} {F:FuncId}
variable {o1 o2 o3 p1 p2 p3:Rat}
structure Lm (k:Nat) (x1 x2 x3 y1 y2 y3 z1 z2 z3:Rat):Prop where
 x1:Lf k x1
 x2:Lf k x2
 x3:Lf k x3
 y1:Lf k y1
 y2:Lf k y2
 y3:Lf k y3
 z1:Lf k z1
 z2:Lf k z2
 z3:Lf k z3
structure Lv3 (k:Nat) (a b c:Rat):Prop where
 a:Lf k a
 b:Lf k b
 c:Lf k c
theorem Lm.mono {k l:Nat} (h:Lm k x1 x2 x3 y1 y2 y3 z1 z2 z3) (hk:k≤l):Lm l x1 x2 x3 y1 y2 y3 z1 z2 z3:=⟨h.x1.mono hk,h.x2.mono hk,h.x3.mono hk,h.y1.mono hk,h.y2.mono hk,h.y3.mono hk,h.z1.mono hk,h.z2.mono hk,h.z3.mono hk⟩
theorem Lv3.mono {k l:Nat} {a b c:Rat} (h:Lv3 k a b c) (hk:k≤l):Lv3 l a b c:=⟨h.a.mono hk,h.b.mono hk,h.c.mono hk⟩
abbrev ld (p1 p2 p3 x y z:Rat):Rat:=p1*x+p2*y+p3*z
theorem rR (h:Lm 31 x1 x2 x3 y1 y2 y3 z1 z2 z3) (hxy:dt x1 x2 x3 y1 y2 y3=0) (hyz:dt y1 y2 y3 z1 z2 z3=0) (hzx:dt z1 z2 z3 x1 x2 x3=0) :
 jF 142 [frm o1 o2 o3 x1 x2 x3 y1 y2 y3 z1 z2 z3] (bl true):=by
 refine jG Tryz.func142 fun w00=>?_
 refine jC 56 [vc x1 x2 x3,vc y1 y2 y3] (xK h.x1 h.x2 h.x3 h.y1 h.y2 h.y3) ?_
 refine jC 78 [num (dt x1 x2 x3 y1 y2 y3)] (kP (b:=true) (by rw [decide_eq_true_eq];exact hxy)) ?_
 refine jC 56 [vc y1 y2 y3,vc z1 z2 z3] (xK h.y1 h.y2 h.y3 h.z1 h.z2 h.z3) ?_
 refine jC 78 [num (dt y1 y2 y3 z1 z2 z3)] (kP (b:=true) (by rw [decide_eq_true_eq];exact hyz)) ?_
 refine jC 56 [vc z1 z2 z3,vc x1 x2 x3] (xK h.z1 h.z2 h.z3 h.x1 h.x2 h.x3) ?_
 refine jC 78 [num (dt z1 z2 z3 x1 x2 x3)] (kP (b:=true) (by rw [decide_eq_true_eq];exact hzx)) ?_
 exact jR Tryz.func142
end
def vJ (v:Value) (h:v.oneCell'=true) (c:Bool) (hc:c=true→Kn v=false):CS Kn where
 size:=1
 cold:=c
 pred cs _:=cs = [v]
 stable _ _ _ h _:=h
 len _ _ h:=by rw [h];rfl
 one _ _ hp:=by rw [hp];intro c hc;rw [List.mem_singleton] at hc;rw [hc];exact h
 iscold hb _ _ hp:=by rw [hp];intro d hd;rw [List.mem_singleton] at hd;rw [hd];exact hc hb
abbrev eS (s:ByteArray):Seg Kn := .sp (vJ (.string s) rfl true (fun _=>rfl))
abbrev iM (n:Int):Seg Kn := .sp (vJ (.int .i64 n) rfl true (fun _=>rfl))
abbrev isU (n:Int):Seg Kn := .sp (vJ (.int .u64 n) rfl false (fun h=>by cases h))
abbrev tx (s:ByteArray):AV Kn := .fv (.sc (eS s))
abbrev lt (s:ByteArray):AV Kn := .fv (.sc (.lit (.string s)))
theorem aU {v u:Value} {h:v.oneCell'=true} {c:Bool} {hc:c=true→Kn v=false} {β:List Nat} {w:World} (k:(AV.fv (.sc (.sp (vJ v h c hc))):AV Kn).holds β u w):u=v:=by
 have:[u] = [v]:=k
 injection this
theorem bQ {v:Value} {h:v.oneCell'=true} {c:Bool} {hc:c=true→Kn v=false} {β:List Nat} {w:World}:(AV.fv (.sc (.sp (vJ v h c hc))):AV Kn).holds β v w:=rfl
theorem bA {v:Value} (h:v.oneCell'=true) {β:List Nat} {w:World}:(AV.fv (.sc (.lit v)):AV Kn).holds β v w:=⟨rfl,h⟩
def Gl (w:World):Prop:=Laid w∧∃ m,w.cell? ⟨0,0,none⟩=some (.int .i64 m)
abbrev jX(f:FuncId)(l:List (AV Kn))(x:AV Kn):Prop:=FitsW Tryz.prog Gl f l x
theorem Gl.below {w w' : World} (h:Gl w) (hb:Below w.heap.size w w'):Gl w':=by
 refine ⟨h.1.below hb,?_⟩
 obtain ⟨m,hm⟩:=h.2
 exact ⟨m,(hb.cell (p:=⟨0,0,none⟩) (block_lt_of_cell hm)).trans hm⟩
theorem xM {w00:World} (h:Gl w00):∀ w,Below w00.heap.size w00 w→Gl w:=fun _ hb=>h.below hb
theorem jY{f:FuncId}{fn:Func}{args:List (AV Kn)}{x:AV Kn}(hfn:Tryz.prog.funcs[f]?=some fn)(h:∀w00,(∀w,Below w00.heap.size w00 w→Gl w)→Ok Tryz.prog f w00 (fun v w=>x.holds [] v w) (cW Tryz.prog 1000 (nV fn args)))(hc:(fn.body.isSome,decide (args.length≤fn.ntmps),x.noPtr,args.all AV.noPtr)=(true,true,true,true):=by kernel_rfl):jX f args x:=kgoW hfn hc fun w00 hG=>h w00 (xM hG)
def decB (n:Nat):ByteArray:=⟨(Lib.decDigits n).toArray⟩
def overB (q:Rat):ByteArray:=if q.num<0 then ⟨#[45]⟩++decB q.num.natAbs else decB q.num.natAbs
theorem kR {a:Nat} (ha:Lv 20 a):jX 218 [nt a] (tx (decB a)):=by
 intro β w vs hG hv
 obtain ⟨v,rfl,h1⟩:=eM hv
 exact (wY v a w (bK.1 h1) ha hG.1).mono fun e w' ⟨e1,h2⟩=>⟨_,e1,h2,bQ⟩
def pD (n:Int):ByteArray:=⟨(Lib.itoa n).toArray⟩
theorem rS {n:Int} (hn:M64 n):jX 219 [it n,it 10] (tx (pD n)):=by
 intro β w vs hG hv
 obtain ⟨v,u,rfl,h1,h2⟩:=iX hv
 rw [aN h1,aN h2]
 refine (Tryz.internal_strconv_FormatInt_10 n hn.1 hn.2 w hG.1).mono fun e w' ⟨e1,k,os,e2⟩=>⟨_,e1,?_,bQ⟩
 rw [e2]
 exact (gY w k).trans (nL (w.drewN k) os)
theorem nZ {n:Int} (hn:M64 n):jX 177 [it n,it 10] (tx (pD n)):=by
 refine jY Tryz.func177 fun w00 hI=>?_
 refine jW hI 219 [it n,it 10] (rS hn) ?_
 exact jR Tryz.func177
abbrev smA (q:Rat):AV Kn := .fv (.ag [.lit (.int .i64 q.num),.lit (.int .i64 ((q.den:Int)-1)),.lit (.pointer none)])
theorem xN {β:List Nat} {v:Value} {w:World} {q:Rat} (h:Sm q):(num q).holds β v w↔(smA q).holds β v w:=by
 rw [cK]
 constructor
 ·rintro (⟨_,rfl⟩|⟨h2,_⟩)
  ·exact ⟨[_,_,_],rfl,[_],_,rfl,⟨rfl,rfl⟩,[_],_,rfl,⟨rfl,rfl⟩,[_],[],rfl,⟨rfl,rfl⟩,rfl⟩
  ·exact absurd h h2
 ·rintro ⟨cs,rfl,a,r,rfl,⟨rfl,_⟩,b,r2,rfl,⟨rfl,_⟩,c,r3,rfl,⟨rfl,_⟩,e⟩
  rw [show r3 = [] from e]
  exact .inl ⟨h,rfl⟩
theorem denF {q:Rat} (h:Sm q):jF 124 [smA q] (it q.den):=by
 intro β w vs hv
 obtain ⟨v,rfl,h1⟩:=eM hv
 obtain ⟨cs,rfl,a,r,rfl,⟨rfl,_⟩,b,r2,rfl,⟨rfl,_⟩,c,r3,rfl,⟨rfl,_⟩,e⟩:=h1
 rw [show r3 = [] from e]
 have hd:=eZ h
 refine (iG q.num ((q.den:Int)-1) none w (by omega) (by omega)).mono fun e w' ⟨e1,h2⟩=>⟨_,e1,h2,?_⟩
 rw [show ((q.den:Int)-1+1)=q.den by omega]
 exact bA rfl
theorem pY {P:Program} {o:Oper} {ρ:Operand→Value} {w:World} {T T' : TypeId} {x y:Operand} {a b:ByteArray} (ho:o.op = .binOp .add T x y T') (hx:ρ x = .string a) (hy:ρ y = .string b) (hs:a.size+b.size≤9223372036854775807) :
 (execOp ρ o).run P w = .ok (.value (.string (a++b))) w:=by
 simp only [execOp,ho,hx,hy]
 refine bG ?_
 have hne:¬ (((a.size+b.size:Nat):Int) > IntKind.i64.max):=by
  have:IntKind.i64.max=9223372036854775807:=by decide
  rw [this]
  omega
 simp only [eqGuard,binOp,Op.stringOp,if_neg hne]
 rfl
theorem eU {a k:Nat} (h:a<10^(k+1)):(decB a).size≤k+1:=by
 exact mV h
theorem xO {q:Rat} (hq:Lf 20 q) (hs:(decB q.num.natAbs).size≤1000000000):jX 176 [rQ q] (.tup [.sc (eS (overB q)),.sc (eS (decB q.den))]):=by
 by_cases hn:q.num<0
 ·have hd:decide (q.num<0)=true:=by simpa using hn
  have ho:overB q=⟨#[45]⟩++decB q.num.natAbs:=by rw [overB,if_pos hn]
  rw [ho,show rQ q=zK true q.num.natAbs q.den by rw [rQ,hd]]
  obtain ⟨hq1,hq2⟩:=hq
  generalize q.num.natAbs=n at *
  have hcat:(⟨#[45]⟩:ByteArray).size+(decB n).size≤9223372036854775807:=by
   have:(⟨#[45]⟩:ByteArray).size=1:=rfl
   omega
  refine jY Tryz.func176 fun w00 hI=>?_
  refine jW hI 218 [nt n] (kR hq1) ?_
  refine jW hI 218 [nt q.den] (kR hq2) ?_
  refine jK (.binOp .add 9 (.const (.string ⟨#[45]⟩)) (.tmp 12) 9) (.const (.string ⟨#[45]⟩)) (.tmp 12) (lt ⟨#[45]⟩) (tx (decB n)) (tx (⟨#[45]⟩++decB n)) (fun ρ o β w ho hx hy=>⟨_,pY ho (aN hx) (aU hy) hcat,bQ⟩) ?_
  exact jR Tryz.func176
 ·have hd:decide (q.num<0)=false:=by simpa using hn
  have ho:overB q=decB q.num.natAbs:=by rw [overB,if_neg hn]
  rw [ho,show rQ q=zK false q.num.natAbs q.den by rw [rQ,hd]]
  refine jY Tryz.func176 fun w00 hI=>?_
  refine jW hI 218 [nt q.num.natAbs] (kR hq.1) ?_
  refine jW hI 218 [nt q.den] (kR hq.2) ?_
  exact jR Tryz.func176
theorem vK (q:Rat):pD q.num=overB q:=by
 unfold pD overB decB Lib.itoa
 split
 ·congr 1
 ·rename_i h
  congr 3
  omega
theorem xP (d:Nat):pD (d:Int)=decB d:=by
 unfold pD decB Lib.itoa
 rw [if_neg (by omega)]
 rfl
theorem zM {q:Rat} (h:Sm q):jX 109 [smA q] (.tup [.sc (eS (overB q)),.sc (eS (decB q.den))]):=by
 have hn:=fA h
 have hd:=eZ h
 rw [← vK,← xP]
 refine jY Tryz.func109 fun w00 hI=>?_
 refine jW hI 177 [it q.num,it 10] (nZ ⟨by have:=hn.1;omega,by have:=hn.2;omega⟩) ?_
 refine jC 124 [smA q] (denF h) ?_
 refine jW hI 177 [it q.den,it 10] (nZ ⟨by omega,hd.2⟩) ?_
 exact jR Tryz.func109
theorem vL {I:World→Prop} {f:FuncId} {fn:Func} {q:Rat} {x:AV Kn} (hq:¬ Sm q) (hfn:Tryz.prog.funcs[f]?=some fn) (hc:(fn.body.isSome,decide (1≤fn.ntmps),x.noPtr)=(true,true,true))
 (h:∀ w00,I w00→Ok Tryz.prog f w00 (fun v w=>x.holds [] v w) (cW Tryz.prog 1000 (.items [.code (fn.body.getD .skip)] { slots := [.fv (.ag [.lit (.int .i64 0),.lit (.int .i64 0),.ptr 0 0])]++List.replicate (fn.ntmps-1) .un,blocks := [(80,[.lit (.bool (decide (q.num<0))),xL q.num.natAbs,xL q.den])],ro:=1 }))) :
 FitsW Tryz.prog I f [num q] x:=by
 simp only [Prod.mk.injEq] at hc
 intro β w vs hI hv
 obtain ⟨v,rfl,h1⟩:=eM hv
 rcases cK.1 h1 with ⟨h2,_⟩|⟨_,g,s1,s2,rfl,hg,n1,n2⟩
 ·exact absurd h2 hq
 have hb2:fn.body=some (fn.body.getD .skip):=by
  cases hb2:fn.body with
  | none=>rw [hb2] at hc;cases hc.1
  | some c=>rfl
 have hl:holdsL [g] [Seg.lit (.bool (decide (q.num<0))),xL q.num.natAbs,xL q.den] [.bool (decide (q.num<0)),s1,s2] w :=
  ⟨[.bool (decide (q.num<0))],_,rfl,⟨rfl,rfl⟩,[s1],_,rfl,⟨s1,rfl,n1⟩,[s2],[],rfl,⟨s2,rfl,n2⟩,rfl⟩
 refine (eA (w00:=w) (Out:=fun v w=>x.holds [] v w) hfn hb2 [.fv (.ag [.lit (.int .i64 0),.lit (.int .i64 0),.ptr 0 0])] [(80,[.lit (.bool (decide (q.num<0))),xL q.num.natAbs,xL q.den])] [g] _ (fn.ntmps-1) (by simp at hc;simp;omega)
  ⟨_,[],rfl,⟨[.int .i64 0,.int .i64 0,.pointer (some ⟨g,0,none⟩)],rfl,[_],_,rfl,⟨rfl,rfl⟩,[_],_,rfl,⟨rfl,rfl⟩,[_],[],rfl,⟨g,rfl,rfl⟩,rfl⟩,rfl⟩ rfl (by simp) (fun k T l hk=>?_) (by simp;exact lt_of_block hg) (Ok.go (by kernel_rfl) mD 1000 (h w hI)).good).mono ?_
 ·match k,hk with
  | 0,hk =>
    simp at hk
    obtain ⟨rfl,rfl⟩:=hk
    exact ⟨g,_,rfl,hg,hl⟩
 ·rintro e w' ⟨v,rfl,hb,ho⟩
  exact ⟨v,rfl,hb,AV.noPtr_holds hc.2.2 ho⟩
theorem xQ {q:Rat} (hq:Lf 20 q) (hs:(decB q.num.natAbs).size≤1000000000):jX 109 [num q] (.tup [.sc (eS (overB q)),.sc (eS (decB q.den))]):=by
 by_cases h:Sm q
 ·intro β w vs hG hv
  obtain ⟨v,r,rfl,h1,h2⟩:=hv
  exact zM h β w _ hG ⟨v,r,rfl,(xN h).1 h1,h2⟩
 ·refine vL h Tryz.func109 (by kernel_rfl) fun w00 hG=>?_
  have hI:=xM hG
  refine jK (.binOp .neq 61 (.tmp 5) (.const (.pointer none)) 61) (.tmp 5) (.const (.pointer none)) (.fv (.sc (.ptr 0 0))) (.fv (.sc (.lit (.pointer none)))) (bl true) (fun ρ o β w ho hx hy=>?_) ?_
  ·obtain ⟨g,_,hx⟩:=dN hx
   have hy:=aN hy
   refine ⟨.bool true,?_,bA rfl⟩
   simp only [execOp,ho,hx,hy]
   exact bG (bX (by kernel_rfl) w)
  refine jW hI 176 [rQ q] (xO hq hs) ?_
  exact jR Tryz.func109
theorem trimF {s t:ByteArray} (h:(⟨(Lib.trimPrefix s.data.toList [45]).toArray⟩:ByteArray)=t):jF 110 [tx s,lt ⟨#[45]⟩] (tx t):=by
 intro β w vs hv
 obtain ⟨v,u,rfl,h1,h2⟩:=iX hv
 rw [aU h1,aN h2]
 refine (Tryz.strings_TrimPrefix s ⟨#[45]⟩ w).mono fun e w' ⟨e1,e2⟩=>⟨_,e1,by rw [e2];exact aB _ _,?_⟩
 rw [← h]
 exact bQ
theorem vM {q:Rat}:(⟨(Lib.trimPrefix (overB q).data.toList [45]).toArray⟩:ByteArray)=decB q.num.natAbs:=by
 unfold overB
 split
 ·have:(⟨#[45]⟩++decB q.num.natAbs:ByteArray).data.toList=45::Lib.decDigits q.num.natAbs:=by
   simp [decB]
  rw [this]
  simp [Lib.trimPrefix,Lib.hasPrefix,decB]
 ·simp only [decB]
  have hd:=(bE q.num.natAbs).2
  unfold Lib.trimPrefix
  split
  ·rename_i hp
   exfalso
   have h0:=hd.2
   cases hl:Lib.decDigits q.num.natAbs with
   | nil=>exact h0 hl
   | cons c r =>
     rw [hl] at hp
     simp [Lib.hasPrefix] at hp
     have:=hd.1 c (by rw [hl];simp)
     rw [← hp] at this
     revert this
     decide
  ·rfl
theorem uD {o:Oper} {ρ:Operand→Value} {w:World} {t:Tmp} {T:TypeId} {s:ByteArray} (ho:o.op = .call ⟨.builtin .len,#[.tmp t],#[T]⟩) (hT:Tryz.prog.underlying T=some .string) (hx:ρ (.tmp t) = .string s) :
 (execOp ρ o).run Tryz.prog w = .ok (.value (.int .i64 s.size)) w:=by
 have hm:(#[Operand.tmp t].map ρ) = #[.string s]:=by simp [hx]
 simp only [execOp,ho,resolve,Sem.run_bind,Sem.run_pure,Result.andThen,hm,invoke,builtin,Builtin.len_]
 simp [Sem.run_bind,run_underlying hT,Result.andThen,goInt]
section
variable {f:FuncId} {w00:World} {Out:Value→World→Prop}
theorem klen {c:Cfg Kn} (t:Tmp) (s:ByteArray) (hc:(c.op.map fun o=>o.op,c.okT (.fv (.sc (iM s.size))),c.ev (.tmp t))=(some (.call ⟨.builtin .len,#[.tmp t],#[9]⟩),true,tx s))
 (hg:Ok Tryz.prog f w00 Out (cW Tryz.prog 1000 (c.give (.fv (.sc (iM s.size)))))):Ok Tryz.prog f w00 Out c:=by
 simp only [Prod.mk.injEq] at hc
 obtain ⟨h1,h2,h3⟩:=hc
 exact mM _ (.tmp t) (.tmp t) (tx s) (tx s) (.fv (.sc (iM s.size))) (by rw [h1,h2,h3]) (by simp [Op.operands,Call.operands]) (by simp [Op.operands,Call.operands])
  (fun ρ o β w ho hx _=>⟨_,uD ho Tryz.underlying9 (aU hx),bQ⟩) hg
theorem jO{c:Cfg Kn} (t:Tmp) (s:ByteArray)(hg:Ok Tryz.prog f w00 Out (cW Tryz.prog 1000 (c.give (.fv (.sc (iM s.size))))))(hc:(c.op.map fun o=>o.op,c.okT (.fv (.sc (iM s.size))),c.ev (.tmp t))=(some (.call ⟨.builtin .len,#[.tmp t],#[9]⟩),true,tx s):=by kernel_rfl):Ok Tryz.prog f w00 Out c:=klen t s hc hg
end
theorem pZ {o:Oper} {ρ:Operand→Value} {w:World} {x y:Operand} {a b:Int} {r:Bool} (ho:o.op = .binOp .gtr 3 x y 3) (hx:ρ x = .int .i64 a) (hy:ρ y = .int .i64 b) (h:decide (b<a)=r) :
 (execOp ρ o).run Tryz.prog w = .ok (.value (.bool r)) w:=by
 simp only [execOp,ho,hx,hy]
 refine bG ?_
 rw [← h]
 exact bX (by kernel_rfl) w
theorem qA {o:Oper} {ρ:Operand→Value} {w:World} {x y:Operand} {a b:ByteArray} {r:Bool} {T T' : TypeId} (ho:o.op = .binOp .eql T x y T') (hx:ρ x = .string a) (hy:ρ y = .string b) (h:(a.toList==b.toList)=r) :
 (execOp ρ o).run Tryz.prog w = .ok (.value (.bool r)) w:=by
 simp only [execOp,ho,hx,hy]
 refine bG ?_
 rw [← h]
 exact bX (by kernel_rfl) w
def writeB (q:Rat):ByteArray:=if q.den=1 then overB q else overB q++(⟨#[47]⟩++decB q.den)
theorem vN {q:Rat}:(overB q).size≤(decB q.num.natAbs).size+1:=by
 unfold overB
 split
 ·simp
  have:(⟨#[45]⟩:ByteArray).size=1:=rfl
  omega
 ·omega
theorem mE {n:Nat}:(!((decB n).toList==(⟨#[49]⟩:ByteArray).toList)) = !decide (n=1):=by
 congr 1
 rw [Bool.eq_iff_iff]
 simp only [beq_iff_eq,decide_eq_true_eq]
 rw [Go.ByteArray.toList_eq,Go.ByteArray.toList_eq]
 simp only [decB]
 constructor
 ·intro h
  have:=(bE n).1
  rw [h] at this
  rw [← this]
  rfl
 ·rintro rfl
  exact cI (by omega)
theorem zN {q:Rat} (hn:(decB q.num.natAbs).size≤1000000000) (hd:(decB q.den).size≤1000000000):jF 111 [tx (overB q),tx (decB q.den)] (tx (writeB q)):=by
 have hs:=vN (q:=q)
 have e1:(⟨#[47]⟩:ByteArray).size=1:=rfl
 have hb1:(overB q).size+(⟨#[47]⟩:ByteArray).size≤9223372036854775807:=by omega
 have hb2:(overB q++⟨#[47]⟩:ByteArray).size+(decB q.den).size≤9223372036854775807:=by
  simp
  omega
 by_cases h:q.den=1
 ·have hw:writeB q=overB q:=by rw [writeB,if_pos h]
  have h3:((decB q.den).toList==(⟨#[49]⟩:ByteArray).toList)=true:=by have:=mE (n:=q.den);rw [h] at this ⊢;simpa using this
  rw [hw]
  refine jG Tryz.func111 fun w00=>?_
  refine jK (.binOp .eql 9 (.tmp 5) (.const (.string ⟨#[49]⟩)) 9) (.tmp 5) (.const (.string ⟨#[49]⟩)) (tx (decB q.den)) (lt ⟨#[49]⟩) (bl true) (fun ρ o β w ho hx hy=>⟨_,qA ho (aU hx) (aN hy) h3,bA rfl⟩) ?_
  exact jR Tryz.func111
 ·have hw:writeB q=overB q++⟨#[47]⟩++decB q.den:=by rw [writeB,if_neg h,ByteArray.append_assoc]
  have h3:((decB q.den).toList==(⟨#[49]⟩:ByteArray).toList)=false:=by have:=mE (n:=q.den);rw [decide_eq_false h] at this;simpa using this
  rw [hw]
  refine jG Tryz.func111 fun w00=>?_
  refine jK (.binOp .eql 9 (.tmp 5) (.const (.string ⟨#[49]⟩)) 9) (.tmp 5) (.const (.string ⟨#[49]⟩)) (tx (decB q.den)) (lt ⟨#[49]⟩) (bl false) (fun ρ o β w ho hx hy=>⟨_,qA ho (aU hx) (aN hy) h3,bA rfl⟩) ?_
  refine jK (.binOp .add 9 (.tmp 8) (.const (.string ⟨#[47]⟩)) 9) (.tmp 8) (.const (.string ⟨#[47]⟩)) (tx (overB q)) (lt ⟨#[47]⟩) (tx (overB q++⟨#[47]⟩)) (fun ρ o β w ho hx hy=>⟨_,pY ho (aU hx) (aN hy) hb1,bQ⟩) ?_
  refine jK (.binOp .add 9 (.tmp 9) (.tmp 10) 9) (.tmp 9) (.tmp 10) (tx (overB q++⟨#[47]⟩)) (tx (decB q.den)) (tx (overB q++⟨#[47]⟩++decB q.den)) (fun ρ o β w ho hx hy=>⟨_,pY ho (aU hx) (aU hy) hb2,bQ⟩) ?_
  exact jR Tryz.func111
theorem writeF {q:Rat} (hq:Lf 20 q) (hn:(decB q.num.natAbs).size≤600) (hd:(decB q.den).size≤600):jX 38 [num q] (.tup [.sc (eS (writeB q)),.sc (.lit (.int .i64 0))]):=by
 have h1:decide ((600:Int)<((decB q.num.natAbs).size:Int))=false:=by simp;omega
 have h2:decide ((600:Int)<((decB q.den).size:Int))=false:=by simp;omega
 refine jY Tryz.func38 fun w00 hI=>?_
 refine jW hI 109 [num q] (xQ hq (by omega)) ?_
 refine jC 110 [tx (overB q),lt ⟨#[45]⟩] (trimF vM) ?_
 refine jO 12 (decB q.num.natAbs) ?_
 refine jK (.binOp .gtr 3 (.tmp 13) (.const (.int .i64 600)) 3) (.tmp 13) (.const (.int .i64 600)) (.fv (.sc (iM (decB q.num.natAbs).size))) (it 600) (bl false) (fun ρ o β w ho hx hy=>⟨_,pZ ho (aU hx) (aN hy) h1,bA rfl⟩) ?_
 refine jO 16 (decB q.den) ?_
 refine jK (.binOp .gtr 3 (.tmp 17) (.const (.int .i64 600)) 3) (.tmp 17) (.const (.int .i64 600)) (.fv (.sc (iM (decB q.den).size))) (it 600) (bl false) (fun ρ o β w ho hx hy=>⟨_,pZ ho (aU hx) (aN hy) h2,bA rfl⟩) ?_
 refine jC 111 [tx (overB q),tx (decB q.den)] (zN (by omega) (by omega)) ?_
 exact jR Tryz.func38
end Ab
section
open Go.RowKit Pl
theorem sV (w:World) (s:ByteArray) (pos:Nat):Below w.heap.size w (w.iter s pos):=(aB _ _).alloc (aR _) _
set_option maxRecDepth 100000 in
theorem qB (s:ByteArray) (w:World) (hd:AllDig (aM s)) (h0:0<s.size):Calls Tryz.prog 96 #[.string s] w fun e w'=>e = .returned (.bool true)∧Below w.heap.size w w':=by
 have hne:(!(s.toList==(⟨#[]⟩:ByteArray).toList))=true:=by
  rw [Go.ByteArray.toList_eq,Go.ByteArray.toList_eq]
  have:s.data.toList≠[]:=fun h=>by
   have h2:(aM s).length=0:=by simp only [aM];rw [h];rfl
   rw [cN] at h2
   omega
  simpa using this
 have H:=aH (aI hd (aI h0 hne))
 clear hd h0 hne
 go_enter Tryz.func96,Tryz.ntmps96
 go_wp2
 go_loopw [4] (fun _ wr => ∃ pos:Nat,wr=w.iter s pos∧pos≤s.size) (fun _ wr=>s.size-wr.iterPos w.heap.size)
 case atStart=>exact ⟨0,rfl,Nat.zero_le _⟩
 case round =>
  obtain ⟨pos,rfl,hpos⟩:=hrel
  by_cases hp:pos<s.size
  ·have hc:48≤(s[pos]'hp).toNat∧(s[pos]'hp).toNat≤57:=by
    have:=H.out.1 (s[pos]'hp) (by
     unfold aM
     rw [Array.mem_toList_iff]
     exact Array.getElem_mem _)
    exact this
   obtain ⟨c,hcc⟩:∃ c,c=(s[pos]'hp).toNat:=⟨_,rfl⟩
   have hnx:∀ ty,(Instr.next (.pointer (some ⟨w.heap.size,0,none⟩)) true ty).run Tryz.prog (w.iter s pos) = .ok (.tuple #[.bool true,.int .i64 pos,.int .i32 (c:Int)]) (w.iter s (pos+1)):=fun ty=>by
    rw [hcc]
    exact run_next_ascii w s pos ty hp (by omega)
   rw [← hcc] at hc
   have k1:(48:Int)≤c:=by omega
   have k2:(c:Int)≤57:=by omega
   have HH:=aH (aI hp hpos)
   clear hc hcc hp hpos
   go_wp2
   go_roundw
   case rel=>exact ⟨pos+1,rfl,HH.out.1⟩
   case measure =>
    have:=HH.out.1
    simp
    omega
  ·have hnx:∀ ty,(Instr.next (.pointer (some ⟨w.heap.size,0,none⟩)) true ty).run Tryz.prog (w.iter s pos)=_:=fun ty=>run_next_end w s pos ty hp
   have hne:=H.out.2.2
   go_wp2
   go_ret
   exact ⟨by simp at hne ⊢;exact hne,sV _ _ _⟩
end
namespace Ab
open Go.RowKit Pl
theorem pE {s:ByteArray} (hd:AllDig (aM s)) (h0:0<s.size):jF 96 [tx s] (bl true):=by
 intro β w vs hv
 obtain ⟨v,rfl,h1⟩:=eM hv
 rw [aU h1]
 exact (qB s w hd h0).mono fun e w' ⟨e1,e2⟩=>⟨_,e1,e2,bA rfl⟩
theorem pF {o:Oper} {ρ:Operand→Value} {w:World} {x y:Operand} {s:ByteArray} {i:Nat} {c:UInt8} {T:TypeId} (ho:o.op = .index T x y) (hT:Tryz.prog.underlying T=some .string) (hx:ρ x = .string s) (hy:ρ y = .int .i64 i) (hc:s[i]?=some c) :
 (execOp ρ o).run Tryz.prog w = .ok (.value (.int .u8 c.toNat)) w:=by
 simp only [execOp,ho,hx,hy]
 refine bG ?_
 simp [Instr.index,asIntOf,Sem.run_bind,run_underlying hT,Result.andThen,hc]
theorem oA {o:Oper} {ρ:Operand→Value} {w:World} {x y:Operand} {a b:Int} {r:Bool} {T T' : TypeId} (ho:o.op = .binOp .neq T x y T') (hx:ρ x = .int .u8 a) (hy:ρ y = .int .u8 b) (h:(a != b)=r) :
 (execOp ρ o).run Tryz.prog w = .ok (.value (.bool r)) w:=by
 simp only [execOp,ho,hx,hy]
 refine bG ?_
 rw [← h]
 exact bX (by kernel_rfl) w
theorem vO {o:Oper} {ρ:Operand→Value} {w:World} {x y:Operand} {a b:Int} {r:Bool} {T T' : TypeId} (ho:o.op = .binOp .eql T x y T') (hx:ρ x = .int .i64 a) (hy:ρ y = .int .i64 b) (h:(a==b)=r) :
 (execOp ρ o).run Tryz.prog w = .ok (.value (.bool r)) w:=by
 simp only [execOp,ho,hx,hy]
 refine bG ?_
 rw [← h]
 exact bX (by kernel_rfl) w
abbrev isB (n:Int):Seg Kn := .sp (vJ (.int .u8 n) rfl true (fun _=>rfl))
theorem fV (n:Nat):jF 90 [tx (decB n)] (bl true):=by
 have hd:=bE n
 have hsz:0<(decB n).size:=by
  have:(Lib.decDigits n).length≠0:=fun h=>hd.2.2 (List.eq_nil_of_length_eq_zero h)
  have e:(decB n).size=(Lib.decDigits n).length:=by simp [decB,ByteArray.size]
  omega
 have hlen:0<(Lib.decDigits n).length:=List.length_pos_iff.2 hd.2.2
 obtain ⟨c,hcl⟩:∃ c,(Lib.decDigits n)[0]?=some c:=⟨_,List.getElem?_eq_getElem hlen⟩
 have hc:(decB n)[0]?=some c:=by
  rw [getElem?_pos (decB n) 0 hsz]
  have:(decB n)[0]'hsz=(Lib.decDigits n)[0]'hlen:=by
   first
    | rfl
    | exact List.getElem_toArray _
  rw [this,← hcl,List.getElem?_eq_getElem hlen]
 by_cases h:c=48
 ·have hone:(decB n).size=1:=by
   have h0:n=0:=by
    rcases Nat.eq_zero_or_pos n with e|e
    ·exact e
    ·exfalso
     have:=qI e
     rw [List.head?_eq_getElem?,hcl,h] at this
     exact this rfl
   subst h0
   simp only [decB]
   rw [cI (by omega)]
   rfl
  have h1:(((c.toNat:Nat):Int) != 48)=false:=by rw [h];rfl
  have h2:(((decB n).size:Int)==1)=true:=by rw [hone];rfl
  refine jG Tryz.func90 fun w00=>?_
  refine jC 96 [tx (decB n)] (pE hd.2.1 hsz) ?_
  refine jK (.index 9 (.tmp 6) (.const (.int .i64 0))) (.tmp 6) (.const (.int .i64 0)) (tx (decB n)) (it 0) (.fv (.sc (isB c.toNat))) (fun ρ o β w ho hx hy=>⟨_,pF (i:=0) ho Tryz.underlying9 (aU hx) (aN hy) hc,bQ⟩) ?_
  refine jK (.binOp .neq 5 (.tmp 7) (.const (.int .u8 48)) 5) (.tmp 7) (.const (.int .u8 48)) (.fv (.sc (isB c.toNat))) (.fv (.sc (.lit (.int .u8 48)))) (bl false) (fun ρ o β w ho hx hy=>⟨_,oA ho (aU hx) (aN hy) h1,bA rfl⟩) ?_
  refine jO 10 (decB n) ?_
  refine jK (.binOp .eql 3 (.tmp 11) (.const (.int .i64 1)) 3) (.tmp 11) (.const (.int .i64 1)) (.fv (.sc (iM (decB n).size))) (it 1) (bl true) (fun ρ o β w ho hx hy=>⟨_,vO ho (aU hx) (aN hy) h2,bA rfl⟩) ?_
  exact jR Tryz.func90
 ·have h1:(((c.toNat:Nat):Int) != 48)=true:=by
   rw [bne_iff_ne]
   intro e
   exact h (UInt8.toNat_inj.1 (by have:(48:UInt8).toNat=48:=rfl;omega))
  refine jG Tryz.func90 fun w00=>?_
  refine jC 96 [tx (decB n)] (pE hd.2.1 hsz) ?_
  refine jK (.index 9 (.tmp 6) (.const (.int .i64 0))) (.tmp 6) (.const (.int .i64 0)) (tx (decB n)) (it 0) (.fv (.sc (isB c.toNat))) (fun ρ o β w ho hx hy=>⟨_,pF (i:=0) ho Tryz.underlying9 (aU hx) (aN hy) hc,bQ⟩) ?_
  refine jK (.binOp .neq 5 (.tmp 7) (.const (.int .u8 48)) 5) (.tmp 7) (.const (.int .u8 48)) (.fv (.sc (isB c.toNat))) (.fv (.sc (.lit (.int .u8 48)))) (bl true) (fun ρ o β w ho hx hy=>⟨_,oA ho (aU hx) (aN hy) h1,bA rfl⟩) ?_
  exact jR Tryz.func90
end Ab
namespace Ab
open Go.RowKit Pl
theorem kS:∀ {l:List UInt8},AllDig l→Lib.index l [47] = -1
 | [],_=>rfl
 | c :: l,h=>by
   have hc:=h c (by simp)
   have h2:([47]:List UInt8).isPrefixOf (c::l)=false:=by
    simp [List.isPrefixOf]
    intro e
    rw [← e] at hc
    revert hc
    decide
   unfold Lib.index
   rw [h2,kS (fun d hd=>h d (by simp [hd]))]
   rfl
theorem oB:∀ {l r:List UInt8},AllDig l→Lib.index (l++47::r) [47]=(l.length:Int)
 | [],r,_=>by
   unfold Lib.index
   rfl
 | c :: l,r,h=>by
   have hc:=h c (by simp)
   have h2:([47]:List UInt8).isPrefixOf (c::(l++47::r))=false:=by
    simp [List.isPrefixOf]
    intro e
    rw [← e] at hc
    revert hc
    decide
   have ih:=oB (l:=l) (r:=r) (fun d hd=>h d (by simp [hd]))
   rw [List.cons_append]
   unfold Lib.index
   rw [h2,ih]
   have:((l.length:Int) == -1)=false:=by rw [beq_eq_false_iff_ne];omega
   rw [this]
   simp
def cV (q:Rat):ByteArray:=if q.den=1 then decB q.num.natAbs else decB q.num.natAbs++(⟨#[47]⟩++decB q.den)
theorem oC {a b:ByteArray} (h:a.data.toList=b.data.toList):a=b:=by
 cases a;cases b
 simp only [ByteArray.mk.injEq]
 exact Array.toList_inj.1 h
theorem bY (n:Nat):(decB n).data.toList=Lib.decDigits n:=by simp [decB]
theorem vP {q:Rat} (h:q.num<0):writeB q=⟨#[45]⟩++cV q:=by
 apply oC
 unfold writeB cV overB
 split <;> simp [h]
theorem vQ {q:Rat} (h:¬ q.num<0):writeB q=cV q:=by
 unfold writeB cV overB
 simp only [h,if_false]
theorem vR (q:Rat):∃ c r,(cV q).data.toList=c::r∧(48≤c.toNat∧c.toNat≤57):=by
 have hd:=bE q.num.natAbs
 obtain ⟨c,r,hl⟩:∃ c r,Lib.decDigits q.num.natAbs=c::r:=by
  cases h:Lib.decDigits q.num.natAbs with
  | nil=>exact absurd h hd.2.2
  | cons c r=>exact ⟨c,r,rfl⟩
 have hc:=hd.2.1 c (by rw [hl];simp)
 unfold cV
 split
 ·exact ⟨c,r,by rw [bY,hl],hc⟩
 ·exact ⟨c,r++(⟨#[47]⟩++decB q.den:ByteArray).data.toList,by rw [ByteArray.toList_data_append,bY,hl];rfl,hc⟩
theorem gL {q:Rat} {neg:Bool} (hn:decide (q.num<0)=neg):jF 33 [tx (writeB q),lt ⟨#[45]⟩] (.tup [.sc (eS (cV q)),.sc (.lit (.bool neg))]):=by
 intro β w vs hv
 obtain ⟨v,u,rfl,h1,h2⟩:=iX hv
 rw [aU h1,aN h2]
 have key:(⟨(Lib.trimPrefix (writeB q).data.toList [45]).toArray⟩:ByteArray)=cV q∧Lib.hasPrefix (writeB q).data.toList [45]=neg:=by
  by_cases h:q.num<0
  ·have hneg:neg=true:=by rw [← hn];simpa using h
   rw [vP h,hneg]
   have e:(⟨#[45]⟩++cV q:ByteArray).data.toList=45::(cV q).data.toList:=by rw [ByteArray.toList_data_append];rfl
   rw [e]
   refine ⟨oC (by simp [Lib.trimPrefix,Lib.hasPrefix]),by simp [Lib.hasPrefix]⟩
  ·have hneg:neg=false:=by rw [← hn];simpa using h
   rw [vQ h,hneg]
   obtain ⟨c,r,e,hc⟩:=vR q
   have hp:Lib.hasPrefix (cV q).data.toList [45]=false:=by
    rw [e]
    simp [Lib.hasPrefix,List.isPrefixOf]
    intro h45
    rw [← h45] at hc
    revert hc
    decide
   refine ⟨oC (by unfold Lib.trimPrefix;rw [hp];simp),hp⟩
 refine (Tryz.strings_CutPrefix (writeB q) ⟨#[45]⟩ w).mono fun e w' ⟨e1,e2⟩=>⟨_,e1,by rw [e2];exact aB _ _,?_⟩
 rw [show (⟨#[45]⟩:ByteArray).data.toList = [45] from rfl,key.1,key.2]
 exact ⟨[.string (cV q),.bool neg],rfl,_,_,rfl,bQ (β:=β),_,_,rfl,⟨rfl,rfl⟩,rfl⟩
theorem zO {s a b:ByteArray} {r:Bool} (hs:s.size<4294967281) (h:Lib.cut s.data.toList [47]=(a.data.toList,b.data.toList,r)):jX 89 [tx s,lt ⟨#[47]⟩] (.tup [.sc (eS a),.sc (eS b),.sc (.lit (.bool r))]):=by
 intro β w vs hG hv
 obtain ⟨v,u,rfl,h1,h2⟩:=iX hv
 rw [aU h1,aN h2]
 obtain ⟨m,hm⟩:=hG.2
 refine (Tryz.strings_Cut s ⟨#[47]⟩ m w hs hm).mono fun e w' ⟨e1,n,e2⟩=>⟨_,e1,by rw [e2];exact gY w n,?_⟩
 rw [show (⟨#[47]⟩:ByteArray).data.toList = [47] from rfl,h]
 have ea:(⟨a.data.toList.toArray⟩:ByteArray)=a:=oC (by simp)
 have eb:(⟨b.data.toList.toArray⟩:ByteArray)=b:=oC (by simp)
 simp only [ea,eb]
 exact ⟨[.string a,.string b,.bool r],rfl,_,_,rfl,bQ (β:=β),_,_,rfl,bQ (β:=β),_,_,rfl,⟨rfl,rfl⟩,rfl⟩
theorem pG {q:Rat} (h:q.den=1):Lib.cut (cV q).data.toList [47]=((decB q.num.natAbs).data.toList,(⟨#[]⟩:ByteArray).data.toList,false):=by
 unfold cV Lib.cut
 rw [if_pos h,bY,kS (bE q.num.natAbs).2.1]
 rfl
theorem pH {q:Rat} (h:q.den≠1):Lib.cut (cV q).data.toList [47]=((decB q.num.natAbs).data.toList,(decB q.den).data.toList,true):=by
 unfold cV Lib.cut
 have e:(decB q.num.natAbs++(⟨#[47]⟩++decB q.den):ByteArray).data.toList=Lib.decDigits q.num.natAbs++47::Lib.decDigits q.den:=by
  rw [ByteArray.toList_data_append,ByteArray.toList_data_append,bY,bY];rfl
 rw [if_neg h,e,oB (bE q.num.natAbs).2.1,if_pos (by omega),bY,bY]
 simp
theorem cF {n:Nat} (h:(decB n).size≤100000):jF 36 [tx (decB n)] (nt n):=by
 intro β w vs hv
 obtain ⟨v,rfl,h1⟩:=eM hv
 rw [aU h1]
 have e:aM (decB n)=Lib.decDigits n:=bY n
 refine (mI (decB n) w h (by rw [e];exact (bE n).2.1)).mono fun e' w' ⟨u,e1,h1,h2⟩=>⟨u,e1,h2,?_⟩
 rw [e,(bE n).1] at h1
 exact bK.2 h1
theorem mF:jF 36 [lt ⟨#[49]⟩] (nt 1):=by
 intro β w vs hv
 obtain ⟨v,rfl,h1⟩:=eM hv
 have e:decB 1=⟨#[49]⟩:=by unfold decB;rw [cI (by omega)];rfl
 exact cF (n:=1) (by rw [e];decide) β w _ ⟨v,[],rfl,by rw [aN h1,← e];exact bQ,rfl⟩
theorem xR {n:Nat} {b:Bool} (h:decide (n=1)=b):jF 92 [nt n] (bl b):=by
 intro β w vs hv
 obtain ⟨v,rfl,h1⟩:=eM hv
 refine (iC (bK.1 h1)).mono fun e w' ⟨e1,e2⟩=>⟨_,e1,by rw [e2];exact aB _ _,?_⟩
 rw [h]
 exact bA rfl
theorem kT {q:Rat} {neg:Bool} (h:decide (q.num<0)=neg):jF 37 [zK neg q.num.natAbs q.den] (num q):=by
 rw [← h]
 exact fH
section
variable {f:FuncId} {w00:World} {Out:Value→World→Prop}
theorem aAf {c:Cfg Kn} (t:Tmp) (s:ByteArray) (hc:(c.op.map fun o=>o.op,c.okT (.fv (.sc (iM s.size))),c.ev (.tmp t))=(some (.call ⟨.builtin .len,#[.tmp t],#[9]⟩),true,lt s))
 (hg:Ok Tryz.prog f w00 Out (cW Tryz.prog 1000 (c.give (.fv (.sc (iM s.size)))))):Ok Tryz.prog f w00 Out c:=by
 simp only [Prod.mk.injEq] at hc
 obtain ⟨h1,h2,h3⟩:=hc
 exact mM _ (.tmp t) (.tmp t) (lt s) (lt s) (.fv (.sc (iM s.size))) (by rw [h1,h2,h3]) (by simp [Op.operands,Call.operands]) (by simp [Op.operands,Call.operands])
  (fun ρ o β w ho hx _=>⟨_,uD ho Tryz.underlying9 (aN hx),bQ⟩) hg
theorem kgt {c:Cfg Kn} (t:Tmp) (a b:Int) (r:Bool) (h:decide (b<a)=r) (hc:(c.op.map fun o=>o.op,c.okT (bl r),c.ev (.tmp t),c.ev (.const (.int .i64 b)))=(some (.binOp .gtr 3 (.tmp t) (.const (.int .i64 b)) 3),true,.fv (.sc (iM a)),it b))
 (hg:Ok Tryz.prog f w00 Out (cW Tryz.prog 1000 (c.give (bl r)))):Ok Tryz.prog f w00 Out c :=
 mM _ (.tmp t) (.const (.int .i64 b)) _ _ (bl r) hc (by simp [Op.operands]) (by simp [Op.operands]) (fun ρ o β w ho hx hy=>⟨_,pZ ho (aU hx) (aN hy) h,bA rfl⟩) hg
theorem jM{c:Cfg Kn} (t:Tmp) (a b:Int) (r:Bool) (h:decide (b<a)=r)(hg:Ok Tryz.prog f w00 Out (cW Tryz.prog 1000 (c.give (bl r))))(hc:(c.op.map fun o=>o.op,c.okT (bl r),c.ev (.tmp t),c.ev (.const (.int .i64 b)))=(some (.binOp .gtr 3 (.tmp t) (.const (.int .i64 b)) 3),true,.fv (.sc (iM a)),it b):=by kernel_rfl):Ok Tryz.prog f w00 Out c :=kgt t a b r h hc hg
theorem kseq {c:Cfg Kn} (t:Tmp) (a b:ByteArray) (r:Bool) (h:(a.toList==b.toList)=r) (hc:(c.op.map fun o=>o.op,c.okT (bl r),c.ev (.tmp t),c.ev (.const (.string b)))=(some (.binOp .eql 9 (.tmp t) (.const (.string b)) 9),true,tx a,lt b))
 (hg:Ok Tryz.prog f w00 Out (cW Tryz.prog 1000 (c.give (bl r)))):Ok Tryz.prog f w00 Out c :=
 mM _ (.tmp t) (.const (.string b)) _ _ (bl r) hc (by simp [Op.operands]) (by simp [Op.operands]) (fun ρ o β w ho hx hy=>⟨_,qA ho (aU hx) (aN hy) h,bA rfl⟩) hg
theorem jQ{c:Cfg Kn} (t:Tmp) (a b:ByteArray) (r:Bool) (h:(a.toList==b.toList)=r)(hg:Ok Tryz.prog f w00 Out (cW Tryz.prog 1000 (c.give (bl r))))(hc:(c.op.map fun o=>o.op,c.okT (bl r),c.ev (.tmp t),c.ev (.const (.string b)))=(some (.binOp .eql 9 (.tmp t) (.const (.string b)) 9),true,tx a,lt b):=by kernel_rfl):Ok Tryz.prog f w00 Out c :=kseq t a b r h hc hg
end
theorem fC {n m:Nat} {b:ByteArray} (hb:decB m=b):((decB n).toList==b.toList)=decide (n=m):=by
 rw [← hb,Go.ByteArray.toList_eq,Go.ByteArray.toList_eq,bY,bY,Bool.eq_iff_iff]
 simp only [beq_iff_eq,decide_eq_true_eq]
 constructor
 ·intro h
  have:=(bE n).1
  rw [h,(bE m).1] at this
  exact this.symm
 ·rintro rfl
  rfl
theorem dec0:decB 0=⟨#[48]⟩:=by unfold decB;rw [cI (by omega)];rfl
theorem dec1:decB 1=⟨#[49]⟩:=by unfold decB;rw [cI (by omega)];rfl
structure Wr (q:Rat):Prop where
 n:(decB q.num.natAbs).size≤600
 d:(decB q.den).size≤600
theorem gM {n k:Nat} (h:(decB n).size≤19*2^k):Lv k n:=by
 have e:aM (decB n)=Lib.decDigits n:=bY n
 have hd:=bE n
 refine wW k (decB n).size h ?_
 have:=mS hd.2.1
 rw [hd.1] at this
 have hl:(decB n).size=(Lib.decDigits n).length:=by rw [← cN,e]
 rw [hl]
 exact this
theorem Wr.lf {q:Rat} (h:Wr q):Lf 5 q:=⟨gM (by have:=h.n;omega),gM (by have:=h.d;omega)⟩
theorem vT {q:Rat} (h:Wr q):(cV q).size<4294967281:=by
 have h1:=h.n
 have h2:=h.d
 have:(⟨#[47]⟩:ByteArray).size=1:=rfl
 unfold cV
 split <;> simp <;> omega
theorem xS {q:Rat} (h:Wr q):jX 28 [tx (writeB q)] (.tup [.ag [nb q],.sc (.lit (.int .i64 0))]):=by
 have g1:decide ((600:Int)<((decB q.num.natAbs).size:Int))=false:=by have:=h.n;simp;omega
 have g2:decide ((600:Int)<((decB q.den).size:Int))=false:=by have:=h.d;simp;omega
 have g3:decide ((600:Int)<(((⟨#[49]⟩:ByteArray).size:Nat):Int))=false:=by decide
 have hsz:=vT h
 have s1:=h.n
 have s2:=h.d
 by_cases hn:q.num<0
 ·have hneg:decide (q.num<0)=true:=by simpa using hn
  have hz:((decB q.num.natAbs).toList==(⟨#[48]⟩:ByteArray).toList)=false:=by rw [fC dec0,decide_eq_false_iff_not];omega
  by_cases hd:q.den=1
  ·skip
   refine jY Tryz.func28 fun w00 hI=>?_
   refine jC 33 [tx (writeB q),lt ⟨#[45]⟩] (gL hneg) ?_
   refine jW hI 89 [tx (cV q),lt ⟨#[47]⟩] (zO (a:=decB q.num.natAbs) (b:=⟨#[]⟩) (r:=false) hsz (pG hd)) ?_
   refine jC 90 [tx (decB q.num.natAbs)] (fV _) ?_
   refine jQ 31 (decB q.num.natAbs) ⟨#[48]⟩ false hz ?_
   refine jO 53 (decB q.num.natAbs) ?_
   refine jM 54 (decB q.num.natAbs).size 600 false g1 ?_
   refine aAf 57 ⟨#[49]⟩ (by kernel_rfl) ?_
   refine jM 58 ((⟨#[49]⟩:ByteArray).size:Nat) 600 false g3 ?_
   refine jC 36 [tx (decB q.num.natAbs)] (cF (by omega)) ?_
   refine jC 36 [lt ⟨#[49]⟩] (mF) ?_
   refine jC 37 [zK true q.num.natAbs 1] ((by rw [← hd];exact kT hneg)) ?_
   exact jR Tryz.func28
  ·skip
   have y0:((decB q.den).toList==(⟨#[48]⟩:ByteArray).toList)=false:=by rw [fC dec0,decide_eq_false_iff_not];have:=q.den_pos;omega
   have y1:((decB q.den).toList==(⟨#[49]⟩:ByteArray).toList)=false:=by rw [fC dec1];simpa using hd
   refine jY Tryz.func28 fun w00 hI=>?_
   refine jC 33 [tx (writeB q),lt ⟨#[45]⟩] (gL hneg) ?_
   refine jW hI 89 [tx (cV q),lt ⟨#[47]⟩] (zO (a:=decB q.num.natAbs) (b:=decB q.den) (r:=true) hsz (pH hd)) ?_
   refine jC 90 [tx (decB q.num.natAbs)] (fV _) ?_
   refine jQ 31 (decB q.num.natAbs) ⟨#[48]⟩ false hz ?_
   refine jC 90 [tx (decB q.den)] (fV _) ?_
   refine jQ 43 (decB q.den) ⟨#[48]⟩ false y0 ?_
   refine jQ 47 (decB q.den) ⟨#[49]⟩ false y1 ?_
   refine jO 53 (decB q.num.natAbs) ?_
   refine jM 54 (decB q.num.natAbs).size 600 false g1 ?_
   refine jO 57 (decB q.den) ?_
   refine jM 58 (decB q.den).size 600 false g2 ?_
   refine jC 36 [tx (decB q.num.natAbs)] (cF (by omega)) ?_
   refine jC 36 [tx (decB q.den)] (cF (by omega)) ?_
   refine jC 91 [nt q.num.natAbs,nt q.den] (oM (h.lf.1.mono (by decide)) (h.lf.2.mono (by decide)) (.inr q.den_pos)) ?_
   refine jC 92 [nt (Nat.gcd q.num.natAbs q.den)] (xR (b:=true) (by rw [decide_eq_true_eq];exact q.reduced)) ?_
   refine jC 37 [zK true q.num.natAbs q.den] (kT hneg) ?_
   exact jR Tryz.func28
 ·have hneg:decide (q.num<0)=false:=by simpa using hn
  by_cases hd:q.den=1
  ·skip
   refine jY Tryz.func28 fun w00 hI=>?_
   refine jC 33 [tx (writeB q),lt ⟨#[45]⟩] (gL hneg) ?_
   refine jW hI 89 [tx (cV q),lt ⟨#[47]⟩] (zO (a:=decB q.num.natAbs) (b:=⟨#[]⟩) (r:=false) hsz (pG hd)) ?_
   refine jC 90 [tx (decB q.num.natAbs)] (fV _) ?_
   refine jO 53 (decB q.num.natAbs) ?_
   refine jM 54 (decB q.num.natAbs).size 600 false g1 ?_
   refine aAf 57 ⟨#[49]⟩ (by kernel_rfl) ?_
   refine jM 58 ((⟨#[49]⟩:ByteArray).size:Nat) 600 false g3 ?_
   refine jC 36 [tx (decB q.num.natAbs)] (cF (by omega)) ?_
   refine jC 36 [lt ⟨#[49]⟩] (mF) ?_
   refine jC 37 [zK false q.num.natAbs 1] ((by rw [← hd];exact kT hneg)) ?_
   exact jR Tryz.func28
  ·skip
   have y0:((decB q.den).toList==(⟨#[48]⟩:ByteArray).toList)=false:=by rw [fC dec0,decide_eq_false_iff_not];have:=q.den_pos;omega
   have y1:((decB q.den).toList==(⟨#[49]⟩:ByteArray).toList)=false:=by rw [fC dec1];simpa using hd
   refine jY Tryz.func28 fun w00 hI=>?_
   refine jC 33 [tx (writeB q),lt ⟨#[45]⟩] (gL hneg) ?_
   refine jW hI 89 [tx (cV q),lt ⟨#[47]⟩] (zO (a:=decB q.num.natAbs) (b:=decB q.den) (r:=true) hsz (pH hd)) ?_
   refine jC 90 [tx (decB q.num.natAbs)] (fV _) ?_
   refine jC 90 [tx (decB q.den)] (fV _) ?_
   refine jQ 43 (decB q.den) ⟨#[48]⟩ false y0 ?_
   refine jQ 47 (decB q.den) ⟨#[49]⟩ false y1 ?_
   refine jO 53 (decB q.num.natAbs) ?_
   refine jM 54 (decB q.num.natAbs).size 600 false g1 ?_
   refine jO 57 (decB q.den) ?_
   refine jM 58 (decB q.den).size 600 false g2 ?_
   refine jC 36 [tx (decB q.num.natAbs)] (cF (by omega)) ?_
   refine jC 36 [tx (decB q.den)] (cF (by omega)) ?_
   refine jC 91 [nt q.num.natAbs,nt q.den] (oM (h.lf.1.mono (by decide)) (h.lf.2.mono (by decide)) (.inr q.den_pos)) ?_
   refine jC 92 [nt (Nat.gcd q.num.natAbs q.den)] (xR (b:=true) (by rw [decide_eq_true_eq];exact q.reduced)) ?_
   refine jC 37 [zK false q.num.natAbs q.den] (kT hneg) ?_
   exact jR Tryz.func28
abbrev z0:Seg Kn := .lit (.int .i64 0)
theorem uE {T:TypeId}:jF 61 [.fv (.nsl 2 T [z0,z0])] (it 0):=by
 refine vH Tryz.func61 (by kernel_rfl) fun w00=>?_
 exact jR Tryz.func61
theorem zP {T:TypeId}:jF 61 [.fv (.nsl 3 T [z0,z0,z0])] (it 0):=by
 refine vH Tryz.func61 (by kernel_rfl) fun w00=>?_
 exact jR Tryz.func61
abbrev vS (a b c:Rat):AV Kn := .fv (.ag [eS (writeB a),eS (writeB b),eS (writeB c)])
abbrev okV (a b c:Rat):AV Kn := .tup [.ag [nb a,nb b,nb c],.sc z0]
abbrev rY (a b c:Rat):Prop:=Wr a∧Wr b∧Wr c
theorem kU {a b c:Rat} (h:rY a b c):jX 53 [vS a b c] (okV a b c):=by
 refine jY Tryz.func53 fun w00 hI=>?_
 refine jW hI 28 [tx (writeB a)] (xS h.1) ?_
 refine jW hI 28 [tx (writeB b)] (xS h.2.1) ?_
 refine jW hI 28 [tx (writeB c)] (xS h.2.2) ?_
 refine xF 61 3 3 161 [z0,z0,z0] (zP) (by kernel_rfl) Tryz.call61 ?_
 exact jR Tryz.func53
section
variable {a b c x y z u v d e:Rat}
theorem readVV (h:rY a b c) (k:rY x y z):jX 52 [fnv 53,vS a b c,fnv 53,vS x y z] (.tup [.ag [nb a,nb b,nb c],.ag [nb x,nb y,nb z],.sc z0]):=by
 refine jY Tryz.func52 fun w00 hI=>?_
 refine jW hI 53 [vS a b c] (kU h) ?_
 refine jW hI 53 [vS x y z] (kU k) ?_
 refine jC 61 [.fv (.nsl 2 24 [z0,z0])] (uE) ?_
 exact jR Tryz.func52
end
def wn (q:Rat) (n:Nat):Nat:=if q=0 then n else Nat.gcd q.num.natAbs n
def wd (q:Rat) (d:Nat):Nat:=if q=0 then d else d*(q.den/Nat.gcd q.den d)
def bS (a b c:Rat):Rat:=mkRat (sg false (wd c (wd b (wd a 1)))) (wn c (wn b (wn a 0)))
theorem lQ {q:Rat} {n:Nat} (h:q≠0):0<wn q n:=by
 unfold wn
 rw [if_neg h]
 have:0<q.num.natAbs:=by
  have:q.num≠0:=fun e=>h (Rat.num_eq_zero.1 e)
  omega
 exact Nat.gcd_pos_of_pos_left _ this
theorem iJ {q:Rat} {n:Nat} (h:0<n):0<wn q n:=by
 unfold wn
 split
 ·exact h
 ·exact Nat.gcd_pos_of_pos_right _ h
theorem pI {q:Rat} {n k:Nat} (hq:Lf k q) (hn:Lv k n):Lv k (wn q n):=by
 unfold wn
 split
 ·exact hn
 ·rename_i h
  have:q.num≠0:=fun e=>h (Rat.num_eq_zero.1 e)
  exact hq.1.le (Nat.gcd_le_left _ (by omega))
theorem pJ {q:Rat} {d k:Nat} (hq:Lf k q) (hd:Lv k d):Lv (k+1) (wd q d):=by
 unfold wd
 split
 ·exact hd.mono (by omega)
 ·exact hd.mul (hq.2.le (Nat.div_le_self _ _))
theorem nil_nt {β:List Nat} {v:Value} {w:World} (h:(AV.fv (.sc (.lit (.slice none 0 0))):AV Kn).holds β v w):(nt 0).holds β v w:=by
 rw [aN h]
 exact bK.2 (Nt.zero w)
theorem num_ne {q:Rat} (h:¬ q=0):0<q.num.natAbs:=by
 have:q.num≠0:=fun e=>h (Rat.num_eq_zero.1 e)
 omega
section
variable {q a b c:Rat} {n n' d d' : Nat}
theorem xT (hq:¬ q=0) (lq:Lf 30 q) (ln:Lv 30 n) (hn:wn q n=n'):jF 91 [nt q.num.natAbs,nt n] (nt n'):=by
 subst hn
 unfold wn
 rw [if_neg hq]
 exact oM (lq.1.mono (by omega)) (ln.mono (by omega)) (.inl (num_ne hq))
theorem xU (hq:¬ q=0) (lq:Lf 30 q) (hn:wn q 0=n'):jF 91 [nt q.num.natAbs,.fv (.sc (.lit (.slice none 0 0)))] (nt n') :=
 Fits.args (xT hq lq (Lv.one _ (by rw [aG];omega)) hn) (fun β vs w ⟨v,r,e,k1,⟨v2,r2,e2,k2,k3⟩⟩=>⟨v,r,e,k1,v2,r2,e2,nil_nt k2,k3⟩)
theorem jP (hq:¬ q=0) (lq:Lf 32 q) (ld:Lv 32 d) (hd:wd q d=d'):jF 103 [nt d,nt (q.den/Nat.gcd q.den d)] (nt d'):=by
 subst hd
 unfold wd
 rw [if_neg hq]
 exact zL (ld.mono (by omega)) ((lq.2.mono (by omega)).le (Nat.div_le_self _ _))
set_option maxRecDepth 100000 in
theorem wholeF (la:Lf 30 a) (lb:Lf 30 b) (lc:Lf 30 c) (h:¬ (a=0∧b=0∧c=0)):jF 183 [vc a b c] (num (bS a b c)):=by
 obtain ⟨d0,e0⟩:∃ d,d=1:=⟨_,rfl⟩
 obtain ⟨n1,f1⟩:∃ n,wn a 0=n:=⟨_,rfl⟩
 obtain ⟨d1,e1⟩:∃ d,wd a d0=d:=⟨_,rfl⟩
 obtain ⟨n2,f2⟩:∃ n,wn b n1=n:=⟨_,rfl⟩
 obtain ⟨d2,e2⟩:∃ d,wd b d1=d:=⟨_,rfl⟩
 obtain ⟨n3,f3⟩:∃ n,wn c n2=n:=⟨_,rfl⟩
 obtain ⟨d3,e3⟩:∃ d,wd c d2=d:=⟨_,rfl⟩
 have hw:bS a b c=mkRat (sg false d3) n3:=by
  subst e0 e1 e2 e3 f1 f2 f3
  rfl
 have hN:0<n3:=by
  rw [← f3,← f2,← f1]
  by_cases hc:c=0
  ·by_cases hb:b=0
   ·exact iJ (iJ (lQ fun ha=>h ⟨ha,hb,hc⟩))
   ·exact iJ (lQ hb)
  ·exact lQ hc
 have ln1:Lv 30 n1:=f1▸pI la (Lv.one _ (by rw [aG];omega))
 have ln2:Lv 30 n2:=f2▸pI lb ln1
 have ln3:Lv 30 n3:=f3▸pI lc ln2
 have ld0:Lv 30 d0:=e0▸Lv.one _ (by rw [aG];omega)
 have ld1:Lv 31 d1:=e1▸pJ la ld0
 have ld2:Lv 32 d2:=e2▸pJ (lb.mono (by decide)) ld1
 have ld3:Lv 33 d3:=e3▸pJ (lc.mono (by decide)) ld2
 have kN:jF 104 [.fv (.sc (.lit (.int .u64 ((1:Nat):Int))))] (nt d0):=e0▸sU (by rw [aG];omega)
 have zt:∀ {x:Rat},x=0→jF 78 [num x] (bl true):=fun h=>kP (by simpa using h)
 have zf:∀ {x:Rat},¬ x=0→jF 78 [num x] (bl false):=fun h=>kP (by simpa using h)
 rw [hw]
 clear hw e0
 refine jG Tryz.func183 fun w00=>?_
 refine jC 104 [.fv (.sc (.lit (.int .u64 ((1:Nat):Int))))] (kN) ?_
 clear kN
 by_cases ha:a=0
 ·refine jC 78 [num a] (zt ha) ?_
  obtain rfl:n1=0:=by rw [← f1,wn,if_pos ha]
  obtain rfl:d1=d0:=by rw [← e1,wd,if_pos ha]
  by_cases hb:b=0
  ·refine jC 78 [num b] (zt hb) ?_
   obtain rfl:n2=0:=by rw [← f2,wn,if_pos hb]
   obtain rfl:d2=d1:=by rw [← e2,wd,if_pos hb]
   by_cases hc:c=0
   ·exact absurd ⟨ha,hb,hc⟩ h
   ·refine jC 78 [num c] (zf hc) ?_
    refine jC 138 [num c] (cE) ?_
    refine jC 91 [nt c.num.natAbs,.fv (.sc (.lit (.slice none 0 0)))] (xU hc lc f3) ?_
    refine jC 91 [nt c.den,nt d2] (oM (lc.2.mono (by omega)) (ld2.mono (by omega)) (.inl c.den_pos)) ?_
    refine jC 101 [nt c.den,nt (Nat.gcd c.den d2)] (fB (lc.2.mono (by omega)) (Nat.gcd_pos_of_pos_left _ c.den_pos)) ?_
    refine jC 103 [nt d2,nt (c.den/Nat.gcd c.den d2)] (jP hc (lc.mono (by decide)) (ld2.mono (by omega)) e3) ?_
    refine jC 35 [bl false,nt d3,nt n3] (jL (ld3.mono (by omega)) (ln3.mono (by omega)) hN) ?_
    refine jC 37 [rQ (mkRat (sg false d3) n3)] (fH) ?_
    exact jR Tryz.func183
  ·refine jC 78 [num b] (zf hb) ?_
   refine jC 138 [num b] (cE) ?_
   refine jC 91 [nt b.num.natAbs,.fv (.sc (.lit (.slice none 0 0)))] (xU hb lb f2) ?_
   refine jC 91 [nt b.den,nt d1] (oM (lb.2.mono (by omega)) (ld1.mono (by omega)) (.inl b.den_pos)) ?_
   refine jC 101 [nt b.den,nt (Nat.gcd b.den d1)] (fB (lb.2.mono (by omega)) (Nat.gcd_pos_of_pos_left _ b.den_pos)) ?_
   refine jC 103 [nt d1,nt (b.den/Nat.gcd b.den d1)] (jP hb (lb.mono (by decide)) (ld1.mono (by omega)) e2) ?_
   by_cases hc:c=0
   ·refine jC 78 [num c] (zt hc) ?_
    obtain rfl:n3=n2:=by rw [← f3,wn,if_pos hc]
    obtain rfl:d3=d2:=by rw [← e3,wd,if_pos hc]
    refine jC 35 [bl false,nt d3,nt n3] (jL (ld3.mono (by omega)) (ln3.mono (by omega)) hN) ?_
    refine jC 37 [rQ (mkRat (sg false d3) n3)] (fH) ?_
    exact jR Tryz.func183
   ·refine jC 78 [num c] (zf hc) ?_
    refine jC 138 [num c] (cE) ?_
    refine jC 91 [nt c.num.natAbs,nt n2] (xT hc lc ln2 f3) ?_
    refine jC 91 [nt c.den,nt d2] (oM (lc.2.mono (by omega)) (ld2.mono (by omega)) (.inl c.den_pos)) ?_
    refine jC 101 [nt c.den,nt (Nat.gcd c.den d2)] (fB (lc.2.mono (by omega)) (Nat.gcd_pos_of_pos_left _ c.den_pos)) ?_
    refine jC 103 [nt d2,nt (c.den/Nat.gcd c.den d2)] (jP hc (lc.mono (by decide)) (ld2.mono (by omega)) e3) ?_
    refine jC 35 [bl false,nt d3,nt n3] (jL (ld3.mono (by omega)) (ln3.mono (by omega)) hN) ?_
    refine jC 37 [rQ (mkRat (sg false d3) n3)] (fH) ?_
    exact jR Tryz.func183
 ·refine jC 78 [num a] (zf ha) ?_
  refine jC 138 [num a] (cE) ?_
  refine jC 91 [nt a.num.natAbs,.fv (.sc (.lit (.slice none 0 0)))] (xU ha la f1) ?_
  refine jC 91 [nt a.den,nt d0] (oM (la.2.mono (by omega)) (ld0.mono (by omega)) (.inl a.den_pos)) ?_
  refine jC 101 [nt a.den,nt (Nat.gcd a.den d0)] (fB (la.2.mono (by omega)) (Nat.gcd_pos_of_pos_left _ a.den_pos)) ?_
  refine jC 103 [nt d0,nt (a.den/Nat.gcd a.den d0)] (jP ha (la.mono (by decide)) (ld0.mono (by omega)) e1) ?_
  by_cases hb:b=0
  ·refine jC 78 [num b] (zt hb) ?_
   obtain rfl:n2=n1:=by rw [← f2,wn,if_pos hb]
   obtain rfl:d2=d1:=by rw [← e2,wd,if_pos hb]
   by_cases hc:c=0
   ·refine jC 78 [num c] (zt hc) ?_
    obtain rfl:n3=n2:=by rw [← f3,wn,if_pos hc]
    obtain rfl:d3=d2:=by rw [← e3,wd,if_pos hc]
    refine jC 35 [bl false,nt d3,nt n3] (jL (ld3.mono (by omega)) (ln3.mono (by omega)) hN) ?_
    refine jC 37 [rQ (mkRat (sg false d3) n3)] (fH) ?_
    exact jR Tryz.func183
   ·refine jC 78 [num c] (zf hc) ?_
    refine jC 138 [num c] (cE) ?_
    refine jC 91 [nt c.num.natAbs,nt n2] (xT hc lc ln2 f3) ?_
    refine jC 91 [nt c.den,nt d2] (oM (lc.2.mono (by omega)) (ld2.mono (by omega)) (.inl c.den_pos)) ?_
    refine jC 101 [nt c.den,nt (Nat.gcd c.den d2)] (fB (lc.2.mono (by omega)) (Nat.gcd_pos_of_pos_left _ c.den_pos)) ?_
    refine jC 103 [nt d2,nt (c.den/Nat.gcd c.den d2)] (jP hc (lc.mono (by decide)) (ld2.mono (by omega)) e3) ?_
    refine jC 35 [bl false,nt d3,nt n3] (jL (ld3.mono (by omega)) (ln3.mono (by omega)) hN) ?_
    refine jC 37 [rQ (mkRat (sg false d3) n3)] (fH) ?_
    exact jR Tryz.func183
  ·refine jC 78 [num b] (zf hb) ?_
   refine jC 138 [num b] (cE) ?_
   refine jC 91 [nt b.num.natAbs,nt n1] (xT hb lb ln1 f2) ?_
   refine jC 91 [nt b.den,nt d1] (oM (lb.2.mono (by omega)) (ld1.mono (by omega)) (.inl b.den_pos)) ?_
   refine jC 101 [nt b.den,nt (Nat.gcd b.den d1)] (fB (lb.2.mono (by omega)) (Nat.gcd_pos_of_pos_left _ b.den_pos)) ?_
   refine jC 103 [nt d1,nt (b.den/Nat.gcd b.den d1)] (jP hb (lb.mono (by decide)) (ld1.mono (by omega)) e2) ?_
   by_cases hc:c=0
   ·refine jC 78 [num c] (zt hc) ?_
    obtain rfl:n3=n2:=by rw [← f3,wn,if_pos hc]
    obtain rfl:d3=d2:=by rw [← e3,wd,if_pos hc]
    refine jC 35 [bl false,nt d3,nt n3] (jL (ld3.mono (by omega)) (ln3.mono (by omega)) hN) ?_
    refine jC 37 [rQ (mkRat (sg false d3) n3)] (fH) ?_
    exact jR Tryz.func183
   ·refine jC 78 [num c] (zf hc) ?_
    refine jC 138 [num c] (cE) ?_
    refine jC 91 [nt c.num.natAbs,nt n2] (xT hc lc ln2 f3) ?_
    refine jC 91 [nt c.den,nt d2] (oM (lc.2.mono (by omega)) (ld2.mono (by omega)) (.inl c.den_pos)) ?_
    refine jC 101 [nt c.den,nt (Nat.gcd c.den d2)] (fB (lc.2.mono (by omega)) (Nat.gcd_pos_of_pos_left _ c.den_pos)) ?_
    refine jC 103 [nt d2,nt (c.den/Nat.gcd c.den d2)] (jP hc (lc.mono (by decide)) (ld2.mono (by omega)) e3) ?_
    refine jC 35 [bl false,nt d3,nt n3] (jL (ld3.mono (by omega)) (ln3.mono (by omega)) hN) ?_
    refine jC 37 [rQ (mkRat (sg false d3) n3)] (fH) ?_
    exact jR Tryz.func183
end
section
variable {n1 n2 n3 d k:Rat} {z1 z2 z3:Int}
theorem xV (n:Int) {d:Nat} (hd:0<d):(mkRat n d).num.natAbs≤n.natAbs∧(mkRat n d).den≤d:=by
 rw [Rat.num_mkRat,Rat.den_mkRat,if_neg (by omega),if_neg (by omega)]
 exact ⟨Int.natAbs_ediv_le_natAbs _ _,Nat.div_le_self _ _⟩
theorem xW {a b c:Rat} (la:Lf 30 a) (lb:Lf 30 b) (lc:Lf 30 c) (h:¬ (a=0∧b=0∧c=0)):Lf 33 (bS a b c):=by
 have hN:0<wn c (wn b (wn a 0)):=by
  by_cases ha:a=0
  ·by_cases hb:b=0
   ·exact lQ (fun hc=>h ⟨ha,hb,hc⟩)
   ·exact iJ (lQ hb)
  ·exact iJ (iJ (lQ ha))
 have l1:Lv 33 (wd c (wd b (wd a 1))):=pJ (lc.mono (by decide)) (pJ (lb.mono (by decide)) (pJ (k:=30) la (Lv.one _ (by rw [aG];omega))))
 have l2:Lv 33 (wn c (wn b (wn a 0))):=(pI lc (pI lb (pI la (n:=0) (Lv.one _ (by rw [aG];omega))))).mono (by omega)
 have hm:=xV (sg false (wd c (wd b (wd a 1)))) hN
 have e:(sg false (wd c (wd b (wd a 1)))).natAbs=wd c (wd b (wd a 1)):=by simp [sg]
 rw [e] at hm
 exact ⟨l1.le hm.1,l2.le hm.2⟩
theorem xX (l1:Lf 30 n1) (l2:Lf 30 n2) (l3:Lf 30 n3) (ld:Lf 38 d) (h:¬ (n1=0∧n2=0∧n3=0)) :
 jF 128 [hf n1 n2 n3 d] (hf (bS n1 n2 n3*n1) (bS n1 n2 n3*n2) (bS n1 n2 n3*n3) (d*bS n1 n2 n3)):=by
 have lk:=(xW l1 l2 l3 h).mono (l:=38) (by decide)
 refine jG Tryz.func128 fun w00=>?_
 refine jC 183 [vc n1 n2 n3] (wholeF l1 l2 l3 h) ?_
 refine jC 67 [vc n1 n2 n3,num (bS n1 n2 n3)] (zJ lk (l1.mono (by decide)) (l2.mono (by decide)) (l3.mono (by decide))) ?_
 refine jC 122 [num d,num (bS n1 n2 n3)] (dZ ld lk) ?_
 exact jR Tryz.func128
abbrev hfI (z1 z2 z3:Int) (d:Rat):AV Kn := .fv (.ag [.lit (.int .i64 z1),z0,.lit (.pointer none),.lit (.int .i64 z2),z0,.lit (.pointer none),.lit (.int .i64 z3),z0,.lit (.pointer none),nb d])
abbrev Sz (z:Int):Prop := -999999999≤z∧z≤999999999
theorem sW {z:Int} (hz:Sz z) {cs:List Value} {w:World} (h:(csNb (z:Rat)).pred cs w):cs = [.int .i64 z,.int .i64 0,.pointer none]:=by
 have hm:Sm (z:Rat):=by
  constructor
  ·rw [Rat.num_intCast,cR];omega
  ·rw [Rat.den_intCast,cR];omega
 rcases h with ⟨_,e⟩|⟨h2,_⟩
 ·injection e with e
  have:=congrArg Array.toList e
  simpa using this
 ·exact absurd hm h2
theorem hf_int {β:List Nat} {v:Value} {w:World} {q1 q2 q3:Rat} (e1:q1=z1) (e2:q2=z2) (e3:q3=z3) (h1:Sz z1) (h2:Sz z2) (h3:Sz z3) (h:(hf q1 q2 q3 d).holds β v w):(hfI z1 z2 z3 d).holds β v w:=by
 subst e1
 subst e2
 subst e3
 obtain ⟨cs,rfl,x1,r1,rfl,k1,x2,r2,rfl,k2,x3,r3,rfl,k3,hr⟩:=h
 rw [sW h1 k1,sW h2 k2,sW h3 k3]
 exact ⟨_,rfl,[_],_,rfl,⟨rfl,rfl⟩,[_],_,rfl,⟨rfl,rfl⟩,[_],_,rfl,⟨rfl,rfl⟩,[_],_,rfl,⟨rfl,rfl⟩,[_],_,rfl,⟨rfl,rfl⟩,[_],_,rfl,⟨rfl,rfl⟩,[_],_,rfl,⟨rfl,rfl⟩,[_],_,rfl,⟨rfl,rfl⟩,[_],_,rfl,⟨rfl,rfl⟩,hr⟩
theorem Fits.res {P:Program} {f:FuncId} {l:List (AV Kn)} {x y:AV Kn} (h:Fits P f l x) (hx:∀ β v w,x.holds β v w→y.holds β v w):Fits P f l y:=fun β w vs hv =>
 (h β w vs hv).mono fun e w' ⟨v,e1,e2,e3⟩=>⟨v,e1,e2,hx β v w' e3⟩
theorem jS {z:Int} (hz:Sz z):jF 129 [it z] (.fv (.sc (isU (z.natAbs:Int)))):=by
 intro β w vs hv
 obtain ⟨v,rfl,h1⟩:=eM hv
 rw [aN h1]
 exact (cJ z w (by have:=hz.1;omega) (by have:=hz.2;omega)).mono fun e w' ⟨e1,e2⟩=>⟨_,e1,by rw [← e2];exact aB _ _,bQ⟩
theorem zQ {o:Oper} {ρ:Operand→Value} {w:World} {x y:Operand} {a b:Int} {r:Bool} {T T' : TypeId} (ho:o.op = .binOp .gtr T x y T') (hx:ρ x = .int .u64 a) (hy:ρ y = .int .u64 b) (h:decide (b<a)=r) :
 (execOp ρ o).run Tryz.prog w = .ok (.value (.bool r)) w:=by
 simp only [execOp,ho,hx,hy]
 refine bG ?_
 rw [← h]
 exact bX (by kernel_rfl) w
section
variable {f:FuncId} {w00:World} {Out:Value→World→Prop}
theorem kgtU {c:Cfg Kn} (t:Tmp) (a b:Int) (r:Bool) (h:decide (b<a)=r) (hc:(c.op.map fun o=>o.op,c.okT (bl r),c.ev (.tmp t),c.ev (.const (.int .u64 b)))=(some (.binOp .gtr 145 (.tmp t) (.const (.int .u64 b)) 145),true,.fv (.sc (isU a)),.fv (.sc (.lit (.int .u64 b)))))
 (hg:Ok Tryz.prog f w00 Out (cW Tryz.prog 1000 (c.give (bl r)))):Ok Tryz.prog f w00 Out c :=
 mM _ (.tmp t) (.const (.int .u64 b)) _ _ (bl r) hc (by simp [Op.operands]) (by simp [Op.operands]) (fun ρ o β w ho hx hy=>⟨_,zQ ho (aU hx) (aN hy) h,bA rfl⟩) hg
theorem jN{c:Cfg Kn} (t:Tmp) (a b:Int) (r:Bool) (h:decide (b<a)=r)(hg:Ok Tryz.prog f w00 Out (cW Tryz.prog 1000 (c.give (bl r))))(hc:(c.op.map fun o=>o.op,c.okT (bl r),c.ev (.tmp t),c.ev (.const (.int .u64 b)))=(some (.binOp .gtr 145 (.tmp t) (.const (.int .u64 b)) 145),true,.fv (.sc (isU a)),.fv (.sc (.lit (.int .u64 b)))):=by kernel_rfl):Ok Tryz.prog f w00 Out c :=kgtU t a b r h hc hg
end
abbrev hS (z1 z2 z3:Int) (d:Rat):AV Kn := .fv (.ag [.lit (.int .i64 z1),.lit (.int .i64 z2),.lit (.int .i64 z3),eS (writeB d)])
abbrev okH (z1 z2 z3:Int) (d:Rat):AV Kn := .tup [.ag [.lit (.int .i64 z1),.lit (.int .i64 z2),.lit (.int .i64 z3),eS (writeB d)],.sc z0]
structure Form (n1 n2 n3 d:Rat) (z1 z2 z3:Int) (e:Rat):Prop where
 l1:Lf 30 n1
 l2:Lf 30 n2
 l3:Lf 30 n3
 ld:Lf 38 d
 h0:¬ (n1=0∧n2=0∧n3=0)
 e1:bS n1 n2 n3*n1=z1
 e2:bS n1 n2 n3*n2=z2
 e3:bS n1 n2 n3*n3=z3
 ed:d*bS n1 n2 n3=e
 s1:Sz z1
 s2:Sz z2
 s3:Sz z3
 wr:Wr e
theorem zR {e:Rat} (h:Form n1 n2 n3 d z1 z2 z3 e):jX 60 [hf n1 n2 n3 d] (okH z1 z2 z3 e):=by
 have g:∀ {z:Int},Sz z→decide ((999999999:Int)<(z.natAbs:Int))=false:=fun hz=>by have:=hz.1;have:=hz.2;rw [decide_eq_false_iff_not];omega
 have gr:jF 128 [hf n1 n2 n3 d] (hfI z1 z2 z3 e):=Fits.res (xX h.l1 h.l2 h.l3 h.ld h.h0) (fun β v w hv=>hf_int h.e1 h.e2 h.e3 h.s1 h.s2 h.s3 (by rw [h.ed] at hv;exact hv))
 refine jY Tryz.func60 fun w00 hI=>?_
 refine jC 128 [hf n1 n2 n3 d] (gr) ?_
 refine jW hI 38 [num e] (writeF (h.wr.lf.mono (by decide)) h.wr.n h.wr.d) ?_
 refine jC 129 [it z1] (jS h.s1) ?_
 refine jN 34 z1.natAbs 999999999 false (g h.s1) ?_
 refine jC 129 [it z2] (jS h.s2) ?_
 refine jN 34 z2.natAbs 999999999 false (g h.s2) ?_
 refine jC 129 [it z3] (jS h.s3) ?_
 refine jN 34 z3.natAbs 999999999 false (g h.s3) ?_
 exact jR Tryz.func60
end
theorem lR {a b:Nat} (ha:a<aC) (hb:b<aC):Fits (Kc:=Kn) Tryz.prog 149 [.fv (.sc (.lit (.int .u64 (a:Int)))),.fv (.sc (.lit (.int .u64 (b:Int))))] (.fv (.sc (.lit (.int .u64 ((Nat.gcd a b:Nat):Int))))):=by
 intro β w vs hv
 obtain ⟨v,u,rfl,h1,h2⟩:=iX hv
 rw [aN h1,aN h2]
 exact (eR a b w ha hb).mono fun e w' ⟨e1,e2⟩=>⟨_,e1,by first|exact e2|(rw [← e2];exact aB _ _),bA rfl⟩
section
variable {z1 z2 z3:Int} {d p1 p2 p3 n1 n2 n3 e:Rat}
structure Hv (z1 z2 z3:Int) (d:Rat):Prop where
 s1:Sz z1
 s2:Sz z2
 s3:Sz z3
 d:Wr d
 ck:jF 130 [iv z1 z2 z3] (it 0)
variable {a1 a2 a3 b1 b2 b3 c1 c2 c3:Rat}
theorem rT (ka:rY a1 a2 a3) (kb:rY b1 b2 b3) (kc:rY c1 c2 c3) {m1 m2 m3:Rat}
 (e1:(b2-a2)*(c3-a3)-(b3-a3)*(c2-a2)=m1) (e2:(b3-a3)*(c1-a1)-(b1-a1)*(c3-a3)=m2) (e3:(b1-a1)*(c2-a2)-(b2-a2)*(c1-a1)=m3)
 (h:Form m1 m2 m3 (dt m1 m2 m3 a1 a2 a3) z1 z2 z3 e):jX 17 [vS a1 a2 a3,vS b1 b2 b3,vS c1 c2 c3] (okH z1 z2 z3 e):=by
 have h0:(decide (m1=0)&&decide (m2=0)&&decide (m3=0))=false:=by
  rw [Bool.eq_false_iff]
  intro hh
  simp only [Bool.and_eq_true,decide_eq_true_eq] at hh
  exact h.h0 ⟨hh.1.1,hh.1.2,hh.2⟩
 have s:∀ {x y:Rat},Wr x→Wr y→Lf 35 (x-y):=fun hx hy=>Lf.subn (hx.lf.mono (by decide)) (hy.lf.mono (by decide)) (by decide)
 have hcross:jF 55 [vc (b1-a1) (b2-a2) (b3-a3),vc (c1-a1) (c2-a2) (c3-a3)] (vc m1 m2 m3):=by
  have:=xJ (s kb.1 ka.1) (s kb.2.1 ka.2.1) (s kb.2.2 ka.2.2) (s kc.1 ka.1) (s kc.2.1 ka.2.1) (s kc.2.2 ka.2.2)
  rw [e1,e2,e3] at this
  exact this
 refine jY Tryz.func17 fun w00 hI=>?_
 refine jW hI 52 [fnv 53,vS a1 a2 a3,fnv 53,vS b1 b2 b3] (readVV ka kb) ?_
 refine jW hI 53 [vS c1 c2 c3] (kU kc) ?_
 refine jC 61 [.fv (.nsl 2 24 [z0,z0])] (uE) ?_
 refine jC 62 [vc b1 b2 b3,vc a1 a2 a3] (uC (kb.1.lf.mono (by decide)) (kb.2.1.lf.mono (by decide)) (kb.2.2.lf.mono (by decide)) (ka.1.lf.mono (by decide)) (ka.2.1.lf.mono (by decide)) (ka.2.2.lf.mono (by decide))) ?_
 refine jC 62 [vc c1 c2 c3,vc a1 a2 a3] (uC (kc.1.lf.mono (by decide)) (kc.2.1.lf.mono (by decide)) (kc.2.2.lf.mono (by decide)) (ka.1.lf.mono (by decide)) (ka.2.1.lf.mono (by decide)) (ka.2.2.lf.mono (by decide))) ?_
 refine jC 55 [vc (b1-a1) (b2-a2) (b3-a3),vc (c1-a1) (c2-a2) (c3-a3)] (hcross) ?_
 refine jC 54 [vc m1 m2 m3] (kQ h0) ?_
 refine jC 56 [vc m1 m2 m3,vc a1 a2 a3] (xK (h.l1.mono (by decide)) (h.l2.mono (by decide)) (h.l3.mono (by decide)) (ka.1.lf.mono (by decide)) (ka.2.1.lf.mono (by decide)) (ka.2.2.lf.mono (by decide))) ?_
 refine jW hI 60 [hf m1 m2 m3 (dt m1 m2 m3 a1 a2 a3)] (zR h) ?_
 exact jR Tryz.func17
end
section
variable {o1 o2 o3 x1 x2 x3 y1 y2 y3 z1 z2 z3 m1 m2 m3 p1 p2 p3:Rat}
structure Ax (x1 x2 x3 y1 y2 y3 z1 z2 z3:Rat):Prop where
 x0:(decide (x1=0)&&decide (x2=0)&&decide (x3=0))=false
 y0:(decide (y1=0)&&decide (y2=0)&&decide (y3=0))=false
 z0:(decide (z1=0)&&decide (z2=0)&&decide (z3=0))=false
 xy:dt x1 x2 x3 y1 y2 y3=0
 yz:dt y1 y2 y3 z1 z2 z3=0
 zx:dt z1 z2 z3 x1 x2 x3=0
 s:zF (dt x1 x2 x3 (y2*z3-y3*z2) (y3*z1-y1*z3) (y1*z2-y2*z1))=1
theorem checkF (l:Lm 25 x1 x2 x3 y1 y2 y3 z1 z2 z3) (h:Ax x1 x2 x3 y1 y2 y3 z1 z2 z3):jF 134 [frm o1 o2 o3 x1 x2 x3 y1 y2 y3 z1 z2 z3] (it 0):=by
 obtain ⟨a1,a2,a3,b1,b2,b3,c1,c2,c3⟩:=l
 have hs:jF 88 [num (dt x1 x2 x3 (y2*z3-y3*z2) (y3*z1-y1*z3) (y1*z2-y2*z1))] (it 1):=by
  rw [← h.s]
  exact signF
 refine jG Tryz.func134 fun w00=>?_
 refine jC 54 [vc x1 x2 x3] (kQ h.x0) ?_
 refine jC 54 [vc y1 y2 y3] (kQ h.y0) ?_
 refine jC 54 [vc z1 z2 z3] (kQ h.z0) ?_
 refine jC 142 [frm o1 o2 o3 x1 x2 x3 y1 y2 y3 z1 z2 z3] (rR (Lm.mono ⟨a1,a2,a3,b1,b2,b3,c1,c2,c3⟩ (by decide)) h.xy h.yz h.zx) ?_
 refine jC 55 [vc y1 y2 y3,vc z1 z2 z3] (xJ (by repeat' (first|exact Lf.mono (by assumption) (by decide)|refine Lf.muln ?_ ?_ (by decide)|refine Lf.addn ?_ ?_ (by decide)|refine Lf.subn ?_ ?_ (by decide))) (by repeat' (first|exact Lf.mono (by assumption) (by decide)|refine Lf.muln ?_ ?_ (by decide)|refine Lf.addn ?_ ?_ (by decide)|refine Lf.subn ?_ ?_ (by decide))) (by repeat' (first|exact Lf.mono (by assumption) (by decide)|refine Lf.muln ?_ ?_ (by decide)|refine Lf.addn ?_ ?_ (by decide)|refine Lf.subn ?_ ?_ (by decide))) (by repeat' (first|exact Lf.mono (by assumption) (by decide)|refine Lf.muln ?_ ?_ (by decide)|refine Lf.addn ?_ ?_ (by decide)|refine Lf.subn ?_ ?_ (by decide))) (by repeat' (first|exact Lf.mono (by assumption) (by decide)|refine Lf.muln ?_ ?_ (by decide)|refine Lf.addn ?_ ?_ (by decide)|refine Lf.subn ?_ ?_ (by decide))) (by repeat' (first|exact Lf.mono (by assumption) (by decide)|refine Lf.muln ?_ ?_ (by decide)|refine Lf.addn ?_ ?_ (by decide)|refine Lf.subn ?_ ?_ (by decide)))) ?_
 refine jC 56 [vc x1 x2 x3,vc (y2*z3-y3*z2) (y3*z1-y1*z3) (y1*z2-y2*z1)] (xK (by repeat' (first|exact Lf.mono (by assumption) (by decide)|refine Lf.muln ?_ ?_ (by decide)|refine Lf.addn ?_ ?_ (by decide)|refine Lf.subn ?_ ?_ (by decide))) (by repeat' (first|exact Lf.mono (by assumption) (by decide)|refine Lf.muln ?_ ?_ (by decide)|refine Lf.addn ?_ ?_ (by decide)|refine Lf.subn ?_ ?_ (by decide))) (by repeat' (first|exact Lf.mono (by assumption) (by decide)|refine Lf.muln ?_ ?_ (by decide)|refine Lf.addn ?_ ?_ (by decide)|refine Lf.subn ?_ ?_ (by decide))) (by repeat' (first|exact Lf.mono (by assumption) (by decide)|refine Lf.muln ?_ ?_ (by decide)|refine Lf.addn ?_ ?_ (by decide)|refine Lf.subn ?_ ?_ (by decide))) (by repeat' (first|exact Lf.mono (by assumption) (by decide)|refine Lf.muln ?_ ?_ (by decide)|refine Lf.addn ?_ ?_ (by decide)|refine Lf.subn ?_ ?_ (by decide))) (by repeat' (first|exact Lf.mono (by assumption) (by decide)|refine Lf.muln ?_ ?_ (by decide)|refine Lf.addn ?_ ?_ (by decide)|refine Lf.subn ?_ ?_ (by decide)))) ?_
 refine jC 88 [num (dt x1 x2 x3 (y2*z3-y3*z2) (y3*z1-y1*z3) (y1*z2-y2*z1))] (hs) ?_
 exact jR Tryz.func134
abbrev frS (o1 o2 o3 x1 x2 x3 y1 y2 y3 z1 z2 z3:Rat):AV Kn := .fv (.ag [eS (writeB o1),eS (writeB o2),eS (writeB o3),eS (writeB x1),eS (writeB x2),eS (writeB x3),eS (writeB y1),eS (writeB y2),eS (writeB y3),eS (writeB z1),eS (writeB z2),eS (writeB z3)])
abbrev okFr (o1 o2 o3 x1 x2 x3 y1 y2 y3 z1 z2 z3:Rat):AV Kn := .tup [.ag [nb o1,nb o2,nb o3,nb x1,nb x2,nb x3,nb y1,nb y2,nb y3,nb z1,nb z2,nb z3],.sc z0]
structure Wf (o1 o2 o3 x1 x2 x3 y1 y2 y3 z1 z2 z3:Rat):Prop where
 o:rY o1 o2 o3
 x:rY x1 x2 x3
 y:rY y1 y2 y3
 z:rY z1 z2 z3
theorem Wf.lm (h:Wf o1 o2 o3 x1 x2 x3 y1 y2 y3 z1 z2 z3):Lm 5 x1 x2 x3 y1 y2 y3 z1 z2 z3:=⟨h.x.1.lf,h.x.2.1.lf,h.x.2.2.lf,h.y.1.lf,h.y.2.1.lf,h.y.2.2.lf,h.z.1.lf,h.z.2.1.lf,h.z.2.2.lf⟩
structure Fv (o1 o2 o3 x1 x2 x3 y1 y2 y3 z1 z2 z3:Rat):Prop where
 w:Wf o1 o2 o3 x1 x2 x3 y1 y2 y3 z1 z2 z3
 a:Ax x1 x2 x3 y1 y2 y3 z1 z2 z3
 r:jX 70 [frS o1 o2 o3 x1 x2 x3 y1 y2 y3 z1 z2 z3] (okFr o1 o2 o3 x1 x2 x3 y1 y2 y3 z1 z2 z3)
variable {n1 n2 n3:Int} {d e:Rat} {k1 k2 k3:Int}
end
variable {Kc:Value→Bool}
abbrev sub (β ks:List Nat):List Nat:=ks.map fun k=>β.getD k 0
end Ab
namespace Ab
open Go.RowKit Pl
end Ab
section
open Go.RowKit Pl
end
namespace Ab
open Go.RowKit Pl
end Ab
section
open Go.RowKit Pl
def fD (s:ByteArray):Nat:=(aM s).findIdx (fun c=>c==47)
def zS (s:ByteArray):Bool:=(aM s).all (fun c=>decide (48≤c.toNat)&&decide (c.toNat≤57))
theorem rU {w:World} {g:Nat} {cs:Array Value} {t:TypeId} {fr:Nat×Nat} (h:w.heap[g]?=some (.cells cs t fr)) (i:Nat):w.cell? ⟨g,i,none⟩=cs[i]?:=by
 unfold World.cell?
 rw [h]
 rfl
theorem eD (B:Nat) (l:List Nat) (k:Nat):val B (l.take (k+1))=val B (l.take k)+B^k*l.getD k 0:=by
 rcases Nat.lt_or_ge k l.length with hl|hl
 ·rw [aD _ _ _ hl]
  simp [List.getD,List.getElem?_eq_getElem hl]
 ·rw [List.take_of_length_le (by omega),List.take_of_length_le hl]
  simp [List.getD,List.getElem?_eq_none hl]
def AddI (xs ys zs:List Nat) (k cy:Nat):Prop:=cy≤1∧Dig B9 zs∧zs.length=k∧val B9 zs+B9^k*cy=val B9 (xs.take k)+val B9 (ys.take k)
theorem AddI.step {xs ys zs:List Nat} {k cy s:Nat} (h:AddI xs ys zs k cy) (hx:Dig B9 xs) (hy:Dig B9 ys) (hs:s=xs.getD k 0+ys.getD k 0+cy):AddI xs ys (zs ++ [s%B9]) (k+1) (s/B9):=by
 obtain ⟨h1,h2,h3,h4⟩:=h
 have bx:=hx.get0 fZ k
 have by':=hy.get0 fZ k
 have hq:s/B9≤1:=by
  generalize xs.getD k 0=x at *
  generalize ys.getD k 0=y at *
  subst hs
  rw [tH] at *
  clear hx hy h2 h4
  omega
 refine ⟨hq,h2.app (Dig.cons (Nat.mod_lt _ fZ) (Dig.nil _)),by simp [h3],?_⟩
 rw [cM,h3,eD,eD,Nat.pow_succ]
 have hdm:=Nat.div_add_mod s B9
 generalize s/B9=q at *
 generalize s%B9=r at *
 generalize xs.getD k 0=x at *
 generalize ys.getD k 0=y at *
 clear bx by' hq hx hy h2
 generalize B9=V at *
 grind
theorem AddI.finish {xs ys zs:List Nat} {k:Nat} (h:AddI xs ys zs k 0) (h1:xs.length≤k) (h2:ys.length≤k):val B9 zs=val B9 xs+val B9 ys:=by
 obtain ⟨_,_,_,h4⟩:=h
 rw [List.take_of_length_le h1,List.take_of_length_le h2,Nat.mul_zero,Nat.add_zero] at h4
 exact h4
theorem AddI.nil (xs ys:List Nat):AddI xs ys [] 0 0:=⟨by omega,Dig.nil _,rfl,by simp [val]⟩
def Di (w:World) (v:Value) (a:Nat):Prop := ∃ A n c xs,v = .slice A n c∧Ri w A n c xs∧Dig B9 xs∧Norm xs∧val B9 xs=a
theorem Di.below {w w' : World} {v:Value} {a:Nat} (h:Di w v a) (hb:Below w.heap.size w w'):Di w' v a:=by
 obtain ⟨A,n,c,xs,hv,hr,hd,hn,ha⟩:=h
 exact ⟨A,n,c,xs,hv,hr.below hb,hd,hn,ha⟩
theorem uF (B:Nat):∀ (l:List Nat) (p d:Nat) (h:p<l.length),val B (l.set p d)+B^p*l[p]=val B l+B^p*d
 | x::l,0,d,_=>by simp [val];omega
 | x::l,p+1,d,h=>by
   have:=uF B l p d (by simpa using h)
   simp only [List.set_cons_succ,val,List.getElem_cons_succ,Nat.pow_succ]
   have e:B*(val B (l.set p d)+B^p*l[p]'(by simpa using h))=B*(val B l+B^p*d):=by rw [this]
   rw [Nat.mul_add,Nat.mul_add] at e
   have e1:B^p*B*l[p]'(by simpa using h)=B*(B^p*l[p]'(by simpa using h)):=by rw [Nat.mul_comm (B^p) B,Nat.mul_assoc]
   have e2:B^p*B*d=B*(B^p*d):=by rw [Nat.mul_comm (B^p) B,Nat.mul_assoc]
   rw [e1,e2]
   omega
def DivJ (xs zs:List Nat) (d k r:Nat):Prop :=
 Dig B9 zs∧zs.length=xs.length∧r<d∧val B9 (zs.drop k)*d+r=val B9 (xs.drop k)
theorem DivJ.step {xs zs:List Nat} {d k r x:Nat} (h:DivJ xs zs d (k+1) r) (hx:xs[k]?=some x) (hq:(r*B9+x)/d<B9) :
 DivJ xs (zs.set k ((r*B9+x)/d)) d k ((r*B9+x)%d):=by
 obtain ⟨h1,h2,h3,h4⟩:=h
 obtain ⟨hk,ex⟩:=List.getElem?_eq_some_iff.1 hx
 refine ⟨h1.set hq,by simp [h2],Nat.mod_lt _ (by omega),?_⟩
 have e:(zs.set k ((r*B9+x)/d)).drop k=(r*B9+x)/d::zs.drop (k+1):=by
  rw [List.drop_eq_getElem_cons (by simp;omega),List.getElem_set_self,List.drop_set_of_lt (by omega)]
 rw [e,jU _ _ _ hk,ex]
 simp only [val]
 have:=Nat.div_add_mod (r*B9+x) d
 rw [← h4]
 generalize (r*B9+x)/d=q at *
 generalize (r*B9+x)%d=m at *
 clear hq h1 h3 e
 generalize B9=V at *
 grind
theorem DivJ.start (xs:List Nat) {d:Nat} (hd:0<d):DivJ xs (List.replicate xs.length 0) d xs.length 0:=⟨Dig.replicate fZ _,by simp,hd,by simp [val]⟩
theorem DivJ.finish {xs zs:List Nat} {d r:Nat} (h:DivJ xs zs d 0 r):val B9 zs=val B9 xs/d∧r=val B9 xs%d:=by
 obtain ⟨_,_,h3,h4⟩:=h
 simp only [List.drop_zero] at h4
 rw [← h4]
 constructor
 ·rw [Nat.add_comm,Nat.add_mul_div_right _ _ (by omega),Nat.div_eq_of_lt h3];omega
 ·rw [Nat.add_comm,Nat.add_mul_mod_self_right,Nat.mod_eq_of_lt h3]
theorem xY {ys zs:List Nat} {o:Nat} (hy:Dig B9 ys) (hz:Dig B9 zs):Dig B9 (put ys o zs):=(hy.take _).app (hz.app (hy.drop _))
def LongJ (V U0 n' L:Nat) (us qs:List Nat) (k:Nat):Prop :=
 Dig B9 us∧us.length=L+n'∧Dig B9 qs∧qs.length=L∧val B9 (us.drop k)<V∧val B9 (qs.drop k)*V*B9^k+val B9 us=U0
theorem LongJ.window {V U0 n' L m:Nat} {us qs:List Nat} (h:LongJ V U0 n' L us qs (m+1)) (hm:m<L) (hV:V≤B9^n') :
 val B9 ((us.drop m).take (n'+1))=val B9 (us.drop m)∧val B9 (us.drop (m+(n'+1)))=0∧val B9 (us.drop m)<V*B9:=by
 obtain ⟨h1,h2,h3,h4,h5,h6⟩:=h
 have e1:=jU B9 us m (by omega)
 have l1:=h1.get m (by omega)
 have hlt:val B9 (us.drop m)<V*B9:=by
  have:B9*(val B9 (us.drop (m+1))+1)≤B9*V:=Nat.mul_le_mul_left _ h5
  rw [Nat.mul_add,Nat.mul_one] at this
  rw [Nat.mul_comm V]
  omega
 have e2:=cG B9 (us.drop m) (n'+1) (by simp;omega)
 rw [List.drop_drop] at e2
 have hz:val B9 (us.drop (m+(n'+1)))=0:=by
  rcases Nat.eq_zero_or_pos (val B9 (us.drop (m+(n'+1)))) with e|e
  ·exact e
  ·exfalso
   have a1:B9^(n'+1)*1≤B9^(n'+1)*val B9 (us.drop (m+(n'+1))):=Nat.mul_le_mul_left _ e
   have a2:V*B9≤B9^n'*B9:=Nat.mul_le_mul_right _ hV
   rw [← Nat.pow_succ] at a2
   have:n'.succ=n'+1:=rfl
   rw [this] at a2
   omega
 rw [hz] at e2
 exact ⟨by omega,hz,hlt⟩
theorem LongJ.step {V U0 n' L m:Nat} {us qs zs:List Nat} (h:LongJ V U0 n' L us qs (m+1)) (hm:m<L) (hV:V≤B9^n') (hV0:0<V)
 (hz:zs.length=n'+1) (hzd:Dig B9 zs) (hzv:val B9 zs=val B9 ((us.drop m).take (n'+1))%V) :
 LongJ V U0 n' L (put us m zs) (qs.set m (val B9 ((us.drop m).take (n'+1))/V)) m:=by
 obtain ⟨w1,w2,w3⟩:=h.window hm hV
 obtain ⟨h1,h2,h3,h4,h5,h6⟩:=h
 rw [w1] at hzv ⊢
 have hq:val B9 (us.drop m)/V<B9:=by rw [Nat.div_lt_iff_lt_mul hV0,Nat.mul_comm];exact w3
 have hlen:m+zs.length≤us.length:=by omega
 have e1:val B9 ((put us m zs).drop m)=val B9 (us.drop m)%V:=by
  rw [rE hlen,dG,hz,w2,hzv,Nat.mul_zero,Nat.add_zero]
 have e2:val B9 (put us m zs)=val B9 (us.take m)+B9^m*(val B9 (us.drop m)%V):=by
  rw [cG B9 (put us m zs) m (by rw [bI hlen];omega),oZ hlen,e1]
 have e3:=cG B9 us m (by omega)
 have e4:(qs.set m (val B9 (us.drop m)/V)).drop m=val B9 (us.drop m)/V::qs.drop (m+1):=by
  rw [List.drop_eq_getElem_cons (by simp;omega),List.getElem_set_self,List.drop_set_of_lt (by omega)]
 have hdm:=Nat.div_add_mod (val B9 (us.drop m)) V
 refine ⟨xY h1 hzd,by rw [bI hlen,h2],h3.set hq,by simp [h4],by rw [e1];exact Nat.mod_lt _ hV0,?_⟩
 rw [e4,e2,← h6,e3,Nat.pow_succ]
 exact rF _ _ _ _ _ _ _ _ hdm
theorem LongJ.finish {V n' L d f N:Nat} {us qs:List Nat} (h:LongJ V (N*f) n' L us qs 0) (hV:V=d*f) (hd:0<d) (hf:0<f) :
 val B9 qs=N/d∧val B9 us=N%d*f∧val B9 us<V:=by
 obtain ⟨_,_,_,_,h5,h6⟩:=h
 have hV0:0<V:=by rw [hV];exact Nat.mul_pos hd hf
 simp only [List.drop_zero,Nat.pow_zero,Nat.mul_one] at h5 h6
 have e1:N*f/V=val B9 qs:=by rw [← h6,Nat.add_comm,Nat.add_mul_div_right _ _ hV0,Nat.div_eq_of_lt h5];omega
 have e2:N*f%V=val B9 us:=by rw [← h6,Nat.add_comm,Nat.add_mul_mod_self_right,Nat.mod_eq_of_lt h5]
 refine ⟨?_,?_,h5⟩
 ·rw [← e1,hV,Nat.mul_div_mul_right _ _ hf]
 ·rw [← e2,hV,Nat.mul_mod_mul_right]
theorem LongJ.start {V U0 n n' : Nat} {us:List Nat} {N d f:Nat} (hu:Dig B9 us) (hul:us.length=n+1) (hU:val B9 us=U0) (hU0:U0=N*f) (hN:N<B9^n) (hV:V=d*f) (hf:0<f) (hd:B9^(n'-1)≤d) (hn:n'≤n) (hn0:0<n') :
 LongJ V U0 n' (n-n'+1) us (List.replicate (n-n'+1) 0) (n-n'+1):=by
 refine ⟨hu,by omega,Dig.replicate fZ _,by simp,?_,?_⟩
 ·have e:=cG B9 us (n-n'+1) (by omega)
  have a1:N*f<B9^n*f:=Nat.mul_lt_mul_of_pos_right hN hf
  have a2:B9^n=B9^(n-n'+1)*B9^(n'-1):=by rw [← Nat.pow_add];congr 1;omega
  have a3:B9^(n-n'+1)*val B9 (us.drop (n-n'+1))<B9^(n-n'+1)*(B9^(n'-1)*f):=by
   rw [← Nat.mul_assoc,← a2];omega
  have a4:=Nat.lt_of_mul_lt_mul_left a3
  have a5:B9^(n'-1)*f≤d*f:=Nat.mul_le_mul_right _ hd
  rw [hV];omega
 ·rw [List.drop_of_length_le (by simp)]
  simp [val,hU]
def TakeK (ys vs zs:List Nat) (o t k bo:Nat):Prop:=zs.length=k∧Dig B9 zs∧bo≤B9∧val B9 zs+t*val B9 (vs.take k)=val B9 ((ys.drop o).take k)+B9^k*bo
theorem TakeK.step {ys vs zs:List Nat} {o t k bo x v p e r:Nat} (h:TakeK ys vs zs o t k bo) (hx:ys[o+k]?=some x) (hv:vs[k]?=some v) (hp:p=t*v+bo) (hr:r<B9) (he:p/B9+e≤B9) (hx2:r+p%B9=x+B9*e) :
 TakeK ys vs (zs ++ [r]) o t (k+1) (p/B9+e):=by
 obtain ⟨h1,h2,h3,h4⟩:=h
 have hxd:(ys.drop o)[k]?=some x:=by rw [List.getElem?_drop];exact hx
 obtain ⟨k1,ex⟩:=List.getElem?_eq_some_iff.1 hxd
 obtain ⟨k2,ev⟩:=List.getElem?_eq_some_iff.1 hv
 refine ⟨by simp [h1],h2.app (Dig.cons hr (Dig.nil _)),he,?_⟩
 rw [cM,aD _ _ _ k1,aD _ _ _ k2,ex,ev,h1,Nat.pow_succ]
 have hdm:=Nat.div_add_mod p B9
 generalize p/B9=q at *
 generalize p%B9=s at *
 clear h2 h3 hr he ex ev k1 k2 hxd hx hv
 generalize B9^k=P at *
 generalize B9=V at *
 subst hp
 grind
def BackK (ys vs zs:List Nat) (o k cy:Nat):Prop:=zs.length=k∧Dig B9 zs∧cy≤1∧val B9 zs+B9^k*cy=val B9 ((ys.drop o).take k)+val B9 (vs.take k)
theorem BackK.step {ys vs zs:List Nat} {o k cy x v s:Nat} (h:BackK ys vs zs o k cy) (hx:ys[o+k]?=some x) (hv:vs[k]?=some v) (hs:s=x+v+cy) (bx:x<B9) (bv:v<B9):BackK ys vs (zs ++ [s%B9]) o (k+1) (s/B9):=by
 obtain ⟨h1,h2,h3,h4⟩:=h
 have hxd:(ys.drop o)[k]?=some x:=by rw [List.getElem?_drop];exact hx
 obtain ⟨k1,ex⟩:=List.getElem?_eq_some_iff.1 hxd
 obtain ⟨k2,ev⟩:=List.getElem?_eq_some_iff.1 hv
 have hq:s/B9≤1:=by subst hs;rw [tH] at *;clear h4 hx hv hxd;omega
 refine ⟨by simp [h1],h2.app (Dig.cons (Nat.mod_lt _ fZ) (Dig.nil _)),hq,?_⟩
 rw [cM,aD _ _ _ k1,aD _ _ _ k2,ex,ev,h1,Nat.pow_succ]
 have hdm:=Nat.div_add_mod s B9
 generalize s/B9=q at *
 generalize s%B9=r at *
 clear h2 h3 ex ev k1 k2 hxd hx hv bx bv hq
 generalize B9^k=P at *
 generalize B9=V at *
 subst hs
 grind
def Ow (w:World) (g c:Nat) (zs:List Int):Prop := ∃ cur:Array Value,w.heap[g]?=some (.cells cur 3 (0,0))∧cur.size=c∧zs.length≤c∧cur.toList.take zs.length=zs.map (Value.int .i64)
section
variable {w w' : World} {g c:Nat} {zs:List Int}
theorem Ow.lt (h:Ow w g c zs):g<w.heap.size:=by obtain ⟨cur,h1,_⟩:=h;exact (Array.getElem?_eq_some_iff.1 h1).1
theorem Ow.cell (h:Ow w g c zs) {i:Nat} {z:Int} (hz:zs[i]?=some z):w.cell? ⟨g,i,none⟩=some (.int .i64 z):=by
 obtain ⟨cur,h1,h2,h3,h4⟩:=h
 rw [rU h1,← Array.getElem?_toList]
 have hi:=(List.getElem?_eq_some_iff.1 hz).1
 have:(cur.toList.take zs.length)[i]?=some (.int .i64 z):=by rw [h4,List.getElem?_map,hz];rfl
 rw [List.getElem?_take,if_pos hi] at this
 exact this
theorem Ow.frozen (h:Ow w g c zs) (i:Nat):w.frozen? ⟨g,i,none⟩=false:=by
 obtain ⟨cur,h1,_⟩:=h
 simp [World.frozen?,h1]
theorem Ow.set_ (h:Ow w g c zs) (i:Nat) (z:Int):Ow (w.setCell ⟨g,i,none⟩ (.int .i64 z)) g c (zs.set i z):=by
 obtain ⟨cur,h1,h2,h3,h4⟩:=h
 refine ⟨cur.setIfInBounds i (.int .i64 z),?_,by simp [h2],by simpa using h3,?_⟩
 ·simp only [World.setCell,Array.getElem?_modify,h1];simp
 ·rw [List.length_set,Array.toList_setIfInBounds,List.take_set,h4,List.map_set]
theorem Ow.far (h:Ow w g c zs) {p:Addr} (hp:g≠p.block) (u:Value):Ow (w.setCell p u) g c zs:=by
 obtain ⟨cur,h1,h2⟩:=h
 exact ⟨cur,(Below.heap_setCell w p u g hp).trans h1,h2⟩
theorem Ow.below {B:Nat} (h:Ow w g c zs) (hb:Below B w w') (hg:g<B):Ow w' g c zs:=by
 obtain ⟨cur,h1,h2⟩:=h
 exact ⟨cur,(hb.block g hg).trans h1,h2⟩
theorem Ow.grown {row:Option Nat} (h:Ow w g c zs) (hg:w.grownBy w' row) (hr:some g≠row):Ow w' g c zs:=by
 obtain ⟨cur,h1,h2⟩:=h
 exact ⟨cur,(hg.block g (Array.getElem?_eq_some_iff.1 h1).1 hr).trans h1,h2⟩
end
abbrev ints (xs:List Nat):List Int:=xs.map (fun (x:Nat)=>(x:Int))
theorem Ow.rd {w:World} {g c:Nat} {xs:List Nat} (h:Ow w g c (ints xs)) (hc:c≤maxLen):Ri w (some ⟨g,0,none⟩) xs.length c xs:=by
 have hl:=h.lt
 refine ⟨rfl,?_,hc,fun _=>⟨_,rfl,hl,fun j x hx=>?_⟩⟩
 ·obtain ⟨cur,_,_,h3,_⟩:=h;simpa using h3
 ·have:(⟨g,0,none⟩:Addr).add j=⟨g,j,none⟩:=by unfold Addr.add;split <;> simp_all
  rw [this]
  exact h.cell (by rw [List.getElem?_map,hx];rfl)
def MulO (xs ys zs:List Nat) (i:Nat):Prop :=
 Dig B9 zs∧zs.length=xs.length+ys.length∧val B9 (zs.take (i+ys.length))=val B9 (xs.take i)*val B9 ys∧∀ j,i+ys.length≤j→j<zs.length→zs[j]?=some 0
def MulK (xs ys zs ws:List Nat) (i k cy x:Nat):Prop :=
 Dig B9 ws∧ws.length=xs.length+ys.length∧cy<B9∧val B9 (ws.take (i+ys.length))+B9^(i+k)*cy=val B9 (zs.take (i+ys.length))+B9^i*(x*val B9 (ys.take k))∧∀ j,i+ys.length≤j→j<ws.length→ws[j]?=some 0
theorem MulO.start (xs ys:List Nat):MulO xs ys (List.replicate (xs.length+ys.length) 0) 0:=by
 refine ⟨Dig.replicate fZ _,by simp,?_,fun j _ h=>?_⟩
 ·rw [List.take_replicate,fN];simp [val]
 ·simp at h;simp [List.getElem?_replicate,h]
theorem MulK.start {xs ys zs:List Nat} {i:Nat} (h:MulO xs ys zs i) (x:Nat):MulK xs ys zs zs i 0 0 x:=⟨h.1,h.2.1,fZ,by simp [val],h.2.2.2⟩
theorem xZ {V P v w o r s q cy y x m:Nat} (h:v+P*o=w+P*r) (e:w+P*cy=m) (hs:s=o+x*y+cy) (hdm:V*q+r=s):v+P*V*q=m+P*(x*y):=by subst hs;grind
theorem MulK.step {xs ys zs ws:List Nat} {i k cy x y o s:Nat} (h:MulK xs ys zs ws i k cy x) (hy:ys[k]?=some y) (ho:ws[i+k]?=some o) (hi:i<xs.length) (hs:s=o+x*y+cy) (hq:s/B9<B9) :
 MulK xs ys zs (ws.set (i+k) (s%B9)) i (k+1) (s/B9) x:=by
 obtain ⟨h1,h2,h3,h4,h5⟩:=h
 obtain ⟨hk,ey⟩:=List.getElem?_eq_some_iff.1 hy
 obtain ⟨hp,eo⟩:=List.getElem?_eq_some_iff.1 ho
 refine ⟨h1.set (Nat.mod_lt _ fZ),by rw [List.length_set,h2],hq,?_,fun j hj hl=>?_⟩
 ·have e:=uF B9 (ws.take (i+ys.length)) (i+k) (s%B9) (by rw [List.length_take];omega)
  rw [List.getElem_take,eo] at e
  rw [List.take_set,aD _ _ _ hk,ey]
  have hdm:=Nat.div_add_mod s B9
  rw [Nat.mul_add x,Nat.mul_add (B9^i),show x*(B9^k*y)=B9^k*(x*y) by rw [Nat.mul_left_comm],← Nat.mul_assoc (B9^i) (B9^k),← Nat.pow_add,← Nat.add_assoc (val B9 _)]
  rw [show i+(k+1)=i+k+1 from rfl,Nat.pow_succ]
  have e2:val B9 ((ws.take (i+ys.length)).set (i+k) (s%B9))+B9^(i+k)*o=val B9 (ws.take (i+ys.length))+B9^(i+k)*(s%B9):=e
  generalize B9^(i+k)=P at *
  generalize s/B9=q at *
  generalize s%B9=r at *
  exact xZ e2 h4 hs hdm
 ·rw [List.getElem?_set_ne (by omega)]
  exact h5 j hj (by simpa using hl)
theorem yA {a v x y P Q c:Nat} (h4:v+Q*c=a*y+P*(x*y)):v+Q*c=(a+P*x)*y:=by grind
theorem MulK.finish {xs ys zs ws:List Nat} {i cy x:Nat} (h:MulK xs ys zs ws i ys.length cy x) (hz:MulO xs ys zs i) (hx:xs[i]?=some x):MulO xs ys (ws.set (i+ys.length) cy) (i+1):=by
 obtain ⟨h1,h2,h3,h4,h5⟩:=h
 obtain ⟨hi,ex⟩:=List.getElem?_eq_some_iff.1 hx
 refine ⟨h1.set h3,by rw [List.length_set,h2],?_,fun j hj hl=>?_⟩
 ·rw [show i+1+ys.length=i+ys.length+1 by omega,aD _ _ _ (by rw [List.length_set];omega),List.take_set_of_le (aR _),List.getElem_set_self,aD _ _ _ hi,ex]
  rw [List.take_of_length_le (aR _),hz.2.2.1] at h4
  exact yA h4
 ·rw [List.getElem?_set_ne (by omega)]
  exact h5 j (by omega) (by simpa using hl)
theorem MulO.finish {xs ys zs:List Nat} (h:MulO xs ys zs xs.length):val B9 zs=val B9 xs*val B9 ys:=by
 obtain ⟨_,h2,h3,_⟩:=h
 rwa [List.take_of_length_le (by omega),List.take_of_length_le (aR _)] at h3
def SubI (xs ys zs:List Nat) (k bo:Nat):Prop:=bo≤1∧Dig B9 zs∧zs.length=k∧val B9 zs+val B9 (ys.take k)=val B9 (xs.take k)+B9^k*bo
theorem SubI.nil (xs ys:List Nat):SubI xs ys [] 0 0:=⟨by omega,Dig.nil _,rfl,by simp [val]⟩
theorem SubI.step {xs ys zs:List Nat} {k bo r q:Nat} (h:SubI xs ys zs k bo) (hr:r<1000000000) (hq:q≤1) (e:r+ys.getD k 0+bo=xs.getD k 0+1000000000*q):SubI xs ys (zs ++ [r]) (k+1) q:=by
 obtain ⟨h1,h2,h3,h4⟩:=h
 refine ⟨hq,h2.app (Dig.cons (by rw [tH];exact hr) (Dig.nil _)),by simp [h3],?_⟩
 rw [cM,h3,eD,eD,Nat.pow_succ]
 rw [← tH] at e
 generalize xs.getD k 0=x at *
 generalize ys.getD k 0=y at *
 clear hr hq h2 h3 h1
 generalize B9=V at *
 grind
theorem SubI.finish {xs ys zs:List Nat} {k bo:Nat} (h:SubI xs ys zs k bo) (h1:xs.length=k) (h2:ys.length≤k) (hle:val B9 ys≤val B9 xs):val B9 zs=val B9 xs-val B9 ys:=by
 obtain ⟨_,hd,hl,h4⟩:=h
 rw [List.take_of_length_le h2,List.take_of_length_le (by omega)] at h4
 have hz:=bV hd
 rw [hl] at hz
 have hb:bo=0:=by
  rcases Nat.eq_zero_or_pos bo with e|e
  ·exact e
  ·exfalso
   have:B9^k*1≤B9^k*bo:=Nat.mul_le_mul_left _ e
   omega
 rw [hb] at h4
 omega
theorem Di.nil (w:World):Di w (.slice none 0 0) 0:=⟨none,0,0,[],rfl,Ri.nil,Dig.nil _,Norm.nil,rfl⟩
def lo (n:Nat):Nat→List UInt8
 | 0 => []
 | k+1=>UInt8.ofNat (48+n/10^k%10)::lo n k
def yB (z:Int):ByteArray:=if z<0 then ⟨#[45]⟩++Ab.decB z.natAbs else Ab.decB z.natAbs
end
section
open Go.RowKit Pl
def Kr:Value→Bool
 | .int .i64 _=>true
 | _=>false
theorem Ri.ext {K:Value→Bool} (hK:∀ x,K (.int .i64 x)=true) {w w' : World} {A:Option Addr} {n c:Nat} {xs:List Nat} (h:Ri w A n c xs) (hx:Ext K w w'):Ri w' A n c xs:=by
 refine ⟨h.1,h.2.1,h.2.2.1,fun hn=>?_⟩
 obtain ⟨ad,e,hl,hc⟩:=h.2.2.2 hn
 exact ⟨ad,e,Nat.lt_of_lt_of_le hl hx.size,fun j x hj=>hx.cell (hc j x hj) (hK _)⟩
theorem Di.ext {w w' : World} {v:Value} {a:Nat} (h:Di w v a) (hx:Ext Kr w w'):Di w' v a:=by
 obtain ⟨A,n,c,xs,hv,hr,hd,hn,ha⟩:=h
 exact ⟨A,n,c,xs,hv,hr.ext (fun _=>rfl) hx,hd,hn,ha⟩
def Ru (w:World) (v:Value) (a:Nat):Prop := ∃ A n c xs,v = .slice A n c∧Ri w A n c xs∧Dig B9 xs∧val B9 xs=a
theorem Ru.ext {w w' : World} {v:Value} {a:Nat} (h:Ru w v a) (hx:Ext Kr w w'):Ru w' v a:=by
 obtain ⟨A,n,c,xs,hv,hr,hd,ha⟩:=h
 exact ⟨A,n,c,xs,hv,hr.ext (fun _=>rfl) hx,hd,ha⟩
end
namespace Ab
open Go.RowKit Pl
def aAg (v:Value) (h:v.oneCell'=true) (c:Bool) (hc:c=true→Kr v=false):CS Kr where
 size:=1
 cold:=c
 pred cs _:=cs = [v]
 stable _ _ _ h _:=h
 len _ _ h:=by rw [h];rfl
 one _ _ hp:=by rw [hp];intro c hc;rw [List.mem_singleton] at hc;rw [hc];exact h
 iscold hb _ _ hp:=by rw [hp];intro d hd;rw [List.mem_singleton] at hd;rw [hd];exact hc hb
abbrev rB (b:Bool):Seg Kr := .sp (aAg (.bool b) rfl true (fun _=>rfl))
abbrev rb (b:Bool):AV Kr := .fv (.sc (rB b))
end Ab
section
open Go.RowKit Pl
theorem rV (z:Int):yB z=Ab.writeB (z:Rat):=by
 unfold yB Ab.writeB Ab.overB
 rw [if_pos (Rat.den_intCast z),Rat.num_intCast]
end
namespace Ab
open Go.RowKit Pl
end Ab
namespace Ab
open Go.RowKit Pl
end Ab
section
open Go.RowKit Pl
end
namespace Ab
open Go.RowKit Pl
def Zs (k:Nat) (q:Rat):Prop:=q.num.natAbs<10^(k+1)∧q.den<10^(k+1)
theorem zT {k:Nat} {q:Rat} (h:Zs k q) (hk:k≤10000):(decB q.num.natAbs).size≤100000∧(decB q.den).size≤100000:=by
 have h1:=eU h.1
 have h2:=eU h.2
 omega
end Ab
section
open Go.RowKit Pl
end
namespace Ab
open Go.RowKit Pl
def aAh:ByteArray:=⟨#[48]⟩
def oneT:ByteArray:=⟨#[49]⟩
def decF (s:ByteArray):Bool:=if s.size=0 then false else if 1<s.size∧(aM s).head?=some 48 then false else zS s
def negB (s:ByteArray):Bool:=(aM s).head?==some 45
def bF (s:ByteArray):ByteArray:=if negB s=true then s.extract 1 s.size else s
def sX (s:ByteArray):Int :=
 if decF ((bF s).extract 0 (fD (bF s)))=false∨(negB s=true∧(bF s).extract 0 (fD (bF s))=aAh) then 1
 else if fD (bF s)<(bF s).size∧(decF ((bF s).extract (fD (bF s)+1) (bF s).size)=false∨(bF s).extract (fD (bF s)+1) (bF s).size=aAh∨(bF s).extract (fD (bF s)+1) (bF s).size=oneT) then 1
 else if 600<fD (bF s)∨600<(bF s).size-fD (bF s)-1 then 4
 else if fD (bF s)<(bF s).size∧Nat.gcd (aY (aM ((bF s).extract 0 (fD (bF s))))) (aY (aM ((bF s).extract (fD (bF s)+1) (bF s).size)))≠1 then 1 else 0
end Ab
section
open Go.RowKit Pl
end
namespace Ab
open Go.RowKit Pl
end Ab
namespace Ab
open Go.RowKit Pl
theorem qC {β:List Nat} {cs:List Value} {w:World} {b:ByteArray}:(eS b).holds β cs w↔(Seg.lit (.string b):Seg Kn).holds β cs w:=⟨fun h=>⟨h,rfl⟩,fun h=>h.1⟩
inductive LitL:List (Seg Kn)→List (Seg Kn)→Prop where
 | nil:LitL [] []
 | txt {b:ByteArray} {l m}:LitL l m→LitL (eS b::l) (.lit (.string b)::m)
 | same {s:Seg Kn} {l m}:LitL l m→LitL (s::l) (s::m)
theorem LitL.to {β:List Nat} {w:World} {l m:List (Seg Kn)} (h:LitL l m):∀ {cs:List Value},holdsL β l cs w↔holdsL β m cs w:=by
 induction h with
 | nil=>intro cs;exact Iff.rfl
 | txt _ ih =>
   intro cs
   constructor
   ·rintro ⟨a,b,e,h1,h2⟩;exact ⟨a,b,e,qC.1 h1,ih.1 h2⟩
   ·rintro ⟨a,b,e,h1,h2⟩;exact ⟨a,b,e,qC.2 h1,ih.2 h2⟩
 | same _ ih =>
   intro cs
   constructor
   ·rintro ⟨a,b,e,h1,h2⟩;exact ⟨a,b,e,h1,ih.1 h2⟩
   ·rintro ⟨a,b,e,h1,h2⟩;exact ⟨a,b,e,h1,ih.2 h2⟩
theorem sY {β:List Nat} {v:Value} {w:World} {l m:List (Seg Kn)} (h:LitL l m):(AV.fv (.ag l)).holds β v w↔(AV.fv (.ag m)).holds β v w:=by
 constructor
 ·rintro ⟨cs,e,k⟩;exact ⟨cs,e,h.to.1 k⟩
 ·rintro ⟨cs,e,k⟩;exact ⟨cs,e,h.to.2 k⟩
theorem yC {β:List Nat} {v:Value} {w:World} {b:ByteArray}:(AV.fv (.sc (eS b)):AV Kn).holds β v w↔(AV.fv (.sc (.lit (.string b))):AV Kn).holds β v w:=qC (β:=β) (cs := [v])
theorem FitsW.args {P:Program} {I:World→Prop} {f:FuncId} {l l' : List (AV Kn)} {x:AV Kn} (h:FitsW P I f l x) (hl:∀ β vs w,aZ β l' vs w→aZ β l vs w):FitsW P I f l' x:=fun β w vs hI hv=>h β w vs hI (hl β vs w hv)
theorem FitsW.res {P:Program} {I:World→Prop} {f:FuncId} {l:List (AV Kn)} {x y:AV Kn} (h:FitsW P I f l x) (hx:∀ β v w,x.holds β v w→y.holds β v w):FitsW P I f l y:=fun β w vs hI hv =>
 (h β w vs hI hv).mono fun e w' ⟨v,e1,e2,e3⟩=>⟨v,e1,e2,hx β v w' e3⟩
theorem bT {n:Nat} (h:n<10):decB n=⟨#[UInt8.ofNat (48+n)]⟩:=by unfold decB;rw [cI h]
theorem cL {z:Int} {b:ByteArray} (hz:¬ z<0) (h:decB z.natAbs=b):writeB (z:Rat)=b:=by
 rw [← rV,yB,if_neg hz,h]
theorem w0:writeB ((0:Int):Rat)=⟨#[48]⟩:=cL (by omega) (bT (n:=0) (by omega))
theorem w1:writeB ((1:Int):Rat)=⟨#[49]⟩:=cL (by omega) (bT (n:=1) (by omega))
theorem w5:writeB ((5:Int):Rat)=⟨#[53]⟩:=cL (by omega) (bT (n:=5) (by omega))
end Ab
section
open Go.RowKit Pl
end
namespace Ab
open Go.RowKit Pl
end Ab
namespace Ab
open Go.RowKit Pl
end Ab
section
open Go.RowKit Pl
section
variable {r:Nat} {w:World} (h:128≤r) (hm:r≤2147483647) (he:r≠65533) (hb:Lib.validRune (r:Int)=true)
include h hm he hb
end
theorem far {b:UInt8} (h:128≤b.toNat):([47,46]:List UInt8).contains b=false:=by
 rw [Bool.eq_false_iff]
 intro e
 have:b=47∨b=46:=by simpa using e
 rcases this with rfl|rfl <;> exact absurd h (by decide)
end
section
open Go.RowKit Pl
def pointB (s:ByteArray):Nat:=(aM s).findIdx (fun c=>c==47 || c==46)
end
namespace Ab
open Go.RowKit Pl
end Ab
namespace Ab
open Go.RowKit Pl
abbrev t3 (a b c:ByteArray):AV Kn := .fv (.ag [eS a,eS b,eS c])
end Ab
section
open Go.RowKit Pl
end
namespace Ab
open Go.RowKit Pl
end Ab
namespace Fr
open Go.RowKit Go.Shelf
attribute [local go_sem] Oper.semAt_some
def axV (x1 x2 x3 y1 y2 y3 z1 z2 z3:ByteArray):Fin 3→Value
 | 0 => .agg #[.string x1,.string x2,.string x3]
 | 1 => .agg #[.string y1,.string y2,.string y3]
 | 2 => .agg #[.string z1,.string z2,.string z3]
def axE (x1 x2 x3 y1 y2 y3 z1 z2 z3:ByteArray) (i:Fin 3):Array Value := #[.int .i64 ((i.val:Nat):Int),axV x1 x2 x3 y1 y2 y3 z1 z2 z3 i]
theorem ix0 (w:World) (x1 x2 x3 y1 y2 y3 z1 z2 z3:ByteArray):(Sem.run Tryz.prog (Instr.index 227 (.agg #[.string x1,.string x2,.string x3,.string y1,.string y2,.string y3,.string z1,.string z2,.string z3]) (.int .i64 0)) w) = .ok (.agg #[.string x1,.string x2,.string x3]) w:=by
 kernel_rfl
theorem ix1 (w:World) (x1 x2 x3 y1 y2 y3 z1 z2 z3:ByteArray):(Sem.run Tryz.prog (Instr.index 227 (.agg #[.string x1,.string x2,.string x3,.string y1,.string y2,.string y3,.string z1,.string z2,.string z3]) (.int .i64 1)) w) = .ok (.agg #[.string y1,.string y2,.string y3]) w:=by
 kernel_rfl
theorem ix2 (w:World) (x1 x2 x3 y1 y2 y3 z1 z2 z3:ByteArray):(Sem.run Tryz.prog (Instr.index 227 (.agg #[.string x1,.string x2,.string x3,.string y1,.string y2,.string y3,.string z1,.string z2,.string z3]) (.int .i64 2)) w) = .ok (.agg #[.string z1,.string z2,.string z3]) w:=by
 kernel_rfl
set_option maxRecDepth 100000 in
theorem yD (F:Fence) (n:Nat) (h8:F.fn 185) (hro:F.round=none) (hn:1≤n) (l Bf n₀:Nat) (o1 o2 o3 x1 x2 x3 y1 y2 y3 z1 z2 z3:ByteArray) (J Jx:List (Fin 3)→World→Prop)
 (hY:∀ pre x W,J pre W→pre.length<3→YieldAt F (n-1) Tryz.prog l (axE x1 x2 x3 y1 y2 y3 z1 z2 z3 x) W fun e W' =>
  (e = .returned (.bool true)∧J (pre ++ [x]) W'∧Below n₀ W W')∨(e = .returned (.bool false)∧Jx (pre ++ [x]) W'))
 (W:World) (hJ:AbidesFrom W.heap.size J) (hn0:n₀≤W.heap.size) (hB:W.heap[Bf]?=some (.cells #[.string o1,.string o2,.string o3,.string x1,.string x2,.string x3,.string y1,.string y2,.string y3,.string z1,.string z2,.string z3] 50 (0,0))) (h0:J [] W) :
 CallsIn F n Tryz.prog 185 #[.func (.yield l) #[] #[],.pointer (some ⟨Bf,0,none⟩)] W fun e W'=>(∃ v,e = .returned v) ∧
  ((∃ ys,ys = [0,1,2]∧J ys W')∨(∃ pre,True∧Jx pre W')):=by
 refine callsIn_of_wp Tryz.func185 rfl h8 ?_ hro
 simp only [Tryz.ntmps185,List.size_toArray,List.length_cons,List.length_nil,Nat.reduceAdd,Nat.reduceSub,Array.replicate_succ,Array.replicate_zero,List.push_toArray,List.append_toArray,List.nil_append,List.cons_append]
 have c3:W.cell? ⟨Bf,3,none⟩=some (.string x1):=by simp [World.cell?,hB]
 have c4:W.cell? ⟨Bf,4,none⟩=some (.string x2):=by simp [World.cell?,hB]
 have c5:W.cell? ⟨Bf,5,none⟩=some (.string x3):=by simp [World.cell?,hB]
 have c6:W.cell? ⟨Bf,6,none⟩=some (.string y1):=by simp [World.cell?,hB]
 have c7:W.cell? ⟨Bf,7,none⟩=some (.string y2):=by simp [World.cell?,hB]
 have c8:W.cell? ⟨Bf,8,none⟩=some (.string y3):=by simp [World.cell?,hB]
 have c9:W.cell? ⟨Bf,9,none⟩=some (.string z1):=by simp [World.cell?,hB]
 have c10:W.cell? ⟨Bf,10,none⟩=some (.string z2):=by simp [World.cell?,hB]
 have c11:W.cell? ⟨Bf,11,none⟩=some (.string z3):=by simp [World.cell?,hB]
 clear hB
 gi_wp2
 gi_loopw [12] (fun i wr=>(i = .int .i64 0∧J [] wr∨i = .int .i64 1∧J [0] wr∨i = .int .i64 2∧J [0,1] wr∨i = .int .i64 3∧J [0,1,2] wr)∧n₀≤wr.heap.size) (fun i _=>3-(intOf i).toNat)
 case atStart=>exact ⟨.inl ⟨rfl,h0⟩,hn0⟩
 case round =>
  obtain ⟨hc,hnr⟩:=hrel
  rcases hc with ⟨rfl,hJs⟩|⟨rfl,hJs⟩|⟨rfl,hJs⟩|⟨rfl,hJs⟩
  ·have hix:=ix0 wr x1 x2 x3 y1 y2 y3 z1 z2 z3
   have hJa:=hJ [] wr (wr.alloc (.cells #[.string x1,.string x2,.string x3] 38)) none hJs (World.grownBy_alloc _ _ none) (fun r e=>by cases e)
   obtain ⟨fn,tmps,assign,body,hy,hR⟩:=hY [] 0 _ hJa (by simp)
   change (Sem.run Tryz.prog (Instr.yield l #[.int .i64 0,.agg #[.string x1,.string x2,.string x3]]) _)=_ at hy
   gi_wp2
   refine hR.mono ?_
   rintro e W3 (⟨rfl,hJ3,hk3⟩|⟨rfl,hJx3⟩)
   ·have hs3:n₀≤W3.heap.size:=by have:=hk3.size;simp at this;omega
    gi_wp2
    go_roundw
    case rel=>exact ⟨.inr (.inl ⟨rfl,hJ3⟩),hs3⟩
    case measure=>simp [intOf]
   ·gi_wp2
    refine bodyPost_ret (results_none rfl _ _ _) rfl ?_
    exact ⟨⟨_,rfl⟩,.inr ⟨_,trivial,hJx3⟩⟩
  ·have hix:=ix1 wr x1 x2 x3 y1 y2 y3 z1 z2 z3
   have hJa:=hJ [0] wr (wr.alloc (.cells #[.string y1,.string y2,.string y3] 38)) none hJs (World.grownBy_alloc _ _ none) (fun r e=>by cases e)
   obtain ⟨fn,tmps,assign,body,hy,hR⟩:=hY [0] 1 _ hJa (by simp)
   change (Sem.run Tryz.prog (Instr.yield l #[.int .i64 1,.agg #[.string y1,.string y2,.string y3]]) _)=_ at hy
   gi_wp2
   refine hR.mono ?_
   rintro e W3 (⟨rfl,hJ3,hk3⟩|⟨rfl,hJx3⟩)
   ·have hs3:n₀≤W3.heap.size:=by have:=hk3.size;simp at this;omega
    gi_wp2
    go_roundw
    case rel=>exact ⟨.inr (.inr (.inl ⟨rfl,hJ3⟩)),hs3⟩
    case measure=>simp [intOf]
   ·gi_wp2
    refine bodyPost_ret (results_none rfl _ _ _) rfl ?_
    exact ⟨⟨_,rfl⟩,.inr ⟨_,trivial,hJx3⟩⟩
  ·have hix:=ix2 wr x1 x2 x3 y1 y2 y3 z1 z2 z3
   have hJa:=hJ [0,1] wr (wr.alloc (.cells #[.string z1,.string z2,.string z3] 38)) none hJs (World.grownBy_alloc _ _ none) (fun r e=>by cases e)
   obtain ⟨fn,tmps,assign,body,hy,hR⟩:=hY [0,1] 2 _ hJa (by simp)
   change (Sem.run Tryz.prog (Instr.yield l #[.int .i64 2,.agg #[.string z1,.string z2,.string z3]]) _)=_ at hy
   gi_wp2
   refine hR.mono ?_
   rintro e W3 (⟨rfl,hJ3,hk3⟩|⟨rfl,hJx3⟩)
   ·have hs3:n₀≤W3.heap.size:=by have:=hk3.size;simp at this;omega
    gi_wp2
    go_roundw
    case rel=>exact ⟨.inr (.inr (.inr ⟨rfl,hJ3⟩)),hs3⟩
    case measure=>simp [intOf]
   ·gi_wp2
    refine bodyPost_ret (results_none rfl _ _ _) rfl ?_
    exact ⟨⟨_,rfl⟩,.inr ⟨_,trivial,hJx3⟩⟩
  ·gi_wp2
   go_end0
   exact ⟨⟨_,rfl⟩,.inl ⟨_,rfl,hJs⟩⟩
theorem sZ (F:Fence) (n:Nat) (h8:F.fn 185) (hro:F.round=none) (hn:1≤n) (Bf n₀:Nat) (o1 o2 o3 x1 x2 x3 y1 y2 y3 z1 z2 z3:ByteArray) (w:World) (hn0:n₀≤w.heap.size)
 (hB:w.heap[Bf]?=some (.cells #[.string o1,.string o2,.string o3,.string x1,.string x2,.string x3,.string y1,.string y2,.string y3,.string z1,.string z2,.string z3] 50 (0,0))) :
 SeqStopsK F n Tryz.prog 185 #[.pointer (some ⟨Bf,0,none⟩)] (axE x1 x2 x3 y1 y2 y3 z1 z2 z3) (Below n₀) (fun ys=>ys = [0,1,2]) (fun _=>True) 3 w:=fun l J Jx W hW hJ _ hY h0 =>
 yD F n h8 hro hn l Bf n₀ o1 o2 o3 x1 x2 x3 y1 y2 y3 z1 z2 z3 J Jx hY W hJ (Nat.le_trans hn0 hW.size) ((hW.block Bf (by rcases Nat.lt_or_ge Bf w.heap.size with h|h;exact h;rw [Array.getElem?_eq_none h] at hB;cases hB)).trans hB) h0
theorem yE (o1 o2 o3 x1 x2 x3 y1 y2 y3 z1 z2 z3:ByteArray) (w:World):Calls Tryz.prog 133 #[.agg #[.string o1,.string o2,.string o3,.string x1,.string x2,.string x3,.string y1,.string y2,.string y3,.string z1,.string z2,.string z3]] w fun e w' =>
 e = .returned (.func (.func 185) #[] #[.pointer (some ⟨w.heap.size,0,none⟩)])∧w'=w.alloc (.cells #[.string o1,.string o2,.string o3,.string x1,.string x2,.string x3,.string y1,.string y2,.string y3,.string z1,.string z2,.string z3] 50 (0,0)):=by
 refine (callsIn_wide (n:=3)).1 ?_
 refine callsIn_of_wp Tryz.func133 rfl trivial ?_ rfl
 simp only [Tryz.ntmps133,List.size_toArray,List.length_cons,List.length_nil,Nat.reduceAdd,Nat.reduceSub,Array.replicate_succ,Array.replicate_zero,List.push_toArray,List.append_toArray,List.nil_append,List.cons_append]
 gi_wp2
 refine bodyPost_ret (results_tmp rfl _ _ _) rfl ?_
 exact ⟨rfl,rfl⟩
end Fr
namespace Fr
open Go.RowKit Go.Shelf Ab Pl
structure C9 where
 n1:Int
 d1:Int
 p1:Option Addr
 n2:Int
 d2:Int
 p2:Option Addr
 n3:Int
 d3:Int
 p3:Option Addr
def C9.cells (k:C9):List Value := [.int .i64 k.n1,.int .i64 k.d1,.pointer k.p1,.int .i64 k.n2,.int .i64 k.d2,.pointer k.p2,.int .i64 k.n3,.int .i64 k.d3,.pointer k.p3]
def C9.val (k:C9):Value := .agg #[.int .i64 k.n1,.int .i64 k.d1,.pointer k.p1,.int .i64 k.n2,.int .i64 k.d2,.pointer k.p2,.int .i64 k.n3,.int .i64 k.d3,.pointer k.p3]
def C9.zero:C9:=⟨0,0,none,0,0,none,0,0,none⟩
theorem vc9 {w:World} {v:Value} {a b c:Rat} (h:Vc w v a b c):∃ k:C9,v=k.val∧Vc w k.val a b c:=by
 obtain ⟨n1,d1,p1,n2,d2,p2,n3,d3,p3,rfl,h1,h2,h3⟩:=h
 exact ⟨⟨n1,d1,p1,n2,d2,p2,n3,d3,p3⟩,rfl,n1,d1,p1,n2,d2,p2,n3,d3,p3,rfl,h1,h2,h3⟩
theorem kV {β:List Nat} {w:World} {k:C9} {a b c:Rat} (h:Vc w k.val a b c):holdsL β [nb a,nb b,nb c] k.cells w:=by
 obtain ⟨cs,e,hl⟩:=(nW (β:=β)).2 h
 injection e with e
 have e:=congrArg Array.toList e
 have e:k.cells=cs:=e
 rw [e]
 exact hl
def dE (o x y z:C9):List Value:=o.cells++x.cells++y.cells++z.cells
theorem fI {a b c:Rat} (h:rY a b c) (w:World) (hG:Gl w):Calls Tryz.prog 53 #[.agg #[.string (writeB a),.string (writeB b),.string (writeB c)]] w fun e w' => ∃ k:C9,e = .returned (.tuple #[k.val,.int .i64 0])∧Vc w' k.val a b c∧Below w.heap.size w w':=by
 refine (kU h [] w [.agg #[.string (writeB a),.string (writeB b),.string (writeB c)]] hG ⟨_,_,rfl,⟨[.string (writeB a),.string (writeB b),.string (writeB c)],rfl,[.string (writeB a)],_,rfl,rfl,[.string (writeB b)],_,rfl,rfl,[.string (writeB c)],_,rfl,rfl,rfl⟩,rfl⟩).mono ?_
 rintro e w' ⟨v,e1,e2,vs,rfl,u,r,rfl,h1,u2,r2,rfl,h2,h3⟩
 obtain ⟨k,rfl,h4⟩:=vc9 (nW.1 h1)
 have h5:[u2] = [.int .i64 0]:=h2.1
 injection h5 with h5
 rw [show r2 = [] from h3,h5] at e1
 exact ⟨k,e1,h4,e2⟩
section
variable {o1 o2 o3 x1 x2 x3 y1 y2 y3 z1 z2 z3:Rat}
theorem rW {β:List Nat} {w:World} {o x y z:C9} (ho:Vc w o.val o1 o2 o3) (hx:Vc w x.val x1 x2 x3) (hy:Vc w y.val y1 y2 y3) (hz:Vc w z.val z1 z2 z3) :
 (frm o1 o2 o3 x1 x2 x3 y1 y2 y3 z1 z2 z3).holds β (.agg (dE o x y z).toArray) w :=
 ⟨dE o x y z,rfl,(((kV ho).append (kV hx)).append (kV hy)).append (kV hz)⟩
theorem vU {w:World} {o x y z:C9} (ho:Vc w o.val o1 o2 o3) (hx:Vc w x.val x1 x2 x3) (hy:Vc w y.val y1 y2 y3) (hz:Vc w z.val z1 z2 z3) (l:Lm 25 x1 x2 x3 y1 y2 y3 z1 z2 z3) (h:Ax x1 x2 x3 y1 y2 y3 z1 z2 z3) :
 Calls Tryz.prog 134 #[.agg (dE o x y z).toArray] w fun e w'=>e = .returned (.int .i64 0)∧Below w.heap.size w w':=by
 refine (checkF (o1:=o1) (o2:=o2) (o3:=o3) l h [] w [.agg (dE o x y z).toArray] ⟨_,_,rfl,rW ho hx hy hz,rfl⟩).mono ?_
 rintro e w' ⟨v,e1,e2,h1⟩
 have h5:[v] = [.int .i64 0]:=h1.1
 injection h5 with h5
 exact ⟨by rw [e1,h5],e2⟩
end
attribute [local go_sem] Oper.semAt_some
theorem oN {P:Program} {ops:Array Oper} {rest:List Oper} {o:Oper} {a:Act} {w:World} {Q:Exit→Act→World→Prop} (hg:o.guard=none) (t:TypeId) (parts:Array (Nat×Operand)) (ho:o.op = .build t parts) (cs:Array Value)
 (hb:P.built t (parts.map fun (i,x)=>(i,a.eval x)).toList=some cs) (h:wpList P ops Q rest (a.put o.dst (.agg cs)) w):wpList P ops Q (o::rest) a w :=
 wpList_build hg t parts ho (by rw [hb];rfl) (by rw [hb];exact h)
theorem tA {P:Program} {ops:Array Oper} {rest:List Oper} {o:Oper} {a:Act} {Q:Exit→Act→World→Prop} (hgd:o.guard=none) (ty:TypeId) (x y:Operand) (ho:o.op = .store ty x y) (w1:World) (A B:Obj) (old cells:Array Value)
 (hx:a.eval x = .pointer (some ⟨w1.heap.size+1+1,0,none⟩)) (hy:a.eval y = .agg cells) (hi:(P.info? ty).map (·.size)=some cells.size) (hold:old.size=cells.size) (h1:cells.all (·.oneCell')=true)
 (h:∀ W3:World,W3.heap.size=w1.heap.size+3→Below w1.heap.size w1 W3→W3.heap[w1.heap.size]?=some A→W3.heap[w1.heap.size+1]?=some B→W3.heap[w1.heap.size+2]?=some (.cells cells ty (0,0))→wpList P ops Q rest (a.put o.dst undef) W3) :
 wpList P ops Q (o::rest) a (((w1.alloc A).alloc B).alloc (.cells old ty (0,0))):=by
 have hg:(((w1.alloc A).alloc B).alloc (.cells old ty (0,0))).heap[w1.heap.size+1+1]?=some (.cells old ty (0,0)):=by
  have:=World.alloc_heap_new ((w1.alloc A).alloc B) (.cells old ty (0,0))
  rwa [World.size_alloc,World.size_alloc] at this
 refine wpList_store_row hgd ty x y ho (w1.heap.size+1+1) cells hx hy ty old hg hi hold h1 (h _ (by rw [setRow_size];simp) ?_ ?_ ?_ (setRow_heap _ _ _ _ _ _ hg))
 ·exact below_setRow ((((aB _ w1).alloc (aR _) _).alloc (by simp) _).alloc (by simp;omega) _) (by omega) _
 ·rw [setRow_other _ _ _ _ (by omega)]
  exact (Below.heap_alloc _ _ _ (by simp;omega)).trans ((Below.heap_alloc _ _ _ (by simp)).trans (World.alloc_heap_new w1 A))
 ·rw [setRow_other _ _ _ _ (by omega)]
  refine (Below.heap_alloc _ _ _ (by simp)).trans ?_
  have:=World.alloc_heap_new (w1.alloc A) B
  rwa [World.size_alloc] at this
structure Stopped (p:Prop):Prop where
 out:p
theorem tB {P:Program} {ops:Array Oper} {rest:List Oper} {o:Oper} {a:Act} {w:World} {Q:Exit→Act→World→Prop} (ty:TypeId) (x y:Operand) (ho:o.op = .store ty x y) (h:Stopped (wpList P ops Q (o::rest) a w)):wpList P ops Q (o::rest) a w:=h.out
theorem lS {W W' : World} {row:Option Nat} (hg:W.grownBy W' row) (hrow:∀ r,row=some r→∃ o:Obj,W.heap[r]?=some o∧o.isCells=false):Go.Proofs.YtnhafhpmocabiaaGreatDoor.Ext Kn W W':=by
 refine ⟨hg.size,fun g o h ho=>?_⟩
 have hc:o.isCells=true:=by cases o <;> first|rfl|(simp [Go.Proofs.YtnhafhpmocabiaaGreatDoor.hotObj] at ho)
 exact (grownBy_keeps_cells hg hrow h hc).trans h
theorem Vc.kext {w w' : World} {v:Value} {a b c:Rat} (h:Vc w v a b c) (hx:Go.Proofs.YtnhafhpmocabiaaGreatDoor.Ext Kn w w'):Vc w' v a b c:=h.ext (fun _=>rfl) (fun _=>rfl) hx
theorem rX {P:Program} {ρ:Operand→Value} {o:Oper} {w:World} {T T' : TypeId} {x:Operand} {g:Nat} {cs:List Value} {d:TypeDesc} (ho:o.op = .load T x) (hx:ρ x = .pointer (some ⟨g,0,none⟩)) (hg:w.heap[g]?=some (.cells cs.toArray T' (0,0)))
 (hd:P.underlying T=some d) (hr:d.isRow=true) (hi:(P.info? T).map (·.size)=some cs.length):(execOp ρ o).run P w = .ok (.value (.agg cs.toArray)) w:=by
 have h:=run_loadVar_mid w g 0 T ((cs.drop 0).take cs.length) d (kA hg 0 cs.length) hd hr (by rw [hi,List.drop_zero,List.take_length])
 rw [List.drop_zero,List.take_length] at h
 simp only [execOp,ho,Instr.loadAt,hx,Instr.sureAddr]
 exact bG (by simpa [Sem.run_bind] using h)
theorem uG (o x y z:C9):∀ c∈dE o x y z,c.oneCell'=true:=by
 have h:(dE o x y z).all (·.oneCell')=true:=rfl
 exact fun c hc=>List.all_eq_true.1 h c hc
theorem fin3:∀ x:Fin 3,x=0∨x=1∨x=2:=by decide
theorem kW {w:World} {b i:Nat} {v:Value} (hlt:b<w.heap.size) (h:w.cell? ⟨b,i,none⟩=some v) (o:Obj):(w.alloc o).cell? ⟨b,i,none⟩=some v :=
 (((aB _ w).alloc (aR _) o).cell (p:=⟨b,i,none⟩) hlt).trans h
theorem dS {w:World} {b i:Nat} {cs:Array Value} {t:TypeId} (hlt:b<w.heap.size) (h:w.heap[b]?=some (.cells cs t (0,0))) (o:Obj):(w.alloc o).frozen? ⟨b,i,none⟩=false :=
 aP ((((aB _ w).alloc (aR _) o).block b hlt).trans h) i
theorem kX {n g:Nat} {o:Obj} {A X Y:World} (hb:Below n A X) (h:Turned g o X Y) (hn:n≤g):Below n A Y :=
 ⟨h.os.trans hb.os,h.tape.trans hb.tape,h.output.trans hb.output,by rw [h.size];exact hb.size,fun k hk=>(h.block k (by omega)).trans (hb.block k hk)⟩
theorem kY {g S:Nat} {o o0:Obj} {X Y:World} (h:Turned g o X Y) (h0:X.heap[g]?=some o0) (hc:o0.isCells=true):KeepsFrom S X Y:=by
 refine ⟨by rw [h.size];exact aR _,fun k o' _ hk ho=>?_⟩
 have:k≠g:=by
  rintro rfl
  rw [h0] at hk
  injection hk with hk
  rw [hk,ho] at hc
  cases hc
 exact (h.block k this).trans hk
theorem dF {S:Nat} {W W' : World} (h:Below W.heap.size W W'):KeepsFrom S W W':=⟨h.size,fun k o _ hk _=>(h.block k (Array.getElem?_eq_some_iff.1 hk).1).trans hk⟩
section
variable {w:World} {k:C9} {B E R:Nat} {o1 o2 o3 x1 x2 x3 y1 y2 y3 z1 z2 z3:Rat}
theorem fW (o x y z:C9) (T:TypeId):Go.Proofs.YtnhafhpmocabiaaGreatDoor.hotObj Kn (.cells (dE o x y z).toArray T (0,0))=false:=by simp [Go.Proofs.YtnhafhpmocabiaaGreatDoor.hotObj,dE,C9.cells,Kn]
theorem yF {w:World} {B:Nat} {T:TypeId} {cs cs' : Array Value} (off:Nat) (h:w.heap[B]?=some (.cells cs T (0,0))) (u0 u1 u2 u3 u4 u5 u6 u7 u8:Value)
 (e:((((((((cs.setIfInBounds off u0).setIfInBounds (off+1) u1).setIfInBounds (off+2) u2).setIfInBounds (off+3) u3).setIfInBounds (off+4) u4).setIfInBounds (off+5) u5).setIfInBounds (off+6) u6).setIfInBounds (off+7) u7).setIfInBounds (off+8) u8=cs') :
 Turned B (.cells cs' T (0,0)) w (((((((((w.setCell ⟨B,off,none⟩ u0).setCell ⟨B,off+1,none⟩ u1).setCell ⟨B,off+2,none⟩ u2).setCell ⟨B,off+3,none⟩ u3).setCell ⟨B,off+4,none⟩ u4).setCell ⟨B,off+5,none⟩ u5).setCell ⟨B,off+6,none⟩ u6).setCell ⟨B,off+7,none⟩ u7).setCell ⟨B,off+8,none⟩ u8):=by
 subst e
 have t0:=bC (i:=off) h u0
 have t1:=t0.trans (bC (i:=off+1) t0.at_ u1)
 have t2:=t1.trans (bC (i:=off+2) t1.at_ u2)
 have t3:=t2.trans (bC (i:=off+3) t2.at_ u3)
 have t4:=t3.trans (bC (i:=off+4) t3.at_ u4)
 have t5:=t4.trans (bC (i:=off+5) t4.at_ u5)
 have t6:=t5.trans (bC (i:=off+6) t5.at_ u6)
 have t7:=t6.trans (bC (i:=off+7) t6.at_ u7)
 exact t7.trans (bC (i:=off+8) t7.at_ u8)
end
end Fr
namespace Ab
open Go.RowKit Pl
def f2 (x y:Int):Int:=if x=0 then y else x
def f3 (x y z:Int):Int:=f2 x (f2 y z)
abbrev Ev (z:Int):Prop:=z=0∨z=1∨z=4
theorem f2_ev {x y:Int} (hx:Ev x) (hy:Ev y):Ev (f2 x y):=by unfold f2;split <;> assumption
abbrev lz (z:Int):Seg Kn := .lit (.int .i64 z)
theorem vV {T:TypeId} {x y z:Int} (hx:Ev x) (hy:Ev y) (hz:f2 x y=z):jF 61 [.fv (.nsl 2 T [lz x,lz y])] (it z):=by
 rcases hx with rfl|rfl|rfl
 ·have hz:y=z:=hz
  subst hz
  rcases hy with rfl|rfl|rfl <;> (refine vH Tryz.func61 (by kernel_rfl) fun w00=>?_;exact kret Tryz.func61 (by kernel_rfl))
 ·have hz:1=z:=hz
  subst hz
  refine vH Tryz.func61 (by kernel_rfl) fun w00=>?_
  exact jR Tryz.func61
 ·have hz:4=z:=hz
  subst hz
  refine vH Tryz.func61 (by kernel_rfl) fun w00=>?_
  exact jR Tryz.func61
abbrev Rb (s:ByteArray):Prop:=s.size<4294967281
abbrev Rb3 (a b c:ByteArray):Prop:=Rb a∧Rb b∧Rb c
abbrev c3 (a b c:ByteArray):Int:=f3 (sX a) (sX b) (sX c)
end Ab
end Go.Proofs.YtnhafhpmocabiaaGreatDoor
