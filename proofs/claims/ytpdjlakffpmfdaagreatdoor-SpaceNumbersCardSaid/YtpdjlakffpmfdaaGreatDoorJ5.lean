/- Parts of the proof, joined. -/
import Derived.Test.YtpdjlakffpmfdaaGreatDoorJ4
import Derived.Test.YtpdjlakffpmfdaaGreatDoorJ1
import Derived.Test.YtpdjlakffpmfdaaGreatDoorShelf
set_option maxHeartbeats 4000000
set_option linter.unusedSimpArgs false
set_option linter.unusedVariables false
set_option linter.constructorNameAsVariable false
namespace Go.Proofs.YtpdjlakffpmfdaaGreatDoor
section
open Go.RowKit Pl
attribute [local simp] known specOf Kd.spec Sp.is isVar Oper.looksAt Op.operands Call.operands Act.eval
theorem xR (p q:Rat) (w:World) (hp:Sm p) (hq:Sm q):Calls Tryz.prog 106 #[fD p.num p.den,fD q.num q.den] w (gS w (p+q)):=by
 by_cases hd:p.den=q.den
 ·exact wJ p q w hp hq hd
 ·exact uK p q w hp hq hd
set_option maxRecDepth 100000 in
set_option maxHeartbeats 8000000 in
theorem plus_nb (v v' : Value) (p q:Rat) (w:World) (h:Nb w v p) (h' : Nb w v' q) (hp:Lf 36 p) (hq:Lf 36 q):Calls Tryz.prog 36 #[v,v'] w (GivesNb w (p+q)):=by
 obtain ⟨n1,d1,a1,rfl⟩:=h.form
 obtain ⟨n2,d2,a2,rfl⟩:=h'.form
 obtain ⟨hk1,hk2,hk3,hb1⟩:=eA w (.cells #[.int .i64 n1,.int .i64 d1,.pointer a1] 68) (.cells #[.int .i64 n2,.int .i64 d2,.pointer a2] 68) (.cells #[.int .i64 0,.int .i64 0,.pointer none] 68)
 have H:=aH (aI (h.below hb1) (aI (h'.below hb1) (aI hp (aI hq (aI hb1 (aI hk1 (aI hk2 hk3)))))))
 by_cases hs:Sm p∧Sm q
 ·have e1:Value.agg #[.int .i64 n1,.int .i64 d1,.pointer a1]=fD p.num p.den:=by
   rcases h with ⟨_,e⟩|⟨hn,_⟩
   ·exact e
   ·exact absurd hs.1 hn
  have e2:Value.agg #[.int .i64 n2,.int .i64 d2,.pointer a2]=fD q.num q.den:=by
   rcases h' with ⟨_,e⟩|⟨hn,_⟩
   ·exact e
   ·exact absurd hs.2 hn
  have ha:∀ w',Calls Tryz.prog 105 #[.agg #[.int .i64 n1,.int .i64 d1,.pointer a1],.agg #[.int .i64 n2,.int .i64 d2,.pointer a2]] w' (Gives w' (.bool true)):=fun w'=>gG _ _ p q w' hs.1 hs.2 e1 e2
  have hc:∀ w',Calls Tryz.prog 106 #[.agg #[.int .i64 n1,.int .i64 d1,.pointer a1],.agg #[.int .i64 n2,.int .i64 d2,.pointer a2]] w' (gS w' (p+q)):=fun w'=>by
   rw [e1,e2]
   exact xR p q w' hs.1 hs.2
  have HS:=aH (aI ha hc)
  clear ha hc e1 e2 hs h h' hp hq hb1 hk1 hk2 hk3
  go_enter Tryz.func36,Tryz.ntmps36
  go_wp2_with fail
  refine (HS.out.1 _).mono ?_
  rintro e w2 ⟨rfl,b2⟩
  have B2:=aH (aI (Below.step_trans H.out.2.2.2.2.1 b2) (aI b2 (aI (aJ b2 H.out.2.2.2.2.2.1) (aI (aJ b2 H.out.2.2.2.2.2.2.1) (aJ b2 H.out.2.2.2.2.2.2.2)))))
  obtain ⟨⟨u0,u1,u2⟩,_⟩:=cK (aJ b2 H.out.2.2.2.2.2.1)
  obtain ⟨⟨u3,u4,u5⟩,_⟩:=cK (aJ b2 H.out.2.2.2.2.2.2.1)
  clear b2
  go_wp2_with fail
  refine (HS.out.2 _).mono ?_
  rintro e w3 ⟨rn,rd,ok,rfl,hok,b3⟩
  have hA3:=aJ b3 B2.out.2.2.1
  have hC3:=aJ b3 B2.out.2.2.2.1
  have hR3:=aJ b3 B2.out.2.2.2.2
  have B3:=aH (aI hok (aI (Below.step_trans B2.out.1 b3) (aI (Below.step_trans B2.out.2.1 b3) (aI hA3 (aI hC3 hR3)))))
  clear u0 u1 u2 u3 u4 u5 b3 hok hA3 hC3 hR3
  have hlt3:=lt_of_block B3.out.2.2.2.2.2
  cases ok
  ·go_wp2
   have hb4:Below w3.heap.size w3 (w3.alloc (.cells #[.int .i64 rn,.int .i64 rd,.pointer none] 68)):=(aB _ _).alloc (aR _) _
   have B4:=aH (aI (Below.step_trans B3.out.2.1 hb4) (aI (Below.step_trans B3.out.2.2.1 hb4) (aI (aJ hb4 B3.out.2.2.2.1) (aI (aJ hb4 B3.out.2.2.2.2.1) (aJ hb4 B3.out.2.2.2.2.2)))))
   clear hb4
   generalize w3.alloc (.cells #[.int .i64 rn,.int .i64 rd,.pointer none] 68)=w4 at *
   have hA:=B4.out.2.2.1
   have hC:=B4.out.2.2.2.1
   have hR:=B4.out.2.2.2.2
   have t1:∀ w',Base [w.heap.size+1+1] w4 w'→Calls Tryz.prog 107 #[.agg #[.int .i64 n1,.int .i64 d1,.pointer a1]] w' (TyPost w' (dD p)):=fun w' hB =>
    GivesFr.ty (bJ _ _ _ (Nb.ext (K:=Kn) (fun _=>rfl) (fun _=>rfl) (H.out.1.below B4.out.2.1) (hB.extT B4.out.2.2.2.2 (by simp [hotObj,Kn]))))
   have t2:∀ w',Base [w.heap.size+1+1] w4 w'→Calls Tryz.prog 107 #[.agg #[.int .i64 n2,.int .i64 d2,.pointer a2]] w' (TyPost w' (dD q)):=fun w' hB =>
    GivesFr.ty (bJ _ _ _ (Nb.ext (K:=Kn) (fun _=>rfl) (fun _=>rfl) (H.out.2.1.below B4.out.2.1) (hB.extT B4.out.2.2.2.2 (by simp [hotObj,Kn]))))
   have t3:∀ w' x y,Fr w' x p→Fr w' y q→Calls Tryz.prog 108 #[x,y] w' (TyPost w' (dD (p+q))):=fun w' x y hx hy=>GivesFr.ty (tW x y p q w' hx hy H.out.2.2.1 H.out.2.2.2.1)
   have t4:∀ w' x,Fr w' x (p+q)→Calls Tryz.prog 66 #[x] w' (TyPost w' (iW (p+q))):=fun w' x hx=>GivesNb.ty (eC x _ w' hx)
   have T:=aH (aI t1 (aI t2 (aI t3 t4)))
   clear t1 t2 t3 t4
   refine wp_region_ty Kn [w.heap.size+1+1] (by kernel_rfl) (by kernel_rfl) ?_
   repeat (first|(apply aZ (hg:=rfl);case h=>(intro A w' hB hk;simp at hk;have c_hA:=aA (hB.blk hA (by simp <;> omega));have c_hC:=aA (hB.blk hC (by simp <;> omega));first|(simp [go_sem,hk,c_hA,c_hC] <;> rfl)|(simp [go_sem,c_hA,c_hC];rfl)))|(refine aP _ ?_ (by first|exact .inl rfl|exact .inr rfl) (by rfl) (by simp [specOf,Kd.spec];rfl) ?_ rfl ?_;(first|exact Sp.is_stable _ _|exact aL (fun _=>rfl) _|exact aY (fun _=>rfl) (fun _=>rfl) _)))
   refine aN (dD p) (aL (fun _=>rfl) _) rfl (fun A w' hB hk=>?_) ?_;(simp at hk;have c_hA:=aA (hB.blk hA (by simp <;> omega));simp [go_sem,hk,c_hA];refine aE ?_;exact T.out.1 _ hB)
   repeat (first|(apply aZ (hg:=rfl);case h=>(intro A w' hB hk;simp at hk;have c_hA:=aA (hB.blk hA (by simp <;> omega));have c_hC:=aA (hB.blk hC (by simp <;> omega));first|(simp [go_sem,hk,c_hA,c_hC] <;> rfl)|(simp [go_sem,c_hA,c_hC];rfl)))|(refine aP _ ?_ (by first|exact .inl rfl|exact .inr rfl) (by rfl) (by simp [specOf,Kd.spec];rfl) ?_ rfl ?_;(first|exact Sp.is_stable _ _|exact aL (fun _=>rfl) _|exact aY (fun _=>rfl) (fun _=>rfl) _)))
   refine aN (dD q) (aL (fun _=>rfl) _) rfl (fun A w' hB hk=>?_) ?_;(simp at hk;have c_hA:=aA (hB.blk hA (by simp <;> omega));simp [go_sem,hk,c_hA];refine aE ?_;exact T.out.2.1 _ hB)
   refine aN (dD (p+q)) (aL (fun _=>rfl) _) rfl (fun A w' hB hk=>?_) ?_;(simp at hk;have c_hA:=aA (hB.blk hA (by simp <;> omega));simp [go_sem,hk,c_hA];refine aE ?_;exact T.out.2.2.1 _ _ _ hk.1 hk.2)
   refine aN (iW (p+q)) (aY (fun _=>rfl) (fun _=>rfl) _) rfl (fun A w' hB hk=>?_) ?_;(simp at hk;have c_hA:=aA (hB.blk hA (by simp <;> omega));simp [go_sem,hk,c_hA];refine aE ?_;exact T.out.2.2.2 _ _ hk)
   refine fE (w.heap.size+1+1) (_) (zW (p+q)) (dY (fun _=>rfl) (fun _=>rfl) _) rfl rfl (by simp) (by assumption) (by simp [hotObj,Ku,Kn]) (fun A w' hB hk h0=>?_) ?_;(simp at hk;have c_hA:=aA (hB.blk hA (by simp <;> omega));have c0:=aA h0;have f0:=aW h0;obtain ⟨k1,k2⟩:=hk;obtain ⟨y1,y2,y3,e1⟩:=(show Nb _ _ _ from k2).form;rw [e1] at k2;simp [go_sem,k1,e1,c0,f0];exact ⟨_,dG h0 _ _ _,_,_,_,rfl,k2⟩)
   refine ⟨by first|rfl|decide,fun f w2 hB hF hAp=>?_⟩;simp [Final1,Sp.is,isVar] at hF;simp only [frameOf]
   obtain ⟨o,⟨y1,y2,y3,rfl,k3⟩,ho⟩:=hF.1
   obtain ⟨⟨r0,r1,r2⟩,_⟩:=cK ho
   have K:=aH (aI k3 hB)
   clear k3 hB ho hA hC hR hAp hF
   go_wp2
   refine bodyPost_ret (v := .agg #[.int .i64 y1,.int .i64 y2,.pointer y3]) (by simp [results,Tryz.results36,go_sem,r0,r1,r2,Act.put]) rfl ⟨_,rfl,K.out.1,?_⟩
   exact Base.belowT K.out.2 B4.out.1 (by omega)
  ·obtain ⟨hsm,hv⟩:=B3.out.1 rfl
   obtain ⟨⟨g0,g1,g2⟩,f0,f1,f2⟩:=cK B3.out.2.2.2.2.2
   have HV:=aH (aI hsm hv)
   clear hsm hv
   have hpast:∀ (W:World) (o:Obj) (i:Nat),W.heap.size=w3.heap.size→(W.alloc o).cell? ⟨w.heap.size+1+1,i,none⟩=W.cell? ⟨w.heap.size+1+1,i,none⟩:=fun W o i h=>World.cell?_alloc_past _ _ _ (by show w.heap.size+1+1<W.heap.size;omega)
   have HP:=aH hpast
   clear hpast
   go_wp2
   refine bodyPost_ret (v := .agg #[.int .i64 rn,.int .i64 rd,.pointer none]) (by simp [results,Tryz.results36,go_sem,g0,g1,g2,HP.out]) rfl ⟨_,rfl,.inl HV.out,?_⟩
   repeat (first|exact B3.out.2.1|(refine Below.setCell ?_ (by first|omega|(simp <;> omega)) _)|(refine Below.alloc ?_ (by first|omega|(simp <;> omega)) _)|(refine Below.drew ?_)|exact aB _ _)
 ·have ha:∀ w',Below w.heap.size w w'→Calls Tryz.prog 105 #[.agg #[.int .i64 n1,.int .i64 d1,.pointer a1],.agg #[.int .i64 n2,.int .i64 d2,.pointer a2]] w' (Gives w' (.bool false)):=fun w' hb=>nW _ _ p q w' (h.below hb) (h'.below hb) hs
  have HS:=aH ha
  clear ha hs h h' hp hq hb1 hk1 hk2 hk3
  go_enter Tryz.func36,Tryz.ntmps36
  go_wp2_with fail
  refine (HS.out _ H.out.2.2.2.2.1).mono ?_
  rintro e w2 ⟨rfl,b2⟩
  have B2:=aH (aI (Below.step_trans H.out.2.2.2.2.1 b2) (aI b2 (aI (aJ b2 H.out.2.2.2.2.2.1) (aI (aJ b2 H.out.2.2.2.2.2.2.1) (aJ b2 H.out.2.2.2.2.2.2.2)))))
  clear b2
  go_wp2
  have hA:=B2.out.2.2.1
  have hC:=B2.out.2.2.2.1
  have hR:=B2.out.2.2.2.2
  have t1:∀ w',Base [w.heap.size+1+1] w2 w'→Calls Tryz.prog 107 #[.agg #[.int .i64 n1,.int .i64 d1,.pointer a1]] w' (TyPost w' (dD p)):=fun w' hB =>
   GivesFr.ty (bJ _ _ _ (Nb.ext (K:=Kn) (fun _=>rfl) (fun _=>rfl) (H.out.1.below B2.out.2.1) (hB.extT B2.out.2.2.2.2 (by simp [hotObj,Kn]))))
  have t2:∀ w',Base [w.heap.size+1+1] w2 w'→Calls Tryz.prog 107 #[.agg #[.int .i64 n2,.int .i64 d2,.pointer a2]] w' (TyPost w' (dD q)):=fun w' hB =>
   GivesFr.ty (bJ _ _ _ (Nb.ext (K:=Kn) (fun _=>rfl) (fun _=>rfl) (H.out.2.1.below B2.out.2.1) (hB.extT B2.out.2.2.2.2 (by simp [hotObj,Kn]))))
  have t3:∀ w' x y,Fr w' x p→Fr w' y q→Calls Tryz.prog 108 #[x,y] w' (TyPost w' (dD (p+q))):=fun w' x y hx hy=>GivesFr.ty (tW x y p q w' hx hy H.out.2.2.1 H.out.2.2.2.1)
  have t4:∀ w' x,Fr w' x (p+q)→Calls Tryz.prog 66 #[x] w' (TyPost w' (iW (p+q))):=fun w' x hx=>GivesNb.ty (eC x _ w' hx)
  have T:=aH (aI t1 (aI t2 (aI t3 t4)))
  clear t1 t2 t3 t4
  refine wp_region_ty Kn [w.heap.size+1+1] (by kernel_rfl) (by kernel_rfl) ?_
  repeat (first|(apply aZ (hg:=rfl);case h=>(intro A w' hB hk;simp at hk;have c_hA:=aA (hB.blk hA (by simp <;> omega));have c_hC:=aA (hB.blk hC (by simp <;> omega));first|(simp [go_sem,hk,c_hA,c_hC] <;> rfl)|(simp [go_sem,c_hA,c_hC];rfl)))|(refine aP _ ?_ (by first|exact .inl rfl|exact .inr rfl) (by rfl) (by simp [specOf,Kd.spec];rfl) ?_ rfl ?_;(first|exact Sp.is_stable _ _|exact aL (fun _=>rfl) _|exact aY (fun _=>rfl) (fun _=>rfl) _)))
  refine aN (dD p) (aL (fun _=>rfl) _) rfl (fun A w' hB hk=>?_) ?_;(simp at hk;have c_hA:=aA (hB.blk hA (by simp <;> omega));simp [go_sem,hk,c_hA];refine aE ?_;exact T.out.1 _ hB)
  repeat (first|(apply aZ (hg:=rfl);case h=>(intro A w' hB hk;simp at hk;have c_hA:=aA (hB.blk hA (by simp <;> omega));have c_hC:=aA (hB.blk hC (by simp <;> omega));first|(simp [go_sem,hk,c_hA,c_hC] <;> rfl)|(simp [go_sem,c_hA,c_hC];rfl)))|(refine aP _ ?_ (by first|exact .inl rfl|exact .inr rfl) (by rfl) (by simp [specOf,Kd.spec];rfl) ?_ rfl ?_;(first|exact Sp.is_stable _ _|exact aL (fun _=>rfl) _|exact aY (fun _=>rfl) (fun _=>rfl) _)))
  refine aN (dD q) (aL (fun _=>rfl) _) rfl (fun A w' hB hk=>?_) ?_;(simp at hk;have c_hA:=aA (hB.blk hA (by simp <;> omega));simp [go_sem,hk,c_hA];refine aE ?_;exact T.out.2.1 _ hB)
  refine aN (dD (p+q)) (aL (fun _=>rfl) _) rfl (fun A w' hB hk=>?_) ?_;(simp at hk;have c_hA:=aA (hB.blk hA (by simp <;> omega));simp [go_sem,hk,c_hA];refine aE ?_;exact T.out.2.2.1 _ _ _ hk.1 hk.2)
  refine aN (iW (p+q)) (aY (fun _=>rfl) (fun _=>rfl) _) rfl (fun A w' hB hk=>?_) ?_;(simp at hk;have c_hA:=aA (hB.blk hA (by simp <;> omega));simp [go_sem,hk,c_hA];refine aE ?_;exact T.out.2.2.2 _ _ hk)
  refine fE (w.heap.size+1+1) (_) (zW (p+q)) (dY (fun _=>rfl) (fun _=>rfl) _) rfl rfl (by simp) (by assumption) (by simp [hotObj,Ku,Kn]) (fun A w' hB hk h0=>?_) ?_;(simp at hk;have c_hA:=aA (hB.blk hA (by simp <;> omega));have c0:=aA h0;have f0:=aW h0;obtain ⟨k1,k2⟩:=hk;obtain ⟨y1,y2,y3,e1⟩:=(show Nb _ _ _ from k2).form;rw [e1] at k2;simp [go_sem,k1,e1,c0,f0];exact ⟨_,dG h0 _ _ _,_,_,_,rfl,k2⟩)
  refine ⟨by first|rfl|decide,fun f w2 hB hF hAp=>?_⟩;simp [Final1,Sp.is,isVar] at hF;simp only [frameOf]
  obtain ⟨o,⟨y1,y2,y3,rfl,k3⟩,ho⟩:=hF.1
  obtain ⟨⟨r0,r1,r2⟩,_⟩:=cK ho
  have K:=aH (aI k3 hB)
  clear k3 hB ho hA hC hR hAp hF
  go_wp2
  refine bodyPost_ret (v := .agg #[.int .i64 y1,.int .i64 y2,.pointer y3]) (by simp [results,Tryz.results36,go_sem,r0,r1,r2,Act.put]) rfl ⟨_,rfl,K.out.1,?_⟩
  exact Base.belowT K.out.2 B2.out.1 (by omega)
end
section
open Go.RowKit Pl
attribute [local simp] known specOf Kd.spec Sp.is isVar Oper.looksAt Op.operands Call.operands Act.eval
theorem sT (n d:Int) (w:World) (h1:-9223372036854775807≤d) (h2:d≤9223372036854775807):Calls Tryz.prog 117 #[.int .i64 n,.int .i64 d] w (Gives w (.agg #[.int .i64 n,.int .i64 (d-1),.pointer none])):=by
 go_enter Tryz.func117,Tryz.ntmps117
 go_wp2
 refine bodyPost_ret (v := .agg #[.int .i64 n,.int .i64 (d-1),.pointer none]) (by simp [results,Tryz.results117,go_sem]) rfl ⟨rfl,?_⟩
 repeat (first|exact aB _ _|(refine Below.setCell ?_ (by first|omega|(simp <;> omega)) _)|(refine Below.alloc ?_ (by first|omega|(simp <;> omega)) _)|(refine Below.drew ?_)|exact aB _ _)
theorem mul_lr (p q:Rat):(p*q).num=(mkRat p.num q.den).num*(mkRat q.num p.den).num∧(p*q).den=(mkRat p.num q.den).den*(mkRat q.num p.den).den:=by
 by_cases hp:p=0
 ·subst hp
  rw [Rat.zero_mul,show (0:Rat).num=0 from rfl,Rat.zero_mkRat,show (0:Rat).den=1 from rfl,show (0:Rat).num=0 from rfl,Int.zero_mul]
  refine ⟨rfl,?_⟩
  rw [Rat.den_mkRat,if_neg (by omega),Nat.gcd_one_left]
 ·by_cases hq:q=0
  ·subst hq
   rw [Rat.mul_zero,show (0:Rat).num=0 from rfl,Rat.zero_mkRat,show (0:Rat).den=1 from rfl,show (0:Rat).num=0 from rfl,Int.mul_zero]
   refine ⟨rfl,?_⟩
   rw [Rat.den_mkRat,if_neg (by omega),Nat.gcd_one_left]
  ·have h1:(mkRat p.num q.den).num.natAbs≠0:=fun h=>by
    have:(mkRat p.num q.den)=0:=Rat.num_eq_zero.1 (by omega)
    rw [Rat.mkRat_eq_zero q.den_nz] at this
    exact hp (Rat.num_eq_zero.1 this)
   have h2:(mkRat q.num p.den).num.natAbs≠0:=fun h=>by
    have:(mkRat q.num p.den)=0:=Rat.num_eq_zero.1 (by omega)
    rw [Rat.mkRat_eq_zero p.den_nz] at this
    exact hq (Rat.num_eq_zero.1 this)
   have h3:=Parts.mul (Parts.self (mkRat p.num q.den)) (Parts.self (mkRat q.num p.den)) h1 h2
   refine ⟨?_,h3.2.2.symm⟩
   rw [h3.num_eq,← sg_sg,vQ,vQ]
theorem sm_lr {p q:Rat} (hp:Sm p) (hq:Sm q):Sm (mkRat p.num q.den):=by
 obtain ⟨h1,h2⟩:=dM p.num q.den_nz
 exact ⟨Nat.le_trans h1 hp.1,Nat.le_trans h2 hq.2⟩
set_option maxRecDepth 100000 in
set_option maxHeartbeats 8000000 in
theorem wK (p q:Rat) (w:World) (hp:Sm p) (hq:Sm q):Calls Tryz.prog 110 #[fD p.num p.den,fD q.num q.den] w (gS w (p*q)):=by
 obtain ⟨hmn,hmd⟩:=mul_lr p q
 have hL:=sm_lr hp hq
 have hR:=sm_lr hq hp
 have mp:=gE hp
 have mq:=gE hq
 have np:=gF hp
 have nq:=gF hq
 obtain ⟨l1,_⟩:=oS p.num q.den (by have:=np.1;omega) np.2 q.den_pos mq.2
 obtain ⟨l2,_⟩:=oS q.num p.den (by have:=nq.1;omega) nq.2 p.den_pos mp.2
 have mL:=gE hL
 have mR:=gE hR
 obtain ⟨r1,o1,c1,e1,x1⟩:=gH _ _ (gF hL) (gF hR)
 obtain ⟨r2,o2,c2,e2,x2⟩:=gH ((mkRat p.num q.den).den:Int) ((mkRat q.num p.den).den:Int) ⟨by omega,mL.2⟩ ⟨by omega,mR.2⟩
 have hout:(o1&&o2)=true→Sm (p*q)∧.agg #[.int .i64 r1,.int .i64 (r2-1),.pointer none]=fD (p*q).num (p*q).den:=fun h=>by
  rw [Bool.and_eq_true] at h
  obtain ⟨y1,z1⟩:=e1 h.1
  obtain ⟨y2,z2⟩:=e2 h.2
  have hn:(p*q).num=r1:=by rw [hmn,y1]
  have hd:(((p*q).den:Nat):Int)=r2:=by rw [hmd,y2];simp
  refine ⟨⟨?_,?_⟩,by rw [fD,hn,hd]⟩
  ·rw [hn,eB];obtain ⟨a,b⟩:=x1;omega
  ·rw [eB];obtain ⟨a,b⟩:=x2;omega
 unfold fD at l1 l2 ⊢
 obtain ⟨n,hn⟩:∃ n,n=p.num:=⟨_,rfl⟩
 obtain ⟨m,hm⟩:∃ m,m=q.num:=⟨_,rfl⟩
 obtain ⟨d,hd⟩:∃ d:Int,d=(p.den:Int):=⟨_,rfl⟩
 obtain ⟨k,hk⟩:∃ k:Int,k=(q.den:Int):=⟨_,rfl⟩
 obtain ⟨ln,hln⟩:∃ ln,ln=(mkRat p.num q.den).num:=⟨_,rfl⟩
 obtain ⟨ld,hld⟩:∃ ld:Int,ld=((mkRat p.num q.den).den:Int):=⟨_,rfl⟩
 obtain ⟨rn,hrn⟩:∃ rn,rn=(mkRat q.num p.den).num:=⟨_,rfl⟩
 obtain ⟨rd,hrd⟩:∃ rd:Int,rd=((mkRat q.num p.den).den:Int):=⟨_,rfl⟩
 rw [← hln,← hld] at l1
 rw [← hrn,← hrd] at l2
 rw [← hln,← hrn] at c1
 rw [← hld,← hrd] at c2
 rw [← hld] at mL
 rw [← hrd] at mR
 rw [← hn,← hk] at l1
 rw [← hm,← hd] at l2
 rw [← hd] at mp ⊢
 rw [← hk] at mq ⊢
 rw [← hn,← hm]
 have hden:∀ (a b:Int) (w' : World),1≤b→b≤9223372036854775807→Calls Tryz.prog 118 #[.agg #[.int .i64 a,.int .i64 (b-1),.pointer none]] w' (TyPost w' (Sp.is (.int .i64 b))):=fun a b w' h1 h2=>by
  have:=Gives.ty (iV a (b-1) none w' (by omega) (by omega))
  rwa [Int.sub_add_cancel] at this
 obtain ⟨hk1,hk2,hk3,hb1⟩:=eA w (.cells #[.int .i64 n,.int .i64 (d-1),.pointer none] 68) (.cells #[.int .i64 m,.int .i64 (k-1),.pointer none] 68) (.cells #[.int .i64 0,.int .i64 0,.pointer none] 68)
 have H:=aH (aI l1 (aI l2 (aI c1 (aI c2 (aI hout (aI hb1 (aI hk3 (aI hden (aI mp (aI mq (aI mL (aI mR x2))))))))))))
 have HK:=aH (aI hk1 hk2)
 clear hmn hmd hL hR hp hq mp mq np nq l1 l2 mL mR c1 e1 x1 c2 e2 x2 hout hden hk1 hk2 hk3 hb1 hn hm hd hk hln hld hrn hrd
 go_enter Tryz.func110,Tryz.ntmps110
 go_wp2
 generalize ((w.alloc (.cells #[.int .i64 n,.int .i64 (d-1),.pointer none] 68)).alloc (.cells #[.int .i64 m,.int .i64 (k-1),.pointer none] 68)).alloc (.cells #[.int .i64 0,.int .i64 0,.pointer none] 68)=w1 at *
 have hA:=HK.out.1
 have hC:=HK.out.2
 have hR:=H.out.2.2.2.2.2.2.1
 have hW:=H.out.2.2.2.2.2.1
 refine wp_region_ty Kn [] (by kernel_rfl) (by kernel_rfl) ?_
 repeat (first|(apply aZ (hg:=rfl);case h=>(intro A w' hB hk;simp at hk;have c_hA:=aA (hB.blk hA (by simp <;> omega));have c_hC:=aA (hB.blk hC (by simp <;> omega));first|(simp [go_sem,hk,c_hA,c_hC] <;> rfl)|(simp [go_sem,c_hA,c_hC];rfl)))|(refine aP _ ?_ (by first|exact .inl rfl|exact .inr rfl) (by rfl) (by simp [specOf,Kd.spec];rfl) ?_ rfl ?_;(exact Sp.is_stable _ _)))
 refine aN (Sp.is (.int .i64 k)) (Sp.is_stable _ _) rfl (fun A w' hB hk=>?_) ?_;(simp at hk;have c_hA:=aA (hB.blk hA (by simp <;> omega));simp [go_sem,hk,c_hA];refine aE ?_;exact H.out.2.2.2.2.2.2.2.1 _ _ _ H.out.2.2.2.2.2.2.2.2.2.1.1 H.out.2.2.2.2.2.2.2.2.2.1.2)
 refine aN (Sp.is (.agg #[.int .i64 ln,.int .i64 (ld-1),.pointer none])) (Sp.is_stable _ _) rfl (fun A w' hB hk=>?_) ?_;(simp at hk;have c_hA:=aA (hB.blk hA (by simp <;> omega));simp [go_sem,hk,c_hA];refine aE ?_;exact Gives.ty (H.out.1 _))
 repeat (first|(apply aZ (hg:=rfl);case h=>(intro A w' hB hk;simp at hk;have c_hA:=aA (hB.blk hA (by simp <;> omega));have c_hC:=aA (hB.blk hC (by simp <;> omega));first|(simp [go_sem,hk,c_hA,c_hC] <;> rfl)|(simp [go_sem,c_hA,c_hC];rfl)))|(refine aP _ ?_ (by first|exact .inl rfl|exact .inr rfl) (by rfl) (by simp [specOf,Kd.spec];rfl) ?_ rfl ?_;(exact Sp.is_stable _ _)))
 refine aN (Sp.is (.int .i64 d)) (Sp.is_stable _ _) rfl (fun A w' hB hk=>?_) ?_;(simp at hk;have c_hA:=aA (hB.blk hA (by simp <;> omega));simp [go_sem,hk,c_hA];refine aE ?_;exact H.out.2.2.2.2.2.2.2.1 _ _ _ H.out.2.2.2.2.2.2.2.2.1.1 H.out.2.2.2.2.2.2.2.2.1.2)
 refine aN (Sp.is (.agg #[.int .i64 rn,.int .i64 (rd-1),.pointer none])) (Sp.is_stable _ _) rfl (fun A w' hB hk=>?_) ?_;(simp at hk;have c_hA:=aA (hB.blk hA (by simp <;> omega));simp [go_sem,hk,c_hA];refine aE ?_;exact Gives.ty (H.out.2.1 _))
 (apply zN (hg:=rfl) (hd:=rfl);(case h=>(intro A w';simp [go_sem];rfl));(case hc=>simp [hotObj,Ku,Kn]))
 (apply zN (hg:=rfl) (hd:=rfl);(case h=>(intro A w';simp [go_sem];rfl));(case hc=>simp [hotObj,Ku,Kn]))
 refine zO 6 ((.cells #[.int .i64 0,.int .i64 0,.pointer none] 68 (0,0))) (coIs (.cells #[.int .i64 ln,.int .i64 (ld-1),.pointer none] 68 (0,0))) (nV _ _) rfl rfl (by simp [Oper.looksAt,Op.operands]) (by simp) (fun A w' b hB hk hd h0=>?_) ?_;(simp at hk;simp [Act.eval] at hd;have c_hA:=aA (hB.blk hA (by simp <;> omega));have c0:=aA h0;have f0:=aW h0;simp [go_sem,hd,hk,c0,f0];exact ⟨_,dG h0 _ _ _,rfl⟩)
 refine zO 7 ((.cells #[.int .i64 0,.int .i64 0,.pointer none] 68 (0,0))) (coIs (.cells #[.int .i64 rn,.int .i64 (rd-1),.pointer none] 68 (0,0))) (nV _ _) rfl rfl (by simp [Oper.looksAt,Op.operands]) (by simp) (fun A w' b hB hk hd h0=>?_) ?_;(simp at hk;simp [Act.eval] at hd;have c_hA:=aA (hB.blk hA (by simp <;> omega));have c0:=aA h0;have f0:=aW h0;simp [go_sem,hd,hk,c0,f0];exact ⟨_,dG h0 _ _ _,rfl⟩)
 refine ⟨by first|rfl|decide,fun f w2 hB hF hAp=>?_⟩;simp [Final1,Sp.is,isVar] at hF;simp only [frameOf]
 obtain ⟨b7,e7,l7,_,o7,rfl,ho7⟩:=hF.1
 obtain ⟨b6,e6,l6,_,o6,rfl,ho6⟩:=hF.2.1
 have hR:=hB.blk hR (by simp)
 have hW:=Below.step_trans hW hB.below
 obtain ⟨⟨g60,g61,g62⟩,_⟩:=cK ho6
 obtain ⟨⟨g70,g71,g72⟩,_⟩:=cK ho7
 have M:=aH (aI ho6 (aI ho7 (aI hR hW)))
 clear hB hAp hA hC hR hW ho6 ho7
 go_wp2_with fail
 refine (H.out.2.2.1 _).mono ?_
 rintro e w3 ⟨rfl,b3⟩
 have hA:=aJ b3 M.out.1
 have hC:=aJ b3 M.out.2.1
 have hR:=aJ b3 M.out.2.2.1
 have hW:=Below.step_trans M.out.2.2.2 b3
 clear g60 g61 g62 g70 g71 g72 b3
 go_wp2
 refine wp_region_ty Kn [] (by kernel_rfl) (by kernel_rfl) ?_
 repeat (first|(apply aZ (hg:=rfl);case h=>(intro A w' hB hk;simp at hk;have c_hA:=aA (hB.blk hA (by simp <;> omega));have c_hC:=aA (hB.blk hC (by simp <;> omega));first|(simp [go_sem,hk,c_hA,c_hC] <;> rfl)|(simp [go_sem,c_hA,c_hC];rfl)))|(refine aP _ ?_ (by first|exact .inl rfl|exact .inr rfl) (by rfl) (by simp [specOf,Kd.spec];rfl) ?_ rfl ?_;(exact Sp.is_stable _ _)))
 refine aN (Sp.is (.int .i64 ld)) (Sp.is_stable _ _) rfl (fun A w' hB hk=>?_) ?_;(simp at hk;have c_hA:=aA (hB.blk hA (by simp <;> omega));simp [go_sem,hk,c_hA];refine aE ?_;exact H.out.2.2.2.2.2.2.2.1 _ _ _ H.out.2.2.2.2.2.2.2.2.2.2.1.1 H.out.2.2.2.2.2.2.2.2.2.2.1.2)
 repeat (first|(apply aZ (hg:=rfl);case h=>(intro A w' hB hk;simp at hk;have c_hA:=aA (hB.blk hA (by simp <;> omega));have c_hC:=aA (hB.blk hC (by simp <;> omega));first|(simp [go_sem,hk,c_hA,c_hC] <;> rfl)|(simp [go_sem,c_hA,c_hC];rfl)))|(refine aP _ ?_ (by first|exact .inl rfl|exact .inr rfl) (by rfl) (by simp [specOf,Kd.spec];rfl) ?_ rfl ?_;(exact Sp.is_stable _ _)))
 refine aN (Sp.is (.int .i64 rd)) (Sp.is_stable _ _) rfl (fun A w' hB hk=>?_) ?_;(simp at hk;have c_hA:=aA (hB.blk hA (by simp <;> omega));simp [go_sem,hk,c_hA];refine aE ?_;exact H.out.2.2.2.2.2.2.2.1 _ _ _ H.out.2.2.2.2.2.2.2.2.2.2.2.1.1 H.out.2.2.2.2.2.2.2.2.2.2.2.1.2)
 refine aN (Sp.is (.tuple #[.int .i64 r2,.bool o2])) (Sp.is_stable _ _) rfl (fun A w' hB hk=>?_) ?_;(simp at hk;have c_hA:=aA (hB.blk hA (by simp <;> omega));simp [go_sem,hk,c_hA];refine aE ?_;exact Gives.ty (H.out.2.2.2.1 _))
 repeat (first|(apply aZ (hg:=rfl);case h=>(intro A w' hB hk;simp at hk;have c_hA:=aA (hB.blk hA (by simp <;> omega));have c_hC:=aA (hB.blk hC (by simp <;> omega));first|(simp [go_sem,hk,c_hA,c_hC] <;> rfl)|(simp [go_sem,c_hA,c_hC];rfl)))|(refine aP _ ?_ (by first|exact .inl rfl|exact .inr rfl) (by rfl) (by simp [specOf,Kd.spec];rfl) ?_ rfl ?_;(exact Sp.is_stable _ _)))
 refine ⟨by first|rfl|decide,fun f w2 hB hF hAp=>?_⟩;simp [Final1,Sp.is,isVar] at hF;simp only [frameOf,Act.put,List.setIfInBounds_toArray,List.set_cons_succ,List.set_cons_zero,hF]
 have hR:=hB.blk hR (by simp)
 have hW:=Below.step_trans hW hB.below
 clear hB hAp hA hC hF
 go_wp2_with fail
 refine (sT r1 r2 _ H.out.2.2.2.2.2.2.2.2.2.2.2.2.1 H.out.2.2.2.2.2.2.2.2.2.2.2.2.2).mono ?_
 rintro e w6 ⟨rfl,b6⟩
 obtain ⟨⟨r0,ra,rb⟩,f0,f1,f2⟩:=cK (aJ b6 hR)
 have B6:=aH (Below.step_trans hW b6)
 clear b6 hR hW
 have hout:=H.out.2.2.2.2.1
 have HO:=aH hout
 clear hout
 cases o1 <;> cases o2
 all_goals
  go_wp2
  first
   | (refine bodyPost_ret (v := .tuple #[.agg #[.int .i64 r1,.int .i64 (r2-1),.pointer none],.bool true]) (by simp [results,Tryz.results110,go_sem,r0,ra,rb]) rfl ⟨_,_,_,rfl,fun _=>HO.out rfl,?_⟩
      repeat (first|exact B6.out|(refine Below.setCell ?_ (by first|omega|(simp <;> omega)) _)|(refine Below.alloc ?_ (by first|omega|(simp <;> omega)) _)|(refine Below.drew ?_)|exact aB _ _))
   | (refine bodyPost_ret (v := .tuple #[.agg #[.int .i64 r1,.int .i64 (r2-1),.pointer none],.bool false]) (by simp [results,Tryz.results110,go_sem,r0,ra,rb]) rfl ⟨_,_,_,rfl,fun h=>by (cases h),?_⟩
      repeat (first|exact B6.out|(refine Below.setCell ?_ (by first|omega|(simp <;> omega)) _)|(refine Below.alloc ?_ (by first|omega|(simp <;> omega)) _)|(refine Below.drew ?_)|exact aB _ _))
end
section
open Go.RowKit Pl
attribute [local simp] known specOf Kd.spec Sp.is isVar Oper.looksAt Op.operands Call.operands Act.eval
set_option maxRecDepth 100000 in
set_option maxHeartbeats 8000000 in
theorem times_nb (v v' : Value) (p q:Rat) (w:World) (h:Nb w v p) (h' : Nb w v' q) (hp:Lf 38 p) (hq:Lf 38 q):Calls Tryz.prog 38 #[v,v'] w (GivesNb w (p*q)):=by
 obtain ⟨n1,d1,a1,rfl⟩:=h.form
 obtain ⟨n2,d2,a2,rfl⟩:=h'.form
 obtain ⟨hk1,hk2,hk3,hb1⟩:=eA w (.cells #[.int .i64 n1,.int .i64 d1,.pointer a1] 68) (.cells #[.int .i64 n2,.int .i64 d2,.pointer a2] 68) (.cells #[.int .i64 0,.int .i64 0,.pointer none] 68)
 have H:=aH (aI (h.below hb1) (aI (h'.below hb1) (aI hp (aI hq (aI hb1 (aI hk1 (aI hk2 hk3)))))))
 by_cases hs:Sm p∧Sm q
 ·have e1:Value.agg #[.int .i64 n1,.int .i64 d1,.pointer a1]=fD p.num p.den:=by
   rcases h with ⟨_,e⟩|⟨hn,_⟩
   ·exact e
   ·exact absurd hs.1 hn
  have e2:Value.agg #[.int .i64 n2,.int .i64 d2,.pointer a2]=fD q.num q.den:=by
   rcases h' with ⟨_,e⟩|⟨hn,_⟩
   ·exact e
   ·exact absurd hs.2 hn
  have ha:∀ w',Calls Tryz.prog 105 #[.agg #[.int .i64 n1,.int .i64 d1,.pointer a1],.agg #[.int .i64 n2,.int .i64 d2,.pointer a2]] w' (Gives w' (.bool true)):=fun w'=>gG _ _ p q w' hs.1 hs.2 e1 e2
  have hc:∀ w',Calls Tryz.prog 110 #[.agg #[.int .i64 n1,.int .i64 d1,.pointer a1],.agg #[.int .i64 n2,.int .i64 d2,.pointer a2]] w' (gS w' (p*q)):=fun w'=>by
   rw [e1,e2]
   exact wK p q w' hs.1 hs.2
  have HS:=aH (aI ha hc)
  clear ha hc e1 e2 hs h h' hp hq hb1 hk1 hk2 hk3
  go_enter Tryz.func38,Tryz.ntmps38
  go_wp2_with fail
  refine (HS.out.1 _).mono ?_
  rintro e w2 ⟨rfl,b2⟩
  have B2:=aH (aI (Below.step_trans H.out.2.2.2.2.1 b2) (aI b2 (aI (aJ b2 H.out.2.2.2.2.2.1) (aI (aJ b2 H.out.2.2.2.2.2.2.1) (aJ b2 H.out.2.2.2.2.2.2.2)))))
  obtain ⟨⟨u0,u1,u2⟩,_⟩:=cK (aJ b2 H.out.2.2.2.2.2.1)
  obtain ⟨⟨u3,u4,u5⟩,_⟩:=cK (aJ b2 H.out.2.2.2.2.2.2.1)
  clear b2
  go_wp2_with fail
  refine (HS.out.2 _).mono ?_
  rintro e w3 ⟨rn,rd,ok,rfl,hok,b3⟩
  have hA3:=aJ b3 B2.out.2.2.1
  have hC3:=aJ b3 B2.out.2.2.2.1
  have hR3:=aJ b3 B2.out.2.2.2.2
  have B3:=aH (aI hok (aI (Below.step_trans B2.out.1 b3) (aI (Below.step_trans B2.out.2.1 b3) (aI hA3 (aI hC3 hR3)))))
  clear u0 u1 u2 u3 u4 u5 b3 hok hA3 hC3 hR3
  have hlt3:=lt_of_block B3.out.2.2.2.2.2
  cases ok
  ·go_wp2
   have hb4:Below w3.heap.size w3 (w3.alloc (.cells #[.int .i64 rn,.int .i64 rd,.pointer none] 68)):=(aB _ _).alloc (aR _) _
   have B4:=aH (aI (Below.step_trans B3.out.2.1 hb4) (aI (Below.step_trans B3.out.2.2.1 hb4) (aI (aJ hb4 B3.out.2.2.2.1) (aI (aJ hb4 B3.out.2.2.2.2.1) (aJ hb4 B3.out.2.2.2.2.2)))))
   clear hb4
   generalize w3.alloc (.cells #[.int .i64 rn,.int .i64 rd,.pointer none] 68)=w4 at *
   have hA:=B4.out.2.2.1
   have hC:=B4.out.2.2.2.1
   have hR:=B4.out.2.2.2.2
   have t1:∀ w',Base [w.heap.size+1+1] w4 w'→Calls Tryz.prog 107 #[.agg #[.int .i64 n1,.int .i64 d1,.pointer a1]] w' (TyPost w' (dD p)):=fun w' hB =>
    GivesFr.ty (bJ _ _ _ (Nb.ext (K:=Kn) (fun _=>rfl) (fun _=>rfl) (H.out.1.below B4.out.2.1) (hB.extT B4.out.2.2.2.2 (by simp [hotObj,Kn]))))
   have t2:∀ w',Base [w.heap.size+1+1] w4 w'→Calls Tryz.prog 107 #[.agg #[.int .i64 n2,.int .i64 d2,.pointer a2]] w' (TyPost w' (dD q)):=fun w' hB =>
    GivesFr.ty (bJ _ _ _ (Nb.ext (K:=Kn) (fun _=>rfl) (fun _=>rfl) (H.out.2.1.below B4.out.2.1) (hB.extT B4.out.2.2.2.2 (by simp [hotObj,Kn]))))
   have t3:∀ w' x y,Fr w' x p→Fr w' y q→Calls Tryz.prog 111 #[x,y] w' (TyPost w' (dD (p*q))):=fun w' x y hx hy=>GivesFr.ty (rA x y p q w' hx hy H.out.2.2.1 H.out.2.2.2.1)
   have t4:∀ w' x,Fr w' x (p*q)→Calls Tryz.prog 66 #[x] w' (TyPost w' (iW (p*q))):=fun w' x hx=>GivesNb.ty (eC x _ w' hx)
   have T:=aH (aI t1 (aI t2 (aI t3 t4)))
   clear t1 t2 t3 t4
   refine wp_region_ty Kn [w.heap.size+1+1] (by kernel_rfl) (by kernel_rfl) ?_
   repeat (first|(apply aZ (hg:=rfl);case h=>(intro A w' hB hk;simp at hk;have c_hA:=aA (hB.blk hA (by simp <;> omega));have c_hC:=aA (hB.blk hC (by simp <;> omega));first|(simp [go_sem,hk,c_hA,c_hC] <;> rfl)|(simp [go_sem,c_hA,c_hC];rfl)))|(refine aP _ ?_ (by first|exact .inl rfl|exact .inr rfl) (by rfl) (by simp [specOf,Kd.spec];rfl) ?_ rfl ?_;(first|exact Sp.is_stable _ _|exact aL (fun _=>rfl) _|exact aY (fun _=>rfl) (fun _=>rfl) _)))
   refine aN (dD p) (aL (fun _=>rfl) _) rfl (fun A w' hB hk=>?_) ?_;(simp at hk;have c_hA:=aA (hB.blk hA (by simp <;> omega));simp [go_sem,hk,c_hA];refine aE ?_;exact T.out.1 _ hB)
   repeat (first|(apply aZ (hg:=rfl);case h=>(intro A w' hB hk;simp at hk;have c_hA:=aA (hB.blk hA (by simp <;> omega));have c_hC:=aA (hB.blk hC (by simp <;> omega));first|(simp [go_sem,hk,c_hA,c_hC] <;> rfl)|(simp [go_sem,c_hA,c_hC];rfl)))|(refine aP _ ?_ (by first|exact .inl rfl|exact .inr rfl) (by rfl) (by simp [specOf,Kd.spec];rfl) ?_ rfl ?_;(first|exact Sp.is_stable _ _|exact aL (fun _=>rfl) _|exact aY (fun _=>rfl) (fun _=>rfl) _)))
   refine aN (dD q) (aL (fun _=>rfl) _) rfl (fun A w' hB hk=>?_) ?_;(simp at hk;have c_hA:=aA (hB.blk hA (by simp <;> omega));simp [go_sem,hk,c_hA];refine aE ?_;exact T.out.2.1 _ hB)
   refine aN (dD (p*q)) (aL (fun _=>rfl) _) rfl (fun A w' hB hk=>?_) ?_;(simp at hk;have c_hA:=aA (hB.blk hA (by simp <;> omega));simp [go_sem,hk,c_hA];refine aE ?_;exact T.out.2.2.1 _ _ _ hk.1 hk.2)
   refine aN (iW (p*q)) (aY (fun _=>rfl) (fun _=>rfl) _) rfl (fun A w' hB hk=>?_) ?_;(simp at hk;have c_hA:=aA (hB.blk hA (by simp <;> omega));simp [go_sem,hk,c_hA];refine aE ?_;exact T.out.2.2.2 _ _ hk)
   refine fE (w.heap.size+1+1) (_) (zW (p*q)) (dY (fun _=>rfl) (fun _=>rfl) _) rfl rfl (by simp) (by assumption) (by simp [hotObj,Ku,Kn]) (fun A w' hB hk h0=>?_) ?_;(simp at hk;have c_hA:=aA (hB.blk hA (by simp <;> omega));have c0:=aA h0;have f0:=aW h0;obtain ⟨k1,k2⟩:=hk;obtain ⟨y1,y2,y3,e1⟩:=(show Nb _ _ _ from k2).form;rw [e1] at k2;simp [go_sem,k1,e1,c0,f0];exact ⟨_,dG h0 _ _ _,_,_,_,rfl,k2⟩)
   refine ⟨by first|rfl|decide,fun f w2 hB hF hAp=>?_⟩;simp [Final1,Sp.is,isVar] at hF;simp only [frameOf]
   obtain ⟨o,⟨y1,y2,y3,rfl,k3⟩,ho⟩:=hF.1
   obtain ⟨⟨r0,r1,r2⟩,_⟩:=cK ho
   have K:=aH (aI k3 hB)
   clear k3 hB ho hA hC hR hAp hF
   go_wp2
   refine bodyPost_ret (v := .agg #[.int .i64 y1,.int .i64 y2,.pointer y3]) (by simp [results,Tryz.results38,go_sem,r0,r1,r2,Act.put]) rfl ⟨_,rfl,K.out.1,?_⟩
   exact Base.belowT K.out.2 B4.out.1 (by omega)
  ·obtain ⟨hsm,hv⟩:=B3.out.1 rfl
   obtain ⟨⟨g0,g1,g2⟩,f0,f1,f2⟩:=cK B3.out.2.2.2.2.2
   have HV:=aH (aI hsm hv)
   clear hsm hv
   have hpast:∀ (W:World) (o:Obj) (i:Nat),W.heap.size=w3.heap.size→(W.alloc o).cell? ⟨w.heap.size+1+1,i,none⟩=W.cell? ⟨w.heap.size+1+1,i,none⟩:=fun W o i h=>World.cell?_alloc_past _ _ _ (by show w.heap.size+1+1<W.heap.size;omega)
   have HP:=aH hpast
   clear hpast
   go_wp2
   refine bodyPost_ret (v := .agg #[.int .i64 rn,.int .i64 rd,.pointer none]) (by simp [results,Tryz.results38,go_sem,g0,g1,g2,HP.out]) rfl ⟨_,rfl,.inl HV.out,?_⟩
   repeat (first|exact B3.out.2.1|(refine Below.setCell ?_ (by first|omega|(simp <;> omega)) _)|(refine Below.alloc ?_ (by first|omega|(simp <;> omega)) _)|(refine Below.drew ?_)|exact aB _ _)
 ·have ha:∀ w',Below w.heap.size w w'→Calls Tryz.prog 105 #[.agg #[.int .i64 n1,.int .i64 d1,.pointer a1],.agg #[.int .i64 n2,.int .i64 d2,.pointer a2]] w' (Gives w' (.bool false)):=fun w' hb=>nW _ _ p q w' (h.below hb) (h'.below hb) hs
  have HS:=aH ha
  clear ha hs h h' hp hq hb1 hk1 hk2 hk3
  go_enter Tryz.func38,Tryz.ntmps38
  go_wp2_with fail
  refine (HS.out _ H.out.2.2.2.2.1).mono ?_
  rintro e w2 ⟨rfl,b2⟩
  have B2:=aH (aI (Below.step_trans H.out.2.2.2.2.1 b2) (aI b2 (aI (aJ b2 H.out.2.2.2.2.2.1) (aI (aJ b2 H.out.2.2.2.2.2.2.1) (aJ b2 H.out.2.2.2.2.2.2.2)))))
  clear b2
  go_wp2
  have hA:=B2.out.2.2.1
  have hC:=B2.out.2.2.2.1
  have hR:=B2.out.2.2.2.2
  have t1:∀ w',Base [w.heap.size+1+1] w2 w'→Calls Tryz.prog 107 #[.agg #[.int .i64 n1,.int .i64 d1,.pointer a1]] w' (TyPost w' (dD p)):=fun w' hB =>
   GivesFr.ty (bJ _ _ _ (Nb.ext (K:=Kn) (fun _=>rfl) (fun _=>rfl) (H.out.1.below B2.out.2.1) (hB.extT B2.out.2.2.2.2 (by simp [hotObj,Kn]))))
  have t2:∀ w',Base [w.heap.size+1+1] w2 w'→Calls Tryz.prog 107 #[.agg #[.int .i64 n2,.int .i64 d2,.pointer a2]] w' (TyPost w' (dD q)):=fun w' hB =>
   GivesFr.ty (bJ _ _ _ (Nb.ext (K:=Kn) (fun _=>rfl) (fun _=>rfl) (H.out.2.1.below B2.out.2.1) (hB.extT B2.out.2.2.2.2 (by simp [hotObj,Kn]))))
  have t3:∀ w' x y,Fr w' x p→Fr w' y q→Calls Tryz.prog 111 #[x,y] w' (TyPost w' (dD (p*q))):=fun w' x y hx hy=>GivesFr.ty (rA x y p q w' hx hy H.out.2.2.1 H.out.2.2.2.1)
  have t4:∀ w' x,Fr w' x (p*q)→Calls Tryz.prog 66 #[x] w' (TyPost w' (iW (p*q))):=fun w' x hx=>GivesNb.ty (eC x _ w' hx)
  have T:=aH (aI t1 (aI t2 (aI t3 t4)))
  clear t1 t2 t3 t4
  refine wp_region_ty Kn [w.heap.size+1+1] (by kernel_rfl) (by kernel_rfl) ?_
  repeat (first|(apply aZ (hg:=rfl);case h=>(intro A w' hB hk;simp at hk;have c_hA:=aA (hB.blk hA (by simp <;> omega));have c_hC:=aA (hB.blk hC (by simp <;> omega));first|(simp [go_sem,hk,c_hA,c_hC] <;> rfl)|(simp [go_sem,c_hA,c_hC];rfl)))|(refine aP _ ?_ (by first|exact .inl rfl|exact .inr rfl) (by rfl) (by simp [specOf,Kd.spec];rfl) ?_ rfl ?_;(first|exact Sp.is_stable _ _|exact aL (fun _=>rfl) _|exact aY (fun _=>rfl) (fun _=>rfl) _)))
  refine aN (dD p) (aL (fun _=>rfl) _) rfl (fun A w' hB hk=>?_) ?_;(simp at hk;have c_hA:=aA (hB.blk hA (by simp <;> omega));simp [go_sem,hk,c_hA];refine aE ?_;exact T.out.1 _ hB)
  repeat (first|(apply aZ (hg:=rfl);case h=>(intro A w' hB hk;simp at hk;have c_hA:=aA (hB.blk hA (by simp <;> omega));have c_hC:=aA (hB.blk hC (by simp <;> omega));first|(simp [go_sem,hk,c_hA,c_hC] <;> rfl)|(simp [go_sem,c_hA,c_hC];rfl)))|(refine aP _ ?_ (by first|exact .inl rfl|exact .inr rfl) (by rfl) (by simp [specOf,Kd.spec];rfl) ?_ rfl ?_;(first|exact Sp.is_stable _ _|exact aL (fun _=>rfl) _|exact aY (fun _=>rfl) (fun _=>rfl) _)))
  refine aN (dD q) (aL (fun _=>rfl) _) rfl (fun A w' hB hk=>?_) ?_;(simp at hk;have c_hA:=aA (hB.blk hA (by simp <;> omega));simp [go_sem,hk,c_hA];refine aE ?_;exact T.out.2.1 _ hB)
  refine aN (dD (p*q)) (aL (fun _=>rfl) _) rfl (fun A w' hB hk=>?_) ?_;(simp at hk;have c_hA:=aA (hB.blk hA (by simp <;> omega));simp [go_sem,hk,c_hA];refine aE ?_;exact T.out.2.2.1 _ _ _ hk.1 hk.2)
  refine aN (iW (p*q)) (aY (fun _=>rfl) (fun _=>rfl) _) rfl (fun A w' hB hk=>?_) ?_;(simp at hk;have c_hA:=aA (hB.blk hA (by simp <;> omega));simp [go_sem,hk,c_hA];refine aE ?_;exact T.out.2.2.2 _ _ hk)
  refine fE (w.heap.size+1+1) (_) (zW (p*q)) (dY (fun _=>rfl) (fun _=>rfl) _) rfl rfl (by simp) (by assumption) (by simp [hotObj,Ku,Kn]) (fun A w' hB hk h0=>?_) ?_;(simp at hk;have c_hA:=aA (hB.blk hA (by simp <;> omega));have c0:=aA h0;have f0:=aW h0;obtain ⟨k1,k2⟩:=hk;obtain ⟨y1,y2,y3,e1⟩:=(show Nb _ _ _ from k2).form;rw [e1] at k2;simp [go_sem,k1,e1,c0,f0];exact ⟨_,dG h0 _ _ _,_,_,_,rfl,k2⟩)
  refine ⟨by first|rfl|decide,fun f w2 hB hF hAp=>?_⟩;simp [Final1,Sp.is,isVar] at hF;simp only [frameOf]
  obtain ⟨o,⟨y1,y2,y3,rfl,k3⟩,ho⟩:=hF.1
  obtain ⟨⟨r0,r1,r2⟩,_⟩:=cK ho
  have K:=aH (aI k3 hB)
  clear k3 hB ho hA hC hR hAp hF
  go_wp2
  refine bodyPost_ret (v := .agg #[.int .i64 y1,.int .i64 y2,.pointer y3]) (by simp [results,Tryz.results38,go_sem,r0,r1,r2,Act.put]) rfl ⟨_,rfl,K.out.1,?_⟩
  exact Base.belowT K.out.2 B2.out.1 (by omega)
end
section
open Go.RowKit Pl
attribute [local simp] known specOf Kd.spec Sp.is isVar Oper.looksAt Op.operands Call.operands Act.eval
set_option maxRecDepth 100000 in
set_option maxHeartbeats 8000000 in
theorem minus_nb (v v' : Value) (p q:Rat) (w:World) (h:Nb w v p) (h' : Nb w v' q) (hp:Lf 36 p) (hq:Lf 36 q):Calls Tryz.prog 37 #[v,v'] w (GivesNb w (p-q)):=by
 have hsub:p-q=p + -q:=Rat.sub_eq_add_neg p q
 rw [hsub]
 obtain ⟨n1,d1,a1,rfl⟩:=h.form
 obtain ⟨n2,d2,a2,rfl⟩:=h'.form
 obtain ⟨hk1,hk2,hk3,hb1⟩:=eA w (.cells #[.int .i64 n1,.int .i64 d1,.pointer a1] 68) (.cells #[.int .i64 n2,.int .i64 d2,.pointer a2] 68) (.cells #[.int .i64 0,.int .i64 0,.pointer none] 68)
 have H:=aH (aI (h.below hb1) (aI (h'.below hb1) (aI hp (aI hq.neg (aI hb1 (aI hk1 (aI hk2 hk3)))))))
 clear h h' hp hq hb1 hk1 hk2 hk3 hsub
 go_enter Tryz.func37,Tryz.ntmps37
 go_wp2
 generalize ((w.alloc (.cells #[.int .i64 n1,.int .i64 d1,.pointer a1] 68)).alloc (.cells #[.int .i64 n2,.int .i64 d2,.pointer a2] 68)).alloc (.cells #[.int .i64 0,.int .i64 0,.pointer none] 68)=w1 at *
 have hA:=H.out.2.2.2.2.2.1
 have hC:=H.out.2.2.2.2.2.2.1
 have hR:=H.out.2.2.2.2.2.2.2
 have t1:∀ w',Base [w.heap.size+1+1] w1 w'→Calls Tryz.prog 109 #[.agg #[.int .i64 n2,.int .i64 d2,.pointer a2]] w' (TyPost w' (iW (-q))):=fun w' hB =>
  GivesNb.ty (wI _ _ _ (Nb.ext (K:=Kn) (fun _=>rfl) (fun _=>rfl) H.out.2.1 (hB.extT hR (by simp [hotObj,Kn]))))
 have t2:∀ w' x,Base [w.heap.size+1+1] w1 w'→Nb w' x (-q)→Calls Tryz.prog 36 #[.agg #[.int .i64 n1,.int .i64 d1,.pointer a1],x] w' (TyPost w' (iW (p + -q))):=fun w' x hB hx =>
  GivesNb.ty (plus_nb _ _ _ _ _ (Nb.ext (K:=Kn) (fun _=>rfl) (fun _=>rfl) H.out.1 (hB.extT hR (by simp [hotObj,Kn]))) hx H.out.2.2.1 H.out.2.2.2.1)
 have T:=aH (aI t1 t2)
 clear t1 t2
 refine wp_region_ty Kn [w.heap.size+1+1] (by kernel_rfl) (by kernel_rfl) ?_
 repeat (first|(apply aZ (hg:=rfl);case h=>(intro A w' hB hk;simp at hk;have c_hA:=aA (hB.blk hA (by simp <;> omega));have c_hC:=aA (hB.blk hC (by simp <;> omega));first|(simp [go_sem,hk,c_hA,c_hC] <;> rfl)|(simp [go_sem,c_hA,c_hC];rfl)))|(refine aP _ ?_ (by first|exact .inl rfl|exact .inr rfl) (by rfl) (by simp [specOf,Kd.spec];rfl) ?_ rfl ?_;(first|exact Sp.is_stable _ _|exact aY (fun _=>rfl) (fun _=>rfl) _)))
 refine aN (iW (-q)) (aY (fun _=>rfl) (fun _=>rfl) _) rfl (fun A w' hB hk=>?_) ?_;(simp at hk;have c_hA:=aA (hB.blk hA (by simp <;> omega));simp [go_sem,hk,c_hA];refine aE ?_;exact T.out.1 _ hB)
 refine aN (iW (p + -q)) (aY (fun _=>rfl) (fun _=>rfl) _) rfl (fun A w' hB hk=>?_) ?_;(simp at hk;have c_hA:=aA (hB.blk hA (by simp <;> omega));simp [go_sem,hk,c_hA];refine aE ?_;exact T.out.2 _ _ hB hk.2)
 refine fE (w.heap.size+1+1) (_) (zW (p + -q)) (dY (fun _=>rfl) (fun _=>rfl) _) rfl rfl (by simp) (by assumption) (by simp [hotObj,Ku,Kn]) (fun A w' hB hk h0=>?_) ?_;(simp at hk;have c_hA:=aA (hB.blk hA (by simp <;> omega));have c0:=aA h0;have f0:=aW h0;obtain ⟨k1,k2⟩:=hk;obtain ⟨y1,y2,y3,e1⟩:=(show Nb _ _ _ from k2).form;rw [e1] at k2;simp [go_sem,k1,e1,c0,f0];exact ⟨_,dG h0 _ _ _,_,_,_,rfl,k2⟩)
 refine ⟨by first|rfl|decide,fun f w2 hB hF hAp=>?_⟩;simp [Final1,Sp.is,isVar] at hF;simp only [frameOf]
 obtain ⟨o,⟨y1,y2,y3,rfl,k3⟩,ho⟩:=hF.1
 obtain ⟨⟨r0,r1,r2⟩,_⟩:=cK ho
 have K:=aH (aI k3 hB)
 clear k3 hB ho hA hC hR hAp hF
 go_wp2
 refine bodyPost_ret (v := .agg #[.int .i64 y1,.int .i64 y2,.pointer y3]) (by simp [results,Tryz.results37,go_sem,r0,r1,r2,Act.put]) rfl ⟨_,rfl,K.out.1,?_⟩
 exact Base.belowT K.out.2 H.out.2.2.2.2.1 (by omega)
set_option maxRecDepth 100000 in
set_option maxHeartbeats 8000000 in
theorem floor_nb (v:Value) (q:Rat) (w:World) (h:Nb w v q) (hl:Lf 38 q):Calls Tryz.prog 45 #[v] w (GivesNb w ((q.floor:Int):Rat)):=by
 obtain ⟨z,hz⟩:∃ z:Rat,z=((q.floor:Int):Rat):=⟨_,rfl⟩
 have hF0:∀ v' w',Fr w' v' q→Calls Tryz.prog 128 #[v'] w' (GivesFr w' z):=fun v' w' h'=>by
  rw [hz]
  exact floor_any v' q w' h' hl
 rw [← hz]
 clear hz
 obtain ⟨n1,d1,a1,rfl⟩:=h.form
 obtain ⟨hk1,hk2,hb1⟩:=jV w (.cells #[.int .i64 n1,.int .i64 d1,.pointer a1] 68) (.cells #[.int .i64 0,.int .i64 0,.pointer none] 68)
 have H:=aH (aI (h.below hb1) (aI hb1 (aI hk1 hk2)))
 clear h hb1 hk1 hk2
 go_enter Tryz.func45,Tryz.ntmps45
 go_wp2_with fail
 refine (bJ _ q _ H.out.1).mono ?_
 rintro e w2 ⟨v2,rfl,q2,b2⟩
 have Q2:=aH (aI q2 b2)
 clear q2 b2
 go_wp2_with fail
 refine (hF0 _ _ Q2.out.1).mono ?_
 rintro e w3 ⟨v3,rfl,q3,b3⟩
 have Q3:=aH (aI q3 (Below.step_trans Q2.out.2 b3))
 clear q3 b3 Q2 hF0
 go_wp2_with fail
 refine (eC _ _ _ Q3.out.1).mono ?_
 rintro e w4 ⟨v4,rfl,q4,b4⟩
 obtain ⟨n,d,p,rfl⟩:=q4.form
 have hb4:=Below.step_trans Q3.out.2 b4
 have hk:=aJ hb4 H.out.2.2.2
 obtain ⟨⟨h0,h1,h2⟩,f0,f1,f2⟩:=cK hk
 have Q4:=aH (aI q4 (aI hb4 hk))
 clear q4 b4 hk hb4 Q3
 go_wp2
 refine bodyPost_ret (v := .agg #[.int .i64 n,.int .i64 d,.pointer p]) (by simp [results,Tryz.results45,go_sem,h0,h1,h2]) rfl ⟨_,rfl,?_,?_⟩
 ·exact Nb.ext (K:=Kn) (fun _=>rfl) (fun _=>rfl) Q4.out.1 (Ext.only (nT _ _ _ _ _) Q4.out.2.2 (by simp [hotObj,Kn]))
 ·repeat (first|exact (Below.step_trans H.out.2.1 Q4.out.2.1)|(refine Below.setCell ?_ (by first|omega|(simp <;> omega)) _)|(refine Below.alloc ?_ (by first|omega|(simp <;> omega)) _)|(refine Below.drew ?_)|exact aB _ _)
end
section
open Go.RowKit Pl
attribute [local simp] known specOf Kd.spec Sp.is isVar Oper.looksAt Op.operands Call.operands Act.eval
theorem inv_form {q:Rat} (h0:q≠0):(q⁻¹).num=sg (decide (q.num<0)) q.den∧(q⁻¹).den=q.num.natAbs:=by
 have h:=Parts.inv (Parts.self q) h0
 exact ⟨h.num_eq,h.2.2.symm⟩
theorem sm_inv {q:Rat} (h:Sm q) (h0:q≠0):Sm q⁻¹:=by
 obtain ⟨e1,e2⟩:=inv_form h0
 refine ⟨?_,by rw [e2];exact h.1⟩
 rw [e1]
 cases decide (q.num<0)
 ·simpa [sg] using h.2
 ·simpa [sg] using h.2
set_option maxRecDepth 100000 in
set_option maxHeartbeats 8000000 in
theorem over_nb (v v' : Value) (p q:Rat) (w:World) (h:Nb w v p) (h' : Nb w v' q) (hp:Lf 38 p) (hq:Lf 38 q) (h0:q≠0):Calls Tryz.prog 42 #[v,v'] w (GivesNb w (p/q)):=by
 rw [Rat.div_def]
 obtain ⟨n1,d1,a1,rfl⟩:=h.form
 have hx:∀ w' x,Nb w' (.agg #[.int .i64 n1,.int .i64 d1,.pointer a1]) p→Nb w' x q⁻¹→Calls Tryz.prog 38 #[.agg #[.int .i64 n1,.int .i64 d1,.pointer a1],x] w' (TyPost w' (iW (p*q⁻¹))):=fun w' x y1 y2 =>
  GivesNb.ty (times_nb _ _ _ _ _ y1 y2 hp hq.inv)
 obtain ⟨f1,f2⟩:=inv_form h0
 have hsi:=fun hs=>sm_inv (q:=q) hs h0
 have hin:∀ v w',Fr w' v q→Calls Tryz.prog 116 #[v] w' (TyPost w' (dD q⁻¹)):=fun v w' hv=>GivesFr.ty (inverse_any v q w' hv h0)
 have hz:q.num≠0:=fun e=>h0 (Rat.num_eq_zero.1 e)
 generalize q⁻¹=r at *
 rcases h' with ⟨hs,rfl⟩|⟨hs,g,s1,s2,rfl,hk,g1,g2⟩
 ·have mn:=gF hs
  have md:=gE hs
  have hsr:=hsi hs
  unfold fD
  clear hsi hin hq h0
  obtain ⟨m,hm⟩:∃ m,m=q.num:=⟨_,rfl⟩
  obtain ⟨k,hk⟩:∃ k:Int,k=(q.den:Int):=⟨_,rfl⟩
  rw [← hm] at mn hz f1 f2 ⊢
  rw [← hk] at md ⊢
  have hf1:r.num=if m<0 then -k else k:=by
   rw [f1,hk]
   by_cases h:m<0 <;> simp [sg,h]
  obtain ⟨mn1,mn2⟩:=mn
  obtain ⟨md1,md2⟩:=md
  clear hm hk hs f1
  obtain ⟨hk1,hk2,hk3,hb1⟩:=eA w (.cells #[.int .i64 n1,.int .i64 d1,.pointer a1] 68) (.cells #[.int .i64 m,.int .i64 (k-1),.pointer none] 68) (.cells #[.int .i64 0,.int .i64 0,.pointer none] 68)
  have t1:∀ w',Calls Tryz.prog 118 #[.agg #[.int .i64 m,.int .i64 (k-1),.pointer none]] w' (TyPost w' (Sp.is (.int .i64 k))):=fun w'=>by
   have:=Gives.ty (iV m (k-1) none w' (by omega) (by omega))
   rwa [Int.sub_add_cancel] at this
  have k1:IntKind.i64.wrap (-k) = -k:=by rw [IntKind.wrap_i64];omega
  have k2:IntKind.i64.wrap (-m) = -m:=by rw [IntKind.wrap_i64];omega
  by_cases hneg:m<0
  ·rw [if_pos hneg] at hf1
   have t2:∀ w',Calls Tryz.prog 117 #[.int .i64 (-k),.int .i64 (-m)] w' (TyPost w' (iW r)):=fun w' =>
    (sT (-k) (-m) w' (by omega) (by omega)).mono fun _ _ ⟨y1,y2⟩=>⟨_,y1,y2,.inl ⟨hsr,by
     have:((r.den:Nat):Int) = -m:=by rw [f2];omega
     rw [fD,hf1,this]⟩⟩
   have H:=aH (aI (h.below hb1) (aI hb1 (aI hk1 (aI hk2 hk3))))
   have T:=aH (aI t1 (aI t2 hx))
   clear t1 t2 hx h hb1 hk1 hk2 hk3 hf1 f2 hsr mn1 mn2 md1 md2 hz hp
   go_enter Tryz.func42,Tryz.ntmps42
   go_wp2
   generalize ((w.alloc (.cells #[.int .i64 n1,.int .i64 d1,.pointer a1] 68)).alloc (.cells #[.int .i64 m,.int .i64 (k-1),.pointer none] 68)).alloc (.cells #[.int .i64 0,.int .i64 0,.pointer none] 68)=w1 at *
   have hA:=H.out.2.2.1
   have hC:=H.out.2.2.2.1
   have hR:=H.out.2.2.2.2
   refine wp_region_ty Kn [w.heap.size+1+1] (by kernel_rfl) (by kernel_rfl) ?_
   repeat (first|(apply aZ (hg:=rfl);case h=>(intro A w' hB hk;simp at hk;have c_hA:=aA (hB.blk hA (by simp <;> omega));have c_hC:=aA (hB.blk hC (by simp <;> omega));first|(simp [go_sem,hk,c_hA,c_hC] <;> rfl)|(simp [go_sem,c_hA,c_hC];rfl)))|(refine aP _ ?_ (by first|exact .inl rfl|exact .inr rfl) (by rfl) (by simp [specOf,Kd.spec];rfl) ?_ rfl ?_;(first|exact Sp.is_stable _ _|exact aL (fun _=>rfl) _|exact aY (fun _=>rfl) (fun _=>rfl) _)))
   refine aN (Sp.is (.int .i64 k)) (Sp.is_stable _ _) rfl (fun A w' hB hk=>?_) ?_;(simp at hk;have c_hA:=aA (hB.blk hA (by simp <;> omega));simp [go_sem,hk,c_hA];refine aE ?_;exact T.out.1 _)
   repeat (first|(apply aZ (hg:=rfl);case h=>(intro A w' hB hk;simp at hk;have c_hA:=aA (hB.blk hA (by simp <;> omega));have c_hC:=aA (hB.blk hC (by simp <;> omega));first|(simp [go_sem,hk,c_hA,c_hC,k1,k2] <;> rfl)|(simp [go_sem,c_hA,c_hC,k1,k2];rfl)))|(refine aP _ ?_ (by first|exact .inl rfl|exact .inr rfl) (by rfl) (by simp [specOf,Kd.spec];rfl) ?_ rfl ?_;(first|exact Sp.is_stable _ _|exact aL (fun _=>rfl) _|exact aY (fun _=>rfl) (fun _=>rfl) _)))
   refine aN (iW r) (aY (fun _=>rfl) (fun _=>rfl) _) rfl (fun A w' hB hk=>?_) ?_;(simp at hk;have c_hA:=aA (hB.blk hA (by simp <;> omega));simp [go_sem,hk,c_hA];refine aE ?_;exact T.out.2.1 _)
   refine aN (iW (p*r)) (aY (fun _=>rfl) (fun _=>rfl) _) rfl (fun A w' hB hk=>?_) ?_;(simp at hk;have c_hA:=aA (hB.blk hA (by simp <;> omega));simp [go_sem,hk,c_hA];refine aE ?_;exact T.out.2.2 _ _ (Nb.ext (K:=Kn) (fun _=>rfl) (fun _=>rfl) H.out.1 (hB.extT hR (by simp [hotObj,Kn]))) hk.2)
   refine fE (w.heap.size+1+1) (_) (zW (p*r)) (dY (fun _=>rfl) (fun _=>rfl) _) rfl rfl (by simp) (by assumption) (by simp [hotObj,Ku,Kn]) (fun A w' hB hk h0=>?_) ?_;(simp at hk;have c_hA:=aA (hB.blk hA (by simp <;> omega));have c0:=aA h0;have f0:=aW h0;obtain ⟨k1,k2⟩:=hk;obtain ⟨y1,y2,y3,e1⟩:=(show Nb _ _ _ from k2).form;rw [e1] at k2;simp [go_sem,k1,e1,c0,f0];exact ⟨_,dG h0 _ _ _,_,_,_,rfl,k2⟩)
   refine ⟨by first|rfl|decide,fun f w2 hB hF hAp=>?_⟩;simp [Final1,Sp.is,isVar] at hF;simp only [frameOf]
   obtain ⟨o,⟨y1,y2,y3,rfl,k3⟩,ho⟩:=hF.1
   obtain ⟨⟨r0,r1,r2⟩,_⟩:=cK ho
   have K:=aH (aI k3 hB)
   clear k3 hB ho hA hC hR hAp hF
   go_wp2
   refine bodyPost_ret (v := .agg #[.int .i64 y1,.int .i64 y2,.pointer y3]) (by simp [results,Tryz.results42,go_sem,r0,r1,r2,Act.put]) rfl ⟨_,rfl,K.out.1,?_⟩
   exact Base.belowT K.out.2 H.out.2.1 (by omega)
  ·rw [if_neg hneg] at hf1
   have t2:∀ w',Calls Tryz.prog 117 #[.int .i64 k,.int .i64 m] w' (TyPost w' (iW r)):=fun w' =>
    (sT k m w' (by omega) (by omega)).mono fun _ _ ⟨y1,y2⟩=>⟨_,y1,y2,.inl ⟨hsr,by
     have:((r.den:Nat):Int)=m:=by rw [f2];omega
     rw [fD,hf1,this]⟩⟩
   have H:=aH (aI (h.below hb1) (aI hb1 (aI hk1 (aI hk2 hk3))))
   have T:=aH (aI t1 (aI t2 hx))
   clear t1 t2 hx h hb1 hk1 hk2 hk3 hf1 f2 hsr mn1 mn2 md1 md2 hz hp
   go_enter Tryz.func42,Tryz.ntmps42
   go_wp2
   generalize ((w.alloc (.cells #[.int .i64 n1,.int .i64 d1,.pointer a1] 68)).alloc (.cells #[.int .i64 m,.int .i64 (k-1),.pointer none] 68)).alloc (.cells #[.int .i64 0,.int .i64 0,.pointer none] 68)=w1 at *
   have hA:=H.out.2.2.1
   have hC:=H.out.2.2.2.1
   have hR:=H.out.2.2.2.2
   refine wp_region_ty Kn [w.heap.size+1+1] (by kernel_rfl) (by kernel_rfl) ?_
   repeat (first|(apply aZ (hg:=rfl);case h=>(intro A w' hB hk;simp at hk;have c_hA:=aA (hB.blk hA (by simp <;> omega));have c_hC:=aA (hB.blk hC (by simp <;> omega));first|(simp [go_sem,hk,c_hA,c_hC] <;> rfl)|(simp [go_sem,c_hA,c_hC];rfl)))|(refine aP _ ?_ (by first|exact .inl rfl|exact .inr rfl) (by rfl) (by simp [specOf,Kd.spec];rfl) ?_ rfl ?_;(first|exact Sp.is_stable _ _|exact aL (fun _=>rfl) _|exact aY (fun _=>rfl) (fun _=>rfl) _)))
   refine aN (Sp.is (.int .i64 k)) (Sp.is_stable _ _) rfl (fun A w' hB hk=>?_) ?_;(simp at hk;have c_hA:=aA (hB.blk hA (by simp <;> omega));simp [go_sem,hk,c_hA];refine aE ?_;exact T.out.1 _)
   repeat (first|(apply aZ (hg:=rfl);case h=>(intro A w' hB hk;simp at hk;have c_hA:=aA (hB.blk hA (by simp <;> omega));have c_hC:=aA (hB.blk hC (by simp <;> omega));first|(simp [go_sem,hk,c_hA,c_hC,k1,k2] <;> rfl)|(simp [go_sem,c_hA,c_hC,k1,k2];rfl)))|(refine aP _ ?_ (by first|exact .inl rfl|exact .inr rfl) (by rfl) (by simp [specOf,Kd.spec];rfl) ?_ rfl ?_;(first|exact Sp.is_stable _ _|exact aL (fun _=>rfl) _|exact aY (fun _=>rfl) (fun _=>rfl) _)))
   refine aN (iW r) (aY (fun _=>rfl) (fun _=>rfl) _) rfl (fun A w' hB hk=>?_) ?_;(simp at hk;have c_hA:=aA (hB.blk hA (by simp <;> omega));simp [go_sem,hk,c_hA];refine aE ?_;exact T.out.2.1 _)
   refine aN (iW (p*r)) (aY (fun _=>rfl) (fun _=>rfl) _) rfl (fun A w' hB hk=>?_) ?_;(simp at hk;have c_hA:=aA (hB.blk hA (by simp <;> omega));simp [go_sem,hk,c_hA];refine aE ?_;exact T.out.2.2 _ _ (Nb.ext (K:=Kn) (fun _=>rfl) (fun _=>rfl) H.out.1 (hB.extT hR (by simp [hotObj,Kn]))) hk.2)
   refine fE (w.heap.size+1+1) (_) (zW (p*r)) (dY (fun _=>rfl) (fun _=>rfl) _) rfl rfl (by simp) (by assumption) (by simp [hotObj,Ku,Kn]) (fun A w' hB hk h0=>?_) ?_;(simp at hk;have c_hA:=aA (hB.blk hA (by simp <;> omega));have c0:=aA h0;have f0:=aW h0;obtain ⟨k1,k2⟩:=hk;obtain ⟨y1,y2,y3,e1⟩:=(show Nb _ _ _ from k2).form;rw [e1] at k2;simp [go_sem,k1,e1,c0,f0];exact ⟨_,dG h0 _ _ _,_,_,_,rfl,k2⟩)
   refine ⟨by first|rfl|decide,fun f w2 hB hF hAp=>?_⟩;simp [Final1,Sp.is,isVar] at hF;simp only [frameOf]
   obtain ⟨o,⟨y1,y2,y3,rfl,k3⟩,ho⟩:=hF.1
   obtain ⟨⟨r0,r1,r2⟩,_⟩:=cK ho
   have K:=aH (aI k3 hB)
   clear k3 hB ho hA hC hR hAp hF
   go_wp2
   refine bodyPost_ret (v := .agg #[.int .i64 y1,.int .i64 y2,.pointer y3]) (by simp [results,Tryz.results42,go_sem,r0,r1,r2,Act.put]) rfl ⟨_,rfl,K.out.1,?_⟩
   exact Base.belowT K.out.2 H.out.2.1 (by omega)
 ·clear hz f1 f2 hsi h0 hq
  obtain ⟨A1,m1,c1,rfl⟩:=g1.form
  obtain ⟨A2,m2,c2,rfl⟩:=g2.form
  obtain ⟨neg,hneg⟩:∃ neg,decide (q.num<0)=neg:=⟨_,rfl⟩
  rw [hneg] at hk
  obtain ⟨hk1,hk2,hk3,hb1⟩:=eA w (.cells #[.int .i64 n1,.int .i64 d1,.pointer a1] 68) (.cells #[.int .i64 0,.int .i64 0,.pointer (some ⟨g,0,none⟩)] 68) (.cells #[.int .i64 0,.int .i64 0,.pointer none] 68)
  have hfr:Fr w (.agg #[.bool neg,.slice A1 m1 c1,.slice A2 m2 c2]) q:=⟨_,_,by rw [hneg],g1,g2⟩
  have hG1:=aJ hb1 hk
  have H:=aH (aI (h.below hb1) (aI hb1 (aI hk1 (aI hk2 (aI hk3 (aI hG1 (hfr.below hb1)))))))
  have t1:∀ w' x,Fr w' x r→Calls Tryz.prog 66 #[x] w' (TyPost w' (iW r)):=fun w' x hx=>GivesNb.ty (eC x _ w' hx)
  have T:=aH (aI hin (aI t1 hx))
  have hlt:=lt_of_block hk
  clear t1 hin hx hk h hb1 hk1 hk2 hk3 hG1 hfr g1 g2 hneg hp hs
  go_enter Tryz.func42,Tryz.ntmps42
  go_wp2
  generalize ((w.alloc (.cells #[.int .i64 n1,.int .i64 d1,.pointer a1] 68)).alloc (.cells #[.int .i64 0,.int .i64 0,.pointer (some ⟨g,0,none⟩)] 68)).alloc (.cells #[.int .i64 0,.int .i64 0,.pointer none] 68)=w1 at *
  have hA:=H.out.2.2.1
  have hC:=H.out.2.2.2.1
  have hR:=H.out.2.2.2.2.1
  have hG:=H.out.2.2.2.2.2.1
  refine wp_region_ty Kn [w.heap.size+1+1] (by kernel_rfl) (by kernel_rfl) ?_
  repeat (first|(apply aZ (hg:=rfl);case h=>(intro A w' hB hk;simp at hk;have c_hA:=aA (hB.blk hA (by simp <;> omega));have c_hC:=aA (hB.blk hC (by simp <;> omega));have c_hG:=aA (hB.blk hG (by simp <;> omega));first|(simp [go_sem,hk,c_hA,c_hC,c_hG] <;> rfl)|(simp [go_sem,c_hA,c_hC,c_hG];rfl)))|(refine aP _ ?_ (by first|exact .inl rfl|exact .inr rfl) (by rfl) (by simp [specOf,Kd.spec];rfl) ?_ rfl ?_;(first|exact Sp.is_stable _ _|exact aL (fun _=>rfl) _|exact aY (fun _=>rfl) (fun _=>rfl) _)))
  refine aN (dD r) (aL (fun _=>rfl) _) rfl (fun A w' hB hk=>?_) ?_;(simp at hk;have c_hA:=aA (hB.blk hA (by simp <;> omega));simp [go_sem,hk,c_hA];refine aE ?_;exact T.out.1 _ _ (Fr.ext (K:=Kn) (fun _=>rfl) H.out.2.2.2.2.2.2 (hB.extT hR (by simp [hotObj,Kn]))))
  refine aN (iW r) (aY (fun _=>rfl) (fun _=>rfl) _) rfl (fun A w' hB hk=>?_) ?_;(simp at hk;have c_hA:=aA (hB.blk hA (by simp <;> omega));simp [go_sem,hk,c_hA];refine aE ?_;exact T.out.2.1 _ _ hk)
  refine aN (iW (p*r)) (aY (fun _=>rfl) (fun _=>rfl) _) rfl (fun A w' hB hk=>?_) ?_;(simp at hk;have c_hA:=aA (hB.blk hA (by simp <;> omega));simp [go_sem,hk,c_hA];refine aE ?_;exact T.out.2.2 _ _ (Nb.ext (K:=Kn) (fun _=>rfl) (fun _=>rfl) H.out.1 (hB.extT hR (by simp [hotObj,Kn]))) hk.2)
  refine fE (w.heap.size+1+1) (_) (zW (p*r)) (dY (fun _=>rfl) (fun _=>rfl) _) rfl rfl (by simp) (by assumption) (by simp [hotObj,Ku,Kn]) (fun A w' hB hk h0=>?_) ?_;(simp at hk;have c_hA:=aA (hB.blk hA (by simp <;> omega));have c0:=aA h0;have f0:=aW h0;obtain ⟨k1,k2⟩:=hk;obtain ⟨y1,y2,y3,e1⟩:=(show Nb _ _ _ from k2).form;rw [e1] at k2;simp [go_sem,k1,e1,c0,f0];exact ⟨_,dG h0 _ _ _,_,_,_,rfl,k2⟩)
  refine ⟨by first|rfl|decide,fun f w2 hB hF hAp=>?_⟩;simp [Final1,Sp.is,isVar] at hF;simp only [frameOf]
  obtain ⟨o,⟨y1,y2,y3,rfl,k3⟩,ho⟩:=hF.1
  obtain ⟨⟨r0,r1,r2⟩,_⟩:=cK ho
  have K:=aH (aI k3 hB)
  clear k3 hB ho hA hC hR hAp hF
  go_wp2
  refine bodyPost_ret (v := .agg #[.int .i64 y1,.int .i64 y2,.pointer y3]) (by simp [results,Tryz.results42,go_sem,r0,r1,r2,Act.put]) rfl ⟨_,rfl,K.out.1,?_⟩
  exact Base.belowT K.out.2 H.out.2.1 (by omega)
end
section
open Go.RowKit Pl
set_option maxRecDepth 100000 in
theorem integer_any (z:Int) (w:World) (h1:-9223372036854775808≤z) (h2:z≤9223372036854775807):Calls Tryz.prog 83 #[.int .i64 z] w (GivesNb w (z:Rat)):=by
 have hb1:Below w.heap.size w (w.alloc (.cells #[.int .i64 0,.int .i64 0,.pointer none] 68)):=(aB _ _).alloc (aR _) _
 by_cases hz:z = -9223372036854775808
 ·subst hz
  have n1:∀ w',Calls Tryz.prog 155 #[.int .u64 9223372036854775808] w' (GivesNt w' 9223372036854775808):=fun w'=>bG 9223372036854775808 (by rw [aM];decide) w'
  have n2:∀ w',Calls Tryz.prog 155 #[.int .u64 1] w' (GivesNt w' 1):=fun w'=>bG 1 (by rw [aM];decide) w'
  obtain ⟨q,hq⟩:∃ q:Rat,q=((-9223372036854775808:Int):Rat):=⟨_,rfl⟩
  have hfr:∀ w' s1 s2,Nt w' s1 9223372036854775808→Nt w' s2 1→Fr w' (.agg #[.bool true,s1,s2]) q:=fun w' s1 s2 k1 k2=>by
   subst hq
   exact ⟨s1,s2,by rw [Rat.num_intCast];rfl,by rw [Rat.num_intCast];exact k1,by rw [Rat.den_intCast];exact k2⟩
  rw [← hq]
  clear hq
  have hk0:(w.alloc (.cells #[.int .i64 0,.int .i64 0,.pointer none] 68)).heap[w.heap.size]?=some (.cells #[.int .i64 0,.int .i64 0,.pointer none] 68):=heap_alloc_new w _
  have H:=aH (aI n1 (aI n2 (aI hfr (aI hb1 hk0))))
  clear n1 n2 hfr hb1 hk0
  go_enter Tryz.func83,Tryz.ntmps83
  go_wp2_with fail
  refine (H.out.1 _).mono ?_
  rintro e w2 ⟨v2,rfl,q2,b2⟩
  obtain ⟨A1,m1,c1,rfl⟩:=q2.form
  have Q2:=aH (aI q2 b2)
  clear q2 b2
  go_wp2_with fail
  refine (H.out.2.1 _).mono ?_
  rintro e w3 ⟨v3,rfl,q3,b3⟩
  obtain ⟨A2,m2,c2,rfl⟩:=q3.form
  have Q3:=aH (aI (H.out.2.2.1 _ _ _ (Q2.out.1.below b3) q3) (Below.step_trans Q2.out.2 b3))
  clear q3 b3 Q2
  go_wp2_with fail
  refine (eC _ _ _ Q3.out.1).mono ?_
  rintro e w4 ⟨v4,rfl,q4,b4⟩
  obtain ⟨n,d,p,rfl⟩:=q4.form
  have hb4:=Below.step_trans Q3.out.2 b4
  have hk:=aJ hb4 H.out.2.2.2.2
  obtain ⟨⟨h0,h1,h2⟩,f0,f1,f2⟩:=cK hk
  have Q4:=aH (aI q4 (aI hb4 hk))
  clear q4 b4 hk hb4 Q3
  go_wp2
  refine bodyPost_ret (v := .agg #[.int .i64 n,.int .i64 d,.pointer p]) (by simp [results,Tryz.results83,go_sem,h0,h1,h2]) rfl ⟨_,rfl,?_,?_⟩
  ·exact Nb.ext (K:=Kn) (fun _=>rfl) (fun _=>rfl) Q4.out.1 (Ext.only (nT _ _ _ _ _) Q4.out.2.2 (by simp [hotObj,Kn]))
  ·repeat (first|exact (Below.step_trans H.out.2.2.2.1 Q4.out.2.1)|(refine Below.setCell ?_ (by first|omega|(simp <;> omega)) _)|(refine Below.alloc ?_ (by first|omega|(simp <;> omega)) _)|(refine Below.drew ?_)|exact aB _ _)
 ·have hnb:∀ w',Nb w' (.agg #[.int .i64 z,.int .i64 0,.pointer none]) (z:Rat):=fun w' => .inl ⟨⟨by rw [Rat.num_intCast,eB];omega,by rw [Rat.den_intCast,eB];omega⟩,by rw [fD,Rat.num_intCast,Rat.den_intCast];rfl⟩
  have H:=aH hnb
  clear hnb hb1
  go_enter Tryz.func83,Tryz.ntmps83
  go_wp2
  refine bodyPost_ret (v := .agg #[.int .i64 z,.int .i64 0,.pointer none]) (by simp [results,Tryz.results83,go_sem]) rfl ⟨_,rfl,H.out _,?_⟩
  repeat (first|exact aB _ _|(refine Below.setCell ?_ (by first|omega|(simp <;> omega)) _)|(refine Below.alloc ?_ (by first|omega|(simp <;> omega)) _)|(refine Below.drew ?_)|exact aB _ _)
attribute [local simp] known specOf Kd.spec Sp.is isVar Oper.looksAt Op.operands Call.operands Act.eval
theorem cmpR_den {p q:Rat} (h:p.den=q.den):bE p.num q.num=dU p q:=by
 have hd:=q.den_pos
 unfold bE dU
 have h1:∀ a b:Int,a*(q.den:Int)<b*(q.den:Int)↔a<b:=fun a b=>Int.mul_lt_mul_right (by omega)
 simp only [Rat.lt_iff,h,h1]
theorem cmpR_sgn {p q:Rat} (h:eF p≠eF q):bE p.num q.num=dU p q:=by
 have hd:=q.den_pos
 have hd':=p.den_pos
 unfold eF bE at h
 unfold bE dU
 simp only [Rat.lt_iff]
 generalize p.num=a at *
 generalize q.num=b at *
 have hx:(0:Int)<(p.den:Int):=by omega
 have hy:(0:Int)<(q.den:Int):=by omega
 generalize (p.den:Int)=x at *
 generalize (q.den:Int)=y at *
 have s1:a<0→a*y<0:=fun k=>Int.mul_neg_of_neg_of_pos k hy
 have s2:0<a→0<a*y:=fun k=>Int.mul_pos k hy
 have s3:a=0→a*y=0:=fun k=>by rw [k,Int.zero_mul]
 have r1:b<0→b*x<0:=fun k=>Int.mul_neg_of_neg_of_pos k hx
 have r2:0<b→0<b*x:=fun k=>Int.mul_pos k hx
 have r3:b=0→b*x=0:=fun k=>by rw [k,Int.zero_mul]
 generalize a*y=u at *
 generalize b*x=v at *
 rcases Int.lt_trichotomy a 0 with k|k|k <;> rcases Int.lt_trichotomy b 0 with l|l|l <;> (first|(have:=s1 k)|(have:=s3 k)|(have:=s2 k)) <;> (first|(have:=r1 l)|(have:=r3 l)|(have:=r2 l)) <;> (repeat' split) <;> first|rfl|omega|(exfalso;apply h;(repeat' split) <;> first|rfl|omega)
set_option maxRecDepth 100000 in
set_option maxHeartbeats 8000000 in
theorem xS (v v' : Value) (p q:Rat) (w:World) (h:Nb w v p) (h' : Nb w v' q) (hp:Lf 38 p) (hq:Lf 38 q) (hs:¬ (Sm p∧Sm q)):Calls Tryz.prog 44 #[v,v'] w (Gives w (.int .i64 (dU p q))):=by
 obtain ⟨n1,d1,a1,rfl⟩:=h.form
 obtain ⟨n2,d2,a2,rfl⟩:=h'.form
 obtain ⟨hk1,hk2,hb1⟩:=jV w (.cells #[.int .i64 n1,.int .i64 d1,.pointer a1] 68) (.cells #[.int .i64 n2,.int .i64 d2,.pointer a2] 68)
 have ha:∀ w',Below w.heap.size w w'→Calls Tryz.prog 105 #[.agg #[.int .i64 n1,.int .i64 d1,.pointer a1],.agg #[.int .i64 n2,.int .i64 d2,.pointer a2]] w' (Gives w' (.bool false)):=fun w' hb=>nW _ _ p q w' (h.below hb) (h'.below hb) hs
 have H:=aH (aI h (aI h' (aI hp (aI hq (aI hb1 (aI hk1 (aI hk2 ha)))))))
 clear h h' hp hq hs hb1 hk1 hk2 ha
 go_enter Tryz.func44,Tryz.ntmps44
 go_wp2_with fail
 refine (H.out.2.2.2.2.2.2.2 _ H.out.2.2.2.2.1).mono ?_
 rintro e w2 ⟨rfl,b2⟩
 have B2:=aH (aI (Below.step_trans H.out.2.2.2.2.1 b2) (aI (aJ b2 H.out.2.2.2.2.2.1) (aJ b2 H.out.2.2.2.2.2.2.1)))
 clear b2
 go_wp2
 have hA:=B2.out.2.1
 have hC:=B2.out.2.2
 have t1:∀ w',Base [] w2 w'→Calls Tryz.prog 107 #[.agg #[.int .i64 n1,.int .i64 d1,.pointer a1]] w' (TyPost w' (dD p)):=fun w' hB =>
  GivesFr.ty (bJ _ _ _ (H.out.1.below (Below.step_trans B2.out.1 hB.below)))
 have t2:∀ w',Base [] w2 w'→Calls Tryz.prog 107 #[.agg #[.int .i64 n2,.int .i64 d2,.pointer a2]] w' (TyPost w' (dD q)):=fun w' hB =>
  GivesFr.ty (bJ _ _ _ (H.out.2.1.below (Below.step_trans B2.out.1 hB.below)))
 have t3:∀ w' x y,Fr w' x p→Fr w' y q→Calls Tryz.prog 122 #[x,y] w' (TyPost w' (Sp.is (.int .i64 (dU p q)))):=fun w' x y hx hy=>Gives.ty (fraCmp_any x y p q w' hx hy H.out.2.2.1 H.out.2.2.2.1)
 have T:=aH (aI t1 (aI t2 t3))
 clear t1 t2 t3
 refine wp_region_ty Kn [] (by kernel_rfl) (by kernel_rfl) ?_
 repeat (first|(apply aZ (hg:=rfl);case h=>(intro A w' hB hk;simp at hk;have c_hA:=aA (hB.blk hA (by simp <;> omega));have c_hC:=aA (hB.blk hC (by simp <;> omega));first|(simp [go_sem,hk,c_hA,c_hC] <;> rfl)|(simp [go_sem,c_hA,c_hC];rfl)))|(refine aP _ ?_ (by first|exact .inl rfl|exact .inr rfl) (by rfl) (by simp [specOf,Kd.spec];rfl) ?_ rfl ?_;(first|exact Sp.is_stable _ _|exact aL (fun _=>rfl) _)))
 refine aN (dD p) (aL (fun _=>rfl) _) rfl (fun A w' hB hk=>?_) ?_;(simp at hk;have c_hA:=aA (hB.blk hA (by simp <;> omega));simp [go_sem,hk,c_hA];refine aE ?_;exact T.out.1 _ hB)
 repeat (first|(apply aZ (hg:=rfl);case h=>(intro A w' hB hk;simp at hk;have c_hA:=aA (hB.blk hA (by simp <;> omega));have c_hC:=aA (hB.blk hC (by simp <;> omega));first|(simp [go_sem,hk,c_hA,c_hC] <;> rfl)|(simp [go_sem,c_hA,c_hC];rfl)))|(refine aP _ ?_ (by first|exact .inl rfl|exact .inr rfl) (by rfl) (by simp [specOf,Kd.spec];rfl) ?_ rfl ?_;(first|exact Sp.is_stable _ _|exact aL (fun _=>rfl) _)))
 refine aN (dD q) (aL (fun _=>rfl) _) rfl (fun A w' hB hk=>?_) ?_;(simp at hk;have c_hA:=aA (hB.blk hA (by simp <;> omega));simp [go_sem,hk,c_hA];refine aE ?_;exact T.out.2.1 _ hB)
 refine aN (Sp.is (.int .i64 (dU p q))) (Sp.is_stable _ _) rfl (fun A w' hB hk=>?_) ?_;(simp at hk;have c_hA:=aA (hB.blk hA (by simp <;> omega));simp [go_sem,hk,c_hA];refine aE ?_;exact T.out.2.2 _ _ _ hk.1 hk.2)
 repeat (first|(apply aZ (hg:=rfl);case h=>(intro A w' hB hk;simp at hk;have c_hA:=aA (hB.blk hA (by simp <;> omega));first|(simp [go_sem,hk,c_hA] <;> rfl)|(simp [go_sem,c_hA];rfl)))|(refine aP _ ?_ (by first|exact .inl rfl|exact .inr rfl) (by rfl) (by simp [specOf,Kd.spec];rfl) ?_ rfl ?_;(first|exact Sp.is_stable _ _|exact aL (fun _=>rfl) _)))
 refine ⟨by first|rfl|decide,fun f w2 hB hF hAp=>?_⟩;simp [Final1,Sp.is,isVar] at hF;simp only [frameOf]
 have HB:=aH (Below.step_trans B2.out.1 hB.below)
 have e4:=hF.1
 clear hB hAp hA hC hF
 go_wp2
 go_ret
 refine ⟨?_,HB.out⟩
 simp [Act.put,e4]
set_option maxRecDepth 100000 in
set_option maxHeartbeats 8000000 in
theorem compare_den (p q:Rat) (w:World) (hp:Sm p) (hq:Sm q) (hd:p.den=q.den):Calls Tryz.prog 44 #[fD p.num p.den,fD q.num q.den] w (Gives w (.int .i64 (dU p q))):=by
 have ha:∀ w',Calls Tryz.prog 105 #[fD p.num p.den,fD q.num q.den] w' (Gives w' (.bool true)):=fun w'=>gG _ _ p q w' hp hq rfl rfl
 rw [← cmpR_den hd]
 rw [← hd] at ha ⊢
 unfold fD at ha ⊢
 generalize p.num=n1 at *
 generalize q.num=n2 at *
 obtain ⟨d,hd0⟩:∃ d:Int,d=(p.den:Int)-1:=⟨_,rfl⟩
 rw [← hd0] at ha ⊢
 clear hd hp hq hd0
 obtain ⟨hk1,hk2,hb1⟩:=jV w (.cells #[.int .i64 n1,.int .i64 d,.pointer none] 68) (.cells #[.int .i64 n2,.int .i64 d,.pointer none] 68)
 have H:=aH (aI hb1 (aI hk1 (aI hk2 ha)))
 clear hb1 hk1 hk2 ha
 go_enter Tryz.func44,Tryz.ntmps44
 go_wp2_with fail
 refine (H.out.2.2.2 _).mono ?_
 rintro e w2 ⟨rfl,b2⟩
 have B2:=aH (aI (Below.step_trans H.out.1 b2) (aI (aJ b2 H.out.2.1) (aJ b2 H.out.2.2.1)))
 clear b2
 go_wp2
 have hA:=B2.out.2.1
 have hC:=B2.out.2.2
 refine wp_region_ty Kn [] (by kernel_rfl) (by kernel_rfl) ?_
 repeat (first|(apply aZ (hg:=rfl);case h=>(intro A w' hB hk;simp at hk;have c_hA:=aA (hB.blk hA (by simp <;> omega));have c_hC:=aA (hB.blk hC (by simp <;> omega));first|(simp [go_sem,hk,c_hA,c_hC] <;> rfl)|(simp [go_sem,c_hA,c_hC];rfl)))|(refine aP _ ?_ (by first|exact .inl rfl|exact .inr rfl) (by rfl) (by simp [specOf,Kd.spec];rfl) ?_ rfl ?_;(first|exact Sp.is_stable _ _|exact aL (fun _=>rfl) _)))
 repeat (refine ty_skip 25 rfl rfl rfl (by first|rfl|(simp [specOf,Kd.spec];done)|(simp [specOf,Kd.spec];rfl)) ?_)
 repeat (first|(apply aZ (hg:=rfl);case h=>(intro A w' hB hk;simp at hk;have c_hA:=aA (hB.blk hA (by simp <;> omega));have c_hC:=aA (hB.blk hC (by simp <;> omega));first|(simp [go_sem,hk,c_hA,c_hC] <;> rfl)|(simp [go_sem,c_hA,c_hC];rfl)))|(refine aP _ ?_ (by first|exact .inl rfl|exact .inr rfl) (by rfl) (by simp [specOf,Kd.spec];rfl) ?_ rfl ?_;(first|exact Sp.is_stable _ _|exact aL (fun _=>rfl) _)))
 refine ⟨by first|rfl|decide,fun f w2 hB hF hAp=>?_⟩;simp [Final1,Sp.is,isVar] at hF;simp only [frameOf,Act.put,List.setIfInBounds_toArray,List.set_cons_succ,List.set_cons_zero,hF]
 have HB:=aH (Below.step_trans B2.out.1 hB.below)
 have g1:=aJ hB.below hA
 have g2:=aJ hB.below hC
 obtain ⟨⟨x0,x1,x2⟩,_⟩:=cK g1
 obtain ⟨⟨y0,y1,y2⟩,_⟩:=cK g2
 clear hB hAp hA hC hF g1 g2
 go_wp2_with (go_at_call 123;refine (mO _ _ _).mono ?_;rintro e w' ⟨rfl,rfl⟩)
 go_ret
 refine ⟨?_,HB.out⟩
 simp [Act.put]
set_option maxRecDepth 100000 in
set_option maxHeartbeats 8000000 in
theorem compare_sgn (p q:Rat) (w:World) (hp:Sm p) (hq:Sm q) (hd:p.den≠q.den) (hs:eF p≠eF q):Calls Tryz.prog 44 #[fD p.num p.den,fD q.num q.den] w (Gives w (.int .i64 (dU p q))):=by
 have ha:∀ w',Calls Tryz.prog 105 #[fD p.num p.den,fD q.num q.den] w' (Gives w' (.bool true)):=fun w'=>gG _ _ p q w' hp hq rfl rfl
 have t1:∀ w',Calls Tryz.prog 102 #[fD p.num p.den] w' (TyPost w' (Sp.is (.int .i64 (eF p)))):=fun w'=>Gives.ty (oR _ p w' (.inl ⟨hp,rfl⟩))
 have t2:∀ w',Calls Tryz.prog 102 #[fD q.num q.den] w' (TyPost w' (Sp.is (.int .i64 (eF q)))):=fun w'=>Gives.ty (oR _ q w' (.inl ⟨hq,rfl⟩))
 rw [← cmpR_sgn hs]
 unfold fD at ha t1 t2 ⊢
 generalize eF p=s1 at *
 generalize eF q=s2 at *
 generalize p.num=n1 at *
 generalize q.num=n2 at *
 have hne:¬ (p.den:Int)-1=(q.den:Int)-1:=by omega
 obtain ⟨d1,hd1⟩:∃ d:Int,d=(p.den:Int)-1:=⟨_,rfl⟩
 obtain ⟨d2,hd2⟩:∃ d:Int,d=(q.den:Int)-1:=⟨_,rfl⟩
 rw [← hd1] at ha t1 hne ⊢
 rw [← hd2] at ha t2 hne ⊢
 clear hd hp hq hd1 hd2
 obtain ⟨hk1,hk2,hb1⟩:=jV w (.cells #[.int .i64 n1,.int .i64 d1,.pointer none] 68) (.cells #[.int .i64 n2,.int .i64 d2,.pointer none] 68)
 have H:=aH (aI hb1 (aI hk1 (aI hk2 ha)))
 have T:=aH (aI t1 t2)
 clear hb1 hk1 hk2 ha t1 t2
 have HN:=aH (aI hne hs)
 clear hne hs
 go_enter Tryz.func44,Tryz.ntmps44
 go_wp2_with fail
 refine (H.out.2.2.2 _).mono ?_
 rintro e w2 ⟨rfl,b2⟩
 have B2:=aH (aI (Below.step_trans H.out.1 b2) (aI (aJ b2 H.out.2.1) (aJ b2 H.out.2.2.1)))
 clear b2
 go_wp2
 have hA:=B2.out.2.1
 have hC:=B2.out.2.2
 have z1:(d1==d2)=false:=by simpa using HN.out.1
 have z2:(s1 != s2)=true:=by simpa using HN.out.2
 refine wp_region_ty Kn [] (by kernel_rfl) (by kernel_rfl) ?_
 repeat (first|(apply aZ (hg:=rfl);case h=>(intro A w' hB hk;simp at hk;have c_hA:=aA (hB.blk hA (by simp <;> omega));have c_hC:=aA (hB.blk hC (by simp <;> omega));first|(simp [go_sem,hk,c_hA,c_hC,z1] <;> rfl)|(simp [go_sem,c_hA,c_hC,z1];rfl)))|(refine aP _ ?_ (by first|exact .inl rfl|exact .inr rfl) (by rfl) (by simp [specOf,Kd.spec];rfl) ?_ rfl ?_;(first|exact Sp.is_stable _ _|exact aL (fun _=>rfl) _)))
 repeat (apply sI 25 (hg:=rfl) (hd:=rfl) (hs:=(by first|rfl|(simp [specOf,Kd.spec];done)|(simp [specOf,Kd.spec];rfl)));case h=>(intro A w' hB hk;simp at hk;have c_hA:=aA (hB.blk hA (by simp <;> omega));have c_hC:=aA (hB.blk hC (by simp <;> omega));first|(simp [go_sem,hk,c_hA,c_hC] <;> rfl)|(simp [go_sem,c_hA,c_hC];rfl)))
 refine qQ 25 (Sp.is (.int .i64 s1)) (Sp.is_stable _ _) rfl rfl (by first|rfl|(simp [specOf,Kd.spec];done)|(simp [specOf,Kd.spec];rfl)) (fun A w' hB hk=>?_) ?_;(simp at hk;have c_hA:=aA (hB.blk hA (by simp <;> omega));simp [go_sem,hk,c_hA];refine aE ?_;exact T.out.1 _)
 repeat (apply sI 25 (hg:=rfl) (hd:=rfl) (hs:=(by first|rfl|(simp [specOf,Kd.spec];done)|(simp [specOf,Kd.spec];rfl)));case h=>(intro A w' hB hk;simp at hk;have c_hA:=aA (hB.blk hA (by simp <;> omega));have c_hC:=aA (hB.blk hC (by simp <;> omega));first|(simp [go_sem,hk,c_hA,c_hC] <;> rfl)|(simp [go_sem,c_hA,c_hC];rfl)))
 refine qQ 25 (Sp.is (.int .i64 s2)) (Sp.is_stable _ _) rfl rfl (by first|rfl|(simp [specOf,Kd.spec];done)|(simp [specOf,Kd.spec];rfl)) (fun A w' hB hk=>?_) ?_;(simp at hk;have c_hA:=aA (hB.blk hA (by simp <;> omega));simp [go_sem,hk,c_hA];refine aE ?_;exact T.out.2 _)
 repeat (apply sI 25 (hg:=rfl) (hd:=rfl) (hs:=(by first|rfl|(simp [specOf,Kd.spec];done)|(simp [specOf,Kd.spec];rfl)));case h=>(intro A w' hB hk;simp at hk;have c_hA:=aA (hB.blk hA (by simp <;> omega));have c_hC:=aA (hB.blk hC (by simp <;> omega));first|(simp [go_sem,hk,c_hA,c_hC,z2] <;> rfl)|(simp [go_sem,c_hA,c_hC,z2];rfl)))
 repeat (first|(apply aZ (hg:=rfl);case h=>(intro A w' hB hk;simp at hk;have c_hA:=aA (hB.blk hA (by simp <;> omega));have c_hC:=aA (hB.blk hC (by simp <;> omega));first|(simp [go_sem,hk,c_hA,c_hC] <;> rfl)|(simp [go_sem,c_hA,c_hC];rfl)))|(refine aP _ ?_ (by first|exact .inl rfl|exact .inr rfl) (by rfl) (by simp [specOf,Kd.spec];rfl) ?_ rfl ?_;(first|exact Sp.is_stable _ _|exact aL (fun _=>rfl) _)))
 refine ⟨by first|rfl|decide,fun f w2 hB hF hAp=>?_⟩;simp [Final1,Sp.is,isVar] at hF;simp only [frameOf,Act.put,List.setIfInBounds_toArray,List.set_cons_succ,List.set_cons_zero,hF]
 have HB:=aH (Below.step_trans B2.out.1 hB.below)
 have g1:=aJ hB.below hA
 have g2:=aJ hB.below hC
 obtain ⟨⟨x0,x1,x2⟩,_⟩:=cK g1
 obtain ⟨⟨y0,y1,y2⟩,_⟩:=cK g2
 clear hB hAp hA hC hF g1 g2 z1 z2
 go_wp2_with (go_at_call 123;refine (mO _ _ _).mono ?_;rintro e w' ⟨rfl,rfl⟩)
 go_ret
 refine ⟨?_,HB.out⟩
 simp [Act.put]
end
section
open Go.RowKit Pl
def orI (x y:Int):Int:=if x=0 then y else x
theorem or_two (x y:Int) (g:Nat) (w:World) (h0:w.cell? ⟨g,0,none⟩=some (.int .i64 x)) (h1:w.cell? ⟨g,1,none⟩=some (.int .i64 y)) :
 Calls Tryz.prog 126 #[.slice (some ⟨g,0,none⟩) 2 2] w fun e w'=>e = .returned (.int .i64 (orI x y))∧w=w':=by
 by_cases hx:x=0
 ·by_cases hy:y=0
  ·subst hx
   subst hy
   go_enter Tryz.func126,Tryz.ntmps126
   go_wp2
   go_loopw [8] (fun i wr=>wr=w∧(i = .int .i64 0∨i = .int .i64 1∨i = .int .i64 2)) (fun i _=>(2-intOf i).toNat)
   case atStart=>exact ⟨rfl,.inl rfl⟩
   case round =>
    obtain ⟨rfl,rfl|rfl|rfl⟩:=hrel
    ·go_wp2
     go_roundw
     case rel=>exact ⟨trivial,.inr (.inl rfl)⟩
     case measure=>simp [intOf]
    ·go_wp2
     go_roundw
     case rel=>exact ⟨trivial,.inr (.inr rfl)⟩
     case measure=>simp [intOf]
    ·go_wp2
     go_ret
     exact ⟨bM (by simp [orI]),rfl⟩
  ·subst hx
   have ht:(y != 0)=true:=by simpa using hy
   have hr:=aH (show orI 0 y=y by simp [orI])
   go_enter Tryz.func126,Tryz.ntmps126
   go_wp2
   go_loopw [8] (fun i wr=>wr=w∧(i = .int .i64 0∨i = .int .i64 1)) (fun i _=>(2-intOf i).toNat)
   case atStart=>exact ⟨rfl,.inl rfl⟩
   case round =>
    obtain ⟨rfl,rfl|rfl⟩:=hrel
    ·go_wp2
     go_roundw
     case rel=>exact ⟨trivial,.inr rfl⟩
     case measure=>simp [intOf]
    ·go_wp2
     go_ret
     exact ⟨bM hr.out.symm,rfl⟩
 ·have ht:(x != 0)=true:=by simpa using hx
  have hr:=aH (show orI x y=x by simp [orI,hx])
  go_enter Tryz.func126,Tryz.ntmps126
  go_wp2
  go_loopw [8] (fun i wr=>wr=w∧i = .int .i64 0) (fun i _=>(2-intOf i).toNat)
  case atStart=>exact ⟨rfl,rfl⟩
  case round =>
   obtain ⟨rfl,rfl⟩:=hrel
   go_wp2
   go_ret
   exact ⟨bM hr.out.symm,rfl⟩
theorem cmpI_flip (a b:Int):bE b a = -1*bE a b:=by
 unfold bE
 (repeat' split) <;> omega
theorem or_words (a b:Nat):orI (bE ((a/aD:Nat):Int) ((b/aD:Nat):Int)) (bE ((a%aD:Nat):Int) ((b%aD:Nat):Int))=bE (a:Int) (b:Int):=by
 have ea:=Nat.div_add_mod a aD
 have eb:=Nat.div_add_mod b aD
 have h1:a/aD<b/aD→a<b:=fun h=>Nat.lt_of_div_lt_div h
 have h2:b/aD<a/aD→b<a:=fun h=>Nat.lt_of_div_lt_div h
 have h3:a/aD=b/aD→(a<b↔a%aD<b%aD)∧(b<a↔b%aD<a%aD):=fun h=>by
  rw [h] at ea
  generalize aD*(b/aD)=u at *
  omega
 clear ea eb
 generalize a/aD=x at *
 generalize b/aD=y at *
 generalize a%aD=x' at *
 generalize b%aD=y' at *
 unfold orI bE
 rcases Nat.lt_trichotomy x y with h|h|h
 ·have:=h1 h;(repeat' split) <;> omega
 ·have:=h3 h;(repeat' split) <;> omega
 ·have:=h2 h;(repeat' split) <;> omega
theorem cmpR_same {p q:Rat} (h:eF p=eF q):eF p*bE ((p.num.natAbs*q.den:Nat):Int) ((q.num.natAbs*p.den:Nat):Int)=dU p q:=by
 rcases Int.lt_trichotomy p.num 0 with k|k|k
 ·have e:eF p = -1:=by unfold eF bE;rw [if_pos k]
  have l:q.num<0:=by rw [e] at h;unfold eF bE at h;revert h;(repeat' split) <;> omega
  rw [e,← cmpR_neg]
  rw [vU (p := -q) (q := -p) (by rw [Rat.neg_num];omega) (by rw [Rat.neg_num];omega)]
  rw [Rat.neg_num,Rat.neg_num,Int.natAbs_neg,Int.natAbs_neg,Rat.neg_den,Rat.neg_den]
  exact (cmpI_flip _ _).symm
 ·have e:eF p=0:=by unfold eF bE;rw [if_neg (by omega),if_neg (by omega)]
  have l:q.num=0:=by rw [e] at h;unfold eF bE at h;revert h;(repeat' split) <;> omega
  rw [e,Int.zero_mul,Rat.num_eq_zero.1 k,Rat.num_eq_zero.1 l]
  unfold dU
  simp
 ·have e:eF p=1:=by unfold eF bE;rw [if_neg (by omega),if_pos k]
  have l:0<q.num:=by rw [e] at h;unfold eF bE at h;revert h;(repeat' split) <;> omega
  rw [e,Int.one_mul]
  exact (vU (by omega) (by omega)).symm
attribute [local simp] known specOf Kd.spec Sp.is isVar Oper.looksAt Op.operands Call.operands Act.eval
theorem pY (a b:Int):-1≤bE a b∧bE a b≤1:=by
 unfold bE
 (repeat' split) <;> omega
theorem orI_range {a b:Int} (h:-1≤a∧a≤1) (h' : -1≤b∧b≤1):-1≤orI a b∧orI a b≤1:=by
 unfold orI
 split
 ·exact h'
 ·exact h
theorem mul_range {a b:Int} (h:-1≤a∧a≤1) (h' : -1≤b∧b≤1):-1≤a*b∧a*b≤1:=by
 obtain rfl|rfl|rfl:a = -1∨a=0∨a=1:=by omega
 all_goals omega
set_option maxRecDepth 100000 in
set_option maxHeartbeats 8000000 in
theorem zX (p q:Rat) (w:World) (hp:Sm p) (hq:Sm q) (hd:p.den≠q.den) (hs:eF p=eF q):Calls Tryz.prog 44 #[fD p.num p.den,fD q.num q.den] w (Gives w (.int .i64 (dU p q))):=by
 have ha:∀ w',Calls Tryz.prog 105 #[fD p.num p.den,fD q.num q.den] w' (Gives w' (.bool true)):=fun w'=>gG _ _ p q w' hp hq rfl rfl
 have t1:∀ w',Calls Tryz.prog 102 #[fD p.num p.den] w' (TyPost w' (Sp.is (.int .i64 (eF p)))):=fun w'=>Gives.ty (oR _ p w' (.inl ⟨hp,rfl⟩))
 have t2:∀ w',Calls Tryz.prog 102 #[fD q.num q.den] w' (TyPost w' (Sp.is (.int .i64 (eF p)))):=fun w'=>by rw [hs];exact Gives.ty (oR _ q w' (.inl ⟨hq,rfl⟩))
 have t0:∀ w',Calls Tryz.prog 102 #[fD p.num p.den] w' (Gives w' (.int .i64 (eF p))):=fun w'=>oR _ p w' (.inl ⟨hp,rfl⟩)
 have mp:=gF hp
 have mq:=gF hq
 have dp:=gE hp
 have dq:=gE hq
 have t3:∀ w',Calls Tryz.prog 125 #[.int .i64 p.num] w' (TyPost w' (Sp.is (.int .u64 ((p.num.natAbs:Nat):Int)))):=fun w' =>
  (dA p.num w' (by have:=mp.1;omega) mp.2).mono fun _ w'' ⟨h1,h2⟩=>⟨_,h1,by rw [← h2];exact aB _ _,rfl⟩
 have t4:∀ w',Calls Tryz.prog 125 #[.int .i64 q.num] w' (TyPost w' (Sp.is (.int .u64 ((q.num.natAbs:Nat):Int)))):=fun w' =>
  (dA q.num w' (by have:=mq.1;omega) mq.2).mono fun _ w'' ⟨h1,h2⟩=>⟨_,h1,by rw [← h2];exact aB _ _,rfl⟩
 have t5:∀ w',Calls Tryz.prog 118 #[fD p.num p.den] w' (TyPost w' (Sp.is (.int .i64 (p.den:Int)))):=fun w'=>by
  have:=Gives.ty (iV p.num ((p.den:Int)-1) none w' (by omega) (by omega))
  rwa [Int.sub_add_cancel] at this
 have t6:∀ w',Calls Tryz.prog 118 #[fD q.num q.den] w' (TyPost w' (Sp.is (.int .i64 (q.den:Int)))):=fun w'=>by
  have:=Gives.ty (iV q.num ((q.den:Int)-1) none w' (by omega) (by omega))
  rwa [Int.sub_add_cancel] at this
 have hmul:∀ a b:Nat,a<aD→b<aD→∀ w',Calls Tryz.prog 124 #[.int .u64 (a:Int),.int .u64 (b:Int)] w' (TyPost w' (Sp.is (.tuple #[.int .u64 ((a*b/aD:Nat):Int),.int .u64 ((a*b%aD:Nat):Int)]))):=fun a b h1 h2 w' =>
  (Tryz.bits_Mul64 a b h1 h2 w').mono fun e w'' h=>⟨.tuple #[.int .u64 ((a*b/aD:Nat):Int),.int .u64 ((a*b%aD:Nat):Int)],by rw [h.1];rfl,by rw [h.2];exact aB _ _,rfl⟩
 have b1:p.num.natAbs<aD:=by rw [aM];have:=mp.1;have:=mp.2;omega
 have b2:q.num.natAbs<aD:=by rw [aM];have:=mq.1;have:=mq.2;omega
 have b3:p.den<aD:=by rw [aM];omega
 have b4:q.den<aD:=by rw [aM];omega
 have t7:=hmul _ _ b1 b4
 have t8:=hmul _ _ b2 b3
 have k1:IntKind.u64.wrap (p.den:Int)=p.den:=by rw [IntKind.wrap_u64];omega
 have k2:IntKind.u64.wrap (q.den:Int)=q.den:=by rw [IntKind.wrap_u64];omega
 have hres:=cmpR_same hs
 rw [← or_words] at hres
 have hrange:-1≤eF p∧eF p≤1:=pY _ _
 rw [← hres]
 generalize p.num.natAbs*q.den/aD=h1 at *
 generalize p.num.natAbs*q.den%aD=l1 at *
 generalize q.num.natAbs*p.den/aD=h2 at *
 generalize q.num.natAbs*p.den%aD=l2 at *
 have hor:=mul_range hrange (orI_range (pY (h1:Int) h2) (pY (l1:Int) l2))
 have hw:IntKind.i64.wrap (eF p*orI (bE (h1:Int) h2) (bE (l1:Int) l2))=eF p*orI (bE (h1:Int) h2) (bE (l1:Int) l2):=by rw [IntKind.wrap_i64];omega
 clear hres hs hrange b1 b2 b3 b4 hmul mp mq
 have hne:¬ (p.den:Int)-1=(q.den:Int)-1:=by omega
 unfold fD at ha t0 t1 t2 t5 t6 ⊢
 clear hd hp hq dp dq
 generalize eF p=s at *
 generalize p.num.natAbs=a1 at *
 generalize q.num.natAbs=a2 at *
 generalize p.num=n1 at *
 generalize q.num=n2 at *
 obtain ⟨e1,he1⟩:∃ d:Int,d=(p.den:Int)-1:=⟨_,rfl⟩
 obtain ⟨e2,he2⟩:∃ d:Int,d=(q.den:Int)-1:=⟨_,rfl⟩
 rw [← he1] at ha t0 t1 t5 hne ⊢
 rw [← he2] at ha t2 t6 hne ⊢
 clear he1 he2
 generalize p.den=D1 at *
 generalize q.den=D2 at *
 obtain ⟨hk1,hk2,hb1⟩:=jV w (.cells #[.int .i64 n1,.int .i64 e1,.pointer none] 68) (.cells #[.int .i64 n2,.int .i64 e2,.pointer none] 68)
 have H:=aH (aI hb1 (aI hk1 (aI hk2 (aI ha t0))))
 have T:=aH (aI t1 (aI t2 (aI t3 (aI t4 (aI t5 (aI t6 (aI t7 t8)))))))
 have HW:=aH (aI k1 (aI k2 (aI hne hor)))
 clear hb1 hk1 hk2 ha t0 t1 t2 t3 t4 t5 t6 t7 t8 k1 k2 hne hw hor
 go_enter Tryz.func44,Tryz.ntmps44
 go_wp2_with fail
 refine (H.out.2.2.2.1 _).mono ?_
 rintro e wa ⟨rfl,b2⟩
 have B2:=aH (aI (Below.step_trans H.out.1 b2) (aI (aJ b2 H.out.2.1) (aJ b2 H.out.2.2.1)))
 clear b2
 go_wp2
 have hA:=B2.out.2.1
 have hC:=B2.out.2.2
 have z1:(e1==e2)=false:=by simpa using HW.out.2.2.1
 have k1:=HW.out.1
 have k2:=HW.out.2.1
 refine wp_region_ty Kn [] (by kernel_rfl) (by kernel_rfl) ?_
 repeat (first|(apply aZ (hg:=rfl);case h=>(intro A w' hB hk;simp at hk;have c_hA:=aA (hB.blk hA (by simp <;> omega));have c_hC:=aA (hB.blk hC (by simp <;> omega));first|(simp [go_sem,hk,c_hA,c_hC,z1] <;> rfl)|(simp [go_sem,c_hA,c_hC,z1];rfl)))|(refine aP _ ?_ (by first|exact .inl rfl|exact .inr rfl) (by rfl) (by simp [specOf,Kd.spec];rfl) ?_ rfl ?_;(exact Sp.is_stable _ _)))
 repeat (apply sI 25 (hg:=rfl) (hd:=rfl) (hs:=(by first|rfl|(simp [specOf,Kd.spec];done)|(simp [specOf,Kd.spec];rfl)));case h=>(intro A w' hB hk;simp at hk;have c_hA:=aA (hB.blk hA (by simp <;> omega));have c_hC:=aA (hB.blk hC (by simp <;> omega));first|(simp [go_sem,hk,c_hA,c_hC] <;> rfl)|(simp [go_sem,c_hA,c_hC];rfl)))
 refine qQ 25 (Sp.is (.int .i64 s)) (Sp.is_stable _ _) rfl rfl (by first|rfl|(simp [specOf,Kd.spec];done)|(simp [specOf,Kd.spec];rfl)) (fun A w' hB hk=>?_) ?_;(simp at hk;have c_hA:=aA (hB.blk hA (by simp <;> omega));simp [go_sem,hk,c_hA];refine aE ?_;exact T.out.1 _)
 repeat (apply sI 25 (hg:=rfl) (hd:=rfl) (hs:=(by first|rfl|(simp [specOf,Kd.spec];done)|(simp [specOf,Kd.spec];rfl)));case h=>(intro A w' hB hk;simp at hk;have c_hA:=aA (hB.blk hA (by simp <;> omega));have c_hC:=aA (hB.blk hC (by simp <;> omega));first|(simp [go_sem,hk,c_hA,c_hC] <;> rfl)|(simp [go_sem,c_hA,c_hC];rfl)))
 refine qQ 25 (Sp.is (.int .i64 s)) (Sp.is_stable _ _) rfl rfl (by first|rfl|(simp [specOf,Kd.spec];done)|(simp [specOf,Kd.spec];rfl)) (fun A w' hB hk=>?_) ?_;(simp at hk;have c_hA:=aA (hB.blk hA (by simp <;> omega));simp [go_sem,hk,c_hA];refine aE ?_;exact T.out.2.1 _)
 repeat (apply sI 25 (hg:=rfl) (hd:=rfl) (hs:=(by first|rfl|(simp [specOf,Kd.spec];done)|(simp [specOf,Kd.spec];rfl)));case h=>(intro A w' hB hk;simp at hk;have c_hA:=aA (hB.blk hA (by simp <;> omega));have c_hC:=aA (hB.blk hC (by simp <;> omega));first|(simp [go_sem,hk,c_hA,c_hC] <;> rfl)|(simp [go_sem,c_hA,c_hC];rfl)))
 repeat (first|(apply aZ (hg:=rfl);case h=>(intro A w' hB hk;simp at hk;have c_hA:=aA (hB.blk hA (by simp <;> omega));have c_hC:=aA (hB.blk hC (by simp <;> omega));first|(simp [go_sem,hk,c_hA,c_hC] <;> rfl)|(simp [go_sem,c_hA,c_hC];rfl)))|(refine aP _ ?_ (by first|exact .inl rfl|exact .inr rfl) (by rfl) (by simp [specOf,Kd.spec];rfl) ?_ rfl ?_;(exact Sp.is_stable _ _)))
 refine ⟨by first|rfl|decide,fun f w2 hB hF hAp=>?_⟩;simp [Final1,Sp.is,isVar] at hF;simp only [frameOf,Act.put,List.setIfInBounds_toArray,List.set_cons_succ,List.set_cons_zero,hF]
 have B3:=aH (aI (Below.step_trans B2.out.1 hB.below) (aI (aJ hB.below hA) (aJ hB.below hC)))
 clear hB hAp hA hC hF z1 k1 k2 B2
 go_wp2
 have hA:=B3.out.2.1
 have hC:=B3.out.2.2
 have k2:=HW.out.2.1
 refine wp_region_ty Kn [] (by kernel_rfl) (by kernel_rfl) ?_
 repeat (first|(apply aZ (hg:=rfl);case h=>(intro A w' hB hk;simp at hk;have c_hA:=aA (hB.blk hA (by simp <;> omega));have c_hC:=aA (hB.blk hC (by simp <;> omega));first|(simp [go_sem,hk,c_hA,c_hC] <;> rfl)|(simp [go_sem,c_hA,c_hC];rfl)))|(refine aP _ ?_ (by first|exact .inl rfl|exact .inr rfl) (by rfl) (by simp [specOf,Kd.spec];rfl) ?_ rfl ?_;(exact Sp.is_stable _ _)))
 refine aN (Sp.is (.int .u64 (a1:Int))) (Sp.is_stable _ _) rfl (fun A w' hB hk=>?_) ?_;(simp at hk;have c_hA:=aA (hB.blk hA (by simp <;> omega));simp [go_sem,hk,c_hA];refine aE ?_;exact T.out.2.2.1 _)
 repeat (first|(apply aZ (hg:=rfl);case h=>(intro A w' hB hk;simp at hk;have c_hA:=aA (hB.blk hA (by simp <;> omega));have c_hC:=aA (hB.blk hC (by simp <;> omega));first|(simp [go_sem,hk,c_hA,c_hC] <;> rfl)|(simp [go_sem,c_hA,c_hC];rfl)))|(refine aP _ ?_ (by first|exact .inl rfl|exact .inr rfl) (by rfl) (by simp [specOf,Kd.spec];rfl) ?_ rfl ?_;(exact Sp.is_stable _ _)))
 refine aN (Sp.is (.int .i64 (D2:Int))) (Sp.is_stable _ _) rfl (fun A w' hB hk=>?_) ?_;(simp at hk;have c_hA:=aA (hB.blk hA (by simp <;> omega));simp [go_sem,hk,c_hA];refine aE ?_;exact T.out.2.2.2.2.2.1 _)
 repeat (first|(apply aZ (hg:=rfl);case h=>(intro A w' hB hk;simp at hk;have c_hA:=aA (hB.blk hA (by simp <;> omega));have c_hC:=aA (hB.blk hC (by simp <;> omega));first|(simp [go_sem,hk,c_hA,c_hC,k2] <;> rfl)|(simp [go_sem,c_hA,c_hC,k2];rfl)))|(refine aP _ ?_ (by first|exact .inl rfl|exact .inr rfl) (by rfl) (by simp [specOf,Kd.spec];rfl) ?_ rfl ?_;(exact Sp.is_stable _ _)))
 refine aN (Sp.is (.tuple #[.int .u64 (h1:Int),.int .u64 (l1:Int)])) (Sp.is_stable _ _) rfl (fun A w' hB hk=>?_) ?_;(simp at hk;have c_hA:=aA (hB.blk hA (by simp <;> omega));simp [go_sem,hk,c_hA];refine aE ?_;exact T.out.2.2.2.2.2.2.1 _)
 repeat (first|(apply aZ (hg:=rfl);case h=>(intro A w' hB hk;simp at hk;have c_hA:=aA (hB.blk hA (by simp <;> omega));have c_hC:=aA (hB.blk hC (by simp <;> omega));first|(simp [go_sem,hk,c_hA,c_hC] <;> rfl)|(simp [go_sem,c_hA,c_hC];rfl)))|(refine aP _ ?_ (by first|exact .inl rfl|exact .inr rfl) (by rfl) (by simp [specOf,Kd.spec];rfl) ?_ rfl ?_;(exact Sp.is_stable _ _)))
 refine ⟨by first|rfl|decide,fun f w2 hB hF hAp=>?_⟩;simp [Final1,Sp.is,isVar] at hF;simp only [frameOf,Act.put,List.setIfInBounds_toArray,List.set_cons_succ,List.set_cons_zero,hF]
 have B4:=aH (aI (Below.step_trans B3.out.1 hB.below) (aI (aJ hB.below hA) (aJ hB.below hC)))
 clear hB hAp hA hC hF k2 B3
 go_wp2
 have hA:=B4.out.2.1
 have hC:=B4.out.2.2
 have k1:=HW.out.1
 refine wp_region_ty Kn [] (by kernel_rfl) (by kernel_rfl) ?_
 repeat (first|(apply aZ (hg:=rfl);case h=>(intro A w' hB hk;simp at hk;have c_hA:=aA (hB.blk hA (by simp <;> omega));have c_hC:=aA (hB.blk hC (by simp <;> omega));first|(simp [go_sem,hk,c_hA,c_hC] <;> rfl)|(simp [go_sem,c_hA,c_hC];rfl)))|(refine aP _ ?_ (by first|exact .inl rfl|exact .inr rfl) (by rfl) (by simp [specOf,Kd.spec];rfl) ?_ rfl ?_;(exact Sp.is_stable _ _)))
 refine aN (Sp.is (.int .u64 (a2:Int))) (Sp.is_stable _ _) rfl (fun A w' hB hk=>?_) ?_;(simp at hk;have c_hA:=aA (hB.blk hA (by simp <;> omega));simp [go_sem,hk,c_hA];refine aE ?_;exact T.out.2.2.2.1 _)
 repeat (first|(apply aZ (hg:=rfl);case h=>(intro A w' hB hk;simp at hk;have c_hA:=aA (hB.blk hA (by simp <;> omega));have c_hC:=aA (hB.blk hC (by simp <;> omega));first|(simp [go_sem,hk,c_hA,c_hC] <;> rfl)|(simp [go_sem,c_hA,c_hC];rfl)))|(refine aP _ ?_ (by first|exact .inl rfl|exact .inr rfl) (by rfl) (by simp [specOf,Kd.spec];rfl) ?_ rfl ?_;(exact Sp.is_stable _ _)))
 refine aN (Sp.is (.int .i64 (D1:Int))) (Sp.is_stable _ _) rfl (fun A w' hB hk=>?_) ?_;(simp at hk;have c_hA:=aA (hB.blk hA (by simp <;> omega));simp [go_sem,hk,c_hA];refine aE ?_;exact T.out.2.2.2.2.1 _)
 repeat (first|(apply aZ (hg:=rfl);case h=>(intro A w' hB hk;simp at hk;have c_hA:=aA (hB.blk hA (by simp <;> omega));have c_hC:=aA (hB.blk hC (by simp <;> omega));first|(simp [go_sem,hk,c_hA,c_hC,k1] <;> rfl)|(simp [go_sem,c_hA,c_hC,k1];rfl)))|(refine aP _ ?_ (by first|exact .inl rfl|exact .inr rfl) (by rfl) (by simp [specOf,Kd.spec];rfl) ?_ rfl ?_;(exact Sp.is_stable _ _)))
 refine aN (Sp.is (.tuple #[.int .u64 (h2:Int),.int .u64 (l2:Int)])) (Sp.is_stable _ _) rfl (fun A w' hB hk=>?_) ?_;(simp at hk;have c_hA:=aA (hB.blk hA (by simp <;> omega));simp [go_sem,hk,c_hA];refine aE ?_;exact T.out.2.2.2.2.2.2.2 _)
 repeat (first|(apply aZ (hg:=rfl);case h=>(intro A w' hB hk;simp at hk;have c_hA:=aA (hB.blk hA (by simp <;> omega));have c_hC:=aA (hB.blk hC (by simp <;> omega));first|(simp [go_sem,hk,c_hA,c_hC] <;> rfl)|(simp [go_sem,c_hA,c_hC];rfl)))|(refine aP _ ?_ (by first|exact .inl rfl|exact .inr rfl) (by rfl) (by simp [specOf,Kd.spec];rfl) ?_ rfl ?_;(exact Sp.is_stable _ _)))
 refine ⟨by first|rfl|decide,fun f w2 hB hF hAp=>?_⟩;simp [Final1,Sp.is,isVar] at hF;simp only [frameOf,Act.put,List.setIfInBounds_toArray,List.set_cons_succ,List.set_cons_zero,hF]
 have B5:=aH (aI (Below.step_trans B4.out.1 hB.below) (aI (aJ hB.below hA) (aJ hB.below hC)))
 obtain ⟨⟨x0,x1,x2⟩,_⟩:=cK (aJ hB.below hA)
 clear hB hAp hA hC hF k1 B4 T
 go_wp2_with fail
 refine (H.out.2.2.2.2 _).mono ?_
 rintro e w6 ⟨rfl,b6⟩
 have B6:=aH (Below.step_trans B5.out.1 b6)
 clear b6 x0 x1 x2 B5
 go_wp2_with (go_at_call 127;refine (tM _ _ _).mono ?_;rintro e w' ⟨rfl,rfl⟩)
 refine (or_two (bE (h1:Int) h2) (bE (l1:Int) l2) w6.heap.size _ ?_ ?_).mono ?_
 ·simp [go_sem]
 ·simp [go_sem]
 rintro e w' ⟨rfl,rfl⟩
 go_wp2
 go_ret
 refine ⟨?_,?_⟩
 ·exact bM (by obtain ⟨y1,y2⟩:=HW.out.2.2.2;generalize s*orI (bE (h1:Int) h2) (bE (l1:Int) l2)=u at *;first|(unfold wrap64;omega)|(simp [wrap64];omega))
 ·have hsz:=B6.out.size
  repeat (first|exact B6.out|(refine Below.setCell ?_ (by first|omega|(simp <;> omega)) _)|(refine Below.alloc ?_ (by first|omega|(simp <;> omega)) _)|(refine Below.drew ?_)|exact aB _ _)
theorem compare_nb (v v' : Value) (p q:Rat) (w:World) (h:Nb w v p) (h' : Nb w v' q) (hp:Lf 38 p) (hq:Lf 38 q):Calls Tryz.prog 44 #[v,v'] w (Gives w (.int .i64 (dU p q))):=by
 by_cases hs:Sm p∧Sm q
 ·have e1:v=fD p.num p.den:=by
   rcases h with ⟨_,e⟩|⟨hn,_⟩
   ·exact e
   ·exact absurd hs.1 hn
  have e2:v'=fD q.num q.den:=by
   rcases h' with ⟨_,e⟩|⟨hn,_⟩
   ·exact e
   ·exact absurd hs.2 hn
  rw [e1,e2]
  by_cases hd:p.den=q.den
  ·exact compare_den p q w hs.1 hs.2 hd
  ·by_cases hg:eF p=eF q
   ·exact zX p q w hs.1 hs.2 hd hg
   ·exact compare_sgn p q w hs.1 hs.2 hd hg
 ·exact xS v v' p q w h h' hp hq hs
end
section
open Go.RowKit Pl
theorem blk9 {w:World} {g:Nat} {a b c d e f h i j:Value} {t:TypeId} (hk:w.heap[g]?=some (.cells #[a,b,c,d,e,f,h,i,j] t (0,0))) :
 w.cell? ⟨g,0,none⟩=some a∧w.cell? ⟨g,1,none⟩=some b∧w.cell? ⟨g,2,none⟩=some c∧w.cell? ⟨g,3,none⟩=some d∧w.cell? ⟨g,4,none⟩=some e∧w.cell? ⟨g,5,none⟩=some f∧w.cell? ⟨g,6,none⟩=some h∧w.cell? ⟨g,7,none⟩=some i∧w.cell? ⟨g,8,none⟩=some j:=by
 have hc:=aA hk
 simp [hc]
def Vc (w:World) (v:Value) (a b c:Rat):Prop :=
 ∃ n1 d1 p1 n2 d2 p2 n3 d3 p3,v = .agg #[.int .i64 n1,.int .i64 d1,.pointer p1,.int .i64 n2,.int .i64 d2,.pointer p2,.int .i64 n3,.int .i64 d3,.pointer p3] ∧
   Nb w (.agg #[.int .i64 n1,.int .i64 d1,.pointer p1]) a∧Nb w (.agg #[.int .i64 n2,.int .i64 d2,.pointer p2]) b∧Nb w (.agg #[.int .i64 n3,.int .i64 d3,.pointer p3]) c
theorem Vc.below {w w' : World} {v:Value} {a b c:Rat} (h:Vc w v a b c) (hb:Below w.heap.size w w'):Vc w' v a b c:=by
 obtain ⟨n1,d1,p1,n2,d2,p2,n3,d3,p3,e,h1,h2,h3⟩:=h
 exact ⟨n1,d1,p1,n2,d2,p2,n3,d3,p3,e,h1.below hb,h2.below hb,h3.below hb⟩
theorem Vc.ext {K:Value→Bool} (hK:∀ x,K (.int .u64 x)=true) (hK2:∀ b,K (.bool b)=true) {w w' : World} {v:Value} {a b c:Rat} (h:Vc w v a b c) (hx:Ext K w w'):Vc w' v a b c:=by
 obtain ⟨n1,d1,p1,n2,d2,p2,n3,d3,p3,e,h1,h2,h3⟩:=h
 exact ⟨n1,d1,p1,n2,d2,p2,n3,d3,p3,e,h1.ext hK hK2 hx,h2.ext hK hK2 hx,h3.ext hK hK2 hx⟩
set_option maxRecDepth 100000 in
theorem isZero_vc (v:Value) (a b c:Rat) (w:World) (h:Vc w v a b c):Calls Tryz.prog 69 #[v] w (Gives w (.bool (decide (a=0)&&decide (b=0)&&decide (c=0)))):=by
 obtain ⟨n1,d1,p1,n2,d2,p2,n3,d3,p3,rfl,h1,h2,h3⟩:=h
 have hb1:Below w.heap.size w (w.alloc (.cells #[.int .i64 n1,.int .i64 d1,.pointer p1,.int .i64 n2,.int .i64 d2,.pointer p2,.int .i64 n3,.int .i64 d3,.pointer p3] 100)):=(aB _ _).alloc (aR _) _
 have hk1:=heap_alloc_new w (.cells #[.int .i64 n1,.int .i64 d1,.pointer p1,.int .i64 n2,.int .i64 d2,.pointer p2,.int .i64 n3,.int .i64 d3,.pointer p3] 100)
 have t1:=fun w' (hb:Below w.heap.size w w')=>oQ _ _ w' (h1.below hb)
 have t2:=fun w' (hb:Below w.heap.size w w')=>oQ _ _ w' (h2.below hb)
 have t3:=fun w' (hb:Below w.heap.size w w')=>oQ _ _ w' (h3.below hb)
 clear h1 h2 h3
 generalize decide (a=0)=za at *
 generalize decide (b=0)=zb at *
 generalize decide (c=0)=zc at *
 have H:=aH (aI t1 (aI t2 t3))
 have B1:=aH (aI hb1 hk1)
 clear t1 t2 t3 hb1 hk1
 go_enter Tryz.func69,Tryz.ntmps69
 cases za
 ·skip
  go_wp2_with fail
  refine (H.out.1 _ B1.out.1).mono ?_
  rintro e w2 ⟨rfl,b2⟩
  have B2:=aH (aI (Below.step_trans B1.out.1 b2) (aJ b2 B1.out.2))
  obtain ⟨x0,x1,x2,x3,x4,x5,x6,x7,x8⟩:=blk9 B2.out.2
  clear b2
  go_wp2
  go_ret
  exact ⟨rfl,B2.out.1⟩
 ·cases zb
  ·skip
   go_wp2_with fail
   refine (H.out.1 _ B1.out.1).mono ?_
   rintro e w2 ⟨rfl,b2⟩
   have B2:=aH (aI (Below.step_trans B1.out.1 b2) (aJ b2 B1.out.2))
   obtain ⟨x0,x1,x2,x3,x4,x5,x6,x7,x8⟩:=blk9 B2.out.2
   clear b2
   go_wp2_with fail
   refine (H.out.2.1 _ B2.out.1).mono ?_
   rintro e w3 ⟨rfl,b2⟩
   have B3:=aH (aI (Below.step_trans B2.out.1 b2) (aJ b2 B2.out.2))
   obtain ⟨x0,x1,x2,x3,x4,x5,x6,x7,x8⟩:=blk9 B3.out.2
   clear b2
   go_wp2
   go_ret
   exact ⟨rfl,B3.out.1⟩
  ·skip
   go_wp2_with fail
   refine (H.out.1 _ B1.out.1).mono ?_
   rintro e w2 ⟨rfl,b2⟩
   have B2:=aH (aI (Below.step_trans B1.out.1 b2) (aJ b2 B1.out.2))
   obtain ⟨x0,x1,x2,x3,x4,x5,x6,x7,x8⟩:=blk9 B2.out.2
   clear b2
   go_wp2_with fail
   refine (H.out.2.1 _ B2.out.1).mono ?_
   rintro e w3 ⟨rfl,b2⟩
   have B3:=aH (aI (Below.step_trans B2.out.1 b2) (aJ b2 B2.out.2))
   obtain ⟨x0,x1,x2,x3,x4,x5,x6,x7,x8⟩:=blk9 B3.out.2
   clear b2
   go_wp2_with fail
   refine (H.out.2.2 _ B3.out.1).mono ?_
   rintro e w4 ⟨rfl,b2⟩
   have B4:=aH (aI (Below.step_trans B3.out.1 b2) (aJ b2 B3.out.2))
   obtain ⟨x0,x1,x2,x3,x4,x5,x6,x7,x8⟩:=blk9 B4.out.2
   clear b2
   go_wp2
   go_ret
   exact ⟨rfl,B4.out.1⟩
end
namespace Ab
open Go.RowKit
variable {Kc:Value→Bool}
def Seg.noPtr:Seg Kc→Bool
 | .ptr .. | .slc .. => false
 | _=>true
def FV.noPtr:FV Kc→Bool
 | .sc s=>s.noPtr
 | .ag l | .nsl _ _ l=>l.all Seg.noPtr
 | .clo _ a b=>(a.all fun c=>c.2.all Seg.noPtr)&&(b.all fun c=>c.2.all Seg.noPtr)
 | .un=>true
def AV.noPtr:AV Kc→Bool
 | .fv f=>f.noPtr
 | .tup l=>l.all FV.noPtr
theorem Seg.noPtr_holds {s:Seg Kc} (h:s.noPtr=true) {β γ:List Nat} {cs:List Value} {w:World} (hs:s.holds β cs w):s.holds γ cs w:=by
 cases s <;> first|exact hs|cases h
theorem holdsL.noPtr {β γ:List Nat} {w:World}:∀ {l:List (Seg Kc)} {cs:List Value},l.all Seg.noPtr=true→holdsL β l cs w→holdsL γ l cs w
 | [],_,_,h=>h
 | s::l,_,hn,⟨a,b,e,h1,h2⟩=>by
   rw [List.all_cons,Bool.and_eq_true] at hn
   exact ⟨a,b,e,Seg.noPtr_holds hn.1 h1,holdsL.noPtr hn.2 h2⟩
theorem holdsC.noPtr {β γ:List Nat} {w:World}:∀ {l:List (Bool×List (Seg Kc))} {vs:List Value},(l.all fun c=>c.2.all Seg.noPtr)=true→holdsC β l vs w→holdsC γ l vs w
 | [],_,_,h=>h
 | (b,m)::l,_,hn,⟨v,r,e,h1,h2⟩=>by
   rw [List.all_cons,Bool.and_eq_true] at hn
   refine ⟨v,r,e,?_,holdsC.noPtr hn.2 h2⟩
   cases b with
   | true=>obtain ⟨cs,e,h1⟩:=h1;exact ⟨cs,e,h1.noPtr hn.1⟩
   | false=>exact holdsL.noPtr hn.1 h1
theorem FV.noPtr_holds {f:FV Kc} (h:f.noPtr=true) {β γ:List Nat} {v:Value} {w:World} (hs:f.holds β v w):f.holds γ v w:=by
 cases f with
 | sc s=>exact Seg.noPtr_holds h hs
 | ag l=>obtain ⟨cs,e,hl⟩:=hs;exact ⟨cs,e,hl.noPtr h⟩
 | nsl n T l=>obtain ⟨g,cs,e,hg,hl⟩:=hs;exact ⟨g,cs,e,hg,hl.noPtr h⟩
 | clo F a b =>
   rw [FV.noPtr,Bool.and_eq_true] at h
   obtain ⟨xs,ys,e,h1,h2⟩:=hs
   exact ⟨xs,ys,e,h1.noPtr h.1,h2.noPtr h.2⟩
 | un=>trivial
theorem holdsF.noPtr {β γ:List Nat} {w:World}:∀ {l:List (FV Kc)} {vs:List Value},l.all FV.noPtr=true→holdsF β l vs w→holdsF γ l vs w
 | [],_,_,h=>h
 | f::l,_,hn,⟨v,r,e,h1,h2⟩=>by
   rw [List.all_cons,Bool.and_eq_true] at hn
   exact ⟨v,r,e,FV.noPtr_holds hn.1 h1,holdsF.noPtr hn.2 h2⟩
theorem AV.noPtr_holds {x:AV Kc} (h:x.noPtr=true) {β γ:List Nat} {v:Value} {w:World} (hs:x.holds β v w):x.holds γ v w:=by
 cases x with
 | fv f=>exact FV.noPtr_holds h hs
 | tup l=>obtain ⟨vs,e,hl⟩:=hs;exact ⟨vs,e,hl.noPtr h⟩
def Fits (P:Program) (f:FuncId) (args:List (AV Kc)) (x:AV Kc):Prop :=
 ∀ β w vs,holdsA β args vs w→Calls P f vs.toArray w fun e w' => ∃ v,e = .returned v∧Below w.heap.size w w'∧x.holds β v w'
section
variable {P:Program} {f:FuncId} {w00:World} {Out:Value→World→Prop}
structure Ok (P:Program) (f:FuncId) (w00:World) (Out:Value→World→Prop) (c:Cfg Kc):Prop where
 good:jU P f w00 Out c
theorem Ok.go (hm:P.follows .mixedOrders=true) (hK:KOk Kc) (n:Nat) {c:Cfg Kc} (h:Ok P f w00 Out (cV P n c)):Ok P f w00 Out c:=⟨good_run hm hK n h.good⟩
theorem Ok.call {c:Cfg Kc} (fn:FuncId) (args:List (AV Kc)) {x:AV Kc} (h:Fits P fn args x) (hf:c.callee P=some fn) (ha:c.args P=args) (hx:c.okT x=true) (hfn:∀ (args:Array Value) (w:World),(callFunc fn args).run P w = .ok (.enter fn args) w)
 (hg:Ok P f w00 Out (c.give x)):Ok P f w00 Out c :=
 ⟨oO fn x hf hx hfn (fun β w vs _ _ hv=>h β w vs (by rw [← ha];exact hv)) hg.good⟩
theorem Ok.op {c:Cfg Kc} (o:Oper) (x:AV Kc) (ho:c.op=some o) (hx:c.okT x=true)
 (h:∀ β ρ w,(c.canB=true→Below w00.heap.size w00 w)→Mem β c.mem w→(∀ y∈o.op.operands,(c.ev y).holds β (ρ y) w) →
  (∃ v w',(execOp ρ o).run P w = .ok (.value v) w'∧Below w.heap.size w w'∧x.holds β v w') ∨
  (∃ fn vs,(execOp ρ o).run P w = .ok (.enter fn vs) w∧Calls P fn vs w fun e w' => ∃ v,e = .returned v∧Below w.heap.size w w'∧x.holds β v w'))
 (hg:Ok P f w00 Out (c.give x)):Ok P f w00 Out c:=⟨good_op o x ho hx h hg.good⟩
def FitsW (P:Program) (I:World→Prop) (f:FuncId) (args:List (AV Kc)) (x:AV Kc):Prop :=
 ∀ β w vs,I w→holdsA β args vs w→Calls P f vs.toArray w fun e w' => ∃ v,e = .returned v∧Below w.heap.size w w'∧x.holds β v w'
theorem Ok.callW {I:World→Prop} {c:Cfg Kc} (hI:∀ w,Below w00.heap.size w00 w→I w) (fn:FuncId) (args:List (AV Kc)) {x:AV Kc} (h:FitsW P I fn args x) (hf:c.callee P=some fn) (ha:c.args P=args) (hx:c.okT x=true) (hro:c.canB=true) (hfn:∀ (args:Array Value) (w:World),(callFunc fn args).run P w = .ok (.enter fn args) w)
 (hg:Ok P f w00 Out (c.give x)):Ok P f w00 Out c :=
 ⟨oO fn x hf hx hfn (fun β w vs hB _ hv=>h β w vs (hI w (hB hro)) (by rw [← ha];exact hv)) hg.good⟩
theorem Ok.callS {c:Cfg Kc} (fn:FuncId) (k n:Nat) (T:TypeId) (l:List (Seg Kc)) {x:AV Kc} (h:Fits P fn [.fv (.nsl n T l)] x) (hf:c.callee P=some fn) (ha:c.args P = [.fv (.sc (.slc k 0 n n))]) (hx:c.okT x=true) (hm:c.mem[k]?=some (some (T,l))) (hfn:∀ (args:Array Value) (w:World),(callFunc fn args).run P w = .ok (.enter fn args) w)
 (hg:Ok P f w00 Out (c.give x)):Ok P f w00 Out c :=
 ⟨oO fn x hf hx hfn (fun β w vs _ hM hv=>by
  rw [ha] at hv
  obtain ⟨v,r,rfl,h1,h2⟩:=hv
  obtain ⟨g,hg,hv⟩:=vI h1
  obtain ⟨g',cs,hg',hh,hl⟩:=hM k T l hm
  rw [hg] at hg'
  injection hg' with hg'
  subst hg'
  exact h β w _ ⟨v,r,rfl,⟨g,cs,hv,hh,hl⟩,h2⟩) hg.good⟩
theorem fitsW_of {I:World→Prop} {fn:Func} {args:List (AV Kc)} {x:AV Kc} (hfn:P.funcs[f]?=some fn) (hb:fn.body.isSome=true) (hn:(args.length≤fn.ntmps:Bool)=true) (hx:x.noPtr=true) (ha:args.all AV.noPtr=true)
 (h:∀ w00,I w00→Ok P f w00 (fun v w=>x.holds [] v w) (.items [.code (fn.body.getD .skip)] { slots:=args++List.replicate (fn.ntmps-args.length) .un,blocks := [],ro:=0 })):FitsW P I f args x:=by
 intro β w vs hI hv
 have hv' : holdsA [] args vs w:=by
  have key:∀ {l:List (AV Kc)} {us:List Value},l.all AV.noPtr=true→holdsA β l us w→holdsA [] l us w:=fun {l}=>by
   induction l with
   | nil=>intro us _ h;exact h
   | cons y l ih =>
     rintro us hn ⟨v,r,e,h1,h2⟩
     rw [List.all_cons,Bool.and_eq_true] at hn
     exact ⟨v,r,e,AV.noPtr_holds hn.1 h1,ih hn.2 h2⟩
  exact key ha hv
 have hb2:fn.body=some (fn.body.getD .skip):=by
  cases hb2:fn.body with
  | none=>rw [hb2] at hb;cases hb
  | some c=>rfl
 refine (fF (w00:=w) (Out:=fun v w=>x.holds [] v w) hfn hb2 args [] [] vs (fn.ntmps-args.length) (by simp at hn;omega) hv' rfl (by simp) (fun k T l hk=>by simp at hk) (by simp) (h w hI).good).mono ?_
 rintro e w' ⟨v,rfl,hb,ho⟩
 exact ⟨v,rfl,hb,AV.noPtr_holds hx ho⟩
theorem fitsS_of {fn:Func} {n:Nat} {T:TypeId} {l:List (Seg Kc)} {x:AV Kc} (hfn:P.funcs[f]?=some fn) (hb:fn.body.isSome=true) (hn:(1≤fn.ntmps:Bool)=true) (hx:x.noPtr=true) (hl:l.all Seg.noPtr=true)
 (h:∀ w00,Ok P f w00 (fun v w=>x.holds [] v w) (.items [.code (fn.body.getD .skip)] { slots := [.fv (.sc (.slc 0 0 n n))]++List.replicate (fn.ntmps-1) .un,blocks := [(T,l)],ro:=1 })):Fits P f [.fv (.nsl n T l)] x:=by
 rintro β w vs ⟨v,r,rfl,⟨g,cs,rfl,hg,hcs⟩,h2⟩
 rw [show r = [] from h2]
 have hb2:fn.body=some (fn.body.getD .skip):=by
  cases hb2:fn.body with
  | none=>rw [hb2] at hb;cases hb
  | some c=>rfl
 refine (fF (w00:=w) (Out:=fun v w=>x.holds [] v w) hfn hb2 [.fv (.sc (.slc 0 0 n n))] [(T,l)] [g] [.slice (some ⟨g,0,none⟩) n n] (fn.ntmps-1) (by simp at hn;simp;omega) ⟨_,[],rfl,⟨g,rfl,rfl⟩,rfl⟩ rfl (by simp)
  (fun k T' l' hk=>?_) (by simp;exact lt_of_block hg) (h w).good).mono ?_
 ·match k,hk with
  | 0,hk =>
    simp at hk
    obtain ⟨rfl,rfl⟩:=hk
    exact ⟨g,cs,rfl,hg,hcs.noPtr hl⟩
 ·rintro e w' ⟨v,rfl,hb,ho⟩
  exact ⟨v,rfl,hb,AV.noPtr_holds hx ho⟩
theorem fits_of {fn:Func} {code:Code} {args:List (AV Kc)} {x:AV Kc} (hfn:P.funcs[f]?=some fn) (hb:fn.body=some code) (n:Nat) (hn:fn.ntmps=args.length+n) (hx:x.noPtr=true) (ha:args.all AV.noPtr=true)
 (h:∀ w00,jU P f w00 (fun v w=>x.holds [] v w) (.items [.code code] { slots:=args++List.replicate n .un,blocks := [],ro:=0 })):Fits P f args x:=by
 intro β w vs hv
 have hv' : holdsA [] args vs w:=by
  have key:∀ {l:List (AV Kc)} {us:List Value},l.all AV.noPtr=true→holdsA β l us w→holdsA [] l us w:=fun {l}=>by
   induction l with
   | nil=>intro us _ h;exact h
   | cons y l ih =>
     rintro us hn ⟨v,r,e,h1,h2⟩
     rw [List.all_cons,Bool.and_eq_true] at hn
     exact ⟨v,r,e,AV.noPtr_holds hn.1 h1,ih hn.2 h2⟩
  exact key ha hv
 refine (fF (w00:=w) (Out:=fun v w=>x.holds [] v w) hfn hb args [] [] vs n hn hv' rfl (by simp) (fun k T l hk=>by simp at hk) (by simp) (h w)).mono ?_
 rintro e w' ⟨v,rfl,hb,ho⟩
 exact ⟨v,rfl,hb,AV.noPtr_holds hx ho⟩
abbrev pZ (fn:Func) (args:List (AV Kc)):Cfg Kc := .items [.code (fn.body.getD .skip)] { slots:=args++List.replicate (fn.ntmps-args.length) .un,blocks := [],ro:=0 }
theorem fits_go {fn:Func} {args:List (AV Kc)} {x:AV Kc} (hfn:P.funcs[f]?=some fn) (hb:fn.body.isSome=true) (hn:(args.length≤fn.ntmps:Bool)=true) (hx:x.noPtr=true) (ha:args.all AV.noPtr=true)
 (h:∀ w00,Ok P f w00 (fun v w=>x.holds [] v w) (pZ fn args)):Fits P f args x:=by
 refine fits_of hfn (code:=fn.body.getD .skip) ?_ (fn.ntmps-args.length) ?_ hx ha (fun w00=>(h w00).good)
 ·cases hb2:fn.body with
  | none=>rw [hb2] at hb;cases hb
  | some c=>rfl
 ·simp at hn
  omega
theorem Ok.ret {c:Cfg Kc} {fn:Func} {x:AV Kc} (hfn:P.funcs[f]?=some fn) (hx:x.noPtr=true) (hr:c.res P fn=some x):Ok P f w00 (fun v w=>x.holds [] v w) c :=
 ⟨good_ret hfn x hr (fun _ _ _ h=>AV.noPtr_holds hx h)⟩
end
abbrev jF{Kc:Value→Bool}(f:FuncId)(l:List (AV Kc))(x:AV Kc):Prop:=Fits Tryz.prog f l x
theorem pM:KOk Kn:=⟨fun _=>rfl,fun _ _ _=>rfl⟩
def csNb (q:Rat):CS Kn where
 size:=3
 cold:=true
 pred cs w:=Nb w (.agg cs.toArray) q
 stable cs w w' h hx:=Nb.ext (K:=Kn) (fun _=>rfl) (fun _=>rfl) h hx
 len cs w h:=by
  obtain ⟨n,d,p,e⟩:=Nb.form h
  injection e with e
  have:=congrArg Array.toList e
  simp at this
  rw [this];rfl
 one cs w h:=by
  obtain ⟨n,d,p,e⟩:=Nb.form h
  injection e with e
  have:=congrArg Array.toList e
  simp at this
  rw [this]
  intro c hc
  simp at hc
  rcases hc with rfl|rfl|rfl <;> rfl
 iscold _ cs w h:=by
  obtain ⟨n,d,p,e⟩:=Nb.form h
  injection e with e
  have:=congrArg Array.toList e
  simp at this
  rw [this]
  intro c hc
  simp at hc
  rcases hc with rfl|rfl|rfl <;> rfl
abbrev nb (q:Rat):Seg Kn := .sp (csNb q)
abbrev num (q:Rat):AV Kn := .fv (.ag [nb q])
abbrev vc (a b c:Rat):AV Kn := .fv (.ag [nb a,nb b,nb c])
theorem cB {β:List Nat} {v:Value} {w:World} {q:Rat}:(num q).holds β v w↔Nb w v q:=by
 constructor
 ·rintro ⟨cs,rfl,h⟩
  exact mE h
 ·intro h
  obtain ⟨n,d,p,rfl⟩:=Nb.form h
  exact ⟨[.int .i64 n,.int .i64 d,.pointer p],rfl,_,[],rfl,h,rfl⟩
theorem wL {β:List Nat} {v:Value} {w:World} {a b c:Rat}:(vc a b c).holds β v w↔Vc w v a b c:=by
 constructor
 ·rintro ⟨cs,rfl,x1,r1,rfl,h1,x2,r2,rfl,h2,x3,r3,rfl,h3,e⟩
  rw [show r3 = [] from e]
  obtain ⟨n1,d1,p1,e1⟩:=Nb.form h1
  obtain ⟨n2,d2,p2,e2⟩:=Nb.form h2
  obtain ⟨n3,d3,p3,e3⟩:=Nb.form h3
  injection e1 with e1
  injection e2 with e2
  injection e3 with e3
  have e1:=congrArg Array.toList e1
  have e2:=congrArg Array.toList e2
  have e3:=congrArg Array.toList e3
  simp at e1 e2 e3
  subst e1
  subst e2
  subst e3
  exact ⟨n1,d1,p1,n2,d2,p2,n3,d3,p3,rfl,h1,h2,h3⟩
 ·rintro ⟨n1,d1,p1,n2,d2,p2,n3,d3,p3,rfl,h1,h2,h3⟩
  exact ⟨[.int .i64 n1,.int .i64 d1,.pointer p1,.int .i64 n2,.int .i64 d2,.pointer p2,.int .i64 n3,.int .i64 d3,.pointer p3],rfl,
   [.int .i64 n1,.int .i64 d1,.pointer p1],_,rfl,h1,[.int .i64 n2,.int .i64 d2,.pointer p2],_,rfl,h2,[.int .i64 n3,.int .i64 d3,.pointer p3],[],rfl,h3,rfl⟩
theorem dB {β:List Nat} {w:World} {x:AV Kc} {vs:List Value} (h:holdsA β [x] vs w):∃ v,vs = [v]∧x.holds β v w:=by
 obtain ⟨v,r,rfl,h1,h2⟩:=h
 exact ⟨v,by rw [show r = [] from h2],h1⟩
theorem dN {β:List Nat} {w:World} {x y:AV Kc} {vs:List Value} (h:holdsA β [x,y] vs w):∃ v u,vs = [v,u]∧x.holds β v w∧y.holds β u w:=by
 obtain ⟨v,r,rfl,h1,h2⟩:=h
 obtain ⟨u,rfl,h3⟩:=dB h2
 exact ⟨v,u,rfl,h1,h3⟩
theorem fits_nb1 {P:Program} {f:FuncId} {p r:Rat} (h:∀ v w,Nb w v p→Calls P f #[v] w (GivesNb w r)):Fits P f [num p] (num r):=by
 intro β w vs hv
 obtain ⟨v,rfl,h1⟩:=dB hv
 exact (h v w (cB.1 h1)).mono fun e w' ⟨u,e,h1,h2⟩=>⟨u,e,h2,cB.2 h1⟩
theorem rC {P:Program} {f:FuncId} {p q r:Rat} (h:∀ v v' w,Nb w v p→Nb w v' q→Calls P f #[v,v'] w (GivesNb w r)):Fits P f [num p,num q] (num r):=by
 intro β w vs hv
 obtain ⟨v,u,rfl,h1,h2⟩:=dN hv
 exact (h v u w (cB.1 h1) (cB.1 h2)).mono fun e w' ⟨u,e,h1,h2⟩=>⟨u,e,h2,cB.2 h1⟩
theorem kgo {f:FuncId} {fn:Func} {args:List (AV Kn)} {x:AV Kn} (hfn:Tryz.prog.funcs[f]?=some fn) (hc:(fn.body.isSome,decide (args.length≤fn.ntmps),x.noPtr,args.all AV.noPtr)=(true,true,true,true))
 (h:∀ w00,Ok Tryz.prog f w00 (fun v w=>x.holds [] v w) (cV Tryz.prog 1000 (pZ fn args))):jF f args x:=by
 simp only [Prod.mk.injEq] at hc
 exact fits_go hfn hc.1 hc.2.1 hc.2.2.1 hc.2.2.2 fun w00=>Ok.go (by kernel_rfl) pM 1000 (h w00)
theorem kgoW {I:World→Prop} {f:FuncId} {fn:Func} {args:List (AV Kn)} {x:AV Kn} (hfn:Tryz.prog.funcs[f]?=some fn) (hc:(fn.body.isSome,decide (args.length≤fn.ntmps),x.noPtr,args.all AV.noPtr)=(true,true,true,true))
 (h:∀ w00,I w00→Ok Tryz.prog f w00 (fun v w=>x.holds [] v w) (cV Tryz.prog 1000 (pZ fn args))):FitsW Tryz.prog I f args x:=by
 simp only [Prod.mk.injEq] at hc
 exact fitsW_of hfn hc.1 hc.2.1 hc.2.2.1 hc.2.2.2 fun w00 hI=>Ok.go (by kernel_rfl) pM 1000 (h w00 hI)
theorem xT {f:FuncId} {fn:Func} {n:Nat} {T:TypeId} {l:List (Seg Kn)} {x:AV Kn} (hfn:Tryz.prog.funcs[f]?=some fn) (hc:(fn.body.isSome,decide (1≤fn.ntmps),x.noPtr,l.all Seg.noPtr)=(true,true,true,true))
 (h:∀ w00,Ok Tryz.prog f w00 (fun v w=>x.holds [] v w) (cV Tryz.prog 1000 (.items [.code (fn.body.getD .skip)] { slots := [.fv (.sc (.slc 0 0 n n))]++List.replicate (fn.ntmps-1) .un,blocks := [(T,l)],ro:=1 }))):jF f [.fv (.nsl n T l)] x:=by
 simp only [Prod.mk.injEq] at hc
 exact fitsS_of hfn hc.1 hc.2.1 hc.2.2.1 hc.2.2.2 fun w00=>Ok.go (by kernel_rfl) pM 1000 (h w00)
section
variable {f:FuncId} {w00:World} {Out:Value→World→Prop}
theorem fU {c:Cfg Kn} (fn:FuncId) (args:List (AV Kn)) {x:AV Kn} (h:jF fn args x) (hc:(c.callee Tryz.prog,c.args Tryz.prog,c.okT x)=(some fn,args,true)) (hfn:∀ (args:Array Value) (w:World),(callFunc fn args).run Tryz.prog w = .ok (.enter fn args) w)
 (hg:Ok Tryz.prog f w00 Out (cV Tryz.prog 1000 (c.give x))):Ok Tryz.prog f w00 Out c:=by
 simp only [Prod.mk.injEq] at hc
 exact Ok.call fn args h hc.1 hc.2.1 hc.2.2 hfn (Ok.go (by kernel_rfl) pM 1000 hg)
theorem kcallW {I:World→Prop} {c:Cfg Kn} (hI:∀ w,Below w00.heap.size w00 w→I w) (fn:FuncId) (args:List (AV Kn)) {x:AV Kn} (h:FitsW Tryz.prog I fn args x) (hc:(c.callee Tryz.prog,c.args Tryz.prog,c.okT x,c.canB)=(some fn,args,true,true)) (hfn:∀ (args:Array Value) (w:World),(callFunc fn args).run Tryz.prog w = .ok (.enter fn args) w)
 (hg:Ok Tryz.prog f w00 Out (cV Tryz.prog 1000 (c.give x))):Ok Tryz.prog f w00 Out c:=by
 simp only [Prod.mk.injEq] at hc
 exact Ok.callW hI fn args h hc.1 hc.2.1 hc.2.2.1 hc.2.2.2 hfn (Ok.go (by kernel_rfl) pM 1000 hg)
theorem kcallS {c:Cfg Kn} (fn:FuncId) (k n:Nat) (T:TypeId) (l:List (Seg Kn)) {x:AV Kn} (h:jF fn [.fv (.nsl n T l)] x) (hc:(c.callee Tryz.prog,c.args Tryz.prog,c.okT x,c.mem[k]?)=(some fn,[.fv (.sc (.slc k 0 n n))],true,some (some (T,l)))) (hfn:∀ (args:Array Value) (w:World),(callFunc fn args).run Tryz.prog w = .ok (.enter fn args) w)
 (hg:Ok Tryz.prog f w00 Out (cV Tryz.prog 1000 (c.give x))):Ok Tryz.prog f w00 Out c:=by
 simp only [Prod.mk.injEq] at hc
 exact Ok.callS fn k n T l h hc.1 hc.2.1 hc.2.2.1 hc.2.2.2 hfn (Ok.go (by kernel_rfl) pM 1000 hg)
theorem kop2 {c:Cfg Kn} (op:Op) (x y:Operand) (X Y r:AV Kn) (hc:(c.op.map fun o=>o.op,c.okT r,c.ev x,c.ev y)=(some op,true,X,Y)) (hx:x∈op.operands) (hy:y∈op.operands)
 (h:∀ (ρ:Operand→Value) (o:Oper) (β:List Nat) (w:World),o.op=op→X.holds β (ρ x) w→Y.holds β (ρ y) w→∃ v,(execOp ρ o).run Tryz.prog w = .ok (.value v) w∧r.holds β v w)
 (hg:Ok Tryz.prog f w00 Out (cV Tryz.prog 1000 (c.give r))):Ok Tryz.prog f w00 Out c:=by
 simp only [Prod.mk.injEq] at hc
 obtain ⟨h1,h2,h3,h4⟩:=hc
 rw [Option.map_eq_some_iff] at h1
 obtain ⟨o,ho,ho2⟩:=h1
 refine Ok.op o r ho h2 (fun β ρ w _ _ hs => .inl ?_) (Ok.go (by kernel_rfl) pM 1000 hg)
 obtain ⟨v,e,hv⟩:=h ρ o β w ho2 (by rw [← h3];exact hs x (by rw [ho2];exact hx)) (by rw [← h4];exact hs y (by rw [ho2];exact hy))
 exact ⟨v,w,e,aB _ _,hv⟩
theorem kret {c:Cfg Kn} {fn:Func} {x:AV Kn} (hfn:Tryz.prog.funcs[f]?=some fn) (hc:(x.noPtr,c.res Tryz.prog fn)=(true,some x)):Ok Tryz.prog f w00 (fun v w=>x.holds [] v w) c:=by
 simp only [Prod.mk.injEq] at hc
 exact Ok.ret hfn hc.1 hc.2
end
theorem jK{f:FuncId}{w00:World}{Out:Value→World→Prop}{c:Cfg Kn}(op:Op)(x y:Operand)(X Y r:AV Kn)(h:∀(ρ:Operand→Value)(o:Oper)(β:List Nat)(w:World),o.op=op→X.holds β (ρ x) w→Y.holds β (ρ y) w→∃v,(execOp ρ o).run Tryz.prog w=.ok (.value v) w∧r.holds β v w)(hg:Ok Tryz.prog f w00 Out (cV Tryz.prog 1000 (c.give r)))(hc:(c.op.map fun o=>o.op,c.okT r,c.ev x,c.ev y)=(some op,true,X,Y):=by kernel_rfl)(hx:x∈op.operands:=by simp [Op.operands,Call.operands])(hy:y∈op.operands:=by simp [Op.operands,Call.operands]):Ok Tryz.prog f w00 Out c:=kop2 op x y X Y r hc hx hy h hg
theorem jC{f:FuncId}{w00:World}{Out:Value→World→Prop}{c:Cfg Kn}(fn:FuncId)(args:List (AV Kn)){x:AV Kn}(h:jF fn args x)(hg:Ok Tryz.prog f w00 Out (cV Tryz.prog 1000 (c.give x)))(hc:(c.callee Tryz.prog,c.args Tryz.prog,c.okT x)=(some fn,args,true):=by kernel_rfl)(hfn:∀(args:Array Value)(w:World),(callFunc fn args).run Tryz.prog w=.ok (.enter fn args) w:=by intro _ _;kernel_rfl):Ok Tryz.prog f w00 Out c:=fU fn args h hc hfn hg
theorem jR{f:FuncId}{w00:World}{c:Cfg Kn}{fn:Func}{x:AV Kn}(hfn:Tryz.prog.funcs[f]?=some fn)(hc:(x.noPtr,c.res Tryz.prog fn)=(true,some x):=by kernel_rfl):Ok Tryz.prog f w00 (fun v w=>x.holds [] v w) c:=kret hfn hc
theorem jG{f:FuncId}{fn:Func}{args:List (AV Kn)}{x:AV Kn}(hfn:Tryz.prog.funcs[f]?=some fn)(h:∀w00,Ok Tryz.prog f w00 (fun v w=>x.holds [] v w) (cV Tryz.prog 1000 (pZ fn args)))(hc:(fn.body.isSome,decide (args.length≤fn.ntmps),x.noPtr,args.all AV.noPtr)=(true,true,true,true):=by kernel_rfl):jF f args x:=kgo hfn hc h
theorem jW{f:FuncId}{w00:World}{Out:Value→World→Prop}{I:World→Prop}{c:Cfg Kn}(hI:∀w,Below w00.heap.size w00 w→I w)(fn:FuncId)(args:List (AV Kn)){x:AV Kn}(h:FitsW Tryz.prog I fn args x)(hg:Ok Tryz.prog f w00 Out (cV Tryz.prog 1000 (c.give x)))(hc:(c.callee Tryz.prog,c.args Tryz.prog,c.okT x,c.canB)=(some fn,args,true,true):=by kernel_rfl)(hfn:∀(args:Array Value)(w:World),(callFunc fn args).run Tryz.prog w=.ok (.enter fn args) w:=by intro _ _;kernel_rfl):Ok Tryz.prog f w00 Out c:=kcallW hI fn args h hc hfn hg
theorem rD {p q:Rat} (hp:Lf 36 p) (hq:Lf 36 q):jF 36 [num p,num q] (num (p+q)):=rC fun v v' w h h'=>plus_nb v v' p q w h h' hp hq
theorem mP {p q:Rat} (hp:Lf 36 p) (hq:Lf 36 q):jF 37 [num p,num q] (num (p-q)):=rC fun v v' w h h'=>minus_nb v v' p q w h h' hp hq
theorem eT {p q:Rat} (hp:Lf 38 p) (hq:Lf 38 q):jF 38 [num p,num q] (num (p*q)):=rC fun v v' w h h'=>times_nb v v' p q w h h' hp hq
theorem tX {p q:Rat} (hp:Lf 38 p) (hq:Lf 38 q) (h0:q≠0):jF 42 [num p,num q] (num (p/q)):=rC fun v v' w h h'=>over_nb v v' p q w h h' hp hq h0
theorem negatedF {p:Rat}:jF 109 [num p] (num (-p)):=fits_nb1 fun v w h=>wI v p w h
abbrev bl (b:Bool):AV Kn := .fv (.sc (.lit (.bool b)))
abbrev it (n:Int):AV Kn := .fv (.sc (.lit (.int .i64 n)))
theorem iB {p:Rat} {b:Bool} (h:decide (p=0)=b):jF 41 [num p] (bl b):=by
 intro β w vs hv
 obtain ⟨v,rfl,h1⟩:=dB hv
 refine (oQ v p w (cB.1 h1)).mono fun e w' ⟨e1,h2⟩=>⟨_,e1,h2,?_⟩
 rw [h]
 exact ⟨rfl,rfl⟩
theorem signF {p:Rat}:jF 102 [num p] (it (eF p)):=by
 intro β w vs hv
 obtain ⟨v,rfl,h1⟩:=dB hv
 exact (oR v p w (cB.1 h1)).mono fun e w' ⟨e1,h2⟩=>⟨_,e1,h2,rfl,rfl⟩
theorem Lf.addn {n:Nat} {p q:Rat} (hp:Lf (n-2) p) (hq:Lf (n-2) q) (hn:2≤n):Lf n (p+q):=(Lf.add hp hq).mono (by omega)
theorem Lf.subn {n:Nat} {p q:Rat} (hp:Lf (n-2) p) (hq:Lf (n-2) q) (hn:2≤n):Lf n (p-q):=by
 rw [Rat.sub_eq_add_neg]
 exact Lf.addn hp hq.neg hn
theorem Lf.muln {n:Nat} {p q:Rat} (hp:Lf (n-1) p) (hq:Lf (n-1) q) (hn:1≤n):Lf n (p*q):=(Lf.mul hp hq).mono (by omega)
end Ab
namespace Ab
open Go.RowKit
abbrev eN (F:FuncId):AV Kn := .fv (.sc (.lit (.func (.func F) #[] #[])))
abbrev qA (F:FuncId):Prop := ∀ (args:Array Value) (w:World),(callFunc F args).run Tryz.prog w = .ok (.enter F args) w
theorem joinF {F:FuncId} {a1 a2 a3 b1 b2 b3 r1 r2 r3:Rat} (hF:qA F) (h1:jF F [num a1,num b1] (num r1)) (h2:jF F [num a2,num b2] (num r2)) (h3:jF F [num a3,num b3] (num r3)) :
 jF 90 [eN F,vc a1 a2 a3,vc b1 b2 b3] (vc r1 r2 r3):=by
 refine jG Tryz.func90 fun w00=>?_
 refine fU F [num a1,num b1] (h1) (by kernel_rfl) (hF) ?_
 refine fU F [num a2,num b2] (h2) (by kernel_rfl) (hF) ?_
 refine fU F [num a3,num b3] (h3) (by kernel_rfl) (hF) ?_
 exact jR Tryz.func90
abbrev cloN (F:FuncId) (c:Rat):AV Kn := .fv (.clo F [(true,[nb c])] [])
theorem eachC {F:FuncId} {c a1 a2 a3 r1 r2 r3:Rat} (hF:qA F) (h1:jF F [num c,num a1] (num r1)) (h2:jF F [num c,num a2] (num r2)) (h3:jF F [num c,num a3] (num r3)) :
 jF 163 [cloN F c,vc a1 a2 a3] (vc r1 r2 r3):=by
 refine jG Tryz.func163 fun w00=>?_
 refine fU F [num c,num a1] (h1) (by kernel_rfl) (hF) ?_
 refine fU F [num c,num a2] (h2) (by kernel_rfl) (hF) ?_
 refine fU F [num c,num a3] (h3) (by kernel_rfl) (hF) ?_
 exact jR Tryz.func163
abbrev iv (a b c:Int):AV Kn := .fv (.ag [.lit (.int .i64 a),.lit (.int .i64 b),.lit (.int .i64 c)])
theorem lF {n:Int} (hn:-9223372036854775808≤n∧n≤9223372036854775807):jF 83 [it n] (num (n:Rat)):=by
 intro β w vs hv
 obtain ⟨v,rfl,h1⟩:=dB hv
 rw [aQ h1]
 exact (integer_any n w hn.1 hn.2).mono fun e w' ⟨u,e,h1,h2⟩=>⟨u,e,h2,cB.2 h1⟩
theorem eachI {F:FuncId} {a1 a2 a3:Int} {r1 r2 r3:Rat} (hF:qA F) (h1:jF F [it a1] (num r1)) (h2:jF F [it a2] (num r2)) (h3:jF F [it a3] (num r3)) :
 jF 167 [eN F,iv a1 a2 a3] (vc r1 r2 r3):=by
 refine jG Tryz.func167 fun w00=>?_
 refine fU F [it a1] (h1) (by kernel_rfl) (hF) ?_
 refine fU F [it a2] (h2) (by kernel_rfl) (hF) ?_
 refine fU F [it a3] (h3) (by kernel_rfl) (hF) ?_
 exact jR Tryz.func167
abbrev zY (n:Int):Prop := -9223372036854775808≤n∧n≤9223372036854775807
theorem jA {a b c:Int} (ha:zY a) (hb:zY b) (hc:zY c):jF 95 [iv a b c] (vc a b c):=by
 refine jG Tryz.func95 fun w00=>?_
 refine jC 167 [eN 83,iv a b c] (eachI Tryz.call83 (lF ha) (lF hb) (lF hc)) ?_
 exact jR Tryz.func95
theorem Fits.args {P:Program} {f:FuncId} {l l' : List (AV Kn)} {x:AV Kn} (h:Fits P f l x) (hl:∀ β vs w,holdsA β l' vs w→holdsA β l vs w):Fits P f l' x:=fun β w vs hv=>h β w vs (hl β vs w hv)
abbrev zeroN:AV Kn := .fv (.ag [.lit (.int .i64 0),.lit (.int .i64 0),.lit (.pointer none)])
theorem zero_num {β:List Nat} {v:Value} {w:World} (h:zeroN.holds β v w):(num 0).holds β v w:=by
 obtain ⟨cs,rfl,a,r,rfl,⟨rfl,_⟩,b,r2,rfl,⟨rfl,_⟩,c,r3,rfl,⟨rfl,_⟩,e⟩:=h
 rw [show r3 = [] from e]
 exact cB.2 (.inl ⟨uQ,rfl⟩)
section
variable {a1 a2 a3 b1 b2 b3 c:Rat}
theorem sU (h1:Lf 36 a1) (h2:Lf 36 a2) (h3:Lf 36 a3) (k1:Lf 36 b1) (k2:Lf 36 b2) (k3:Lf 36 b3):jF 80 [vc a1 a2 a3,vc b1 b2 b3] (vc (a1+b1) (a2+b2) (a3+b3)):=by
 refine jG Tryz.func80 fun w00=>?_
 refine jC 90 [eN 36,vc a1 a2 a3,vc b1 b2 b3] (joinF Tryz.call36 (rD h1 k1) (rD h2 k2) (rD h3 k3)) ?_
 exact jR Tryz.func80
theorem zZ (h1:Lf 36 a1) (h2:Lf 36 a2) (h3:Lf 36 a3) (k1:Lf 36 b1) (k2:Lf 36 b2) (k3:Lf 36 b3):jF 77 [vc a1 a2 a3,vc b1 b2 b3] (vc (a1-b1) (a2-b2) (a3-b3)):=by
 refine jG Tryz.func77 fun w00=>?_
 refine jC 90 [eN 37,vc a1 a2 a3,vc b1 b2 b3] (joinF Tryz.call37 (mP h1 k1) (mP h2 k2) (mP h3 k3)) ?_
 exact jR Tryz.func77
theorem gI (hc:Lf 38 c) (h1:Lf 38 a1) (h2:Lf 38 a2) (h3:Lf 38 a3):jF 82 [vc a1 a2 a3,num c] (vc (c*a1) (c*a2) (c*a3)):=by
 refine jG Tryz.func82 fun w00=>?_
 refine jC 163 [cloN 38 c,vc a1 a2 a3] (eachC Tryz.call38 (eT hc h1) (eT hc h2) (eT hc h3)) ?_
 exact jR Tryz.func82
theorem totalF {T:TypeId} (h1:Lf 32 a1) (h2:Lf 32 a2) (h3:Lf 32 a3):jF 159 [.fv (.nsl 3 T [nb a1,nb a2,nb a3])] (num (a1+a2+a3)):=by
 refine xT Tryz.func159 (by kernel_rfl) fun w00=>?_
 refine jC 36 [zeroN,num a1] (Fits.args (rD (p:=0) (q:=a1) (Lf.zero _) (h1.mono (by decide))) (fun β vs w ⟨v,r,e,k1,k2⟩=>⟨v,r,e,zero_num k1,k2⟩)) ?_
 refine jC 36 [num (0+a1),num a2] (rD ((Lf.addn (n:=34) (Lf.zero _) h1 (by decide)).mono (by decide)) (h2.mono (by decide))) ?_
 refine jC 36 [num (0+a1+a2),num a3] (rD (Lf.addn (n:=36) (Lf.addn (n:=34) (Lf.zero _) h1 (by decide)) (h2.mono (by decide)) (by decide)) (h3.mono (by decide))) ?_
 rw [show a1+a2+a3=0+a1+a2+a3 by rw [Rat.zero_add]]
 exact jR Tryz.func159
theorem aAa (h1:Lf 35 a1) (h2:Lf 35 a2) (h3:Lf 35 a3) (k1:Lf 35 b1) (k2:Lf 35 b2) (k3:Lf 35 b3) :
 jF 70 [vc a1 a2 a3,vc b1 b2 b3] (vc (a2*b3-a3*b2) (a3*b1-a1*b3) (a1*b2-a2*b1)):=by
 refine jG Tryz.func70 fun w00=>?_
 refine jC 38 [num a2,num b3] (eT (h2.mono (by decide)) (k3.mono (by decide))) ?_
 refine jC 38 [num a3,num b2] (eT (h3.mono (by decide)) (k2.mono (by decide))) ?_
 refine jC 37 [num (a2*b3),num (a3*b2)] (mP (h2.mul k3) (h3.mul k2)) ?_
 refine jC 38 [num a3,num b1] (eT (h3.mono (by decide)) (k1.mono (by decide))) ?_
 refine jC 38 [num a1,num b3] (eT (h1.mono (by decide)) (k3.mono (by decide))) ?_
 refine jC 37 [num (a3*b1),num (a1*b3)] (mP (h3.mul k1) (h1.mul k3)) ?_
 refine jC 38 [num a1,num b2] (eT (h1.mono (by decide)) (k2.mono (by decide))) ?_
 refine jC 38 [num a2,num b1] (eT (h2.mono (by decide)) (k1.mono (by decide))) ?_
 refine jC 37 [num (a1*b2),num (a2*b1)] (mP (h1.mul k2) (h2.mul k1)) ?_
 exact jR Tryz.func70
theorem wM (h1:Lf 31 a1) (h2:Lf 31 a2) (h3:Lf 31 a3) (k1:Lf 31 b1) (k2:Lf 31 b2) (k3:Lf 31 b3):jF 71 [vc a1 a2 a3,vc b1 b2 b3] (num (a1*b1+a2*b2+a3*b3)):=by
 refine jG Tryz.func71 fun w00=>?_
 refine jC 90 [eN 38,vc a1 a2 a3,vc b1 b2 b3] (joinF Tryz.call38 (eT (h1.mono (by decide)) (k1.mono (by decide))) (eT (h2.mono (by decide)) (k2.mono (by decide))) (eT (h3.mono (by decide)) (k3.mono (by decide)))) ?_
 refine kcallS 159 3 3 99 [nb (a1*b1),nb (a2*b2),nb (a3*b3)] (totalF (h1.mul k1) (h2.mul k2) (h3.mul k3)) (by kernel_rfl) Tryz.call159 ?_
 exact jR Tryz.func71
theorem oT (h1:Lf 31 a1) (h2:Lf 31 a2) (h3:Lf 31 a3):jF 72 [vc a1 a2 a3] (num (a1*a1+a2*a2+a3*a3)):=by
 refine jG Tryz.func72 fun w00=>?_
 refine jC 71 [vc a1 a2 a3,vc a1 a2 a3] (wM h1 h2 h3 h1 h2 h3) ?_
 exact jR Tryz.func72
theorem iF {z:Bool} (h:(decide (a1=0)&&decide (a2=0)&&decide (a3=0))=z):jF 69 [vc a1 a2 a3] (bl z):=by
 intro β w vs hv
 obtain ⟨v,rfl,h1⟩:=dB hv
 refine (isZero_vc v a1 a2 a3 w (wL.1 h1)).mono fun e w' ⟨e1,h2⟩=>⟨_,e1,h2,?_⟩
 rw [h]
 exact ⟨rfl,rfl⟩
end
end Ab
namespace Ab
open Go.RowKit Pl
def csNt (a:Nat):CS Kn where
 size:=1
 cold:=true
 pred cs w := ∃ v,cs = [v]∧Nt w v a
 stable:=fun cs w w' ⟨v,e,h⟩ hx=>⟨v,e,Nt.ext (K:=Kn) (fun _=>rfl) h hx⟩
 len:=fun cs w ⟨v,e,h⟩=>by rw [e];rfl
 one:=fun cs w ⟨v,e,h⟩=>by
  obtain ⟨A,n,c,rfl⟩:=Nt.form h
  rw [e]
  intro c hc
  rw [List.mem_singleton] at hc
  subst hc
  rfl
 iscold:=fun _ cs w ⟨v,e,h⟩=>by
  obtain ⟨A,n,c,rfl⟩:=Nt.form h
  rw [e]
  intro c hc
  rw [List.mem_singleton] at hc
  subst hc
  rfl
abbrev nts (a:Nat):Seg Kn := .sp (csNt a)
abbrev nt (a:Nat):AV Kn := .fv (.sc (nts a))
theorem dF {β:List Nat} {v:Value} {w:World} {a:Nat}:(nt a).holds β v w↔Nt w v a :=
 ⟨fun ⟨u,e,h⟩=>by injection e with e;rw [e];exact h,fun h=>⟨v,rfl,h⟩⟩
abbrev frv (neg:Bool) (n d:Nat):AV Kn := .fv (.ag [.lit (.bool neg),nts n,nts d])
abbrev fra (q:Rat):AV Kn:=frv (decide (q.num<0)) q.num.natAbs q.den
theorem frv_holds {β:List Nat} {v:Value} {w:World} {neg:Bool} {n d:Nat}:(frv neg n d).holds β v w↔∃ s1 s2,v = .agg #[.bool neg,s1,s2]∧Nt w s1 n∧Nt w s2 d:=by
 constructor
 ·rintro ⟨cs,rfl,a,r,rfl,⟨rfl,_⟩,b,r2,rfl,⟨s1,rfl,h1⟩,c,r3,rfl,⟨s2,rfl,h2⟩,e⟩
  rw [show r3 = [] from e]
  exact ⟨s1,s2,rfl,h1,h2⟩
 ·rintro ⟨s1,s2,rfl,h1,h2⟩
  exact ⟨[.bool neg,s1,s2],rfl,[.bool neg],_,rfl,⟨rfl,rfl⟩,[s1],_,rfl,⟨s1,rfl,h1⟩,[s2],[],rfl,⟨s2,rfl,h2⟩,rfl⟩
theorem sV {β:List Nat} {v:Value} {w:World} {q:Rat}:(fra q).holds β v w↔Fr w v q:=frv_holds
theorem eD {q:Rat}:jF 107 [num q] (fra q):=by
 intro β w vs hv
 obtain ⟨v,rfl,h1⟩:=dB hv
 exact (bJ v q w (cB.1 h1)).mono fun e w' ⟨u,e,h1,h2⟩=>⟨u,e,h2,sV.2 h1⟩
theorem iX {q:Rat}:jF 66 [fra q] (num q):=by
 intro β w vs hv
 obtain ⟨v,rfl,h1⟩:=dB hv
 exact (eC v q w (sV.1 h1)).mono fun e w' ⟨u,e,h1,h2⟩=>⟨u,e,h2,cB.2 h1⟩
theorem wO {a b:Nat} (ha:Lv 40 a) (hb:Lv 40 b) (h0:0<a∨0<b):jF 114 [nt a,nt b] (nt (Nat.gcd a b)):=by
 intro β w vs hv
 obtain ⟨v,u,rfl,h1,h2⟩:=dN hv
 exact (uP v u a b w (dF.1 h1) (dF.1 h2) ha hb h0).mono fun e w' ⟨u,e,h1,h2⟩=>⟨u,e,h2,dF.2 h1⟩
theorem ntimesF {a b:Nat} (ha:Lv 40 a) (hb:Lv 40 b):jF 154 [nt a,nt b] (nt (a*b)):=by
 intro β w vs hv
 obtain ⟨v,u,rfl,h1,h2⟩:=dN hv
 exact (fI (dF.1 h1) (dF.1 h2) ha hb).mono fun e w' ⟨u,e,h1,h2⟩=>⟨u,e,h2,dF.2 h1⟩
theorem jZ {a b:Nat} (ha:Lv 40 a) (hb:0<b):jF 152 [nt a,nt b] (.tup [.sc (nts (a/b)),.sc (nts (a%b))]):=by
 intro β w vs hv
 obtain ⟨v,u,rfl,h1,h2⟩:=dN hv
 refine (eJ (dF.1 h1) (dF.1 h2) ha hb).mono fun e w' ⟨u,u',e,h1,h2,h3⟩=>⟨_,e,h3,?_⟩
 exact ⟨[u,u'],rfl,u,_,rfl,⟨u,rfl,h1⟩,u',_,rfl,⟨u',rfl,h2⟩,rfl⟩
theorem naturalOfF {a:Nat} (ha:a<aD):jF 155 [.fv (.sc (.lit (.int .u64 (a:Int))))] (nt a):=by
 intro β w vs hv
 obtain ⟨v,rfl,h1⟩:=dB hv
 rw [aQ h1]
 exact (bG a ha w).mono fun e w' ⟨u,e,h1,h2⟩=>⟨u,e,h2,dF.2 h1⟩
theorem nX {neg:Bool} {n d:Nat} (hn:Lv 40 n) (hd:Lv 40 d) (hd0:0<d):jF 64 [bl neg,nt n,nt d] (fra (mkRat (sg neg n) d)):=by
 rintro β w vs ⟨v,r,rfl,h0,hv⟩
 obtain ⟨v',u,rfl,h1,h2⟩:=dN hv
 rw [aQ h0]
 exact (iZ neg n d v' u w (dF.1 h1) (dF.1 h2) hn hd hd0).mono fun e w' ⟨u,e,h1,h2⟩=>⟨u,e,h2,sV.2 h1⟩
abbrev hf (a b c d:Rat):AV Kn := .fv (.ag [nb a,nb b,nb c,nb d])
abbrev qB (o1 o2 o3 x1 x2 x3 y1 y2 y3 z1 z2 z3:Rat):AV Kn := .fv (.ag [nb o1,nb o2,nb o3,nb x1,nb x2,nb x3,nb y1,nb y2,nb y3,nb z1,nb z2,nb z3])
abbrev mt (x1 x2 x3 y1 y2 y3 z1 z2 z3:Rat):AV Kn := .fv (.ag [nb x1,nb x2,nb x3,nb y1,nb y2,nb y3,nb z1,nb z2,nb z3])
abbrev dt (a1 a2 a3 b1 b2 b3:Rat):Rat:=a1*b1+a2*b2+a3*b3
theorem pN {n:Nat} {a1 a2 a3 b1 b2 b3:Rat} (h1:Lf (n-5) a1) (h2:Lf (n-5) a2) (h3:Lf (n-5) a3) (k1:Lf (n-5) b1) (k2:Lf (n-5) b2) (k3:Lf (n-5) b3) (hn:5≤n):Lf n (dt a1 a2 a3 b1 b2 b3) :=
 Lf.addn (Lf.addn ((h1.mul k1).mono (by omega)) ((h2.mul k2).mono (by omega)) (by omega)) ((h3.mul k3).mono (by omega)) (by omega)
section
variable {n1 n2 n3 d p1 p2 p3:Rat}
theorem aAb (h1:Lf 31 n1) (h2:Lf 31 n2) (h3:Lf 31 n3) (hd:Lf 36 d) (k1:Lf 31 p1) (k2:Lf 31 p2) (k3:Lf 31 p3):jF 101 [hf n1 n2 n3 d,vc p1 p2 p3] (num (dt n1 n2 n3 p1 p2 p3-d)):=by
 refine jG Tryz.func101 fun w00=>?_
 refine jC 71 [vc n1 n2 n3,vc p1 p2 p3] (wM h1 h2 h3 k1 k2 k3) ?_
 refine jC 37 [num (dt n1 n2 n3 p1 p2 p3),num d] (mP (pN h1 h2 h3 k1 k2 k3 (by decide)) hd) ?_
 exact jR Tryz.func101
abbrev lG (n1 n2 n3 d p1 p2 p3:Rat):Rat := -(dt n1 n2 n3 p1 p2 p3-d)/dt n1 n2 n3 n1 n2 n3
theorem lf_way {n:Nat} (h1:Lf (n-11) n1) (h2:Lf (n-11) n2) (h3:Lf (n-11) n3) (hd:Lf (n-6) d) (k1:Lf (n-11) p1) (k2:Lf (n-11) p2) (k3:Lf (n-11) p3) (hn:11≤n):Lf n (lG n1 n2 n3 d p1 p2 p3):=by
 rw [lG,Rat.div_def]
 have e1:Lf (n-6) (dt n1 n2 n3 p1 p2 p3):=pN (h1.mono (by omega)) (h2.mono (by omega)) (h3.mono (by omega)) (k1.mono (by omega)) (k2.mono (by omega)) (k3.mono (by omega)) (by omega)
 have e2:Lf (n-6) (dt n1 n2 n3 n1 n2 n3):=pN (h1.mono (by omega)) (h2.mono (by omega)) (h3.mono (by omega)) (h1.mono (by omega)) (h2.mono (by omega)) (h3.mono (by omega)) (by omega)
 exact Lf.muln ((Lf.subn (n:=n-4) (e1.mono (by omega)) (hd.mono (by omega)) (by omega)).neg.mono (by omega)) ((Lf.inv e2).mono (by omega)) (by omega)
theorem toPlaneF (h1:Lf 25 n1) (h2:Lf 25 n2) (h3:Lf 25 n3) (hd:Lf 30 d) (k1:Lf 25 p1) (k2:Lf 25 p2) (k3:Lf 25 p3) (h0:dt n1 n2 n3 n1 n2 n3≠0) :
 jF 81 [hf n1 n2 n3 d,vc p1 p2 p3] (vc (lG n1 n2 n3 d p1 p2 p3*n1) (lG n1 n2 n3 d p1 p2 p3*n2) (lG n1 n2 n3 d p1 p2 p3*n3)):=by
 have hE:Lf 32 (dt n1 n2 n3 p1 p2 p3-d):=Lf.subn (pN h1 h2 h3 k1 k2 k3 (by decide)) (hd.mono (by decide)) (by decide)
 refine jG Tryz.func81 fun w00=>?_
 refine jC 101 [hf n1 n2 n3 d,vc p1 p2 p3] (aAb (h1.mono (by decide)) (h2.mono (by decide)) (h3.mono (by decide)) (hd.mono (by decide)) (k1.mono (by decide)) (k2.mono (by decide)) (k3.mono (by decide))) ?_
 refine jC 109 [num (dt n1 n2 n3 p1 p2 p3-d)] (negatedF) ?_
 refine jC 72 [vc n1 n2 n3] (oT (h1.mono (by decide)) (h2.mono (by decide)) (h3.mono (by decide))) ?_
 refine jC 42 [num (-(dt n1 n2 n3 p1 p2 p3-d)),num (dt n1 n2 n3 n1 n2 n3)] (tX (hE.neg.mono (by decide)) (pN (h1.mono (by decide)) (h2.mono (by decide)) (h3.mono (by decide)) (h1.mono (by decide)) (h2.mono (by decide)) (h3.mono (by decide)) (by decide)) h0) ?_
 refine jC 82 [vc n1 n2 n3,num (lG n1 n2 n3 d p1 p2 p3)] (gI (lf_way (n:=38) (h1.mono (by decide)) (h2.mono (by decide)) (h3.mono (by decide)) (hd.mono (by decide)) (k1.mono (by decide)) (k2.mono (by decide)) (k3.mono (by decide)) (by decide)) (h1.mono (by decide)) (h2.mono (by decide)) (h3.mono (by decide))) ?_
 exact jR Tryz.func81
end
section
variable {x1 x2 x3 y1 y2 y3 z1 z2 z3 r1 r2 r3:Rat} {F:FuncId}
theorem eachVN (hF:qA F) (h1:jF F [vc x1 x2 x3] (num r1)) (h2:jF F [vc y1 y2 y3] (num r2)) (h3:jF F [vc z1 z2 z3] (num r3)):jF 166 [eN F,mt x1 x2 x3 y1 y2 y3 z1 z2 z3] (vc r1 r2 r3):=by
 refine jG Tryz.func166 fun w00=>?_
 refine fU F [vc x1 x2 x3] (h1) (by kernel_rfl) (hF) ?_
 refine fU F [vc y1 y2 y3] (h2) (by kernel_rfl) (hF) ?_
 refine fU F [vc z1 z2 z3] (h3) (by kernel_rfl) (hF) ?_
 exact jR Tryz.func166
theorem eachVVc {s1 s2 s3 t1 t2 t3 u1 u2 u3 o1 o2 o3 a1 a2 a3 b1 b2 b3 c1 c2 c3:Rat} (hF:qA F) (h1:jF F [qB o1 o2 o3 a1 a2 a3 b1 b2 b3 c1 c2 c3,vc x1 x2 x3] (vc s1 s2 s3)) (h2:jF F [qB o1 o2 o3 a1 a2 a3 b1 b2 b3 c1 c2 c3,vc y1 y2 y3] (vc t1 t2 t3)) (h3:jF F [qB o1 o2 o3 a1 a2 a3 b1 b2 b3 c1 c2 c3,vc z1 z2 z3] (vc u1 u2 u3)):jF 96 [.fv (.clo F [(true,[nb o1,nb o2,nb o3,nb a1,nb a2,nb a3,nb b1,nb b2,nb b3,nb c1,nb c2,nb c3])] []),mt x1 x2 x3 y1 y2 y3 z1 z2 z3] (mt s1 s2 s3 t1 t2 t3 u1 u2 u3):=by
 refine jG Tryz.func96 fun w00=>?_
 refine fU F [qB o1 o2 o3 a1 a2 a3 b1 b2 b3 c1 c2 c3,vc x1 x2 x3] (h1) (by kernel_rfl) (hF) ?_
 refine fU F [qB o1 o2 o3 a1 a2 a3 b1 b2 b3 c1 c2 c3,vc y1 y2 y3] (h2) (by kernel_rfl) (hF) ?_
 refine fU F [qB o1 o2 o3 a1 a2 a3 b1 b2 b3 c1 c2 c3,vc z1 z2 z3] (h3) (by kernel_rfl) (hF) ?_
 exact jR Tryz.func96
theorem eachIV {s1 s2 s3 t1 t2 t3 u1 u2 u3:Rat} (hF:qA F) (h1:jF F [iv 1 0 0] (vc s1 s2 s3)) (h2:jF F [iv 0 1 0] (vc t1 t2 t3)) (h3:jF F [iv 0 0 1] (vc u1 u2 u3)):jF 168 [eN F,.fv (.ag [.lit (.int .i64 1),.lit (.int .i64 0),.lit (.int .i64 0),.lit (.int .i64 0),.lit (.int .i64 1),.lit (.int .i64 0),.lit (.int .i64 0),.lit (.int .i64 0),.lit (.int .i64 1)])] (mt s1 s2 s3 t1 t2 t3 u1 u2 u3):=by
 refine jG Tryz.func168 fun w00=>?_
 refine fU F [iv 1 0 0] (h1) (by kernel_rfl) (hF) ?_
 refine fU F [iv 0 1 0] (h2) (by kernel_rfl) (hF) ?_
 refine fU F [iv 0 0 1] (h3) (by kernel_rfl) (hF) ?_
 exact jR Tryz.func168
theorem unitsF:jF 97 [] (mt (1:Int) (0:Int) (0:Int) (0:Int) (1:Int) (0:Int) (0:Int) (0:Int) (1:Int)):=by
 have i1:zY 1:=by constructor <;> omega
 have i0:zY 0:=by constructor <;> omega
 refine jG Tryz.func97 fun w00=>?_
 refine jC 168 [eN 95,.fv (.ag [.lit (.int .i64 1),.lit (.int .i64 0),.lit (.int .i64 0),.lit (.int .i64 0),.lit (.int .i64 1),.lit (.int .i64 0),.lit (.int .i64 0),.lit (.int .i64 0),.lit (.int .i64 1)])] (eachIV Tryz.call95 (jA i1 i0 i0) (jA i0 i1 i0) (jA i0 i0 i1)) ?_
 exact jR Tryz.func97
variable {o1 o2 o3 p1 p2 p3:Rat}
structure Lm (k:Nat) (x1 x2 x3 y1 y2 y3 z1 z2 z3:Rat):Prop where
 x1:Lf k x1
 x2:Lf k x2
 x3:Lf k x3
 y1:Lf k y1
 y2:Lf k y2
 y3:Lf k y3
 z1:Lf k z1
 z2:Lf k z2
 z3:Lf k z3
structure Lv3 (k:Nat) (a b c:Rat):Prop where
 a:Lf k a
 b:Lf k b
 c:Lf k c
theorem Lm.mono {k l:Nat} (h:Lm k x1 x2 x3 y1 y2 y3 z1 z2 z3) (hk:k≤l):Lm l x1 x2 x3 y1 y2 y3 z1 z2 z3:=⟨h.x1.mono hk,h.x2.mono hk,h.x3.mono hk,h.y1.mono hk,h.y2.mono hk,h.y3.mono hk,h.z1.mono hk,h.z2.mono hk,h.z3.mono hk⟩
theorem Lv3.mono {k l:Nat} {a b c:Rat} (h:Lv3 k a b c) (hk:k≤l):Lv3 l a b c:=⟨h.a.mono hk,h.b.mono hk,h.c.mono hk⟩
theorem squaresF (h:Lm 31 x1 x2 x3 y1 y2 y3 z1 z2 z3):jF 91 [qB o1 o2 o3 x1 x2 x3 y1 y2 y3 z1 z2 z3] (vc (dt x1 x2 x3 x1 x2 x3) (dt y1 y2 y3 y1 y2 y3) (dt z1 z2 z3 z1 z2 z3)):=by
 refine jG Tryz.func91 fun w00=>?_
 refine jC 166 [eN 72,mt x1 x2 x3 y1 y2 y3 z1 z2 z3] (eachVN Tryz.call72 (oT h.x1 h.x2 h.x3) (oT h.y1 h.y2 h.y3) (oT h.z1 h.z2 h.z3)) ?_
 exact jR Tryz.func91
abbrev ld (p1 p2 p3 x y z:Rat):Rat:=p1*x+p2*y+p3*z
theorem leadF (h:Lm 31 x1 x2 x3 y1 y2 y3 z1 z2 z3) (k:Lv3 31 p1 p2 p3):jF 89 [qB o1 o2 o3 x1 x2 x3 y1 y2 y3 z1 z2 z3,vc p1 p2 p3] (vc (ld p1 p2 p3 x1 y1 z1) (ld p1 p2 p3 x2 y2 z2) (ld p1 p2 p3 x3 y3 z3)):=by
 have k1:=k.a.mono (l:=38) (by decide)
 have k2:=k.b.mono (l:=38) (by decide)
 have k3:=k.c.mono (l:=38) (by decide)
 have h':=h.mono (l:=38) (by decide)
 refine jG Tryz.func89 fun w00=>?_
 refine jC 82 [vc x1 x2 x3,num p1] (gI k1 h'.x1 h'.x2 h'.x3) ?_
 refine jC 82 [vc y1 y2 y3,num p2] (gI k2 h'.y1 h'.y2 h'.y3) ?_
 refine jC 80 [vc (p1*x1) (p1*x2) (p1*x3),vc (p2*y1) (p2*y2) (p2*y3)] (sU ((k.a.mul h.x1).mono (by decide)) ((k.a.mul h.x2).mono (by decide)) ((k.a.mul h.x3).mono (by decide)) ((k.b.mul h.y1).mono (by decide)) ((k.b.mul h.y2).mono (by decide)) ((k.b.mul h.y3).mono (by decide))) ?_
 refine jC 82 [vc z1 z2 z3,num p3] (gI k3 h'.z1 h'.z2 h'.z3) ?_
 refine jC 80 [vc (p1*x1+p2*y1) (p1*x2+p2*y2) (p1*x3+p2*y3),vc (p3*z1) (p3*z2) (p3*z3)] (sU (((k.a.mul h.x1).add (k.b.mul h.y1)).mono (by decide)) (((k.a.mul h.x2).add (k.b.mul h.y2)).mono (by decide)) (((k.a.mul h.x3).add (k.b.mul h.y3)).mono (by decide)) ((k.c.mul h.z1).mono (by decide)) ((k.c.mul h.z2).mono (by decide)) ((k.c.mul h.z3).mono (by decide))) ?_
 exact jR Tryz.func89
theorem lf_ld {n:Nat} {p1 p2 p3 x y z:Rat} (k:Lv3 (n-5) p1 p2 p3) (hx:Lf (n-5) x) (hy:Lf (n-5) y) (hz:Lf (n-5) z) (hn:5≤n):Lf n (ld p1 p2 p3 x y z):=pN (a1:=p1) (a2:=p2) (a3:=p3) k.a k.b k.c hx hy hz hn
theorem placeF (h:Lm 31 x1 x2 x3 y1 y2 y3 z1 z2 z3) (k:Lv3 31 p1 p2 p3) (ho:Lv3 36 o1 o2 o3) :
 jF 87 [qB o1 o2 o3 x1 x2 x3 y1 y2 y3 z1 z2 z3,vc p1 p2 p3] (vc (o1+ld p1 p2 p3 x1 y1 z1) (o2+ld p1 p2 p3 x2 y2 z2) (o3+ld p1 p2 p3 x3 y3 z3)):=by
 refine jG Tryz.func87 fun w00=>?_
 refine jC 89 [qB o1 o2 o3 x1 x2 x3 y1 y2 y3 z1 z2 z3,vc p1 p2 p3] (leadF h k) ?_
 refine jC 80 [vc o1 o2 o3,vc (ld p1 p2 p3 x1 y1 z1) (ld p1 p2 p3 x2 y2 z2) (ld p1 p2 p3 x3 y3 z3)] (sU ho.a ho.b ho.c (lf_ld k h.x1 h.y1 h.z1 (by decide)) (lf_ld k h.x2 h.y2 h.z2 (by decide)) (lf_ld k h.x3 h.y3 h.z3 (by decide))) ?_
 exact jR Tryz.func87
structure Sq0 (x1 x2 x3 y1 y2 y3 z1 z2 z3:Rat):Prop where
 x:dt x1 x2 x3 x1 x2 x3≠0
 y:dt y1 y2 y3 y1 y2 y3≠0
 z:dt z1 z2 z3 z1 z2 z3≠0
theorem tY (h:Lm 31 x1 x2 x3 y1 y2 y3 z1 z2 z3) (hxy:dt x1 x2 x3 y1 y2 y3=0) (hyz:dt y1 y2 y3 z1 z2 z3=0) (hzx:dt z1 z2 z3 x1 x2 x3=0) :
 jF 169 [qB o1 o2 o3 x1 x2 x3 y1 y2 y3 z1 z2 z3] (bl true):=by
 refine jG Tryz.func169 fun w00=>?_
 refine jC 71 [vc x1 x2 x3,vc y1 y2 y3] (wM h.x1 h.x2 h.x3 h.y1 h.y2 h.y3) ?_
 refine jC 41 [num (dt x1 x2 x3 y1 y2 y3)] (iB (b:=true) (by rw [decide_eq_true_eq];exact hxy)) ?_
 refine jC 71 [vc y1 y2 y3,vc z1 z2 z3] (wM h.y1 h.y2 h.y3 h.z1 h.z2 h.z3) ?_
 refine jC 41 [num (dt y1 y2 y3 z1 z2 z3)] (iB (b:=true) (by rw [decide_eq_true_eq];exact hyz)) ?_
 refine jC 71 [vc z1 z2 z3,vc x1 x2 x3] (wM h.z1 h.z2 h.z3 h.x1 h.x2 h.x3) ?_
 refine jC 41 [num (dt z1 z2 z3 x1 x2 x3)] (iB (b:=true) (by rw [decide_eq_true_eq];exact hzx)) ?_
 exact jR Tryz.func169
end
def csIs (v:Value) (h:v.oneCell'=true) (c:Bool) (hc:c=true→Kn v=false):CS Kn where
 size:=1
 cold:=c
 pred cs _:=cs = [v]
 stable _ _ _ h _:=h
 len _ _ h:=by rw [h];rfl
 one _ _ hp:=by rw [hp];intro c hc;rw [List.mem_singleton] at hc;rw [hc];exact h
 iscold hb _ _ hp:=by rw [hp];intro d hd;rw [List.mem_singleton] at hd;rw [hd];exact hc hb
abbrev eU (s:ByteArray):Seg Kn := .sp (csIs (.string s) rfl true (fun _=>rfl))
abbrev pB (n:Int):Seg Kn := .sp (csIs (.int .i64 n) rfl true (fun _=>rfl))
abbrev isU (n:Int):Seg Kn := .sp (csIs (.int .u64 n) rfl false (fun h=>by cases h))
abbrev tx (s:ByteArray):AV Kn := .fv (.sc (eU s))
abbrev lt (s:ByteArray):AV Kn := .fv (.sc (.lit (.string s)))
theorem aU {v u:Value} {h:v.oneCell'=true} {c:Bool} {hc:c=true→Kn v=false} {β:List Nat} {w:World} (k:(AV.fv (.sc (.sp (csIs v h c hc))):AV Kn).holds β u w):u=v:=by
 have:[u] = [v]:=k
 injection this
theorem bN {v:Value} {h:v.oneCell'=true} {c:Bool} {hc:c=true→Kn v=false} {β:List Nat} {w:World}:(AV.fv (.sc (.sp (csIs v h c hc))):AV Kn).holds β v w:=rfl
theorem bK {v:Value} (h:v.oneCell'=true) {β:List Nat} {w:World}:(AV.fv (.sc (.lit v)):AV Kn).holds β v w:=⟨rfl,h⟩
def Gl (w:World):Prop:=Laid w∧∃ m,w.cell? ⟨0,0,none⟩=some (.int .i64 m)
abbrev jX(f:FuncId)(l:List (AV Kn))(x:AV Kn):Prop:=FitsW Tryz.prog Gl f l x
theorem Gl.below {w w' : World} (h:Gl w) (hb:Below w.heap.size w w'):Gl w':=by
 refine ⟨h.1.below hb,?_⟩
 obtain ⟨m,hm⟩:=h.2
 exact ⟨m,(hb.cell (p:=⟨0,0,none⟩) (block_lt_of_cell hm)).trans hm⟩
theorem keepGl {w00:World} (h:Gl w00):∀ w,Below w00.heap.size w00 w→Gl w:=fun _ hb=>h.below hb
theorem jY{f:FuncId}{fn:Func}{args:List (AV Kn)}{x:AV Kn}(hfn:Tryz.prog.funcs[f]?=some fn)(h:∀w00,(∀w,Below w00.heap.size w00 w→Gl w)→Ok Tryz.prog f w00 (fun v w=>x.holds [] v w) (cV Tryz.prog 1000 (pZ fn args)))(hc:(fn.body.isSome,decide (args.length≤fn.ntmps),x.noPtr,args.all AV.noPtr)=(true,true,true,true):=by kernel_rfl):jX f args x:=kgoW hfn hc fun w00 hG=>h w00 (keepGl hG)
def decB (n:Nat):ByteArray:=⟨(Lib.decDigits n).toArray⟩
def overB (q:Rat):ByteArray:=if q.num<0 then ⟨#[45]⟩++decB q.num.natAbs else decB q.num.natAbs
theorem rE {a:Nat} (ha:Lv 20 a):jX 222 [nt a] (tx (decB a)):=by
 intro β w vs hG hv
 obtain ⟨v,rfl,h1⟩:=dB hv
 exact (text_any v a w (dF.1 h1) ha hG.1).mono fun e w' ⟨e1,h2⟩=>⟨_,e1,h2,bN⟩
def yP (n:Int):ByteArray:=⟨(Lib.itoa n).toArray⟩
theorem formatInt0F {n:Int} (hn:zY n):jX 223 [it n,it 10] (tx (yP n)):=by
 intro β w vs hG hv
 obtain ⟨v,u,rfl,h1,h2⟩:=dN hv
 rw [aQ h1,aQ h2]
 refine (Tryz.internal_strconv_FormatInt_10 n hn.1 hn.2 w hG.1).mono fun e w' ⟨e1,k,os,e2⟩=>⟨_,e1,?_,bN⟩
 rw [e2]
 exact (nL w k).trans (vV (w.drewN k) os)
theorem wP {n:Int} (hn:zY n):jX 182 [it n,it 10] (tx (yP n)):=by
 refine jY Tryz.func182 fun w00 hI=>?_
 refine jW hI 223 [it n,it 10] (formatInt0F hn) ?_
 exact jR Tryz.func182
abbrev smA (q:Rat):AV Kn := .fv (.ag [.lit (.int .i64 q.num),.lit (.int .i64 ((q.den:Int)-1)),.lit (.pointer none)])
theorem sm_holds {β:List Nat} {v:Value} {w:World} {q:Rat} (h:Sm q):(num q).holds β v w↔(smA q).holds β v w:=by
 rw [cB]
 constructor
 ·rintro (⟨_,rfl⟩|⟨h2,_⟩)
  ·exact ⟨[_,_,_],rfl,[_],_,rfl,⟨rfl,rfl⟩,[_],_,rfl,⟨rfl,rfl⟩,[_],[],rfl,⟨rfl,rfl⟩,rfl⟩
  ·exact absurd h h2
 ·rintro ⟨cs,rfl,a,r,rfl,⟨rfl,_⟩,b,r2,rfl,⟨rfl,_⟩,c,r3,rfl,⟨rfl,_⟩,e⟩
  rw [show r3 = [] from e]
  exact .inl ⟨h,rfl⟩
theorem denF {q:Rat} (h:Sm q):jF 118 [smA q] (it q.den):=by
 intro β w vs hv
 obtain ⟨v,rfl,h1⟩:=dB hv
 obtain ⟨cs,rfl,a,r,rfl,⟨rfl,_⟩,b,r2,rfl,⟨rfl,_⟩,c,r3,rfl,⟨rfl,_⟩,e⟩:=h1
 rw [show r3 = [] from e]
 have hd:=gE h
 refine (iV q.num ((q.den:Int)-1) none w (by omega) (by omega)).mono fun e w' ⟨e1,h2⟩=>⟨_,e1,h2,?_⟩
 rw [show ((q.den:Int)-1+1)=q.den by omega]
 exact bK rfl
theorem eO {P:Program} {o:Oper} {ρ:Operand→Value} {w:World} {T T' : TypeId} {x y:Operand} {a b:ByteArray} (ho:o.op = .binOp .add T x y T') (hx:ρ x = .string a) (hy:ρ y = .string b) (hs:a.size+b.size≤9223372036854775807) :
 (execOp ρ o).run P w = .ok (.value (.string (a++b))) w:=by
 simp only [execOp,ho,hx,hy]
 refine bT ?_
 have hne:¬ (((a.size+b.size:Nat):Int) > IntKind.i64.max):=by
  have:IntKind.i64.max=9223372036854775807:=by decide
  rw [this]
  omega
 simp only [eqGuard,binOp,Op.stringOp,if_neg hne]
 rfl
theorem decB_size {a k:Nat} (h:a<10^(k+1)):(decB a).size≤k+1:=by
 exact vC h
theorem fraTextF {q:Rat} (hq:Lf 20 q) (hs:(decB q.num.natAbs).size≤1000000000):jX 181 [fra q] (.tup [.sc (eU (overB q)),.sc (eU (decB q.den))]):=by
 by_cases hn:q.num<0
 ·have hd:decide (q.num<0)=true:=by simpa using hn
  have ho:overB q=⟨#[45]⟩++decB q.num.natAbs:=by rw [overB,if_pos hn]
  rw [ho,show fra q=frv true q.num.natAbs q.den by rw [fra,hd]]
  obtain ⟨hq1,hq2⟩:=hq
  generalize q.num.natAbs=n at *
  have hcat:(⟨#[45]⟩:ByteArray).size+(decB n).size≤9223372036854775807:=by
   have:(⟨#[45]⟩:ByteArray).size=1:=rfl
   omega
  refine jY Tryz.func181 fun w00 hI=>?_
  refine jW hI 222 [nt n] (rE hq1) ?_
  refine jW hI 222 [nt q.den] (rE hq2) ?_
  refine jK (.binOp .add 9 (.const (.string ⟨#[45]⟩)) (.tmp 12) 9) (.const (.string ⟨#[45]⟩)) (.tmp 12) (lt ⟨#[45]⟩) (tx (decB n)) (tx (⟨#[45]⟩++decB n)) (fun ρ o β w ho hx hy=>⟨_,eO ho (aQ hx) (aU hy) hcat,bN⟩) ?_
  exact jR Tryz.func181
 ·have hd:decide (q.num<0)=false:=by simpa using hn
  have ho:overB q=decB q.num.natAbs:=by rw [overB,if_neg hn]
  rw [ho,show fra q=frv false q.num.natAbs q.den by rw [fra,hd]]
  refine jY Tryz.func181 fun w00 hI=>?_
  refine jW hI 222 [nt q.num.natAbs] (rE hq.1) ?_
  refine jW hI 222 [nt q.den] (rE hq.2) ?_
  exact jR Tryz.func181
theorem itoa_over (q:Rat):yP q.num=overB q:=by
 unfold yP overB decB Lib.itoa
 split
 ·congr 1
 ·rename_i h
  congr 3
  omega
theorem itoa_den (d:Nat):yP (d:Int)=decB d:=by
 unfold yP decB Lib.itoa
 rw [if_neg (by omega)]
 rfl
theorem smTextF {q:Rat} (h:Sm q):jX 119 [smA q] (.tup [.sc (eU (overB q)),.sc (eU (decB q.den))]):=by
 have hn:=gF h
 have hd:=gE h
 rw [← itoa_over,← itoa_den]
 refine jY Tryz.func119 fun w00 hI=>?_
 refine jW hI 182 [it q.num,it 10] (wP ⟨by have:=hn.1;omega,by have:=hn.2;omega⟩) ?_
 refine jC 118 [smA q] (denF h) ?_
 refine jW hI 182 [it q.den,it 10] (wP ⟨by omega,hd.2⟩) ?_
 exact jR Tryz.func119
theorem num_large {I:World→Prop} {f:FuncId} {fn:Func} {q:Rat} {x:AV Kn} (hq:¬ Sm q) (hfn:Tryz.prog.funcs[f]?=some fn) (hc:(fn.body.isSome,decide (1≤fn.ntmps),x.noPtr)=(true,true,true))
 (h:∀ w00,I w00→Ok Tryz.prog f w00 (fun v w=>x.holds [] v w) (cV Tryz.prog 1000 (.items [.code (fn.body.getD .skip)] { slots := [.fv (.ag [.lit (.int .i64 0),.lit (.int .i64 0),.ptr 0 0])]++List.replicate (fn.ntmps-1) .un,blocks := [(96,[.lit (.bool (decide (q.num<0))),nts q.num.natAbs,nts q.den])],ro:=1 }))) :
 FitsW Tryz.prog I f [num q] x:=by
 simp only [Prod.mk.injEq] at hc
 intro β w vs hI hv
 obtain ⟨v,rfl,h1⟩:=dB hv
 rcases cB.1 h1 with ⟨h2,_⟩|⟨_,g,s1,s2,rfl,hg,n1,n2⟩
 ·exact absurd h2 hq
 have hb2:fn.body=some (fn.body.getD .skip):=by
  cases hb2:fn.body with
  | none=>rw [hb2] at hc;cases hc.1
  | some c=>rfl
 have hl:holdsL [g] [Seg.lit (.bool (decide (q.num<0))),nts q.num.natAbs,nts q.den] [.bool (decide (q.num<0)),s1,s2] w :=
  ⟨[.bool (decide (q.num<0))],_,rfl,⟨rfl,rfl⟩,[s1],_,rfl,⟨s1,rfl,n1⟩,[s2],[],rfl,⟨s2,rfl,n2⟩,rfl⟩
 refine (fF (w00:=w) (Out:=fun v w=>x.holds [] v w) hfn hb2 [.fv (.ag [.lit (.int .i64 0),.lit (.int .i64 0),.ptr 0 0])] [(96,[.lit (.bool (decide (q.num<0))),nts q.num.natAbs,nts q.den])] [g] _ (fn.ntmps-1) (by simp at hc;simp;omega)
  ⟨_,[],rfl,⟨[.int .i64 0,.int .i64 0,.pointer (some ⟨g,0,none⟩)],rfl,[_],_,rfl,⟨rfl,rfl⟩,[_],_,rfl,⟨rfl,rfl⟩,[_],[],rfl,⟨g,rfl,rfl⟩,rfl⟩,rfl⟩ rfl (by simp) (fun k T l hk=>?_) (by simp;exact lt_of_block hg) (Ok.go (by kernel_rfl) pM 1000 (h w hI)).good).mono ?_
 ·match k,hk with
  | 0,hk =>
    simp at hk
    obtain ⟨rfl,rfl⟩:=hk
    exact ⟨g,_,rfl,hg,hl⟩
 ·rintro e w' ⟨v,rfl,hb,ho⟩
  exact ⟨v,rfl,hb,AV.noPtr_holds hc.2.2 ho⟩
theorem numTextF {q:Rat} (hq:Lf 20 q) (hs:(decB q.num.natAbs).size≤1000000000):jX 119 [num q] (.tup [.sc (eU (overB q)),.sc (eU (decB q.den))]):=by
 by_cases h:Sm q
 ·intro β w vs hG hv
  obtain ⟨v,r,rfl,h1,h2⟩:=hv
  exact smTextF h β w _ hG ⟨v,r,rfl,(sm_holds h).1 h1,h2⟩
 ·refine num_large h Tryz.func119 (by kernel_rfl) fun w00 hG=>?_
  have hI:=keepGl hG
  refine jK (.binOp .neq 66 (.tmp 5) (.const (.pointer none)) 66) (.tmp 5) (.const (.pointer none)) (.fv (.sc (.ptr 0 0))) (.fv (.sc (.lit (.pointer none)))) (bl true) (fun ρ o β w ho hx hy=>?_) ?_
  ·obtain ⟨g,_,hx⟩:=fZ hx
   have hy:=aQ hy
   refine ⟨.bool true,?_,bK rfl⟩
   simp only [execOp,ho,hx,hy]
   exact bT (bY (by kernel_rfl) w)
  refine jW hI 181 [fra q] (fraTextF hq hs) ?_
  exact jR Tryz.func119
theorem trimF {s t:ByteArray} (h:(⟨(Lib.trimPrefix s.data.toList [45]).toArray⟩:ByteArray)=t):jF 120 [tx s,lt ⟨#[45]⟩] (tx t):=by
 intro β w vs hv
 obtain ⟨v,u,rfl,h1,h2⟩:=dN hv
 rw [aU h1,aQ h2]
 refine (Tryz.strings_TrimPrefix s ⟨#[45]⟩ w).mono fun e w' ⟨e1,e2⟩=>⟨_,e1,by rw [e2];exact aB _ _,?_⟩
 rw [← h]
 exact bN
theorem trim_over {q:Rat}:(⟨(Lib.trimPrefix (overB q).data.toList [45]).toArray⟩:ByteArray)=decB q.num.natAbs:=by
 unfold overB
 split
 ·have:(⟨#[45]⟩++decB q.num.natAbs:ByteArray).data.toList=45::Lib.decDigits q.num.natAbs:=by
   simp [decB]
  rw [this]
  simp [Lib.trimPrefix,Lib.hasPrefix,decB]
 ·simp only [decB]
  have hd:=(cA q.num.natAbs).2
  unfold Lib.trimPrefix
  split
  ·rename_i hp
   exfalso
   have h0:=hd.2
   cases hl:Lib.decDigits q.num.natAbs with
   | nil=>exact h0 hl
   | cons c r =>
     rw [hl] at hp
     simp [Lib.hasPrefix] at hp
     have:=hd.1 c (by rw [hl];simp)
     rw [← hp] at this
     revert this
     decide
  ·rfl
theorem uR {o:Oper} {ρ:Operand→Value} {w:World} {t:Tmp} {T:TypeId} {s:ByteArray} (ho:o.op = .call ⟨.builtin .len,#[.tmp t],#[T]⟩) (hT:Tryz.prog.underlying T=some .string) (hx:ρ (.tmp t) = .string s) :
 (execOp ρ o).run Tryz.prog w = .ok (.value (.int .i64 s.size)) w:=by
 have hm:(#[Operand.tmp t].map ρ) = #[.string s]:=by simp [hx]
 simp only [execOp,ho,resolve,Sem.run_bind,Sem.run_pure,Result.andThen,hm,invoke,builtin,Builtin.len_]
 simp [Sem.run_bind,run_underlying hT,Result.andThen,goInt]
section
variable {f:FuncId} {w00:World} {Out:Value→World→Prop}
theorem klen {c:Cfg Kn} (t:Tmp) (s:ByteArray) (hc:(c.op.map fun o=>o.op,c.okT (.fv (.sc (pB s.size))),c.ev (.tmp t))=(some (.call ⟨.builtin .len,#[.tmp t],#[9]⟩),true,tx s))
 (hg:Ok Tryz.prog f w00 Out (cV Tryz.prog 1000 (c.give (.fv (.sc (pB s.size)))))):Ok Tryz.prog f w00 Out c:=by
 simp only [Prod.mk.injEq] at hc
 obtain ⟨h1,h2,h3⟩:=hc
 exact kop2 _ (.tmp t) (.tmp t) (tx s) (tx s) (.fv (.sc (pB s.size))) (by rw [h1,h2,h3]) (by simp [Op.operands,Call.operands]) (by simp [Op.operands,Call.operands])
  (fun ρ o β w ho hx _=>⟨_,uR ho Tryz.underlying9 (aU hx),bN⟩) hg
theorem jO{c:Cfg Kn} (t:Tmp) (s:ByteArray)(hg:Ok Tryz.prog f w00 Out (cV Tryz.prog 1000 (c.give (.fv (.sc (pB s.size))))))(hc:(c.op.map fun o=>o.op,c.okT (.fv (.sc (pB s.size))),c.ev (.tmp t))=(some (.call ⟨.builtin .len,#[.tmp t],#[9]⟩),true,tx s):=by kernel_rfl):Ok Tryz.prog f w00 Out c:=klen t s hc hg
end
theorem aAc {o:Oper} {ρ:Operand→Value} {w:World} {x y:Operand} {a b:Int} {r:Bool} (ho:o.op = .binOp .gtr 3 x y 3) (hx:ρ x = .int .i64 a) (hy:ρ y = .int .i64 b) (h:decide (b<a)=r) :
 (execOp ρ o).run Tryz.prog w = .ok (.value (.bool r)) w:=by
 simp only [execOp,ho,hx,hy]
 refine bT ?_
 rw [← h]
 exact bY (by kernel_rfl) w
theorem oU {o:Oper} {ρ:Operand→Value} {w:World} {x y:Operand} {a b:ByteArray} {r:Bool} {T T' : TypeId} (ho:o.op = .binOp .eql T x y T') (hx:ρ x = .string a) (hy:ρ y = .string b) (h:(a.toList==b.toList)=r) :
 (execOp ρ o).run Tryz.prog w = .ok (.value (.bool r)) w:=by
 simp only [execOp,ho,hx,hy]
 refine bT ?_
 rw [← h]
 exact bY (by kernel_rfl) w
def writeB (q:Rat):ByteArray:=if q.den=1 then overB q else overB q++(⟨#[47]⟩++decB q.den)
theorem rF {a k:Nat} (h:a<10^(k+1)):(decB a).size≤k+1:=decB_size h
theorem over_size {q:Rat}:(overB q).size≤(decB q.num.natAbs).size+1:=by
 unfold overB
 split
 ·simp
  have:(⟨#[45]⟩:ByteArray).size=1:=rfl
  omega
 ·omega
theorem tZ {n:Nat}:(!((decB n).toList==(⟨#[49]⟩:ByteArray).toList)) = !decide (n=1):=by
 congr 1
 rw [Bool.eq_iff_iff]
 simp only [beq_iff_eq,decide_eq_true_eq]
 rw [Go.ByteArray.toList_eq,Go.ByteArray.toList_eq]
 simp only [decB]
 constructor
 ·intro h
  have:=(cA n).1
  rw [h] at this
  rw [← this]
  rfl
 ·rintro rfl
  exact cL (by omega)
theorem joinedF {q:Rat} (hn:(decB q.num.natAbs).size≤1000000000) (hd:(decB q.den).size≤1000000000):jF 121 [tx (overB q),tx (decB q.den)] (tx (writeB q)):=by
 have hs:=over_size (q:=q)
 have e1:(⟨#[47]⟩:ByteArray).size=1:=rfl
 have hb1:(overB q).size+(⟨#[47]⟩:ByteArray).size≤9223372036854775807:=by omega
 have hb2:(overB q++⟨#[47]⟩:ByteArray).size+(decB q.den).size≤9223372036854775807:=by
  simp
  omega
 by_cases h:q.den=1
 ·have hw:writeB q=overB q:=by rw [writeB,if_pos h]
  have h3:((decB q.den).toList==(⟨#[49]⟩:ByteArray).toList)=true:=by have:=tZ (n:=q.den);rw [h] at this ⊢;simpa using this
  rw [hw]
  refine jG Tryz.func121 fun w00=>?_
  refine jK (.binOp .eql 9 (.tmp 5) (.const (.string ⟨#[49]⟩)) 9) (.tmp 5) (.const (.string ⟨#[49]⟩)) (tx (decB q.den)) (lt ⟨#[49]⟩) (bl true) (fun ρ o β w ho hx hy=>⟨_,oU ho (aU hx) (aQ hy) h3,bK rfl⟩) ?_
  exact jR Tryz.func121
 ·have hw:writeB q=overB q++⟨#[47]⟩++decB q.den:=by rw [writeB,if_neg h,ByteArray.append_assoc]
  have h3:((decB q.den).toList==(⟨#[49]⟩:ByteArray).toList)=false:=by have:=tZ (n:=q.den);rw [decide_eq_false h] at this;simpa using this
  rw [hw]
  refine jG Tryz.func121 fun w00=>?_
  refine jK (.binOp .eql 9 (.tmp 5) (.const (.string ⟨#[49]⟩)) 9) (.tmp 5) (.const (.string ⟨#[49]⟩)) (tx (decB q.den)) (lt ⟨#[49]⟩) (bl false) (fun ρ o β w ho hx hy=>⟨_,oU ho (aU hx) (aQ hy) h3,bK rfl⟩) ?_
  refine jK (.binOp .add 9 (.tmp 8) (.const (.string ⟨#[47]⟩)) 9) (.tmp 8) (.const (.string ⟨#[47]⟩)) (tx (overB q)) (lt ⟨#[47]⟩) (tx (overB q++⟨#[47]⟩)) (fun ρ o β w ho hx hy=>⟨_,eO ho (aU hx) (aQ hy) hb1,bN⟩) ?_
  refine jK (.binOp .add 9 (.tmp 9) (.tmp 10) 9) (.tmp 9) (.tmp 10) (tx (overB q++⟨#[47]⟩)) (tx (decB q.den)) (tx (overB q++⟨#[47]⟩++decB q.den)) (fun ρ o β w ho hx hy=>⟨_,eO ho (aU hx) (aU hy) hb2,bN⟩) ?_
  exact jR Tryz.func121
theorem mQ {q:Rat} (hq:Lf 20 q) (hn:(decB q.num.natAbs).size≤600) (hd:(decB q.den).size≤600):jX 43 [num q] (.tup [.sc (eU (writeB q)),.sc (.lit (.int .i64 0))]):=by
 have h1:decide ((600:Int)<((decB q.num.natAbs).size:Int))=false:=by simp;omega
 have h2:decide ((600:Int)<((decB q.den).size:Int))=false:=by simp;omega
 refine jY Tryz.func43 fun w00 hI=>?_
 refine jW hI 119 [num q] (numTextF hq (by omega)) ?_
 refine jC 120 [tx (overB q),lt ⟨#[45]⟩] (trimF trim_over) ?_
 refine jO 12 (decB q.num.natAbs) ?_
 refine jK (.binOp .gtr 3 (.tmp 13) (.const (.int .i64 600)) 3) (.tmp 13) (.const (.int .i64 600)) (.fv (.sc (pB (decB q.num.natAbs).size))) (it 600) (bl false) (fun ρ o β w ho hx hy=>⟨_,aAc ho (aU hx) (aQ hy) h1,bK rfl⟩) ?_
 refine jO 16 (decB q.den) ?_
 refine jK (.binOp .gtr 3 (.tmp 17) (.const (.int .i64 600)) 3) (.tmp 17) (.const (.int .i64 600)) (.fv (.sc (pB (decB q.den).size))) (it 600) (bl false) (fun ρ o β w ho hx hy=>⟨_,aAc ho (aU hx) (aQ hy) h2,bK rfl⟩) ?_
 refine jC 121 [tx (overB q),tx (decB q.den)] (joinedF (by omega) (by omega)) ?_
 exact jR Tryz.func43
end Ab
section
open Go.RowKit Pl
theorem eV (w:World) (s:ByteArray) (pos:Nat):Below w.heap.size w (w.iter s pos):=(aB _ _).alloc (aR _) _
set_option maxRecDepth 100000 in
theorem aAd (s:ByteArray) (w:World) (hd:AllDig (aC s)) (h0:0<s.size):Calls Tryz.prog 147 #[.string s] w fun e w'=>e = .returned (.bool true)∧Below w.heap.size w w':=by
 have hne:(!(s.toList==(⟨#[]⟩:ByteArray).toList))=true:=by
  rw [Go.ByteArray.toList_eq,Go.ByteArray.toList_eq]
  have:s.data.toList≠[]:=fun h=>by
   have h2:(aC s).length=0:=by simp only [aC];rw [h];rfl
   rw [aF] at h2
   omega
  simpa using this
 have H:=aH (aI hd (aI h0 hne))
 clear hd h0 hne
 go_enter Tryz.func147,Tryz.ntmps147
 go_wp2
 go_loopw [4] (fun _ wr => ∃ pos:Nat,wr=w.iter s pos∧pos≤s.size) (fun _ wr=>s.size-wr.iterPos w.heap.size)
 case atStart=>exact ⟨0,rfl,Nat.zero_le _⟩
 case round =>
  obtain ⟨pos,rfl,hpos⟩:=hrel
  by_cases hp:pos<s.size
  ·have hc:48≤(s[pos]'hp).toNat∧(s[pos]'hp).toNat≤57:=by
    have:=H.out.1 (s[pos]'hp) (by
     unfold aC
     rw [Array.mem_toList_iff]
     exact Array.getElem_mem _)
    exact this
   obtain ⟨c,hcc⟩:∃ c,c=(s[pos]'hp).toNat:=⟨_,rfl⟩
   have hnx:∀ ty,(Instr.next (.pointer (some ⟨w.heap.size,0,none⟩)) true ty).run Tryz.prog (w.iter s pos) = .ok (.tuple #[.bool true,.int .i64 pos,.int .i32 (c:Int)]) (w.iter s (pos+1)):=fun ty=>by
    rw [hcc]
    exact run_next_ascii w s pos ty hp (by omega)
   rw [← hcc] at hc
   have k1:(48:Int)≤c:=by omega
   have k2:(c:Int)≤57:=by omega
   have HH:=aH (aI hp hpos)
   clear hc hcc hp hpos
   go_wp2
   go_roundw
   case rel=>exact ⟨pos+1,rfl,HH.out.1⟩
   case measure =>
    have:=HH.out.1
    simp
    omega
  ·have hnx:∀ ty,(Instr.next (.pointer (some ⟨w.heap.size,0,none⟩)) true ty).run Tryz.prog (w.iter s pos)=_:=fun ty=>run_next_end w s pos ty hp
   have hne:=H.out.2.2
   go_wp2
   go_ret
   exact ⟨by simp at hne ⊢;exact hne,eV _ _ _⟩
end
namespace Ab
open Go.RowKit Pl
theorem oV {s:ByteArray} (hd:AllDig (aC s)) (h0:0<s.size):jF 147 [tx s] (bl true):=by
 intro β w vs hv
 obtain ⟨v,rfl,h1⟩:=dB hv
 rw [aU h1]
 exact (aAd s w hd h0).mono fun e w' ⟨e1,e2⟩=>⟨_,e1,e2,bK rfl⟩
theorem lH {o:Oper} {ρ:Operand→Value} {w:World} {x y:Operand} {s:ByteArray} {i:Nat} {c:UInt8} {T:TypeId} (ho:o.op = .index T x y) (hT:Tryz.prog.underlying T=some .string) (hx:ρ x = .string s) (hy:ρ y = .int .i64 i) (hc:s[i]?=some c) :
 (execOp ρ o).run Tryz.prog w = .ok (.value (.int .u8 c.toNat)) w:=by
 simp only [execOp,ho,hx,hy]
 refine bT ?_
 simp [Instr.index,asIntOf,Sem.run_bind,run_underlying hT,Result.andThen,hc]
theorem mS {o:Oper} {ρ:Operand→Value} {w:World} {x y:Operand} {a b:Int} {r:Bool} {T T' : TypeId} (ho:o.op = .binOp .neq T x y T') (hx:ρ x = .int .u8 a) (hy:ρ y = .int .u8 b) (h:(a != b)=r) :
 (execOp ρ o).run Tryz.prog w = .ok (.value (.bool r)) w:=by
 simp only [execOp,ho,hx,hy]
 refine bT ?_
 rw [← h]
 exact bY (by kernel_rfl) w
theorem yQ {o:Oper} {ρ:Operand→Value} {w:World} {x y:Operand} {a b:Int} {r:Bool} {T T' : TypeId} (ho:o.op = .binOp .eql T x y T') (hx:ρ x = .int .i64 a) (hy:ρ y = .int .i64 b) (h:(a==b)=r) :
 (execOp ρ o).run Tryz.prog w = .ok (.value (.bool r)) w:=by
 simp only [execOp,ho,hx,hy]
 refine bT ?_
 rw [← h]
 exact bY (by kernel_rfl) w
abbrev isB (n:Int):Seg Kn := .sp (csIs (.int .u8 n) rfl true (fun _=>rfl))
theorem lI (n:Nat):jF 113 [tx (decB n)] (bl true):=by
 have hd:=cA n
 have hsz:0<(decB n).size:=by
  have:(Lib.decDigits n).length≠0:=fun h=>hd.2.2 (List.eq_nil_of_length_eq_zero h)
  have e:(decB n).size=(Lib.decDigits n).length:=by simp [decB,ByteArray.size]
  omega
 have hlen:0<(Lib.decDigits n).length:=List.length_pos_iff.2 hd.2.2
 obtain ⟨c,hcl⟩:∃ c,(Lib.decDigits n)[0]?=some c:=⟨_,List.getElem?_eq_getElem hlen⟩
 have hc:(decB n)[0]?=some c:=by
  rw [getElem?_pos (decB n) 0 hsz]
  have:(decB n)[0]'hsz=(Lib.decDigits n)[0]'hlen:=by
   first
    | rfl
    | exact List.getElem_toArray _
  rw [this,← hcl,List.getElem?_eq_getElem hlen]
 by_cases h:c=48
 ·have hone:(decB n).size=1:=by
   have h0:n=0:=by
    rcases Nat.eq_zero_or_pos n with e|e
    ·exact e
    ·exfalso
     have:=vB e
     rw [List.head?_eq_getElem?,hcl,h] at this
     exact this rfl
   subst h0
   simp only [decB]
   rw [cL (by omega)]
   rfl
  have h1:(((c.toNat:Nat):Int) != 48)=false:=by rw [h];rfl
  have h2:(((decB n).size:Int)==1)=true:=by rw [hone];rfl
  refine jG Tryz.func113 fun w00=>?_
  refine jC 147 [tx (decB n)] (oV hd.2.1 hsz) ?_
  refine jK (.index 9 (.tmp 6) (.const (.int .i64 0))) (.tmp 6) (.const (.int .i64 0)) (tx (decB n)) (it 0) (.fv (.sc (isB c.toNat))) (fun ρ o β w ho hx hy=>⟨_,lH (i:=0) ho Tryz.underlying9 (aU hx) (aQ hy) hc,bN⟩) ?_
  refine jK (.binOp .neq 5 (.tmp 7) (.const (.int .u8 48)) 5) (.tmp 7) (.const (.int .u8 48)) (.fv (.sc (isB c.toNat))) (.fv (.sc (.lit (.int .u8 48)))) (bl false) (fun ρ o β w ho hx hy=>⟨_,mS ho (aU hx) (aQ hy) h1,bK rfl⟩) ?_
  refine jO 10 (decB n) ?_
  refine jK (.binOp .eql 3 (.tmp 11) (.const (.int .i64 1)) 3) (.tmp 11) (.const (.int .i64 1)) (.fv (.sc (pB (decB n).size))) (it 1) (bl true) (fun ρ o β w ho hx hy=>⟨_,yQ ho (aU hx) (aQ hy) h2,bK rfl⟩) ?_
  exact jR Tryz.func113
 ·have h1:(((c.toNat:Nat):Int) != 48)=true:=by
   rw [bne_iff_ne]
   intro e
   exact h (UInt8.toNat_inj.1 (by have:(48:UInt8).toNat=48:=rfl;omega))
  refine jG Tryz.func113 fun w00=>?_
  refine jC 147 [tx (decB n)] (oV hd.2.1 hsz) ?_
  refine jK (.index 9 (.tmp 6) (.const (.int .i64 0))) (.tmp 6) (.const (.int .i64 0)) (tx (decB n)) (it 0) (.fv (.sc (isB c.toNat))) (fun ρ o β w ho hx hy=>⟨_,lH (i:=0) ho Tryz.underlying9 (aU hx) (aQ hy) hc,bN⟩) ?_
  refine jK (.binOp .neq 5 (.tmp 7) (.const (.int .u8 48)) 5) (.tmp 7) (.const (.int .u8 48)) (.fv (.sc (isB c.toNat))) (.fv (.sc (.lit (.int .u8 48)))) (bl true) (fun ρ o β w ho hx hy=>⟨_,mS ho (aU hx) (aQ hy) h1,bK rfl⟩) ?_
  exact jR Tryz.func113
end Ab
namespace Ab
open Go.RowKit Pl
theorem rG:∀ {l:List UInt8},AllDig l→Lib.index l [47] = -1
 | [],_=>rfl
 | c :: l,h=>by
   have hc:=h c (by simp)
   have h2:([47]:List UInt8).isPrefixOf (c::l)=false:=by
    simp [List.isPrefixOf]
    intro e
    rw [← e] at hc
    revert hc
    decide
   unfold Lib.index
   rw [h2,rG (fun d hd=>h d (by simp [hd]))]
   rfl
theorem wQ:∀ {l r:List UInt8},AllDig l→Lib.index (l++47::r) [47]=(l.length:Int)
 | [],r,_=>by
   unfold Lib.index
   rfl
 | c :: l,r,h=>by
   have hc:=h c (by simp)
   have h2:([47]:List UInt8).isPrefixOf (c::(l++47::r))=false:=by
    simp [List.isPrefixOf]
    intro e
    rw [← e] at hc
    revert hc
    decide
   have ih:=wQ (l:=l) (r:=r) (fun d hd=>h d (by simp [hd]))
   rw [List.cons_append]
   unfold Lib.index
   rw [h2,ih]
   have:((l.length:Int) == -1)=false:=by rw [beq_eq_false_iff_ne];omega
   rw [this]
   simp
def bC (q:Rat):ByteArray:=if q.den=1 then decB q.num.natAbs else decB q.num.natAbs++(⟨#[47]⟩++decB q.den)
theorem ba_ext {a b:ByteArray} (h:a.data.toList=b.data.toList):a=b:=by
 cases a;cases b
 simp only [ByteArray.mk.injEq]
 exact Array.toList_inj.1 h
theorem cR (n:Nat):(decB n).data.toList=Lib.decDigits n:=by simp [decB]
theorem lJ {q:Rat} (h:q.num<0):writeB q=⟨#[45]⟩++bC q:=by
 apply ba_ext
 unfold writeB bC overB
 split <;> simp [h]
theorem dV {q:Rat} (h:¬ q.num<0):writeB q=bC q:=by
 unfold writeB bC overB
 simp only [h,if_false]
theorem sW (q:Rat):∃ c r,(bC q).data.toList=c::r∧(48≤c.toNat∧c.toNat≤57):=by
 have hd:=cA q.num.natAbs
 obtain ⟨c,r,hl⟩:∃ c r,Lib.decDigits q.num.natAbs=c::r:=by
  cases h:Lib.decDigits q.num.natAbs with
  | nil=>exact absurd h hd.2.2
  | cons c r=>exact ⟨c,r,rfl⟩
 have hc:=hd.2.1 c (by rw [hl];simp)
 unfold bC
 split
 ·exact ⟨c,r,by rw [cR,hl],hc⟩
 ·exact ⟨c,r++(⟨#[47]⟩++decB q.den:ByteArray).data.toList,by rw [ByteArray.toList_data_append,cR,hl];rfl,hc⟩
theorem mT {q:Rat} {neg:Bool} (hn:decide (q.num<0)=neg):jF 62 [tx (writeB q),lt ⟨#[45]⟩] (.tup [.sc (eU (bC q)),.sc (.lit (.bool neg))]):=by
 intro β w vs hv
 obtain ⟨v,u,rfl,h1,h2⟩:=dN hv
 rw [aU h1,aQ h2]
 have key:(⟨(Lib.trimPrefix (writeB q).data.toList [45]).toArray⟩:ByteArray)=bC q∧Lib.hasPrefix (writeB q).data.toList [45]=neg:=by
  by_cases h:q.num<0
  ·have hneg:neg=true:=by rw [← hn];simpa using h
   rw [lJ h,hneg]
   have e:(⟨#[45]⟩++bC q:ByteArray).data.toList=45::(bC q).data.toList:=by rw [ByteArray.toList_data_append];rfl
   rw [e]
   refine ⟨ba_ext (by simp [Lib.trimPrefix,Lib.hasPrefix]),by simp [Lib.hasPrefix]⟩
  ·have hneg:neg=false:=by rw [← hn];simpa using h
   rw [dV h,hneg]
   obtain ⟨c,r,e,hc⟩:=sW q
   have hp:Lib.hasPrefix (bC q).data.toList [45]=false:=by
    rw [e]
    simp [Lib.hasPrefix,List.isPrefixOf]
    intro h45
    rw [← h45] at hc
    revert hc
    decide
   refine ⟨ba_ext (by unfold Lib.trimPrefix;rw [hp];simp),hp⟩
 refine (Tryz.strings_CutPrefix (writeB q) ⟨#[45]⟩ w).mono fun e w' ⟨e1,e2⟩=>⟨_,e1,by rw [e2];exact aB _ _,?_⟩
 rw [show (⟨#[45]⟩:ByteArray).data.toList = [45] from rfl,key.1,key.2]
 exact ⟨[.string (bC q),.bool neg],rfl,_,_,rfl,bN (β:=β),_,_,rfl,⟨rfl,rfl⟩,rfl⟩
theorem rH {s a b:ByteArray} {r:Bool} (hs:s.size<4294967281) (h:Lib.cut s.data.toList [47]=(a.data.toList,b.data.toList,r)):jX 112 [tx s,lt ⟨#[47]⟩] (.tup [.sc (eU a),.sc (eU b),.sc (.lit (.bool r))]):=by
 intro β w vs hG hv
 obtain ⟨v,u,rfl,h1,h2⟩:=dN hv
 rw [aU h1,aQ h2]
 obtain ⟨m,hm⟩:=hG.2
 refine (Tryz.strings_Cut s ⟨#[47]⟩ m w hs hm).mono fun e w' ⟨e1,n,e2⟩=>⟨_,e1,by rw [e2];exact nL w n,?_⟩
 rw [show (⟨#[47]⟩:ByteArray).data.toList = [47] from rfl,h]
 have ea:(⟨a.data.toList.toArray⟩:ByteArray)=a:=ba_ext (by simp)
 have eb:(⟨b.data.toList.toArray⟩:ByteArray)=b:=ba_ext (by simp)
 simp only [ea,eb]
 exact ⟨[.string a,.string b,.bool r],rfl,_,_,rfl,bN (β:=β),_,_,rfl,bN (β:=β),_,_,rfl,⟨rfl,rfl⟩,rfl⟩
theorem yR {q:Rat} (h:q.den=1):Lib.cut (bC q).data.toList [47]=((decB q.num.natAbs).data.toList,(⟨#[]⟩:ByteArray).data.toList,false):=by
 unfold bC Lib.cut
 rw [if_pos h,cR,rG (cA q.num.natAbs).2.1]
 rfl
theorem yS {q:Rat} (h:q.den≠1):Lib.cut (bC q).data.toList [47]=((decB q.num.natAbs).data.toList,(decB q.den).data.toList,true):=by
 unfold bC Lib.cut
 have e:(decB q.num.natAbs++(⟨#[47]⟩++decB q.den):ByteArray).data.toList=Lib.decDigits q.num.natAbs++47::Lib.decDigits q.den:=by
  rw [ByteArray.toList_data_append,ByteArray.toList_data_append,cR,cR];rfl
 rw [if_neg h,e,wQ (cA q.num.natAbs).2.1,if_pos (by omega),cR,cR]
 simp
theorem bV {n:Nat} (h:(decB n).size≤100000):jF 65 [tx (decB n)] (nt n):=by
 intro β w vs hv
 obtain ⟨v,rfl,h1⟩:=dB hv
 rw [aU h1]
 have e:aC (decB n)=Lib.decDigits n:=cR n
 refine (uI (decB n) w h (by rw [e];exact (cA n).2.1)).mono fun e' w' ⟨u,e1,h1,h2⟩=>⟨u,e1,h2,?_⟩
 rw [e,(cA n).1] at h1
 exact dF.2 h1
theorem uA:jF 65 [lt ⟨#[49]⟩] (nt 1):=by
 intro β w vs hv
 obtain ⟨v,rfl,h1⟩:=dB hv
 have e:decB 1=⟨#[49]⟩:=by unfold decB;rw [cL (by omega)];rfl
 exact bV (n:=1) (by rw [e];decide) β w _ ⟨v,[],rfl,by rw [aQ h1,← e];exact bN,rfl⟩
theorem aAe {n:Nat} {b:Bool} (h:decide (n=1)=b):jF 115 [nt n] (bl b):=by
 intro β w vs hv
 obtain ⟨v,rfl,h1⟩:=dB hv
 refine (nS (dF.1 h1)).mono fun e w' ⟨e1,e2⟩=>⟨_,e1,by rw [e2];exact aB _ _,?_⟩
 rw [h]
 exact bK rfl
theorem rJ {q:Rat} {neg:Bool} (h:decide (q.num<0)=neg):jF 66 [frv neg q.num.natAbs q.den] (num q):=by
 rw [← h]
 exact iX
section
variable {f:FuncId} {w00:World} {Out:Value→World→Prop}
theorem klenL {c:Cfg Kn} (t:Tmp) (s:ByteArray) (hc:(c.op.map fun o=>o.op,c.okT (.fv (.sc (pB s.size))),c.ev (.tmp t))=(some (.call ⟨.builtin .len,#[.tmp t],#[9]⟩),true,lt s))
 (hg:Ok Tryz.prog f w00 Out (cV Tryz.prog 1000 (c.give (.fv (.sc (pB s.size)))))):Ok Tryz.prog f w00 Out c:=by
 simp only [Prod.mk.injEq] at hc
 obtain ⟨h1,h2,h3⟩:=hc
 exact kop2 _ (.tmp t) (.tmp t) (lt s) (lt s) (.fv (.sc (pB s.size))) (by rw [h1,h2,h3]) (by simp [Op.operands,Call.operands]) (by simp [Op.operands,Call.operands])
  (fun ρ o β w ho hx _=>⟨_,uR ho Tryz.underlying9 (aQ hx),bN⟩) hg
theorem kgt {c:Cfg Kn} (t:Tmp) (a b:Int) (r:Bool) (h:decide (b<a)=r) (hc:(c.op.map fun o=>o.op,c.okT (bl r),c.ev (.tmp t),c.ev (.const (.int .i64 b)))=(some (.binOp .gtr 3 (.tmp t) (.const (.int .i64 b)) 3),true,.fv (.sc (pB a)),it b))
 (hg:Ok Tryz.prog f w00 Out (cV Tryz.prog 1000 (c.give (bl r)))):Ok Tryz.prog f w00 Out c :=
 kop2 _ (.tmp t) (.const (.int .i64 b)) _ _ (bl r) hc (by simp [Op.operands]) (by simp [Op.operands]) (fun ρ o β w ho hx hy=>⟨_,aAc ho (aU hx) (aQ hy) h,bK rfl⟩) hg
theorem jM{c:Cfg Kn} (t:Tmp) (a b:Int) (r:Bool) (h:decide (b<a)=r)(hg:Ok Tryz.prog f w00 Out (cV Tryz.prog 1000 (c.give (bl r))))(hc:(c.op.map fun o=>o.op,c.okT (bl r),c.ev (.tmp t),c.ev (.const (.int .i64 b)))=(some (.binOp .gtr 3 (.tmp t) (.const (.int .i64 b)) 3),true,.fv (.sc (pB a)),it b):=by kernel_rfl):Ok Tryz.prog f w00 Out c :=kgt t a b r h hc hg
theorem kseq {c:Cfg Kn} (t:Tmp) (a b:ByteArray) (r:Bool) (h:(a.toList==b.toList)=r) (hc:(c.op.map fun o=>o.op,c.okT (bl r),c.ev (.tmp t),c.ev (.const (.string b)))=(some (.binOp .eql 9 (.tmp t) (.const (.string b)) 9),true,tx a,lt b))
 (hg:Ok Tryz.prog f w00 Out (cV Tryz.prog 1000 (c.give (bl r)))):Ok Tryz.prog f w00 Out c :=
 kop2 _ (.tmp t) (.const (.string b)) _ _ (bl r) hc (by simp [Op.operands]) (by simp [Op.operands]) (fun ρ o β w ho hx hy=>⟨_,oU ho (aU hx) (aQ hy) h,bK rfl⟩) hg
theorem jQ{c:Cfg Kn} (t:Tmp) (a b:ByteArray) (r:Bool) (h:(a.toList==b.toList)=r)(hg:Ok Tryz.prog f w00 Out (cV Tryz.prog 1000 (c.give (bl r))))(hc:(c.op.map fun o=>o.op,c.okT (bl r),c.ev (.tmp t),c.ev (.const (.string b)))=(some (.binOp .eql 9 (.tmp t) (.const (.string b)) 9),true,tx a,lt b):=by kernel_rfl):Ok Tryz.prog f w00 Out c :=kseq t a b r h hc hg
end
theorem kA {n m:Nat} {b:ByteArray} (hb:decB m=b):((decB n).toList==b.toList)=decide (n=m):=by
 rw [← hb,Go.ByteArray.toList_eq,Go.ByteArray.toList_eq,cR,cR,Bool.eq_iff_iff]
 simp only [beq_iff_eq,decide_eq_true_eq]
 constructor
 ·intro h
  have:=(cA n).1
  rw [h,(cA m).1] at this
  exact this.symm
 ·rintro rfl
  rfl
theorem dec0:decB 0=⟨#[48]⟩:=by unfold decB;rw [cL (by omega)];rfl
theorem dec1:decB 1=⟨#[49]⟩:=by unfold decB;rw [cL (by omega)];rfl
structure Wr (q:Rat):Prop where
 n:(decB q.num.natAbs).size≤600
 d:(decB q.den).size≤600
theorem mU {n k:Nat} (h:(decB n).size≤19*2^k):Lv k n:=by
 have e:aC (decB n)=Lib.decDigits n:=cR n
 have hd:=cA n
 refine lv_pow k (decB n).size h ?_
 have:=fW hd.2.1
 rw [hd.1] at this
 have hl:(decB n).size=(Lib.decDigits n).length:=by rw [← aF,e]
 rw [hl]
 exact this
theorem Wr.lf {q:Rat} (h:Wr q):Lf 5 q:=⟨mU (by have:=h.n;omega),mU (by have:=h.d;omega)⟩
theorem body_size {q:Rat} (h:Wr q):(bC q).size<4294967281:=by
 have h1:=h.n
 have h2:=h.d
 have:(⟨#[47]⟩:ByteArray).size=1:=rfl
 unfold bC
 split <;> simp <;> omega
theorem pO {q:Rat} (h:Wr q):jX 40 [tx (writeB q)] (.tup [.ag [nb q],.sc (.lit (.int .i64 0))]):=by
 have g1:decide ((600:Int)<((decB q.num.natAbs).size:Int))=false:=by have:=h.n;simp;omega
 have g2:decide ((600:Int)<((decB q.den).size:Int))=false:=by have:=h.d;simp;omega
 have g3:decide ((600:Int)<(((⟨#[49]⟩:ByteArray).size:Nat):Int))=false:=by decide
 have hsz:=body_size h
 have s1:=h.n
 have s2:=h.d
 by_cases hn:q.num<0
 ·have hneg:decide (q.num<0)=true:=by simpa using hn
  have hz:((decB q.num.natAbs).toList==(⟨#[48]⟩:ByteArray).toList)=false:=by rw [kA dec0,decide_eq_false_iff_not];omega
  by_cases hd:q.den=1
  ·skip
   refine jY Tryz.func40 fun w00 hI=>?_
   refine jC 62 [tx (writeB q),lt ⟨#[45]⟩] (mT hneg) ?_
   refine jW hI 112 [tx (bC q),lt ⟨#[47]⟩] (rH (a:=decB q.num.natAbs) (b:=⟨#[]⟩) (r:=false) hsz (yR hd)) ?_
   refine jC 113 [tx (decB q.num.natAbs)] (lI _) ?_
   refine jQ 31 (decB q.num.natAbs) ⟨#[48]⟩ false hz ?_
   refine jO 53 (decB q.num.natAbs) ?_
   refine jM 54 (decB q.num.natAbs).size 600 false g1 ?_
   refine klenL 57 ⟨#[49]⟩ (by kernel_rfl) ?_
   refine jM 58 ((⟨#[49]⟩:ByteArray).size:Nat) 600 false g3 ?_
   refine jC 65 [tx (decB q.num.natAbs)] (bV (by omega)) ?_
   refine jC 65 [lt ⟨#[49]⟩] (uA) ?_
   refine jC 66 [frv true q.num.natAbs 1] ((by rw [← hd];exact rJ hneg)) ?_
   exact jR Tryz.func40
  ·skip
   have y0:((decB q.den).toList==(⟨#[48]⟩:ByteArray).toList)=false:=by rw [kA dec0,decide_eq_false_iff_not];have:=q.den_pos;omega
   have y1:((decB q.den).toList==(⟨#[49]⟩:ByteArray).toList)=false:=by rw [kA dec1];simpa using hd
   refine jY Tryz.func40 fun w00 hI=>?_
   refine jC 62 [tx (writeB q),lt ⟨#[45]⟩] (mT hneg) ?_
   refine jW hI 112 [tx (bC q),lt ⟨#[47]⟩] (rH (a:=decB q.num.natAbs) (b:=decB q.den) (r:=true) hsz (yS hd)) ?_
   refine jC 113 [tx (decB q.num.natAbs)] (lI _) ?_
   refine jQ 31 (decB q.num.natAbs) ⟨#[48]⟩ false hz ?_
   refine jC 113 [tx (decB q.den)] (lI _) ?_
   refine jQ 43 (decB q.den) ⟨#[48]⟩ false y0 ?_
   refine jQ 47 (decB q.den) ⟨#[49]⟩ false y1 ?_
   refine jO 53 (decB q.num.natAbs) ?_
   refine jM 54 (decB q.num.natAbs).size 600 false g1 ?_
   refine jO 57 (decB q.den) ?_
   refine jM 58 (decB q.den).size 600 false g2 ?_
   refine jC 65 [tx (decB q.num.natAbs)] (bV (by omega)) ?_
   refine jC 65 [tx (decB q.den)] (bV (by omega)) ?_
   refine jC 114 [nt q.num.natAbs,nt q.den] (wO (h.lf.1.mono (by decide)) (h.lf.2.mono (by decide)) (.inr q.den_pos)) ?_
   refine jC 115 [nt (Nat.gcd q.num.natAbs q.den)] (aAe (b:=true) (by rw [decide_eq_true_eq];exact q.reduced)) ?_
   refine jC 66 [frv true q.num.natAbs q.den] (rJ hneg) ?_
   exact jR Tryz.func40
 ·have hneg:decide (q.num<0)=false:=by simpa using hn
  by_cases hd:q.den=1
  ·skip
   refine jY Tryz.func40 fun w00 hI=>?_
   refine jC 62 [tx (writeB q),lt ⟨#[45]⟩] (mT hneg) ?_
   refine jW hI 112 [tx (bC q),lt ⟨#[47]⟩] (rH (a:=decB q.num.natAbs) (b:=⟨#[]⟩) (r:=false) hsz (yR hd)) ?_
   refine jC 113 [tx (decB q.num.natAbs)] (lI _) ?_
   refine jO 53 (decB q.num.natAbs) ?_
   refine jM 54 (decB q.num.natAbs).size 600 false g1 ?_
   refine klenL 57 ⟨#[49]⟩ (by kernel_rfl) ?_
   refine jM 58 ((⟨#[49]⟩:ByteArray).size:Nat) 600 false g3 ?_
   refine jC 65 [tx (decB q.num.natAbs)] (bV (by omega)) ?_
   refine jC 65 [lt ⟨#[49]⟩] (uA) ?_
   refine jC 66 [frv false q.num.natAbs 1] ((by rw [← hd];exact rJ hneg)) ?_
   exact jR Tryz.func40
  ·skip
   have y0:((decB q.den).toList==(⟨#[48]⟩:ByteArray).toList)=false:=by rw [kA dec0,decide_eq_false_iff_not];have:=q.den_pos;omega
   have y1:((decB q.den).toList==(⟨#[49]⟩:ByteArray).toList)=false:=by rw [kA dec1];simpa using hd
   refine jY Tryz.func40 fun w00 hI=>?_
   refine jC 62 [tx (writeB q),lt ⟨#[45]⟩] (mT hneg) ?_
   refine jW hI 112 [tx (bC q),lt ⟨#[47]⟩] (rH (a:=decB q.num.natAbs) (b:=decB q.den) (r:=true) hsz (yS hd)) ?_
   refine jC 113 [tx (decB q.num.natAbs)] (lI _) ?_
   refine jC 113 [tx (decB q.den)] (lI _) ?_
   refine jQ 43 (decB q.den) ⟨#[48]⟩ false y0 ?_
   refine jQ 47 (decB q.den) ⟨#[49]⟩ false y1 ?_
   refine jO 53 (decB q.num.natAbs) ?_
   refine jM 54 (decB q.num.natAbs).size 600 false g1 ?_
   refine jO 57 (decB q.den) ?_
   refine jM 58 (decB q.den).size 600 false g2 ?_
   refine jC 65 [tx (decB q.num.natAbs)] (bV (by omega)) ?_
   refine jC 65 [tx (decB q.den)] (bV (by omega)) ?_
   refine jC 114 [nt q.num.natAbs,nt q.den] (wO (h.lf.1.mono (by decide)) (h.lf.2.mono (by decide)) (.inr q.den_pos)) ?_
   refine jC 115 [nt (Nat.gcd q.num.natAbs q.den)] (aAe (b:=true) (by rw [decide_eq_true_eq];exact q.reduced)) ?_
   refine jC 66 [frv false q.num.natAbs q.den] (rJ hneg) ?_
   exact jR Tryz.func40
abbrev z0:Seg Kn := .lit (.int .i64 0)
theorem gJ {T:TypeId}:jF 76 [.fv (.nsl 2 T [z0,z0])] (it 0):=by
 refine xT Tryz.func76 (by kernel_rfl) fun w00=>?_
 exact jR Tryz.func76
theorem first3F {T:TypeId}:jF 76 [.fv (.nsl 3 T [z0,z0,z0])] (it 0):=by
 refine xT Tryz.func76 (by kernel_rfl) fun w00=>?_
 exact jR Tryz.func76
theorem first4F {T:TypeId}:jF 76 [.fv (.nsl 4 T [z0,z0,z0,z0])] (it 0):=by
 refine xT Tryz.func76 (by kernel_rfl) fun w00=>?_
 exact jR Tryz.func76
abbrev vS (a b c:Rat):AV Kn := .fv (.ag [eU (writeB a),eU (writeB b),eU (writeB c)])
abbrev okV (a b c:Rat):AV Kn := .tup [.ag [nb a,nb b,nb c],.sc z0]
abbrev oW (a b c:Rat):Prop:=Wr a∧Wr b∧Wr c
theorem gK {a b c:Rat} (h:oW a b c):jX 68 [vS a b c] (okV a b c):=by
 refine jY Tryz.func68 fun w00 hI=>?_
 refine jW hI 40 [tx (writeB a)] (pO h.1) ?_
 refine jW hI 40 [tx (writeB b)] (pO h.2.1) ?_
 refine jW hI 40 [tx (writeB c)] (pO h.2.2) ?_
 refine kcallS 76 3 3 180 [z0,z0,z0] (first3F) (by kernel_rfl) Tryz.call76 ?_
 exact jR Tryz.func68
theorem sX {a b c:Rat} (h:oW a b c) (ha:Lf 20 a) (hb:Lf 20 b) (hc:Lf 20 c):jX 84 [vc a b c] (.tup [.ag [eU (writeB a),eU (writeB b),eU (writeB c)],.sc z0]):=by
 refine jY Tryz.func84 fun w00 hI=>?_
 refine jW hI 43 [num a] (mQ ha h.1.n h.1.d) ?_
 refine jW hI 43 [num b] (mQ hb h.2.1.n h.2.1.d) ?_
 refine jW hI 43 [num c] (mQ hc h.2.2.n h.2.2.d) ?_
 exact jR Tryz.func84
section
variable {a b c x y z u v d e:Rat}
theorem aAf (h:Wr a) (k:Wr b):jX 39 [eN 40,tx (writeB a),eN 40,tx (writeB b)] (.tup [.ag [nb a],.ag [nb b],.sc z0]):=by
 refine jY Tryz.func39 fun w00 hI=>?_
 refine jW hI 40 [tx (writeB a)] (pO h) ?_
 refine jW hI 40 [tx (writeB b)] (pO k) ?_
 refine jC 76 [.fv (.nsl 2 24 [z0,z0])] (gJ) ?_
 exact jR Tryz.func39
theorem readRV (h:Wr a) (k:oW x y z):jX 92 [eN 40,tx (writeB a),eN 68,vS x y z] (.tup [.ag [nb a],.ag [nb x,nb y,nb z],.sc z0]):=by
 refine jY Tryz.func92 fun w00 hI=>?_
 refine jW hI 40 [tx (writeB a)] (pO h) ?_
 refine jW hI 68 [vS x y z] (gK k) ?_
 refine jC 76 [.fv (.nsl 2 24 [z0,z0])] (gJ) ?_
 exact jR Tryz.func92
theorem readVV (h:oW a b c) (k:oW x y z):jX 67 [eN 68,vS a b c,eN 68,vS x y z] (.tup [.ag [nb a,nb b,nb c],.ag [nb x,nb y,nb z],.sc z0]):=by
 refine jY Tryz.func67 fun w00 hI=>?_
 refine jW hI 68 [vS a b c] (gK h) ?_
 refine jW hI 68 [vS x y z] (gK k) ?_
 refine jC 76 [.fv (.nsl 2 24 [z0,z0])] (gJ) ?_
 exact jR Tryz.func67
theorem readVR (h:oW a b c) (k:Wr d):jX 74 [eN 68,vS a b c,eN 40,tx (writeB d)] (.tup [.ag [nb a,nb b,nb c],.ag [nb d],.sc z0]):=by
 refine jY Tryz.func74 fun w00 hI=>?_
 refine jW hI 68 [vS a b c] (gK h) ?_
 refine jW hI 40 [tx (writeB d)] (pO k) ?_
 refine jC 76 [.fv (.nsl 2 24 [z0,z0])] (gJ) ?_
 exact jR Tryz.func74
abbrev pP (q:Rat):AV Kn := .tup [.sc (eU (writeB q)),.sc z0]
abbrev gL (a b c:Rat):AV Kn := .tup [.ag [eU (writeB a),eU (writeB b),eU (writeB c)],.sc z0]
theorem wR {F:FuncId} {r:Rat} (hF:qA F) (h:Wr a) (k:Wr b) (hr:Wr r) (hl:Lf 20 r) (hop:jF F [num a,num b] (num r)):jX 35 [eN F,tx (writeB a),tx (writeB b)] (pP r):=by
 refine jY Tryz.func35 fun w00 hI=>?_
 refine jW hI 39 [eN 40,tx (writeB a),eN 40,tx (writeB b)] (aAf h k) ?_
 refine fU F [num a,num b] hop (by kernel_rfl) hF ?_
 refine jW hI 43 [num r] (mQ hl hr.n hr.d) ?_
 exact jR Tryz.func35
theorem apiAddF (h:Wr a) (k:Wr b) (hr:Wr (a+b)):jX 5 [tx (writeB a),tx (writeB b)] (pP (a+b)):=by
 refine jY Tryz.func5 fun w00 hI=>?_
 refine jW hI 35 [eN 36,tx (writeB a),tx (writeB b)] (wR Tryz.call36 h k hr (hr.lf.mono (by decide)) (rD (h.lf.mono (by decide)) (k.lf.mono (by decide)))) ?_
 exact jR Tryz.func5
theorem apiSubF (h:Wr a) (k:Wr b) (hr:Wr (a-b)):jX 6 [tx (writeB a),tx (writeB b)] (pP (a-b)):=by
 refine jY Tryz.func6 fun w00 hI=>?_
 refine jW hI 35 [eN 37,tx (writeB a),tx (writeB b)] (wR Tryz.call37 h k hr (hr.lf.mono (by decide)) (mP (h.lf.mono (by decide)) (k.lf.mono (by decide)))) ?_
 exact jR Tryz.func6
theorem apiMulF (h:Wr a) (k:Wr b) (hr:Wr (a*b)):jX 7 [tx (writeB a),tx (writeB b)] (pP (a*b)):=by
 refine jY Tryz.func7 fun w00 hI=>?_
 refine jW hI 35 [eN 38,tx (writeB a),tx (writeB b)] (wR Tryz.call38 h k hr (hr.lf.mono (by decide)) (eT (h.lf.mono (by decide)) (k.lf.mono (by decide)))) ?_
 exact jR Tryz.func7
theorem apiAlongF (h:oW a b c) (k:oW x y z) (h0:(decide (a=0)&&decide (b=0)&&decide (c=0))=false) (hc:(decide (b*z-c*y=0)&&decide (c*x-a*z=0)&&decide (a*y-b*x=0))=true)
 (hs:dt a b c a b c≠0) (hr:Wr (dt x y z a b c/dt a b c a b c)):jX 22 [vS a b c,vS x y z] (pP (dt x y z a b c/dt a b c a b c)):=by
 have l1:=h.1.lf
 have l2:=h.2.1.lf
 have l3:=h.2.2.lf
 have m1:=k.1.lf
 have m2:=k.2.1.lf
 have m3:=k.2.2.lf
 refine jY Tryz.func22 fun w00 hI=>?_
 refine jW hI 67 [eN 68,vS a b c,eN 68,vS x y z] (readVV h k) ?_
 refine jC 69 [vc a b c] (iF h0) ?_
 refine jC 70 [vc a b c,vc x y z] (aAa (l1.mono (by decide)) (l2.mono (by decide)) (l3.mono (by decide)) (m1.mono (by decide)) (m2.mono (by decide)) (m3.mono (by decide))) ?_
 refine jC 69 [vc (b*z-c*y) (c*x-a*z) (a*y-b*x)] (iF hc) ?_
 refine jC 71 [vc x y z,vc a b c] (wM (m1.mono (by decide)) (m2.mono (by decide)) (m3.mono (by decide)) (l1.mono (by decide)) (l2.mono (by decide)) (l3.mono (by decide))) ?_
 refine jC 72 [vc a b c] (oT (l1.mono (by decide)) (l2.mono (by decide)) (l3.mono (by decide))) ?_
 refine jC 42 [num (dt x y z a b c),num (dt a b c a b c)] (tX (pN (n:=38) (m1.mono (by decide)) (m2.mono (by decide)) (m3.mono (by decide)) (l1.mono (by decide)) (l2.mono (by decide)) (l3.mono (by decide)) (by decide)) (pN (n:=38) (l1.mono (by decide)) (l2.mono (by decide)) (l3.mono (by decide)) (l1.mono (by decide)) (l2.mono (by decide)) (l3.mono (by decide)) (by decide)) hs) ?_
 refine jW hI 43 [num (dt x y z a b c/dt a b c a b c)] (mQ (hr.lf.mono (by decide)) hr.n hr.d) ?_
 exact jR Tryz.func22
end
end Ab
end Go.Proofs.YtpdjlakffpmfdaaGreatDoor
