/- Parts of the proof, joined. -/
import Derived.Test.YtklnecajplnboaaGreatDoorJ7
import Derived.KernelRfl
import Derived.Test.YtklnecajplnboaaGreatDoorJ5
import Derived.Test.YtklnecajplnboaaGreatDoorJ1
import Derived.Laws.Tables
import Derived.Laws.StructEq
import Derived.Test.YtklnecajplnboaaGreatDoorJ6
set_option maxHeartbeats 4000000
set_option linter.unusedSimpArgs false
set_option linter.unusedVariables false
set_option linter.constructorNameAsVariable false
namespace Go.Proofs.YtklnecajplnboaaGreatDoor
namespace Ab
open Go.RowKit Pl
theorem index47:∀ l:List UInt8,Lib.index l [47]=if l.findIdx (fun c=>c==47)<l.length then ((l.findIdx (fun c=>c==47):Nat):Int) else -1
 | []=>rfl
 | c :: l=>by
   by_cases hc:c=47
   ·subst hc
    unfold Lib.index
    simp [List.isPrefixOf,List.findIdx_cons]
   ·have h2:([47]:List UInt8).isPrefixOf (c::l)=false:=by
     simp [List.isPrefixOf]
     exact fun e=>hc e.symm
    have h3:(c==47)=false:=by rw [beq_eq_false_iff_ne];exact hc
    unfold Lib.index
    rw [h2,index47 l,List.findIdx_cons,h3]
    simp only [cond_false,List.length_cons]
    by_cases hl:l.findIdx (fun c=>c==47)<l.length
    ·have:(((l.findIdx (fun c=>c==47):Nat):Int) == -1)=false:=by rw [beq_eq_false_iff_ne];omega
     rw [if_pos hl,if_pos (show l.findIdx (fun c=>c==47)+1<l.length+1 by omega),this]
     simp
    ·rw [if_neg hl,if_neg (show ¬ l.findIdx (fun c=>c==47)+1<l.length+1 by omega)]
     rfl
theorem cut_slash {t:ByteArray} (h:aJ t<t.size):Lib.cut t.data.toList [47]=((t.extract 0 (aJ t)).data.toList,(t.extract (aJ t+1) t.size).data.toList,true):=by
 have e:Lib.index t.data.toList [47]=((aJ t:Nat):Int):=by
  have:=index47 (aC t)
  rw [if_pos (show (aC t).findIdx (fun c=>c==47)<(aC t).length by rw [aE];exact h)] at this
  exact this
 have e1:(t.extract 0 (aJ t)).data.toList=t.data.toList.take (aJ t):=by
  show aC (t.extract 0 (aJ t))=_
  rw [aS,List.drop_zero]
  rfl
 have e2:(t.extract (aJ t+1) t.size).data.toList=t.data.toList.drop (aJ t+1):=by
  show aC (t.extract (aJ t+1) t.size)=_
  rw [aS,List.take_of_length_le (by rw [aE];exact aR _)]
  rfl
 rw [e1,e2]
 unfold Lib.cut
 rw [e,if_pos (by omega)]
 simp
theorem cut_none {t:ByteArray} (h:¬ aJ t<t.size):Lib.cut t.data.toList [47]=(t.data.toList,(⟨#[]⟩:ByteArray).data.toList,false):=by
 have e:Lib.index t.data.toList [47] = -1:=by
  have:=index47 (aC t)
  rw [if_neg (show ¬ (aC t).findIdx (fun c=>c==47)<(aC t).length by rw [aE];exact h)] at this
  exact this
 unfold Lib.cut
 rw [e]
 rfl
theorem cK {s t:ByteArray} {b:Bool} (ht:bH s=t) (hb:gX s=b):jF 54 [tx s,lt ⟨#[45]⟩] (.tup [.sc (cH t),.sc (.lit (.bool b))]):=by
 intro β w vs hv
 obtain ⟨v,u,rfl,h1,h2⟩:=dJ hv
 rw [aO h1,aM h2]
 have key:(⟨(Lib.trimPrefix s.data.toList [45]).toArray⟩:ByteArray)=t∧Lib.hasPrefix s.data.toList [45]=b:=by
  have hp:Lib.hasPrefix s.data.toList [45]=gX s:=by
   show ([45]:List UInt8).isPrefixOf (aC s)=((aC s).head?==some 45)
   cases aC s with
   | nil=>rfl
   | cons c l =>
     rw [Bool.eq_iff_iff]
     simp [List.isPrefixOf]
     exact ⟨fun e=>e.symm,fun e=>e.symm⟩
  refine ⟨?_,by rw [hp,hb]⟩
  unfold Lib.trimPrefix
  rw [hp,← ht]
  unfold bH
  split
  ·refine ba_ext ?_
   show _=aC (s.extract 1 s.size)
   rw [aS,List.take_of_length_le (by rw [aE];exact aR _)]
   rfl
  ·exact ba_ext (by simp)
 refine (Tryz.strings_CutPrefix s ⟨#[45]⟩ w).mono fun e w' ⟨e1,e2⟩=>⟨_,e1,by rw [e2];exact aB _ _,?_⟩
 rw [show (⟨#[45]⟩:ByteArray).data.toList = [45] from rfl,key.1,key.2]
 exact ⟨[.string t,.bool b],rfl,_,_,rfl,bE (β:=β),_,_,rfl,⟨rfl,rfl⟩,rfl⟩
theorem zI (s:ByteArray):(bH s).size≤s.size:=by
 unfold bH
 split
 ·rw [ByteArray.size_extract];omega
 ·exact aR _
abbrev badN (z:Int):AV Kn := .tup [.ag [.lit (.int .i64 0),.lit (.int .i64 0),.lit (.pointer none)],.sc (.lit (.int .i64 z))]
theorem gcdAnyF {n m:Nat} (h1:(decB n).size≤600) (h2:(decB m).size≤600) (hm:m≠0):jF 142 [nt n,nt m] (nt (Nat.gcd n m)) :=
 yP ((gT (k:=5) (by omega)).mono (by decide)) ((gT (k:=5) (by omega)).mono (by decide)) (.inr (Nat.pos_of_ne_zero hm))
section
variable {s t a d:ByteArray} {z:Int}
theorem aAb {b:Bool} (hs:s.size<4294967281) (hz:bQ s=z) (h0:z≠0) (ht:bH s=t) (hb:gX s=b) (hlt:aJ t<t.size) (ha:t.extract 0 (aJ t)=a) (hd:t.extract (aJ t+1) t.size=d):jX 67 [tx s] (badN z):=by
 have hts:t.size<4294967281:=by have:=zI s;rw [ht] at this;omega
 have hcut:=cut_slash hlt
 have hsa:a.size=aJ t:=by rw [← ha,ByteArray.size_extract];omega
 have hsd:d.size=t.size-a.size-1:=by rw [hsa,← hd,ByteArray.size_extract];omega
 rw [ha,hd] at hcut
 unfold bQ at hz
 rw [ht,ha,hd,hb,← hsa,← hsd] at hz
 simp only [show a.size<t.size from by omega,true_and] at hz
 have c0:∀ x:ByteArray,decF x=true∨decF x=false:=fun x=>by cases decF x <;> simp
 cases b with
 | true =>
   rcases c0 a with c1|c1
   ·rw [c1] at hz
    by_cases a0:a=zeroT
    ·rw [if_pos (.inr ⟨rfl,a0⟩)] at hz
     subst hz
     refine jY Tryz.func67 fun w00 hI=>?_
     refine jC 54 [tx s,lt ⟨#[45]⟩] (cK ht hb) ?_
     refine jW hI 153 [tx t,lt ⟨#[47]⟩] (sT (a:=a) (b:=d) (r:=true) hts hcut) ?_
     refine jC 154 [tx a] (bI c1) ?_
     refine jQ 31 a ⟨#[48]⟩ true (by rw [a0];exact beq_self_eq_true _) ?_
     exact jR Tryz.func67
    rw [if_neg (by rintro (h|h);exact absurd h (by decide);exact a0 h.2)] at hz
    refine jY Tryz.func67 fun w00 hI=>?_
    refine jC 54 [tx s,lt ⟨#[45]⟩] (cK ht hb) ?_
    refine jW hI 153 [tx t,lt ⟨#[47]⟩] (sT (a:=a) (b:=d) (r:=true) hts hcut) ?_
    refine jC 154 [tx a] (bI c1) ?_
    refine jQ 31 a ⟨#[48]⟩ false (dW a0) ?_
    rcases c0 d with d1|d1
    ·rw [d1] at hz
     by_cases d0:d=zeroT
     ·rw [if_pos (.inr (.inl d0))] at hz
      subst hz
      refine jC 154 [tx d] (bI d1) ?_
      refine jQ 43 d ⟨#[48]⟩ true (by rw [d0];exact beq_self_eq_true _) ?_
      exact jR Tryz.func67
     by_cases d2:d=oneT
     ·rw [if_pos (.inr (.inr d2))] at hz
      subst hz
      refine jC 154 [tx d] (bI d1) ?_
      refine jQ 43 d ⟨#[48]⟩ false (dW d0) ?_
      refine jQ 47 d ⟨#[49]⟩ true (by rw [d2];exact beq_self_eq_true _) ?_
      exact jR Tryz.func67
     rw [if_neg (by rintro (h|h|h);exact absurd h (by decide);exact d0 h;exact d2 h)] at hz
     refine jC 154 [tx d] (bI d1) ?_
     refine jQ 43 d ⟨#[48]⟩ false (dW d0) ?_
     refine jQ 47 d ⟨#[49]⟩ false (dW d2) ?_
     refine jO 53 a ?_
     by_cases l1:600<a.size
     ·rw [if_pos (.inl l1)] at hz
      subst hz
      refine jM 54 a.size 600 true (by rw [decide_eq_true_iff];omega) ?_
      exact jR Tryz.func67
     refine jM 54 a.size 600 false (by rw [decide_eq_false_iff_not];omega) ?_
     refine jO 57 d ?_
     by_cases l2:600<d.size
     ·rw [if_pos (.inr l2)] at hz
      subst hz
      refine jM 58 d.size 600 true (by rw [decide_eq_true_iff];omega) ?_
      exact jR Tryz.func67
     refine jM 58 d.size 600 false (by rw [decide_eq_false_iff_not];omega) ?_
     rw [if_neg (by omega)] at hz
     have hae:=iF c1
     have hde:=iF d1
     generalize aU (aC a)=n at hae hz
     generalize aU (aC d)=m at hde hz
     subst hae
     subst hde
     have hm0:m≠0:=fun e=>d0 (by rw [e,dec0];rfl)
     by_cases hg:Nat.gcd n m=1
     ·rw [if_neg (fun h=>h hg)] at hz
      exact absurd hz.symm h0
     rw [if_pos hg] at hz
     subst hz
     refine jC 57 [tx (decB n)] (bV (by omega)) ?_
     refine jC 57 [tx (decB m)] (bV (by omega)) ?_
     refine jC 142 [nt n,nt m] (gcdAnyF (by omega) (by omega) hm0) ?_
     refine jC 141 [nt (Nat.gcd n m)] (isOneF (b:=false) (by rw [decide_eq_false_iff_not];exact hg)) ?_
     exact jR Tryz.func67
    ·rw [if_pos (.inl d1)] at hz
     subst hz
     refine jC 154 [tx d] (bI d1) ?_
     exact jR Tryz.func67
   ·rw [if_pos (.inl c1)] at hz
    subst hz
    refine jY Tryz.func67 fun w00 hI=>?_
    refine jC 54 [tx s,lt ⟨#[45]⟩] (cK ht hb) ?_
    refine jW hI 153 [tx t,lt ⟨#[47]⟩] (sT (a:=a) (b:=d) (r:=true) hts hcut) ?_
    refine jC 154 [tx a] (bI c1) ?_
    exact jR Tryz.func67
 | false =>
   rcases c0 a with c1|c1
   ·rw [c1] at hz
    rw [if_neg (by rintro (h|h);exact absurd h (by decide);exact absurd h.1 (by decide))] at hz
    refine jY Tryz.func67 fun w00 hI=>?_
    refine jC 54 [tx s,lt ⟨#[45]⟩] (cK ht hb) ?_
    refine jW hI 153 [tx t,lt ⟨#[47]⟩] (sT (a:=a) (b:=d) (r:=true) hts hcut) ?_
    refine jC 154 [tx a] (bI c1) ?_
    rcases c0 d with d1|d1
    ·rw [d1] at hz
     by_cases d0:d=zeroT
     ·rw [if_pos (.inr (.inl d0))] at hz
      subst hz
      refine jC 154 [tx d] (bI d1) ?_
      refine jQ 43 d ⟨#[48]⟩ true (by rw [d0];exact beq_self_eq_true _) ?_
      exact jR Tryz.func67
     by_cases d2:d=oneT
     ·rw [if_pos (.inr (.inr d2))] at hz
      subst hz
      refine jC 154 [tx d] (bI d1) ?_
      refine jQ 43 d ⟨#[48]⟩ false (dW d0) ?_
      refine jQ 47 d ⟨#[49]⟩ true (by rw [d2];exact beq_self_eq_true _) ?_
      exact jR Tryz.func67
     rw [if_neg (by rintro (h|h|h);exact absurd h (by decide);exact d0 h;exact d2 h)] at hz
     refine jC 154 [tx d] (bI d1) ?_
     refine jQ 43 d ⟨#[48]⟩ false (dW d0) ?_
     refine jQ 47 d ⟨#[49]⟩ false (dW d2) ?_
     refine jO 53 a ?_
     by_cases l1:600<a.size
     ·rw [if_pos (.inl l1)] at hz
      subst hz
      refine jM 54 a.size 600 true (by rw [decide_eq_true_iff];omega) ?_
      exact jR Tryz.func67
     refine jM 54 a.size 600 false (by rw [decide_eq_false_iff_not];omega) ?_
     refine jO 57 d ?_
     by_cases l2:600<d.size
     ·rw [if_pos (.inr l2)] at hz
      subst hz
      refine jM 58 d.size 600 true (by rw [decide_eq_true_iff];omega) ?_
      exact jR Tryz.func67
     refine jM 58 d.size 600 false (by rw [decide_eq_false_iff_not];omega) ?_
     rw [if_neg (by omega)] at hz
     have hae:=iF c1
     have hde:=iF d1
     generalize aU (aC a)=n at hae hz
     generalize aU (aC d)=m at hde hz
     subst hae
     subst hde
     have hm0:m≠0:=fun e=>d0 (by rw [e,dec0];rfl)
     by_cases hg:Nat.gcd n m=1
     ·rw [if_neg (fun h=>h hg)] at hz
      exact absurd hz.symm h0
     rw [if_pos hg] at hz
     subst hz
     refine jC 57 [tx (decB n)] (bV (by omega)) ?_
     refine jC 57 [tx (decB m)] (bV (by omega)) ?_
     refine jC 142 [nt n,nt m] (gcdAnyF (by omega) (by omega) hm0) ?_
     refine jC 141 [nt (Nat.gcd n m)] (isOneF (b:=false) (by rw [decide_eq_false_iff_not];exact hg)) ?_
     exact jR Tryz.func67
    ·rw [if_pos (.inl d1)] at hz
     subst hz
     refine jC 154 [tx d] (bI d1) ?_
     exact jR Tryz.func67
   ·rw [if_pos (.inl c1)] at hz
    subst hz
    refine jY Tryz.func67 fun w00 hI=>?_
    refine jC 54 [tx s,lt ⟨#[45]⟩] (cK ht hb) ?_
    refine jW hI 153 [tx t,lt ⟨#[47]⟩] (sT (a:=a) (b:=d) (r:=true) hts hcut) ?_
    refine jC 154 [tx a] (bI c1) ?_
    exact jR Tryz.func67
theorem aAc {b:Bool} (hs:s.size<4294967281) (hz:bQ s=z) (h0:z≠0) (ht:bH s=t) (hb:gX s=b) (hlt:¬ aJ t<t.size):jX 67 [tx s] (badN z):=by
 have hts:t.size<4294967281:=by have:=zI s;rw [ht] at this;omega
 have hcut:=cut_none hlt
 have hk:aJ t=t.size:=by have:=cI t;omega
 have g3:decide ((600:Int)<(((⟨#[49]⟩:ByteArray).size:Nat):Int))=false:=by decide
 unfold bQ at hz
 rw [ht,hb,hk,xD] at hz
 simp only [Nat.lt_irrefl,false_and,if_false] at hz
 have c0:∀ x:ByteArray,decF x=true∨decF x=false:=fun x=>by cases decF x <;> simp
 cases b with
 | true =>
   rcases c0 t with c1|c1
   ·rw [c1] at hz
    by_cases a0:t=zeroT
    ·rw [if_pos (.inr ⟨rfl,a0⟩)] at hz
     subst hz
     refine jY Tryz.func67 fun w00 hI=>?_
     refine jC 54 [tx s,lt ⟨#[45]⟩] (cK ht hb) ?_
     refine jW hI 153 [tx t,lt ⟨#[47]⟩] (sT (a:=t) (b:=⟨#[]⟩) (r:=false) hts hcut) ?_
     refine jC 154 [tx t] (bI c1) ?_
     refine jQ 31 t ⟨#[48]⟩ true (by rw [a0];exact beq_self_eq_true _) ?_
     exact jR Tryz.func67
    rw [if_neg (by rintro (h|h);exact absurd h (by decide);exact a0 h.2)] at hz
    have hl:600<t.size:=by
     by_cases g:600<t.size
     ·exact g
     ·rw [if_neg (by omega)] at hz;exact absurd hz.symm h0
    rw [if_pos (.inl hl)] at hz
    subst hz
    refine jY Tryz.func67 fun w00 hI=>?_
    refine jC 54 [tx s,lt ⟨#[45]⟩] (cK ht hb) ?_
    refine jW hI 153 [tx t,lt ⟨#[47]⟩] (sT (a:=t) (b:=⟨#[]⟩) (r:=false) hts hcut) ?_
    refine jC 154 [tx t] (bI c1) ?_
    refine jQ 31 t ⟨#[48]⟩ false (dW a0) ?_
    refine jO 53 t ?_
    refine jM 54 t.size 600 true (by rw [decide_eq_true_iff];omega) ?_
    exact jR Tryz.func67
   ·rw [if_pos (.inl c1)] at hz
    subst hz
    refine jY Tryz.func67 fun w00 hI=>?_
    refine jC 54 [tx s,lt ⟨#[45]⟩] (cK ht hb) ?_
    refine jW hI 153 [tx t,lt ⟨#[47]⟩] (sT (a:=t) (b:=⟨#[]⟩) (r:=false) hts hcut) ?_
    refine jC 154 [tx t] (bI c1) ?_
    exact jR Tryz.func67
 | false =>
   rcases c0 t with c1|c1
   ·rw [c1] at hz
    rw [if_neg (by rintro (h|h);exact absurd h (by decide);exact absurd h.1 (by decide))] at hz
    have hl:600<t.size:=by
     by_cases g:600<t.size
     ·exact g
     ·rw [if_neg (by omega)] at hz;exact absurd hz.symm h0
    rw [if_pos (.inl hl)] at hz
    subst hz
    refine jY Tryz.func67 fun w00 hI=>?_
    refine jC 54 [tx s,lt ⟨#[45]⟩] (cK ht hb) ?_
    refine jW hI 153 [tx t,lt ⟨#[47]⟩] (sT (a:=t) (b:=⟨#[]⟩) (r:=false) hts hcut) ?_
    refine jC 154 [tx t] (bI c1) ?_
    refine jO 53 t ?_
    refine jM 54 t.size 600 true (by rw [decide_eq_true_iff];omega) ?_
    exact jR Tryz.func67
   ·rw [if_pos (.inl c1)] at hz
    subst hz
    refine jY Tryz.func67 fun w00 hI=>?_
    refine jC 54 [tx s,lt ⟨#[45]⟩] (cK ht hb) ?_
    refine jW hI 153 [tx t,lt ⟨#[47]⟩] (sT (a:=t) (b:=⟨#[]⟩) (r:=false) hts hcut) ?_
    refine jC 154 [tx t] (bI c1) ?_
    exact jR Tryz.func67
theorem readBadF (hs:s.size<4294967281) (hz:bQ s=z) (h0:z≠0):jX 67 [tx s] (badN z):=by
 by_cases h:aJ (bH s)<(bH s).size
 ·exact aAb hs hz h0 rfl rfl h rfl rfl
 ·exact aAc hs hz h0 rfl rfl h
end
noncomputable def dD (s:ByteArray):Rat:=if h:bQ s=0 then Classical.choose (rN h) else 0
theorem valB_ok {s:ByteArray} (h:bQ s=0):s=writeB (dD s)∧Wr (dD s):=by
 unfold dD
 rw [dif_pos h]
 have:=Classical.choose_spec (rN h)
 exact ⟨this.1,this.2.1,this.2.2⟩
theorem valB_bad {s:ByteArray} (h:bQ s≠0):dD s=0:=dif_neg h
abbrev okN (q:Rat) (z:Int):AV Kn := .tup [.ag [nb q],.sc (.lit (.int .i64 z))]
theorem tM {s:ByteArray} {z:Int} (hs:s.size<4294967281) (hz:bQ s=z):jX 67 [tx s] (okN (dD s) z):=by
 by_cases h:z=0
 ·subst h
  obtain ⟨e,hw⟩:=valB_ok hz
  have:=yU hw
  rw [← e] at this
  exact this
 ·rw [valB_bad (by rw [hz];exact h)]
  refine FitsW.res (readBadF hs hz h) fun β v w hv=>?_
  obtain ⟨vs,rfl,x,r,rfl,hx,hr⟩:=hv
  exact ⟨_,rfl,x,r,rfl,zero_num hx,hr⟩
theorem cQ (s:ByteArray):bQ s=0∨bQ s=1∨bQ s=4:=by
 unfold bQ
 split
 ·exact .inr (.inl rfl)
 split
 ·exact .inr (.inl rfl)
 split
 ·exact .inr (.inr rfl)
 split
 ·exact .inr (.inl rfl)
 ·exact .inl rfl
def f2 (x y:Int):Int:=if x=0 then y else x
def f3 (x y z:Int):Int:=f2 x (f2 y z)
abbrev Ev (z:Int):Prop:=z=0∨z=1∨z=4
theorem f2_ev {x y:Int} (hx:Ev x) (hy:Ev y):Ev (f2 x y):=by unfold f2;split <;> assumption
theorem tN {x y:Int} (h:f2 x y=0):x=0∧y=0:=by
 unfold f2 at h
 split at h
 ·rename_i e;exact ⟨e,h⟩
 ·rename_i e;exact absurd h e
theorem f2_l {x y:Int} (h:x≠0):f2 x y=x:=if_neg h
theorem f2_r {x y:Int} (h:x=0):f2 x y=y:=if_pos h
abbrev lz (z:Int):Seg Kn := .lit (.int .i64 z)
theorem first2Any {T:TypeId} {x y z:Int} (hx:Ev x) (hy:Ev y) (hz:f2 x y=z):jF 68 [.fv (.nsl 2 T [lz x,lz y])] (it z):=by
 rcases hx with rfl|rfl|rfl
 ·have hz:y=z:=hz
  subst hz
  rcases hy with rfl|rfl|rfl <;> (refine lA Tryz.func68 (by kernel_rfl) fun w00=>?_;exact kret Tryz.func68 (by kernel_rfl))
 ·have hz:1=z:=hz
  subst hz
  refine lA Tryz.func68 (by kernel_rfl) fun w00=>?_
  exact jR Tryz.func68
 ·have hz:4=z:=hz
  subst hz
  refine lA Tryz.func68 (by kernel_rfl) fun w00=>?_
  exact jR Tryz.func68
theorem first3Any {T:TypeId} {x y u z:Int} (hx:Ev x) (hy:Ev y) (hu:Ev u) (hz:f3 x y u=z):jF 68 [.fv (.nsl 3 T [lz x,lz y,lz u])] (it z):=by
 rcases hx with rfl|rfl|rfl
 ·rcases hy with rfl|rfl|rfl
  ·have hz:u=z:=hz
   subst hz
   rcases hu with rfl|rfl|rfl <;> (refine lA Tryz.func68 (by kernel_rfl) fun w00=>?_;exact kret Tryz.func68 (by kernel_rfl))
  ·have hz:1=z:=hz
   subst hz
   refine lA Tryz.func68 (by kernel_rfl) fun w00=>?_
   exact jR Tryz.func68
  ·have hz:4=z:=hz
   subst hz
   refine lA Tryz.func68 (by kernel_rfl) fun w00=>?_
   exact jR Tryz.func68
 ·have hz:1=z:=hz
  subst hz
  refine lA Tryz.func68 (by kernel_rfl) fun w00=>?_
  exact jR Tryz.func68
 ·have hz:4=z:=hz
  subst hz
  refine lA Tryz.func68 (by kernel_rfl) fun w00=>?_
  exact jR Tryz.func68
abbrev Rb (s:ByteArray):Prop:=s.size<4294967281
abbrev Rb3 (a b c:ByteArray):Prop:=Rb a∧Rb b∧Rb c
abbrev c3 (a b c:ByteArray):Int:=f3 (bQ a) (bQ b) (bQ c)
theorem nS (a b c:ByteArray):Ev (c3 a b c):=f2_ev (cQ _) (f2_ev (cQ _) (cQ _))
section
variable {a b c x y u:ByteArray} {z:Int}
theorem readVecAnyF (h:Rb3 a b c) (hz:c3 a b c=z):jX 61 [t3 a b c] (.tup [.ag [nb (dD a),nb (dD b),nb (dD c)],.sc (lz z)]):=by
 refine jY Tryz.func61 fun w00 hI=>?_
 refine jW hI 67 [tx a] (tM h.1 rfl) ?_
 refine jW hI 67 [tx b] (tM h.2.1 rfl) ?_
 refine jW hI 67 [tx c] (tM h.2.2 rfl) ?_
 refine kcallS 68 3 3 192 [lz (bQ a),lz (bQ b),lz (bQ c)] (first3Any (cQ _) (cQ _) (cQ _) hz) (by kernel_rfl) Tryz.call68 ?_
 exact jR Tryz.func61
abbrev noS (z:Int):AV Kn := .tup [.sc (.lit (.string ⟨#[]⟩)),.sc (lz z)]
end
end Ab
namespace Fr
open Go.RowKit Go.Shelf Ab Pl
attribute [local go_sem] Oper.semAt_some
def m9 (m:C9):Obj := .cells #[.int .i64 m.n1,.int .i64 m.d1,.pointer m.p1,.int .i64 m.n2,.int .i64 m.d2,.pointer m.p2,.int .i64 m.n3,.int .i64 m.d3,.pointer m.p3] 65 (0,0)
def st9 (X:World) (B a b c d e f g h i:Nat) (m:C9):World:=((((((((X.setCell ⟨B,a,none⟩ (.int .i64 m.n1)).setCell ⟨B,b,none⟩ (.int .i64 m.d1)).setCell ⟨B,c,none⟩ (.pointer m.p1)).setCell ⟨B,d,none⟩ (.int .i64 m.n2)).setCell ⟨B,e,none⟩ (.int .i64 m.d2)).setCell ⟨B,f,none⟩ (.pointer m.p2)).setCell ⟨B,g,none⟩ (.int .i64 m.n3)).setCell ⟨B,h,none⟩ (.int .i64 m.d3)).setCell ⟨B,i,none⟩ (.pointer m.p3)
abbrev N9 (cs:Array Value) (t:C9) (a b c d e f g h i:Nat):Prop:=cs[a]?=some (.int .i64 t.n1)∧cs[b]?=some (.int .i64 t.d1)∧cs[c]?=some (.pointer t.p1)∧cs[d]?=some (.int .i64 t.n2)∧cs[e]?=some (.int .i64 t.d2)∧cs[f]?=some (.pointer t.p2)∧cs[g]?=some (.int .i64 t.n3)∧cs[h]?=some (.int .i64 t.d3)∧cs[i]?=some (.pointer t.p3)
theorem up9 {w:World} {B a b c d e f g h i:Nat} {cs:Array Value} {T:TypeId} (t:C9) (hlt:B<w.heap.size) (hb:w.heap[B]?=some (.cells cs T (0,0))) (hc:N9 cs t a b c d e f g h i):(∀ o,(w.alloc o).cell? ⟨B,a,none⟩=some (.int .i64 t.n1))∧(∀ o,(w.alloc o).frozen? ⟨B,a,none⟩=false)∧(∀ o,(w.alloc o).cell? ⟨B,b,none⟩=some (.int .i64 t.d1))∧(∀ o,(w.alloc o).frozen? ⟨B,b,none⟩=false)∧(∀ o,(w.alloc o).cell? ⟨B,c,none⟩=some (.pointer t.p1))∧(∀ o,(w.alloc o).frozen? ⟨B,c,none⟩=false)∧(∀ o,(w.alloc o).cell? ⟨B,d,none⟩=some (.int .i64 t.n2))∧(∀ o,(w.alloc o).frozen? ⟨B,d,none⟩=false)∧(∀ o,(w.alloc o).cell? ⟨B,e,none⟩=some (.int .i64 t.d2))∧(∀ o,(w.alloc o).frozen? ⟨B,e,none⟩=false)∧(∀ o,(w.alloc o).cell? ⟨B,f,none⟩=some (.pointer t.p2))∧(∀ o,(w.alloc o).frozen? ⟨B,f,none⟩=false)∧(∀ o,(w.alloc o).cell? ⟨B,g,none⟩=some (.int .i64 t.n3))∧(∀ o,(w.alloc o).frozen? ⟨B,g,none⟩=false)∧(∀ o,(w.alloc o).cell? ⟨B,h,none⟩=some (.int .i64 t.d3))∧(∀ o,(w.alloc o).frozen? ⟨B,h,none⟩=false)∧(∀ o,(w.alloc o).cell? ⟨B,i,none⟩=some (.pointer t.p3))∧(∀ o,(w.alloc o).frozen? ⟨B,i,none⟩=false):=by
 obtain ⟨c0,c1,c2,c3,c4,c5,c6,c7,c8⟩:=hc
 have k:∀ {j:Nat} {v:Value},cs[j]?=some v→∀ o,(w.alloc o).cell? ⟨B,j,none⟩=some v:=fun hj=>tJ hlt (by simp [World.cell?,hb,hj])
 exact ⟨k c0,gK hlt hb,k c1,gK hlt hb,k c2,gK hlt hb,k c3,gK hlt hb,k c4,gK hlt hb,k c5,gK hlt hb,k c6,gK hlt hb,k c7,gK hlt hb,k c8,gK hlt hb⟩
def RV (a b c:Rat) (z:Int) (W:World) (e:Ending) (w' : World):Prop := ∃ k:C9,e = .returned (.tuple #[k.val,.int .i64 z])∧Vc w' k.val a b c∧Below W.heap.size W w'
theorem rR {x y z:Int} (hx:Ev x) (hy:Ev y) (hz:f2 x y=z) (w:World) (g:Nat) (T:TypeId) (hh:w.heap[g]?=some (.cells #[.int .i64 x,.int .i64 y] T (0,0))):Calls Tryz.prog 68 #[.slice (some ⟨g,0,none⟩) 2 2] w fun e w'=>e = .returned (.int .i64 z)∧Below w.heap.size w w':=by
 refine (first2Any (T:=T) hx hy hz [] w [.slice (some ⟨g,0,none⟩) 2 2] ⟨_,_,rfl,⟨g,[.int .i64 x,.int .i64 y],rfl,hh,[.int .i64 x],_,rfl,⟨rfl,rfl⟩,[.int .i64 y],_,rfl,⟨rfl,rfl⟩,rfl⟩,rfl⟩).mono ?_
 rintro e w' ⟨v,e1,e2,h1⟩
 have h5:[v] = [.int .i64 z]:=h1.1
 injection h5 with h5
 exact ⟨by rw [e1,h5],e2⟩
def InvE (ev:List (Fin 3)→Int) (w:World) (k:C9) (B E R:Nat) (o1 o2 o3 x1 x2 x3 y1 y2 y3 z1 z2 z3:Rat) (pre:List (Fin 3)) (W:World):Prop :=
 ∃ x y z:C9,W.heap[B]?=some (.cells (frL k x y z).toArray 68 (0,0))∧((0:Fin 3)∈pre→Vc W x.val x1 x2 x3)∧((1:Fin 3)∈pre→Vc W y.val y1 y2 y3)∧((2:Fin 3)∈pre→Vc W z.val z1 z2 z3) ∧
   W.heap[E]?=some (.cells #[.int .i64 (ev pre)] 32 (0,0))∧W.heap[R]?=some (.cells (frL C9.zero C9.zero C9.zero C9.zero).toArray 68 (0,0))∧Vc W k.val o1 o2 o3∧Below w.heap.size w W
section
variable {w:World} {k:C9} {B E R:Nat} {o1 o2 o3 x1 x2 x3 y1 y2 y3 z1 z2 z3:Rat}
theorem pD {u v:Int} {W w2 X1 w5:World} {a b c a' b' c' : C9} {o9 o2:Obj} {S n:Nat} (hbl:Below W.heap.size W w2) (hB:W.heap[B]?=some (.cells (frL k a b c).toArray 68 (0,0))) (hE:W.heap[E]?=some (.cells #[.int .i64 u] 32 (0,0))) (hEB:¬ E=B)
 (hT:Turned B (.cells (frL k a' b' c').toArray 68 (0,0)) (w2.alloc o9) X1) (h5:Below (X1.alloc o2).heap.size (X1.alloc o2) w5) (hn:n≤W.heap.size) (hnB:n≤B) (hnE:n≤E) :
 (w5.setCell ⟨E,0,none⟩ (.int .i64 v)).heap[B]?=some (.cells (frL k a' b' c').toArray 68 (0,0))∧(w5.setCell ⟨E,0,none⟩ (.int .i64 v)).heap[E]?=some (.cells #[.int .i64 v] 32 (0,0)) ∧
 (∀ g,g<W.heap.size→¬ g=B→¬ g=E→(w5.setCell ⟨E,0,none⟩ (.int .i64 v)).heap[g]?=W.heap[g]?)∧Go.Proofs.YtklnecajplnboaaGreatDoor.Ext Kn w2 (w5.setCell ⟨E,0,none⟩ (.int .i64 v))∧Go.Proofs.YtklnecajplnboaaGreatDoor.Ext Kn W w2∧KeepsFrom S W (w5.setCell ⟨E,0,none⟩ (.int .i64 v))∧Below n W (w5.setCell ⟨E,0,none⟩ (.int .i64 v)):=by
 have hBlt:=(Array.getElem?_eq_some_iff.1 hB).1
 have hElt:=(Array.getElem?_eq_some_iff.1 hE).1
 have hs2:=hbl.size
 have ba:Below w2.heap.size w2 (w2.alloc o9):=(aB _ _).alloc (aR _) _
 have sa:(w2.alloc o9).heap.size=w2.heap.size+1:=by simp
 have hBa:(w2.alloc o9).heap[B]?=some (.cells (frL k a b c).toArray 68 (0,0)):=(ba.block B (by omega)).trans ((hbl.block B hBlt).trans hB)
 have sx:X1.heap.size=w2.heap.size+1:=hT.size.trans sa
 have bb:Below X1.heap.size X1 (X1.alloc o2):=(aB _ _).alloc (aR _) _
 have sb:(X1.alloc o2).heap.size=w2.heap.size+2:=by simp [sx]
 have hs5:=h5.size
 have keep:∀ g,g<W.heap.size→¬ g=B→w5.heap[g]?=W.heap[g]?:=fun g hg hne=>(h5.block g (by omega)).trans ((bb.block g (by omega)).trans ((hT.block g hne).trans ((ba.block g (by omega)).trans (hbl.block g hg))))
 have hE5:w5.heap[E]?=some (.cells #[.int .i64 u] 32 (0,0)):=(keep E hElt hEB).trans hE
 have hTE:Turned E (.cells #[.int .i64 v] 32 (0,0)) w5 (w5.setCell ⟨E,0,none⟩ (.int .i64 v)):=cW (i:=0) hE5 (.int .i64 v)
 have hB5:w5.heap[B]?=some (.cells (frL k a' b' c').toArray 68 (0,0)):=(h5.block B (by omega)).trans ((bb.block B (by omega)).trans hT.at_)
 have bn:Below n W w5:=(tK ((hbl.mono hn).trans (ba.mono (by omega))) hT hnB).trans ((bb.mono (by omega)).trans (h5.mono (by omega)))
 refine ⟨(hTE.block B (fun e=>hEB e.symm)).trans hB5,hTE.at_,fun g hg h1 h2=>(hTE.block g h2).trans (keep g hg h1),?_,Go.Proofs.YtklnecajplnboaaGreatDoor.Ext.of_below hbl,?_,tK bn hTE hnE⟩
 ·exact (Go.Proofs.YtklnecajplnboaaGreatDoor.Ext.of_below ba).trans ((hT.ext hBa (mO _ _ _ _ _)).trans ((Go.Proofs.YtklnecajplnboaaGreatDoor.Ext.of_below bb).trans ((Go.Proofs.YtklnecajplnboaaGreatDoor.Ext.of_below h5).trans (hTE.ext hE5 (by simp [Go.Proofs.YtklnecajplnboaaGreatDoor.hotObj,Kn])))))
 ·exact (fM hbl).trans ((fM ba).trans ((tL hT hBa rfl).trans ((fM bb).trans ((fM h5).trans (tL hTE hE5 rfl)))))
theorem tO {ev:List (Fin 3)→Int} {S:Nat} (hS:w.heap.size≤S):OwnFrom S (InvE ev w k B E R o1 o2 o3 x1 x2 x3 y1 y2 y3 z1 z2 z3):=by
 rintro pre W W' row ⟨x,y,z,hB,v0,v1,v2,hE,hR,hk,hb⟩ hg hr
 have hr' : ∀ r,row=some r→∃ o:Obj,W.heap[r]?=some o∧o.isCells=false:=fun r e=>(hr r e).2
 have hx:=uY hg hr'
 refine ⟨x,y,z,(grownBy_keeps_cells hg hr' hB rfl).trans hB,fun h=>Vc.kext (v0 h) hx,fun h=>Vc.kext (v1 h) hx,fun h=>Vc.kext (v2 h) hx,(grownBy_keeps_cells hg hr' hE rfl).trans hE,(grownBy_keeps_cells hg hr' hR rfl).trans hR,Vc.kext hk hx,?_⟩
 exact hb.grown hg hb.size (fun k e=>Nat.le_trans hS (hr k e).1)
end
set_option maxRecDepth 100000 in
theorem readFrame_gen (a1 a2 a3 b1 b2 b3 c1 c2 c3 d1 d2 d3:ByteArray) (o1 o2 o3 x1 x2 x3 y1 y2 y3 z1 z2 z3:Rat) (eo ex ey ez zq zc:Int) (heo:Ev eo) (hex:Ev ex) (hey:Ev ey) (hez:Ev ez) (hZ:f2 (f2 (f2 eo ex) ey) ez=zq)
 (cO' : ∀ W,Gl W→Calls Tryz.prog 61 #[.agg #[.string a1,.string a2,.string a3]] W (RV o1 o2 o3 eo W)) (cX' : ∀ W,Gl W→Calls Tryz.prog 61 #[.agg #[.string b1,.string b2,.string b3]] W (RV x1 x2 x3 ex W))
 (cY' : ∀ W,Gl W→Calls Tryz.prog 61 #[.agg #[.string c1,.string c2,.string c3]] W (RV y1 y2 y3 ey W)) (cZ' : ∀ W,Gl W→Calls Tryz.prog 61 #[.agg #[.string d1,.string d2,.string d3]] W (RV z1 z2 z3 ez W))
 (hC:zq=0→∀ (W:World) (o x y z:C9),Vc W o.val o1 o2 o3→Vc W x.val x1 x2 x3→Vc W y.val y1 y2 y3→Vc W z.val z1 z2 z3→Calls Tryz.prog 92 #[.agg (frL o x y z).toArray] W fun e w'=>e = .returned (.int .i64 zc)∧Below W.heap.size W w') (w:World) (hG:Gl w) :
 Calls Tryz.prog 29 #[.agg #[.string a1,.string a2,.string a3,.string b1,.string b2,.string b3,.string c1,.string c2,.string c3,.string d1,.string d2,.string d3]] w fun e w' => ∃ o x y z:C9,e = .returned (.tuple #[.agg (if zq=0 then frL o x y z else frL C9.zero C9.zero C9.zero C9.zero).toArray,.int .i64 (if zq=0 then zc else zq)])∧Vc w' o.val o1 o2 o3∧Vc w' x.val x1 x2 x3∧Vc w' y.val y1 y2 y3∧Vc w' z.val z1 z2 z3∧Below w.heap.size w w':=by
 have cO:=aH cO'
 have cX:=aH cX'
 have cY:=aH cY'
 have cZ:=aH cZ'
 have HC:=aH hC
 clear cO' cX' cY' cZ' hC
 obtain ⟨ev,hevd⟩:∃ ev:List (Fin 3)→Int,ev=fun pre=>pre.foldl (fun e i=>f2 e (if i=0 then ex else if i=1 then ey else ez)) eo:=⟨_,rfl⟩
 have ev0:ev []=eo:=by rw [hevd];rfl
 have evs:∀ (pre:List (Fin 3)) (i:Fin 3),ev (pre ++ [i])=f2 (ev pre) (if i=0 then ex else if i=1 then ey else ez):=fun pre i=>by rw [hevd];simp [List.foldl_append]
 have ev3:ev [0,1,2]=zq:=by rw [hevd,← hZ];rfl
 have hev:∀ pre,Ev (ev pre):=fun pre=>by
  rw [hevd]
  show Ev (pre.foldl _ eo)
  revert heo
  generalize eo=e0
  induction pre generalizing e0 with
  | nil=>exact fun h=>h
  | cons i l ih =>
    intro h
    refine ih _ (f2_ev h ?_)
    split
    ·exact hex
    ·split <;> assumption
 have p0:∀ pre,ev (pre ++ [0])=f2 (ev pre) ex:=fun pre=>evs pre 0
 have p1:∀ pre,ev (pre ++ [1])=f2 (ev pre) ey:=fun pre=>evs pre 1
 have p2:∀ pre,ev (pre ++ [2])=f2 (ev pre) ez:=fun pre=>evs pre 2
 clear hevd hZ evs
 refine (callsIn_wide (n:=6)).1 ?_
 refine callsIn_of_wp_marks Tryz.func29 rfl trivial ?_ rfl
 simp only [Tryz.ntmps29,List.size_toArray,List.length_cons,List.length_nil,Nat.reduceAdd,Nat.reduceSub,Array.replicate_succ,Array.replicate_zero,List.push_toArray,List.append_toArray,List.nil_append,List.cons_append]
 refine wpIn_wide.2 ?_
 go_wp2_with fail
 obtain ⟨Z,hZ⟩:∃ Z:Array Value,Z=(frL C9.zero C9.zero C9.zero C9.zero).toArray:=⟨_,rfl⟩
 have hW1:∃ W1,W1=(w.alloc (.cells #[.string a1,.string a2,.string a3,.string b1,.string b2,.string b3,.string c1,.string c2,.string c3,.string d1,.string d2,.string d3] 26 (0,0))).alloc (.cells Z 68 (0,0)):=⟨_,rfl⟩
 obtain ⟨W1,hW1⟩:=hW1
 change Calls _ _ _ ((w.alloc (.cells #[.string a1,.string a2,.string a3,.string b1,.string b2,.string b3,.string c1,.string c2,.string c3,.string d1,.string d2,.string d3] 26 (0,0))).alloc (.cells (frL C9.zero C9.zero C9.zero C9.zero).toArray 68 (0,0))) _
 rw [← hZ,← hW1]
 have hs1:W1.heap.size=w.heap.size+2:=by rw [hW1];simp
 have hb1:Below w.heap.size w W1:=by rw [hW1];exact ((aB _ w).alloc (aR _) _).alloc (by simp) _
 have hf1:W1.heap[w.heap.size]?=some (.cells #[.string a1,.string a2,.string a3,.string b1,.string b2,.string b3,.string c1,.string c2,.string c3,.string d1,.string d2,.string d3] 26 (0,0)):=by rw [hW1];exact (Below.heap_alloc _ _ _ (by simp)).trans (World.alloc_heap_new w _)
 have hr1:W1.heap[w.heap.size+1]?=some (.cells Z 68 (0,0)):=by rw [hW1];have:=World.alloc_heap_new (w.alloc (.cells #[.string a1,.string a2,.string a3,.string b1,.string b2,.string b3,.string c1,.string c2,.string c3,.string d1,.string d2,.string d3] 26 (0,0))) (.cells Z 68 (0,0));rwa [World.size_alloc] at this
 clear hW1
 refine (cO.out W1 (hG.below hb1)).mono ?_
 rintro e w1 ⟨k,rfl,hk,hb⟩
 have hs2:=hb.size
 have hf2:=(hb.block w.heap.size (by omega)).trans hf1
 have hr2:=(hb.block (w.heap.size+1) (by omega)).trans hr1
 have hb2:=hb1.trans (hb.mono (by omega))
 clear hf1 hr1 hb1 hb
 simp only [C9.val]
 have HID:=aH (aI hf2 (aI hr2 (aI hb2 hk)))
 clear hf2 hr2 hb2 hk
 have HZ:=aH hZ
 clear hZ
 go_wp2_with (first|(refine aAa rfl 68 _ rfl (frL k C9.zero C9.zero C9.zero).toArray (by kernel_rfl) ?_)|(refine stop_store 68 _ _ rfl ?_))
 refine ⟨store_new3 rfl 68 _ _ rfl w1 _ _ _ (frL k C9.zero C9.zero C9.zero).toArray rfl rfl (by kernel_rfl) (by kernel_rfl) (by kernel_rfl) ?_⟩
 intro W3 g1 g2 g3 g4 g5
 have hf3:=(g2.block w.heap.size (by omega)).trans HID.out.1
 have f0:W3.cell? ⟨w.heap.size,0,none⟩=some (.string a1):=by simp [World.cell?,hf3]
 have f1:W3.cell? ⟨w.heap.size,1,none⟩=some (.string a2):=by simp [World.cell?,hf3]
 have f2:W3.cell? ⟨w.heap.size,2,none⟩=some (.string a3):=by simp [World.cell?,hf3]
 have f3:W3.cell? ⟨w.heap.size,3,none⟩=some (.string b1):=by simp [World.cell?,hf3]
 have f4:W3.cell? ⟨w.heap.size,4,none⟩=some (.string b2):=by simp [World.cell?,hf3]
 have f5:W3.cell? ⟨w.heap.size,5,none⟩=some (.string b3):=by simp [World.cell?,hf3]
 have f6:W3.cell? ⟨w.heap.size,6,none⟩=some (.string c1):=by simp [World.cell?,hf3]
 have f7:W3.cell? ⟨w.heap.size,7,none⟩=some (.string c2):=by simp [World.cell?,hf3]
 have f8:W3.cell? ⟨w.heap.size,8,none⟩=some (.string c3):=by simp [World.cell?,hf3]
 have f9:W3.cell? ⟨w.heap.size,9,none⟩=some (.string d1):=by simp [World.cell?,hf3]
 have f10:W3.cell? ⟨w.heap.size,10,none⟩=some (.string d2):=by simp [World.cell?,hf3]
 have f11:W3.cell? ⟨w.heap.size,11,none⟩=some (.string d3):=by simp [World.cell?,hf3]
 clear hf3
 have HID2:=aH (aI g1 (aI g2 (aI g3 (aI g4 g5))))
 clear g1 g2 g3 g4 g5
 go_wp2_with fail
 refine (axes_any _ _ _ _ _ _ _ _ _ _ _ _ _).mono ?_
 rintro e w4 ⟨rfl,rfl⟩
 go_wp2_with fail
 obtain ⟨v0,h0⟩:∃ v0:Value,v0 = .agg #[.string a1,.string a2,.string a3,.string b1,.string b2,.string b3,.string c1,.string c2,.string c3,.string d1,.string d2,.string d3]:=⟨_,rfl⟩
 obtain ⟨v11,h11⟩:∃ v:Value,v = .tuple #[.agg #[.int .i64 k.n1,.int .i64 k.d1,.pointer k.p1,.int .i64 k.n2,.int .i64 k.d2,.pointer k.p2,.int .i64 k.n3,.int .i64 k.d3,.pointer k.p3],.int .i64 eo]:=⟨_,rfl⟩
 obtain ⟨v13,h13⟩:∃ v:Value,v = .agg #[.string a1,.string a2,.string a3]:=⟨_,rfl⟩
 obtain ⟨v15,h15⟩:∃ v:Value,v = .agg #[.int .i64 k.n1,.int .i64 k.d1,.pointer k.p1,.int .i64 k.n2,.int .i64 k.d2,.pointer k.p2,.int .i64 k.n3,.int .i64 k.d3,.pointer k.p3]:=⟨_,rfl⟩
 obtain ⟨v18,h18⟩:∃ v:Value,v = .agg (frL k C9.zero C9.zero C9.zero).toArray:=⟨_,rfl⟩
 rw [← h0,← h11,← h13,← h15,← h18]
 obtain ⟨g1,g2,g3,g4,g5⟩:=HID2.out
 obtain ⟨hf2,hr2,hb2,hk⟩:=HID.out
 have hsz2:=hb2.size
 have hsW3:w1.heap.size+3=W3.heap.size:=g1.symm
 obtain ⟨W4,hW4⟩:∃ W4,W3.alloc (.cells #[.string a1,.string a2,.string a3,.string b1,.string b2,.string b3,.string c1,.string c2,.string c3,.string d1,.string d2,.string d3] 26 (0,0))=W4:=⟨_,rfl⟩
 have hF:W4.heap[W3.heap.size]?=some (.cells #[.string a1,.string a2,.string a3,.string b1,.string b2,.string b3,.string c1,.string c2,.string c3,.string d1,.string d2,.string d3] 26 (0,0)):=by rw [← hW4];exact World.alloc_heap_new _ _
 have hs4:W4.heap.size=W3.heap.size+1:=by rw [← hW4];simp
 have hb4:Below W3.heap.size W3 W4:=by rw [← hW4];exact (aB _ _).alloc (aR _) _
 have hb3:Below w1.heap.size w1 W4:=g2.trans (hb4.mono (by omega))
 have hinv:InvE ev w k (w1.heap.size+1+1) (w1.heap.size+1) (w.heap.size+1) o1 o2 o3 x1 x2 x3 y1 y2 y3 z1 z2 z3 [] W4:=by
  refine ⟨C9.zero,C9.zero,C9.zero,(hb4.block _ (by omega)).trans g5,fun h=>absurd h (by simp),fun h=>absurd h (by simp),fun h=>absurd h (by simp),(by rw [ev0];exact (hb4.block _ (by omega)).trans g4),?_,hk.below hb3,hb2.trans (hb3.mono (by omega))⟩
  rw [← HZ.out]
  exact (hb3.block _ (by omega)).trans hr2
 rw [hW4]
 have hEB:¬ (w1.heap.size+1:Nat)=w1.heap.size+1+1:=by omega
 have hRB:¬ (w.heap.size+1:Nat)=w1.heap.size+1+1:=by omega
 have hRE:¬ (w.heap.size+1:Nat)=w1.heap.size+1:=by omega
 have hBs:w1.heap.size+1+1<W4.heap.size:=by omega
 have hEs:w1.heap.size+1<W4.heap.size:=by omega
 have hRs:w.heap.size+1<W4.heap.size:=by omega
 have hE0:w.heap.size≤w1.heap.size+1:=by omega
 have hB0:w.heap.size≤w1.heap.size+1+1:=by omega
 have hwW4:w.heap.size≤W4.heap.size:=by omega
 clear g1 g2 g3 g4 g5 hf2 hr2 hb2 hk hsz2 hsW3 hb4 hb3 hW4 h0 h11 h13 h15 h18 HID HID2 f0 f1 f2 f3 f4 f5 f6 f7 f8 f9 f10 f11 hs1 hs2 hs4
 generalize w1.heap.size+1+1=B at *
 generalize w1.heap.size+1=E at *
 generalize w1.heap.size=p4 at *
 generalize W3.heap.size=q3 at *
 refine (wpIn_wide (n:=6)).1 ?_
 refine wpIn_rangeFunc_ownH (F:=Fence.wide) rfl (by omega) (gf:=160) (lb := #[.pointer (some ⟨q3,0,none⟩)]) rfl trivial (enters_of Tryz.func160 (by kernel_rfl) rfl)
  (axes_stops Fence.wide (6-1) trivial rfl (by omega) q3 w.heap.size a1 a2 a3 b1 b2 b3 c1 c2 c3 d1 d2 d3 W4 hwW4 hF) belowK_t (belowK_b (by omega)) (aB _ _) (fun _=>rfl)
  (InvE ev w k B E (w.heap.size+1) o1 o2 o3 x1 x2 x3 y1 y2 y3 z1 z2 z3) (fun _ _ _=>False) (tO hwW4) (fun _ _ _ _ _ hs _ _=>hs) hinv
  (fun x a' W => ∃ Bx,((x=0∧W.heap[Bx]?=some (.cells #[.string b1,.string b2,.string b3] 24 (0,0))∧a' = { tmps := #[v0,.pointer (some ⟨w.heap.size,0,none⟩),.pointer (some ⟨w.heap.size+1,0,none⟩),.int .i64 0,.pointer (some ⟨p4,0,none⟩),.pointer (some ⟨E,0,none⟩),.pointer (some ⟨B,0,none⟩),.int .i64 0,.pointer (some ⟨Bx,0,none⟩),undef,undef,v11,.pointer (some ⟨w.heap.size,0,none⟩),v13,v11,v15,.int .i64 eo,v15,v18,v0,.func (.func 160) #[] #[.pointer (some ⟨q3,0,none⟩)],.int .i64 0,.agg #[.string b1,.string b2,.string b3],undef,undef,undef,undef,undef,undef,undef,undef,undef,undef,undef,undef,undef,undef,undef,undef,undef,undef,undef,undef],defers := [] })∨(x=1∧W.heap[Bx]?=some (.cells #[.string c1,.string c2,.string c3] 24 (0,0))∧a' = { tmps := #[v0,.pointer (some ⟨w.heap.size,0,none⟩),.pointer (some ⟨w.heap.size+1,0,none⟩),.int .i64 0,.pointer (some ⟨p4,0,none⟩),.pointer (some ⟨E,0,none⟩),.pointer (some ⟨B,0,none⟩),.int .i64 1,.pointer (some ⟨Bx,0,none⟩),undef,undef,v11,.pointer (some ⟨w.heap.size,0,none⟩),v13,v11,v15,.int .i64 eo,v15,v18,v0,.func (.func 160) #[] #[.pointer (some ⟨q3,0,none⟩)],.int .i64 1,.agg #[.string c1,.string c2,.string c3],undef,undef,undef,undef,undef,undef,undef,undef,undef,undef,undef,undef,undef,undef,undef,undef,undef,undef,undef,undef],defers := [] })∨(x=2∧W.heap[Bx]?=some (.cells #[.string d1,.string d2,.string d3] 24 (0,0))∧a' = { tmps := #[v0,.pointer (some ⟨w.heap.size,0,none⟩),.pointer (some ⟨w.heap.size+1,0,none⟩),.int .i64 0,.pointer (some ⟨p4,0,none⟩),.pointer (some ⟨E,0,none⟩),.pointer (some ⟨B,0,none⟩),.int .i64 2,.pointer (some ⟨Bx,0,none⟩),undef,undef,v11,.pointer (some ⟨w.heap.size,0,none⟩),v13,v11,v15,.int .i64 eo,v15,v18,v0,.func (.func 160) #[] #[.pointer (some ⟨q3,0,none⟩)],.int .i64 2,.agg #[.string d1,.string d2,.string d3],undef,undef,undef,undef,undef,undef,undef,undef,undef,undef,undef,undef,undef,undef,undef,undef,undef,undef,undef,undef],defers := [] }))) ?hAx ?assign ?body ?done ?stop
 case hAx =>
  rintro x a' _ X Y row ⟨Bx,h2⟩ hg hr
  refine ⟨Bx,?_⟩
  rcases h2 with ⟨rfl,h3,h4⟩|⟨rfl,h3,h4⟩|⟨rfl,h3,h4⟩
  ·exact .inl ⟨rfl,(grownBy_keeps_cells hg (fun r e=>(hr r e).2) h3 rfl).trans h3,h4⟩
  ·exact .inr (.inl ⟨rfl,(grownBy_keeps_cells hg (fun r e=>(hr r e).2) h3 rfl).trans h3,h4⟩)
  ·exact .inr (.inr ⟨rfl,(grownBy_keeps_cells hg (fun r e=>(hr r e).2) h3 rfl).trans h3,h4⟩)
 case assign =>
  rintro l pre x W K hi hK
  have hiw:w.heap.size≤W.heap.size:=by obtain ⟨_,_,_,_,_,_,_,_,_,_,hb⟩:=hi;exact hb.size
  rcases fin3 x with rfl|rfl|rfl
  ·simp only [axE,axV]
   gi_wp2
   exact hK _ _ ((KeepsOthers.alloc _ _).from _) ((aB _ W).alloc hiw _) ((tO hwW4).alloc _ hi) ⟨W.heap.size,.inl ⟨by first|rfl|trivial,World.alloc_heap_new _ _,rfl⟩⟩
  ·simp only [axE,axV]
   gi_wp2
   exact hK _ _ ((KeepsOthers.alloc _ _).from _) ((aB _ W).alloc hiw _) ((tO hwW4).alloc _ hi) ⟨W.heap.size,.inr (.inl ⟨by first|rfl|trivial,World.alloc_heap_new _ _,rfl⟩)⟩
  ·simp only [axE,axV]
   gi_wp2
   exact hK _ _ ((KeepsOthers.alloc _ _).from _) ((aB _ W).alloc hiw _) ((tO hwW4).alloc _ hi) ⟨W.heap.size,.inr (.inr ⟨by first|rfl|trivial,World.alloc_heap_new _ _,rfl⟩)⟩
 case body =>
  rintro l pre x a' W _ _ ⟨x',y',z',hB,u0,u1,u2,hE,hR,hk,hbW⟩ ⟨Bx,h3⟩ _
  obtain ⟨u,hu⟩:∃ u,ev pre=u:=⟨_,rfl⟩
  have hue:=hev pre
  rw [hu] at hE hue
  have hBlt:=(Array.getElem?_eq_some_iff.1 hB).1
  have hElt:=(Array.getElem?_eq_some_iff.1 hE).1
  have hRlt:=(Array.getElem?_eq_some_iff.1 hR).1
  have hGW:=aH (hG.below hbW)
  have HW:=aH (aI hE (aI hR (aI hk hbW)))
  have HU:=aH (aI u0 (aI u1 u2))
  have HBB:=aH hB
  clear hB u0 u1 u2 hE hR hk hbW
  rcases h3 with ⟨rfl,h3,rfl⟩|⟨rfl,h3,rfl⟩|⟨rfl,h3,rfl⟩
  ·have cb0:W.cell? ⟨Bx,0,none⟩=some (.string b1):=by simp [World.cell?,h3]
   have cb1:W.cell? ⟨Bx,1,none⟩=some (.string b2):=by simp [World.cell?,h3]
   have cb2:W.cell? ⟨Bx,2,none⟩=some (.string b3):=by simp [World.cell?,h3]
   clear h3
   gi_wp2
   refine ⟨trivial,(CallsIn.inRound l (callsIn_wide.2 (cX.out W hGW.out))).mono ?_⟩
   rintro e w2 ⟨m,rfl,hm,hbl⟩
   have hs2:=hbl.size
   have hB2:=(hbl.block B hBlt).trans HBB.out
   have hE2:=(hbl.block E hElt).trans HW.out.1
   obtain ⟨q0,r0,q1,r1,q2,r2,q3,r3,q4,r4,q5,r5,q6,r6,q7,r7,q8,r8⟩:=up9 x' (show B<w2.heap.size by omega) hB2 (⟨rfl,rfl,rfl,rfl,rfl,rfl,rfl,rfl,rfl⟩:N9 _ _ 9 10 11 12 13 14 15 16 17)
   have qE:∀ o,(w2.alloc o).cell? ⟨E,0,none⟩=some (.int .i64 u):=tJ (by omega) (by simp [World.cell?,hE2])
   have H2:=aH (aI hm (aI hbl (aI hB2 hE2)))
   clear hm hbl hB2 hE2
   simp only [C9.val]
   gi_wp2
   obtain ⟨hm,hbl,hB2,hE2⟩:=H2.out
   obtain ⟨hE,hR,hk,hbW⟩:=HW.out
   obtain ⟨u0,u1,u2⟩:=HU.out
   have hBa:(w2.alloc (m9 m)).heap[B]?=some (.cells (frL k x' y' z').toArray 68 (0,0)):=(((aB _ w2).alloc (aR _) _).block B (by omega)).trans hB2
   have hT:Turned B (.cells (frL k m y' z').toArray 68 (0,0)) (w2.alloc (m9 m)) (st9 (w2.alloc (m9 m)) B 9 10 11 12 13 14 15 16 17 m):=turn9 9 hBa _ _ _ _ _ _ _ _ _ (by kernel_rfl)
   obtain ⟨X1,hX1⟩:∃ X1,st9 (w2.alloc (m9 m)) B 9 10 11 12 13 14 15 16 17 m=X1:=⟨_,rfl⟩
   rw [hX1] at hT
   unfold st9 m9 at hX1
   rw [hX1]
   have hsX:X1.heap.size=w2.heap.size+1:=by rw [hT.size];simp
   have hh:(X1.alloc (.cells #[.int .i64 u,.int .i64 ex] 32 (0,0))).heap[w2.heap.size+1]?=some (.cells #[.int .i64 u,.int .i64 ex] 32 (0,0)):=by rw [← hsX];exact World.alloc_heap_new _ _
   clear hX1 hBa
   obtain ⟨v,hv⟩:∃ v,f2 u ex=v:=⟨_,rfl⟩
   refine ⟨trivial,(CallsIn.inRound l (callsIn_wide.2 (rR hue hex hv _ (w2.heap.size+1) 32 hh))).mono ?_⟩
   rintro e w5 ⟨rfl,h5⟩
   obtain ⟨r1,r2,r3,r4,r4',r5,r6⟩:=pD (u:=u) (v:=v) (k:=k) (S:=W4.heap.size) (n:=w.heap.size) hbl HBB.out hE hEB hT h5 hbW.size hB0 hE0
   have hE5:w5.heap[E]?=some (.cells #[.int .i64 u] 32 (0,0)):=by have hs5:=h5.size;exact (h5.block E (by simp;omega)).trans ((((aB _ X1).alloc (aR _) _).block E (by omega)).trans ((hT.block E hEB).trans ((((aB _ w2).alloc (aR _) _).block E (by omega)).trans hE2)))
   have qE5:w5.cell? ⟨E,0,none⟩=some (.int .i64 u):=by simp [World.cell?,hE5]
   have rE5:w5.frozen? ⟨E,0,none⟩=false:=bA hE5 0
   have HF:KeepsFrom W4.heap.size W (w5.setCell ⟨E,0,none⟩ (.int .i64 v))∧Below w.heap.size W (w5.setCell ⟨E,0,none⟩ (.int .i64 v))∧InvE ev w k B E (w.heap.size+1) o1 o2 o3 x1 x2 x3 y1 y2 y3 z1 z2 z3 (pre ++ [0]) (w5.setCell ⟨E,0,none⟩ (.int .i64 v)) :=
    ⟨r5,r6,m,y',z',r1,fun _=>Vc.kext hm r4,fun h=>Vc.kext (Vc.kext (u1 (by simpa using h)) r4') r4,fun h=>Vc.kext (Vc.kext (u2 (by simpa using h)) r4') r4,(by rw [p0 pre,hu,hv];exact r2),(r3 _ hRlt hRB hRE).trans hR,Vc.kext (Vc.kext hk r4') r4,hbW.trans r6⟩
   have HG:=aH HF
   clear HF r1 r2 r3 r4 r4' r5 r6 hE5 hT hm hbl hB2 hE2 hE hR hk hbW u0 u1 u2 hh h5 hsX HW HU H2 hu hue
   gi_wp2
   exact HG.out
  ·have cb0:W.cell? ⟨Bx,0,none⟩=some (.string c1):=by simp [World.cell?,h3]
   have cb1:W.cell? ⟨Bx,1,none⟩=some (.string c2):=by simp [World.cell?,h3]
   have cb2:W.cell? ⟨Bx,2,none⟩=some (.string c3):=by simp [World.cell?,h3]
   clear h3
   gi_wp2
   refine ⟨trivial,(CallsIn.inRound l (callsIn_wide.2 (cY.out W hGW.out))).mono ?_⟩
   rintro e w2 ⟨m,rfl,hm,hbl⟩
   have hs2:=hbl.size
   have hB2:=(hbl.block B hBlt).trans HBB.out
   have hE2:=(hbl.block E hElt).trans HW.out.1
   obtain ⟨q0,r0,q1,r1,q2,r2,q3,r3,q4,r4,q5,r5,q6,r6,q7,r7,q8,r8⟩:=up9 y' (show B<w2.heap.size by omega) hB2 (⟨rfl,rfl,rfl,rfl,rfl,rfl,rfl,rfl,rfl⟩:N9 _ _ 18 19 20 21 22 23 24 25 26)
   have qE:∀ o,(w2.alloc o).cell? ⟨E,0,none⟩=some (.int .i64 u):=tJ (by omega) (by simp [World.cell?,hE2])
   have H2:=aH (aI hm (aI hbl (aI hB2 hE2)))
   clear hm hbl hB2 hE2
   simp only [C9.val]
   gi_wp2
   obtain ⟨hm,hbl,hB2,hE2⟩:=H2.out
   obtain ⟨hE,hR,hk,hbW⟩:=HW.out
   obtain ⟨u0,u1,u2⟩:=HU.out
   have hBa:(w2.alloc (m9 m)).heap[B]?=some (.cells (frL k x' y' z').toArray 68 (0,0)):=(((aB _ w2).alloc (aR _) _).block B (by omega)).trans hB2
   have hT:Turned B (.cells (frL k x' m z').toArray 68 (0,0)) (w2.alloc (m9 m)) (st9 (w2.alloc (m9 m)) B 18 19 20 21 22 23 24 25 26 m):=turn9 18 hBa _ _ _ _ _ _ _ _ _ (by kernel_rfl)
   obtain ⟨X1,hX1⟩:∃ X1,st9 (w2.alloc (m9 m)) B 18 19 20 21 22 23 24 25 26 m=X1:=⟨_,rfl⟩
   rw [hX1] at hT
   unfold st9 m9 at hX1
   rw [hX1]
   have hsX:X1.heap.size=w2.heap.size+1:=by rw [hT.size];simp
   have hh:(X1.alloc (.cells #[.int .i64 u,.int .i64 ey] 32 (0,0))).heap[w2.heap.size+1]?=some (.cells #[.int .i64 u,.int .i64 ey] 32 (0,0)):=by rw [← hsX];exact World.alloc_heap_new _ _
   clear hX1 hBa
   obtain ⟨v,hv⟩:∃ v,f2 u ey=v:=⟨_,rfl⟩
   refine ⟨trivial,(CallsIn.inRound l (callsIn_wide.2 (rR hue hey hv _ (w2.heap.size+1) 32 hh))).mono ?_⟩
   rintro e w5 ⟨rfl,h5⟩
   obtain ⟨r1,r2,r3,r4,r4',r5,r6⟩:=pD (u:=u) (v:=v) (k:=k) (S:=W4.heap.size) (n:=w.heap.size) hbl HBB.out hE hEB hT h5 hbW.size hB0 hE0
   have hE5:w5.heap[E]?=some (.cells #[.int .i64 u] 32 (0,0)):=by have hs5:=h5.size;exact (h5.block E (by simp;omega)).trans ((((aB _ X1).alloc (aR _) _).block E (by omega)).trans ((hT.block E hEB).trans ((((aB _ w2).alloc (aR _) _).block E (by omega)).trans hE2)))
   have qE5:w5.cell? ⟨E,0,none⟩=some (.int .i64 u):=by simp [World.cell?,hE5]
   have rE5:w5.frozen? ⟨E,0,none⟩=false:=bA hE5 0
   have HF:KeepsFrom W4.heap.size W (w5.setCell ⟨E,0,none⟩ (.int .i64 v))∧Below w.heap.size W (w5.setCell ⟨E,0,none⟩ (.int .i64 v))∧InvE ev w k B E (w.heap.size+1) o1 o2 o3 x1 x2 x3 y1 y2 y3 z1 z2 z3 (pre ++ [1]) (w5.setCell ⟨E,0,none⟩ (.int .i64 v)) :=
    ⟨r5,r6,x',m,z',r1,fun h=>Vc.kext (Vc.kext (u0 (by simpa using h)) r4') r4,fun _=>Vc.kext hm r4,fun h=>Vc.kext (Vc.kext (u2 (by simpa using h)) r4') r4,(by rw [p1 pre,hu,hv];exact r2),(r3 _ hRlt hRB hRE).trans hR,Vc.kext (Vc.kext hk r4') r4,hbW.trans r6⟩
   have HG:=aH HF
   clear HF r1 r2 r3 r4 r4' r5 r6 hE5 hT hm hbl hB2 hE2 hE hR hk hbW u0 u1 u2 hh h5 hsX HW HU H2 hu hue
   gi_wp2
   exact HG.out
  ·have cb0:W.cell? ⟨Bx,0,none⟩=some (.string d1):=by simp [World.cell?,h3]
   have cb1:W.cell? ⟨Bx,1,none⟩=some (.string d2):=by simp [World.cell?,h3]
   have cb2:W.cell? ⟨Bx,2,none⟩=some (.string d3):=by simp [World.cell?,h3]
   clear h3
   gi_wp2
   refine ⟨trivial,(CallsIn.inRound l (callsIn_wide.2 (cZ.out W hGW.out))).mono ?_⟩
   rintro e w2 ⟨m,rfl,hm,hbl⟩
   have hs2:=hbl.size
   have hB2:=(hbl.block B hBlt).trans HBB.out
   have hE2:=(hbl.block E hElt).trans HW.out.1
   obtain ⟨q0,r0,q1,r1,q2,r2,q3,r3,q4,r4,q5,r5,q6,r6,q7,r7,q8,r8⟩:=up9 z' (show B<w2.heap.size by omega) hB2 (⟨rfl,rfl,rfl,rfl,rfl,rfl,rfl,rfl,rfl⟩:N9 _ _ 27 28 29 30 31 32 33 34 35)
   have qE:∀ o,(w2.alloc o).cell? ⟨E,0,none⟩=some (.int .i64 u):=tJ (by omega) (by simp [World.cell?,hE2])
   have H2:=aH (aI hm (aI hbl (aI hB2 hE2)))
   clear hm hbl hB2 hE2
   simp only [C9.val]
   gi_wp2
   obtain ⟨hm,hbl,hB2,hE2⟩:=H2.out
   obtain ⟨hE,hR,hk,hbW⟩:=HW.out
   obtain ⟨u0,u1,u2⟩:=HU.out
   have hBa:(w2.alloc (m9 m)).heap[B]?=some (.cells (frL k x' y' z').toArray 68 (0,0)):=(((aB _ w2).alloc (aR _) _).block B (by omega)).trans hB2
   have hT:Turned B (.cells (frL k x' y' m).toArray 68 (0,0)) (w2.alloc (m9 m)) (st9 (w2.alloc (m9 m)) B 27 28 29 30 31 32 33 34 35 m):=turn9 27 hBa _ _ _ _ _ _ _ _ _ (by kernel_rfl)
   obtain ⟨X1,hX1⟩:∃ X1,st9 (w2.alloc (m9 m)) B 27 28 29 30 31 32 33 34 35 m=X1:=⟨_,rfl⟩
   rw [hX1] at hT
   unfold st9 m9 at hX1
   rw [hX1]
   have hsX:X1.heap.size=w2.heap.size+1:=by rw [hT.size];simp
   have hh:(X1.alloc (.cells #[.int .i64 u,.int .i64 ez] 32 (0,0))).heap[w2.heap.size+1]?=some (.cells #[.int .i64 u,.int .i64 ez] 32 (0,0)):=by rw [← hsX];exact World.alloc_heap_new _ _
   clear hX1 hBa
   obtain ⟨v,hv⟩:∃ v,f2 u ez=v:=⟨_,rfl⟩
   refine ⟨trivial,(CallsIn.inRound l (callsIn_wide.2 (rR hue hez hv _ (w2.heap.size+1) 32 hh))).mono ?_⟩
   rintro e w5 ⟨rfl,h5⟩
   obtain ⟨r1,r2,r3,r4,r4',r5,r6⟩:=pD (u:=u) (v:=v) (k:=k) (S:=W4.heap.size) (n:=w.heap.size) hbl HBB.out hE hEB hT h5 hbW.size hB0 hE0
   have hE5:w5.heap[E]?=some (.cells #[.int .i64 u] 32 (0,0)):=by have hs5:=h5.size;exact (h5.block E (by simp;omega)).trans ((((aB _ X1).alloc (aR _) _).block E (by omega)).trans ((hT.block E hEB).trans ((((aB _ w2).alloc (aR _) _).block E (by omega)).trans hE2)))
   have qE5:w5.cell? ⟨E,0,none⟩=some (.int .i64 u):=by simp [World.cell?,hE5]
   have rE5:w5.frozen? ⟨E,0,none⟩=false:=bA hE5 0
   have HF:KeepsFrom W4.heap.size W (w5.setCell ⟨E,0,none⟩ (.int .i64 v))∧Below w.heap.size W (w5.setCell ⟨E,0,none⟩ (.int .i64 v))∧InvE ev w k B E (w.heap.size+1) o1 o2 o3 x1 x2 x3 y1 y2 y3 z1 z2 z3 (pre ++ [2]) (w5.setCell ⟨E,0,none⟩ (.int .i64 v)) :=
    ⟨r5,r6,x',y',m,r1,fun h=>Vc.kext (Vc.kext (u0 (by simpa using h)) r4') r4,fun h=>Vc.kext (Vc.kext (u1 (by simpa using h)) r4') r4,fun _=>Vc.kext hm r4,(by rw [p2 pre,hu,hv];exact r2),(r3 _ hRlt hRB hRE).trans hR,Vc.kext (Vc.kext hk r4') r4,hbW.trans r6⟩
   have HG:=aH HF
   clear HF r1 r2 r3 r4 r4' r5 r6 hE5 hT hm hbl hB2 hE2 hE hR hk hbW u0 u1 u2 hh h5 hsX HW HU H2 hu hue
   gi_wp2
   exact HG.out
 case done =>
  rintro D ys W hD rfl ⟨x',y',z',hB,u0,u1,u2,hE,hR,hk,hbW⟩ hK
  rw [ev3] at hE
  have vx:=u0 (by simp)
  have vy:=u1 (by simp)
  have vz:=u2 (by simp)
  by_cases hZ0:zq=0
  ·subst hZ0
   have qE:W.cell? ⟨E,0,none⟩=some (.int .i64 0):=by simp [World.cell?,hE]
   have HW:=aH (aI hB (aI hR (aI hk (aI vx (aI vy (aI vz (aI hbW hK)))))))
   clear u0 u1 u2 hB hR hk vx vy vz hbW hK hE
   go_wp2_with fail
   refine wp_region_ty Kn [w.heap.size+1] (by kernel_rfl) (by kernel_rfl) ?_
   refine bS (.agg (frL k x' y' z').toArray) rfl (fun A w' hB hk=>?_) ?_
   ·simp [known,specOf,Kd.spec,Sp.is,isVar,Oper.looksAt,Op.operands,Call.operands,Act.eval] at hk
    exact load_all rfl (by first|exact hk|simpa [Act.eval] using hk) (hB.blk HW.out.1 (by simp;omega)) Tryz.underlying68 rfl (by kernel_rfl)
   refine bS (.agg (frL k x' y' z').toArray) rfl (fun A w' hB hk=>?_) ?_
   ·simp [known,specOf,Kd.spec,Sp.is,isVar,Oper.looksAt,Op.operands,Call.operands,Act.eval] at hk
    exact load_all rfl (by first|exact hk|simpa [Act.eval] using hk) (hB.blk HW.out.1 (by simp;omega)) Tryz.underlying68 rfl (by kernel_rfl)
   refine aQ (Sp.is (.int .i64 zc)) (Sp.is_stable _ _) rfl (fun A w' hB hk=>?_) ?_
   ·simp [known,specOf,Kd.spec,Sp.is,isVar,Oper.looksAt,Op.operands,Call.operands,Act.eval] at hk
    simp [go_sem,hk]
    refine aG ?_
    have hx:=Base.extT hB HW.out.2.1 (mO _ _ _ _ _)
    exact (HC.out (by first|trivial|rfl) _ _ _ _ _ (Vc.kext HW.out.2.2.1 hx) (Vc.kext HW.out.2.2.2.1 hx) (Vc.kext HW.out.2.2.2.2.1 hx) (Vc.kext HW.out.2.2.2.2.2.1 hx)).mono (fun e w'' ⟨e1,e2⟩=>⟨_,e1,e2,rfl⟩)
   refine gP (w.heap.size+1) (.cells (frL C9.zero C9.zero C9.zero C9.zero).toArray 68 (0,0)) (fun o _=>o = .cells (frL k x' y' z').toArray 68 (0,0)) (fun _ _ _ h _=>h) rfl rfl (by simp) HW.out.2.1 (mO _ _ _ _ _) (fun A w' hB hk h0=>?_) ?_
   ·simp [known,specOf,Kd.spec,Sp.is,isVar,Oper.looksAt,Op.operands,Call.operands,Act.eval] at hk
    have hst:=lN (P:=Tryz.prog) (ρ:=A.eval) (w:=w') (o := { dst:=none,op:=Op.store 68 (Operand.tmp 2) (Operand.tmp 40),type:=0,pos := "frame.go:38",after := #[{ on:=0,ground:=Ground.data },{ on:=2,ground:=Ground.chain },{ on:=0,ground:=Ground.phase },{ on:=1,ground:=Ground.textOnly Departure.lateStores },{ on:=2,ground:=Ground.textOnly Departure.lateStoresUnsure }],guard:=none }) (T':=68) (g:=w.heap.size+1) (off:=0) (n:=36) (cs:=frL C9.zero C9.zero C9.zero C9.zero) (es:=frL k x' y' z') rfl (by simp [Act.eval,hk]) (by simp [Act.eval,hk,Value.cells]) (by kernel_rfl) rfl (frL_one _ _ _ _) h0 (show 0+36≤36 by omega)
    have e:List.take 0 (frL C9.zero C9.zero C9.zero C9.zero)++frL k x' y' z'++List.drop (0+(frL k x' y' z').length) (frL C9.zero C9.zero C9.zero C9.zero)=frL k x' y' z':=by kernel_rfl
    rw [e] at hst
    rw [hst.1]
    exact ⟨_,⟨hst.2.os,hst.2.tape,hst.2.output,hst.2.size,hst.2.at_,hst.2.block⟩,rfl⟩
   refine aY _ ?_ (by first|exact .inl rfl|exact .inr rfl) (by rfl) (by simp [specOf,Kd.spec];rfl) ?_ rfl ?_
   ·exact Sp.is_stable _ _
   refine ⟨by first|rfl|decide,fun f w2 hB hF hAp=>?_⟩;simp [Final1,Sp.is,isVar] at hF;simp only [frameOf]
   obtain ⟨f3,hw2,_,_,_⟩:=hF
   have hDR:¬ D=w.heap.size+1:=by
    intro e
    have h1:=HW.out.2.1
    have h2:=HW.out.2.2.2.2.2.2.2
    rw [e,h1] at h2
    injection h2 with h2
    cases h2
   have hK2:=hB.blk HW.out.2.2.2.2.2.2.2 (by simp;omega)
   have HV:=aH (aI hw2 (aI hB hK2))
   clear hAp
   have HBB:=aH hB
   clear hB
   go_wp2
   have hB:=HBB.out
   refine ⟨by simp,.inl ⟨_,_,rfl,run_takeDeferred hK2,?_⟩⟩
   have hg5:(w2.putObj D (.deferred none)).heap[w.heap.size+1]?=some (.cells (frL k x' y' z').toArray 68 (0,0)):=(World.putObj_heap_other (by omega)).trans hw2
   have hl:=run_loadVar_mid (P:=Tryz.prog) (w2.putObj D (.deferred none)) (w.heap.size+1) 0 68 (((frL k x' y' z').drop 0).take 36) _ (sA hg5 0 36) Tryz.underlying68 rfl (by kernel_rfl)
   have e36:((frL k x' y' z').drop 0).take 36=frL k x' y' z':=by kernel_rfl
   rw [e36] at hl
   have hbe:=Base.belowT hB HW.out.2.2.2.2.2.2.1 (by omega)
   have hx1:=Base.extT hB HW.out.2.1 (mO _ _ _ _ _)
   have hx2:Go.Proofs.YtklnecajplnboaaGreatDoor.Ext Kn w2 (w2.putObj D (.deferred none)):=uY (grownBy_putObj' w2 D _) (fun r e=>by cases e;exact ⟨_,hK2,rfl⟩)
   have hDw:w.heap.size≤D:=by omega
   refine ⟨.tuple #[.agg (frL k x' y' z').toArray,.int .i64 zc],?_,k,x',y',z',rfl,Vc.kext (Vc.kext HW.out.2.2.1 hx1) hx2,Vc.kext (Vc.kext HW.out.2.2.2.1 hx1) hx2,Vc.kext (Vc.kext HW.out.2.2.2.2.1 hx1) hx2,Vc.kext (Vc.kext HW.out.2.2.2.2.2.1 hx1) hx2,hbe.trans (belowK_b (w:=w) (aR _) w2 D _ _ hDw hK2 rfl rfl)⟩
   refine (kO (vs := [.agg (frL k x' y' z').toArray,.int .i64 zc]) ?_).trans rfl
   show (List.mapM (xW _) [.cell 2 68,.tmp 3]).run _ _=_
   simp [List.mapM_cons,xW,Act.put,asAddr,Sem.run_bind,Result.andThen,hl,f3]
  ·have n1:(zq==0)=false:=by rw [beq_eq_false_iff_ne];exact hZ0
   have qE:W.cell? ⟨E,0,none⟩=some (.int .i64 zq):=by simp [World.cell?,hE]
   have HW:=aH (aI hE (aI hR (aI hk (aI vx (aI vy (aI vz (aI hbW hK)))))))
   clear u0 u1 u2 hB hR hk vx vy vz hbW hK hE
   go_wp2_with fail
   refine wp_region_ty Kn [w.heap.size+1] (by kernel_rfl) (by kernel_rfl) ?_
   refine bS (.agg (frL C9.zero C9.zero C9.zero C9.zero).toArray) rfl (fun A w' hB hk=>?_) ?_
   ·refine bJ ?_
    exact bL (by kernel_rfl) _
   refine bS (.int .i64 zq) rfl (fun A w' hB hk=>?_) ?_
   ·simp [known,specOf,Kd.spec,Sp.is,isVar,Oper.looksAt,Op.operands,Call.operands,Act.eval] at hk
    have hc:=hB.blk HW.out.1 (by simp;omega)
    have hc:w'.cell? ⟨E,0,none⟩=some (.int .i64 zq):=by simp [World.cell?,hc]
    simp [go_sem,hk,hc]
   refine gP (w.heap.size+1) (.cells (frL C9.zero C9.zero C9.zero C9.zero).toArray 68 (0,0)) (fun o _=>o = .cells (frL C9.zero C9.zero C9.zero C9.zero).toArray 68 (0,0)) (fun _ _ _ h _=>h) rfl rfl (by simp) HW.out.2.1 (mO _ _ _ _ _) (fun A w' hB hk h0=>?_) ?_
   ·simp [known,specOf,Kd.spec,Sp.is,isVar,Oper.looksAt,Op.operands,Call.operands,Act.eval] at hk
    have hst:=lN (P:=Tryz.prog) (ρ:=A.eval) (w:=w') (o := { dst:=none,op:=Op.store 68 (Operand.tmp 2) (Operand.tmp 38),type:=0,pos := "frame.go:36",after := #[{ on:=0,ground:=Ground.data },{ on:=0,ground:=Ground.phase },{ on:=1,ground:=Ground.textOnly Departure.lateStores }],guard:=none }) (T':=68) (g:=w.heap.size+1) (off:=0) (n:=36) (cs:=frL C9.zero C9.zero C9.zero C9.zero) (es:=frL C9.zero C9.zero C9.zero C9.zero) rfl (by simp [Act.eval,hk]) (by simp [Act.eval,hk,Value.cells]) (by kernel_rfl) rfl (frL_one _ _ _ _) h0 (show 0+36≤36 by omega)
    have e:List.take 0 (frL C9.zero C9.zero C9.zero C9.zero)++frL C9.zero C9.zero C9.zero C9.zero++List.drop (0+(frL C9.zero C9.zero C9.zero C9.zero).length) (frL C9.zero C9.zero C9.zero C9.zero)=frL C9.zero C9.zero C9.zero C9.zero:=by kernel_rfl
    rw [e] at hst
    rw [hst.1]
    exact ⟨_,⟨hst.2.os,hst.2.tape,hst.2.output,hst.2.size,hst.2.at_,hst.2.block⟩,rfl⟩
   refine aY _ ?_ (by first|exact .inl rfl|exact .inr rfl) (by rfl) (by simp [specOf,Kd.spec];rfl) ?_ rfl ?_
   ·exact Sp.is_stable _ _
   refine ⟨by first|rfl|decide,fun f w2 hB hF hAp=>?_⟩;simp [Final1,Sp.is,isVar] at hF;simp only [frameOf]
   obtain ⟨f3,hw2,_⟩:=hF
   have hDR:¬ D=w.heap.size+1:=by
    intro e
    have h1:=HW.out.2.1
    have h2:=HW.out.2.2.2.2.2.2.2
    rw [e,h1] at h2
    injection h2 with h2
    cases h2
   have hK2:=hB.blk HW.out.2.2.2.2.2.2.2 (by simp;omega)
   have HV:=aH (aI hw2 (aI hB hK2))
   clear hAp
   have HBB:=aH hB
   clear hB
   go_wp2
   have hB:=HBB.out
   refine ⟨by simp,.inl ⟨_,_,rfl,run_takeDeferred hK2,?_⟩⟩
   have hg5:(w2.putObj D (.deferred none)).heap[w.heap.size+1]?=some (.cells (frL C9.zero C9.zero C9.zero C9.zero).toArray 68 (0,0)):=(World.putObj_heap_other (by omega)).trans hw2
   have hl:=run_loadVar_mid (P:=Tryz.prog) (w2.putObj D (.deferred none)) (w.heap.size+1) 0 68 (((frL C9.zero C9.zero C9.zero C9.zero).drop 0).take 36) _ (sA hg5 0 36) Tryz.underlying68 rfl (by kernel_rfl)
   have e36:((frL C9.zero C9.zero C9.zero C9.zero).drop 0).take 36=frL C9.zero C9.zero C9.zero C9.zero:=by kernel_rfl
   rw [e36] at hl
   have hbe:=Base.belowT hB HW.out.2.2.2.2.2.2.1 (by omega)
   have hx1:=Base.extT hB HW.out.2.1 (mO _ _ _ _ _)
   have hx2:Go.Proofs.YtklnecajplnboaaGreatDoor.Ext Kn w2 (w2.putObj D (.deferred none)):=uY (grownBy_putObj' w2 D _) (fun r e=>by cases e;exact ⟨_,hK2,rfl⟩)
   have hDw:w.heap.size≤D:=by omega
   refine ⟨.tuple #[.agg (frL C9.zero C9.zero C9.zero C9.zero).toArray,.int .i64 zq],?_,rfl,⟨k,Vc.kext (Vc.kext HW.out.2.2.1 hx1) hx2⟩,⟨x',Vc.kext (Vc.kext HW.out.2.2.2.1 hx1) hx2⟩,⟨y',Vc.kext (Vc.kext HW.out.2.2.2.2.1 hx1) hx2⟩,⟨z',Vc.kext (Vc.kext HW.out.2.2.2.2.2.1 hx1) hx2⟩,hbe.trans (belowK_b (w:=w) (aR _) w2 D _ _ hDw hK2 rfl rfl)⟩
   refine (kO (vs := [.agg (frL C9.zero C9.zero C9.zero C9.zero).toArray,.int .i64 zq]) ?_).trans rfl
   show (List.mapM (xW _) [.cell 2 68,.tmp 3]).run _ _=_
   simp [List.mapM_cons,xW,Act.put,asAddr,Sem.run_bind,Result.andThen,hl,f3]
 case stop=>rintro D c pre W _ _ h _;exact h.elim
end Fr
namespace Fr
open Go.RowKit Go.Shelf Ab Pl
set_option maxRecDepth 100000 in
theorem aAd (o1 o2 o3 x1 x2 x3 y1 y2 y3 z1 z2 z3:Rat) (ho:pT o1 o2 o3) (hx:pT x1 x2 x3) (hy:pT y1 y2 y3) (hz:pT z1 z2 z3) (lm:Lm 25 x1 x2 x3 y1 y2 y3 z1 z2 z3) (hax:Ax x1 x2 x3 y1 y2 y3 z1 z2 z3) (w:World) (hG:Gl w) :
 Calls Tryz.prog 29 #[.agg #[.string (writeB o1),.string (writeB o2),.string (writeB o3),.string (writeB x1),.string (writeB x2),.string (writeB x3),.string (writeB y1),.string (writeB y2),.string (writeB y3),.string (writeB z1),.string (writeB z2),.string (writeB z3)]] w fun e w' => ∃ o x y z:C9,e = .returned (.tuple #[.agg (frL o x y z).toArray,.int .i64 0])∧Vc w' o.val o1 o2 o3∧Vc w' x.val x1 x2 x3∧Vc w' y.val y1 y2 y3∧Vc w' z.val z1 z2 z3∧Below w.heap.size w w':=by
 have h:=readFrame_gen (writeB o1) (writeB o2) (writeB o3) (writeB x1) (writeB x2) (writeB x3) (writeB y1) (writeB y2) (writeB y3) (writeB z1) (writeB z2) (writeB z3) o1 o2 o3 x1 x2 x3 y1 y2 y3 z1 z2 z3 0 0 0 0 0 0
  (.inl rfl) (.inl rfl) (.inl rfl) (.inl rfl) rfl (fun W hW=>kV ho W hW) (fun W hW=>kV hx W hW) (fun W hW=>kV hy W hW) (fun W hW=>kV hz W hW)
  (fun _ _ _ _ _ _ v0 v1 v2 v3=>check_any v0 v1 v2 v3 lm hax) w hG
 rw [if_pos rfl] at h
 simpa only [if_true] using h
theorem holds_txt {β:List Nat} {w:World}:∀ (l:List ByteArray) (cs:List Value),holdsL β (l.map cH) cs w→cs=l.map Value.string
 | [],cs,h=>h
 | b::l,cs,⟨x,y,e,h1,h2⟩=>by
   have h1:x = [.string b]:=h1
   rw [e,h1,holds_txt l y h2]
   rfl
section
variable {o1 o2 o3 x1 x2 x3 y1 y2 y3 z1 z2 z3:Rat}
theorem readFrameF (h:Wf o1 o2 o3 x1 x2 x3 y1 y2 y3 z1 z2 z3) (hax:Ax x1 x2 x3 y1 y2 y3 z1 z2 z3):jX 29 [iT o1 o2 o3 x1 x2 x3 y1 y2 y3 z1 z2 z3] (okFr o1 o2 o3 x1 x2 x3 y1 y2 y3 z1 z2 z3):=by
 intro β w vs hG hv
 obtain ⟨v,rfl,cs,rfl,h1⟩:=dC hv
 have e:=holds_txt [writeB o1,writeB o2,writeB o3,writeB x1,writeB x2,writeB x3,writeB y1,writeB y2,writeB y3,writeB z1,writeB z2,writeB z3] cs h1
 rw [e]
 refine (aAd o1 o2 o3 x1 x2 x3 y1 y2 y3 z1 z2 z3 h.o h.x h.y h.z (h.lm.mono (by decide)) hax w hG).mono ?_
 rintro e w' ⟨o,x,y,z,e1,v0,v1,v2,v3,hb⟩
 exact ⟨_,e1,hb,[.agg (frL o x y z).toArray,.int .i64 0],rfl,_,_,rfl,fr_holds v0 v1 v2 v3,_,_,rfl,⟨rfl,rfl⟩,rfl⟩
theorem fv_of (h:Wf o1 o2 o3 x1 x2 x3 y1 y2 y3 z1 z2 z3) (hax:Ax x1 x2 x3 y1 y2 y3 z1 z2 z3):Fv o1 o2 o3 x1 x2 x3 y1 y2 y3 z1 z2 z3:=⟨h,hax,readFrameF h hax⟩
end
end Fr
namespace Ab
open Go.RowKit Pl
inductive AvL:List (AV Kn)→List (AV Kn)→Prop where
 | nil:AvL [] []
 | ag {k m l l'}:LitL k m→AvL l l'→AvL (.fv (.ag k)::l) (.fv (.ag m)::l')
 | txt {b:ByteArray} {l l'}:AvL l l'→AvL (.fv (.sc (cH b))::l) (.fv (.sc (.lit (.string b)))::l')
 | same {x:AV Kn} {l l'}:AvL l l'→AvL (x::l) (x::l')
theorem AvL.to {β:List Nat} {w:World} {l m:List (AV Kn)} (h:AvL l m):∀ {vs:List Value},holdsA β m vs w→holdsA β l vs w:=by
 induction h with
 | nil=>intro vs h;exact h
 | ag hl _ ih=>rintro vs ⟨v,r,e,h1,h2⟩;exact ⟨v,r,e,(ag_lit hl).2 h1,ih h2⟩
 | txt _ ih=>rintro vs ⟨v,r,e,h1,h2⟩;exact ⟨v,r,e,sc_lit.2 h1,ih h2⟩
 | same _ ih=>rintro vs ⟨v,r,e,h1,h2⟩;exact ⟨v,r,e,h1,ih h2⟩
inductive FvL:List (FV Kn)→List (FV Kn)→Prop where
 | nil:FvL [] []
 | ag {k m l l'}:LitL k m→FvL l l'→FvL (.ag k::l) (.ag m::l')
 | txt {b:ByteArray} {l l'}:FvL l l'→FvL (.sc (cH b)::l) (.sc (.lit (.string b))::l')
 | same {x:FV Kn} {l l'}:FvL l l'→FvL (x::l) (x::l')
theorem FvL.to {β:List Nat} {w:World} {l m:List (FV Kn)} (h:FvL l m):∀ {vs:List Value},holdsF β l vs w→holdsF β m vs w:=by
 induction h with
 | nil=>intro vs h;exact h
 | ag hl _ ih=>rintro vs ⟨v,r,e,h1,h2⟩;exact ⟨v,r,e,(ag_lit hl).1 h1,ih h2⟩
 | txt _ ih=>rintro vs ⟨v,r,e,h1,h2⟩;exact ⟨v,r,e,(sc_lit (β:=β)).1 h1,ih h2⟩
 | same _ ih=>rintro vs ⟨v,r,e,h1,h2⟩;exact ⟨v,r,e,h1,ih h2⟩
theorem FitsW.lits {P:Program} {I:World→Prop} {f:FuncId} {l l' : List (AV Kn)} {r r' : List (FV Kn)} (h:FitsW P I f l (.tup r)) (ha:AvL l l') (hr:FvL r r'):FitsW P I f l' (.tup r') :=
 (h.args fun _ _ _ hv=>ha.to hv).res fun _ _ _ ⟨vs,e,hv⟩=>⟨vs,e,hr.to hv⟩
theorem Fits.lits {P:Program} {f:FuncId} {l l' : List (AV Kn)} {k m:List (Seg Kn)} (h:Fits P f l (.fv (.ag k))) (ha:AvL l l') (hr:LitL k m):Fits P f l' (.fv (.ag m)):=fun β w vs hv =>
 (h β w vs (ha.to hv)).mono fun e w' ⟨v,e1,e2,e3⟩=>⟨v,e1,e2,(ag_lit hr).1 e3⟩
theorem vc_eq {P:Program} {f:FuncId} {l:List (AV Kn)} {a b c a' b' c' : Rat} (h:Fits P f l (vc a b c)) (e1:a=a') (e2:b=b') (e3:c=c'):Fits P f l (vc a' b' c'):=by
 subst e1
 subst e2
 subst e3
 exact h
theorem wr_q {q:Rat} (hn:q.num.natAbs<1000000000) (hd:q.den<1000000000):Wr q :=
 ⟨Nat.le_trans (decB_size (k:=8) hn) (by decide),Nat.le_trans (decB_size (k:=8) hd) (by decide)⟩
theorem pE {z:Int} (h:z.natAbs<1000000000):Wr (z:Rat):=wr_q h (show 1<1000000000 by omega)
theorem kL {q:Rat} {n:Int} {d:Nat} {a b:ByteArray} (hn:q.num=n) (hd:q.den=d) (h1:d≠1) (ha:aN n=a) (hb:decB d=b):writeB q=a++(⟨#[47]⟩++b):=by
 rw [eZ (by rw [hd];exact h1),hn,hd,ha,hb]
theorem x0:writeB ((0:Int):Rat)=⟨#[48]⟩:=dE (by omega) (bO (n:=0) (by omega))
theorem x1:writeB ((1:Int):Rat)=⟨#[49]⟩:=dE (by omega) (bO (n:=1) (by omega))
theorem x2:writeB ((2:Int):Rat)=⟨#[50]⟩:=dE (by omega) (bO (n:=2) (by omega))
theorem x3:writeB ((3:Int):Rat)=⟨#[51]⟩:=dE (by omega) (bO (n:=3) (by omega))
theorem x4:writeB ((4:Int):Rat)=⟨#[52]⟩:=dE (by omega) (bO (n:=4) (by omega))
theorem x5:writeB ((5:Int):Rat)=⟨#[53]⟩:=dE (by omega) (bO (n:=5) (by omega))
theorem x7:writeB ((7:Int):Rat)=⟨#[55]⟩:=dE (by omega) (bO (n:=7) (by omega))
theorem x10:writeB ((10:Int):Rat)=⟨#[49,48]⟩:=dE (by omega) (mN (n:=10) (by omega) (by omega))
theorem x24:writeB ((24:Int):Rat)=⟨#[50,52]⟩:=dE (by omega) (mN (n:=24) (by omega) (by omega))
theorem x25:writeB ((25:Int):Rat)=⟨#[50,53]⟩:=dE (by omega) (mN (n:=25) (by omega) (by omega))
theorem x28:writeB ((28:Int):Rat)=⟨#[50,56]⟩:=dE (by omega) (mN (n:=28) (by omega) (by omega))
theorem x30:writeB ((30:Int):Rat)=⟨#[51,48]⟩:=dE (by omega) (mN (n:=30) (by omega) (by omega))
theorem xm1:writeB ((-1:Int):Rat)=⟨#[45,49]⟩:=(fL (z := -1) (by omega) (b:=⟨#[49]⟩) (by rw [show Int.natAbs (-1)=1 from rfl];exact bO (n:=1) (by omega))).trans (ba_ext rfl)
theorem xm2:writeB ((-2:Int):Rat)=⟨#[45,50]⟩:=(fL (z := -2) (by omega) (b:=⟨#[50]⟩) (by rw [show Int.natAbs (-2)=2 from rfl];exact bO (n:=2) (by omega))).trans (ba_ext rfl)
theorem xm4:writeB ((-4:Int):Rat)=⟨#[45,52]⟩:=(fL (z := -4) (by omega) (b:=⟨#[52]⟩) (by rw [show Int.natAbs (-4)=4 from rfl];exact bO (n:=4) (by omega))).trans (ba_ext rfl)
theorem xm7:writeB ((-7:Int):Rat)=⟨#[45,55]⟩:=(fL (z := -7) (by omega) (b:=⟨#[55]⟩) (by rw [show Int.natAbs (-7)=7 from rfl];exact bO (n:=7) (by omega))).trans (ba_ext rfl)
theorem xm24:writeB ((-24:Int):Rat)=⟨#[45,50,52]⟩:=(fL (z := -24) (by omega) (b:=⟨#[50,52]⟩) (by rw [show Int.natAbs (-24)=24 from rfl];exact mN (n:=24) (by omega) (by omega))).trans (ba_ext rfl)
theorem r0:Wr ((0:Int):Rat):=pE (by decide)
theorem r1:Wr ((1:Int):Rat):=pE (by decide)
theorem r2:Wr ((2:Int):Rat):=pE (by decide)
theorem r3:Wr ((3:Int):Rat):=pE (by decide)
theorem r4:Wr ((4:Int):Rat):=pE (by decide)
theorem r5:Wr ((5:Int):Rat):=pE (by decide)
theorem r7:Wr ((7:Int):Rat):=pE (by decide)
theorem r10:Wr ((10:Int):Rat):=pE (by decide)
theorem r24:Wr ((24:Int):Rat):=pE (by decide)
theorem r25:Wr ((25:Int):Rat):=pE (by decide)
theorem r28:Wr ((28:Int):Rat):=pE (by decide)
theorem r30:Wr ((30:Int):Rat):=pE (by decide)
theorem rm1:Wr ((-1:Int):Rat):=pE (by decide)
theorem rm2:Wr ((-2:Int):Rat):=pE (by decide)
theorem rm4:Wr ((-4:Int):Rat):=pE (by decide)
theorem rm7:Wr ((-7:Int):Rat):=pE (by decide)
theorem rm24:Wr ((-24:Int):Rat):=pE (by decide)
theorem nh12:(mkRat (1) 2).num=1:=by kernel_rfl
theorem dh12:(mkRat (1) 2).den=2:=by kernel_rfl
theorem xh12:writeB (mkRat (1) 2)=⟨#[49,47,50]⟩:=(kL nh12 dh12 (by decide) (a:=⟨#[49]⟩) ((bY (1)).trans x1) (bO (n:=2) (by omega))).trans (ba_ext rfl)
theorem rh12:Wr (mkRat (1) 2):=wr_q (by rw [nh12];decide) (by rw [dh12];decide)
theorem nm13:(mkRat (-1) 3).num = -1:=by kernel_rfl
theorem dm13:(mkRat (-1) 3).den=3:=by kernel_rfl
theorem xm13:writeB (mkRat (-1) 3)=⟨#[45,49,47,51]⟩:=(kL nm13 dm13 (by decide) (a:=⟨#[45,49]⟩) ((bY (-1)).trans xm1) (bO (n:=3) (by omega))).trans (ba_ext rfl)
theorem rm13:Wr (mkRat (-1) 3):=wr_q (by rw [nm13];decide) (by rw [dm13];decide)
theorem nq252:(mkRat (25) 2).num=25:=by kernel_rfl
theorem dq252:(mkRat (25) 2).den=2:=by kernel_rfl
theorem xq252:writeB (mkRat (25) 2)=⟨#[50,53,47,50]⟩:=(kL nq252 dq252 (by decide) (a:=⟨#[50,53]⟩) ((bY (25)).trans x25) (bO (n:=2) (by omega))).trans (ba_ext rfl)
theorem rq252:Wr (mkRat (25) 2):=wr_q (by rw [nq252];decide) (by rw [dq252];decide)
theorem nm12:(mkRat (-1) 2).num = -1:=by kernel_rfl
theorem dm12:(mkRat (-1) 2).den=2:=by kernel_rfl
theorem xm12:writeB (mkRat (-1) 2)=⟨#[45,49,47,50]⟩:=(kL nm12 dm12 (by decide) (a:=⟨#[45,49]⟩) ((bY (-1)).trans xm1) (bO (n:=2) (by omega))).trans (ba_ext rfl)
theorem rm12:Wr (mkRat (-1) 2):=wr_q (by rw [nm12];decide) (by rw [dm12];decide)
theorem nq23:(mkRat (2) 3).num=2:=by kernel_rfl
theorem dq23:(mkRat (2) 3).den=3:=by kernel_rfl
theorem xq23:writeB (mkRat (2) 3)=⟨#[50,47,51]⟩:=(kL nq23 dq23 (by decide) (a:=⟨#[50]⟩) ((bY (2)).trans x2) (bO (n:=3) (by omega))).trans (ba_ext rfl)
theorem rq23:Wr (mkRat (2) 3):=wr_q (by rw [nq23];decide) (by rw [dq23];decide)
theorem lv_2_0_4:jF 16 [it (2),it (0),it (4)] (.fv (.ag [.lit (.string ⟨#[50]⟩),.lit (.string ⟨#[48]⟩),.lit (.string ⟨#[52]⟩)]):AV Kn):=by
 have h:=dL (a:=2) (b:=0) (c:=4) (by constructor <;> omega) (by constructor <;> omega) (by constructor <;> omega)
 simp only [vS,wB,gI,rX,hS,iT,gJ,x0,x2,x4] at h
 exact h.lits (.same (.same (.same .nil))) (.txt (.txt (.txt .nil)))
theorem lv_m1_0_m2:jF 16 [it (-1),it (0),it (-2)] (.fv (.ag [.lit (.string ⟨#[45,49]⟩),.lit (.string ⟨#[48]⟩),.lit (.string ⟨#[45,50]⟩)]):AV Kn):=by
 have h:=dL (a := -1) (b:=0) (c := -2) (by constructor <;> omega) (by constructor <;> omega) (by constructor <;> omega)
 simp only [vS,wB,gI,rX,hS,iT,gJ,x0,xm1,xm2] at h
 exact h.lits (.same (.same (.same .nil))) (.txt (.txt (.txt .nil)))
theorem lv_1_0_0:jF 16 [it (1),it (0),it (0)] (.fv (.ag [.lit (.string ⟨#[49]⟩),.lit (.string ⟨#[48]⟩),.lit (.string ⟨#[48]⟩)]):AV Kn):=by
 have h:=dL (a:=1) (b:=0) (c:=0) (by constructor <;> omega) (by constructor <;> omega) (by constructor <;> omega)
 simp only [vS,wB,gI,rX,hS,iT,gJ,x0,x1] at h
 exact h.lits (.same (.same (.same .nil))) (.txt (.txt (.txt .nil)))
theorem lv_0_1_0:jF 16 [it (0),it (1),it (0)] (.fv (.ag [.lit (.string ⟨#[48]⟩),.lit (.string ⟨#[49]⟩),.lit (.string ⟨#[48]⟩)]):AV Kn):=by
 have h:=dL (a:=0) (b:=1) (c:=0) (by constructor <;> omega) (by constructor <;> omega) (by constructor <;> omega)
 simp only [vS,wB,gI,rX,hS,iT,gJ,x0,x1] at h
 exact h.lits (.same (.same (.same .nil))) (.txt (.txt (.txt .nil)))
theorem lv_0_0_1:jF 16 [it (0),it (0),it (1)] (.fv (.ag [.lit (.string ⟨#[48]⟩),.lit (.string ⟨#[48]⟩),.lit (.string ⟨#[49]⟩)]):AV Kn):=by
 have h:=dL (a:=0) (b:=0) (c:=1) (by constructor <;> omega) (by constructor <;> omega) (by constructor <;> omega)
 simp only [vS,wB,gI,rX,hS,iT,gJ,x0,x1] at h
 exact h.lits (.same (.same (.same .nil))) (.txt (.txt (.txt .nil)))
theorem lv_0_0_0:jF 16 [it (0),it (0),it (0)] (.fv (.ag [.lit (.string ⟨#[48]⟩),.lit (.string ⟨#[48]⟩),.lit (.string ⟨#[48]⟩)]):AV Kn):=by
 have h:=dL (a:=0) (b:=0) (c:=0) (by constructor <;> omega) (by constructor <;> omega) (by constructor <;> omega)
 simp only [vS,wB,gI,rX,hS,iT,gJ,x0] at h
 exact h.lits (.same (.same (.same .nil))) (.txt (.txt (.txt .nil)))
theorem lv_1_1_1:jF 16 [it (1),it (1),it (1)] (.fv (.ag [.lit (.string ⟨#[49]⟩),.lit (.string ⟨#[49]⟩),.lit (.string ⟨#[49]⟩)]):AV Kn):=by
 have h:=dL (a:=1) (b:=1) (c:=1) (by constructor <;> omega) (by constructor <;> omega) (by constructor <;> omega)
 simp only [vS,wB,gI,rX,hS,iT,gJ,x1] at h
 exact h.lits (.same (.same (.same .nil))) (.txt (.txt (.txt .nil)))
theorem lv_1_1_0:jF 16 [it (1),it (1),it (0)] (.fv (.ag [.lit (.string ⟨#[49]⟩),.lit (.string ⟨#[49]⟩),.lit (.string ⟨#[48]⟩)]):AV Kn):=by
 have h:=dL (a:=1) (b:=1) (c:=0) (by constructor <;> omega) (by constructor <;> omega) (by constructor <;> omega)
 simp only [vS,wB,gI,rX,hS,iT,gJ,x0,x1] at h
 exact h.lits (.same (.same (.same .nil))) (.txt (.txt (.txt .nil)))
theorem lv_0_7_5:jF 16 [it (0),it (7),it (5)] (.fv (.ag [.lit (.string ⟨#[48]⟩),.lit (.string ⟨#[55]⟩),.lit (.string ⟨#[53]⟩)]):AV Kn):=by
 have h:=dL (a:=0) (b:=7) (c:=5) (by constructor <;> omega) (by constructor <;> omega) (by constructor <;> omega)
 simp only [vS,wB,gI,rX,hS,iT,gJ,x0,x5,x7] at h
 exact h.lits (.same (.same (.same .nil))) (.txt (.txt (.txt .nil)))
theorem lv_m1_0_0:jF 16 [it (-1),it (0),it (0)] (.fv (.ag [.lit (.string ⟨#[45,49]⟩),.lit (.string ⟨#[48]⟩),.lit (.string ⟨#[48]⟩)]):AV Kn):=by
 have h:=dL (a := -1) (b:=0) (c:=0) (by constructor <;> omega) (by constructor <;> omega) (by constructor <;> omega)
 simp only [vS,wB,gI,rX,hS,iT,gJ,x0,xm1] at h
 exact h.lits (.same (.same (.same .nil))) (.txt (.txt (.txt .nil)))
theorem lv_4_4_0:jF 16 [it (4),it (4),it (0)] (.fv (.ag [.lit (.string ⟨#[52]⟩),.lit (.string ⟨#[52]⟩),.lit (.string ⟨#[48]⟩)]):AV Kn):=by
 have h:=dL (a:=4) (b:=4) (c:=0) (by constructor <;> omega) (by constructor <;> omega) (by constructor <;> omega)
 simp only [vS,wB,gI,rX,hS,iT,gJ,x0,x4] at h
 exact h.lits (.same (.same (.same .nil))) (.txt (.txt (.txt .nil)))
theorem lv_m7_24_0:jF 16 [it (-7),it (24),it (0)] (.fv (.ag [.lit (.string ⟨#[45,55]⟩),.lit (.string ⟨#[50,52]⟩),.lit (.string ⟨#[48]⟩)]):AV Kn):=by
 have h:=dL (a := -7) (b:=24) (c:=0) (by constructor <;> omega) (by constructor <;> omega) (by constructor <;> omega)
 simp only [vS,wB,gI,rX,hS,iT,gJ,x0,x24,xm7] at h
 exact h.lits (.same (.same (.same .nil))) (.txt (.txt (.txt .nil)))
theorem lv_5_5_0:jF 16 [it (5),it (5),it (0)] (.fv (.ag [.lit (.string ⟨#[53]⟩),.lit (.string ⟨#[53]⟩),.lit (.string ⟨#[48]⟩)]):AV Kn):=by
 have h:=dL (a:=5) (b:=5) (c:=0) (by constructor <;> omega) (by constructor <;> omega) (by constructor <;> omega)
 simp only [vS,wB,gI,rX,hS,iT,gJ,x0,x5] at h
 exact h.lits (.same (.same (.same .nil))) (.txt (.txt (.txt .nil)))
theorem lv_10_7_1:jF 16 [it (10),it (7),it (1)] (.fv (.ag [.lit (.string ⟨#[49,48]⟩),.lit (.string ⟨#[55]⟩),.lit (.string ⟨#[49]⟩)]):AV Kn):=by
 have h:=dL (a:=10) (b:=7) (c:=1) (by constructor <;> omega) (by constructor <;> omega) (by constructor <;> omega)
 simp only [vS,wB,gI,rX,hS,iT,gJ,x1,x10,x7] at h
 exact h.lits (.same (.same (.same .nil))) (.txt (.txt (.txt .nil)))
theorem lframe:jF 21 ([]:List (AV Kn)) (.fv (.ag [.lit (.string ⟨#[49]⟩),.lit (.string ⟨#[48]⟩),.lit (.string ⟨#[48]⟩),.lit (.string ⟨#[51]⟩),.lit (.string ⟨#[52]⟩),.lit (.string ⟨#[48]⟩),.lit (.string ⟨#[45,52]⟩),.lit (.string ⟨#[51]⟩),.lit (.string ⟨#[48]⟩),.lit (.string ⟨#[48]⟩),.lit (.string ⟨#[48]⟩),.lit (.string ⟨#[53]⟩)]):AV Kn):=by
 have h:=lawFrameF
 simp only [vS,wB,gI,rX,hS,iT,gJ,x0,x1,x3,x4,x5,xm4] at h
 exact h.lits .nil (.txt (.txt (.txt (.txt (.txt (.txt (.txt (.txt (.txt (.txt (.txt (.txt (.nil)))))))))))))
theorem wfF:Wf ((1:Int):Rat) ((0:Int):Rat) ((0:Int):Rat) ((3:Int):Rat) ((4:Int):Rat) ((0:Int):Rat) ((-4:Int):Rat) ((3:Int):Rat) ((0:Int):Rat) ((0:Int):Rat) ((0:Int):Rat) ((5:Int):Rat):=⟨⟨r1,r0,r0⟩,⟨r3,r4,r0⟩,⟨rm4,r3,r0⟩,⟨r0,r0,r5⟩⟩
theorem axF:Ax ((3:Int):Rat) ((4:Int):Rat) ((0:Int):Rat) ((-4:Int):Rat) ((3:Int):Rat) ((0:Int):Rat) ((0:Int):Rat) ((0:Int):Rat) ((5:Int):Rat):=⟨by kernel_rfl,by kernel_rfl,by kernel_rfl,by kernel_rfl,by kernel_rfl,by kernel_rfl,by kernel_rfl⟩
theorem fvF:Fv ((1:Int):Rat) ((0:Int):Rat) ((0:Int):Rat) ((3:Int):Rat) ((4:Int):Rat) ((0:Int):Rat) ((-4:Int):Rat) ((3:Int):Rat) ((0:Int):Rat) ((0:Int):Rat) ((0:Int):Rat) ((5:Int):Rat):=Go.Proofs.YtklnecajplnboaaGreatDoor.Fr.fv_of wfF axF
theorem hv111 {d:Rat} (h:Wr d):Hv 1 1 1 d:=⟨by constructor <;> omega,by constructor <;> omega,by constructor <;> omega,h,ck_111⟩
theorem hv100 {d:Rat} (h:Wr d):Hv 1 0 0 d:=⟨by constructor <;> omega,by constructor <;> omega,by constructor <;> omega,h,ck_100⟩
theorem hv302 {d:Rat} (h:Wr d):Hv 3 0 (-2) d:=⟨by constructor <;> omega,by constructor <;> omega,by constructor <;> omega,h,ck_302⟩
theorem nT {a:Rat} (h:decide (a=0)=false):a≠0:=of_decide_eq_false h
theorem asc_1250:∀ (j:Nat) (b:UInt8),(⟨#[49,50,46,53,48]⟩:ByteArray).data.toList[j]?=some b→b.toNat<128:=by
 intro j b h
 have:=List.mem_of_getElem? h
 simp at this
 rcases this with rfl|rfl|rfl|rfl|rfl <;> decide
theorem dig_12:AllDig (aC ⟨#[49,50]⟩):=by intro c hc;simp [aC] at hc;rcases hc with rfl|rfl <;> decide
theorem dig_50:AllDig (aC ⟨#[53,48]⟩):=by intro c hc;simp [aC] at hc;rcases hc with rfl|rfl <;> decide
theorem dec_100:decB 100=⟨#[49,48,48]⟩:=by unfold decB;rw [eL (by omega),eL (by omega),cT (by omega)];rfl
theorem dec_1250:decB 1250=⟨#[49,50,53,48]⟩:=by unfold decB;rw [eL (by omega),eL (by omega),eL (by omega),cT (by omega)];rfl
theorem q1250:mkRat (sg false 1250) 100=mkRat 25 2:=by kernel_rfl
theorem lv_small {n k:Nat} (h:n<1000000000):Lv k n:=(Lv.one n (by rw [aL];omega)).mono (Nat.zero_le _)
theorem eParse:jX 14 [lt ⟨#[49,50,46,53,48]⟩] (.tup [.sc (.lit (.string ⟨#[50,53,47,50]⟩)),.sc z0]):=by
 have hp:jF 55 [tx ⟨#[49,50,46,53,48]⟩] (.tup [.sc (cH (decB 1250)),.sc (cH (decB 100)),.sc z0]):=by
  have h:=partsDot (s:=⟨#[49,50,46,53,48]⟩) (a:=⟨#[49,50]⟩) (b:=⟨#[53,48]⟩) (z:=⟨#[48,48]⟩) (k:=2) (indexAnyF (by decide) asc_1250 (by kernel_rfl)) (by decide) (by decide) (ba_ext rfl) (ba_ext rfl) dig_12 (by decide) dig_50 (by decide) rfl (repeatF (by decide) (by decide) (ba_ext (by kernel_rfl))) (by decide)
  have e1:(⟨#[49,50]⟩++⟨#[53,48]⟩:ByteArray)=decB 1250:=dec_1250.symm
  have e2:(⟨#[49]⟩++⟨#[48,48]⟩:ByteArray)=decB 100:=dec_100.symm
  rw [e1,e2] at h
  exact h
 have h:=parseF' (s:=⟨#[49,50,46,53,48]⟩) (n:=1250) (d:=100) (by decide) (by kernel_rfl) hp (by rw [dec_1250];decide) (by rw [dec_100];decide) (lv_small (by decide)) (lv_small (by decide)) (by decide) (by rw [q1250];exact rq252.lf.mono (by decide)) (by rw [q1250];exact rq252.n) (by rw [q1250];exact rq252.d)
 rw [q1250,xq252] at h
 exact h.lits (.txt .nil) (.txt (.same .nil))
theorem eAlong:jX 15 [(.fv (.ag [.lit (.string ⟨#[50]⟩),.lit (.string ⟨#[48]⟩),.lit (.string ⟨#[52]⟩)]):AV Kn),(.fv (.ag [.lit (.string ⟨#[45,49]⟩),.lit (.string ⟨#[48]⟩),.lit (.string ⟨#[45,50]⟩)]):AV Kn)] (.tup [.sc (.lit (.string ⟨#[45,49,47,50]⟩)),.sc z0]):=by
 have h:=apiAlongF (a:=((2:Int):Rat)) (b:=((0:Int):Rat)) (c:=((4:Int):Rat)) (x:=((-1:Int):Rat)) (y:=((0:Int):Rat)) (z:=((-2:Int):Rat)) ⟨r2,r0,r4⟩ ⟨rm1,r0,rm2⟩ (by kernel_rfl) (by kernel_rfl) (nT (by kernel_rfl)) (by rw [show dt ((-1:Int):Rat) ((0:Int):Rat) ((-2:Int):Rat) ((2:Int):Rat) ((0:Int):Rat) ((4:Int):Rat)/dt ((2:Int):Rat) ((0:Int):Rat) ((4:Int):Rat) ((2:Int):Rat) ((0:Int):Rat) ((4:Int):Rat)=mkRat (-1) 2 from by kernel_rfl];exact rm12)
 rw [show dt ((-1:Int):Rat) ((0:Int):Rat) ((-2:Int):Rat) ((2:Int):Rat) ((0:Int):Rat) ((4:Int):Rat)/dt ((2:Int):Rat) ((0:Int):Rat) ((4:Int):Rat) ((2:Int):Rat) ((0:Int):Rat) ((4:Int):Rat)=mkRat (-1) 2 from by kernel_rfl] at h
 simp only [vS,wB,gI,rX,hS,iT,gJ,x0,x2,x4,xm1,xm12,xm2] at h
 exact h.lits (.ag (.txt (.txt (.txt .nil))) (.ag (.txt (.txt (.txt .nil))) .nil)) (.txt (.same .nil))
theorem eMake:jX 17 [(.fv (.ag [.lit (.string ⟨#[49,47,50]⟩),.lit (.string ⟨#[48]⟩),.lit (.string ⟨#[45,49,47,51]⟩)]):AV Kn),lt ⟨#[53]⟩] (.tup [.ag [.lit (.int .i64 (3)),.lit (.int .i64 (0)),.lit (.int .i64 (-2)),.lit (.string ⟨#[51,48]⟩)],.sc z0]):=by
 have h:=apiMakeHalfF (n1:=mkRat 1 2) (n2:=((0:Int):Rat)) (n3:=mkRat (-1) 3) (d:=((5:Int):Rat)) (z1:=3) (z2:=0) (z3 := -2) (e:=((30:Int):Rat)) ⟨rh12,r0,rm13⟩ r5 ⟨rh12.lf.mono (by decide),r0.lf.mono (by decide),rm13.lf.mono (by decide),r5.lf.mono (by decide),fun ⟨e,_,_⟩=>nT (a:=mkRat 1 2) (by kernel_rfl) e,by kernel_rfl,by kernel_rfl,by kernel_rfl,by kernel_rfl,by constructor <;> omega,by constructor <;> omega,by constructor <;> omega,r30⟩
 simp only [vS,wB,gI,rX,hS,iT,gJ,x0,x30,x5,xh12,xm13] at h
 exact h.lits (.ag (.txt (.txt (.txt .nil))) (.txt .nil)) (.ag (.same (.same (.same (.txt .nil)))) (.same .nil))
theorem eThrough:jX 18 [(.fv (.ag [.lit (.string ⟨#[49]⟩),.lit (.string ⟨#[48]⟩),.lit (.string ⟨#[48]⟩)]):AV Kn),(.fv (.ag [.lit (.string ⟨#[48]⟩),.lit (.string ⟨#[49]⟩),.lit (.string ⟨#[48]⟩)]):AV Kn),(.fv (.ag [.lit (.string ⟨#[48]⟩),.lit (.string ⟨#[48]⟩),.lit (.string ⟨#[49]⟩)]):AV Kn)] (.tup [.ag [.lit (.int .i64 (1)),.lit (.int .i64 (1)),.lit (.int .i64 (1)),.lit (.string ⟨#[49]⟩)],.sc z0]):=by
 have h:=apiThroughF (a1:=((1:Int):Rat)) (a2:=((0:Int):Rat)) (a3:=((0:Int):Rat)) (b1:=((0:Int):Rat)) (b2:=((1:Int):Rat)) (b3:=((0:Int):Rat)) (c1:=((0:Int):Rat)) (c2:=((0:Int):Rat)) (c3:=((1:Int):Rat)) (m1:=((1:Int):Rat)) (m2:=((1:Int):Rat)) (m3:=((1:Int):Rat)) (z1:=1) (z2:=1) (z3:=1) (e:=((1:Int):Rat)) ⟨r1,r0,r0⟩ ⟨r0,r1,r0⟩ ⟨r0,r0,r1⟩ (by kernel_rfl) (by kernel_rfl) (by kernel_rfl) ⟨r1.lf.mono (by decide),r1.lf.mono (by decide),r1.lf.mono (by decide),by rw [show dt ((1:Int):Rat) ((1:Int):Rat) ((1:Int):Rat) ((1:Int):Rat) ((0:Int):Rat) ((0:Int):Rat)=((1:Int):Rat) from by kernel_rfl];exact r1.lf.mono (by decide),fun ⟨e,_,_⟩=>nT (a:=((1:Int):Rat)) (by kernel_rfl) e,by kernel_rfl,by kernel_rfl,by kernel_rfl,by kernel_rfl,by constructor <;> omega,by constructor <;> omega,by constructor <;> omega,r1⟩
 simp only [vS,wB,gI,rX,hS,iT,gJ,x0,x1] at h
 exact h.lits (.ag (.txt (.txt (.txt .nil))) (.ag (.txt (.txt (.txt .nil))) (.ag (.txt (.txt (.txt .nil))) .nil))) (.ag (.same (.same (.same (.txt .nil)))) (.same .nil))
theorem eMirror:jX 19 [(.fv (.ag [.lit (.int .i64 (1)),.lit (.int .i64 (1)),.lit (.int .i64 (1)),.lit (.string ⟨#[49]⟩)]):AV Kn),(.fv (.ag [.lit (.string ⟨#[48]⟩),.lit (.string ⟨#[48]⟩),.lit (.string ⟨#[48]⟩)]):AV Kn)] (.tup [.ag [.lit (.string ⟨#[50,47,51]⟩),.lit (.string ⟨#[50,47,51]⟩),.lit (.string ⟨#[50,47,51]⟩)],.sc z0]):=by
 have h:=apiMirrorF (z1:=1) (z2:=1) (z3:=1) (d:=((1:Int):Rat)) (p1:=((0:Int):Rat)) (p2:=((0:Int):Rat)) (p3:=((0:Int):Rat)) (m1:=mkRat 2 3) (m2:=mkRat 2 3) (m3:=mkRat 2 3) (hv111 r1) ⟨r0,r0,r0⟩ (nT (by kernel_rfl)) (by kernel_rfl) (by kernel_rfl) (by kernel_rfl) ⟨rq23,rq23,rq23⟩
 simp only [vS,wB,gI,rX,hS,iT,gJ,x0,x1,xq23] at h
 exact h.lits (.ag (.same (.same (.same (.txt .nil)))) (.ag (.txt (.txt (.txt .nil))) .nil)) (.ag (.txt (.txt (.txt .nil))) (.same .nil))
theorem ePlace:jX 20 [(.fv (.ag [.lit (.string ⟨#[49]⟩),.lit (.string ⟨#[48]⟩),.lit (.string ⟨#[48]⟩),.lit (.string ⟨#[51]⟩),.lit (.string ⟨#[52]⟩),.lit (.string ⟨#[48]⟩),.lit (.string ⟨#[45,52]⟩),.lit (.string ⟨#[51]⟩),.lit (.string ⟨#[48]⟩),.lit (.string ⟨#[48]⟩),.lit (.string ⟨#[48]⟩),.lit (.string ⟨#[53]⟩)]):AV Kn),(.fv (.ag [.lit (.string ⟨#[49]⟩),.lit (.string ⟨#[49]⟩),.lit (.string ⟨#[49]⟩)]):AV Kn)] (.tup [.ag [.lit (.string ⟨#[48]⟩),.lit (.string ⟨#[55]⟩),.lit (.string ⟨#[53]⟩)],.sc z0]):=by
 have h:=apiPlaceF (o1:=((1:Int):Rat)) (o2:=((0:Int):Rat)) (o3:=((0:Int):Rat)) (x1:=((3:Int):Rat)) (x2:=((4:Int):Rat)) (x3:=((0:Int):Rat)) (y1:=((-4:Int):Rat)) (y2:=((3:Int):Rat)) (y3:=((0:Int):Rat)) (z1:=((0:Int):Rat)) (z2:=((0:Int):Rat)) (z3:=((5:Int):Rat)) (p1:=((1:Int):Rat)) (p2:=((1:Int):Rat)) (p3:=((1:Int):Rat)) (m1:=((0:Int):Rat)) (m2:=((7:Int):Rat)) (m3:=((5:Int):Rat)) fvF ⟨r1,r1,r1⟩ (by kernel_rfl) (by kernel_rfl) (by kernel_rfl) ⟨r0,r7,r5⟩
 simp only [vS,wB,gI,rX,hS,iT,gJ,x0,x1,x3,x4,x5,x7,xm4] at h
 exact h.lits (.ag (.txt (.txt (.txt (.txt (.txt (.txt (.txt (.txt (.txt (.txt (.txt (.txt (.nil))))))))))))) (.ag (.txt (.txt (.txt .nil))) .nil)) (.ag (.txt (.txt (.txt .nil))) (.same .nil))
theorem r325:Wr (mkRat 3 25):=wr_q (by rw [show (mkRat 3 25).num=3 from by kernel_rfl];decide) (by rw [show (mkRat 3 25).den=25 from by kernel_rfl];decide)
theorem r425:Wr (mkRat 4 25):=wr_q (by rw [show (mkRat 4 25).num=4 from by kernel_rfl];decide) (by rw [show (mkRat 4 25).den=25 from by kernel_rfl];decide)
theorem r2825:Wr (mkRat 28 25):=wr_q (by rw [show (mkRat 28 25).num=28 from by kernel_rfl];decide) (by rw [show (mkRat 28 25).den=25 from by kernel_rfl];decide)
theorem ePlaceHalf:jX 6 [(.fv (.ag [.lit (.string ⟨#[49]⟩),.lit (.string ⟨#[48]⟩),.lit (.string ⟨#[48]⟩),.lit (.string ⟨#[51]⟩),.lit (.string ⟨#[52]⟩),.lit (.string ⟨#[48]⟩),.lit (.string ⟨#[45,52]⟩),.lit (.string ⟨#[51]⟩),.lit (.string ⟨#[48]⟩),.lit (.string ⟨#[48]⟩),.lit (.string ⟨#[48]⟩),.lit (.string ⟨#[53]⟩)]):AV Kn),(.fv (.ag [.lit (.int .i64 (1)),.lit (.int .i64 (0)),.lit (.int .i64 (0)),.lit (.string ⟨#[49]⟩)]):AV Kn)] (.tup [.ag [.lit (.int .i64 (3)),.lit (.int .i64 (4)),.lit (.int .i64 (0)),.lit (.string ⟨#[50,56]⟩)],.sc z0]):=by
 have h:=zW (o1:=((1:Int):Rat)) (o2:=((0:Int):Rat)) (o3:=((0:Int):Rat)) (x1:=((3:Int):Rat)) (x2:=((4:Int):Rat)) (x3:=((0:Int):Rat)) (y1:=((-4:Int):Rat)) (y2:=((3:Int):Rat)) (y3:=((0:Int):Rat)) (z1:=((0:Int):Rat)) (z2:=((0:Int):Rat)) (z3:=((5:Int):Rat)) (n1:=1) (n2:=0) (n3:=0) (d:=((1:Int):Rat)) (k1:=3) (k2:=4) (k3:=0) (e:=((28:Int):Rat)) fvF (hv100 r1) ⟨nT (by kernel_rfl),nT (by kernel_rfl),nT (by kernel_rfl)⟩ (q1:=mkRat 3 25) (q2:=mkRat 4 25) (q3:=((0:Int):Rat)) (by kernel_rfl) (by kernel_rfl) (by kernel_rfl) ⟨r325.lf.mono (by decide),r425.lf.mono (by decide),r0.lf.mono (by decide),by rw [show ((1:Int):Rat)+dt (mkRat 3 25) (mkRat 4 25) ((0:Int):Rat) ((1:Int):Rat) ((0:Int):Rat) ((0:Int):Rat)=mkRat 28 25 from by kernel_rfl];exact r2825.lf.mono (by decide),fun ⟨e,_,_⟩=>nT (a:=mkRat 3 25) (by kernel_rfl) e,by kernel_rfl,by kernel_rfl,by kernel_rfl,by kernel_rfl,by constructor <;> omega,by constructor <;> omega,by constructor <;> omega,r28⟩
 simp only [vS,wB,gI,rX,hS,iT,gJ,x0,x1,x28,x3,x4,x5,xm4] at h
 exact h.lits (.ag (.txt (.txt (.txt (.txt (.txt (.txt (.txt (.txt (.txt (.txt (.txt (.txt (.nil))))))))))))) (.ag (.same (.same (.same (.txt .nil)))) .nil)) (.ag (.same (.same (.same (.txt .nil)))) (.same .nil))
theorem td_100:jF 81 [num ((1:Int):Rat),vc ((0:Int):Rat) ((0:Int):Rat) ((1:Int):Rat),vc ((1:Int):Rat) ((0:Int):Rat) ((0:Int):Rat)] (vc ((0:Int):Rat) ((1:Int):Rat) ((0:Int):Rat)):=by
 have h:=turnedF (w:=((1:Int):Rat)) (u1:=((0:Int):Rat)) (u2:=((0:Int):Rat)) (u3:=((1:Int):Rat)) (v1:=((1:Int):Rat)) (v2:=((0:Int):Rat)) (v3:=((0:Int):Rat)) (r1.lf.mono (by decide)) (r0.lf.mono (by decide)) (r0.lf.mono (by decide)) (r1.lf.mono (by decide)) (r1.lf.mono (by decide)) (r0.lf.mono (by decide)) (r0.lf.mono (by decide)) (nT (by kernel_rfl))
 exact vc_eq h (by kernel_rfl) (by kernel_rfl) (by kernel_rfl)
theorem td_010:jF 81 [num ((1:Int):Rat),vc ((0:Int):Rat) ((0:Int):Rat) ((1:Int):Rat),vc ((0:Int):Rat) ((1:Int):Rat) ((0:Int):Rat)] (vc ((-1:Int):Rat) ((0:Int):Rat) ((0:Int):Rat)):=by
 have h:=turnedF (w:=((1:Int):Rat)) (u1:=((0:Int):Rat)) (u2:=((0:Int):Rat)) (u3:=((1:Int):Rat)) (v1:=((0:Int):Rat)) (v2:=((1:Int):Rat)) (v3:=((0:Int):Rat)) (r1.lf.mono (by decide)) (r0.lf.mono (by decide)) (r0.lf.mono (by decide)) (r1.lf.mono (by decide)) (r0.lf.mono (by decide)) (r1.lf.mono (by decide)) (r0.lf.mono (by decide)) (nT (by kernel_rfl))
 exact vc_eq h (by kernel_rfl) (by kernel_rfl) (by kernel_rfl)
theorem td_001:jF 81 [num ((1:Int):Rat),vc ((0:Int):Rat) ((0:Int):Rat) ((1:Int):Rat),vc ((0:Int):Rat) ((0:Int):Rat) ((1:Int):Rat)] (vc ((0:Int):Rat) ((0:Int):Rat) ((1:Int):Rat)):=by
 have h:=turnedF (w:=((1:Int):Rat)) (u1:=((0:Int):Rat)) (u2:=((0:Int):Rat)) (u3:=((1:Int):Rat)) (v1:=((0:Int):Rat)) (v2:=((0:Int):Rat)) (v3:=((1:Int):Rat)) (r1.lf.mono (by decide)) (r0.lf.mono (by decide)) (r0.lf.mono (by decide)) (r1.lf.mono (by decide)) (r0.lf.mono (by decide)) (r0.lf.mono (by decide)) (r1.lf.mono (by decide)) (nT (by kernel_rfl))
 exact vc_eq h (by kernel_rfl) (by kernel_rfl) (by kernel_rfl)
theorem eTurn:jX 22 [(.fv (.ag [.lit (.string ⟨#[49]⟩),.lit (.string ⟨#[48]⟩),.lit (.string ⟨#[48]⟩),.lit (.string ⟨#[49]⟩)]):AV Kn)] (.tup [.ag [.lit (.string ⟨#[48]⟩),.lit (.string ⟨#[48]⟩),.lit (.string ⟨#[48]⟩),.lit (.string ⟨#[48]⟩),.lit (.string ⟨#[49]⟩),.lit (.string ⟨#[48]⟩),.lit (.string ⟨#[45,49]⟩),.lit (.string ⟨#[48]⟩),.lit (.string ⟨#[48]⟩),.lit (.string ⟨#[48]⟩),.lit (.string ⟨#[48]⟩),.lit (.string ⟨#[49]⟩)],.sc z0]):=by
 have h:=apiTurnF (w:=((1:Int):Rat)) (u1:=((0:Int):Rat)) (u2:=((0:Int):Rat)) (u3:=((1:Int):Rat)) (b:=false) r1 ⟨r0,r0,r1⟩ (by kernel_rfl) (fun h=>by cases h) td_100 td_010 td_001 ⟨⟨r0,r0,r0⟩,⟨r0,r1,r0⟩,⟨rm1,r0,r0⟩,⟨r0,r0,r1⟩⟩
 simp only [vS,wB,gI,rX,hS,iT,gJ,x0,x1,xm1] at h
 exact h.lits (.ag (.txt (.txt (.txt (.txt .nil)))) .nil) (.ag (.txt (.txt (.txt (.txt (.txt (.txt (.txt (.txt (.txt (.txt (.txt (.txt (.nil))))))))))))) (.same .nil))
theorem eCompose:jX 23 [(.fv (.ag [.lit (.string ⟨#[49]⟩),.lit (.string ⟨#[48]⟩),.lit (.string ⟨#[48]⟩),.lit (.string ⟨#[51]⟩),.lit (.string ⟨#[52]⟩),.lit (.string ⟨#[48]⟩),.lit (.string ⟨#[45,52]⟩),.lit (.string ⟨#[51]⟩),.lit (.string ⟨#[48]⟩),.lit (.string ⟨#[48]⟩),.lit (.string ⟨#[48]⟩),.lit (.string ⟨#[53]⟩)]):AV Kn),(.fv (.ag [.lit (.string ⟨#[49]⟩),.lit (.string ⟨#[48]⟩),.lit (.string ⟨#[48]⟩),.lit (.string ⟨#[51]⟩),.lit (.string ⟨#[52]⟩),.lit (.string ⟨#[48]⟩),.lit (.string ⟨#[45,52]⟩),.lit (.string ⟨#[51]⟩),.lit (.string ⟨#[48]⟩),.lit (.string ⟨#[48]⟩),.lit (.string ⟨#[48]⟩),.lit (.string ⟨#[53]⟩)]):AV Kn)] (.tup [.ag [.lit (.string ⟨#[52]⟩),.lit (.string ⟨#[52]⟩),.lit (.string ⟨#[48]⟩),.lit (.string ⟨#[45,55]⟩),.lit (.string ⟨#[50,52]⟩),.lit (.string ⟨#[48]⟩),.lit (.string ⟨#[45,50,52]⟩),.lit (.string ⟨#[45,55]⟩),.lit (.string ⟨#[48]⟩),.lit (.string ⟨#[48]⟩),.lit (.string ⟨#[48]⟩),.lit (.string ⟨#[50,53]⟩)],.sc z0]):=by
 have h:=apiComposeF fvF fvF (q1:=((4:Int):Rat)) (q2:=((4:Int):Rat)) (q3:=((0:Int):Rat)) (r1:=((-7:Int):Rat)) (r2:=((24:Int):Rat)) (r3:=((0:Int):Rat)) (s1:=((-24:Int):Rat)) (s2:=((-7:Int):Rat)) (s3:=((0:Int):Rat)) (t1:=((0:Int):Rat)) (t2:=((0:Int):Rat)) (t3:=((25:Int):Rat)) (by kernel_rfl) (by kernel_rfl) (by kernel_rfl) (by kernel_rfl) (by kernel_rfl) (by kernel_rfl) (by kernel_rfl) (by kernel_rfl) (by kernel_rfl) (by kernel_rfl) (by kernel_rfl) (by kernel_rfl) ⟨⟨r4,r4,r0⟩,⟨rm7,r24,r0⟩,⟨rm24,rm7,r0⟩,⟨r0,r0,r25⟩⟩ (by kernel_rfl) (by kernel_rfl) (by kernel_rfl)
 simp only [vS,wB,gI,rX,hS,iT,gJ,x0,x1,x24,x25,x3,x4,x5,xm24,xm4,xm7] at h
 exact h.lits (.ag (.txt (.txt (.txt (.txt (.txt (.txt (.txt (.txt (.txt (.txt (.txt (.txt (.nil))))))))))))) (.ag (.txt (.txt (.txt (.txt (.txt (.txt (.txt (.txt (.txt (.txt (.txt (.txt (.nil))))))))))))) .nil)) (.ag (.txt (.txt (.txt (.txt (.txt (.txt (.txt (.txt (.txt (.txt (.txt (.txt (.nil))))))))))))) (.same .nil))
theorem eMeet:jX 24 [(.fv (.ag [.lit (.int .i64 (1)),.lit (.int .i64 (1)),.lit (.int .i64 (1)),.lit (.string ⟨#[49,48]⟩)]):AV Kn),(.fv (.ag [.lit (.string ⟨#[48]⟩),.lit (.string ⟨#[48]⟩),.lit (.string ⟨#[48]⟩)]):AV Kn),(.fv (.ag [.lit (.string ⟨#[49]⟩),.lit (.string ⟨#[49]⟩),.lit (.string ⟨#[48]⟩)]):AV Kn)] (.tup [.ag [.lit (.string ⟨#[53]⟩),.lit (.string ⟨#[53]⟩),.lit (.string ⟨#[48]⟩)],.sc z0]):=by
 have h:=apiMeetF (z1:=1) (z2:=1) (z3:=1) (d:=((10:Int):Rat)) (p1:=((0:Int):Rat)) (p2:=((0:Int):Rat)) (p3:=((0:Int):Rat)) (v1:=((1:Int):Rat)) (v2:=((1:Int):Rat)) (v3:=((0:Int):Rat)) (m1:=((5:Int):Rat)) (m2:=((5:Int):Rat)) (m3:=((0:Int):Rat)) (hv111 r10) ⟨r0,r0,r0⟩ ⟨r1,r1,r0⟩ (nT (by kernel_rfl)) (by kernel_rfl) (by kernel_rfl) (by kernel_rfl) ⟨r5,r5,r0⟩
 simp only [vS,wB,gI,rX,hS,iT,gJ,x0,x1,x10,x5] at h
 exact h.lits (.ag (.same (.same (.same (.txt .nil)))) (.ag (.txt (.txt (.txt .nil))) (.ag (.txt (.txt (.txt .nil))) .nil))) (.ag (.txt (.txt (.txt .nil))) (.same .nil))
theorem eSide:jX 25 [(.fv (.ag [.lit (.int .i64 (3)),.lit (.int .i64 (0)),.lit (.int .i64 (-2)),.lit (.string ⟨#[51,48]⟩)]):AV Kn),(.fv (.ag [.lit (.string ⟨#[49,48]⟩),.lit (.string ⟨#[55]⟩),.lit (.string ⟨#[49]⟩)]):AV Kn)] (.tup [.sc (.lit (.int .i64 (-1))),.sc z0]):=by
 have h:=apiSideF (z1:=3) (z2:=0) (z3 := -2) (d:=((30:Int):Rat)) (p1:=((10:Int):Rat)) (p2:=((7:Int):Rat)) (p3:=((1:Int):Rat)) (s := -1) (hv302 r30) ⟨r10,r7,r1⟩ (by kernel_rfl)
 simp only [vS,wB,gI,rX,hS,iT,gJ,x1,x10,x30,x7] at h
 exact h.lits (.ag (.same (.same (.same (.txt .nil)))) (.ag (.txt (.txt (.txt .nil))) .nil)) (.same (.same .nil))
set_option maxRecDepth 100000 in
theorem uZ:jX 4 ([]:List (AV Kn)) (bl true):=by
 refine jY Tryz.func4 fun w00 hI=>?_
 refine jW hI 14 [lt ⟨#[49,50,46,53,48]⟩] (eParse) ?_
 refine jC 16 [it (2),it (0),it (4)] (lv_2_0_4) ?_
 refine jC 16 [it (-1),it (0),it (-2)] (lv_m1_0_m2) ?_
 refine jW hI 15 [(.fv (.ag [.lit (.string ⟨#[50]⟩),.lit (.string ⟨#[48]⟩),.lit (.string ⟨#[52]⟩)])),(.fv (.ag [.lit (.string ⟨#[45,49]⟩),.lit (.string ⟨#[48]⟩),.lit (.string ⟨#[45,50]⟩)]))] (eAlong) ?_
 refine jW hI 17 [(.fv (.ag [.lit (.string ⟨#[49,47,50]⟩),.lit (.string ⟨#[48]⟩),.lit (.string ⟨#[45,49,47,51]⟩)])),lt ⟨#[53]⟩] (eMake) ?_
 refine jC 16 [it (1),it (0),it (0)] (lv_1_0_0) ?_
 refine jC 16 [it (0),it (1),it (0)] (lv_0_1_0) ?_
 refine jC 16 [it (0),it (0),it (1)] (lv_0_0_1) ?_
 refine jW hI 18 [(.fv (.ag [.lit (.string ⟨#[49]⟩),.lit (.string ⟨#[48]⟩),.lit (.string ⟨#[48]⟩)])),(.fv (.ag [.lit (.string ⟨#[48]⟩),.lit (.string ⟨#[49]⟩),.lit (.string ⟨#[48]⟩)])),(.fv (.ag [.lit (.string ⟨#[48]⟩),.lit (.string ⟨#[48]⟩),.lit (.string ⟨#[49]⟩)]))] (eThrough) ?_
 refine jC 16 [it (0),it (0),it (0)] (lv_0_0_0) ?_
 refine jW hI 19 [(.fv (.ag [.lit (.int .i64 (1)),.lit (.int .i64 (1)),.lit (.int .i64 (1)),.lit (.string ⟨#[49]⟩)])),(.fv (.ag [.lit (.string ⟨#[48]⟩),.lit (.string ⟨#[48]⟩),.lit (.string ⟨#[48]⟩)]))] (eMirror) ?_
 refine jC 21 [] (lframe) ?_
 refine jC 16 [it (1),it (1),it (1)] (lv_1_1_1) ?_
 refine jW hI 20 [(.fv (.ag [.lit (.string ⟨#[49]⟩),.lit (.string ⟨#[48]⟩),.lit (.string ⟨#[48]⟩),.lit (.string ⟨#[51]⟩),.lit (.string ⟨#[52]⟩),.lit (.string ⟨#[48]⟩),.lit (.string ⟨#[45,52]⟩),.lit (.string ⟨#[51]⟩),.lit (.string ⟨#[48]⟩),.lit (.string ⟨#[48]⟩),.lit (.string ⟨#[48]⟩),.lit (.string ⟨#[53]⟩)])),(.fv (.ag [.lit (.string ⟨#[49]⟩),.lit (.string ⟨#[49]⟩),.lit (.string ⟨#[49]⟩)]))] (ePlace) ?_
 refine jC 21 [] (lframe) ?_
 refine jW hI 6 [(.fv (.ag [.lit (.string ⟨#[49]⟩),.lit (.string ⟨#[48]⟩),.lit (.string ⟨#[48]⟩),.lit (.string ⟨#[51]⟩),.lit (.string ⟨#[52]⟩),.lit (.string ⟨#[48]⟩),.lit (.string ⟨#[45,52]⟩),.lit (.string ⟨#[51]⟩),.lit (.string ⟨#[48]⟩),.lit (.string ⟨#[48]⟩),.lit (.string ⟨#[48]⟩),.lit (.string ⟨#[53]⟩)])),(.fv (.ag [.lit (.int .i64 (1)),.lit (.int .i64 (0)),.lit (.int .i64 (0)),.lit (.string ⟨#[49]⟩)]))] (ePlaceHalf) ?_
 refine jW hI 22 [(.fv (.ag [.lit (.string ⟨#[49]⟩),.lit (.string ⟨#[48]⟩),.lit (.string ⟨#[48]⟩),.lit (.string ⟨#[49]⟩)]))] (eTurn) ?_
 refine jC 21 [] (lframe) ?_
 refine jC 21 [] (lframe) ?_
 refine jW hI 23 [(.fv (.ag [.lit (.string ⟨#[49]⟩),.lit (.string ⟨#[48]⟩),.lit (.string ⟨#[48]⟩),.lit (.string ⟨#[51]⟩),.lit (.string ⟨#[52]⟩),.lit (.string ⟨#[48]⟩),.lit (.string ⟨#[45,52]⟩),.lit (.string ⟨#[51]⟩),.lit (.string ⟨#[48]⟩),.lit (.string ⟨#[48]⟩),.lit (.string ⟨#[48]⟩),.lit (.string ⟨#[53]⟩)])),(.fv (.ag [.lit (.string ⟨#[49]⟩),.lit (.string ⟨#[48]⟩),.lit (.string ⟨#[48]⟩),.lit (.string ⟨#[51]⟩),.lit (.string ⟨#[52]⟩),.lit (.string ⟨#[48]⟩),.lit (.string ⟨#[45,52]⟩),.lit (.string ⟨#[51]⟩),.lit (.string ⟨#[48]⟩),.lit (.string ⟨#[48]⟩),.lit (.string ⟨#[48]⟩),.lit (.string ⟨#[53]⟩)]))] (eCompose) ?_
 refine jC 16 [it (0),it (0),it (0)] (lv_0_0_0) ?_
 refine jC 16 [it (1),it (1),it (0)] (lv_1_1_0) ?_
 refine jW hI 24 [(.fv (.ag [.lit (.int .i64 (1)),.lit (.int .i64 (1)),.lit (.int .i64 (1)),.lit (.string ⟨#[49,48]⟩)])),(.fv (.ag [.lit (.string ⟨#[48]⟩),.lit (.string ⟨#[48]⟩),.lit (.string ⟨#[48]⟩)])),(.fv (.ag [.lit (.string ⟨#[49]⟩),.lit (.string ⟨#[49]⟩),.lit (.string ⟨#[48]⟩)]))] (eMeet) ?_
 refine jC 16 [it (0),it (7),it (5)] (lv_0_7_5) ?_
 refine jC 16 [it (0),it (1),it (0)] (lv_0_1_0) ?_
 refine jC 16 [it (-1),it (0),it (0)] (lv_m1_0_0) ?_
 refine jC 16 [it (4),it (4),it (0)] (lv_4_4_0) ?_
 refine jC 16 [it (-7),it (24),it (0)] (lv_m7_24_0) ?_
 refine jC 16 [it (5),it (5),it (0)] (lv_5_5_0) ?_
 refine jC 16 [it (10),it (7),it (1)] (lv_10_7_1) ?_
 refine jW hI 25 [(.fv (.ag [.lit (.int .i64 (3)),.lit (.int .i64 (0)),.lit (.int .i64 (-2)),.lit (.string ⟨#[51,48]⟩)])),(.fv (.ag [.lit (.string ⟨#[49,48]⟩),.lit (.string ⟨#[55]⟩),.lit (.string ⟨#[49]⟩)]))] (eSide) ?_
 refine jC 26 [lt ⟨#[112,111,115,116,95,49]⟩] (isNameF (b:=true) (by kernel_rfl)) ?_
 refine jC 26 [lt ⟨#[49,112,111,115,116]⟩] (isNameF (b:=false) (by kernel_rfl)) ?_
 exact jR Tryz.func4
def Bq (k:Nat) (q:Rat):Prop:=q.num.natAbs<10^k∧q.den<10^k
theorem Bq.mono {k l:Nat} {q:Rat} (h:Bq k q) (hk:k≤l):Bq l q :=
 ⟨Nat.lt_of_lt_of_le h.1 (Nat.pow_le_pow_right (by omega) hk),Nat.lt_of_lt_of_le h.2 (Nat.pow_le_pow_right (by omega) hk)⟩
theorem Bq.mul {j k:Nat} {p q:Rat} (hp:Bq j p) (hq:Bq k q):Bq (j+k) (p*q):=by
 rw [Rat.mul_def']
 obtain ⟨h1,h2⟩:=dG (p.num*q.num) (Nat.ne_of_gt (Nat.mul_pos p.den_pos q.den_pos))
 rw [Int.natAbs_mul] at h1
 refine ⟨Nat.lt_of_le_of_lt h1 ?_,Nat.lt_of_le_of_lt h2 ?_⟩
 ·rw [Nat.pow_add];exact Nat.mul_lt_mul'' hp.1 hq.1
 ·rw [Nat.pow_add];exact Nat.mul_lt_mul'' hp.2 hq.2
theorem Bq.add {j k:Nat} {p q:Rat} (hp:Bq j p) (hq:Bq k q):Bq (j+k+1) (p+q):=by
 rw [Rat.add_def']
 obtain ⟨h1,h2⟩:=dG (p.num*q.den+q.num*p.den) (Nat.ne_of_gt (Nat.mul_pos p.den_pos q.den_pos))
 have a1:p.num.natAbs*q.den<10^(j+k):=by rw [Nat.pow_add];exact Nat.mul_lt_mul'' hp.1 hq.2
 have a2:q.num.natAbs*p.den<10^(j+k):=by rw [Nat.pow_add,Nat.mul_comm];exact Nat.mul_lt_mul'' hp.2 hq.1
 have a3:p.den*q.den<10^(j+k):=by rw [Nat.pow_add];exact Nat.mul_lt_mul'' hp.2 hq.2
 have a4:10^(j+k+1)=10^(j+k)*10:=Nat.pow_succ _ _
 have a5:=Int.natAbs_add_le (p.num*q.den) (q.num*p.den)
 rw [Int.natAbs_mul,Int.natAbs_mul,Int.natAbs_natCast,Int.natAbs_natCast] at a5
 exact ⟨by omega,by omega⟩
theorem Bq.neg {k:Nat} {p:Rat} (hp:Bq k p):Bq k (-p):=by
 refine ⟨?_,hp.2⟩
 rw [Rat.neg_num,Int.natAbs_neg];exact hp.1
theorem Bq.sub {j k:Nat} {p q:Rat} (hp:Bq j p) (hq:Bq k q):Bq (j+k+1) (p-q):=by
 rw [Rat.sub_eq_add_neg]
 exact hp.add hq.neg
theorem Bq.inv {k:Nat} {p:Rat} (hp:Bq k p):Bq k p⁻¹:=by
 by_cases h0:p=0
 ·subst h0;rw [Rat.inv_zero];exact hp
 ·obtain ⟨_,e1,e2⟩:=Parts.inv (Parts.self p) h0
  exact ⟨by rw [← e1];exact hp.2,by rw [← e2];exact hp.1⟩
theorem Bq.div {j k:Nat} {p q:Rat} (hp:Bq j p) (hq:Bq k q):Bq (j+k) (p/q):=by
 rw [Rat.div_def]
 exact hp.mul hq.inv
theorem Bq.dt {k l n:Nat} {a b c x y z:Rat} (h1:Bq k a) (h2:Bq k b) (h3:Bq k c) (g1:Bq l x) (g2:Bq l y) (g3:Bq l z) (hn:3*(k+l)+2≤n):Bq n (dt a b c x y z) :=
 (((h1.mul g1).add (h2.mul g2)).add (h3.mul g3)).mono (by omega)
theorem Bq.wr {k:Nat} {q:Rat} (h:Bq k q) (hk:k≤600):Wr q:=by
 have h':=h.mono (l:=599+1) hk
 exact ⟨decB_size h'.1,decB_size h'.2⟩
theorem Bq.zs {k:Nat} {q:Rat} (h:Bq k q) (hk:k≤10000):Zs 10000 q:=by
 have h':=h.mono (l:=10000+1) (by omega)
 exact h'
theorem bq_of {k:Nat} {q:Rat} (h:Fw k q):Bq k q:=⟨nM h.1,nM h.2⟩
theorem vA (x:Rat):0≤x*x:=by
 rcases Rat.le_total (a:=0) (b:=x) with h|h
 ·exact Rat.mul_nonneg h h
 ·have h' : 0≤-x:=by grind
  have:=Rat.mul_nonneg h' h'
  grind
theorem nP {x y z:Rat} (h:dt x y z x y z=0):x=0∧y=0∧z=0:=by
 have h1:=vA x
 have h2:=vA y
 have h3:=vA z
 have a1:x*x=0:=by grind
 have a2:y*y=0:=by grind
 have a3:z*z=0:=by grind
 exact ⟨by grind,by grind,by grind⟩
theorem pV {q:Rat} (h:q≠0):q.num≠0:=fun e=>h (Rat.num_eq_zero.1 e)
theorem dec_and {p q r:Prop} [Decidable p] [Decidable q] [Decidable r] (h:¬ (p∧q∧r)):(decide p&&decide q&&decide r)=false:=by
 rw [Bool.eq_false_iff]
 intro hh
 simp only [Bool.and_eq_true,decide_eq_true_eq] at hh
 exact h ⟨hh.1.1,hh.1.2,hh.2⟩
abbrev nz (d:Nat):AV Kr := .fv (.ag [.lit (.bool true),.sp (nW d)])
theorem signedNF {d:Nat}:jF 182 [rl true,di d] (iz (-(d:Int))):=by
 intro β w vs hv
 obtain ⟨v,u,rfl,h1,h2⟩:=dJ hv
 rw [bT h1]
 have := @eX true d β w [.bool true,u] ⟨_,_,rfl,cD,u,[],rfl,h2,rfl⟩
 simpa [gN] using this
theorem minusP {n:Int} {c:Nat} (hc:n = -(c:Int)):jF 181 [pz c] (iz n):=by
 rw [hc]
 refine jT Tryz.func181 fun w00=>?_
 refine jB 182 [rl true,di c] signedNF ?_
 exact jS Tryz.func181
theorem minusNZ {d:Nat}:jF 181 [nz d] (iz (d:Int)):=by
 refine jT Tryz.func181 fun w00=>?_
 refine jB 182 [rl false,di d] mI ?_
 exact jS Tryz.func181
theorem minusN {d:Nat}:jF 181 [nz d] (pz d):=mJ minusNZ fun _ _ _ h=>iz_pz h
section
variable {n:Int} {d:Nat}
theorem fractionNF {c:Nat} (hc:n = -(c:Int)) (hn:Bd n.natAbs) (hd:Bd d) (hd0:0<d) (hp:n.natAbs<B9^100000000) (hq:d<B9^100000000) (hs1:(aN (gN (decide (n<0)) (n.natAbs/Nat.gcd n.natAbs d))).size≤1000000000) (hs2:(aN ((d/Nat.gcd n.natAbs d:Nat):Int)).size≤1000000000) :
 jF 130 [pz c,nz d] (rS (if d/Nat.gcd n.natAbs d=1 then aN (gN (decide (n<0)) (n.natAbs/Nat.gcd n.natAbs d)) else aN (gN (decide (n<0)) (n.natAbs/Nat.gcd n.natAbs d))++⟨#[47]⟩++aN ((d/Nat.gcd n.natAbs d:Nat):Int))):=by
 have hg:0<Nat.gcd n.natAbs d:=Nat.gcd_pos_of_pos_right _ hd0
 have hq0:0<d/Nat.gcd n.natAbs d:=Nat.div_pos (Nat.gcd_le_right _ hd0) hg
 have hq1:d/Nat.gcd n.natAbs d≤d:=Nat.div_le_self _ _
 have hp1:(gN (decide (n<0)) (n.natAbs/Nat.gcd n.natAbs d)).natAbs<B9^100000000:=by rw [sY];exact Nat.lt_of_le_of_lt (Nat.div_le_self _ _) hp
 have hq2:((d/Nat.gcd n.natAbs d:Nat):Int).natAbs<B9^100000000:=by rw [Int.natAbs_natCast];exact Nat.lt_of_le_of_lt hq1 hq
 generalize hG:Nat.gcd n.natAbs d=g at *
 generalize hP:gN (decide (n<0)) (n.natAbs/g)=p at *
 generalize hQ:d/g=q at *
 by_cases h1:q=1
 ·rw [if_pos h1]
  refine jT Tryz.func130 fun w00=>?_
  refine jB 181 [pz c] (minusP hc) ?_
  refine jB 181 [nz d] minusN ?_
  refine jB 115 [di n.natAbs,di d] (by have:=kS hn hd;rw [hG] at this;exact this) ?_
  refine jB 173 [di n.natAbs,di g] (rK hn hg) ?_
  refine jB 173 [di d,di g] (by have:=rK (a:=d) (b:=g) hd hg;rw [hQ] at this;exact this) ?_
  refine jB 182 [rb (decide (n<0)),di (n.natAbs/g)] (by have := @eX (decide (n<0)) (n.natAbs/g);rw [hP] at this;exact this) ?_
  refine jB 175 [iz p] (oU hp1) ?_
  refine jL (.call ⟨.builtin .len,#[.tmp 41],#[84]⟩) (.tmp 41) (.tmp 41) (di q) (di q) (.fv (.sc (.lit (.int .i64 1)))) (fun ρ o β w ho hx _=>?_) ?_
  ·obtain ⟨ad,c,e,_⟩:=iV (bC.1 hx) hq0 (by rw [h1];exact dN)
   exact ⟨_,iU ho e,eJ rfl⟩
  refine jL (.indexAddr 84 (.tmp 45) (.const (.int .i64 0))) (.tmp 45) (.const (.int .i64 0)) (di q) (.fv (.sc (.lit (.int .i64 0)))) (rP q) (fun ρ o β w ho hx hy=>?_) ?_
  ·obtain ⟨ad,c,e,hc⟩:=iV (bC.1 hx) hq0 (by rw [h1];exact dN)
   exact ⟨_,mH ho e (bT hy) (by omega),⟨ad,rfl,hc⟩⟩
  refine jL (.load 3 (.tmp 46)) (.tmp 46) (.tmp 46) (rP q) (rP q) (.fv (.sc (.lit (.int .i64 1)))) (fun ρ o β w ho hx _=>?_) ?_
  ·obtain ⟨ad,e,hc⟩:=hx
   injection e with e
   rw [h1] at hc
   exact ⟨_,uR ho e hc,eJ rfl⟩
  exact jS Tryz.func130
 ·rw [if_neg h1]
  have hcat1:(aN p).size+(⟨#[47]⟩:ByteArray).size≤9223372036854775807:=by
   have:(⟨#[47]⟩:ByteArray).size=1:=rfl
   omega
  have hcat2:(aN p++⟨#[47]⟩:ByteArray).size+(aN (q:Int)).size≤9223372036854775807:=by
   have:(⟨#[47]⟩:ByteArray).size=1:=rfl
   rw [ByteArray.size_append]
   omega
  by_cases h2:q<B9
  ·refine jT Tryz.func130 fun w00=>?_
   refine jB 181 [pz c] (minusP hc) ?_
   refine jB 181 [nz d] minusN ?_
   refine jB 115 [di n.natAbs,di d] (by have:=kS hn hd;rw [hG] at this;exact this) ?_
   refine jB 173 [di n.natAbs,di g] (rK hn hg) ?_
   refine jB 173 [di d,di g] (by have:=rK (a:=d) (b:=g) hd hg;rw [hQ] at this;exact this) ?_
   refine jB 182 [rb (decide (n<0)),di (n.natAbs/g)] (by have := @eX (decide (n<0)) (n.natAbs/g);rw [hP] at this;exact this) ?_
   refine jB 175 [iz p] (oU hp1) ?_
   refine jL (.call ⟨.builtin .len,#[.tmp 41],#[84]⟩) (.tmp 41) (.tmp 41) (di q) (di q) (.fv (.sc (.lit (.int .i64 1)))) (fun ρ o β w ho hx _=>?_) ?_
   ·obtain ⟨ad,c,e,_⟩:=iV (bC.1 hx) hq0 h2
    exact ⟨_,iU ho e,eJ rfl⟩
   refine jL (.indexAddr 84 (.tmp 45) (.const (.int .i64 0))) (.tmp 45) (.const (.int .i64 0)) (di q) (.fv (.sc (.lit (.int .i64 0)))) (rP q) (fun ρ o β w ho hx hy=>?_) ?_
   ·obtain ⟨ad,c,e,hc⟩:=iV (bC.1 hx) hq0 h2
    exact ⟨_,mH ho e (bT hy) (by omega),⟨ad,rfl,hc⟩⟩
   refine jL (.load 3 (.tmp 46)) (.tmp 46) (.tmp 46) (rP q) (rP q) (rI q) (fun ρ o β w ho hx _=>?_) ?_
   ·obtain ⟨ad,e,hc⟩:=hx
    injection e with e
    exact ⟨_,uR ho e hc,cD⟩
   refine jL (.binOp .eql 3 (.tmp 47) (.const (.int .i64 1)) 3) (.tmp 47) (.const (.int .i64 1)) (rI q) (.fv (.sc (.lit (.int .i64 1)))) (rl false) (fun ρ o β w ho hx hy=>⟨.bool false,iE ho (bD hx) (bT hy) (by simp;omega),eJ rfl⟩) ?_
   refine jL (.binOp .add 9 (.tmp 51) (.const (.string ⟨#[47]⟩)) 9) (.tmp 51) (.const (.string ⟨#[47]⟩)) (rS (aN p)) (.fv (.sc (.lit (.string ⟨#[47]⟩)))) (rS (aN p++⟨#[47]⟩)) (fun ρ o β w ho hx hy=>⟨_,eR ho (bD hx) (bT hy) hcat1,cD⟩) ?_
   refine jB 182 [rl false,di q] mI ?_
   refine jB 175 [iz (q:Int)] (oU hq2) ?_
   refine jL (.binOp .add 9 (.tmp 52) (.tmp 55) 9) (.tmp 52) (.tmp 55) (rS (aN p++⟨#[47]⟩)) (rS (aN (q:Int))) (rS (aN p++⟨#[47]⟩++aN (q:Int))) (fun ρ o β w ho hx hy=>⟨_,eR ho (bD hx) (bD hy) hcat2,cD⟩) ?_
   exact jS Tryz.func130
  ·refine jT Tryz.func130 fun w00=>?_
   refine jB 181 [pz c] (minusP hc) ?_
   refine jB 181 [nz d] minusN ?_
   refine jB 115 [di n.natAbs,di d] (by have:=kS hn hd;rw [hG] at this;exact this) ?_
   refine jB 173 [di n.natAbs,di g] (rK hn hg) ?_
   refine jB 173 [di d,di g] (by have:=rK (a:=d) (b:=g) hd hg;rw [hQ] at this;exact this) ?_
   refine jB 182 [rb (decide (n<0)),di (n.natAbs/g)] (by have := @eX (decide (n<0)) (n.natAbs/g);rw [hP] at this;exact this) ?_
   refine jB 175 [iz p] (oU hp1) ?_
   refine jL (.call ⟨.builtin .len,#[.tmp 41],#[84]⟩) (.tmp 41) (.tmp 41) (di q) (di q) rNe (fun ρ o β w ho hx _=>?_) ?_
   ·obtain ⟨A,m,c,e,hm⟩:=xC (bC.1 hx) (Nat.le_of_not_lt h2)
    exact ⟨_,iU ho e,⟨(m:Int),rfl,by omega⟩⟩
   refine jL (.binOp .eql 3 (.tmp 42) (.const (.int .i64 1)) 3) (.tmp 42) (.const (.int .i64 1)) rNe (.fv (.sc (.lit (.int .i64 1)))) (rl false) (fun ρ o β w ho hx hy=>?_) ?_
   ·obtain ⟨m,e,hm⟩:=hx
    injection e with e
    exact ⟨.bool false,iE ho e (bT hy) (by simpa using hm),eJ rfl⟩
   refine jL (.binOp .add 9 (.tmp 51) (.const (.string ⟨#[47]⟩)) 9) (.tmp 51) (.const (.string ⟨#[47]⟩)) (rS (aN p)) (.fv (.sc (.lit (.string ⟨#[47]⟩)))) (rS (aN p++⟨#[47]⟩)) (fun ρ o β w ho hx hy=>⟨_,eR ho (bD hx) (bT hy) hcat1,cD⟩) ?_
   refine jB 182 [rl false,di q] mI ?_
   refine jB 175 [iz (q:Int)] (oU hq2) ?_
   refine jL (.binOp .add 9 (.tmp 52) (.tmp 55) 9) (.tmp 52) (.tmp 55) (rS (aN p++⟨#[47]⟩)) (rS (aN (q:Int))) (rS (aN p++⟨#[47]⟩++aN (q:Int))) (fun ρ o β w ho hx hy=>⟨_,eR ho (bD hx) (bD hy) hcat2,cD⟩) ?_
   exact jS Tryz.func130
end
theorem fracNW {n:Int} {c d k:Nat} (hc:n = -(c:Int)) (hk:k≤1000000) (hn:n.natAbs<10^(k+1)) (hd:d<10^(k+1)) (h0:0<d):jF 130 [pz c,nz d] (rS (writeB (mkRat n d))):=by
 have h:=fractionNF (n:=n) (d:=d) hc (fK hn (by omega)) (fK hd (by omega)) h0 (zH hn (by omega)) (zH hd (by omega))
  (by have:=kA (k:=k) (z:=gN (decide (n<0)) (n.natAbs/Nat.gcd n.natAbs d)) (by rw [sY];exact Nat.lt_of_le_of_lt (Nat.div_le_self _ _) hn);omega)
  (by have:=kA (k:=k) (z:=((d/Nat.gcd n.natAbs d:Nat):Int)) (by rw [Int.natAbs_natCast];exact Nat.lt_of_le_of_lt (Nat.div_le_self _ _) hd);omega)
 rw [rM n h0] at h
 exact h
section
variable {p q:Rat}
theorem inv_pos {m:Nat} (h:q.num=(m:Int)):mkRat (q.den:Int) m=q⁻¹:=by
 rw [Rat.inv_def,h,Rat.divInt_ofNat]
theorem inv_neg {m:Nat} (h:q.num = -(m:Int)):mkRat (-(q.den:Int)) m=q⁻¹:=by
 rw [Rat.inv_def,h,Rat.divInt_neg',Rat.divInt_ofNat]
theorem prt_neg {m:Nat} (h:q.num = -(m:Int)) (h0:0<m) {β:List Nat} {v:Value} {w:World} (k:(AV.fv (.ag [rB (decide (q.num<0)),.sp (nW q.num.natAbs)]):AV Kr).holds β v w):(nz m).holds β v w:=by
 have e1:decide (q.num<0)=true:=by rw [decide_eq_true_iff];omega
 have e2:q.num.natAbs=m:=by omega
 rw [e1,e2] at k
 obtain ⟨cs,rfl,a,r,rfl,h1,h2⟩:=k
 exact ⟨_,rfl,a,r,rfl,⟨h1,rfl⟩,h2⟩
theorem prt_pos {m:Nat} (h:q.num=(m:Int)) {β:List Nat} {v:Value} {w:World} (k:(AV.fv (.ag [rB (decide (q.num<0)),.sp (nW q.num.natAbs)]):AV Kr).holds β v w):(pz m).holds β v w:=by
 have k' : (iz q.num).holds β v w:=k
 rw [h] at k'
 exact iz_pz k'
theorem fracPZ {k:Nat} (hk:k≤1000000) (hq:Zs k q) (h0:0<q.num.natAbs):jF 130 [iz (q.den:Int),pz q.num.natAbs] (rS (writeB (mkRat (q.den:Int) q.num.natAbs))) :=
 fracW (n:=(q.den:Int)) (k:=k) hk (by rw [Int.natAbs_natCast];exact hq.2) hq.1 h0
theorem fracNZ {k:Nat} (hk:k≤1000000) (hq:Zs k q) (h0:0<q.num.natAbs):jF 130 [pz q.den,nz q.num.natAbs] (rS (writeB (mkRat (-((q.den:Nat):Int)) q.num.natAbs))) :=
 fracNW (k:=k) rfl hk (by rw [Int.natAbs_neg,Int.natAbs_natCast];exact hq.2) hq.1 h0
theorem lt_pow_more {a b k:Nat} (h:a<10^(k+1)) (h2:b≤a+1):b<10^(k+1+1):=by
 rw [Nat.pow_succ]
 have:0<10^(k+1):=Nat.pow_pos (by omega)
 omega
theorem recipF (hq:Zs 10000 q) (h0:q≠0):jF 120 [rS (writeB q)] (rS (writeB q⁻¹)):=by
 obtain ⟨s1,s2⟩:=jJ hq (by omega)
 have hn:=pV h0
 have hfr:jF 130 [pz q.den,.fv (.ag [rB (decide (q.num<0)),.sp (nW q.num.natAbs)])] (rS (writeB q⁻¹)):=by
  by_cases hs:q.num<0
  ·have e:q.num = -((q.num.natAbs:Nat):Int):=by omega
   rw [← inv_neg e]
   refine zG (fracNZ (k:=10000) (by omega) hq (by omega)) fun β vs w ⟨v,r,e1,h1,u,r2,e2,h2,h3⟩=>⟨v,r,e1,h1,u,r2,e2,prt_neg e (by omega) h2,h3⟩
  ·have e:q.num=((q.num.natAbs:Nat):Int):=by omega
   rw [← inv_pos e]
   refine zG (fracPZ (k:=10000) (by omega) hq (by omega)) fun β vs w ⟨v,r,e1,h1,u,r2,e2,h2,h3⟩=>⟨v,r,e1,pz_iz h1,u,r2,e2,prt_pos e h2,h3⟩
 refine jT Tryz.func120 fun w00=>?_
 refine jB 114 [rS (writeB q)] (uU s1 s2) ?_
 refine jB 130 [pz q.den,.fv (.ag [rB (decide (q.num<0)),.sp (nW q.num.natAbs)])] hfr ?_
 exact jS Tryz.func120
theorem zs_inv {k:Nat} (h:Zs k q) (h0:q≠0):Zs k q⁻¹:=by
 have hn:=pV h0
 have hd:=q.den_pos
 by_cases hs:q.num<0
 ·have e:q.num = -((q.num.natAbs:Nat):Int):=by omega
  rw [← inv_neg e]
  obtain ⟨e1,e2⟩:=tD (-(q.den:Int)) (d:=q.num.natAbs) (by omega)
  have g:Nat.gcd (-(q.den:Int)).natAbs q.num.natAbs=1:=by rw [Int.natAbs_neg,Int.natAbs_natCast,Nat.gcd_comm];exact q.reduced
  rw [g] at e1 e2
  refine ⟨by rw [e1];simpa using h.2,by rw [e2];simpa using h.1⟩
 ·have e:q.num=((q.num.natAbs:Nat):Int):=by omega
  rw [← inv_pos e]
  obtain ⟨e1,e2⟩:=tD ((q.den:Int)) (d:=q.num.natAbs) (by omega)
  have g:Nat.gcd ((q.den:Int)).natAbs q.num.natAbs=1:=by rw [Int.natAbs_natCast,Nat.gcd_comm];exact q.reduced
  rw [g] at e1 e2
  refine ⟨by rw [e1];simpa using h.2,by rw [e2];simpa using h.1⟩
theorem pW (hp:Zs 10000 p) (hq:Zs 10000 q) (h0:q≠0):jF 49 [rS (writeB p),rS (writeB q)] (rS (writeB (p/q))):=by
 rw [Rat.div_def]
 refine jT Tryz.func49 fun w00=>?_
 refine jB 120 [rS (writeB q)] (recipF hq h0) ?_
 refine jB 119 [rS (writeB p),rS (writeB q⁻¹)] (fF hp (zs_inv hq h0)) ?_
 exact jS Tryz.func49
theorem aAe {f:FuncId} {s u:ByteArray} (h:jF f [rS s] (rS u)):jF f [tx s] (tx u):=by
 intro β w vs hv
 obtain ⟨v,rfl,h1⟩:=dC hv
 rw [aO h1]
 exact (h β w [.string s] ⟨_,_,rfl,cD,rfl⟩).mono fun e w' ⟨v,e1,e2,e3⟩=>⟨v,e1,e2,by rw [bD e3];exact bE⟩
theorem kn_Z {f:FuncId} {s:ByteArray} {z:Int} (h:jF f [rS s] (.fv (.sc (.lit (.int .i64 z))))):jF f [tx s] (it z):=by
 intro β w vs hv
 obtain ⟨v,rfl,h1⟩:=dC hv
 rw [aO h1]
 exact (h β w [.string s] ⟨_,_,rfl,cD,rfl⟩).mono fun e w' ⟨v,e1,e2,e3⟩=>⟨v,e1,e2,by rw [bT e3];exact aX rfl⟩
theorem kn_IL {f:FuncId} {s:ByteArray} {z:Int} (h:jF f [rS s] (rI z)):jF f [tx s] (it z):=by
 intro β w vs hv
 obtain ⟨v,rfl,h1⟩:=dC hv
 rw [aO h1]
 exact (h β w [.string s] ⟨_,_,rfl,cD,rfl⟩).mono fun e w' ⟨v,e1,e2,e3⟩=>⟨v,e1,e2,by rw [bD e3];exact aX rfl⟩
theorem vB {s:ByteArray} {z:Int} (hs:s.size≤9223372036854775807) (hz:bQ s=z):jF 45 [tx s] (it z):=kn_IL (hz▸uX hs)
theorem sign_cmp (p q:Rat):(cmpR p q = -1∧(p-q).num<0)∨(cmpR p q=0∧(p-q).num=0)∨(cmpR p q=1∧0<(p-q).num):=by
 unfold cmpR
 by_cases h1:p<q
 ·left
  refine ⟨if_pos h1,Int.not_le.1 fun h=>?_⟩
  have h:=Rat.num_nonneg.1 h
  grind
 ·by_cases h2:q<p
  ·right;right
   refine ⟨by rw [if_neg h1,if_pos h2],?_⟩
   have h3:0≤(p-q).num:=Rat.num_nonneg.2 (by grind)
   have h4:(p-q).num≠0:=fun h=>by
    have:=Rat.num_eq_zero.1 h
    grind
   omega
  ·right;left
   refine ⟨by rw [if_neg h1,if_neg h2],?_⟩
   rw [Rat.num_eq_zero]
   grind
theorem refCmpF (hp:Zs 10000 p) (hq:Zs 10000 q):jF 124 [tx (writeB p),tx (writeB q)] (it (cmpR p q)):=by
 have hs:=iW (subR hp hq)
 rcases sign_cmp p q with ⟨e,h⟩|⟨e,h⟩|⟨e,h⟩
 ·rw [e]
  refine jG Tryz.func124 fun w00=>?_
  refine jC 53 [tx (writeB p),tx (writeB q)] (hs) ?_
  refine jC 110 [tx (writeB (p-q))] (kn_Z (signFn h)) ?_
  exact jR Tryz.func124
 ·rw [e]
  refine jG Tryz.func124 fun w00=>?_
  refine jC 53 [tx (writeB p),tx (writeB q)] (hs) ?_
  refine jC 110 [tx (writeB (p-q))] (kn_Z (signF0 h)) ?_
  exact jR Tryz.func124
 ·rw [e]
  refine jG Tryz.func124 fun w00=>?_
  refine jC 53 [tx (writeB p),tx (writeB q)] (hs) ?_
  refine jC 110 [tx (writeB (p-q))] (kn_Z (signFp h)) ?_
  exact jR Tryz.func124
end
section
variable {f:FuncId} {w00:World} {Out:Value→World→Prop}
theorem klenT {c:Cfg Kn} (t:Tmp) (T:TypeId) (hT:Tryz.prog.underlying T=some .string) (s:ByteArray) (hc:(c.op.map fun o=>o.op,c.okT (.fv (.sc (eV s.size))),c.ev (.tmp t))=(some (.call ⟨.builtin .len,#[.tmp t],#[T]⟩),true,tx s))
 (hg:Ok Tryz.prog f w00 Out (cG Tryz.prog 1000 (c.give (.fv (.sc (eV s.size)))))):Ok Tryz.prog f w00 Out c:=by
 simp only [Prod.mk.injEq] at hc
 obtain ⟨h1,h2,h3⟩:=hc
 exact qA _ (.tmp t) (.tmp t) (tx s) (tx s) (.fv (.sc (eV s.size))) (by rw [h1,h2,h3]) (by simp [Op.operands,Call.operands]) (by simp [Op.operands,Call.operands])
  (fun ρ o β w ho hx _=>⟨_,wY ho hT (aO hx),bE⟩) hg
theorem jP{c:Cfg Kn} (t:Tmp) (T:TypeId) (hT:Tryz.prog.underlying T=some .string) (s:ByteArray)(hg:Ok Tryz.prog f w00 Out (cG Tryz.prog 1000 (c.give (.fv (.sc (eV s.size))))))(hc:(c.op.map fun o=>o.op,c.okT (.fv (.sc (eV s.size))),c.ev (.tmp t))=(some (.call ⟨.builtin .len,#[.tmp t],#[T]⟩),true,tx s):=by kernel_rfl):Ok Tryz.prog f w00 Out c:=klenT t T hT s hc hg
end
section
variable {p q:Rat}
theorem wr_len {q:Rat} (h:Wr q):(writeB q).size≤1000000000:=by
 have h1:=h.n
 have h2:=h.d
 have:=pC q.num
 rw [gY]
 split <;> omega
theorem refLargeF (h:Wr q):jF 127 [tx (writeB q)] (it 0):=by
 have h1:=h.n
 have h2:=h.d
 have hl:=pC q.num
 refine jG Tryz.func127 fun w00=>?_
 refine jC 177 [tx (writeB q)] (aAe (numF (wr_len h))) ?_
 refine jC 123 [tx (aN q.num)] (aAe (absTF (by omega))) ?_
 refine jP 5 22 Tryz.underlying22 (decB q.num.natAbs) ?_
 refine jM 6 (decB q.num.natAbs).size 600 false (by rw [decide_eq_false_iff_not];omega) ?_
 refine jC 121 [tx (writeB q)] (aAe (denOfF (wr_len h))) ?_
 refine jP 10 22 Tryz.underlying22 (decB q.den) ?_
 refine jM 11 (decB q.den).size 600 false (by rw [decide_eq_false_iff_not];omega) ?_
 exact jR Tryz.func127
end
theorem di_len {w:World} {v:Value} {r:Nat} (h:Di w v r):∃ A n c,v = .slice A n c∧(r=0→n=0)∧(r≠0→n≠0):=by
 obtain ⟨A,n,c,xs,rfl,hr,hd,hn,rfl⟩:=h
 refine ⟨A,n,c,rfl,fun h0=>?_,fun h0 e=>?_⟩
 ·have:=(Norm.zero_iff cB hn).1 h0
  rw [← hr.len,this];rfl
 ·apply h0
  rw [List.eq_nil_of_length_eq_zero (hr.len.trans e)];rfl
def csPos:CS Kr where
 size:=1
 cold:=false
 pred cs _ := ∃ n:Int,cs = [.int .i64 n]∧0<n
 stable _ _ _ h _:=h
 len cs w h:=by obtain ⟨v,e,_⟩:=h;rw [e];rfl
 one cs w h:=by obtain ⟨v,e,_⟩:=h;rw [e];intro d hd;rw [List.mem_singleton] at hd;rw [hd];rfl
 iscold h:=by cases h
abbrev rPos:AV Kr := .fv (.sc (.sp csPos))
theorem igt_run {o:Oper} {ρ:Operand→Value} {w:World} {x y:Operand} {a b:Int} {r:Bool} (ho:o.op = .binOp .gtr 3 x y 3) (hx:ρ x = .int .i64 a) (hy:ρ y = .int .i64 b) (h:decide (b<a)=r) :
 (execOp ρ o).run Tryz.prog w = .ok (.value (.bool r)) w:=by
 simp only [execOp,ho,hx,hy]
 refine bJ ?_
 rw [← h]
 exact bL (by kernel_rfl) w
theorem addOneF {q:Nat} (h:Bd q):jF 183 [di q,.fv (.nsl 1 3 [.lit (.int .i64 1)])] (ru (q+1)):=by
 intro β w vs hv
 obtain ⟨v,u,rfl,h1,h2⟩:=dJ hv
 obtain ⟨A,n,c,xs,rfl,hr,hd,hn,rfl⟩:=bC.1 h1
 obtain ⟨g,cs,rfl,hg,x,r,rfl,hx,hr2⟩:=h2
 have hx1:x = [.int .i64 1]:=hx.1
 rw [show r = [] from hr2,hx1] at hg
 have hl:n≤1099511627776:=by rw [← hr.len];exact aV dN hn h
 refine (qR A n c xs (some ⟨g,0,none⟩) 1 1 [1] w hr (ri_one hg) hd (Dig.cons (by rw [cN];omega) (Dig.nil _)) (by omega) (by omega)).mono ?_
 rintro e w' ⟨A2,n2,c2,zs,rfl,h1,h2,h3,h4⟩
 exact ⟨_,rfl,h4,zE.2 ⟨A2,n2,c2,zs,rfl,h1,h2,by rw [h3];simp [val]⟩⟩
theorem signedNR {d:Nat}:jF 182 [rl true,ru d] (iz (-(d:Int))):=by
 intro β w vs hv
 obtain ⟨v,u,rfl,h1,h2⟩:=dJ hv
 rw [bT h1]
 have := @signedRF true d β w [.bool true,u] ⟨_,_,rfl,cD,u,[],rfl,h2,rfl⟩
 simpa [gN] using this
theorem floorDivP {a b:Nat} (ha:Bd a) (hb:0<b):jF 224 [pz a,pz b] (iz ((a/b:Nat):Int)):=by
 refine jT Tryz.func224 fun w00=>?_
 refine jB 173 [di a,di b] (rK ha hb) ?_
 refine jB 182 [rl false,di (a/b)] mI ?_
 exact jS Tryz.func224
theorem floorDivN0 {a b:Nat} (ha:Bd a) (hb:0<b) (h0:a%b=0):jF 224 [nz a,pz b] (iz (-((a/b:Nat):Int))):=by
 refine jT Tryz.func224 fun w00=>?_
 refine jB 173 [di a,di b] (rK ha hb) ?_
 refine jL (.call ⟨.builtin .len,#[.tmp 18],#[84]⟩) (.tmp 18) (.tmp 18) (di (a%b)) (di (a%b)) (.fv (.sc (.lit (.int .i64 0)))) (fun ρ o β w ho hx _=>?_) ?_
 ·obtain ⟨A,n,c,e,h1,_⟩:=di_len (bC.1 hx)
  have hn:=h1 h0
  subst hn
  exact ⟨_,iU ho e,eJ rfl⟩
 refine jB 182 [rl true,di (a/b)] signedNF ?_
 exact jS Tryz.func224
theorem floorDivN1 {a b:Nat} (ha:Bd a) (hb:0<b) (h0:a%b≠0):jF 224 [nz a,pz b] (iz (-((a/b+1:Nat):Int))):=by
 refine jT Tryz.func224 fun w00=>?_
 refine jB 173 [di a,di b] (rK ha hb) ?_
 refine jL (.call ⟨.builtin .len,#[.tmp 18],#[84]⟩) (.tmp 18) (.tmp 18) (di (a%b)) (di (a%b)) rPos (fun ρ o β w ho hx _=>?_) ?_
 ·obtain ⟨A,n,c,e,_,h1⟩:=di_len (bC.1 hx)
  have hn:=h1 h0
  exact ⟨_,iU ho e,⟨(n:Int),rfl,by omega⟩⟩
 refine jL (.binOp .gtr 3 (.tmp 19) (.const (.int .i64 0)) 3) (.tmp 19) (.const (.int .i64 0)) rPos (.fv (.sc (.lit (.int .i64 0)))) (rl true) (fun ρ o β w ho hx hy=>?_) ?_
 ·obtain ⟨m,e,hm⟩:=hx
  injection e with e
  exact ⟨.bool true,igt_run ho e (bT hy) (by rw [decide_eq_true_iff];exact hm),eJ rfl⟩
 refine jB 183 [di (a/b),.fv (.nsl 1 3 [.lit (.int .i64 1)])] (addOneF (Nat.lt_of_le_of_lt (Nat.div_le_self _ _) ha)) ?_
 refine jB 182 [rl true,ru (a/b+1)] signedNR ?_
 exact jS Tryz.func224
section
variable {q:Rat}
theorem zJ (hs:(writeB q).size≤1000000000):jF 176 [rS (writeB q)] (rl (decide (q.den=1))):=by
 have hsl:=iM q
 have hln:=gY q
 have hres:(((aJ (writeB q):Nat):Int)==((writeB q).size:Nat))=decide (q.den=1):=by
  rw [hsl,hln,Bool.eq_iff_iff]
  by_cases h:q.den=1 <;> simp [h] <;> omega
 obtain ⟨b,hb⟩:∃ b,b=decide (q.den=1):=⟨_,rfl⟩
 rw [← hb] at hres ⊢
 refine jT Tryz.func176 fun w00=>?_
 refine jB 112 [rS (writeB q)] (eO (by omega)) ?_
 refine dP 5 22 Tryz.underlying22 (writeB q) ?_
 refine jL (.binOp .eql 3 (.tmp 4) (.tmp 6) 3) (.tmp 4) (.tmp 6) (rI (aJ (writeB q):Nat)) (rI ((writeB q).size:Nat)) (rl b) (fun ρ o β w ho hx hy=>⟨.bool b,iE ho (bD hx) (bD hy) hres,eJ rfl⟩) ?_
 exact jS Tryz.func176
theorem floor_int (h:q.den=1):((q.floor:Int):Rat)=q:=by
 have e:q=((q.num:Int):Rat):=(Rat.ext (by simp) (by simp [h]))
 rw [e]
 simp
theorem floor_le (q:Rat):(q.floor).natAbs≤q.num.natAbs+1:=by
 rw [oN q _ rfl]
 have:=Nat.div_le_self q.num.natAbs q.den
 generalize q.num.natAbs%q.den=r at *
 generalize q.num.natAbs/q.den=m at *
 generalize q.num.natAbs=n at *
 unfold sg
 split <;> split <;> omega
theorem refFloorF (hq:Zs 10000 q):jF 174 [rS (writeB q)] (rS (writeB ((q.floor:Int):Rat))):=by
 obtain ⟨s1,s2⟩:=jJ hq (by omega)
 have hs:(writeB q).size≤1000000000:=by have:=zs_len hq;omega
 by_cases h1:q.den=1
 ·rw [floor_int h1]
  refine jT Tryz.func174 fun w00=>?_
  refine jB 176 [rS (writeB q)] (by have:=zJ hs;rw [decide_eq_true h1] at this;exact this) ?_
  exact jS Tryz.func174
 ·have hn:Bd q.num.natAbs:=fK hq.1 (by omega)
  have hfd:jF 224 [.fv (.ag [rB (decide (q.num<0)),.sp (nW q.num.natAbs)]),pz q.den] (iz q.floor):=by
   by_cases hs:q.num<0
   ·have e:q.num = -((q.num.natAbs:Nat):Int):=by omega
    have hf:=oN q true (decide_eq_true hs)
    by_cases hr:q.num.natAbs%q.den=0
    ·rw [if_neg (by simp [hr])] at hf
     have hf' : q.floor = -((q.num.natAbs/q.den:Nat):Int):=hf
     rw [hf']
     exact zG (floorDivN0 hn q.den_pos hr) fun β vs w ⟨v,r,e1,h1,u⟩=>⟨v,r,e1,prt_neg e (by omega) h1,u⟩
    ·rw [if_pos ⟨rfl,hr⟩] at hf
     have hf' : q.floor = -((q.num.natAbs/q.den+1:Nat):Int):=hf
     rw [hf']
     exact zG (floorDivN1 hn q.den_pos hr) fun β vs w ⟨v,r,e1,h1,u⟩=>⟨v,r,e1,prt_neg e (by omega) h1,u⟩
   ·have e:q.num=((q.num.natAbs:Nat):Int):=by omega
    have hf:=oN q false (decide_eq_false hs)
    rw [if_neg (by simp)] at hf
    have hf' : q.floor=((q.num.natAbs/q.den:Nat):Int):=hf
    rw [hf']
    exact zG (floorDivP hn q.den_pos) fun β vs w ⟨v,r,e1,h1,u⟩=>⟨v,r,e1,prt_pos e h1,u⟩
  have hz:q.floor.natAbs<B9^100000000:=by
   have h:=floor_le q
   exact zH (k:=10000+1+1) (lt_pow_more hq.1 h) (by omega)
  have hw:writeB ((q.floor:Int):Rat)=aN q.floor:=by rw [gV (by simp)];simp
  rw [hw]
  generalize q.floor=z at *
  refine jT Tryz.func174 fun w00=>?_
  refine jB 176 [rS (writeB q)] (by have:=zJ hs;rw [decide_eq_false h1] at this;exact this) ?_
  refine jB 114 [rS (writeB q)] (uU s1 s2) ?_
  refine jB 224 [.fv (.ag [rB (decide (q.num<0)),.sp (nW q.num.natAbs)]),pz q.den] hfd ?_
  refine jB 175 [iz z] (oU hz) ?_
  exact jS Tryz.func174
end
theorem wn_gcd (q:Rat) (n:Nat):wn q n=Nat.gcd q.num.natAbs n:=by
 unfold wn
 split
 ·rename_i h
  rw [h]
  exact (Nat.gcd_zero_left n).symm
 ·rfl
theorem wd_lcm (q:Rat) (d:Nat):wd q d=Nat.lcm q.den d:=by
 unfold wd
 split
 ·rename_i h
  rw [h]
  exact (Nat.lcm_one_left d).symm
 ·unfold Nat.lcm
  rw [Nat.mul_comm q.den d,Nat.mul_div_assoc d (Nat.gcd_dvd_left q.den d)]
theorem two_divs {L G g p q z:Nat} (hL:0<L) (h:L*p=g*z*G*q) (hG:0<G*g) (hpq:Nat.Coprime p q):G*g/Nat.gcd L (G*g) ∣ p∧q ∣ L/Nat.gcd L (G*g):=by
 obtain ⟨D,hD⟩:∃ D,D=Nat.gcd L (G*g):=⟨_,rfl⟩
 have hD0:0<D:=hD▸Nat.gcd_pos_of_pos_left _ hL
 have hco:Nat.Coprime (L/D) (G*g/D):=hD▸Nat.coprime_div_gcd_div_gcd (hD▸hD0)
 obtain ⟨u,hu⟩:D ∣ L:=hD▸Nat.gcd_dvd_left _ _
 obtain ⟨v,hv⟩:D ∣ G*g:=hD▸Nat.gcd_dvd_right _ _
 rw [← hD]
 rw [hu,hv,Nat.mul_div_cancel_left _ hD0,Nat.mul_div_cancel_left _ hD0] at hco
 rw [hu,hv,Nat.mul_div_cancel_left _ hD0,Nat.mul_div_cancel_left _ hD0]
 have e:u*p=v*z*q:=by
  refine Nat.eq_of_mul_eq_mul_left hD0 ?_
  rw [← Nat.mul_assoc,← hu,h]
  calc g*z*G*q=G*g*(z*q):=by simp only [Nat.mul_comm,Nat.mul_left_comm]
   _=D*(v*z*q):=by rw [hv];simp only [Nat.mul_assoc]
 exact ⟨(Nat.Coprime.symm hco).dvd_of_dvd_mul_left (e▸⟨z*q,by rw [Nat.mul_assoc]⟩),(Nat.Coprime.symm hpq).dvd_of_dvd_mul_right (e▸⟨v*z,by rw [Nat.mul_comm]⟩)⟩
theorem zK {a b c:Rat} (h:¬ (a=0∧b=0∧c=0)):∃ z1 z2 z3:Int,bG a b c*a=z1∧bG a b c*b=z2∧bG a b c*c=z3∧Int.gcd (Int.gcd z1 z2:Int) z3=1∧∃ (L G:Nat),0<L∧0<G∧bG a b c=mkRat L G∧L=Nat.lcm c.den (Nat.lcm b.den (Nat.lcm a.den 1))∧G ∣ a.num.natAbs∧G ∣ b.num.natAbs∧G ∣ c.num.natAbs:=by
 have hN:0<wn c (wn b (wn a 0)):=by
  by_cases ha:a=0
  ·by_cases hb:b=0
   ·exact nI (fun hc=>h ⟨ha,hb,hc⟩)
   ·exact jI (nI hb)
  ·exact jI (jI (nI ha))
 have hM:0<wd c (wd b (wd a 1)):=wd_pos (wd_pos (wd_pos (by omega)))
 have hw:bG a b c=mkRat (wd c (wd b (wd a 1)):Nat) (wn c (wn b (wn a 0))):=by unfold bG;simp [sg]
 simp only [wn_gcd,wd_lcm] at hN hM hw
 obtain ⟨L,hL⟩:∃ L,L=Nat.lcm c.den (Nat.lcm b.den (Nat.lcm a.den 1)):=⟨_,rfl⟩
 obtain ⟨G,hG⟩:∃ G,G=Nat.gcd c.num.natAbs (Nat.gcd b.num.natAbs (Nat.gcd a.num.natAbs 0)):=⟨_,rfl⟩
 rw [← hL] at hM hw
 rw [← hG] at hN hw
 have gc:G ∣ c.num.natAbs:=hG▸Nat.gcd_dvd_left _ _
 have gb:G ∣ b.num.natAbs:=hG▸Nat.dvd_trans (Nat.gcd_dvd_right _ _) (Nat.gcd_dvd_left _ _)
 have ga:G ∣ a.num.natAbs:=hG▸Nat.dvd_trans (Nat.gcd_dvd_right _ _) (Nat.dvd_trans (Nat.gcd_dvd_right _ _) (Nat.gcd_dvd_left _ _))
 have lc:c.den ∣ L:=hL▸Nat.dvd_lcm_left _ _
 have lb:b.den ∣ L:=hL▸Nat.dvd_trans (Nat.dvd_lcm_left _ _) (Nat.dvd_lcm_right _ _)
 have la:a.den ∣ L:=hL▸Nat.dvd_trans (Nat.dvd_trans (Nat.dvd_lcm_left _ _) (Nat.dvd_lcm_right _ _)) (Nat.dvd_lcm_right _ _)
 have key:∀ {q:Rat},G ∣ q.num.natAbs→q.den ∣ L→∃ z:Int,bG a b c*q=z∧L*q.num.natAbs=z.natAbs*G*q.den:=by
  intro q hg hl
  obtain ⟨l,hl⟩:=hl
  obtain ⟨p,hp⟩:(G:Int) ∣ q.num:=Int.ofNat_dvd_left.2 hg
  refine ⟨l*p,?_,?_⟩
  ·have h0:(G:Rat)≠0:=by exact_mod_cast (by omega:G≠0)
   have h1:(q.den:Rat)≠0:=by exact_mod_cast q.den_nz
   have e1:bG a b c*G=L:=by
    rw [hw,Rat.mkRat_eq_div,Rat.div_def,Rat.mul_assoc,Rat.inv_mul_cancel _ h0,Rat.mul_one]
    rfl
   have e2:q*q.den=q.num:=by
    have h2:q=q.num/q.den:=by rw [← Rat.mkRat_eq_div,Rat.mkRat_self]
    have h3:q.num/(q.den:Rat)*q.den=q.num:=by rw [Rat.div_def,Rat.mul_assoc,Rat.inv_mul_cancel _ h1,Rat.mul_one]
    rw [← h2] at h3
    exact h3
   have e3:(L:Rat)=q.den*l:=by rw [hl];push_cast;rfl
   have e4:(q.num:Rat)=G*p:=by rw [hp];push_cast;rfl
   have e5:bG a b c*q*(G*q.den)=(l*p:Rat)*(G*q.den):=by
    calc bG a b c*q*(G*q.den)=bG a b c*G*(q*q.den):=by grind
     _=q.den*l*(G*p):=by rw [e1,e2,e3,e4]
     _=(l*p:Rat)*(G*q.den):=by grind
   have hne:(G*q.den:Rat)≠0:=fun e=>(Rat.mul_eq_zero.1 e).elim h0 h1
   have:=congrArg (· * (G*q.den:Rat)⁻¹) e5
   simp only [Rat.mul_assoc,Rat.mul_inv_cancel _ hne,Rat.mul_one] at this
   rw [this]
   push_cast
   rfl
  ·rw [hl,hp,Int.natAbs_mul,Int.natAbs_mul,Int.natAbs_natCast,Int.natAbs_natCast]
   simp only [Nat.mul_assoc,Nat.mul_comm,Nat.mul_left_comm]
 obtain ⟨z1,e1,f1⟩:=key ga la
 obtain ⟨z2,e2,f2⟩:=key gb lb
 obtain ⟨z3,e3,f3⟩:=key gc lc
 refine ⟨z1,z2,z3,e1,e2,e3,?_,L,G,hM,hN,hw,hL,ga,gb,gc⟩
 obtain ⟨g,hg⟩:∃ g,g=Int.gcd (Int.gcd z1 z2:Int) z3:=⟨_,rfl⟩
 rw [← hg]
 have d3:g ∣ z3.natAbs:=hg▸Nat.gcd_dvd_right _ _
 have d12:g ∣ Int.gcd z1 z2:=hg▸Nat.gcd_dvd_left _ _
 have d1:g ∣ z1.natAbs:=Nat.dvd_trans d12 (Nat.gcd_dvd_left _ _)
 have d2:g ∣ z2.natAbs:=Nat.dvd_trans d12 (Nat.gcd_dvd_right _ _)
 have g0:0<g:=by
  rcases Nat.eq_zero_or_pos g with e|e
  ·exfalso
   rw [e] at d1 d2 d3
   have n1:z1.natAbs=0:=Nat.eq_zero_of_zero_dvd d1
   have n2:z2.natAbs=0:=Nat.eq_zero_of_zero_dvd d2
   have n3:z3.natAbs=0:=Nat.eq_zero_of_zero_dvd d3
   have zero:∀ {q:Rat} {z:Int},L*q.num.natAbs=z.natAbs*G*q.den→z.natAbs=0→q=0:=fun {q z} f n=>by
    rw [n,Nat.zero_mul,Nat.zero_mul] at f
    rcases Nat.mul_eq_zero.1 f with f|f
    ·omega
    ·exact Rat.num_eq_zero.1 (Int.natAbs_eq_zero.1 f)
   exact h ⟨zero f1 n1,zero f2 n2,zero f3 n3⟩
  ·exact e
 have hGg:0<G*g:=Nat.mul_pos hN g0
 have two:∀ {q:Rat} {z:Int},L*q.num.natAbs=z.natAbs*G*q.den→g ∣ z.natAbs→G*g/Nat.gcd L (G*g) ∣ q.num.natAbs∧q.den ∣ L/Nat.gcd L (G*g):=fun {q z} f d=>by
  obtain ⟨z',hz⟩:=d
  exact two_divs hM (by rw [f,hz]) hGg q.reduced
 have t1:=two f1 d1
 have t2:=two f2 d2
 have t3:=two f3 d3
 have hL' : L ∣ L/Nat.gcd L (G*g):=by
  have:=Nat.lcm_dvd t3.2 (Nat.lcm_dvd t2.2 (Nat.lcm_dvd t1.2 (Nat.one_dvd _)))
  rw [← hL] at this
  exact this
 have hG' : G*g/Nat.gcd L (G*g) ∣ G:=by
  have:=Nat.dvd_gcd t3.1 (Nat.dvd_gcd t2.1 (Nat.dvd_gcd t1.1 (Nat.dvd_zero _)))
  rw [← hG] at this
  exact this
 have hD0:0<Nat.gcd L (G*g):=Nat.gcd_pos_of_pos_left _ hM
 have hu:0<L/Nat.gcd L (G*g):=Nat.div_pos (Nat.gcd_le_left _ hM) hD0
 have hle:=Nat.le_of_dvd hu hL'
 have hD1:Nat.gcd L (G*g)=1:=by
  rcases Nat.lt_or_ge 1 (Nat.gcd L (G*g)) with hlt|hge
  ·have:=Nat.div_lt_self hM hlt
   omega
  ·omega
 rw [hD1,Nat.div_one] at hG'
 have hle2:=Nat.le_of_dvd hN hG'
 rcases Nat.lt_or_ge 1 g with hlt|hge
 ·have:G*1<G*g:=Nat.mul_lt_mul_of_pos_left hlt hN
  omega
 ·omega
end Ab
namespace Ab
open Go.RowKit
theorem equal3 {P:Program} {T e:TypeId} {x0 x1 x2 y0 y1 y2:Value} {r0 r1 r2:Bool} (d:Nat) (hT:P.underlying T=some (.array 3 e)) (he:P.cellsOf e=1) (ha:∀ w,(isAgg e).run P w = .ok false w) (hs:∀ w,(sizeOf e).run P w = .ok 1 w)
 (h0:∀ w,(Op.equalIn d e x0 y0).run P w = .ok r0 w) (h1:∀ w,(Op.equalIn d e x1 y1).run P w = .ok r1 w) (h2:∀ w,(Op.equalIn d e x2 y2).run P w = .ok r2 w) (w:World) :
 (Op.equalIn (d+1) T (.agg #[x0,x1,x2]) (.agg #[y0,y1,y2])).run P w = .ok (r0&&r1&&r2) w:=by
 rw [Op.equalIn]
 simp only [Sem.run_bind,run_underlying hT,Result.andThen_ok,hs]
 simp only [Std.Legacy.Range.forIn_eq_forIn_range',Std.Legacy.Range.size,Nat.sub_zero,Nat.add_sub_cancel,Nat.div_one,List.range'_succ,List.range'_zero,List.forIn_cons,List.forIn_nil]
 simp [go_sem,ha,hs,h0,h1,h2]
 cases r0 <;> cases r1 <;> cases r2 <;> simp
end Ab
namespace Ab
open Go.RowKit Pl
theorem jne_run {o:Oper} {ρ:Operand→Value} {w:World} {x y:Operand} {a b:Int} {r:Bool} {T T' : TypeId} (ho:o.op = .binOp .neq T x y T') (hx:ρ x = .int .i64 a) (hy:ρ y = .int .i64 b) (h:(!(a==b))=r) :
 (execOp ρ o).run Tryz.prog w = .ok (.value (.bool r)) w:=by
 simp only [execOp,ho,hx,hy]
 refine bJ ?_
 rw [← h]
 exact bL (by kernel_rfl) w
theorem iss_run {o:Oper} {ρ:Operand→Value} {w:World} {x y:Operand} {a b:Int} {r:Bool} (ho:o.op = .binOp .lss 3 x y 3) (hx:ρ x = .int .i64 a) (hy:ρ y = .int .i64 b) (h:decide (a<b)=r) :
 (execOp ρ o).run Tryz.prog w = .ok (.value (.bool r)) w:=by
 simp only [execOp,ho,hx,hy]
 refine bJ ?_
 rw [← h]
 exact bL (by kernel_rfl) w
theorem guard_eq {T:TypeId} {xs ys:Array Value} {x y:Operand} (h:Tryz.prog.eqGuardType Tryz.prog.depth T=false) (w:World):(eqGuard .eql T x y (.agg xs) (.agg ys)).run Tryz.prog w = .ok () w:=by
 simp [eqGuard,Sem.run_bind,run_program,h]
theorem agg_eq {o:Oper} {ρ:Operand→Value} {w:World} {x y:Operand} {xs ys:Array Value} {T T' : TypeId} {r:Bool} (hg:Tryz.prog.eqGuardType Tryz.prog.depth T=false) (h:(Op.equal T (.agg xs) (.agg ys)).run Tryz.prog w = .ok r w) (ho:o.op = .binOp .eql T x y T') (hx:ρ x = .agg xs) (hy:ρ y = .agg ys) :
 (execOp ρ o).run Tryz.prog w = .ok (.value (.bool r)) w:=by
 simp only [execOp,ho,hx,hy]
 refine bJ ?_
 simp only [Sem.run_bind,guard_eq hg,Result.andThen_ok]
 show (do pure (Value.bool (← Op.equal T (.agg xs) (.agg ys))):Sem Value).run Tryz.prog w=_
 rw [Sem.run_bind,h]
 rfl
theorem equalZ (a b c x y z:Int) (w:World):(Op.equal 27 (.agg #[.int .i64 a,.int .i64 b,.int .i64 c]) (.agg #[.int .i64 x,.int .i64 y,.int .i64 z])).run Tryz.prog w = .ok (a==x&&b==y&&c==z) w :=
 equal3 9999 (e:=3) (by kernel_rfl) (by kernel_rfl) (fun w=>by kernel_rfl) (fun w=>by kernel_rfl) (fun w=>run_equalIn_int w _ _ _ .i64 _ _ (by kernel_rfl)) (fun w=>run_equalIn_int w _ _ _ .i64 _ _ (by kernel_rfl)) (fun w=>run_equalIn_int w _ _ _ .i64 _ _ (by kernel_rfl)) w
theorem equalT (a b c x y z:ByteArray) (w:World):(Op.equal 24 (.agg #[.string a,.string b,.string c]) (.agg #[.string x,.string y,.string z])).run Tryz.prog w = .ok (a.toList==x.toList&&b.toList==y.toList&&c.toList==z.toList) w :=
 equal3 9999 (e:=22) (by kernel_rfl) (by kernel_rfl) (fun w=>by kernel_rfl) (fun w=>by kernel_rfl) (fun w=>run_equalIn_string w _ _ _ _ (by kernel_rfl)) (fun w=>run_equalIn_string w _ _ _ _ (by kernel_rfl)) (fun w=>run_equalIn_string w _ _ _ _ (by kernel_rfl)) w
abbrev i3 (a b c:Int):AV Kn := .fv (.ag [eV a,eV b,eV c])
theorem i3_is {a b c:Int} {β:List Nat} {v:Value} {w:World} (h:(i3 a b c).holds β v w):v = .agg #[.int .i64 a,.int .i64 b,.int .i64 c]:=by
 obtain ⟨cs,rfl,x1,r1,rfl,h1,x2,r2,rfl,h2,x3,r3,rfl,h3,e⟩:=h
 rw [show r3 = [] from e,show x1=_ from h1,show x2=_ from h2,show x3=_ from h3]
 rfl
theorem s3_is {a b c:ByteArray} {β:List Nat} {v:Value} {w:World} (h:(.fv (.ag [cH a,cH b,cH c]):AV Kn).holds β v w):v = .agg #[.string a,.string b,.string c]:=by
 obtain ⟨cs,rfl,x1,r1,rfl,h1,x2,r2,rfl,h2,x3,r3,rfl,h3,e⟩:=h
 rw [show r3 = [] from e,show x1=_ from h1,show x2=_ from h2,show x3=_ from h3]
 rfl
theorem l3_is {a b c:Value} {β:List Nat} {v:Value} {w:World} (h:(.fv (.ag [.lit a,.lit b,.lit c]):AV Kn).holds β v w):v = .agg #[a,b,c]:=by
 obtain ⟨cs,rfl,x1,r1,rfl,h1,x2,r2,rfl,h2,x3,r3,rfl,h3,e⟩:=h
 rw [show r3 = [] from e,h1.1,h2.1,h3.1]
 rfl
section
variable {f:FuncId} {w00:World} {Out:Value→World→Prop} {c:Cfg Kn}
theorem klt (x y:Operand) (a b:Int) (r:Bool) (Y:AV Kn) (hY:∀ β v w,Y.holds β v w→v = .int .i64 b) (h:decide (a<b)=r) (hg:Ok Tryz.prog f w00 Out (cG Tryz.prog 1000 (c.give (bl r))))
 (hc:(c.op.map fun o=>o.op,c.okT (bl r),c.ev x,c.ev y)=(some (.binOp .lss 3 x y 3),true,.fv (.sc (eV a)),Y):=by kernel_rfl):Ok Tryz.prog f w00 Out c :=
 qA (.binOp .lss 3 x y 3) x y _ _ (bl r) hc (by simp [Op.operands]) (by simp [Op.operands]) (fun ρ o β w ho hx hy=>⟨_,iss_run ho (aO hx) (hY _ _ _ hy) h,aX rfl⟩) hg
theorem vC (x y:Operand) (a b:Int) (r:Bool) (Y:AV Kn) (hY:∀ β v w,Y.holds β v w→v = .int .i64 b) (h:decide (b<a)=r) (hg:Ok Tryz.prog f w00 Out (cG Tryz.prog 1000 (c.give (bl r))))
 (hc:(c.op.map fun o=>o.op,c.okT (bl r),c.ev x,c.ev y)=(some (.binOp .gtr 3 x y 3),true,.fv (.sc (eV a)),Y):=by kernel_rfl):Ok Tryz.prog f w00 Out c :=
 qA (.binOp .gtr 3 x y 3) x y _ _ (bl r) hc (by simp [Op.operands]) (by simp [Op.operands]) (fun ρ o β w ho hx hy=>⟨_,yS ho (aO hx) (hY _ _ _ hy) h,aX rfl⟩) hg
theorem kne (x y:Operand) (a b:Int) (r:Bool) (Y:AV Kn) (hY:∀ β v w,Y.holds β v w→v = .int .i64 b) (h:(!(a==b))=r) (hg:Ok Tryz.prog f w00 Out (cG Tryz.prog 1000 (c.give (bl r))))
 (hc:(c.op.map fun o=>o.op,c.okT (bl r),c.ev x,c.ev y)=(some (.binOp .neq 3 x y 3),true,.fv (.sc (eV a)),Y):=by kernel_rfl):Ok Tryz.prog f w00 Out c :=
 qA (.binOp .neq 3 x y 3) x y _ _ (bl r) hc (by simp [Op.operands]) (by simp [Op.operands]) (fun ρ o β w ho hx hy=>⟨_,jne_run ho (aO hx) (hY _ _ _ hy) h,aX rfl⟩) hg
theorem aZ {b:Int} (β:List Nat) (v:Value) (w:World) (h:(it b).holds β v w):v = .int .i64 b:=aM h
theorem kz3 (x y:Operand) (a b d:Int) (r:Bool) (h:(a==0&&b==0&&d==0)=r) (hg:Ok Tryz.prog f w00 Out (cG Tryz.prog 1000 (c.give (bl r))))
 (hc:(c.op.map fun o=>o.op,c.okT (bl r),c.ev x,c.ev y)=(some (.binOp .eql 27 x y 27),true,i3 a b d,iv 0 0 0):=by kernel_rfl):Ok Tryz.prog f w00 Out c :=
 qA (.binOp .eql 27 x y 27) x y _ _ (bl r) hc (by simp [Op.operands]) (by simp [Op.operands]) (fun ρ o β w ho hx hy=>⟨_,agg_eq (by kernel_rfl) (h▸equalZ a b d 0 0 0 w) ho (i3_is hx) (l3_is hy),aX rfl⟩) hg
theorem kneg (t:Tmp) (a:Int) (ha:rC a) (ha2:rC (-a)) (hg:Ok Tryz.prog f w00 Out (cG Tryz.prog 1000 (c.give (.fv (.sc (eV (-a)))))))
 (hc:(c.op.map fun o=>o.op,c.okT (.fv (.sc (eV (-a)))),c.ev (.tmp t),c.ev (.tmp t))=(some (.unOp .neg 3 (.tmp t)),true,.fv (.sc (eV a)),.fv (.sc (eV a))):=by kernel_rfl):Ok Tryz.prog f w00 Out c :=
 qA (.unOp .neg 3 (.tmp t)) (.tmp t) (.tmp t) _ _ (.fv (.sc (eV (-a)))) hc (by simp [Op.operands]) (by simp [Op.operands]) (fun ρ o β w ho hx hy=>⟨_,by
  simp only [execOp,ho,aO hx]
  refine bJ ?_
  have e:IntKind.i64.wrap (-a) = -a:=by rw [IntWalk.i64_left,IntWalk.wrap64_in _ ⟨by have:=ha2.1;omega,by have:=ha2.2;omega⟩]
  simp [go_sem,e],bE⟩) hg
theorem kabs (t u:Tmp) (a:Int) (hg:Ok Tryz.prog f w00 Out (cG Tryz.prog 1000 (c.give (.fv (.sc (eV (a.natAbs:Int)))))))
 (hc:(c.op.map fun o=>o.op,c.okT (.fv (.sc (eV (a.natAbs:Int)))),c.ev (.tmp t),c.ev (.tmp u))=(some (.call ⟨.builtin .max,#[.tmp t,.tmp u],#[3,3]⟩),true,.fv (.sc (eV a)),.fv (.sc (eV (-a)))):=by kernel_rfl):Ok Tryz.prog f w00 Out c :=
 qA (.call ⟨.builtin .max,#[.tmp t,.tmp u],#[3,3]⟩) (.tmp t) (.tmp u) _ _ (.fv (.sc (eV (a.natAbs:Int)))) hc (by simp [Op.operands,Call.operands]) (by simp [Op.operands,Call.operands]) (fun ρ o β w ho hx hy=>⟨_,by
  have e:max a (-a)=(a.natAbs:Int):=by rw [Int.max_def];split <;> omega
  rw [← e]
  simp only [execOp,ho]
  refine bJ ?_
  simp [go_sem,aO hx,aO hy],bE⟩) hg
theorem kcvu (t:Tmp) (a:Nat) (ha:a<9223372036854775808) (hg:Ok Tryz.prog f w00 Out (cG Tryz.prog 1000 (c.give (.fv (.sc (.lit (.int .u64 (a:Int))))))))
 (hc:(c.op.map fun o=>o.op,c.okT (.fv (.sc (.lit (.int .u64 (a:Int))))),c.ev (.tmp t),c.ev (.tmp t))=(some (.convert 3 151 (.tmp t)),true,.fv (.sc (eV (a:Int))),.fv (.sc (eV (a:Int)))):=by kernel_rfl):Ok Tryz.prog f w00 Out c :=
 qA (.convert 3 151 (.tmp t)) (.tmp t) (.tmp t) _ _ (.fv (.sc (.lit (.int .u64 (a:Int))))) hc (by simp [Op.operands]) (by simp [Op.operands]) (fun ρ o β w ho hx hy=>⟨_,by
  simp only [execOp,ho,aO hx]
  refine bJ ?_
  have e:IntKind.u64.wrap (a:Int)=a:=by simp [IntKind.wrap,IntKind.bits,IntKind.signed];omega
  simp [go_sem,e],aX rfl⟩) hg
end
theorem wI {f:FuncId} {w00:World} {c:Cfg Kn} {fn:Func} {z:Int} (hfn:Tryz.prog.funcs[f]?=some fn) (hc:c.res Tryz.prog fn=some (it z)):Ok Tryz.prog f w00 (fun v w=>(AV.fv (.sc (eV z)):AV Kn).holds [] v w) c :=
 ⟨xX hfn (it z) hc fun _ _ _ h=>h.1⟩
abbrev hA (a b c:Int) (s:ByteArray):AV Kn := .fv (.ag [eV a,eV b,eV c,cH s])
abbrev hL (a b c:Int) (s:ByteArray):AV Kn := .fv (.ag [.lit (.int .i64 a),.lit (.int .i64 b),.lit (.int .i64 c),cH s])
theorem hL_A {a b c:Int} {s:ByteArray} (β:List Nat) (v:Value) (w:World) (h:(hL a b c s).holds β v w):(hA a b c s).holds β v w:=by
 obtain ⟨cs,e,x1,r1,e1,h1,x2,r2,e2,h2,x3,r3,e3,h3,hr⟩:=h
 exact ⟨cs,e,x1,r1,e1,h1.1,x2,r2,e2,h2.1,x3,r3,e3,h3.1,hr⟩
theorem iv_i3 {a b c:Int} (β:List Nat) (v:Value) (w:World) (h:(iv a b c).holds β v w):(i3 a b c).holds β v w:=by
 obtain ⟨cs,e,x1,r1,e1,h1,x2,r2,e2,h2,x3,r3,e3,h3,hr⟩:=h
 exact ⟨cs,e,x1,r1,e1,h1.1,x2,r2,e2,h2.1,x3,r3,e3,h3.1,hr⟩
abbrev Bg (z:Int):Prop:=z < -999999999∨999999999<z
def hkZ (a b c k:Int):Int:=if a=0∧b=0∧c=0 then 6 else if Bg a∨Bg b∨Bg c then 3 else if Int.gcd (Int.gcd a b:Int) c≠1 then 1 else k
section
variable {a b c:Int} {s:ByteArray}
theorem checkHalfF {k z:Int} (hk:jF 45 [tx s] (.fv (.sc (eV k)))) (hz:hkZ a b c k=z):jF 10 [hA a b c s] (.fv (.sc (eV z))):=by
 unfold hkZ at hz
 refine jG Tryz.func10 fun w00=>?_
 by_cases h0:a=0∧b=0∧c=0
 ·obtain rfl:z=6:=by rw [← hz,if_pos h0]
  refine kz3 (.tmp 5) (.tmp 6) a b c true (by simp [h0]) ?_
  exact wI Tryz.func10 (by kernel_rfl)
 rw [if_neg h0] at hz
 refine kz3 (.tmp 5) (.tmp 6) a b c false (by rw [Bool.eq_false_iff];simp;omega) ?_
 have e3:∀ {x:Int},x=a∨x=b∨x=c→Bg x→z=3:=fun hx h=>by
  rw [← hz,if_pos (by rcases hx with rfl|rfl|rfl <;> simp only [h,true_or,or_true])]
 by_cases a1:a < -999999999
 ·obtain rfl:=e3 (.inl rfl) (.inl a1)
  refine klt (.tmp 15) (.const (.int .i64 (-999999999))) a _ true _ aZ (decide_eq_true a1) ?_
  exact wI Tryz.func10 (by kernel_rfl)
 refine klt (.tmp 15) (.const (.int .i64 (-999999999))) a _ false _ aZ (decide_eq_false a1) ?_
 by_cases a2:999999999<a
 ·obtain rfl:=e3 (.inl rfl) (.inr a2)
  refine vC (.tmp 21) (.const (.int .i64 999999999)) a _ true _ aZ (decide_eq_true a2) ?_
  exact wI Tryz.func10 (by kernel_rfl)
 refine vC (.tmp 21) (.const (.int .i64 999999999)) a _ false _ aZ (decide_eq_false a2) ?_
 by_cases b1:b < -999999999
 ·obtain rfl:=e3 (.inr (.inl rfl)) (.inl b1)
  refine klt (.tmp 15) (.const (.int .i64 (-999999999))) b _ true _ aZ (decide_eq_true b1) ?_
  exact wI Tryz.func10 (by kernel_rfl)
 refine klt (.tmp 15) (.const (.int .i64 (-999999999))) b _ false _ aZ (decide_eq_false b1) ?_
 by_cases b2:999999999<b
 ·obtain rfl:=e3 (.inr (.inl rfl)) (.inr b2)
  refine vC (.tmp 21) (.const (.int .i64 999999999)) b _ true _ aZ (decide_eq_true b2) ?_
  exact wI Tryz.func10 (by kernel_rfl)
 refine vC (.tmp 21) (.const (.int .i64 999999999)) b _ false _ aZ (decide_eq_false b2) ?_
 by_cases c1:c < -999999999
 ·obtain rfl:=e3 (.inr (.inr rfl)) (.inl c1)
  refine klt (.tmp 15) (.const (.int .i64 (-999999999))) c _ true _ aZ (decide_eq_true c1) ?_
  exact wI Tryz.func10 (by kernel_rfl)
 refine klt (.tmp 15) (.const (.int .i64 (-999999999))) c _ false _ aZ (decide_eq_false c1) ?_
 by_cases c2:999999999<c
 ·obtain rfl:=e3 (.inr (.inr rfl)) (.inr c2)
  refine vC (.tmp 21) (.const (.int .i64 999999999)) c _ true _ aZ (decide_eq_true c2) ?_
  exact wI Tryz.func10 (by kernel_rfl)
 refine vC (.tmp 21) (.const (.int .i64 999999999)) c _ false _ aZ (decide_eq_false c2) ?_
 rw [if_neg (by unfold Bg;omega)] at hz
 have hg:=intGcdF (a:=a) (b:=b) (by omega) (by omega)
 have hs:=size_gcd (a:=a) (b:=b) (by omega) (by omega)
 have hg2:=intGcdF (a:=(Int.gcd a b:Int)) (b:=c) hs (by omega)
 clear e3 hs
 generalize (Int.gcd a b:Int)=g at *
 generalize Int.gcd g c=g2 at *
 refine jC 44 [.fv (.sc (eV a)),.fv (.sc (eV b))] (hg) ?_
 refine jC 44 [.fv (.sc (eV g)),.fv (.sc (eV c))] (hg2) ?_
 by_cases g1:g2=1
 ·rw [if_neg (by omega)] at hz
  subst hz
  refine kne (.tmp 34) (.const (.int .i64 1)) (g2:Int) 1 false _ aZ (by rw [g1];rfl) ?_
  refine jC 45 [tx s] (hk) ?_
  exact jR Tryz.func10
 ·obtain rfl:z=1:=by rw [← hz,if_pos g1]
  refine kne (.tmp 34) (.const (.int .i64 1)) (g2:Int) 1 true _ aZ (by simp;omega) ?_
  exact wI Tryz.func10 (by kernel_rfl)
theorem checkNormalF (h0:¬ (a=0∧b=0∧c=0)) (ha:¬ Bg a) (hb:¬ Bg b) (hc:¬ Bg c) (hg:Int.gcd (Int.gcd a b:Int) c=1):jF 93 [iv a b c] (it 0):=by
 have w:∀ {x:Int},¬ Bg x→x.natAbs<aD:=fun h=>by unfold Bg at h;rw [aL];omega
 have g1:=dB (a:=0) (b:=a.natAbs) (by rw [aL];omega) (w ha)
 have l1:Nat.gcd 0 a.natAbs<aD:=by rw [Nat.gcd_zero_left];exact w ha
 have g2:=dB l1 (w hb)
 have l2:Nat.gcd (Nat.gcd 0 a.natAbs) b.natAbs<aD:=by
  rw [Nat.gcd_zero_left]
  by_cases e:a=0
  ·rw [e];simpa using w hb
  ·exact Nat.lt_of_le_of_lt (Nat.gcd_le_left _ (by omega)) (w ha)
 have g3:=dB l2 (w hc)
 have e3:Nat.gcd (Nat.gcd (Nat.gcd 0 a.natAbs) b.natAbs) c.natAbs=1:=by
  rw [Nat.gcd_zero_left]
  exact hg
 rw [e3] at g3
 generalize Nat.gcd (Nat.gcd 0 a.natAbs) b.natAbs=x2 at *
 generalize Nat.gcd 0 a.natAbs=x1 at *
 unfold Bg at ha hb hc
 refine Fits.args (l := [i3 a b c]) ?_ fun β vs w ⟨v,r,e,h,hr⟩=>⟨v,r,e,iv_i3 β v w h,hr⟩
 refine jG Tryz.func93 fun w00=>?_
 refine kz3 (.tmp 6) (.tmp 7) a b c false (by rw [Bool.eq_false_iff];simp;omega) ?_
 refine klt (.tmp 13) (.const (.int .i64 (-999999999))) a (-999999999) false _ aZ (by rw [decide_eq_false_iff_not];omega) ?_
 refine vC (.tmp 16) (.const (.int .i64 999999999)) a 999999999 false _ aZ (by rw [decide_eq_false_iff_not];omega) ?_
 refine kneg 21 a (by constructor <;> omega) (by constructor <;> omega) ?_
 refine kabs 20 22 a ?_
 refine kcvu 23 a.natAbs (by omega) ?_
 refine jC 161 [.fv (.sc (.lit (.int .u64 ((0:Nat):Int)))),.fv (.sc (.lit (.int .u64 (a.natAbs:Int))))] (g1) ?_
 refine klt (.tmp 13) (.const (.int .i64 (-999999999))) b (-999999999) false _ aZ (by rw [decide_eq_false_iff_not];omega) ?_
 refine vC (.tmp 16) (.const (.int .i64 999999999)) b 999999999 false _ aZ (by rw [decide_eq_false_iff_not];omega) ?_
 refine kneg 21 b (by constructor <;> omega) (by constructor <;> omega) ?_
 refine kabs 20 22 b ?_
 refine kcvu 23 b.natAbs (by omega) ?_
 refine jC 161 [.fv (.sc (.lit (.int .u64 (x1:Int)))),.fv (.sc (.lit (.int .u64 (b.natAbs:Int))))] (g2) ?_
 refine klt (.tmp 13) (.const (.int .i64 (-999999999))) c (-999999999) false _ aZ (by rw [decide_eq_false_iff_not];omega) ?_
 refine vC (.tmp 16) (.const (.int .i64 999999999)) c 999999999 false _ aZ (by rw [decide_eq_false_iff_not];omega) ?_
 refine kneg 21 c (by constructor <;> omega) (by constructor <;> omega) ?_
 refine kabs 20 22 c ?_
 refine kcvu 23 c.natAbs (by omega) ?_
 refine jC 161 [.fv (.sc (.lit (.int .u64 (x2:Int)))),.fv (.sc (.lit (.int .u64 (c.natAbs:Int))))] (g3) ?_
 exact jR Tryz.func93
end
def csPs:CS Kn where
 size:=1
 cold:=true
 pred cs _ := ∃ a:Addr,cs = [.pointer (some a)]
 stable _ _ _ h _:=h
 len _ _ h:=by obtain ⟨a,h⟩:=h;rw [h];rfl
 one _ _ h:=by obtain ⟨a,h⟩:=h;rw [h];intro c hc;rw [List.mem_singleton] at hc;rw [hc];rfl
 iscold _ _ _ h:=by obtain ⟨a,h⟩:=h;rw [h];intro c hc;rw [List.mem_singleton] at hc;rw [hc];rfl
abbrev sInt (z:Int):List (Seg Kn) := [.lit (.int .i64 z),z0,.lit (.pointer none)]
abbrev sBig:List (Seg Kn) := [z0,z0,.sp csPs]
theorem jU {z:Int} (h:Sm (z:Rat)) {β:List Nat} {cs:List Value} {w:World} (k:(csNb (z:Rat)).pred cs w):holdsL β (sInt z) cs w:=by
 rcases k with ⟨_,e⟩|⟨h2,_⟩
 ·injection e with e
  have:=congrArg Array.toList e
  have e:cs = [.int .i64 z,.int .i64 0,.pointer none]:=by simpa using this
  rw [e]
  exact ⟨[_],_,rfl,⟨rfl,rfl⟩,[_],_,rfl,⟨rfl,rfl⟩,[_],_,rfl,⟨rfl,rfl⟩,rfl⟩
 ·exact absurd h h2
theorem seg_big {q:Rat} (h:¬ Sm q) {β:List Nat} {cs:List Value} {w:World} (k:(csNb q).pred cs w):holdsL β sBig cs w:=by
 rcases k with ⟨h2,_⟩|⟨_,g,s1,s2,e,_⟩
 ·exact absurd h2 h
 ·injection e with e
  have e:cs = [.int .i64 0,.int .i64 0,.pointer (some ⟨g,0,none⟩)]:=congrArg Array.toList e
  rw [e]
  exact ⟨[_],_,rfl,⟨rfl,rfl⟩,[_],_,rfl,⟨rfl,rfl⟩,[_],_,rfl,⟨_,rfl⟩,rfl⟩
theorem vD {q:Rat} {β:List Nat} {cs:List Value} {w:World} (k:(csNb q).pred cs w):holdsL β [nb q] cs w:=⟨cs,[],by simp,k,rfl⟩
theorem nU {z:Int} (hz:Sz z):Sm (z:Rat):=by
 constructor
 ·rw [Rat.num_intCast,dO];omega
 ·rw [Rat.den_intCast,dO];omega
theorem vE {q1 q2 q3 d:Rat} {s1 s2 s3:List (Seg Kn)} (h1:∀ β cs w,(csNb q1).pred cs w→holdsL β s1 cs w) (h2:∀ β cs w,(csNb q2).pred cs w→holdsL β s2 cs w) (h3:∀ β cs w,(csNb q3).pred cs w→holdsL β s3 cs w) (β:List Nat) (v:Value) (w:World)
 (h:(hf q1 q2 q3 d).holds β v w):(AV.fv (.ag (s1++(s2++(s3 ++ [nb d])))):AV Kn).holds β v w:=by
 obtain ⟨cs,rfl,x1,r1,rfl,k1,x2,r2,rfl,k2,x3,r3,rfl,k3,hr⟩:=h
 exact ⟨_,rfl,holdsL.append (h1 β x1 w k1) (holdsL.append (h2 β x2 w k2) (holdsL.append (h3 β x3 w k3) hr))⟩
theorem pne_run {o:Oper} {ρ:Operand→Value} {w:World} {x:Operand} {a:Addr} {T T' : TypeId} (hT:T=61) (ho:o.op = .binOp .neq T x (.const (.pointer none)) T') (hx:ρ x = .pointer (some a)) (hy:ρ (.const (.pointer none)) = .pointer none) :
 (execOp ρ o).run Tryz.prog w = .ok (.value (.bool true)) w:=by
 subst hT
 simp only [execOp,ho,hx,hy]
 refine bJ ?_
 exact bL (by kernel_rfl) w
theorem magM {z:Int} (h:Sm (z:Rat)):jF 104 [it z] (.fv (.sc (isU (z.natAbs:Int)))):=by
 have hz:=h.1
 rw [Rat.num_intCast,dO] at hz
 intro β w vs hv
 obtain ⟨v,rfl,h1⟩:=dC hv
 rw [aM h1]
 exact (dV z w (by omega) (by omega)).mono fun e w' ⟨e1,e2⟩=>⟨_,e1,by rw [← e2];exact aB _ _,bE⟩
section
variable {f:FuncId} {w00:World} {Out:Value→World→Prop} {c:Cfg Kn}
theorem kbig (t:Tmp) (hg:Ok Tryz.prog f w00 Out (cG Tryz.prog 1000 (c.give (bl true))))
 (hc:(c.op.map fun o=>o.op,c.okT (bl true),c.ev (.tmp t),c.ev (.const (.pointer none)))=(some (.binOp .neq 61 (.tmp t) (.const (.pointer none)) 61),true,.fv (.sc (.sp csPs)),.fv (.sc (.lit (.pointer none)))):=by kernel_rfl):Ok Tryz.prog f w00 Out c :=
 qA _ (.tmp t) (.const (.pointer none)) _ _ (bl true) hc (by simp [Op.operands]) (by simp [Op.operands]) (fun ρ o β w ho hx hy=>by
  obtain ⟨a,e⟩:=hx
  injection e with e
  exact ⟨_,pne_run rfl ho e (aM hy),aX rfl⟩) hg
end
abbrev largeH:AV Kn := .tup [.ag [.lit (.int .i64 0),.lit (.int .i64 0),.lit (.int .i64 0),.lit (.string ⟨#[]⟩)],.sc (.lit (.int .i64 4))]
section
variable {n1 n2 n3 d e:Rat} {z1 z2 z3:Int}
structure Big (n1 n2 n3 d:Rat) (z1 z2 z3:Int) (e:Rat):Prop where
 l1:Lf 30 n1
 l2:Lf 30 n2
 l3:Lf 30 n3
 ld:Lf 38 d
 h0:¬ (n1=0∧n2=0∧n3=0)
 e1:bG n1 n2 n3*n1=z1
 e2:bG n1 n2 n3*n2=z2
 e3:bG n1 n2 n3*n3=z3
 ed:d*bG n1 n2 n3=e
 s:¬ (Sz z1∧Sz z2∧Sz z3)
 wr:Wr e
theorem hWriteLargeF (h:Big n1 n2 n3 d z1 z2 z3 e):jX 37 [hf n1 n2 n3 d] largeH:=by
 have g:∀ {z:Int},Sz z→decide ((999999999:Int)<(z.natAbs:Int))=false:=fun hz=>by rw [decide_eq_false_iff_not];omega
 have b:∀ {z:Int},¬ Sz z→decide ((999999999:Int)<(z.natAbs:Int))=true:=fun hz=>by rw [decide_eq_true_iff];omega
 have hR:=yV h.l1 h.l2 h.l3 h.ld h.h0
 rw [h.e1,h.e2,h.e3,h.ed] at hR
 have cw:=rD (h.wr.lf.mono (by decide)) h.wr.n h.wr.d
 by_cases s1:Sz z1
 ·by_cases s2:Sz z2
  ·have s3:¬ Sz z3:=fun s3=>h.s ⟨s1,s2,s3⟩
   by_cases m:Sm (z3:Rat)
   ·have gr:=Fits.res hR (vE (fun _ _ _=>jU (nU s1)) (fun _ _ _=>jU (nU s2)) (fun _ _ _=>jU m))
    refine jY Tryz.func37 fun w00 hI=>?_
    refine jC 103 [hf n1 n2 n3 d] (gr) ?_
    refine jW hI 59 [num e] (cw) ?_
    refine jC 104 [it z1] (magM (nU s1)) ?_
    refine jN 34 z1.natAbs 999999999 false (g s1) ?_
    refine jC 104 [it z2] (magM (nU s2)) ?_
    refine jN 34 z2.natAbs 999999999 false (g s2) ?_
    refine jC 104 [it z3] (magM m) ?_
    refine jN 34 z3.natAbs 999999999 true (b s3) ?_
    exact jR Tryz.func37
   ·have gr:=Fits.res hR (vE (fun _ _ _=>jU (nU s1)) (fun _ _ _=>jU (nU s2)) (fun _ _ _=>seg_big m))
    refine jY Tryz.func37 fun w00 hI=>?_
    refine jC 103 [hf n1 n2 n3 d] (gr) ?_
    refine jW hI 59 [num e] (cw) ?_
    refine jC 104 [it z1] (magM (nU s1)) ?_
    refine jN 34 z1.natAbs 999999999 false (g s1) ?_
    refine jC 104 [it z2] (magM (nU s2)) ?_
    refine jN 34 z2.natAbs 999999999 false (g s2) ?_
    refine kbig 29 ?_
    exact jR Tryz.func37
  ·by_cases m:Sm (z2:Rat)
   ·have gr:=Fits.res hR (vE (fun _ _ _=>jU (nU s1)) (fun _ _ _=>jU m) (fun _ _ _=>vD))
    refine jY Tryz.func37 fun w00 hI=>?_
    refine jC 103 [hf n1 n2 n3 d] (gr) ?_
    refine jW hI 59 [num e] (cw) ?_
    refine jC 104 [it z1] (magM (nU s1)) ?_
    refine jN 34 z1.natAbs 999999999 false (g s1) ?_
    refine jC 104 [it z2] (magM m) ?_
    refine jN 34 z2.natAbs 999999999 true (b s2) ?_
    exact jR Tryz.func37
   ·have gr:=Fits.res hR (vE (fun _ _ _=>jU (nU s1)) (fun _ _ _=>seg_big m) (fun _ _ _=>vD))
    refine jY Tryz.func37 fun w00 hI=>?_
    refine jC 103 [hf n1 n2 n3 d] (gr) ?_
    refine jW hI 59 [num e] (cw) ?_
    refine jC 104 [it z1] (magM (nU s1)) ?_
    refine jN 34 z1.natAbs 999999999 false (g s1) ?_
    refine kbig 29 ?_
    exact jR Tryz.func37
 ·by_cases m:Sm (z1:Rat)
  ·have gr:=Fits.res hR (vE (fun _ _ _=>jU m) (fun _ _ _=>vD) (fun _ _ _=>vD))
   refine jY Tryz.func37 fun w00 hI=>?_
   refine jC 103 [hf n1 n2 n3 d] (gr) ?_
   refine jW hI 59 [num e] (cw) ?_
   refine jC 104 [it z1] (magM m) ?_
   refine jN 34 z1.natAbs 999999999 true (b s1) ?_
   exact jR Tryz.func37
  ·have gr:=Fits.res hR (vE (fun _ _ _=>seg_big m) (fun _ _ _=>vD) (fun _ _ _=>vD))
   refine jY Tryz.func37 fun w00 hI=>?_
   refine jC 103 [hf n1 n2 n3 d] (gr) ?_
   refine jW hI 59 [num e] (cw) ?_
   refine kbig 29 ?_
   exact jR Tryz.func37
end
section
variable {a b c:Int} {s:ByteArray}
abbrev In (k x:Int):Prop := -k≤x∧x≤k
end
section
variable {a b c x y z d:Rat} {k l n:Nat}
theorem aAf (h1:Bq k a) (h2:Bq k b) (h3:Bq k c) (g1:Bq l x) (g2:Bq l y) (g3:Bq l z) (hk:2*(k+l)<10000):jF 52 [vS a b c,vS x y z] (tx (writeB (dt a b c x y z))) :=
 dotR (iW (fF (h1.zs (by omega)) (g1.zs (by omega)))) (iW (fF (h2.zs (by omega)) (g2.zs (by omega)))) (iW (nN ((h1.mul g1).zs (by omega)) ((h2.mul g2).zs (by omega))))
  (iW (fF (h3.zs (by omega)) (g3.zs (by omega)))) (iW (nN (((h1.mul g1).add (h2.mul g2)).zs (by omega)) ((h3.mul g3).zs (by omega))))
theorem squareV (h1:Bq k a) (h2:Bq k b) (h3:Bq k c) (hk:4*k<10000):jF 116 [vS a b c] (tx (writeB (dt a b c a b c))):=squareR (aAf h1 h2 h3 h1 h2 h3 (by omega))
end
theorem normalF {z1 z2 z3:Int} {s:ByteArray} (h1:rC z1) (h2:rC z2) (h3:rC z3):jF 47 [hL z1 z2 z3 s] (vS z1 z2 z3):=by
 refine jG Tryz.func47 fun w00=>?_
 refine jC 65 [it z1,it z2,it z3] (intsF h1 h2 h3) ?_
 exact jR Tryz.func47
theorem vF {z:Int} {k:Nat} (h:z.natAbs<10^k) (hk:0<k):Bq k (z:Rat):=by
 refine ⟨by rw [Rat.num_intCast];exact h,?_⟩
 rw [Rat.den_intCast]
 have:=Nat.pow_le_pow_right (n:=10) (by omega) hk
 omega
theorem chkB {k:Nat} {q:Rat} (h:Bq k q) (hk:k≤600):jF 45 [tx (writeB q)] (it 0):=chkF (h.wr hk).n (h.wr hk).d
section
variable {a1 a2 a3 b1 b2 b3 c1 c2 c3 m1 m2 m3:Rat} {z1 z2 z3:Int}
theorem lcm_lt {x y i j:Nat} (hx:x<10^i) (hy:y<10^j):Nat.lcm x y<10^(i+j):=by
 unfold Nat.lcm
 refine Nat.lt_of_le_of_lt (Nat.div_le_self _ _) ?_
 rw [Nat.pow_add]
 exact Nat.mul_lt_mul'' hx hy
theorem bq_whole {k:Nat} (h1:Bq k m1) (h2:Bq k m2) (h3:Bq k m3) {L G:Nat} (hG0:0<G) (hw:bG m1 m2 m3=mkRat L G) (hL:L=Nat.lcm m3.den (Nat.lcm m2.den (Nat.lcm m1.den 1))) (g1:G ∣ m1.num.natAbs) (g2:G ∣ m2.num.natAbs) (g3:G ∣ m3.num.natAbs) (h0:¬ (m1=0∧m2=0∧m3=0)):Bq (3*k+1) (bG m1 m2 m3):=by
 have hl:L<10^(3*k+1):=by
  rw [hL,show 3*k+1=k+(k+(k+1)) by omega]
  exact lcm_lt h3.2 (lcm_lt h2.2 (lcm_lt h1.2 (by decide)))
 have le:∀ {q:Rat},Bq k q→G ∣ q.num.natAbs→q≠0→G<10^k:=fun {q} h g hq=>by
  have h0:q.num≠0:=pV hq
  exact Nat.lt_of_le_of_lt (Nat.le_of_dvd (by omega) g) h.1
 have hg:G<10^k:=by
  by_cases n1:m1=0
  ·by_cases n2:m2=0
   ·exact le h3 g3 fun n3=>h0 ⟨n1,n2,n3⟩
   ·exact le h2 g2 n2
  ·exact le h1 g1 n1
 have hg' : G<10^(3*k+1):=Nat.lt_of_lt_of_le hg (Nat.pow_le_pow_right (by omega) (by omega))
 obtain ⟨e1,e2⟩:=dG (L:Int) (d:=G) (by omega)
 rw [hw]
 exact ⟨by omega,by omega⟩
structure Thr (a1 a2 a3 b1 b2 b3 c1 c2 c3:Rat) (z1 z2 z3:Int) (e:Rat):Prop where
 e1:bG ((b2-a2)*(c3-a3)-(b3-a3)*(c2-a2)) ((b3-a3)*(c1-a1)-(b1-a1)*(c3-a3)) ((b1-a1)*(c2-a2)-(b2-a2)*(c1-a1))*((b2-a2)*(c3-a3)-(b3-a3)*(c2-a2))=z1
 e2:bG ((b2-a2)*(c3-a3)-(b3-a3)*(c2-a2)) ((b3-a3)*(c1-a1)-(b1-a1)*(c3-a3)) ((b1-a1)*(c2-a2)-(b2-a2)*(c1-a1))*((b3-a3)*(c1-a1)-(b1-a1)*(c3-a3))=z2
 e3:bG ((b2-a2)*(c3-a3)-(b3-a3)*(c2-a2)) ((b3-a3)*(c1-a1)-(b1-a1)*(c3-a3)) ((b1-a1)*(c2-a2)-(b2-a2)*(c1-a1))*((b1-a1)*(c2-a2)-(b2-a2)*(c1-a1))=z3
 ed:e=dt z1 z2 z3 a1 a2 a3
 h0:¬ (z1=0∧z2=0∧z3=0)
 s1:Sz z1
 s2:Sz z2
 s3:Sz z3
 g:Int.gcd (Int.gcd z1 z2:Int) z3=1
 b:Bq 300 e
 w:jX 18 [vS a1 a2 a3,vS b1 b2 b3,vS c1 c2 c3] (rX z1 z2 z3 e)
end
end Ab
namespace Ab
open Go.RowKit
section
variable {Kc:Value→Bool} {P:Program} {f:FuncId} {w00:World} {Out:Value→World→Prop}
theorem put_put (a:Act) (d:Tmp) (u v:Value):(a.put (some d) u).put (some d) v=a.put (some d) v:=by
 simp [Act.put]
theorem good_own {ops:Array Oper} {o:Oper} {rest:List Oper} {k:List Item} {st:St Kc} {n:Nat} {T:TypeId} {l:List (Seg Kc)} {d:Tmp} (ho:opA P (evL st.slot) (st.blocks.map some) o = .nsl n T l) (hd:o.dst=some d) (hw:qG st.slot ops o=some true)
 (hg:iN P f w00 Out (.plain ops rest k { st with slots:=st.slots.set d (.fv (.sc (.slc st.blocks.length 0 n n))),blocks:=st.blocks ++ [(T,l)] })):iN P f w00 Out (.plain ops (o::rest) k st):=by
 intro β a w hR
 refine iG (hR.wants hw) ?_
 have hs:∀ y∈o.op.operands,(evL st.slot y).holds β (a.eval y) w:=fun y _=>hR.ev y
 unfold Oper.wp
 obtain ⟨cs,e,hl⟩:=opA_nsl ho hs
 rw [e]
 simp only [Oper.upon,hd]
 have h1:=hR.new (d:=d) (T:=T) hl
 have hnew:(β ++ [w.heap.size])[st.blocks.length]?=some w.heap.size:=by rw [← hR.len];simp
 have h2:=h1.put (dst:=some d) (x := .fv (.sc (.slc st.blocks.length 0 n n))) (v := .slice (some ⟨w.heap.size,0,none⟩) n n) ⟨w.heap.size,hnew,rfl⟩
 rw [put_put] at h2
 simp only [St.put,setS,List.set_set] at h2
 exact hg _ _ _ h2
def Cfg.own (P:Program) (c:Cfg Kc):Option (Cfg Kc):=match c with
 | .plain ops (o::rest) k st=>match opA P (evL st.slot) (st.blocks.map some) o,o.dst with
   | .nsl n T l,some d=>if qG st.slot ops o=some true then some (.plain ops rest k { st with slots:=st.slots.set d (.fv (.sc (.slc st.blocks.length 0 n n))),blocks:=st.blocks ++ [(T,l)] }) else none
   | _,_=>none
 | _=>none
theorem Ok.own {c c' : Cfg Kc} (h:c.own P=some c') (hg:Ok P f w00 Out c'):Ok P f w00 Out c:=by
 unfold Cfg.own at h
 split at h
 ·split at h
  ·rename_i ho hd
   split at h
   ·rename_i hw
    injection h with h
    subst h
    exact ⟨good_own ho hd hw hg.good⟩
   ·cases h
  ·cases h
 ·cases h
end
theorem kgoN {f:FuncId} {fn:Func} {args:List (AV Kn)} {x:AV Kn} (n:Nat) (hfn:Tryz.prog.funcs[f]?=some fn) (hc:(fn.body.isSome,decide (args.length≤fn.ntmps),x.noPtr,args.all AV.noPtr)=(true,true,true,true))
 (h:∀ w00,Ok Tryz.prog f w00 (fun v w=>x.holds [] v w) (cG Tryz.prog n (oP fn args))):jF f args x:=by
 simp only [Prod.mk.injEq] at hc
 exact fits_go hfn hc.1 hc.2.1 hc.2.2.1 hc.2.2.2 fun w00=>Ok.go (by kernel_rfl) lU n (h w00)
section
variable {f:FuncId} {w00:World} {Out:Value→World→Prop} {c:Cfg Kn}
theorem kown (h:(c.own Tryz.prog).isSome=true) (hg:Ok Tryz.prog f w00 Out (cG Tryz.prog 1000 ((c.own Tryz.prog).getD c))):Ok Tryz.prog f w00 Out c:=by
 obtain ⟨c',hc⟩:=Option.isSome_iff_exists.1 h
 rw [hc] at hg
 exact Ok.own hc (Ok.go (by kernel_rfl) lU 1000 hg)
end
end Ab
namespace Ab
open Go.RowKit Pl
section
variable {o1 o2 o3 x1 x2 x3 y1 y2 y3 z1 z2 z3:Rat}
theorem isZeroT {s:ByteArray} {r:Bool} (h:(s.toList==(⟨#[48]⟩:ByteArray).toList)=r):jF 109 [tx s] (bl r):=by
 refine jG Tryz.func109 fun w00=>?_
 refine jK (.binOp .eql 22 (.tmp 3) (.const (.string ⟨#[48]⟩)) 22) (.tmp 3) (.const (.string ⟨#[48]⟩)) (tx s) (lt ⟨#[48]⟩) (bl r) (fun ρ o β w ho hx hy=>⟨_,sQ ho (aO hx) (aM hy) h,aX rfl⟩) ?_
 exact jR Tryz.func109
theorem isOriginT {a b c:ByteArray} {r:Bool} (h:(a.toList==(⟨#[48]⟩:ByteArray).toList&&b.toList==(⟨#[48]⟩:ByteArray).toList&&c.toList==(⟨#[48]⟩:ByteArray).toList)=r):jF 42 [t3 a b c] (bl r):=by
 refine jG Tryz.func42 fun w00=>?_
 refine jC 108 [] (originF) ?_
 refine jK (.binOp .eql 24 (.tmp 3) (.tmp 4) 24) (.tmp 3) (.tmp 4) (t3 a b c) (.fv (.ag [.lit (.string ⟨#[48]⟩),.lit (.string ⟨#[48]⟩),.lit (.string ⟨#[48]⟩)])) (bl r) (fun ρ o β w ho hx hy=>⟨_,agg_eq (by kernel_rfl) (h▸equalT a b c _ _ _ w) ho (s3_is hx) (l3_is hy),aX rfl⟩) ?_
 exact jR Tryz.func42
theorem crossR {a b c d e f p1 p2 p3 p4 p5 p6 r1 r2 r3:ByteArray} (h1:jF 119 [tx b,tx f] (tx p1)) (h2:jF 119 [tx c,tx e] (tx p2)) (h3:jF 53 [tx p1,tx p2] (tx r1)) (h4:jF 119 [tx c,tx d] (tx p3)) (h5:jF 119 [tx a,tx f] (tx p4)) (h6:jF 53 [tx p3,tx p4] (tx r2))
 (h7:jF 119 [tx a,tx e] (tx p5)) (h8:jF 119 [tx b,tx d] (tx p6)) (h9:jF 53 [tx p5,tx p6] (tx r3)):jF 169 [t3 a b c,t3 d e f] (t3 r1 r2 r3):=by
 refine jG Tryz.func169 fun w00=>?_
 refine jC 119 [tx b,tx f] (h1) ?_
 refine jC 119 [tx c,tx e] (h2) ?_
 refine jC 53 [tx p1,tx p2] (h3) ?_
 refine jC 119 [tx c,tx d] (h4) ?_
 refine jC 119 [tx a,tx f] (h5) ?_
 refine jC 53 [tx p3,tx p4] (h6) ?_
 refine jC 119 [tx a,tx e] (h7) ?_
 refine jC 119 [tx b,tx d] (h8) ?_
 refine jC 53 [tx p5,tx p6] (h9) ?_
 exact jR Tryz.func169
variable {k l:Nat}
theorem crossV {a b c x y z:Rat} (h1:Bq k a) (h2:Bq k b) (h3:Bq k c) (g1:Bq l x) (g2:Bq l y) (g3:Bq l z) (hk:k+l≤10000):jF 169 [vS a b c,vS x y z] (vS (b*z-c*y) (c*x-a*z) (a*y-b*x)) :=
 have m:∀ {p q:Rat},Bq k p→Bq l q→jF 119 [tx (writeB p),tx (writeB q)] (tx (writeB (p*q))):=fun hp hq=>iW (fF (hp.zs (by omega)) (hq.zs (by omega)))
 have s:∀ {p q r t:Rat},Bq k p→Bq l q→Bq k r→Bq l t→jF 53 [tx (writeB (p*q)),tx (writeB (r*t))] (tx (writeB (p*q-r*t))):=fun hp hq hr ht=>iW (subR ((hp.mul hq).zs (by omega)) ((hr.mul ht).zs (by omega)))
 crossR (m h2 g3) (m h3 g2) (s h2 g3 h3 g2) (m h3 g1) (m h1 g3) (s h3 g1 h1 g3) (m h1 g2) (m h2 g1) (s h1 g2 h2 g1)
theorem detR {a b c d e f g h i p q r v:ByteArray} (h1:jF 169 [t3 d e f,t3 g h i] (t3 p q r)) (h2:jF 52 [t3 a b c,t3 p q r] (tx v)):jF 111 [t3 a b c,t3 d e f,t3 g h i] (tx v):=by
 refine jG Tryz.func111 fun w00=>?_
 refine jC 169 [t3 d e f,t3 g h i] (h1) ?_
 refine jC 52 [t3 a b c,t3 p q r] (h2) ?_
 exact jR Tryz.func111
abbrev fr12 (o1 o2 o3 x1 x2 x3 y1 y2 y3 z1 z2 z3:ByteArray):AV Kn := .fv (.ag [cH o1,cH o2,cH o3,cH x1,cH x2,cH x3,cH y1,cH y2,cH y3,cH z1,cH z2,cH z3])
theorem stretchR {o1 o2 o3 x1 x2 x3 y1 y2 y3 z1 z2 z3 p q r:ByteArray} (h1:jF 116 [t3 x1 x2 x3] (tx p)) (h2:jF 116 [t3 y1 y2 y3] (tx q)) (h3:jF 116 [t3 z1 z2 z3] (tx r)):jF 46 [fr12 o1 o2 o3 x1 x2 x3 y1 y2 y3 z1 z2 z3] (t3 p q r):=by
 refine jG Tryz.func46 fun w00=>?_
 refine jC 116 [t3 x1 x2 x3] (h1) ?_
 refine jC 116 [t3 y1 y2 y3] (h2) ?_
 refine jC 116 [t3 z1 z2 z3] (h3) ?_
 exact jR Tryz.func46
end
abbrev e0:Seg Kn := .lit (.string ⟨#[]⟩)
abbrev Tx:=Nat→ByteArray
abbrev m3:ByteArray:=⟨#[45,51]⟩
theorem equalZd (d:Nat) (a b c x y z:Int) (w:World):(Op.equalIn (d+2) 27 (.agg #[.int .i64 a,.int .i64 b,.int .i64 c]) (.agg #[.int .i64 x,.int .i64 y,.int .i64 z])).run Tryz.prog w = .ok (a==x&&b==y&&c==z) w :=
 equal3 (d+1) (e:=3) (by kernel_rfl) (by kernel_rfl) (fun w=>by kernel_rfl) (fun w=>by kernel_rfl) (fun w=>run_equalIn_int w _ _ _ .i64 _ _ (by kernel_rfl)) (fun w=>run_equalIn_int w _ _ _ .i64 _ _ (by kernel_rfl)) (fun w=>run_equalIn_int w _ _ _ .i64 _ _ (by kernel_rfl)) w
theorem equalHf (a b c:Int) (s:ByteArray) (w:World):(Op.equal 29 (.agg #[.int .i64 a,.int .i64 b,.int .i64 c,.string s]) (.agg #[.int .i64 a,.int .i64 b,.int .i64 c,.string s])).run Tryz.prog w = .ok true w:=by
 have u:=Tryz.isAgg27
 have z:=Tryz.sizeOf27
 have u2:=Tryz.isAgg22
 have z2:=Tryz.sizeOf22
 have k:=fun (w:World)=>equalZd 9997 a b c a b c w
 have k2:=fun (w:World)=>run_equalIn_string (P:=Tryz.prog) w 9998 22 s s (by kernel_rfl)
 simp only [beq_self_eq_true,Bool.and_self] at k k2
 unfold Op.equal Op.maxDepth
 rw [show (10000:Nat)=9999+1 from rfl,run_equalIn_struct w 9999 _ _ _ (by kernel_rfl) (by kernel_rfl)]
 simp only [Program.fieldsOf,Tryz.underlying29]
 simp [go_sem,u,z,u2,z2,Op.eqFields,k,k2]
theorem hL_is {a b c:Int} {s:ByteArray} {β:List Nat} {v:Value} {w:World} (h:(hL a b c s).holds β v w):v = .agg #[.int .i64 a,.int .i64 b,.int .i64 c,.string s]:=by
 obtain ⟨cs,rfl,x1,r1,rfl,h1,x2,r2,rfl,h2,x3,r3,rfl,h3,x4,r4,rfl,h4,e⟩:=h
 rw [show r4 = [] from e,h1.1,h2.1,h3.1,show x4=_ from h4]
 rfl
theorem hv_of {z1 z2 z3:Int} {d:Rat} (h0:¬ (z1=0∧z2=0∧z3=0)) (h1:¬ Bg z1) (h2:¬ Bg z2) (h3:¬ Bg z3) (hg:Int.gcd (Int.gcd z1 z2:Int) z3=1) (hd:Wr d):Hv z1 z2 z3 d :=
 ⟨by unfold Bg at h1;omega,by unfold Bg at h2;omega,by unfold Bg at h3;omega,hd,checkNormalF h0 h1 h2 h3 hg⟩
structure On (x1 x2 x3 y1 y2 y3 z1 z2 z3:Rat):Prop where
 xx:dt x1 x2 x3 x1 x2 x3=1
 yy:dt y1 y2 y3 y1 y2 y3=1
 zz:dt z1 z2 z3 z1 z2 z3=1
 xy:dt x1 x2 x3 y1 y2 y3=0
 yz:dt y1 y2 y3 z1 z2 z3=0
 zx:dt z1 z2 z3 x1 x2 x3=0
 c1:y2*z3-y3*z2=x1
 c2:y3*z1-y1*z3=x2
 c3:y1*z2-y2*z1=x3
structure Rt (x1 x2 x3 y1 y2 y3 z1 z2 z3:Rat):Prop extends On x1 x2 x3 y1 y2 y3 z1 z2 z3 where
 d1:z2*x3-z3*x2=y1
 d2:z3*x1-z1*x3=y2
 d3:z1*x2-z2*x1=y3
 f1:x2*y3-x3*y2=z1
 f2:x3*y1-x1*y3=z2
 f3:x1*y2-x2*y1=z3
section
variable {x1 x2 x3 y1 y2 y3 z1 z2 z3 u1 u2 u3 v1 v2 v3 w1 w2 w3:Rat}
theorem Rt.dot (h:Rt x1 x2 x3 y1 y2 y3 z1 z2 z3):dt (ld u1 u2 u3 x1 y1 z1) (ld u1 u2 u3 x2 y2 z2) (ld u1 u2 u3 x3 y3 z3) (ld v1 v2 v3 x1 y1 z1) (ld v1 v2 v3 x2 y2 z2) (ld v1 v2 v3 x3 y3 z3)=dt u1 u2 u3 v1 v2 v3:=by
 have e:dt (ld u1 u2 u3 x1 y1 z1) (ld u1 u2 u3 x2 y2 z2) (ld u1 u2 u3 x3 y3 z3) (ld v1 v2 v3 x1 y1 z1) (ld v1 v2 v3 x2 y2 z2) (ld v1 v2 v3 x3 y3 z3) =
  u1*v1*dt x1 x2 x3 x1 x2 x3+u2*v2*dt y1 y2 y3 y1 y2 y3+u3*v3*dt z1 z2 z3 z1 z2 z3+(u1*v2+u2*v1)*dt x1 x2 x3 y1 y2 y3+(u2*v3+u3*v2)*dt y1 y2 y3 z1 z2 z3+(u3*v1+u1*v3)*dt z1 z2 z3 x1 x2 x3:=by clear h;unfold dt ld;grind
 rw [e,h.xx,h.yy,h.zz,h.xy,h.yz,h.zx]
 unfold dt
 grind
theorem zL (a2 a3 b2 b3 c2 c3:Rat):ld u1 u2 u3 a2 b2 c2*ld v1 v2 v3 a3 b3 c3-ld u1 u2 u3 a3 b3 c3*ld v1 v2 v3 a2 b2 c2=ld (u2*v3-u3*v2) (u3*v1-u1*v3) (u1*v2-u2*v1) (b2*c3-b3*c2) (c2*a3-c3*a2) (a2*b3-a3*b2):=by
 unfold ld
 grind
theorem On.mul (h:Rt x1 x2 x3 y1 y2 y3 z1 z2 z3) (k:On u1 u2 u3 v1 v2 v3 w1 w2 w3):On (ld u1 u2 u3 x1 y1 z1) (ld u1 u2 u3 x2 y2 z2) (ld u1 u2 u3 x3 y3 z3) (ld v1 v2 v3 x1 y1 z1) (ld v1 v2 v3 x2 y2 z2) (ld v1 v2 v3 x3 y3 z3) (ld w1 w2 w3 x1 y1 z1) (ld w1 w2 w3 x2 y2 z2) (ld w1 w2 w3 x3 y3 z3) :=
 ⟨h.dot.trans k.xx,h.dot.trans k.yy,h.dot.trans k.zz,h.dot.trans k.xy,h.dot.trans k.yz,h.dot.trans k.zx,
  by rw [zL,k.c1,k.c2,k.c3,h.c1,h.d1,h.f1],by rw [zL,k.c1,k.c2,k.c3,h.c2,h.d2,h.f2],by rw [zL,k.c1,k.c2,k.c3,h.c3,h.d3,h.f3]⟩
theorem On.sgn (h:On x1 x2 x3 y1 y2 y3 z1 z2 z3):dt x1 x2 x3 (y2*z3-y3*z2) (y3*z1-y1*z3) (y1*z2-y2*z1)=1:=by
 rw [h.c1,h.c2,h.c3];exact h.xx
end
theorem kn_L {f:FuncId} {s:ByteArray} {z:Int} (h:jF f [rS s] (.fv (.sc (.lit (.int .i64 z))))):jF f [tx s] (it z):=by
 intro β w vs hv
 obtain ⟨v,rfl,h1⟩:=dC hv
 rw [aO h1]
 exact (h β w [.string s] ⟨_,_,rfl,cD,rfl⟩).mono fun e w' ⟨v,e1,e2,e3⟩=>⟨v,e1,e2,by rw [bT e3];exact aX rfl⟩
structure Bn (k:Nat) (x1 x2 x3 y1 y2 y3 z1 z2 z3:Rat):Prop where
 x1:Bq k x1
 x2:Bq k x2
 x3:Bq k x3
 y1:Bq k y1
 y2:Bq k y2
 y3:Bq k y3
 z1:Bq k z1
 z2:Bq k z2
 z3:Bq k z3
section
variable {x1 x2 x3 y1 y2 y3 z1 z2 z3 u1 u2 u3 v1 v2 v3 w1 w2 w3 p1 p2 p3 m1 m2 m3:Rat} {k:Nat}
theorem Bn.wf (h:Bn k x1 x2 x3 y1 y2 y3 z1 z2 z3) (hk:k≤600):Wf ((0:Int):Rat) ((0:Int):Rat) ((0:Int):Rat) x1 x2 x3 y1 y2 y3 z1 z2 z3 :=
 have b0:Wr ((0:Int):Rat):=(vF (k:=1) (by decide) (by omega)).wr (by omega)
 ⟨⟨b0,b0,b0⟩,⟨h.x1.wr hk,h.x2.wr hk,h.x3.wr hk⟩,⟨h.y1.wr hk,h.y2.wr hk,h.y3.wr hk⟩,⟨h.z1.wr hk,h.z2.wr hk,h.z3.wr hk⟩⟩
theorem zero_no {a b c:Rat} (h:dt a b c a b c=1) (h1:a=0) (h2:b=0) (h3:c=0):False:=by
 have e:dt a b c a b c=0:=by rw [h1,h2,h3];unfold dt;grind
 rw [e] at h
 exact absurd h (by decide)
theorem one_ne {a b c:Rat} (h:dt a b c a b c=1):(decide (a=0)&&decide (b=0)&&decide (c=0))=false:=dec_and fun ⟨h1,h2,h3⟩=>zero_no h h1 h2 h3
theorem On.fv (h:On x1 x2 x3 y1 y2 y3 z1 z2 z3) (b:Bn k x1 x2 x3 y1 y2 y3 z1 z2 z3) (hk:k≤600):Fv ((0:Int):Rat) ((0:Int):Rat) ((0:Int):Rat) x1 x2 x3 y1 y2 y3 z1 z2 z3 :=
 Fr.fv_of (b.wf hk) ⟨one_ne h.xx,one_ne h.yy,one_ne h.zz,h.xy,h.yz,h.zx,by rw [h.sgn];rfl⟩
end
theorem t0_eq {q:Rat} (h:q=0):((writeB q).toList==(⟨#[48]⟩:ByteArray).toList)=true:=by
 have e:writeB q=⟨#[48]⟩:=by rw [h];exact w0
 rw [e]
 exact beq_self_eq_true _
theorem t0_ne {q:Rat} (h:q≠0):((writeB q).toList==(⟨#[48]⟩:ByteArray).toList)=false:=dW (lC (pV h))
theorem gcd_neg3 (z1 z2 z3:Int):Int.gcd (Int.gcd (-z1) (-z2):Int) (-z3)=Int.gcd (Int.gcd z1 z2:Int) z3:=by
 rw [Int.neg_gcd,Int.gcd_neg,Int.gcd_neg]
section
variable {a1 a2 a3 b1 b2 b3 c1 c2 c3 d1 d2 d3:Rat} {z1 z2 z3 i1 i2 i3 j1 j2 j3:Int} {e u v:Rat}
theorem Thr.hv (h:Thr a1 a2 a3 b1 b2 b3 c1 c2 c3 z1 z2 z3 e):Hv z1 z2 z3 e:=by
 have h1:=h.s1
 have h2:=h.s2
 have h3:=h.s3
 exact hv_of h.h0 (by unfold Bg;omega) (by unfold Bg;omega) (by unfold Bg;omega) h.g (h.b.wr (by omega))
theorem Thr.op (h:Thr a1 a2 a3 b1 b2 b3 c1 c2 c3 z1 z2 z3 e):Hv (-z1) (-z2) (-z3) (-e):=by
 have h1:=h.s1
 have h2:=h.s2
 have h3:=h.s3
 exact hv_of (fun ⟨a,b,c⟩=>h.h0 ⟨by omega,by omega,by omega⟩) (by unfold Bg;omega) (by unfold Bg;omega) (by unfold Bg;omega) (by rw [gcd_neg3];exact h.g) (h.b.neg.wr (by omega))
end
open Classical in
theorem t0_dec (q:Rat):((writeB q).toList==(⟨#[48]⟩:ByteArray).toList)=decide (q=0):=by
 by_cases h:q=0
 ·rw [decide_eq_true h,t0_eq h]
 ·rw [decide_eq_false h,t0_ne h]
theorem xE (q:Rat):jF 109 [tx (writeB q)] (bl (decide (q=0))):=isZeroT (t0_dec q)
theorem signQ (q:Rat):jF 110 [tx (writeB q)] (it (nD q)):=by
 unfold nD bU
 by_cases h:q.num<0
 ·rw [if_pos h];exact kn_L (signFn h)
 ·rw [if_neg h]
  by_cases h' : 0<q.num
  ·rw [if_pos h'];exact kn_L (signFp h')
  ·rw [if_neg h'];exact kn_L (signF0 (by omega))
section
variable {o1 o2 o3 x1 x2 x3 y1 y2 y3 z1 z2 z3 p q r v:ByteArray} {b1 b2 b3 b4 i1 i2 i3:Bool} {s z n:Int}
theorem shapeZ (h1:jF 52 [t3 x1 x2 x3,t3 y1 y2 y3] (tx p)) (j1:jF 109 [tx p] (bl i1)) (h2:jF 52 [t3 y1 y2 y3,t3 z1 z2 z3] (tx q)) (j2:jF 109 [tx q] (bl i2)) (h3:jF 52 [t3 z1 z2 z3,t3 x1 x2 x3] (tx r)) (j3:jF 109 [tx r] (bl i3))
 (h4:jF 111 [t3 x1 x2 x3,t3 y1 y2 y3,t3 z1 z2 z3] (tx v)) (h5:jF 110 [tx v] (it s)) (hs:s=1∨s=0∨s = -1) (hz:z=if (i1&&i2&&i3&&s==1)=true then 0 else 15):jF 43 [fr12 o1 o2 o3 x1 x2 x3 y1 y2 y3 z1 z2 z3] (it z):=by
 refine jG Tryz.func43 fun w00=>?_
 refine jC 52 [t3 x1 x2 x3,t3 y1 y2 y3] (h1) ?_
 cases i1
 ·obtain rfl:z=15:=hz
  refine jC 109 [tx p] (j1) ?_
  exact jR Tryz.func43
 refine jC 109 [tx p] (j1) ?_
 refine jC 52 [t3 y1 y2 y3,t3 z1 z2 z3] (h2) ?_
 cases i2
 ·obtain rfl:z=15:=hz
  refine jC 109 [tx q] (j2) ?_
  exact jR Tryz.func43
 refine jC 109 [tx q] (j2) ?_
 refine jC 52 [t3 z1 z2 z3,t3 x1 x2 x3] (h3) ?_
 cases i3
 ·obtain rfl:z=15:=hz
  refine jC 109 [tx r] (j3) ?_
  exact jR Tryz.func43
 refine jC 109 [tx r] (j3) ?_
 refine jC 111 [t3 x1 x2 x3,t3 y1 y2 y3,t3 z1 z2 z3] (h4) ?_
 rcases hs with rfl|rfl|rfl
 ·obtain rfl:z=0:=hz
  refine jC 110 [tx v] (h5) ?_
  exact jR Tryz.func43
 ·obtain rfl:z=15:=hz
  refine jC 110 [tx v] (h5) ?_
  exact jR Tryz.func43
 ·obtain rfl:z=15:=hz
  refine jC 110 [tx v] (h5) ?_
  exact jR Tryz.func43
theorem checkFrameZ (h1:jF 41 [t3 o1 o2 o3] (it 0)) (h2:jF 41 [t3 x1 x2 x3] (it 0)) (h3:jF 41 [t3 y1 y2 y3] (it 0)) (h4:jF 41 [t3 z1 z2 z3] (it 0))
 (j1:jF 42 [t3 x1 x2 x3] (bl i1)) (j2:jF 42 [t3 y1 y2 y3] (bl i2)) (j3:jF 42 [t3 z1 z2 z3] (bl i3)) (h5:jF 43 [fr12 o1 o2 o3 x1 x2 x3 y1 y2 y3 z1 z2 z3] (it s)) (hz:z=if (i1 || i2 || i3)=true then 6 else s) :
 jF 9 [fr12 o1 o2 o3 x1 x2 x3 y1 y2 y3 z1 z2 z3] (it z):=by
 refine kgoN 15 Tryz.func9 (by kernel_rfl) fun w00=>?_
 refine kown (by kernel_rfl) ?_
 refine jC 41 [t3 o1 o2 o3] (h1) ?_
 refine jC 41 [t3 x1 x2 x3] (h2) ?_
 refine jC 41 [t3 y1 y2 y3] (h3) ?_
 refine jC 41 [t3 z1 z2 z3] (h4) ?_
 cases i1
 ·refine jC 42 [t3 x1 x2 x3] (j1) ?_
  cases i2
  ·refine jC 42 [t3 y1 y2 y3] (j2) ?_
   cases i3
   ·obtain rfl:z=s:=hz
    refine jC 42 [t3 z1 z2 z3] (j3) ?_
    refine jC 43 [fr12 o1 o2 o3 x1 x2 x3 y1 y2 y3 z1 z2 z3] (h5) ?_
    exact jR Tryz.func9
   ·obtain rfl:z=6:=hz
    refine jC 42 [t3 z1 z2 z3] (j3) ?_
    exact jR Tryz.func9
  ·obtain rfl:z=6:=hz
   refine jC 42 [t3 y1 y2 y3] (j2) ?_
   exact jR Tryz.func9
 ·obtain rfl:z=6:=hz
  refine jC 42 [t3 x1 x2 x3] (j1) ?_
  exact jR Tryz.func9
end
structure Gd (x1 x2 x3 y1 y2 y3 z1 z2 z3:Rat):Prop where
 xy:dt x1 x2 x3 y1 y2 y3=0
 yz:dt y1 y2 y3 z1 z2 z3=0
 zx:dt z1 z2 z3 x1 x2 x3=0
 det:0<(dt x1 x2 x3 (y2*z3-y3*z2) (y3*z1-y1*z3) (y1*z2-y2*z1)).num
section
variable {o1 o2 o3 x1 x2 x3 y1 y2 y3 z1 z2 z3:Rat} {k:Nat}
theorem pX (a b c:Rat):jF 42 [vS a b c] (bl (decide (a=0)&&decide (b=0)&&decide (c=0))):=isOriginT (by rw [t0_dec,t0_dec,t0_dec])
end
end Ab
end Go.Proofs.YtklnecajplnboaaGreatDoor
