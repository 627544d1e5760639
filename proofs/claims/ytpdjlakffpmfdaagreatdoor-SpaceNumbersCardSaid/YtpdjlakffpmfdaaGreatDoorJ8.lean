/- Parts of the proof, joined. -/
import Derived.Test.YtpdjlakffpmfdaaGreatDoorJ7
import Derived.Test.YtpdjlakffpmfdaaGreatDoorJ6
import Derived.RangeFuncNested
import Derived.RangeFuncBound
import Derived.RangeFuncCalls
import Derived.RangeFuncLeaves
import Derived.Shelf.Abstract
import Derived.Shelf.RegionOpen
import Derived.WalkKit
import Derived.OwnWalkIn
import Derived.TacticsInMore
import Derived.LoopNIn
import Derived.LoopIn
import Derived.KernelRfl
import Derived.Test.YtpdjlakffpmfdaaGreatDoorProg
import Derived.Laws.Tables
import Derived.Laws.CopyOwn
import Derived.Test.YtpdjlakffpmfdaaGreatDoorJ1
import Derived.Laws.StructEq
import Derived.Test.YtpdjlakffpmfdaaGreatDoorJ5
set_option maxHeartbeats 4000000
set_option linter.unusedSimpArgs false
set_option linter.unusedVariables false
set_option linter.constructorNameAsVariable false
namespace Go.Proofs.YtpdjlakffpmfdaaGreatDoor
section
open Go.RowKit Pl
def dig (c:Nat):Bool:=decide (48≤c)&&decide (c≤57)
theorem digitsB_all {s:ByteArray} (h:∀ (j:Nat) (hj:j<s.size),dig (s[j]'hj).toNat=true):dO s=true:=by
 unfold dO
 rw [List.all_eq_true]
 intro c hc
 obtain ⟨j,hj,e⟩:=List.mem_iff_getElem.1 hc
 have hj2:j<s.size:=by rw [← aF];exact hj
 have h1:=cI hj2
 rw [List.getElem?_eq_getElem hj,e] at h1
 injection h1 with h1
 rw [h1]
 exact h j hj2
theorem dig_bad {c:Nat} (h:dig c=false):c<48∨57<c:=by
 simp only [dig,Bool.and_eq_false_iff,decide_eq_false_iff_not] at h
 omega
set_option maxRecDepth 100000 in
theorem aAs (s:ByteArray) (w:World):Calls Tryz.prog 147 #[.string s] w fun e w'=>e = .returned (.bool (dO s&&decide (s.size≠0)))∧Below w.heap.size w w':=by
 have hne:(!(s.toList==(⟨#[]⟩:ByteArray).toList))=decide (s.size≠0):=by
  rw [Go.ByteArray.toList_eq,Go.ByteArray.toList_eq]
  have hl:=aF s
  unfold aC at hl
  cases hb:s.data.toList with
  | nil=>rw [hb] at hl;simp at hl;simp [← hl]
  | cons c l =>
    rw [hb] at hl
    simp at hl
    have:s.size≠0:=by omega
    simp [this]
 go_enter Tryz.func147,Tryz.ntmps147
 go_wp2
 go_loopw [4] (fun _ wr => ∃ pos:Nat,wr=w.iter s pos∧pos≤s.size∧∀ (j:Nat) (hj:j<s.size),j<pos→dig (s[j]'hj).toNat=true) (fun _ wr=>s.size-wr.iterPos w.heap.size)
 case atStart=>exact ⟨0,rfl,Nat.zero_le _,fun j _ h=>absurd h (Nat.not_lt_zero _)⟩
 case round =>
  obtain ⟨pos,rfl,hpos,hok⟩:=hrel
  by_cases hp:pos<s.size
  ·obtain ⟨c,k,hdc,hk,hgood⟩:∃ c k,Utf8.decode s pos=(c,k)∧1≤k∧(dig c=true→(∀ hj:pos<s.size,dig (s[pos]'hj).toNat=true)∧k=1)∧(dig c=false→∀ hj:pos<s.size,dig (s[pos]'hj).toNat=false):=by
    by_cases ha:(s[pos]'hp).toNat<128
    ·exact ⟨_,_,decode_ascii s pos hp ha,aR _,fun h=>⟨fun _=>h,rfl⟩,fun h _=>h⟩
    ·obtain ⟨h1,h2⟩:=decode_high s pos hp (by omega)
     refine ⟨(Utf8.decode s pos).1,(Utf8.decode s pos).2,rfl,h2,fun h=>?_,fun _ _=>?_⟩
     ·simp [dig] at h
      omega
     ·simp [dig]
      omega
   have hnx:∀ ty,(Instr.next (.pointer (some ⟨w.heap.size,0,none⟩)) true ty).run Tryz.prog (w.iter s pos) = .ok (.tuple #[.bool true,.int .i64 pos,.int .i32 (c:Int)]) (w.iter s (pos+k)):=fun ty=>by
    have:=run_next_any (P:=Tryz.prog) w s pos ty hp
    rw [hdc] at this
    exact this
   have HH:=aH (aI hp (aI hpos (aI hok (aI hk hgood))))
   clear hdc hp hpos hok hk hgood hne
   by_cases g1:48≤c
   ·by_cases g2:c≤57
    ·have k1:(48:Int)≤c:=by omega
     have k2:(c:Int)≤57:=by omega
     have G:=aH (show dig c=true by simp [dig,g1,g2])
     clear g1 g2
     go_wp2
     go_roundw
     case rel =>
      obtain ⟨hp,hpos,hok,hk,hg,_⟩:=HH.out
      obtain ⟨g1,rfl⟩:=hg G.out
      refine ⟨pos+1,rfl,hp,fun j hj hjp=>?_⟩
      by_cases hjj:j=pos
      ·subst hjj;exact g1 hj
      ·exact hok j hj (by omega)
     case measure =>
      have:=HH.out.1
      have:=HH.out.2.2.2.1
      simp
      omega
    ·have k1:(48:Int)≤c:=by omega
     have k2:(57:Int)<c:=by omega
     have G:=aH (show dig c=false by simp [dig];omega)
     clear g1 g2
     go_wp2
     go_ret
     obtain ⟨hp,_,_,_,_,hg⟩:=HH.out
     exact ⟨by rw [kI hp (dig_bad (hg G.out hp))];rfl,eV _ _ _⟩
   ·have k1:(c:Int)<48:=by omega
    have G:=aH (show dig c=false by simp [dig];omega)
    clear g1
    go_wp2
    go_ret
    obtain ⟨hp,_,_,_,_,hg⟩:=HH.out
    exact ⟨by rw [kI hp (dig_bad (hg G.out hp))];rfl,eV _ _ _⟩
  ·have hnx:∀ ty,(Instr.next (.pointer (some ⟨w.heap.size,0,none⟩)) true ty).run Tryz.prog (w.iter s pos)=_:=fun ty=>run_next_end w s pos ty hp
   have H2:=aH (show dO s=true from digitsB_all fun j hj=>hok j hj (by omega))
   have H3:=aH hne
   clear hok hp hpos hne
   obtain ⟨b,hb⟩:∃ b,b=(!(s.toList==(⟨#[]⟩:ByteArray).toList)):=⟨_,rfl⟩
   go_wp2
   go_ret
   refine ⟨?_,eV _ _ _⟩
   have e:=H3.out
   rw [H2.out,Bool.true_and,← e]
   simp
end
namespace Ab
open Go.RowKit Pl
theorem mZ {s:ByteArray} {b:Bool} (h:(dO s&&decide (s.size≠0))=b):jF 147 [tx s] (bl b):=by
 intro β w vs hv
 obtain ⟨v,rfl,h1⟩:=dB hv
 rw [aU h1]
 exact (aAs s w).mono fun e w' ⟨e1,e2⟩=>⟨_,e1,e2,by rw [h];exact bK rfl⟩
theorem bI {s:ByteArray} {b:Bool} (h:decF s=b):jF 113 [tx s] (bl b):=by
 by_cases h0:(dO s&&decide (s.size≠0))=false
 ·have:b=false:=by
   rw [← h]
   unfold decF
   split
   ·rfl
   ·rename_i hz
    split
    ·rfl
    ·rw [decide_eq_true hz,Bool.and_true] at h0
     exact h0
  subst this
  refine jG Tryz.func113 fun w00=>?_
  refine jC 147 [tx s] (mZ h0) ?_
  exact jR Tryz.func113
 rw [Bool.not_eq_false] at h0
 obtain ⟨h1,h2⟩:=Bool.and_eq_true_iff.1 h0
 have h2:s.size≠0:=of_decide_eq_true h2
 have hp:0<s.size:=by omega
 obtain ⟨c,hc⟩:∃ c,s[0]?=some c:=⟨_,getElem?_pos s 0 hp⟩
 have hh:(aC s).head?=some c:=by
  rw [List.head?_eq_getElem?,cI hp,← hc,getElem?_pos s 0 hp]
 unfold decF at h
 rw [if_neg h2,hh,h1] at h
 by_cases e:c=48
 ·have q1:(((c.toNat:Nat):Int) != 48)=false:=by rw [e];rfl
  have q2:(((s.size:Nat):Int)==1)=b:=by
   rw [← h,e]
   by_cases g:1<s.size
   ·rw [if_pos ⟨g,rfl⟩,beq_eq_false_iff_ne];omega
   ·rw [if_neg (fun k=>g k.1),beq_iff_eq];omega
  refine jG Tryz.func113 fun w00=>?_
  refine jC 147 [tx s] (mZ h0) ?_
  refine jK (.index 9 (.tmp 6) (.const (.int .i64 0))) (.tmp 6) (.const (.int .i64 0)) (tx s) (it 0) (.fv (.sc (isB c.toNat))) (fun ρ o β w ho hx hy=>⟨_,lH (i:=0) ho Tryz.underlying9 (aU hx) (aQ hy) hc,bN⟩) ?_
  refine jK (.binOp .neq 5 (.tmp 7) (.const (.int .u8 48)) 5) (.tmp 7) (.const (.int .u8 48)) (.fv (.sc (isB c.toNat))) (.fv (.sc (.lit (.int .u8 48)))) (bl false) (fun ρ o β w ho hx hy=>⟨_,mS ho (aU hx) (aQ hy) q1,bK rfl⟩) ?_
  refine jO 10 s ?_
  refine jK (.binOp .eql 3 (.tmp 11) (.const (.int .i64 1)) 3) (.tmp 11) (.const (.int .i64 1)) (.fv (.sc (pB s.size))) (it 1) (bl b) (fun ρ o β w ho hx hy=>⟨_,yQ ho (aU hx) (aQ hy) q2,bK rfl⟩) ?_
  exact jR Tryz.func113
 ·have q1:(((c.toNat:Nat):Int) != 48)=true:=by
   rw [bne_iff_ne]
   intro k
   exact e (UInt8.toNat_inj.1 (by have:(48:UInt8).toNat=48:=rfl;omega))
  rw [if_neg (fun k=>e (by injection k.2))] at h
  subst h
  refine jG Tryz.func113 fun w00=>?_
  refine jC 147 [tx s] (mZ h0) ?_
  refine jK (.index 9 (.tmp 6) (.const (.int .i64 0))) (.tmp 6) (.const (.int .i64 0)) (tx s) (it 0) (.fv (.sc (isB c.toNat))) (fun ρ o β w ho hx hy=>⟨_,lH (i:=0) ho Tryz.underlying9 (aU hx) (aQ hy) hc,bN⟩) ?_
  refine jK (.binOp .neq 5 (.tmp 7) (.const (.int .u8 48)) 5) (.tmp 7) (.const (.int .u8 48)) (.fv (.sc (isB c.toNat))) (.fv (.sc (.lit (.int .u8 48)))) (bl true) (fun ρ o β w ho hx hy=>⟨_,mS ho (aU hx) (aQ hy) q1,bK rfl⟩) ?_
  exact jR Tryz.func113
end Ab
namespace Ab
open Go.RowKit Pl
theorem aAt:∀ l:List UInt8,Lib.index l [47]=if l.findIdx (fun c=>c==47)<l.length then ((l.findIdx (fun c=>c==47):Nat):Int) else -1
 | []=>rfl
 | c :: l=>by
   by_cases hc:c=47
   ·subst hc
    unfold Lib.index
    simp [List.isPrefixOf,List.findIdx_cons]
   ·have h2:([47]:List UInt8).isPrefixOf (c::l)=false:=by
     simp [List.isPrefixOf]
     exact fun e=>hc e.symm
    have h3:(c==47)=false:=by rw [beq_eq_false_iff_ne];exact hc
    unfold Lib.index
    rw [h2,aAt l,List.findIdx_cons,h3]
    simp only [cond_false,List.length_cons]
    by_cases hl:l.findIdx (fun c=>c==47)<l.length
    ·have:(((l.findIdx (fun c=>c==47):Nat):Int) == -1)=false:=by rw [beq_eq_false_iff_ne];omega
     rw [if_pos hl,if_pos (show l.findIdx (fun c=>c==47)+1<l.length+1 by omega),this]
     simp
    ·rw [if_neg hl,if_neg (show ¬ l.findIdx (fun c=>c==47)+1<l.length+1 by omega)]
     rfl
theorem cut_slash {t:ByteArray} (h:aK t<t.size):Lib.cut t.data.toList [47]=((t.extract 0 (aK t)).data.toList,(t.extract (aK t+1) t.size).data.toList,true):=by
 have e:Lib.index t.data.toList [47]=((aK t:Nat):Int):=by
  have:=aAt (aC t)
  rw [if_pos (show (aC t).findIdx (fun c=>c==47)<(aC t).length by rw [aF];exact h)] at this
  exact this
 have e1:(t.extract 0 (aK t)).data.toList=t.data.toList.take (aK t):=by
  show aC (t.extract 0 (aK t))=_
  rw [aT,List.drop_zero]
  rfl
 have e2:(t.extract (aK t+1) t.size).data.toList=t.data.toList.drop (aK t+1):=by
  show aC (t.extract (aK t+1) t.size)=_
  rw [aT,List.take_of_length_le (by rw [aF];exact aR _)]
  rfl
 rw [e1,e2]
 unfold Lib.cut
 rw [e,if_pos (by omega)]
 simp
theorem cut_none {t:ByteArray} (h:¬ aK t<t.size):Lib.cut t.data.toList [47]=(t.data.toList,(⟨#[]⟩:ByteArray).data.toList,false):=by
 have e:Lib.index t.data.toList [47] = -1:=by
  have:=aAt (aC t)
  rw [if_neg (show ¬ (aC t).findIdx (fun c=>c==47)<(aC t).length by rw [aF];exact h)] at this
  exact this
 unfold Lib.cut
 rw [e]
 rfl
theorem cF {s t:ByteArray} {b:Bool} (ht:bH s=t) (hb:gX s=b):jF 62 [tx s,lt ⟨#[45]⟩] (.tup [.sc (eU t),.sc (.lit (.bool b))]):=by
 intro β w vs hv
 obtain ⟨v,u,rfl,h1,h2⟩:=dN hv
 rw [aU h1,aQ h2]
 have key:(⟨(Lib.trimPrefix s.data.toList [45]).toArray⟩:ByteArray)=t∧Lib.hasPrefix s.data.toList [45]=b:=by
  have hp:Lib.hasPrefix s.data.toList [45]=gX s:=by
   show ([45]:List UInt8).isPrefixOf (aC s)=((aC s).head?==some 45)
   cases aC s with
   | nil=>rfl
   | cons c l =>
     rw [Bool.eq_iff_iff]
     simp [List.isPrefixOf]
     exact ⟨fun e=>e.symm,fun e=>e.symm⟩
  refine ⟨?_,by rw [hp,hb]⟩
  unfold Lib.trimPrefix
  rw [hp,← ht]
  unfold bH
  split
  ·refine ba_ext ?_
   show _=aC (s.extract 1 s.size)
   rw [aT,List.take_of_length_le (by rw [aF];exact aR _)]
   rfl
  ·exact ba_ext (by simp)
 refine (Tryz.strings_CutPrefix s ⟨#[45]⟩ w).mono fun e w' ⟨e1,e2⟩=>⟨_,e1,by rw [e2];exact aB _ _,?_⟩
 rw [show (⟨#[45]⟩:ByteArray).data.toList = [45] from rfl,key.1,key.2]
 exact ⟨[.string t,.bool b],rfl,_,_,rfl,bN (β:=β),_,_,rfl,⟨rfl,rfl⟩,rfl⟩
theorem xE (s:ByteArray):(bH s).size≤s.size:=by
 unfold bH
 split
 ·rw [ByteArray.size_extract];omega
 ·exact aR _
abbrev badN (z:Int):AV Kn := .tup [.ag [.lit (.int .i64 0),.lit (.int .i64 0),.lit (.pointer none)],.sc (.lit (.int .i64 z))]
theorem gcdAnyF {n m:Nat} (h1:(decB n).size≤600) (h2:(decB m).size≤600) (hm:m≠0):jF 114 [nt n,nt m] (nt (Nat.gcd n m)) :=
 wO ((mU (k:=5) (by omega)).mono (by decide)) ((mU (k:=5) (by omega)).mono (by decide)) (.inr (Nat.pos_of_ne_zero hm))
section
variable {s t a d:ByteArray} {z:Int}
theorem xY {b:Bool} (hs:s.size<4294967281) (hz:bA s=z) (h0:z≠0) (ht:bH s=t) (hb:gX s=b) (hlt:aK t<t.size) (ha:t.extract 0 (aK t)=a) (hd:t.extract (aK t+1) t.size=d):jX 40 [tx s] (badN z):=by
 have hts:t.size<4294967281:=by have:=xE s;rw [ht] at this;omega
 have hcut:=cut_slash hlt
 have hsa:a.size=aK t:=by rw [← ha,ByteArray.size_extract];omega
 have hsd:d.size=t.size-a.size-1:=by rw [hsa,← hd,ByteArray.size_extract];omega
 rw [ha,hd] at hcut
 unfold bA at hz
 rw [ht,ha,hd,hb,← hsa,← hsd] at hz
 simp only [show a.size<t.size from by omega,true_and] at hz
 have c0:∀ x:ByteArray,decF x=true∨decF x=false:=fun x=>by cases decF x <;> simp
 cases b with
 | true =>
   rcases c0 a with c1|c1
   ·rw [c1] at hz
    by_cases a0:a=zeroT
    ·rw [if_pos (.inr ⟨rfl,a0⟩)] at hz
     subst hz
     refine jY Tryz.func40 fun w00 hI=>?_
     refine jC 62 [tx s,lt ⟨#[45]⟩] (cF ht hb) ?_
     refine jW hI 112 [tx t,lt ⟨#[47]⟩] (rH (a:=a) (b:=d) (r:=true) hts hcut) ?_
     refine jC 113 [tx a] (bI c1) ?_
     refine jQ 31 a ⟨#[48]⟩ true (by rw [a0];exact beq_self_eq_true _) ?_
     exact jR Tryz.func40
    rw [if_neg (by rintro (h|h);exact absurd h (by decide);exact a0 h.2)] at hz
    refine jY Tryz.func40 fun w00 hI=>?_
    refine jC 62 [tx s,lt ⟨#[45]⟩] (cF ht hb) ?_
    refine jW hI 112 [tx t,lt ⟨#[47]⟩] (rH (a:=a) (b:=d) (r:=true) hts hcut) ?_
    refine jC 113 [tx a] (bI c1) ?_
    refine jQ 31 a ⟨#[48]⟩ false (dR a0) ?_
    rcases c0 d with d1|d1
    ·rw [d1] at hz
     by_cases d0:d=zeroT
     ·rw [if_pos (.inr (.inl d0))] at hz
      subst hz
      refine jC 113 [tx d] (bI d1) ?_
      refine jQ 43 d ⟨#[48]⟩ true (by rw [d0];exact beq_self_eq_true _) ?_
      exact jR Tryz.func40
     by_cases d2:d=oneT
     ·rw [if_pos (.inr (.inr d2))] at hz
      subst hz
      refine jC 113 [tx d] (bI d1) ?_
      refine jQ 43 d ⟨#[48]⟩ false (dR d0) ?_
      refine jQ 47 d ⟨#[49]⟩ true (by rw [d2];exact beq_self_eq_true _) ?_
      exact jR Tryz.func40
     rw [if_neg (by rintro (h|h|h);exact absurd h (by decide);exact d0 h;exact d2 h)] at hz
     refine jC 113 [tx d] (bI d1) ?_
     refine jQ 43 d ⟨#[48]⟩ false (dR d0) ?_
     refine jQ 47 d ⟨#[49]⟩ false (dR d2) ?_
     refine jO 53 a ?_
     by_cases l1:600<a.size
     ·rw [if_pos (.inl l1)] at hz
      subst hz
      refine jM 54 a.size 600 true (by rw [decide_eq_true_iff];omega) ?_
      exact jR Tryz.func40
     refine jM 54 a.size 600 false (by rw [decide_eq_false_iff_not];omega) ?_
     refine jO 57 d ?_
     by_cases l2:600<d.size
     ·rw [if_pos (.inr l2)] at hz
      subst hz
      refine jM 58 d.size 600 true (by rw [decide_eq_true_iff];omega) ?_
      exact jR Tryz.func40
     refine jM 58 d.size 600 false (by rw [decide_eq_false_iff_not];omega) ?_
     rw [if_neg (by omega)] at hz
     have hae:=iE c1
     have hde:=iE d1
     generalize aV (aC a)=n at hae hz
     generalize aV (aC d)=m at hde hz
     subst hae
     subst hde
     have hm0:m≠0:=fun e=>d0 (by rw [e,dec0];rfl)
     by_cases hg:Nat.gcd n m=1
     ·rw [if_neg (fun h=>h hg)] at hz
      exact absurd hz.symm h0
     rw [if_pos hg] at hz
     subst hz
     refine jC 65 [tx (decB n)] (bV (by omega)) ?_
     refine jC 65 [tx (decB m)] (bV (by omega)) ?_
     refine jC 114 [nt n,nt m] (gcdAnyF (by omega) (by omega) hm0) ?_
     refine jC 115 [nt (Nat.gcd n m)] (aAe (b:=false) (by rw [decide_eq_false_iff_not];exact hg)) ?_
     exact jR Tryz.func40
    ·rw [if_pos (.inl d1)] at hz
     subst hz
     refine jC 113 [tx d] (bI d1) ?_
     exact jR Tryz.func40
   ·rw [if_pos (.inl c1)] at hz
    subst hz
    refine jY Tryz.func40 fun w00 hI=>?_
    refine jC 62 [tx s,lt ⟨#[45]⟩] (cF ht hb) ?_
    refine jW hI 112 [tx t,lt ⟨#[47]⟩] (rH (a:=a) (b:=d) (r:=true) hts hcut) ?_
    refine jC 113 [tx a] (bI c1) ?_
    exact jR Tryz.func40
 | false =>
   rcases c0 a with c1|c1
   ·rw [c1] at hz
    rw [if_neg (by rintro (h|h);exact absurd h (by decide);exact absurd h.1 (by decide))] at hz
    refine jY Tryz.func40 fun w00 hI=>?_
    refine jC 62 [tx s,lt ⟨#[45]⟩] (cF ht hb) ?_
    refine jW hI 112 [tx t,lt ⟨#[47]⟩] (rH (a:=a) (b:=d) (r:=true) hts hcut) ?_
    refine jC 113 [tx a] (bI c1) ?_
    rcases c0 d with d1|d1
    ·rw [d1] at hz
     by_cases d0:d=zeroT
     ·rw [if_pos (.inr (.inl d0))] at hz
      subst hz
      refine jC 113 [tx d] (bI d1) ?_
      refine jQ 43 d ⟨#[48]⟩ true (by rw [d0];exact beq_self_eq_true _) ?_
      exact jR Tryz.func40
     by_cases d2:d=oneT
     ·rw [if_pos (.inr (.inr d2))] at hz
      subst hz
      refine jC 113 [tx d] (bI d1) ?_
      refine jQ 43 d ⟨#[48]⟩ false (dR d0) ?_
      refine jQ 47 d ⟨#[49]⟩ true (by rw [d2];exact beq_self_eq_true _) ?_
      exact jR Tryz.func40
     rw [if_neg (by rintro (h|h|h);exact absurd h (by decide);exact d0 h;exact d2 h)] at hz
     refine jC 113 [tx d] (bI d1) ?_
     refine jQ 43 d ⟨#[48]⟩ false (dR d0) ?_
     refine jQ 47 d ⟨#[49]⟩ false (dR d2) ?_
     refine jO 53 a ?_
     by_cases l1:600<a.size
     ·rw [if_pos (.inl l1)] at hz
      subst hz
      refine jM 54 a.size 600 true (by rw [decide_eq_true_iff];omega) ?_
      exact jR Tryz.func40
     refine jM 54 a.size 600 false (by rw [decide_eq_false_iff_not];omega) ?_
     refine jO 57 d ?_
     by_cases l2:600<d.size
     ·rw [if_pos (.inr l2)] at hz
      subst hz
      refine jM 58 d.size 600 true (by rw [decide_eq_true_iff];omega) ?_
      exact jR Tryz.func40
     refine jM 58 d.size 600 false (by rw [decide_eq_false_iff_not];omega) ?_
     rw [if_neg (by omega)] at hz
     have hae:=iE c1
     have hde:=iE d1
     generalize aV (aC a)=n at hae hz
     generalize aV (aC d)=m at hde hz
     subst hae
     subst hde
     have hm0:m≠0:=fun e=>d0 (by rw [e,dec0];rfl)
     by_cases hg:Nat.gcd n m=1
     ·rw [if_neg (fun h=>h hg)] at hz
      exact absurd hz.symm h0
     rw [if_pos hg] at hz
     subst hz
     refine jC 65 [tx (decB n)] (bV (by omega)) ?_
     refine jC 65 [tx (decB m)] (bV (by omega)) ?_
     refine jC 114 [nt n,nt m] (gcdAnyF (by omega) (by omega) hm0) ?_
     refine jC 115 [nt (Nat.gcd n m)] (aAe (b:=false) (by rw [decide_eq_false_iff_not];exact hg)) ?_
     exact jR Tryz.func40
    ·rw [if_pos (.inl d1)] at hz
     subst hz
     refine jC 113 [tx d] (bI d1) ?_
     exact jR Tryz.func40
   ·rw [if_pos (.inl c1)] at hz
    subst hz
    refine jY Tryz.func40 fun w00 hI=>?_
    refine jC 62 [tx s,lt ⟨#[45]⟩] (cF ht hb) ?_
    refine jW hI 112 [tx t,lt ⟨#[47]⟩] (rH (a:=a) (b:=d) (r:=true) hts hcut) ?_
    refine jC 113 [tx a] (bI c1) ?_
    exact jR Tryz.func40
theorem xZ {b:Bool} (hs:s.size<4294967281) (hz:bA s=z) (h0:z≠0) (ht:bH s=t) (hb:gX s=b) (hlt:¬ aK t<t.size):jX 40 [tx s] (badN z):=by
 have hts:t.size<4294967281:=by have:=xE s;rw [ht] at this;omega
 have hcut:=cut_none hlt
 have hk:aK t=t.size:=by have:=cC t;omega
 have g3:decide ((600:Int)<(((⟨#[49]⟩:ByteArray).size:Nat):Int))=false:=by decide
 unfold bA at hz
 rw [ht,hb,hk,uW] at hz
 simp only [Nat.lt_irrefl,false_and,if_false] at hz
 have c0:∀ x:ByteArray,decF x=true∨decF x=false:=fun x=>by cases decF x <;> simp
 cases b with
 | true =>
   rcases c0 t with c1|c1
   ·rw [c1] at hz
    by_cases a0:t=zeroT
    ·rw [if_pos (.inr ⟨rfl,a0⟩)] at hz
     subst hz
     refine jY Tryz.func40 fun w00 hI=>?_
     refine jC 62 [tx s,lt ⟨#[45]⟩] (cF ht hb) ?_
     refine jW hI 112 [tx t,lt ⟨#[47]⟩] (rH (a:=t) (b:=⟨#[]⟩) (r:=false) hts hcut) ?_
     refine jC 113 [tx t] (bI c1) ?_
     refine jQ 31 t ⟨#[48]⟩ true (by rw [a0];exact beq_self_eq_true _) ?_
     exact jR Tryz.func40
    rw [if_neg (by rintro (h|h);exact absurd h (by decide);exact a0 h.2)] at hz
    have hl:600<t.size:=by
     by_cases g:600<t.size
     ·exact g
     ·rw [if_neg (by omega)] at hz;exact absurd hz.symm h0
    rw [if_pos (.inl hl)] at hz
    subst hz
    refine jY Tryz.func40 fun w00 hI=>?_
    refine jC 62 [tx s,lt ⟨#[45]⟩] (cF ht hb) ?_
    refine jW hI 112 [tx t,lt ⟨#[47]⟩] (rH (a:=t) (b:=⟨#[]⟩) (r:=false) hts hcut) ?_
    refine jC 113 [tx t] (bI c1) ?_
    refine jQ 31 t ⟨#[48]⟩ false (dR a0) ?_
    refine jO 53 t ?_
    refine jM 54 t.size 600 true (by rw [decide_eq_true_iff];omega) ?_
    exact jR Tryz.func40
   ·rw [if_pos (.inl c1)] at hz
    subst hz
    refine jY Tryz.func40 fun w00 hI=>?_
    refine jC 62 [tx s,lt ⟨#[45]⟩] (cF ht hb) ?_
    refine jW hI 112 [tx t,lt ⟨#[47]⟩] (rH (a:=t) (b:=⟨#[]⟩) (r:=false) hts hcut) ?_
    refine jC 113 [tx t] (bI c1) ?_
    exact jR Tryz.func40
 | false =>
   rcases c0 t with c1|c1
   ·rw [c1] at hz
    rw [if_neg (by rintro (h|h);exact absurd h (by decide);exact absurd h.1 (by decide))] at hz
    have hl:600<t.size:=by
     by_cases g:600<t.size
     ·exact g
     ·rw [if_neg (by omega)] at hz;exact absurd hz.symm h0
    rw [if_pos (.inl hl)] at hz
    subst hz
    refine jY Tryz.func40 fun w00 hI=>?_
    refine jC 62 [tx s,lt ⟨#[45]⟩] (cF ht hb) ?_
    refine jW hI 112 [tx t,lt ⟨#[47]⟩] (rH (a:=t) (b:=⟨#[]⟩) (r:=false) hts hcut) ?_
    refine jC 113 [tx t] (bI c1) ?_
    refine jO 53 t ?_
    refine jM 54 t.size 600 true (by rw [decide_eq_true_iff];omega) ?_
    exact jR Tryz.func40
   ·rw [if_pos (.inl c1)] at hz
    subst hz
    refine jY Tryz.func40 fun w00 hI=>?_
    refine jC 62 [tx s,lt ⟨#[45]⟩] (cF ht hb) ?_
    refine jW hI 112 [tx t,lt ⟨#[47]⟩] (rH (a:=t) (b:=⟨#[]⟩) (r:=false) hts hcut) ?_
    refine jC 113 [tx t] (bI c1) ?_
    exact jR Tryz.func40
theorem readBadF (hs:s.size<4294967281) (hz:bA s=z) (h0:z≠0):jX 40 [tx s] (badN z):=by
 by_cases h:aK (bH s)<(bH s).size
 ·exact xY hs hz h0 rfl rfl h rfl rfl
 ·exact xZ hs hz h0 rfl rfl h
end
noncomputable def valB (s:ByteArray):Rat:=if h:bA s=0 then Classical.choose (mX h) else 0
theorem valB_ok {s:ByteArray} (h:bA s=0):s=writeB (valB s)∧Wr (valB s):=by
 unfold valB
 rw [dif_pos h]
 have:=Classical.choose_spec (mX h)
 exact ⟨this.1,this.2.1,this.2.2⟩
theorem valB_bad {s:ByteArray} (h:bA s≠0):valB s=0:=dif_neg h
abbrev okN (q:Rat) (z:Int):AV Kn := .tup [.ag [nb q],.sc (.lit (.int .i64 z))]
theorem xF {s:ByteArray} {z:Int} (hs:s.size<4294967281) (hz:bA s=z):jX 40 [tx s] (okN (valB s) z):=by
 by_cases h:z=0
 ·subst h
  obtain ⟨e,hw⟩:=valB_ok hz
  have:=pO hw
  rw [← e] at this
  exact this
 ·rw [valB_bad (by rw [hz];exact h)]
  refine FitsW.res (readBadF hs hz h) fun β v w hv=>?_
  obtain ⟨vs,rfl,x,r,rfl,hx,hr⟩:=hv
  exact ⟨_,rfl,x,r,rfl,zero_num hx,hr⟩
theorem bW (s:ByteArray):bA s=0∨bA s=1∨bA s=4:=by
 unfold bA
 split
 ·exact .inr (.inl rfl)
 split
 ·exact .inr (.inl rfl)
 split
 ·exact .inr (.inr rfl)
 split
 ·exact .inr (.inl rfl)
 ·exact .inl rfl
theorem iK (q:Rat):aK (writeB q)=(aS q.num).size:=by
 by_cases h:q.den=1
 ·rw [gV h,tD]
 ·rw [eY h,tE]
theorem num_cut (q:Rat):(writeB q).extract 0 (aK (writeB q))=aS q.num:=by
 rw [iK]
 by_cases h:q.den=1
 ·rw [gV h,uW]
 ·rw [eY h,ext_lo]
theorem den_cut {q:Rat} (h:q.den≠1):(writeB q).extract (aK (writeB q)+1) (writeB q).size=decB q.den:=by
 rw [iK,eY h]
 exact ext_hi _ _
theorem jD (q:Rat):(writeB q).size=(aS q.num).size+if q.den=1 then 0 else 1+(decB q.den).size:=by
 by_cases h:q.den=1
 ·rw [gV h,if_pos h];rfl
 ·rw [eY h,if_neg h,ByteArray.size_append,ByteArray.size_append,size47]
theorem numF {q:Rat} (hs:(writeB q).size≤1000000000):jF 134 [rS (writeB q)] (rS (aS q.num)):=by
 have hc:=num_cut q
 generalize writeB q=s at *
 refine jT Tryz.func134 fun w00=>?_
 refine jB 46 [rS s] (eL (by omega)) ?_
 refine rshi 3 5 22 Tryz.underlying22 s (aK s) (aS q.num) (cC _) hc ?_
 exact jS Tryz.func134
theorem denF1 {q:Rat} (hs:(writeB q).size≤1000000000) (h:q.den=1):jF 135 [rS (writeB q)] (rS (decB q.den)):=by
 have hl:=jD q
 have hk:=iK q
 rw [if_pos h] at hl
 have e:decB q.den=⟨#[49]⟩:=by rw [h,dec1]
 rw [e]
 generalize writeB q=s at *
 have key:jF 135 [rS s] (.fv (.sc (.lit (.string ⟨#[49]⟩)))):=by
  refine jT Tryz.func135 fun w00=>?_
  refine jB 46 [rS s] (eL (by omega)) ?_
  refine dJ 7 22 Tryz.underlying22 s ?_
  refine jL (.binOp .eql 3 (.tmp 6) (.tmp 8) 3) (.tmp 6) (.tmp 8) (rI (aK s:Nat)) (rI (s.size:Nat)) (rl true) (fun ρ o β w ho hx hy=>⟨.bool true,iD ho (bD hx) (bD hy) (by simp;omega),eG rfl⟩) ?_
  exact jS Tryz.func135
 exact lU key fun β v w h=>h.1
theorem denF2 {q:Rat} (hs:(writeB q).size≤1000000000) (h:q.den≠1):jF 135 [rS (writeB q)] (rS (decB q.den)):=by
 have hl:=jD q
 have hk:=iK q
 rw [if_neg h] at hl
 have hc:=den_cut h
 generalize decB q.den=d at *
 generalize writeB q=s at *
 refine jT Tryz.func135 fun w00=>?_
 refine jB 46 [rS s] (eL (by omega)) ?_
 refine dJ 7 22 Tryz.underlying22 s ?_
 refine jL (.binOp .eql 3 (.tmp 6) (.tmp 8) 3) (.tmp 6) (.tmp 8) (rI (aK s:Nat)) (rI (s.size:Nat)) (rl false) (fun ρ o β w ho hx hy=>⟨.bool false,iD ho (bD hx) (bD hy) (by simp;omega),eG rfl⟩) ?_
 refine aAp 11 (aK s) (by omega) ?_
 refine aAo 10 12 22 Tryz.underlying22 s (aK s+1) d (by omega) hc ?_
 exact jS Tryz.func135
theorem denOfF {q:Rat} (hs:(writeB q).size≤1000000000):jF 135 [rS (writeB q)] (rS (decB q.den)):=by
 by_cases h:q.den=1
 ·exact denF1 hs h
 ·exact denF2 hs h
theorem dec0_ne {n:Nat} (h:n≠0):decB n≠zeroT:=fun e=>h (rW (e.trans dec0.symm))
theorem aAu {q:Rat} (h:q.num≠0):bC q≠zeroT:=by
 by_cases hd:q.den=1
 ·rw [lW hd,cD]
  exact dec0_ne (by omega)
 ·intro e
  have hl:=oE q
  rw [if_neg hd,e] at hl
  have:zeroT.size=1:=rfl
  have:=rQ q.num.natAbs
  omega
theorem kS {q:Rat} (h:q.num≠0):writeB q≠zeroT:=by
 by_cases hn:q.num<0
 ·obtain ⟨f1,⟨h0,hc⟩,f3,f4,f5⟩:=gW hn
  intro e
  have h1:=(uE q).1
  rw [e,decide_eq_true hn] at h1
  exact absurd h1 (by decide)
 ·rw [dV hn]
  exact aAu h
theorem signF0 {q:Rat} (h:q.num=0):jF 60 [rS (writeB q)] (.fv (.sc (.lit (.int .i64 0)))):=by
 have e:((writeB q).toList==(⟨#[48]⟩:ByteArray).toList)=true:=by
  have hd:q.den=1:=by have:=q.reduced;rw [h] at this;simpa using this
  rw [gV hd,h]
  have:aS 0=zeroT:=by unfold aS;rw [if_neg (by omega)];exact dec0
  rw [this]
  exact beq_self_eq_true zeroT.toList
 generalize writeB q=s at *
 refine jT Tryz.func60 fun w00=>?_
 refine tG 3 22 s ⟨#[48]⟩ true e ?_
 exact jS Tryz.func60
theorem signFn {q:Rat} (h:q.num<0):jF 60 [rS (writeB q)] (.fv (.sc (.lit (.int .i64 (-1))))):=by
 have e:=dR (kS (q:=q) (by omega))
 obtain ⟨f1,hc,f3,f4,f5⟩:=gW h
 have h0:decide ((0:Int)<((writeB q).size:Nat))=true:=by rw [decide_eq_true_iff];omega
 generalize writeB q=s at *
 refine jT Tryz.func60 fun w00=>?_
 refine tG 3 22 s ⟨#[48]⟩ false e ?_
 refine dJ 5 22 Tryz.underlying22 s ?_
 refine iQ 6 0 (s.size:Nat) true h0 ?_
 refine ridnR 9 s hc ?_
 exact jS Tryz.func60
theorem signFp {q:Rat} (h:0<q.num):jF 60 [rS (writeB q)] (.fv (.sc (.lit (.int .i64 1)))):=by
 have e:=dR (kS (q:=q) (by omega))
 obtain ⟨c,hc,hc45⟩:=tH q
 rw [← dV (by omega)] at hc
 have h0:decide ((0:Int)<((writeB q).size:Nat))=true:=by rw [decide_eq_true_iff];have:=hc.1;omega
 generalize writeB q=s at *
 refine jT Tryz.func60 fun w00=>?_
 refine tG 3 22 s ⟨#[48]⟩ false e ?_
 refine dJ 5 22 Tryz.underlying22 s ?_
 refine iQ 6 0 (s.size:Nat) true h0 ?_
 refine ridpR 9 s c hc ?_
 refine rueq 10 c hc45 ?_
 exact jS Tryz.func60
theorem absFn {q:Rat} (h:q.num<0) (hs:(writeB q).size≤1000000000):jF 133 [rS (writeB q)] (rS (bC q)):=by
 have hg:=signFn h
 obtain ⟨f1,hc,f3,f4,f5⟩:=gW h
 generalize bC q=u at *
 generalize writeB q=s at *
 refine jT Tryz.func133 fun w00=>?_
 refine jB 60 [rS s] hg ?_
 refine rsl1 6 22 Tryz.underlying22 s u f1 f3 ?_
 exact jS Tryz.func133
theorem absFp {q:Rat} (h:¬ q.num<0):jF 133 [rS (writeB q)] (rS (bC q)):=by
 rw [← dV h]
 by_cases h0:q.num=0
 ·have hg:=signF0 h0
  generalize writeB q=s at *
  refine jT Tryz.func133 fun w00=>?_
  refine jB 60 [rS s] hg ?_
  exact jS Tryz.func133
 ·have hg:=signFp (q:=q) (by omega)
  generalize writeB q=s at *
  refine jT Tryz.func133 fun w00=>?_
  refine jB 60 [rS s] hg ?_
  exact jS Tryz.func133
theorem absOfF {q:Rat} (hs:(writeB q).size≤1000000000):jF 133 [rS (writeB q)] (rS (bC q)):=by
 by_cases h:q.num<0
 ·exact absFn h hs
 ·exact absFp h
theorem absTF {z:Int} (hs:(aS z).size≤1000000000):jF 133 [rS (aS z)] (rS (decB z.natAbs)):=by
 have h:=absOfF (q:=(z:Rat)) (by rw [← dC];exact hs)
 have e:bC (z:Rat)=decB z.natAbs:=by rw [lW rfl,cD];rfl
 rw [← dC,e] at h
 exact h
def Fw (k:Nat) (q:Rat):Prop:=(decB q.num.natAbs).size≤k∧(decB q.den).size≤k
theorem xG (z:Int):(aS z).size≤(decB z.natAbs).size+1:=by
 unfold aS
 split
 ·rw [ByteArray.size_append,aAq];omega
 ·omega
theorem kn_S {f:FuncId} {s t u:ByteArray} (h:jF f [rS s,rS t] (rS u)):jF f [tx s,tx t] (tx u):=by
 intro β w vs hv
 obtain ⟨v,v2,rfl,h1,h2⟩:=dN hv
 rw [aU h1,aU h2]
 exact (h β w [.string s,.string t] ⟨_,_,rfl,cJ,_,_,rfl,cJ,rfl⟩).mono fun e w' ⟨v,e1,e2,e3⟩=>⟨v,e1,e2,by rw [bD e3];exact bN⟩
abbrev t3 (a b c:ByteArray):AV Kn := .fv (.ag [eU a,eU b,eU c])
def f2 (x y:Int):Int:=if x=0 then y else x
def f3 (x y z:Int):Int:=f2 x (f2 y z)
abbrev Ev (z:Int):Prop:=z=0∨z=1∨z=4
theorem f2_ev {x y:Int} (hx:Ev x) (hy:Ev y):Ev (f2 x y):=by unfold f2;split <;> assumption
theorem f2_l {x y:Int} (h:x≠0):f2 x y=x:=if_neg h
theorem f2_r {x y:Int} (h:x=0):f2 x y=y:=if_pos h
abbrev lz (z:Int):Seg Kn := .lit (.int .i64 z)
theorem zI {T:TypeId} {x y z:Int} (hx:Ev x) (hy:Ev y) (hz:f2 x y=z):jF 76 [.fv (.nsl 2 T [lz x,lz y])] (it z):=by
 rcases hx with rfl|rfl|rfl
 ·have hz:y=z:=hz
  subst hz
  rcases hy with rfl|rfl|rfl <;> (refine xT Tryz.func76 (by kernel_rfl) fun w00=>?_;exact kret Tryz.func76 (by kernel_rfl))
 ·have hz:1=z:=hz
  subst hz
  refine xT Tryz.func76 (by kernel_rfl) fun w00=>?_
  exact jR Tryz.func76
 ·have hz:4=z:=hz
  subst hz
  refine xT Tryz.func76 (by kernel_rfl) fun w00=>?_
  exact jR Tryz.func76
abbrev Rb (s:ByteArray):Prop:=s.size<4294967281
abbrev c3 (a b c:ByteArray):Int:=f3 (bA a) (bA b) (bA c)
section
variable {a b c x y u:ByteArray} {z:Int}
theorem tI (h:Rb a) (k:Rb b) (hz:f2 (bA a) (bA b)=z):jX 39 [eN 40,tx a,eN 40,tx b] (.tup [.ag [nb (valB a)],.ag [nb (valB b)],.sc (lz z)]):=by
 refine jY Tryz.func39 fun w00 hI=>?_
 refine jW hI 40 [tx a] (xF h rfl) ?_
 refine jW hI 40 [tx b] (xF k rfl) ?_
 refine jC 76 [.fv (.nsl 2 24 [lz (bA a),lz (bA b)])] (zI (bW _) (bW _) hz) ?_
 exact jR Tryz.func39
abbrev noS (z:Int):AV Kn := .tup [.sc (.lit (.string ⟨#[]⟩)),.sc (lz z)]
theorem oI {F:FuncId} (h:Rb a) (k:Rb b) (hz:f2 (bA a) (bA b)=z) (h0:z≠0):jX 35 [eN F,tx a,tx b] (noS z):=by
 rcases show Ev z from hz▸f2_ev (bW _) (bW _) with rfl|rfl|rfl
 ·exact absurd rfl h0
 all_goals
  refine jY Tryz.func35 fun w00 hI=>?_
  refine jW hI 39 [eN 40,tx a,eN 40,tx b] (tI h k hz) ?_
  exact jR Tryz.func35
theorem xH (h:Rb a) (k:Rb b) (hz:f2 (bA a) (bA b)=z) (h0:z≠0):jX 5 [tx a,tx b] (noS z):=by
 refine jY Tryz.func5 fun w00 hI=>?_
 refine jW hI 35 [eN 36,tx a,tx b] (oI h k hz h0) ?_
 exact jR Tryz.func5
theorem xI (h:Rb a) (k:Rb b) (hz:f2 (bA a) (bA b)=z) (h0:z≠0):jX 6 [tx a,tx b] (noS z):=by
 refine jY Tryz.func6 fun w00 hI=>?_
 refine jW hI 35 [eN 37,tx a,tx b] (oI h k hz h0) ?_
 exact jR Tryz.func6
theorem xJ (h:Rb a) (k:Rb b) (hz:f2 (bA a) (bA b)=z) (h0:z≠0):jX 7 [tx a,tx b] (noS z):=by
 refine jY Tryz.func7 fun w00 hI=>?_
 refine jW hI 35 [eN 38,tx a,tx b] (oI h k hz h0) ?_
 exact jR Tryz.func7
theorem xK (h:Rb a) (k:Rb b) (hz:f2 (bA a) (bA b)=z) (h0:z≠0):jX 8 [tx a,tx b] (noS z):=by
 rcases show Ev z from hz▸f2_ev (bW _) (bW _) with rfl|rfl|rfl
 ·exact absurd rfl h0
 all_goals
  refine jY Tryz.func8 fun w00 hI=>?_
  refine jW hI 39 [eN 40,tx a,eN 40,tx b] (tI h k hz) ?_
  exact jR Tryz.func8
theorem oJ (h:Rb a) (k:Rb b) (hz:f2 (bA a) (bA b)=z) (h0:z≠0):jX 9 [tx a,tx b] (.tup [.sc z0,.sc (lz z)]):=by
 rcases show Ev z from hz▸f2_ev (bW _) (bW _) with rfl|rfl|rfl
 ·exact absurd rfl h0
 all_goals
  refine jY Tryz.func9 fun w00 hI=>?_
  refine jW hI 39 [eN 40,tx a,eN 40,tx b] (tI h k hz) ?_
  exact jR Tryz.func9
theorem aAv (h:Rb a) (hz:bA a=z) (h0:z≠0):jX 10 [tx a] (noS z):=by
 rcases show Ev z from hz▸bW _ with rfl|rfl|rfl
 ·exact absurd rfl h0
 all_goals
  refine jY Tryz.func10 fun w00 hI=>?_
  refine jW hI 40 [tx a] (xF h hz) ?_
  exact jR Tryz.func10
end
section
variable {p q:Rat}
theorem compareNF (hp:Lf 38 p) (hq:Lf 38 q):jF 44 [num p,num q] (it (dU p q)):=by
 intro β w vs hv
 obtain ⟨v,u,rfl,h1,h2⟩:=dN hv
 exact (compare_nb v u p q w (cB.1 h1) (cB.1 h2) hp hq).mono fun e w' ⟨e1,e2⟩=>⟨_,e1,e2,bK rfl⟩
theorem floorNF (hl:Lf 38 p):jF 45 [num p] (num ((p.floor:Int):Rat)):=by
 intro β w vs hv
 obtain ⟨v,rfl,h1⟩:=dB hv
 exact (floor_nb v p w (cB.1 h1) hl).mono fun e w' ⟨u,e,h1,h2⟩=>⟨u,e,h2,cB.2 h1⟩
theorem apiCompareF (h:Wr p) (k:Wr q):jX 9 [tx (writeB p),tx (writeB q)] (.tup [.sc (lz (dU p q)),.sc z0]):=by
 refine jY Tryz.func9 fun w00 hI=>?_
 refine jW hI 39 [eN 40,tx (writeB p),eN 40,tx (writeB q)] (aAf h k) ?_
 refine jC 44 [num p,num q] (compareNF (h.lf.mono (by decide)) (k.lf.mono (by decide))) ?_
 exact jR Tryz.func9
theorem zJ (h:Wr p) (hr:Wr ((p.floor:Int):Rat)):jX 10 [tx (writeB p)] (pP ((p.floor:Int):Rat)):=by
 refine jY Tryz.func10 fun w00 hI=>?_
 refine jW hI 40 [tx (writeB p)] (pO h) ?_
 refine jC 45 [num p] (floorNF (h.lf.mono (by decide))) ?_
 refine jW hI 43 [num ((p.floor:Int):Rat)] (mQ (hr.lf.mono (by decide)) hr.n hr.d) ?_
 exact jR Tryz.func10
end
theorem uF (q:Rat):bC (-q)=bC q:=by
 unfold bC
 rw [Rat.neg_den,Rat.neg_num,Int.natAbs_neg]
theorem zs_len {k:Nat} {q:Rat} (h:Zs k q):(writeB q).size≤2*k+4:=by
 have h1:=rF h.1
 have h2:=rF h.2
 have:=jD q
 have:=xG q.num
 split at * <;> omega
theorem negR {q:Rat} (hs:(writeB q).size≤1000000000):jF 59 [rS (writeB q)] (rS (writeB (-q))):=by
 by_cases h:q.num<0
 ·rw [dV (q := -q) (by rw [Rat.neg_num];omega),uF]
  have hg:=signFn h
  obtain ⟨f1,hc,f3,f4,f5⟩:=gW h
  generalize bC q=u at *
  generalize writeB q=s at *
  refine jT Tryz.func59 fun w00=>?_
  refine jB 60 [rS s] hg ?_
  refine rsl1 6 22 Tryz.underlying22 s u f1 f3 ?_
  exact jS Tryz.func59
 ·by_cases h0:q.num=0
  ·have e:-q=q:=by
    have:q=0:=Rat.num_eq_zero.1 h0
    rw [this]
    rfl
   rw [e]
   have hg:=signF0 h0
   generalize writeB q=s at *
   refine jT Tryz.func59 fun w00=>?_
   refine jB 60 [rS s] hg ?_
   refine jB 60 [rS s] hg ?_
   exact jS Tryz.func59
  ·rw [lJ (q := -q) (by rw [Rat.neg_num];omega),uF,← dV h]
   have hg:=signFp (q:=q) (by omega)
   have hcat:(⟨#[45]⟩:ByteArray).size+(writeB q).size≤9223372036854775807:=by rw [aAq];omega
   generalize writeB q=s at *
   refine jT Tryz.func59 fun w00=>?_
   refine jB 60 [rS s] hg ?_
   refine jB 60 [rS s] hg ?_
   refine jL (.binOp .add 22 (.const (.string ⟨#[45]⟩)) (.tmp 12) 22) (.const (.string ⟨#[45]⟩)) (.tmp 12) (.fv (.sc (.lit (.string ⟨#[45]⟩)))) (rS s) (rS (⟨#[45]⟩++s)) (fun ρ o β w ho hx hy=>⟨_,eO ho (bU hx) (bD hy) hcat,cJ⟩) ?_
   exact jS Tryz.func59
theorem zs_neg {k:Nat} {q:Rat} (h:Zs k q):Zs k (-q):=by
 unfold Zs
 rw [Rat.neg_den,Rat.neg_num,Int.natAbs_neg]
 exact h
theorem subR {p q:Rat} (hp:Zs 10000 p) (hq:Zs 10000 q):jF 16 [rS (writeB p),rS (writeB q)] (rS (writeB (p-q))):=by
 have h1:=negR (q:=q) (by have:=zs_len hq;omega)
 have h2:=refAddF hp (zs_neg hq)
 rw [← Rat.sub_eq_add_neg] at h2
 generalize writeB (p-q)=x at *
 generalize writeB (-q)=y at *
 generalize writeB p=a at *
 generalize writeB q=b at *
 refine jT Tryz.func16 fun w00=>?_
 refine jB 59 [rS b] h1 ?_
 refine jB 15 [rS a,rS y] h2 ?_
 exact jS Tryz.func16
end Ab
section
open Go.RowKit Pl
end
namespace Ab
open Go.RowKit Pl
theorem cutPrefixNo {s:ByteArray} (h:Lib.hasPrefix s.data.toList [45]=false):jF 62 [tx s,lt ⟨#[45]⟩] (.tup [.sc (eU s),.sc (.lit (.bool false))]):=by
 intro β w vs hv
 obtain ⟨v,u,rfl,h1,h2⟩:=dN hv
 rw [aU h1,aQ h2]
 have es:(⟨(Lib.trimPrefix s.data.toList [45]).toArray⟩:ByteArray)=s:=ba_ext (by unfold Lib.trimPrefix;rw [h];simp)
 refine (Tryz.strings_CutPrefix s ⟨#[45]⟩ w).mono fun e w' ⟨e1,e2⟩=>⟨_,e1,by rw [e2];exact aB _ _,?_⟩
 rw [show (⟨#[45]⟩:ByteArray).data.toList = [45] from rfl,es,h]
 exact ⟨[.string s,.bool false],rfl,_,_,rfl,bN (β:=β),_,_,rfl,⟨rfl,rfl⟩,rfl⟩
theorem ascii_two:∀ (j:Nat) (b:UInt8),(⟨#[47,46]⟩:ByteArray).data.toList[j]?=some b→b.toNat<128:=by
 intro j b h
 have:=List.mem_of_getElem? h
 simp at this
 rcases this with rfl|rfl <;> decide
theorem indexAnyF {s:ByteArray} {k:Int} (hs:s.size<4294967281) (ha:∀ (j:Nat) (b:UInt8),s.data.toList[j]?=some b→b.toNat<128) (h:Lib.indexAny s.data.toList [47,46]=k):jF 146 [tx s,lt ⟨#[47,46]⟩] (.fv (.sc (pB k))):=by
 intro β w vs hv
 obtain ⟨v,u,rfl,h1,h2⟩:=dN hv
 rw [aU h1,aQ h2]
 refine (Tryz.strings_IndexAny_laid s ⟨#[47,46]⟩ w hs (by decide) ha ascii_two).mono fun e w' ⟨e1,e2⟩=>⟨_,e1,e2,?_⟩
 rw [show (⟨#[47,46]⟩:ByteArray).data.toList = [47,46] from rfl,h]
 exact bN
theorem repeatF {c:Nat} {z:ByteArray} (h2:2≤c) (hc:c≤100000) (hz:(⟨(Lib.repeatL [48] c).toArray⟩:ByteArray)=z):jF 148 [lt ⟨#[48]⟩,.fv (.sc (pB c))] (tx z):=by
 intro β w vs hv
 obtain ⟨v,u,rfl,h1,h3⟩:=dN hv
 rw [aQ h1,aU h3]
 have hsz:(⟨#[48]⟩:ByteArray).size=1:=rfl
 refine (Tryz.strings_Repeat_main ⟨#[48]⟩ c w h2 (by omega) (by rw [hsz];omega) (by rw [hsz];omega)).mono fun e w' ⟨e1,e2⟩=>⟨_,e1,e2,?_⟩
 rw [show (⟨#[48]⟩:ByteArray).data.toList = [48] from rfl,hz]
 exact bN
section
variable {s a b z:ByteArray} {k:Nat}
theorem partsDot (hi:jF 146 [tx s,lt ⟨#[47,46]⟩] (.fv (.sc (pB k)))) (hk:k<s.size) (hs:s.size≤10000) (ha:s.extract 0 k=a) (hb:s.extract (k+1) s.size=b) (da:AllDig (aC a)) (da0:0<a.size) (db:AllDig (aC b)) (db0:0<b.size)
 (hdot:s[k]?=some 46) (hr:jF 148 [lt ⟨#[48]⟩,.fv (.sc (pB b.size))] (tx z)) (hz:z.size≤10000):jF 63 [tx s] (.tup [.sc (eU (a++b)),.sc (eU (⟨#[49]⟩++z)),.sc z0]):=by
 have hasz:a.size≤s.size:=by rw [← ha,ByteArray.size_extract];omega
 have hbsz:b.size≤s.size:=by rw [← hb,ByteArray.size_extract];omega
 refine jG Tryz.func63 fun w00=>?_
 refine jC 146 [tx s,lt ⟨#[47,46]⟩] (hi) ?_
 refine jK (.binOp .lss 3 (.tmp 10) (.const (.int .i64 0)) 3) (.tmp 10) (.const (.int .i64 0)) (.fv (.sc (pB k))) (it 0) (bl false) (fun ρ o β w ho hx hy=>⟨_,lss_run ho (aU hx) (aQ hy) (by rw [decide_eq_false_iff_not];omega),bK rfl⟩) ?_
 refine jK (.slice 9 (.tmp 16) none (some (.tmp 17)) none) (.tmp 16) (.tmp 17) (tx s) (.fv (.sc (pB k))) (tx a) (fun ρ o β w ho hx hy=>?_) ?_
 ·have:=oB (w:=w) ho Tryz.underlying9 (aU hx) (aU hy) (by omega)
  rw [ha] at this
  exact ⟨_,this,bN⟩
 refine jK (.binOp .add 3 (.tmp 20) (.const (.int .i64 1)) 3) (.tmp 20) (.const (.int .i64 1)) (.fv (.sc (pB k))) (it 1) (.fv (.sc (pB ((k+1:Nat):Int)))) (fun ρ o β w ho hx hy=>⟨_,rT ho (aU hx) (aQ hy) (by omega),bN⟩) ?_
 refine jK (.slice 9 (.tmp 19) (some (.tmp 21)) none none) (.tmp 19) (.tmp 21) (tx s) (.fv (.sc (pB ((k+1:Nat):Int)))) (tx b) (fun ρ o β w ho hx hy=>?_) ?_
 ·have:=oC (w:=w) ho Tryz.underlying9 (aU hx) (aU hy) (by omega)
  rw [hb] at this
  exact ⟨_,this,bN⟩
 refine jC 147 [tx a] (oV da da0) ?_
 refine jC 147 [tx b] (oV db db0) ?_
 refine jK (.index 9 (.tmp 33) (.tmp 34)) (.tmp 33) (.tmp 34) (tx s) (.fv (.sc (pB k))) (.fv (.sc (.lit (.int .u8 46)))) (fun ρ o β w ho hx hy=>⟨_,lH ho Tryz.underlying9 (aU hx) (aU hy) hdot,bK rfl⟩) ?_
 refine jK (.binOp .add 9 (.tmp 37) (.tmp 38) 9) (.tmp 37) (.tmp 38) (tx a) (tx b) (tx (a++b)) (fun ρ o β w ho hx hy=>⟨_,eO ho (aU hx) (aU hy) (by omega),bN⟩) ?_
 refine jO 40 b ?_
 refine jC 148 [lt ⟨#[48]⟩,.fv (.sc (pB b.size))] (hr) ?_
 refine jK (.binOp .add 9 (.const (.string ⟨#[49]⟩)) (.tmp 42) 9) (.const (.string ⟨#[49]⟩)) (.tmp 42) (lt ⟨#[49]⟩) (tx z) (tx (⟨#[49]⟩++z)) (fun ρ o β w ho hx hy=>⟨_,eO ho (aQ hx) (aU hy) (by have:(⟨#[49]⟩:ByteArray).size=1:=rfl;omega),bN⟩) ?_
 exact jR Tryz.func63
theorem parseF' {n d:Nat} (hs:s.size≤4096) (hp:Lib.hasPrefix s.data.toList [45]=false) (hpt:jF 63 [tx s] (.tup [.sc (eU (decB n)),.sc (eU (decB d)),.sc z0])) (hn:(decB n).size≤100000) (hd:(decB d).size≤100000) (ln:Lv 40 n) (ld:Lv 40 d) (d0:0<d)
 (lq:Lf 20 (mkRat (sg false n) d)) (w1:(decB (mkRat (sg false n) d).num.natAbs).size≤600) (w2:(decB (mkRat (sg false n) d).den).size≤600):jX 21 [tx s] (.tup [.sc (eU (writeB (mkRat (sg false n) d))),.sc z0]):=by
 refine jY Tryz.func21 fun w00 hI=>?_
 refine jO 9 s ?_
 refine jM 10 s.size 4096 false (by rw [decide_eq_false_iff_not];omega) ?_
 refine jC 62 [tx s,lt ⟨#[45]⟩] (cutPrefixNo hp) ?_
 refine jC 63 [tx s] (hpt) ?_
 refine jC 65 [tx (decB n)] (bV hn) ?_
 refine jC 65 [tx (decB d)] (bV hd) ?_
 refine jC 64 [bl false,nt n,nt d] (nX ln ld d0) ?_
 refine jC 66 [fra (mkRat (sg false n) d)] (iX) ?_
 refine jW hI 43 [num (mkRat (sg false n) d)] (mQ lq w1 w2) ?_
 exact jR Tryz.func21
end
end Ab
namespace Fr
open Go.RowKit Go.Shelf
attribute [local go_sem] Oper.semAt_some
def axV (x1 x2 x3 y1 y2 y3 z1 z2 z3:ByteArray):Fin 3→Value
 | 0 => .agg #[.string x1,.string x2,.string x3]
 | 1 => .agg #[.string y1,.string y2,.string y3]
 | 2 => .agg #[.string z1,.string z2,.string z3]
def axE (x1 x2 x3 y1 y2 y3 z1 z2 z3:ByteArray) (i:Fin 3):Array Value := #[.int .i64 ((i.val:Nat):Int),axV x1 x2 x3 y1 y2 y3 z1 z2 z3 i]
theorem ix0 (w:World) (x1 x2 x3 y1 y2 y3 z1 z2 z3:ByteArray):(Sem.run Tryz.prog (Instr.index 245 (.agg #[.string x1,.string x2,.string x3,.string y1,.string y2,.string y3,.string z1,.string z2,.string z3]) (.int .i64 0)) w) = .ok (.agg #[.string x1,.string x2,.string x3]) w:=by
 kernel_rfl
theorem ix1 (w:World) (x1 x2 x3 y1 y2 y3 z1 z2 z3:ByteArray):(Sem.run Tryz.prog (Instr.index 245 (.agg #[.string x1,.string x2,.string x3,.string y1,.string y2,.string y3,.string z1,.string z2,.string z3]) (.int .i64 1)) w) = .ok (.agg #[.string y1,.string y2,.string y3]) w:=by
 kernel_rfl
theorem ix2 (w:World) (x1 x2 x3 y1 y2 y3 z1 z2 z3:ByteArray):(Sem.run Tryz.prog (Instr.index 245 (.agg #[.string x1,.string x2,.string x3,.string y1,.string y2,.string y3,.string z1,.string z2,.string z3]) (.int .i64 2)) w) = .ok (.agg #[.string z1,.string z2,.string z3]) w:=by
 kernel_rfl
set_option maxRecDepth 100000 in
theorem axes1_in (F:Fence) (n:Nat) (h8:F.fn 214) (hro:F.round=none) (hn:1≤n) (l Bf n₀:Nat) (o1 o2 o3 x1 x2 x3 y1 y2 y3 z1 z2 z3:ByteArray) (J Jx:List (Fin 3)→World→Prop)
 (hY:∀ pre x W,J pre W→pre.length<3→YieldAt F (n-1) Tryz.prog l (axE x1 x2 x3 y1 y2 y3 z1 z2 z3 x) W fun e W' =>
  (e = .returned (.bool true)∧J (pre ++ [x]) W'∧Below n₀ W W')∨(e = .returned (.bool false)∧Jx (pre ++ [x]) W'))
 (W:World) (hJ:AbidesFrom W.heap.size J) (hn0:n₀≤W.heap.size) (hB:W.heap[Bf]?=some (.cells #[.string o1,.string o2,.string o3,.string x1,.string x2,.string x3,.string y1,.string y2,.string y3,.string z1,.string z2,.string z3] 53 (0,0))) (h0:J [] W) :
 CallsIn F n Tryz.prog 214 #[.func (.yield l) #[] #[],.pointer (some ⟨Bf,0,none⟩)] W fun e W'=>(∃ v,e = .returned v) ∧
  ((∃ ys,ys = [0,1,2]∧J ys W')∨(∃ pre,True∧Jx pre W')):=by
 refine callsIn_of_wp Tryz.func214 rfl h8 ?_ hro
 simp only [Tryz.ntmps214,List.size_toArray,List.length_cons,List.length_nil,Nat.reduceAdd,Nat.reduceSub,Array.replicate_succ,Array.replicate_zero,List.push_toArray,List.append_toArray,List.nil_append,List.cons_append]
 have c3:W.cell? ⟨Bf,3,none⟩=some (.string x1):=by simp [World.cell?,hB]
 have c4:W.cell? ⟨Bf,4,none⟩=some (.string x2):=by simp [World.cell?,hB]
 have c5:W.cell? ⟨Bf,5,none⟩=some (.string x3):=by simp [World.cell?,hB]
 have c6:W.cell? ⟨Bf,6,none⟩=some (.string y1):=by simp [World.cell?,hB]
 have c7:W.cell? ⟨Bf,7,none⟩=some (.string y2):=by simp [World.cell?,hB]
 have c8:W.cell? ⟨Bf,8,none⟩=some (.string y3):=by simp [World.cell?,hB]
 have c9:W.cell? ⟨Bf,9,none⟩=some (.string z1):=by simp [World.cell?,hB]
 have c10:W.cell? ⟨Bf,10,none⟩=some (.string z2):=by simp [World.cell?,hB]
 have c11:W.cell? ⟨Bf,11,none⟩=some (.string z3):=by simp [World.cell?,hB]
 clear hB
 gi_wp2
 gi_loopw [12] (fun i wr=>(i = .int .i64 0∧J [] wr∨i = .int .i64 1∧J [0] wr∨i = .int .i64 2∧J [0,1] wr∨i = .int .i64 3∧J [0,1,2] wr)∧n₀≤wr.heap.size) (fun i _=>3-(intOf i).toNat)
 case atStart=>exact ⟨.inl ⟨rfl,h0⟩,hn0⟩
 case round =>
  obtain ⟨hc,hnr⟩:=hrel
  rcases hc with ⟨rfl,hJs⟩|⟨rfl,hJs⟩|⟨rfl,hJs⟩|⟨rfl,hJs⟩
  ·have hix:=ix0 wr x1 x2 x3 y1 y2 y3 z1 z2 z3
   have hJa:=hJ [] wr (wr.alloc (.cells #[.string x1,.string x2,.string x3] 41)) none hJs (World.grownBy_alloc _ _ none) (fun r e=>by cases e)
   obtain ⟨fn,tmps,assign,body,hy,hR⟩:=hY [] 0 _ hJa (by simp)
   change (Sem.run Tryz.prog (Instr.yield l #[.int .i64 0,.agg #[.string x1,.string x2,.string x3]]) _)=_ at hy
   gi_wp2
   refine hR.mono ?_
   rintro e W3 (⟨rfl,hJ3,hk3⟩|⟨rfl,hJx3⟩)
   ·have hs3:n₀≤W3.heap.size:=by have:=hk3.size;simp at this;omega
    gi_wp2
    go_roundw
    case rel=>exact ⟨.inr (.inl ⟨rfl,hJ3⟩),hs3⟩
    case measure=>simp [intOf]
   ·gi_wp2
    refine bodyPost_ret (results_none rfl _ _ _) rfl ?_
    exact ⟨⟨_,rfl⟩,.inr ⟨_,trivial,hJx3⟩⟩
  ·have hix:=ix1 wr x1 x2 x3 y1 y2 y3 z1 z2 z3
   have hJa:=hJ [0] wr (wr.alloc (.cells #[.string y1,.string y2,.string y3] 41)) none hJs (World.grownBy_alloc _ _ none) (fun r e=>by cases e)
   obtain ⟨fn,tmps,assign,body,hy,hR⟩:=hY [0] 1 _ hJa (by simp)
   change (Sem.run Tryz.prog (Instr.yield l #[.int .i64 1,.agg #[.string y1,.string y2,.string y3]]) _)=_ at hy
   gi_wp2
   refine hR.mono ?_
   rintro e W3 (⟨rfl,hJ3,hk3⟩|⟨rfl,hJx3⟩)
   ·have hs3:n₀≤W3.heap.size:=by have:=hk3.size;simp at this;omega
    gi_wp2
    go_roundw
    case rel=>exact ⟨.inr (.inr (.inl ⟨rfl,hJ3⟩)),hs3⟩
    case measure=>simp [intOf]
   ·gi_wp2
    refine bodyPost_ret (results_none rfl _ _ _) rfl ?_
    exact ⟨⟨_,rfl⟩,.inr ⟨_,trivial,hJx3⟩⟩
  ·have hix:=ix2 wr x1 x2 x3 y1 y2 y3 z1 z2 z3
   have hJa:=hJ [0,1] wr (wr.alloc (.cells #[.string z1,.string z2,.string z3] 41)) none hJs (World.grownBy_alloc _ _ none) (fun r e=>by cases e)
   obtain ⟨fn,tmps,assign,body,hy,hR⟩:=hY [0,1] 2 _ hJa (by simp)
   change (Sem.run Tryz.prog (Instr.yield l #[.int .i64 2,.agg #[.string z1,.string z2,.string z3]]) _)=_ at hy
   gi_wp2
   refine hR.mono ?_
   rintro e W3 (⟨rfl,hJ3,hk3⟩|⟨rfl,hJx3⟩)
   ·have hs3:n₀≤W3.heap.size:=by have:=hk3.size;simp at this;omega
    gi_wp2
    go_roundw
    case rel=>exact ⟨.inr (.inr (.inr ⟨rfl,hJ3⟩)),hs3⟩
    case measure=>simp [intOf]
   ·gi_wp2
    refine bodyPost_ret (results_none rfl _ _ _) rfl ?_
    exact ⟨⟨_,rfl⟩,.inr ⟨_,trivial,hJx3⟩⟩
  ·gi_wp2
   go_end0
   exact ⟨⟨_,rfl⟩,.inl ⟨_,rfl,hJs⟩⟩
theorem axes_stops (F:Fence) (n:Nat) (h8:F.fn 214) (hro:F.round=none) (hn:1≤n) (Bf n₀:Nat) (o1 o2 o3 x1 x2 x3 y1 y2 y3 z1 z2 z3:ByteArray) (w:World) (hn0:n₀≤w.heap.size)
 (hB:w.heap[Bf]?=some (.cells #[.string o1,.string o2,.string o3,.string x1,.string x2,.string x3,.string y1,.string y2,.string y3,.string z1,.string z2,.string z3] 53 (0,0))) :
 SeqStopsK F n Tryz.prog 214 #[.pointer (some ⟨Bf,0,none⟩)] (axE x1 x2 x3 y1 y2 y3 z1 z2 z3) (Below n₀) (fun ys=>ys = [0,1,2]) (fun _=>True) 3 w:=fun l J Jx W hW hJ _ hY h0 =>
 axes1_in F n h8 hro hn l Bf n₀ o1 o2 o3 x1 x2 x3 y1 y2 y3 z1 z2 z3 J Jx hY W hJ (Nat.le_trans hn0 hW.size) ((hW.block Bf (by rcases Nat.lt_or_ge Bf w.heap.size with h|h;exact h;rw [Array.getElem?_eq_none h] at hB;cases hB)).trans hB) h0
theorem axes_any (o1 o2 o3 x1 x2 x3 y1 y2 y3 z1 z2 z3:ByteArray) (w:World):Calls Tryz.prog 164 #[.agg #[.string o1,.string o2,.string o3,.string x1,.string x2,.string x3,.string y1,.string y2,.string y3,.string z1,.string z2,.string z3]] w fun e w' =>
 e = .returned (.func (.func 214) #[] #[.pointer (some ⟨w.heap.size,0,none⟩)])∧w'=w.alloc (.cells #[.string o1,.string o2,.string o3,.string x1,.string x2,.string x3,.string y1,.string y2,.string y3,.string z1,.string z2,.string z3] 53 (0,0)):=by
 refine (callsIn_wide (n:=3)).1 ?_
 refine callsIn_of_wp Tryz.func164 rfl trivial ?_ rfl
 simp only [Tryz.ntmps164,List.size_toArray,List.length_cons,List.length_nil,Nat.reduceAdd,Nat.reduceSub,Array.replicate_succ,Array.replicate_zero,List.push_toArray,List.append_toArray,List.nil_append,List.cons_append]
 gi_wp2
 refine bodyPost_ret (results_tmp rfl _ _ _) rfl ?_
 exact ⟨rfl,rfl⟩
end Fr
namespace Fr
open Go.RowKit Go.Shelf Ab Pl
structure C9 where
 n1:Int
 d1:Int
 p1:Option Addr
 n2:Int
 d2:Int
 p2:Option Addr
 n3:Int
 d3:Int
 p3:Option Addr
def C9.cells (k:C9):List Value := [.int .i64 k.n1,.int .i64 k.d1,.pointer k.p1,.int .i64 k.n2,.int .i64 k.d2,.pointer k.p2,.int .i64 k.n3,.int .i64 k.d3,.pointer k.p3]
def C9.val (k:C9):Value := .agg #[.int .i64 k.n1,.int .i64 k.d1,.pointer k.p1,.int .i64 k.n2,.int .i64 k.d2,.pointer k.p2,.int .i64 k.n3,.int .i64 k.d3,.pointer k.p3]
def C9.zero:C9:=⟨0,0,none,0,0,none,0,0,none⟩
theorem vc9 {w:World} {v:Value} {a b c:Rat} (h:Vc w v a b c):∃ k:C9,v=k.val∧Vc w k.val a b c:=by
 obtain ⟨n1,d1,p1,n2,d2,p2,n3,d3,p3,rfl,h1,h2,h3⟩:=h
 exact ⟨⟨n1,d1,p1,n2,d2,p2,n3,d3,p3⟩,rfl,n1,d1,p1,n2,d2,p2,n3,d3,p3,rfl,h1,h2,h3⟩
theorem sA {β:List Nat} {w:World} {k:C9} {a b c:Rat} (h:Vc w k.val a b c):holdsL β [nb a,nb b,nb c] k.cells w:=by
 obtain ⟨cs,e,hl⟩:=(wL (β:=β)).2 h
 injection e with e
 have e:=congrArg Array.toList e
 have e:k.cells=cs:=e
 rw [e]
 exact hl
def fM (o x y z:C9):List Value:=o.cells++x.cells++y.cells++z.cells
theorem kM {a b c:Rat} (h:oW a b c) (w:World) (hG:Gl w):Calls Tryz.prog 68 #[.agg #[.string (writeB a),.string (writeB b),.string (writeB c)]] w fun e w' => ∃ k:C9,e = .returned (.tuple #[k.val,.int .i64 0])∧Vc w' k.val a b c∧Below w.heap.size w w':=by
 refine (gK h [] w [.agg #[.string (writeB a),.string (writeB b),.string (writeB c)]] hG ⟨_,_,rfl,⟨[.string (writeB a),.string (writeB b),.string (writeB c)],rfl,[.string (writeB a)],_,rfl,rfl,[.string (writeB b)],_,rfl,rfl,[.string (writeB c)],_,rfl,rfl,rfl⟩,rfl⟩).mono ?_
 rintro e w' ⟨v,e1,e2,vs,rfl,u,r,rfl,h1,u2,r2,rfl,h2,h3⟩
 obtain ⟨k,rfl,h4⟩:=vc9 (wL.1 h1)
 have h5:[u2] = [.int .i64 0]:=h2.1
 injection h5 with h5
 rw [show r2 = [] from h3,h5] at e1
 exact ⟨k,e1,h4,e2⟩
section
variable {o1 o2 o3 x1 x2 x3 y1 y2 y3 z1 z2 z3:Rat}
theorem fr_holds {β:List Nat} {w:World} {o x y z:C9} (ho:Vc w o.val o1 o2 o3) (hx:Vc w x.val x1 x2 x3) (hy:Vc w y.val y1 y2 y3) (hz:Vc w z.val z1 z2 z3) :
 (qB o1 o2 o3 x1 x2 x3 y1 y2 y3 z1 z2 z3).holds β (.agg (fM o x y z).toArray) w :=
 ⟨fM o x y z,rfl,(((sA ho).append (sA hx)).append (sA hy)).append (sA hz)⟩
theorem check_any {w:World} {o x y z:C9} (ho:Vc w o.val o1 o2 o3) (hx:Vc w x.val x1 x2 x3) (hy:Vc w y.val y1 y2 y3) (hz:Vc w z.val z1 z2 z3) (l:Lm 25 x1 x2 x3 y1 y2 y3 z1 z2 z3) (h:Ax x1 x2 x3 y1 y2 y3 z1 z2 z3) :
 Calls Tryz.prog 165 #[.agg (fM o x y z).toArray] w fun e w'=>e = .returned (.int .i64 0)∧Below w.heap.size w w':=by
 refine (checkF (o1:=o1) (o2:=o2) (o3:=o3) l h [] w [.agg (fM o x y z).toArray] ⟨_,_,rfl,fr_holds ho hx hy hz,rfl⟩).mono ?_
 rintro e w' ⟨v,e1,e2,h1⟩
 have h5:[v] = [.int .i64 0]:=h1.1
 injection h5 with h5
 exact ⟨by rw [e1,h5],e2⟩
end
attribute [local go_sem] Oper.semAt_some
theorem yA {P:Program} {ops:Array Oper} {rest:List Oper} {o:Oper} {a:Act} {w:World} {Q:Exit→Act→World→Prop} (hg:o.guard=none) (t:TypeId) (parts:Array (Nat×Operand)) (ho:o.op = .build t parts) (cs:Array Value)
 (hb:P.built t (parts.map fun (i,x)=>(i,a.eval x)).toList=some cs) (h:wpList P ops Q rest (a.put o.dst (.agg cs)) w):wpList P ops Q (o::rest) a w :=
 wpList_build hg t parts ho (by rw [hb];rfl) (by rw [hb];exact h)
theorem store_new3 {P:Program} {ops:Array Oper} {rest:List Oper} {o:Oper} {a:Act} {Q:Exit→Act→World→Prop} (hgd:o.guard=none) (ty:TypeId) (x y:Operand) (ho:o.op = .store ty x y) (w1:World) (A B:Obj) (old cells:Array Value)
 (hx:a.eval x = .pointer (some ⟨w1.heap.size+1+1,0,none⟩)) (hy:a.eval y = .agg cells) (hi:(P.info? ty).map (·.size)=some cells.size) (hold:old.size=cells.size) (h1:cells.all (·.oneCell')=true)
 (h:∀ W3:World,W3.heap.size=w1.heap.size+3→Below w1.heap.size w1 W3→W3.heap[w1.heap.size]?=some A→W3.heap[w1.heap.size+1]?=some B→W3.heap[w1.heap.size+2]?=some (.cells cells ty (0,0))→wpList P ops Q rest (a.put o.dst undef) W3) :
 wpList P ops Q (o::rest) a (((w1.alloc A).alloc B).alloc (.cells old ty (0,0))):=by
 have hg:(((w1.alloc A).alloc B).alloc (.cells old ty (0,0))).heap[w1.heap.size+1+1]?=some (.cells old ty (0,0)):=by
  have:=World.alloc_heap_new ((w1.alloc A).alloc B) (.cells old ty (0,0))
  rwa [World.size_alloc,World.size_alloc] at this
 refine wpList_store_row hgd ty x y ho (w1.heap.size+1+1) cells hx hy ty old hg hi hold h1 (h _ (by rw [setRow_size];simp) ?_ ?_ ?_ (setRow_heap _ _ _ _ _ _ hg))
 ·exact below_setRow ((((aB _ w1).alloc (aR _) _).alloc (by simp) _).alloc (by simp;omega) _) (by omega) _
 ·rw [setRow_other _ _ _ _ (by omega)]
  exact (Below.heap_alloc _ _ _ (by simp;omega)).trans ((Below.heap_alloc _ _ _ (by simp)).trans (World.alloc_heap_new w1 A))
 ·rw [setRow_other _ _ _ _ (by omega)]
  refine (Below.heap_alloc _ _ _ (by simp)).trans ?_
  have:=World.alloc_heap_new (w1.alloc A) B
  rwa [World.size_alloc] at this
structure Stopped (p:Prop):Prop where
 out:p
theorem stop_store {P:Program} {ops:Array Oper} {rest:List Oper} {o:Oper} {a:Act} {w:World} {Q:Exit→Act→World→Prop} (ty:TypeId) (x y:Operand) (ho:o.op = .store ty x y) (h:Stopped (wpList P ops Q (o::rest) a w)):wpList P ops Q (o::rest) a w:=h.out
theorem tJ {W W' : World} {row:Option Nat} (hg:W.grownBy W' row) (hrow:∀ r,row=some r→∃ o:Obj,W.heap[r]?=some o∧o.isCells=false):Go.Proofs.YtpdjlakffpmfdaaGreatDoor.Ext Kn W W':=by
 refine ⟨hg.size,fun g o h ho=>?_⟩
 have hc:o.isCells=true:=by cases o <;> first|rfl|(simp [Go.Proofs.YtpdjlakffpmfdaaGreatDoor.hotObj] at ho)
 exact (grownBy_keeps_cells hg hrow h hc).trans h
theorem Vc.kext {w w' : World} {v:Value} {a b c:Rat} (h:Vc w v a b c) (hx:Go.Proofs.YtpdjlakffpmfdaaGreatDoor.Ext Kn w w'):Vc w' v a b c:=h.ext (fun _=>rfl) (fun _=>rfl) hx
theorem load_all {P:Program} {ρ:Operand→Value} {o:Oper} {w:World} {T T' : TypeId} {x:Operand} {g:Nat} {cs:List Value} {d:TypeDesc} (ho:o.op = .load T x) (hx:ρ x = .pointer (some ⟨g,0,none⟩)) (hg:w.heap[g]?=some (.cells cs.toArray T' (0,0)))
 (hd:P.underlying T=some d) (hr:d.isRow=true) (hi:(P.info? T).map (·.size)=some cs.length):(execOp ρ o).run P w = .ok (.value (.agg cs.toArray)) w:=by
 have h:=run_loadVar_mid w g 0 T ((cs.drop 0).take cs.length) d (qP hg 0 cs.length) hd hr (by rw [hi,List.drop_zero,List.take_length])
 rw [List.drop_zero,List.take_length] at h
 simp only [execOp,ho,Instr.loadAt,hx,Instr.sureAddr]
 exact bT (by simpa [Sem.run_bind] using h)
theorem frL_one (o x y z:C9):∀ c∈fM o x y z,c.oneCell'=true:=by
 have h:(fM o x y z).all (·.oneCell')=true:=rfl
 exact fun c hc=>List.all_eq_true.1 h c hc
theorem fin3:∀ x:Fin 3,x=0∨x=1∨x=2:=by decide
theorem sB {w:World} {b i:Nat} {v:Value} (hlt:b<w.heap.size) (h:w.cell? ⟨b,i,none⟩=some v) (o:Obj):(w.alloc o).cell? ⟨b,i,none⟩=some v :=
 (((aB _ w).alloc (aR _) o).cell (p:=⟨b,i,none⟩) hlt).trans h
theorem gN {w:World} {b i:Nat} {cs:Array Value} {t:TypeId} (hlt:b<w.heap.size) (h:w.heap[b]?=some (.cells cs t (0,0))) (o:Obj):(w.alloc o).frozen? ⟨b,i,none⟩=false :=
 aW ((((aB _ w).alloc (aR _) o).block b hlt).trans h) i
theorem sC {n g:Nat} {o:Obj} {A X Y:World} (hb:Below n A X) (h:Turned g o X Y) (hn:n≤g):Below n A Y :=
 ⟨h.os.trans hb.os,h.tape.trans hb.tape,h.output.trans hb.output,by rw [h.size];exact hb.size,fun k hk=>(h.block k (by omega)).trans (hb.block k hk)⟩
theorem sD {g S:Nat} {o o0:Obj} {X Y:World} (h:Turned g o X Y) (h0:X.heap[g]?=some o0) (hc:o0.isCells=true):KeepsFrom S X Y:=by
 refine ⟨by rw [h.size];exact aR _,fun k o' _ hk ho=>?_⟩
 have:k≠g:=by
  rintro rfl
  rw [h0] at hk
  injection hk with hk
  rw [hk,ho] at hc
  cases hc
 exact (h.block k this).trans hk
theorem fN {S:Nat} {W W' : World} (h:Below W.heap.size W W'):KeepsFrom S W W':=⟨h.size,fun k o _ hk _=>(h.block k (Array.getElem?_eq_some_iff.1 hk).1).trans hk⟩
section
variable {w:World} {k:C9} {B E R:Nat} {o1 o2 o3 x1 x2 x3 y1 y2 y3 z1 z2 z3:Rat}
theorem lY (o x y z:C9) (T:TypeId):Go.Proofs.YtpdjlakffpmfdaaGreatDoor.hotObj Kn (.cells (fM o x y z).toArray T (0,0))=false:=by simp [Go.Proofs.YtpdjlakffpmfdaaGreatDoor.hotObj,fM,C9.cells,Kn]
theorem turn9 {w:World} {B:Nat} {T:TypeId} {cs cs' : Array Value} (off:Nat) (h:w.heap[B]?=some (.cells cs T (0,0))) (u0 u1 u2 u3 u4 u5 u6 u7 u8:Value)
 (e:((((((((cs.setIfInBounds off u0).setIfInBounds (off+1) u1).setIfInBounds (off+2) u2).setIfInBounds (off+3) u3).setIfInBounds (off+4) u4).setIfInBounds (off+5) u5).setIfInBounds (off+6) u6).setIfInBounds (off+7) u7).setIfInBounds (off+8) u8=cs') :
 Turned B (.cells cs' T (0,0)) w (((((((((w.setCell ⟨B,off,none⟩ u0).setCell ⟨B,off+1,none⟩ u1).setCell ⟨B,off+2,none⟩ u2).setCell ⟨B,off+3,none⟩ u3).setCell ⟨B,off+4,none⟩ u4).setCell ⟨B,off+5,none⟩ u5).setCell ⟨B,off+6,none⟩ u6).setCell ⟨B,off+7,none⟩ u7).setCell ⟨B,off+8,none⟩ u8):=by
 subst e
 have t0:=cQ (i:=off) h u0
 have t1:=t0.trans (cQ (i:=off+1) t0.at_ u1)
 have t2:=t1.trans (cQ (i:=off+2) t1.at_ u2)
 have t3:=t2.trans (cQ (i:=off+3) t2.at_ u3)
 have t4:=t3.trans (cQ (i:=off+4) t3.at_ u4)
 have t5:=t4.trans (cQ (i:=off+5) t4.at_ u5)
 have t6:=t5.trans (cQ (i:=off+6) t5.at_ u6)
 have t7:=t6.trans (cQ (i:=off+7) t6.at_ u7)
 exact t7.trans (cQ (i:=off+8) t7.at_ u8)
end
end Fr
namespace Fr
open Go.RowKit Go.Shelf Ab Pl
attribute [local go_sem] Oper.semAt_some
def m9 (m:C9):Obj := .cells #[.int .i64 m.n1,.int .i64 m.d1,.pointer m.p1,.int .i64 m.n2,.int .i64 m.d2,.pointer m.p2,.int .i64 m.n3,.int .i64 m.d3,.pointer m.p3] 100 (0,0)
def st9 (X:World) (B a b c d e f g h i:Nat) (m:C9):World:=((((((((X.setCell ⟨B,a,none⟩ (.int .i64 m.n1)).setCell ⟨B,b,none⟩ (.int .i64 m.d1)).setCell ⟨B,c,none⟩ (.pointer m.p1)).setCell ⟨B,d,none⟩ (.int .i64 m.n2)).setCell ⟨B,e,none⟩ (.int .i64 m.d2)).setCell ⟨B,f,none⟩ (.pointer m.p2)).setCell ⟨B,g,none⟩ (.int .i64 m.n3)).setCell ⟨B,h,none⟩ (.int .i64 m.d3)).setCell ⟨B,i,none⟩ (.pointer m.p3)
abbrev N9 (cs:Array Value) (t:C9) (a b c d e f g h i:Nat):Prop:=cs[a]?=some (.int .i64 t.n1)∧cs[b]?=some (.int .i64 t.d1)∧cs[c]?=some (.pointer t.p1)∧cs[d]?=some (.int .i64 t.n2)∧cs[e]?=some (.int .i64 t.d2)∧cs[f]?=some (.pointer t.p2)∧cs[g]?=some (.int .i64 t.n3)∧cs[h]?=some (.int .i64 t.d3)∧cs[i]?=some (.pointer t.p3)
theorem up9 {w:World} {B a b c d e f g h i:Nat} {cs:Array Value} {T:TypeId} (t:C9) (hlt:B<w.heap.size) (hb:w.heap[B]?=some (.cells cs T (0,0))) (hc:N9 cs t a b c d e f g h i):(∀ o,(w.alloc o).cell? ⟨B,a,none⟩=some (.int .i64 t.n1))∧(∀ o,(w.alloc o).frozen? ⟨B,a,none⟩=false)∧(∀ o,(w.alloc o).cell? ⟨B,b,none⟩=some (.int .i64 t.d1))∧(∀ o,(w.alloc o).frozen? ⟨B,b,none⟩=false)∧(∀ o,(w.alloc o).cell? ⟨B,c,none⟩=some (.pointer t.p1))∧(∀ o,(w.alloc o).frozen? ⟨B,c,none⟩=false)∧(∀ o,(w.alloc o).cell? ⟨B,d,none⟩=some (.int .i64 t.n2))∧(∀ o,(w.alloc o).frozen? ⟨B,d,none⟩=false)∧(∀ o,(w.alloc o).cell? ⟨B,e,none⟩=some (.int .i64 t.d2))∧(∀ o,(w.alloc o).frozen? ⟨B,e,none⟩=false)∧(∀ o,(w.alloc o).cell? ⟨B,f,none⟩=some (.pointer t.p2))∧(∀ o,(w.alloc o).frozen? ⟨B,f,none⟩=false)∧(∀ o,(w.alloc o).cell? ⟨B,g,none⟩=some (.int .i64 t.n3))∧(∀ o,(w.alloc o).frozen? ⟨B,g,none⟩=false)∧(∀ o,(w.alloc o).cell? ⟨B,h,none⟩=some (.int .i64 t.d3))∧(∀ o,(w.alloc o).frozen? ⟨B,h,none⟩=false)∧(∀ o,(w.alloc o).cell? ⟨B,i,none⟩=some (.pointer t.p3))∧(∀ o,(w.alloc o).frozen? ⟨B,i,none⟩=false):=by
 obtain ⟨c0,c1,c2,c3,c4,c5,c6,c7,c8⟩:=hc
 have k:∀ {j:Nat} {v:Value},cs[j]?=some v→∀ o,(w.alloc o).cell? ⟨B,j,none⟩=some v:=fun hj=>sB hlt (by simp [World.cell?,hb,hj])
 exact ⟨k c0,gN hlt hb,k c1,gN hlt hb,k c2,gN hlt hb,k c3,gN hlt hb,k c4,gN hlt hb,k c5,gN hlt hb,k c6,gN hlt hb,k c7,gN hlt hb,k c8,gN hlt hb⟩
def RV (a b c:Rat) (z:Int) (W:World) (e:Ending) (w' : World):Prop := ∃ k:C9,e = .returned (.tuple #[k.val,.int .i64 z])∧Vc w' k.val a b c∧Below W.heap.size W w'
theorem qM {x y z:Int} (hx:Ev x) (hy:Ev y) (hz:f2 x y=z) (w:World) (g:Nat) (T:TypeId) (hh:w.heap[g]?=some (.cells #[.int .i64 x,.int .i64 y] T (0,0))):Calls Tryz.prog 76 #[.slice (some ⟨g,0,none⟩) 2 2] w fun e w'=>e = .returned (.int .i64 z)∧Below w.heap.size w w':=by
 refine (zI (T:=T) hx hy hz [] w [.slice (some ⟨g,0,none⟩) 2 2] ⟨_,_,rfl,⟨g,[.int .i64 x,.int .i64 y],rfl,hh,[.int .i64 x],_,rfl,⟨rfl,rfl⟩,[.int .i64 y],_,rfl,⟨rfl,rfl⟩,rfl⟩,rfl⟩).mono ?_
 rintro e w' ⟨v,e1,e2,h1⟩
 have h5:[v] = [.int .i64 z]:=h1.1
 injection h5 with h5
 exact ⟨by rw [e1,h5],e2⟩
def InvE (ev:List (Fin 3)→Int) (w:World) (k:C9) (B E R:Nat) (o1 o2 o3 x1 x2 x3 y1 y2 y3 z1 z2 z3:Rat) (pre:List (Fin 3)) (W:World):Prop :=
 ∃ x y z:C9,W.heap[B]?=some (.cells (fM k x y z).toArray 121 (0,0))∧((0:Fin 3)∈pre→Vc W x.val x1 x2 x3)∧((1:Fin 3)∈pre→Vc W y.val y1 y2 y3)∧((2:Fin 3)∈pre→Vc W z.val z1 z2 z3) ∧
   W.heap[E]?=some (.cells #[.int .i64 (ev pre)] 24 (0,0))∧W.heap[R]?=some (.cells (fM C9.zero C9.zero C9.zero C9.zero).toArray 121 (0,0))∧Vc W k.val o1 o2 o3∧Below w.heap.size w W
section
variable {w:World} {k:C9} {B E R:Nat} {o1 o2 o3 x1 x2 x3 y1 y2 y3 z1 z2 z3:Rat}
theorem oK {u v:Int} {W w2 X1 w5:World} {a b c a' b' c' : C9} {o9 o2:Obj} {S n:Nat} (hbl:Below W.heap.size W w2) (hB:W.heap[B]?=some (.cells (fM k a b c).toArray 121 (0,0))) (hE:W.heap[E]?=some (.cells #[.int .i64 u] 24 (0,0))) (hEB:¬ E=B)
 (hT:Turned B (.cells (fM k a' b' c').toArray 121 (0,0)) (w2.alloc o9) X1) (h5:Below (X1.alloc o2).heap.size (X1.alloc o2) w5) (hn:n≤W.heap.size) (hnB:n≤B) (hnE:n≤E) :
 (w5.setCell ⟨E,0,none⟩ (.int .i64 v)).heap[B]?=some (.cells (fM k a' b' c').toArray 121 (0,0))∧(w5.setCell ⟨E,0,none⟩ (.int .i64 v)).heap[E]?=some (.cells #[.int .i64 v] 24 (0,0)) ∧
 (∀ g,g<W.heap.size→¬ g=B→¬ g=E→(w5.setCell ⟨E,0,none⟩ (.int .i64 v)).heap[g]?=W.heap[g]?)∧Go.Proofs.YtpdjlakffpmfdaaGreatDoor.Ext Kn w2 (w5.setCell ⟨E,0,none⟩ (.int .i64 v))∧Go.Proofs.YtpdjlakffpmfdaaGreatDoor.Ext Kn W w2∧KeepsFrom S W (w5.setCell ⟨E,0,none⟩ (.int .i64 v))∧Below n W (w5.setCell ⟨E,0,none⟩ (.int .i64 v)):=by
 have hBlt:=(Array.getElem?_eq_some_iff.1 hB).1
 have hElt:=(Array.getElem?_eq_some_iff.1 hE).1
 have hs2:=hbl.size
 have ba:Below w2.heap.size w2 (w2.alloc o9):=(aB _ _).alloc (aR _) _
 have sa:(w2.alloc o9).heap.size=w2.heap.size+1:=by simp
 have hBa:(w2.alloc o9).heap[B]?=some (.cells (fM k a b c).toArray 121 (0,0)):=(ba.block B (by omega)).trans ((hbl.block B hBlt).trans hB)
 have sx:X1.heap.size=w2.heap.size+1:=hT.size.trans sa
 have bb:Below X1.heap.size X1 (X1.alloc o2):=(aB _ _).alloc (aR _) _
 have sb:(X1.alloc o2).heap.size=w2.heap.size+2:=by simp [sx]
 have hs5:=h5.size
 have keep:∀ g,g<W.heap.size→¬ g=B→w5.heap[g]?=W.heap[g]?:=fun g hg hne=>(h5.block g (by omega)).trans ((bb.block g (by omega)).trans ((hT.block g hne).trans ((ba.block g (by omega)).trans (hbl.block g hg))))
 have hE5:w5.heap[E]?=some (.cells #[.int .i64 u] 24 (0,0)):=(keep E hElt hEB).trans hE
 have hTE:Turned E (.cells #[.int .i64 v] 24 (0,0)) w5 (w5.setCell ⟨E,0,none⟩ (.int .i64 v)):=cQ (i:=0) hE5 (.int .i64 v)
 have hB5:w5.heap[B]?=some (.cells (fM k a' b' c').toArray 121 (0,0)):=(h5.block B (by omega)).trans ((bb.block B (by omega)).trans hT.at_)
 have bn:Below n W w5:=(sC ((hbl.mono hn).trans (ba.mono (by omega))) hT hnB).trans ((bb.mono (by omega)).trans (h5.mono (by omega)))
 refine ⟨(hTE.block B (fun e=>hEB e.symm)).trans hB5,hTE.at_,fun g hg h1 h2=>(hTE.block g h2).trans (keep g hg h1),?_,Go.Proofs.YtpdjlakffpmfdaaGreatDoor.Ext.of_below hbl,?_,sC bn hTE hnE⟩
 ·exact (Go.Proofs.YtpdjlakffpmfdaaGreatDoor.Ext.of_below ba).trans ((hT.ext hBa (lY _ _ _ _ _)).trans ((Go.Proofs.YtpdjlakffpmfdaaGreatDoor.Ext.of_below bb).trans ((Go.Proofs.YtpdjlakffpmfdaaGreatDoor.Ext.of_below h5).trans (hTE.ext hE5 (by simp [Go.Proofs.YtpdjlakffpmfdaaGreatDoor.hotObj,Kn])))))
 ·exact (fN hbl).trans ((fN ba).trans ((sD hT hBa rfl).trans ((fN bb).trans ((fN h5).trans (sD hTE hE5 rfl)))))
theorem sE {ev:List (Fin 3)→Int} {S:Nat} (hS:w.heap.size≤S):OwnFrom S (InvE ev w k B E R o1 o2 o3 x1 x2 x3 y1 y2 y3 z1 z2 z3):=by
 rintro pre W W' row ⟨x,y,z,hB,v0,v1,v2,hE,hR,hk,hb⟩ hg hr
 have hr' : ∀ r,row=some r→∃ o:Obj,W.heap[r]?=some o∧o.isCells=false:=fun r e=>(hr r e).2
 have hx:=tJ hg hr'
 refine ⟨x,y,z,(grownBy_keeps_cells hg hr' hB rfl).trans hB,fun h=>Vc.kext (v0 h) hx,fun h=>Vc.kext (v1 h) hx,fun h=>Vc.kext (v2 h) hx,(grownBy_keeps_cells hg hr' hE rfl).trans hE,(grownBy_keeps_cells hg hr' hR rfl).trans hR,Vc.kext hk hx,?_⟩
 exact hb.grown hg hb.size (fun k e=>Nat.le_trans hS (hr k e).1)
end
set_option maxRecDepth 100000 in
theorem yB (a1 a2 a3 b1 b2 b3 c1 c2 c3 d1 d2 d3:ByteArray) (o1 o2 o3 x1 x2 x3 y1 y2 y3 z1 z2 z3:Rat) (eo ex ey ez zq zc:Int) (heo:Ev eo) (hex:Ev ex) (hey:Ev ey) (hez:Ev ez) (hZ:f2 (f2 (f2 eo ex) ey) ez=zq)
 (cO' : ∀ W,Gl W→Calls Tryz.prog 68 #[.agg #[.string a1,.string a2,.string a3]] W (RV o1 o2 o3 eo W)) (cX' : ∀ W,Gl W→Calls Tryz.prog 68 #[.agg #[.string b1,.string b2,.string b3]] W (RV x1 x2 x3 ex W))
 (cY' : ∀ W,Gl W→Calls Tryz.prog 68 #[.agg #[.string c1,.string c2,.string c3]] W (RV y1 y2 y3 ey W)) (cZ' : ∀ W,Gl W→Calls Tryz.prog 68 #[.agg #[.string d1,.string d2,.string d3]] W (RV z1 z2 z3 ez W))
 (hC:zq=0→∀ (W:World) (o x y z:C9),Vc W o.val o1 o2 o3→Vc W x.val x1 x2 x3→Vc W y.val y1 y2 y3→Vc W z.val z1 z2 z3→Calls Tryz.prog 165 #[.agg (fM o x y z).toArray] W fun e w'=>e = .returned (.int .i64 zc)∧Below W.heap.size W w') (w:World) (hG:Gl w) :
 Calls Tryz.prog 86 #[.agg #[.string a1,.string a2,.string a3,.string b1,.string b2,.string b3,.string c1,.string c2,.string c3,.string d1,.string d2,.string d3]] w fun e w' => ∃ o x y z:C9,e = .returned (.tuple #[.agg (if zq=0 then fM o x y z else fM C9.zero C9.zero C9.zero C9.zero).toArray,.int .i64 (if zq=0 then zc else zq)])∧Vc w' o.val o1 o2 o3∧Vc w' x.val x1 x2 x3∧Vc w' y.val y1 y2 y3∧Vc w' z.val z1 z2 z3∧Below w.heap.size w w':=by
 have cO:=aH cO'
 have cX:=aH cX'
 have cY:=aH cY'
 have cZ:=aH cZ'
 have HC:=aH hC
 clear cO' cX' cY' cZ' hC
 obtain ⟨ev,hevd⟩:∃ ev:List (Fin 3)→Int,ev=fun pre=>pre.foldl (fun e i=>f2 e (if i=0 then ex else if i=1 then ey else ez)) eo:=⟨_,rfl⟩
 have ev0:ev []=eo:=by rw [hevd];rfl
 have evs:∀ (pre:List (Fin 3)) (i:Fin 3),ev (pre ++ [i])=f2 (ev pre) (if i=0 then ex else if i=1 then ey else ez):=fun pre i=>by rw [hevd];simp [List.foldl_append]
 have ev3:ev [0,1,2]=zq:=by rw [hevd,← hZ];rfl
 have hev:∀ pre,Ev (ev pre):=fun pre=>by
  rw [hevd]
  show Ev (pre.foldl _ eo)
  revert heo
  generalize eo=e0
  induction pre generalizing e0 with
  | nil=>exact fun h=>h
  | cons i l ih =>
    intro h
    refine ih _ (f2_ev h ?_)
    split
    ·exact hex
    ·split <;> assumption
 have p0:∀ pre,ev (pre ++ [0])=f2 (ev pre) ex:=fun pre=>evs pre 0
 have p1:∀ pre,ev (pre ++ [1])=f2 (ev pre) ey:=fun pre=>evs pre 1
 have p2:∀ pre,ev (pre ++ [2])=f2 (ev pre) ez:=fun pre=>evs pre 2
 clear hevd hZ evs
 refine (callsIn_wide (n:=6)).1 ?_
 refine callsIn_of_wp_marks Tryz.func86 rfl trivial ?_ rfl
 simp only [Tryz.ntmps86,List.size_toArray,List.length_cons,List.length_nil,Nat.reduceAdd,Nat.reduceSub,Array.replicate_succ,Array.replicate_zero,List.push_toArray,List.append_toArray,List.nil_append,List.cons_append]
 refine wpIn_wide.2 ?_
 go_wp2_with fail
 obtain ⟨Z,hZ⟩:∃ Z:Array Value,Z=(fM C9.zero C9.zero C9.zero C9.zero).toArray:=⟨_,rfl⟩
 have hW1:∃ W1,W1=(w.alloc (.cells #[.string a1,.string a2,.string a3,.string b1,.string b2,.string b3,.string c1,.string c2,.string c3,.string d1,.string d2,.string d3] 53 (0,0))).alloc (.cells Z 121 (0,0)):=⟨_,rfl⟩
 obtain ⟨W1,hW1⟩:=hW1
 change Calls _ _ _ ((w.alloc (.cells #[.string a1,.string a2,.string a3,.string b1,.string b2,.string b3,.string c1,.string c2,.string c3,.string d1,.string d2,.string d3] 53 (0,0))).alloc (.cells (fM C9.zero C9.zero C9.zero C9.zero).toArray 121 (0,0))) _
 rw [← hZ,← hW1]
 have hs1:W1.heap.size=w.heap.size+2:=by rw [hW1];simp
 have hb1:Below w.heap.size w W1:=by rw [hW1];exact ((aB _ w).alloc (aR _) _).alloc (by simp) _
 have hf1:W1.heap[w.heap.size]?=some (.cells #[.string a1,.string a2,.string a3,.string b1,.string b2,.string b3,.string c1,.string c2,.string c3,.string d1,.string d2,.string d3] 53 (0,0)):=by rw [hW1];exact (Below.heap_alloc _ _ _ (by simp)).trans (World.alloc_heap_new w _)
 have hr1:W1.heap[w.heap.size+1]?=some (.cells Z 121 (0,0)):=by rw [hW1];have:=World.alloc_heap_new (w.alloc (.cells #[.string a1,.string a2,.string a3,.string b1,.string b2,.string b3,.string c1,.string c2,.string c3,.string d1,.string d2,.string d3] 53 (0,0))) (.cells Z 121 (0,0));rwa [World.size_alloc] at this
 clear hW1
 refine (cO.out W1 (hG.below hb1)).mono ?_
 rintro e w1 ⟨k,rfl,hk,hb⟩
 have hs2:=hb.size
 have hf2:=(hb.block w.heap.size (by omega)).trans hf1
 have hr2:=(hb.block (w.heap.size+1) (by omega)).trans hr1
 have hb2:=hb1.trans (hb.mono (by omega))
 clear hf1 hr1 hb1 hb
 simp only [C9.val]
 have HID:=aH (aI hf2 (aI hr2 (aI hb2 hk)))
 clear hf2 hr2 hb2 hk
 have HZ:=aH hZ
 clear hZ
 go_wp2_with (first|(refine yA rfl 121 _ rfl (fM k C9.zero C9.zero C9.zero).toArray (by kernel_rfl) ?_)|(refine stop_store 121 _ _ rfl ?_))
 refine ⟨store_new3 rfl 121 _ _ rfl w1 _ _ _ (fM k C9.zero C9.zero C9.zero).toArray rfl rfl (by kernel_rfl) (by kernel_rfl) (by kernel_rfl) ?_⟩
 intro W3 g1 g2 g3 g4 g5
 have hf3:=(g2.block w.heap.size (by omega)).trans HID.out.1
 have f0:W3.cell? ⟨w.heap.size,0,none⟩=some (.string a1):=by simp [World.cell?,hf3]
 have f1:W3.cell? ⟨w.heap.size,1,none⟩=some (.string a2):=by simp [World.cell?,hf3]
 have f2:W3.cell? ⟨w.heap.size,2,none⟩=some (.string a3):=by simp [World.cell?,hf3]
 have f3:W3.cell? ⟨w.heap.size,3,none⟩=some (.string b1):=by simp [World.cell?,hf3]
 have f4:W3.cell? ⟨w.heap.size,4,none⟩=some (.string b2):=by simp [World.cell?,hf3]
 have f5:W3.cell? ⟨w.heap.size,5,none⟩=some (.string b3):=by simp [World.cell?,hf3]
 have f6:W3.cell? ⟨w.heap.size,6,none⟩=some (.string c1):=by simp [World.cell?,hf3]
 have f7:W3.cell? ⟨w.heap.size,7,none⟩=some (.string c2):=by simp [World.cell?,hf3]
 have f8:W3.cell? ⟨w.heap.size,8,none⟩=some (.string c3):=by simp [World.cell?,hf3]
 have f9:W3.cell? ⟨w.heap.size,9,none⟩=some (.string d1):=by simp [World.cell?,hf3]
 have f10:W3.cell? ⟨w.heap.size,10,none⟩=some (.string d2):=by simp [World.cell?,hf3]
 have f11:W3.cell? ⟨w.heap.size,11,none⟩=some (.string d3):=by simp [World.cell?,hf3]
 clear hf3
 have HID2:=aH (aI g1 (aI g2 (aI g3 (aI g4 g5))))
 clear g1 g2 g3 g4 g5
 go_wp2_with fail
 refine (axes_any _ _ _ _ _ _ _ _ _ _ _ _ _).mono ?_
 rintro e w4 ⟨rfl,rfl⟩
 go_wp2_with fail
 obtain ⟨v0,h0⟩:∃ v0:Value,v0 = .agg #[.string a1,.string a2,.string a3,.string b1,.string b2,.string b3,.string c1,.string c2,.string c3,.string d1,.string d2,.string d3]:=⟨_,rfl⟩
 obtain ⟨v11,h11⟩:∃ v:Value,v = .tuple #[.agg #[.int .i64 k.n1,.int .i64 k.d1,.pointer k.p1,.int .i64 k.n2,.int .i64 k.d2,.pointer k.p2,.int .i64 k.n3,.int .i64 k.d3,.pointer k.p3],.int .i64 eo]:=⟨_,rfl⟩
 obtain ⟨v13,h13⟩:∃ v:Value,v = .agg #[.string a1,.string a2,.string a3]:=⟨_,rfl⟩
 obtain ⟨v15,h15⟩:∃ v:Value,v = .agg #[.int .i64 k.n1,.int .i64 k.d1,.pointer k.p1,.int .i64 k.n2,.int .i64 k.d2,.pointer k.p2,.int .i64 k.n3,.int .i64 k.d3,.pointer k.p3]:=⟨_,rfl⟩
 obtain ⟨v18,h18⟩:∃ v:Value,v = .agg (fM k C9.zero C9.zero C9.zero).toArray:=⟨_,rfl⟩
 rw [← h0,← h11,← h13,← h15,← h18]
 obtain ⟨g1,g2,g3,g4,g5⟩:=HID2.out
 obtain ⟨hf2,hr2,hb2,hk⟩:=HID.out
 have hsz2:=hb2.size
 have hsW3:w1.heap.size+3=W3.heap.size:=g1.symm
 obtain ⟨W4,hW4⟩:∃ W4,W3.alloc (.cells #[.string a1,.string a2,.string a3,.string b1,.string b2,.string b3,.string c1,.string c2,.string c3,.string d1,.string d2,.string d3] 53 (0,0))=W4:=⟨_,rfl⟩
 have hF:W4.heap[W3.heap.size]?=some (.cells #[.string a1,.string a2,.string a3,.string b1,.string b2,.string b3,.string c1,.string c2,.string c3,.string d1,.string d2,.string d3] 53 (0,0)):=by rw [← hW4];exact World.alloc_heap_new _ _
 have hs4:W4.heap.size=W3.heap.size+1:=by rw [← hW4];simp
 have hb4:Below W3.heap.size W3 W4:=by rw [← hW4];exact (aB _ _).alloc (aR _) _
 have hb3:Below w1.heap.size w1 W4:=g2.trans (hb4.mono (by omega))
 have hinv:InvE ev w k (w1.heap.size+1+1) (w1.heap.size+1) (w.heap.size+1) o1 o2 o3 x1 x2 x3 y1 y2 y3 z1 z2 z3 [] W4:=by
  refine ⟨C9.zero,C9.zero,C9.zero,(hb4.block _ (by omega)).trans g5,fun h=>absurd h (by simp),fun h=>absurd h (by simp),fun h=>absurd h (by simp),(by rw [ev0];exact (hb4.block _ (by omega)).trans g4),?_,hk.below hb3,hb2.trans (hb3.mono (by omega))⟩
  rw [← HZ.out]
  exact (hb3.block _ (by omega)).trans hr2
 rw [hW4]
 have hEB:¬ (w1.heap.size+1:Nat)=w1.heap.size+1+1:=by omega
 have hRB:¬ (w.heap.size+1:Nat)=w1.heap.size+1+1:=by omega
 have hRE:¬ (w.heap.size+1:Nat)=w1.heap.size+1:=by omega
 have hBs:w1.heap.size+1+1<W4.heap.size:=by omega
 have hEs:w1.heap.size+1<W4.heap.size:=by omega
 have hRs:w.heap.size+1<W4.heap.size:=by omega
 have hE0:w.heap.size≤w1.heap.size+1:=by omega
 have hB0:w.heap.size≤w1.heap.size+1+1:=by omega
 have hwW4:w.heap.size≤W4.heap.size:=by omega
 clear g1 g2 g3 g4 g5 hf2 hr2 hb2 hk hsz2 hsW3 hb4 hb3 hW4 h0 h11 h13 h15 h18 HID HID2 f0 f1 f2 f3 f4 f5 f6 f7 f8 f9 f10 f11 hs1 hs2 hs4
 generalize w1.heap.size+1+1=B at *
 generalize w1.heap.size+1=E at *
 generalize w1.heap.size=p4 at *
 generalize W3.heap.size=q3 at *
 refine (wpIn_wide (n:=6)).1 ?_
 refine wpIn_rangeFunc_ownH (F:=Fence.wide) rfl (by omega) (gf:=214) (lb := #[.pointer (some ⟨q3,0,none⟩)]) rfl trivial (enters_of Tryz.func214 (by kernel_rfl) rfl)
  (axes_stops Fence.wide (6-1) trivial rfl (by omega) q3 w.heap.size a1 a2 a3 b1 b2 b3 c1 c2 c3 d1 d2 d3 W4 hwW4 hF) belowK_t (belowK_b (by omega)) (aB _ _) (fun _=>rfl)
  (InvE ev w k B E (w.heap.size+1) o1 o2 o3 x1 x2 x3 y1 y2 y3 z1 z2 z3) (fun _ _ _=>False) (sE hwW4) (fun _ _ _ _ _ hs _ _=>hs) hinv
  (fun x a' W => ∃ Bx,((x=0∧W.heap[Bx]?=some (.cells #[.string b1,.string b2,.string b3] 41 (0,0))∧a' = { tmps := #[v0,.pointer (some ⟨w.heap.size,0,none⟩),.pointer (some ⟨w.heap.size+1,0,none⟩),.int .i64 0,.pointer (some ⟨p4,0,none⟩),.pointer (some ⟨E,0,none⟩),.pointer (some ⟨B,0,none⟩),.int .i64 0,.pointer (some ⟨Bx,0,none⟩),undef,undef,v11,.pointer (some ⟨w.heap.size,0,none⟩),v13,v11,v15,.int .i64 eo,v15,v18,v0,.func (.func 214) #[] #[.pointer (some ⟨q3,0,none⟩)],.int .i64 0,.agg #[.string b1,.string b2,.string b3],undef,undef,undef,undef,undef,undef,undef,undef,undef,undef,undef,undef,undef,undef,undef,undef,undef,undef,undef,undef],defers := [] })∨(x=1∧W.heap[Bx]?=some (.cells #[.string c1,.string c2,.string c3] 41 (0,0))∧a' = { tmps := #[v0,.pointer (some ⟨w.heap.size,0,none⟩),.pointer (some ⟨w.heap.size+1,0,none⟩),.int .i64 0,.pointer (some ⟨p4,0,none⟩),.pointer (some ⟨E,0,none⟩),.pointer (some ⟨B,0,none⟩),.int .i64 1,.pointer (some ⟨Bx,0,none⟩),undef,undef,v11,.pointer (some ⟨w.heap.size,0,none⟩),v13,v11,v15,.int .i64 eo,v15,v18,v0,.func (.func 214) #[] #[.pointer (some ⟨q3,0,none⟩)],.int .i64 1,.agg #[.string c1,.string c2,.string c3],undef,undef,undef,undef,undef,undef,undef,undef,undef,undef,undef,undef,undef,undef,undef,undef,undef,undef,undef,undef],defers := [] })∨(x=2∧W.heap[Bx]?=some (.cells #[.string d1,.string d2,.string d3] 41 (0,0))∧a' = { tmps := #[v0,.pointer (some ⟨w.heap.size,0,none⟩),.pointer (some ⟨w.heap.size+1,0,none⟩),.int .i64 0,.pointer (some ⟨p4,0,none⟩),.pointer (some ⟨E,0,none⟩),.pointer (some ⟨B,0,none⟩),.int .i64 2,.pointer (some ⟨Bx,0,none⟩),undef,undef,v11,.pointer (some ⟨w.heap.size,0,none⟩),v13,v11,v15,.int .i64 eo,v15,v18,v0,.func (.func 214) #[] #[.pointer (some ⟨q3,0,none⟩)],.int .i64 2,.agg #[.string d1,.string d2,.string d3],undef,undef,undef,undef,undef,undef,undef,undef,undef,undef,undef,undef,undef,undef,undef,undef,undef,undef,undef,undef],defers := [] }))) ?hAx ?assign ?body ?done ?stop
 case hAx =>
  rintro x a' _ X Y row ⟨Bx,h2⟩ hg hr
  refine ⟨Bx,?_⟩
  rcases h2 with ⟨rfl,h3,h4⟩|⟨rfl,h3,h4⟩|⟨rfl,h3,h4⟩
  ·exact .inl ⟨rfl,(grownBy_keeps_cells hg (fun r e=>(hr r e).2) h3 rfl).trans h3,h4⟩
  ·exact .inr (.inl ⟨rfl,(grownBy_keeps_cells hg (fun r e=>(hr r e).2) h3 rfl).trans h3,h4⟩)
  ·exact .inr (.inr ⟨rfl,(grownBy_keeps_cells hg (fun r e=>(hr r e).2) h3 rfl).trans h3,h4⟩)
 case assign =>
  rintro l pre x W K hi hK
  have hiw:w.heap.size≤W.heap.size:=by obtain ⟨_,_,_,_,_,_,_,_,_,_,hb⟩:=hi;exact hb.size
  rcases fin3 x with rfl|rfl|rfl
  ·simp only [axE,axV]
   gi_wp2
   exact hK _ _ ((KeepsOthers.alloc _ _).from _) ((aB _ W).alloc hiw _) ((sE hwW4).alloc _ hi) ⟨W.heap.size,.inl ⟨by first|rfl|trivial,World.alloc_heap_new _ _,rfl⟩⟩
  ·simp only [axE,axV]
   gi_wp2
   exact hK _ _ ((KeepsOthers.alloc _ _).from _) ((aB _ W).alloc hiw _) ((sE hwW4).alloc _ hi) ⟨W.heap.size,.inr (.inl ⟨by first|rfl|trivial,World.alloc_heap_new _ _,rfl⟩)⟩
  ·simp only [axE,axV]
   gi_wp2
   exact hK _ _ ((KeepsOthers.alloc _ _).from _) ((aB _ W).alloc hiw _) ((sE hwW4).alloc _ hi) ⟨W.heap.size,.inr (.inr ⟨by first|rfl|trivial,World.alloc_heap_new _ _,rfl⟩)⟩
 case body =>
  rintro l pre x a' W _ _ ⟨x',y',z',hB,u0,u1,u2,hE,hR,hk,hbW⟩ ⟨Bx,h3⟩ _
  obtain ⟨u,hu⟩:∃ u,ev pre=u:=⟨_,rfl⟩
  have hue:=hev pre
  rw [hu] at hE hue
  have hBlt:=(Array.getElem?_eq_some_iff.1 hB).1
  have hElt:=(Array.getElem?_eq_some_iff.1 hE).1
  have hRlt:=(Array.getElem?_eq_some_iff.1 hR).1
  have hGW:=aH (hG.below hbW)
  have HW:=aH (aI hE (aI hR (aI hk hbW)))
  have HU:=aH (aI u0 (aI u1 u2))
  have HBB:=aH hB
  clear hB u0 u1 u2 hE hR hk hbW
  rcases h3 with ⟨rfl,h3,rfl⟩|⟨rfl,h3,rfl⟩|⟨rfl,h3,rfl⟩
  ·have cb0:W.cell? ⟨Bx,0,none⟩=some (.string b1):=by simp [World.cell?,h3]
   have cb1:W.cell? ⟨Bx,1,none⟩=some (.string b2):=by simp [World.cell?,h3]
   have cb2:W.cell? ⟨Bx,2,none⟩=some (.string b3):=by simp [World.cell?,h3]
   clear h3
   gi_wp2
   refine ⟨trivial,(CallsIn.inRound l (callsIn_wide.2 (cX.out W hGW.out))).mono ?_⟩
   rintro e w2 ⟨m,rfl,hm,hbl⟩
   have hs2:=hbl.size
   have hB2:=(hbl.block B hBlt).trans HBB.out
   have hE2:=(hbl.block E hElt).trans HW.out.1
   obtain ⟨q0,r0,q1,r1,q2,r2,q3,r3,q4,r4,q5,r5,q6,r6,q7,r7,q8,r8⟩:=up9 x' (show B<w2.heap.size by omega) hB2 (⟨rfl,rfl,rfl,rfl,rfl,rfl,rfl,rfl,rfl⟩:N9 _ _ 9 10 11 12 13 14 15 16 17)
   have qE:∀ o,(w2.alloc o).cell? ⟨E,0,none⟩=some (.int .i64 u):=sB (by omega) (by simp [World.cell?,hE2])
   have H2:=aH (aI hm (aI hbl (aI hB2 hE2)))
   clear hm hbl hB2 hE2
   simp only [C9.val]
   gi_wp2
   obtain ⟨hm,hbl,hB2,hE2⟩:=H2.out
   obtain ⟨hE,hR,hk,hbW⟩:=HW.out
   obtain ⟨u0,u1,u2⟩:=HU.out
   have hBa:(w2.alloc (m9 m)).heap[B]?=some (.cells (fM k x' y' z').toArray 121 (0,0)):=(((aB _ w2).alloc (aR _) _).block B (by omega)).trans hB2
   have hT:Turned B (.cells (fM k m y' z').toArray 121 (0,0)) (w2.alloc (m9 m)) (st9 (w2.alloc (m9 m)) B 9 10 11 12 13 14 15 16 17 m):=turn9 9 hBa _ _ _ _ _ _ _ _ _ (by kernel_rfl)
   obtain ⟨X1,hX1⟩:∃ X1,st9 (w2.alloc (m9 m)) B 9 10 11 12 13 14 15 16 17 m=X1:=⟨_,rfl⟩
   rw [hX1] at hT
   unfold st9 m9 at hX1
   rw [hX1]
   have hsX:X1.heap.size=w2.heap.size+1:=by rw [hT.size];simp
   have hh:(X1.alloc (.cells #[.int .i64 u,.int .i64 ex] 24 (0,0))).heap[w2.heap.size+1]?=some (.cells #[.int .i64 u,.int .i64 ex] 24 (0,0)):=by rw [← hsX];exact World.alloc_heap_new _ _
   clear hX1 hBa
   obtain ⟨v,hv⟩:∃ v,f2 u ex=v:=⟨_,rfl⟩
   refine ⟨trivial,(CallsIn.inRound l (callsIn_wide.2 (qM hue hex hv _ (w2.heap.size+1) 24 hh))).mono ?_⟩
   rintro e w5 ⟨rfl,h5⟩
   obtain ⟨r1,r2,r3,r4,r4',r5,r6⟩:=oK (u:=u) (v:=v) (k:=k) (S:=W4.heap.size) (n:=w.heap.size) hbl HBB.out hE hEB hT h5 hbW.size hB0 hE0
   have hE5:w5.heap[E]?=some (.cells #[.int .i64 u] 24 (0,0)):=by have hs5:=h5.size;exact (h5.block E (by simp;omega)).trans ((((aB _ X1).alloc (aR _) _).block E (by omega)).trans ((hT.block E hEB).trans ((((aB _ w2).alloc (aR _) _).block E (by omega)).trans hE2)))
   have qE5:w5.cell? ⟨E,0,none⟩=some (.int .i64 u):=by simp [World.cell?,hE5]
   have rE5:w5.frozen? ⟨E,0,none⟩=false:=aW hE5 0
   have HF:KeepsFrom W4.heap.size W (w5.setCell ⟨E,0,none⟩ (.int .i64 v))∧Below w.heap.size W (w5.setCell ⟨E,0,none⟩ (.int .i64 v))∧InvE ev w k B E (w.heap.size+1) o1 o2 o3 x1 x2 x3 y1 y2 y3 z1 z2 z3 (pre ++ [0]) (w5.setCell ⟨E,0,none⟩ (.int .i64 v)) :=
    ⟨r5,r6,m,y',z',r1,fun _=>Vc.kext hm r4,fun h=>Vc.kext (Vc.kext (u1 (by simpa using h)) r4') r4,fun h=>Vc.kext (Vc.kext (u2 (by simpa using h)) r4') r4,(by rw [p0 pre,hu,hv];exact r2),(r3 _ hRlt hRB hRE).trans hR,Vc.kext (Vc.kext hk r4') r4,hbW.trans r6⟩
   have HG:=aH HF
   clear HF r1 r2 r3 r4 r4' r5 r6 hE5 hT hm hbl hB2 hE2 hE hR hk hbW u0 u1 u2 hh h5 hsX HW HU H2 hu hue
   gi_wp2
   exact HG.out
  ·have cb0:W.cell? ⟨Bx,0,none⟩=some (.string c1):=by simp [World.cell?,h3]
   have cb1:W.cell? ⟨Bx,1,none⟩=some (.string c2):=by simp [World.cell?,h3]
   have cb2:W.cell? ⟨Bx,2,none⟩=some (.string c3):=by simp [World.cell?,h3]
   clear h3
   gi_wp2
   refine ⟨trivial,(CallsIn.inRound l (callsIn_wide.2 (cY.out W hGW.out))).mono ?_⟩
   rintro e w2 ⟨m,rfl,hm,hbl⟩
   have hs2:=hbl.size
   have hB2:=(hbl.block B hBlt).trans HBB.out
   have hE2:=(hbl.block E hElt).trans HW.out.1
   obtain ⟨q0,r0,q1,r1,q2,r2,q3,r3,q4,r4,q5,r5,q6,r6,q7,r7,q8,r8⟩:=up9 y' (show B<w2.heap.size by omega) hB2 (⟨rfl,rfl,rfl,rfl,rfl,rfl,rfl,rfl,rfl⟩:N9 _ _ 18 19 20 21 22 23 24 25 26)
   have qE:∀ o,(w2.alloc o).cell? ⟨E,0,none⟩=some (.int .i64 u):=sB (by omega) (by simp [World.cell?,hE2])
   have H2:=aH (aI hm (aI hbl (aI hB2 hE2)))
   clear hm hbl hB2 hE2
   simp only [C9.val]
   gi_wp2
   obtain ⟨hm,hbl,hB2,hE2⟩:=H2.out
   obtain ⟨hE,hR,hk,hbW⟩:=HW.out
   obtain ⟨u0,u1,u2⟩:=HU.out
   have hBa:(w2.alloc (m9 m)).heap[B]?=some (.cells (fM k x' y' z').toArray 121 (0,0)):=(((aB _ w2).alloc (aR _) _).block B (by omega)).trans hB2
   have hT:Turned B (.cells (fM k x' m z').toArray 121 (0,0)) (w2.alloc (m9 m)) (st9 (w2.alloc (m9 m)) B 18 19 20 21 22 23 24 25 26 m):=turn9 18 hBa _ _ _ _ _ _ _ _ _ (by kernel_rfl)
   obtain ⟨X1,hX1⟩:∃ X1,st9 (w2.alloc (m9 m)) B 18 19 20 21 22 23 24 25 26 m=X1:=⟨_,rfl⟩
   rw [hX1] at hT
   unfold st9 m9 at hX1
   rw [hX1]
   have hsX:X1.heap.size=w2.heap.size+1:=by rw [hT.size];simp
   have hh:(X1.alloc (.cells #[.int .i64 u,.int .i64 ey] 24 (0,0))).heap[w2.heap.size+1]?=some (.cells #[.int .i64 u,.int .i64 ey] 24 (0,0)):=by rw [← hsX];exact World.alloc_heap_new _ _
   clear hX1 hBa
   obtain ⟨v,hv⟩:∃ v,f2 u ey=v:=⟨_,rfl⟩
   refine ⟨trivial,(CallsIn.inRound l (callsIn_wide.2 (qM hue hey hv _ (w2.heap.size+1) 24 hh))).mono ?_⟩
   rintro e w5 ⟨rfl,h5⟩
   obtain ⟨r1,r2,r3,r4,r4',r5,r6⟩:=oK (u:=u) (v:=v) (k:=k) (S:=W4.heap.size) (n:=w.heap.size) hbl HBB.out hE hEB hT h5 hbW.size hB0 hE0
   have hE5:w5.heap[E]?=some (.cells #[.int .i64 u] 24 (0,0)):=by have hs5:=h5.size;exact (h5.block E (by simp;omega)).trans ((((aB _ X1).alloc (aR _) _).block E (by omega)).trans ((hT.block E hEB).trans ((((aB _ w2).alloc (aR _) _).block E (by omega)).trans hE2)))
   have qE5:w5.cell? ⟨E,0,none⟩=some (.int .i64 u):=by simp [World.cell?,hE5]
   have rE5:w5.frozen? ⟨E,0,none⟩=false:=aW hE5 0
   have HF:KeepsFrom W4.heap.size W (w5.setCell ⟨E,0,none⟩ (.int .i64 v))∧Below w.heap.size W (w5.setCell ⟨E,0,none⟩ (.int .i64 v))∧InvE ev w k B E (w.heap.size+1) o1 o2 o3 x1 x2 x3 y1 y2 y3 z1 z2 z3 (pre ++ [1]) (w5.setCell ⟨E,0,none⟩ (.int .i64 v)) :=
    ⟨r5,r6,x',m,z',r1,fun h=>Vc.kext (Vc.kext (u0 (by simpa using h)) r4') r4,fun _=>Vc.kext hm r4,fun h=>Vc.kext (Vc.kext (u2 (by simpa using h)) r4') r4,(by rw [p1 pre,hu,hv];exact r2),(r3 _ hRlt hRB hRE).trans hR,Vc.kext (Vc.kext hk r4') r4,hbW.trans r6⟩
   have HG:=aH HF
   clear HF r1 r2 r3 r4 r4' r5 r6 hE5 hT hm hbl hB2 hE2 hE hR hk hbW u0 u1 u2 hh h5 hsX HW HU H2 hu hue
   gi_wp2
   exact HG.out
  ·have cb0:W.cell? ⟨Bx,0,none⟩=some (.string d1):=by simp [World.cell?,h3]
   have cb1:W.cell? ⟨Bx,1,none⟩=some (.string d2):=by simp [World.cell?,h3]
   have cb2:W.cell? ⟨Bx,2,none⟩=some (.string d3):=by simp [World.cell?,h3]
   clear h3
   gi_wp2
   refine ⟨trivial,(CallsIn.inRound l (callsIn_wide.2 (cZ.out W hGW.out))).mono ?_⟩
   rintro e w2 ⟨m,rfl,hm,hbl⟩
   have hs2:=hbl.size
   have hB2:=(hbl.block B hBlt).trans HBB.out
   have hE2:=(hbl.block E hElt).trans HW.out.1
   obtain ⟨q0,r0,q1,r1,q2,r2,q3,r3,q4,r4,q5,r5,q6,r6,q7,r7,q8,r8⟩:=up9 z' (show B<w2.heap.size by omega) hB2 (⟨rfl,rfl,rfl,rfl,rfl,rfl,rfl,rfl,rfl⟩:N9 _ _ 27 28 29 30 31 32 33 34 35)
   have qE:∀ o,(w2.alloc o).cell? ⟨E,0,none⟩=some (.int .i64 u):=sB (by omega) (by simp [World.cell?,hE2])
   have H2:=aH (aI hm (aI hbl (aI hB2 hE2)))
   clear hm hbl hB2 hE2
   simp only [C9.val]
   gi_wp2
   obtain ⟨hm,hbl,hB2,hE2⟩:=H2.out
   obtain ⟨hE,hR,hk,hbW⟩:=HW.out
   obtain ⟨u0,u1,u2⟩:=HU.out
   have hBa:(w2.alloc (m9 m)).heap[B]?=some (.cells (fM k x' y' z').toArray 121 (0,0)):=(((aB _ w2).alloc (aR _) _).block B (by omega)).trans hB2
   have hT:Turned B (.cells (fM k x' y' m).toArray 121 (0,0)) (w2.alloc (m9 m)) (st9 (w2.alloc (m9 m)) B 27 28 29 30 31 32 33 34 35 m):=turn9 27 hBa _ _ _ _ _ _ _ _ _ (by kernel_rfl)
   obtain ⟨X1,hX1⟩:∃ X1,st9 (w2.alloc (m9 m)) B 27 28 29 30 31 32 33 34 35 m=X1:=⟨_,rfl⟩
   rw [hX1] at hT
   unfold st9 m9 at hX1
   rw [hX1]
   have hsX:X1.heap.size=w2.heap.size+1:=by rw [hT.size];simp
   have hh:(X1.alloc (.cells #[.int .i64 u,.int .i64 ez] 24 (0,0))).heap[w2.heap.size+1]?=some (.cells #[.int .i64 u,.int .i64 ez] 24 (0,0)):=by rw [← hsX];exact World.alloc_heap_new _ _
   clear hX1 hBa
   obtain ⟨v,hv⟩:∃ v,f2 u ez=v:=⟨_,rfl⟩
   refine ⟨trivial,(CallsIn.inRound l (callsIn_wide.2 (qM hue hez hv _ (w2.heap.size+1) 24 hh))).mono ?_⟩
   rintro e w5 ⟨rfl,h5⟩
   obtain ⟨r1,r2,r3,r4,r4',r5,r6⟩:=oK (u:=u) (v:=v) (k:=k) (S:=W4.heap.size) (n:=w.heap.size) hbl HBB.out hE hEB hT h5 hbW.size hB0 hE0
   have hE5:w5.heap[E]?=some (.cells #[.int .i64 u] 24 (0,0)):=by have hs5:=h5.size;exact (h5.block E (by simp;omega)).trans ((((aB _ X1).alloc (aR _) _).block E (by omega)).trans ((hT.block E hEB).trans ((((aB _ w2).alloc (aR _) _).block E (by omega)).trans hE2)))
   have qE5:w5.cell? ⟨E,0,none⟩=some (.int .i64 u):=by simp [World.cell?,hE5]
   have rE5:w5.frozen? ⟨E,0,none⟩=false:=aW hE5 0
   have HF:KeepsFrom W4.heap.size W (w5.setCell ⟨E,0,none⟩ (.int .i64 v))∧Below w.heap.size W (w5.setCell ⟨E,0,none⟩ (.int .i64 v))∧InvE ev w k B E (w.heap.size+1) o1 o2 o3 x1 x2 x3 y1 y2 y3 z1 z2 z3 (pre ++ [2]) (w5.setCell ⟨E,0,none⟩ (.int .i64 v)) :=
    ⟨r5,r6,x',y',m,r1,fun h=>Vc.kext (Vc.kext (u0 (by simpa using h)) r4') r4,fun h=>Vc.kext (Vc.kext (u1 (by simpa using h)) r4') r4,fun _=>Vc.kext hm r4,(by rw [p2 pre,hu,hv];exact r2),(r3 _ hRlt hRB hRE).trans hR,Vc.kext (Vc.kext hk r4') r4,hbW.trans r6⟩
   have HG:=aH HF
   clear HF r1 r2 r3 r4 r4' r5 r6 hE5 hT hm hbl hB2 hE2 hE hR hk hbW u0 u1 u2 hh h5 hsX HW HU H2 hu hue
   gi_wp2
   exact HG.out
 case done =>
  rintro D ys W hD rfl ⟨x',y',z',hB,u0,u1,u2,hE,hR,hk,hbW⟩ hK
  rw [ev3] at hE
  have vx:=u0 (by simp)
  have vy:=u1 (by simp)
  have vz:=u2 (by simp)
  by_cases hZ0:zq=0
  ·subst hZ0
   have qE:W.cell? ⟨E,0,none⟩=some (.int .i64 0):=by simp [World.cell?,hE]
   have HW:=aH (aI hB (aI hR (aI hk (aI vx (aI vy (aI vz (aI hbW hK)))))))
   clear u0 u1 u2 hB hR hk vx vy vz hbW hK hE
   go_wp2_with fail
   refine wp_region_ty Kn [w.heap.size+1] (by kernel_rfl) (by kernel_rfl) ?_
   refine aZ (.agg (fM k x' y' z').toArray) rfl (fun A w' hB hk=>?_) ?_
   ·simp [known,specOf,Kd.spec,Sp.is,isVar,Oper.looksAt,Op.operands,Call.operands,Act.eval] at hk
    exact load_all rfl (by first|exact hk|simpa [Act.eval] using hk) (hB.blk HW.out.1 (by simp;omega)) Tryz.underlying121 rfl (by kernel_rfl)
   refine aZ (.agg (fM k x' y' z').toArray) rfl (fun A w' hB hk=>?_) ?_
   ·simp [known,specOf,Kd.spec,Sp.is,isVar,Oper.looksAt,Op.operands,Call.operands,Act.eval] at hk
    exact load_all rfl (by first|exact hk|simpa [Act.eval] using hk) (hB.blk HW.out.1 (by simp;omega)) Tryz.underlying121 rfl (by kernel_rfl)
   refine aN (Sp.is (.int .i64 zc)) (Sp.is_stable _ _) rfl (fun A w' hB hk=>?_) ?_
   ·simp [known,specOf,Kd.spec,Sp.is,isVar,Oper.looksAt,Op.operands,Call.operands,Act.eval] at hk
    simp [go_sem,hk]
    refine aE ?_
    have hx:=Base.extT hB HW.out.2.1 (lY _ _ _ _ _)
    exact (HC.out (by first|trivial|rfl) _ _ _ _ _ (Vc.kext HW.out.2.2.1 hx) (Vc.kext HW.out.2.2.2.1 hx) (Vc.kext HW.out.2.2.2.2.1 hx) (Vc.kext HW.out.2.2.2.2.2.1 hx)).mono (fun e w'' ⟨e1,e2⟩=>⟨_,e1,e2,rfl⟩)
   refine fE (w.heap.size+1) (.cells (fM C9.zero C9.zero C9.zero C9.zero).toArray 121 (0,0)) (fun o _=>o = .cells (fM k x' y' z').toArray 121 (0,0)) (fun _ _ _ h _=>h) rfl rfl (by simp) HW.out.2.1 (lY _ _ _ _ _) (fun A w' hB hk h0=>?_) ?_
   ·simp [known,specOf,Kd.spec,Sp.is,isVar,Oper.looksAt,Op.operands,Call.operands,Act.eval] at hk
    have hst:=kX (P:=Tryz.prog) (ρ:=A.eval) (w:=w') (o := { dst:=none,op:=Op.store 121 (Operand.tmp 2) (Operand.tmp 40),type:=0,pos := "frame.go:38",after := #[{ on:=0,ground:=Ground.data },{ on:=2,ground:=Ground.chain },{ on:=0,ground:=Ground.phase },{ on:=1,ground:=Ground.textOnly Departure.lateStores },{ on:=2,ground:=Ground.textOnly Departure.lateStoresUnsure }],guard:=none }) (T':=121) (g:=w.heap.size+1) (off:=0) (n:=36) (cs:=fM C9.zero C9.zero C9.zero C9.zero) (es:=fM k x' y' z') rfl (by simp [Act.eval,hk]) (by simp [Act.eval,hk,Value.cells]) (by kernel_rfl) rfl (frL_one _ _ _ _) h0 (show 0+36≤36 by omega)
    have e:List.take 0 (fM C9.zero C9.zero C9.zero C9.zero)++fM k x' y' z'++List.drop (0+(fM k x' y' z').length) (fM C9.zero C9.zero C9.zero C9.zero)=fM k x' y' z':=by kernel_rfl
    rw [e] at hst
    rw [hst.1]
    exact ⟨_,⟨hst.2.os,hst.2.tape,hst.2.output,hst.2.size,hst.2.at_,hst.2.block⟩,rfl⟩
   refine aP _ ?_ (by first|exact .inl rfl|exact .inr rfl) (by rfl) (by simp [specOf,Kd.spec];rfl) ?_ rfl ?_
   ·exact Sp.is_stable _ _
   refine ⟨by first|rfl|decide,fun f w2 hB hF hAp=>?_⟩;simp [Final1,Sp.is,isVar] at hF;simp only [frameOf]
   obtain ⟨f3,hw2,_,_,_⟩:=hF
   have hDR:¬ D=w.heap.size+1:=by
    intro e
    have h1:=HW.out.2.1
    have h2:=HW.out.2.2.2.2.2.2.2
    rw [e,h1] at h2
    injection h2 with h2
    cases h2
   have hK2:=hB.blk HW.out.2.2.2.2.2.2.2 (by simp;omega)
   have HV:=aH (aI hw2 (aI hB hK2))
   clear hAp
   have HBB:=aH hB
   clear hB
   go_wp2
   have hB:=HBB.out
   refine ⟨by simp,.inl ⟨_,_,rfl,run_takeDeferred hK2,?_⟩⟩
   have hg5:(w2.putObj D (.deferred none)).heap[w.heap.size+1]?=some (.cells (fM k x' y' z').toArray 121 (0,0)):=(World.putObj_heap_other (by omega)).trans hw2
   have hl:=run_loadVar_mid (P:=Tryz.prog) (w2.putObj D (.deferred none)) (w.heap.size+1) 0 121 (((fM k x' y' z').drop 0).take 36) _ (qP hg5 0 36) Tryz.underlying121 rfl (by kernel_rfl)
   have e36:((fM k x' y' z').drop 0).take 36=fM k x' y' z':=by kernel_rfl
   rw [e36] at hl
   have hbe:=Base.belowT hB HW.out.2.2.2.2.2.2.1 (by omega)
   have hx1:=Base.extT hB HW.out.2.1 (lY _ _ _ _ _)
   have hx2:Go.Proofs.YtpdjlakffpmfdaaGreatDoor.Ext Kn w2 (w2.putObj D (.deferred none)):=tJ (grownBy_putObj' w2 D _) (fun r e=>by cases e;exact ⟨_,hK2,rfl⟩)
   have hDw:w.heap.size≤D:=by omega
   refine ⟨.tuple #[.agg (fM k x' y' z').toArray,.int .i64 zc],?_,k,x',y',z',rfl,Vc.kext (Vc.kext HW.out.2.2.1 hx1) hx2,Vc.kext (Vc.kext HW.out.2.2.2.1 hx1) hx2,Vc.kext (Vc.kext HW.out.2.2.2.2.1 hx1) hx2,Vc.kext (Vc.kext HW.out.2.2.2.2.2.1 hx1) hx2,hbe.trans (belowK_b (w:=w) (aR _) w2 D _ _ hDw hK2 rfl rfl)⟩
   refine (kF (vs := [.agg (fM k x' y' z').toArray,.int .i64 zc]) ?_).trans rfl
   show (List.mapM (vP _) [.cell 2 121,.tmp 3]).run _ _=_
   simp [List.mapM_cons,vP,Act.put,asAddr,Sem.run_bind,Result.andThen,hl,f3]
  ·have n1:(zq==0)=false:=by rw [beq_eq_false_iff_ne];exact hZ0
   have qE:W.cell? ⟨E,0,none⟩=some (.int .i64 zq):=by simp [World.cell?,hE]
   have HW:=aH (aI hE (aI hR (aI hk (aI vx (aI vy (aI vz (aI hbW hK)))))))
   clear u0 u1 u2 hB hR hk vx vy vz hbW hK hE
   go_wp2_with fail
   refine wp_region_ty Kn [w.heap.size+1] (by kernel_rfl) (by kernel_rfl) ?_
   refine aZ (.agg (fM C9.zero C9.zero C9.zero C9.zero).toArray) rfl (fun A w' hB hk=>?_) ?_
   ·refine bT ?_
    exact bY (by kernel_rfl) _
   refine aZ (.int .i64 zq) rfl (fun A w' hB hk=>?_) ?_
   ·simp [known,specOf,Kd.spec,Sp.is,isVar,Oper.looksAt,Op.operands,Call.operands,Act.eval] at hk
    have hc:=hB.blk HW.out.1 (by simp;omega)
    have hc:w'.cell? ⟨E,0,none⟩=some (.int .i64 zq):=by simp [World.cell?,hc]
    simp [go_sem,hk,hc]
   refine fE (w.heap.size+1) (.cells (fM C9.zero C9.zero C9.zero C9.zero).toArray 121 (0,0)) (fun o _=>o = .cells (fM C9.zero C9.zero C9.zero C9.zero).toArray 121 (0,0)) (fun _ _ _ h _=>h) rfl rfl (by simp) HW.out.2.1 (lY _ _ _ _ _) (fun A w' hB hk h0=>?_) ?_
   ·simp [known,specOf,Kd.spec,Sp.is,isVar,Oper.looksAt,Op.operands,Call.operands,Act.eval] at hk
    have hst:=kX (P:=Tryz.prog) (ρ:=A.eval) (w:=w') (o := { dst:=none,op:=Op.store 121 (Operand.tmp 2) (Operand.tmp 38),type:=0,pos := "frame.go:36",after := #[{ on:=0,ground:=Ground.data },{ on:=0,ground:=Ground.phase },{ on:=1,ground:=Ground.textOnly Departure.lateStores }],guard:=none }) (T':=121) (g:=w.heap.size+1) (off:=0) (n:=36) (cs:=fM C9.zero C9.zero C9.zero C9.zero) (es:=fM C9.zero C9.zero C9.zero C9.zero) rfl (by simp [Act.eval,hk]) (by simp [Act.eval,hk,Value.cells]) (by kernel_rfl) rfl (frL_one _ _ _ _) h0 (show 0+36≤36 by omega)
    have e:List.take 0 (fM C9.zero C9.zero C9.zero C9.zero)++fM C9.zero C9.zero C9.zero C9.zero++List.drop (0+(fM C9.zero C9.zero C9.zero C9.zero).length) (fM C9.zero C9.zero C9.zero C9.zero)=fM C9.zero C9.zero C9.zero C9.zero:=by kernel_rfl
    rw [e] at hst
    rw [hst.1]
    exact ⟨_,⟨hst.2.os,hst.2.tape,hst.2.output,hst.2.size,hst.2.at_,hst.2.block⟩,rfl⟩
   refine aP _ ?_ (by first|exact .inl rfl|exact .inr rfl) (by rfl) (by simp [specOf,Kd.spec];rfl) ?_ rfl ?_
   ·exact Sp.is_stable _ _
   refine ⟨by first|rfl|decide,fun f w2 hB hF hAp=>?_⟩;simp [Final1,Sp.is,isVar] at hF;simp only [frameOf]
   obtain ⟨f3,hw2,_⟩:=hF
   have hDR:¬ D=w.heap.size+1:=by
    intro e
    have h1:=HW.out.2.1
    have h2:=HW.out.2.2.2.2.2.2.2
    rw [e,h1] at h2
    injection h2 with h2
    cases h2
   have hK2:=hB.blk HW.out.2.2.2.2.2.2.2 (by simp;omega)
   have HV:=aH (aI hw2 (aI hB hK2))
   clear hAp
   have HBB:=aH hB
   clear hB
   go_wp2
   have hB:=HBB.out
   refine ⟨by simp,.inl ⟨_,_,rfl,run_takeDeferred hK2,?_⟩⟩
   have hg5:(w2.putObj D (.deferred none)).heap[w.heap.size+1]?=some (.cells (fM C9.zero C9.zero C9.zero C9.zero).toArray 121 (0,0)):=(World.putObj_heap_other (by omega)).trans hw2
   have hl:=run_loadVar_mid (P:=Tryz.prog) (w2.putObj D (.deferred none)) (w.heap.size+1) 0 121 (((fM C9.zero C9.zero C9.zero C9.zero).drop 0).take 36) _ (qP hg5 0 36) Tryz.underlying121 rfl (by kernel_rfl)
   have e36:((fM C9.zero C9.zero C9.zero C9.zero).drop 0).take 36=fM C9.zero C9.zero C9.zero C9.zero:=by kernel_rfl
   rw [e36] at hl
   have hbe:=Base.belowT hB HW.out.2.2.2.2.2.2.1 (by omega)
   have hx1:=Base.extT hB HW.out.2.1 (lY _ _ _ _ _)
   have hx2:Go.Proofs.YtpdjlakffpmfdaaGreatDoor.Ext Kn w2 (w2.putObj D (.deferred none)):=tJ (grownBy_putObj' w2 D _) (fun r e=>by cases e;exact ⟨_,hK2,rfl⟩)
   have hDw:w.heap.size≤D:=by omega
   refine ⟨.tuple #[.agg (fM C9.zero C9.zero C9.zero C9.zero).toArray,.int .i64 zq],?_,rfl,⟨k,Vc.kext (Vc.kext HW.out.2.2.1 hx1) hx2⟩,⟨x',Vc.kext (Vc.kext HW.out.2.2.2.1 hx1) hx2⟩,⟨y',Vc.kext (Vc.kext HW.out.2.2.2.2.1 hx1) hx2⟩,⟨z',Vc.kext (Vc.kext HW.out.2.2.2.2.2.1 hx1) hx2⟩,hbe.trans (belowK_b (w:=w) (aR _) w2 D _ _ hDw hK2 rfl rfl)⟩
   refine (kF (vs := [.agg (fM C9.zero C9.zero C9.zero C9.zero).toArray,.int .i64 zq]) ?_).trans rfl
   show (List.mapM (vP _) [.cell 2 121,.tmp 3]).run _ _=_
   simp [List.mapM_cons,vP,Act.put,asAddr,Sem.run_bind,Result.andThen,hl,f3]
 case stop=>rintro D c pre W _ _ h _;exact h.elim
end Fr
namespace Fr
open Go.RowKit Go.Shelf Ab Pl
set_option maxRecDepth 100000 in
theorem yC (o1 o2 o3 x1 x2 x3 y1 y2 y3 z1 z2 z3:Rat) (ho:oW o1 o2 o3) (hx:oW x1 x2 x3) (hy:oW y1 y2 y3) (hz:oW z1 z2 z3) (lm:Lm 25 x1 x2 x3 y1 y2 y3 z1 z2 z3) (hax:Ax x1 x2 x3 y1 y2 y3 z1 z2 z3) (w:World) (hG:Gl w) :
 Calls Tryz.prog 86 #[.agg #[.string (writeB o1),.string (writeB o2),.string (writeB o3),.string (writeB x1),.string (writeB x2),.string (writeB x3),.string (writeB y1),.string (writeB y2),.string (writeB y3),.string (writeB z1),.string (writeB z2),.string (writeB z3)]] w fun e w' => ∃ o x y z:C9,e = .returned (.tuple #[.agg (fM o x y z).toArray,.int .i64 0])∧Vc w' o.val o1 o2 o3∧Vc w' x.val x1 x2 x3∧Vc w' y.val y1 y2 y3∧Vc w' z.val z1 z2 z3∧Below w.heap.size w w':=by
 have h:=yB (writeB o1) (writeB o2) (writeB o3) (writeB x1) (writeB x2) (writeB x3) (writeB y1) (writeB y2) (writeB y3) (writeB z1) (writeB z2) (writeB z3) o1 o2 o3 x1 x2 x3 y1 y2 y3 z1 z2 z3 0 0 0 0 0 0
  (.inl rfl) (.inl rfl) (.inl rfl) (.inl rfl) rfl (fun W hW=>kM ho W hW) (fun W hW=>kM hx W hW) (fun W hW=>kM hy W hW) (fun W hW=>kM hz W hW)
  (fun _ _ _ _ _ _ v0 v1 v2 v3=>check_any v0 v1 v2 v3 lm hax) w hG
 rw [if_pos rfl] at h
 simpa only [if_true] using h
theorem zK {β:List Nat} {w:World}:∀ (l:List ByteArray) (cs:List Value),holdsL β (l.map eU) cs w→cs=l.map Value.string
 | [],cs,h=>h
 | b::l,cs,⟨x,y,e,h1,h2⟩=>by
   have h1:x = [.string b]:=h1
   rw [e,h1,zK l y h2]
   rfl
section
variable {o1 o2 o3 x1 x2 x3 y1 y2 y3 z1 z2 z3:Rat}
theorem readFrameF (h:Wf o1 o2 o3 x1 x2 x3 y1 y2 y3 z1 z2 z3) (hax:Ax x1 x2 x3 y1 y2 y3 z1 z2 z3):jX 86 [kH o1 o2 o3 x1 x2 x3 y1 y2 y3 z1 z2 z3] (okFr o1 o2 o3 x1 x2 x3 y1 y2 y3 z1 z2 z3):=by
 intro β w vs hG hv
 obtain ⟨v,rfl,cs,rfl,h1⟩:=dB hv
 have e:=zK [writeB o1,writeB o2,writeB o3,writeB x1,writeB x2,writeB x3,writeB y1,writeB y2,writeB y3,writeB z1,writeB z2,writeB z3] cs h1
 rw [e]
 refine (yC o1 o2 o3 x1 x2 x3 y1 y2 y3 z1 z2 z3 h.o h.x h.y h.z (h.lm.mono (by decide)) hax w hG).mono ?_
 rintro e w' ⟨o,x,y,z,e1,v0,v1,v2,v3,hb⟩
 exact ⟨_,e1,hb,[.agg (fM o x y z).toArray,.int .i64 0],rfl,_,_,rfl,fr_holds v0 v1 v2 v3,_,_,rfl,⟨rfl,rfl⟩,rfl⟩
theorem fv_of (h:Wf o1 o2 o3 x1 x2 x3 y1 y2 y3 z1 z2 z3) (hax:Ax x1 x2 x3 y1 y2 y3 z1 z2 z3):Fv o1 o2 o3 x1 x2 x3 y1 y2 y3 z1 z2 z3:=⟨h,hax,readFrameF h hax⟩
end
end Fr
namespace Ab
open Go.RowKit Pl
inductive AvL:List (AV Kn)→List (AV Kn)→Prop where
 | nil:AvL [] []
 | ag {k m l l'}:LitL k m→AvL l l'→AvL (.fv (.ag k)::l) (.fv (.ag m)::l')
 | txt {b:ByteArray} {l l'}:AvL l l'→AvL (.fv (.sc (eU b))::l) (.fv (.sc (.lit (.string b)))::l')
 | same {x:AV Kn} {l l'}:AvL l l'→AvL (x::l) (x::l')
theorem AvL.to {β:List Nat} {w:World} {l m:List (AV Kn)} (h:AvL l m):∀ {vs:List Value},holdsA β m vs w→holdsA β l vs w:=by
 induction h with
 | nil=>intro vs h;exact h
 | ag hl _ ih=>rintro vs ⟨v,r,e,h1,h2⟩;exact ⟨v,r,e,(ag_lit hl).2 h1,ih h2⟩
 | txt _ ih=>rintro vs ⟨v,r,e,h1,h2⟩;exact ⟨v,r,e,sc_lit.2 h1,ih h2⟩
 | same _ ih=>rintro vs ⟨v,r,e,h1,h2⟩;exact ⟨v,r,e,h1,ih h2⟩
inductive FvL:List (FV Kn)→List (FV Kn)→Prop where
 | nil:FvL [] []
 | ag {k m l l'}:LitL k m→FvL l l'→FvL (.ag k::l) (.ag m::l')
 | txt {b:ByteArray} {l l'}:FvL l l'→FvL (.sc (eU b)::l) (.sc (.lit (.string b))::l')
 | same {x:FV Kn} {l l'}:FvL l l'→FvL (x::l) (x::l')
theorem FvL.to {β:List Nat} {w:World} {l m:List (FV Kn)} (h:FvL l m):∀ {vs:List Value},holdsF β l vs w→holdsF β m vs w:=by
 induction h with
 | nil=>intro vs h;exact h
 | ag hl _ ih=>rintro vs ⟨v,r,e,h1,h2⟩;exact ⟨v,r,e,(ag_lit hl).1 h1,ih h2⟩
 | txt _ ih=>rintro vs ⟨v,r,e,h1,h2⟩;exact ⟨v,r,e,(sc_lit (β:=β)).1 h1,ih h2⟩
 | same _ ih=>rintro vs ⟨v,r,e,h1,h2⟩;exact ⟨v,r,e,h1,ih h2⟩
theorem FitsW.lits {P:Program} {I:World→Prop} {f:FuncId} {l l' : List (AV Kn)} {r r' : List (FV Kn)} (h:FitsW P I f l (.tup r)) (ha:AvL l l') (hr:FvL r r'):FitsW P I f l' (.tup r') :=
 (h.args fun _ _ _ hv=>ha.to hv).res fun _ _ _ ⟨vs,e,hv⟩=>⟨vs,e,hr.to hv⟩
theorem Fits.lits {P:Program} {f:FuncId} {l l' : List (AV Kn)} {k m:List (Seg Kn)} (h:Fits P f l (.fv (.ag k))) (ha:AvL l l') (hr:LitL k m):Fits P f l' (.fv (.ag m)):=fun β w vs hv =>
 (h β w vs (ha.to hv)).mono fun e w' ⟨v,e1,e2,e3⟩=>⟨v,e1,e2,(ag_lit hr).1 e3⟩
theorem vc_eq {P:Program} {f:FuncId} {l:List (AV Kn)} {a b c a' b' c' : Rat} (h:Fits P f l (vc a b c)) (e1:a=a') (e2:b=b') (e3:c=c'):Fits P f l (vc a' b' c'):=by
 subst e1
 subst e2
 subst e3
 exact h
theorem aAw {q:Rat} (hn:q.num.natAbs<1000000000) (hd:q.den<1000000000):Wr q :=
 ⟨Nat.le_trans (decB_size (k:=8) hn) (by decide),Nat.le_trans (decB_size (k:=8) hd) (by decide)⟩
theorem oL {z:Int} (h:z.natAbs<1000000000):Wr (z:Rat):=aAw h (show 1<1000000000 by omega)
theorem kC {q:Rat} {n:Int} {d:Nat} {a b:ByteArray} (hn:q.num=n) (hd:q.den=d) (h1:d≠1) (ha:aS n=a) (hb:decB d=b):writeB q=a++(⟨#[47]⟩++b):=by
 rw [eY (by rw [hd];exact h1),hn,hd,ha,hb]
theorem x0:writeB ((0:Int):Rat)=⟨#[48]⟩:=cU (by omega) (bS (n:=0) (by omega))
theorem x1:writeB ((1:Int):Rat)=⟨#[49]⟩:=cU (by omega) (bS (n:=1) (by omega))
theorem x2:writeB ((2:Int):Rat)=⟨#[50]⟩:=cU (by omega) (bS (n:=2) (by omega))
theorem x3:writeB ((3:Int):Rat)=⟨#[51]⟩:=cU (by omega) (bS (n:=3) (by omega))
theorem x4:writeB ((4:Int):Rat)=⟨#[52]⟩:=cU (by omega) (bS (n:=4) (by omega))
theorem x5:writeB ((5:Int):Rat)=⟨#[53]⟩:=cU (by omega) (bS (n:=5) (by omega))
theorem x7:writeB ((7:Int):Rat)=⟨#[55]⟩:=cU (by omega) (bS (n:=7) (by omega))
theorem x10:writeB ((10:Int):Rat)=⟨#[49,48]⟩:=cU (by omega) (lX (n:=10) (by omega) (by omega))
theorem x24:writeB ((24:Int):Rat)=⟨#[50,52]⟩:=cU (by omega) (lX (n:=24) (by omega) (by omega))
theorem x25:writeB ((25:Int):Rat)=⟨#[50,53]⟩:=cU (by omega) (lX (n:=25) (by omega) (by omega))
theorem x28:writeB ((28:Int):Rat)=⟨#[50,56]⟩:=cU (by omega) (lX (n:=28) (by omega) (by omega))
theorem x30:writeB ((30:Int):Rat)=⟨#[51,48]⟩:=cU (by omega) (lX (n:=30) (by omega) (by omega))
theorem xm1:writeB ((-1:Int):Rat)=⟨#[45,49]⟩:=(fL (z := -1) (by omega) (b:=⟨#[49]⟩) (by rw [show Int.natAbs (-1)=1 from rfl];exact bS (n:=1) (by omega))).trans (ba_ext rfl)
theorem xm2:writeB ((-2:Int):Rat)=⟨#[45,50]⟩:=(fL (z := -2) (by omega) (b:=⟨#[50]⟩) (by rw [show Int.natAbs (-2)=2 from rfl];exact bS (n:=2) (by omega))).trans (ba_ext rfl)
theorem xm4:writeB ((-4:Int):Rat)=⟨#[45,52]⟩:=(fL (z := -4) (by omega) (b:=⟨#[52]⟩) (by rw [show Int.natAbs (-4)=4 from rfl];exact bS (n:=4) (by omega))).trans (ba_ext rfl)
theorem xm7:writeB ((-7:Int):Rat)=⟨#[45,55]⟩:=(fL (z := -7) (by omega) (b:=⟨#[55]⟩) (by rw [show Int.natAbs (-7)=7 from rfl];exact bS (n:=7) (by omega))).trans (ba_ext rfl)
theorem xm24:writeB ((-24:Int):Rat)=⟨#[45,50,52]⟩:=(fL (z := -24) (by omega) (b:=⟨#[50,52]⟩) (by rw [show Int.natAbs (-24)=24 from rfl];exact lX (n:=24) (by omega) (by omega))).trans (ba_ext rfl)
theorem r0:Wr ((0:Int):Rat):=oL (by decide)
theorem r1:Wr ((1:Int):Rat):=oL (by decide)
theorem r2:Wr ((2:Int):Rat):=oL (by decide)
theorem r3:Wr ((3:Int):Rat):=oL (by decide)
theorem r4:Wr ((4:Int):Rat):=oL (by decide)
theorem r5:Wr ((5:Int):Rat):=oL (by decide)
theorem r7:Wr ((7:Int):Rat):=oL (by decide)
theorem r10:Wr ((10:Int):Rat):=oL (by decide)
theorem r24:Wr ((24:Int):Rat):=oL (by decide)
theorem r25:Wr ((25:Int):Rat):=oL (by decide)
theorem r28:Wr ((28:Int):Rat):=oL (by decide)
theorem r30:Wr ((30:Int):Rat):=oL (by decide)
theorem rm1:Wr ((-1:Int):Rat):=oL (by decide)
theorem rm2:Wr ((-2:Int):Rat):=oL (by decide)
theorem rm4:Wr ((-4:Int):Rat):=oL (by decide)
theorem rm7:Wr ((-7:Int):Rat):=oL (by decide)
theorem rm24:Wr ((-24:Int):Rat):=oL (by decide)
theorem nh12:(mkRat (1) 2).num=1:=by kernel_rfl
theorem dh12:(mkRat (1) 2).den=2:=by kernel_rfl
theorem xh12:writeB (mkRat (1) 2)=⟨#[49,47,50]⟩:=(kC nh12 dh12 (by decide) (a:=⟨#[49]⟩) ((dC (1)).trans x1) (bS (n:=2) (by omega))).trans (ba_ext rfl)
theorem rh12:Wr (mkRat (1) 2):=aAw (by rw [nh12];decide) (by rw [dh12];decide)
theorem nm13:(mkRat (-1) 3).num = -1:=by kernel_rfl
theorem dm13:(mkRat (-1) 3).den=3:=by kernel_rfl
theorem xm13:writeB (mkRat (-1) 3)=⟨#[45,49,47,51]⟩:=(kC nm13 dm13 (by decide) (a:=⟨#[45,49]⟩) ((dC (-1)).trans xm1) (bS (n:=3) (by omega))).trans (ba_ext rfl)
theorem rm13:Wr (mkRat (-1) 3):=aAw (by rw [nm13];decide) (by rw [dm13];decide)
theorem nq252:(mkRat (25) 2).num=25:=by kernel_rfl
theorem dq252:(mkRat (25) 2).den=2:=by kernel_rfl
theorem xq252:writeB (mkRat (25) 2)=⟨#[50,53,47,50]⟩:=(kC nq252 dq252 (by decide) (a:=⟨#[50,53]⟩) ((dC (25)).trans x25) (bS (n:=2) (by omega))).trans (ba_ext rfl)
theorem rq252:Wr (mkRat (25) 2):=aAw (by rw [nq252];decide) (by rw [dq252];decide)
theorem nm12:(mkRat (-1) 2).num = -1:=by kernel_rfl
theorem dm12:(mkRat (-1) 2).den=2:=by kernel_rfl
theorem xm12:writeB (mkRat (-1) 2)=⟨#[45,49,47,50]⟩:=(kC nm12 dm12 (by decide) (a:=⟨#[45,49]⟩) ((dC (-1)).trans xm1) (bS (n:=2) (by omega))).trans (ba_ext rfl)
theorem rm12:Wr (mkRat (-1) 2):=aAw (by rw [nm12];decide) (by rw [dm12];decide)
theorem nq23:(mkRat (2) 3).num=2:=by kernel_rfl
theorem dq23:(mkRat (2) 3).den=3:=by kernel_rfl
theorem xq23:writeB (mkRat (2) 3)=⟨#[50,47,51]⟩:=(kC nq23 dq23 (by decide) (a:=⟨#[50]⟩) ((dC (2)).trans x2) (bS (n:=3) (by omega))).trans (ba_ext rfl)
theorem rq23:Wr (mkRat (2) 3):=aAw (by rw [nq23];decide) (by rw [dq23];decide)
theorem lv_2_0_4:jF 23 [it (2),it (0),it (4)] (.fv (.ag [.lit (.string ⟨#[50]⟩),.lit (.string ⟨#[48]⟩),.lit (.string ⟨#[52]⟩)]):AV Kn):=by
 have h:=dH (a:=2) (b:=0) (c:=4) (by constructor <;> omega) (by constructor <;> omega) (by constructor <;> omega)
 simp only [vS,pP,gL,rK,hS,kH,gM,x0,x2,x4] at h
 exact h.lits (.same (.same (.same .nil))) (.txt (.txt (.txt .nil)))
theorem lv_m1_0_m2:jF 23 [it (-1),it (0),it (-2)] (.fv (.ag [.lit (.string ⟨#[45,49]⟩),.lit (.string ⟨#[48]⟩),.lit (.string ⟨#[45,50]⟩)]):AV Kn):=by
 have h:=dH (a := -1) (b:=0) (c := -2) (by constructor <;> omega) (by constructor <;> omega) (by constructor <;> omega)
 simp only [vS,pP,gL,rK,hS,kH,gM,x0,xm1,xm2] at h
 exact h.lits (.same (.same (.same .nil))) (.txt (.txt (.txt .nil)))
theorem lv_1_0_0:jF 23 [it (1),it (0),it (0)] (.fv (.ag [.lit (.string ⟨#[49]⟩),.lit (.string ⟨#[48]⟩),.lit (.string ⟨#[48]⟩)]):AV Kn):=by
 have h:=dH (a:=1) (b:=0) (c:=0) (by constructor <;> omega) (by constructor <;> omega) (by constructor <;> omega)
 simp only [vS,pP,gL,rK,hS,kH,gM,x0,x1] at h
 exact h.lits (.same (.same (.same .nil))) (.txt (.txt (.txt .nil)))
theorem lv_0_1_0:jF 23 [it (0),it (1),it (0)] (.fv (.ag [.lit (.string ⟨#[48]⟩),.lit (.string ⟨#[49]⟩),.lit (.string ⟨#[48]⟩)]):AV Kn):=by
 have h:=dH (a:=0) (b:=1) (c:=0) (by constructor <;> omega) (by constructor <;> omega) (by constructor <;> omega)
 simp only [vS,pP,gL,rK,hS,kH,gM,x0,x1] at h
 exact h.lits (.same (.same (.same .nil))) (.txt (.txt (.txt .nil)))
theorem lv_0_0_1:jF 23 [it (0),it (0),it (1)] (.fv (.ag [.lit (.string ⟨#[48]⟩),.lit (.string ⟨#[48]⟩),.lit (.string ⟨#[49]⟩)]):AV Kn):=by
 have h:=dH (a:=0) (b:=0) (c:=1) (by constructor <;> omega) (by constructor <;> omega) (by constructor <;> omega)
 simp only [vS,pP,gL,rK,hS,kH,gM,x0,x1] at h
 exact h.lits (.same (.same (.same .nil))) (.txt (.txt (.txt .nil)))
theorem lv_0_0_0:jF 23 [it (0),it (0),it (0)] (.fv (.ag [.lit (.string ⟨#[48]⟩),.lit (.string ⟨#[48]⟩),.lit (.string ⟨#[48]⟩)]):AV Kn):=by
 have h:=dH (a:=0) (b:=0) (c:=0) (by constructor <;> omega) (by constructor <;> omega) (by constructor <;> omega)
 simp only [vS,pP,gL,rK,hS,kH,gM,x0] at h
 exact h.lits (.same (.same (.same .nil))) (.txt (.txt (.txt .nil)))
theorem lv_1_1_1:jF 23 [it (1),it (1),it (1)] (.fv (.ag [.lit (.string ⟨#[49]⟩),.lit (.string ⟨#[49]⟩),.lit (.string ⟨#[49]⟩)]):AV Kn):=by
 have h:=dH (a:=1) (b:=1) (c:=1) (by constructor <;> omega) (by constructor <;> omega) (by constructor <;> omega)
 simp only [vS,pP,gL,rK,hS,kH,gM,x1] at h
 exact h.lits (.same (.same (.same .nil))) (.txt (.txt (.txt .nil)))
theorem lv_1_1_0:jF 23 [it (1),it (1),it (0)] (.fv (.ag [.lit (.string ⟨#[49]⟩),.lit (.string ⟨#[49]⟩),.lit (.string ⟨#[48]⟩)]):AV Kn):=by
 have h:=dH (a:=1) (b:=1) (c:=0) (by constructor <;> omega) (by constructor <;> omega) (by constructor <;> omega)
 simp only [vS,pP,gL,rK,hS,kH,gM,x0,x1] at h
 exact h.lits (.same (.same (.same .nil))) (.txt (.txt (.txt .nil)))
theorem lv_0_7_5:jF 23 [it (0),it (7),it (5)] (.fv (.ag [.lit (.string ⟨#[48]⟩),.lit (.string ⟨#[55]⟩),.lit (.string ⟨#[53]⟩)]):AV Kn):=by
 have h:=dH (a:=0) (b:=7) (c:=5) (by constructor <;> omega) (by constructor <;> omega) (by constructor <;> omega)
 simp only [vS,pP,gL,rK,hS,kH,gM,x0,x5,x7] at h
 exact h.lits (.same (.same (.same .nil))) (.txt (.txt (.txt .nil)))
theorem lv_m1_0_0:jF 23 [it (-1),it (0),it (0)] (.fv (.ag [.lit (.string ⟨#[45,49]⟩),.lit (.string ⟨#[48]⟩),.lit (.string ⟨#[48]⟩)]):AV Kn):=by
 have h:=dH (a := -1) (b:=0) (c:=0) (by constructor <;> omega) (by constructor <;> omega) (by constructor <;> omega)
 simp only [vS,pP,gL,rK,hS,kH,gM,x0,xm1] at h
 exact h.lits (.same (.same (.same .nil))) (.txt (.txt (.txt .nil)))
theorem lv_4_4_0:jF 23 [it (4),it (4),it (0)] (.fv (.ag [.lit (.string ⟨#[52]⟩),.lit (.string ⟨#[52]⟩),.lit (.string ⟨#[48]⟩)]):AV Kn):=by
 have h:=dH (a:=4) (b:=4) (c:=0) (by constructor <;> omega) (by constructor <;> omega) (by constructor <;> omega)
 simp only [vS,pP,gL,rK,hS,kH,gM,x0,x4] at h
 exact h.lits (.same (.same (.same .nil))) (.txt (.txt (.txt .nil)))
theorem lv_m7_24_0:jF 23 [it (-7),it (24),it (0)] (.fv (.ag [.lit (.string ⟨#[45,55]⟩),.lit (.string ⟨#[50,52]⟩),.lit (.string ⟨#[48]⟩)]):AV Kn):=by
 have h:=dH (a := -7) (b:=24) (c:=0) (by constructor <;> omega) (by constructor <;> omega) (by constructor <;> omega)
 simp only [vS,pP,gL,rK,hS,kH,gM,x0,x24,xm7] at h
 exact h.lits (.same (.same (.same .nil))) (.txt (.txt (.txt .nil)))
theorem lv_5_5_0:jF 23 [it (5),it (5),it (0)] (.fv (.ag [.lit (.string ⟨#[53]⟩),.lit (.string ⟨#[53]⟩),.lit (.string ⟨#[48]⟩)]):AV Kn):=by
 have h:=dH (a:=5) (b:=5) (c:=0) (by constructor <;> omega) (by constructor <;> omega) (by constructor <;> omega)
 simp only [vS,pP,gL,rK,hS,kH,gM,x0,x5] at h
 exact h.lits (.same (.same (.same .nil))) (.txt (.txt (.txt .nil)))
theorem lv_10_7_1:jF 23 [it (10),it (7),it (1)] (.fv (.ag [.lit (.string ⟨#[49,48]⟩),.lit (.string ⟨#[55]⟩),.lit (.string ⟨#[49]⟩)]):AV Kn):=by
 have h:=dH (a:=10) (b:=7) (c:=1) (by constructor <;> omega) (by constructor <;> omega) (by constructor <;> omega)
 simp only [vS,pP,gL,rK,hS,kH,gM,x1,x10,x7] at h
 exact h.lits (.same (.same (.same .nil))) (.txt (.txt (.txt .nil)))
theorem aAx:jF 28 ([]:List (AV Kn)) (.fv (.ag [.lit (.string ⟨#[49]⟩),.lit (.string ⟨#[48]⟩),.lit (.string ⟨#[48]⟩),.lit (.string ⟨#[51]⟩),.lit (.string ⟨#[52]⟩),.lit (.string ⟨#[48]⟩),.lit (.string ⟨#[45,52]⟩),.lit (.string ⟨#[51]⟩),.lit (.string ⟨#[48]⟩),.lit (.string ⟨#[48]⟩),.lit (.string ⟨#[48]⟩),.lit (.string ⟨#[53]⟩)]):AV Kn):=by
 have h:=lawFrameF
 simp only [vS,pP,gL,rK,hS,kH,gM,x0,x1,x3,x4,x5,xm4] at h
 exact h.lits .nil (.txt (.txt (.txt (.txt (.txt (.txt (.txt (.txt (.txt (.txt (.txt (.txt (.nil)))))))))))))
theorem wfF:Wf ((1:Int):Rat) ((0:Int):Rat) ((0:Int):Rat) ((3:Int):Rat) ((4:Int):Rat) ((0:Int):Rat) ((-4:Int):Rat) ((3:Int):Rat) ((0:Int):Rat) ((0:Int):Rat) ((0:Int):Rat) ((5:Int):Rat):=⟨⟨r1,r0,r0⟩,⟨r3,r4,r0⟩,⟨rm4,r3,r0⟩,⟨r0,r0,r5⟩⟩
theorem axF:Ax ((3:Int):Rat) ((4:Int):Rat) ((0:Int):Rat) ((-4:Int):Rat) ((3:Int):Rat) ((0:Int):Rat) ((0:Int):Rat) ((0:Int):Rat) ((5:Int):Rat):=⟨by kernel_rfl,by kernel_rfl,by kernel_rfl,by kernel_rfl,by kernel_rfl,by kernel_rfl,by kernel_rfl⟩
theorem fvF:Fv ((1:Int):Rat) ((0:Int):Rat) ((0:Int):Rat) ((3:Int):Rat) ((4:Int):Rat) ((0:Int):Rat) ((-4:Int):Rat) ((3:Int):Rat) ((0:Int):Rat) ((0:Int):Rat) ((0:Int):Rat) ((5:Int):Rat):=Go.Proofs.YtpdjlakffpmfdaaGreatDoor.Fr.fv_of wfF axF
theorem hv111 {d:Rat} (h:Wr d):Hv 1 1 1 d:=⟨by constructor <;> omega,by constructor <;> omega,by constructor <;> omega,h,ck_111⟩
theorem hv100 {d:Rat} (h:Wr d):Hv 1 0 0 d:=⟨by constructor <;> omega,by constructor <;> omega,by constructor <;> omega,h,ck_100⟩
theorem hv302 {d:Rat} (h:Wr d):Hv 3 0 (-2) d:=⟨by constructor <;> omega,by constructor <;> omega,by constructor <;> omega,h,ck_302⟩
theorem nC {a:Rat} (h:decide (a=0)=false):a≠0:=of_decide_eq_false h
theorem asc_1250:∀ (j:Nat) (b:UInt8),(⟨#[49,50,46,53,48]⟩:ByteArray).data.toList[j]?=some b→b.toNat<128:=by
 intro j b h
 have:=List.mem_of_getElem? h
 simp at this
 rcases this with rfl|rfl|rfl|rfl|rfl <;> decide
theorem dig_12:AllDig (aC ⟨#[49,50]⟩):=by intro c hc;simp [aC] at hc;rcases hc with rfl|rfl <;> decide
theorem dig_50:AllDig (aC ⟨#[53,48]⟩):=by intro c hc;simp [aC] at hc;rcases hc with rfl|rfl <;> decide
theorem dec_100:decB 100=⟨#[49,48,48]⟩:=by unfold decB;rw [eI (by omega),eI (by omega),cL (by omega)];rfl
theorem dec_1250:decB 1250=⟨#[49,50,53,48]⟩:=by unfold decB;rw [eI (by omega),eI (by omega),eI (by omega),cL (by omega)];rfl
theorem q1250:mkRat (sg false 1250) 100=mkRat 25 2:=by kernel_rfl
theorem lv_small {n k:Nat} (h:n<1000000000):Lv k n:=(Lv.one n (by rw [aM];omega)).mono (Nat.zero_le _)
theorem eParse:jX 21 [lt ⟨#[49,50,46,53,48]⟩] (.tup [.sc (.lit (.string ⟨#[50,53,47,50]⟩)),.sc z0]):=by
 have hp:jF 63 [tx ⟨#[49,50,46,53,48]⟩] (.tup [.sc (eU (decB 1250)),.sc (eU (decB 100)),.sc z0]):=by
  have h:=partsDot (s:=⟨#[49,50,46,53,48]⟩) (a:=⟨#[49,50]⟩) (b:=⟨#[53,48]⟩) (z:=⟨#[48,48]⟩) (k:=2) (indexAnyF (by decide) asc_1250 (by kernel_rfl)) (by decide) (by decide) (ba_ext rfl) (ba_ext rfl) dig_12 (by decide) dig_50 (by decide) rfl (repeatF (by decide) (by decide) (ba_ext (by kernel_rfl))) (by decide)
  have e1:(⟨#[49,50]⟩++⟨#[53,48]⟩:ByteArray)=decB 1250:=dec_1250.symm
  have e2:(⟨#[49]⟩++⟨#[48,48]⟩:ByteArray)=decB 100:=dec_100.symm
  rw [e1,e2] at h
  exact h
 have h:=parseF' (s:=⟨#[49,50,46,53,48]⟩) (n:=1250) (d:=100) (by decide) (by kernel_rfl) hp (by rw [dec_1250];decide) (by rw [dec_100];decide) (lv_small (by decide)) (lv_small (by decide)) (by decide) (by rw [q1250];exact rq252.lf.mono (by decide)) (by rw [q1250];exact rq252.n) (by rw [q1250];exact rq252.d)
 rw [q1250,xq252] at h
 exact h.lits (.txt .nil) (.txt (.same .nil))
theorem eAlong:jX 22 [(.fv (.ag [.lit (.string ⟨#[50]⟩),.lit (.string ⟨#[48]⟩),.lit (.string ⟨#[52]⟩)]):AV Kn),(.fv (.ag [.lit (.string ⟨#[45,49]⟩),.lit (.string ⟨#[48]⟩),.lit (.string ⟨#[45,50]⟩)]):AV Kn)] (.tup [.sc (.lit (.string ⟨#[45,49,47,50]⟩)),.sc z0]):=by
 have h:=apiAlongF (a:=((2:Int):Rat)) (b:=((0:Int):Rat)) (c:=((4:Int):Rat)) (x:=((-1:Int):Rat)) (y:=((0:Int):Rat)) (z:=((-2:Int):Rat)) ⟨r2,r0,r4⟩ ⟨rm1,r0,rm2⟩ (by kernel_rfl) (by kernel_rfl) (nC (by kernel_rfl)) (by rw [show dt ((-1:Int):Rat) ((0:Int):Rat) ((-2:Int):Rat) ((2:Int):Rat) ((0:Int):Rat) ((4:Int):Rat)/dt ((2:Int):Rat) ((0:Int):Rat) ((4:Int):Rat) ((2:Int):Rat) ((0:Int):Rat) ((4:Int):Rat)=mkRat (-1) 2 from by kernel_rfl];exact rm12)
 rw [show dt ((-1:Int):Rat) ((0:Int):Rat) ((-2:Int):Rat) ((2:Int):Rat) ((0:Int):Rat) ((4:Int):Rat)/dt ((2:Int):Rat) ((0:Int):Rat) ((4:Int):Rat) ((2:Int):Rat) ((0:Int):Rat) ((4:Int):Rat)=mkRat (-1) 2 from by kernel_rfl] at h
 simp only [vS,pP,gL,rK,hS,kH,gM,x0,x2,x4,xm1,xm12,xm2] at h
 exact h.lits (.ag (.txt (.txt (.txt .nil))) (.ag (.txt (.txt (.txt .nil))) .nil)) (.txt (.same .nil))
theorem eMake:jX 24 [(.fv (.ag [.lit (.string ⟨#[49,47,50]⟩),.lit (.string ⟨#[48]⟩),.lit (.string ⟨#[45,49,47,51]⟩)]):AV Kn),lt ⟨#[53]⟩] (.tup [.ag [.lit (.int .i64 (3)),.lit (.int .i64 (0)),.lit (.int .i64 (-2)),.lit (.string ⟨#[51,48]⟩)],.sc z0]):=by
 have h:=aAh (n1:=mkRat 1 2) (n2:=((0:Int):Rat)) (n3:=mkRat (-1) 3) (d:=((5:Int):Rat)) (z1:=3) (z2:=0) (z3 := -2) (e:=((30:Int):Rat)) ⟨rh12,r0,rm13⟩ r5 ⟨rh12.lf.mono (by decide),r0.lf.mono (by decide),rm13.lf.mono (by decide),r5.lf.mono (by decide),fun ⟨e,_,_⟩=>nC (a:=mkRat 1 2) (by kernel_rfl) e,by kernel_rfl,by kernel_rfl,by kernel_rfl,by kernel_rfl,by constructor <;> omega,by constructor <;> omega,by constructor <;> omega,r30⟩
 simp only [vS,pP,gL,rK,hS,kH,gM,x0,x30,x5,xh12,xm13] at h
 exact h.lits (.ag (.txt (.txt (.txt .nil))) (.txt .nil)) (.ag (.same (.same (.same (.txt .nil)))) (.same .nil))
theorem eThrough:jX 25 [(.fv (.ag [.lit (.string ⟨#[49]⟩),.lit (.string ⟨#[48]⟩),.lit (.string ⟨#[48]⟩)]):AV Kn),(.fv (.ag [.lit (.string ⟨#[48]⟩),.lit (.string ⟨#[49]⟩),.lit (.string ⟨#[48]⟩)]):AV Kn),(.fv (.ag [.lit (.string ⟨#[48]⟩),.lit (.string ⟨#[48]⟩),.lit (.string ⟨#[49]⟩)]):AV Kn)] (.tup [.ag [.lit (.int .i64 (1)),.lit (.int .i64 (1)),.lit (.int .i64 (1)),.lit (.string ⟨#[49]⟩)],.sc z0]):=by
 have h:=apiThroughF (a1:=((1:Int):Rat)) (a2:=((0:Int):Rat)) (a3:=((0:Int):Rat)) (b1:=((0:Int):Rat)) (b2:=((1:Int):Rat)) (b3:=((0:Int):Rat)) (c1:=((0:Int):Rat)) (c2:=((0:Int):Rat)) (c3:=((1:Int):Rat)) (m1:=((1:Int):Rat)) (m2:=((1:Int):Rat)) (m3:=((1:Int):Rat)) (z1:=1) (z2:=1) (z3:=1) (e:=((1:Int):Rat)) ⟨r1,r0,r0⟩ ⟨r0,r1,r0⟩ ⟨r0,r0,r1⟩ (by kernel_rfl) (by kernel_rfl) (by kernel_rfl) ⟨r1.lf.mono (by decide),r1.lf.mono (by decide),r1.lf.mono (by decide),by rw [show dt ((1:Int):Rat) ((1:Int):Rat) ((1:Int):Rat) ((1:Int):Rat) ((0:Int):Rat) ((0:Int):Rat)=((1:Int):Rat) from by kernel_rfl];exact r1.lf.mono (by decide),fun ⟨e,_,_⟩=>nC (a:=((1:Int):Rat)) (by kernel_rfl) e,by kernel_rfl,by kernel_rfl,by kernel_rfl,by kernel_rfl,by constructor <;> omega,by constructor <;> omega,by constructor <;> omega,r1⟩
 simp only [vS,pP,gL,rK,hS,kH,gM,x0,x1] at h
 exact h.lits (.ag (.txt (.txt (.txt .nil))) (.ag (.txt (.txt (.txt .nil))) (.ag (.txt (.txt (.txt .nil))) .nil))) (.ag (.same (.same (.same (.txt .nil)))) (.same .nil))
theorem eMirror:jX 26 [(.fv (.ag [.lit (.int .i64 (1)),.lit (.int .i64 (1)),.lit (.int .i64 (1)),.lit (.string ⟨#[49]⟩)]):AV Kn),(.fv (.ag [.lit (.string ⟨#[48]⟩),.lit (.string ⟨#[48]⟩),.lit (.string ⟨#[48]⟩)]):AV Kn)] (.tup [.ag [.lit (.string ⟨#[50,47,51]⟩),.lit (.string ⟨#[50,47,51]⟩),.lit (.string ⟨#[50,47,51]⟩)],.sc z0]):=by
 have h:=apiMirrorF (z1:=1) (z2:=1) (z3:=1) (d:=((1:Int):Rat)) (p1:=((0:Int):Rat)) (p2:=((0:Int):Rat)) (p3:=((0:Int):Rat)) (m1:=mkRat 2 3) (m2:=mkRat 2 3) (m3:=mkRat 2 3) (hv111 r1) ⟨r0,r0,r0⟩ (nC (by kernel_rfl)) (by kernel_rfl) (by kernel_rfl) (by kernel_rfl) ⟨rq23,rq23,rq23⟩
 simp only [vS,pP,gL,rK,hS,kH,gM,x0,x1,xq23] at h
 exact h.lits (.ag (.same (.same (.same (.txt .nil)))) (.ag (.txt (.txt (.txt .nil))) .nil)) (.ag (.txt (.txt (.txt .nil))) (.same .nil))
theorem ePlace:jX 27 [(.fv (.ag [.lit (.string ⟨#[49]⟩),.lit (.string ⟨#[48]⟩),.lit (.string ⟨#[48]⟩),.lit (.string ⟨#[51]⟩),.lit (.string ⟨#[52]⟩),.lit (.string ⟨#[48]⟩),.lit (.string ⟨#[45,52]⟩),.lit (.string ⟨#[51]⟩),.lit (.string ⟨#[48]⟩),.lit (.string ⟨#[48]⟩),.lit (.string ⟨#[48]⟩),.lit (.string ⟨#[53]⟩)]):AV Kn),(.fv (.ag [.lit (.string ⟨#[49]⟩),.lit (.string ⟨#[49]⟩),.lit (.string ⟨#[49]⟩)]):AV Kn)] (.tup [.ag [.lit (.string ⟨#[48]⟩),.lit (.string ⟨#[55]⟩),.lit (.string ⟨#[53]⟩)],.sc z0]):=by
 have h:=apiPlaceF (o1:=((1:Int):Rat)) (o2:=((0:Int):Rat)) (o3:=((0:Int):Rat)) (x1:=((3:Int):Rat)) (x2:=((4:Int):Rat)) (x3:=((0:Int):Rat)) (y1:=((-4:Int):Rat)) (y2:=((3:Int):Rat)) (y3:=((0:Int):Rat)) (z1:=((0:Int):Rat)) (z2:=((0:Int):Rat)) (z3:=((5:Int):Rat)) (p1:=((1:Int):Rat)) (p2:=((1:Int):Rat)) (p3:=((1:Int):Rat)) (m1:=((0:Int):Rat)) (m2:=((7:Int):Rat)) (m3:=((5:Int):Rat)) fvF ⟨r1,r1,r1⟩ (by kernel_rfl) (by kernel_rfl) (by kernel_rfl) ⟨r0,r7,r5⟩
 simp only [vS,pP,gL,rK,hS,kH,gM,x0,x1,x3,x4,x5,x7,xm4] at h
 exact h.lits (.ag (.txt (.txt (.txt (.txt (.txt (.txt (.txt (.txt (.txt (.txt (.txt (.txt (.nil))))))))))))) (.ag (.txt (.txt (.txt .nil))) .nil)) (.ag (.txt (.txt (.txt .nil))) (.same .nil))
theorem r325:Wr (mkRat 3 25):=aAw (by rw [show (mkRat 3 25).num=3 from by kernel_rfl];decide) (by rw [show (mkRat 3 25).den=25 from by kernel_rfl];decide)
theorem r425:Wr (mkRat 4 25):=aAw (by rw [show (mkRat 4 25).num=4 from by kernel_rfl];decide) (by rw [show (mkRat 4 25).den=25 from by kernel_rfl];decide)
theorem r2825:Wr (mkRat 28 25):=aAw (by rw [show (mkRat 28 25).num=28 from by kernel_rfl];decide) (by rw [show (mkRat 28 25).den=25 from by kernel_rfl];decide)
theorem ePlaceHalf:jX 29 [(.fv (.ag [.lit (.string ⟨#[49]⟩),.lit (.string ⟨#[48]⟩),.lit (.string ⟨#[48]⟩),.lit (.string ⟨#[51]⟩),.lit (.string ⟨#[52]⟩),.lit (.string ⟨#[48]⟩),.lit (.string ⟨#[45,52]⟩),.lit (.string ⟨#[51]⟩),.lit (.string ⟨#[48]⟩),.lit (.string ⟨#[48]⟩),.lit (.string ⟨#[48]⟩),.lit (.string ⟨#[53]⟩)]):AV Kn),(.fv (.ag [.lit (.int .i64 (1)),.lit (.int .i64 (0)),.lit (.int .i64 (0)),.lit (.string ⟨#[49]⟩)]):AV Kn)] (.tup [.ag [.lit (.int .i64 (3)),.lit (.int .i64 (4)),.lit (.int .i64 (0)),.lit (.string ⟨#[50,56]⟩)],.sc z0]):=by
 have h:=xU (o1:=((1:Int):Rat)) (o2:=((0:Int):Rat)) (o3:=((0:Int):Rat)) (x1:=((3:Int):Rat)) (x2:=((4:Int):Rat)) (x3:=((0:Int):Rat)) (y1:=((-4:Int):Rat)) (y2:=((3:Int):Rat)) (y3:=((0:Int):Rat)) (z1:=((0:Int):Rat)) (z2:=((0:Int):Rat)) (z3:=((5:Int):Rat)) (n1:=1) (n2:=0) (n3:=0) (d:=((1:Int):Rat)) (k1:=3) (k2:=4) (k3:=0) (e:=((28:Int):Rat)) fvF (hv100 r1) ⟨nC (by kernel_rfl),nC (by kernel_rfl),nC (by kernel_rfl)⟩ (q1:=mkRat 3 25) (q2:=mkRat 4 25) (q3:=((0:Int):Rat)) (by kernel_rfl) (by kernel_rfl) (by kernel_rfl) ⟨r325.lf.mono (by decide),r425.lf.mono (by decide),r0.lf.mono (by decide),by rw [show ((1:Int):Rat)+dt (mkRat 3 25) (mkRat 4 25) ((0:Int):Rat) ((1:Int):Rat) ((0:Int):Rat) ((0:Int):Rat)=mkRat 28 25 from by kernel_rfl];exact r2825.lf.mono (by decide),fun ⟨e,_,_⟩=>nC (a:=mkRat 3 25) (by kernel_rfl) e,by kernel_rfl,by kernel_rfl,by kernel_rfl,by kernel_rfl,by constructor <;> omega,by constructor <;> omega,by constructor <;> omega,r28⟩
 simp only [vS,pP,gL,rK,hS,kH,gM,x0,x1,x28,x3,x4,x5,xm4] at h
 exact h.lits (.ag (.txt (.txt (.txt (.txt (.txt (.txt (.txt (.txt (.txt (.txt (.txt (.txt (.nil))))))))))))) (.ag (.same (.same (.same (.txt .nil)))) .nil)) (.ag (.same (.same (.same (.txt .nil)))) (.same .nil))
theorem td_100:jF 94 [num ((1:Int):Rat),vc ((0:Int):Rat) ((0:Int):Rat) ((1:Int):Rat),vc ((1:Int):Rat) ((0:Int):Rat) ((0:Int):Rat)] (vc ((0:Int):Rat) ((1:Int):Rat) ((0:Int):Rat)):=by
 have h:=aAi (w:=((1:Int):Rat)) (u1:=((0:Int):Rat)) (u2:=((0:Int):Rat)) (u3:=((1:Int):Rat)) (v1:=((1:Int):Rat)) (v2:=((0:Int):Rat)) (v3:=((0:Int):Rat)) (r1.lf.mono (by decide)) (r0.lf.mono (by decide)) (r0.lf.mono (by decide)) (r1.lf.mono (by decide)) (r1.lf.mono (by decide)) (r0.lf.mono (by decide)) (r0.lf.mono (by decide)) (nC (by kernel_rfl))
 exact vc_eq h (by kernel_rfl) (by kernel_rfl) (by kernel_rfl)
theorem td_010:jF 94 [num ((1:Int):Rat),vc ((0:Int):Rat) ((0:Int):Rat) ((1:Int):Rat),vc ((0:Int):Rat) ((1:Int):Rat) ((0:Int):Rat)] (vc ((-1:Int):Rat) ((0:Int):Rat) ((0:Int):Rat)):=by
 have h:=aAi (w:=((1:Int):Rat)) (u1:=((0:Int):Rat)) (u2:=((0:Int):Rat)) (u3:=((1:Int):Rat)) (v1:=((0:Int):Rat)) (v2:=((1:Int):Rat)) (v3:=((0:Int):Rat)) (r1.lf.mono (by decide)) (r0.lf.mono (by decide)) (r0.lf.mono (by decide)) (r1.lf.mono (by decide)) (r0.lf.mono (by decide)) (r1.lf.mono (by decide)) (r0.lf.mono (by decide)) (nC (by kernel_rfl))
 exact vc_eq h (by kernel_rfl) (by kernel_rfl) (by kernel_rfl)
theorem td_001:jF 94 [num ((1:Int):Rat),vc ((0:Int):Rat) ((0:Int):Rat) ((1:Int):Rat),vc ((0:Int):Rat) ((0:Int):Rat) ((1:Int):Rat)] (vc ((0:Int):Rat) ((0:Int):Rat) ((1:Int):Rat)):=by
 have h:=aAi (w:=((1:Int):Rat)) (u1:=((0:Int):Rat)) (u2:=((0:Int):Rat)) (u3:=((1:Int):Rat)) (v1:=((0:Int):Rat)) (v2:=((0:Int):Rat)) (v3:=((1:Int):Rat)) (r1.lf.mono (by decide)) (r0.lf.mono (by decide)) (r0.lf.mono (by decide)) (r1.lf.mono (by decide)) (r0.lf.mono (by decide)) (r0.lf.mono (by decide)) (r1.lf.mono (by decide)) (nC (by kernel_rfl))
 exact vc_eq h (by kernel_rfl) (by kernel_rfl) (by kernel_rfl)
theorem eTurn:jX 30 [(.fv (.ag [.lit (.string ⟨#[49]⟩),.lit (.string ⟨#[48]⟩),.lit (.string ⟨#[48]⟩),.lit (.string ⟨#[49]⟩)]):AV Kn)] (.tup [.ag [.lit (.string ⟨#[48]⟩),.lit (.string ⟨#[48]⟩),.lit (.string ⟨#[48]⟩),.lit (.string ⟨#[48]⟩),.lit (.string ⟨#[49]⟩),.lit (.string ⟨#[48]⟩),.lit (.string ⟨#[45,49]⟩),.lit (.string ⟨#[48]⟩),.lit (.string ⟨#[48]⟩),.lit (.string ⟨#[48]⟩),.lit (.string ⟨#[48]⟩),.lit (.string ⟨#[49]⟩)],.sc z0]):=by
 have h:=apiTurnF (w:=((1:Int):Rat)) (u1:=((0:Int):Rat)) (u2:=((0:Int):Rat)) (u3:=((1:Int):Rat)) (b:=false) r1 ⟨r0,r0,r1⟩ (by kernel_rfl) (fun h=>by cases h) td_100 td_010 td_001 ⟨⟨r0,r0,r0⟩,⟨r0,r1,r0⟩,⟨rm1,r0,r0⟩,⟨r0,r0,r1⟩⟩
 simp only [vS,pP,gL,rK,hS,kH,gM,x0,x1,xm1] at h
 exact h.lits (.ag (.txt (.txt (.txt (.txt .nil)))) .nil) (.ag (.txt (.txt (.txt (.txt (.txt (.txt (.txt (.txt (.txt (.txt (.txt (.txt (.nil))))))))))))) (.same .nil))
theorem eCompose:jX 31 [(.fv (.ag [.lit (.string ⟨#[49]⟩),.lit (.string ⟨#[48]⟩),.lit (.string ⟨#[48]⟩),.lit (.string ⟨#[51]⟩),.lit (.string ⟨#[52]⟩),.lit (.string ⟨#[48]⟩),.lit (.string ⟨#[45,52]⟩),.lit (.string ⟨#[51]⟩),.lit (.string ⟨#[48]⟩),.lit (.string ⟨#[48]⟩),.lit (.string ⟨#[48]⟩),.lit (.string ⟨#[53]⟩)]):AV Kn),(.fv (.ag [.lit (.string ⟨#[49]⟩),.lit (.string ⟨#[48]⟩),.lit (.string ⟨#[48]⟩),.lit (.string ⟨#[51]⟩),.lit (.string ⟨#[52]⟩),.lit (.string ⟨#[48]⟩),.lit (.string ⟨#[45,52]⟩),.lit (.string ⟨#[51]⟩),.lit (.string ⟨#[48]⟩),.lit (.string ⟨#[48]⟩),.lit (.string ⟨#[48]⟩),.lit (.string ⟨#[53]⟩)]):AV Kn)] (.tup [.ag [.lit (.string ⟨#[52]⟩),.lit (.string ⟨#[52]⟩),.lit (.string ⟨#[48]⟩),.lit (.string ⟨#[45,55]⟩),.lit (.string ⟨#[50,52]⟩),.lit (.string ⟨#[48]⟩),.lit (.string ⟨#[45,50,52]⟩),.lit (.string ⟨#[45,55]⟩),.lit (.string ⟨#[48]⟩),.lit (.string ⟨#[48]⟩),.lit (.string ⟨#[48]⟩),.lit (.string ⟨#[50,53]⟩)],.sc z0]):=by
 have h:=apiComposeF fvF fvF (q1:=((4:Int):Rat)) (q2:=((4:Int):Rat)) (q3:=((0:Int):Rat)) (r1:=((-7:Int):Rat)) (r2:=((24:Int):Rat)) (r3:=((0:Int):Rat)) (s1:=((-24:Int):Rat)) (s2:=((-7:Int):Rat)) (s3:=((0:Int):Rat)) (t1:=((0:Int):Rat)) (t2:=((0:Int):Rat)) (t3:=((25:Int):Rat)) (by kernel_rfl) (by kernel_rfl) (by kernel_rfl) (by kernel_rfl) (by kernel_rfl) (by kernel_rfl) (by kernel_rfl) (by kernel_rfl) (by kernel_rfl) (by kernel_rfl) (by kernel_rfl) (by kernel_rfl) ⟨⟨r4,r4,r0⟩,⟨rm7,r24,r0⟩,⟨rm24,rm7,r0⟩,⟨r0,r0,r25⟩⟩ (by kernel_rfl) (by kernel_rfl) (by kernel_rfl)
 simp only [vS,pP,gL,rK,hS,kH,gM,x0,x1,x24,x25,x3,x4,x5,xm24,xm4,xm7] at h
 exact h.lits (.ag (.txt (.txt (.txt (.txt (.txt (.txt (.txt (.txt (.txt (.txt (.txt (.txt (.nil))))))))))))) (.ag (.txt (.txt (.txt (.txt (.txt (.txt (.txt (.txt (.txt (.txt (.txt (.txt (.nil))))))))))))) .nil)) (.ag (.txt (.txt (.txt (.txt (.txt (.txt (.txt (.txt (.txt (.txt (.txt (.txt (.nil))))))))))))) (.same .nil))
theorem eMeet:jX 32 [(.fv (.ag [.lit (.int .i64 (1)),.lit (.int .i64 (1)),.lit (.int .i64 (1)),.lit (.string ⟨#[49,48]⟩)]):AV Kn),(.fv (.ag [.lit (.string ⟨#[48]⟩),.lit (.string ⟨#[48]⟩),.lit (.string ⟨#[48]⟩)]):AV Kn),(.fv (.ag [.lit (.string ⟨#[49]⟩),.lit (.string ⟨#[49]⟩),.lit (.string ⟨#[48]⟩)]):AV Kn)] (.tup [.ag [.lit (.string ⟨#[53]⟩),.lit (.string ⟨#[53]⟩),.lit (.string ⟨#[48]⟩)],.sc z0]):=by
 have h:=apiMeetF (z1:=1) (z2:=1) (z3:=1) (d:=((10:Int):Rat)) (p1:=((0:Int):Rat)) (p2:=((0:Int):Rat)) (p3:=((0:Int):Rat)) (v1:=((1:Int):Rat)) (v2:=((1:Int):Rat)) (v3:=((0:Int):Rat)) (m1:=((5:Int):Rat)) (m2:=((5:Int):Rat)) (m3:=((0:Int):Rat)) (hv111 r10) ⟨r0,r0,r0⟩ ⟨r1,r1,r0⟩ (nC (by kernel_rfl)) (by kernel_rfl) (by kernel_rfl) (by kernel_rfl) ⟨r5,r5,r0⟩
 simp only [vS,pP,gL,rK,hS,kH,gM,x0,x1,x10,x5] at h
 exact h.lits (.ag (.same (.same (.same (.txt .nil)))) (.ag (.txt (.txt (.txt .nil))) (.ag (.txt (.txt (.txt .nil))) .nil))) (.ag (.txt (.txt (.txt .nil))) (.same .nil))
theorem eSide:jX 33 [(.fv (.ag [.lit (.int .i64 (3)),.lit (.int .i64 (0)),.lit (.int .i64 (-2)),.lit (.string ⟨#[51,48]⟩)]):AV Kn),(.fv (.ag [.lit (.string ⟨#[49,48]⟩),.lit (.string ⟨#[55]⟩),.lit (.string ⟨#[49]⟩)]):AV Kn)] (.tup [.sc (.lit (.int .i64 (-1))),.sc z0]):=by
 have h:=apiSideF (z1:=3) (z2:=0) (z3 := -2) (d:=((30:Int):Rat)) (p1:=((10:Int):Rat)) (p2:=((7:Int):Rat)) (p3:=((1:Int):Rat)) (s := -1) (hv302 r30) ⟨r10,r7,r1⟩ (by kernel_rfl)
 simp only [vS,pP,gL,rK,hS,kH,gM,x1,x10,x30,x7] at h
 exact h.lits (.ag (.same (.same (.same (.txt .nil)))) (.ag (.txt (.txt (.txt .nil))) .nil)) (.same (.same .nil))
set_option maxRecDepth 100000 in
theorem oM:jX 4 ([]:List (AV Kn)) (bl true):=by
 refine jY Tryz.func4 fun w00 hI=>?_
 refine jW hI 21 [lt ⟨#[49,50,46,53,48]⟩] (eParse) ?_
 refine jC 23 [it (2),it (0),it (4)] (lv_2_0_4) ?_
 refine jC 23 [it (-1),it (0),it (-2)] (lv_m1_0_m2) ?_
 refine jW hI 22 [(.fv (.ag [.lit (.string ⟨#[50]⟩),.lit (.string ⟨#[48]⟩),.lit (.string ⟨#[52]⟩)])),(.fv (.ag [.lit (.string ⟨#[45,49]⟩),.lit (.string ⟨#[48]⟩),.lit (.string ⟨#[45,50]⟩)]))] (eAlong) ?_
 refine jW hI 24 [(.fv (.ag [.lit (.string ⟨#[49,47,50]⟩),.lit (.string ⟨#[48]⟩),.lit (.string ⟨#[45,49,47,51]⟩)])),lt ⟨#[53]⟩] (eMake) ?_
 refine jC 23 [it (1),it (0),it (0)] (lv_1_0_0) ?_
 refine jC 23 [it (0),it (1),it (0)] (lv_0_1_0) ?_
 refine jC 23 [it (0),it (0),it (1)] (lv_0_0_1) ?_
 refine jW hI 25 [(.fv (.ag [.lit (.string ⟨#[49]⟩),.lit (.string ⟨#[48]⟩),.lit (.string ⟨#[48]⟩)])),(.fv (.ag [.lit (.string ⟨#[48]⟩),.lit (.string ⟨#[49]⟩),.lit (.string ⟨#[48]⟩)])),(.fv (.ag [.lit (.string ⟨#[48]⟩),.lit (.string ⟨#[48]⟩),.lit (.string ⟨#[49]⟩)]))] (eThrough) ?_
 refine jC 23 [it (0),it (0),it (0)] (lv_0_0_0) ?_
 refine jW hI 26 [(.fv (.ag [.lit (.int .i64 (1)),.lit (.int .i64 (1)),.lit (.int .i64 (1)),.lit (.string ⟨#[49]⟩)])),(.fv (.ag [.lit (.string ⟨#[48]⟩),.lit (.string ⟨#[48]⟩),.lit (.string ⟨#[48]⟩)]))] (eMirror) ?_
 refine jC 28 [] (aAx) ?_
 refine jC 23 [it (1),it (1),it (1)] (lv_1_1_1) ?_
 refine jW hI 27 [(.fv (.ag [.lit (.string ⟨#[49]⟩),.lit (.string ⟨#[48]⟩),.lit (.string ⟨#[48]⟩),.lit (.string ⟨#[51]⟩),.lit (.string ⟨#[52]⟩),.lit (.string ⟨#[48]⟩),.lit (.string ⟨#[45,52]⟩),.lit (.string ⟨#[51]⟩),.lit (.string ⟨#[48]⟩),.lit (.string ⟨#[48]⟩),.lit (.string ⟨#[48]⟩),.lit (.string ⟨#[53]⟩)])),(.fv (.ag [.lit (.string ⟨#[49]⟩),.lit (.string ⟨#[49]⟩),.lit (.string ⟨#[49]⟩)]))] (ePlace) ?_
 refine jC 28 [] (aAx) ?_
 refine jW hI 29 [(.fv (.ag [.lit (.string ⟨#[49]⟩),.lit (.string ⟨#[48]⟩),.lit (.string ⟨#[48]⟩),.lit (.string ⟨#[51]⟩),.lit (.string ⟨#[52]⟩),.lit (.string ⟨#[48]⟩),.lit (.string ⟨#[45,52]⟩),.lit (.string ⟨#[51]⟩),.lit (.string ⟨#[48]⟩),.lit (.string ⟨#[48]⟩),.lit (.string ⟨#[48]⟩),.lit (.string ⟨#[53]⟩)])),(.fv (.ag [.lit (.int .i64 (1)),.lit (.int .i64 (0)),.lit (.int .i64 (0)),.lit (.string ⟨#[49]⟩)]))] (ePlaceHalf) ?_
 refine jW hI 30 [(.fv (.ag [.lit (.string ⟨#[49]⟩),.lit (.string ⟨#[48]⟩),.lit (.string ⟨#[48]⟩),.lit (.string ⟨#[49]⟩)]))] (eTurn) ?_
 refine jC 28 [] (aAx) ?_
 refine jC 28 [] (aAx) ?_
 refine jW hI 31 [(.fv (.ag [.lit (.string ⟨#[49]⟩),.lit (.string ⟨#[48]⟩),.lit (.string ⟨#[48]⟩),.lit (.string ⟨#[51]⟩),.lit (.string ⟨#[52]⟩),.lit (.string ⟨#[48]⟩),.lit (.string ⟨#[45,52]⟩),.lit (.string ⟨#[51]⟩),.lit (.string ⟨#[48]⟩),.lit (.string ⟨#[48]⟩),.lit (.string ⟨#[48]⟩),.lit (.string ⟨#[53]⟩)])),(.fv (.ag [.lit (.string ⟨#[49]⟩),.lit (.string ⟨#[48]⟩),.lit (.string ⟨#[48]⟩),.lit (.string ⟨#[51]⟩),.lit (.string ⟨#[52]⟩),.lit (.string ⟨#[48]⟩),.lit (.string ⟨#[45,52]⟩),.lit (.string ⟨#[51]⟩),.lit (.string ⟨#[48]⟩),.lit (.string ⟨#[48]⟩),.lit (.string ⟨#[48]⟩),.lit (.string ⟨#[53]⟩)]))] (eCompose) ?_
 refine jC 23 [it (0),it (0),it (0)] (lv_0_0_0) ?_
 refine jC 23 [it (1),it (1),it (0)] (lv_1_1_0) ?_
 refine jW hI 32 [(.fv (.ag [.lit (.int .i64 (1)),.lit (.int .i64 (1)),.lit (.int .i64 (1)),.lit (.string ⟨#[49,48]⟩)])),(.fv (.ag [.lit (.string ⟨#[48]⟩),.lit (.string ⟨#[48]⟩),.lit (.string ⟨#[48]⟩)])),(.fv (.ag [.lit (.string ⟨#[49]⟩),.lit (.string ⟨#[49]⟩),.lit (.string ⟨#[48]⟩)]))] (eMeet) ?_
 refine jC 23 [it (0),it (7),it (5)] (lv_0_7_5) ?_
 refine jC 23 [it (0),it (1),it (0)] (lv_0_1_0) ?_
 refine jC 23 [it (-1),it (0),it (0)] (lv_m1_0_0) ?_
 refine jC 23 [it (4),it (4),it (0)] (lv_4_4_0) ?_
 refine jC 23 [it (-7),it (24),it (0)] (lv_m7_24_0) ?_
 refine jC 23 [it (5),it (5),it (0)] (lv_5_5_0) ?_
 refine jC 23 [it (10),it (7),it (1)] (lv_10_7_1) ?_
 refine jW hI 33 [(.fv (.ag [.lit (.int .i64 (3)),.lit (.int .i64 (0)),.lit (.int .i64 (-2)),.lit (.string ⟨#[51,48]⟩)])),(.fv (.ag [.lit (.string ⟨#[49,48]⟩),.lit (.string ⟨#[55]⟩),.lit (.string ⟨#[49]⟩)]))] (eSide) ?_
 refine jC 34 [lt ⟨#[112,111,115,116,95,49]⟩] (isNameF (b:=true) (by kernel_rfl)) ?_
 refine jC 34 [lt ⟨#[49,112,111,115,116]⟩] (isNameF (b:=false) (by kernel_rfl)) ?_
 exact jR Tryz.func4
def Bq (k:Nat) (q:Rat):Prop:=q.num.natAbs<10^k∧q.den<10^k
theorem Bq.mono {k l:Nat} {q:Rat} (h:Bq k q) (hk:k≤l):Bq l q :=
 ⟨Nat.lt_of_lt_of_le h.1 (Nat.pow_le_pow_right (by omega) hk),Nat.lt_of_lt_of_le h.2 (Nat.pow_le_pow_right (by omega) hk)⟩
theorem Bq.mul {j k:Nat} {p q:Rat} (hp:Bq j p) (hq:Bq k q):Bq (j+k) (p*q):=by
 rw [Rat.mul_def']
 obtain ⟨h1,h2⟩:=dM (p.num*q.num) (Nat.ne_of_gt (Nat.mul_pos p.den_pos q.den_pos))
 rw [Int.natAbs_mul] at h1
 refine ⟨Nat.lt_of_le_of_lt h1 ?_,Nat.lt_of_le_of_lt h2 ?_⟩
 ·rw [Nat.pow_add];exact Nat.mul_lt_mul'' hp.1 hq.1
 ·rw [Nat.pow_add];exact Nat.mul_lt_mul'' hp.2 hq.2
theorem Bq.add {j k:Nat} {p q:Rat} (hp:Bq j p) (hq:Bq k q):Bq (j+k+1) (p+q):=by
 rw [Rat.add_def']
 obtain ⟨h1,h2⟩:=dM (p.num*q.den+q.num*p.den) (Nat.ne_of_gt (Nat.mul_pos p.den_pos q.den_pos))
 have a1:p.num.natAbs*q.den<10^(j+k):=by rw [Nat.pow_add];exact Nat.mul_lt_mul'' hp.1 hq.2
 have a2:q.num.natAbs*p.den<10^(j+k):=by rw [Nat.pow_add,Nat.mul_comm];exact Nat.mul_lt_mul'' hp.2 hq.1
 have a3:p.den*q.den<10^(j+k):=by rw [Nat.pow_add];exact Nat.mul_lt_mul'' hp.2 hq.2
 have a4:10^(j+k+1)=10^(j+k)*10:=Nat.pow_succ _ _
 have a5:=Int.natAbs_add_le (p.num*q.den) (q.num*p.den)
 rw [Int.natAbs_mul,Int.natAbs_mul,Int.natAbs_natCast,Int.natAbs_natCast] at a5
 exact ⟨by omega,by omega⟩
theorem Bq.neg {k:Nat} {p:Rat} (hp:Bq k p):Bq k (-p):=by
 refine ⟨?_,hp.2⟩
 rw [Rat.neg_num,Int.natAbs_neg];exact hp.1
theorem Bq.sub {j k:Nat} {p q:Rat} (hp:Bq j p) (hq:Bq k q):Bq (j+k+1) (p-q):=by
 rw [Rat.sub_eq_add_neg]
 exact hp.add hq.neg
theorem Bq.inv {k:Nat} {p:Rat} (hp:Bq k p):Bq k p⁻¹:=by
 by_cases h0:p=0
 ·subst h0;rw [Rat.inv_zero];exact hp
 ·obtain ⟨_,e1,e2⟩:=Parts.inv (Parts.self p) h0
  exact ⟨by rw [← e1];exact hp.2,by rw [← e2];exact hp.1⟩
theorem Bq.div {j k:Nat} {p q:Rat} (hp:Bq j p) (hq:Bq k q):Bq (j+k) (p/q):=by
 rw [Rat.div_def]
 exact hp.mul hq.inv
theorem Bq.wr {k:Nat} {q:Rat} (h:Bq k q) (hk:k≤600):Wr q:=by
 have h':=h.mono (l:=599+1) hk
 exact ⟨decB_size h'.1,decB_size h'.2⟩
theorem Bq.zs {k:Nat} {q:Rat} (h:Bq k q) (hk:k≤10000):Zs 10000 q:=by
 have h':=h.mono (l:=10000+1) (by omega)
 exact h'
theorem bq_of {k:Nat} {q:Rat} (h:Fw k q):Bq k q:=⟨mY h.1,mY h.2⟩
theorem aAy {q:Rat} (h:q≠0):q.num≠0:=fun e=>h (Rat.num_eq_zero.1 e)
abbrev nz (d:Nat):AV Kr := .fv (.ag [.lit (.bool true),.sp (nD d)])
theorem signedNF {d:Nat}:jF 138 [rl true,di d] (iz (-(d:Int))):=by
 intro β w vs hv
 obtain ⟨v,u,rfl,h1,h2⟩:=dN hv
 rw [bU h1]
 have := @eW true d β w [.bool true,u] ⟨_,_,rfl,cJ,u,[],rfl,h2,rfl⟩
 simpa [gP] using this
theorem minusP {n:Int} {c:Nat} (hc:n = -(c:Int)):jF 141 [pz c] (iz n):=by
 rw [hc]
 refine jT Tryz.func141 fun w00=>?_
 refine jB 138 [rl true,di c] signedNF ?_
 exact jS Tryz.func141
theorem minusNZ {d:Nat}:jF 141 [nz d] (iz (d:Int)):=by
 refine jT Tryz.func141 fun w00=>?_
 refine jB 138 [rl false,di d] lT ?_
 exact jS Tryz.func141
theorem minusN {d:Nat}:jF 141 [nz d] (pz d):=lU minusNZ fun _ _ _ h=>iz_pz h
section
variable {n:Int} {d:Nat}
theorem fractionNF {c:Nat} (hc:n = -(c:Int)) (hn:Bd n.natAbs) (hd:Bd d) (hd0:0<d) (hp:n.natAbs<B9^100000000) (hq:d<B9^100000000) (hs1:(aS (gP (decide (n<0)) (n.natAbs/Nat.gcd n.natAbs d))).size≤1000000000) (hs2:(aS ((d/Nat.gcd n.natAbs d:Nat):Int)).size≤1000000000) :
 jF 56 [pz c,nz d] (rS (if d/Nat.gcd n.natAbs d=1 then aS (gP (decide (n<0)) (n.natAbs/Nat.gcd n.natAbs d)) else aS (gP (decide (n<0)) (n.natAbs/Nat.gcd n.natAbs d))++⟨#[47]⟩++aS ((d/Nat.gcd n.natAbs d:Nat):Int))):=by
 have hg:0<Nat.gcd n.natAbs d:=Nat.gcd_pos_of_pos_right _ hd0
 have hq0:0<d/Nat.gcd n.natAbs d:=Nat.div_pos (Nat.gcd_le_right _ hd0) hg
 have hq1:d/Nat.gcd n.natAbs d≤d:=Nat.div_le_self _ _
 have hp1:(gP (decide (n<0)) (n.natAbs/Nat.gcd n.natAbs d)).natAbs<B9^100000000:=by rw [rO];exact Nat.lt_of_le_of_lt (Nat.div_le_self _ _) hp
 have hq2:((d/Nat.gcd n.natAbs d:Nat):Int).natAbs<B9^100000000:=by rw [Int.natAbs_natCast];exact Nat.lt_of_le_of_lt hq1 hq
 generalize hG:Nat.gcd n.natAbs d=g at *
 generalize hP:gP (decide (n<0)) (n.natAbs/g)=p at *
 generalize hQ:d/g=q at *
 by_cases h1:q=1
 ·rw [if_pos h1]
  refine jT Tryz.func56 fun w00=>?_
  refine jB 141 [pz c] (minusP hc) ?_
  refine jB 141 [nz d] minusN ?_
  refine jB 49 [di n.natAbs,di d] (by have:=kJ hn hd;rw [hG] at this;exact this) ?_
  refine jB 132 [di n.natAbs,di g] (qI hn hg) ?_
  refine jB 132 [di d,di g] (by have:=qI (a:=d) (b:=g) hd hg;rw [hQ] at this;exact this) ?_
  refine jB 138 [rb (decide (n<0)),di (n.natAbs/g)] (by have := @eW (decide (n<0)) (n.natAbs/g);rw [hP] at this;exact this) ?_
  refine jB 52 [iz p] (oA hp1) ?_
  refine jL (.call ⟨.builtin .len,#[.tmp 41],#[76]⟩) (.tmp 41) (.tmp 41) (di q) (di q) (.fv (.sc (.lit (.int .i64 1)))) (fun ρ o β w ho hx _=>?_) ?_
  ·obtain ⟨ad,c,e,_⟩:=iP (bB.1 hx) hq0 (by rw [h1];exact dI)
   exact ⟨_,iO ho e,eG rfl⟩
  refine jL (.indexAddr 76 (.tmp 45) (.const (.int .i64 0))) (.tmp 45) (.const (.int .i64 0)) (di q) (.fv (.sc (.lit (.int .i64 0)))) (rP q) (fun ρ o β w ho hx hy=>?_) ?_
  ·obtain ⟨ad,c,e,hc⟩:=iP (bB.1 hx) hq0 (by rw [h1];exact dI)
   exact ⟨_,lS ho e (bU hy) (by omega),⟨ad,rfl,hc⟩⟩
  refine jL (.load 3 (.tmp 46)) (.tmp 46) (.tmp 46) (rP q) (rP q) (.fv (.sc (.lit (.int .i64 1)))) (fun ρ o β w ho hx _=>?_) ?_
  ·obtain ⟨ad,e,hc⟩:=hx
   injection e with e
   rw [h1] at hc
   exact ⟨_,tC ho e hc,eG rfl⟩
  exact jS Tryz.func56
 ·rw [if_neg h1]
  have hcat1:(aS p).size+(⟨#[47]⟩:ByteArray).size≤9223372036854775807:=by
   have:(⟨#[47]⟩:ByteArray).size=1:=rfl
   omega
  have hcat2:(aS p++⟨#[47]⟩:ByteArray).size+(aS (q:Int)).size≤9223372036854775807:=by
   have:(⟨#[47]⟩:ByteArray).size=1:=rfl
   rw [ByteArray.size_append]
   omega
  by_cases h2:q<B9
  ·refine jT Tryz.func56 fun w00=>?_
   refine jB 141 [pz c] (minusP hc) ?_
   refine jB 141 [nz d] minusN ?_
   refine jB 49 [di n.natAbs,di d] (by have:=kJ hn hd;rw [hG] at this;exact this) ?_
   refine jB 132 [di n.natAbs,di g] (qI hn hg) ?_
   refine jB 132 [di d,di g] (by have:=qI (a:=d) (b:=g) hd hg;rw [hQ] at this;exact this) ?_
   refine jB 138 [rb (decide (n<0)),di (n.natAbs/g)] (by have := @eW (decide (n<0)) (n.natAbs/g);rw [hP] at this;exact this) ?_
   refine jB 52 [iz p] (oA hp1) ?_
   refine jL (.call ⟨.builtin .len,#[.tmp 41],#[76]⟩) (.tmp 41) (.tmp 41) (di q) (di q) (.fv (.sc (.lit (.int .i64 1)))) (fun ρ o β w ho hx _=>?_) ?_
   ·obtain ⟨ad,c,e,_⟩:=iP (bB.1 hx) hq0 h2
    exact ⟨_,iO ho e,eG rfl⟩
   refine jL (.indexAddr 76 (.tmp 45) (.const (.int .i64 0))) (.tmp 45) (.const (.int .i64 0)) (di q) (.fv (.sc (.lit (.int .i64 0)))) (rP q) (fun ρ o β w ho hx hy=>?_) ?_
   ·obtain ⟨ad,c,e,hc⟩:=iP (bB.1 hx) hq0 h2
    exact ⟨_,lS ho e (bU hy) (by omega),⟨ad,rfl,hc⟩⟩
   refine jL (.load 3 (.tmp 46)) (.tmp 46) (.tmp 46) (rP q) (rP q) (rI q) (fun ρ o β w ho hx _=>?_) ?_
   ·obtain ⟨ad,e,hc⟩:=hx
    injection e with e
    exact ⟨_,tC ho e hc,cJ⟩
   refine jL (.binOp .eql 3 (.tmp 47) (.const (.int .i64 1)) 3) (.tmp 47) (.const (.int .i64 1)) (rI q) (.fv (.sc (.lit (.int .i64 1)))) (rl false) (fun ρ o β w ho hx hy=>⟨.bool false,iD ho (bD hx) (bU hy) (by simp;omega),eG rfl⟩) ?_
   refine jL (.binOp .add 9 (.tmp 51) (.const (.string ⟨#[47]⟩)) 9) (.tmp 51) (.const (.string ⟨#[47]⟩)) (rS (aS p)) (.fv (.sc (.lit (.string ⟨#[47]⟩)))) (rS (aS p++⟨#[47]⟩)) (fun ρ o β w ho hx hy=>⟨_,eO ho (bD hx) (bU hy) hcat1,cJ⟩) ?_
   refine jB 138 [rl false,di q] lT ?_
   refine jB 52 [iz (q:Int)] (oA hq2) ?_
   refine jL (.binOp .add 9 (.tmp 52) (.tmp 55) 9) (.tmp 52) (.tmp 55) (rS (aS p++⟨#[47]⟩)) (rS (aS (q:Int))) (rS (aS p++⟨#[47]⟩++aS (q:Int))) (fun ρ o β w ho hx hy=>⟨_,eO ho (bD hx) (bD hy) hcat2,cJ⟩) ?_
   exact jS Tryz.func56
  ·refine jT Tryz.func56 fun w00=>?_
   refine jB 141 [pz c] (minusP hc) ?_
   refine jB 141 [nz d] minusN ?_
   refine jB 49 [di n.natAbs,di d] (by have:=kJ hn hd;rw [hG] at this;exact this) ?_
   refine jB 132 [di n.natAbs,di g] (qI hn hg) ?_
   refine jB 132 [di d,di g] (by have:=qI (a:=d) (b:=g) hd hg;rw [hQ] at this;exact this) ?_
   refine jB 138 [rb (decide (n<0)),di (n.natAbs/g)] (by have := @eW (decide (n<0)) (n.natAbs/g);rw [hP] at this;exact this) ?_
   refine jB 52 [iz p] (oA hp1) ?_
   refine jL (.call ⟨.builtin .len,#[.tmp 41],#[76]⟩) (.tmp 41) (.tmp 41) (di q) (di q) rNe (fun ρ o β w ho hx _=>?_) ?_
   ·obtain ⟨A,m,c,e,hm⟩:=uV (bB.1 hx) (Nat.le_of_not_lt h2)
    exact ⟨_,iO ho e,⟨(m:Int),rfl,by omega⟩⟩
   refine jL (.binOp .eql 3 (.tmp 42) (.const (.int .i64 1)) 3) (.tmp 42) (.const (.int .i64 1)) rNe (.fv (.sc (.lit (.int .i64 1)))) (rl false) (fun ρ o β w ho hx hy=>?_) ?_
   ·obtain ⟨m,e,hm⟩:=hx
    injection e with e
    exact ⟨.bool false,iD ho e (bU hy) (by simpa using hm),eG rfl⟩
   refine jL (.binOp .add 9 (.tmp 51) (.const (.string ⟨#[47]⟩)) 9) (.tmp 51) (.const (.string ⟨#[47]⟩)) (rS (aS p)) (.fv (.sc (.lit (.string ⟨#[47]⟩)))) (rS (aS p++⟨#[47]⟩)) (fun ρ o β w ho hx hy=>⟨_,eO ho (bD hx) (bU hy) hcat1,cJ⟩) ?_
   refine jB 138 [rl false,di q] lT ?_
   refine jB 52 [iz (q:Int)] (oA hq2) ?_
   refine jL (.binOp .add 9 (.tmp 52) (.tmp 55) 9) (.tmp 52) (.tmp 55) (rS (aS p++⟨#[47]⟩)) (rS (aS (q:Int))) (rS (aS p++⟨#[47]⟩++aS (q:Int))) (fun ρ o β w ho hx hy=>⟨_,eO ho (bD hx) (bD hy) hcat2,cJ⟩) ?_
   exact jS Tryz.func56
end
theorem fracNW {n:Int} {c d k:Nat} (hc:n = -(c:Int)) (hk:k≤1000000) (hn:n.natAbs<10^(k+1)) (hd:d<10^(k+1)) (h0:0<d):jF 56 [pz c,nz d] (rS (writeB (mkRat n d))):=by
 have h:=fractionNF (n:=n) (d:=d) hc (fK hn (by omega)) (fK hd (by omega)) h0 (xD hn (by omega)) (xD hd (by omega))
  (by have:=oY (k:=k) (z:=gP (decide (n<0)) (n.natAbs/Nat.gcd n.natAbs d)) (by rw [rO];exact Nat.lt_of_le_of_lt (Nat.div_le_self _ _) hn);omega)
  (by have:=oY (k:=k) (z:=((d/Nat.gcd n.natAbs d:Nat):Int)) (by rw [Int.natAbs_natCast];exact Nat.lt_of_le_of_lt (Nat.div_le_self _ _) hd);omega)
 rw [qJ n h0] at h
 exact h
section
variable {p q:Rat}
theorem inv_pos {m:Nat} (h:q.num=(m:Int)):mkRat (q.den:Int) m=q⁻¹:=by
 rw [Rat.inv_def,h,Rat.divInt_ofNat]
theorem inv_neg {m:Nat} (h:q.num = -(m:Int)):mkRat (-(q.den:Int)) m=q⁻¹:=by
 rw [Rat.inv_def,h,Rat.divInt_neg',Rat.divInt_ofNat]
theorem aAz {m:Nat} (h:q.num = -(m:Int)) (h0:0<m) {β:List Nat} {v:Value} {w:World} (k:(AV.fv (.ag [rB (decide (q.num<0)),.sp (nD q.num.natAbs)]):AV Kr).holds β v w):(nz m).holds β v w:=by
 have e1:decide (q.num<0)=true:=by rw [decide_eq_true_iff];omega
 have e2:q.num.natAbs=m:=by omega
 rw [e1,e2] at k
 obtain ⟨cs,rfl,a,r,rfl,h1,h2⟩:=k
 exact ⟨_,rfl,a,r,rfl,⟨h1,rfl⟩,h2⟩
theorem prt_pos {m:Nat} (h:q.num=(m:Int)) {β:List Nat} {v:Value} {w:World} (k:(AV.fv (.ag [rB (decide (q.num<0)),.sp (nD q.num.natAbs)]):AV Kr).holds β v w):(pz m).holds β v w:=by
 have k' : (iz q.num).holds β v w:=k
 rw [h] at k'
 exact iz_pz k'
theorem fracPZ {k:Nat} (hk:k≤1000000) (hq:Zs k q) (h0:0<q.num.natAbs):jF 56 [iz (q.den:Int),pz q.num.natAbs] (rS (writeB (mkRat (q.den:Int) q.num.natAbs))) :=
 fracW (n:=(q.den:Int)) (k:=k) hk (by rw [Int.natAbs_natCast];exact hq.2) hq.1 h0
theorem fracNZ {k:Nat} (hk:k≤1000000) (hq:Zs k q) (h0:0<q.num.natAbs):jF 56 [pz q.den,nz q.num.natAbs] (rS (writeB (mkRat (-((q.den:Nat):Int)) q.num.natAbs))) :=
 fracNW (k:=k) rfl hk (by rw [Int.natAbs_neg,Int.natAbs_natCast];exact hq.2) hq.1 h0
theorem lt_pow_more {a b k:Nat} (h:a<10^(k+1)) (h2:b≤a+1):b<10^(k+1+1):=by
 rw [Nat.pow_succ]
 have:0<10^(k+1):=Nat.pow_pos (by omega)
 omega
theorem recipF (hq:Zs 10000 q) (h0:q≠0):jF 61 [rS (writeB q)] (rS (writeB q⁻¹)):=by
 obtain ⟨s1,s2⟩:=oZ hq (by omega)
 have hn:=aAy h0
 have hfr:jF 56 [pz q.den,.fv (.ag [rB (decide (q.num<0)),.sp (nD q.num.natAbs)])] (rS (writeB q⁻¹)):=by
  by_cases hs:q.num<0
  ·have e:q.num = -((q.num.natAbs:Nat):Int):=by omega
   rw [← inv_neg e]
   refine xC (fracNZ (k:=10000) (by omega) hq (by omega)) fun β vs w ⟨v,r,e1,h1,u,r2,e2,h2,h3⟩=>⟨v,r,e1,h1,u,r2,e2,aAz e (by omega) h2,h3⟩
  ·have e:q.num=((q.num.natAbs:Nat):Int):=by omega
   rw [← inv_pos e]
   refine xC (fracPZ (k:=10000) (by omega) hq (by omega)) fun β vs w ⟨v,r,e1,h1,u,r2,e2,h2,h3⟩=>⟨v,r,e1,pz_iz h1,u,r2,e2,prt_pos e h2,h3⟩
 refine jT Tryz.func61 fun w00=>?_
 refine jB 48 [rS (writeB q)] (tF s1 s2) ?_
 refine jB 56 [pz q.den,.fv (.ag [rB (decide (q.num<0)),.sp (nD q.num.natAbs)])] hfr ?_
 exact jS Tryz.func61
theorem zs_inv {k:Nat} (h:Zs k q) (h0:q≠0):Zs k q⁻¹:=by
 have hn:=aAy h0
 have hd:=q.den_pos
 by_cases hs:q.num<0
 ·have e:q.num = -((q.num.natAbs:Nat):Int):=by omega
  rw [← inv_neg e]
  obtain ⟨e1,e2⟩:=rV (-(q.den:Int)) (d:=q.num.natAbs) (by omega)
  have g:Nat.gcd (-(q.den:Int)).natAbs q.num.natAbs=1:=by rw [Int.natAbs_neg,Int.natAbs_natCast,Nat.gcd_comm];exact q.reduced
  rw [g] at e1 e2
  refine ⟨by rw [e1];simpa using h.2,by rw [e2];simpa using h.1⟩
 ·have e:q.num=((q.num.natAbs:Nat):Int):=by omega
  rw [← inv_pos e]
  obtain ⟨e1,e2⟩:=rV ((q.den:Int)) (d:=q.num.natAbs) (by omega)
  have g:Nat.gcd ((q.den:Int)).natAbs q.num.natAbs=1:=by rw [Int.natAbs_natCast,Nat.gcd_comm];exact q.reduced
  rw [g] at e1 e2
  refine ⟨by rw [e1];simpa using h.2,by rw [e2];simpa using h.1⟩
theorem refDivF (hp:Zs 10000 p) (hq:Zs 10000 q) (h0:q≠0):jF 20 [rS (writeB p),rS (writeB q)] (rS (writeB (p/q))):=by
 rw [Rat.div_def]
 refine jT Tryz.func20 fun w00=>?_
 refine jB 61 [rS (writeB q)] (recipF hq h0) ?_
 refine jB 17 [rS (writeB p),rS (writeB q⁻¹)] (refMulF hp (zs_inv hq h0)) ?_
 exact jS Tryz.func20
theorem kn_o {f:FuncId} {s u:ByteArray} (h:jF f [rS s] (rS u)):jF f [tx s] (tx u):=by
 intro β w vs hv
 obtain ⟨v,rfl,h1⟩:=dB hv
 rw [aU h1]
 exact (h β w [.string s] ⟨_,_,rfl,cJ,rfl⟩).mono fun e w' ⟨v,e1,e2,e3⟩=>⟨v,e1,e2,by rw [bD e3];exact bN⟩
theorem kn_Z {f:FuncId} {s:ByteArray} {z:Int} (h:jF f [rS s] (.fv (.sc (.lit (.int .i64 z))))):jF f [tx s] (it z):=by
 intro β w vs hv
 obtain ⟨v,rfl,h1⟩:=dB hv
 rw [aU h1]
 exact (h β w [.string s] ⟨_,_,rfl,cJ,rfl⟩).mono fun e w' ⟨v,e1,e2,e3⟩=>⟨v,e1,e2,by rw [bU e3];exact bK rfl⟩
theorem kn_IL {f:FuncId} {s:ByteArray} {z:Int} (h:jF f [rS s] (rI z)):jF f [tx s] (it z):=by
 intro β w vs hv
 obtain ⟨v,rfl,h1⟩:=dB hv
 rw [aU h1]
 exact (h β w [.string s] ⟨_,_,rfl,cJ,rfl⟩).mono fun e w' ⟨v,e1,e2,e3⟩=>⟨v,e1,e2,by rw [bD e3];exact bK rfl⟩
theorem jE {s:ByteArray} {z:Int} (hs:s.size≤9223372036854775807) (hz:bA s=z):jF 12 [tx s] (it z):=kn_IL (hz▸checkAnyF hs)
theorem sign_cmp (p q:Rat):(dU p q = -1∧(p-q).num<0)∨(dU p q=0∧(p-q).num=0)∨(dU p q=1∧0<(p-q).num):=by
 unfold dU
 by_cases h1:p<q
 ·left
  refine ⟨if_pos h1,Int.not_le.1 fun h=>?_⟩
  have h:=Rat.num_nonneg.1 h
  grind
 ·by_cases h2:q<p
  ·right;right
   refine ⟨by rw [if_neg h1,if_pos h2],?_⟩
   have h3:0≤(p-q).num:=Rat.num_nonneg.2 (by grind)
   have h4:(p-q).num≠0:=fun h=>by
    have:=Rat.num_eq_zero.1 h
    grind
   omega
  ·right;left
   refine ⟨by rw [if_neg h1,if_neg h2],?_⟩
   rw [Rat.num_eq_zero]
   grind
theorem refCmpF (hp:Zs 10000 p) (hq:Zs 10000 q):jF 18 [tx (writeB p),tx (writeB q)] (it (dU p q)):=by
 have hs:=kn_S (subR hp hq)
 rcases sign_cmp p q with ⟨e,h⟩|⟨e,h⟩|⟨e,h⟩
 ·rw [e]
  refine jG Tryz.func18 fun w00=>?_
  refine jC 16 [tx (writeB p),tx (writeB q)] (hs) ?_
  refine jC 60 [tx (writeB (p-q))] (kn_Z (signFn h)) ?_
  exact jR Tryz.func18
 ·rw [e]
  refine jG Tryz.func18 fun w00=>?_
  refine jC 16 [tx (writeB p),tx (writeB q)] (hs) ?_
  refine jC 60 [tx (writeB (p-q))] (kn_Z (signF0 h)) ?_
  exact jR Tryz.func18
 ·rw [e]
  refine jG Tryz.func18 fun w00=>?_
  refine jC 16 [tx (writeB p),tx (writeB q)] (hs) ?_
  refine jC 60 [tx (writeB (p-q))] (kn_Z (signFp h)) ?_
  exact jR Tryz.func18
end
section
variable {f:FuncId} {w00:World} {Out:Value→World→Prop}
theorem klenT {c:Cfg Kn} (t:Tmp) (T:TypeId) (hT:Tryz.prog.underlying T=some .string) (s:ByteArray) (hc:(c.op.map fun o=>o.op,c.okT (.fv (.sc (pB s.size))),c.ev (.tmp t))=(some (.call ⟨.builtin .len,#[.tmp t],#[T]⟩),true,tx s))
 (hg:Ok Tryz.prog f w00 Out (cV Tryz.prog 1000 (c.give (.fv (.sc (pB s.size)))))):Ok Tryz.prog f w00 Out c:=by
 simp only [Prod.mk.injEq] at hc
 obtain ⟨h1,h2,h3⟩:=hc
 exact kop2 _ (.tmp t) (.tmp t) (tx s) (tx s) (.fv (.sc (pB s.size))) (by rw [h1,h2,h3]) (by simp [Op.operands,Call.operands]) (by simp [Op.operands,Call.operands])
  (fun ρ o β w ho hx _=>⟨_,uR ho hT (aU hx),bN⟩) hg
theorem jP{c:Cfg Kn} (t:Tmp) (T:TypeId) (hT:Tryz.prog.underlying T=some .string) (s:ByteArray)(hg:Ok Tryz.prog f w00 Out (cV Tryz.prog 1000 (c.give (.fv (.sc (pB s.size))))))(hc:(c.op.map fun o=>o.op,c.okT (.fv (.sc (pB s.size))),c.ev (.tmp t))=(some (.call ⟨.builtin .len,#[.tmp t],#[T]⟩),true,tx s):=by kernel_rfl):Ok Tryz.prog f w00 Out c:=klenT t T hT s hc hg
end
section
variable {p q:Rat}
theorem wr_len {q:Rat} (h:Wr q):(writeB q).size≤1000000000:=by
 have h1:=h.n
 have h2:=h.d
 have:=xG q.num
 rw [jD]
 split <;> omega
theorem refLargeF (h:Wr q):jF 50 [tx (writeB q)] (it 0):=by
 have h1:=h.n
 have h2:=h.d
 have hl:=xG q.num
 refine jG Tryz.func50 fun w00=>?_
 refine jC 134 [tx (writeB q)] (kn_o (numF (wr_len h))) ?_
 refine jC 133 [tx (aS q.num)] (kn_o (absTF (by omega))) ?_
 refine jP 5 22 Tryz.underlying22 (decB q.num.natAbs) ?_
 refine jM 6 (decB q.num.natAbs).size 600 false (by rw [decide_eq_false_iff_not];omega) ?_
 refine jC 135 [tx (writeB q)] (kn_o (denOfF (wr_len h))) ?_
 refine jP 10 22 Tryz.underlying22 (decB q.den) ?_
 refine jM 11 (decB q.den).size 600 false (by rw [decide_eq_false_iff_not];omega) ?_
 exact jR Tryz.func50
end
theorem di_len {w:World} {v:Value} {r:Nat} (h:Di w v r):∃ A n c,v = .slice A n c∧(r=0→n=0)∧(r≠0→n≠0):=by
 obtain ⟨A,n,c,xs,rfl,hr,hd,hn,rfl⟩:=h
 refine ⟨A,n,c,rfl,fun h0=>?_,fun h0 e=>?_⟩
 ·have:=(Norm.zero_iff bZ hn).1 h0
  rw [← hr.len,this];rfl
 ·apply h0
  rw [List.eq_nil_of_length_eq_zero (hr.len.trans e)];rfl
def csPos:CS Kr where
 size:=1
 cold:=false
 pred cs _ := ∃ n:Int,cs = [.int .i64 n]∧0<n
 stable _ _ _ h _:=h
 len cs w h:=by obtain ⟨v,e,_⟩:=h;rw [e];rfl
 one cs w h:=by obtain ⟨v,e,_⟩:=h;rw [e];intro d hd;rw [List.mem_singleton] at hd;rw [hd];rfl
 iscold h:=by cases h
abbrev rPos:AV Kr := .fv (.sc (.sp csPos))
theorem igt_run {o:Oper} {ρ:Operand→Value} {w:World} {x y:Operand} {a b:Int} {r:Bool} (ho:o.op = .binOp .gtr 3 x y 3) (hx:ρ x = .int .i64 a) (hy:ρ y = .int .i64 b) (h:decide (b<a)=r) :
 (execOp ρ o).run Tryz.prog w = .ok (.value (.bool r)) w:=by
 simp only [execOp,ho,hx,hy]
 refine bT ?_
 rw [← h]
 exact bY (by kernel_rfl) w
theorem addOneF {q:Nat} (h:Bd q):jF 137 [di q,.fv (.nsl 1 3 [.lit (.int .i64 1)])] (ru (q+1)):=by
 intro β w vs hv
 obtain ⟨v,u,rfl,h1,h2⟩:=dN hv
 obtain ⟨A,n,c,xs,rfl,hr,hd,hn,rfl⟩:=bB.1 h1
 obtain ⟨g,cs,rfl,hg,x,r,rfl,hx,hr2⟩:=h2
 have hx1:x = [.int .i64 1]:=hx.1
 rw [show r = [] from hr2,hx1] at hg
 have hl:n≤1099511627776:=by rw [← hr.len];exact aX dI hn h
 refine (pQ A n c xs (some ⟨g,0,none⟩) 1 1 [1] w hr (ri_one hg) hd (Dig.cons (by rw [cH];omega) (Dig.nil _)) (by omega) (by omega)).mono ?_
 rintro e w' ⟨A2,n2,c2,zs,rfl,h1,h2,h3,h4⟩
 exact ⟨_,rfl,h4,xA.2 ⟨A2,n2,c2,zs,rfl,h1,h2,by rw [h3];simp [val]⟩⟩
theorem signedNR {d:Nat}:jF 138 [rl true,ru d] (iz (-(d:Int))):=by
 intro β w vs hv
 obtain ⟨v,u,rfl,h1,h2⟩:=dN hv
 rw [bU h1]
 have := @signedRF true d β w [.bool true,u] ⟨_,_,rfl,cJ,u,[],rfl,h2,rfl⟩
 simpa [gP] using this
theorem floorDivP {a b:Nat} (ha:Bd a) (hb:0<b):jF 53 [pz a,pz b] (iz ((a/b:Nat):Int)):=by
 refine jT Tryz.func53 fun w00=>?_
 refine jB 132 [di a,di b] (qI ha hb) ?_
 refine jB 138 [rl false,di (a/b)] lT ?_
 exact jS Tryz.func53
theorem floorDivN0 {a b:Nat} (ha:Bd a) (hb:0<b) (h0:a%b=0):jF 53 [nz a,pz b] (iz (-((a/b:Nat):Int))):=by
 refine jT Tryz.func53 fun w00=>?_
 refine jB 132 [di a,di b] (qI ha hb) ?_
 refine jL (.call ⟨.builtin .len,#[.tmp 18],#[76]⟩) (.tmp 18) (.tmp 18) (di (a%b)) (di (a%b)) (.fv (.sc (.lit (.int .i64 0)))) (fun ρ o β w ho hx _=>?_) ?_
 ·obtain ⟨A,n,c,e,h1,_⟩:=di_len (bB.1 hx)
  have hn:=h1 h0
  subst hn
  exact ⟨_,iO ho e,eG rfl⟩
 refine jB 138 [rl true,di (a/b)] signedNF ?_
 exact jS Tryz.func53
theorem floorDivN1 {a b:Nat} (ha:Bd a) (hb:0<b) (h0:a%b≠0):jF 53 [nz a,pz b] (iz (-((a/b+1:Nat):Int))):=by
 refine jT Tryz.func53 fun w00=>?_
 refine jB 132 [di a,di b] (qI ha hb) ?_
 refine jL (.call ⟨.builtin .len,#[.tmp 18],#[76]⟩) (.tmp 18) (.tmp 18) (di (a%b)) (di (a%b)) rPos (fun ρ o β w ho hx _=>?_) ?_
 ·obtain ⟨A,n,c,e,_,h1⟩:=di_len (bB.1 hx)
  have hn:=h1 h0
  exact ⟨_,iO ho e,⟨(n:Int),rfl,by omega⟩⟩
 refine jL (.binOp .gtr 3 (.tmp 19) (.const (.int .i64 0)) 3) (.tmp 19) (.const (.int .i64 0)) rPos (.fv (.sc (.lit (.int .i64 0)))) (rl true) (fun ρ o β w ho hx hy=>?_) ?_
 ·obtain ⟨m,e,hm⟩:=hx
  injection e with e
  exact ⟨.bool true,igt_run ho e (bU hy) (by rw [decide_eq_true_iff];exact hm),eG rfl⟩
 refine jB 137 [di (a/b),.fv (.nsl 1 3 [.lit (.int .i64 1)])] (addOneF (Nat.lt_of_le_of_lt (Nat.div_le_self _ _) ha)) ?_
 refine jB 138 [rl true,ru (a/b+1)] signedNR ?_
 exact jS Tryz.func53
section
variable {q:Rat}
theorem isWholeF (hs:(writeB q).size≤1000000000):jF 51 [rS (writeB q)] (rl (decide (q.den=1))):=by
 have hsl:=iK q
 have hln:=jD q
 have hres:(((aK (writeB q):Nat):Int)==((writeB q).size:Nat))=decide (q.den=1):=by
  rw [hsl,hln,Bool.eq_iff_iff]
  by_cases h:q.den=1 <;> simp [h] <;> omega
 obtain ⟨b,hb⟩:∃ b,b=decide (q.den=1):=⟨_,rfl⟩
 rw [← hb] at hres ⊢
 refine jT Tryz.func51 fun w00=>?_
 refine jB 46 [rS (writeB q)] (eL (by omega)) ?_
 refine dJ 5 22 Tryz.underlying22 (writeB q) ?_
 refine jL (.binOp .eql 3 (.tmp 4) (.tmp 6) 3) (.tmp 4) (.tmp 6) (rI (aK (writeB q):Nat)) (rI ((writeB q).size:Nat)) (rl b) (fun ρ o β w ho hx hy=>⟨.bool b,iD ho (bD hx) (bD hy) hres,eG rfl⟩) ?_
 exact jS Tryz.func51
theorem floor_int (h:q.den=1):((q.floor:Int):Rat)=q:=by
 have e:q=((q.num:Int):Rat):=(Rat.ext (by simp) (by simp [h]))
 rw [e]
 simp
theorem floor_le (q:Rat):(q.floor).natAbs≤q.num.natAbs+1:=by
 rw [kG q _ rfl]
 have:=Nat.div_le_self q.num.natAbs q.den
 generalize q.num.natAbs%q.den=r at *
 generalize q.num.natAbs/q.den=m at *
 generalize q.num.natAbs=n at *
 unfold sg
 split <;> split <;> omega
theorem zL (hq:Zs 10000 q):jF 14 [rS (writeB q)] (rS (writeB ((q.floor:Int):Rat))):=by
 obtain ⟨s1,s2⟩:=oZ hq (by omega)
 have hs:(writeB q).size≤1000000000:=by have:=zs_len hq;omega
 by_cases h1:q.den=1
 ·rw [floor_int h1]
  refine jT Tryz.func14 fun w00=>?_
  refine jB 51 [rS (writeB q)] (by have:=isWholeF hs;rw [decide_eq_true h1] at this;exact this) ?_
  exact jS Tryz.func14
 ·have hn:Bd q.num.natAbs:=fK hq.1 (by omega)
  have hfd:jF 53 [.fv (.ag [rB (decide (q.num<0)),.sp (nD q.num.natAbs)]),pz q.den] (iz q.floor):=by
   by_cases hs:q.num<0
   ·have e:q.num = -((q.num.natAbs:Nat):Int):=by omega
    have hf:=kG q true (decide_eq_true hs)
    by_cases hr:q.num.natAbs%q.den=0
    ·rw [if_neg (by simp [hr])] at hf
     have hf' : q.floor = -((q.num.natAbs/q.den:Nat):Int):=hf
     rw [hf']
     exact xC (floorDivN0 hn q.den_pos hr) fun β vs w ⟨v,r,e1,h1,u⟩=>⟨v,r,e1,aAz e (by omega) h1,u⟩
    ·rw [if_pos ⟨rfl,hr⟩] at hf
     have hf' : q.floor = -((q.num.natAbs/q.den+1:Nat):Int):=hf
     rw [hf']
     exact xC (floorDivN1 hn q.den_pos hr) fun β vs w ⟨v,r,e1,h1,u⟩=>⟨v,r,e1,aAz e (by omega) h1,u⟩
   ·have e:q.num=((q.num.natAbs:Nat):Int):=by omega
    have hf:=kG q false (decide_eq_false hs)
    rw [if_neg (by simp)] at hf
    have hf' : q.floor=((q.num.natAbs/q.den:Nat):Int):=hf
    rw [hf']
    exact xC (floorDivP hn q.den_pos) fun β vs w ⟨v,r,e1,h1,u⟩=>⟨v,r,e1,prt_pos e h1,u⟩
  have hz:q.floor.natAbs<B9^100000000:=by
   have h:=floor_le q
   exact xD (k:=10000+1+1) (lt_pow_more hq.1 h) (by omega)
  have hw:writeB ((q.floor:Int):Rat)=aS q.floor:=by rw [gV (by simp)];simp
  rw [hw]
  generalize q.floor=z at *
  refine jT Tryz.func14 fun w00=>?_
  refine jB 51 [rS (writeB q)] (by have:=isWholeF hs;rw [decide_eq_false h1] at this;exact this) ?_
  refine jB 48 [rS (writeB q)] (tF s1 s2) ?_
  refine jB 53 [.fv (.ag [rB (decide (q.num<0)),.sp (nD q.num.natAbs)]),pz q.den] hfd ?_
  refine jB 52 [iz z] (oA hz) ?_
  exact jS Tryz.func14
end
end Ab
namespace Ab
open Go.RowKit
end Ab
namespace Ab
open Go.RowKit Pl
end Ab
namespace Ab
open Go.RowKit
section
variable {Kc:Value→Bool} {P:Program} {f:FuncId} {w00:World} {Out:Value→World→Prop}
theorem put_put (a:Act) (d:Tmp) (u v:Value):(a.put (some d) u).put (some d) v=a.put (some d) v:=by
 simp [Act.put]
end
end Ab
namespace Ab
open Go.RowKit Pl
abbrev hA (a b c:Int) (s:ByteArray):AV Kn := .fv (.ag [pB a,pB b,pB c,eU s])
abbrev hL (a b c:Int) (s:ByteArray):AV Kn := .fv (.ag [.lit (.int .i64 a),.lit (.int .i64 b),.lit (.int .i64 c),eU s])
section
variable {a b c:Int} {s:ByteArray}
abbrev In (k x:Int):Prop := -k≤x∧x≤k
end
section
variable {o1 o2 o3 x1 x2 x3 y1 y2 y3 z1 z2 z3:Rat}
theorem isZeroT {s:ByteArray} {r:Bool} (h:(s.toList==(⟨#[48]⟩:ByteArray).toList)=r):jF 19 [tx s] (bl r):=by
 refine jG Tryz.func19 fun w00=>?_
 refine jK (.binOp .eql 22 (.tmp 3) (.const (.string ⟨#[48]⟩)) 22) (.tmp 3) (.const (.string ⟨#[48]⟩)) (tx s) (lt ⟨#[48]⟩) (bl r) (fun ρ o β w ho hx hy=>⟨_,oU ho (aU hx) (aQ hy) h,bK rfl⟩) ?_
 exact jR Tryz.func19
variable {k l:Nat}
end
theorem tK {x y z:Int} (hx:Ev x) (hy:Ev y) (hz:f2 x y=z):jF 11 [.fv (.nsl 2 3 [lz x,lz y])] (it z):=by
 rcases hx with rfl|rfl|rfl
 ·have hz:y=z:=hz
  subst hz
  rcases hy with rfl|rfl|rfl <;> (refine xT Tryz.func11 (by kernel_rfl) fun w00=>?_;exact kret Tryz.func11 (by kernel_rfl))
 ·have hz:1=z:=hz
  subst hz
  refine xT Tryz.func11 (by kernel_rfl) fun w00=>?_
  exact jR Tryz.func11
 ·have hz:4=z:=hz
  subst hz
  refine xT Tryz.func11 (by kernel_rfl) fun w00=>?_
  exact jR Tryz.func11
abbrev Bz (z:Int):Prop:=z=1∨z=3∨z=4∨z=6∨z=7
theorem tL {z:Int} (hz:Bz z):jF 13 [lt ⟨#[]⟩,it z,it z,lt ⟨#[]⟩] (bl true):=by
 rcases hz with rfl|rfl|rfl|rfl|rfl <;> (refine jG Tryz.func13 fun w00=>?_;exact kret Tryz.func13 (by kernel_rfl))
theorem lZ {q:Rat} (h:Wr q):jF 13 [tx (writeB q),it 0,it 0,tx (writeB q)] (bl true):=by
 have hl:=refLargeF h
 generalize writeB q=s at *
 refine jG Tryz.func13 fun w00=>?_
 refine jC 50 [tx s] (hl) ?_
 refine jK (.binOp .eql 22 (.tmp 25) (.tmp 26) 22) (.tmp 25) (.tmp 26) (tx s) (tx s) (bl true) (fun ρ o β w ho hx hy=>⟨_,oU ho (aU hx) (aU hy) (beq_self_eq_true _),bK rfl⟩) ?_
 exact jR Tryz.func13
theorem ev_bad {z:Int} (h:Ev z) (h0:z≠0):Bz z:=by
 rcases h with h|h|h
 ·exact absurd h h0
 ·exact .inl h
 ·exact .inr (.inr (.inl h))
section
variable {a b:ByteArray} {z y:Int}
theorem nums_long1 (h:decide ((60:Int)<(a.size:Nat))=true):jX 3 [tx a,tx b] (bl true):=by
 refine jY Tryz.func3 fun w00 hI=>?_
 refine jW hI 4 [] (oM) ?_
 refine jP 22 22 Tryz.underlying22 a ?_
 refine jM 23 a.size 60 true h ?_
 refine jW hI 4 [] (oM) ?_
 exact jR Tryz.func3
theorem nums_long2 (h:decide ((60:Int)<(a.size:Nat))=false) (k:decide ((60:Int)<(b.size:Nat))=true):jX 3 [tx a,tx b] (bl true):=by
 refine jY Tryz.func3 fun w00 hI=>?_
 refine jW hI 4 [] (oM) ?_
 refine jP 22 22 Tryz.underlying22 a ?_
 refine jM 23 a.size 60 false h ?_
 refine jP 27 22 Tryz.underlying22 b ?_
 refine jM 28 b.size 60 true k ?_
 refine jW hI 4 [] (oM) ?_
 exact jR Tryz.func3
set_option maxRecDepth 100000 in
theorem nums_bad1 (h:decide ((60:Int)<(a.size:Nat))=false) (k:decide ((60:Int)<(b.size:Nat))=false) (hz:bA a=z) (h0:z≠0):jX 3 [tx a,tx b] (bl true):=by
 have ra:Rb a:=by have:=of_decide_eq_false h;show a.size<_;omega
 have rb' : Rb b:=by have:=of_decide_eq_false k;show b.size<_;omega
 have hf:f2 (bA a) (bA b)=z:=by rw [f2_l (by rw [hz];exact h0)];exact hz
 have c1:=xH ra rb' hf h0
 have c2:=xI ra rb' hf h0
 have c3:=xJ ra rb' hf h0
 have c4:=xK ra rb' hf h0
 have c5:=oJ ra rb' hf h0
 have c6:=aAv ra hz h0
 have k1:=jE (by have:=of_decide_eq_false h;omega) hz
 have k2:=jE (s:=b) (by have:=of_decide_eq_false k;omega) rfl
 have hev:Ev z:=hz▸bW a
 have k3:=tK (bW a) (bW b) hf
 have n1:=tL (ev_bad hev h0)
 rw [hz] at k3
 clear hf ra rb'
 generalize bA b=y at *
 rcases hev with rfl|rfl|rfl
 ·exact absurd rfl h0
 all_goals
  refine jY Tryz.func3 fun w00 hI=>?_
  refine jW hI 4 [] (oM) ?_
  refine jP 22 22 Tryz.underlying22 a ?_
  refine jM 23 a.size 60 false h ?_
  refine jP 27 22 Tryz.underlying22 b ?_
  refine jM 28 b.size 60 false k ?_
  refine jW hI 5 [tx a,tx b] (c1) ?_
  refine jW hI 6 [tx a,tx b] (c2) ?_
  refine jW hI 7 [tx a,tx b] (c3) ?_
  refine jW hI 8 [tx a,tx b] (c4) ?_
  refine jW hI 9 [tx a,tx b] (c5) ?_
  refine jW hI 10 [tx a] (c6) ?_
  refine jC 12 [tx a] (k1) ?_
  refine jC 12 [tx b] (k2) ?_
  refine jC 11 _ (k3) ?_
  refine jC 12 [tx a] (k1) ?_
  refine jC 13 _ (n1) ?_
  refine jC 13 _ (n1) ?_
  refine jC 13 _ (n1) ?_
  refine jC 13 _ (n1) ?_
  refine jC 13 _ (n1) ?_
  exact jR Tryz.func3
end
section
variable {p q:Rat} {b:ByteArray} {z:Int}
theorem xL {s:ByteArray} (h:decide ((60:Int)<(s.size:Nat))=false) (e:s=writeB p):Fw 60 p:=by
 have h:=of_decide_eq_false h
 have hl:(writeB p).size≤60:=by rw [← e];omega
 rw [jD] at hl
 have ht:(decB p.num.natAbs).size≤(aS p.num).size:=by
  unfold aS
  split
  ·rw [ByteArray.size_append];omega
  ·exact aR _
 refine ⟨by omega,?_⟩
 by_cases hd:p.den=1
 ·rw [hd,dec1];decide
 ·rw [if_neg hd] at hl;omega
theorem bq_floor {k:Nat} {p:Rat} (h:Bq k p):Bq (k+2) ((p.floor:Int):Rat):=by
 have hl:=floor_le p
 have h1:=h.1
 refine ⟨?_,?_⟩
 ·rw [Rat.num_intCast,Nat.pow_succ,Nat.pow_succ]
  have:0<10^k:=Nat.pow_pos (by omega)
  omega
 ·rw [Rat.den_intCast]
  exact Nat.one_lt_pow (by omega) (by omega)
set_option maxRecDepth 100000 in
theorem nums_bad2 (h:decide ((60:Int)<((writeB p).size:Nat))=false) (k:decide ((60:Int)<(b.size:Nat))=false) (hz:bA b=z) (h0:z≠0):jX 3 [tx (writeB p),tx b] (bl true):=by
 have hp:=bq_of (xL h rfl)
 have wp:Wr p:=hp.wr (by omega)
 have ra:Rb (writeB p):=by have:=of_decide_eq_false h;show (writeB p).size<_;omega
 have rb' : Rb b:=by have:=of_decide_eq_false k;show b.size<_;omega
 have hc:bA (writeB p)=0:=oG wp.n wp.d
 have hf:f2 (bA (writeB p)) (bA b)=z:=by rw [f2_r hc];exact hz
 have c1:=xH ra rb' hf h0
 have c2:=xI ra rb' hf h0
 have c3:=xJ ra rb' hf h0
 have c4:=xK ra rb' hf h0
 have c5:=oJ ra rb' hf h0
 have hfl:Bq 62 ((p.floor:Int):Rat):=bq_floor hp
 have wfl:Wr ((p.floor:Int):Rat):=hfl.wr (by omega)
 have c6:=zJ wp wfl
 have k1:=jE (by have:=of_decide_eq_false h;omega) hc
 have k2:=jE (s:=b) (by have:=of_decide_eq_false k;omega) hz
 have hev:Ev z:=hz▸bW b
 have k3:=tK (x:=0) (.inl rfl) hev (f2_r rfl)
 have k4:=kn_o (zL (hp.zs (by omega)))
 have n0:=lZ wfl
 have n1:=tL (ev_bad hev h0)
 clear hf ra rb' hfl wfl wp hp hc
 generalize writeB ((p.floor:Int):Rat)=fl at *
 generalize writeB p=a at *
 rcases hev with rfl|rfl|rfl
 ·exact absurd rfl h0
 all_goals
  refine jY Tryz.func3 fun w00 hI=>?_
  refine jW hI 4 [] (oM) ?_
  refine jP 22 22 Tryz.underlying22 a ?_
  refine jM 23 a.size 60 false h ?_
  refine jP 27 22 Tryz.underlying22 b ?_
  refine jM 28 b.size 60 false k ?_
  refine jW hI 5 [tx a,tx b] (c1) ?_
  refine jW hI 6 [tx a,tx b] (c2) ?_
  refine jW hI 7 [tx a,tx b] (c3) ?_
  refine jW hI 8 [tx a,tx b] (c4) ?_
  refine jW hI 9 [tx a,tx b] (c5) ?_
  refine jW hI 10 [tx a] (c6) ?_
  refine jC 12 [tx a] (k1) ?_
  refine jC 12 [tx b] (k2) ?_
  refine jC 11 _ (k3) ?_
  refine jC 12 [tx a] (k1) ?_
  refine jC 14 [tx a] (k4) ?_
  refine jC 13 _ (n0) ?_
  refine jC 13 _ (n1) ?_
  refine jC 13 _ (n1) ?_
  refine jC 13 _ (n1) ?_
  refine jC 13 _ (n1) ?_
  exact jR Tryz.func3
theorem xM (p q:Rat):dU p q = -1∨dU p q=0∨dU p q=1:=by
 rcases sign_cmp p q with ⟨e,_⟩|⟨e,_⟩|⟨e,_⟩
 ·exact .inl e
 ·exact .inr (.inl e)
 ·exact .inr (.inr e)
set_option maxRecDepth 100000 in
theorem nums_ok (h:decide ((60:Int)<((writeB p).size:Nat))=false) (k:decide ((60:Int)<((writeB q).size:Nat))=false):jX 3 [tx (writeB p),tx (writeB q)] (bl true):=by
 have hp:=bq_of (xL h rfl)
 have hq:=bq_of (xL k rfl)
 have wp:Wr p:=hp.wr (by omega)
 have wq:Wr q:=hq.wr (by omega)
 have hcp:bA (writeB p)=0:=oG wp.n wp.d
 have hcq:bA (writeB q)=0:=oG wq.n wq.d
 have w1:Wr (p+q):=(hp.add hq).wr (by omega)
 have w2:Wr (p-q):=(hp.sub hq).wr (by omega)
 have w3:Wr (p*q):=(hp.mul hq).wr (by omega)
 have wfl:Wr ((p.floor:Int):Rat):=(bq_floor hp).wr (by omega)
 have c1:=apiAddF wp wq w1
 have c2:=apiSubF wp wq w2
 have c3:=apiMulF wp wq w3
 have c5:=apiCompareF wp wq
 have c6:=zJ wp wfl
 have zp:=hp.zs (by omega)
 have zq:=hq.zs (by omega)
 have k1:=jE (by have:=of_decide_eq_false h;omega) hcp
 have k2:=jE (s:=writeB q) (by have:=of_decide_eq_false k;omega) hcq
 have k3:=tK (x:=0) (y:=0) (.inl rfl) (.inl rfl) (f2_r rfl)
 have k4:=kn_o (zL zp)
 have r1:=kn_S (refAddF zp zq)
 have r2:=kn_S (subR zp zq)
 have r3:=kn_S (refMulF zp zq)
 have r5:=refCmpF zp zq
 have n0:=lZ wfl
 have n1:=lZ w1
 have n2:=lZ w2
 have n3:=lZ w3
 by_cases h0:q=0
 ·have c4:=apiDivZeroF wp wq h0
  have n4:=tL (z:=6) (by decide)
  have hs:((writeB q).toList==(⟨#[48]⟩:ByteArray).toList)=true:=by
   have e:writeB q=⟨#[48]⟩:=by rw [h0];exact w0
   rw [e];exact beq_self_eq_true _
  have hz:=isZeroT hs
  have hcv:=xM p q
  clear hp hq wp wq hcp hcq w1 w2 w3 wfl zp zq hs h0
  generalize writeB (p+q)=s1 at *
  generalize writeB (p-q)=s2 at *
  generalize writeB (p*q)=s3 at *
  generalize writeB ((p.floor:Int):Rat)=fl at *
  generalize dU p q=c at *
  generalize writeB p=a at *
  generalize writeB q=b at *
  rcases hcv with rfl|rfl|rfl
  all_goals
   refine jY Tryz.func3 fun w00 hI=>?_
   refine jW hI 4 [] (oM) ?_
   refine jP 22 22 Tryz.underlying22 a ?_
   refine jM 23 a.size 60 false h ?_
   refine jP 27 22 Tryz.underlying22 b ?_
   refine jM 28 b.size 60 false k ?_
   refine jW hI 5 [tx a,tx b] (c1) ?_
   refine jW hI 6 [tx a,tx b] (c2) ?_
   refine jW hI 7 [tx a,tx b] (c3) ?_
   refine jW hI 8 [tx a,tx b] (c4) ?_
   refine jW hI 9 [tx a,tx b] (c5) ?_
   refine jW hI 10 [tx a] (c6) ?_
   refine jC 12 [tx a] (k1) ?_
   refine jC 12 [tx b] (k2) ?_
   refine jC 11 _ (k3) ?_
   refine jC 12 [tx a] (k1) ?_
   refine jC 14 [tx a] (k4) ?_
   refine jC 13 _ (n0) ?_
   refine jC 15 [tx a,tx b] (r1) ?_
   refine jC 13 _ (n1) ?_
   refine jC 16 [tx a,tx b] (r2) ?_
   refine jC 13 _ (n2) ?_
   refine jC 17 [tx a,tx b] (r3) ?_
   refine jC 13 _ (n3) ?_
   refine jC 18 [tx a,tx b] (r5) ?_
   refine jC 19 [tx b] (hz) ?_
   refine jC 13 _ (n4) ?_
   exact jR Tryz.func3
 ·have hd:=hp.div hq
  have w4:Wr (p/q):=hd.wr (by omega)
  have c4:=apiDivF wp wq h0 w4
  have r4:=kn_S (refDivF zp zq h0)
  have n4:=lZ w4
  have hs:((writeB q).toList==(⟨#[48]⟩:ByteArray).toList)=false:=dR (kS (aAy h0))
  have hz:=isZeroT hs
  have hcv:=xM p q
  clear hp hq wp wq hcp hcq w1 w2 w3 wfl zp zq hs h0 hd w4
  generalize writeB (p+q)=s1 at *
  generalize writeB (p-q)=s2 at *
  generalize writeB (p*q)=s3 at *
  generalize writeB (p/q)=s4 at *
  generalize writeB ((p.floor:Int):Rat)=fl at *
  generalize dU p q=c at *
  generalize writeB p=a at *
  generalize writeB q=b at *
  rcases hcv with rfl|rfl|rfl
  all_goals
   refine jY Tryz.func3 fun w00 hI=>?_
   refine jW hI 4 [] (oM) ?_
   refine jP 22 22 Tryz.underlying22 a ?_
   refine jM 23 a.size 60 false h ?_
   refine jP 27 22 Tryz.underlying22 b ?_
   refine jM 28 b.size 60 false k ?_
   refine jW hI 5 [tx a,tx b] (c1) ?_
   refine jW hI 6 [tx a,tx b] (c2) ?_
   refine jW hI 7 [tx a,tx b] (c3) ?_
   refine jW hI 8 [tx a,tx b] (c4) ?_
   refine jW hI 9 [tx a,tx b] (c5) ?_
   refine jW hI 10 [tx a] (c6) ?_
   refine jC 12 [tx a] (k1) ?_
   refine jC 12 [tx b] (k2) ?_
   refine jC 11 _ (k3) ?_
   refine jC 12 [tx a] (k1) ?_
   refine jC 14 [tx a] (k4) ?_
   refine jC 13 _ (n0) ?_
   refine jC 15 [tx a,tx b] (r1) ?_
   refine jC 13 _ (n1) ?_
   refine jC 16 [tx a,tx b] (r2) ?_
   refine jC 13 _ (n2) ?_
   refine jC 17 [tx a,tx b] (r3) ?_
   refine jC 13 _ (n3) ?_
   refine jC 18 [tx a,tx b] (r5) ?_
   refine jC 19 [tx b] (hz) ?_
   refine jC 20 [tx a,tx b] (r4) ?_
   refine jC 13 _ (n4) ?_
   exact jR Tryz.func3
end
theorem numbersF (a b:ByteArray):jX 3 [tx a,tx b] (bl true):=by
 cases h:decide ((60:Int)<(a.size:Nat)) with
 | true=>exact nums_long1 h
 | false =>
   cases k:decide ((60:Int)<(b.size:Nat)) with
   | true=>exact nums_long2 h k
   | false =>
     by_cases ha:bA a=0
     ·obtain ⟨p,rfl,_,_⟩:=mX ha
      by_cases hb:bA b=0
      ·obtain ⟨q,rfl,_,_⟩:=mX hb
       exact nums_ok h k
      ·exact nums_bad2 h k rfl hb
     ·exact nums_bad1 h k rfl ha
end Ab
end Go.Proofs.YtpdjlakffpmfdaaGreatDoor
