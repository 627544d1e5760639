/- Parts of the proof, joined. -/
import Derived.Test.YtbhgaclbijocmaaGreatDoorJ15
import Derived.Test.YtbhgaclbijocmaaGreatDoorJ14
import Derived.Test.YtbhgaclbijocmaaGreatDoorJ12
import Derived.RangeFuncNested
import Derived.RangeFuncBound
import Derived.RangeFuncCalls
import Derived.RangeFuncLeaves
import Derived.Shelf.Abstract
import Derived.Shelf.RegionOpen
import Derived.WalkKit
import Derived.OwnWalkIn
import Derived.TacticsInMore
import Derived.LoopNIn
import Derived.LoopIn
import Derived.KernelRfl
import Derived.Test.YtbhgaclbijocmaaGreatDoorProg
set_option linter.unusedSimpArgs false
set_option linter.unusedVariables false
namespace Go.Proofs.YtbhgaclbijocmaaGreatDoor.Ab
open Go.RowKit Go.Proofs.YtbhgaclbijocmaaGreatDoor Pl
theorem isS_lit {β:List Nat} {cs:List Value} {w:World} {b:ByteArray}:(dI b).holds β cs w↔(Seg.lit (.string b):Seg Kn).holds β cs w:=⟨fun h=>⟨h,rfl⟩,fun h=>h.1⟩
inductive LitL:List (Seg Kn)→List (Seg Kn)→Prop where
 | nil:LitL [] []
 | txt {b:ByteArray} {l m}:LitL l m→LitL (dI b::l) (.lit (.string b)::m)
 | same {s:Seg Kn} {l m}:LitL l m→LitL (s::l) (s::m)
theorem LitL.to {β:List Nat} {w:World} {l m:List (Seg Kn)} (h:LitL l m):∀ {cs:List Value},holdsL β l cs w↔holdsL β m cs w:=by
 induction h with
 | nil=>intro cs;exact Iff.rfl
 | txt _ ih =>
   intro cs
   constructor
   ·rintro ⟨a,b,e,h1,h2⟩;exact ⟨a,b,e,isS_lit.1 h1,ih.1 h2⟩
   ·rintro ⟨a,b,e,h1,h2⟩;exact ⟨a,b,e,isS_lit.2 h1,ih.2 h2⟩
 | same _ ih =>
   intro cs
   constructor
   ·rintro ⟨a,b,e,h1,h2⟩;exact ⟨a,b,e,h1,ih.1 h2⟩
   ·rintro ⟨a,b,e,h1,h2⟩;exact ⟨a,b,e,h1,ih.2 h2⟩
theorem ag_lit {β:List Nat} {v:Value} {w:World} {l m:List (Seg Kn)} (h:LitL l m):(AV.fv (.ag l)).holds β v w↔(AV.fv (.ag m)).holds β v w:=by
 constructor
 ·rintro ⟨cs,e,k⟩;exact ⟨cs,e,h.to.1 k⟩
 ·rintro ⟨cs,e,k⟩;exact ⟨cs,e,h.to.2 k⟩
theorem sc_lit {β:List Nat} {v:Value} {w:World} {b:ByteArray}:(AV.fv (.sc (dI b)):AV Kn).holds β v w↔(AV.fv (.sc (.lit (.string b))):AV Kn).holds β v w:=isS_lit (β:=β) (cs := [v])
theorem FitsW.args {P:Program} {I:World→Prop} {f:FuncId} {l l' : List (AV Kn)} {x:AV Kn} (h:FitsW P I f l x) (hl:∀ β vs w,holdsA β l' vs w→holdsA β l vs w):FitsW P I f l' x:=fun β w vs hI hv=>h β w vs hI (hl β vs w hv)
theorem FitsW.res {P:Program} {I:World→Prop} {f:FuncId} {l:List (AV Kn)} {x y:AV Kn} (h:FitsW P I f l x) (hx:∀ β v w,x.holds β v w→y.holds β v w):FitsW P I f l y:=fun β w vs hI hv =>
 (h β w vs hI hv).mono fun e w' ⟨v,e1,e2,e3⟩=>⟨v,e1,e2,hx β v w' e3⟩
theorem dec_two {n:Nat} (h1:10≤n) (h2:n<100):Lib.decDigits n = [UInt8.ofNat (48+n/10),UInt8.ofNat (48+n%10)]:=by
 rw [eZ (by omega),dB (by omega)]
 rfl
theorem bS {n:Nat} (h:n<10):decB n=⟨#[UInt8.ofNat (48+n)]⟩:=by unfold decB;rw [dB h]
theorem mP {n:Nat} (h1:10≤n) (h2:n<100):decB n=⟨#[UInt8.ofNat (48+n/10),UInt8.ofNat (48+n%10)]⟩:=by unfold decB;rw [dec_two h1 h2]
theorem dH {z:Int} {b:ByteArray} (hz:¬ z<0) (h:decB z.natAbs=b):writeB (z:Rat)=b:=by
 rw [← dN,aR,if_neg hz,h]
theorem gC {z:Int} {b:ByteArray} (hz:z<0) (h:decB z.natAbs=b):writeB (z:Rat)=⟨#[45]⟩++b:=by
 rw [← dN,aR,if_pos hz,h]
theorem w0:writeB ((0:Int):Rat)=⟨#[48]⟩:=dH (by omega) (bS (n:=0) (by omega))
theorem w1:writeB ((1:Int):Rat)=⟨#[49]⟩:=dH (by omega) (bS (n:=1) (by omega))
end Go.Proofs.YtbhgaclbijocmaaGreatDoor.Ab
namespace Go.Proofs.YtbhgaclbijocmaaGreatDoor
open Go.RowKit Pl
def dig (c:Nat):Bool:=decide (48≤c)&&decide (c≤57)
theorem digitsB_all {s:ByteArray} (h:∀ (j:Nat) (hj:j<s.size),dig (s[j]'hj).toNat=true):eB s=true:=by
 unfold eB
 rw [List.all_eq_true]
 intro c hc
 obtain ⟨j,hj,e⟩:=List.mem_iff_getElem.1 hc
 have hj2:j<s.size:=by rw [← aF];exact hj
 have h1:=cT hj2
 rw [List.getElem?_eq_getElem hj,e] at h1
 injection h1 with h1
 rw [h1]
 exact h j hj2
theorem dig_bad {c:Nat} (h:dig c=false):c<48∨57<c:=by
 simp only [dig,Bool.and_eq_false_iff,decide_eq_false_iff_not] at h
 omega
set_option maxRecDepth 100000 in
theorem isDigits_all (s:ByteArray) (w:World):Calls Tryz.prog 173 #[.string s] w fun e w'=>e = .returned (.bool (eB s&&decide (s.size≠0)))∧Below w.heap.size w w':=by
 have hne:(!(s.toList==(⟨#[]⟩:ByteArray).toList))=decide (s.size≠0):=by
  rw [Go.ByteArray.toList_eq,Go.ByteArray.toList_eq]
  have hl:=aF s
  unfold aC at hl
  cases hb:s.data.toList with
  | nil=>rw [hb] at hl;simp at hl;simp [← hl]
  | cons c l =>
    rw [hb] at hl
    simp at hl
    have:s.size≠0:=by omega
    simp [this]
 go_enter Tryz.func173,Tryz.ntmps173
 go_wp2
 go_loopw [4] (fun _ wr => ∃ pos:Nat,wr=w.iter s pos∧pos≤s.size∧∀ (j:Nat) (hj:j<s.size),j<pos→dig (s[j]'hj).toNat=true) (fun _ wr=>s.size-wr.iterPos w.heap.size)
 case atStart=>exact ⟨0,rfl,Nat.zero_le _,fun j _ h=>absurd h (Nat.not_lt_zero _)⟩
 case round =>
  obtain ⟨pos,rfl,hpos,hok⟩:=hrel
  by_cases hp:pos<s.size
  ·obtain ⟨c,k,hdc,hk,hgood⟩:∃ c k,Utf8.decode s pos=(c,k)∧1≤k∧(dig c=true→(∀ hj:pos<s.size,dig (s[pos]'hj).toNat=true)∧k=1)∧(dig c=false→∀ hj:pos<s.size,dig (s[pos]'hj).toNat=false):=by
    by_cases ha:(s[pos]'hp).toNat<128
    ·exact ⟨_,_,decode_ascii s pos hp ha,Nat.le_refl _,fun h=>⟨fun _=>h,rfl⟩,fun h _=>h⟩
    ·obtain ⟨h1,h2⟩:=decode_high s pos hp (by omega)
     refine ⟨(Utf8.decode s pos).1,(Utf8.decode s pos).2,rfl,h2,fun h=>?_,fun _ _=>?_⟩
     ·simp [dig] at h
      omega
     ·simp [dig]
      omega
   have hnx:∀ ty,(Instr.next (.pointer (some ⟨w.heap.size,0,none⟩)) true ty).run Tryz.prog (w.iter s pos) = .ok (.tuple #[.bool true,.int .i64 pos,.int .i32 (c:Int)]) (w.iter s (pos+k)):=fun ty=>by
    have:=run_next_any (P:=Tryz.prog) w s pos ty hp
    rw [hdc] at this
    exact this
   have HH:=Lib.hid (And.intro hp (And.intro hpos (And.intro hok (And.intro hk hgood))))
   clear hdc hp hpos hok hk hgood hne
   by_cases g1:48≤c
   ·by_cases g2:c≤57
    ·have k1:(48:Int)≤c:=by omega
     have k2:(c:Int)≤57:=by omega
     have G:=Lib.hid (show dig c=true by simp [dig,g1,g2])
     clear g1 g2
     go_wp2
     go_roundw
     case rel =>
      obtain ⟨hp,hpos,hok,hk,hg,_⟩:=HH.out
      obtain ⟨g1,rfl⟩:=hg G.out
      refine ⟨pos+1,rfl,hp,fun j hj hjp=>?_⟩
      by_cases hjj:j=pos
      ·subst hjj;exact g1 hj
      ·exact hok j hj (by omega)
     case measure =>
      have:=HH.out.1
      have:=HH.out.2.2.2.1
      simp
      omega
    ·have k1:(48:Int)≤c:=by omega
     have k2:(57:Int)<c:=by omega
     have G:=Lib.hid (show dig c=false by simp [dig];omega)
     clear g1 g2
     go_wp2
     go_ret
     obtain ⟨hp,_,_,_,_,hg⟩:=HH.out
     exact ⟨by rw [kT hp (dig_bad (hg G.out hp))];rfl,fL _ _ _⟩
   ·have k1:(c:Int)<48:=by omega
    have G:=Lib.hid (show dig c=false by simp [dig];omega)
    clear g1
    go_wp2
    go_ret
    obtain ⟨hp,_,_,_,_,hg⟩:=HH.out
    exact ⟨by rw [kT hp (dig_bad (hg G.out hp))];rfl,fL _ _ _⟩
  ·have hnx:∀ ty,(Instr.next (.pointer (some ⟨w.heap.size,0,none⟩)) true ty).run Tryz.prog (w.iter s pos)=_:=fun ty=>run_next_end w s pos ty hp
   have H2:=Lib.hid (show eB s=true from digitsB_all fun j hj=>hok j hj (by omega))
   have H3:=Lib.hid hne
   clear hok hp hpos hne
   obtain ⟨b,hb⟩:∃ b,b=(!(s.toList==(⟨#[]⟩:ByteArray).toList)):=⟨_,rfl⟩
   go_wp2
   go_ret
   refine ⟨?_,fL _ _ _⟩
   have e:=H3.out
   rw [H2.out,Bool.true_and,← e]
   simp
end Go.Proofs.YtbhgaclbijocmaaGreatDoor
namespace Go.Proofs.YtbhgaclbijocmaaGreatDoor.Ab
open Go.RowKit Go.Proofs.YtbhgaclbijocmaaGreatDoor Pl
theorem nR {s:ByteArray} {b:Bool} (h:(eB s&&decide (s.size≠0))=b):Fits Tryz.prog 173 [tx s] (bl b):=by
 intro β w vs hv
 obtain ⟨v,rfl,h1⟩:=dV hv
 rw [aT h1]
 exact (isDigits_all s w).mono fun e w' ⟨e1,e2⟩=>⟨_,e1,e2,by rw [h];exact bG rfl⟩
theorem bJ {s:ByteArray} {b:Bool} (h:decF s=b):Fits Tryz.prog 137 [tx s] (bl b):=by
 by_cases h0:(eB s&&decide (s.size≠0))=false
 ·have:b=false:=by
   rw [← h]
   unfold decF
   split
   ·rfl
   ·rename_i hz
    split
    ·rfl
    ·rw [decide_eq_true hz,Bool.and_true] at h0
     exact h0
  subst this
  refine gR Tryz.func137 (by kernel_rfl) fun w00=>?_
  refine aB 173 [tx s] (nR h0) (by kernel_rfl) Tryz.call173 ?_
  exact aN Tryz.func137 (by kernel_rfl)
 rw [Bool.not_eq_false] at h0
 obtain ⟨h1,h2⟩:=Bool.and_eq_true_iff.1 h0
 have h2:s.size≠0:=of_decide_eq_true h2
 have hp:0<s.size:=by omega
 obtain ⟨c,hc⟩:∃ c,s[0]?=some c:=⟨_,getElem?_pos s 0 hp⟩
 have hh:(aC s).head?=some c:=by
  rw [List.head?_eq_getElem?,cT hp,← hc,getElem?_pos s 0 hp]
 unfold decF at h
 rw [if_neg h2,hh,h1] at h
 by_cases e:c=48
 ·have q1:(((c.toNat:Nat):Int) != 48)=false:=by rw [e];rfl
  have q2:(((s.size:Nat):Int)==1)=b:=by
   rw [← h,e]
   by_cases g:1<s.size
   ·rw [if_pos ⟨g,rfl⟩,beq_eq_false_iff_ne];omega
   ·rw [if_neg (fun k=>g k.1),beq_iff_eq];omega
  refine gR Tryz.func137 (by kernel_rfl) fun w00=>?_
  refine aB 173 [tx s] (nR h0) (by kernel_rfl) Tryz.call173 ?_
  refine fD (.index 9 (.tmp 6) (.const (.int .i64 0))) (.tmp 6) (.const (.int .i64 0)) (tx s) (it 0) (.fv (.sc (isB c.toNat))) (by kernel_rfl) (by simp [Op.operands]) (by simp [Op.operands]) (fun ρ o β w ho hx hy=>⟨_,mA (i:=0) ho Tryz.underlying9 (aT hx) (aO hy) hc,bN⟩) ?_
  refine fD (.binOp .neq 5 (.tmp 7) (.const (.int .u8 48)) 5) (.tmp 7) (.const (.int .u8 48)) (.fv (.sc (isB c.toNat))) (.fv (.sc (.lit (.int .u8 48)))) (bl false) (by kernel_rfl) (by simp [Op.operands]) (by simp [Op.operands]) (fun ρ o β w ho hx hy=>⟨_,nL ho (aT hx) (aO hy) q1,bG rfl⟩) ?_
  refine lZ 10 s (by kernel_rfl) ?_
  refine fD (.binOp .eql 3 (.tmp 11) (.const (.int .i64 1)) 3) (.tmp 11) (.const (.int .i64 1)) (.fv (.sc (isI s.size))) (it 1) (bl b) (by kernel_rfl) (by simp [Op.operands]) (by simp [Op.operands]) (fun ρ o β w ho hx hy=>⟨_,intEq_run ho (aT hx) (aO hy) q2,bG rfl⟩) ?_
  exact aN Tryz.func137 (by kernel_rfl)
 ·have q1:(((c.toNat:Nat):Int) != 48)=true:=by
   rw [bne_iff_ne]
   intro k
   exact e (UInt8.toNat_inj.1 (by have:(48:UInt8).toNat=48:=rfl;omega))
  rw [if_neg (fun k=>e (by injection k.2))] at h
  subst h
  refine gR Tryz.func137 (by kernel_rfl) fun w00=>?_
  refine aB 173 [tx s] (nR h0) (by kernel_rfl) Tryz.call173 ?_
  refine fD (.index 9 (.tmp 6) (.const (.int .i64 0))) (.tmp 6) (.const (.int .i64 0)) (tx s) (it 0) (.fv (.sc (isB c.toNat))) (by kernel_rfl) (by simp [Op.operands]) (by simp [Op.operands]) (fun ρ o β w ho hx hy=>⟨_,mA (i:=0) ho Tryz.underlying9 (aT hx) (aO hy) hc,bN⟩) ?_
  refine fD (.binOp .neq 5 (.tmp 7) (.const (.int .u8 48)) 5) (.tmp 7) (.const (.int .u8 48)) (.fv (.sc (isB c.toNat))) (.fv (.sc (.lit (.int .u8 48)))) (bl true) (by kernel_rfl) (by simp [Op.operands]) (by simp [Op.operands]) (fun ρ o β w ho hx hy=>⟨_,nL ho (aT hx) (aO hy) q1,bG rfl⟩) ?_
  exact aN Tryz.func137 (by kernel_rfl)
end Go.Proofs.YtbhgaclbijocmaaGreatDoor.Ab
namespace Go.Proofs.YtbhgaclbijocmaaGreatDoor.Ab
open Go.RowKit Go.Proofs.YtbhgaclbijocmaaGreatDoor Pl
theorem index47:∀ l:List UInt8,Lib.index l [47]=if l.findIdx (fun c=>c==47)<l.length then ((l.findIdx (fun c=>c==47):Nat):Int) else -1
 | []=>rfl
 | c :: l=>by
   by_cases hc:c=47
   ·subst hc
    unfold Lib.index
    simp [List.isPrefixOf,List.findIdx_cons]
   ·have h2:([47]:List UInt8).isPrefixOf (c::l)=false:=by
     simp [List.isPrefixOf]
     exact fun e=>hc e.symm
    have h3:(c==47)=false:=by rw [beq_eq_false_iff_ne];exact hc
    unfold Lib.index
    rw [h2,index47 l,List.findIdx_cons,h3]
    simp only [cond_false,List.length_cons]
    by_cases hl:l.findIdx (fun c=>c==47)<l.length
    ·have:(((l.findIdx (fun c=>c==47):Nat):Int) == -1)=false:=by rw [beq_eq_false_iff_ne];omega
     rw [if_pos hl,if_pos (show l.findIdx (fun c=>c==47)+1<l.length+1 by omega),this]
     simp
    ·rw [if_neg hl,if_neg (show ¬ l.findIdx (fun c=>c==47)+1<l.length+1 by omega)]
     rfl
theorem cut_slash {t:ByteArray} (h:aJ t<t.size):Lib.cut t.data.toList [47]=((t.extract 0 (aJ t)).data.toList,(t.extract (aJ t+1) t.size).data.toList,true):=by
 have e:Lib.index t.data.toList [47]=((aJ t:Nat):Int):=by
  have:=index47 (aC t)
  rw [if_pos (show (aC t).findIdx (fun c=>c==47)<(aC t).length by rw [aF];exact h)] at this
  exact this
 have e1:(t.extract 0 (aJ t)).data.toList=t.data.toList.take (aJ t):=by
  show aC (t.extract 0 (aJ t))=_
  rw [aS,List.drop_zero]
  rfl
 have e2:(t.extract (aJ t+1) t.size).data.toList=t.data.toList.drop (aJ t+1):=by
  show aC (t.extract (aJ t+1) t.size)=_
  rw [aS,List.take_of_length_le (by rw [aF];exact Nat.le_refl _)]
  rfl
 rw [e1,e2]
 unfold Lib.cut
 rw [e,if_pos (by omega)]
 simp
theorem cut_none {t:ByteArray} (h:¬ aJ t<t.size):Lib.cut t.data.toList [47]=(t.data.toList,(⟨#[]⟩:ByteArray).data.toList,false):=by
 have e:Lib.index t.data.toList [47] = -1:=by
  have:=index47 (aC t)
  rw [if_neg (show ¬ (aC t).findIdx (fun c=>c==47)<(aC t).length by rw [aF];exact h)] at this
  exact this
 unfold Lib.cut
 rw [e]
 rfl
theorem cQ {s t:ByteArray} {b:Bool} (ht:bI s=t) (hb:iO s=b):Fits Tryz.prog 97 [tx s,lt ⟨#[45]⟩] (.tup [.sc (dI t),.sc (.lit (.bool b))]):=by
 intro β w vs hv
 obtain ⟨v,u,rfl,h1,h2⟩:=eO hv
 rw [aT h1,aO h2]
 have key:(⟨(Lib.trimPrefix s.data.toList [45]).toArray⟩:ByteArray)=t∧Lib.hasPrefix s.data.toList [45]=b:=by
  have hp:Lib.hasPrefix s.data.toList [45]=iO s:=by
   show ([45]:List UInt8).isPrefixOf (aC s)=((aC s).head?==some 45)
   cases aC s with
   | nil=>rfl
   | cons c l =>
     rw [Bool.eq_iff_iff]
     simp [List.isPrefixOf]
     exact ⟨fun e=>e.symm,fun e=>e.symm⟩
  refine ⟨?_,by rw [hp,hb]⟩
  unfold Lib.trimPrefix
  rw [hp,← ht]
  unfold bI
  split
  ·refine ba_ext ?_
   show _=aC (s.extract 1 s.size)
   rw [aS,List.take_of_length_le (by rw [aF];exact Nat.le_refl _)]
   rfl
  ·exact ba_ext (by simp)
 refine (Tryz.strings_CutPrefix s ⟨#[45]⟩ w).mono fun e w' ⟨e1,e2⟩=>⟨_,e1,by rw [e2];exact Below.refl _ _,?_⟩
 rw [show (⟨#[45]⟩:ByteArray).data.toList = [45] from rfl,key.1,key.2]
 exact ⟨[.string t,.bool b],rfl,_,_,rfl,bN (β:=β),_,_,rfl,⟨rfl,rfl⟩,rfl⟩
theorem strip_size (s:ByteArray):(bI s).size≤s.size:=by
 unfold bI
 split
 ·rw [ByteArray.size_extract];omega
 ·exact Nat.le_refl _
abbrev badN (z:Int):AV Kn := .tup [.ag [.lit (.int .i64 0),.lit (.int .i64 0),.lit (.pointer none)],.sc (.lit (.int .i64 z))]
theorem gcdAnyF {n m:Nat} (h1:(decB n).size≤600) (h2:(decB m).size≤600) (hm:m≠0):Fits Tryz.prog 138 [nt n,nt m] (nt (Nat.gcd n m)) :=
 iI ((nN (k:=5) (by omega)).mono (by decide)) ((nN (k:=5) (by omega)).mono (by decide)) (.inr (Nat.pos_of_ne_zero hm))
section
variable {s t a d:ByteArray} {z:Int}
theorem readBad_split {b:Bool} (hs:s.size<4294967281) (hz:aZ s=z) (h0:z≠0) (ht:bI s=t) (hb:iO s=b) (hlt:aJ t<t.size) (ha:t.extract 0 (aJ t)=a) (hd:t.extract (aJ t+1) t.size=d):FitsW Tryz.prog Gl 60 [tx s] (badN z):=by
 have hts:t.size<4294967281:=by have:=strip_size s;rw [ht] at this;omega
 have hcut:=cut_slash hlt
 have hsa:a.size=aJ t:=by rw [← ha,ByteArray.size_extract];omega
 have hsd:d.size=t.size-a.size-1:=by rw [hsa,← hd,ByteArray.size_extract];omega
 rw [ha,hd] at hcut
 unfold aZ at hz
 rw [ht,ha,hd,hb,← hsa,← hsd] at hz
 simp only [show a.size<t.size from by omega,true_and] at hz
 have c0:∀ x:ByteArray,decF x=true∨decF x=false:=fun x=>by cases decF x <;> simp
 cases b with
 | true =>
   rcases c0 a with c1|c1
   ·rw [c1] at hz
    by_cases a0:a=zeroT
    ·rw [if_pos (.inr ⟨rfl,a0⟩)] at hz
     subst hz
     refine bM Tryz.func60 (by kernel_rfl) fun w00 hG=>?_;have hI:=aP hG
     refine aB 97 [tx s,lt ⟨#[45]⟩] (cQ ht hb) (by kernel_rfl) Tryz.call97 ?_
     refine aE hI 136 [tx t,lt ⟨#[47]⟩] (cutF (a:=a) (b:=d) (r:=true) hts hcut) (by kernel_rfl) Tryz.call136 ?_
     refine aB 137 [tx a] (bJ c1) (by kernel_rfl) Tryz.call137 ?_
     refine mD 31 a ⟨#[48]⟩ true (by rw [a0];exact beq_self_eq_true _) (by kernel_rfl) ?_
     exact aN Tryz.func60 (by kernel_rfl)
    rw [if_neg (by rintro (h|h);exact absurd h (by decide);exact a0 h.2)] at hz
    refine bM Tryz.func60 (by kernel_rfl) fun w00 hG=>?_;have hI:=aP hG
    refine aB 97 [tx s,lt ⟨#[45]⟩] (cQ ht hb) (by kernel_rfl) Tryz.call97 ?_
    refine aE hI 136 [tx t,lt ⟨#[47]⟩] (cutF (a:=a) (b:=d) (r:=true) hts hcut) (by kernel_rfl) Tryz.call136 ?_
    refine aB 137 [tx a] (bJ c1) (by kernel_rfl) Tryz.call137 ?_
    refine mD 31 a ⟨#[48]⟩ false (eU a0) (by kernel_rfl) ?_
    rcases c0 d with d1|d1
    ·rw [d1] at hz
     by_cases d0:d=zeroT
     ·rw [if_pos (.inr (.inl d0))] at hz
      subst hz
      refine aB 137 [tx d] (bJ d1) (by kernel_rfl) Tryz.call137 ?_
      refine mD 43 d ⟨#[48]⟩ true (by rw [d0];exact beq_self_eq_true _) (by kernel_rfl) ?_
      exact aN Tryz.func60 (by kernel_rfl)
     by_cases d2:d=oneT
     ·rw [if_pos (.inr (.inr d2))] at hz
      subst hz
      refine aB 137 [tx d] (bJ d1) (by kernel_rfl) Tryz.call137 ?_
      refine mD 43 d ⟨#[48]⟩ false (eU d0) (by kernel_rfl) ?_
      refine mD 47 d ⟨#[49]⟩ true (by rw [d2];exact beq_self_eq_true _) (by kernel_rfl) ?_
      exact aN Tryz.func60 (by kernel_rfl)
     rw [if_neg (by rintro (h|h|h);exact absurd h (by decide);exact d0 h;exact d2 h)] at hz
     refine aB 137 [tx d] (bJ d1) (by kernel_rfl) Tryz.call137 ?_
     refine mD 43 d ⟨#[48]⟩ false (eU d0) (by kernel_rfl) ?_
     refine mD 47 d ⟨#[49]⟩ false (eU d2) (by kernel_rfl) ?_
     refine lZ 53 a (by kernel_rfl) ?_
     by_cases l1:600<a.size
     ·rw [if_pos (.inl l1)] at hz
      subst hz
      refine kgt 54 a.size 600 true (by rw [decide_eq_true_iff];omega) (by kernel_rfl) ?_
      exact aN Tryz.func60 (by kernel_rfl)
     refine kgt 54 a.size 600 false (by rw [decide_eq_false_iff_not];omega) (by kernel_rfl) ?_
     refine lZ 57 d (by kernel_rfl) ?_
     by_cases l2:600<d.size
     ·rw [if_pos (.inr l2)] at hz
      subst hz
      refine kgt 58 d.size 600 true (by rw [decide_eq_true_iff];omega) (by kernel_rfl) ?_
      exact aN Tryz.func60 (by kernel_rfl)
     refine kgt 58 d.size 600 false (by rw [decide_eq_false_iff_not];omega) (by kernel_rfl) ?_
     rw [if_neg (by omega)] at hz
     have hae:=iU c1
     have hde:=iU d1
     generalize aU (aC a)=n at hae hz
     generalize aU (aC d)=m at hde hz
     subst hae
     subst hde
     have hm0:m≠0:=fun e=>d0 (by rw [e,dec0];rfl)
     by_cases hg:Nat.gcd n m=1
     ·rw [if_neg (fun h=>h hg)] at hz
      exact absurd hz.symm h0
     rw [if_pos hg] at hz
     subst hz
     refine aB 100 [tx (decB n)] (bW (by omega)) (by kernel_rfl) Tryz.call100 ?_
     refine aB 100 [tx (decB m)] (bW (by omega)) (by kernel_rfl) Tryz.call100 ?_
     refine aB 138 [nt n,nt m] (gcdAnyF (by omega) (by omega) hm0) (by kernel_rfl) Tryz.call138 ?_
     refine aB 139 [nt (Nat.gcd n m)] (isOneF (b:=false) (by rw [decide_eq_false_iff_not];exact hg)) (by kernel_rfl) Tryz.call139 ?_
     exact aN Tryz.func60 (by kernel_rfl)
    ·rw [if_pos (.inl d1)] at hz
     subst hz
     refine aB 137 [tx d] (bJ d1) (by kernel_rfl) Tryz.call137 ?_
     exact aN Tryz.func60 (by kernel_rfl)
   ·rw [if_pos (.inl c1)] at hz
    subst hz
    refine bM Tryz.func60 (by kernel_rfl) fun w00 hG=>?_;have hI:=aP hG
    refine aB 97 [tx s,lt ⟨#[45]⟩] (cQ ht hb) (by kernel_rfl) Tryz.call97 ?_
    refine aE hI 136 [tx t,lt ⟨#[47]⟩] (cutF (a:=a) (b:=d) (r:=true) hts hcut) (by kernel_rfl) Tryz.call136 ?_
    refine aB 137 [tx a] (bJ c1) (by kernel_rfl) Tryz.call137 ?_
    exact aN Tryz.func60 (by kernel_rfl)
 | false =>
   rcases c0 a with c1|c1
   ·rw [c1] at hz
    rw [if_neg (by rintro (h|h);exact absurd h (by decide);exact absurd h.1 (by decide))] at hz
    refine bM Tryz.func60 (by kernel_rfl) fun w00 hG=>?_;have hI:=aP hG
    refine aB 97 [tx s,lt ⟨#[45]⟩] (cQ ht hb) (by kernel_rfl) Tryz.call97 ?_
    refine aE hI 136 [tx t,lt ⟨#[47]⟩] (cutF (a:=a) (b:=d) (r:=true) hts hcut) (by kernel_rfl) Tryz.call136 ?_
    refine aB 137 [tx a] (bJ c1) (by kernel_rfl) Tryz.call137 ?_
    rcases c0 d with d1|d1
    ·rw [d1] at hz
     by_cases d0:d=zeroT
     ·rw [if_pos (.inr (.inl d0))] at hz
      subst hz
      refine aB 137 [tx d] (bJ d1) (by kernel_rfl) Tryz.call137 ?_
      refine mD 43 d ⟨#[48]⟩ true (by rw [d0];exact beq_self_eq_true _) (by kernel_rfl) ?_
      exact aN Tryz.func60 (by kernel_rfl)
     by_cases d2:d=oneT
     ·rw [if_pos (.inr (.inr d2))] at hz
      subst hz
      refine aB 137 [tx d] (bJ d1) (by kernel_rfl) Tryz.call137 ?_
      refine mD 43 d ⟨#[48]⟩ false (eU d0) (by kernel_rfl) ?_
      refine mD 47 d ⟨#[49]⟩ true (by rw [d2];exact beq_self_eq_true _) (by kernel_rfl) ?_
      exact aN Tryz.func60 (by kernel_rfl)
     rw [if_neg (by rintro (h|h|h);exact absurd h (by decide);exact d0 h;exact d2 h)] at hz
     refine aB 137 [tx d] (bJ d1) (by kernel_rfl) Tryz.call137 ?_
     refine mD 43 d ⟨#[48]⟩ false (eU d0) (by kernel_rfl) ?_
     refine mD 47 d ⟨#[49]⟩ false (eU d2) (by kernel_rfl) ?_
     refine lZ 53 a (by kernel_rfl) ?_
     by_cases l1:600<a.size
     ·rw [if_pos (.inl l1)] at hz
      subst hz
      refine kgt 54 a.size 600 true (by rw [decide_eq_true_iff];omega) (by kernel_rfl) ?_
      exact aN Tryz.func60 (by kernel_rfl)
     refine kgt 54 a.size 600 false (by rw [decide_eq_false_iff_not];omega) (by kernel_rfl) ?_
     refine lZ 57 d (by kernel_rfl) ?_
     by_cases l2:600<d.size
     ·rw [if_pos (.inr l2)] at hz
      subst hz
      refine kgt 58 d.size 600 true (by rw [decide_eq_true_iff];omega) (by kernel_rfl) ?_
      exact aN Tryz.func60 (by kernel_rfl)
     refine kgt 58 d.size 600 false (by rw [decide_eq_false_iff_not];omega) (by kernel_rfl) ?_
     rw [if_neg (by omega)] at hz
     have hae:=iU c1
     have hde:=iU d1
     generalize aU (aC a)=n at hae hz
     generalize aU (aC d)=m at hde hz
     subst hae
     subst hde
     have hm0:m≠0:=fun e=>d0 (by rw [e,dec0];rfl)
     by_cases hg:Nat.gcd n m=1
     ·rw [if_neg (fun h=>h hg)] at hz
      exact absurd hz.symm h0
     rw [if_pos hg] at hz
     subst hz
     refine aB 100 [tx (decB n)] (bW (by omega)) (by kernel_rfl) Tryz.call100 ?_
     refine aB 100 [tx (decB m)] (bW (by omega)) (by kernel_rfl) Tryz.call100 ?_
     refine aB 138 [nt n,nt m] (gcdAnyF (by omega) (by omega) hm0) (by kernel_rfl) Tryz.call138 ?_
     refine aB 139 [nt (Nat.gcd n m)] (isOneF (b:=false) (by rw [decide_eq_false_iff_not];exact hg)) (by kernel_rfl) Tryz.call139 ?_
     exact aN Tryz.func60 (by kernel_rfl)
    ·rw [if_pos (.inl d1)] at hz
     subst hz
     refine aB 137 [tx d] (bJ d1) (by kernel_rfl) Tryz.call137 ?_
     exact aN Tryz.func60 (by kernel_rfl)
   ·rw [if_pos (.inl c1)] at hz
    subst hz
    refine bM Tryz.func60 (by kernel_rfl) fun w00 hG=>?_;have hI:=aP hG
    refine aB 97 [tx s,lt ⟨#[45]⟩] (cQ ht hb) (by kernel_rfl) Tryz.call97 ?_
    refine aE hI 136 [tx t,lt ⟨#[47]⟩] (cutF (a:=a) (b:=d) (r:=true) hts hcut) (by kernel_rfl) Tryz.call136 ?_
    refine aB 137 [tx a] (bJ c1) (by kernel_rfl) Tryz.call137 ?_
    exact aN Tryz.func60 (by kernel_rfl)
theorem readBad_whole {b:Bool} (hs:s.size<4294967281) (hz:aZ s=z) (h0:z≠0) (ht:bI s=t) (hb:iO s=b) (hlt:¬ aJ t<t.size):FitsW Tryz.prog Gl 60 [tx s] (badN z):=by
 have hts:t.size<4294967281:=by have:=strip_size s;rw [ht] at this;omega
 have hcut:=cut_none hlt
 have hk:aJ t=t.size:=by have:=cJ t;omega
 have g3:decide ((600:Int)<(((⟨#[49]⟩:ByteArray).size:Nat):Int))=false:=by decide
 unfold aZ at hz
 rw [ht,hb,hk,ext_all] at hz
 simp only [Nat.lt_irrefl,false_and,if_false] at hz
 have c0:∀ x:ByteArray,decF x=true∨decF x=false:=fun x=>by cases decF x <;> simp
 cases b with
 | true =>
   rcases c0 t with c1|c1
   ·rw [c1] at hz
    by_cases a0:t=zeroT
    ·rw [if_pos (.inr ⟨rfl,a0⟩)] at hz
     subst hz
     refine bM Tryz.func60 (by kernel_rfl) fun w00 hG=>?_;have hI:=aP hG
     refine aB 97 [tx s,lt ⟨#[45]⟩] (cQ ht hb) (by kernel_rfl) Tryz.call97 ?_
     refine aE hI 136 [tx t,lt ⟨#[47]⟩] (cutF (a:=t) (b:=⟨#[]⟩) (r:=false) hts hcut) (by kernel_rfl) Tryz.call136 ?_
     refine aB 137 [tx t] (bJ c1) (by kernel_rfl) Tryz.call137 ?_
     refine mD 31 t ⟨#[48]⟩ true (by rw [a0];exact beq_self_eq_true _) (by kernel_rfl) ?_
     exact aN Tryz.func60 (by kernel_rfl)
    rw [if_neg (by rintro (h|h);exact absurd h (by decide);exact a0 h.2)] at hz
    have hl:600<t.size:=by
     by_cases g:600<t.size
     ·exact g
     ·rw [if_neg (by omega)] at hz;exact absurd hz.symm h0
    rw [if_pos (.inl hl)] at hz
    subst hz
    refine bM Tryz.func60 (by kernel_rfl) fun w00 hG=>?_;have hI:=aP hG
    refine aB 97 [tx s,lt ⟨#[45]⟩] (cQ ht hb) (by kernel_rfl) Tryz.call97 ?_
    refine aE hI 136 [tx t,lt ⟨#[47]⟩] (cutF (a:=t) (b:=⟨#[]⟩) (r:=false) hts hcut) (by kernel_rfl) Tryz.call136 ?_
    refine aB 137 [tx t] (bJ c1) (by kernel_rfl) Tryz.call137 ?_
    refine mD 31 t ⟨#[48]⟩ false (eU a0) (by kernel_rfl) ?_
    refine lZ 53 t (by kernel_rfl) ?_
    refine kgt 54 t.size 600 true (by rw [decide_eq_true_iff];omega) (by kernel_rfl) ?_
    exact aN Tryz.func60 (by kernel_rfl)
   ·rw [if_pos (.inl c1)] at hz
    subst hz
    refine bM Tryz.func60 (by kernel_rfl) fun w00 hG=>?_;have hI:=aP hG
    refine aB 97 [tx s,lt ⟨#[45]⟩] (cQ ht hb) (by kernel_rfl) Tryz.call97 ?_
    refine aE hI 136 [tx t,lt ⟨#[47]⟩] (cutF (a:=t) (b:=⟨#[]⟩) (r:=false) hts hcut) (by kernel_rfl) Tryz.call136 ?_
    refine aB 137 [tx t] (bJ c1) (by kernel_rfl) Tryz.call137 ?_
    exact aN Tryz.func60 (by kernel_rfl)
 | false =>
   rcases c0 t with c1|c1
   ·rw [c1] at hz
    rw [if_neg (by rintro (h|h);exact absurd h (by decide);exact absurd h.1 (by decide))] at hz
    have hl:600<t.size:=by
     by_cases g:600<t.size
     ·exact g
     ·rw [if_neg (by omega)] at hz;exact absurd hz.symm h0
    rw [if_pos (.inl hl)] at hz
    subst hz
    refine bM Tryz.func60 (by kernel_rfl) fun w00 hG=>?_;have hI:=aP hG
    refine aB 97 [tx s,lt ⟨#[45]⟩] (cQ ht hb) (by kernel_rfl) Tryz.call97 ?_
    refine aE hI 136 [tx t,lt ⟨#[47]⟩] (cutF (a:=t) (b:=⟨#[]⟩) (r:=false) hts hcut) (by kernel_rfl) Tryz.call136 ?_
    refine aB 137 [tx t] (bJ c1) (by kernel_rfl) Tryz.call137 ?_
    refine lZ 53 t (by kernel_rfl) ?_
    refine kgt 54 t.size 600 true (by rw [decide_eq_true_iff];omega) (by kernel_rfl) ?_
    exact aN Tryz.func60 (by kernel_rfl)
   ·rw [if_pos (.inl c1)] at hz
    subst hz
    refine bM Tryz.func60 (by kernel_rfl) fun w00 hG=>?_;have hI:=aP hG
    refine aB 97 [tx s,lt ⟨#[45]⟩] (cQ ht hb) (by kernel_rfl) Tryz.call97 ?_
    refine aE hI 136 [tx t,lt ⟨#[47]⟩] (cutF (a:=t) (b:=⟨#[]⟩) (r:=false) hts hcut) (by kernel_rfl) Tryz.call136 ?_
    refine aB 137 [tx t] (bJ c1) (by kernel_rfl) Tryz.call137 ?_
    exact aN Tryz.func60 (by kernel_rfl)
theorem readBadF (hs:s.size<4294967281) (hz:aZ s=z) (h0:z≠0):FitsW Tryz.prog Gl 60 [tx s] (badN z):=by
 by_cases h:aJ (bI s)<(bI s).size
 ·exact readBad_split hs hz h0 rfl rfl h rfl rfl
 ·exact readBad_whole hs hz h0 rfl rfl h
end
noncomputable def nZ (s:ByteArray):Rat:=if h:aZ s=0 then Classical.choose (check_zero h) else 0
theorem valB_ok {s:ByteArray} (h:aZ s=0):s=writeB (nZ s)∧Wr (nZ s):=by
 unfold nZ
 rw [dif_pos h]
 have:=Classical.choose_spec (check_zero h)
 exact ⟨this.1,this.2.1,this.2.2⟩
theorem valB_bad {s:ByteArray} (h:aZ s≠0):nZ s=0:=dif_neg h
abbrev okN (q:Rat) (z:Int):AV Kn := .tup [.ag [nb q],.sc (.lit (.int .i64 z))]
theorem readAnyF {s:ByteArray} {z:Int} (hs:s.size<4294967281) (hz:aZ s=z):FitsW Tryz.prog Gl 60 [tx s] (okN (nZ s) z):=by
 by_cases h:z=0
 ·subst h
  obtain ⟨e,hw⟩:=valB_ok hz
  have:=readF hw
  rw [← e] at this
  exact this
 ·rw [valB_bad (by rw [hz];exact h)]
  refine FitsW.res (readBadF hs hz h) fun β v w hv=>?_
  obtain ⟨vs,rfl,x,r,rfl,hx,hr⟩:=hv
  exact ⟨_,rfl,x,r,rfl,zero_num hx,hr⟩
theorem aV (s:ByteArray):aZ s=0∨aZ s=1∨aZ s=4:=by
 unfold aZ
 split
 ·exact .inr (.inl rfl)
 split
 ·exact .inr (.inl rfl)
 split
 ·exact .inr (.inr rfl)
 split
 ·exact .inr (.inl rfl)
 ·exact .inl rfl
theorem kY (q:Rat):aJ (writeB q)=(aR q.num).size:=by
 by_cases h:q.den=1
 ·rw [jX h,slash_one]
 ·rw [fQ h,slash_two]
theorem num_cut (q:Rat):(writeB q).extract 0 (aJ (writeB q))=aR q.num:=by
 rw [kY]
 by_cases h:q.den=1
 ·rw [jX h,ext_all]
 ·rw [fQ h,ext_lo]
theorem den_cut {q:Rat} (h:q.den≠1):(writeB q).extract (aJ (writeB q)+1) (writeB q).size=decB q.den:=by
 rw [kY,fQ h]
 exact ext_hi _ _
theorem mQ (q:Rat):(writeB q).size=(aR q.num).size+if q.den=1 then 0 else 1+(decB q.den).size:=by
 by_cases h:q.den=1
 ·rw [jX h,if_pos h];rfl
 ·rw [fQ h,if_neg h,ByteArray.size_append,ByteArray.size_append,size47]
theorem numF {q:Rat} (hs:(writeB q).size≤1000000000):Fits Tryz.prog 157 [rS (writeB q)] (rS (aR q.num)):=by
 have hc:=num_cut q
 generalize writeB q=s at *
 refine kN Tryz.func157 (by kernel_rfl) fun w00=>?_
 refine aM 66 [rS s] (fP (by omega)) (by kernel_rfl) Tryz.call66 ?_
 refine rshi 3 5 22 Tryz.underlying22 s (aJ s) (aR q.num) (cJ _) hc ?_
 exact eC Tryz.func157 (by kernel_rfl)
theorem denF1 {q:Rat} (hs:(writeB q).size≤1000000000) (h:q.den=1):Fits Tryz.prog 158 [rS (writeB q)] (rS (decB q.den)):=by
 have hl:=mQ q
 have hk:=kY q
 rw [if_pos h] at hl
 have e:decB q.den=⟨#[49]⟩:=by rw [h,dec1]
 rw [e]
 generalize writeB q=s at *
 have key:Fits Tryz.prog 158 [rS s] (.fv (.sc (.lit (.string ⟨#[49]⟩)))):=by
  refine kN Tryz.func158 (by kernel_rfl) fun w00=>?_
  refine aM 66 [rS s] (fP (by omega)) (by kernel_rfl) Tryz.call66 ?_
  refine eD 7 22 Tryz.underlying22 s ?_
  refine bH (.binOp .eql 3 (.tmp 6) (.tmp 8) 3) (.tmp 6) (.tmp 8) (rI (aJ s:Nat)) (rI (s.size:Nat)) (rl true) (by kernel_rfl) (by simp [Op.operands]) (by simp [Op.operands]) (fun ρ o β w ho hx hy=>⟨.bool true,jS ho (bB hx) (bB hy) (by simp;omega),fO rfl⟩) ?_
  exact eC Tryz.func158 (by kernel_rfl)
 exact mN key fun β v w h=>h.1
theorem denF2 {q:Rat} (hs:(writeB q).size≤1000000000) (h:q.den≠1):Fits Tryz.prog 158 [rS (writeB q)] (rS (decB q.den)):=by
 have hl:=mQ q
 have hk:=kY q
 rw [if_neg h] at hl
 have hc:=den_cut h
 generalize decB q.den=d at *
 generalize writeB q=s at *
 refine kN Tryz.func158 (by kernel_rfl) fun w00=>?_
 refine aM 66 [rS s] (fP (by omega)) (by kernel_rfl) Tryz.call66 ?_
 refine eD 7 22 Tryz.underlying22 s ?_
 refine bH (.binOp .eql 3 (.tmp 6) (.tmp 8) 3) (.tmp 6) (.tmp 8) (rI (aJ s:Nat)) (rI (s.size:Nat)) (rl false) (by kernel_rfl) (by simp [Op.operands]) (by simp [Op.operands]) (fun ρ o β w ho hx hy=>⟨.bool false,jS ho (bB hx) (bB hy) (by simp;omega),fO rfl⟩) ?_
 refine radd 11 (aJ s) (by omega) ?_
 refine rslo 10 12 22 Tryz.underlying22 s (aJ s+1) d (by omega) hc ?_
 exact eC Tryz.func158 (by kernel_rfl)
theorem denOfF {q:Rat} (hs:(writeB q).size≤1000000000):Fits Tryz.prog 158 [rS (writeB q)] (rS (decB q.den)):=by
 by_cases h:q.den=1
 ·exact denF1 hs h
 ·exact denF2 hs h
theorem dec0_ne {n:Nat} (h:n≠0):decB n≠zeroT:=fun e=>h (decB_inj (e.trans dec0.symm))
theorem body_ne_zero {q:Rat} (h:q.num≠0):bA q≠zeroT:=by
 by_cases hd:q.den=1
 ·rw [mO hd,cK]
  exact dec0_ne (by omega)
 ·intro e
  have hl:=body_len q
  rw [if_neg hd,e] at hl
  have:zeroT.size=1:=rfl
  have:=decB_pos q.num.natAbs
  omega
theorem write_ne_zero {q:Rat} (h:q.num≠0):writeB q≠zeroT:=by
 by_cases hn:q.num<0
 ·obtain ⟨f1,⟨h0,hc⟩,f3,f4,f5⟩:=iN hn
  intro e
  have h1:=(iZ q).1
  rw [e,decide_eq_true hn] at h1
  exact absurd h1 (by decide)
 ·rw [eJ hn]
  exact body_ne_zero h
theorem signF0 {q:Rat} (h:q.num=0):Fits Tryz.prog 80 [rS (writeB q)] (.fv (.sc (.lit (.int .i64 0)))):=by
 have e:((writeB q).toList==(⟨#[48]⟩:ByteArray).toList)=true:=by
  have hd:q.den=1:=by have:=q.reduced;rw [h] at this;simpa using this
  rw [jX hd,h]
  have:aR 0=zeroT:=by unfold aR;rw [if_neg (by omega)];exact dec0
  rw [this]
  exact beq_self_eq_true zeroT.toList
 generalize writeB q=s at *
 refine kN Tryz.func80 (by kernel_rfl) fun w00=>?_
 refine rseq 3 22 s ⟨#[48]⟩ true e ?_
 exact eC Tryz.func80 (by kernel_rfl)
theorem signFn {q:Rat} (h:q.num<0):Fits Tryz.prog 80 [rS (writeB q)] (.fv (.sc (.lit (.int .i64 (-1))))):=by
 have e:=eU (write_ne_zero (q:=q) (by omega))
 obtain ⟨f1,hc,f3,f4,f5⟩:=iN h
 have h0:decide ((0:Int)<((writeB q).size:Nat))=true:=by rw [decide_eq_true_iff];omega
 generalize writeB q=s at *
 refine kN Tryz.func80 (by kernel_rfl) fun w00=>?_
 refine rseq 3 22 s ⟨#[48]⟩ false e ?_
 refine eD 5 22 Tryz.underlying22 s ?_
 refine jL 6 0 (s.size:Nat) true h0 ?_
 refine ridnR 9 s hc ?_
 exact eC Tryz.func80 (by kernel_rfl)
theorem signFp {q:Rat} (h:0<q.num):Fits Tryz.prog 80 [rS (writeB q)] (.fv (.sc (.lit (.int .i64 1)))):=by
 have e:=eU (write_ne_zero (q:=q) (by omega))
 obtain ⟨c,hc,hc45⟩:=body_head q
 rw [← eJ (by omega)] at hc
 have h0:decide ((0:Int)<((writeB q).size:Nat))=true:=by rw [decide_eq_true_iff];have:=hc.1;omega
 generalize writeB q=s at *
 refine kN Tryz.func80 (by kernel_rfl) fun w00=>?_
 refine rseq 3 22 s ⟨#[48]⟩ false e ?_
 refine eD 5 22 Tryz.underlying22 s ?_
 refine jL 6 0 (s.size:Nat) true h0 ?_
 refine ridpR 9 s c hc ?_
 refine rueq 10 c hc45 ?_
 exact eC Tryz.func80 (by kernel_rfl)
theorem absFn {q:Rat} (h:q.num<0) (hs:(writeB q).size≤1000000000):Fits Tryz.prog 156 [rS (writeB q)] (rS (bA q)):=by
 have hg:=signFn h
 obtain ⟨f1,hc,f3,f4,f5⟩:=iN h
 generalize bA q=u at *
 generalize writeB q=s at *
 refine kN Tryz.func156 (by kernel_rfl) fun w00=>?_
 refine aM 80 [rS s] hg (by kernel_rfl) Tryz.call80 ?_
 refine rsl1 6 22 Tryz.underlying22 s u f1 f3 ?_
 exact eC Tryz.func156 (by kernel_rfl)
theorem absFp {q:Rat} (h:¬ q.num<0):Fits Tryz.prog 156 [rS (writeB q)] (rS (bA q)):=by
 rw [← eJ h]
 by_cases h0:q.num=0
 ·have hg:=signF0 h0
  generalize writeB q=s at *
  refine kN Tryz.func156 (by kernel_rfl) fun w00=>?_
  refine aM 80 [rS s] hg (by kernel_rfl) Tryz.call80 ?_
  exact eC Tryz.func156 (by kernel_rfl)
 ·have hg:=signFp (q:=q) (by omega)
  generalize writeB q=s at *
  refine kN Tryz.func156 (by kernel_rfl) fun w00=>?_
  refine aM 80 [rS s] hg (by kernel_rfl) Tryz.call80 ?_
  exact eC Tryz.func156 (by kernel_rfl)
theorem absOfF {q:Rat} (hs:(writeB q).size≤1000000000):Fits Tryz.prog 156 [rS (writeB q)] (rS (bA q)):=by
 by_cases h:q.num<0
 ·exact absFn h hs
 ·exact absFp h
theorem absTF {z:Int} (hs:(aR z).size≤1000000000):Fits Tryz.prog 156 [rS (aR z)] (rS (decB z.natAbs)):=by
 have h:=absOfF (q:=(z:Rat)) (by rw [← dN];exact hs)
 have e:bA (z:Rat)=decB z.natAbs:=by rw [mO rfl,cK];rfl
 rw [← dN,e] at h
 exact h
def Fw (k:Nat) (q:Rat):Prop:=(decB q.num.natAbs).size≤k∧(decB q.den).size≤k
theorem text_len (z:Int):(aR z).size≤(decB z.natAbs).size+1:=by
 unfold aR
 split
 ·rw [ByteArray.size_append,size45];omega
 ·omega
theorem cV {f:FuncId} {s t u:ByteArray} (h:Fits Tryz.prog f [rS s,rS t] (rS u)):Fits Tryz.prog f [tx s,tx t] (tx u):=by
 intro β w vs hv
 obtain ⟨v,v2,rfl,h1,h2⟩:=eO hv
 rw [aT h1,aT h2]
 exact (h β w [.string s,.string t] ⟨_,_,rfl,dA,_,_,rfl,dA,rfl⟩).mono fun e w' ⟨v,e1,e2,e3⟩=>⟨v,e1,e2,by rw [bB e3];exact bN⟩
abbrev t3 (a b c:ByteArray):AV Kn := .fv (.ag [dI a,dI b,dI c])
theorem originF:Fits Tryz.prog 96 ([]:List (AV Kn)) (.fv (.ag [.lit (.string ⟨#[48]⟩),.lit (.string ⟨#[48]⟩),.lit (.string ⟨#[48]⟩)])):=by
 refine gR Tryz.func96 (by kernel_rfl) fun w00=>?_
 exact aN Tryz.func96 (by kernel_rfl)
section
variable {a b c d e f:ByteArray} {x y z:ByteArray}
theorem addVecR (h1:Fits Tryz.prog 16 [tx a,tx d] (tx x)) (h2:Fits Tryz.prog 16 [tx b,tx e] (tx y)) (h3:Fits Tryz.prog 16 [tx c,tx f] (tx z)):Fits Tryz.prog 35 [t3 a b c,t3 d e f] (t3 x y z):=by
 refine gR Tryz.func35 (by kernel_rfl) fun w00=>?_
 refine aB 16 [tx a,tx d] (h1) (by kernel_rfl) Tryz.call16 ?_
 refine aB 16 [tx b,tx e] (h2) (by kernel_rfl) Tryz.call16 ?_
 refine aB 16 [tx c,tx f] (h3) (by kernel_rfl) Tryz.call16 ?_
 exact aN Tryz.func35 (by kernel_rfl)
end
def f2 (x y:Int):Int:=if x=0 then y else x
def f3 (x y z:Int):Int:=f2 x (f2 y z)
abbrev Ev (z:Int):Prop:=z=0∨z=1∨z=4
theorem f2_ev {x y:Int} (hx:Ev x) (hy:Ev y):Ev (f2 x y):=by unfold f2;split <;> assumption
theorem f2_zero {x y:Int} (h:f2 x y=0):x=0∧y=0:=by
 unfold f2 at h
 split at h
 ·rename_i e;exact ⟨e,h⟩
 ·rename_i e;exact absurd h e
theorem f2_l {x y:Int} (h:x≠0):f2 x y=x:=if_neg h
theorem f2_r {x y:Int} (h:x=0):f2 x y=y:=if_pos h
abbrev lz (z:Int):Seg Kn := .lit (.int .i64 z)
theorem first2Any {T:TypeId} {x y z:Int} (hx:Ev x) (hy:Ev y) (hz:f2 x y=z):Fits Tryz.prog 105 [.fv (.nsl 2 T [lz x,lz y])] (it z):=by
 rcases hx with rfl|rfl|rfl
 ·have hz:y=z:=hz
  subst hz
  rcases hy with rfl|rfl|rfl <;> (refine nJ Tryz.func105 (by kernel_rfl) fun w00=>?_;exact aN Tryz.func105 (by kernel_rfl))
 ·have hz:1=z:=hz
  subst hz
  refine nJ Tryz.func105 (by kernel_rfl) fun w00=>?_
  exact aN Tryz.func105 (by kernel_rfl)
 ·have hz:4=z:=hz
  subst hz
  refine nJ Tryz.func105 (by kernel_rfl) fun w00=>?_
  exact aN Tryz.func105 (by kernel_rfl)
theorem first3Any {T:TypeId} {x y u z:Int} (hx:Ev x) (hy:Ev y) (hu:Ev u) (hz:f3 x y u=z):Fits Tryz.prog 105 [.fv (.nsl 3 T [lz x,lz y,lz u])] (it z):=by
 rcases hx with rfl|rfl|rfl
 ·rcases hy with rfl|rfl|rfl
  ·have hz:u=z:=hz
   subst hz
   rcases hu with rfl|rfl|rfl <;> (refine nJ Tryz.func105 (by kernel_rfl) fun w00=>?_;exact aN Tryz.func105 (by kernel_rfl))
  ·have hz:1=z:=hz
   subst hz
   refine nJ Tryz.func105 (by kernel_rfl) fun w00=>?_
   exact aN Tryz.func105 (by kernel_rfl)
  ·have hz:4=z:=hz
   subst hz
   refine nJ Tryz.func105 (by kernel_rfl) fun w00=>?_
   exact aN Tryz.func105 (by kernel_rfl)
 ·have hz:1=z:=hz
  subst hz
  refine nJ Tryz.func105 (by kernel_rfl) fun w00=>?_
  exact aN Tryz.func105 (by kernel_rfl)
 ·have hz:4=z:=hz
  subst hz
  refine nJ Tryz.func105 (by kernel_rfl) fun w00=>?_
  exact aN Tryz.func105 (by kernel_rfl)
abbrev Rb (s:ByteArray):Prop:=s.size<4294967281
abbrev Rb3 (a b c:ByteArray):Prop:=Rb a∧Rb b∧Rb c
abbrev c3 (a b c:ByteArray):Int:=f3 (aZ a) (aZ b) (aZ c)
theorem cL (a b c:ByteArray):Ev (c3 a b c):=f2_ev (aV _) (f2_ev (aV _) (aV _))
section
variable {a b c x y u:ByteArray} {z:Int}
theorem jB (h:Rb3 a b c) (hz:c3 a b c=z):FitsW Tryz.prog Gl 83 [t3 a b c] (.tup [.ag [nb (nZ a),nb (nZ b),nb (nZ c)],.sc (lz z)]):=by
 refine bM Tryz.func83 (by kernel_rfl) fun w00 hG=>?_;have hI:=aP hG
 refine aE hI 60 [tx a] (readAnyF h.1 rfl) (by kernel_rfl) Tryz.call60 ?_
 refine aE hI 60 [tx b] (readAnyF h.2.1 rfl) (by kernel_rfl) Tryz.call60 ?_
 refine aE hI 60 [tx c] (readAnyF h.2.2 rfl) (by kernel_rfl) Tryz.call60 ?_
 refine kcallS 105 3 3 191 [lz (aZ a),lz (aZ b),lz (aZ c)] (first3Any (aV _) (aV _) (aV _) hz) (by kernel_rfl) Tryz.call105 ?_
 exact aN Tryz.func83 (by kernel_rfl)
theorem readRVAny (h:Rb a) (k:Rb3 x y u) (hz:f2 (aZ a) (c3 x y u)=z):FitsW Tryz.prog Gl 87 [eV 60,tx a,eV 83,t3 x y u] (.tup [.ag [nb (nZ a)],.ag [nb (nZ x),nb (nZ y),nb (nZ u)],.sc (lz z)]):=by
 refine bM Tryz.func87 (by kernel_rfl) fun w00 hG=>?_;have hI:=aP hG
 refine aE hI 60 [tx a] (readAnyF h rfl) (by kernel_rfl) Tryz.call60 ?_
 refine aE hI 83 [t3 x y u] (jB k rfl) (by kernel_rfl) Tryz.call83 ?_
 refine aB 105 [.fv (.nsl 2 24 [lz (aZ a),lz (c3 x y u)])] (first2Any (aV _) (cL _ _ _) hz) (by kernel_rfl) Tryz.call105 ?_
 exact aN Tryz.func87 (by kernel_rfl)
theorem readVVAny (h:Rb3 a b c) (k:Rb3 x y u) (hz:f2 (c3 a b c) (c3 x y u)=z):FitsW Tryz.prog Gl 90 [eV 83,t3 a b c,eV 83,t3 x y u] (.tup [.ag [nb (nZ a),nb (nZ b),nb (nZ c)],.ag [nb (nZ x),nb (nZ y),nb (nZ u)],.sc (lz z)]):=by
 refine bM Tryz.func90 (by kernel_rfl) fun w00 hG=>?_;have hI:=aP hG
 refine aE hI 83 [t3 a b c] (jB h rfl) (by kernel_rfl) Tryz.call83 ?_
 refine aE hI 83 [t3 x y u] (jB k rfl) (by kernel_rfl) Tryz.call83 ?_
 refine aB 105 [.fv (.nsl 2 24 [lz (c3 a b c),lz (c3 x y u)])] (first2Any (cL _ _ _) (cL _ _ _) hz) (by kernel_rfl) Tryz.call105 ?_
 exact aN Tryz.func90 (by kernel_rfl)
abbrev noS (z:Int):AV Kn := .tup [.sc (.lit (.string ⟨#[]⟩)),.sc (lz z)]
theorem dL (h:Rb3 a b c) (hz:c3 a b c=z):FitsW Tryz.prog Gl 24 [t3 a b c] (it z):=by
 refine bM Tryz.func24 (by kernel_rfl) fun w00 hG=>?_;have hI:=aP hG
 refine aE hI 83 [t3 a b c] (jB h hz) (by kernel_rfl) Tryz.call83 ?_
 exact aN Tryz.func24 (by kernel_rfl)
end
theorem body_negate (q:Rat):bA (-q)=bA q:=by
 unfold bA
 rw [Rat.neg_den,Rat.neg_num,Int.natAbs_neg]
theorem zs_len {k:Nat} {q:Rat} (h:Zs k q):(writeB q).size≤2*k+4:=by
 have h1:=decB_size_le h.1
 have h2:=decB_size_le h.2
 have:=mQ q
 have:=text_len q.num
 split at * <;> omega
theorem negR {q:Rat} (hs:(writeB q).size≤1000000000):Fits Tryz.prog 79 [rS (writeB q)] (rS (writeB (-q))):=by
 by_cases h:q.num<0
 ·rw [eJ (q := -q) (by rw [Rat.neg_num];omega),body_negate]
  have hg:=signFn h
  obtain ⟨f1,hc,f3,f4,f5⟩:=iN h
  generalize bA q=u at *
  generalize writeB q=s at *
  refine kN Tryz.func79 (by kernel_rfl) fun w00=>?_
  refine aM 80 [rS s] hg (by kernel_rfl) Tryz.call80 ?_
  refine rsl1 6 22 Tryz.underlying22 s u f1 f3 ?_
  exact eC Tryz.func79 (by kernel_rfl)
 ·by_cases h0:q.num=0
  ·have e:-q=q:=by
    have:q=0:=Rat.num_eq_zero.1 h0
    rw [this]
    rfl
   rw [e]
   have hg:=signF0 h0
   generalize writeB q=s at *
   refine kN Tryz.func79 (by kernel_rfl) fun w00=>?_
   refine aM 80 [rS s] hg (by kernel_rfl) Tryz.call80 ?_
   refine aM 80 [rS s] hg (by kernel_rfl) Tryz.call80 ?_
   exact eC Tryz.func79 (by kernel_rfl)
  ·rw [mC (q := -q) (by rw [Rat.neg_num];omega),body_negate,← eJ h]
   have hg:=signFp (q:=q) (by omega)
   have hcat:(⟨#[45]⟩:ByteArray).size+(writeB q).size≤9223372036854775807:=by rw [size45];omega
   generalize writeB q=s at *
   refine kN Tryz.func79 (by kernel_rfl) fun w00=>?_
   refine aM 80 [rS s] hg (by kernel_rfl) Tryz.call80 ?_
   refine aM 80 [rS s] hg (by kernel_rfl) Tryz.call80 ?_
   refine bH (.binOp .add 22 (.const (.string ⟨#[45]⟩)) (.tmp 12) 22) (.const (.string ⟨#[45]⟩)) (.tmp 12) (.fv (.sc (.lit (.string ⟨#[45]⟩)))) (rS s) (rS (⟨#[45]⟩++s)) (by kernel_rfl) (by simp [Op.operands]) (by simp [Op.operands]) (fun ρ o β w ho hx hy=>⟨_,fG ho (cE hx) (bB hy) hcat,dA⟩) ?_
   exact eC Tryz.func79 (by kernel_rfl)
theorem zs_neg {k:Nat} {q:Rat} (h:Zs k q):Zs k (-q):=by
 unfold Zs
 rw [Rat.neg_den,Rat.neg_num,Int.natAbs_neg]
 exact h
theorem nT {p q:Rat} (hp:Zs 10000 p) (hq:Zs 10000 q):Fits Tryz.prog 17 [rS (writeB p),rS (writeB q)] (rS (writeB (p-q))):=by
 have h1:=negR (q:=q) (by have:=zs_len hq;omega)
 have h2:=dF hp (zs_neg hq)
 rw [← Rat.sub_eq_add_neg] at h2
 generalize writeB (p-q)=x at *
 generalize writeB (-q)=y at *
 generalize writeB p=a at *
 generalize writeB q=b at *
 refine kN Tryz.func17 (by kernel_rfl) fun w00=>?_
 refine aM 79 [rS b] h1 (by kernel_rfl) Tryz.call79 ?_
 refine aM 16 [rS a,rS y] h2 (by kernel_rfl) Tryz.call16 ?_
 exact eC Tryz.func17 (by kernel_rfl)
section
variable {a b c d e f:ByteArray} {x y z u v:ByteArray}
theorem subVecR (h1:Fits Tryz.prog 17 [tx a,tx d] (tx x)) (h2:Fits Tryz.prog 17 [tx b,tx e] (tx y)) (h3:Fits Tryz.prog 17 [tx c,tx f] (tx z)):Fits Tryz.prog 36 [t3 a b c,t3 d e f] (t3 x y z):=by
 refine gR Tryz.func36 (by kernel_rfl) fun w00=>?_
 refine aB 17 [tx a,tx d] (h1) (by kernel_rfl) Tryz.call17 ?_
 refine aB 17 [tx b,tx e] (h2) (by kernel_rfl) Tryz.call17 ?_
 refine aB 17 [tx c,tx f] (h3) (by kernel_rfl) Tryz.call17 ?_
 exact aN Tryz.func36 (by kernel_rfl)
theorem dotR (h1:Fits Tryz.prog 18 [tx a,tx d] (tx x)) (h2:Fits Tryz.prog 18 [tx b,tx e] (tx y)) (h3:Fits Tryz.prog 16 [tx x,tx y] (tx u)) (h4:Fits Tryz.prog 18 [tx c,tx f] (tx z)) (h5:Fits Tryz.prog 16 [tx u,tx z] (tx v)):Fits Tryz.prog 37 [t3 a b c,t3 d e f] (tx v):=by
 refine gR Tryz.func37 (by kernel_rfl) fun w00=>?_
 refine aB 18 [tx a,tx d] (h1) (by kernel_rfl) Tryz.call18 ?_
 refine aB 18 [tx b,tx e] (h2) (by kernel_rfl) Tryz.call18 ?_
 refine aB 16 [tx x,tx y] (h3) (by kernel_rfl) Tryz.call16 ?_
 refine aB 18 [tx c,tx f] (h4) (by kernel_rfl) Tryz.call18 ?_
 refine aB 16 [tx u,tx z] (h5) (by kernel_rfl) Tryz.call16 ?_
 exact aN Tryz.func37 (by kernel_rfl)
theorem jT (h:Fits Tryz.prog 37 [t3 a b c,t3 a b c] (tx v)):Fits Tryz.prog 33 [t3 a b c] (tx v):=by
 refine gR Tryz.func33 (by kernel_rfl) fun w00=>?_
 refine aB 37 [t3 a b c,t3 a b c] (h) (by kernel_rfl) Tryz.call37 ?_
 exact aN Tryz.func33 (by kernel_rfl)
end
end Go.Proofs.YtbhgaclbijocmaaGreatDoor.Ab
namespace Go.Proofs.YtbhgaclbijocmaaGreatDoor
open Go.RowKit Pl
end Go.Proofs.YtbhgaclbijocmaaGreatDoor
namespace Go.Proofs.YtbhgaclbijocmaaGreatDoor.Ab
open Go.RowKit Go.Proofs.YtbhgaclbijocmaaGreatDoor Pl
theorem cutPrefixNo {s:ByteArray} (h:Lib.hasPrefix s.data.toList [45]=false):Fits Tryz.prog 97 [tx s,lt ⟨#[45]⟩] (.tup [.sc (dI s),.sc (.lit (.bool false))]):=by
 intro β w vs hv
 obtain ⟨v,u,rfl,h1,h2⟩:=eO hv
 rw [aT h1,aO h2]
 have es:(⟨(Lib.trimPrefix s.data.toList [45]).toArray⟩:ByteArray)=s:=ba_ext (by unfold Lib.trimPrefix;rw [h];simp)
 refine (Tryz.strings_CutPrefix s ⟨#[45]⟩ w).mono fun e w' ⟨e1,e2⟩=>⟨_,e1,by rw [e2];exact Below.refl _ _,?_⟩
 rw [show (⟨#[45]⟩:ByteArray).data.toList = [45] from rfl,es,h]
 exact ⟨[.string s,.bool false],rfl,_,_,rfl,bN (β:=β),_,_,rfl,⟨rfl,rfl⟩,rfl⟩
theorem ascii_two:∀ (j:Nat) (b:UInt8),(⟨#[47,46]⟩:ByteArray).data.toList[j]?=some b→b.toNat<128:=by
 intro j b h
 have:=List.mem_of_getElem? h
 simp at this
 rcases this with rfl|rfl <;> decide
theorem indexAnyF {s:ByteArray} {k:Int} (hs:s.size<4294967281) (ha:∀ (j:Nat) (b:UInt8),s.data.toList[j]?=some b→b.toNat<128) (h:Lib.indexAny s.data.toList [47,46]=k):Fits Tryz.prog 172 [tx s,lt ⟨#[47,46]⟩] (.fv (.sc (isI k))):=by
 intro β w vs hv
 obtain ⟨v,u,rfl,h1,h2⟩:=eO hv
 rw [aT h1,aO h2]
 refine (Tryz.strings_IndexAny_laid s ⟨#[47,46]⟩ w hs (by decide) ha ascii_two).mono fun e w' ⟨e1,e2⟩=>⟨_,e1,e2,?_⟩
 rw [show (⟨#[47,46]⟩:ByteArray).data.toList = [47,46] from rfl,h]
 exact bN
theorem repeatF {c:Nat} {z:ByteArray} (h2:2≤c) (hc:c≤100000) (hz:(⟨(Lib.repeatL [48] c).toArray⟩:ByteArray)=z):Fits Tryz.prog 174 [lt ⟨#[48]⟩,.fv (.sc (isI c))] (tx z):=by
 intro β w vs hv
 obtain ⟨v,u,rfl,h1,h3⟩:=eO hv
 rw [aO h1,aT h3]
 have hsz:(⟨#[48]⟩:ByteArray).size=1:=rfl
 refine (Tryz.strings_Repeat_main ⟨#[48]⟩ c w h2 (by omega) (by rw [hsz];omega) (by rw [hsz];omega)).mono fun e w' ⟨e1,e2⟩=>⟨_,e1,e2,?_⟩
 rw [show (⟨#[48]⟩:ByteArray).data.toList = [48] from rfl,hz]
 exact bN
section
variable {s a b z:ByteArray} {k:Nat}
theorem partsDot (hi:Fits Tryz.prog 172 [tx s,lt ⟨#[47,46]⟩] (.fv (.sc (isI k)))) (hk:k<s.size) (hs:s.size≤10000) (ha:s.extract 0 k=a) (hb:s.extract (k+1) s.size=b) (da:AllDig (aC a)) (da0:0<a.size) (db:AllDig (aC b)) (db0:0<b.size)
 (hdot:s[k]?=some 46) (hr:Fits Tryz.prog 174 [lt ⟨#[48]⟩,.fv (.sc (isI b.size))] (tx z)) (hz:z.size≤10000):Fits Tryz.prog 98 [tx s] (.tup [.sc (dI (a++b)),.sc (dI (⟨#[49]⟩++z)),.sc z0]):=by
 have hasz:a.size≤s.size:=by rw [← ha,ByteArray.size_extract];omega
 have hbsz:b.size≤s.size:=by rw [← hb,ByteArray.size_extract];omega
 refine gR Tryz.func98 (by kernel_rfl) fun w00=>?_
 refine aB 172 [tx s,lt ⟨#[47,46]⟩] (hi) (by kernel_rfl) Tryz.call172 ?_
 refine fD (.binOp .lss 3 (.tmp 10) (.const (.int .i64 0)) 3) (.tmp 10) (.const (.int .i64 0)) (.fv (.sc (isI k))) (it 0) (bl false) (by kernel_rfl) (by simp [Op.operands]) (by simp [Op.operands]) (fun ρ o β w ho hx hy=>⟨_,lss_run ho (aT hx) (aO hy) (by rw [decide_eq_false_iff_not];omega),bG rfl⟩) ?_
 refine fD (.slice 9 (.tmp 16) none (some (.tmp 17)) none) (.tmp 16) (.tmp 17) (tx s) (.fv (.sc (isI k))) (tx a) (by kernel_rfl) (by simp [Op.operands]) (by simp [Op.operands]) (fun ρ o β w ho hx hy=>?_) ?_
 ·have:=oZ (w:=w) ho Tryz.underlying9 (aT hx) (aT hy) (by omega)
  rw [ha] at this
  exact ⟨_,this,bN⟩
 refine fD (.binOp .add 3 (.tmp 20) (.const (.int .i64 1)) 3) (.tmp 20) (.const (.int .i64 1)) (.fv (.sc (isI k))) (it 1) (.fv (.sc (isI ((k+1:Nat):Int)))) (by kernel_rfl) (by simp [Op.operands]) (by simp [Op.operands]) (fun ρ o β w ho hx hy=>⟨_,add1_run ho (aT hx) (aO hy) (by omega),bN⟩) ?_
 refine fD (.slice 9 (.tmp 19) (some (.tmp 21)) none none) (.tmp 19) (.tmp 21) (tx s) (.fv (.sc (isI ((k+1:Nat):Int)))) (tx b) (by kernel_rfl) (by simp [Op.operands]) (by simp [Op.operands]) (fun ρ o β w ho hx hy=>?_) ?_
 ·have:=pA (w:=w) ho Tryz.underlying9 (aT hx) (aT hy) (by omega)
  rw [hb] at this
  exact ⟨_,this,bN⟩
 refine aB 173 [tx a] (isDigitsF da da0) (by kernel_rfl) Tryz.call173 ?_
 refine aB 173 [tx b] (isDigitsF db db0) (by kernel_rfl) Tryz.call173 ?_
 refine fD (.index 9 (.tmp 33) (.tmp 34)) (.tmp 33) (.tmp 34) (tx s) (.fv (.sc (isI k))) (.fv (.sc (.lit (.int .u8 46)))) (by kernel_rfl) (by simp [Op.operands]) (by simp [Op.operands]) (fun ρ o β w ho hx hy=>⟨_,mA ho Tryz.underlying9 (aT hx) (aT hy) hdot,bG rfl⟩) ?_
 refine fD (.binOp .add 9 (.tmp 37) (.tmp 38) 9) (.tmp 37) (.tmp 38) (tx a) (tx b) (tx (a++b)) (by kernel_rfl) (by simp [Op.operands]) (by simp [Op.operands]) (fun ρ o β w ho hx hy=>⟨_,fG ho (aT hx) (aT hy) (by omega),bN⟩) ?_
 refine lZ 40 b (by kernel_rfl) ?_
 refine aB 174 [lt ⟨#[48]⟩,.fv (.sc (isI b.size))] (hr) (by kernel_rfl) Tryz.call174 ?_
 refine fD (.binOp .add 9 (.const (.string ⟨#[49]⟩)) (.tmp 42) 9) (.const (.string ⟨#[49]⟩)) (.tmp 42) (lt ⟨#[49]⟩) (tx z) (tx (⟨#[49]⟩++z)) (by kernel_rfl) (by simp [Op.operands]) (by simp [Op.operands]) (fun ρ o β w ho hx hy=>⟨_,fG ho (aO hx) (aT hy) (by have:(⟨#[49]⟩:ByteArray).size=1:=rfl;omega),bN⟩) ?_
 exact aN Tryz.func98 (by kernel_rfl)
theorem parseF' {n d:Nat} (hs:s.size≤4096) (hp:Lib.hasPrefix s.data.toList [45]=false) (hpt:Fits Tryz.prog 98 [tx s] (.tup [.sc (dI (decB n)),.sc (dI (decB d)),.sc z0])) (hn:(decB n).size≤100000) (hd:(decB d).size≤100000) (ln:Lv 40 n) (ld:Lv 40 d) (d0:0<d)
 (lq:Lf 20 (mkRat (sg false n) d)) (w1:(decB (mkRat (sg false n) d).num.natAbs).size≤600) (w2:(decB (mkRat (sg false n) d).den).size≤600):FitsW Tryz.prog Gl 42 [tx s] (.tup [.sc (dI (writeB (mkRat (sg false n) d))),.sc z0]):=by
 refine bM Tryz.func42 (by kernel_rfl) fun w00 hG=>?_;have hI:=aP hG
 refine lZ 9 s (by kernel_rfl) ?_
 refine kgt 10 s.size 4096 false (by rw [decide_eq_false_iff_not];omega) (by kernel_rfl) ?_
 refine aB 97 [tx s,lt ⟨#[45]⟩] (cutPrefixNo hp) (by kernel_rfl) Tryz.call97 ?_
 refine aB 98 [tx s] (hpt) (by kernel_rfl) Tryz.call98 ?_
 refine aB 100 [tx (decB n)] (bW hn) (by kernel_rfl) Tryz.call100 ?_
 refine aB 100 [tx (decB d)] (bW hd) (by kernel_rfl) Tryz.call100 ?_
 refine aB 99 [bl false,nt n,nt d] (oT ln ld d0) (by kernel_rfl) Tryz.call99 ?_
 refine aB 101 [fra (mkRat (sg false n) d)] (jR) (by kernel_rfl) Tryz.call101 ?_
 refine aE hI 63 [num (mkRat (sg false n) d)] (oU lq w1 w2) (by kernel_rfl) Tryz.call63 ?_
 exact aN Tryz.func42 (by kernel_rfl)
end
end Go.Proofs.YtbhgaclbijocmaaGreatDoor.Ab
namespace Go.Proofs.YtbhgaclbijocmaaGreatDoor.Fr
open Go.RowKit Go.Shelf
attribute [local go_sem] Oper.semAt_some
def axV (x1 x2 x3 y1 y2 y3 z1 z2 z3:ByteArray):Fin 3→Value
 | 0 => .agg #[.string x1,.string x2,.string x3]
 | 1 => .agg #[.string y1,.string y2,.string y3]
 | 2 => .agg #[.string z1,.string z2,.string z3]
def axE (x1 x2 x3 y1 y2 y3 z1 z2 z3:ByteArray) (i:Fin 3):Array Value := #[.int .i64 ((i.val:Nat):Int),axV x1 x2 x3 y1 y2 y3 z1 z2 z3 i]
theorem ix0 (w:World) (x1 x2 x3 y1 y2 y3 z1 z2 z3:ByteArray):(Sem.run Tryz.prog (Instr.index 267 (.agg #[.string x1,.string x2,.string x3,.string y1,.string y2,.string y3,.string z1,.string z2,.string z3]) (.int .i64 0)) w) = .ok (.agg #[.string x1,.string x2,.string x3]) w:=by
 kernel_rfl
theorem ix1 (w:World) (x1 x2 x3 y1 y2 y3 z1 z2 z3:ByteArray):(Sem.run Tryz.prog (Instr.index 267 (.agg #[.string x1,.string x2,.string x3,.string y1,.string y2,.string y3,.string z1,.string z2,.string z3]) (.int .i64 1)) w) = .ok (.agg #[.string y1,.string y2,.string y3]) w:=by
 kernel_rfl
theorem ix2 (w:World) (x1 x2 x3 y1 y2 y3 z1 z2 z3:ByteArray):(Sem.run Tryz.prog (Instr.index 267 (.agg #[.string x1,.string x2,.string x3,.string y1,.string y2,.string y3,.string z1,.string z2,.string z3]) (.int .i64 2)) w) = .ok (.agg #[.string z1,.string z2,.string z3]) w:=by
 kernel_rfl
set_option maxRecDepth 100000 in
set_option maxHeartbeats 2000000 in
theorem axes1_in (F:Fence) (n:Nat) (h8:F.fn 238) (hro:F.round=none) (hn:1≤n) (l Bf n₀:Nat) (o1 o2 o3 x1 x2 x3 y1 y2 y3 z1 z2 z3:ByteArray) (J Jx:List (Fin 3)→World→Prop)
 (hY:∀ pre x W,J pre W→pre.length<3→YieldAt F (n-1) Tryz.prog l (axE x1 x2 x3 y1 y2 y3 z1 z2 z3 x) W fun e W' =>
  (e = .returned (.bool true)∧J (pre ++ [x]) W'∧Below n₀ W W')∨(e = .returned (.bool false)∧Jx (pre ++ [x]) W'))
 (W:World) (hJ:AbidesFrom W.heap.size J) (hn0:n₀≤W.heap.size) (hB:W.heap[Bf]?=some (.cells #[.string o1,.string o2,.string o3,.string x1,.string x2,.string x3,.string y1,.string y2,.string y3,.string z1,.string z2,.string z3] 69 (0,0))) (h0:J [] W) :
 CallsIn F n Tryz.prog 238 #[.func (.yield l) #[] #[],.pointer (some ⟨Bf,0,none⟩)] W fun e W'=>(∃ v,e = .returned v) ∧
  ((∃ ys,ys = [0,1,2]∧J ys W')∨(∃ pre,True∧Jx pre W')):=by
 refine callsIn_of_wp Tryz.func238 rfl h8 ?_ hro
 simp only [Tryz.ntmps238,List.size_toArray,List.length_cons,List.length_nil,Nat.reduceAdd,Nat.reduceSub,Array.replicate_succ,Array.replicate_zero,List.push_toArray,List.append_toArray,List.nil_append,List.cons_append]
 have c3:W.cell? ⟨Bf,3,none⟩=some (.string x1):=by simp [World.cell?,hB]
 have c4:W.cell? ⟨Bf,4,none⟩=some (.string x2):=by simp [World.cell?,hB]
 have c5:W.cell? ⟨Bf,5,none⟩=some (.string x3):=by simp [World.cell?,hB]
 have c6:W.cell? ⟨Bf,6,none⟩=some (.string y1):=by simp [World.cell?,hB]
 have c7:W.cell? ⟨Bf,7,none⟩=some (.string y2):=by simp [World.cell?,hB]
 have c8:W.cell? ⟨Bf,8,none⟩=some (.string y3):=by simp [World.cell?,hB]
 have c9:W.cell? ⟨Bf,9,none⟩=some (.string z1):=by simp [World.cell?,hB]
 have c10:W.cell? ⟨Bf,10,none⟩=some (.string z2):=by simp [World.cell?,hB]
 have c11:W.cell? ⟨Bf,11,none⟩=some (.string z3):=by simp [World.cell?,hB]
 clear hB
 gi_wp2
 gi_loopw [12] (fun i wr=>(i = .int .i64 0∧J [] wr∨i = .int .i64 1∧J [0] wr∨i = .int .i64 2∧J [0,1] wr∨i = .int .i64 3∧J [0,1,2] wr)∧n₀≤wr.heap.size) (fun i _=>3-(intOf i).toNat)
 case atStart=>exact ⟨.inl ⟨rfl,h0⟩,hn0⟩
 case round =>
  obtain ⟨hc,hnr⟩:=hrel
  rcases hc with ⟨rfl,hJs⟩|⟨rfl,hJs⟩|⟨rfl,hJs⟩|⟨rfl,hJs⟩
  ·have hix:=ix0 wr x1 x2 x3 y1 y2 y3 z1 z2 z3
   have hJa:=hJ [] wr (wr.alloc (.cells #[.string x1,.string x2,.string x3] 39)) none hJs (World.grownBy_alloc _ _ none) (fun r e=>by cases e)
   obtain ⟨fn,tmps,assign,body,hy,hR⟩:=hY [] 0 _ hJa (by simp)
   change (Sem.run Tryz.prog (Instr.yield l #[.int .i64 0,.agg #[.string x1,.string x2,.string x3]]) _)=_ at hy
   gi_wp2
   refine hR.mono ?_
   rintro e W3 (⟨rfl,hJ3,hk3⟩|⟨rfl,hJx3⟩)
   ·have hs3:n₀≤W3.heap.size:=by have:=hk3.size;simp at this;omega
    gi_wp2
    go_roundw
    case rel=>exact ⟨.inr (.inl ⟨rfl,hJ3⟩),hs3⟩
    case measure=>simp [intOf]
   ·gi_wp2
    refine bodyPost_ret (results_none rfl _ _ _) rfl ?_
    exact ⟨⟨_,rfl⟩,.inr ⟨_,trivial,hJx3⟩⟩
  ·have hix:=ix1 wr x1 x2 x3 y1 y2 y3 z1 z2 z3
   have hJa:=hJ [0] wr (wr.alloc (.cells #[.string y1,.string y2,.string y3] 39)) none hJs (World.grownBy_alloc _ _ none) (fun r e=>by cases e)
   obtain ⟨fn,tmps,assign,body,hy,hR⟩:=hY [0] 1 _ hJa (by simp)
   change (Sem.run Tryz.prog (Instr.yield l #[.int .i64 1,.agg #[.string y1,.string y2,.string y3]]) _)=_ at hy
   gi_wp2
   refine hR.mono ?_
   rintro e W3 (⟨rfl,hJ3,hk3⟩|⟨rfl,hJx3⟩)
   ·have hs3:n₀≤W3.heap.size:=by have:=hk3.size;simp at this;omega
    gi_wp2
    go_roundw
    case rel=>exact ⟨.inr (.inr (.inl ⟨rfl,hJ3⟩)),hs3⟩
    case measure=>simp [intOf]
   ·gi_wp2
    refine bodyPost_ret (results_none rfl _ _ _) rfl ?_
    exact ⟨⟨_,rfl⟩,.inr ⟨_,trivial,hJx3⟩⟩
  ·have hix:=ix2 wr x1 x2 x3 y1 y2 y3 z1 z2 z3
   have hJa:=hJ [0,1] wr (wr.alloc (.cells #[.string z1,.string z2,.string z3] 39)) none hJs (World.grownBy_alloc _ _ none) (fun r e=>by cases e)
   obtain ⟨fn,tmps,assign,body,hy,hR⟩:=hY [0,1] 2 _ hJa (by simp)
   change (Sem.run Tryz.prog (Instr.yield l #[.int .i64 2,.agg #[.string z1,.string z2,.string z3]]) _)=_ at hy
   gi_wp2
   refine hR.mono ?_
   rintro e W3 (⟨rfl,hJ3,hk3⟩|⟨rfl,hJx3⟩)
   ·have hs3:n₀≤W3.heap.size:=by have:=hk3.size;simp at this;omega
    gi_wp2
    go_roundw
    case rel=>exact ⟨.inr (.inr (.inr ⟨rfl,hJ3⟩)),hs3⟩
    case measure=>simp [intOf]
   ·gi_wp2
    refine bodyPost_ret (results_none rfl _ _ _) rfl ?_
    exact ⟨⟨_,rfl⟩,.inr ⟨_,trivial,hJx3⟩⟩
  ·gi_wp2
   go_end0
   exact ⟨⟨_,rfl⟩,.inl ⟨_,rfl,hJs⟩⟩
theorem axes_stops (F:Fence) (n:Nat) (h8:F.fn 238) (hro:F.round=none) (hn:1≤n) (Bf n₀:Nat) (o1 o2 o3 x1 x2 x3 y1 y2 y3 z1 z2 z3:ByteArray) (w:World) (hn0:n₀≤w.heap.size)
 (hB:w.heap[Bf]?=some (.cells #[.string o1,.string o2,.string o3,.string x1,.string x2,.string x3,.string y1,.string y2,.string y3,.string z1,.string z2,.string z3] 69 (0,0))) :
 SeqStopsK F n Tryz.prog 238 #[.pointer (some ⟨Bf,0,none⟩)] (axE x1 x2 x3 y1 y2 y3 z1 z2 z3) (Below n₀) (fun ys=>ys = [0,1,2]) (fun _=>True) 3 w:=fun l J Jx W hW hJ _ hY h0 =>
 axes1_in F n h8 hro hn l Bf n₀ o1 o2 o3 x1 x2 x3 y1 y2 y3 z1 z2 z3 J Jx hY W hJ (Nat.le_trans hn0 hW.size) ((hW.block Bf (by rcases Nat.lt_or_ge Bf w.heap.size with h|h;exact h;rw [Array.getElem?_eq_none h] at hB;cases hB)).trans hB) h0
set_option maxHeartbeats 1000000 in
theorem axes_any (o1 o2 o3 x1 x2 x3 y1 y2 y3 z1 z2 z3:ByteArray) (w:World):Calls Tryz.prog 188 #[.agg #[.string o1,.string o2,.string o3,.string x1,.string x2,.string x3,.string y1,.string y2,.string y3,.string z1,.string z2,.string z3]] w fun e w' =>
 e = .returned (.func (.func 238) #[] #[.pointer (some ⟨w.heap.size,0,none⟩)])∧w'=w.alloc (.cells #[.string o1,.string o2,.string o3,.string x1,.string x2,.string x3,.string y1,.string y2,.string y3,.string z1,.string z2,.string z3] 69 (0,0)):=by
 refine (callsIn_wide (n:=3)).1 ?_
 refine callsIn_of_wp Tryz.func188 rfl trivial ?_ rfl
 simp only [Tryz.ntmps188,List.size_toArray,List.length_cons,List.length_nil,Nat.reduceAdd,Nat.reduceSub,Array.replicate_succ,Array.replicate_zero,List.push_toArray,List.append_toArray,List.nil_append,List.cons_append]
 gi_wp2
 refine bodyPost_ret (results_tmp rfl _ _ _) rfl ?_
 exact ⟨rfl,rfl⟩
end Go.Proofs.YtbhgaclbijocmaaGreatDoor.Fr
namespace Go.Proofs.YtbhgaclbijocmaaGreatDoor.Fr
open Go.RowKit Go.Shelf Go.Proofs.YtbhgaclbijocmaaGreatDoor Go.Proofs.YtbhgaclbijocmaaGreatDoor.Ab Pl
structure C9 where
 n1:Int
 d1:Int
 p1:Option Addr
 n2:Int
 d2:Int
 p2:Option Addr
 n3:Int
 d3:Int
 p3:Option Addr
def C9.cells (k:C9):List Value := [.int .i64 k.n1,.int .i64 k.d1,.pointer k.p1,.int .i64 k.n2,.int .i64 k.d2,.pointer k.p2,.int .i64 k.n3,.int .i64 k.d3,.pointer k.p3]
def C9.val (k:C9):Value := .agg #[.int .i64 k.n1,.int .i64 k.d1,.pointer k.p1,.int .i64 k.n2,.int .i64 k.d2,.pointer k.p2,.int .i64 k.n3,.int .i64 k.d3,.pointer k.p3]
def C9.zero:C9:=⟨0,0,none,0,0,none,0,0,none⟩
theorem vc9 {w:World} {v:Value} {a b c:Rat} (h:Vc w v a b c):∃ k:C9,v=k.val∧Vc w k.val a b c:=by
 obtain ⟨n1,d1,p1,n2,d2,p2,n3,d3,p3,rfl,h1,h2,h3⟩:=h
 exact ⟨⟨n1,d1,p1,n2,d2,p2,n3,d3,p3⟩,rfl,n1,d1,p1,n2,d2,p2,n3,d3,p3,rfl,h1,h2,h3⟩
theorem vc_cells {β:List Nat} {w:World} {k:C9} {a b c:Rat} (h:Vc w k.val a b c):holdsL β [nb a,nb b,nb c] k.cells w:=by
 obtain ⟨cs,e,hl⟩:=(vc_holds (β:=β)).2 h
 injection e with e
 have e:=congrArg Array.toList e
 have e:k.cells=cs:=e
 rw [e]
 exact hl
def fI (o x y z:C9):List Value:=o.cells++x.cells++y.cells++z.cells
theorem kZ {a b c:Rat} (h:dU a b c) (w:World) (hG:Gl w):Calls Tryz.prog 83 #[.agg #[.string (writeB a),.string (writeB b),.string (writeB c)]] w fun e w' => ∃ k:C9,e = .returned (.tuple #[k.val,.int .i64 0])∧Vc w' k.val a b c∧Below w.heap.size w w':=by
 refine (gB h [] w [.agg #[.string (writeB a),.string (writeB b),.string (writeB c)]] hG ⟨_,_,rfl,⟨[.string (writeB a),.string (writeB b),.string (writeB c)],rfl,[.string (writeB a)],_,rfl,rfl,[.string (writeB b)],_,rfl,rfl,[.string (writeB c)],_,rfl,rfl,rfl⟩,rfl⟩).mono ?_
 rintro e w' ⟨v,e1,e2,vs,rfl,u,r,rfl,h1,u2,r2,rfl,h2,h3⟩
 obtain ⟨k,rfl,h4⟩:=vc9 (vc_holds.1 h1)
 have h5:[u2] = [.int .i64 0]:=h2.1
 injection h5 with h5
 rw [show r2 = [] from h3,h5] at e1
 exact ⟨k,e1,h4,e2⟩
theorem first_any (w:World) (g:Nat) (T:TypeId) (hh:w.heap[g]?=some (.cells #[.int .i64 0,.int .i64 0] T (0,0))):Calls Tryz.prog 105 #[.slice (some ⟨g,0,none⟩) 2 2] w fun e w'=>e = .returned (.int .i64 0)∧Below w.heap.size w w':=by
 refine (gY (T:=T) [] w [.slice (some ⟨g,0,none⟩) 2 2] ⟨_,_,rfl,⟨g,[.int .i64 0,.int .i64 0],rfl,hh,[.int .i64 0],_,rfl,⟨rfl,rfl⟩,[.int .i64 0],_,rfl,⟨rfl,rfl⟩,rfl⟩,rfl⟩).mono ?_
 rintro e w' ⟨v,e1,e2,h1⟩
 have h5:[v] = [.int .i64 0]:=h1.1
 injection h5 with h5
 exact ⟨by rw [e1,h5],e2⟩
section
variable {o1 o2 o3 x1 x2 x3 y1 y2 y3 z1 z2 z3:Rat}
theorem fr_holds {β:List Nat} {w:World} {o x y z:C9} (ho:Vc w o.val o1 o2 o3) (hx:Vc w x.val x1 x2 x3) (hy:Vc w y.val y1 y2 y3) (hz:Vc w z.val z1 z2 z3) :
 (frm o1 o2 o3 x1 x2 x3 y1 y2 y3 z1 z2 z3).holds β (.agg (fI o x y z).toArray) w :=
 ⟨fI o x y z,rfl,(((vc_cells ho).append (vc_cells hx)).append (vc_cells hy)).append (vc_cells hz)⟩
theorem check_any {w:World} {o x y z:C9} (ho:Vc w o.val o1 o2 o3) (hx:Vc w x.val x1 x2 x3) (hy:Vc w y.val y1 y2 y3) (hz:Vc w z.val z1 z2 z3) (l:Lm 25 x1 x2 x3 y1 y2 y3 z1 z2 z3) (h:Ax x1 x2 x3 y1 y2 y3 z1 z2 z3) :
 Calls Tryz.prog 189 #[.agg (fI o x y z).toArray] w fun e w'=>e = .returned (.int .i64 0)∧Below w.heap.size w w':=by
 refine (checkF (o1:=o1) (o2:=o2) (o3:=o3) l h [] w [.agg (fI o x y z).toArray] ⟨_,_,rfl,fr_holds ho hx hy hz,rfl⟩).mono ?_
 rintro e w' ⟨v,e1,e2,h1⟩
 have h5:[v] = [.int .i64 0]:=h1.1
 injection h5 with h5
 exact ⟨by rw [e1,h5],e2⟩
end
end Go.Proofs.YtbhgaclbijocmaaGreatDoor.Fr
