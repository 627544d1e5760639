/- Parts of the proof, joined. -/
import Derived.Test.YtofcdondmgojiaaGreatDoorJ12
import Derived.Test.YtofcdondmgojiaaGreatDoorJ14
import Derived.Test.YtofcdondmgojiaaGreatDoorJ15
import Derived.Test.YtofcdondmgojiaaGreatDoorJ3
import Derived.Laws.Tables
import Derived.Laws.StructEq
import Derived.Test.YtofcdondmgojiaaGreatDoorJ11
import Derived.RangeFuncNested
import Derived.RangeFuncBound
import Derived.RangeFuncCalls
import Derived.RangeFuncLeaves
import Derived.Shelf.Abstract
import Derived.Shelf.RegionOpen
import Derived.WalkKit
import Derived.OwnWalkIn
import Derived.TacticsInMore
import Derived.LoopNIn
import Derived.LoopIn
import Derived.KernelRfl
import Derived.Test.YtofcdondmgojiaaGreatDoorProg
set_option linter.unusedSimpArgs false
set_option linter.unusedVariables false
namespace Go.Proofs.YtofcdondmgojiaaGreatDoor.Ab
open Go.RowKit Go.Proofs.YtofcdondmgojiaaGreatDoor Pl
section
variable {z1 z2 z3:Int} {d p1 p2 p3 m1 m2 m3 e:Rat} {k1 k2 k3:Int}
theorem lw_hv (h:Hv z1 z2 z3 d) (k:Wr3 p1 p2 p3):Lf 20 (dF z1 z2 z3 d p1 p2 p3):=lf_way (cH h.s1) (cH h.s2) (cH h.s3) (h.d.lf.mono (by decide)) (k.1.lf.mono (by decide)) (k.2.1.lf.mono (by decide)) (k.2.2.lf.mono (by decide)) (by decide)
theorem apiProjectF (h:Hv z1 z2 z3 d) (k:Wr3 p1 p2 p3) (h0:dt (z1:Rat) z2 z3 z1 z2 z3≠0)
 (e1:p1+dF z1 z2 z3 d p1 p2 p3*z1=m1) (e2:p2+dF z1 z2 z3 d p1 p2 p3*z2=m2) (e3:p3+dF z1 z2 z3 d p1 p2 p3*z3=m3) (hr:Wr3 m1 m2 m3) :
 FitsW Tryz.prog Gl 7 [hS z1 z2 z3 d,vS p1 p2 p3] (okVS m1 m2 m3):=by
 have lw:=lw_hv h k
 have lm:∀ {z:Int},Sz z→Lf 36 (dF z1 z2 z3 d p1 p2 p3*z):=fun hz=>Lf.muln (n:=36) (lw.mono (by decide)) (cH hz) (by decide)
 have hp:Fits Tryz.prog 42 [vc p1 p2 p3,vc (dF z1 z2 z3 d p1 p2 p3*z1) (dF z1 z2 z3 d p1 p2 p3*z2) (dF z1 z2 z3 d p1 p2 p3*z3)] (vc m1 m2 m3):=by
  rw [← e1,← e2,← e3]
  exact vplusF (k.1.lf.mono (by decide)) (k.2.1.lf.mono (by decide)) (k.2.2.lf.mono (by decide)) (lm h.s1) (lm h.s2) (lm h.s3)
 refine cJ Tryz.func7 (by kernel_rfl) fun w00 hG=>?_;have hI:=aU hG
 refine aJ hI 31 [fnv 32,hS z1 z2 z3 d,fnv 33,vS p1 p2 p3] (readHV h k) (by kernel_rfl) Tryz.call31 ?_
 refine aB 43 [hf z1 z2 z3 d,vc p1 p2 p3] (toPlaneF (cH h.s1) (cH h.s2) (cH h.s3) (h.d.lf.mono (by decide)) (k.1.lf.mono (by decide)) (k.2.1.lf.mono (by decide)) (k.2.2.lf.mono (by decide)) h0) (by kernel_rfl) Tryz.call43 ?_
 refine aB 42 [vc p1 p2 p3,vc (dF z1 z2 z3 d p1 p2 p3*z1) (dF z1 z2 z3 d p1 p2 p3*z2) (dF z1 z2 z3 d p1 p2 p3*z3)] (hp) (by kernel_rfl) Tryz.call42 ?_
 refine aJ hI 41 [vc m1 m2 m3] (writeVec3 hr) (by kernel_rfl) Tryz.call41 ?_
 exact aO Tryz.func7 (by kernel_rfl)
theorem apiDistanceF (h:Hv z1 z2 z3 d) (k:Wr3 p1 p2 p3) (h0:dt (z1:Rat) z2 z3 z1 z2 z3≠0)
 (e1:dt (dF z1 z2 z3 d p1 p2 p3*z1) (dF z1 z2 z3 d p1 p2 p3*z2) (dF z1 z2 z3 d p1 p2 p3*z3) (dF z1 z2 z3 d p1 p2 p3*z1) (dF z1 z2 z3 d p1 p2 p3*z2) (dF z1 z2 z3 d p1 p2 p3*z3)=e) (hr:Wr e) :
 FitsW Tryz.prog Gl 8 [hS z1 z2 z3 d,vS p1 p2 p3] (okS e):=by
 have lw:=lw_hv h k
 have lm:∀ {z:Int},Sz z→Lf 31 (dF z1 z2 z3 d p1 p2 p3*z):=fun hz=>Lf.muln (n:=31) (lw.mono (by decide)) (cH hz) (by decide)
 have hs:Fits Tryz.prog 44 [vc (dF z1 z2 z3 d p1 p2 p3*z1) (dF z1 z2 z3 d p1 p2 p3*z2) (dF z1 z2 z3 d p1 p2 p3*z3)] (num e):=by
  rw [← e1]
  exact squareF (lm h.s1) (lm h.s2) (lm h.s3)
 refine cJ Tryz.func8 (by kernel_rfl) fun w00 hG=>?_;have hI:=aU hG
 refine aJ hI 31 [fnv 32,hS z1 z2 z3 d,fnv 33,vS p1 p2 p3] (readHV h k) (by kernel_rfl) Tryz.call31 ?_
 refine aB 43 [hf z1 z2 z3 d,vc p1 p2 p3] (toPlaneF (cH h.s1) (cH h.s2) (cH h.s3) (h.d.lf.mono (by decide)) (k.1.lf.mono (by decide)) (k.2.1.lf.mono (by decide)) (k.2.2.lf.mono (by decide)) h0) (by kernel_rfl) Tryz.call43 ?_
 refine aB 44 [vc (dF z1 z2 z3 d p1 p2 p3*z1) (dF z1 z2 z3 d p1 p2 p3*z2) (dF z1 z2 z3 d p1 p2 p3*z3)] (hs) (by kernel_rfl) Tryz.call44 ?_
 refine aJ hI 45 [num e] (writeF (hr.lf.mono (by decide)) hr.n hr.d) (by kernel_rfl) Tryz.call45 ?_
 exact aO Tryz.func8 (by kernel_rfl)
end
theorem isS_lit {β:List Nat} {cs:List Value} {w:World} {b:ByteArray}:(dG b).holds β cs w↔(Seg.lit (.string b):Seg Kn).holds β cs w:=⟨fun h=>⟨h,rfl⟩,fun h=>h.1⟩
inductive LitL:List (Seg Kn)→List (Seg Kn)→Prop where
 | nil:LitL [] []
 | txt {b:ByteArray} {l m}:LitL l m→LitL (dG b::l) (.lit (.string b)::m)
 | same {s:Seg Kn} {l m}:LitL l m→LitL (s::l) (s::m)
theorem LitL.to {β:List Nat} {w:World} {l m:List (Seg Kn)} (h:LitL l m):∀ {cs:List Value},holdsL β l cs w↔holdsL β m cs w:=by
 induction h with
 | nil=>intro cs;exact Iff.rfl
 | txt _ ih =>
   intro cs
   constructor
   ·rintro ⟨a,b,e,h1,h2⟩;exact ⟨a,b,e,isS_lit.1 h1,ih.1 h2⟩
   ·rintro ⟨a,b,e,h1,h2⟩;exact ⟨a,b,e,isS_lit.2 h1,ih.2 h2⟩
 | same _ ih =>
   intro cs
   constructor
   ·rintro ⟨a,b,e,h1,h2⟩;exact ⟨a,b,e,h1,ih.1 h2⟩
   ·rintro ⟨a,b,e,h1,h2⟩;exact ⟨a,b,e,h1,ih.2 h2⟩
theorem ag_lit {β:List Nat} {v:Value} {w:World} {l m:List (Seg Kn)} (h:LitL l m):(AV.fv (.ag l)).holds β v w↔(AV.fv (.ag m)).holds β v w:=by
 constructor
 ·rintro ⟨cs,e,k⟩;exact ⟨cs,e,h.to.1 k⟩
 ·rintro ⟨cs,e,k⟩;exact ⟨cs,e,h.to.2 k⟩
theorem sc_lit {β:List Nat} {v:Value} {w:World} {b:ByteArray}:(AV.fv (.sc (dG b)):AV Kn).holds β v w↔(AV.fv (.sc (.lit (.string b))):AV Kn).holds β v w:=isS_lit (β:=β) (cs := [v])
theorem FitsW.args {P:Program} {I:World→Prop} {f:FuncId} {l l' : List (AV Kn)} {x:AV Kn} (h:FitsW P I f l x) (hl:∀ β vs w,holdsA β l' vs w→holdsA β l vs w):FitsW P I f l' x:=fun β w vs hI hv=>h β w vs hI (hl β vs w hv)
theorem FitsW.res {P:Program} {I:World→Prop} {f:FuncId} {l:List (AV Kn)} {x y:AV Kn} (h:FitsW P I f l x) (hx:∀ β v w,x.holds β v w→y.holds β v w):FitsW P I f l y:=fun β w vs hI hv =>
 (h β w vs hI hv).mono fun e w' ⟨v,e1,e2,e3⟩=>⟨v,e1,e2,hx β v w' e3⟩
theorem dec_two {n:Nat} (h1:10≤n) (h2:n<100):Lib.decDigits n = [UInt8.ofNat (48+n/10),UInt8.ofNat (48+n%10)]:=by
 rw [eZ (by omega),dA (by omega)]
 rfl
theorem bM {n:Nat} (h:n<10):decB n=⟨#[UInt8.ofNat (48+n)]⟩:=by unfold decB;rw [dA h]
theorem decB_two {n:Nat} (h1:10≤n) (h2:n<100):decB n=⟨#[UInt8.ofNat (48+n/10),UInt8.ofNat (48+n%10)]⟩:=by unfold decB;rw [dec_two h1 h2]
theorem dE {z:Int} {b:ByteArray} (hz:¬ z<0) (h:decB z.natAbs=b):writeB (z:Rat)=b:=by
 rw [← dK,aR,if_neg hz,h]
theorem fW {z:Int} {b:ByteArray} (hz:z<0) (h:decB z.natAbs=b):writeB (z:Rat)=⟨#[45]⟩++b:=by
 rw [← dK,aR,if_pos hz,h]
theorem w0:writeB ((0:Int):Rat)=⟨#[48]⟩:=dE (by omega) (bM (n:=0) (by omega))
theorem w1:writeB ((1:Int):Rat)=⟨#[49]⟩:=dE (by omega) (bM (n:=1) (by omega))
end Go.Proofs.YtofcdondmgojiaaGreatDoor.Ab
namespace Go.Proofs.YtofcdondmgojiaaGreatDoor
open Go.RowKit Pl
def dig (c:Nat):Bool:=decide (48≤c)&&decide (c≤57)
theorem digitsB_all {s:ByteArray} (h:∀ (j:Nat) (hj:j<s.size),dig (s[j]'hj).toNat=true):dY s=true:=by
 unfold dY
 rw [List.all_eq_true]
 intro c hc
 obtain ⟨j,hj,e⟩:=List.mem_iff_getElem.1 hc
 have hj2:j<s.size:=by rw [← aE];exact hj
 have h1:=cU hj2
 rw [List.getElem?_eq_getElem hj,e] at h1
 injection h1 with h1
 rw [h1]
 exact h j hj2
theorem dig_bad {c:Nat} (h:dig c=false):c<48∨57<c:=by
 simp only [dig,Bool.and_eq_false_iff,decide_eq_false_iff_not] at h
 omega
set_option maxRecDepth 100000 in
theorem isDigits_all (s:ByteArray) (w:World):Calls Tryz.prog 122 #[.string s] w fun e w'=>e = .returned (.bool (dY s&&decide (s.size≠0)))∧Below w.heap.size w w':=by
 have hne:(!(s.toList==(⟨#[]⟩:ByteArray).toList))=decide (s.size≠0):=by
  rw [Go.ByteArray.toList_eq,Go.ByteArray.toList_eq]
  have hl:=aE s
  unfold aC at hl
  cases hb:s.data.toList with
  | nil=>rw [hb] at hl;simp at hl;simp [← hl]
  | cons c l =>
    rw [hb] at hl
    simp at hl
    have:s.size≠0:=by omega
    simp [this]
 go_enter Tryz.func122,Tryz.ntmps122
 go_wp2
 go_loopw [4] (fun _ wr => ∃ pos:Nat,wr=w.iter s pos∧pos≤s.size∧∀ (j:Nat) (hj:j<s.size),j<pos→dig (s[j]'hj).toNat=true) (fun _ wr=>s.size-wr.iterPos w.heap.size)
 case atStart=>exact ⟨0,rfl,Nat.zero_le _,fun j _ h=>absurd h (Nat.not_lt_zero _)⟩
 case round =>
  obtain ⟨pos,rfl,hpos,hok⟩:=hrel
  by_cases hp:pos<s.size
  ·obtain ⟨c,k,hdc,hk,hgood⟩:∃ c k,Utf8.decode s pos=(c,k)∧1≤k∧(dig c=true→(∀ hj:pos<s.size,dig (s[pos]'hj).toNat=true)∧k=1)∧(dig c=false→∀ hj:pos<s.size,dig (s[pos]'hj).toNat=false):=by
    by_cases ha:(s[pos]'hp).toNat<128
    ·exact ⟨_,_,decode_ascii s pos hp ha,Nat.le_refl _,fun h=>⟨fun _=>h,rfl⟩,fun h _=>h⟩
    ·obtain ⟨h1,h2⟩:=decode_high s pos hp (by omega)
     refine ⟨(Utf8.decode s pos).1,(Utf8.decode s pos).2,rfl,h2,fun h=>?_,fun _ _=>?_⟩
     ·simp [dig] at h
      omega
     ·simp [dig]
      omega
   have hnx:∀ ty,(Instr.next (.pointer (some ⟨w.heap.size,0,none⟩)) true ty).run Tryz.prog (w.iter s pos) = .ok (.tuple #[.bool true,.int .i64 pos,.int .i32 (c:Int)]) (w.iter s (pos+k)):=fun ty=>by
    have:=run_next_any (P:=Tryz.prog) w s pos ty hp
    rw [hdc] at this
    exact this
   have HH:=Lib.hid (And.intro hp (And.intro hpos (And.intro hok (And.intro hk hgood))))
   clear hdc hp hpos hok hk hgood hne
   by_cases g1:48≤c
   ·by_cases g2:c≤57
    ·have k1:(48:Int)≤c:=by omega
     have k2:(c:Int)≤57:=by omega
     have G:=Lib.hid (show dig c=true by simp [dig,g1,g2])
     clear g1 g2
     go_wp2
     go_roundw
     case rel =>
      obtain ⟨hp,hpos,hok,hk,hg,_⟩:=HH.out
      obtain ⟨g1,rfl⟩:=hg G.out
      refine ⟨pos+1,rfl,hp,fun j hj hjp=>?_⟩
      by_cases hjj:j=pos
      ·subst hjj;exact g1 hj
      ·exact hok j hj (by omega)
     case measure =>
      have:=HH.out.1
      have:=HH.out.2.2.2.1
      simp
      omega
    ·have k1:(48:Int)≤c:=by omega
     have k2:(57:Int)<c:=by omega
     have G:=Lib.hid (show dig c=false by simp [dig];omega)
     clear g1 g2
     go_wp2
     go_ret
     obtain ⟨hp,_,_,_,_,hg⟩:=HH.out
     exact ⟨by rw [digitsB_bad hp (dig_bad (hg G.out hp))];rfl,fI _ _ _⟩
   ·have k1:(c:Int)<48:=by omega
    have G:=Lib.hid (show dig c=false by simp [dig];omega)
    clear g1
    go_wp2
    go_ret
    obtain ⟨hp,_,_,_,_,hg⟩:=HH.out
    exact ⟨by rw [digitsB_bad hp (dig_bad (hg G.out hp))];rfl,fI _ _ _⟩
  ·have hnx:∀ ty,(Instr.next (.pointer (some ⟨w.heap.size,0,none⟩)) true ty).run Tryz.prog (w.iter s pos)=_:=fun ty=>run_next_end w s pos ty hp
   have H2:=Lib.hid (show dY s=true from digitsB_all fun j hj=>hok j hj (by omega))
   have H3:=Lib.hid hne
   clear hok hp hpos hne
   obtain ⟨b,hb⟩:∃ b,b=(!(s.toList==(⟨#[]⟩:ByteArray).toList)):=⟨_,rfl⟩
   go_wp2
   go_ret
   refine ⟨?_,fI _ _ _⟩
   have e:=H3.out
   rw [H2.out,Bool.true_and,← e]
   simp
end Go.Proofs.YtofcdondmgojiaaGreatDoor
namespace Go.Proofs.YtofcdondmgojiaaGreatDoor.Ab
open Go.RowKit Go.Proofs.YtofcdondmgojiaaGreatDoor Pl
theorem isDigitsAnyF {s:ByteArray} {b:Bool} (h:(dY s&&decide (s.size≠0))=b):Fits Tryz.prog 122 [tx s] (bl b):=by
 intro β w vs hv
 obtain ⟨v,rfl,h1⟩:=dN hv
 rw [aP h1]
 exact (isDigits_all s w).mono fun e w' ⟨e1,e2⟩=>⟨_,e1,e2,by rw [h];exact aX rfl⟩
theorem bH {s:ByteArray} {b:Bool} (h:decF s=b):Fits Tryz.prog 137 [tx s] (bl b):=by
 by_cases h0:(dY s&&decide (s.size≠0))=false
 ·have:b=false:=by
   rw [← h]
   unfold decF
   split
   ·rfl
   ·rename_i hz
    split
    ·rfl
    ·rw [decide_eq_true hz,Bool.and_true] at h0
     exact h0
  subst this
  refine fX Tryz.func137 (by kernel_rfl) fun w00=>?_
  refine aB 122 [tx s] (isDigitsAnyF h0) (by kernel_rfl) Tryz.call122 ?_
  exact aO Tryz.func137 (by kernel_rfl)
 rw [Bool.not_eq_false] at h0
 obtain ⟨h1,h2⟩:=Bool.and_eq_true_iff.1 h0
 have h2:s.size≠0:=of_decide_eq_true h2
 have hp:0<s.size:=by omega
 obtain ⟨c,hc⟩:∃ c,s[0]?=some c:=⟨_,getElem?_pos s 0 hp⟩
 have hh:(aC s).head?=some c:=by
  rw [List.head?_eq_getElem?,cU hp,← hc,getElem?_pos s 0 hp]
 unfold decF at h
 rw [if_neg h2,hh,h1] at h
 by_cases e:c=48
 ·have q1:(((c.toNat:Nat):Int) != 48)=false:=by rw [e];rfl
  have q2:(((s.size:Nat):Int)==1)=b:=by
   rw [← h,e]
   by_cases g:1<s.size
   ·rw [if_pos ⟨g,rfl⟩,beq_eq_false_iff_ne];omega
   ·rw [if_neg (fun k=>g k.1),beq_iff_eq];omega
  refine fX Tryz.func137 (by kernel_rfl) fun w00=>?_
  refine aB 122 [tx s] (isDigitsAnyF h0) (by kernel_rfl) Tryz.call122 ?_
  refine dS (.index 9 (.tmp 6) (.const (.int .i64 0))) (.tmp 6) (.const (.int .i64 0)) (tx s) (it 0) (.fv (.sc (isB c.toNat))) (by kernel_rfl) (by simp [Op.operands]) (by simp [Op.operands]) (fun ρ o β w ho hx hy=>⟨_,index_run (i:=0) ho Tryz.underlying9 (aP hx) (aN hy) hc,bE⟩) ?_
  refine dS (.binOp .neq 5 (.tmp 7) (.const (.int .u8 48)) 5) (.tmp 7) (.const (.int .u8 48)) (.fv (.sc (isB c.toNat))) (.fv (.sc (.lit (.int .u8 48)))) (bl false) (by kernel_rfl) (by simp [Op.operands]) (by simp [Op.operands]) (fun ρ o β w ho hx hy=>⟨_,byteNe_run ho (aP hx) (aN hy) q1,aX rfl⟩) ?_
  refine klen 10 s (by kernel_rfl) ?_
  refine dS (.binOp .eql 3 (.tmp 11) (.const (.int .i64 1)) 3) (.tmp 11) (.const (.int .i64 1)) (.fv (.sc (isI s.size))) (it 1) (bl b) (by kernel_rfl) (by simp [Op.operands]) (by simp [Op.operands]) (fun ρ o β w ho hx hy=>⟨_,intEq_run ho (aP hx) (aN hy) q2,aX rfl⟩) ?_
  exact aO Tryz.func137 (by kernel_rfl)
 ·have q1:(((c.toNat:Nat):Int) != 48)=true:=by
   rw [bne_iff_ne]
   intro k
   exact e (UInt8.toNat_inj.1 (by have:(48:UInt8).toNat=48:=rfl;omega))
  rw [if_neg (fun k=>e (by injection k.2))] at h
  subst h
  refine fX Tryz.func137 (by kernel_rfl) fun w00=>?_
  refine aB 122 [tx s] (isDigitsAnyF h0) (by kernel_rfl) Tryz.call122 ?_
  refine dS (.index 9 (.tmp 6) (.const (.int .i64 0))) (.tmp 6) (.const (.int .i64 0)) (tx s) (it 0) (.fv (.sc (isB c.toNat))) (by kernel_rfl) (by simp [Op.operands]) (by simp [Op.operands]) (fun ρ o β w ho hx hy=>⟨_,index_run (i:=0) ho Tryz.underlying9 (aP hx) (aN hy) hc,bE⟩) ?_
  refine dS (.binOp .neq 5 (.tmp 7) (.const (.int .u8 48)) 5) (.tmp 7) (.const (.int .u8 48)) (.fv (.sc (isB c.toNat))) (.fv (.sc (.lit (.int .u8 48)))) (bl true) (by kernel_rfl) (by simp [Op.operands]) (by simp [Op.operands]) (fun ρ o β w ho hx hy=>⟨_,byteNe_run ho (aP hx) (aN hy) q1,aX rfl⟩) ?_
  exact aO Tryz.func137 (by kernel_rfl)
end Go.Proofs.YtofcdondmgojiaaGreatDoor.Ab
namespace Go.Proofs.YtofcdondmgojiaaGreatDoor.Ab
open Go.RowKit Go.Proofs.YtofcdondmgojiaaGreatDoor Pl
theorem index47:∀ l:List UInt8,Lib.index l [47]=if l.findIdx (fun c=>c==47)<l.length then ((l.findIdx (fun c=>c==47):Nat):Int) else -1
 | []=>rfl
 | c :: l=>by
   by_cases hc:c=47
   ·subst hc
    unfold Lib.index
    simp [List.isPrefixOf,List.findIdx_cons]
   ·have h2:([47]:List UInt8).isPrefixOf (c::l)=false:=by
     simp [List.isPrefixOf]
     exact fun e=>hc e.symm
    have h3:(c==47)=false:=by rw [beq_eq_false_iff_ne];exact hc
    unfold Lib.index
    rw [h2,index47 l,List.findIdx_cons,h3]
    simp only [cond_false,List.length_cons]
    by_cases hl:l.findIdx (fun c=>c==47)<l.length
    ·have:(((l.findIdx (fun c=>c==47):Nat):Int) == -1)=false:=by rw [beq_eq_false_iff_ne];omega
     rw [if_pos hl,if_pos (show l.findIdx (fun c=>c==47)+1<l.length+1 by omega),this]
     simp
    ·rw [if_neg hl,if_neg (show ¬ l.findIdx (fun c=>c==47)+1<l.length+1 by omega)]
     rfl
theorem cut_slash {t:ByteArray} (h:aI t<t.size):Lib.cut t.data.toList [47]=((t.extract 0 (aI t)).data.toList,(t.extract (aI t+1) t.size).data.toList,true):=by
 have e:Lib.index t.data.toList [47]=((aI t:Nat):Int):=by
  have:=index47 (aC t)
  rw [if_pos (show (aC t).findIdx (fun c=>c==47)<(aC t).length by rw [aE];exact h)] at this
  exact this
 have e1:(t.extract 0 (aI t)).data.toList=t.data.toList.take (aI t):=by
  show aC (t.extract 0 (aI t))=_
  rw [aS,List.drop_zero]
  rfl
 have e2:(t.extract (aI t+1) t.size).data.toList=t.data.toList.drop (aI t+1):=by
  show aC (t.extract (aI t+1) t.size)=_
  rw [aS,List.take_of_length_le (by rw [aE];exact Nat.le_refl _)]
  rfl
 rw [e1,e2]
 unfold Lib.cut
 rw [e,if_pos (by omega)]
 simp
theorem cut_none {t:ByteArray} (h:¬ aI t<t.size):Lib.cut t.data.toList [47]=(t.data.toList,(⟨#[]⟩:ByteArray).data.toList,false):=by
 have e:Lib.index t.data.toList [47] = -1:=by
  have:=index47 (aC t)
  rw [if_neg (show ¬ (aC t).findIdx (fun c=>c==47)<(aC t).length by rw [aE];exact h)] at this
  exact this
 unfold Lib.cut
 rw [e]
 rfl
theorem cQ {s t:ByteArray} {b:Bool} (ht:bG s=t) (hb:negB s=b):Fits Tryz.prog 61 [tx s,lt ⟨#[45]⟩] (.tup [.sc (dG t),.sc (.lit (.bool b))]):=by
 intro β w vs hv
 obtain ⟨v,u,rfl,h1,h2⟩:=eN hv
 rw [aP h1,aN h2]
 have key:(⟨(Lib.trimPrefix s.data.toList [45]).toArray⟩:ByteArray)=t∧Lib.hasPrefix s.data.toList [45]=b:=by
  have hp:Lib.hasPrefix s.data.toList [45]=negB s:=by
   show ([45]:List UInt8).isPrefixOf (aC s)=((aC s).head?==some 45)
   cases aC s with
   | nil=>rfl
   | cons c l =>
     rw [Bool.eq_iff_iff]
     simp [List.isPrefixOf]
     exact ⟨fun e=>e.symm,fun e=>e.symm⟩
  refine ⟨?_,by rw [hp,hb]⟩
  unfold Lib.trimPrefix
  rw [hp,← ht]
  unfold bG
  split
  ·refine ba_ext ?_
   show _=aC (s.extract 1 s.size)
   rw [aS,List.take_of_length_le (by rw [aE];exact Nat.le_refl _)]
   rfl
  ·exact ba_ext (by simp)
 refine (Tryz.strings_CutPrefix s ⟨#[45]⟩ w).mono fun e w' ⟨e1,e2⟩=>⟨_,e1,by rw [e2];exact Below.refl _ _,?_⟩
 rw [show (⟨#[45]⟩:ByteArray).data.toList = [45] from rfl,key.1,key.2]
 exact ⟨[.string t,.bool b],rfl,_,_,rfl,bE (β:=β),_,_,rfl,⟨rfl,rfl⟩,rfl⟩
theorem strip_size (s:ByteArray):(bG s).size≤s.size:=by
 unfold bG
 split
 ·rw [ByteArray.size_extract];omega
 ·exact Nat.le_refl _
abbrev badN (z:Int):AV Kn := .tup [.ag [.lit (.int .i64 0),.lit (.int .i64 0),.lit (.pointer none)],.sc (.lit (.int .i64 z))]
theorem gcdAnyF {n m:Nat} (h1:(decB n).size≤600) (h2:(decB m).size≤600) (hm:m≠0):Fits Tryz.prog 128 [nt n,nt m] (nt (Nat.gcd n m)) :=
 gcdF ((lv_of_size (k:=5) (by omega)).mono (by decide)) ((lv_of_size (k:=5) (by omega)).mono (by decide)) (.inr (Nat.pos_of_ne_zero hm))
section
variable {s t a d:ByteArray} {z:Int}
theorem readBad_split {b:Bool} (hs:s.size<4294967281) (hz:bX s=z) (h0:z≠0) (ht:bG s=t) (hb:negB s=b) (hlt:aI t<t.size) (ha:t.extract 0 (aI t)=a) (hd:t.extract (aI t+1) t.size=d):FitsW Tryz.prog Gl 71 [tx s] (badN z):=by
 have hts:t.size<4294967281:=by have:=strip_size s;rw [ht] at this;omega
 have hcut:=cut_slash hlt
 have hsa:a.size=aI t:=by rw [← ha,ByteArray.size_extract];omega
 have hsd:d.size=t.size-a.size-1:=by rw [hsa,← hd,ByteArray.size_extract];omega
 rw [ha,hd] at hcut
 unfold bX at hz
 rw [ht,ha,hd,hb,← hsa,← hsd] at hz
 simp only [show a.size<t.size from by omega,true_and] at hz
 have c0:∀ x:ByteArray,decF x=true∨decF x=false:=fun x=>by cases decF x <;> simp
 cases b with
 | true =>
   rcases c0 a with c1|c1
   ·rw [c1] at hz
    by_cases a0:a=zeroT
    ·rw [if_pos (.inr ⟨rfl,a0⟩)] at hz
     subst hz
     refine cJ Tryz.func71 (by kernel_rfl) fun w00 hG=>?_;have hI:=aU hG
     refine aB 61 [tx s,lt ⟨#[45]⟩] (cQ ht hb) (by kernel_rfl) Tryz.call61 ?_
     refine aJ hI 136 [tx t,lt ⟨#[47]⟩] (cutF (a:=a) (b:=d) (r:=true) hts hcut) (by kernel_rfl) Tryz.call136 ?_
     refine aB 137 [tx a] (bH c1) (by kernel_rfl) Tryz.call137 ?_
     refine kseq 31 a ⟨#[48]⟩ true (by rw [a0];exact beq_self_eq_true _) (by kernel_rfl) ?_
     exact aO Tryz.func71 (by kernel_rfl)
    rw [if_neg (by rintro (h|h);exact absurd h (by decide);exact a0 h.2)] at hz
    refine cJ Tryz.func71 (by kernel_rfl) fun w00 hG=>?_;have hI:=aU hG
    refine aB 61 [tx s,lt ⟨#[45]⟩] (cQ ht hb) (by kernel_rfl) Tryz.call61 ?_
    refine aJ hI 136 [tx t,lt ⟨#[47]⟩] (cutF (a:=a) (b:=d) (r:=true) hts hcut) (by kernel_rfl) Tryz.call136 ?_
    refine aB 137 [tx a] (bH c1) (by kernel_rfl) Tryz.call137 ?_
    refine kseq 31 a ⟨#[48]⟩ false (eF a0) (by kernel_rfl) ?_
    rcases c0 d with d1|d1
    ·rw [d1] at hz
     by_cases d0:d=zeroT
     ·rw [if_pos (.inr (.inl d0))] at hz
      subst hz
      refine aB 137 [tx d] (bH d1) (by kernel_rfl) Tryz.call137 ?_
      refine kseq 43 d ⟨#[48]⟩ true (by rw [d0];exact beq_self_eq_true _) (by kernel_rfl) ?_
      exact aO Tryz.func71 (by kernel_rfl)
     by_cases d2:d=oneT
     ·rw [if_pos (.inr (.inr d2))] at hz
      subst hz
      refine aB 137 [tx d] (bH d1) (by kernel_rfl) Tryz.call137 ?_
      refine kseq 43 d ⟨#[48]⟩ false (eF d0) (by kernel_rfl) ?_
      refine kseq 47 d ⟨#[49]⟩ true (by rw [d2];exact beq_self_eq_true _) (by kernel_rfl) ?_
      exact aO Tryz.func71 (by kernel_rfl)
     rw [if_neg (by rintro (h|h|h);exact absurd h (by decide);exact d0 h;exact d2 h)] at hz
     refine aB 137 [tx d] (bH d1) (by kernel_rfl) Tryz.call137 ?_
     refine kseq 43 d ⟨#[48]⟩ false (eF d0) (by kernel_rfl) ?_
     refine kseq 47 d ⟨#[49]⟩ false (eF d2) (by kernel_rfl) ?_
     refine klen 53 a (by kernel_rfl) ?_
     by_cases l1:600<a.size
     ·rw [if_pos (.inl l1)] at hz
      subst hz
      refine kgt 54 a.size 600 true (by rw [decide_eq_true_iff];omega) (by kernel_rfl) ?_
      exact aO Tryz.func71 (by kernel_rfl)
     refine kgt 54 a.size 600 false (by rw [decide_eq_false_iff_not];omega) (by kernel_rfl) ?_
     refine klen 57 d (by kernel_rfl) ?_
     by_cases l2:600<d.size
     ·rw [if_pos (.inr l2)] at hz
      subst hz
      refine kgt 58 d.size 600 true (by rw [decide_eq_true_iff];omega) (by kernel_rfl) ?_
      exact aO Tryz.func71 (by kernel_rfl)
     refine kgt 58 d.size 600 false (by rw [decide_eq_false_iff_not];omega) (by kernel_rfl) ?_
     rw [if_neg (by omega)] at hz
     have hae:=decF_of c1
     have hde:=decF_of d1
     generalize aT (aC a)=n at hae hz
     generalize aT (aC d)=m at hde hz
     subst hae
     subst hde
     have hm0:m≠0:=fun e=>d0 (by rw [e,dec0];rfl)
     by_cases hg:Nat.gcd n m=1
     ·rw [if_neg (fun h=>h hg)] at hz
      exact absurd hz.symm h0
     rw [if_pos hg] at hz
     subst hz
     refine aB 64 [tx (decB n)] (bU (by omega)) (by kernel_rfl) Tryz.call64 ?_
     refine aB 64 [tx (decB m)] (bU (by omega)) (by kernel_rfl) Tryz.call64 ?_
     refine aB 128 [nt n,nt m] (gcdAnyF (by omega) (by omega) hm0) (by kernel_rfl) Tryz.call128 ?_
     refine aB 127 [nt (Nat.gcd n m)] (isOneF (b:=false) (by rw [decide_eq_false_iff_not];exact hg)) (by kernel_rfl) Tryz.call127 ?_
     exact aO Tryz.func71 (by kernel_rfl)
    ·rw [if_pos (.inl d1)] at hz
     subst hz
     refine aB 137 [tx d] (bH d1) (by kernel_rfl) Tryz.call137 ?_
     exact aO Tryz.func71 (by kernel_rfl)
   ·rw [if_pos (.inl c1)] at hz
    subst hz
    refine cJ Tryz.func71 (by kernel_rfl) fun w00 hG=>?_;have hI:=aU hG
    refine aB 61 [tx s,lt ⟨#[45]⟩] (cQ ht hb) (by kernel_rfl) Tryz.call61 ?_
    refine aJ hI 136 [tx t,lt ⟨#[47]⟩] (cutF (a:=a) (b:=d) (r:=true) hts hcut) (by kernel_rfl) Tryz.call136 ?_
    refine aB 137 [tx a] (bH c1) (by kernel_rfl) Tryz.call137 ?_
    exact aO Tryz.func71 (by kernel_rfl)
 | false =>
   rcases c0 a with c1|c1
   ·rw [c1] at hz
    rw [if_neg (by rintro (h|h);exact absurd h (by decide);exact absurd h.1 (by decide))] at hz
    refine cJ Tryz.func71 (by kernel_rfl) fun w00 hG=>?_;have hI:=aU hG
    refine aB 61 [tx s,lt ⟨#[45]⟩] (cQ ht hb) (by kernel_rfl) Tryz.call61 ?_
    refine aJ hI 136 [tx t,lt ⟨#[47]⟩] (cutF (a:=a) (b:=d) (r:=true) hts hcut) (by kernel_rfl) Tryz.call136 ?_
    refine aB 137 [tx a] (bH c1) (by kernel_rfl) Tryz.call137 ?_
    rcases c0 d with d1|d1
    ·rw [d1] at hz
     by_cases d0:d=zeroT
     ·rw [if_pos (.inr (.inl d0))] at hz
      subst hz
      refine aB 137 [tx d] (bH d1) (by kernel_rfl) Tryz.call137 ?_
      refine kseq 43 d ⟨#[48]⟩ true (by rw [d0];exact beq_self_eq_true _) (by kernel_rfl) ?_
      exact aO Tryz.func71 (by kernel_rfl)
     by_cases d2:d=oneT
     ·rw [if_pos (.inr (.inr d2))] at hz
      subst hz
      refine aB 137 [tx d] (bH d1) (by kernel_rfl) Tryz.call137 ?_
      refine kseq 43 d ⟨#[48]⟩ false (eF d0) (by kernel_rfl) ?_
      refine kseq 47 d ⟨#[49]⟩ true (by rw [d2];exact beq_self_eq_true _) (by kernel_rfl) ?_
      exact aO Tryz.func71 (by kernel_rfl)
     rw [if_neg (by rintro (h|h|h);exact absurd h (by decide);exact d0 h;exact d2 h)] at hz
     refine aB 137 [tx d] (bH d1) (by kernel_rfl) Tryz.call137 ?_
     refine kseq 43 d ⟨#[48]⟩ false (eF d0) (by kernel_rfl) ?_
     refine kseq 47 d ⟨#[49]⟩ false (eF d2) (by kernel_rfl) ?_
     refine klen 53 a (by kernel_rfl) ?_
     by_cases l1:600<a.size
     ·rw [if_pos (.inl l1)] at hz
      subst hz
      refine kgt 54 a.size 600 true (by rw [decide_eq_true_iff];omega) (by kernel_rfl) ?_
      exact aO Tryz.func71 (by kernel_rfl)
     refine kgt 54 a.size 600 false (by rw [decide_eq_false_iff_not];omega) (by kernel_rfl) ?_
     refine klen 57 d (by kernel_rfl) ?_
     by_cases l2:600<d.size
     ·rw [if_pos (.inr l2)] at hz
      subst hz
      refine kgt 58 d.size 600 true (by rw [decide_eq_true_iff];omega) (by kernel_rfl) ?_
      exact aO Tryz.func71 (by kernel_rfl)
     refine kgt 58 d.size 600 false (by rw [decide_eq_false_iff_not];omega) (by kernel_rfl) ?_
     rw [if_neg (by omega)] at hz
     have hae:=decF_of c1
     have hde:=decF_of d1
     generalize aT (aC a)=n at hae hz
     generalize aT (aC d)=m at hde hz
     subst hae
     subst hde
     have hm0:m≠0:=fun e=>d0 (by rw [e,dec0];rfl)
     by_cases hg:Nat.gcd n m=1
     ·rw [if_neg (fun h=>h hg)] at hz
      exact absurd hz.symm h0
     rw [if_pos hg] at hz
     subst hz
     refine aB 64 [tx (decB n)] (bU (by omega)) (by kernel_rfl) Tryz.call64 ?_
     refine aB 64 [tx (decB m)] (bU (by omega)) (by kernel_rfl) Tryz.call64 ?_
     refine aB 128 [nt n,nt m] (gcdAnyF (by omega) (by omega) hm0) (by kernel_rfl) Tryz.call128 ?_
     refine aB 127 [nt (Nat.gcd n m)] (isOneF (b:=false) (by rw [decide_eq_false_iff_not];exact hg)) (by kernel_rfl) Tryz.call127 ?_
     exact aO Tryz.func71 (by kernel_rfl)
    ·rw [if_pos (.inl d1)] at hz
     subst hz
     refine aB 137 [tx d] (bH d1) (by kernel_rfl) Tryz.call137 ?_
     exact aO Tryz.func71 (by kernel_rfl)
   ·rw [if_pos (.inl c1)] at hz
    subst hz
    refine cJ Tryz.func71 (by kernel_rfl) fun w00 hG=>?_;have hI:=aU hG
    refine aB 61 [tx s,lt ⟨#[45]⟩] (cQ ht hb) (by kernel_rfl) Tryz.call61 ?_
    refine aJ hI 136 [tx t,lt ⟨#[47]⟩] (cutF (a:=a) (b:=d) (r:=true) hts hcut) (by kernel_rfl) Tryz.call136 ?_
    refine aB 137 [tx a] (bH c1) (by kernel_rfl) Tryz.call137 ?_
    exact aO Tryz.func71 (by kernel_rfl)
theorem readBad_whole {b:Bool} (hs:s.size<4294967281) (hz:bX s=z) (h0:z≠0) (ht:bG s=t) (hb:negB s=b) (hlt:¬ aI t<t.size):FitsW Tryz.prog Gl 71 [tx s] (badN z):=by
 have hts:t.size<4294967281:=by have:=strip_size s;rw [ht] at this;omega
 have hcut:=cut_none hlt
 have hk:aI t=t.size:=by have:=cK t;omega
 have g3:decide ((600:Int)<(((⟨#[49]⟩:ByteArray).size:Nat):Int))=false:=by decide
 unfold bX at hz
 rw [ht,hb,hk,ext_all] at hz
 simp only [Nat.lt_irrefl,false_and,if_false] at hz
 have c0:∀ x:ByteArray,decF x=true∨decF x=false:=fun x=>by cases decF x <;> simp
 cases b with
 | true =>
   rcases c0 t with c1|c1
   ·rw [c1] at hz
    by_cases a0:t=zeroT
    ·rw [if_pos (.inr ⟨rfl,a0⟩)] at hz
     subst hz
     refine cJ Tryz.func71 (by kernel_rfl) fun w00 hG=>?_;have hI:=aU hG
     refine aB 61 [tx s,lt ⟨#[45]⟩] (cQ ht hb) (by kernel_rfl) Tryz.call61 ?_
     refine aJ hI 136 [tx t,lt ⟨#[47]⟩] (cutF (a:=t) (b:=⟨#[]⟩) (r:=false) hts hcut) (by kernel_rfl) Tryz.call136 ?_
     refine aB 137 [tx t] (bH c1) (by kernel_rfl) Tryz.call137 ?_
     refine kseq 31 t ⟨#[48]⟩ true (by rw [a0];exact beq_self_eq_true _) (by kernel_rfl) ?_
     exact aO Tryz.func71 (by kernel_rfl)
    rw [if_neg (by rintro (h|h);exact absurd h (by decide);exact a0 h.2)] at hz
    have hl:600<t.size:=by
     by_cases g:600<t.size
     ·exact g
     ·rw [if_neg (by omega)] at hz;exact absurd hz.symm h0
    rw [if_pos (.inl hl)] at hz
    subst hz
    refine cJ Tryz.func71 (by kernel_rfl) fun w00 hG=>?_;have hI:=aU hG
    refine aB 61 [tx s,lt ⟨#[45]⟩] (cQ ht hb) (by kernel_rfl) Tryz.call61 ?_
    refine aJ hI 136 [tx t,lt ⟨#[47]⟩] (cutF (a:=t) (b:=⟨#[]⟩) (r:=false) hts hcut) (by kernel_rfl) Tryz.call136 ?_
    refine aB 137 [tx t] (bH c1) (by kernel_rfl) Tryz.call137 ?_
    refine kseq 31 t ⟨#[48]⟩ false (eF a0) (by kernel_rfl) ?_
    refine klen 53 t (by kernel_rfl) ?_
    refine kgt 54 t.size 600 true (by rw [decide_eq_true_iff];omega) (by kernel_rfl) ?_
    exact aO Tryz.func71 (by kernel_rfl)
   ·rw [if_pos (.inl c1)] at hz
    subst hz
    refine cJ Tryz.func71 (by kernel_rfl) fun w00 hG=>?_;have hI:=aU hG
    refine aB 61 [tx s,lt ⟨#[45]⟩] (cQ ht hb) (by kernel_rfl) Tryz.call61 ?_
    refine aJ hI 136 [tx t,lt ⟨#[47]⟩] (cutF (a:=t) (b:=⟨#[]⟩) (r:=false) hts hcut) (by kernel_rfl) Tryz.call136 ?_
    refine aB 137 [tx t] (bH c1) (by kernel_rfl) Tryz.call137 ?_
    exact aO Tryz.func71 (by kernel_rfl)
 | false =>
   rcases c0 t with c1|c1
   ·rw [c1] at hz
    rw [if_neg (by rintro (h|h);exact absurd h (by decide);exact absurd h.1 (by decide))] at hz
    have hl:600<t.size:=by
     by_cases g:600<t.size
     ·exact g
     ·rw [if_neg (by omega)] at hz;exact absurd hz.symm h0
    rw [if_pos (.inl hl)] at hz
    subst hz
    refine cJ Tryz.func71 (by kernel_rfl) fun w00 hG=>?_;have hI:=aU hG
    refine aB 61 [tx s,lt ⟨#[45]⟩] (cQ ht hb) (by kernel_rfl) Tryz.call61 ?_
    refine aJ hI 136 [tx t,lt ⟨#[47]⟩] (cutF (a:=t) (b:=⟨#[]⟩) (r:=false) hts hcut) (by kernel_rfl) Tryz.call136 ?_
    refine aB 137 [tx t] (bH c1) (by kernel_rfl) Tryz.call137 ?_
    refine klen 53 t (by kernel_rfl) ?_
    refine kgt 54 t.size 600 true (by rw [decide_eq_true_iff];omega) (by kernel_rfl) ?_
    exact aO Tryz.func71 (by kernel_rfl)
   ·rw [if_pos (.inl c1)] at hz
    subst hz
    refine cJ Tryz.func71 (by kernel_rfl) fun w00 hG=>?_;have hI:=aU hG
    refine aB 61 [tx s,lt ⟨#[45]⟩] (cQ ht hb) (by kernel_rfl) Tryz.call61 ?_
    refine aJ hI 136 [tx t,lt ⟨#[47]⟩] (cutF (a:=t) (b:=⟨#[]⟩) (r:=false) hts hcut) (by kernel_rfl) Tryz.call136 ?_
    refine aB 137 [tx t] (bH c1) (by kernel_rfl) Tryz.call137 ?_
    exact aO Tryz.func71 (by kernel_rfl)
theorem readBadF (hs:s.size<4294967281) (hz:bX s=z) (h0:z≠0):FitsW Tryz.prog Gl 71 [tx s] (badN z):=by
 by_cases h:aI (bG s)<(bG s).size
 ·exact readBad_split hs hz h0 rfl rfl h rfl rfl
 ·exact readBad_whole hs hz h0 rfl rfl h
end
noncomputable def valB (s:ByteArray):Rat:=if h:bX s=0 then Classical.choose (check_zero h) else 0
theorem valB_ok {s:ByteArray} (h:bX s=0):s=writeB (valB s)∧Wr (valB s):=by
 unfold valB
 rw [dif_pos h]
 have:=Classical.choose_spec (check_zero h)
 exact ⟨this.1,this.2.1,this.2.2⟩
theorem valB_bad {s:ByteArray} (h:bX s≠0):valB s=0:=dif_neg h
abbrev okN (q:Rat) (z:Int):AV Kn := .tup [.ag [nb q],.sc (.lit (.int .i64 z))]
theorem readAnyF {s:ByteArray} {z:Int} (hs:s.size<4294967281) (hz:bX s=z):FitsW Tryz.prog Gl 71 [tx s] (okN (valB s) z):=by
 by_cases h:z=0
 ·subst h
  obtain ⟨e,hw⟩:=valB_ok hz
  have:=readF hw
  rw [← e] at this
  exact this
 ·rw [valB_bad (by rw [hz];exact h)]
  refine FitsW.res (readBadF hs hz h) fun β v w hv=>?_
  obtain ⟨vs,rfl,x,r,rfl,hx,hr⟩:=hv
  exact ⟨_,rfl,x,r,rfl,zero_num hx,hr⟩
theorem cT (s:ByteArray):bX s=0∨bX s=1∨bX s=4:=by
 unfold bX
 split
 ·exact .inr (.inl rfl)
 split
 ·exact .inr (.inl rfl)
 split
 ·exact .inr (.inr rfl)
 split
 ·exact .inr (.inl rfl)
 ·exact .inl rfl
theorem slash_write (q:Rat):aI (writeB q)=(aR q.num).size:=by
 by_cases h:q.den=1
 ·rw [write_one h,slash_one]
 ·rw [fM h,slash_two]
theorem num_cut (q:Rat):(writeB q).extract 0 (aI (writeB q))=aR q.num:=by
 rw [slash_write]
 by_cases h:q.den=1
 ·rw [write_one h,ext_all]
 ·rw [fM h,ext_lo]
theorem den_cut {q:Rat} (h:q.den≠1):(writeB q).extract (aI (writeB q)+1) (writeB q).size=decB q.den:=by
 rw [slash_write,fM h]
 exact ext_hi _ _
theorem write_len (q:Rat):(writeB q).size=(aR q.num).size+if q.den=1 then 0 else 1+(decB q.den).size:=by
 by_cases h:q.den=1
 ·rw [write_one h,if_pos h];rfl
 ·rw [fM h,if_neg h,ByteArray.size_append,ByteArray.size_append,size47]
theorem numF {q:Rat} (hs:(writeB q).size≤1000000000):Fits Tryz.prog 111 [rS (writeB q)] (rS (aR q.num)):=by
 have hc:=num_cut q
 generalize writeB q=s at *
 refine rgo Tryz.func111 (by kernel_rfl) fun w00=>?_
 refine aM 105 [rS s] (fL (by omega)) (by kernel_rfl) Tryz.call105 ?_
 refine rshi 3 5 23 Tryz.underlying23 s (aI s) (aR q.num) (cK _) hc ?_
 exact dZ Tryz.func111 (by kernel_rfl)
theorem denF1 {q:Rat} (hs:(writeB q).size≤1000000000) (h:q.den=1):Fits Tryz.prog 112 [rS (writeB q)] (rS (decB q.den)):=by
 have hl:=write_len q
 have hk:=slash_write q
 rw [if_pos h] at hl
 have e:decB q.den=⟨#[49]⟩:=by rw [h,dec1]
 rw [e]
 generalize writeB q=s at *
 have key:Fits Tryz.prog 112 [rS s] (.fv (.sc (.lit (.string ⟨#[49]⟩)))):=by
  refine rgo Tryz.func112 (by kernel_rfl) fun w00=>?_
  refine aM 105 [rS s] (fL (by omega)) (by kernel_rfl) Tryz.call105 ?_
  refine eA 7 23 Tryz.underlying23 s ?_
  refine bF (.binOp .eql 3 (.tmp 6) (.tmp 8) 3) (.tmp 6) (.tmp 8) (rI (aI s:Nat)) (rI (s.size:Nat)) (rl true) (by kernel_rfl) (by simp [Op.operands]) (by simp [Op.operands]) (fun ρ o β w ho hx hy=>⟨.bool true,ieq_run ho (bA hx) (bA hy) (by simp;omega),fK rfl⟩) ?_
  exact dZ Tryz.func112 (by kernel_rfl)
 exact rres key fun β v w h=>h.1
theorem denF2 {q:Rat} (hs:(writeB q).size≤1000000000) (h:q.den≠1):Fits Tryz.prog 112 [rS (writeB q)] (rS (decB q.den)):=by
 have hl:=write_len q
 have hk:=slash_write q
 rw [if_neg h] at hl
 have hc:=den_cut h
 generalize decB q.den=d at *
 generalize writeB q=s at *
 refine rgo Tryz.func112 (by kernel_rfl) fun w00=>?_
 refine aM 105 [rS s] (fL (by omega)) (by kernel_rfl) Tryz.call105 ?_
 refine eA 7 23 Tryz.underlying23 s ?_
 refine bF (.binOp .eql 3 (.tmp 6) (.tmp 8) 3) (.tmp 6) (.tmp 8) (rI (aI s:Nat)) (rI (s.size:Nat)) (rl false) (by kernel_rfl) (by simp [Op.operands]) (by simp [Op.operands]) (fun ρ o β w ho hx hy=>⟨.bool false,ieq_run ho (bA hx) (bA hy) (by simp;omega),fK rfl⟩) ?_
 refine radd 11 (aI s) (by omega) ?_
 refine rslo 10 12 23 Tryz.underlying23 s (aI s+1) d (by omega) hc ?_
 exact dZ Tryz.func112 (by kernel_rfl)
theorem denOfF {q:Rat} (hs:(writeB q).size≤1000000000):Fits Tryz.prog 112 [rS (writeB q)] (rS (decB q.den)):=by
 by_cases h:q.den=1
 ·exact denF1 hs h
 ·exact denF2 hs h
theorem dec0_ne {n:Nat} (h:n≠0):decB n≠zeroT:=fun e=>h (decB_inj (e.trans dec0.symm))
theorem body_ne_zero {q:Rat} (h:q.num≠0):aZ q≠zeroT:=by
 by_cases hd:q.den=1
 ·rw [body_one hd,cL]
  exact dec0_ne (by omega)
 ·intro e
  have hl:=body_len q
  rw [if_neg hd,e] at hl
  have:zeroT.size=1:=rfl
  have:=decB_pos q.num.natAbs
  omega
theorem write_ne_zero {q:Rat} (h:q.num≠0):writeB q≠zeroT:=by
 by_cases hn:q.num<0
 ·obtain ⟨f1,⟨h0,hc⟩,f3,f4,f5⟩:=neg_facts hn
  intro e
  have h1:=(strip_write q).1
  rw [e,decide_eq_true hn] at h1
  exact absurd h1 (by decide)
 ·rw [eI hn]
  exact body_ne_zero h
theorem signF0 {q:Rat} (h:q.num=0):Fits Tryz.prog 163 [rS (writeB q)] (.fv (.sc (.lit (.int .i64 0)))):=by
 have e:((writeB q).toList==(⟨#[48]⟩:ByteArray).toList)=true:=by
  have hd:q.den=1:=by have:=q.reduced;rw [h] at this;simpa using this
  rw [write_one hd,h]
  have:aR 0=zeroT:=by unfold aR;rw [if_neg (by omega)];exact dec0
  rw [this]
  exact beq_self_eq_true zeroT.toList
 generalize writeB q=s at *
 refine rgo Tryz.func163 (by kernel_rfl) fun w00=>?_
 refine rseq 3 23 s ⟨#[48]⟩ true e ?_
 exact dZ Tryz.func163 (by kernel_rfl)
theorem signFn {q:Rat} (h:q.num<0):Fits Tryz.prog 163 [rS (writeB q)] (.fv (.sc (.lit (.int .i64 (-1))))):=by
 have e:=eF (write_ne_zero (q:=q) (by omega))
 obtain ⟨f1,hc,f3,f4,f5⟩:=neg_facts h
 have h0:decide ((0:Int)<((writeB q).size:Nat))=true:=by rw [decide_eq_true_iff];omega
 generalize writeB q=s at *
 refine rgo Tryz.func163 (by kernel_rfl) fun w00=>?_
 refine rseq 3 23 s ⟨#[48]⟩ false e ?_
 refine eA 5 23 Tryz.underlying23 s ?_
 refine rgt 6 0 (s.size:Nat) true h0 ?_
 refine ridnR 9 s hc ?_
 exact dZ Tryz.func163 (by kernel_rfl)
theorem signFp {q:Rat} (h:0<q.num):Fits Tryz.prog 163 [rS (writeB q)] (.fv (.sc (.lit (.int .i64 1)))):=by
 have e:=eF (write_ne_zero (q:=q) (by omega))
 obtain ⟨c,hc,hc45⟩:=body_head q
 rw [← eI (by omega)] at hc
 have h0:decide ((0:Int)<((writeB q).size:Nat))=true:=by rw [decide_eq_true_iff];have:=hc.1;omega
 generalize writeB q=s at *
 refine rgo Tryz.func163 (by kernel_rfl) fun w00=>?_
 refine rseq 3 23 s ⟨#[48]⟩ false e ?_
 refine eA 5 23 Tryz.underlying23 s ?_
 refine rgt 6 0 (s.size:Nat) true h0 ?_
 refine ridpR 9 s c hc ?_
 refine rueq 10 c hc45 ?_
 exact dZ Tryz.func163 (by kernel_rfl)
theorem absFn {q:Rat} (h:q.num<0) (hs:(writeB q).size≤1000000000):Fits Tryz.prog 110 [rS (writeB q)] (rS (aZ q)):=by
 have hg:=signFn h
 obtain ⟨f1,hc,f3,f4,f5⟩:=neg_facts h
 generalize aZ q=u at *
 generalize writeB q=s at *
 refine rgo Tryz.func110 (by kernel_rfl) fun w00=>?_
 refine aM 163 [rS s] hg (by kernel_rfl) Tryz.call163 ?_
 refine rsl1 6 23 Tryz.underlying23 s u f1 f3 ?_
 exact dZ Tryz.func110 (by kernel_rfl)
theorem absFp {q:Rat} (h:¬ q.num<0):Fits Tryz.prog 110 [rS (writeB q)] (rS (aZ q)):=by
 rw [← eI h]
 by_cases h0:q.num=0
 ·have hg:=signF0 h0
  generalize writeB q=s at *
  refine rgo Tryz.func110 (by kernel_rfl) fun w00=>?_
  refine aM 163 [rS s] hg (by kernel_rfl) Tryz.call163 ?_
  exact dZ Tryz.func110 (by kernel_rfl)
 ·have hg:=signFp (q:=q) (by omega)
  generalize writeB q=s at *
  refine rgo Tryz.func110 (by kernel_rfl) fun w00=>?_
  refine aM 163 [rS s] hg (by kernel_rfl) Tryz.call163 ?_
  exact dZ Tryz.func110 (by kernel_rfl)
theorem absOfF {q:Rat} (hs:(writeB q).size≤1000000000):Fits Tryz.prog 110 [rS (writeB q)] (rS (aZ q)):=by
 by_cases h:q.num<0
 ·exact absFn h hs
 ·exact absFp h
theorem absTF {z:Int} (hs:(aR z).size≤1000000000):Fits Tryz.prog 110 [rS (aR z)] (rS (decB z.natAbs)):=by
 have h:=absOfF (q:=(z:Rat)) (by rw [← dK];exact hs)
 have e:aZ (z:Rat)=decB z.natAbs:=by rw [body_one rfl,cL];rfl
 rw [← dK,e] at h
 exact h
def Fw (k:Nat) (q:Rat):Prop:=(decB q.num.natAbs).size≤k∧(decB q.den).size≤k
theorem text_len (z:Int):(aR z).size≤(decB z.natAbs).size+1:=by
 unfold aR
 split
 ·rw [ByteArray.size_append,size45];omega
 ·omega
theorem kn_I {f:FuncId} {s:ByteArray} {z:Int} (h:Fits Tryz.prog f [rS s] (rI z)):Fits Tryz.prog f [tx s] (.fv (.sc (isI z))):=by
 intro β w vs hv
 obtain ⟨v,rfl,h1⟩:=dN hv
 rw [aP h1]
 exact (h β w [.string s] ⟨_,_,rfl,cW,rfl⟩).mono fun e w' ⟨v,e1,e2,e3⟩=>⟨v,e1,e2,by rw [bA e3];exact bE⟩
theorem kn_S {f:FuncId} {s t u:ByteArray} (h:Fits Tryz.prog f [rS s,rS t] (rS u)):Fits Tryz.prog f [tx s,tx t] (tx u):=by
 intro β w vs hv
 obtain ⟨v,v2,rfl,h1,h2⟩:=eN hv
 rw [aP h1,aP h2]
 exact (h β w [.string s,.string t] ⟨_,_,rfl,cW,_,_,rfl,cW,rfl⟩).mono fun e w' ⟨v,e1,e2,e3⟩=>⟨v,e1,e2,by rw [bA e3];exact bE⟩
abbrev t3 (a b c:ByteArray):AV Kn := .fv (.ag [dG a,dG b,dG c])
def f2 (x y:Int):Int:=if x=0 then y else x
def f3 (x y z:Int):Int:=f2 x (f2 y z)
abbrev Ev (z:Int):Prop:=z=0∨z=1∨z=4
theorem f2_ev {x y:Int} (hx:Ev x) (hy:Ev y):Ev (f2 x y):=by unfold f2;split <;> assumption
theorem f2_zero {x y:Int} (h:f2 x y=0):x=0∧y=0:=by
 unfold f2 at h
 split at h
 ·rename_i e;exact ⟨e,h⟩
 ·rename_i e;exact absurd h e
theorem f2_l {x y:Int} (h:x≠0):f2 x y=x:=if_neg h
theorem f2_r {x y:Int} (h:x=0):f2 x y=y:=if_pos h
abbrev lz (z:Int):Seg Kn := .lit (.int .i64 z)
theorem first3Any {T:TypeId} {x y u z:Int} (hx:Ev x) (hy:Ev y) (hu:Ev u) (hz:f3 x y u=z):Fits Tryz.prog 34 [.fv (.nsl 3 T [lz x,lz y,lz u])] (it z):=by
 rcases hx with rfl|rfl|rfl
 ·rcases hy with rfl|rfl|rfl
  ·have hz:u=z:=hz
   subst hz
   rcases hu with rfl|rfl|rfl <;> (refine kgoS Tryz.func34 (by kernel_rfl) fun w00=>?_;exact aO Tryz.func34 (by kernel_rfl))
  ·have hz:1=z:=hz
   subst hz
   refine kgoS Tryz.func34 (by kernel_rfl) fun w00=>?_
   exact aO Tryz.func34 (by kernel_rfl)
  ·have hz:4=z:=hz
   subst hz
   refine kgoS Tryz.func34 (by kernel_rfl) fun w00=>?_
   exact aO Tryz.func34 (by kernel_rfl)
 ·have hz:1=z:=hz
  subst hz
  refine kgoS Tryz.func34 (by kernel_rfl) fun w00=>?_
  exact aO Tryz.func34 (by kernel_rfl)
 ·have hz:4=z:=hz
  subst hz
  refine kgoS Tryz.func34 (by kernel_rfl) fun w00=>?_
  exact aO Tryz.func34 (by kernel_rfl)
abbrev Rb (s:ByteArray):Prop:=s.size<4294967281
abbrev Rb3 (a b c:ByteArray):Prop:=Rb a∧Rb b∧Rb c
abbrev c3 (a b c:ByteArray):Int:=f3 (bX a) (bX b) (bX c)
theorem c3_ev (a b c:ByteArray):Ev (c3 a b c):=f2_ev (cT _) (f2_ev (cT _) (cT _))
section
variable {a b c x y u:ByteArray} {z:Int}
theorem readVecAnyF (h:Rb3 a b c) (hz:c3 a b c=z):FitsW Tryz.prog Gl 33 [t3 a b c] (.tup [.ag [nb (valB a),nb (valB b),nb (valB c)],.sc (lz z)]):=by
 refine cJ Tryz.func33 (by kernel_rfl) fun w00 hG=>?_;have hI:=aU hG
 refine aJ hI 71 [tx a] (readAnyF h.1 rfl) (by kernel_rfl) Tryz.call71 ?_
 refine aJ hI 71 [tx b] (readAnyF h.2.1 rfl) (by kernel_rfl) Tryz.call71 ?_
 refine aJ hI 71 [tx c] (readAnyF h.2.2 rfl) (by kernel_rfl) Tryz.call71 ?_
 refine kcallS 34 3 3 139 [lz (bX a),lz (bX b),lz (bX c)] (first3Any (cT _) (cT _) (cT _) hz) (by kernel_rfl) Tryz.call34 ?_
 exact aO Tryz.func33 (by kernel_rfl)
abbrev noS (z:Int):AV Kn := .tup [.sc (.lit (.string ⟨#[]⟩)),.sc (lz z)]
end
theorem body_negate (q:Rat):aZ (-q)=aZ q:=by
 unfold aZ
 rw [Rat.neg_den,Rat.neg_num,Int.natAbs_neg]
theorem zs_len {k:Nat} {q:Rat} (h:Zs k q):(writeB q).size≤2*k+4:=by
 have h1:=decB_size_le h.1
 have h2:=decB_size_le h.2
 have:=write_len q
 have:=text_len q.num
 split at * <;> omega
theorem negR {q:Rat} (hs:(writeB q).size≤1000000000):Fits Tryz.prog 164 [rS (writeB q)] (rS (writeB (-q))):=by
 by_cases h:q.num<0
 ·rw [eI (q := -q) (by rw [Rat.neg_num];omega),body_negate]
  have hg:=signFn h
  obtain ⟨f1,hc,f3,f4,f5⟩:=neg_facts h
  generalize aZ q=u at *
  generalize writeB q=s at *
  refine rgo Tryz.func164 (by kernel_rfl) fun w00=>?_
  refine aM 163 [rS s] hg (by kernel_rfl) Tryz.call163 ?_
  refine rsl1 6 23 Tryz.underlying23 s u f1 f3 ?_
  exact dZ Tryz.func164 (by kernel_rfl)
 ·by_cases h0:q.num=0
  ·have e:-q=q:=by
    have:q=0:=Rat.num_eq_zero.1 h0
    rw [this]
    rfl
   rw [e]
   have hg:=signF0 h0
   generalize writeB q=s at *
   refine rgo Tryz.func164 (by kernel_rfl) fun w00=>?_
   refine aM 163 [rS s] hg (by kernel_rfl) Tryz.call163 ?_
   refine aM 163 [rS s] hg (by kernel_rfl) Tryz.call163 ?_
   exact dZ Tryz.func164 (by kernel_rfl)
  ·rw [write_neg (q := -q) (by rw [Rat.neg_num];omega),body_negate,← eI h]
   have hg:=signFp (q:=q) (by omega)
   have hcat:(⟨#[45]⟩:ByteArray).size+(writeB q).size≤9223372036854775807:=by rw [size45];omega
   generalize writeB q=s at *
   refine rgo Tryz.func164 (by kernel_rfl) fun w00=>?_
   refine aM 163 [rS s] hg (by kernel_rfl) Tryz.call163 ?_
   refine aM 163 [rS s] hg (by kernel_rfl) Tryz.call163 ?_
   refine bF (.binOp .add 23 (.const (.string ⟨#[45]⟩)) (.tmp 12) 23) (.const (.string ⟨#[45]⟩)) (.tmp 12) (.fv (.sc (.lit (.string ⟨#[45]⟩)))) (rS s) (rS (⟨#[45]⟩++s)) (by kernel_rfl) (by simp [Op.operands]) (by simp [Op.operands]) (fun ρ o β w ho hx hy=>⟨_,fE ho (cC hx) (bA hy) hcat,cW⟩) ?_
   exact dZ Tryz.func164 (by kernel_rfl)
theorem zs_neg {k:Nat} {q:Rat} (h:Zs k q):Zs k (-q):=by
 unfold Zs
 rw [Rat.neg_den,Rat.neg_num,Int.natAbs_neg]
 exact h
theorem subR {p q:Rat} (hp:Zs 10000 p) (hq:Zs 10000 q):Fits Tryz.prog 113 [rS (writeB p),rS (writeB q)] (rS (writeB (p-q))):=by
 have h1:=negR (q:=q) (by have:=zs_len hq;omega)
 have h2:=refAddF hp (zs_neg hq)
 rw [← Rat.sub_eq_add_neg] at h2
 generalize writeB (p-q)=x at *
 generalize writeB (-q)=y at *
 generalize writeB p=a at *
 generalize writeB q=b at *
 refine rgo Tryz.func113 (by kernel_rfl) fun w00=>?_
 refine aM 164 [rS b] h1 (by kernel_rfl) Tryz.call164 ?_
 refine aM 119 [rS a,rS y] h2 (by kernel_rfl) Tryz.call119 ?_
 exact dZ Tryz.func113 (by kernel_rfl)
section
variable {a b c d e f:ByteArray} {x y z u v:ByteArray}
theorem subVecR (h1:Fits Tryz.prog 113 [tx a,tx d] (tx x)) (h2:Fits Tryz.prog 113 [tx b,tx e] (tx y)) (h3:Fits Tryz.prog 113 [tx c,tx f] (tx z)):Fits Tryz.prog 53 [t3 a b c,t3 d e f] (t3 x y z):=by
 refine fX Tryz.func53 (by kernel_rfl) fun w00=>?_
 refine aB 113 [tx a,tx d] (h1) (by kernel_rfl) Tryz.call113 ?_
 refine aB 113 [tx b,tx e] (h2) (by kernel_rfl) Tryz.call113 ?_
 refine aB 113 [tx c,tx f] (h3) (by kernel_rfl) Tryz.call113 ?_
 exact aO Tryz.func53 (by kernel_rfl)
theorem dotR (h1:Fits Tryz.prog 58 [tx a,tx d] (tx x)) (h2:Fits Tryz.prog 58 [tx b,tx e] (tx y)) (h3:Fits Tryz.prog 119 [tx x,tx y] (tx u)) (h4:Fits Tryz.prog 58 [tx c,tx f] (tx z)) (h5:Fits Tryz.prog 119 [tx u,tx z] (tx v)):Fits Tryz.prog 59 [t3 a b c,t3 d e f] (tx v):=by
 refine fX Tryz.func59 (by kernel_rfl) fun w00=>?_
 refine aB 58 [tx a,tx d] (h1) (by kernel_rfl) Tryz.call58 ?_
 refine aB 58 [tx b,tx e] (h2) (by kernel_rfl) Tryz.call58 ?_
 refine aB 119 [tx x,tx y] (h3) (by kernel_rfl) Tryz.call119 ?_
 refine aB 58 [tx c,tx f] (h4) (by kernel_rfl) Tryz.call58 ?_
 refine aB 119 [tx u,tx z] (h5) (by kernel_rfl) Tryz.call119 ?_
 exact aO Tryz.func59 (by kernel_rfl)
theorem squareR (h:Fits Tryz.prog 59 [t3 a b c,t3 a b c] (tx v)):Fits Tryz.prog 57 [t3 a b c] (tx v):=by
 refine fX Tryz.func57 (by kernel_rfl) fun w00=>?_
 refine aB 59 [t3 a b c,t3 a b c] (h) (by kernel_rfl) Tryz.call59 ?_
 exact aO Tryz.func57 (by kernel_rfl)
end
end Go.Proofs.YtofcdondmgojiaaGreatDoor.Ab
namespace Go.Proofs.YtofcdondmgojiaaGreatDoor
open Go.RowKit Pl
theorem gcd_tmod (x y:Int):Int.gcd y (x.tmod y)=Int.gcd x y:=by
 unfold Int.gcd
 rw [Int.natAbs_tmod,Nat.gcd_comm x.natAbs,Nat.gcd_rec y.natAbs x.natAbs,Nat.gcd_comm]
set_option maxHeartbeats 1000000 in
theorem intGcd_any (a b:Int) (w:World) (ha:-999999999≤a∧a≤999999999) (hb:-999999999≤b∧b≤999999999):Calls Tryz.prog 47 #[.int .i64 a,.int .i64 b] w fun e w'=>e = .returned (.int .i64 (Int.gcd a b:Nat))∧Below w.heap.size w w':=by
 have HA:=Lib.hid (And.intro ha hb)
 clear ha hb
 go_enter Tryz.func47,Tryz.ntmps47
 go_wp2
 go_loopw [0,1] (fun av bv wr => ∃ x y:Int,av = .int .i64 x∧bv = .int .i64 y∧Hid (Int.gcd x y=Int.gcd a b∧(-999999999≤x∧x≤999999999)∧(-999999999≤y∧y≤999999999))∧Below w.heap.size w wr) (fun _ bv _=>(intOf bv).natAbs)
 case atStart=>exact ⟨a,b,rfl,rfl,⟨rfl,HA.out⟩,Below.refl _ _⟩
 case round =>
  obtain ⟨x,y,rfl,rfl,hi,hbw⟩:=hrel
  by_cases h0:y=0
  ·subst h0
   have HR:=Lib.hid (show x.natAbs=Int.gcd a b by rw [← hi.out.1,Int.gcd_zero_right])
   obtain ⟨_,hx,_⟩:=hi.out
   clear hi
   go_wp2
   all_goals go_ret
   all_goals refine ⟨?_,hbw⟩
   all_goals rw [← HR.out]
   all_goals show Ending.returned (.int .i64 (max x (-x)))=_
   all_goals have e:max x (-x)=(x.natAbs:Int):=by rw [Int.max_def];split <;> omega
   all_goals rw [e]
  ·by_cases h1:y = -1
   ·subst h1
    obtain ⟨hg,hx,_⟩:=hi.out
    have HG:=Lib.hid (show Int.gcd (-1) 0=Int.gcd a b by rw [← hg,← gcd_tmod x (-1)];congr 1;rw [Int.tmod_neg,Int.tmod_one])
    clear hi hg
    go_wp2
    go_quiet (fail)
    have hb2:=cA hbw nq
    clear hbw
    generalize wr.drewN nq=w2 at *
    go_wp2
    go_roundw
    case rel=>exact ⟨-1,0,rfl,by first|rfl|simp,⟨HG.out,by omega,by omega⟩,hb2⟩
    case measure=>simp [intOf]
   ·obtain ⟨r,hr⟩:∃ r,r=x.tmod y:=⟨_,rfl⟩
    have hlt:r.natAbs<y.natAbs:=by rw [hr,Int.natAbs_tmod];exact Nat.mod_lt _ (by omega)
    have HR:=Lib.hid (show (Int.gcd y r=Int.gcd a b∧(-999999999≤y∧y≤999999999)∧(-999999999≤r∧r≤999999999))∧r.natAbs<y.natAbs∧x.tmod y=r by
     obtain ⟨hg,hx,hy⟩:=hi.out
     exact ⟨⟨by rw [hr,gcd_tmod];exact hg,hy,by omega,by omega⟩,hlt,hr.symm⟩)
    have hz0:(y==0)=false:=by simp;omega
    have hz1:¬ y=0:=h0
    have hz3:(y == -1)=false:=by simp;omega
    clear hi hr hlt
    go_wp2
    go_quiet (fail)
    have hb2:=cA hbw nq
    clear hbw
    generalize wr.drewN nq=w2 at *
    go_wp2
    go_roundw
    case rel =>
     obtain ⟨h1,h2,h3⟩:=HR.out
     exact ⟨y,r,rfl,by first|(rw [h3];done)|rfl,h1,hb2⟩
    case measure =>
     obtain ⟨h1,h2,h3⟩:=HR.out
     simp only [intOf]
     rw [h3]
     exact h2
end Go.Proofs.YtofcdondmgojiaaGreatDoor
namespace Go.Proofs.YtofcdondmgojiaaGreatDoor.Ab
open Go.RowKit Go.Proofs.YtofcdondmgojiaaGreatDoor Pl
theorem intGcdF {a b:Int} (ha:-999999999≤a∧a≤999999999) (hb:-999999999≤b∧b≤999999999):Fits Tryz.prog 47 [.fv (.sc (isI a)),.fv (.sc (isI b))] (.fv (.sc (isI (Int.gcd a b:Nat)))):=by
 intro β w vs hv
 obtain ⟨v,_,rfl,hv1,u,_,rfl,hv2,rfl⟩:=hv
 obtain rfl:=aP hv1
 obtain rfl:=aP hv2
 exact (intGcd_any a b w ha hb).mono fun e w' ⟨e1,e2⟩=>⟨_,e1,e2,bE⟩
theorem size_gcd {a b:Int} (ha:-999999999≤a∧a≤999999999) (hb:-999999999≤b∧b≤999999999):-999999999≤(Int.gcd a b:Int)∧(Int.gcd a b:Int)≤999999999:=by
 refine ⟨by omega,?_⟩
 by_cases h:a=0
 ·subst h
  rw [Int.gcd_zero_left]
  omega
 ·have:=Int.gcd_le_natAbs_left (a:=a) b h
  omega
end Go.Proofs.YtofcdondmgojiaaGreatDoor.Ab
namespace Go.Proofs.YtofcdondmgojiaaGreatDoor.Ab
open Go.RowKit Go.Proofs.YtofcdondmgojiaaGreatDoor
theorem equal3 {P:Program} {T e:TypeId} {x0 x1 x2 y0 y1 y2:Value} {r0 r1 r2:Bool} (d:Nat) (hT:P.underlying T=some (.array 3 e)) (he:P.cellsOf e=1) (ha:∀ w,(isAgg e).run P w = .ok false w) (hs:∀ w,(sizeOf e).run P w = .ok 1 w)
 (h0:∀ w,(Op.equalIn d e x0 y0).run P w = .ok r0 w) (h1:∀ w,(Op.equalIn d e x1 y1).run P w = .ok r1 w) (h2:∀ w,(Op.equalIn d e x2 y2).run P w = .ok r2 w) (w:World) :
 (Op.equalIn (d+1) T (.agg #[x0,x1,x2]) (.agg #[y0,y1,y2])).run P w = .ok (r0&&r1&&r2) w:=by
 rw [Op.equalIn]
 simp only [Sem.run_bind,run_underlying hT,Result.andThen_ok,hs]
 simp only [Std.Legacy.Range.forIn_eq_forIn_range',Std.Legacy.Range.size,Nat.sub_zero,Nat.add_sub_cancel,Nat.div_one,List.range'_succ,List.range'_zero,List.forIn_cons,List.forIn_nil]
 simp [go_sem,ha,hs,h0,h1,h2]
 cases r0 <;> cases r1 <;> cases r2 <;> simp
end Go.Proofs.YtofcdondmgojiaaGreatDoor.Ab
namespace Go.Proofs.YtofcdondmgojiaaGreatDoor.Ab
open Go.RowKit Go.Proofs.YtofcdondmgojiaaGreatDoor Pl
theorem jne_run {o:Oper} {ρ:Operand→Value} {w:World} {x y:Operand} {a b:Int} {r:Bool} {T T' : TypeId} (ho:o.op = .binOp .neq T x y T') (hx:ρ x = .int .i64 a) (hy:ρ y = .int .i64 b) (h:(!(a==b))=r) :
 (execOp ρ o).run Tryz.prog w = .ok (.value (.bool r)) w:=by
 simp only [execOp,ho,hx,hy]
 refine bK ?_
 rw [← h]
 exact bQ (by kernel_rfl) w
theorem iss_run {o:Oper} {ρ:Operand→Value} {w:World} {x y:Operand} {a b:Int} {r:Bool} (ho:o.op = .binOp .lss 3 x y 3) (hx:ρ x = .int .i64 a) (hy:ρ y = .int .i64 b) (h:decide (a<b)=r) :
 (execOp ρ o).run Tryz.prog w = .ok (.value (.bool r)) w:=by
 simp only [execOp,ho,hx,hy]
 refine bK ?_
 rw [← h]
 exact bQ (by kernel_rfl) w
theorem guard_eq {T:TypeId} {xs ys:Array Value} {x y:Operand} (h:Tryz.prog.eqGuardType Tryz.prog.depth T=false) (w:World):(eqGuard .eql T x y (.agg xs) (.agg ys)).run Tryz.prog w = .ok () w:=by
 simp [eqGuard,Sem.run_bind,run_program,h]
theorem agg_eq {o:Oper} {ρ:Operand→Value} {w:World} {x y:Operand} {xs ys:Array Value} {T T' : TypeId} {r:Bool} (hg:Tryz.prog.eqGuardType Tryz.prog.depth T=false) (h:(Op.equal T (.agg xs) (.agg ys)).run Tryz.prog w = .ok r w) (ho:o.op = .binOp .eql T x y T') (hx:ρ x = .agg xs) (hy:ρ y = .agg ys) :
 (execOp ρ o).run Tryz.prog w = .ok (.value (.bool r)) w:=by
 simp only [execOp,ho,hx,hy]
 refine bK ?_
 simp only [Sem.run_bind,guard_eq hg,Result.andThen_ok]
 show (do pure (Value.bool (← Op.equal T (.agg xs) (.agg ys))):Sem Value).run Tryz.prog w=_
 rw [Sem.run_bind,h]
 rfl
theorem equalZ (a b c x y z:Int) (w:World):(Op.equal 22 (.agg #[.int .i64 a,.int .i64 b,.int .i64 c]) (.agg #[.int .i64 x,.int .i64 y,.int .i64 z])).run Tryz.prog w = .ok (a==x&&b==y&&c==z) w :=
 equal3 9999 (e:=3) (by kernel_rfl) (by kernel_rfl) (fun w=>by kernel_rfl) (fun w=>by kernel_rfl) (fun w=>run_equalIn_int w _ _ _ .i64 _ _ (by kernel_rfl)) (fun w=>run_equalIn_int w _ _ _ .i64 _ _ (by kernel_rfl)) (fun w=>run_equalIn_int w _ _ _ .i64 _ _ (by kernel_rfl)) w
theorem equalT (a b c x y z:ByteArray) (w:World):(Op.equal 27 (.agg #[.string a,.string b,.string c]) (.agg #[.string x,.string y,.string z])).run Tryz.prog w = .ok (a.toList==x.toList&&b.toList==y.toList&&c.toList==z.toList) w :=
 equal3 9999 (e:=23) (by kernel_rfl) (by kernel_rfl) (fun w=>by kernel_rfl) (fun w=>by kernel_rfl) (fun w=>run_equalIn_string w _ _ _ _ (by kernel_rfl)) (fun w=>run_equalIn_string w _ _ _ _ (by kernel_rfl)) (fun w=>run_equalIn_string w _ _ _ _ (by kernel_rfl)) w
abbrev i3 (a b c:Int):AV Kn := .fv (.ag [isI a,isI b,isI c])
theorem i3_is {a b c:Int} {β:List Nat} {v:Value} {w:World} (h:(i3 a b c).holds β v w):v = .agg #[.int .i64 a,.int .i64 b,.int .i64 c]:=by
 obtain ⟨cs,rfl,x1,r1,rfl,h1,x2,r2,rfl,h2,x3,r3,rfl,h3,e⟩:=h
 rw [show r3 = [] from e,show x1=_ from h1,show x2=_ from h2,show x3=_ from h3]
 rfl
theorem s3_is {a b c:ByteArray} {β:List Nat} {v:Value} {w:World} (h:(.fv (.ag [dG a,dG b,dG c]):AV Kn).holds β v w):v = .agg #[.string a,.string b,.string c]:=by
 obtain ⟨cs,rfl,x1,r1,rfl,h1,x2,r2,rfl,h2,x3,r3,rfl,h3,e⟩:=h
 rw [show r3 = [] from e,show x1=_ from h1,show x2=_ from h2,show x3=_ from h3]
 rfl
theorem l3_is {a b c:Value} {β:List Nat} {v:Value} {w:World} (h:(.fv (.ag [.lit a,.lit b,.lit c]):AV Kn).holds β v w):v = .agg #[a,b,c]:=by
 obtain ⟨cs,rfl,x1,r1,rfl,h1,x2,r2,rfl,h2,x3,r3,rfl,h3,e⟩:=h
 rw [show r3 = [] from e,h1.1,h2.1,h3.1]
 rfl
section
variable {f:FuncId} {w00:World} {Out:Value→World→Prop} {c:Cfg Kn}
theorem klt (x y:Operand) (a b:Int) (r:Bool) (Y:AV Kn) (hY:∀ β v w,Y.holds β v w→v = .int .i64 b) (h:decide (a<b)=r) (hg:Ok Tryz.prog f w00 Out (dQ Tryz.prog 1000 (c.give (bl r))))
 (hc:(c.op.map fun o=>o.op,c.okT (bl r),c.ev x,c.ev y)=(some (.binOp .lss 3 x y 3),true,.fv (.sc (isI a)),Y):=by kernel_rfl):Ok Tryz.prog f w00 Out c :=
 dS (.binOp .lss 3 x y 3) x y _ _ (bl r) hc (by simp [Op.operands]) (by simp [Op.operands]) (fun ρ o β w ho hx hy=>⟨_,iss_run ho (aP hx) (hY _ _ _ hy) h,aX rfl⟩) hg
theorem kgg (x y:Operand) (a b:Int) (r:Bool) (Y:AV Kn) (hY:∀ β v w,Y.holds β v w→v = .int .i64 b) (h:decide (b<a)=r) (hg:Ok Tryz.prog f w00 Out (dQ Tryz.prog 1000 (c.give (bl r))))
 (hc:(c.op.map fun o=>o.op,c.okT (bl r),c.ev x,c.ev y)=(some (.binOp .gtr 3 x y 3),true,.fv (.sc (isI a)),Y):=by kernel_rfl):Ok Tryz.prog f w00 Out c :=
 dS (.binOp .gtr 3 x y 3) x y _ _ (bl r) hc (by simp [Op.operands]) (by simp [Op.operands]) (fun ρ o β w ho hx hy=>⟨_,gt_run ho (aP hx) (hY _ _ _ hy) h,aX rfl⟩) hg
theorem kne (x y:Operand) (a b:Int) (r:Bool) (Y:AV Kn) (hY:∀ β v w,Y.holds β v w→v = .int .i64 b) (h:(!(a==b))=r) (hg:Ok Tryz.prog f w00 Out (dQ Tryz.prog 1000 (c.give (bl r))))
 (hc:(c.op.map fun o=>o.op,c.okT (bl r),c.ev x,c.ev y)=(some (.binOp .neq 3 x y 3),true,.fv (.sc (isI a)),Y):=by kernel_rfl):Ok Tryz.prog f w00 Out c :=
 dS (.binOp .neq 3 x y 3) x y _ _ (bl r) hc (by simp [Op.operands]) (by simp [Op.operands]) (fun ρ o β w ho hx hy=>⟨_,jne_run ho (aP hx) (hY _ _ _ hy) h,aX rfl⟩) hg
theorem bJ {b:Int} (β:List Nat) (v:Value) (w:World) (h:(it b).holds β v w):v = .int .i64 b:=aN h
theorem kz3 (x y:Operand) (a b d:Int) (r:Bool) (h:(a==0&&b==0&&d==0)=r) (hg:Ok Tryz.prog f w00 Out (dQ Tryz.prog 1000 (c.give (bl r))))
 (hc:(c.op.map fun o=>o.op,c.okT (bl r),c.ev x,c.ev y)=(some (.binOp .eql 22 x y 22),true,i3 a b d,iv 0 0 0):=by kernel_rfl):Ok Tryz.prog f w00 Out c :=
 dS (.binOp .eql 22 x y 22) x y _ _ (bl r) hc (by simp [Op.operands]) (by simp [Op.operands]) (fun ρ o β w ho hx hy=>⟨_,agg_eq (by kernel_rfl) (h▸equalZ a b d 0 0 0 w) ho (i3_is hx) (l3_is hy),aX rfl⟩) hg
theorem kneg (t:Tmp) (a:Int) (ha:M64 a) (ha2:M64 (-a)) (hg:Ok Tryz.prog f w00 Out (dQ Tryz.prog 1000 (c.give (.fv (.sc (isI (-a)))))))
 (hc:(c.op.map fun o=>o.op,c.okT (.fv (.sc (isI (-a)))),c.ev (.tmp t),c.ev (.tmp t))=(some (.unOp .neg 3 (.tmp t)),true,.fv (.sc (isI a)),.fv (.sc (isI a))):=by kernel_rfl):Ok Tryz.prog f w00 Out c :=
 dS (.unOp .neg 3 (.tmp t)) (.tmp t) (.tmp t) _ _ (.fv (.sc (isI (-a)))) hc (by simp [Op.operands]) (by simp [Op.operands]) (fun ρ o β w ho hx hy=>⟨_,by
  simp only [execOp,ho,aP hx]
  refine bK ?_
  have e:IntKind.i64.wrap (-a) = -a:=by rw [IntWalk.i64_left,IntWalk.wrap64_in _ ⟨by have:=ha2.1;omega,by have:=ha2.2;omega⟩]
  simp [go_sem,e],bE⟩) hg
theorem kabs (t u:Tmp) (a:Int) (hg:Ok Tryz.prog f w00 Out (dQ Tryz.prog 1000 (c.give (.fv (.sc (isI (a.natAbs:Int)))))))
 (hc:(c.op.map fun o=>o.op,c.okT (.fv (.sc (isI (a.natAbs:Int)))),c.ev (.tmp t),c.ev (.tmp u))=(some (.call ⟨.builtin .max,#[.tmp t,.tmp u],#[3,3]⟩),true,.fv (.sc (isI a)),.fv (.sc (isI (-a)))):=by kernel_rfl):Ok Tryz.prog f w00 Out c :=
 dS (.call ⟨.builtin .max,#[.tmp t,.tmp u],#[3,3]⟩) (.tmp t) (.tmp u) _ _ (.fv (.sc (isI (a.natAbs:Int)))) hc (by simp [Op.operands,Call.operands]) (by simp [Op.operands,Call.operands]) (fun ρ o β w ho hx hy=>⟨_,by
  have e:max a (-a)=(a.natAbs:Int):=by rw [Int.max_def];split <;> omega
  rw [← e]
  simp only [execOp,ho]
  refine bK ?_
  simp [go_sem,aP hx,aP hy],bE⟩) hg
theorem kcvu (t:Tmp) (a:Nat) (ha:a<9223372036854775808) (hg:Ok Tryz.prog f w00 Out (dQ Tryz.prog 1000 (c.give (.fv (.sc (.lit (.int .u64 (a:Int))))))))
 (hc:(c.op.map fun o=>o.op,c.okT (.fv (.sc (.lit (.int .u64 (a:Int))))),c.ev (.tmp t),c.ev (.tmp t))=(some (.convert 3 151 (.tmp t)),true,.fv (.sc (isI (a:Int))),.fv (.sc (isI (a:Int)))):=by kernel_rfl):Ok Tryz.prog f w00 Out c :=
 dS (.convert 3 151 (.tmp t)) (.tmp t) (.tmp t) _ _ (.fv (.sc (.lit (.int .u64 (a:Int))))) hc (by simp [Op.operands]) (by simp [Op.operands]) (fun ρ o β w ho hx hy=>⟨_,by
  simp only [execOp,ho,aP hx]
  refine bK ?_
  have e:IntKind.u64.wrap (a:Int)=a:=by simp [IntKind.wrap,IntKind.bits,IntKind.signed];omega
  simp [go_sem,e],aX rfl⟩) hg
end
theorem cutPrefixNo {s:ByteArray} (h:Lib.hasPrefix s.data.toList [45]=false):Fits Tryz.prog 61 [tx s,lt ⟨#[45]⟩] (.tup [.sc (dG s),.sc (.lit (.bool false))]):=by
 intro β w vs hv
 obtain ⟨v,u,rfl,h1,h2⟩:=eN hv
 rw [aP h1,aN h2]
 have es:(⟨(Lib.trimPrefix s.data.toList [45]).toArray⟩:ByteArray)=s:=ba_ext (by unfold Lib.trimPrefix;rw [h];simp)
 refine (Tryz.strings_CutPrefix s ⟨#[45]⟩ w).mono fun e w' ⟨e1,e2⟩=>⟨_,e1,by rw [e2];exact Below.refl _ _,?_⟩
 rw [show (⟨#[45]⟩:ByteArray).data.toList = [45] from rfl,es,h]
 exact ⟨[.string s,.bool false],rfl,_,_,rfl,bE (β:=β),_,_,rfl,⟨rfl,rfl⟩,rfl⟩
theorem ascii_two:∀ (j:Nat) (b:UInt8),(⟨#[47,46]⟩:ByteArray).data.toList[j]?=some b→b.toNat<128:=by
 intro j b h
 have:=List.mem_of_getElem? h
 simp at this
 rcases this with rfl|rfl <;> decide
theorem indexAnyF {s:ByteArray} {k:Int} (hs:s.size<4294967281) (ha:∀ (j:Nat) (b:UInt8),s.data.toList[j]?=some b→b.toNat<128) (h:Lib.indexAny s.data.toList [47,46]=k):Fits Tryz.prog 121 [tx s,lt ⟨#[47,46]⟩] (.fv (.sc (isI k))):=by
 intro β w vs hv
 obtain ⟨v,u,rfl,h1,h2⟩:=eN hv
 rw [aP h1,aN h2]
 refine (Tryz.strings_IndexAny_laid s ⟨#[47,46]⟩ w hs (by decide) ha ascii_two).mono fun e w' ⟨e1,e2⟩=>⟨_,e1,e2,?_⟩
 rw [show (⟨#[47,46]⟩:ByteArray).data.toList = [47,46] from rfl,h]
 exact bE
theorem repeatF {c:Nat} {z:ByteArray} (h2:2≤c) (hc:c≤100000) (hz:(⟨(Lib.repeatL [48] c).toArray⟩:ByteArray)=z):Fits Tryz.prog 123 [lt ⟨#[48]⟩,.fv (.sc (isI c))] (tx z):=by
 intro β w vs hv
 obtain ⟨v,u,rfl,h1,h3⟩:=eN hv
 rw [aN h1,aP h3]
 have hsz:(⟨#[48]⟩:ByteArray).size=1:=rfl
 refine (Tryz.strings_Repeat_main ⟨#[48]⟩ c w h2 (by omega) (by rw [hsz];omega) (by rw [hsz];omega)).mono fun e w' ⟨e1,e2⟩=>⟨_,e1,e2,?_⟩
 rw [show (⟨#[48]⟩:ByteArray).data.toList = [48] from rfl,hz]
 exact bE
section
variable {s a b z:ByteArray} {k:Nat}
theorem partsDot (hi:Fits Tryz.prog 121 [tx s,lt ⟨#[47,46]⟩] (.fv (.sc (isI k)))) (hk:k<s.size) (hs:s.size≤10000) (ha:s.extract 0 k=a) (hb:s.extract (k+1) s.size=b) (da:AllDig (aC a)) (da0:0<a.size) (db:AllDig (aC b)) (db0:0<b.size)
 (hdot:s[k]?=some 46) (hr:Fits Tryz.prog 123 [lt ⟨#[48]⟩,.fv (.sc (isI b.size))] (tx z)) (hz:z.size≤10000):Fits Tryz.prog 62 [tx s] (.tup [.sc (dG (a++b)),.sc (dG (⟨#[49]⟩++z)),.sc z0]):=by
 have hasz:a.size≤s.size:=by rw [← ha,ByteArray.size_extract];omega
 have hbsz:b.size≤s.size:=by rw [← hb,ByteArray.size_extract];omega
 refine fX Tryz.func62 (by kernel_rfl) fun w00=>?_
 refine aB 121 [tx s,lt ⟨#[47,46]⟩] (hi) (by kernel_rfl) Tryz.call121 ?_
 refine dS (.binOp .lss 3 (.tmp 10) (.const (.int .i64 0)) 3) (.tmp 10) (.const (.int .i64 0)) (.fv (.sc (isI k))) (it 0) (bl false) (by kernel_rfl) (by simp [Op.operands]) (by simp [Op.operands]) (fun ρ o β w ho hx hy=>⟨_,lss_run ho (aP hx) (aN hy) (by rw [decide_eq_false_iff_not];omega),aX rfl⟩) ?_
 refine dS (.slice 9 (.tmp 16) none (some (.tmp 17)) none) (.tmp 16) (.tmp 17) (tx s) (.fv (.sc (isI k))) (tx a) (by kernel_rfl) (by simp [Op.operands]) (by simp [Op.operands]) (fun ρ o β w ho hx hy=>?_) ?_
 ·have:=slice_hi (w:=w) ho Tryz.underlying9 (aP hx) (aP hy) (by omega)
  rw [ha] at this
  exact ⟨_,this,bE⟩
 refine dS (.binOp .add 3 (.tmp 20) (.const (.int .i64 1)) 3) (.tmp 20) (.const (.int .i64 1)) (.fv (.sc (isI k))) (it 1) (.fv (.sc (isI ((k+1:Nat):Int)))) (by kernel_rfl) (by simp [Op.operands]) (by simp [Op.operands]) (fun ρ o β w ho hx hy=>⟨_,add1_run ho (aP hx) (aN hy) (by omega),bE⟩) ?_
 refine dS (.slice 9 (.tmp 19) (some (.tmp 21)) none none) (.tmp 19) (.tmp 21) (tx s) (.fv (.sc (isI ((k+1:Nat):Int)))) (tx b) (by kernel_rfl) (by simp [Op.operands]) (by simp [Op.operands]) (fun ρ o β w ho hx hy=>?_) ?_
 ·have:=slice_lo (w:=w) ho Tryz.underlying9 (aP hx) (aP hy) (by omega)
  rw [hb] at this
  exact ⟨_,this,bE⟩
 refine aB 122 [tx a] (isDigitsF da da0) (by kernel_rfl) Tryz.call122 ?_
 refine aB 122 [tx b] (isDigitsF db db0) (by kernel_rfl) Tryz.call122 ?_
 refine dS (.index 9 (.tmp 33) (.tmp 34)) (.tmp 33) (.tmp 34) (tx s) (.fv (.sc (isI k))) (.fv (.sc (.lit (.int .u8 46)))) (by kernel_rfl) (by simp [Op.operands]) (by simp [Op.operands]) (fun ρ o β w ho hx hy=>⟨_,index_run ho Tryz.underlying9 (aP hx) (aP hy) hdot,aX rfl⟩) ?_
 refine dS (.binOp .add 9 (.tmp 37) (.tmp 38) 9) (.tmp 37) (.tmp 38) (tx a) (tx b) (tx (a++b)) (by kernel_rfl) (by simp [Op.operands]) (by simp [Op.operands]) (fun ρ o β w ho hx hy=>⟨_,fE ho (aP hx) (aP hy) (by omega),bE⟩) ?_
 refine klen 40 b (by kernel_rfl) ?_
 refine aB 123 [lt ⟨#[48]⟩,.fv (.sc (isI b.size))] (hr) (by kernel_rfl) Tryz.call123 ?_
 refine dS (.binOp .add 9 (.const (.string ⟨#[49]⟩)) (.tmp 42) 9) (.const (.string ⟨#[49]⟩)) (.tmp 42) (lt ⟨#[49]⟩) (tx z) (tx (⟨#[49]⟩++z)) (by kernel_rfl) (by simp [Op.operands]) (by simp [Op.operands]) (fun ρ o β w ho hx hy=>⟨_,fE ho (aN hx) (aP hy) (by have:(⟨#[49]⟩:ByteArray).size=1:=rfl;omega),bE⟩) ?_
 exact aO Tryz.func62 (by kernel_rfl)
theorem parseF' {n d:Nat} (hs:s.size≤4096) (hp:Lib.hasPrefix s.data.toList [45]=false) (hpt:Fits Tryz.prog 62 [tx s] (.tup [.sc (dG (decB n)),.sc (dG (decB d)),.sc z0])) (hn:(decB n).size≤100000) (hd:(decB d).size≤100000) (ln:Lv 40 n) (ld:Lv 40 d) (d0:0<d)
 (lq:Lf 20 (mkRat (sg false n) d)) (w1:(decB (mkRat (sg false n) d).num.natAbs).size≤600) (w2:(decB (mkRat (sg false n) d).den).size≤600):FitsW Tryz.prog Gl 19 [tx s] (.tup [.sc (dG (writeB (mkRat (sg false n) d))),.sc z0]):=by
 refine cJ Tryz.func19 (by kernel_rfl) fun w00 hG=>?_;have hI:=aU hG
 refine klen 9 s (by kernel_rfl) ?_
 refine kgt 10 s.size 4096 false (by rw [decide_eq_false_iff_not];omega) (by kernel_rfl) ?_
 refine aB 61 [tx s,lt ⟨#[45]⟩] (cutPrefixNo hp) (by kernel_rfl) Tryz.call61 ?_
 refine aB 62 [tx s] (hpt) (by kernel_rfl) Tryz.call62 ?_
 refine aB 64 [tx (decB n)] (bU hn) (by kernel_rfl) Tryz.call64 ?_
 refine aB 64 [tx (decB d)] (bU hd) (by kernel_rfl) Tryz.call64 ?_
 refine aB 63 [bl false,nt n,nt d] (ratioF ln ld d0) (by kernel_rfl) Tryz.call63 ?_
 refine aB 65 [fra (mkRat (sg false n) d)] (numberF) (by kernel_rfl) Tryz.call65 ?_
 refine aJ hI 45 [num (mkRat (sg false n) d)] (writeF lq w1 w2) (by kernel_rfl) Tryz.call45 ?_
 exact aO Tryz.func19 (by kernel_rfl)
end
end Go.Proofs.YtofcdondmgojiaaGreatDoor.Ab
namespace Go.Proofs.YtofcdondmgojiaaGreatDoor.Fr
open Go.RowKit Go.Shelf
attribute [local go_sem] Oper.semAt_some
def axV (x1 x2 x3 y1 y2 y3 z1 z2 z3:ByteArray):Fin 3→Value
 | 0 => .agg #[.string x1,.string x2,.string x3]
 | 1 => .agg #[.string y1,.string y2,.string y3]
 | 2 => .agg #[.string z1,.string z2,.string z3]
def axE (x1 x2 x3 y1 y2 y3 z1 z2 z3:ByteArray) (i:Fin 3):Array Value := #[.int .i64 ((i.val:Nat):Int),axV x1 x2 x3 y1 y2 y3 z1 z2 z3 i]
theorem ix0 (w:World) (x1 x2 x3 y1 y2 y3 z1 z2 z3:ByteArray):(Sem.run Tryz.prog (Instr.index 239 (.agg #[.string x1,.string x2,.string x3,.string y1,.string y2,.string y3,.string z1,.string z2,.string z3]) (.int .i64 0)) w) = .ok (.agg #[.string x1,.string x2,.string x3]) w:=by
 kernel_rfl
theorem ix1 (w:World) (x1 x2 x3 y1 y2 y3 z1 z2 z3:ByteArray):(Sem.run Tryz.prog (Instr.index 239 (.agg #[.string x1,.string x2,.string x3,.string y1,.string y2,.string y3,.string z1,.string z2,.string z3]) (.int .i64 1)) w) = .ok (.agg #[.string y1,.string y2,.string y3]) w:=by
 kernel_rfl
theorem ix2 (w:World) (x1 x2 x3 y1 y2 y3 z1 z2 z3:ByteArray):(Sem.run Tryz.prog (Instr.index 239 (.agg #[.string x1,.string x2,.string x3,.string y1,.string y2,.string y3,.string z1,.string z2,.string z3]) (.int .i64 2)) w) = .ok (.agg #[.string z1,.string z2,.string z3]) w:=by
 kernel_rfl
set_option maxRecDepth 100000 in
set_option maxHeartbeats 2000000 in
theorem axes1_in (F:Fence) (n:Nat) (h8:F.fn 201) (hro:F.round=none) (hn:1≤n) (l Bf n₀:Nat) (o1 o2 o3 x1 x2 x3 y1 y2 y3 z1 z2 z3:ByteArray) (J Jx:List (Fin 3)→World→Prop)
 (hY:∀ pre x W,J pre W→pre.length<3→YieldAt F (n-1) Tryz.prog l (axE x1 x2 x3 y1 y2 y3 z1 z2 z3 x) W fun e W' =>
  (e = .returned (.bool true)∧J (pre ++ [x]) W'∧Below n₀ W W')∨(e = .returned (.bool false)∧Jx (pre ++ [x]) W'))
 (W:World) (hJ:AbidesFrom W.heap.size J) (hn0:n₀≤W.heap.size) (hB:W.heap[Bf]?=some (.cells #[.string o1,.string o2,.string o3,.string x1,.string x2,.string x3,.string y1,.string y2,.string y3,.string z1,.string z2,.string z3] 54 (0,0))) (h0:J [] W) :
 CallsIn F n Tryz.prog 201 #[.func (.yield l) #[] #[],.pointer (some ⟨Bf,0,none⟩)] W fun e W'=>(∃ v,e = .returned v) ∧
  ((∃ ys,ys = [0,1,2]∧J ys W')∨(∃ pre,True∧Jx pre W')):=by
 refine callsIn_of_wp Tryz.func201 rfl h8 ?_ hro
 simp only [Tryz.ntmps201,List.size_toArray,List.length_cons,List.length_nil,Nat.reduceAdd,Nat.reduceSub,Array.replicate_succ,Array.replicate_zero,List.push_toArray,List.append_toArray,List.nil_append,List.cons_append]
 have c3:W.cell? ⟨Bf,3,none⟩=some (.string x1):=by simp [World.cell?,hB]
 have c4:W.cell? ⟨Bf,4,none⟩=some (.string x2):=by simp [World.cell?,hB]
 have c5:W.cell? ⟨Bf,5,none⟩=some (.string x3):=by simp [World.cell?,hB]
 have c6:W.cell? ⟨Bf,6,none⟩=some (.string y1):=by simp [World.cell?,hB]
 have c7:W.cell? ⟨Bf,7,none⟩=some (.string y2):=by simp [World.cell?,hB]
 have c8:W.cell? ⟨Bf,8,none⟩=some (.string y3):=by simp [World.cell?,hB]
 have c9:W.cell? ⟨Bf,9,none⟩=some (.string z1):=by simp [World.cell?,hB]
 have c10:W.cell? ⟨Bf,10,none⟩=some (.string z2):=by simp [World.cell?,hB]
 have c11:W.cell? ⟨Bf,11,none⟩=some (.string z3):=by simp [World.cell?,hB]
 clear hB
 gi_wp2
 gi_loopw [12] (fun i wr=>(i = .int .i64 0∧J [] wr∨i = .int .i64 1∧J [0] wr∨i = .int .i64 2∧J [0,1] wr∨i = .int .i64 3∧J [0,1,2] wr)∧n₀≤wr.heap.size) (fun i _=>3-(intOf i).toNat)
 case atStart=>exact ⟨.inl ⟨rfl,h0⟩,hn0⟩
 case round =>
  obtain ⟨hc,hnr⟩:=hrel
  rcases hc with ⟨rfl,hJs⟩|⟨rfl,hJs⟩|⟨rfl,hJs⟩|⟨rfl,hJs⟩
  ·have hix:=ix0 wr x1 x2 x3 y1 y2 y3 z1 z2 z3
   have hJa:=hJ [] wr (wr.alloc (.cells #[.string x1,.string x2,.string x3] 27)) none hJs (World.grownBy_alloc _ _ none) (fun r e=>by cases e)
   obtain ⟨fn,tmps,assign,body,hy,hR⟩:=hY [] 0 _ hJa (by simp)
   change (Sem.run Tryz.prog (Instr.yield l #[.int .i64 0,.agg #[.string x1,.string x2,.string x3]]) _)=_ at hy
   gi_wp2
   refine hR.mono ?_
   rintro e W3 (⟨rfl,hJ3,hk3⟩|⟨rfl,hJx3⟩)
   ·have hs3:n₀≤W3.heap.size:=by have:=hk3.size;simp at this;omega
    gi_wp2
    go_roundw
    case rel=>exact ⟨.inr (.inl ⟨rfl,hJ3⟩),hs3⟩
    case measure=>simp [intOf]
   ·gi_wp2
    refine bodyPost_ret (results_none rfl _ _ _) rfl ?_
    exact ⟨⟨_,rfl⟩,.inr ⟨_,trivial,hJx3⟩⟩
  ·have hix:=ix1 wr x1 x2 x3 y1 y2 y3 z1 z2 z3
   have hJa:=hJ [0] wr (wr.alloc (.cells #[.string y1,.string y2,.string y3] 27)) none hJs (World.grownBy_alloc _ _ none) (fun r e=>by cases e)
   obtain ⟨fn,tmps,assign,body,hy,hR⟩:=hY [0] 1 _ hJa (by simp)
   change (Sem.run Tryz.prog (Instr.yield l #[.int .i64 1,.agg #[.string y1,.string y2,.string y3]]) _)=_ at hy
   gi_wp2
   refine hR.mono ?_
   rintro e W3 (⟨rfl,hJ3,hk3⟩|⟨rfl,hJx3⟩)
   ·have hs3:n₀≤W3.heap.size:=by have:=hk3.size;simp at this;omega
    gi_wp2
    go_roundw
    case rel=>exact ⟨.inr (.inr (.inl ⟨rfl,hJ3⟩)),hs3⟩
    case measure=>simp [intOf]
   ·gi_wp2
    refine bodyPost_ret (results_none rfl _ _ _) rfl ?_
    exact ⟨⟨_,rfl⟩,.inr ⟨_,trivial,hJx3⟩⟩
  ·have hix:=ix2 wr x1 x2 x3 y1 y2 y3 z1 z2 z3
   have hJa:=hJ [0,1] wr (wr.alloc (.cells #[.string z1,.string z2,.string z3] 27)) none hJs (World.grownBy_alloc _ _ none) (fun r e=>by cases e)
   obtain ⟨fn,tmps,assign,body,hy,hR⟩:=hY [0,1] 2 _ hJa (by simp)
   change (Sem.run Tryz.prog (Instr.yield l #[.int .i64 2,.agg #[.string z1,.string z2,.string z3]]) _)=_ at hy
   gi_wp2
   refine hR.mono ?_
   rintro e W3 (⟨rfl,hJ3,hk3⟩|⟨rfl,hJx3⟩)
   ·have hs3:n₀≤W3.heap.size:=by have:=hk3.size;simp at this;omega
    gi_wp2
    go_roundw
    case rel=>exact ⟨.inr (.inr (.inr ⟨rfl,hJ3⟩)),hs3⟩
    case measure=>simp [intOf]
   ·gi_wp2
    refine bodyPost_ret (results_none rfl _ _ _) rfl ?_
    exact ⟨⟨_,rfl⟩,.inr ⟨_,trivial,hJx3⟩⟩
  ·gi_wp2
   go_end0
   exact ⟨⟨_,rfl⟩,.inl ⟨_,rfl,hJs⟩⟩
theorem axes_stops (F:Fence) (n:Nat) (h8:F.fn 201) (hro:F.round=none) (hn:1≤n) (Bf n₀:Nat) (o1 o2 o3 x1 x2 x3 y1 y2 y3 z1 z2 z3:ByteArray) (w:World) (hn0:n₀≤w.heap.size)
 (hB:w.heap[Bf]?=some (.cells #[.string o1,.string o2,.string o3,.string x1,.string x2,.string x3,.string y1,.string y2,.string y3,.string z1,.string z2,.string z3] 54 (0,0))) :
 SeqStopsK F n Tryz.prog 201 #[.pointer (some ⟨Bf,0,none⟩)] (axE x1 x2 x3 y1 y2 y3 z1 z2 z3) (Below n₀) (fun ys=>ys = [0,1,2]) (fun _=>True) 3 w:=fun l J Jx W hW hJ _ hY h0 =>
 axes1_in F n h8 hro hn l Bf n₀ o1 o2 o3 x1 x2 x3 y1 y2 y3 z1 z2 z3 J Jx hY W hJ (Nat.le_trans hn0 hW.size) ((hW.block Bf (by rcases Nat.lt_or_ge Bf w.heap.size with h|h;exact h;rw [Array.getElem?_eq_none h] at hB;cases hB)).trans hB) h0
set_option maxHeartbeats 1000000 in
theorem axes_any (o1 o2 o3 x1 x2 x3 y1 y2 y3 z1 z2 z3:ByteArray) (w:World):Calls Tryz.prog 140 #[.agg #[.string o1,.string o2,.string o3,.string x1,.string x2,.string x3,.string y1,.string y2,.string y3,.string z1,.string z2,.string z3]] w fun e w' =>
 e = .returned (.func (.func 201) #[] #[.pointer (some ⟨w.heap.size,0,none⟩)])∧w'=w.alloc (.cells #[.string o1,.string o2,.string o3,.string x1,.string x2,.string x3,.string y1,.string y2,.string y3,.string z1,.string z2,.string z3] 54 (0,0)):=by
 refine (callsIn_wide (n:=3)).1 ?_
 refine callsIn_of_wp Tryz.func140 rfl trivial ?_ rfl
 simp only [Tryz.ntmps140,List.size_toArray,List.length_cons,List.length_nil,Nat.reduceAdd,Nat.reduceSub,Array.replicate_succ,Array.replicate_zero,List.push_toArray,List.append_toArray,List.nil_append,List.cons_append]
 gi_wp2
 refine bodyPost_ret (results_tmp rfl _ _ _) rfl ?_
 exact ⟨rfl,rfl⟩
end Go.Proofs.YtofcdondmgojiaaGreatDoor.Fr
namespace Go.Proofs.YtofcdondmgojiaaGreatDoor.Fr
open Go.RowKit Go.Shelf Go.Proofs.YtofcdondmgojiaaGreatDoor Go.Proofs.YtofcdondmgojiaaGreatDoor.Ab Pl
structure C9 where
 n1:Int
 d1:Int
 p1:Option Addr
 n2:Int
 d2:Int
 p2:Option Addr
 n3:Int
 d3:Int
 p3:Option Addr
def C9.cells (k:C9):List Value := [.int .i64 k.n1,.int .i64 k.d1,.pointer k.p1,.int .i64 k.n2,.int .i64 k.d2,.pointer k.p2,.int .i64 k.n3,.int .i64 k.d3,.pointer k.p3]
def C9.val (k:C9):Value := .agg #[.int .i64 k.n1,.int .i64 k.d1,.pointer k.p1,.int .i64 k.n2,.int .i64 k.d2,.pointer k.p2,.int .i64 k.n3,.int .i64 k.d3,.pointer k.p3]
def C9.zero:C9:=⟨0,0,none,0,0,none,0,0,none⟩
theorem vc9 {w:World} {v:Value} {a b c:Rat} (h:Vc w v a b c):∃ k:C9,v=k.val∧Vc w k.val a b c:=by
 obtain ⟨n1,d1,p1,n2,d2,p2,n3,d3,p3,rfl,h1,h2,h3⟩:=h
 exact ⟨⟨n1,d1,p1,n2,d2,p2,n3,d3,p3⟩,rfl,n1,d1,p1,n2,d2,p2,n3,d3,p3,rfl,h1,h2,h3⟩
theorem vc_cells {β:List Nat} {w:World} {k:C9} {a b c:Rat} (h:Vc w k.val a b c):holdsL β [nb a,nb b,nb c] k.cells w:=by
 obtain ⟨cs,e,hl⟩:=(vc_holds (β:=β)).2 h
 injection e with e
 have e:=congrArg Array.toList e
 have e:k.cells=cs:=e
 rw [e]
 exact hl
def fG (o x y z:C9):List Value:=o.cells++x.cells++y.cells++z.cells
theorem readVec_any {a b c:Rat} (h:Wr3 a b c) (w:World) (hG:Gl w):Calls Tryz.prog 33 #[.agg #[.string (writeB a),.string (writeB b),.string (writeB c)]] w fun e w' => ∃ k:C9,e = .returned (.tuple #[k.val,.int .i64 0])∧Vc w' k.val a b c∧Below w.heap.size w w':=by
 refine (fV h [] w [.agg #[.string (writeB a),.string (writeB b),.string (writeB c)]] hG ⟨_,_,rfl,⟨[.string (writeB a),.string (writeB b),.string (writeB c)],rfl,[.string (writeB a)],_,rfl,rfl,[.string (writeB b)],_,rfl,rfl,[.string (writeB c)],_,rfl,rfl,rfl⟩,rfl⟩).mono ?_
 rintro e w' ⟨v,e1,e2,vs,rfl,u,r,rfl,h1,u2,r2,rfl,h2,h3⟩
 obtain ⟨k,rfl,h4⟩:=vc9 (vc_holds.1 h1)
 have h5:[u2] = [.int .i64 0]:=h2.1
 injection h5 with h5
 rw [show r2 = [] from h3,h5] at e1
 exact ⟨k,e1,h4,e2⟩
theorem first_any (w:World) (g:Nat) (T:TypeId) (hh:w.heap[g]?=some (.cells #[.int .i64 0,.int .i64 0] T (0,0))):Calls Tryz.prog 34 #[.slice (some ⟨g,0,none⟩) 2 2] w fun e w'=>e = .returned (.int .i64 0)∧Below w.heap.size w w':=by
 refine (fZ (T:=T) [] w [.slice (some ⟨g,0,none⟩) 2 2] ⟨_,_,rfl,⟨g,[.int .i64 0,.int .i64 0],rfl,hh,[.int .i64 0],_,rfl,⟨rfl,rfl⟩,[.int .i64 0],_,rfl,⟨rfl,rfl⟩,rfl⟩,rfl⟩).mono ?_
 rintro e w' ⟨v,e1,e2,h1⟩
 have h5:[v] = [.int .i64 0]:=h1.1
 injection h5 with h5
 exact ⟨by rw [e1,h5],e2⟩
section
variable {o1 o2 o3 x1 x2 x3 y1 y2 y3 z1 z2 z3:Rat}
theorem fr_holds {β:List Nat} {w:World} {o x y z:C9} (ho:Vc w o.val o1 o2 o3) (hx:Vc w x.val x1 x2 x3) (hy:Vc w y.val y1 y2 y3) (hz:Vc w z.val z1 z2 z3) :
 (frm o1 o2 o3 x1 x2 x3 y1 y2 y3 z1 z2 z3).holds β (.agg (fG o x y z).toArray) w :=
 ⟨fG o x y z,rfl,(((vc_cells ho).append (vc_cells hx)).append (vc_cells hy)).append (vc_cells hz)⟩
theorem check_any {w:World} {o x y z:C9} (ho:Vc w o.val o1 o2 o3) (hx:Vc w x.val x1 x2 x3) (hy:Vc w y.val y1 y2 y3) (hz:Vc w z.val z1 z2 z3) (l:Lm 25 x1 x2 x3 y1 y2 y3 z1 z2 z3) (h:Ax x1 x2 x3 y1 y2 y3 z1 z2 z3) :
 Calls Tryz.prog 141 #[.agg (fG o x y z).toArray] w fun e w'=>e = .returned (.int .i64 0)∧Below w.heap.size w w':=by
 refine (checkF (o1:=o1) (o2:=o2) (o3:=o3) l h [] w [.agg (fG o x y z).toArray] ⟨_,_,rfl,fr_holds ho hx hy hz,rfl⟩).mono ?_
 rintro e w' ⟨v,e1,e2,h1⟩
 have h5:[v] = [.int .i64 0]:=h1.1
 injection h5 with h5
 exact ⟨by rw [e1,h5],e2⟩
end
end Go.Proofs.YtofcdondmgojiaaGreatDoor.Fr
