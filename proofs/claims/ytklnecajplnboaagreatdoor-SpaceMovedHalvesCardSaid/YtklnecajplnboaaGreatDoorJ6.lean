/- Parts of the proof, joined. -/
import Derived.Test.YtklnecajplnboaaGreatDoorJ5
import Derived.Laws.RangeAny
import Derived.Test.YtklnecajplnboaaGreatDoorJ0
import Derived.Test.YtklnecajplnboaaGreatDoorJ3
import Derived.Deep.LoopGhost
import Derived.Test.YtklnecajplnboaaGreatDoorJ4
set_option maxHeartbeats 4000000
set_option linter.unusedSimpArgs false
set_option linter.unusedVariables false
set_option linter.constructorNameAsVariable false
namespace Go.Proofs.YtklnecajplnboaaGreatDoor
namespace Ab
open Go.RowKit Pl
section
variable {w u1 u2 u3 v1 v2 v3 x1 x2 x3 y1 y2 y3 z1 z2 z3:Rat}
abbrev wu (w u1 u2 u3:Rat):List (TypeId×List (Seg Kn)) := [(63,[nb w]),(65,[nb u1,nb u2,nb u3])]
theorem turn1F (h:jF 81 [num w,vc u1 u2 u3,vc v1 v2 v3] (vc x1 x2 x3)) :
 FitsM Tryz.prog 80 (wu w u1 u2 u3) [vc v1 v2 v3,.fv (.sc (.ptr 0 0)),.fv (.sc (.ptr 1 0))] (vc x1 x2 x3):=by
 refine kgoM Tryz.func80 (by kernel_rfl) trivial fun w00=>?_
 refine jC 81 [num w,vc u1 u2 u3,vc v1 v2 v3] (h) ?_
 exact jR Tryz.func80
abbrev cloT:AV Kn := .fv (.clo 80 [] [(false,[.ptr 0 0]),(false,[.ptr 1 0])])
theorem eachTurnF (h1:jF 81 [num w,vc u1 u2 u3,vc (1:Int) (0:Int) (0:Int)] (vc x1 x2 x3)) (h2:jF 81 [num w,vc u1 u2 u3,vc (0:Int) (1:Int) (0:Int)] (vc y1 y2 y3)) (h3:jF 81 [num w,vc u1 u2 u3,vc (0:Int) (0:Int) (1:Int)] (vc z1 z2 z3)) :
 FitsM Tryz.prog 83 (wu w u1 u2 u3) [cloT,mt (1:Int) (0:Int) (0:Int) (0:Int) (1:Int) (0:Int) (0:Int) (0:Int) (1:Int)] (mt x1 x2 x3 y1 y2 y3 z1 z2 z3):=by
 refine kgoM Tryz.func83 (by kernel_rfl) trivial fun w00=>?_
 refine yY 80 [0,1] (wu w u1 u2 u3) [vc (1:Int) (0:Int) (0:Int),.fv (.sc (.ptr 0 0)),.fv (.sc (.ptr 1 0))] (turn1F h1) (by kernel_rfl) (by simp) (Tryz.call80) ?_
 refine yY 80 [0,1] (wu w u1 u2 u3) [vc (0:Int) (1:Int) (0:Int),.fv (.sc (.ptr 0 0)),.fv (.sc (.ptr 1 0))] (turn1F h2) (by kernel_rfl) (by simp) (Tryz.call80) ?_
 refine yY 80 [0,1] (wu w u1 u2 u3) [vc (0:Int) (0:Int) (1:Int),.fv (.sc (.ptr 0 0)),.fv (.sc (.ptr 1 0))] (turn1F h3) (by kernel_rfl) (by simp) (Tryz.call80) ?_
 exact jR Tryz.func83
theorem apiTurnF {b:Bool} (hw:Wr w) (hu:pT u1 u2 u3) (hb:decide (w=0)=b) (h0:b=true→(decide (u1=0)&&decide (u2=0)&&decide (u3=0))=false)
 (h1:jF 81 [num w,vc u1 u2 u3,vc (1:Int) (0:Int) (0:Int)] (vc x1 x2 x3)) (h2:jF 81 [num w,vc u1 u2 u3,vc (0:Int) (1:Int) (0:Int)] (vc y1 y2 y3)) (h3:jF 81 [num w,vc u1 u2 u3,vc (0:Int) (0:Int) (1:Int)] (vc z1 z2 z3))
 (hr:Wf (0:Int) (0:Int) (0:Int) x1 x2 x3 y1 y2 y3 z1 z2 z3):jX 22 [.fv (.ag [cH (writeB w),cH (writeB u1),cH (writeB u2),cH (writeB u3)])] (gJ (0:Int) (0:Int) (0:Int) x1 x2 x3 y1 y2 y3 z1 z2 z3):=by
 have i0:rC 0:=by constructor <;> omega
 cases b with
 | true =>
   refine jY Tryz.func22 fun w00 hI=>?_
   refine jW hI 78 [gL 67,tx (writeB w),gL 61,vS u1 u2 u3] (readRV hw hu) ?_
   refine jC 79 [num w] (gF hb) ?_
   refine jC 62 [vc u1 u2 u3] (eU (h0 rfl)) ?_
   refine jC 82 [iv 0 0 0] (gS i0 i0 i0) ?_
   refine jC 84 [] (unitsF) ?_
   refine yY 83 [2,3] (wu w u1 u2 u3) [cloT,mt (1:Int) (0:Int) (0:Int) (0:Int) (1:Int) (0:Int) (0:Int) (0:Int) (1:Int)] (eachTurnF h1 h2 h3) (by kernel_rfl) (by simp) (Tryz.call83) ?_
   refine jW hI 85 [nV (0:Int) (0:Int) (0:Int) x1 x2 x3 y1 y2 y3 z1 z2 z3] (yW hr) ?_
   exact jR Tryz.func22
 | false =>
   refine jY Tryz.func22 fun w00 hI=>?_
   refine jW hI 78 [gL 67,tx (writeB w),gL 61,vS u1 u2 u3] (readRV hw hu) ?_
   refine jC 79 [num w] (gF hb) ?_
   refine jC 82 [iv 0 0 0] (gS i0 i0 i0) ?_
   refine jC 84 [] (unitsF) ?_
   refine yY 83 [2,3] (wu w u1 u2 u3) [cloT,mt (1:Int) (0:Int) (0:Int) (0:Int) (1:Int) (0:Int) (0:Int) (0:Int) (1:Int)] (eachTurnF h1 h2 h3) (by kernel_rfl) (by simp) (Tryz.call83) ?_
   refine jW hI 85 [nV (0:Int) (0:Int) (0:Int) x1 x2 x3 y1 y2 y3 z1 z2 z3] (yW hr) ?_
   exact jR Tryz.func22
end
section
variable {o1 o2 o3 x1 x2 x3 y1 y2 y3 z1 z2 z3 p1 p2 p3 u1 u2 u3 v1 v2 v3 w1 w2 w3 q1 q2 q3 r1 r2 r3 s1 s2 s3 t1 t2 t3:Rat}
theorem readFF (h:Fv o1 o2 o3 x1 x2 x3 y1 y2 y3 z1 z2 z3) (k:Fv p1 p2 p3 u1 u2 u3 v1 v2 v3 w1 w2 w3):jX 86 [gL 29,iT o1 o2 o3 x1 x2 x3 y1 y2 y3 z1 z2 z3,gL 29,iT p1 p2 p3 u1 u2 u3 v1 v2 v3 w1 w2 w3] (.tup [.ag [nb o1,nb o2,nb o3,nb x1,nb x2,nb x3,nb y1,nb y2,nb y3,nb z1,nb z2,nb z3],.ag [nb p1,nb p2,nb p3,nb u1,nb u2,nb u3,nb v1,nb v2,nb v3,nb w1,nb w2,nb w3],.sc z0]):=by
 refine jY Tryz.func86 fun w00 hI=>?_
 refine jW hI 29 [iT o1 o2 o3 x1 x2 x3 y1 y2 y3 z1 z2 z3] (h.r) ?_
 refine jW hI 29 [iT p1 p2 p3 u1 u2 u3 v1 v2 v3 w1 w2 w3] (k.r) ?_
 refine jC 68 [.fv (.nsl 2 32 [z0,z0])] (iC) ?_
 exact jR Tryz.func86
theorem apiComposeF (h:Fv o1 o2 o3 x1 x2 x3 y1 y2 y3 z1 z2 z3) (k:Fv p1 p2 p3 u1 u2 u3 v1 v2 v3 w1 w2 w3) (eq1:o1+ld p1 p2 p3 x1 y1 z1=q1) (eq2:o2+ld p1 p2 p3 x2 y2 z2=q2) (eq3:o3+ld p1 p2 p3 x3 y3 z3=q3) (er1:ld u1 u2 u3 x1 y1 z1=r1) (er2:ld u1 u2 u3 x2 y2 z2=r2) (er3:ld u1 u2 u3 x3 y3 z3=r3) (es1:ld v1 v2 v3 x1 y1 z1=s1) (es2:ld v1 v2 v3 x2 y2 z2=s2) (es3:ld v1 v2 v3 x3 y3 z3=s3) (et1:ld w1 w2 w3 x1 y1 z1=t1) (et2:ld w1 w2 w3 x2 y2 z2=t2) (et3:ld w1 w2 w3 x3 y3 z3=t3) (hr:Wf q1 q2 q3 r1 r2 r3 s1 s2 s3 t1 t2 t3)
 (hxy:dt r1 r2 r3 s1 s2 s3=0) (hyz:dt s1 s2 s3 t1 t2 t3=0) (hzx:dt t1 t2 t3 r1 r2 r3=0):jX 23 [iT o1 o2 o3 x1 x2 x3 y1 y2 y3 z1 z2 z3,iT p1 p2 p3 u1 u2 u3 v1 v2 v3 w1 w2 w3] (gJ q1 q2 q3 r1 r2 r3 s1 s2 s3 t1 t2 t3):=by
 have hp:jF 77 [nV o1 o2 o3 x1 x2 x3 y1 y2 y3 z1 z2 z3,vc p1 p2 p3] (vc q1 q2 q3):=by
  rw [← eq1,← eq2,← eq3]
  exact placeF (h.w.lm.mono (by decide)) ((zV k.w.o).mono (by decide)) ((zV h.w.o).mono (by decide))
 have lr:jF 31 [nV o1 o2 o3 x1 x2 x3 y1 y2 y3 z1 z2 z3,vc u1 u2 u3] (vc r1 r2 r3):=by
  rw [← er1,← er2,← er3]
  exact leadF (h.w.lm.mono (by decide)) ((zV k.w.x).mono (by decide))
 have ls:jF 31 [nV o1 o2 o3 x1 x2 x3 y1 y2 y3 z1 z2 z3,vc v1 v2 v3] (vc s1 s2 s3):=by
  rw [← es1,← es2,← es3]
  exact leadF (h.w.lm.mono (by decide)) ((zV k.w.y).mono (by decide))
 have lt:jF 31 [nV o1 o2 o3 x1 x2 x3 y1 y2 y3 z1 z2 z3,vc w1 w2 w3] (vc t1 t2 t3):=by
  rw [← et1,← et2,← et3]
  exact leadF (h.w.lm.mono (by decide)) ((zV k.w.z).mono (by decide))
 refine jY Tryz.func23 fun w00 hI=>?_
 refine jW hI 86 [gL 29,iT o1 o2 o3 x1 x2 x3 y1 y2 y3 z1 z2 z3,gL 29,iT p1 p2 p3 u1 u2 u3 v1 v2 v3 w1 w2 w3] (readFF h k) ?_
 refine jC 77 [nV o1 o2 o3 x1 x2 x3 y1 y2 y3 z1 z2 z3,vc p1 p2 p3] (hp) ?_
 refine jC 83 [.fv (.clo 31 [(true,[nb o1,nb o2,nb o3,nb x1,nb x2,nb x3,nb y1,nb y2,nb y3,nb z1,nb z2,nb z3])] []),mt u1 u2 u3 v1 v2 v3 w1 w2 w3] (eachVVc Tryz.call31 lr ls lt) ?_
 refine jW hI 87 [nV q1 q2 q3 r1 r2 r3 s1 s2 s3 t1 t2 t3] (rG hr hxy hyz hzx) ?_
 exact jR Tryz.func23
end
end Ab
section
open Go.RowKit Pl
def isL (c:Nat):Bool:=(decide (97≤c)&&decide (c≤122)) || (decide (65≤c)&&decide (c≤90))
def isBh (c:Nat):Bool:=(decide (48≤c)&&decide (c≤57)) || decide (c=95)
def iI:List UInt8→Bool
 | []=>true
 | c::l=>(isL c.toNat || isBh c.toNat)&&iI l
def yZ (s:ByteArray):Bool:=match aC s with
 | []=>false
 | c::l=>isL c.toNat&&iI l&&decide (s.size≤24)
theorem nK (c:Nat) (w:World):Calls Tryz.prog 89 #[.int .i32 (c:Int)] w fun e w'=>e = .returned (.bool (isL c))∧w'=w:=by
 go_enter Tryz.func89,Tryz.ntmps89
 have e1:decide ((97:Int)≤c)=decide (97≤c):=by rw [decide_eq_decide];omega
 have e2:decide ((c:Int)≤122)=decide (c≤122):=by rw [decide_eq_decide];omega
 have e3:decide ((65:Int)≤c)=decide (65≤c):=by rw [decide_eq_decide];omega
 have e4:decide ((c:Int)≤90)=decide (c≤90):=by rw [decide_eq_decide];omega
 by_cases h1:97≤c <;> by_cases h2:c≤122 <;> by_cases h3:65≤c <;> by_cases h4:c≤90 <;>
  (have k1:(97≤(c:Int))=(97≤c):=by simp;omega) <;> first|omega|(
   simp only [h1,h2,h3,h4,decide_true,decide_false] at e1 e2 e3 e4
   go_wp2
   go_ret
   simp [isL,h1,h2,h3,h4])
theorem isBehind_any (c:Nat) (w:World):Calls Tryz.prog 90 #[.int .i32 (c:Int)] w fun e w'=>e = .returned (.bool (isBh c))∧w'=w:=by
 go_enter Tryz.func90,Tryz.ntmps90
 have e1:decide ((48:Int)≤c)=decide (48≤c):=by rw [decide_eq_decide];omega
 have e2:decide ((c:Int)≤57)=decide (c≤57):=by rw [decide_eq_decide];omega
 have e3:decide ((c:Int)=95)=decide (c=95):=by rw [decide_eq_decide];omega
 have e4:((c:Int)==95)=decide (c=95):=by rw [Bool.eq_iff_iff];simp;omega
 by_cases h1:48≤c <;> by_cases h2:c≤57 <;> by_cases h3:c=95 <;> first|omega|(
  simp only [h1,h2,h3,decide_true,decide_false] at e1 e2 e3
  go_wp2
  go_ret
  simp [isBh,e4,h1,h2,h3])
theorem isL_high {c:Nat} (h:128≤c):isL c=false:=by
 simp only [isL,Bool.or_eq_false_iff,Bool.and_eq_false_iff,decide_eq_false_iff_not]
 omega
theorem isBh_high {c:Nat} (h:128≤c):isBh c=false:=by
 simp only [isBh,Bool.or_eq_false_iff,Bool.and_eq_false_iff,decide_eq_false_iff_not]
 omega
def mC (pos c:Nat):Bool:=isL c || (decide (pos≠0)&&isBh c)
theorem sV (l:List UInt8):iI l=true↔∀ c∈l,(isL c.toNat || isBh c.toNat)=true:=by
 induction l with
 | nil=>simp [iI]
 | cons c l ih=>simp only [iI,Bool.and_eq_true,ih,List.forall_mem_cons]
theorem nameB_ok {s:ByteArray} (h:∀ (j:Nat) (hj:j<s.size),mC j (s[j]'hj).toNat=true):yZ s=(decide (s.size≠0)&&decide (s.size≤24)):=by
 have hl:=aE s
 have hg:∀ (j:Nat) (hj:j<(aC s).length),mC j ((aC s)[j]'hj).toNat=true:=fun j hj=>by
  have:=h j (by rw [← hl];exact hj)
  simp only [aC,Array.getElem_toList]
  exact this
 unfold yZ
 cases hb:aC s with
 | nil=>rw [hb] at hl;simp at hl;simp [← hl]
 | cons c l =>
   rw [hb] at hl hg
   have h0:=hg 0 (by simp)
   simp [mC] at h0
   have hf:iI l=true:=by
    rw [sV]
    intro d hd
    obtain ⟨i,hi,rfl⟩:=List.getElem_of_mem hd
    have:=hg (i+1) (by simp;omega)
    simpa [mC] using this
   show (isL c.toNat&&iI l&&decide (s.size≤24))=_
   rw [h0,hf]
   simp at hl
   have:s.size≠0:=by omega
   simp [this]
theorem nameB_bad {s:ByteArray} {j:Nat} (hj:j<s.size) (h:mC j (s[j]'hj).toNat=false):yZ s=false:=by
 have hl:=aE s
 have hg:mC j ((aC s)[j]'(by omega)).toNat=false:=by
  simp only [aC,Array.getElem_toList]
  exact h
 unfold yZ
 cases hb:aC s with
 | nil=>rfl
 | cons c l =>
   simp only [hb] at hg
   cases j with
   | zero=>simp [mC] at hg;simp [hg]
   | succ j =>
     have:iI l=false:=by
      rw [Bool.eq_false_iff]
      intro hf
      rw [sV] at hf
      have h2:=hf (l[j]'(by rw [hb] at hl;simp at hl;omega)) (List.getElem_mem _)
      simp [mC] at hg
      simp [hg] at h2
     simp [this]
set_option maxRecDepth 100000 in
theorem isName_any (s:ByteArray) (w:World):Calls Tryz.prog 26 #[.string s] w fun e w'=>e = .returned (.bool (yZ s))∧Below w.heap.size w w':=by
 have hne:(!(s.toList==(⟨#[]⟩:ByteArray).toList))=decide (s.size≠0):=by
  rw [Go.ByteArray.toList_eq,Go.ByteArray.toList_eq]
  have hl:=aE s
  unfold aC at hl
  cases hb:s.data.toList with
  | nil=>rw [hb] at hl;simp at hl;simp [← hl]
  | cons c l =>
    rw [hb] at hl
    simp at hl
    have:s.size≠0:=by omega
    simp [this]
 go_enter Tryz.func26,Tryz.ntmps26
 go_wp2
 go_loopw [7] (fun _ wr => ∃ pos:Nat,wr=w.iter s pos∧pos≤s.size∧∀ (j:Nat) (hj:j<s.size),j<pos→mC j (s[j]'hj).toNat=true) (fun _ wr=>s.size-wr.iterPos w.heap.size)
 case atStart=>exact ⟨0,rfl,Nat.zero_le _,fun j _ h=>absurd h (Nat.not_lt_zero _)⟩
 case round =>
  obtain ⟨pos,rfl,hpos,hok⟩:=hrel
  by_cases hp:pos<s.size
  ·obtain ⟨c,k,hdc,hk,hgood⟩:∃ c k,Utf8.decode s pos=(c,k)∧1≤k∧(mC pos c=true→(∀ hj:pos<s.size,mC pos (s[pos]'hj).toNat=true)∧k=1)∧(mC pos c=false→∀ hj:pos<s.size,mC pos (s[pos]'hj).toNat=false):=by
    by_cases ha:(s[pos]'hp).toNat<128
    ·exact ⟨_,_,decode_ascii s pos hp ha,aR _,fun h=>⟨fun _=>h,rfl⟩,fun h _=>h⟩
    ·obtain ⟨h1,h2⟩:=decode_high s pos hp (by omega)
     refine ⟨(Utf8.decode s pos).1,(Utf8.decode s pos).2,rfl,h2,fun h=>?_,fun _ _=>?_⟩
     ·rw [mC,isL_high h1,isBh_high h1] at h
      simp at h
     ·rw [mC,isL_high (by omega),isBh_high (by omega)]
      simp
   have hnx:∀ ty,(Instr.next (.pointer (some ⟨w.heap.size,0,none⟩)) true ty).run Tryz.prog (w.iter s pos) = .ok (.tuple #[.bool true,.int .i64 pos,.int .i32 (c:Int)]) (w.iter s (pos+k)):=fun ty=>by
    have:=run_next_any (P:=Tryz.prog) w s pos ty hp
    rw [hdc] at this
    exact this
   have HH:=aH (aI hp (aI hpos (aI hok (aI hk (aI hgood hne)))))
   clear hdc hp hpos hok hk hgood hne
   by_cases hL:isL c=true
   ·go_wp2_with fail
    refine (nK c _).mono ?_
    rintro e w' ⟨rfl,rfl⟩
    rw [hL]
    go_wp2
    go_roundw
    case rel =>
     obtain ⟨hp,hpos,hok,hk,hg,_⟩:=HH.out
     obtain ⟨g1,rfl⟩:=hg.1 (by rw [mC,hL];rfl)
     refine ⟨pos+1,rfl,hp,fun j hj hjp=>?_⟩
     by_cases hjj:j=pos
     ·subst hjj;exact g1 hj
     ·exact hok j hj (by omega)
    case measure =>
     have:=HH.out.1
     have:=HH.out.2.2.2.1
     simp
     omega
   ·have hL:isL c=false:=by simpa using hL
    by_cases h0:pos=0
    ·have hz:((pos:Int)==0)=true:=by simp [h0]
     have hbad:mC pos c=false:=by rw [mC,hL,h0];simp
     clear h0
     go_wp2_with fail
     refine (nK c _).mono ?_
     rintro e w' ⟨rfl,rfl⟩
     rw [hL]
     go_wp2
     go_ret
     obtain ⟨hp,_,_,_,hg,_⟩:=HH.out
     exact ⟨by rw [nameB_bad hp (hg.2 hbad hp)];rfl,eW _ _ _⟩
    ·have hz:((pos:Int)==0)=false:=by simp [h0]
     have H0:=aH h0
     clear h0
     go_wp2_with fail
     refine (nK c _).mono ?_
     rintro e w' ⟨rfl,rfl⟩
     rw [hL]
     go_wp2_with fail
     refine (isBehind_any c _).mono ?_
     rintro e w' ⟨rfl,rfl⟩
     cases hB:isBh c with
     | false =>
       go_wp2
       go_ret
       obtain ⟨hp,_,_,_,hg,_⟩:=HH.out
       exact ⟨by rw [nameB_bad hp (hg.2 (by rw [mC,hL,hB];simp) hp)];rfl,eW _ _ _⟩
     | true =>
       go_wp2
       go_roundw
       case rel =>
        obtain ⟨hp,hpos,hok,hk,hg,_⟩:=HH.out
        obtain ⟨g1,rfl⟩:=hg.1 (by have:=H0.out;simp [mC,hL,hB,this])
        refine ⟨pos+1,rfl,hp,fun j hj hjp=>?_⟩
        by_cases hjj:j=pos
        ·subst hjj;exact g1 hj
        ·exact hok j hj (by omega)
       case measure =>
        have:=HH.out.1
        have:=HH.out.2.2.2.1
        simp
        omega
  ·have hnx:∀ ty,(Instr.next (.pointer (some ⟨w.heap.size,0,none⟩)) true ty).run Tryz.prog (w.iter s pos)=_:=fun ty=>run_next_end w s pos ty hp
   have hres:yZ s=(decide (s.size≠0)&&decide (s.size≤24)):=nameB_ok fun j hj=>hok j hj (by omega)
   have H2:=aH hres
   clear hres hok hp hpos
   by_cases h0:s.size=0
   ·have hne2:s.toList.isEmpty=true:=by rw [Go.ByteArray.toList_eq];simp;have:=aE s;unfold aC at this;exact Array.eq_empty_of_size_eq_zero (by simpa using this.trans h0)
    clear hne
    go_wp2
    go_ret
    refine ⟨?_,eW _ _ _⟩
    rw [H2.out,h0]
    rfl
   ·have hne2:s.toList.isEmpty=false:=by
     rw [Go.ByteArray.toList_eq,Bool.eq_false_iff]
     intro he
     have h2:=aE s
     unfold aC at h2
     rw [List.isEmpty_iff.1 he] at h2
     exact h0 h2.symm
    have H0:=aH h0
    clear hne h0
    go_wp2
    go_ret
    refine ⟨?_,eW _ _ _⟩
    rw [H2.out]
    have h0:=H0.out
    simp [h0]
    omega
end
namespace Ab
open Go.RowKit Pl
theorem isNameF {s:ByteArray} {b:Bool} (h:yZ s=b):jF 26 [lt s] (bl b):=by
 intro β w vs hv
 obtain ⟨v,rfl,h1⟩:=dC hv
 rw [aM h1]
 exact (isName_any s w).mono fun e w' ⟨e1,e2⟩=>⟨_,e1,e2,by rw [h];exact aX rfl⟩
end Ab
section
open Go.RowKit Pl
theorem cR {s:ByteArray} {i:Nat} (h:i<s.size):(aC s)[i]?=some (s[i]'h):=by
 rw [List.getElem?_eq_getElem (by rw [aE];exact h)]
 rfl
def aJ (s:ByteArray):Nat:=(aC s).findIdx (fun c=>c==47)
theorem cI (s:ByteArray):aJ s≤s.size:=by unfold aJ;rw [← aE];exact List.findIdx_le_length
theorem slashB_at {s:ByteArray} {pos:Nat} (hp:pos<s.size) (h:(s[pos]'hp)=47) (hb:∀ (j:Nat) (hj:j<s.size),j<pos→(s[j]'hj)≠47):aJ s=pos:=by
 unfold aJ
 refine (List.findIdx_eq (by rw [aE];exact hp)).2 ⟨?_,fun j hj=>?_⟩
 ·have:=cR hp
  rw [List.getElem?_eq_getElem (by rw [aE];exact hp)] at this
  injection this with this
  rw [this,h];rfl
 ·have hj2:j<s.size:=Nat.lt_trans hj hp
  have:=cR hj2
  rw [List.getElem?_eq_getElem (by rw [aE];exact hj2)] at this
  injection this with this
  rw [this]
  simpa using hb j hj2 hj
theorem slashB_none {s:ByteArray} (hb:∀ (j:Nat) (hj:j<s.size),(s[j]'hj)≠47):aJ s=s.size:=by
 unfold aJ
 rw [← aE,List.findIdx_eq_length]
 intro c hc
 obtain ⟨j,hj,e⟩:=List.mem_iff_getElem.1 hc
 have hj2:j<s.size:=by rw [← aE];exact hj
 have h1:=cR hj2
 rw [List.getElem?_eq_getElem hj,e] at h1
 injection h1 with h1
 rw [h1]
 simpa using hb j hj2
theorem slash_any (s:ByteArray) (w:World) (hs:s.size≤9223372036854775807):Calls Tryz.prog 112 #[.string s] w fun e w'=>e = .returned (.int .i64 (aJ s:Nat))∧w'=w:=by
 go_enter Tryz.func112,Tryz.ntmps112
 go_wp2
 go_loop [3] (fun v => ∃ pos:Nat,v = .int .i64 (pos:Int)∧pos≤s.size∧Hid (∀ (j:Nat) (hj:j<s.size),j<pos→(s[j]'hj)≠47)) (fun v=>s.size-(intOf v).toNat)
 case atStart=>exact ⟨0,rfl,Nat.zero_le _,fun j _ h=>absurd h (Nat.not_lt_zero _)⟩
 case round =>
  obtain ⟨pos,rfl,hpos,hok⟩:=hrel
  by_cases hp:pos<s.size
  ·have p1:((pos:Nat):Int)<s.size:=by omega
   obtain ⟨c,hc⟩:∃ c:Nat,(s[pos]'hp).toNat=c:=⟨_,rfl⟩
   by_cases h47:c=47
   ·have hres:aJ s=pos:=slashB_at hp (by rw [h47] at hc;exact UInt8.toNat_inj.1 hc) (fun j hj hlt=>hok.out j hj hlt)
    have HR:=aH hres
    have k1:((c:Int)==47)=true:=by rw [h47];rfl
    clear hres hok h47
    go_wp2
    go_ret
    exact ⟨by rw [HR.out];rfl,rfl⟩
   ·have k1:((c:Int)==47)=false:=by simp;omega
    have HR:=aH (show ∀ (j:Nat) (hj:j<s.size),j<pos+1→(s[j]'hj)≠47 from fun j hj hlt=>by
     by_cases hjj:j=pos
     ·subst hjj
      intro e
      rw [e] at hc
      exact h47 hc.symm
     ·exact hok.out j hj (by omega))
    clear hok h47
    have HP:=aH hp
    go_wp2
    first
     | (go_round;(case rel=>exact ⟨pos+1,by go_num,HP.out,HR.out⟩);(case measure=>(simp [intOf];omega)))
     | exact ⟨⟨pos+1,by simp,HP.out,HR.out⟩,by have:=HP.out;simp [intOf];omega⟩
  ·have hres:aJ s=s.size:=slashB_none fun j hj=>hok.out j hj (by omega)
   have HR:=aH hres
   have p1:¬ (pos:Int)<s.size:=by omega
   clear hres hok
   go_wp2
   go_ret
   exact ⟨by rw [HR.out];rfl,rfl⟩
def dT (s:ByteArray):Bool:=(aC s).all (fun c=>decide (48≤c.toNat)&&decide (c.toNat≤57))
theorem kR {s:ByteArray} {pos:Nat} (hp:pos<s.size) (h:(s[pos]'hp).toNat<48∨57<(s[pos]'hp).toNat):dT s=false:=by
 unfold dT
 rw [List.all_eq_false]
 refine ⟨s[pos]'hp,List.mem_of_getElem? (cR hp),?_⟩
 simp
 omega
theorem digitsB_ok {s:ByteArray} (h:∀ (j:Nat) (hj:j<s.size),48≤(s[j]'hj).toNat∧(s[j]'hj).toNat≤57):dT s=true:=by
 unfold dT
 rw [List.all_eq_true]
 intro c hc
 obtain ⟨j,hj,e⟩:=List.mem_iff_getElem.1 hc
 have hj2:j<s.size:=by rw [← aE];exact hj
 have h1:=cR hj2
 rw [List.getElem?_eq_getElem hj,e] at h1
 injection h1 with h1
 rw [h1]
 simpa using h j hj2
theorem wC {s:ByteArray}:dT s=true↔AllDig (aC s):=by
 unfold dT AllDig
 rw [List.all_eq_true]
 simp
theorem digits_any (s:ByteArray) (w:World) (hs:s.size≤9223372036854775807):Calls Tryz.prog 170 #[.string s] w fun e w'=>e = .returned (.bool (dT s))∧w'=w:=by
 go_enter Tryz.func170,Tryz.ntmps170
 go_wp2
 go_loop [3] (fun v => ∃ pos:Nat,v = .int .i64 (pos:Int)∧pos≤s.size∧Hid (∀ (j:Nat) (hj:j<s.size),j<pos→48≤(s[j]'hj).toNat∧(s[j]'hj).toNat≤57)) (fun v=>s.size-(intOf v).toNat)
 case atStart=>exact ⟨0,rfl,Nat.zero_le _,fun j _ h=>absurd h (Nat.not_lt_zero _)⟩
 case round =>
  obtain ⟨pos,rfl,hpos,hok⟩:=hrel
  by_cases hp:pos<s.size
  ·have p1:((pos:Nat):Int)<s.size:=by omega
   obtain ⟨c,hc⟩:∃ c:Nat,(s[pos]'hp).toNat=c:=⟨_,rfl⟩
   by_cases h48:c<48
   ·have hres:dT s=false:=kR hp (.inl (by rw [hc];exact h48))
    have HR:=aH hres
    have k1:(c:Int)<48:=by omega
    clear hres hok
    go_wp2
    go_ret
    exact ⟨by rw [HR.out];rfl,rfl⟩
   ·by_cases h57:57<c
    ·have hres:dT s=false:=kR hp (.inr (by rw [hc];exact h57))
     have HR:=aH hres
     have k1:¬ (c:Int)<48:=by omega
     have k2:(57:Int)<c:=by omega
     clear hres hok
     go_wp2
     go_ret
     exact ⟨by rw [HR.out];rfl,rfl⟩
    ·have k1:(48:Int)≤c:=by omega
     have k2:(c:Int)≤57:=by omega
     have HR:=aH (show ∀ (j:Nat) (hj:j<s.size),j<pos+1→48≤(s[j]'hj).toNat∧(s[j]'hj).toNat≤57 from fun j hj hlt=>by
      by_cases hjj:j=pos
      ·subst hjj;rw [hc];omega
      ·exact hok.out j hj (by omega))
     clear hok h48 h57
     have HP:=aH hp
     go_wp2
     first
      | (go_round;(case rel=>exact ⟨pos+1,by go_num,HP.out,HR.out⟩);(case measure=>(simp [intOf];omega)))
      | exact ⟨⟨pos+1,by simp,HP.out,HR.out⟩,by have:=HP.out;simp [intOf];omega⟩
  ·have hres:dT s=true:=digitsB_ok fun j hj=>hok.out j hj (by omega)
   have HR:=aH hres
   have p1:¬ (pos:Int)<s.size:=by omega
   clear hres hok
   go_wp2
   go_ret
   exact ⟨by rw [HR.out];rfl,rfl⟩
theorem mE (s:ByteArray) (w:World) (hd:AllDig (aC s)) (hs:s.size≤17):Calls Tryz.prog 178 #[.string s] w fun e w'=>e = .returned (.int .i64 (aU (aC s):Nat))∧w'=w:=by
 go_enter Tryz.func178,Tryz.ntmps178
 go_wp2
 have HD:=aH (aI hd hs)
 clear hd
 go_loop [3,4] (fun nv v => ∃ pos m:Nat,v = .int .i64 (pos:Int)∧nv = .int .i64 (m:Int)∧pos≤s.size∧Hid (m=aU ((aC s).take pos))) (fun _ v=>s.size-(intOf v).toNat)
 case atStart=>exact ⟨0,0,rfl,rfl,Nat.zero_le _,by rw [List.take_zero];exact natOf_nil.symm⟩
 case round =>
  obtain ⟨pos,m,rfl,rfl,hpos,hm⟩:=hrel
  by_cases hp:pos<s.size
  ·have p1:((pos:Nat):Int)<s.size:=by omega
   obtain ⟨c,hc⟩:∃ c:Nat,(s[pos]'hp).toNat=c:=⟨_,rfl⟩
   have hcd:48≤c∧c≤57:=by rw [← hc];exact HD.out.1 _ (List.mem_of_getElem? (cR hp))
   have hmb:m<100000000000000000:=by
    rw [hm.out]
    refine Nat.lt_of_lt_of_le (fW (HD.out.1.take pos)) ?_
    have:10^((aC s).take pos).length≤10^17:=Nat.pow_le_pow_right (by omega) (by rw [List.length_take];have:=HD.out.2;omega)
    exact this
   have hnext:10*m+c-48=aU ((aC s).take (pos+1)):=by
    have h1:=cR hp
    obtain ⟨h2,e⟩:=List.getElem?_eq_some_iff.1 h1
    rw [List.take_succ_eq_append_getElem h2,xI,← hm.out,e,hc]
    omega
   have HR:=aH hnext
   have k1:(48:Int)≤c:=by omega
   have k2:(c:Int)≤57:=by omega
   have k3:(m:Int)≤100000000000000000:=by omega
   clear hnext hm hmb hcd
   have HP:=aH hp
   go_wp2
   first
    | (go_round;(case rel=>exact ⟨pos+1,10*m+c-48,by go_num,by go_num,HP.out,HR.out⟩);(case measure=>(simp [intOf];omega)))
    | exact ⟨⟨pos+1,10*m+c-48,by simp,by go_num,HP.out,HR.out⟩,by have:=HP.out;simp [intOf];omega⟩
  ·have p1:¬ (pos:Int)<s.size:=by omega
   have HR:=aH (show m=aU (aC s) by rw [hm.out,List.take_of_length_le (by rw [aE];omega)])
   clear hm
   go_wp2
   go_ret
   exact ⟨by rw [HR.out];rfl,rfl⟩
theorem rgcd_any (a b:Nat) (w:World) (ha:a<9223372036854775808) (hb:b<9223372036854775808):Calls Tryz.prog 179 #[.int .i64 (a:Int),.int .i64 (b:Int)] w fun e w'=>e = .returned (.int .i64 (Nat.gcd a b:Nat))∧Below w.heap.size w w':=by
 have HA:=aH (aI ha hb)
 clear ha hb
 go_enter Tryz.func179,Tryz.ntmps179
 go_wp2
 go_loopw [0,1] (fun av bv wr => ∃ x y:Nat,av = .int .i64 (x:Int)∧bv = .int .i64 (y:Int)∧Hid (Nat.gcd x y=Nat.gcd a b∧x<9223372036854775808∧y<9223372036854775808)∧Below w.heap.size w wr) (fun _ bv _=>(intOf bv).toNat)
 case atStart=>exact ⟨a,b,rfl,rfl,⟨rfl,HA.out⟩,aB _ _⟩
 case round =>
  obtain ⟨x,y,rfl,rfl,hi,hbw⟩:=hrel
  rcases Nat.eq_zero_or_pos y with h0|h0
  ·subst h0
   have HR:=aH (show x=Nat.gcd a b by rw [← hi.out.1,Nat.gcd_zero_right])
   clear hi
   go_wp2
   go_ret
   exact ⟨by rw [← HR.out];rfl,hbw⟩
  ·have k1:(0:Int)<y:=by omega
   obtain ⟨r,hr⟩:∃ r,r=x%y:=⟨_,rfl⟩
   have HR:=aH (show (Nat.gcd y r=Nat.gcd a b∧y<9223372036854775808∧r<9223372036854775808)∧r<y∧(x:Int)%(y:Int)=(r:Int)∧(x:Int).tmod (y:Int)=(r:Int) by
    have hlt:r<y:=by rw [hr];exact Nat.mod_lt _ h0
    refine ⟨⟨by rw [hr,Nat.gcd_comm,← Nat.gcd_rec,Nat.gcd_comm];exact hi.out.1,hi.out.2.2,Nat.lt_trans hlt hi.out.2.2⟩,hlt,by rw [hr];simp,?_⟩
    rw [Int.tmod_eq_emod_of_nonneg (by omega),hr];simp)
   have hz0:((y:Int)==0)=false:=by simp;omega
   have hz1:¬ (y:Int)=0:=by omega
   have hz3:((y:Int) == -1)=false:=by simp
   clear hi hr h0
   go_wp2
   go_quiet (fail)
   have hb2:=bZ hbw nq
   clear hbw
   generalize wr.drewN nq=w2 at *
   go_wp2
   go_roundw
   case rel =>
    obtain ⟨h1,h2,h3,h4⟩:=HR.out
    exact ⟨y,r,rfl,by first|(rw [h3];done)|(rw [h4];done)|rfl,h1,hb2⟩
   case measure =>
    obtain ⟨h1,h2,h3,h4⟩:=HR.out
    simp only [intOf]
    first|rw [h3]|rw [h4]
    omega
theorem cmpI_lt {a b:Nat} (h:a<b):bU a b = -1:=by unfold bU;rw [if_pos (by omega)]
theorem cmpI_gt {a b:Nat} (h:b<a):bU a b=1:=by unfold bU;rw [if_neg (by omega),if_pos (by omega)]
theorem eS (A:Option Addr) (n c:Nat) (xs:List Nat) (A' : Option Addr) (n' c' : Nat) (ys:List Nat) (w:World) (h:Ri w A n c xs) (h' : Ri w A' n' c' ys)
 (hd:Dig B9 xs) (hd' : Dig B9 ys) (hn:Norm xs) (hn' : Norm ys) :
 Calls Tryz.prog 184 #[.slice A n c,.slice A' n' c'] w (Gives w (.int .i64 (bU (val B9 xs) (val B9 ys)))):=by
 have HX:=aH (aI h (aI hd hn))
 have HY:=aH (aI h' (aI hd' hn'))
 have hnc:n≤c:=h.cap
 have hcm:c≤9223372036854775807:=h.2.2.1
 have hnc' : n'≤c':=h'.cap
 have hcm' : c'≤9223372036854775807:=h'.2.2.1
 clear h h' hd hd' hn hn'
 rcases Nat.lt_trichotomy n n' with hl|hl|hl
 ·have ht:((n:Int) != n')=true:=by simp;omega
  have ht2:(n:Int)<n':=by omega
  have HL:=aH hl
  clear hl
  go_enter Tryz.func184,Tryz.ntmps184
  go_wp2
  go_ret
  refine ⟨bX ?_,aB _ _⟩
  rw [cmpI_lt]
  exact dF dN HX.out.2.1 HY.out.2.2 (by rw [HX.out.1.len,HY.out.1.len];exact HL.out)
 ·subst hl
  have ht:((n:Int) != n)=false:=by simp
  go_enter Tryz.func184,Tryz.ntmps184
  go_wp2
  go_loopw [5] (fun i wr => ∃ k:Nat,k≤n∧Agree xs ys k∧i = .int .i64 ((k:Int)-1)∧Below w.heap.size w wr) (fun i _=>(intOf i+1).toNat)
  case atStart=>exact ⟨n,aR _,by unfold Agree;rw [List.drop_eq_nil_of_le (by rw [HX.out.1.len];omega),List.drop_eq_nil_of_le (by rw [HY.out.1.len];omega)],rfl,aB _ _⟩
  case round =>
   obtain ⟨k,hk,hag,rfl,hb⟩:=hrel
   have HA:=aH hag
   clear hag
   rcases Nat.eq_zero_or_pos k with rfl|hk0
   ·go_wp2
    go_ret
    refine ⟨bX ?_,hb⟩
    have:=HA.out
    unfold Agree at this
    simp at this
    rw [this]
    unfold bU
    simp
   ·obtain ⟨m,rfl⟩:∃ m,k=m+1:=⟨k-1,by omega⟩
    obtain ⟨ad,x,hA,_,hx,hcx⟩:=(HX.out.1.below hb).at_ (k:=m) (by omega)
    obtain ⟨ad',y,hA',_,hy,hcy⟩:=(HY.out.1.below hb).at_ (k:=m) (by omega)
    subst hA
    subst hA'
    have HE:=aH (aI hx hy)
    clear hx hy hk0
    have hidx:((m:Int)+1-1)=m:=by omega
    simp only [Int.natCast_add,Int.natCast_one,hidx]
    clear hidx
    rcases Nat.lt_trichotomy x y with he|he|he
    ·have ht:(x:Int)<y:=by omega
     have HE2:=aH he
     clear he
     go_wp2
     go_quiet (fail)
     go_wp2
     go_ret
     refine ⟨bX ?_,bZ hb _⟩
     rw [← cmpI_lt HE2.out]
     exact xF (by rw [HX.out.1.len,HY.out.1.len]) HX.out.2.1 HY.out.2.1 (by rw [HX.out.1.len];omega) HA.out HE.out.1 HE.out.2 (by have:=HE2.out;omega)
    ·subst he
     have ht:¬ (x:Int)<x:=by omega
     go_wp2
     go_quiet (fail)
     have hcx2:(wr.drewN nq).cell? (ad.add m)=some (.int .i64 (x:Int)):=hcx
     have hcy2:(wr.drewN nq).cell? (ad'.add m)=some (.int .i64 (x:Int)):=hcy
     have hb2:=bZ hb nq
     clear hb hcx hcy
     generalize wr.drewN nq=w2 at *
     go_wp2
     go_quiet (fail)
     go_wp2
     go_roundw
     case rel=>exact ⟨m,by omega,HA.out.step HE.out.1 HE.out.2 rfl,rfl,bZ hb2 _⟩
     case measure=>simp [intOf]
    ·have ht:¬ (x:Int)<y:=by omega
     have ht2:(y:Int)<x:=by omega
     have HE2:=aH he
     clear he
     go_wp2
     go_quiet (fail)
     have hcx2:(wr.drewN nq).cell? (ad.add m)=some (.int .i64 (x:Int)):=hcx
     have hcy2:(wr.drewN nq).cell? (ad'.add m)=some (.int .i64 (y:Int)):=hcy
     have hb2:=bZ hb nq
     clear hb hcx hcy
     generalize wr.drewN nq=w2 at *
     go_wp2
     go_quiet (fail)
     go_wp2
     go_ret
     refine ⟨bX ?_,bZ hb2 _⟩
     rw [← cmpI_gt HE2.out]
     exact xF (by rw [HX.out.1.len,HY.out.1.len]) HX.out.2.1 HY.out.2.1 (by rw [HX.out.1.len];omega) HA.out HE.out.1 HE.out.2 (by have:=HE2.out;omega)
 ·have ht:((n:Int) != n')=true:=by simp;omega
  have ht2:¬ (n:Int)<n':=by omega
  have HL:=aH hl
  clear hl
  go_enter Tryz.func184,Tryz.ntmps184
  go_wp2
  go_ret
  refine ⟨bX ?_,aB _ _⟩
  rw [cmpI_gt]
  exact dF dN HY.out.2.1 HX.out.2.2 (by rw [HX.out.1.len,HY.out.1.len];exact HL.out)
theorem uO (A:Option Addr) (n c:Nat) (xs:List Nat) (i:Nat) (w:World) (h:Ri w A n c xs) :
 Calls Tryz.prog 225 #[.slice A n c,.int .i64 (i:Int)] w fun e w'=>e = .returned (.int .i64 ((xs.getD i 0:Nat):Int))∧w=w':=by
 have hnc:n≤c:=h.cap
 have hcm:c≤9223372036854775807:=h.2.2.1
 by_cases hi:i<n
 ·obtain ⟨ad,x,rfl,_,hx,hcx⟩:=h.at_ hi
  have e:xs.getD i 0=x:=by simp [List.getD,hx]
  rw [e]
  clear hx e h
  go_enter Tryz.func225,Tryz.ntmps225
  go_wp2
  go_ret
  exact ⟨rfl,rfl⟩
 ·have e:xs.getD i 0=0:=by
   have:=h.len
   simp [List.getD,List.getElem?_eq_none (show xs.length≤i by omega)]
  rw [e]
  have hi2:¬ (i:Int)<n:=by omega
  clear e h hi
  go_enter Tryz.func225,Tryz.ntmps225
  go_wp2
  go_ret
  exact ⟨rfl,rfl⟩
theorem eN {q:Nat} (h:q<9223372036854775808):wrap64 (q:Int)=q:=by unfold wrap64;omega
theorem oS {w:World} {g:Nat} {cs:Array Value} {t:TypeId} {fr:Nat×Nat} (h:w.heap[g]?=some (.cells cs t fr)) (i:Nat):w.cell? ⟨g,i,none⟩=cs[i]?:=by
 unfold World.cell?
 rw [h]
 rfl
theorem gU:(Tryz.prog.info? 3).map (fun i=>(i.zero,i.size,i.bytes))=some (some (.int .i64 0),1,8):=by kernel_rfl
theorem xA {w:World} {base m:Nat} {e:TypeId} {v:Value} {ws:List Nat} (h:w.ownsRow base e 1 v m (ws.map dY)):∃ A c,v = .slice A m c∧Ri w A m c ws:=by
 obtain ⟨h1,h2⟩:=h
 have hl:ws.length=m:=by simpa using h1
 rcases h2 with ⟨rfl,rfl⟩|⟨g,cap,cur,rfl,e2,e3,e4,e5,e6,e7⟩
 ·have:ws = []:=List.eq_nil_of_length_eq_zero hl
  subst this
  exact ⟨none,0,rfl,Ri.nil⟩
 ·refine ⟨_,cap,rfl,hl,e4,e5,fun _=>⟨_,rfl,(Array.getElem?_eq_some_iff.1 e3).1,fun j x hx=>?_⟩⟩
  have ha:(⟨g,0,none⟩:Addr).add j=⟨g,j,none⟩:=by unfold Addr.add;split <;> simp_all
  have hc:w.cell? ⟨g,j,none⟩=cur[j]?:=by unfold World.cell?;rw [e3];rfl
  rw [ha,hc,← Array.getElem?_toList]
  have hj:(cur.toList.take (m*1))[0+j]?=some (.int .i64 (x:Int)):=by rw [e7,Nat.zero_add,List.getElem?_map,hx];rfl
  rw [List.getElem?_take,Nat.zero_add] at hj
  split at hj
  ·exact hj
  ·cases hj
theorem mF {w:World} {base m:Nat} {e:TypeId} {v:Value} {xs:List Value} (h:w.ownsRow base e 1 v m xs):∀ b,v.ownBlock=some b→base≤b:=by
 intro b hb
 obtain ⟨_,h2⟩:=h
 rcases h2 with ⟨rfl,_⟩|⟨g,cap,cur,rfl,e2,_⟩
 ·cases hb
 ·simp [Value.ownBlock] at hb;omega
def GivesRi (w:World) (a:Nat) (e:Ending) (w' : World):Prop := ∃ A n c xs,e = .returned (.slice A n c)∧Ri w' A n c xs∧Dig B9 xs∧val B9 xs=a∧Below w.heap.size w w'
theorem getD_over {l:List Nat} {k:Nat} (h:l.length≤k):l.getD k 0=0:=by simp [List.getD,List.getElem?_eq_none h]
theorem iD (B:Nat) (l:List Nat) (k:Nat):val B (l.take (k+1))=val B (l.take k)+B^k*l.getD k 0:=by
 rcases Nat.lt_or_ge k l.length with hl|hl
 ·rw [aF _ _ _ hl]
  simp [List.getD,List.getElem?_eq_getElem hl]
 ·rw [List.take_of_length_le (by omega),List.take_of_length_le hl]
  simp [List.getD,List.getElem?_eq_none hl]
def AddI (xs ys zs:List Nat) (k cy:Nat):Prop:=cy≤1∧Dig B9 zs∧zs.length=k∧val B9 zs+B9^k*cy=val B9 (xs.take k)+val B9 (ys.take k)
theorem AddI.step {xs ys zs:List Nat} {k cy s:Nat} (h:AddI xs ys zs k cy) (hx:Dig B9 xs) (hy:Dig B9 ys) (hs:s=xs.getD k 0+ys.getD k 0+cy):AddI xs ys (zs ++ [s%B9]) (k+1) (s/B9):=by
 obtain ⟨h1,h2,h3,h4⟩:=h
 have bx:=hx.get0 cB k
 have by':=hy.get0 cB k
 have hq:s/B9≤1:=by
  generalize xs.getD k 0=x at *
  generalize ys.getD k 0=y at *
  subst hs
  rw [cN] at *
  clear hx hy h2 h4
  omega
 refine ⟨hq,h2.app (Dig.cons (Nat.mod_lt _ cB) (Dig.nil _)),by simp [h3],?_⟩
 rw [cM,h3,iD,iD,Nat.pow_succ]
 have hdm:=Nat.div_add_mod s B9
 generalize s/B9=q at *
 generalize s%B9=r at *
 generalize xs.getD k 0=x at *
 generalize ys.getD k 0=y at *
 clear bx by' hq hx hy h2
 generalize B9=V at *
 grind
theorem AddI.finish {xs ys zs:List Nat} {k:Nat} (h:AddI xs ys zs k 0) (h1:xs.length≤k) (h2:ys.length≤k):val B9 zs=val B9 xs+val B9 ys:=by
 obtain ⟨_,_,_,h4⟩:=h
 rw [List.take_of_length_le h1,List.take_of_length_le h2,Nat.mul_zero,Nat.add_zero] at h4
 exact h4
theorem AddI.nil (xs ys:List Nat):AddI xs ys [] 0 0:=⟨by omega,Dig.nil _,rfl,by simp [val]⟩
theorem addFacts {x y cy:Nat} (bx:x<1000000000) (by' : y<1000000000) (bc:cy≤1):∃ p s r q:Nat,(x:Int)+(y:Int)=(p:Int)∧(p:Int)+(cy:Int)=(s:Int)∧wrap64 (p:Int)=p∧wrap64 (s:Int)=s ∧
 (s:Int).tmod 1000000000=(r:Int)∧(s:Int)%1000000000=(r:Int)∧(s:Int).tdiv 1000000000=(q:Int)∧(s:Int)/1000000000=(q:Int)∧wrap64 (q:Int)=q∧s=x+y+cy∧r=s%1000000000∧q=s/1000000000∧(x=0→y=0→q=0):=by
 refine ⟨x+y,x+y+cy,(x+y+cy)%1000000000,(x+y+cy)/1000000000,by omega,by omega,eN (by omega),eN (by omega),?_,by omega,?_,by omega,eN (by omega),rfl,rfl,rfl,by omega⟩
 ·rw [Int.tmod_eq_emod_of_nonneg (by omega)];omega
 ·rw [Int.tdiv_eq_ediv_of_nonneg (by omega)];omega
set_option maxRecDepth 100000 in
theorem qR (A:Option Addr) (n c:Nat) (xs:List Nat) (A' : Option Addr) (n' c' : Nat) (ys:List Nat) (w:World) (h:Ri w A n c xs) (h' : Ri w A' n' c' ys)
 (hd:Dig B9 xs) (hd' : Dig B9 ys) (hn:n≤2199023255552) (hn' : n'≤2199023255552) :
 Calls Tryz.prog 183 #[.slice A n c,.slice A' n' c'] w (GivesRi w (val B9 xs+val B9 ys)):=by
 have HX:=aH (aI h hd)
 have HY:=aH (aI h' hd')
 have HN:=aH (aI hn hn')
 have hnc:n≤c:=h.cap
 have hcm:c≤9223372036854775807:=h.2.2.1
 have hnc' : n'≤c':=h'.cap
 have hcm' : c'≤9223372036854775807:=h'.2.2.1
 obtain ⟨i0,hi,hz0,hz1,hz2⟩:=info_parts gU
 have HI:=aH (aI hi (aI hz0 (aI hz1 hz2)))
 clear h h' hd hd' hi hz0 hz1 hz2
 go_enter Tryz.func183,Tryz.ntmps183
 go_wp2
 go_loopw [5,6,7] (fun ov cv iv wr => ∃ (k cy:Nat) (zs:List Nat),iv = .int .i64 (k:Int)∧cv = .int .i64 (cy:Int)∧AddI xs ys zs k cy∧wr.ownsRow w.heap.size 3 1 ov k (zs.map dY)∧Below w.heap.size w wr∧(k≤max n n'∨(cy=0∧k≤max n n'+1))) (fun _ _ iv _=>max n n'+1-(intOf iv).toNat)
 case atStart=>exact ⟨0,0,[],rfl,rfl,AddI.nil _ _,⟨rfl,.inl ⟨rfl,rfl⟩⟩,aB _ _,.inl (Nat.zero_le _)⟩
 case round =>
  obtain ⟨k,cy,zs,rfl,rfl,hinv,hrow,hb,hk⟩:=hrel
  by_cases hgo:k<n∨k<n'∨0<cy
  ·have tri:(k:Int)<n∨(¬ (k:Int)<n∧(k:Int)<n')∨(¬ (k:Int)<n∧¬ (k:Int)<n'∧cy=1):=by
    have bc:=hinv.1
    clear hrow hinv hb
    omega
   have hkm:k≤max n n':=by omega
   have hkB:k≤2199023255552:=by have:=HN.out;omega
   obtain ⟨x,hx⟩:∃ x,x=xs.getD k 0:=⟨_,rfl⟩
   obtain ⟨y,hy⟩:∃ y,y=ys.getD k 0:=⟨_,rfl⟩
   have bx:x<1000000000:=by rw [hx];exact HX.out.2.get0 cB k
   have by' : y<1000000000:=by rw [hy];exact HY.out.2.get0 cB k
   have bc:cy≤1:=hinv.1
   obtain ⟨p,s,r,q,e1,e2,e3,e4,t1,t2,t3,t4,t5,hs,hr,hq,hq0⟩:=addFacts bx by' bc
   have hst:AddI xs ys (zs ++ [r]) (k+1) q:=by
    have:=hinv.step HX.out.2 HY.out.2 (s:=s) (by rw [hs,hx,hy])
    rw [cN,← hr,← hq] at this
    exact this
   have cd:=aH (fun w' (hb' : Below w.heap.size w w')=>uO A n c xs k w' (HX.out.1.below hb'))
   have cd':=aH (fun w' (hb' : Below w.heap.size w w')=>uO A' n' c' ys k w' (HY.out.1.below hb'))
   rw [← hx] at cd
   rw [← hy] at cd'
   have hk' : k<max n n'∨q=0∧k≤max n n':=by
    rcases Nat.lt_or_ge k (max n n') with hlt|hge
    ·exact .inl hlt
    ·right
     have hl1:=HX.out.1.len
     have hl2:=HY.out.1.len
     have z1:x=0:=by rw [hx];exact getD_over (by rw [hl1];exact Nat.le_trans (Nat.le_max_left n n') hge)
     have z2:y=0:=by rw [hy];exact getD_over (by rw [hl2];exact Nat.le_trans (Nat.le_max_right n n') hge)
     exact ⟨hq0 z1 z2,hkm⟩
   have HS:=aH (aI hst (aI hrow (aI hb (aI hk' (aI hkm hinv.2.2.1)))))
   clear hst hrow hb hk hkm hk' hinv hx hy hs hr hq bx by' bc hq0 hgo
   rcases tri with b1|⟨b1,b2⟩|⟨b1,b2,b3⟩
   all_goals
    try subst b3
    try simp only [Int.natCast_one] at e2
    go_wp2_with fail
    refine (cd.out _ HS.out.2.2.1).mono ?_
    rintro e w' ⟨rfl,rfl⟩
    go_wp2_with fail
    refine (cd'.out _ HS.out.2.2.1).mono ?_
    rintro e w' ⟨rfl,rfl⟩
    go_wp2_with (at_builtin;refine wpList_append_own _ rfl _ _ 84 rfl w.heap.size 3 i0 (.int .i64 0) 1 8 Tryz.underlying84 HI.out.1 HI.out.2.1 HI.out.2.2.1 HI.out.2.2.2 rfl (by decide) _ _ _ rfl (HS.out.2.1.alloc _) ⟨wr.heap.size,0,none⟩ 1 1 [.int .i64 (r:Int)] rfl rfl ?k1 ?k2 ?k3 ?k4 ?k5 ?_)
    try (case k1 =>
     intro j u hj
     match j with
     | 0 =>
       simp only [List.getElem?_cons_zero,Option.some.injEq] at hj
       subst hj
       exact oS (heap_alloc_new wr _) 0
     | j+1=>simp at hj)
    case k2=>first|rfl|(intro u hu;simp at hu;subst hu;rfl)
    case k3=>show k+1≤9223372036854775807;omega
    case k4=>omega
    case k5=>have:=HS.out.2.2.1.size;simp;omega
    intro v' w3 hr3 hg3 _
    obtain ⟨hst,hrow,hb,hk',hkm,hzl⟩:=HS.out
    have hbw:Below w.heap.size w w3:=Below.grown (hb.alloc hb.size _) hg3 (by have:=hb.size;simp;omega) (fun b hb'=>mF hrow b hb')
    have HX3:=aH (aI hst (aI hr3 (aI hbw (aI hk' hkm))))
    clear hst hrow hb hk' hkm hzl hr3 hg3 hbw
    go_wp2
    go_roundw
    case rel =>
     obtain ⟨hst,hr3,hbw,hk',hkm⟩:=HX3.out
     refine ⟨k+1,q,zs ++ [r],by first|rfl|go_num|simp,by first|rfl|rw [t5]|simp,hst,?_,hbw,?_⟩
     ·rw [List.map_append];exact hr3
     ·exact hk'.imp (fun h=>h) (fun h=>⟨h.1,Nat.succ_le_succ h.2⟩)
    case measure =>
     have hkm:=HX3.out.2.2.2.2
     clear e1 e2 e3 e4 t1 t2 t3 t4 t5 HX3
     simp [intOf];omega
  ·have hc0:cy=0:=by omega
   subst hc0
   obtain ⟨A2,c2,rfl,hri⟩:=xA hrow
   have hv:=hinv.finish (by rw [HX.out.1.len];omega) (by rw [HY.out.1.len];omega)
   have HF:=aH (aI hri (aI hinv.2.1 (aI hv hb)))
   have b1:¬ (k:Int)<n:=by omega
   have b2:¬ (k:Int)<n':=by omega
   clear hri hinv hv hb hk hgo hrow
   go_wp2
   go_ret
   exact ⟨A2,k,c2,zs,rfl,HF.out⟩
def Di (w:World) (v:Value) (a:Nat):Prop := ∃ A n c xs,v = .slice A n c∧Ri w A n c xs∧Dig B9 xs∧Norm xs∧val B9 xs=a
theorem Di.below {w w' : World} {v:Value} {a:Nat} (h:Di w v a) (hb:Below w.heap.size w w'):Di w' v a:=by
 obtain ⟨A,n,c,xs,hv,hr,hd,hn,ha⟩:=h
 exact ⟨A,n,c,xs,hv,hr.below hb,hd,hn,ha⟩
def GivesDi (w:World) (a:Nat) (e:Ending) (w' : World):Prop := ∃ v,e = .returned v∧Di w' v a∧Below w.heap.size w w'
def zA (w:World) (a b:Nat) (e:Ending) (w' : World):Prop := ∃ v v',e = .returned (.tuple #[v,v'])∧Di w' v a∧Di w' v' b∧Below w.heap.size w w'
theorem mG (A:Option Addr) (n c:Nat) (xs:List Nat) (w:World) (h:Ri w A n c xs) (hd:Dig B9 xs) :
 Calls Tryz.prog 222 #[.slice A n c] w fun e w'=>(∃ v,e = .returned v∧Di w v (val B9 xs))∧w=w':=by
 refine (trim_raw A n c xs w h).mono ?_
 rintro e w' ⟨⟨k,⟨hk,hn,hv⟩,rfl⟩,rfl⟩
 exact ⟨⟨_,rfl,A,k,c,xs.take k,rfl,h.take (by rw [← h.len];exact hk),hd.take k,hn,hv⟩,rfl⟩
theorem val_set (B:Nat):∀ (l:List Nat) (p d:Nat) (h:p<l.length),val B (l.set p d)+B^p*l[p]=val B l+B^p*d
 | x::l,0,d,_=>by simp [val];omega
 | x::l,p+1,d,h=>by
   have:=val_set B l p d (by simpa using h)
   simp only [List.set_cons_succ,val,List.getElem_cons_succ,Nat.pow_succ]
   have e:B*(val B (l.set p d)+B^p*l[p]'(by simpa using h))=B*(val B l+B^p*d):=by rw [this]
   rw [Nat.mul_add,Nat.mul_add] at e
   have e1:B^p*B*l[p]'(by simpa using h)=B*(B^p*l[p]'(by simpa using h)):=by rw [Nat.mul_comm (B^p) B,Nat.mul_assoc]
   have e2:B^p*B*d=B*(B^p*d):=by rw [Nat.mul_comm (B^p) B,Nat.mul_assoc]
   rw [e1,e2]
   omega
theorem rH {w:World} {g base n:Nat} (h:w.ownsRow base 3 1 (.slice (some ⟨g,0,none⟩) n n) n (madeCells #[Value.int .i64 0] n).toList):Bi w g 3 (List.replicate n 0):=by
 refine Bi.of_own h ?_
 rw [toList_madeCells_one]
 simp [dY]
theorem getD_get {l:List Nat} {k x:Nat} (h:l[k]?=some x):l.getD k 0=x:=by simp [List.getD,h]
theorem subFacts {x y cy:Nat} (bx:x<1000000000) (by' : y<1000000000) (bc:cy≤1):∃ (d s:Int) (r q:Nat),(x:Int)-(y:Int)=d∧d-(cy:Int)=s∧wrap64 d=d∧wrap64 s=s∧r<1000000000∧q≤1 ∧
 (s=(r:Int)∧q=0∨(s<0∧s+1000000000=(r:Int)∧wrap64 (r:Int)=r∧q=1))∧r+y+cy=x+1000000000*q:=by
 by_cases h:y+cy≤x
 ·refine ⟨x-y,x-y-cy,x-y-cy,0,rfl,rfl,?_,?_,by omega,by omega,.inl ⟨by omega,rfl⟩,by omega⟩ <;> unfold wrap64 <;> omega
 ·refine ⟨x-y,x-y-cy,x+1000000000-y-cy,1,rfl,rfl,?_,?_,by omega,by omega,.inr ⟨by omega,by omega,eN (by omega),rfl⟩,by omega⟩ <;> unfold wrap64 <;> omega
theorem mulFacts {o x y cy:Nat} (bo:o<1000000000) (bx:x≤1000000000) (by' : y<1000000000) (bc:cy<1000000000):∃ u p s r q:Nat,(x:Int)*(y:Int)=(u:Int)∧(o:Int)+(u:Int)=(p:Int)∧(p:Int)+(cy:Int)=(s:Int) ∧
 wrap64 (u:Int)=u∧wrap64 (p:Int)=p∧wrap64 (s:Int)=s∧(s:Int).tmod 1000000000=(r:Int)∧(s:Int)%1000000000=(r:Int)∧(s:Int).tdiv 1000000000=(q:Int)∧(s:Int)/1000000000=(q:Int)∧wrap64 (q:Int)=q ∧
 s=o+x*y+cy∧r=s%1000000000∧q=s/1000000000∧(x<1000000000→q<1000000000)∧q≤1000000000:=by
 have h1:x*y≤1000000000*999999999:=Nat.mul_le_mul bx (by omega)
 have h2:x<1000000000→x*y≤999999999*999999999:=fun h=>Nat.mul_le_mul (by omega) (by omega)
 have h3:(x:Int)*(y:Int)=((x*y:Nat):Int):=by simp
 generalize x*y=u at *
 refine ⟨u,o+u,o+u+cy,(o+u+cy)%1000000000,(o+u+cy)/1000000000,h3,by omega,by omega,eN (by omega),eN (by omega),eN (by omega),?_,by omega,?_,by omega,eN (by omega),rfl,rfl,rfl,fun h=>?_,by omega⟩
 ·rw [Int.tmod_eq_emod_of_nonneg (by omega)];omega
 ·rw [Int.tdiv_eq_ediv_of_nonneg (by omega)];omega
 ·have:=h2 h;omega
theorem divFacts {rs x d:Nat} (hd:0<d) (hd1:d<1000000000) (hr:rs<d) (hx:x<1000000000):∃ u s q r:Nat,(rs:Int)*1000000000=(u:Int)∧(u:Int)+(x:Int)=(s:Int)∧wrap64 (u:Int)=u∧wrap64 (s:Int)=s ∧
 (s:Int).tdiv d=(q:Int)∧(s:Int)/d=(q:Int)∧(s:Int).tmod d=(r:Int)∧(s:Int)%d=(r:Int)∧wrap64 (q:Int)=q∧s=rs*1000000000+x∧q=s/d∧r=s%d∧r<d∧q<1000000000:=by
 have hq:(rs*1000000000+x)/d<1000000000:=by
  rw [Nat.div_lt_iff_lt_mul hd]
  have:(rs+1)*1000000000≤d*1000000000:=Nat.mul_le_mul_right _ hr
  omega
 refine ⟨rs*1000000000,rs*1000000000+x,(rs*1000000000+x)/d,(rs*1000000000+x)%d,by omega,by omega,eN (by omega),eN (by omega),?_,?_,?_,?_,eN (by omega),rfl,rfl,rfl,Nat.mod_lt _ hd,hq⟩
 ·rw [Int.tdiv_eq_ediv_of_nonneg (by omega)];simp
 ·simp
 ·rw [Int.tmod_eq_emod_of_nonneg (by omega)];simp
 ·simp
theorem xB (r:Nat):¬ (r:Int)<0:=Int.not_lt.2 (Int.natCast_nonneg r)
theorem fQ {ops:Array Oper} {rest:List Oper} {o:Oper} {a:Act} {Q:Exit→Act→World→Prop} (hgd:o.guard=none) (s x:Operand)
 (ho:o.op = .call { callee := .builtin .append,args := #[s,x],argTypes := #[84,84] }) {B base k r:Nat} {v:Value} {zs:List Nat} {w w2:World} (hs:a.eval s=v) (hown:w2.ownsRow base 3 1 v k (zs.map dY))
 (hx:a.eval x = .slice (some ⟨w2.heap.size,0,none⟩) 1 1) (hk:k≤2199023255999) (hb:Below B w w2) (hB:B≤base) (hbase:base≤w2.heap.size)
 (h:∀ v' w',w'.ownsRow base 3 1 v' (k+1) ((zs ++ [r]).map dY)→Below B w w'→(w2.alloc (.cells #[.int .i64 (r:Int)] 3)).grownBy w' v.ownBlock→wpList Tryz.prog ops Q rest (a.put o.dst v') w') :
 wpList Tryz.prog ops Q (o::rest) a (w2.alloc (.cells #[.int .i64 (r:Int)] 3)):=by
 obtain ⟨i0,hi,hz0,hz1,hz2⟩:=info_parts gU
 refine wpList_append_own _ hgd s x 84 ho base 3 i0 (.int .i64 0) 1 8 Tryz.underlying84 hi hz0 hz1 hz2 rfl (by decide) v k (zs.map dY) hs (hown.alloc _) ⟨w2.heap.size,0,none⟩ 1 1 [.int .i64 (r:Int)] hx rfl ?_ ?_ ?_ ?_ ?_ ?_
 ·intro j u hj
  match j with
  | 0 =>
    simp only [List.getElem?_cons_zero,Option.some.injEq] at hj
    subst hj
    exact oS (heap_alloc_new w2 _) 0
  | j+1=>simp at hj
 ·intro u hu;simp at hu;subst hu;rfl
 ·show k+1≤9223372036854775807;omega
 ·omega
 ·simp;omega
 ·intro v' w' h1 h2 _
  have hsz:=hb.size
  refine h v' w' (by rw [List.map_append];exact h1) ((hb.alloc (Nat.le_trans hB hbase) _).grown h2 (by simp;omega) (fun b hb'=>?_)) h2
  have:=mF hown b hb'
  omega
def DivJ (xs zs:List Nat) (d k r:Nat):Prop :=
 Dig B9 zs∧zs.length=xs.length∧r<d∧val B9 (zs.drop k)*d+r=val B9 (xs.drop k)
theorem DivJ.step {xs zs:List Nat} {d k r x:Nat} (h:DivJ xs zs d (k+1) r) (hx:xs[k]?=some x) (hq:(r*B9+x)/d<B9) :
 DivJ xs (zs.set k ((r*B9+x)/d)) d k ((r*B9+x)%d):=by
 obtain ⟨h1,h2,h3,h4⟩:=h
 obtain ⟨hk,ex⟩:=List.getElem?_eq_some_iff.1 hx
 refine ⟨h1.set hq,by simp [h2],Nat.mod_lt _ (by omega),?_⟩
 have e:(zs.set k ((r*B9+x)/d)).drop k=(r*B9+x)/d::zs.drop (k+1):=by
  rw [List.drop_eq_getElem_cons (by simp;omega),List.getElem_set_self,List.drop_set_of_lt (by omega)]
 rw [e,lJ _ _ _ hk,ex]
 simp only [val]
 have:=Nat.div_add_mod (r*B9+x) d
 rw [← h4]
 generalize (r*B9+x)/d=q at *
 generalize (r*B9+x)%d=m at *
 clear hq h1 h3 e
 generalize B9=V at *
 grind
theorem DivJ.start (xs:List Nat) {d:Nat} (hd:0<d):DivJ xs (List.replicate xs.length 0) d xs.length 0:=⟨Dig.replicate cB _,by simp,hd,by simp [val]⟩
theorem DivJ.finish {xs zs:List Nat} {d r:Nat} (h:DivJ xs zs d 0 r):val B9 zs=val B9 xs/d∧r=val B9 xs%d:=by
 obtain ⟨_,_,h3,h4⟩:=h
 simp only [List.drop_zero] at h4
 rw [← h4]
 constructor
 ·rw [Nat.add_comm,Nat.add_mul_div_right _ _ (by omega),Nat.div_eq_of_lt h3];omega
 ·rw [Nat.add_comm,Nat.add_mul_mod_self_right,Nat.mod_eq_of_lt h3]
theorem ret_two' {a b c d:Value} (h:a=c) (h' : b=d):Ending.returned (.tuple #[a,b]) = .returned (.tuple #[c,d]):=by rw [h,h']
theorem val_i64 {a b:Nat} (h:a=b):Value.int .i64 (a:Int) = .int .i64 (b:Int):=by rw [h]
def GivesDiI (w:World) (a b:Nat) (e:Ending) (w' : World):Prop := ∃ v,e = .returned (.tuple #[v,.int .i64 (b:Int)])∧Di w' v a∧Below w.heap.size w w'
set_option maxRecDepth 100000 in
theorem sW (A:Option Addr) (n c:Nat) (xs:List Nat) (d:Nat) (w:World) (h:Ri w A n c xs) (hd:Dig B9 xs) (hn:n≤2199023255552) (hd0:0<d) (hd1:d<1000000000) :
 Calls Tryz.prog 221 #[.slice A n c,.int .i64 (d:Int)] w (GivesDiI w (val B9 xs/d) (val B9 xs%d)):=by
 have HX:=aH (aI h (aI hd (aI hd0 hd1)))
 have hnc:n≤c:=h.cap
 have hcm:c≤9223372036854775807:=h.2.2.1
 have hdz:((d:Int)==0)=false:=by simp;omega
 have hdz1:¬ (d:Int)=0:=by omega
 have hdz2:¬ (d:Int) = -1:=by omega
 have hdz3:((d:Int) == -1)=false:=by simp
 obtain ⟨i0,hi,hz0,hz1,hz2⟩:=info_parts gU
 have HI:=aH (aI hi (aI hz0 (aI hz1 hz2)))
 clear h hd hi hz0 hz1 hz2 hd0 hd1
 go_enter Tryz.func221,Tryz.ntmps221
 go_wp2_with (at_make;refine wpList_make_full _ rfl _ _ 84 rfl w.heap.size 3 i0 (.int .i64 0) 1 Tryz.underlying84 HI.out.1 HI.out.2.1 HI.out.2.2.1 _ _ _ _ n rfl rfl ?b0 ?b1 ?b2 ?b3 (aR _) ?_)
 case b0=>rfl
 case b1=>rfl
 case b2=>rw [HI.out.2.2.2];omega
 case b3=>show n≤9223372036854775807;omega
 intro w1 hown hg1
 have hb1:Below w.heap.size w w1:=(aB _ _).grown hg1 (aR _) (fun k h=>by cases h)
 have hblk:=rH hown
 have e0:DivJ xs (List.replicate n 0) d n 0:=by
  have:=DivJ.start xs HX.out.2.2.1
  rwa [HX.out.1.len] at this
 have HB:=aH hblk
 have H0:=aH e0
 clear hown hg1 hblk e0
 obtain ⟨g,hg⟩:∃ g,g=w.heap.size:=⟨_,rfl⟩
 rw [← hg] at HB ⊢
 have HG:=aH hg
 clear hg
 go_wp2
 go_loopw [7,8] (fun rs i wr => ∃ (k r:Nat) (zs:List Nat),k≤n∧i = .int .i64 ((k:Int)-1)∧rs = .int .i64 (r:Int)∧DivJ xs zs d k r∧Bi wr g 3 zs∧Below w.heap.size w wr) (fun _ i _=>(intOf i+1).toNat)
 case atStart=>exact ⟨n,0,_,aR _,rfl,rfl,H0.out,HB.out,hb1⟩
 case round =>
  clear HB H0 hb1
  obtain ⟨k,r,zs,hk,rfl,rfl,hinv,hblk,hb⟩:=hrel
  have hzn:zs.length=n:=by rw [hinv.2.1,HX.out.1.len]
  rcases Nat.eq_zero_or_pos k with rfl|hk0
  ·have hrd:=hblk.rd (by rw [hzn];show n≤9223372036854775807;omega)
   rw [hzn] at hrd
   obtain ⟨f1,f2⟩:=hinv.finish
   have HF:=aH (aI hinv.1 (aI hrd (aI f1 (aI f2 hb))))
   clear hinv hblk hzn hrd f1 f2 hb
   simp only [show (((0:Nat):Int)-1) = -1 from rfl]
   go_wp2_with (go_at_call 222;refine (mG _ _ _ zs _ HF.out.2.1 HF.out.1).mono ?_;rintro e w' ⟨⟨v,rfl,hv⟩,rfl⟩)
   go_ret2
   exact ⟨v,ret_two' rfl (val_i64 HF.out.2.2.2.1),by rw [← HF.out.2.2.1];exact hv,HF.out.2.2.2.2⟩
  ·obtain ⟨m,rfl⟩:∃ m,k=m+1:=⟨k-1,by omega⟩
   obtain ⟨ad,x,rfl,_,hx,hcx⟩:=(HX.out.1.below hb).at_ (k:=m) (by omega)
   obtain ⟨u,s,q,r',e1,e2,e3,e4,t1,t2,t3,t4,t5,hs,hq,hr,hrd,hqb⟩:=divFacts HX.out.2.2.1 HX.out.2.2.2 hinv.2.2.1 (HX.out.2.1.at_ hx)
   have hst:=hinv.step hx (by rw [cN,← hs,← hq];exact hqb)
   rw [cN,← hs,← hq,← hr] at hst
   obtain ⟨z,hcz⟩:∃ z:Int,wr.cell? ⟨g,m,none⟩=some (.int .i64 z):=⟨_,hblk.cell_get (by omega)⟩
   have hfz:=hblk.frozen m
   have HE:=aH (aI hst (aI hblk (aI hb (by omega:m≤n))))
   have hidx:((m:Int)+1-1)=m:=by omega
   clear hx hblk hinv hst hk0 hzn hs hq hr hrd hqb hb
   simp only [Int.natCast_add,Int.natCast_one,hidx]
   clear hidx
   go_wp2
   go_roundw
   case rel=>exact ⟨m,r',zs.set m q,HE.out.2.2.2,by first|rfl|go_num|simp,by first|rfl|simp,HE.out.1,HE.out.2.1.set_ _ _,HE.out.2.2.1.setCell (by rw [HG.out];exact aR _) _⟩
   case measure =>
    clear e1 e2 e3 e4 t1 t2 t3 t4 t5 HE
    simp [intOf]
def gD (N2 low f s:Nat):Nat:=min ((N2*B9+low)/(f*B9+s)) (B9-1)
theorem gd_iff {N2 low f s m rs:Nat} (hf:0<f) (h:m*f+rs=N2):m≤(N2*B9+low)/(f*B9+s)↔m*s≤rs*B9+low:=by
 have hp:0<f*B9:=Nat.mul_pos hf cB
 rw [Nat.le_div_iff_mul_le (by omega)]
 subst h
 have e1:m*(f*B9+s)=m*f*B9+m*s:=by rw [Nat.mul_add,Nat.mul_assoc]
 have e2:(m*f+rs)*B9=m*f*B9+rs*B9:=Nat.add_mul _ _ _
 rw [e1,e2]
 omega
theorem gd_start {N2 low f s:Nat} (hf:0<f) (hl:low<B9):gD N2 low f s≤N2/f:=Nat.le_trans (Nat.min_le_left _ _) (oG rfl rfl hl hf)
theorem gd_exit {N2 low f s m rs:Nat} (hf:0<f) (h:m*f+rs=N2) (hm:m<B9) (hle:m*s≤rs*B9+low) (hg:gD N2 low f s≤m):gD N2 low f s=m:=by
 refine Nat.le_antisymm hg ?_
 have:=(gd_iff (s:=s) (low:=low) hf h).2 hle
 exact Nat.le_min.2 ⟨this,by omega⟩
theorem gd_cont1 {N2 low f s m:Nat} (hm:B9≤m+1):gD N2 low f s≤m:=Nat.le_trans (Nat.min_le_right _ _) (by omega)
theorem gd_cont2 {N2 low f s m rs:Nat} (hf:0<f) (h:(m+1)*f+rs=N2) (hle:¬ (m+1)*s≤rs*B9+low):gD N2 low f s≤m:=by
 have:=mt (gd_iff (s:=s) (low:=low) hf h).1 hle
 exact Nat.le_trans (Nat.min_le_left _ _) (by omega)
theorem gd_over {high mid low f s m rs:Nat} (hf:0<f) (h:m*f+rs=high*B9+mid) (hh:high≤f) (hmid:mid<B9) (hs:s<B9) (hr:B9≤rs) (hg:gD (high*B9+mid) low f s≤m):gD (high*B9+mid) low f s=m:=by
 have hm:m<B9:=by
  rcases Nat.lt_or_ge m B9 with e|e
  ·exact e
  ·exfalso
   have h1:B9*f≤m*f:=Nat.mul_le_mul_right _ e
   have h2:high*B9≤f*B9:=Nat.mul_le_mul_right _ hh
   rw [Nat.mul_comm] at h1
   omega
 refine gd_exit hf h hm ?_ hg
 have h1:m*s≤B9*B9:=Nat.mul_le_mul (Nat.le_of_lt hm) (Nat.le_of_lt hs)
 have h2:B9*B9≤rs*B9:=Nat.mul_le_mul_right _ hr
 omega
theorem gd_lt {N2 low f s:Nat}:gD N2 low f s<B9:=Nat.lt_of_le_of_lt (Nat.min_le_right _ _) (by have:=cB;omega)
theorem gd3 {N2 low f s:Nat} (hf:0<f):gD N2 low f s*(f*B9+s)≤N2*B9+low :=
 Nat.le_trans (Nat.mul_le_mul_right _ (Nat.min_le_left _ _)) (Nat.div_mul_le_self _ _)
theorem u3_alg' (A P V low mid h:Nat):A+P*low+P*V*mid+P*V*V*h=((h*V+mid)*V+low)*P+A:=by grind
theorem v2_alg' (A P V s f:Nat):A+P*s+P*V*f=(f*V+s)*P+A:=by grind
theorem gd_ok {us vs:List Nat} {m h mid low f s:Nat} (hu:us.length=m+3) (hv:vs.length=m+2) (du:Dig B9 us) (dv:Dig B9 vs)
 (g0:us[m+2]?=some h) (g1:us[m+1]?=some mid) (g2:us[m]?=some low) (g3:vs[m+1]?=some f) (g4:vs[m]?=some s) (hf:0<f) (hlt:val B9 us<val B9 vs*B9) :
 val B9 us/val B9 vs≤gD (h*B9+mid) low f s∧gD (h*B9+mid) low f s≤val B9 us/val B9 vs+1∧h≤f:=by
 obtain ⟨k0,e0⟩:=List.getElem?_eq_some_iff.1 g0
 obtain ⟨k1,e1⟩:=List.getElem?_eq_some_iff.1 g1
 obtain ⟨k2,e2⟩:=List.getElem?_eq_some_iff.1 g2
 obtain ⟨k3,e3⟩:=List.getElem?_eq_some_iff.1 g3
 obtain ⟨k4,e4⟩:=List.getElem?_eq_some_iff.1 g4
 have l4:=dv.at_ g4
 have hul:=bW (du.take m)
 have hvl:=bW (dv.take m)
 rw [List.length_take,Nat.min_eq_left (by omega)] at hul hvl
 have hU:val B9 us=val B9 (us.take m)+B9^m*low+B9^(m+1)*mid+B9^(m+2)*h:=by
  have:val B9 us=val B9 (us.take (m+2+1)):=by rw [List.take_of_length_le (by omega)]
  rw [this,aF _ _ _ k0,aF _ _ _ k1,aF _ _ _ k2,e0,e1,e2]
 have hV:val B9 vs=val B9 (vs.take m)+B9^m*s+B9^(m+1)*f:=by
  have:val B9 vs=val B9 (vs.take (m+1+1)):=by rw [List.take_of_length_le (by omega)]
  rw [this,aF _ _ _ k3,aF _ _ _ k4,e3,e4]
 have U3:val B9 us=((h*B9+mid)*B9+low)*B9^m+val B9 (us.take m):=by
  rw [hU,show B9^(m+2)=B9^m*B9*B9 from by rw [Nat.pow_succ,Nat.pow_succ],Nat.pow_succ]
  exact u3_alg' _ _ _ _ _ _
 have V2:val B9 vs=(f*B9+s)*B9^m+val B9 (vs.take m):=by
  rw [hV,Nat.pow_succ]
  exact v2_alg' _ _ _ _ _
 have hfB:B9≤f*B9+s:=by
  have:1*B9≤f*B9:=Nat.mul_le_mul_right _ hf
  omega
 have hVp:0<val B9 vs:=by
  have:0<B9^(m+1)*f:=Nat.mul_pos (Nat.pow_pos cB) hf
  omega
 have hq:val B9 us/val B9 vs<B9:=by rw [Nat.div_lt_iff_lt_mul hVp,Nat.mul_comm];exact hlt
 refine ⟨Nat.le_min.2 ⟨oG (u2:=(h*B9+mid)*B9+low) (v1:=f*B9+s) U3 V2 hul (by have:=cB;omega),by omega⟩,guess_le U3 V2 hvl (gd3 hf) (Nat.le_of_lt gd_lt) hfB,?_⟩
 rcases Nat.lt_or_ge f h with e|e
 ·exfalso
  have h1:B9^(m+2)*(f+1)≤B9^(m+2)*h:=Nat.mul_le_mul_left _ e
  have h2:val B9 vs<B9^(m+1)*(f+1):=by
   have h3:B9^m*(s+1)≤B9^m*B9:=Nat.mul_le_mul_left _ l4
   rw [Nat.mul_add,Nat.mul_one,← Nat.pow_succ] at h3
   rw [Nat.mul_add,Nat.mul_one]
   have h4:m.succ=m+1:=rfl
   rw [h4] at h3
   omega
  have h5:val B9 vs*B9<B9^(m+1)*(f+1)*B9:=Nat.mul_lt_mul_of_pos_right h2 cB
  have h6:B9^(m+1)*(f+1)*B9=B9^(m+2)*(f+1):=by rw [Nat.pow_succ B9 (m+1),Nat.mul_right_comm]
  omega
 ·exact e
theorem guessFacts {m s rs low:Nat} (hm:m<1000000000) (hs:s<1000000000) (hr:rs<1000000000) (hl:low<1000000000):∃ P R S:Nat,(m:Int)*(s:Int)=(P:Int)∧(rs:Int)*1000000000=(R:Int)∧(R:Int)+(low:Int)=(S:Int) ∧
 wrap64 (P:Int)=P∧wrap64 (R:Int)=R∧wrap64 (S:Int)=S∧P=m*s∧S=rs*1000000000+low:=by
 have h1:m*s≤999999999*999999999:=Nat.mul_le_mul (by omega) (by omega)
 have h2:(m:Int)*(s:Int)=((m*s:Nat):Int):=by simp
 generalize m*s=P at *
 exact ⟨P,rs*1000000000,rs*1000000000+low,h2,by omega,by omega,eN (by omega),eN (by omega),eN (by omega),rfl,rfl⟩
theorem guessTop {h mid f:Nat} (hh:h<1000000000) (hmid:mid<1000000000) (hf0:0<f) (hf:f<1000000000) (hle:h≤f):∃ u N q r:Nat,(h:Int)*1000000000=(u:Int)∧(u:Int)+(mid:Int)=(N:Int)∧wrap64 (u:Int)=u∧wrap64 (N:Int)=N ∧
 (N:Int).tdiv f=(q:Int)∧(N:Int)/f=(q:Int)∧(N:Int).tmod f=(r:Int)∧(N:Int)%f=(r:Int)∧wrap64 (q:Int)=q∧N=h*1000000000+mid∧q*f+r=N∧r<f∧q=N/f∧q≤2000000000:=by
 have hq:(h*1000000000+mid)/f≤2000000000:=by
  refine Nat.le_of_lt ((Nat.div_lt_iff_lt_mul hf0).2 ?_)
  omega
 refine ⟨h*1000000000,h*1000000000+mid,(h*1000000000+mid)/f,(h*1000000000+mid)%f,by omega,by omega,eN (by omega),eN (by omega),?_,?_,?_,?_,eN (by omega),rfl,?_,Nat.mod_lt _ hf0,rfl,hq⟩
 ·rw [Int.tdiv_eq_ediv_of_nonneg (by omega)];simp
 ·simp
 ·rw [Int.tmod_eq_emod_of_nonneg (by omega)];simp
 ·simp
 ·rw [Nat.mul_comm];exact Nat.div_add_mod _ _
theorem put_dig9 {ys zs:List Nat} {o:Nat} (hy:Dig B9 ys) (hz:Dig B9 zs):Dig B9 (put ys o zs):=(hy.take _).app (hz.app (hy.drop _))
def LongJ (V U0 n' L:Nat) (us qs:List Nat) (k:Nat):Prop :=
 Dig B9 us∧us.length=L+n'∧Dig B9 qs∧qs.length=L∧val B9 (us.drop k)<V∧val B9 (qs.drop k)*V*B9^k+val B9 us=U0
theorem LongJ.window {V U0 n' L m:Nat} {us qs:List Nat} (h:LongJ V U0 n' L us qs (m+1)) (hm:m<L) (hV:V≤B9^n') :
 val B9 ((us.drop m).take (n'+1))=val B9 (us.drop m)∧val B9 (us.drop (m+(n'+1)))=0∧val B9 (us.drop m)<V*B9:=by
 obtain ⟨h1,h2,h3,h4,h5,h6⟩:=h
 have e1:=lJ B9 us m (by omega)
 have l1:=h1.get m (by omega)
 have hlt:val B9 (us.drop m)<V*B9:=by
  have:B9*(val B9 (us.drop (m+1))+1)≤B9*V:=Nat.mul_le_mul_left _ h5
  rw [Nat.mul_add,Nat.mul_one] at this
  rw [Nat.mul_comm V]
  omega
 have e2:=dX B9 (us.drop m) (n'+1) (by simp;omega)
 rw [List.drop_drop] at e2
 have hz:val B9 (us.drop (m+(n'+1)))=0:=by
  rcases Nat.eq_zero_or_pos (val B9 (us.drop (m+(n'+1)))) with e|e
  ·exact e
  ·exfalso
   have a1:B9^(n'+1)*1≤B9^(n'+1)*val B9 (us.drop (m+(n'+1))):=Nat.mul_le_mul_left _ e
   have a2:V*B9≤B9^n'*B9:=Nat.mul_le_mul_right _ hV
   rw [← Nat.pow_succ] at a2
   have:n'.succ=n'+1:=rfl
   rw [this] at a2
   omega
 rw [hz] at e2
 exact ⟨by omega,hz,hlt⟩
theorem LongJ.step {V U0 n' L m:Nat} {us qs zs:List Nat} (h:LongJ V U0 n' L us qs (m+1)) (hm:m<L) (hV:V≤B9^n') (hV0:0<V)
 (hz:zs.length=n'+1) (hzd:Dig B9 zs) (hzv:val B9 zs=val B9 ((us.drop m).take (n'+1))%V) :
 LongJ V U0 n' L (put us m zs) (qs.set m (val B9 ((us.drop m).take (n'+1))/V)) m:=by
 obtain ⟨w1,w2,w3⟩:=h.window hm hV
 obtain ⟨h1,h2,h3,h4,h5,h6⟩:=h
 rw [w1] at hzv ⊢
 have hq:val B9 (us.drop m)/V<B9:=by rw [Nat.div_lt_iff_lt_mul hV0,Nat.mul_comm];exact w3
 have hlen:m+zs.length≤us.length:=by omega
 have e1:val B9 ((put us m zs).drop m)=val B9 (us.drop m)%V:=by
  rw [yE hlen,fN,hz,w2,hzv,Nat.mul_zero,Nat.add_zero]
 have e2:val B9 (put us m zs)=val B9 (us.take m)+B9^m*(val B9 (us.drop m)%V):=by
  rw [dX B9 (put us m zs) m (by rw [cV hlen];omega),uE hlen,e1]
 have e3:=dX B9 us m (by omega)
 have e4:(qs.set m (val B9 (us.drop m)/V)).drop m=val B9 (us.drop m)/V::qs.drop (m+1):=by
  rw [List.drop_eq_getElem_cons (by simp;omega),List.getElem_set_self,List.drop_set_of_lt (by omega)]
 have hdm:=Nat.div_add_mod (val B9 (us.drop m)) V
 refine ⟨put_dig9 h1 hzd,by rw [cV hlen,h2],h3.set hq,by simp [h4],by rw [e1];exact Nat.mod_lt _ hV0,?_⟩
 rw [e4,e2,← h6,e3,Nat.pow_succ]
 exact long_alg _ _ _ _ _ _ _ _ hdm
theorem LongJ.finish {V n' L d f N:Nat} {us qs:List Nat} (h:LongJ V (N*f) n' L us qs 0) (hV:V=d*f) (hd:0<d) (hf:0<f) :
 val B9 qs=N/d∧val B9 us=N%d*f∧val B9 us<V:=by
 obtain ⟨_,_,_,_,h5,h6⟩:=h
 have hV0:0<V:=by rw [hV];exact Nat.mul_pos hd hf
 simp only [List.drop_zero,Nat.pow_zero,Nat.mul_one] at h5 h6
 have e1:N*f/V=val B9 qs:=by rw [← h6,Nat.add_comm,Nat.add_mul_div_right _ _ hV0,Nat.div_eq_of_lt h5];omega
 have e2:N*f%V=val B9 us:=by rw [← h6,Nat.add_comm,Nat.add_mul_mod_self_right,Nat.mod_eq_of_lt h5]
 refine ⟨?_,?_,h5⟩
 ·rw [← e1,hV,Nat.mul_div_mul_right _ _ hf]
 ·rw [← e2,hV,Nat.mul_mod_mul_right]
theorem LongJ.start {V U0 n n' : Nat} {us:List Nat} {N d f:Nat} (hu:Dig B9 us) (hul:us.length=n+1) (hU:val B9 us=U0) (hU0:U0=N*f) (hN:N<B9^n) (hV:V=d*f) (hf:0<f) (hd:B9^(n'-1)≤d) (hn:n'≤n) (hn0:0<n') :
 LongJ V U0 n' (n-n'+1) us (List.replicate (n-n'+1) 0) (n-n'+1):=by
 refine ⟨hu,by omega,Dig.replicate cB _,by simp,?_,?_⟩
 ·have e:=dX B9 us (n-n'+1) (by omega)
  have a1:N*f<B9^n*f:=Nat.mul_lt_mul_of_pos_right hN hf
  have a2:B9^n=B9^(n-n'+1)*B9^(n'-1):=by rw [← Nat.pow_add];congr 1;omega
  have a3:B9^(n-n'+1)*val B9 (us.drop (n-n'+1))<B9^(n-n'+1)*(B9^(n'-1)*f):=by
   rw [← Nat.mul_assoc,← a2];omega
  have a4:=Nat.lt_of_mul_lt_mul_left a3
  have a5:B9^(n'-1)*f≤d*f:=Nat.mul_le_mul_right _ hd
  rw [hV];omega
 ·rw [List.drop_of_length_le (by simp)]
  simp [val,hU]
theorem scaled_len {ys vs:List Nat} {y f:Nat} (hy:Dig B9 ys) (hl:0<ys.length) (htop:ys[ys.length-1]?=some y) (hv:Dig B9 vs) (hn:Norm vs) (ny:Norm ys) (e:val B9 vs=val B9 ys*f) (hf0:0<f) (hf:f*(y+1)≤B9):vs.length=ys.length:=by
 obtain ⟨m,hm⟩:∃ m,ys.length=m+1:=⟨ys.length-1,by omega⟩
 rw [hm,show m+1-1=m from by omega] at htop
 obtain ⟨k,ey⟩:=List.getElem?_eq_some_iff.1 htop
 have hval:val B9 ys=val B9 (ys.take m)+B9^m*y:=by
  have:val B9 ys=val B9 (ys.take (m+1)):=by rw [List.take_of_length_le (by omega)]
  rw [this,aF _ _ _ k,ey]
 have hlow:=bW (hy.take m)
 rw [List.length_take,Nat.min_eq_left (by omega)] at hlow
 have h1:val B9 ys+1≤B9^m*(y+1):=by rw [hval,Nat.mul_add,Nat.mul_one];omega
 have h2:val B9 vs<B9^(m+1):=by
  have h3:(val B9 ys+1)*f≤B9^m*(y+1)*f:=Nat.mul_le_mul_right _ h1
  have h4:B9^m*(y+1)*f≤B9^m*B9:=by rw [Nat.mul_assoc,Nat.mul_comm (y+1)];exact Nat.mul_le_mul_left _ hf
  rw [Nat.add_mul,Nat.one_mul,← e] at h3
  rw [Nat.pow_succ]
  omega
 have h5:=aV dN hn h2
 have hne:ys≠[]:=by rintro rfl;simp at hl
 have h6:=ny.ge (B:=B9) hne
 rw [hm,Nat.add_sub_cancel] at h6
 have h7:val B9 ys*1≤val B9 ys*f:=Nat.mul_le_mul_left _ hf0
 have h8:=bW hv
 rcases Nat.lt_or_ge vs.length (m+1) with h|h
 ·exfalso
  have:B9^vs.length≤B9^m:=Nat.pow_le_pow_right cB (by omega)
  omega
 ·omega
def TakeK (ys vs zs:List Nat) (o t k bo:Nat):Prop:=zs.length=k∧Dig B9 zs∧bo≤B9∧val B9 zs+t*val B9 (vs.take k)=val B9 ((ys.drop o).take k)+B9^k*bo
theorem TakeK.step {ys vs zs:List Nat} {o t k bo x v p e r:Nat} (h:TakeK ys vs zs o t k bo) (hx:ys[o+k]?=some x) (hv:vs[k]?=some v) (hp:p=t*v+bo) (hr:r<B9) (he:p/B9+e≤B9) (hx2:r+p%B9=x+B9*e) :
 TakeK ys vs (zs ++ [r]) o t (k+1) (p/B9+e):=by
 obtain ⟨h1,h2,h3,h4⟩:=h
 have hxd:(ys.drop o)[k]?=some x:=by rw [List.getElem?_drop];exact hx
 obtain ⟨k1,ex⟩:=List.getElem?_eq_some_iff.1 hxd
 obtain ⟨k2,ev⟩:=List.getElem?_eq_some_iff.1 hv
 refine ⟨by simp [h1],h2.app (Dig.cons hr (Dig.nil _)),he,?_⟩
 rw [cM,aF _ _ _ k1,aF _ _ _ k2,ex,ev,h1,Nat.pow_succ]
 have hdm:=Nat.div_add_mod p B9
 generalize p/B9=q at *
 generalize p%B9=s at *
 clear h2 h3 hr he ex ev k1 k2 hxd hx hv
 generalize B9^k=P at *
 generalize B9=V at *
 subst hp
 grind
def BackK (ys vs zs:List Nat) (o k cy:Nat):Prop:=zs.length=k∧Dig B9 zs∧cy≤1∧val B9 zs+B9^k*cy=val B9 ((ys.drop o).take k)+val B9 (vs.take k)
theorem BackK.step {ys vs zs:List Nat} {o k cy x v s:Nat} (h:BackK ys vs zs o k cy) (hx:ys[o+k]?=some x) (hv:vs[k]?=some v) (hs:s=x+v+cy) (bx:x<B9) (bv:v<B9):BackK ys vs (zs ++ [s%B9]) o (k+1) (s/B9):=by
 obtain ⟨h1,h2,h3,h4⟩:=h
 have hxd:(ys.drop o)[k]?=some x:=by rw [List.getElem?_drop];exact hx
 obtain ⟨k1,ex⟩:=List.getElem?_eq_some_iff.1 hxd
 obtain ⟨k2,ev⟩:=List.getElem?_eq_some_iff.1 hv
 have hq:s/B9≤1:=by subst hs;rw [cN] at *;clear h4 hx hv hxd;omega
 refine ⟨by simp [h1],h2.app (Dig.cons (Nat.mod_lt _ cB) (Dig.nil _)),hq,?_⟩
 rw [cM,aF _ _ _ k1,aF _ _ _ k2,ex,ev,h1,Nat.pow_succ]
 have hdm:=Nat.div_add_mod s B9
 generalize s/B9=q at *
 generalize s%B9=r at *
 clear h2 h3 ex ev k1 k2 hxd hx hv bx bv hq
 generalize B9^k=P at *
 generalize B9=V at *
 subst hs
 grind
def Ow (w:World) (g c:Nat) (zs:List Int):Prop := ∃ cur:Array Value,w.heap[g]?=some (.cells cur 3 (0,0))∧cur.size=c∧zs.length≤c∧cur.toList.take zs.length=zs.map (Value.int .i64)
section
variable {w w' : World} {g c:Nat} {zs:List Int}
theorem Ow.lt (h:Ow w g c zs):g<w.heap.size:=by obtain ⟨cur,h1,_⟩:=h;exact (Array.getElem?_eq_some_iff.1 h1).1
theorem Ow.cell (h:Ow w g c zs) {i:Nat} {z:Int} (hz:zs[i]?=some z):w.cell? ⟨g,i,none⟩=some (.int .i64 z):=by
 obtain ⟨cur,h1,h2,h3,h4⟩:=h
 rw [oS h1,← Array.getElem?_toList]
 have hi:=(List.getElem?_eq_some_iff.1 hz).1
 have:(cur.toList.take zs.length)[i]?=some (.int .i64 z):=by rw [h4,List.getElem?_map,hz];rfl
 rw [List.getElem?_take,if_pos hi] at this
 exact this
theorem Ow.frozen (h:Ow w g c zs) (i:Nat):w.frozen? ⟨g,i,none⟩=false:=by
 obtain ⟨cur,h1,_⟩:=h
 simp [World.frozen?,h1]
theorem Ow.set_ (h:Ow w g c zs) (i:Nat) (z:Int):Ow (w.setCell ⟨g,i,none⟩ (.int .i64 z)) g c (zs.set i z):=by
 obtain ⟨cur,h1,h2,h3,h4⟩:=h
 refine ⟨cur.setIfInBounds i (.int .i64 z),?_,by simp [h2],by simpa using h3,?_⟩
 ·simp only [World.setCell,Array.getElem?_modify,h1];simp
 ·rw [List.length_set,Array.toList_setIfInBounds,List.take_set,h4,List.map_set]
theorem Ow.far (h:Ow w g c zs) {p:Addr} (hp:g≠p.block) (u:Value):Ow (w.setCell p u) g c zs:=by
 obtain ⟨cur,h1,h2⟩:=h
 exact ⟨cur,(Below.heap_setCell w p u g hp).trans h1,h2⟩
theorem Ow.below {B:Nat} (h:Ow w g c zs) (hb:Below B w w') (hg:g<B):Ow w' g c zs:=by
 obtain ⟨cur,h1,h2⟩:=h
 exact ⟨cur,(hb.block g hg).trans h1,h2⟩
theorem Ow.grown {row:Option Nat} (h:Ow w g c zs) (hg:w.grownBy w' row) (hr:some g≠row):Ow w' g c zs:=by
 obtain ⟨cur,h1,h2⟩:=h
 exact ⟨cur,(hg.block g (Array.getElem?_eq_some_iff.1 h1).1 hr).trans h1,h2⟩
end
abbrev uP (xs:List Nat):List Int:=xs.map (fun (x:Nat)=>(x:Int))
theorem Ow.rd {w:World} {g c:Nat} {xs:List Nat} (h:Ow w g c (uP xs)) (hc:c≤maxLen):Ri w (some ⟨g,0,none⟩) xs.length c xs:=by
 have hl:=h.lt
 refine ⟨rfl,?_,hc,fun _=>⟨_,rfl,hl,fun j x hx=>?_⟩⟩
 ·obtain ⟨cur,_,_,h3,_⟩:=h;simpa using h3
 ·have:(⟨g,0,none⟩:Addr).add j=⟨g,j,none⟩:=by unfold Addr.add;split <;> simp_all
  rw [this]
  exact h.cell (by rw [List.getElem?_map,hx];rfl)
theorem ow_of_row {w:World} {base n:Nat} {v:Value} {xs:List Nat} (h:w.ownsRow base 3 1 v n (xs.map dY)) (hn:0<n):∃ g c,v = .slice (some ⟨g,0,none⟩) n c∧base≤g∧c≤maxLen∧Ow w g c (uP xs)∧xs.length=n:=by
 obtain ⟨h1,h2⟩:=h
 have hl:xs.length=n:=by simpa using h1
 rcases h2 with ⟨rfl,rfl⟩|⟨g,cap,cur,rfl,e2,e3,e4,e5,e6,e7⟩
 ·omega
 ·refine ⟨g,cap,rfl,e2,e5,⟨cur,e3,by simpa using e6,by simp;omega,?_⟩,hl⟩
  have:(uP xs).length=n*1:=by simp [hl]
  rw [this,e7]
  simp [dY]
theorem zB {xs:List Nat} {i x:Nat} (h:xs[i]?=some x):(uP xs)[i]?=some (x:Int):=by rw [List.getElem?_map,h];rfl
theorem zC (xs:List Nat) (i x:Nat):(uP xs).set i (x:Int)=uP (xs.set i x):=by simp [List.map_set]
theorem row_nil {w:World} {base g:Nat} (h:w.heap[g]?=some (.cells #[] 3 (0,0))) (hb:base≤g):w.ownsRow base 3 1 (.slice (some ⟨g,0,none⟩) 0 0) 0 ([]:List Value) :=
 ⟨rfl,.inr ⟨g,0,#[],rfl,hb,h,aR _,Nat.zero_le _,rfl,rfl⟩⟩
theorem wpList_src {ops:Array Oper} {rest:List Oper} {o:Oper} {a:Act} {Q:Exit→Act→World→Prop} (hgd:o.guard=none) (s x:Operand)
 (ho:o.op = .call { callee := .builtin .append,args := #[s,x],argTypes := #[84,84] }) {base m c:Nat} {v:Value} {A:Option Addr} {xs:List Nat} {w:World} (hs:a.eval s=v) (hown:w.ownsRow base 3 1 v 0 ([]:List Value))
 (hx:a.eval x = .slice A m c) (hr:Ri w A m c xs) (h0:0<m) (hm:m≤2199023255999) (hbase:base≤w.heap.size)
 (h:∀ v' w',w'.ownsRow base 3 1 v' m (xs.map dY)→w.grownBy w' v.ownBlock→wpList Tryz.prog ops Q rest (a.put o.dst v') w') :
 wpList Tryz.prog ops Q (o::rest) a w:=by
 obtain ⟨i0,hi,hz0,hz1,hz2⟩:=info_parts gU
 obtain ⟨ad,rfl,_,hc⟩:=hr.2.2.2 h0
 refine wpList_append_own _ hgd s x 84 ho base 3 i0 (.int .i64 0) 1 8 Tryz.underlying84 hi hz0 hz1 hz2 rfl (by decide) v 0 [] hs hown ad m c (xs.map dY) hx (by simp [hr.len]) ?_ ?_ ?_ ?_ hbase ?_
 ·intro j u hj
  rw [List.getElem?_map,Option.map_eq_some_iff] at hj
  obtain ⟨x,hx,rfl⟩:=hj
  exact hc j x hx
 ·intro u hu
  rw [List.mem_map] at hu
  obtain ⟨x,_,rfl⟩:=hu
  rfl
 ·show 0+m≤9223372036854775807;omega
 ·omega
 ·intro v' w' h1 h2 _
  rw [Nat.zero_add,List.nil_append] at h1
  exact h v' w' h1 h2
def GInv (f N G m1 rs:Nat):Prop:=m1*f+rs=N∧G≤m1∧m1≤2000000000∧rs<1000000000
def gMu (v:Value):Nat:=(intOf v).toNat
set_option maxRecDepth 100000 in
theorem rguess_any (A:Option Addr) (n c:Nat) (xs:List Nat) (A' : Option Addr) (m n' c' : Nat) (ys:List Nat) (j:Nat) (w:World) (h:Ri w A n c xs) (hm2:n'=m+2) (h' : Ri w A' n' c' ys) (hd:Dig B9 xs) (hd' : Dig B9 ys)
 (hn:n≤2199023255999) (hj:j+(m+2)<n) (hi mid low f s:Nat) (g0:xs[j+(m+2)]?=some hi) (g1:xs[j+(m+1)]?=some mid) (g2:xs[j+m]?=some low) (g3:ys[m+1]?=some f) (g4:ys[m]?=some s) (hf0:0<f) (hle:hi≤f) :
 Calls Tryz.prog 223 #[.slice A n c,.slice A' n' c',.int .i64 (j:Int)] w (Gives w (.int .i64 ((gD (hi*B9+mid) low f s:Nat):Int))):=by
 have hnc:n≤c:=h.cap
 have hcm:c≤9223372036854775807:=h.2.2.1
 have hnc' : n'≤c':=h'.cap
 have hcm' : c'≤9223372036854775807:=h'.2.2.1
 have b0:=hd.at_ g0
 have b1:=hd.at_ g1
 have b2:=hd.at_ g2
 have b3:=hd'.at_ g3
 have b4:=hd'.at_ g4
 rw [cN] at b0 b1 b2 b3 b4
 obtain ⟨ad,q0,rfl,hblk,e0,c0⟩:=h.at_ hj
 rw [g0] at e0;injection e0 with e0;subst e0
 obtain ⟨ad1,q1,hA1,_,e1,c1⟩:=h.at_ (k:=j+(m+1)) (by omega)
 rw [g1] at e1;injection e1 with e1;subst e1
 injection hA1 with hA1;subst hA1
 obtain ⟨ad1,q1,hA1,_,e1,c2⟩:=h.at_ (k:=j+m) (by omega)
 rw [g2] at e1;injection e1 with e1;subst e1
 injection hA1 with hA1;subst hA1
 obtain ⟨ad',q1,rfl,hblk',e1,c3⟩:=h'.at_ (k:=m+1) (by omega)
 rw [g3] at e1;injection e1 with e1;subst e1
 obtain ⟨ad1,q1,hA1,_,e1,c4⟩:=h'.at_ (k:=m) (by omega)
 rw [g4] at e1;injection e1 with e1;subst e1
 injection hA1 with hA1;subst hA1
 obtain ⟨a0,ha0⟩:∃ a,a=j+(m+2):=⟨_,rfl⟩
 obtain ⟨a1,ha1⟩:∃ a,a=j+(m+1):=⟨_,rfl⟩
 obtain ⟨a2,ha2⟩:∃ a,a=j+m:=⟨_,rfl⟩
 obtain ⟨p1,hp1⟩:∃ a,a=m+1:=⟨_,rfl⟩
 rw [← ha0] at c0
 rw [← ha1] at c1
 rw [← ha2] at c2
 rw [← hp1] at c3
 rw [← ha0] at hj
 have x0:(j:Int)+(n' : Int)=(a0:Int):=by omega
 have x1:(a0:Int)-1=(a1:Int):=by omega
 have x2:(a0:Int)-2=(a2:Int):=by omega
 have x3:(n' : Int)-1=(p1:Int):=by omega
 have x4:(n' : Int)-2=(m:Int):=by omega
 have y0:(a0:Int)≤2199023255999:=by omega
 have y1:(a1:Int)≤2199023255999:=by omega
 have y2:(a2:Int)≤2199023255999:=by omega
 have y3:(p1:Int)≤2199023255999:=by omega
 have y4:(m:Int)≤2199023255999:=by omega
 have i0:(a0:Int)<n:=by omega
 have i1:(a1:Int)<n:=by omega
 have i2:(a2:Int)<n:=by omega
 have i3:(p1:Int)<n':=by omega
 have i4:(m:Int)<n':=by omega
 have n0:(0:Int)≤a0:=Int.natCast_nonneg _
 have n1:(0:Int)≤a1:=Int.natCast_nonneg _
 have n2:(0:Int)≤a2:=Int.natCast_nonneg _
 have n3:(0:Int)≤p1:=Int.natCast_nonneg _
 have n4:(0:Int)≤m:=Int.natCast_nonneg _
 clear ha0 ha1 ha2 hp1 hm2 hj hn
 obtain ⟨u,N,q,r,e1,e2,e3,e4,t1,t2,t3,t4,t5,hN,hdm,hrf,hq,hq2⟩:=guessTop b0 b1 hf0 b3 hle
 have E:=aH (aI e3 (aI e4 (aI t1 (aI t2 (aI t3 (aI t4 t5))))))
 clear e3 e4 t1 t2 t3 t4 t5
 have e3:(u:Int)≤1000000000000000000:=by omega
 have e4:(N:Int)≤1000000001000000000:=by omega
 have hst:gD (hi*B9+mid) low f s≤q:=by rw [hq,hN,← cN];exact gd_start hf0 b2
 have hNB:N=hi*B9+mid:=hN
 have hz0:((f:Int)==0)=false:=by simp;omega
 have hz1:¬ (f:Int)=0:=by omega
 have hz2:¬ (f:Int) = -1:=by omega
 have hz3:((f:Int) == -1)=false:=by simp
 obtain ⟨G,hG⟩:∃ G,G=gD (hi*B9+mid) low f s:=⟨_,rfl⟩
 rw [← hG] at hst ⊢
 have HS:=aH (aI hst (aI hNB (aI hdm (aI hrf (aI hq2 (aI b0 (aI b1 (aI b2 (aI b3 (aI b4 (aI hf0 (aI hle hG))))))))))))
 clear hst hNB hdm hrf hq2 b0 b1 b2 b3 b4 hf0 hle hG hN hq h h' hd hd' g0 g1 g2 g3 g4
 have CW:=aH (aI c0 (aI c1 (aI c2 (aI c3 (aI c4 (aI hblk hblk'))))))
 have hbs:(s:Int)≤999999999:=by have:=HS.out.2.2.2.2.2.2.2.2.2.1;omega
 have hbl:(low:Int)≤999999999:=by have:=HS.out.2.2.2.2.2.2.2.1;omega
 have hbf:(f:Int)≤999999999:=by have:=HS.out.2.2.2.2.2.2.2.2.1;omega
 go_enter Tryz.func223,Tryz.ntmps223
 go_wp2
 go_quiet (fail)
 have HC:=aH (show (w.drewN nq).cell? (ad'.add p1)=some (.int .i64 (f:Int))∧Below w.heap.size w (w.drewN nq) from ⟨c3,bZ (aB _ _) _⟩)
 clear c0 c1 c2 c3 c4 hblk hblk'
 generalize w.drewN nq=w2 at *
 obtain ⟨c3,hb2⟩:=HC.out
 go_wp2
 go_quiet (fail)
 have hb3:=bZ hb2 nq
 clear c3 hb2 HC
 generalize w2.drewN nq=w3 at *
 go_wp2
 go_loopw [9,10] (fun tv rv wr => ∃ m1 rs:Nat,tv = .int .i64 (m1:Int)∧rv = .int .i64 (rs:Int)∧GInv f N G m1 rs∧Below w.heap.size w wr) (fun tv _ _=>gMu tv)
 case atStart =>
  obtain ⟨_,_,t1,t2,t3,t4,t5⟩:=E.out
  refine ⟨q,r,?_,?_,⟨HS.out.2.2.1,HS.out.1,HS.out.2.2.2.2.1,by have:=HS.out.2.2.2.1;have:=HS.out.2.2.2.2.2.2.2.2.1;omega⟩,hb3⟩
  ·first|rfl|rw [t1,t5]|rw [t2,t5]|(simp only [t1,t2,t5];done)
  ·first|rfl|rw [t3]|rw [t4]|(simp only [t3,t4];done)
 case round =>
  obtain ⟨m1,rs,rfl,rfl,hinv,hb⟩:=hrel
  have c2:=(hb.cell (p:=ad.add a2) (by rw [bK];exact CW.out.2.2.2.2.2.1)).trans CW.out.2.2.1
  have c3:=(hb.cell (p:=ad'.add p1) (by rw [bK];exact CW.out.2.2.2.2.2.2)).trans CW.out.2.2.2.1
  have c4:=(hb.cell (p:=ad'.add m) (by rw [bK];exact CW.out.2.2.2.2.2.2)).trans CW.out.2.2.2.2.1
  clear hb3 e1 e2 e3 e4
  by_cases hm:1000000000≤m1
  ·have k1:(1000000000:Int)≤m1:=by omega
   have hI:=hinv
   obtain ⟨j0,_,j3,j4⟩:=hinv
   have d1:(1:Int)≤m1:=by omega
   have d3:(m1:Int)≤2000000000:=by omega
   have d4:(rs:Int)≤999999999:=by omega
   have hG0:G≤m1-1:=by rw [HS.out.2.2.2.2.2.2.2.2.2.2.2.2];exact gd_cont1 (by rw [cN];omega)
   have hj:(m1-1)*f+(rs+f)=N:=by
    obtain ⟨m0,rfl⟩:∃ m0,m1=m0+1:=⟨m1-1,by omega⟩
    rw [Nat.add_mul,Nat.one_mul] at j0
    rw [Nat.add_sub_cancel];omega
   by_cases hr:1000000000≤rs+f
   ·have k3:(1000000000:Int)≤(rs:Int)+f:=by omega
    have hfin:G=m1-1:=by
     rw [HS.out.2.2.2.2.2.2.2.2.2.2.2.2]
     refine gd_over HS.out.2.2.2.2.2.2.2.2.2.2.1 (by rw [← HS.out.2.1];exact hj) HS.out.2.2.2.2.2.2.2.2.2.2.2.1 (by rw [cN];exact HS.out.2.2.2.2.2.2.1) (by rw [cN];exact HS.out.2.2.2.2.2.2.2.2.2.1) (by rw [cN];exact hr) (by rw [← HS.out.2.2.2.2.2.2.2.2.2.2.2.2];exact hG0)
    have HF:=aH hfin
    clear hfin hr hj hG0 j0 j3 j4 hI
    go_wp2
    go_quiet (fail)
    have c3' : (wr.drewN nq).cell? (ad'.add p1)=some (.int .i64 (f:Int)):=c3
    have hb4:=bZ hb nq
    clear c2 c3 c4 hb
    generalize wr.drewN nq=w4 at *
    go_wp2
    go_ret
    exact ⟨bX (by rw [HF.out];omega),hb4⟩
   ·have k3:decide ((1000000000:Int)≤(rs:Int)+f)=false:=by rw [decide_eq_false_iff_not];omega
    have HF:=aH (show GInv f N G (m1-1) (rs+f) from ⟨hj,hG0,by omega,by omega⟩)
    clear hr hj hG0 j0 j3 j4 hI
    go_wp2
    go_quiet (fail)
    have c3' : (wr.drewN nq).cell? (ad'.add p1)=some (.int .i64 (f:Int)):=c3
    have hb4:=bZ hb nq
    clear c2 c3 c4 hb
    generalize wr.drewN nq=w4 at *
    go_wp2
    go_roundw
    case rel=>exact ⟨m1-1,rs+f,by go_num,by go_num,HF.out,hb4⟩
    case measure=>show (intOf _).toNat<(intOf _).toNat;simp only [intOf];omega
  ·have k1:(m1:Int)<1000000000:=by omega
   obtain ⟨P,R,S,e1,e2,e3,f1,f2,f3,hP,hS⟩:=guessFacts (m:=m1) (s:=s) (rs:=rs) (low:=low) (by omega) (by omega) (by have:=hinv.2.2.2;omega) (by omega)
   have bP:(P:Int)≤1000000000000000000:=by
    have h1:m1*s≤999999999*999999999:=Nat.mul_le_mul (by omega) (by omega)
    clear f1 f2 f3
    omega
   have bR:(rs:Int)≤999999999:=by have:=hinv.2.2.2;clear f1 f2 f3;omega
   have hSI:(S:Int)=(rs:Int)*1000000000+low:=by clear f1 f2 f3;omega
   clear e2 e3 f2 f3
   by_cases hle:P≤S
   ·have hfin:G=m1:=by
     rw [HS.out.2.2.2.2.2.2.2.2.2.2.2.2]
     refine gd_exit HS.out.2.2.2.2.2.2.2.2.2.2.1 (by rw [← HS.out.2.1];exact hinv.1) (by rw [cN];clear f1;omega) (by rw [cN,← hP,← hS];exact hle) (by rw [← HS.out.2.2.2.2.2.2.2.2.2.2.2.2];exact hinv.2.1)
    have k2:(P:Int)≤(rs:Int)*1000000000+low:=by clear f1;omega
    have HF:=aH hfin
    have k4:decide ((1000000000:Int)≤m1)=false:=by rw [decide_eq_false_iff_not];clear f1;omega
    clear hfin hP hS hle hinv hSI f1 k1
    have bP2:(m1:Int)*(s:Int)≤1000000000000000000:=by rw [e1];exact bP
    have bP0:0≤(m1:Int)*(s:Int):=by rw [e1];exact Int.natCast_nonneg _
    have k6:decide ((rs:Int)*1000000000+low<(m1:Int)*(s:Int))=false:=by rw [decide_eq_false_iff_not,e1];exact Int.not_lt.2 k2
    clear e1 k2 bP
    go_wp2
    go_quiet (fail)
    clear x0 x1 x2 x3 x4 y0 y1 y2 y3 y4 i0 i1 i2 i3 i4 n0 n1 n2 n3 n4 hbl hbf hbs bR bP2 bP0 k4
    go_wp2
    go_ret
    exact ⟨bX (by rw [HF.out]),bZ hb _⟩
   ·have k2:(rs:Int)*1000000000+low<P:=by clear f1;omega
    have hm1:m1≠0:=fun e=>by rw [e,Nat.zero_mul] at hP;clear f1;omega
    have HG0:G≤m1-1:=by
     rw [HS.out.2.2.2.2.2.2.2.2.2.2.2.2]
     obtain ⟨m0,rfl⟩:∃ m0,m1=m0+1:=⟨m1-1,by clear f1;omega⟩
     exact gd_cont2 HS.out.2.2.2.2.2.2.2.2.2.2.1 (by rw [← HS.out.2.1];exact hinv.1) (by rw [cN,← hS,Nat.add_sub_cancel,← hP];exact hle)
    have k4:decide ((1000000000:Int)≤m1)=false:=by rw [decide_eq_false_iff_not];clear f1;omega
    clear hP hS hle hSI f1 k1
    have bP2:(m1:Int)*(s:Int)≤1000000000000000000:=by rw [e1];exact bP
    have bP0:0≤(m1:Int)*(s:Int):=by rw [e1];exact Int.natCast_nonneg _
    have k6:(rs:Int)*1000000000+low<(m1:Int)*(s:Int):=by rw [e1];exact k2
    clear e1 k2 bP
    have hI:=hinv
    obtain ⟨j0,_,j3,j4⟩:=hinv
    have d1:(1:Int)≤m1:=by omega
    have d3:(m1:Int)≤2000000000:=by omega
    have d4:(rs:Int)≤999999999:=by omega
    have hG0:G≤m1-1:=HG0
    have hj:(m1-1)*f+(rs+f)=N:=by
     obtain ⟨m0,rfl⟩:∃ m0,m1=m0+1:=⟨m1-1,by omega⟩
     rw [Nat.add_mul,Nat.one_mul] at j0
     rw [Nat.add_sub_cancel];omega
    by_cases hr:1000000000≤rs+f
    ·have k3:(1000000000:Int)≤(rs:Int)+f:=by omega
     have hfin:G=m1-1:=by
      rw [HS.out.2.2.2.2.2.2.2.2.2.2.2.2]
      refine gd_over HS.out.2.2.2.2.2.2.2.2.2.2.1 (by rw [← HS.out.2.1];exact hj) HS.out.2.2.2.2.2.2.2.2.2.2.2.1 (by rw [cN];exact HS.out.2.2.2.2.2.2.1) (by rw [cN];exact HS.out.2.2.2.2.2.2.2.2.2.1) (by rw [cN];exact hr) (by rw [← HS.out.2.2.2.2.2.2.2.2.2.2.2.2];exact hG0)
     have HF:=aH hfin
     clear hfin hr hj hG0 j0 j3 j4 hI HG0 hm1
     go_wp2
     go_quiet (fail)
     have c3' : (wr.drewN nq).cell? (ad'.add p1)=some (.int .i64 (f:Int)):=c3
     have hb4:=bZ hb nq
     clear c2 c3 c4 hb
     generalize wr.drewN nq=w4 at *
     go_wp2
     go_ret
     exact ⟨bX (by rw [HF.out];omega),hb4⟩
    ·have k3:decide ((1000000000:Int)≤(rs:Int)+f)=false:=by rw [decide_eq_false_iff_not];omega
     have HF:=aH (show GInv f N G (m1-1) (rs+f) from ⟨hj,hG0,by omega,by omega⟩)
     clear hr hj hG0 j0 j3 j4 hI HG0 hm1
     go_wp2
     go_quiet (fail)
     have c3' : (wr.drewN nq).cell? (ad'.add p1)=some (.int .i64 (f:Int)):=c3
     have hb4:=bZ hb nq
     clear c2 c3 c4 hb
     generalize wr.drewN nq=w4 at *
     go_wp2
     go_roundw
     case rel=>exact ⟨m1-1,rs+f,by go_num,by go_num,HF.out,hb4⟩
     case measure=>show (intOf _).toNat<(intOf _).toNat;simp only [intOf];omega
def MulO (xs ys zs:List Nat) (i:Nat):Prop :=
 Dig B9 zs∧zs.length=xs.length+ys.length∧val B9 (zs.take (i+ys.length))=val B9 (xs.take i)*val B9 ys∧∀ j,i+ys.length≤j→j<zs.length→zs[j]?=some 0
def MulK (xs ys zs ws:List Nat) (i k cy x:Nat):Prop :=
 Dig B9 ws∧ws.length=xs.length+ys.length∧cy<B9∧val B9 (ws.take (i+ys.length))+B9^(i+k)*cy=val B9 (zs.take (i+ys.length))+B9^i*(x*val B9 (ys.take k))∧∀ j,i+ys.length≤j→j<ws.length→ws[j]?=some 0
theorem MulO.start (xs ys:List Nat):MulO xs ys (List.replicate (xs.length+ys.length) 0) 0:=by
 refine ⟨Dig.replicate cB _,by simp,?_,fun j _ h=>?_⟩
 ·rw [List.take_replicate,lI];simp [val]
 ·simp at h;simp [List.getElem?_replicate,h]
theorem MulK.start {xs ys zs:List Nat} {i:Nat} (h:MulO xs ys zs i) (x:Nat):MulK xs ys zs zs i 0 0 x:=⟨h.1,h.2.1,cB,by simp [val],h.2.2.2⟩
theorem mulk_alg {V P v w o r s q cy y x m:Nat} (h:v+P*o=w+P*r) (e:w+P*cy=m) (hs:s=o+x*y+cy) (hdm:V*q+r=s):v+P*V*q=m+P*(x*y):=by subst hs;grind
theorem MulK.step {xs ys zs ws:List Nat} {i k cy x y o s:Nat} (h:MulK xs ys zs ws i k cy x) (hy:ys[k]?=some y) (ho:ws[i+k]?=some o) (hi:i<xs.length) (hs:s=o+x*y+cy) (hq:s/B9<B9) :
 MulK xs ys zs (ws.set (i+k) (s%B9)) i (k+1) (s/B9) x:=by
 obtain ⟨h1,h2,h3,h4,h5⟩:=h
 obtain ⟨hk,ey⟩:=List.getElem?_eq_some_iff.1 hy
 obtain ⟨hp,eo⟩:=List.getElem?_eq_some_iff.1 ho
 refine ⟨h1.set (Nat.mod_lt _ cB),by rw [List.length_set,h2],hq,?_,fun j hj hl=>?_⟩
 ·have e:=val_set B9 (ws.take (i+ys.length)) (i+k) (s%B9) (by rw [List.length_take];omega)
  rw [List.getElem_take,eo] at e
  rw [List.take_set,aF _ _ _ hk,ey]
  have hdm:=Nat.div_add_mod s B9
  rw [Nat.mul_add x,Nat.mul_add (B9^i),show x*(B9^k*y)=B9^k*(x*y) by rw [Nat.mul_left_comm],← Nat.mul_assoc (B9^i) (B9^k),← Nat.pow_add,← Nat.add_assoc (val B9 _)]
  rw [show i+(k+1)=i+k+1 from rfl,Nat.pow_succ]
  have e2:val B9 ((ws.take (i+ys.length)).set (i+k) (s%B9))+B9^(i+k)*o=val B9 (ws.take (i+ys.length))+B9^(i+k)*(s%B9):=e
  generalize B9^(i+k)=P at *
  generalize s/B9=q at *
  generalize s%B9=r at *
  exact mulk_alg e2 h4 hs hdm
 ·rw [List.getElem?_set_ne (by omega)]
  exact h5 j hj (by simpa using hl)
theorem mulo_alg {a v x y P Q c:Nat} (h4:v+Q*c=a*y+P*(x*y)):v+Q*c=(a+P*x)*y:=by grind
theorem MulK.finish {xs ys zs ws:List Nat} {i cy x:Nat} (h:MulK xs ys zs ws i ys.length cy x) (hz:MulO xs ys zs i) (hx:xs[i]?=some x):MulO xs ys (ws.set (i+ys.length) cy) (i+1):=by
 obtain ⟨h1,h2,h3,h4,h5⟩:=h
 obtain ⟨hi,ex⟩:=List.getElem?_eq_some_iff.1 hx
 refine ⟨h1.set h3,by rw [List.length_set,h2],?_,fun j hj hl=>?_⟩
 ·rw [show i+1+ys.length=i+ys.length+1 by omega,aF _ _ _ (by rw [List.length_set];omega),List.take_set_of_le (aR _),List.getElem_set_self,aF _ _ _ hi,ex]
  rw [List.take_of_length_le (aR _),hz.2.2.1] at h4
  exact mulo_alg h4
 ·rw [List.getElem?_set_ne (by omega)]
  exact h5 j (by omega) (by simpa using hl)
theorem MulO.finish {xs ys zs:List Nat} (h:MulO xs ys zs xs.length):val B9 zs=val B9 xs*val B9 ys:=by
 obtain ⟨_,h2,h3,_⟩:=h
 rwa [List.take_of_length_le (by omega),List.take_of_length_le (aR _)] at h3
set_option maxRecDepth 100000 in
theorem lB (A:Option Addr) (n c:Nat) (xs:List Nat) (A' : Option Addr) (n' c' : Nat) (ys:List Nat) (w:World) (h:Ri w A n c xs) (h' : Ri w A' n' c' ys)
 (hd:Dig B9 xs) (hd' : Dig B9 ys) (hn:n≤2199023255552) (hn' : n'≤2199023255552) :
 Calls Tryz.prog 186 #[.slice A n c,.slice A' n' c'] w (GivesDi w (val B9 xs*val B9 ys)):=by
 have HX:=aH (aI h hd)
 have HY:=aH (aI h' hd')
 have hnc:n≤c:=h.cap
 have hcm:c≤9223372036854775807:=h.2.2.1
 have hnc' : n'≤c':=h'.cap
 have hcm' : c'≤9223372036854775807:=h'.2.2.1
 obtain ⟨i0,hi,hz0,hz1,hz2⟩:=info_parts gU
 have HI:=aH (aI hi (aI hz0 (aI hz1 hz2)))
 clear h h' hd hd' hi hz0 hz1 hz2
 go_enter Tryz.func186,Tryz.ntmps186
 go_wp2_with (at_make;refine wpList_make_full _ rfl _ _ 84 rfl w.heap.size 3 i0 (.int .i64 0) 1 Tryz.underlying84 HI.out.1 HI.out.2.1 HI.out.2.2.1 _ _ _ _ (n+n') rfl rfl ?b0 ?b1 ?b2 ?b3 (aR _) ?_)
 case b0=>omega
 case b1=>omega
 case b2=>rw [HI.out.2.2.2];omega
 case b3=>show n+n'≤9223372036854775807;omega
 intro w1 hown hg1
 have hb1:Below w.heap.size w w1:=(aB _ _).grown hg1 (aR _) (fun k h=>by cases h)
 have hblk:=rH hown
 have e0:MulO xs ys (List.replicate (n+n') 0) 0:=by
  have:=MulO.start xs ys
  rwa [HX.out.1.len,HY.out.1.len] at this
 have HB:=aH hblk
 have H0:=aH e0
 clear hown hg1 hblk e0
 obtain ⟨g,hg⟩:∃ g,g=w.heap.size:=⟨_,rfl⟩
 rw [← hg] at HB ⊢
 have HG:=aH hg
 clear hg
 go_wp2
 go_loopw [6] (fun iv wr => ∃ (i:Nat) (zs:List Nat),i≤n∧iv = .int .i64 (i:Int)∧MulO xs ys zs i∧Bi wr g 3 zs∧Below w.heap.size w wr) (fun iv _=>n-(intOf iv).toNat)
 case atStart=>exact ⟨0,_,Nat.zero_le _,rfl,H0.out,HB.out,hb1⟩
 case round =>
  clear HB H0 hb1
  obtain ⟨i,zs,hk,rfl,hinv,hblk,hb⟩:=hrel
  by_cases hlt:i<n
  ·have a1:(i:Int)<n:=by omega
   obtain ⟨ad,x,hA,_,hx,_⟩:=(HX.out.1.below hb).at_ (k:=i) hlt
   have bx:x<1000000000:=HX.out.2.at_ hx
   have HO:=aH (aI hinv (aI hx (aI hlt bx)))
   have HB:=aH (aI hblk hb)
   clear hinv hx hblk hb bx hlt
   go_wp2
   go_loopw [7,8] (fun cv kv wr => ∃ (k cy:Nat) (ws:List Nat),k≤n'∧kv = .int .i64 (k:Int)∧cv = .int .i64 (cy:Int)∧MulK xs ys zs ws i k cy x∧Bi wr g 3 ws∧Below w.heap.size w wr) (fun _ kv _=>n'-(intOf kv).toNat)
   case atStart=>exact ⟨0,0,zs,Nat.zero_le _,rfl,rfl,MulK.start HO.out.1 x,HB.out.1,HB.out.2⟩
   case round =>
    clear HB
    obtain ⟨k,cy,ws,hk',rfl,rfl,hinv,hblk,hb⟩:=hrel
    have hwn:ws.length=n+n':=by rw [hinv.2.1,HX.out.1.len,HY.out.1.len]
    by_cases hkl:k<n'
    ·have a2:(k:Int)<n':=by omega
     have a3:i+k<n+n':=by omega
     obtain ⟨ad2,x2,hA2,_,hx2,hcx⟩:=(HX.out.1.below hb).at_ (k:=i) HO.out.2.2.1
     rw [HO.out.2.1] at hx2
     injection hx2 with hx2
     subst hx2
     subst hA2
     obtain ⟨ad',y,rfl,_,hy,hcy⟩:=(HY.out.1.below hb).at_ (k:=k) hkl
     obtain ⟨o,ho⟩:∃ o,ws[i+k]?=some o:=⟨_,List.getElem?_eq_getElem (by omega)⟩
     have hco:=hblk.cell ho
     have hfo:=hblk.frozen (i+k)
     obtain ⟨u,p,s,r,q,e1,e2,e3,e4,e5,e6,t1,t2,t3,t4,t5,hs,hr,hq,hqb,_⟩:=mulFacts (hinv.1.at_ ho) (Nat.le_of_lt HO.out.2.2.2) (HY.out.2.at_ hy) hinv.2.2.1
     have hst:=hinv.step hy ho (by rw [HX.out.1.len];exact HO.out.2.2.1) hs (by rw [cN,← hq];exact hqb HO.out.2.2.2)
     rw [cN,← hr,← hq] at hst
     have HS:=aH (aI hst (aI hblk (aI hb hkl)))
     have HT:=aH (aI t1 (aI t2 (aI t3 (aI t4 t5))))
     clear t1 t2 t3 t4 t5
     clear hst hb hblk hinv hs hr hq hqb hy ho hkl hwn hA
     go_wp2
     go_quiet (fail)
     have HS2:=aH (aI (HS.out.2.1.drewN nq) (bZ HS.out.2.2.1 nq))
     have hcz:(wr.drewN nq).cell? ⟨g,i+k,none⟩=some (.int .i64 (o:Int)):=hco
     have hfz:(wr.drewN nq).frozen? ⟨g,i+k,none⟩=false:=hfo
     clear hco hfo hcx hcy
     generalize wr.drewN nq=w2 at *
     simp only [e6]
     clear e1 e2 e3 e4 e5 e6
     go_wp2
     go_roundw
     case rel =>
      obtain ⟨_,t2,_,t4,t5⟩:=HT.out
      exact ⟨k+1,q,ws.set (i+k) r,HS.out.2.2.2,rfl,by rw [t4,t5],HS.out.1,by rw [t2];exact HS2.out.1.set_ _ _,HS2.out.2.setCell (by rw [HG.out];exact aR _) _⟩
     case measure =>
      have:=HS.out.2.2.2
      clear HT HS HS2 HO hcz hfz
      simp [intOf];omega
    ·obtain rfl:k=n':=by omega
     have a3:i+k<n+k:=by have:=HO.out.2.2.1;omega
     have ho:ws[i+k]?=some 0:=by
      have:=hinv.2.2.2.2 (i+k) (by rw [HY.out.1.len];exact aR _) (by omega)
      exact this
     have hco:=hblk.cell ho
     have hfo:=hblk.frozen (i+k)
     have hst:=hinv
     rw [← HY.out.1.len] at hst
     have hst:=hst.finish HO.out.1 HO.out.2.1
     rw [HY.out.1.len] at hst
     have hcb:cy<1000000000:=hinv.2.2.1
     have t5:wrap64 (cy:Int)=cy:=eN (by omega)
     have HS:=aH (aI hst (aI hblk hb))
     clear hst hblk hb hinv ho hwn hkl hcb hA
     simp only [Int.natCast_zero] at hco
     go_wp2
     go_roundw
     case rel=>exact ⟨i+1,ws.set (i+k) cy,HO.out.2.2.1,by first|rfl|go_num|simp,HS.out.1,HS.out.2.1.set_ _ _,HS.out.2.2.setCell (by rw [HG.out];exact aR _) _⟩
     case measure =>
      have:=HO.out.2.2.1
      clear HS HO hco hfo
      simp [intOf];omega
  ·obtain rfl:i=n:=by omega
   have hzn:zs.length=i+n':=by rw [hinv.2.1,HX.out.1.len,HY.out.1.len]
   have hrd:=hblk.rd (by rw [hzn];show i+n'≤9223372036854775807;omega)
   rw [hzn] at hrd
   have hfin:=hinv
   rw [← HX.out.1.len] at hfin
   have HF:=aH (aI hinv.1 (aI hfin.finish (aI hrd hb)))
   clear hinv hblk hzn hrd hfin hlt hb
   go_wp2_with (go_at_call 222;refine (mG _ _ _ zs _ HF.out.2.2.1 HF.out.1).mono ?_;rintro e w' ⟨⟨v,rfl,hv⟩,rfl⟩)
   go_ret
   exact ⟨v,rfl,by rw [← HF.out.2.1];exact hv,HF.out.2.2.2⟩
theorem Below.step_trans' {w0 w w' : World} (h:Below w0.heap.size w0 w) (h' : Below w.heap.size w w'):Below w0.heap.size w0 w':=h.trans (h'.mono h.size)
theorem fac_facts {y:Nat} (hy:y<1000000000) (hy0:0<y):∃ f:Nat,(1000000000:Int)/((y:Int)+1)=(f:Int)∧(f:Int)≤999999999∧0<f∧f<1000000000∧f*(y+1)≤B9:=by
 refine ⟨1000000000/(y+1),?_,?_,?_,?_,?_⟩
 ·simp
 ·have:1000000000/(y+1)<1000000000:=(Nat.div_lt_iff_lt_mul (by omega)).2 (by omega)
  omega
 ·exact Nat.div_pos (by omega) (by omega)
 ·exact (Nat.div_lt_iff_lt_mul (by omega)).2 (by omega)
 ·exact Nat.div_mul_le_self _ _
theorem takeFacts {x v t bo:Nat} (bx:x<1000000000) (bv:v<1000000000) (bt:t<1000000000) (bb:bo≤1000000000):∃ P p r e:Nat,(t:Int)*(v:Int)=(P:Int)∧0≤(t:Int)*(v:Int)∧(t:Int)*(v:Int)≤1000000000000000000 ∧
 (p:Int)=(t:Int)*(v:Int)+bo∧p=t*v+bo∧r<B9∧p/B9+e≤B9∧r+p%B9=x+B9*e ∧
 ((((t:Int)*(v:Int)+bo)%1000000000≤x∧(x:Int)-((t:Int)*(v:Int)+bo)%1000000000=(r:Int)∧e=0)∨((x:Int)<((t:Int)*(v:Int)+bo)%1000000000∧(x:Int)-((t:Int)*(v:Int)+bo)%1000000000+1000000000=(r:Int)∧e=1)):=by
 have h1:t*v≤999999999*999999999:=Nat.mul_le_mul (by omega) (by omega)
 have h2:(t:Int)*(v:Int)=((t*v:Nat):Int):=by simp
 rw [h2,cN]
 generalize t*v=P at *
 by_cases hc:(P+bo)%1000000000≤x
 ·exact ⟨P,P+bo,x-(P+bo)%1000000000,0,by omega,by omega,by omega,by omega,rfl,by omega,by omega,by omega,.inl ⟨by omega,by omega,rfl⟩⟩
 ·exact ⟨P,P+bo,x+1000000000-(P+bo)%1000000000,1,by omega,by omega,by omega,by omega,rfl,by omega,by omega,by omega,.inr ⟨by omega,by omega,rfl⟩⟩
theorem ints_set0 (xs:List Nat) (i:Nat):(uP xs).set i 0=uP (xs.set i 0):=by simp [List.map_set]
theorem back_ok {u v ul T h t x bor cy wv:Nat} (hu:u=ul+T*h) (hx:x+t*v=ul+T*bor) (k1:t=u/v+1) (k2:u%v+T=x+v) (hb:wv+T*cy=x+v) (hw:wv<T) (hvT:v≤T) (hv:0<v) (hcy:cy≤1):wv=u%v∧cy=1∧bor=h+1:=by
 have hdm:=Nat.div_add_mod u v
 have hm:=Nat.mod_lt u hv
 generalize u/v=q at *
 generalize u%v=r at *
 have hc:cy=1:=by
  rcases Nat.eq_zero_or_pos cy with e|e
  ·subst e;omega
  ·omega
 subst hc
 refine ⟨by omega,rfl,?_⟩
 subst k1
 have e1:(q+1)*v=v*q+v:=by grind
 have e2:T*bor=T*(h+1):=by rw [Nat.mul_add,Nat.mul_one];omega
 exact Nat.eq_of_mul_eq_mul_left (by omega) e2
theorem put_put9 {ys zs ws:List Nat} {o:Nat} (h:o+ws.length≤ys.length) (hl:zs.length≤ws.length):put (put ys o zs) o ws=put ys o ws:=by
 have e1:(put ys o zs).take o=ys.take o:=uE (by omega)
 have e2:(put ys o zs).drop o=zs++ys.drop (o+zs.length):=yE (by omega)
 have e3:(put ys o zs).drop (o+ws.length)=ys.drop (o+ws.length):=by
  rw [← List.drop_drop,e2,List.drop_append,List.drop_of_length_le (by omega),List.nil_append,List.drop_drop]
  congr 1
  omega
 show (put ys o zs).take o++(ws++(put ys o zs).drop (o+ws.length))=_
 rw [e1,e3]
 rfl
set_option maxRecDepth 1000000 in
theorem divLong_any (A:Option Addr) (n c:Nat) (xs:List Nat) (A' : Option Addr) (n' c' : Nat) (ys:List Nat) (w:World) (h:Ri w A n c xs) (h' : Ri w A' n' c' ys)
 (hd:Dig B9 xs) (hd' : Dig B9 ys) (hx:Norm xs) (hy:Norm ys) (hn:n≤1099511627776) (hn2:2≤n') (hge:val B9 ys≤val B9 xs) :
 Calls Tryz.prog 173 #[.slice A n c,.slice A' n' c'] w (zA w (val B9 xs/val B9 ys) (val B9 xs%val B9 ys)):=by
 have hnc:n≤c:=h.cap
 have hcm:c≤9223372036854775807:=h.2.2.1
 have hnc' : n'≤c':=h'.cap
 have hcm' : c'≤9223372036854775807:=h'.2.2.1
 have hle:n'≤n:=by
  rcases Nat.lt_or_ge n n' with e|e
  ·have:=dF dN hd hy (by rw [h.len,h'.len];exact e)
   omega
  ·exact e
 obtain ⟨ad',y,hA',hblk',hyt,hcy⟩:=h'.at_ (k:=n'-1) (by omega)
 subst hA'
 have hyl:y<1000000000:=hd'.at_ hyt
 have hy0:0<y:=by
  have hne:ys≠[]:=by rintro rfl;simp at hyt
  have:=hy hne
  rw [List.getLast_eq_getElem] at this
  obtain ⟨k,ey⟩:=List.getElem?_eq_some_iff.1 hyt
  have hl:=h'.len
  simp only [hl,ey] at this
  omega
 obtain ⟨f,hf,hfb,hf0,hf1,hfy⟩:=fac_facts hyl hy0
 have hyb:(y:Int)≤999999999:=by omega
 have hc1:¬ bU (val B9 xs) (val B9 ys)<0:=by unfold bU;rw [if_neg (by omega)];split <;> omega
 obtain ⟨z,hz⟩:∃ z:Int,bU (val B9 xs) (val B9 ys)=z:=⟨_,rfl⟩
 have cc:=aH (eS A n c xs (some ad') n' c' ys w h h' hd hd' hx hy)
 rw [hz] at cc hc1
 have hz0:decide (z<0)=false:=decide_eq_false hc1
 have hz1:((n' : Int)==1)=false:=by simp;omega
 have HX:=aH (aI h (aI hd (aI hx (aI hn (aI hn2 (aI hge hle))))))
 have HY:=aH (aI h' (aI hd' (aI hy (aI hyt (aI hf0 (aI hf1 hfy))))))
 have i1:(2:Int)≤n':=by omega
 have i2:(n:Int)≤1099511627776:=by omega
 have i3:(n' : Int)≤n:=by omega
 clear h h' hd hd' hx hy hn hn2 hge hle hyt hf0 hf1 hfy hyl hy0 hc1 hz
 go_enter Tryz.func173,Tryz.ntmps173
 go_wp2_with fail
 refine cc.out.mono ?_
 rintro e w0 ⟨rfl,hb0⟩
 have hcy0:=(hb0.cell (p:=ad'.add (n'-1)) (by rw [bK];exact hblk')).trans hcy
 clear hcy
 go_wp2_with fail
 have hbF:Bi (w0.alloc (.cells #[.int .i64 (f:Int)] 3)) w0.heap.size 3 [f]:=heap_alloc_new w0 _
 have hbA:Below w.heap.size w (w0.alloc (.cells #[.int .i64 (f:Int)] 3)):=hb0.alloc hb0.size _
 have hgw:w.heap.size≤w0.heap.size:=hb0.size
 generalize (w0.alloc (.cells #[.int .i64 (f:Int)] 3))=wA at *
 generalize w0.heap.size=g0 at *
 have hdF:Dig B9 [f]:=Dig.cons (by rw [cN];exact HY.out.2.2.2.2.2.1) (Dig.nil _)
 have HF:=aH (aI hbF (aI hbA (aI hgw hdF)))
 clear hbF hbA hgw hdF hb0 hcy0 hz0 hz1
 refine (lB (some ad') n' c' ys (some ⟨g0,0,none⟩) 1 1 [f] wA (HY.out.1.below HF.out.2.1) (HF.out.1.rd (by show 1≤9223372036854775807;omega)) HY.out.2.1 HF.out.2.2.2 (by omega) (by omega)).mono ?_
 rintro e w1 ⟨v,rfl,⟨Av,nv,cv,vs,rfl,hrv,hdv,hnv,hvv⟩,hb1⟩
 have hvv:val B9 vs=val B9 ys*f:=by rw [hvv];simp [val]
 obtain rfl:nv=n':=by
  have:=scaled_len HY.out.2.1 (by rw [HY.out.1.len];omega) (by rw [HY.out.1.len];exact HY.out.2.2.2.1) hdv hnv HY.out.2.2.1 hvv HY.out.2.2.2.2.1 HY.out.2.2.2.2.2.2
  rw [hrv.len,HY.out.1.len] at this
  exact this
 have hbF1:Bi w1 g0 3 [f]:=HF.out.1.below hb1 HF.out.1.lt
 have hbA1:Below w.heap.size w w1:=Below.step_trans' HF.out.2.1 hb1
 have hg01:g0<w1.heap.size:=hbF1.lt
 have hcv:cv≤9223372036854775807:=hrv.2.2.1
 have hncv:nv≤cv:=hrv.cap
 have HV:=aH (aI hrv (aI hdv (aI hnv (aI hvv (aI hbF1 (aI hbA1 hg01))))))
 clear hrv hdv hnv hvv hbF1 hbA1 hg01 hb1 hf hfb hyb cc
 go_wp2_with fail
 obtain ⟨B1,hB1⟩:∃ b,b=w1.heap.size:=⟨_,rfl⟩
 have hnil:(w1.alloc (.cells #[] 3)).heap[w1.heap.size]?=some (.cells #[] 3 (0,0)):=heap_alloc_new w1 _
 have hbN:Below w1.heap.size w1 (w1.alloc (.cells #[] 3)):=(aB _ _).alloc (aR _) _
 generalize (w1.alloc (.cells #[] 3))=wN at *
 rw [← hB1] at hnil hbN ⊢
 have HN:=aH (aI hnil (aI hbN hB1))
 clear hnil hbN hB1
 refine (lB A n c xs (some ⟨g0,0,none⟩) 1 1 [f] wN ((HX.out.1.below HV.out.2.2.2.2.2.1).below (by rw [← HN.out.2.2];exact HN.out.2.1)) ((HV.out.2.2.2.2.1.below HN.out.2.1 (by rw [HN.out.2.2];exact HV.out.2.2.2.2.2.2)).rd (by show 1≤9223372036854775807;omega)) HX.out.2.1 HF.out.2.2.2 (by omega) (by omega)).mono ?_
 rintro e w2 ⟨v2,rfl,⟨A2,m2,c2,us0,rfl,hr2,hd2,hn2,hv2⟩,hb2⟩
 have hv2:val B9 us0=val B9 xs*f:=by rw [hv2];simp [val]
 have hpos:0<val B9 xs:=by
  have h1:=HY.out.2.2.1.pos cB (l:=ys) (by rintro rfl;have:=HY.out.1.len;simp at this;omega)
  have h2:=HX.out.2.2.2.2.2.1
  omega
 have hm2:m2≤n+1:=by
  rw [← hr2.len]
  refine aV dN hn2 ?_
  rw [hv2,Nat.pow_succ]
  have h1:=bW HX.out.2.1
  rw [HX.out.1.len] at h1
  exact Nat.mul_lt_mul'' h1 (by rw [cN];exact HY.out.2.2.2.2.2.1)
 have hm0:0<m2:=by
  rcases Nat.eq_zero_or_pos m2 with e|e
  ·exfalso
   subst e
   have:us0 = []:=List.eq_nil_of_length_eq_zero hr2.len
   subst this
   have h1:0<val B9 xs*f:=Nat.mul_pos hpos HY.out.2.2.2.2.1
   rw [← hv2] at h1
   simp [val] at h1
  ·exact e
 have hNlt:B1<wN.heap.size:=(Array.getElem?_eq_some_iff.1 HN.out.1).1
 have hown:w2.ownsRow B1 3 1 (.slice (some ⟨B1,0,none⟩) 0 0) 0 ([]:List Value):=row_nil ((hb2.block B1 hNlt).trans HN.out.1) (aR _)
 have hb12:Below B1 w1 w2:=HN.out.2.1.trans (hb2.mono (Nat.le_of_lt hNlt))
 have hs2:B1≤w2.heap.size:=Nat.le_trans (Nat.le_of_lt hNlt) hb2.size
 have HU:=aH (aI hr2 (aI hd2 (aI hv2 (aI hpos (aI hm2 (aI hm0 (aI hown (aI hb12 hs2))))))))
 clear hr2 hd2 hn2 hv2 hpos hm2 hm0 hown hb12 hs2 hb2 hNlt
 go_wp2_with (at_builtin;refine wpList_src rfl _ _ rfl rfl HU.out.2.2.2.2.2.2.1 rfl HU.out.1 HU.out.2.2.2.2.2.1 (by have:=HU.out.2.2.2.2.1;omega) HU.out.2.2.2.2.2.2.2.2 ?_)
 intro v3 w3 hr3 hg3
 have hb3:Below B1 w1 w3:=HU.out.2.2.2.2.2.2.2.1.grown hg3 HU.out.2.2.2.2.2.2.2.2 (fun b hb=>by simp [Value.ownBlock] at hb;omega)
 have HR:=aH (aI hr3 hb3)
 clear hr3 hb3 hg3
 go_wp2
 go_loopw [11] (fun uv wr => ∃ (m:Nat) (zs:List Nat),wr.ownsRow B1 3 1 uv m (zs.map dY)∧0<m∧m≤n+1∧Dig B9 zs∧val B9 zs=val B9 xs*f∧Below B1 w1 wr) (fun uv _=>n+1-lenOf uv)
 case atStart=>exact ⟨m2,us0,HR.out.1,HU.out.2.2.2.2.2.1,HU.out.2.2.2.2.1,HU.out.2.1,HU.out.2.2.1,HR.out.2⟩
 case round =>
  clear HR
  obtain ⟨m,zs,hrow,hm0,hmn,hdz,hvz,hb⟩:=hrel
  have hrow':=hrow
  obtain ⟨gu,cu,rfl,hgu,hcu,how,hzl⟩:=ow_of_row hrow hm0
  by_cases hlt:m<n+1
  ·have k1:(m:Int)<(n:Int)+1:=by omega
   have HM:=aH (aI hrow' (aI hdz (aI hvz (aI hb (aI hzl hlt)))))
   have hs:B1≤wr.heap.size:=Nat.le_trans hgu (Nat.le_of_lt how.lt)
   clear hrow hrow' hdz hvz hb hlt how hgu hzl
   go_wp2_with (at_builtin;refine fQ (r:=0) (B:=B1) rfl _ _ rfl rfl HM.out.1 rfl (by omega) HM.out.2.2.2.1 (aR _) hs ?_)
   intro v4 w4 hr4 hb4 _
   have hr4' : w4.ownsRow B1 3 1 v4 (m+1) ((zs ++ [0]).map dY):=by rw [List.map_append];exact hr4
   obtain ⟨g4,c4,rfl,_,_,_,_⟩:=ow_of_row hr4' (Nat.succ_pos _)
   have HQ:=aH (aI hr4' hb4)
   clear hr4'
   clear hr4 hb4
   go_wp2
   go_roundw
   case rel =>
    refine ⟨m+1,zs ++ [0],HQ.out.1,by omega,by have:=HM.out.2.2.2.2.2;omega,HM.out.2.1.app (Dig.cons cB (Dig.nil _)),?_,HQ.out.2⟩
    rw [cM,Nat.mul_zero,Nat.add_zero];exact HM.out.2.2.1
   case measure =>
    have:=HM.out.2.2.2.2.2
    clear HQ HM
    simp [lenOf];omega
  ·obtain rfl:m=n+1:=by omega
   have hst:LongJ (val B9 vs) (val B9 xs*f) nv (n-nv+1) zs (List.replicate (n-nv+1) 0) (n-nv+1) :=
    LongJ.start hdz hzl hvz rfl (by have:=bW HX.out.2.1;rwa [HX.out.1.len] at this) HV.out.2.2.2.1 HY.out.2.2.2.2.1
     (by have:=HY.out.2.2.1.ge (B:=B9) (l:=ys) (by rintro rfl;have:=HY.out.1.len;simp at this;omega);rwa [HY.out.1.len] at this) HX.out.2.2.2.2.2.2 (by omega)
   have k1:¬ ((n+1:Nat):Int)<(n:Int)+1:=by omega
   have HM:=aH (aI hst (aI how (aI hb (aI hgu hcu))))
   clear hst how hb hgu hrow hrow' hdz hvz hzl hlt hmn hm0
   obtain ⟨i0,hi,hz0,hz1,hz2⟩:=info_parts gU
   have HI:=aH (aI hi (aI hz0 (aI hz1 hz2)))
   clear hi hz0 hz1 hz2
   go_wp2_with (at_make;refine wpList_make_full _ rfl _ _ 84 rfl wr.heap.size 3 i0 (.int .i64 0) 1 Tryz.underlying84 HI.out.1 HI.out.2.1 HI.out.2.2.1 _ _ _ _ (n-nv+1) rfl rfl ?b0 ?b1 ?b2 ?b3 (aR _) ?_)
   case b0=>omega
   case b1=>omega
   case b2=>rw [HI.out.2.2.2];omega
   case b3=>show n-nv+1≤9223372036854775807;omega
   intro w5 hown5 hg5
   have hblk:=rH hown5
   have hb5:Below B1 w1 w5:=HM.out.2.2.1.grown hg5 (Nat.le_trans HM.out.2.2.2.1 (Nat.le_of_lt HM.out.2.1.lt)) (fun b hb=>by cases hb)
   have how5:Ow w5 gu cu (uP zs):=HM.out.2.1.grown hg5 (by simp)
   have hguq:gu<wr.heap.size:=HM.out.2.1.lt
   obtain ⟨gq,hgq⟩:∃ g,g=wr.heap.size:=⟨_,rfl⟩
   rw [← hgq] at hblk hguq ⊢
   obtain ⟨L,hL⟩:∃ L,L=n-nv+1:=⟨_,rfl⟩
   have hLi:(L:Int)=(n:Int)-nv+1:=by omega
   have hLn:L+nv=n+1:=by omega
   have hgu1:=HM.out.2.2.2.1
   have hcu:=HM.out.2.2.2.2
   rw [← hL] at hblk ⊢
   have hst:=HM.out.1
   rw [← hL] at hst
   have HS:=aH (aI hst (aI hblk (aI how5 (aI hb5 (aI hguq (aI hgu1 (aI hLn hcu)))))))
   clear hst hblk how5 hb5 hguq hgu1 hgq hown5 hg5 hL HM k1 hLn
   clear HU
   go_wp2
   go_loopw [13] (fun jv wr => ∃ (k:Nat) (us qs:List Nat),k≤L∧jv = .int .i64 ((k:Int)-1)∧LongJ (val B9 vs) (val B9 xs*f) nv L us qs k∧Bi wr gq 3 qs∧Ow wr gu cu (uP us)∧Below B1 w1 wr) (fun jv _=>(intOf jv+1).toNat)
   case atStart=>exact ⟨L,zs,_,aR _,by go_num,HS.out.1,HS.out.2.1,HS.out.2.2.1,HS.out.2.2.2.1⟩
   case round =>
    obtain ⟨k,us,qs,hk,rfl,hinv,hbq,hou,hbw⟩:=hrel
    rcases Nat.eq_zero_or_pos k with rfl|hk0
    ·obtain ⟨f1,f2,f3⟩:=hinv.finish HV.out.2.2.2.1 (HY.out.2.2.1.pos cB (l:=ys) (by rintro rfl;have:=HY.out.1.len;simp at this;omega)) HY.out.2.2.2.2.1
     have hul:us.length=n+1:=by rw [hinv.2.1];exact HS.out.2.2.2.2.2.2.1
     have hql:qs.length=L:=hinv.2.2.2.1
     have hru:Ri wr (some ⟨gu,0,none⟩) (n+1) cu us:=by have:=hou.rd HS.out.2.2.2.2.2.2.2;rwa [hul] at this
     have hrq:Ri wr (some ⟨gq,0,none⟩) L L qs:=by have:=hbq.rd (by rw [hql];show L≤9223372036854775807;omega);rwa [hql] at this
     have hcap:n+1≤cu:=hru.cap
     have hcap2:nv≤cu:=by omega
     have hVle:val B9 vs≤B9^nv:=by have:=bW HV.out.2.1;rw [HV.out.1.len] at this;exact Nat.le_of_lt this
     have htk:val B9 (us.take nv)=val B9 us:=by
      have e:=dX B9 us nv (by omega)
      rcases Nat.eq_zero_or_pos (val B9 (us.drop nv)) with e2|e2
      ·rw [e2] at e;omega
      ·exfalso
       have:B9^nv*1≤B9^nv*val B9 (us.drop nv):=Nat.mul_le_mul_left _ e2
       omega
     have hbF:Bi wr g0 3 [f]:=HV.out.2.2.2.2.1.below (by rw [← HN.out.2.2];exact hbw) HV.out.2.2.2.2.2.2
     have hcf:wr.cell? ⟨g0,0,none⟩=some (.int .i64 (f:Int)):=hbF.cell rfl
     have hbw0:Below w.heap.size w wr:=Below.step_trans' HV.out.2.2.2.2.2.1 (by rw [← HN.out.2.2];exact hbw)
     have HZ:=aH (aI f1 (aI f2 (aI hinv.1 (aI hinv.2.2.1 (aI (hru.take (k:=nv) (by omega)) (aI hrq (aI htk (aI hbF hbw0))))))))
     have HZ2:=aH (show val B9 us<B9^(n+1) by have:=bW hinv.1;rwa [hul] at this)
     clear f1 f2 f3 hinv hul hql hru hrq hVle htk hbF hbw0 hbq hou hbw hk
     simp only [show (((0:Nat):Int)-1) = -1 from rfl]
     have ct:=aH (fun W (hB:Below wr.heap.size wr W)=>mG (some ⟨gu,0,none⟩) nv cu (us.take nv) W (HZ.out.2.2.2.2.1.below hB) (HZ.out.2.2.1.take nv))
     have cd:=aH (fun W A3 k3 c3 ys3 (hr:Ri W A3 k3 c3 ys3) (hd:Dig B9 ys3) (hk:k3≤2199023255552)=>sW A3 k3 c3 ys3 f W hr hd hk HY.out.2.2.2.2.1 HY.out.2.2.2.2.2.1)
     go_wp2
     go_region_with (first|(go_at_call 222;refine (ct.out _ (by repeat (first|exact aB _ _|refine Below.drew ?_))).mono ?_;rintro e w9 ⟨⟨v9,rfl,A3,k3,c3,ys3,rfl,hr3,hd3,hn3,hv3⟩,rfl⟩;have H3:=aH (aI hr3 (aI hd3 (aI hn3 hv3)));clear hr3 hd3 hn3 hv3)|(go_at_call 221;refine (cd.out _ _ _ _ _ H3.out.1 H3.out.2.1 (by have h1:=aV dN H3.out.2.2.1 (L:=n+1) (by rw [H3.out.2.2.2,HZ.out.2.2.2.2.2.2.1];exact HZ2.out);rw [H3.out.1.len] at h1;omega)).mono ?_;rintro e w10 ⟨v10,rfl,hv10,hb10⟩;have H10:=aH (aI hv10 hb10);clear hv10 hb10))
     all_goals
      have hbd:Below wr.heap.size wr w10:=Below.step_trans' (w:=wr.drew) (Below.drew (aB _ _)) H10.out.2
      have hvm:val B9 ys3/f=val B9 xs%val B9 ys:=by
       rw [H3.out.2.2.2,HZ.out.2.2.2.2.2.2.1,HZ.out.2.1]
       exact Nat.mul_div_cancel _ HY.out.2.2.2.2.1
      have hq10:Ri w10 (some ⟨gq,0,none⟩) L L qs:=HZ.out.2.2.2.2.2.1.below hbd
      have HL:=aH (aI hbd (aI hvm hq10))
      clear hbd hvm hq10
      go_wp2_with (go_at_call 222;refine (mG _ _ _ qs _ HL.out.2.2 HZ.out.2.2.2.1).mono ?_;rintro e w11 ⟨⟨v11,rfl,hv11⟩,rfl⟩)
      go_ret2
      exact ⟨v11,v10,rfl,by rw [← HZ.out.1];exact hv11,by rw [← HL.out.2.1];exact H10.out.1,Below.step_trans' HZ.out.2.2.2.2.2.2.2.2 HL.out.1⟩
    ·obtain ⟨j,rfl⟩:∃ m,k=m+1:=⟨k-1,by omega⟩
     have hul:us.length=n+1:=by rw [hinv.2.1];exact HS.out.2.2.2.2.2.2.1
     have hVle:val B9 vs≤B9^nv:=by have:=bW HV.out.2.1;rw [HV.out.1.len] at this;exact Nat.le_of_lt this
     have hwin:=hinv.window (by omega) hVle
     have hrv:Ri wr Av nv cv vs:=HV.out.1.below (by rw [← HN.out.2.2];exact hbw)
     have hru:Ri wr (some ⟨gu,0,none⟩) (n+1) cu us:=by have:=hou.rd HS.out.2.2.2.2.2.2.2;rwa [hul] at this
     have hjn:j+nv<n+1:=by have:=HS.out.2.2.2.2.2.2.1;omega
     obtain ⟨p2,hp2⟩:∃ p,nv=p+2:=⟨nv-2,by omega⟩
     obtain ⟨d0,hd0⟩:∃ y,us[j+(p2+2)]?=some y:=⟨_,List.getElem?_eq_getElem (by omega)⟩
     obtain ⟨d1,hd1⟩:∃ y,us[j+(p2+1)]?=some y:=⟨_,List.getElem?_eq_getElem (by omega)⟩
     obtain ⟨d2,hd2⟩:∃ y,us[j+p2]?=some y:=⟨_,List.getElem?_eq_getElem (by omega)⟩
     obtain ⟨fv,hfv⟩:∃ y,vs[p2+1]?=some y:=⟨_,List.getElem?_eq_getElem (by rw [hrv.len];omega)⟩
     obtain ⟨sv,hsv⟩:∃ y,vs[p2]?=some y:=⟨_,List.getElem?_eq_getElem (by rw [hrv.len];omega)⟩
     have hfv0:0<fv:=by
      have hne:vs≠[]:=by rintro rfl;simp at hfv
      have h1:=HV.out.2.2.1 hne
      rw [List.getLast_eq_getElem] at h1
      obtain ⟨k,ey⟩:=List.getElem?_eq_some_iff.1 hfv
      have hl:=hrv.len
      simp only [hl,hp2,show p2+2-1=p2+1 by omega,ey] at h1
      omega
     have hwl:((us.drop j).take (nv+1)).length=p2+3:=by simp;omega
     have hgd:=gd_ok (us:=(us.drop j).take (nv+1)) (vs:=vs) (m:=p2) hwl (by rw [hrv.len];exact hp2) ((hinv.1.drop _).take _) HV.out.2.1 (by rw [fP (by omega)];exact hd0) (by rw [fP (by omega)];exact hd1) (by rw [fP (by omega)];exact hd2) hfv hsv hfv0 (by rw [hwin.1];exact hwin.2.2)
     obtain ⟨t,ht⟩:∃ t,t=gD (d0*B9+d1) d2 fv sv:=⟨_,rfl⟩
     have htb:t<1000000000:=by rw [ht,← cN];exact gd_lt
     have cg:=aH (rguess_any (some ⟨gu,0,none⟩) (n+1) cu us Av p2 nv cv vs j wr hru hp2 hrv hinv.1 HV.out.2.1 (by omega) (by omega) d0 d1 d2 fv sv hd0 hd1 hd2 hfv hsv hfv0 hgd.2.2)
     rw [← ht] at cg hgd
     have hd0' : us[j+nv]?=some d0:=by rw [hp2];exact hd0
     have HE:=aH (aI hinv (aI hbq (aI hou (aI hbw (aI hul (aI hVle (aI hwin (aI hrv (aI hgd (aI htb (aI hd0' hjn)))))))))))
     have j1:(j:Int)+nv≤n:=by omega
     have j2:(t:Int)≤999999999:=by omega
     have hidx:((j:Int)+1-1)=j:=by omega
     clear hinv hbq hou hbw hul hVle hwin hrv hru hjn hp2 hd0 hd1 hd2 hfv hsv hfv0 hwl hgd ht htb hd0' hk hk0
     simp only [Int.natCast_add,Int.natCast_one,hidx]
     clear hidx
     go_wp2_with fail
     refine cg.out.mono ?_
     rintro e w6 ⟨rfl,hb6⟩
     have HB6:=aH hb6
     clear hb6 cg
     go_wp2
     go_loopw [15,16] (fun bv iv wr => ∃ (i bo:Nat) (zs:List Nat),i≤nv∧iv = .int .i64 (i:Int)∧bv = .int .i64 (bo:Int)∧TakeK us vs zs j t i bo∧Ow wr gu cu (uP (put us j zs))∧w6.grownBy wr (some gu)) (fun _ iv _=>nv-(intOf iv).toNat)
     case atStart=>exact ⟨0,0,[],Nat.zero_le _,rfl,rfl,⟨rfl,Dig.nil _,Nat.zero_le _,by simp [val]⟩,by rw [wU];exact HE.out.2.2.1.below HB6.out HE.out.2.2.1.lt,uC _ _⟩
     case round =>
      obtain ⟨i,bo,zs,hi,rfl,rfl,htk,how,hg⟩:=hrel
      have hgu1:=HS.out.2.2.2.2.2.1
      have hb6:Below B1 w1 w6:=HE.out.2.2.2.1.trans (HB6.out.mono (Nat.le_trans hgu1 (Nat.le_of_lt HE.out.2.2.1.lt)))
      have hs6:B1≤w6.heap.size:=Nat.le_trans hgu1 (Nat.le_trans (Nat.le_of_lt HE.out.2.2.1.lt) HB6.out.size)
      have hbk:Below B1 w1 wr:=hb6.grown hg hs6 (fun b hb=>by injection hb with hb;omega)
      have hul:=HE.out.2.2.2.2.1
      have hjn:=HE.out.2.2.2.2.2.2.2.2.2.2.2
      by_cases hlt:i<nv
      ·obtain ⟨adv,v,rfl,_,hv,hcv'⟩:=(HV.out.1.below (by rw [← HN.out.2.2];exact hbk)).at_ (k:=i) hlt
       obtain ⟨x,hx⟩:∃ x,us[j+i]?=some x:=⟨_,List.getElem?_eq_getElem (by omega)⟩
       have hcx:=how.cell (i:=i+j) (zB (by rw [Nat.add_comm i j,pN (by rw [htk.1];exact aR _) (by omega)];exact hx))
       have hfx:=how.frozen (i+j)
       have bx:x<1000000000:=HE.out.1.1.at_ hx
       have bv:v<1000000000:=HV.out.2.1.at_ hv
       have bt:t<1000000000:=HE.out.2.2.2.2.2.2.2.2.2.1
       have bb:bo≤1000000000:=htk.2.2.1
       obtain ⟨P,p,r,e,eP,bP0,bP2,hpI,hp,hr,he,hre,hcase⟩:=takeFacts bx bv bt bb
       have hst:=htk.step hx hv hp hr he hre
       have b1:(x:Int)≤999999999:=by omega
       have b2:(bo:Int)≤1000000000:=by omega
       have a1:(i:Int)<nv:=by omega
       have a2:(i:Int)+j<(n:Int)+1:=by omega
       have HT:=aH (aI hst (aI how (aI hg (aI hlt (aI hpI (aI hcase (aI htk.1 hul)))))))
       clear hst how hg hlt htk hx hv hp hr he hre bx bv bt bb hb6 hs6 hbk hul hjn hgu1 hi eP hpI
       rcases hcase with ⟨q1,q2,rfl⟩|⟨q1,q2,rfl⟩
       ·have c1:decide ((x:Int)-((t:Int)*(v:Int)+bo)%1000000000<0)=false:=by rw [decide_eq_false_iff_not];omega
        clear q1
        go_wp2
        go_roundw
        case rel =>
         obtain ⟨hst,how,hg,hlt,hpI,_,hzl,hul⟩:=HT.out
         refine ⟨i+1,p/B9+0,zs ++ [r],hlt,by go_num,?_,hst,?_,cU hg (eH _ _ _ _)⟩
         ·rw [Nat.add_zero];refine congrArg _ ?_;rw [cN];omega
         ·rw [Nat.add_comm i j,← gZ hzl (by omega),← zC]
          exact how.set_ _ _
        case measure =>
         have:=HT.out.2.2.2.1
         clear HT q2 c1
         simp [intOf];omega
       ·have c1:(x:Int)-((t:Int)*(v:Int)+bo)%1000000000<0:=by omega
        clear q1
        go_wp2
        go_roundw
        case rel =>
         obtain ⟨hst,how,hg,hlt,hpI,_,hzl,hul⟩:=HT.out
         refine ⟨i+1,p/B9+1,zs ++ [r],hlt,by go_num,?_,hst,?_,cU hg (eH _ _ _ _)⟩
         ·refine congrArg _ ?_;rw [cN];omega
         ·rw [Nat.add_comm i j,← gZ hzl (by omega),← zC]
          exact how.set_ _ _
        case measure =>
         have:=HT.out.2.2.2.1
         clear HT q2 c1
         simp [intOf];omega
      ·obtain rfl:nv=i:=by omega
       have hd0:=HE.out.2.2.2.2.2.2.2.2.2.2.1
       have hc0:=how.cell (i:=j+nv) (zB (by rw [pN (by rw [htk.1];exact aR _) (by omega)];exact hd0))
       have hf0:=how.frozen (j+nv)
       have hne:¬ gq=gu:=by have:=HS.out.2.2.2.2.1;omega
       have hne2:¬ gu=gq:=by omega
       have hbq6:=HE.out.2.1.below HB6.out HE.out.2.1.lt
       have hbq:Bi wr gq 3 qs:=(hg.block gq hbq6.lt (by intro e;injection e with e;exact hne e)).trans hbq6
       have hqlen:qs.length=L:=HE.out.1.2.2.2.1
       have hjL:j<L:=by have:=HS.out.2.2.2.2.2.2.1;omega
       obtain ⟨zq,hcq⟩:∃ z:Int,wr.cell? ⟨gq,j,none⟩=some (.int .i64 z):=⟨_,hbq.cell_get (by omega)⟩
       have hfq:=hbq.frozen j
       have htv:=htk.2.2.2
       rw [List.take_of_length_le (l:=vs) (by rw [HV.out.1.len];exact aR _)] at htv
       have hU:val B9 ((us.drop j).take (nv+1))=val B9 ((us.drop j).take nv)+B9^nv*d0:=by
        have hk:nv<(us.drop j).length:=by simp;omega
        rw [aF _ _ _ hk]
        have:(us.drop j)[nv]=d0:=by
         have h1:(us.drop j)[nv]?=some d0:=by rw [List.getElem?_drop];exact hd0
         rw [List.getElem?_eq_getElem hk] at h1
         injection h1
        rw [this]
       have hxT:=bW htk.2.1
       rw [htk.1] at hxT
       have hVle:=HE.out.2.2.2.2.2.1
       have hV0:0<val B9 vs:=by
        rcases Nat.eq_zero_or_pos (val B9 vs) with e|e
        ·exfalso
         have:=HE.out.2.2.2.2.2.2.1.2.2
         rw [e,Nat.zero_mul] at this
         omega
        ·exact e
       have hgd:=HE.out.2.2.2.2.2.2.2.2.1
       have htake:=take_ok (u:=val B9 ((us.drop j).take (nv+1))) (v:=val B9 vs) (h:=d0) (t:=t) (bor:=bo) hU htv hxT hVle hgd.1 hgd.2.1 hV0
       have hstep:=fun (ws:List Nat) (h1:ws.length=nv+1) (h2:Dig B9 ws) (h3:val B9 ws=val B9 ((us.drop j).take (nv+1))%val B9 vs)=>HE.out.1.step hjL hVle hV0 h1 h2 h3
       have bd : (d0 : Int) ≤ 999999999 := by have:d0<1000000000:=HE.out.1.1.at_ hd0
                                              omega
       have bb : (bo : Int) ≤ 1000000000 := by have:bo≤1000000000:=htk.2.2.1
                                               omega
       have a1:(j:Int)<L:=by omega
       have a2:(j:Int)+nv<(n:Int)+1:=by omega
       by_cases hbr:d0<bo
       ·obtain ⟨k1,k2⟩:=htake.2 hbr
        have ht0:0<t:=by rw [k1];exact Nat.succ_pos _
        have ht1:(1:Int)≤t:=by omega
        have c1:(d0:Int)-bo<0:=by omega
        have HC:=aH (aI htk (aI how (aI hg (aI hbq (aI hstep (aI hU (aI htv (aI k1 (aI k2 (aI hxT (aI hVle (aI hV0 (aI hbk (aI hul (aI hqlen hjL)))))))))))))))
        have HCq:=aH (aI hcq hfq)
        clear htk how hg hbq hstep hU htv k1 k2 hxT hVle hV0 hbk hul hqlen hjL htake hgd hd0 hbq6 hbr hjn hb6 hs6 hgu1 hi hlt hcq hfq
        have htT:t<1000000000:=HE.out.2.2.2.2.2.2.2.2.2.1
        clear ht0
        go_wp2
        go_loopw [19,20] (fun cv iv wr => ∃ (i cy:Nat) (ws:List Nat),i≤nv∧iv = .int .i64 (i:Int)∧cv = .int .i64 (cy:Int)∧BackK (put us j zs) vs ws j i cy∧Ow wr gu cu ((uP (put (put us j zs) j ws)).set (j+nv) ((d0:Int)-bo))∧w6.grownBy wr (some gu)) (fun _ iv _=>nv-(intOf iv).toNat)
        case atStart=>exact ⟨0,0,[],Nat.zero_le _,rfl,rfl,⟨rfl,Dig.nil _,by omega,by simp [val]⟩,by rw [wU];exact HC.out.2.1.set_ _ _,cU HC.out.2.2.1 (eH _ _ _ _)⟩
        case round =>
         obtain ⟨i,cy,ws,hi,rfl,rfl,hbk4,how,hg⟩:=hrel
         have hgu1:=HS.out.2.2.2.2.2.1
         have hb6:Below B1 w1 w6:=HE.out.2.2.2.1.trans (HB6.out.mono (Nat.le_trans hgu1 (Nat.le_of_lt HE.out.2.2.1.lt)))
         have hs6:B1≤w6.heap.size:=Nat.le_trans hgu1 (Nat.le_trans (Nat.le_of_lt HE.out.2.2.1.lt) HB6.out.size)
         have hbk:Below B1 w1 wr:=hb6.grown hg hs6 (fun b hb=>by injection hb with hb;omega)
         have hul:=HE.out.2.2.2.2.1
         have hzl:=HC.out.1.1
         have hpl:(put us j zs).length=us.length:=cV (by omega)
         have hpd:Dig B9 (put us j zs):=put_dig9 HE.out.1.1 HC.out.1.2.1
         by_cases hlt:i<nv
         ·obtain ⟨adv,v,rfl,_,hv,hcv'⟩:=(HV.out.1.below (by rw [← HN.out.2.2];exact hbk)).at_ (k:=i) hlt
          obtain ⟨x,hx⟩:∃ x,(put us j zs)[j+i]?=some x:=⟨_,List.getElem?_eq_getElem (by omega)⟩
          have hcx:=how.cell (i:=i+j) (z:=(x:Int)) (by rw [List.getElem?_set_ne (by omega)];exact zB (by rw [Nat.add_comm i j,pN (by rw [hbk4.1];exact aR _) (by omega)];exact hx))
          have hfx:=how.frozen (i+j)
          have bx:x<1000000000:=hpd.at_ hx
          have bv:v<1000000000:=HV.out.2.1.at_ hv
          have bc:cy≤1:=hbk4.2.2.1
          have hst:=hbk4.step hx hv rfl (by rw [cN];exact bx) (by rw [cN];exact bv)
          have b1:(x:Int)≤999999999:=by omega
          have b2:(v:Int)≤999999999:=by omega
          have b3:(cy:Int)≤1:=by omega
          have a1:(i:Int)<nv:=by omega
          have a2:(i:Int)+j<(n:Int)+1:=by omega
          have HT:=aH (aI hst (aI how (aI hg (aI hlt (aI hbk4.1 (aI hul hpl))))))
          clear hst hlt hbk4 hx hv bx bv bc hb6 hs6 hbk hul hgu1 hi hzl hpl hpd
          go_wp2
          go_quiet (fail)
          have HW:=aH (show Ow (wr.drewN nq) gu cu ((uP (put (put us j zs) j ws)).set (j+nv) ((d0:Int)-bo))∧w6.grownBy (wr.drewN nq) (some gu) from ⟨how,⟨hg.os,hg.tape,hg.output,hg.size,hg.block⟩⟩)
          have hcx2:(wr.drewN nq).cell? ⟨gu,i+j,none⟩=some (.int .i64 (x:Int)):=hcx
          have hfx2:(wr.drewN nq).frozen? ⟨gu,i+j,none⟩=false:=hfx
          clear how hg hcx hfx hcv'
          generalize wr.drewN nq=w8 at *
          go_wp2
          go_roundw
          case rel =>
           obtain ⟨hst,_,_,hlt,hwl,hul,hpl⟩:=HT.out
           obtain ⟨how,hg⟩:=HW.out
           have er:((x:Int)+v+cy)%1000000000=(((x+v+cy)%B9:Nat):Int):=by rw [cN];omega
           have eq' : ((x:Int)+v+cy)/1000000000=(((x+v+cy)/B9:Nat):Int):=by rw [cN];omega
           refine ⟨i+1,(x+v+cy)/B9,ws ++ [(x+v+cy)%B9],hlt,by go_num,by rw [← eq'],hst,?_,cU hg (eH _ _ _ _)⟩
           rw [er,Nat.add_comm i j,← gZ hwl (by omega),← zC,List.set_comm _ _ (by omega)]
           exact how.set_ _ _
          case measure =>
           have:=HT.out.2.2.2.1
           clear HT HW hcx2 hfx2
           simp [intOf];omega
         ·obtain rfl:nv=i:=by omega
          obtain ⟨htk,_,_,_,hstep,hU,htv,k1,k2,hxT,hVle,hV0,_,_,hqlen,hjL⟩:=HC.out
          have hb4:=hbk4.2.2.2
          have hzw:((put us j zs).drop j).take nv=zs:=by
           have h1:=yD (ys:=us) (zs:=zs) (o:=j) (by rw [hzl];omega)
           rw [hzl] at h1
           exact h1
          rw [hzw,List.take_of_length_le (l:=vs) (by rw [HV.out.1.len];exact aR _)] at hb4
          have hwT:=bW hbk4.2.1
          rw [hbk4.1] at hwT
          obtain ⟨r1,r2,r3⟩:=back_ok hU htv k1 k2 hb4 hwT hVle hV0 hbk4.2.2.1
          have hc0:=how.cell (i:=j+nv) (z:=(d0:Int)-bo) (List.getElem?_set_self (by rw [List.length_map,cV (by rw [hbk4.1,hpl];omega),hpl];omega))
          have hf0:=how.frozen (j+nv)
          have hbq6:=HE.out.2.1.below HB6.out HE.out.2.1.lt
          have hbq:Bi wr gq 3 qs:=(hg.block gq hbq6.lt (by intro e;injection e with e;exact hne e)).trans hbq6
          obtain ⟨zq,hcq⟩:∃ z:Int,wr.cell? ⟨gq,j,none⟩=some (.int .i64 z):=⟨_,hbq.cell_get (by omega)⟩
          have hfq:=hbq.frozen j
          have ez:(d0:Int)-bo+cy=0:=by omega
          have h1:=hstep (ws ++ [0]) (by simp [hbk4.1]) (hbk4.2.1.app (Dig.cons cB (Dig.nil _))) (by rw [cM,Nat.mul_zero,Nat.add_zero];exact r1)
          have hq1:val B9 ((us.drop j).take (nv+1))/val B9 vs=t-1:=by rw [k1,Nat.add_sub_cancel]
          rw [hq1] at h1
          have b3:(cy:Int)≤1:=by omega
          have HD:=aH (aI h1 (aI how (aI hbq (aI hbk (aI hbk4.1 (aI hul (aI hzl (aI hpl hjL))))))))
          clear h1 how hbq hbk hul hzl hpl hjL hstep hU htv k1 k2 hxT hVle hV0 hqlen htk hb4 hzw hwT r1 r2 r3 hbq6 hq1 hbk4 hg hb6 hs6 hgu1 hi hpd hlt
          go_wp2
          go_roundw
          case rel =>
           obtain ⟨h1,how,hbq,hbk,hwl,hul,hzl,hpl,hjL⟩:=HD.out
           refine ⟨j,put us j (ws ++ [0]),qs.set j (t-1),Nat.le_of_lt hjL,by go_num,h1,?_,?_,(hbk.setCell (by show B1≤gu;exact HS.out.2.2.2.2.2.1) _).setCell (by show B1≤gq;have:=HS.out.2.2.2.2.1;have:=HS.out.2.2.2.2.2.1;omega) _⟩
           ·have e1:(t:Int)-1=((t-1:Nat):Int):=by omega
            rw [e1]
            exact (hbq.far (by show gq≠gu;exact hne) _).set_ _ _
           ·refine Ow.far ?_ (by show gu≠gq;exact hne2) _
            have h2:=how.set_ (j+nv) 0
            rw [List.set_set,ints_set0,gZ hwl (by rw [hpl,hul];have:=HS.out.2.2.2.2.2.2.1;omega),put_put9 (by simp only [List.length_append,List.length_singleton,hwl];have:=HS.out.2.2.2.2.2.2.1;omega) (by simp only [List.length_append,List.length_singleton,hwl,hzl];omega)] at h2
            exact h2
          case measure =>
           clear HD
           simp [intOf]
       ·obtain ⟨k1,k2,k3⟩:=htake.1 (by omega)
        have ez:(d0:Int)-bo=0:=by omega
        have HC:=aH (aI htk (aI how (aI hg (aI hbq (aI hstep (aI k1 (aI k2 (aI hbk (aI hul hjL)))))))))
        clear htk how hg hbq hstep hU htv k1 k2 k3 hxT hVle hV0 hbk hul hqlen hjL htake hgd hd0 hbq6 hbr hjn hb6 hs6 hgu1 hi hlt
        go_wp2
        go_roundw
        case rel =>
         obtain ⟨htk,how,hg,hbq,hstep,k1,k2,hbk,hul,hjL⟩:=HC.out
         have h1:=hstep (zs ++ [0]) (by simp [htk.1]) (htk.2.1.app (Dig.cons cB (Dig.nil _))) (by rw [cM,Nat.mul_zero,Nat.add_zero];exact k2)
         rw [← k1] at h1
         refine ⟨j,put us j (zs ++ [0]),qs.set j t,Nat.le_of_lt hjL,by go_num,h1,(hbq.far (by show gq≠gu;exact hne) _).set_ _ _,?_,(hbk.setCell (by show B1≤gu;exact HS.out.2.2.2.2.2.1) _).setCell (by show B1≤gq;have:=HS.out.2.2.2.2.1;have:=HS.out.2.2.2.2.2.1;omega) _⟩
         refine Ow.far ?_ (by show gu≠gq;exact hne2) _
         rw [← gZ htk.1 (by have:=HC.out.2.2.2.2.2.2.2.2.2;have:=HS.out.2.2.2.2.2.2.1;omega),← ints_set0]
         exact how.set_ _ _
        case measure =>
         clear HC
         simp [intOf]
def SubI (xs ys zs:List Nat) (k bo:Nat):Prop:=bo≤1∧Dig B9 zs∧zs.length=k∧val B9 zs+val B9 (ys.take k)=val B9 (xs.take k)+B9^k*bo
theorem SubI.nil (xs ys:List Nat):SubI xs ys [] 0 0:=⟨by omega,Dig.nil _,rfl,by simp [val]⟩
theorem SubI.step {xs ys zs:List Nat} {k bo r q:Nat} (h:SubI xs ys zs k bo) (hr:r<1000000000) (hq:q≤1) (e:r+ys.getD k 0+bo=xs.getD k 0+1000000000*q):SubI xs ys (zs ++ [r]) (k+1) q:=by
 obtain ⟨h1,h2,h3,h4⟩:=h
 refine ⟨hq,h2.app (Dig.cons (by rw [cN];exact hr) (Dig.nil _)),by simp [h3],?_⟩
 rw [cM,h3,iD,iD,Nat.pow_succ]
 rw [← cN] at e
 generalize xs.getD k 0=x at *
 generalize ys.getD k 0=y at *
 clear hr hq h2 h3 h1
 generalize B9=V at *
 grind
theorem SubI.finish {xs ys zs:List Nat} {k bo:Nat} (h:SubI xs ys zs k bo) (h1:xs.length=k) (h2:ys.length≤k) (hle:val B9 ys≤val B9 xs):val B9 zs=val B9 xs-val B9 ys:=by
 obtain ⟨_,hd,hl,h4⟩:=h
 rw [List.take_of_length_le h2,List.take_of_length_le (by omega)] at h4
 have hz:=bW hd
 rw [hl] at hz
 have hb:bo=0:=by
  rcases Nat.eq_zero_or_pos bo with e|e
  ·exact e
  ·exfalso
   have:B9^k*1≤B9^k*bo:=Nat.mul_le_mul_left _ e
   omega
 rw [hb] at h4
 omega
set_option maxRecDepth 100000 in
theorem zX (A:Option Addr) (n c:Nat) (xs:List Nat) (A' : Option Addr) (n' c' : Nat) (ys:List Nat) (w:World) (h:Ri w A n c xs) (h' : Ri w A' n' c' ys)
 (hd:Dig B9 xs) (hd' : Dig B9 ys) (hn:n≤2199023255552) (hn' : n'≤n) (hle:val B9 ys≤val B9 xs) :
 Calls Tryz.prog 185 #[.slice A n c,.slice A' n' c'] w (GivesDi w (val B9 xs-val B9 ys)):=by
 have HX:=aH (aI h hd)
 have HY:=aH (aI h' hd')
 have HN:=aH (aI hn (aI hn' hle))
 have hnc:n≤c:=h.cap
 have hcm:c≤9223372036854775807:=h.2.2.1
 have hnc' : n'≤c':=h'.cap
 have hcm' : c'≤9223372036854775807:=h'.2.2.1
 obtain ⟨i0,hi,hz0,hz1,hz2⟩:=info_parts gU
 have HI:=aH (aI hi (aI hz0 (aI hz1 hz2)))
 clear h h' hd hd' hi hz0 hz1 hz2 hle
 go_enter Tryz.func185,Tryz.ntmps185
 go_wp2
 go_loopw [5,6,7] (fun ov cv iv wr => ∃ (k cy:Nat) (zs:List Nat),k≤n∧iv = .int .i64 (k:Int)∧cv = .int .i64 (cy:Int)∧SubI xs ys zs k cy∧wr.ownsRow w.heap.size 3 1 ov k (zs.map dY)∧Below w.heap.size w wr) (fun _ _ iv _=>n-(intOf iv).toNat)
 case atStart=>exact ⟨0,0,[],Nat.zero_le _,rfl,rfl,SubI.nil _ _,⟨rfl,.inl ⟨rfl,rfl⟩⟩,aB _ _⟩
 case round =>
  obtain ⟨k,cy,zs,hk,rfl,rfl,hinv,hrow,hb⟩:=hrel
  by_cases hgo:k<n
  ·have b1:(k:Int)<n:=by omega
   have hk1:(k:Int)+1≤2199023255552:=by have:=HN.out;omega
   have hkB:k≤2199023255999:=by have:=HN.out;omega
   obtain ⟨ad,x,rfl,_,hx,hcx⟩:=(HX.out.1.below hb).at_ (k:=k) hgo
   obtain ⟨y,hy⟩:∃ y,y=ys.getD k 0:=⟨_,rfl⟩
   have bx:x<1000000000:=HX.out.2.at_ hx
   have by' : y<1000000000:=by rw [hy];exact HY.out.2.get0 cB k
   have bc:cy≤1:=hinv.1
   obtain ⟨d,s,r,q,e1,e2,e3,e4,hr,hq,hs,he⟩:=subFacts bx by' bc
   have hst:SubI xs ys (zs ++ [r]) (k+1) q:=hinv.step hr hq (by rw [← hy,getD_get hx];exact he)
   have cd':=aH (fun w' (hb' : Below w.heap.size w w')=>uO A' n' c' ys k w' (HY.out.1.below hb'))
   rw [← hy] at cd'
   have HS:=aH (aI hst (aI hrow (aI hb (aI hgo (aI hinv.2.2.1 hkB)))))
   clear hst hrow hk hinv hx hy hr hq bx by' bc hgo he
   go_wp2
   go_quiet ((go_at_call 225;exact Calls.quiet_of_same ((cd'.out _ (by first|exact hb|exact bZ hb _)).mono fun _ _ h=>⟨h.1,h.2.symm⟩)))
   have hb2:=bZ hb nq
   have hrow2:(wr.drewN nq).ownsRow w.heap.size 3 1 _ k (zs.map dY):=HS.out.2.1
   have HB:=aH (aI hrow2 hb2)
   clear hb hcx hb2 hrow2
   generalize wr.drewN nq=w2 at *
   rcases hs with ⟨rfl,rfl⟩|⟨hs1,hs2,hs3,rfl⟩
   ·have c1:¬ (r:Int)<0:=xB r
    go_wp2_with (at_builtin;refine fQ (r:=r) rfl _ _ rfl rfl HB.out.1 rfl HS.out.2.2.2.2.2 HB.out.2 (aR _) HB.out.2.size ?_)
    intro v' w3 hr3 hbw _
    have HX3:=aH (aI hr3 hbw)
    clear hr3 hbw
    go_wp2
    go_roundw
    case rel=>exact ⟨k+1,0,zs ++ [r],HS.out.2.2.2.1,by first|rfl|go_num|simp,rfl,HS.out.1,by rw [List.map_append];exact HX3.out.1,HX3.out.2⟩
    case measure =>
     have:=HS.out.2.2.2.1
     clear e1 e2 e3 e4 HX3 HS HB
     simp [intOf];omega
   ·have hs4:decide (s<0)=true:=decide_eq_true hs1
    clear hs1
    go_wp2_with (at_builtin;refine fQ (r:=r) rfl _ _ rfl rfl HB.out.1 rfl HS.out.2.2.2.2.2 HB.out.2 (aR _) HB.out.2.size ?_)
    intro v' w3 hr3 hbw _
    have HX3:=aH (aI hr3 hbw)
    clear hr3 hbw
    go_wp2
    go_roundw
    case rel=>exact ⟨k+1,1,zs ++ [r],HS.out.2.2.2.1,by first|rfl|go_num|simp,rfl,HS.out.1,by rw [List.map_append];exact HX3.out.1,HX3.out.2⟩
    case measure =>
     have:=HS.out.2.2.2.1
     clear e1 e2 e3 e4 HX3 HS HB hs2 hs3 hs4
     simp [intOf];omega
  ·obtain ⟨A2,c2,rfl,hri⟩:=xA hrow
   have hkn:n=k:=by omega
   have hv:=hinv.finish (by rw [HX.out.1.len];exact hkn) (by rw [HY.out.1.len];omega) HN.out.2.2
   have HF:=aH (aI hri (aI hinv.2.1 (aI hv hb)))
   have b1:¬ (k:Int)<n:=by omega
   clear hri hinv hv hb hk hgo hrow
   go_wp2_with (go_at_call 222;refine (mG _ _ _ _ _ HF.out.1 HF.out.2.1).mono ?_;rintro e w' ⟨⟨v,rfl,hv⟩,rfl⟩)
   go_ret
   exact ⟨v,rfl,by rw [← HF.out.2.2.1];exact hv,HF.out.2.2.2⟩
theorem Di.nil (w:World):Di w (.slice none 0 0) 0:=⟨none,0,0,[],rfl,Ri.nil,Dig.nil _,Norm.nil,rfl⟩
theorem ri_one {w:World} {g:Nat} {f:Nat} (h:w.heap[g]?=some (.cells #[.int .i64 (f:Int)] 3 (0,0))):Ri w (some ⟨g,0,none⟩) 1 1 [f]:=Bi.rd (ys := [f]) h (by show 1≤9223372036854775807;omega)
set_option maxRecDepth 100000 in
theorem zY (A:Option Addr) (n c:Nat) (xs:List Nat) (A' : Option Addr) (n' c' : Nat) (ys:List Nat) (w:World) (h:Ri w A n c xs) (h' : Ri w A' n' c' ys)
 (hd:Dig B9 xs) (hd' : Dig B9 ys) (hx:Norm xs) (hy:Norm ys) (hn:n≤1099511627776) (h0:0<n') :
 Calls Tryz.prog 173 #[.slice A n c,.slice A' n' c'] w (zA w (val B9 xs/val B9 ys) (val B9 xs%val B9 ys)):=by
 have hnc:n≤c:=h.cap
 have hcm:c≤9223372036854775807:=h.2.2.1
 have hnc' : n'≤c':=h'.cap
 have hcm' : c'≤9223372036854775807:=h'.2.2.1
 rcases Nat.lt_or_ge (val B9 xs) (val B9 ys) with hlt|hge
 ·have cc:=aH (eS A n c xs A' n' c' ys w h h' hd hd' hx hy)
  rw [cmpI_lt hlt] at cc
  have HX:=aH (aI h (aI hd (aI hx hlt)))
  clear h h' hd hd' hx hy hlt
  go_enter Tryz.func173,Tryz.ntmps173
  go_wp2_with fail
  refine cc.out.mono ?_
  rintro e w0 ⟨rfl,hb0⟩
  go_wp2
  go_ret2
  refine ⟨_,_,rfl,?_,?_,hb0⟩
  ·rw [Nat.div_eq_of_lt HX.out.2.2.2];exact Di.nil _
  ·rw [Nat.mod_eq_of_lt HX.out.2.2.2];exact ⟨A,n,c,xs,rfl,HX.out.1.below hb0,HX.out.2.1,HX.out.2.2.1,rfl⟩
 ·rcases Nat.lt_or_ge 1 n' with h1|h1
  ·exact divLong_any A n c xs A' n' c' ys w h h' hd hd' hx hy hn h1 hge
  ·obtain rfl:n'=1:=by omega
   obtain ⟨ad',y,rfl,hblk',hyt,hcy⟩:=h'.at_ (k:=0) (by omega)
   have hyy:ys = [y]:=by
    have hl:=h'.len
    match ys,hl,hyt with
    | [a],_,hy=>simp at hy;rw [hy]
   subst hyy
   have hyv:val B9 [y]=y:=by simp [val]
   have hyl:y<1000000000:=hd'.at_ hyt
   have hy0:0<y:=by
    rcases Nat.eq_zero_or_pos y with e|e
    ·exfalso;subst e;exact hy (by simp) rfl
    ·exact e
   have hc1:¬ bU (val B9 xs) (val B9 [y])<0:=by unfold bU;rw [if_neg (by omega)];split <;> omega
   obtain ⟨z,hz⟩:∃ z:Int,bU (val B9 xs) (val B9 [y])=z:=⟨_,rfl⟩
   have cc:=aH (eS A n c xs (some ad') 1 c' [y] w h h' hd hd' hx hy)
   have cd:=aH (fun W (hb:Below w.heap.size w W)=>sW A n c xs y W (h.below hb) hd (by omega) hy0 hyl)
   rw [hz] at cc hc1
   rw [hyv]
   have hz0:decide (z<0)=false:=decide_eq_false hc1
   have HY:=aH (aI hyl hy0)
   obtain ⟨r,hr⟩:∃ r,r=val B9 xs%y:=⟨_,rfl⟩
   have hrl:r<1000000000:=by rw [hr];exact Nat.lt_trans (Nat.mod_lt _ hy0) hyl
   rw [← hr] at cd ⊢
   have HR:=aH hrl
   clear h h' hd hd' hx hy hc1 hz hyl hy0 hyv hyt hge hr hrl
   go_enter Tryz.func173,Tryz.ntmps173
   go_wp2_with fail
   refine cc.out.mono ?_
   rintro e w0 ⟨rfl,hb0⟩
   have hcy0:=(hb0.cell (p:=ad'.add 0) (by rw [bK];exact hblk')).trans hcy
   have hcy1:w0.cell? ad'=some (.int .i64 (y:Int)):=by simpa [Addr.add] using hcy0
   clear hcy hcy0
   go_wp2_with fail
   refine (cd.out _ hb0).mono ?_
   rintro e w1 ⟨v,rfl,hv,hb1⟩
   have HV:=aH (aI hv (Below.step_trans' hb0 hb1))
   clear hv hb1 hb0
   have hbN:Below w1.heap.size w1 (w1.alloc (.cells #[.int .i64 (r:Int)] 3)):=(aB _ _).alloc (aR _) _
   have HN:=aH hbN
   clear hbN
   go_wp2_with (go_at_call 222;refine (mG _ _ _ [r] _ (ri_one (heap_alloc_new w1 _)) (Dig.cons HR.out (Dig.nil _))).mono ?_;rintro e w11 ⟨⟨v11,rfl,hv11⟩,rfl⟩)
   go_ret2
   exact ⟨v,v11,rfl,HV.out.1.below HN.out,by simpa [val] using hv11,Below.step_trans' HV.out.2 HN.out⟩
theorem sX {v v' : Value} {a b:Nat} {w:World} (h:Di w v a) (h' : Di w v' b) (ha:a<B9^1099511627776) (hb:0<b):Calls Tryz.prog 173 #[v,v'] w (zA w (a/b) (a%b)):=by
 obtain ⟨A,n,c,xs,rfl,hr,hd,hn,rfl⟩:=h
 obtain ⟨A',n',c',ys,rfl,hr',hd',hn',rfl⟩:=h'
 refine zY A n c xs A' n' c' ys w hr hr' hd hd' hn hn' ?_ ?_
 ·rw [← hr.len];exact aV dN hn ha
 ·rw [← hr'.len]
  exact List.length_pos_iff.2 (by rintro rfl;simp [val] at hb)
def CommAt (w:World) (T a b k:Nat) (va vb:Value) (wr:World):Prop := ∃ x,Di wr va x∧Di wr vb k∧Nat.gcd x k=Nat.gcd a b∧x<T∧k<T∧Below w.heap.size w wr
set_option maxRecDepth 100000 in
theorem common_any (v v' : Value) (a b:Nat) (w:World) (h:Di w v a) (h' : Di w v' b) (ha:a<B9^1099511627776) (hb:b<B9^1099511627776) :
 Calls Tryz.prog 115 #[v,v'] w (GivesDi w (Nat.gcd a b)):=by
 obtain ⟨T,hT⟩:∃ T,T=B9^1099511627776:=⟨_,rfl⟩
 have HB:=aH (fun (x y:Nat) (u u' : Value) (W:World) (k:Di W u x) (k' : Di W u' y) (kx:x<T) (ky:0<y)=>sX k k' (by rw [← hT];exact kx) ky)
 rw [← hT] at ha hb
 clear hT
 have HA:=aH (aI h (aI h' (aI ha hb)))
 obtain ⟨A,n,c,xs,rfl,hr,hd,hn,rfl⟩:=h
 obtain ⟨A',n',c',ys,rfl,hr',hd',hn',rfl⟩:=h'
 generalize val B9 xs=a at *
 generalize val B9 ys=b at *
 clear hr hd hn hr' hd' hn' ha hb
 go_enter Tryz.func115,Tryz.ntmps115
 go_wp2
 go_loopg [0,1] b (fun k va vb wr=>CommAt w T a b k va vb wr)
 case atStart=>exact ⟨a,HA.out.1,HA.out.2.1,rfl,HA.out.2.2.1,HA.out.2.2.2,aB _ _⟩
 case round =>
  obtain ⟨x,hx,hy,hg,hxT,hyT,hbe⟩:=hrel
  have HR:=aH (aI hx (aI hy (aI hg (aI hxT (aI hyT hbe)))))
  obtain ⟨A',n',c',ys,rfl,hr',hd',hn',hv'⟩:=hy
  rcases Nat.eq_zero_or_pos n' with h0|h0
  ·subst h0
   have hk:gk=0:=by
    rw [← hv',List.eq_nil_of_length_eq_zero hr'.len];rfl
   obtain ⟨A2,n2,c2,zs,rfl,hr2,hd2,hn2,hv2⟩:=hx
   have HK:=aH hk
   clear hg hxT hyT hbe hr' hd' hn' hv' hk hr2 hd2 hn2 hv2
   go_wp2
   go_ret
   obtain ⟨hx,hy,hg,hxT,hyT,hbe⟩:=HR.out
   refine ⟨_,rfl,?_,hbe⟩
   rw [← hg,HK.out,Nat.gcd_zero_right]
   exact hx
  ·have k1:(0:Int)<n':=by omega
   have hkp:0<gk:=by
    rw [← hv']
    exact hn'.pos cB (by rintro rfl;have:=hr'.len;simp at this;omega)
   have HK:=aH hkp
   obtain ⟨A2,n2,c2,zs,rfl,hr2,hd2,hn2,hv2⟩:=hx
   clear hg hxT hyT hbe hr' hd' hn' hv' hkp hr2 hd2 hn2 hv2 h0
   go_wp2_with fail
   refine (HB.out x gk _ _ _ HR.out.1 HR.out.2.1 HR.out.2.2.2.1 HK.out).mono ?_
   rintro e w3 ⟨v1,v2,rfl,q1,q2,q3⟩
   obtain ⟨A1,n1,c1,zs1,rfl,_⟩:=id q1
   obtain ⟨A3,n3,c3,zs3,rfl,_⟩:=id q2
   have Q:=aH (aI q2 q3)
   clear q1 q2 q3
   go_wp2
   go_roundg (x%gk)
   case measure=>exact Nat.mod_lt _ HK.out
   case rel =>
    obtain ⟨hx,hy,hg,hxT,hyT,hbe⟩:=HR.out
    exact ⟨gk,hy.below Q.out.2,Q.out.1,by rw [← hg,Nat.gcd_comm gk,Nat.gcd_comm x,Nat.gcd_rec gk x],hyT,Nat.lt_trans (Nat.mod_lt _ HK.out) hyT,Below.step_trans' hbe Q.out.2⟩
def gN (neg:Bool) (a:Nat):Int:=if neg then -(a:Int) else a
theorem sY (neg:Bool) (a:Nat):(gN neg a).natAbs=a:=by cases neg <;> simp [gN]
theorem sgz_neg (neg:Bool) (a:Nat):decide (gN neg a<0)=(neg&&decide (0<a)):=by
 cases neg
 ·simp [gN]
 ·simp [gN]
theorem kJ (neg:Bool) (A:Option Addr) (n c:Nat) (xs:List Nat) (w:World) (h:Ri w A n c xs) (hd:Dig B9 xs) :
 Calls Tryz.prog 182 #[.bool neg,.slice A n c] w fun e w' => ∃ v,e = .returned v∧In w' v (gN neg (val B9 xs))∧Below w.heap.size w w':=by
 have HR:=aH (aI h hd)
 clear h hd
 go_enter Tryz.func182,Tryz.ntmps182
 go_wp2_with fail
 refine (trim_raw A n c xs _ (HR.out.1.below ((aB _ _).alloc (aR _) _))).mono ?_
 rintro e w' ⟨⟨k,⟨hk,hn,hv⟩,rfl⟩,rfl⟩
 have HK:=aH (aI hk (aI hn hv))
 clear hk hn hv
 have res:∀ (b:Bool),b=(neg&&decide (0<k))→∀ w' : World,Below w.heap.size w w'→In w' (.agg #[.bool b,.slice A k c]) (gN neg (val B9 xs)):=by
  intro b hb w' hbel
  obtain ⟨hk,hn,hv⟩:=HK.out
  refine ⟨A,k,c,xs.take k,?_,(HR.out.1.below hbel).take (by rw [← HR.out.1.len];exact hk),HR.out.2.take k,hn,by rw [sY];exact hv⟩
  rw [sgz_neg,hb]
  have:decide (0<k)=decide (0<val B9 xs):=by
   rw [decide_eq_decide,← hv]
   constructor
   ·intro h0
    refine Nat.pos_of_ne_zero fun he=>?_
    have:=(Norm.zero_iff cB hn).1 he
    have h2:=congrArg List.length this
    rw [List.length_take,List.length_nil] at h2
    omega
   ·intro h0
    refine Nat.pos_of_ne_zero fun he=>?_
    subst he
    simp [val] at h0
  rw [this]
 cases neg
 ·go_wp2
  refine bodyPost_ret (v := .agg #[.bool false,.slice A k c]) (by simp [results,Tryz.results182,go_sem]) rfl ⟨_,rfl,res false (by simp) _ ((aB _ _).alloc (aR _) _),(aB _ _).alloc (aR _) _⟩
 ·by_cases h0:0<k
  ·have c0:(0:Int)<k:=by omega
   go_wp2
   refine bodyPost_ret (v := .agg #[.bool true,.slice A k c]) (by simp [results,Tryz.results182,go_sem]) rfl ⟨_,rfl,res true (by simp [h0]) _ ((aB _ _).alloc (aR _) _),(aB _ _).alloc (aR _) _⟩
  ·have c0:¬ (0:Int)<k:=by omega
   go_wp2
   refine bodyPost_ret (v := .agg #[.bool false,.slice A k c]) (by simp [results,Tryz.results182,go_sem]) rfl ⟨_,rfl,res false (by simp [h0]) _ ((aB _ _).alloc (aR _) _),(aB _ _).alloc (aR _) _⟩
def lo (n:Nat):Nat→List UInt8
 | 0 => []
 | k+1=>UInt8.ofNat (48+n/10^k%10)::lo n k
def loB (n k:Nat):ByteArray:=⟨(lo n k).toArray⟩
theorem lo_length (n k:Nat):(lo n k).length=k:=by induction k with|zero=>rfl|succ k ih=>simp [lo,ih]
theorem iJ (n k:Nat):(loB n k).size=k:=by simp [loB,ByteArray.size,lo_length]
abbrev digs:ByteArray:=⟨#[48,49,50,51,52,53,54,55,56,57]⟩
theorem digs_at {d:Nat} (h:d<10):digs.extract d (d+1)=⟨#[UInt8.ofNat (48+d)]⟩:=by
 match d,h with
 | 0,_|1,_|2,_|3,_|4,_|5,_|6,_|7,_|8,_|9,_=>rfl
theorem loB_succ (n k:Nat):(⟨#[UInt8.ofNat (48+n/10^k%10)]⟩:ByteArray)++loB n k=loB n (k+1):=by
 apply Ab.ba_ext
 simp [loB,lo]
theorem meas1 {q m least k a b:Nat} (hq:q=m/10) (h0:0<m) (ha:a=k+1) (hb:b=k):q+(least-a)<m+(least-b):=by omega
theorem meas2 {q m least k a b:Nat} (hq:q=m/10) (h0:m=0) (hk:k<least) (ha:a=k+1) (hb:b=k):q+(least-a)<m+(least-b):=by omega
theorem wrapI {q:Nat} (h:q<9223372036854775808):wrap64 (q:Int)=q:=by unfold wrap64;omega
theorem k18 {n k:Nat} (hn:n<9223372036854775808) (hp:10^k≤n):k≤18:=by
 refine Nat.le_of_not_lt fun hlt=>?_
 have h1:10^19≤10^k:=Nat.pow_le_pow_right (by omega) hlt
 have h2:(10:Nat)^19=10000000000000000000:=rfl
 rw [h2] at h1
 omega
set_option maxRecDepth 100000 in
theorem wD (n least:Nat) (w:World) (hn:n<9223372036854775808) (hl:least≤100):Calls Tryz.prog 180 #[.int .i64 (n:Int),.int .i64 (least:Int)] w fun e w' =>
 w'=w∧∃ K,e = .returned (.string (loB n K))∧n<10^K∧least≤K∧(K=least∨10^(K-1)≤n):=by
 have H:=aH (aI hn hl)
 clear hn hl
 go_enter Tryz.func180,Tryz.ntmps180
 go_wp2
 go_loopw [0,5] (fun a s wr => ∃ k m:Nat,a = .int .i64 (m:Int)∧s = .string (loB n k)∧m=n/10^k∧wr=w∧(k=0∨k≤least∨10^(k-1)≤n)∧k≤100) (fun a s _=>(match a with | .int _ z=>z.toNat|_=>0)+(least-nA s))
 case atStart=>exact ⟨0,n,rfl,by simp [loB,lo],by simp,rfl,.inl rfl,by omega⟩
 case round =>
  obtain ⟨k,m,rfl,rfl,hm,rfl,hk,hk100⟩:=hrel
  obtain ⟨d,hd⟩:∃ d,d=m%10:=⟨_,rfl⟩
  obtain ⟨q,hq⟩:∃ q,q=m/10:=⟨_,rfl⟩
  have hd10:d<10:=by omega
  have hm63:m≤n:=by rw [hm];exact Nat.div_le_self _ _
  have t1:((m:Int).tmod 10)=(d:Int):=by rw [Int.tmod_eq_emod_of_nonneg (by omega)];omega
  have t2:((m:Int)%10)=(d:Int):=by omega
  have t3:((m:Int).tdiv 10)=(q:Int):=by rw [Int.tdiv_eq_ediv_of_nonneg (by omega)];omega
  have t4:((m:Int)/10)=(q:Int):=by omega
  have d0:(0:Int)≤d:=by omega
  have d1:(d:Int)+1≤10:=by omega
  have d2:(d:Int)≤d+1:=by omega
  have hsz:((loB n k).size:Int)=(k:Int):=by rw [iJ]
  have hext:digs.extract d (d+1)++loB n k=loB n (k+1):=by
   rw [digs_at hd10,hd,hm]
   exact loB_succ n k
  have HH:=aH (aI hd (aI hq (aI hm (aI hk (aI hk100 (aI hm63 hext))))))
  clear hd hq hm hk hk100 hm63 hext
  by_cases h0:0<m
  ·have c0:(0:Int)<m:=by omega
   have HP:=aH h0
   clear h0
   go_wp2
   ·exfalso
    have:=iJ n k
    have:=HH.out.2.2.2.2.1
    omega
   have h0':=HP.out
   obtain ⟨hd,hq,hm,hk,hk100,hm63,hext⟩:=HH.out
   obtain ⟨hn,hl⟩:=H.out
   have hq2:q=n/10^(k+1):=by rw [hq,hm,Nat.div_div_eq_div_mul,Nat.pow_succ]
   have hp:10^k≤n:=by
    rw [hm] at h0'
    exact (Nat.div_pos_iff.1 h0').2
   have hk18:=k18 hn hp
   rw [wrapI (show q<9223372036854775808 by omega)]
   refine ⟨⟨k+1,q,rfl,by rw [hext],hq2,trivial,.inr (.inr hp),by omega⟩,?_⟩
   rw [hext]
   show q+(least-(loB n (k+1)).size)<m+(least-(loB n k).size)
   exact meas1 hq h0' (iJ _ _) (iJ _ _)
  ·have c0:¬ (0:Int)<m:=by omega
   by_cases h1:k<least
   ·have c1:(k:Int)<least:=by omega
    go_wp2
    ·exfalso
     have:=iJ n k
     have:=HH.out.2.2.2.2.1
     omega
    obtain ⟨hd,hq,hm,hk,hk100,hm63,hext⟩:=HH.out
    obtain ⟨hn,hl⟩:=H.out
    have hq2:q=n/10^(k+1):=by rw [hq,hm,Nat.div_div_eq_div_mul,Nat.pow_succ]
    have hz:m=0:=by omega
    refine ⟨⟨k+1,q,rfl,by rw [hext],hq2,trivial,.inr (.inl h1),by omega⟩,?_⟩
    rw [hext]
    show q+(least-(loB n (k+1)).size)<m+(least-(loB n k).size)
    exact meas2 hq hz h1 (iJ _ _) (iJ _ _)
   ·have c1:¬ (k:Int)<least:=by omega
    go_wp2
    go_ret
    obtain ⟨hd,hq,hm,hk,hk100,hm63,hext⟩:=HH.out
    have hz:n/10^k=0:=by omega
    refine ⟨rfl,k,rfl,?_,by omega,?_⟩
    ·rcases Nat.div_eq_zero_iff.1 hz with h|h
     ·have:=Nat.pow_pos (n:=k) (show 0<10 by omega);omega
     ·exact h
    ·rcases hk with h|h|h
     ·left;omega
     ·left;omega
     ·right;exact h
theorem lo_add (x c k:Nat):∀ j,j≤k→lo (x+c*10^k) j=lo x j:=by
 intro j
 induction j with
 | zero=>intro _;rfl
 | succ j ih =>
   intro hj
   simp only [lo]
   rw [ih (by omega)]
   congr 3
   have hk:10^k=10*10^(k-1-j)*10^j:=by
    rw [Nat.mul_assoc,← Nat.pow_add,← Nat.pow_succ']
    congr 1
    omega
   rw [hk,← Nat.mul_assoc,Nat.add_mul_div_right _ _ (Nat.pow_pos (by omega)),← Nat.mul_assoc,Nat.mul_comm c 10,Nat.mul_assoc,Nat.add_mul_mod_self_left]
theorem lo_mod (x k:Nat):lo (x%10^k) k=lo x k:=by
 have h:x=x%10^k+x/10^k*10^k:=by rw [Nat.mul_comm];exact (Nat.mod_add_div x (10^k)).symm
 have h2:=lo_add (x%10^k) (x/10^k) k k (aR _)
 rw [← h] at h2
 exact h2.symm
theorem dec_app:∀ (k a x:Nat),0<a→x<10^k→Lib.decDigits (a*10^k+x)=Lib.decDigits a++lo x k:=by
 intro k
 induction k with
 | zero=>intro a x ha hx;simp at hx;subst hx;simp [lo]
 | succ k ih =>
   intro a x ha hx
   have hd:x/10^k<10:=by rw [Nat.div_lt_iff_lt_mul (Nat.pow_pos (by omega))];rw [Nat.pow_succ,Nat.mul_comm] at hx;exact hx
   have he:a*10^(k+1)+x=(a*10+x/10^k)*10^k+x%10^k:=by
    have:=Nat.mod_add_div x (10^k)
    rw [Nat.add_mul,Nat.pow_succ,Nat.mul_assoc a 10,Nat.mul_comm 10 (10^k),Nat.mul_comm (x/10^k)]
    omega
   have hlo:lo x (k+1)=UInt8.ofNat (48+x/10^k%10)::lo x k:=rfl
   rw [he,hlo]
   generalize x/10^k=d at hd
   rw [ih _ _ (by omega) (Nat.mod_lt _ (Nat.pow_pos (by omega))),lo_mod,eL (by omega),show (a*10+d)/10=a by omega,show (a*10+d)%10=d by omega]
   rw [List.append_assoc,Nat.mod_eq_of_lt hd]
   rfl
theorem dec_lo {n K:Nat} (h1:n<10^(K+1)) (h2:K=0∨10^K≤n):lo n (K+1)=Lib.decDigits n:=by
 have hp:0<10^K:=Nat.pow_pos (by omega)
 have hd:n/10^K<10:=by rw [Nat.div_lt_iff_lt_mul hp];rw [Nat.pow_succ,Nat.mul_comm] at h1;exact h1
 rcases h2 with h2|h2
 ·subst h2
  simp at h1
  rw [cT h1]
  simp [lo,Nat.mod_eq_of_lt h1]
 ·have ha:0<n/10^K:=Nat.div_pos h2 hp
  have he:n=n/10^K*10^K+n%10^K:=by have:=Nat.mod_add_div n (10^K);rw [Nat.mul_comm] at this;omega
  have h3:=dec_app K _ _ ha (Nat.mod_lt n hp)
  rw [← he,cT hd,lo_mod] at h3
  rw [h3]
  simp [lo,Nat.mod_eq_of_lt hd]
theorem loB_dec {n K:Nat} (h1:n<10^K) (hK:1≤K) (h2:K=1∨10^(K-1)≤n):loB n K=Ab.decB n:=by
 obtain ⟨k,rfl⟩:∃ k,K=k+1:=⟨K-1,by omega⟩
 unfold loB Ab.decB
 rw [dec_lo h1 ?_]
 rcases h2 with h|h
 ·left;omega
 ·right;simpa using h
theorem decB_app {a x:Nat} (ha:0<a) (hx:x<B9):Ab.decB a++loB x 9=Ab.decB (x+B9*a):=by
 apply Ab.ba_ext
 have:=dec_app 9 a x ha (by rw [cN] at hx;omega)
 simp only [Ab.decB,loB]
 rw [show x+B9*a=a*10^9+x by rw [cN];omega,this]
 simp
theorem oT (n:Nat) (w:World) (hn:n<9223372036854775808):Calls Tryz.prog 180 #[.int .i64 (n:Int),.int .i64 1] w fun e w'=>w'=w∧e = .returned (.string (Ab.decB n)) :=
 (wD n 1 w hn (by omega)).mono fun e w' ⟨e1,K,e2,h1,h2,h3⟩=>⟨e1,by rw [e2,loB_dec h1 h2 h3]⟩
theorem decimal9 (n:Nat) (w:World) (hn:n<B9):Calls Tryz.prog 180 #[.int .i64 (n:Int),.int .i64 9] w fun e w'=>w'=w∧e = .returned (.string (loB n 9)) :=
 (wD n 9 w (by rw [cN] at hn;omega) (by omega)).mono fun e w' ⟨e1,K,e2,h1,h2,h3⟩=>⟨e1,by
  have:K=9:=by
   rcases h3 with h|h
   ·exact h
   ·refine Nat.le_antisymm (Nat.le_of_not_lt fun hlt=>?_) h2
    have h4:10^9≤10^(K-1):=Nat.pow_le_pow_right (by omega) (by omega)
    rw [show (10:Nat)^9=1000000000 from rfl] at h4
    rw [cN] at hn
    omega
  rw [e2,this]⟩
def aN (z:Int):ByteArray:=if z<0 then ⟨#[45]⟩++Ab.decB z.natAbs else Ab.decB z.natAbs
theorem size_val {xs:List Nat} (hd:Dig B9 xs) (h0:xs≠[]):(Ab.decB (val B9 xs)).size≤9*xs.length:=by
 have h1:=bW hd
 have h2:B9^xs.length=10^(9*xs.length):=by rw [Nat.pow_mul];rfl
 have hl:0<xs.length:=List.length_pos_iff.2 h0
 rw [h2,show 9*xs.length=9*xs.length-1+1 by omega] at h1
 have:=Ab.decB_size h1
 omega
set_option maxRecDepth 100000 in
theorem text_raw (neg:Bool) (A:Option Addr) (n c:Nat) (xs:List Nat) (w:World) (h:Ri w A n c xs) (hd:Dig B9 xs) (hn:Norm xs) (hlen:n≤100000000) :
 Calls Tryz.prog 175 #[.agg #[.bool neg,.slice A n c]] w fun e w'=>e = .returned (.string (if neg&&decide (0<n) then ⟨#[45]⟩++Ab.decB (val B9 xs) else Ab.decB (val B9 xs)))∧Below w.heap.size w w':=by
 have hB:Below w.heap.size w (w.alloc (.cells #[.bool neg,.slice A n c] 160)):=(aB _ _).alloc (aR _) _
 have HR:=aH (aI (h.below hB) (aI hd (aI hn (aI hlen (aI h.len hB)))))
 clear h hd hn hlen hB
 go_enter Tryz.func175,Tryz.ntmps175
 rcases Nat.eq_zero_or_pos n with h0|h0
 ·subst h0
  have h0:xs = []:=List.eq_nil_of_length_eq_zero HR.out.2.2.2.2.1
  have he:Ab.decB (val B9 xs)=⟨#[48]⟩:=by rw [h0];exact Ab.dec0
  have hb:=HR.out.2.2.2.2.2
  clear HR h0
  cases neg <;> (go_wp2;go_ret;exact ⟨rfl,hb⟩)
 ·have c0:((n:Int)==0)=false:=by simp;omega
  obtain ⟨m,hm⟩:∃ m,m=n-1:=⟨_,rfl⟩
  obtain ⟨ad,x,rfl,_hb,hx,hcell⟩:=HR.out.1.at_ (k:=m) (by omega)
  have c1:((n:Int)-1)=(m:Int):=by omega
  have c3:((n:Int)-2)=(m:Int)-1:=by omega
  have c2:(m:Int)<n:=by omega
  have c4:wrap64 (m:Int)=m:=wrapI (by have:=HR.out.2.2.2.1;omega)
  have c5:wrap64 ((m:Int)-1)=(m:Int)-1:=by unfold wrap64;have:=HR.out.2.2.2.1;omega
  have hlx:m<xs.length:=by rw [HR.out.2.2.2.2.1];omega
  have hx9:x<B9:=HR.out.2.1.at_ hx
  have hx63:x<9223372036854775808:=by rw [cN] at hx9;omega
  have hdrop:val B9 (xs.drop m)=x:=by
   rw [List.getElem?_eq_getElem hlx] at hx
   injection hx with hx
   rw [lJ B9 xs _ hlx,List.drop_of_length_le (by rw [HR.out.2.2.2.2.1];omega)]
   simp [val,hx]
  have HX:=aH (aI hx (aI hdrop hm))
  clear hx hdrop hlx hx9 hm
  go_wp2_with fail
  refine (oT x _ hx63).mono ?_
  rintro e w' ⟨rfl,rfl⟩
  go_wp2_with fail
  go_loopw [3,4] (fun s i wr => ∃ k:Nat,i = .int .i64 ((k:Int)-1)∧k≤m∧s = .string (Ab.decB (val B9 (xs.drop k)))∧wr=w.alloc (.cells #[.bool neg,.slice (some ad) n c] 160)) (fun _ i _=>(intOf i+1).toNat)
  case atStart=>exact ⟨m,by rw [c5],aR _,by rw [HX.out.2.1],rfl⟩
  case round =>
   obtain ⟨k,rfl,hk,rfl,rfl⟩:=hrel
   have hpos:0<val B9 (xs.drop k):=by
    obtain ⟨hx,_,hm⟩:=HX.out
    obtain ⟨_,hd,hn,_,hl,_⟩:=HR.out
    have hne:xs.drop k≠[]:=fun e=>by have:=congrArg List.length e;rw [List.length_drop,List.length_nil] at this;omega
    refine Norm.pos cB (fun h=>?_) hne
    rw [List.getLast_drop]
    exact hn _
   have hsz:(Ab.decB (val B9 (xs.drop k))).size≤900000000:=by
    obtain ⟨_,hd,hn,hlen,hl,_⟩:=HR.out
    have hne:xs.drop k≠[]:=fun e=>by have:=congrArg List.length e;rw [List.length_drop,List.length_nil] at this;have:=HX.out.2.2;omega
    have:=size_val (hd.drop k) hne
    rw [List.length_drop] at this
    omega
   rcases Nat.eq_zero_or_pos k with h0|h0
   ·subst h0
    rw [List.drop_zero] at hpos hsz ⊢
    have HF:=aH (aI hpos hsz)
    clear hpos hsz hk
    have hb:=HR.out.2.2.2.2.2
    cases neg
    ·go_wp2
     all_goals first|(exfalso;have:=HF.out.2;simp at *;omega)|(go_ret;exact ⟨rfl,hb⟩)
    ·go_wp2
     all_goals first|(go_ret;exact ⟨rfl,hb⟩)|(exfalso;have:=HF.out.2;simp at *;omega)
   ·obtain ⟨j,hj⟩:∃ j,j=k-1:=⟨_,rfl⟩
    have d1:((k:Int)-1)=(j:Int):=by omega
    have d2:(j:Int)<n:=by have:=HX.out.2.2;omega
    have d3:(0:Int)≤j:=by omega
    have d4:wrap64 ((j:Int)-1)=(j:Int)-1:=by unfold wrap64;have:=HR.out.2.2.2.1;have:=HX.out.2.2;omega
    obtain ⟨ad',y,e,_hb',hy,hcy⟩:=HR.out.1.at_ (k:=j) (by have:=HX.out.2.2;omega)
    injection e with e
    subst e
    have hy9:y<B9:=HR.out.2.1.at_ hy
    have HY:=aH (aI hy (aI hj (aI hpos (aI hsz (aI hk h0)))))
    clear hy hj hpos hsz hk h0 hcell
    rw [d1]
    go_wp2_with fail
    refine (decimal9 y _ hy9).mono ?_
    rintro e w' ⟨rfl,rfl⟩
    go_wp2
    ·exfalso
     have h9:=iJ y 9
     obtain ⟨_,_,_,h8,_⟩:=HY.out
     omega
    go_roundw
    case rel =>
     obtain ⟨hy,hj,hpos,hsz,hk,h0⟩:=HY.out
     have hl:=HR.out.2.2.2.2.1
     have hjl:j<xs.length:=by have:=HX.out.2.2;omega
     rw [c5]
     refine ⟨_,_,_,_,_,_,_,_,_,_,_,_,_,_,⟨j,?_,by omega,?_,trivial⟩,rfl⟩
     ·rw [d4]
     congr 1
     rw [decB_app hpos hy9,lJ B9 xs j hjl]
     rw [List.getElem?_eq_getElem hjl] at hy
     injection hy with hy
     rw [hy,show j+1=k by omega]
    case measure =>
     have:=HY.out.2.1
     have:=HY.out.2.2.2.2.2
     simp [intOf]
     omega
theorem row_ri {w:World} {base m:Nat} {e:TypeId} {v:Value} {ws:List Nat} (h:w.ownsRow base e 1 v m (ws.map dY)):∃ A c,v = .slice A m c∧Ri w A m c ws:=by
 obtain ⟨h1,h2⟩:=h
 have hl:ws.length=m:=by simpa using h1
 rcases h2 with ⟨rfl,rfl⟩|⟨g,cap,cur,rfl,e2,e3,e4,e5,e6,e7⟩
 ·have:ws = []:=List.eq_nil_of_length_eq_zero hl
  subst this
  exact ⟨none,0,rfl,Ri.nil⟩
 ·refine ⟨_,cap,rfl,hl,e4,e5,fun _=>⟨_,rfl,lt_of_block e3,fun j x hx=>?_⟩⟩
  rw [yK,aA e3,← Array.getElem?_toList]
  have hj:(cur.toList.take (m*1))[0+j]?=some (.int .i64 (x:Int)):=by rw [e7,Nat.zero_add,List.getElem?_map,hx];rfl
  rw [List.getElem?_take] at hj
  split at hj
  ·exact hj
  ·cases hj
def WholeAt (w:World) (z:Int) (nv wv:Value) (wr:World):Prop :=
 ∃ (m:Int) (ds:List Nat),nv = .int .i64 m∧wr.ownsRow (w.heap.size+1) 3 1 wv ds.length (ds.map dY)∧Dig B9 ds∧z.natAbs=val B9 ds+B9^ds.length*m.natAbs∧(m<0→z<0)∧(0<m→0<z) ∧
   Below w.heap.size w wr∧wr.heap[w.heap.size]?=some (.cells #[.bool false,.slice none 0 0] 160 (0,0))∧w.heap.size<wr.heap.size
theorem whole_len {z m:Int} {ds:List Nat} (hz:-9223372036854775808≤z∧z≤9223372036854775807) (h:z.natAbs=val B9 ds+B9^ds.length*m.natAbs) (hm:m≠0):ds.length≤2∧-9223372036854775808≤m∧m≤9223372036854775808:=by
 have h1:1≤m.natAbs:=by omega
 have h2:B9^ds.length*1≤B9^ds.length*m.natAbs:=Nat.mul_le_mul_left _ h1
 have hp:0<B9^ds.length:=Nat.pow_pos cB
 have h4:1*m.natAbs≤B9^ds.length*m.natAbs:=Nat.mul_le_mul_right _ hp
 refine ⟨Nat.le_of_not_lt fun hlt=>?_,by omega,by omega⟩
 have h3:B9^3≤B9^ds.length:=Nat.pow_le_pow_right cB hlt
 have h5:B9^3=1000000000000000000000000000:=rfl
 rw [h5] at h3
 omega
theorem zD {w w2:World} {z m m2:Int} {ds:List Nat} {r:Nat} {v' : Value} (hd:Dig B9 ds) (h:z.natAbs=val B9 ds+B9^ds.length*m.natAbs) (hn:m<0→z<0) (hp:0<m→0<z)
 (e:m.natAbs=r+1000000000*m2.natAbs) (hr:r<1000000000) (s1:m2<0→m<0) (s2:0<m2→0<m) (ho:w2.ownsRow (w.heap.size+1) 3 1 v' (ds.length+1) (ds.map dY ++ [.int .i64 (r:Int)]))
 (hb:Below w.heap.size w w2) (hh:w2.heap[w.heap.size]?=some (.cells #[.bool false,.slice none 0 0] 160 (0,0))) (hs:w.heap.size<w2.heap.size):WholeAt w z (.int .i64 m2) v' w2:=by
 refine ⟨m2,ds ++ [r],rfl,?_,hd.app (Dig.cons (by rw [cN];exact hr) (Dig.nil _)),?_,fun h1=>hn (s1 h1),fun h1=>hp (s2 h1),hb,hh,hs⟩
 ·rw [List.length_append,List.length_singleton,List.map_append];exact ho
 ·rw [cM,List.length_append,List.length_singleton,Nat.pow_succ,h,e,Nat.mul_add,Nat.mul_assoc,cN,Nat.add_assoc]
theorem fT {w w' : World} {row:Option Nat} {g:Nat} {o:Obj} (hg:w.grownBy w' row) (h:w.heap[g]?=some o) (hr:some g≠row):w'.heap[g]?=some o :=
 (hg.block g (lt_of_block h) hr).trans h
theorem blk2i {w:World} {g:Nat} {T:TypeId} {a b:Value} (h:w.heap[g]?=some (.cells #[a,b] T (0,0))):(w.cell? ⟨g,0,none⟩=some a∧w.cell? ⟨g,1,none⟩=some b)∧w.frozen? ⟨g,0,none⟩=false∧w.frozen? ⟨g,1,none⟩=false:=by
 simp [World.cell?,World.frozen?,h]
theorem uQ {w:World} {g:Nat} {T:TypeId} {a b x y:Value} (h:w.heap[g]?=some (.cells #[a,b] T (0,0))):((w.setCell ⟨g,0,none⟩ x).setCell ⟨g,1,none⟩ y).heap[g]?=some (.cells #[x,y] T (0,0)):=by
 simp [World.setCell,Array.getElem?_modify,h]
theorem In.set2 {w:World} {v:Value} {z:Int} {g:Nat} {T:TypeId} {a b x y:Value} (h:In w v z) (hg:w.heap[g]?=some (.cells #[a,b] T (0,0))) (ha:∀ n,a≠.int .i64 n) (hb:∀ n,b≠.int .i64 n):In ((w.setCell ⟨g,0,none⟩ x).setCell ⟨g,1,none⟩ y) v z:=by
 obtain ⟨A,n,c,xs,hv,hr,hd,hn,hz⟩:=h
 refine ⟨A,n,c,xs,hv,⟨hr.1,hr.2.1,hr.2.2.1,fun hp=>?_⟩,hd,hn,hz⟩
 obtain ⟨ad,e,hl,hc⟩:=hr.2.2.2 hp
 refine ⟨ad,e,by simpa [World.setCell] using hl,fun j u hu=>?_⟩
 have h1:=hc j u hu
 have hne:(ad.add j).block≠g:=fun he=>by
  unfold World.cell? at h1
  rw [he,hg] at h1
  simp only at h1
  match ho:(ad.add j).off with
  | 0=>rw [ho] at h1;simp at h1;exact ha _ h1.2
  | 1=>rw [ho] at h1;simp at h1;exact hb _ h1.2
  | k+2=>rw [ho] at h1;simp at h1
 rw [World.cell?_of_block (w:=w),h1]
 rw [Below.heap_setCell _ _ _ _ (show (ad.add j).block≠(⟨g,1,none⟩:Addr).block from hne),Below.heap_setCell _ _ _ _ (show (ad.add j).block≠(⟨g,0,none⟩:Addr).block from hne)]
theorem info_int:(Tryz.prog.info? 3).map (fun i=>(i.zero,i.size,i.bytes))=some (some (.int .i64 0),1,8):=by kernel_rfl
set_option maxRecDepth 100000 in
theorem whole_any (z:Int) (w:World) (hz:-9223372036854775808≤z∧z≤9223372036854775807):Calls Tryz.prog 172 #[.int .i64 z] w fun e w' => ∃ v,e = .returned v∧In w' v z∧Below w.heap.size w w':=by
 have HZ:=aH hz
 clear hz
 obtain ⟨i0,hi,hz0,hz1,hz2⟩:=info_parts info_int
 have HI:=aH (aI hi (aI hz0 (aI hz1 hz2)))
 clear hi hz0 hz1 hz2
 go_enter Tryz.func172,Tryz.ntmps172
 go_wp2
 go_loopw [0,3] (fun nv wv wr=>WholeAt w z nv wv wr) (fun nv _ _=>(intOf nv).natAbs)
 case atStart=>exact ⟨z,[],rfl,⟨rfl,.inl ⟨rfl,rfl⟩⟩,Dig.nil _,by simp [val],fun h=>h,fun h=>h,(aB _ _).alloc (aR _) _,heap_alloc_new w _,by simp⟩
 case round =>
  obtain ⟨m,ds,rfl,hrow,hd,hzm,hn,hp,hb,hh,hs⟩:=hrel
  by_cases c0:m=0
  ·subst c0
   obtain ⟨A,c,rfl,hri⟩:=row_ri hrow
   have hv:gN (decide (z<0)) (val B9 ds)=z:=by
    simp only [Int.natAbs_zero,Nat.mul_zero,Nat.add_zero] at hzm
    rw [← hzm]
    unfold gN
    split <;> simp_all <;> omega
   have HC:=aH (aI hri (aI hd (aI hv (aI hb (aI hh hs)))))
   clear hrow hri hd hzm hn hp hb hh hs hv
   go_wp2_with fail
   refine (kJ _ A _ c ds _ HC.out.1 HC.out.2.1).mono ?_
   rintro e w2 ⟨v,rfl,q,b⟩
   rw [HC.out.2.2.1] at q
   have hh2:w2.heap[w.heap.size]?=some (.cells #[.bool false,.slice none 0 0] 160 (0,0)):=(b.block _ HC.out.2.2.2.2.2).trans HC.out.2.2.2.2.1
   have hs2:w.heap.size<w2.heap.size:=Nat.lt_of_lt_of_le HC.out.2.2.2.2.2 b.size
   have hb2:Below w.heap.size w w2:=HC.out.2.2.2.1.trans (b.mono HC.out.2.2.2.1.size)
   obtain ⟨A',n',c',xs',rfl,q'⟩:=id q
   have Q:=aH (aI q (aI hh2 (aI hs2 hb2)))
   clear q q' b hh2 hs2 hb2
   obtain ⟨⟨b0,b1⟩,f0,f1⟩:=blk2i Q.out.2.1
   go_wp2
   obtain ⟨q,hh2,hs2,hb2⟩:=Q.out
   obtain ⟨⟨g0,g1⟩,_⟩:=blk2i (uQ hh2 (x := .bool (decide (z<0))) (y := .slice A' n' c'))
   refine bodyPost_ret (v := .agg #[.bool (decide (z<0)),.slice A' n' c']) (by simp [results,Tryz.results172,go_sem,g0,g1]) rfl ⟨_,rfl,q.set2 hh2 (fun n h=>by cases h) (fun n h=>by cases h),?_⟩
   exact (hb2.setCell (p:=⟨w.heap.size,0,none⟩) (aR _) _).setCell (p:=⟨w.heap.size,1,none⟩) (aR _) _
  ·obtain ⟨hl2,hm1,hm2⟩:=whole_len HZ.out hzm c0
   obtain ⟨r,hr⟩:∃ r,r=m.natAbs%1000000000:=⟨_,rfl⟩
   obtain ⟨r',hr'⟩:∃ r' : Int,r'=if m<0 then -(r:Int) else r:=⟨_,rfl⟩
   obtain ⟨q',hq'⟩:∃ q' : Int,q'=if m<0 then -((m.natAbs/1000000000:Nat):Int) else ((m.natAbs/1000000000:Nat):Int):=⟨_,rfl⟩
   have t1:m.tmod 1000000000=r':=by
    rcases Int.lt_or_le m 0 with h|h
    ·rw [hr',if_pos h,show m = -((m.natAbs:Nat):Int) by omega,Int.neg_tmod,Int.tmod_eq_emod_of_nonneg (by omega)]
     omega
    ·rw [hr',if_neg (by omega),Int.tmod_eq_emod_of_nonneg h]
     omega
   have t3:m.tdiv 1000000000=q':=by
    rcases Int.lt_or_le m 0 with h|h
    ·rw [hq',if_pos h,show m = -((m.natAbs:Nat):Int) by omega,Int.neg_tdiv,Int.tdiv_eq_ediv_of_nonneg (by omega)]
     omega
    ·rw [hq',if_neg (by omega),Int.tdiv_eq_ediv_of_nonneg h]
     omega
   have hq:m.natAbs=r+1000000000*q'.natAbs:=by split at hq' <;> omega
   have hqs:(q'<0→m<0)∧(0<q'→0<m):=by split at hq' <;> omega
   have t4:wrap64 q'=q':=by unfold wrap64;split at hq' <;> omega
   have hrr:r<1000000000:=by omega
   have hrs:r'=(r:Int)∨(r'<0∧r' = -(r:Int)):=by split at hr' <;> omega
   have HC:=aH (aI hrow (aI hd (aI hzm (aI hn (aI hp (aI hb (aI hh (aI hs (aI hl2 (aI hq (aI hqs hrr)))))))))))
   clear hrow hd hzm hn hp hb hh hs hl2 hr hq hq' hr' hqs
   rcases hrs with h1|⟨h1,h2⟩
   ·subst h1
    have hneg:¬ (r:Int)<0:=by omega
    clear hrr
    go_wp2_with (at_builtin;refine wpList_append_own _ rfl _ _ 84 rfl (w.heap.size+1) 3 i0 (.int .i64 0) 1 8 Tryz.underlying84 HI.out.1 HI.out.2.1 HI.out.2.2.1 HI.out.2.2.2 rfl (by decide) _ _ _ rfl (HC.out.1.alloc _) ⟨wr.heap.size,0,none⟩ 1 1 [.int .i64 (r:Int)] rfl rfl ?k1 ?k2 ?k3 ?k4 ?k5 ?_)
    try (case k1 =>
     intro j u hj
     match j with
     | 0 =>
       simp only [List.getElem?_cons_zero,Option.some.injEq] at hj
       subst hj
       exact aA (heap_alloc_new wr _) 0
     | j+1=>simp at hj)
    case k2=>first|rfl|(intro u hu;simp at hu;subst hu;rfl)
    case k3=>have:=HC.out.2.2.2.2.2.2.2.2.1;show ds.length+1≤9223372036854775807;omega
    case k4=>have:=HC.out.2.2.2.2.2.2.2.2.1;omega
    case k5=>have:=HC.out.2.2.2.2.2.2.2.1;simp;omega
    intro v' w3 hr3 hg3 _
    obtain ⟨hrow,hd,hzm,hn,hp,hb,hh,hs,hl2,hq,hqs,hrr⟩:=HC.out
    have hbw:Below w.heap.size w w3:=Below.grown (hb.alloc hb.size _) hg3 (by have:=hb.size;simp;omega) (fun b hb'=>by have:=sI hrow b hb';omega)
    have hh3:w3.heap[w.heap.size]?=some (.cells #[.bool false,.slice none 0 0] 160 (0,0)):=by
     have h2:=(Below.heap_alloc wr (.cells #[.int .i64 (r:Int)] 3) _ hs).trans hh
     refine fT hg3 h2 ?_
     intro he
     have:=sI hrow _ he.symm
     omega
    have HX:=aH (aI (zD hd hzm hn hp hq hrr hqs.1 hqs.2 hr3 hbw hh3 (by have:=hg3.size;simp at this;omega)) hq)
    clear hr3 hg3 hrow hd hzm hn hp hb hh hs hl2 hq hqs hrr hbw hh3
    go_wp2
    go_roundw
    case rel=>first|exact HX.out.1|(rw [t4];exact HX.out.1)
    case measure=>have:=HX.out.2;simp only [intOf,t4];omega
   ·have t5:wrap64 (0-r')=(r:Int):=by unfold wrap64;omega
    have t6:wrap64 (-r')=(r:Int):=by unfold wrap64;omega
    clear hrr h2
    go_wp2_with (at_builtin;refine wpList_append_own _ rfl _ _ 84 rfl (w.heap.size+1) 3 i0 (.int .i64 0) 1 8 Tryz.underlying84 HI.out.1 HI.out.2.1 HI.out.2.2.1 HI.out.2.2.2 rfl (by decide) _ _ _ rfl (HC.out.1.alloc _) ⟨wr.heap.size,0,none⟩ 1 1 [.int .i64 (r:Int)] rfl rfl ?k1 ?k2 ?k3 ?k4 ?k5 ?_)
    try (case k1 =>
     intro j u hj
     match j with
     | 0 =>
       simp only [List.getElem?_cons_zero,Option.some.injEq] at hj
       subst hj
       exact aA (heap_alloc_new wr _) 0
     | j+1=>simp at hj)
    case k2=>first|rfl|(intro u hu;simp at hu;subst hu;rfl)
    case k3=>have:=HC.out.2.2.2.2.2.2.2.2.1;show ds.length+1≤9223372036854775807;omega
    case k4=>have:=HC.out.2.2.2.2.2.2.2.2.1;omega
    case k5=>have:=HC.out.2.2.2.2.2.2.2.1;simp;omega
    intro v' w3 hr3 hg3 _
    obtain ⟨hrow,hd,hzm,hn,hp,hb,hh,hs,hl2,hq,hqs,hrr⟩:=HC.out
    have hbw:Below w.heap.size w w3:=Below.grown (hb.alloc hb.size _) hg3 (by have:=hb.size;simp;omega) (fun b hb'=>by have:=sI hrow b hb';omega)
    have hh3:w3.heap[w.heap.size]?=some (.cells #[.bool false,.slice none 0 0] 160 (0,0)):=by
     have h2:=(Below.heap_alloc wr (.cells #[.int .i64 (r:Int)] 3) _ hs).trans hh
     refine fT hg3 h2 ?_
     intro he
     have:=sI hrow _ he.symm
     omega
    have HX:=aH (aI (zD hd hzm hn hp hq hrr hqs.1 hqs.2 hr3 hbw hh3 (by have:=hg3.size;simp at this;omega)) hq)
    clear hr3 hg3 hrow hd hzm hn hp hb hh hs hl2 hq hqs hrr hbw hh3
    go_wp2
    go_roundw
    case rel=>first|exact HX.out.1|(rw [t4];exact HX.out.1)
    case measure=>have:=HX.out.2;simp only [intOf,t4];omega
end
section
open Go.RowKit Pl
def Kr:Value→Bool
 | .int .i64 _=>true
 | _=>false
theorem Ri.ext {K:Value→Bool} (hK:∀ x,K (.int .i64 x)=true) {w w' : World} {A:Option Addr} {n c:Nat} {xs:List Nat} (h:Ri w A n c xs) (hx:Ext K w w'):Ri w' A n c xs:=by
 refine ⟨h.1,h.2.1,h.2.2.1,fun hn=>?_⟩
 obtain ⟨ad,e,hl,hc⟩:=h.2.2.2 hn
 exact ⟨ad,e,Nat.lt_of_lt_of_le hl hx.size,fun j x hj=>hx.cell (hc j x hj) (hK _)⟩
theorem Di.ext {w w' : World} {v:Value} {a:Nat} (h:Di w v a) (hx:Ext Kr w w'):Di w' v a:=by
 obtain ⟨A,n,c,xs,hv,hr,hd,hn,ha⟩:=h
 exact ⟨A,n,c,xs,hv,hr.ext (fun _=>rfl) hx,hd,hn,ha⟩
def Ru (w:World) (v:Value) (a:Nat):Prop := ∃ A n c xs,v = .slice A n c∧Ri w A n c xs∧Dig B9 xs∧val B9 xs=a
theorem Ru.ext {w w' : World} {v:Value} {a:Nat} (h:Ru w v a) (hx:Ext Kr w w'):Ru w' v a:=by
 obtain ⟨A,n,c,xs,hv,hr,hd,ha⟩:=h
 exact ⟨A,n,c,xs,hv,hr.ext (fun _=>rfl) hx,hd,ha⟩
end
namespace Ab
open Go.RowKit Pl
theorem kr_ok:KOk Kr:=⟨fun _=>rfl,fun _ _ _=>rfl⟩
def nW (a:Nat):CS Kr where
 size:=1
 cold:=true
 pred cs w := ∃ v,cs = [v]∧Di w v a
 stable cs w w' h hx:=by obtain ⟨v,e,h⟩:=h;exact ⟨v,e,h.ext hx⟩
 len cs w h:=by obtain ⟨v,e,_⟩:=h;rw [e];rfl
 one cs w h:=by
  obtain ⟨v,e,A,n,c,xs,hv,_⟩:=h
  rw [e];intro d hd;rw [List.mem_singleton] at hd;rw [hd,hv];rfl
 iscold _ cs w h:=by
  obtain ⟨v,e,A,n,c,xs,hv,_⟩:=h
  rw [e];intro d hd;rw [List.mem_singleton] at hd;rw [hd,hv];rfl
def csRu (a:Nat):CS Kr where
 size:=1
 cold:=true
 pred cs w := ∃ v,cs = [v]∧Ru w v a
 stable cs w w' h hx:=by obtain ⟨v,e,h⟩:=h;exact ⟨v,e,h.ext hx⟩
 len cs w h:=by obtain ⟨v,e,_⟩:=h;rw [e];rfl
 one cs w h:=by
  obtain ⟨v,e,A,n,c,xs,hv,_⟩:=h
  rw [e];intro d hd;rw [List.mem_singleton] at hd;rw [hd,hv];rfl
 iscold _ cs w h:=by
  obtain ⟨v,e,A,n,c,xs,hv,_⟩:=h
  rw [e];intro d hd;rw [List.mem_singleton] at hd;rw [hd,hv];rfl
def iK (v:Value) (h:v.oneCell'=true) (c:Bool) (hc:c=true→Kr v=false):CS Kr where
 size:=1
 cold:=c
 pred cs _:=cs = [v]
 stable _ _ _ h _:=h
 len _ _ h:=by rw [h];rfl
 one _ _ hp:=by rw [hp];intro c hc;rw [List.mem_singleton] at hc;rw [hc];exact h
 iscold hb _ _ hp:=by rw [hp];intro d hd;rw [List.mem_singleton] at hd;rw [hd];exact hc hb
abbrev di (a:Nat):AV Kr := .fv (.sc (.sp (nW a)))
abbrev ru (a:Nat):AV Kr := .fv (.sc (.sp (csRu a)))
abbrev rB (b:Bool):Seg Kr := .sp (iK (.bool b) rfl true (fun _=>rfl))
abbrev rb (b:Bool):AV Kr := .fv (.sc (rB b))
abbrev rS (s:ByteArray):AV Kr := .fv (.sc (.sp (iK (.string s) rfl true (fun _=>rfl))))
abbrev iz (z:Int):AV Kr := .fv (.ag [rB (decide (z<0)),.sp (nW z.natAbs)])
theorem bC {β:List Nat} {v:Value} {w:World} {a:Nat}:(di a).holds β v w↔Di w v a:=by
 constructor
 ·rintro ⟨u,e,h⟩
  injection e with e
  rw [e];exact h
 ·intro h;exact ⟨v,rfl,h⟩
theorem zE {β:List Nat} {v:Value} {w:World} {a:Nat}:(ru a).holds β v w↔Ru w v a:=by
 constructor
 ·rintro ⟨u,e,h⟩
  injection e with e
  rw [e];exact h
 ·intro h;exact ⟨v,rfl,h⟩
theorem bD {v u:Value} {h:v.oneCell'=true} {c:Bool} {hc:c=true→Kr v=false} {β:List Nat} {w:World} (k:(AV.fv (.sc (.sp (iK v h c hc))):AV Kr).holds β u w):u=v:=by
 have:[u] = [v]:=k
 injection this
theorem cD {v:Value} {h:v.oneCell'=true} {c:Bool} {hc:c=true→Kr v=false} {β:List Nat} {w:World}:(AV.fv (.sc (.sp (iK v h c hc))):AV Kr).holds β v w:=rfl
theorem kK {β:List Nat} {v:Value} {w:World} {z:Int}:(iz z).holds β v w↔In w v z:=by
 constructor
 ·rintro ⟨cs,rfl,a,r,rfl,h1,b,r2,rfl,⟨u,e,A,n,c,xs,rfl,hr,hd,hn,hv⟩,h3⟩
  have h1:a = [.bool (decide (z<0))]:=h1
  rw [show r2 = [] from h3,h1,e]
  exact ⟨A,n,c,xs,rfl,hr,hd,hn,hv⟩
 ·rintro ⟨A,n,c,xs,rfl,hr,hd,hn,hv⟩
  exact ⟨[.bool (decide (z<0)),.slice A n c],rfl,[.bool (decide (z<0))],_,rfl,rfl,[.slice A n c],[],rfl,⟨_,rfl,A,n,c,xs,rfl,hr,hd,hn,hv⟩,rfl⟩
theorem rgo {f:FuncId} {fn:Func} {args:List (AV Kr)} {x:AV Kr} (hfn:Tryz.prog.funcs[f]?=some fn) (hc:(fn.body.isSome,decide (args.length≤fn.ntmps),x.noPtr,args.all AV.noPtr)=(true,true,true,true))
 (h:∀ w00,Ok Tryz.prog f w00 (fun v w=>x.holds [] v w) (cG Tryz.prog 1000 (oP fn args))):jF f args x:=by
 simp only [Prod.mk.injEq] at hc
 exact fits_go hfn hc.1 hc.2.1 hc.2.2.1 hc.2.2.2 fun w00=>Ok.go (by kernel_rfl) kr_ok 1000 (h w00)
section
variable {f:FuncId} {w00:World} {Out:Value→World→Prop}
theorem rcall {c:Cfg Kr} (fn:FuncId) (args:List (AV Kr)) {x:AV Kr} (h:jF fn args x) (hc:(c.callee Tryz.prog,c.args Tryz.prog,c.okT x)=(some fn,args,true)) (hfn:∀ (args:Array Value) (w:World),(callFunc fn args).run Tryz.prog w = .ok (.enter fn args) w)
 (hg:Ok Tryz.prog f w00 Out (cG Tryz.prog 1000 (c.give x))):Ok Tryz.prog f w00 Out c:=by
 simp only [Prod.mk.injEq] at hc
 exact Ok.call fn args h hc.1 hc.2.1 hc.2.2 hfn (Ok.go (by kernel_rfl) kr_ok 1000 hg)
theorem rJ {c:Cfg Kr} (op:Op) (x y:Operand) (X Y r:AV Kr) (hc:(c.op.map fun o=>o.op,c.okT r,c.ev x,c.ev y)=(some op,true,X,Y)) (hx:x∈op.operands) (hy:y∈op.operands)
 (h:∀ (ρ:Operand→Value) (o:Oper) (β:List Nat) (w:World),o.op=op→X.holds β (ρ x) w→Y.holds β (ρ y) w→∃ v,(execOp ρ o).run Tryz.prog w = .ok (.value v) w∧r.holds β v w)
 (hg:Ok Tryz.prog f w00 Out (cG Tryz.prog 1000 (c.give r))):Ok Tryz.prog f w00 Out c:=by
 simp only [Prod.mk.injEq] at hc
 obtain ⟨h1,h2,h3,h4⟩:=hc
 rw [Option.map_eq_some_iff] at h1
 obtain ⟨o,ho,ho2⟩:=h1
 refine Ok.op o r ho h2 (fun β ρ w _ _ hs => .inl ?_) (Ok.go (by kernel_rfl) kr_ok 1000 hg)
 obtain ⟨v,e,hv⟩:=h ρ o β w ho2 (by rw [← h3];exact hs x (by rw [ho2];exact hx)) (by rw [← h4];exact hs y (by rw [ho2];exact hy))
 exact ⟨v,w,e,aB _ _,hv⟩
theorem rret {c:Cfg Kr} {fn:Func} {x:AV Kr} (hfn:Tryz.prog.funcs[f]?=some fn) (hc:(x.noPtr,c.res Tryz.prog fn)=(true,some x)):Ok Tryz.prog f w00 (fun v w=>x.holds [] v w) c:=by
 simp only [Prod.mk.injEq] at hc
 exact Ok.ret hfn hc.1 hc.2
end
theorem jL{f:FuncId}{w00:World}{Out:Value→World→Prop}{c:Cfg Kr}(op:Op)(x y:Operand)(X Y r:AV Kr)(h:∀(ρ:Operand→Value)(o:Oper)(β:List Nat)(w:World),o.op=op→X.holds β (ρ x) w→Y.holds β (ρ y) w→∃v,(execOp ρ o).run Tryz.prog w=.ok (.value v) w∧r.holds β v w)(hg:Ok Tryz.prog f w00 Out (cG Tryz.prog 1000 (c.give r)))(hc:(c.op.map fun o=>o.op,c.okT r,c.ev x,c.ev y)=(some op,true,X,Y):=by kernel_rfl)(hx:x∈op.operands:=by simp [Op.operands,Call.operands])(hy:y∈op.operands:=by simp [Op.operands,Call.operands]):Ok Tryz.prog f w00 Out c:=rJ op x y X Y r hc hx hy h hg
theorem jB{f:FuncId}{w00:World}{Out:Value→World→Prop}{c:Cfg Kr}(fn:FuncId)(args:List (AV Kr)){x:AV Kr}(h:jF fn args x)(hg:Ok Tryz.prog f w00 Out (cG Tryz.prog 1000 (c.give x)))(hc:(c.callee Tryz.prog,c.args Tryz.prog,c.okT x)=(some fn,args,true):=by kernel_rfl)(hfn:∀(args:Array Value)(w:World),(callFunc fn args).run Tryz.prog w=.ok (.enter fn args) w:=by intro _ _;kernel_rfl):Ok Tryz.prog f w00 Out c:=rcall fn args h hc hfn hg
theorem jS{f:FuncId}{w00:World}{c:Cfg Kr}{fn:Func}{x:AV Kr}(hfn:Tryz.prog.funcs[f]?=some fn)(hc:(x.noPtr,c.res Tryz.prog fn)=(true,some x):=by kernel_rfl):Ok Tryz.prog f w00 (fun v w=>x.holds [] v w) c:=rret hfn hc
theorem jT{f:FuncId}{fn:Func}{args:List (AV Kr)}{x:AV Kr}(hfn:Tryz.prog.funcs[f]?=some fn)(h:∀w00,Ok Tryz.prog f w00 (fun v w=>x.holds [] v w) (cG Tryz.prog 1000 (oP fn args)))(hc:(fn.body.isSome,decide (args.length≤fn.ntmps),x.noPtr,args.all AV.noPtr)=(true,true,true,true):=by kernel_rfl):jF f args x:=rgo hfn hc h
theorem beq_run {o:Oper} {ρ:Operand→Value} {w:World} {x y:Operand} {a b:Bool} (ho:o.op = .binOp .eql 4 x y 4) (hx:ρ x = .bool a) (hy:ρ y = .bool b):(execOp ρ o).run Tryz.prog w = .ok (.value (.bool (a==b))) w:=by
 simp only [execOp,ho,hx,hy]
 refine bJ ?_
 cases a <;> cases b <;> exact bL (by kernel_rfl) w
theorem bne_run {o:Oper} {ρ:Operand→Value} {w:World} {x y:Operand} {a b:Bool} (ho:o.op = .binOp .neq 4 x y 4) (hx:ρ x = .bool a) (hy:ρ y = .bool b):(execOp ρ o).run Tryz.prog w = .ok (.value (.bool (a != b))) w:=by
 simp only [execOp,ho,hx,hy]
 refine bJ ?_
 cases a <;> cases b <;> exact bL (by kernel_rfl) w
abbrev Bd (a:Nat):Prop:=a<B9^1099511627776
theorem mulF {a b:Nat} (ha:Bd a) (hb:Bd b):jF 186 [di a,di b] (di (a*b)):=by
 intro β w vs hv
 obtain ⟨v,u,rfl,h1,h2⟩:=dJ hv
 obtain ⟨A,n,c,xs,rfl,hr,hd,hn,rfl⟩:=bC.1 h1
 obtain ⟨A',n',c',ys,rfl,hr',hd',hn',rfl⟩:=bC.1 h2
 have hl:n≤1099511627776:=by rw [← hr.len];exact aV dN hn ha
 have hl' : n'≤1099511627776:=by rw [← hr'.len];exact aV dN hn' hb
 exact (lB A n c xs A' n' c' ys w hr hr' hd hd' (by omega) (by omega)).mono fun e w' ⟨v,e1,e2,e3⟩=>⟨v,e1,e3,bC.2 e2⟩
theorem eX {b:Bool} {a:Nat}:jF 182 [rb b,di a] (iz (gN b a)):=by
 intro β w vs hv
 obtain ⟨v,u,rfl,h1,h2⟩:=dJ hv
 rw [bD h1]
 obtain ⟨A,n,c,xs,rfl,hr,hd,hn,rfl⟩:=bC.1 h2
 exact (kJ b A n c xs w hr hd).mono fun e w' ⟨v,e1,e2,e3⟩=>⟨v,e1,e3,kK.2 e2⟩
theorem signedRF {b:Bool} {a:Nat}:jF 182 [rb b,ru a] (iz (gN b a)):=by
 intro β w vs hv
 obtain ⟨v,u,rfl,h1,h2⟩:=dJ hv
 rw [bD h1]
 obtain ⟨A,n,c,xs,rfl,hr,hd,rfl⟩:=zE.1 h2
 exact (kJ b A n c xs w hr hd).mono fun e w' ⟨v,e1,e2,e3⟩=>⟨v,e1,e3,kK.2 e2⟩
theorem sgz_mul (a b:Int):gN (decide (a<0) != decide (b<0)) (a.natAbs*b.natAbs)=a*b:=by
 have ha:a=if decide (a<0) then -(a.natAbs:Int) else (a.natAbs:Int):=by split <;> simp_all <;> omega
 have hb:b=if decide (b<0) then -(b.natAbs:Int) else (b.natAbs:Int):=by split <;> simp_all <;> omega
 generalize decide (a<0)=na at *
 generalize decide (b<0)=nb at *
 generalize a.natAbs=x at *
 generalize b.natAbs=y at *
 subst ha
 subst hb
 cases na <;> cases nb <;> simp [gN,Int.neg_mul,Int.mul_neg]
theorem timesZ {a b:Int} (ha:Bd a.natAbs) (hb:Bd b.natAbs):jF 132 [iz a,iz b] (iz (a*b)):=by
 refine jT Tryz.func132 fun w00=>?_
 refine jL (.binOp .neq 4 (.tmp 6) (.tmp 8) 4) (.tmp 6) (.tmp 8) (rb (decide (a<0))) (rb (decide (b<0))) (rb (decide (a<0) != decide (b<0))) (fun ρ o β w ho hx hy=>⟨_,bne_run ho (bD hx) (bD hy),cD⟩) ?_
 refine jB 186 [di a.natAbs,di b.natAbs] (mulF ha hb) ?_
 refine jB 182 [rb (decide (a<0) != decide (b<0)),di (a.natAbs*b.natAbs)] (by have := @eX (decide (a<0) != decide (b<0)) (a.natAbs*b.natAbs);rw [sgz_mul] at this;exact this) ?_
 exact jS Tryz.func132
end Ab
section
open Go.RowKit Pl
theorem text_in (v:Value) (z:Int) (w:World) (h:In w v z) (hz:z.natAbs<B9^100000000):Calls Tryz.prog 175 #[v] w fun e w'=>e = .returned (.string (aN z))∧Below w.heap.size w w':=by
 obtain ⟨A,n,c,xs,rfl,hr,hd,hn,hv⟩:=h
 have hl:n≤100000000:=by rw [← hr.len];exact aV dN hn (by rw [hv];exact hz)
 refine (text_raw _ A n c xs w hr hd hn hl).mono ?_
 rintro e w' ⟨rfl,hb⟩
 refine ⟨?_,hb⟩
 congr 2
 unfold aN
 rw [hv]
 by_cases h0:z<0
 ·have h1:0<n:=by
   refine Nat.pos_of_ne_zero fun he=>?_
   have:=(Norm.zero_iff cB hn).2 (List.eq_nil_of_length_eq_zero (by rw [hr.len];exact he))
   omega
  simp [h0,h1]
 ·simp [h0]
theorem bY (z:Int):aN z=Ab.writeB (z:Rat):=by
 unfold aN Ab.writeB Ab.overB
 rw [if_pos (Rat.den_intCast z),Rat.num_intCast]
theorem fromInt_any (z:Int) (w:World) (hz:-9223372036854775808≤z∧z≤9223372036854775807):Calls Tryz.prog 125 #[.int .i64 z] w fun e w'=>e = .returned (.string (Ab.writeB (z:Rat)))∧Below w.heap.size w w':=by
 have HZ:=aH hz
 clear hz
 go_enter Tryz.func125,Tryz.ntmps125
 go_wp2_with fail
 refine (whole_any z _ HZ.out).mono ?_
 rintro e w2 ⟨v,rfl,q,b⟩
 have Q:=aH (aI q b)
 clear q b
 go_wp2_with fail
 refine (text_in v z _ Q.out.1 ?_).mono ?_
 ·obtain ⟨n,hn⟩:∃ n,n=100000000:=⟨_,rfl⟩
  rw [← hn]
  have h3:B9^3≤B9^n:=Nat.pow_le_pow_right cB (by omega)
  have h5:B9^3=1000000000000000000000000000:=rfl
  rw [h5] at h3
  have:=HZ.out
  refine Nat.lt_of_lt_of_le ?_ h3
  omega
 rintro e w3 ⟨rfl,b⟩
 have B:=aH (Below.step_trans Q.out.2 b)
 clear b
 go_wp2
 go_ret
 exact ⟨by rw [bY];rfl,B.out⟩
end
namespace Ab
open Go.RowKit Pl
theorem sZ {z:Int} (hz:rC z):jF 125 [it z] (tx (writeB (z:Rat))):=by
 intro β w vs hv
 obtain ⟨v,rfl,h1⟩:=dC hv
 rw [aM h1]
 exact (fromInt_any z w hz).mono fun e w' ⟨e1,e2⟩=>⟨_,e1,e2,bE⟩
theorem intsF {a b c:Int} (ha:rC a) (hb:rC b) (hc:rC c):jF 65 [it a,it b,it c] (vS a b c):=by
 refine jG Tryz.func65 fun w00=>?_
 refine jC 125 [it a] (sZ ha) ?_
 refine jC 125 [it b] (sZ hb) ?_
 refine jC 125 [it c] (sZ hc) ?_
 exact jR Tryz.func65
theorem dL {a b c:Int} (ha:rC a) (hb:rC b) (hc:rC c):jF 16 [it a,it b,it c] (vS a b c):=by
 refine jG Tryz.func16 fun w00=>?_
 refine jC 65 [it a,it b,it c] (intsF ha hb hc) ?_
 exact jR Tryz.func16
theorem lawFrameF:jF 21 [] (iT (1:Int) (0:Int) (0:Int) (3:Int) (4:Int) (0:Int) (-4:Int) (3:Int) (0:Int) (0:Int) (0:Int) (5:Int)):=by
 refine jG Tryz.func21 fun w00=>?_
 refine jC 16 [it 1,it 0,it 0] (dL (by constructor <;> omega) (by constructor <;> omega) (by constructor <;> omega)) ?_
 refine jC 16 [it 3,it 4,it 0] (dL (by constructor <;> omega) (by constructor <;> omega) (by constructor <;> omega)) ?_
 refine jC 16 [it (-4),it 3,it 0] (dL (by constructor <;> omega) (by constructor <;> omega) (by constructor <;> omega)) ?_
 refine jC 16 [it 0,it 0,it 5] (dL (by constructor <;> omega) (by constructor <;> omega) (by constructor <;> omega)) ?_
 exact jR Tryz.func21
end Ab
namespace Ab
open Go.RowKit Pl
abbrev rl (b:Bool):AV Kr := .fv (.sc (.lit (.bool b)))
abbrev rI (n:Int):AV Kr := .fv (.sc (.sp (iK (.int .i64 n) rfl false (fun h=>by cases h))))
theorem eJ {v:Value} (h:v.oneCell'=true) {β:List Nat} {w:World}:(AV.fv (.sc (.lit v)):AV Kr).holds β v w:=⟨rfl,h⟩
theorem bT {v u:Value} {β:List Nat} {w:World} (k:(AV.fv (.sc (.lit v)):AV Kr).holds β u w):u=v:=by have:=k.1;injection this
theorem addF {a b:Nat} (ha:Bd a) (hb:Bd b):jF 183 [di a,di b] (ru (a+b)):=by
 intro β w vs hv
 obtain ⟨v,u,rfl,h1,h2⟩:=dJ hv
 obtain ⟨A,n,c,xs,rfl,hr,hd,hn,rfl⟩:=bC.1 h1
 obtain ⟨A',n',c',ys,rfl,hr',hd',hn',rfl⟩:=bC.1 h2
 have hl:n≤1099511627776:=by rw [← hr.len];exact aV dN hn ha
 have hl' : n'≤1099511627776:=by rw [← hr'.len];exact aV dN hn' hb
 refine (qR A n c xs A' n' c' ys w hr hr' hd hd' (by omega) (by omega)).mono ?_
 rintro e w' ⟨A2,n2,c2,zs,rfl,h1,h2,h3,h4⟩
 exact ⟨_,rfl,h4,zE.2 ⟨A2,n2,c2,zs,rfl,h1,h2,h3⟩⟩
theorem subF {a b:Nat} (ha:Bd a) (hle:b≤a):jF 185 [di a,di b] (di (a-b)):=by
 intro β w vs hv
 obtain ⟨v,u,rfl,h1,h2⟩:=dJ hv
 obtain ⟨A,n,c,xs,rfl,hr,hd,hn,rfl⟩:=bC.1 h1
 obtain ⟨A',n',c',ys,rfl,hr',hd',hn',rfl⟩:=bC.1 h2
 have hl:n≤1099511627776:=by rw [← hr.len];exact aV dN hn ha
 have hl' : n'≤n:=by
  rcases Nat.lt_or_ge n n' with e|e
  ·have:=dF dN hd hn' (by rw [hr.len,hr'.len];exact e)
   omega
  ·exact e
 exact (zX A n c xs A' n' c' ys w hr hr' hd hd' (by omega) hl' hle).mono fun e w' ⟨v,e1,e2,e3⟩=>⟨v,e1,e3,bC.2 e2⟩
theorem compareF {a b:Nat}:jF 184 [di a,di b] (rI (bU a b)):=by
 intro β w vs hv
 obtain ⟨v,u,rfl,h1,h2⟩:=dJ hv
 obtain ⟨A,n,c,xs,rfl,hr,hd,hn,rfl⟩:=bC.1 h1
 obtain ⟨A',n',c',ys,rfl,hr',hd',hn',rfl⟩:=bC.1 h2
 exact (eS A n c xs A' n' c' ys w hr hr' hd hd' hn hn').mono fun e w' ⟨e1,e2⟩=>⟨_,e1,e2,cD⟩
theorem rK {a b:Nat} (ha:Bd a) (hb:0<b):jF 173 [di a,di b] (.tup [.sc (.sp (nW (a/b))),.sc (.sp (nW (a%b)))]):=by
 intro β w vs hv
 obtain ⟨v,u,rfl,h1,h2⟩:=dJ hv
 refine (sX (bC.1 h1) (bC.1 h2) ha hb).mono ?_
 rintro e w' ⟨v1,v2,rfl,q1,q2,q3⟩
 exact ⟨_,rfl,q3,[v1,v2],rfl,v1,[v2],rfl,⟨v1,rfl,q1⟩,v2,[],rfl,⟨v2,rfl,q2⟩,rfl⟩
theorem kS {a b:Nat} (ha:Bd a) (hb:Bd b):jF 115 [di a,di b] (di (Nat.gcd a b)):=by
 intro β w vs hv
 obtain ⟨v,u,rfl,h1,h2⟩:=dJ hv
 exact (common_any v u a b w (bC.1 h1) (bC.1 h2) ha hb).mono fun e w' ⟨v,e1,e2,e3⟩=>⟨v,e1,e3,bC.2 e2⟩
theorem oU {z:Int} (hz:z.natAbs<B9^100000000):jF 175 [iz z] (rS (aN z)):=by
 intro β w vs hv
 obtain ⟨v,rfl,h1⟩:=dC hv
 exact (text_in v z w (kK.1 h1) hz).mono fun e w' ⟨e1,e2⟩=>⟨_,e1,e2,cD⟩
theorem geq_run {o:Oper} {ρ:Operand→Value} {w:World} {x y:Operand} {a b:Int} {r:Bool} (ho:o.op = .binOp .geq 3 x y 3) (hx:ρ x = .int .i64 a) (hy:ρ y = .int .i64 b) (h:decide (b≤a)=r) :
 (execOp ρ o).run Tryz.prog w = .ok (.value (.bool r)) w:=by
 simp only [execOp,ho,hx,hy]
 refine bJ ?_
 rw [← h]
 exact bL (by kernel_rfl) w
theorem sgz_val (a:Int):a=gN (decide (a<0)) a.natAbs:=by unfold gN;split <;> simp_all <;> omega
theorem plusZ {a b:Int} (ha:Bd a.natAbs) (hb:Bd b.natAbs):jF 131 [iz a,iz b] (iz (a+b)):=by
 by_cases hs:decide (a<0)=decide (b<0)
 ·have hsum:gN (decide (a<0)) (a.natAbs+b.natAbs)=a+b:=by
   have h1:=sgz_val a
   have h2:=sgz_val b
   rw [← hs] at h2
   generalize decide (a<0)=na at *
   generalize a.natAbs=x at *
   generalize b.natAbs=y at *
   rw [h1,h2]
   cases na <;> simp [gN] <;> omega
  refine jT Tryz.func131 fun w00=>?_
  refine jL (.binOp .eql 4 (.tmp 6) (.tmp 8) 4) (.tmp 6) (.tmp 8) (rb (decide (a<0))) (rb (decide (b<0))) (rl true) (fun ρ o β w ho hx hy=>⟨.bool true,by have:=beq_run (w:=w) ho (bD hx) (bD hy);rw [hs] at this;simpa using this,eJ rfl⟩) ?_
  refine jB 183 [di a.natAbs,di b.natAbs] (addF ha hb) ?_
  refine jB 182 [rb (decide (a<0)),ru (a.natAbs+b.natAbs)] (by have := @signedRF (decide (a<0)) (a.natAbs+b.natAbs);rw [hsum] at this;exact this) ?_
  exact jS Tryz.func131
 ·have hne:(decide (a<0)==decide (b<0))=false:=by simpa using hs
  by_cases hle:b.natAbs≤a.natAbs
  ·have hsum:gN (decide (a<0)) (a.natAbs-b.natAbs)=a+b:=by
    unfold gN;split <;> simp_all <;> omega
   have hc:decide ((0:Int)≤bU a.natAbs b.natAbs)=true:=by unfold bU;rw [decide_eq_true_iff,if_neg (by omega)];split <;> omega
   refine jT Tryz.func131 fun w00=>?_
   refine jL (.binOp .eql 4 (.tmp 6) (.tmp 8) 4) (.tmp 6) (.tmp 8) (rb (decide (a<0))) (rb (decide (b<0))) (rl false) (fun ρ o β w ho hx hy=>⟨.bool false,by have:=beq_run (w:=w) ho (bD hx) (bD hy);rw [hne] at this;exact this,eJ rfl⟩) ?_
   refine jB 184 [di a.natAbs,di b.natAbs] compareF ?_
   refine jL (.binOp .geq 3 (.tmp 22) (.const (.int .i64 0)) 3) (.tmp 22) (.const (.int .i64 0)) (rI (bU a.natAbs b.natAbs)) (.fv (.sc (.lit (.int .i64 0)))) (rl true) (fun ρ o β w ho hx hy=>⟨.bool true,geq_run ho (bD hx) (bT hy) hc,eJ rfl⟩) ?_
   refine jB 185 [di a.natAbs,di b.natAbs] (subF ha hle) ?_
   refine jB 182 [rb (decide (a<0)),di (a.natAbs-b.natAbs)] (by have := @eX (decide (a<0)) (a.natAbs-b.natAbs);rw [hsum] at this;exact this) ?_
   exact jS Tryz.func131
  ·have hsum:gN (decide (b<0)) (b.natAbs-a.natAbs)=a+b:=by
    unfold gN;split <;> simp_all <;> omega
   have hc:decide ((0:Int)≤bU a.natAbs b.natAbs)=false:=by unfold bU;rw [decide_eq_false_iff_not,if_pos (by omega)];omega
   refine jT Tryz.func131 fun w00=>?_
   refine jL (.binOp .eql 4 (.tmp 6) (.tmp 8) 4) (.tmp 6) (.tmp 8) (rb (decide (a<0))) (rb (decide (b<0))) (rl false) (fun ρ o β w ho hx hy=>⟨.bool false,by have:=beq_run (w:=w) ho (bD hx) (bD hy);rw [hne] at this;exact this,eJ rfl⟩) ?_
   refine jB 184 [di a.natAbs,di b.natAbs] compareF ?_
   refine jL (.binOp .geq 3 (.tmp 22) (.const (.int .i64 0)) 3) (.tmp 22) (.const (.int .i64 0)) (rI (bU a.natAbs b.natAbs)) (.fv (.sc (.lit (.int .i64 0)))) (rl false) (fun ρ o β w ho hx hy=>⟨.bool false,geq_run ho (bD hx) (bT hy) hc,eJ rfl⟩) ?_
   refine jB 185 [di b.natAbs,di a.natAbs] (subF hb (by omega)) ?_
   refine jB 182 [rb (decide (b<0)),di (b.natAbs-a.natAbs)] (by have := @eX (decide (b<0)) (b.natAbs-a.natAbs);rw [hsum] at this;exact this) ?_
   exact jS Tryz.func131
end Ab
end Go.Proofs.YtklnecajplnboaaGreatDoor
