/- Parts of the proof, joined. -/
import Derived.Deep.LoopGhost
import Derived.Test.YtejbgingjeedaaaGreatDoorJ6
import Derived.Test.YtejbgingjeedaaaGreatDoorJ2
import Derived.Lib.SmallJoins
import Derived.Test.YtejbgingjeedaaaGreatDoorJ4
set_option linter.unusedSimpArgs false
set_option linter.unusedVariables false
namespace Go.Proofs.YtejbgingjeedaaaGreatDoor
open Go.RowKit Pl
def GcdAt (w:World) (a b k:Nat) (v v' : Value) (wr:World):Prop := ∃ x:Nat,Nt wr v x∧Nt wr v' k∧k≤x∧0<x∧Nat.gcd x k=Nat.gcd a b∧Lv 40 x∧Below w.heap.size w wr
theorem uJ {a b:Nat} {v:Value} {A' : Option Addr} {n' c' : Nat} {w:World} (h:Nt w v a) (h' : Nt w (.slice A' n' c') b) (hn' : 2≤n') (hge:b≤a) :
 Calls Tryz.prog 179 #[v,.slice A' n' c'] w (xE a b w):=by
 obtain ⟨A,n,c,xs,rfl,hr,hd,hn,rfl⟩:=h
 obtain ⟨A2,n2,c2,ys,e,hr',hd',hn2,rfl⟩:=h'
 injection e with e1 e2 e3
 subst e1;subst e2;subst e3
 have hle:n'≤n:=by
  rcases Nat.lt_or_ge n n' with hlt|hge'
  ·have:=dF eH hd hn2 (by rw [hr.len,hr'.len];exact hlt)
   omega
  ·exact hge'
 exact simulate_any A n c xs A' n' c' ys w hr hr' hd hd' hn hn' hle hge
theorem lift_pos {x k a' b' oa ob na nb s:Nat} (hx:0<x) (hk:k≤x) (f1:x=nb*a'+ob*b') (f4:b'<k) (f5:s%2=0→oa*x=a'+ob*k∧nb*k=b'+na*x)
 (f6:s%2=1→ob*k=a'+oa*x∧na*x=b'+nb*k):1≤nb:=by
 rcases Nat.eq_zero_or_pos nb with e|e
 ·exfalso
  subst e
  have hb:b'=0:=by
   rcases Nat.mod_two_eq_zero_or_one s with e|e
   ·have:=(f5 e).2
    omega
   ·have:=(f6 e).2
    rcases Nat.eq_zero_or_pos na with e|e
    ·subst e;omega
    ·have:=Nat.mul_le_mul_right x e
     omega
  subst hb
  omega
 ·exact e
theorem nt_one {n c:Nat} {A:Option Addr} {b:Nat} {w:World} (h:Nt w (.slice A n c) b) (h1:n=1):∃ ad,A=some ad∧0<b∧b<aD∧w.cell? ad=some (.int .u64 (b:Int)):=by
 obtain ⟨A2,n2,c2,ys,e,hr,hd,hn,hv⟩:=h
 injection e with e1 e2 e3
 subst e1;subst e2;subst e3;subst h1
 obtain ⟨ad,x,hA,_,hx,hc⟩:=hr.at_ Nat.zero_lt_one
 have hl:=hr.len
 match ys,hl,hx with
 | [y],_,hx =>
   simp at hx
   subst hx
   simp [val] at hv
   subst hv
   have hp:0<y:=by simpa [val] using hn.pos bC (by simp)
   exact ⟨ad,hA,hp,hd y (by simp),by simpa [Addr.add] using hc⟩
set_option maxHeartbeats 2000000 in
theorem vK (v v' : Value) (a b:Nat) (w:World) (h:Nt w v a) (h' : Nt w v' b) (ha:Lv 40 a) (hb:Lv 40 b) (h0:0<a∨0<b):Calls Tryz.prog 116 #[v,v'] w (GivesNt w (Nat.gcd a b)):=by
 have H:=aH (aI h (aI h' (aI ha (aI hb h0))))
 have hc:=qC h h'
 have start:∀ w1,Below w.heap.size w w1→(a<b→GcdAt w a b a v' v w1)∧(b≤a→GcdAt w a b b v v' w1):=fun w1 hb1=>by
  obtain ⟨h,h',ha,hb,h0⟩:=H.out
  exact ⟨fun hl=>⟨b,h'.below hb1,h.below hb1,by omega,by omega,Nat.gcd_comm _ _,hb,hb1⟩,fun hl=>⟨a,h.below hb1,h'.below hb1,hl,by omega,rfl,ha,hb1⟩⟩
 have START:=aH start
 clear h h' ha hb h0 start
 obtain ⟨n0,hn0⟩:∃ n0,n0=min a b:=⟨_,rfl⟩
 by_cases hlt:a<b
 ·rw [show bS a b = -1 from by unfold bS;rw [if_pos (by omega)]] at hc
  have HC:=aH hc
  have HL:=aH hlt
  obtain rfl:n0=a:=by omega
  clear hc hlt hn0
  go_enter Tryz.func116,Tryz.ntmps116
  go_wp2_with (go_at_call 178;refine HC.out.mono ?_;rintro e w1 ⟨rfl,hb1⟩)
  go_loopg [0,1] n0 (fun k va vb wr=>GcdAt w n0 b k va vb wr)
  case atStart=>exact (START.out w1 hb1).1 HL.out
  case round =>
   obtain ⟨x,hx,hy,hyx,hx0,hg,hlv,hbe⟩:=hrel
   have hy0:=hy
   obtain ⟨A',n',c',ys,rfl,hr',hd',hn',hv'⟩:=hy0
   have hnc' : n'≤c':=hr'.cap
   have hcm' : c'≤9223372036854775807:=hr'.2.2.1
   have hpos:=mT hr' hn' hv'
   have HR:=aH (aI hx (aI hy (aI hyx (aI hx0 (aI hg (aI hlv hbe))))))
   by_cases h1:1<n'
   ·have hs:Calls Tryz.prog 179 #[u0,.slice A' n' c'] wr (fun e w' => ∃ oa ob na nb s:Nat,e = .returned (.agg #[.int .u64 (oa:Int),.int .u64 (ob:Int),.int .u64 (na:Int),.int .u64 (nb:Int),.int .i64 (s:Int)])∧SimOk x gk oa ob na nb s∧Below wr.heap.size wr w'):=uJ hx hy (by omega) hyx
    have HS:=aH hs
    have HP:=aH hpos
    clear hs hx hy hyx hx0 hg hlv hbe hr' hd' hn' hv' hpos
    go_wp2_with fail
    refine HS.out.mono ?_
    rintro e w2 ⟨oa,ob,na,nb,s,rfl,hsim,hb2⟩
    have HB2:=aH (aI hsim hb2)
    clear hsim hb2
    have hz2:wr.heap.size≤w2.heap.size:=HB2.out.2.size
    rcases Nat.eq_zero_or_pos s with rfl|hs0
    ·go_wp2_with fail
     refine (fJ (HR.out.1.below ?_) (HR.out.2.1.below ?_) HR.out.2.2.2.2.2.1 (by have:=HP.out;omega)).mono ?_
     ·repeat (first|exact HB2.out.2|(refine Below.setCell ?_ (by first|omega|(simp;done)|(simp;omega)) _)|(refine Below.alloc ?_ (by first|omega|(simp;done)|(simp;omega)) _)|(refine Below.drew ?_)|exact Below.refl _ _)
     ·repeat (first|exact HB2.out.2|(refine Below.setCell ?_ (by first|omega|(simp;done)|(simp;omega)) _)|(refine Below.alloc ?_ (by first|omega|(simp;done)|(simp;omega)) _)|(refine Below.drew ?_)|exact Below.refl _ _)
     rintro e w3 ⟨v1,v2,rfl,q1,q2,q3⟩
     have Q:=aH (aI q1 q2)
     have q4:Below wr.heap.size wr w3:=by
      refine Below.trans ?_ (q3.mono ?_)
      ·repeat (first|exact HB2.out.2|(refine Below.setCell ?_ (by first|omega|(simp;done)|(simp;omega)) _)|(refine Below.alloc ?_ (by first|omega|(simp;done)|(simp;omega)) _)|(refine Below.drew ?_)|exact Below.refl _ _)
      ·simp;omega
     have Q4:=aH q4
     clear q1 q2 q3 q4
     go_wp2
     go_roundg (x%gk)
     case measure=>exact Nat.mod_lt _ (by have:=HP.out;omega)
     case rel =>
      obtain ⟨hx,hy,hyx,hx0,hg,hlv,hbe⟩:=HR.out
      have hp:=HP.out
      exact ⟨gk,hy.below Q4.out,Q.out.2,Nat.le_of_lt (Nat.mod_lt _ (by omega)),by omega,by rw [← hg,Nat.gcd_comm gk,Nat.gcd_comm x,Nat.gcd_rec gk x],hlv.le hyx,Below.step_trans hbe Q4.out⟩
    ·obtain ⟨hsb,hso⟩:=HB2.out.1
     obtain ⟨l1,l2,l3,l4,a',b',f1,f2,f3,f4,f5,f6⟩:=hso hs0
     have HF:=aH (aI l1 (aI l2 (aI l3 (aI l4 (aI f1 (aI f2 (aI f3 (aI f4 (aI f5 f6)))))))))
     clear hso l1 l2 l3 l4 f1 f2 f3 f4 f5 f6
     go_wp2_with fail
     have hco:∀ W,Below wr.heap.size wr W→Calls Tryz.prog 180 #[.agg #[.int .u64 (oa:Int),.int .u64 (ob:Int),.int .u64 (na:Int),.int .u64 (nb:Int),.int .i64 (s:Int)],u0,.slice A' n' c'] W (lK W a' b'):=fun W hW=>by
      obtain ⟨l1,l2,l3,l4,f1,f2,f3,f4,f5,f6⟩:=HF.out
      obtain ⟨hx,hy,hyx,hx0,hg,hlv,hbe⟩:=HR.out
      rcases Nat.mod_two_eq_zero_or_one s with e|e
      ·exact pO oa ob na nb s _ _ x gk a' b' W (hx.below hW) (hy.below hW) hlv (hlv.le hyx) l1 l2 l3 l4 (by rw [Int.tmod_eq_emod_of_nonneg (by omega)];omega) (f5 e).1 (f5 e).2
      ·exact rG oa ob na nb s _ _ x gk a' b' W (hx.below hW) (hy.below hW) hlv (hlv.le hyx) l1 l2 l3 l4 (by rw [Int.tmod_eq_emod_of_nonneg (by omega)];omega) (f6 e).1 (f6 e).2
     refine (hco _ ?_).mono ?_
     ·repeat (first|exact HB2.out.2|(refine Below.setCell ?_ (by first|omega|(simp;done)|(simp;omega)) _)|(refine Below.alloc ?_ (by first|omega|(simp;done)|(simp;omega)) _)|(refine Below.drew ?_)|exact Below.refl _ _)
     rintro e w3 ⟨v1,v2,rfl,q1,q2,q3⟩
     have Q:=aH (aI q1 q2)
     have q4:Below wr.heap.size wr w3:=by
      refine Below.trans ?_ (q3.mono ?_)
      ·repeat (first|exact HB2.out.2|(refine Below.setCell ?_ (by first|omega|(simp;done)|(simp;omega)) _)|(refine Below.alloc ?_ (by first|omega|(simp;done)|(simp;omega)) _)|(refine Below.drew ?_)|exact Below.refl _ _)
      ·simp;omega
     have Q4:=aH q4
     clear q1 q2 q3 q4 hco
     go_wp2
     go_roundg b'
     case measure=>exact HF.out.2.2.2.2.2.2.2.1
     case rel =>
      obtain ⟨l1,l2,l3,l4,f1,f2,f3,f4,f5,f6⟩:=HF.out
      obtain ⟨hx,hy,hyx,hx0,hg,hlv,hbe⟩:=HR.out
      have hle:a'≤x:=by
       have:=Nat.mul_le_mul_right a' (lift_pos hx0 hyx f1 f4 f5 f6)
       omega
      exact ⟨a',Q.out.1,Q.out.2,Nat.le_of_lt f3,by omega,by rw [← hg];exact uF f1 f2 f5 f6,hlv.le hle,Below.step_trans hbe Q4.out⟩
   ·have hz:n'=0∨n'=1:=by omega
    rcases hz with rfl|rfl
    ·obtain rfl:gk=0:=by omega
     have HI:=aH hy
     clear hpos hr' hd' hn' hv' hx hy hyx hx0 hg hlv hbe
     go_wp2_with (go_at_call 113;refine (dO HI.out).mono ?_;rintro e w' ⟨rfl,rfl⟩)
     go_ret
     obtain ⟨hx,hy,hyx,hx0,hg,hlv,hbe⟩:=HR.out
     exact ⟨u0,rfl,by rw [← hg,Nat.gcd_zero_right];exact hx,hbe⟩
    ·obtain ⟨ad,rfl,hk0,hkW,hcell⟩:=nt_one hy rfl
     have hz:decide (gk=0)=false:=by simp;omega
     have HI:=aH (aI hk0 hkW)
     clear hpos hr' hd' hn' hv' hx hy hyx hx0 hg hlv hbe hk0 hkW
     go_wp2_with (go_at_call 113;refine (dO HR.out.2.1).mono ?_;rintro e w' ⟨rfl,rfl⟩)
     refine (pN HR.out.1 HR.out.2.2.2.2.2.1 HI.out.1 HI.out.2).mono ?_
     rintro e w2 ⟨v1,rfl,q1,q2⟩
     have hcell2:w2.cell? ad=some (.int .u64 (gk:Int)):=(q2.cell (p:=ad) (by
      rcases Nat.lt_or_ge ad.block wr.heap.size with h|h
      ·exact h
      ·rw [World.cell?,Array.getElem?_eq_none h] at hcell;cases hcell)).trans hcell
     obtain ⟨r,hr⟩:∃ r,r=x%gk:=⟨_,rfl⟩
     have hrl:r<aD:=by have:=Nat.mod_lt x HI.out.1;have:=HI.out.2;omega
     rw [← hr]
     have Q2:=aH (aI q2 (aI hr hrl))
     clear q1 q2 hcell hr hrl
     go_wp2_with fail
     refine (jE gk r _ HI.out.2 Q2.out.2.2).mono ?_
     rintro e w3 ⟨rfl,q3⟩
     have Q3:=aH q3
     clear q3
     go_wp2_with fail
     refine (cB (Nat.gcd gk r) (Nat.lt_of_le_of_lt (Nat.gcd_le_left _ HI.out.1) HI.out.2) _).mono ?_
     rintro e w4 ⟨v4,rfl,q4,q5⟩
     have Q4:=aH (aI q4 q5)
     clear q4 q5
     go_wp2
     go_ret
     obtain ⟨hx,hy,hyx,hx0,hg,hlv,hbe⟩:=HR.out
     refine ⟨v4,rfl,?_,Below.step_trans hbe (Below.step_trans Q2.out.1 (Below.step_trans Q3.out Q4.out.2))⟩
     have:=Q4.out.1
     rwa [Q2.out.2.1,Nat.gcd_comm,← Nat.gcd_rec,Nat.gcd_comm,hg] at this
 ·have hcc:¬ bS a b<0:=by unfold bS;rw [if_neg (by omega)];split <;> omega
  generalize bS a b=cz at hc hcc
  have HC:=aH hc
  have HL:=aH hlt
  obtain rfl:n0=b:=by omega
  clear hc hlt hn0
  go_enter Tryz.func116,Tryz.ntmps116
  go_wp2_with (go_at_call 178;refine HC.out.mono ?_;rintro e w1 ⟨rfl,hb1⟩)
  go_loopg [0,1] n0 (fun k va vb wr=>GcdAt w a n0 k va vb wr)
  case atStart=>exact (START.out w1 hb1).2 (Nat.le_of_not_lt HL.out)
  case round =>
   obtain ⟨x,hx,hy,hyx,hx0,hg,hlv,hbe⟩:=hrel
   have hy0:=hy
   obtain ⟨A',n',c',ys,rfl,hr',hd',hn',hv'⟩:=hy0
   have hnc' : n'≤c':=hr'.cap
   have hcm' : c'≤9223372036854775807:=hr'.2.2.1
   have hpos:=mT hr' hn' hv'
   have HR:=aH (aI hx (aI hy (aI hyx (aI hx0 (aI hg (aI hlv hbe))))))
   by_cases h1:1<n'
   ·have hs:Calls Tryz.prog 179 #[u0,.slice A' n' c'] wr (fun e w' => ∃ oa ob na nb s:Nat,e = .returned (.agg #[.int .u64 (oa:Int),.int .u64 (ob:Int),.int .u64 (na:Int),.int .u64 (nb:Int),.int .i64 (s:Int)])∧SimOk x gk oa ob na nb s∧Below wr.heap.size wr w'):=uJ hx hy (by omega) hyx
    have HS:=aH hs
    have HP:=aH hpos
    clear hs hx hy hyx hx0 hg hlv hbe hr' hd' hn' hv' hpos
    go_wp2_with fail
    refine HS.out.mono ?_
    rintro e w2 ⟨oa,ob,na,nb,s,rfl,hsim,hb2⟩
    have HB2:=aH (aI hsim hb2)
    clear hsim hb2
    have hz2:wr.heap.size≤w2.heap.size:=HB2.out.2.size
    rcases Nat.eq_zero_or_pos s with rfl|hs0
    ·go_wp2_with fail
     refine (fJ (HR.out.1.below ?_) (HR.out.2.1.below ?_) HR.out.2.2.2.2.2.1 (by have:=HP.out;omega)).mono ?_
     ·repeat (first|exact HB2.out.2|(refine Below.setCell ?_ (by first|omega|(simp;done)|(simp;omega)) _)|(refine Below.alloc ?_ (by first|omega|(simp;done)|(simp;omega)) _)|(refine Below.drew ?_)|exact Below.refl _ _)
     ·repeat (first|exact HB2.out.2|(refine Below.setCell ?_ (by first|omega|(simp;done)|(simp;omega)) _)|(refine Below.alloc ?_ (by first|omega|(simp;done)|(simp;omega)) _)|(refine Below.drew ?_)|exact Below.refl _ _)
     rintro e w3 ⟨v1,v2,rfl,q1,q2,q3⟩
     have Q:=aH (aI q1 q2)
     have q4:Below wr.heap.size wr w3:=by
      refine Below.trans ?_ (q3.mono ?_)
      ·repeat (first|exact HB2.out.2|(refine Below.setCell ?_ (by first|omega|(simp;done)|(simp;omega)) _)|(refine Below.alloc ?_ (by first|omega|(simp;done)|(simp;omega)) _)|(refine Below.drew ?_)|exact Below.refl _ _)
      ·simp;omega
     have Q4:=aH q4
     clear q1 q2 q3 q4
     go_wp2
     go_roundg (x%gk)
     case measure=>exact Nat.mod_lt _ (by have:=HP.out;omega)
     case rel =>
      obtain ⟨hx,hy,hyx,hx0,hg,hlv,hbe⟩:=HR.out
      have hp:=HP.out
      exact ⟨gk,hy.below Q4.out,Q.out.2,Nat.le_of_lt (Nat.mod_lt _ (by omega)),by omega,by rw [← hg,Nat.gcd_comm gk,Nat.gcd_comm x,Nat.gcd_rec gk x],hlv.le hyx,Below.step_trans hbe Q4.out⟩
    ·obtain ⟨hsb,hso⟩:=HB2.out.1
     obtain ⟨l1,l2,l3,l4,a',b',f1,f2,f3,f4,f5,f6⟩:=hso hs0
     have HF:=aH (aI l1 (aI l2 (aI l3 (aI l4 (aI f1 (aI f2 (aI f3 (aI f4 (aI f5 f6)))))))))
     clear hso l1 l2 l3 l4 f1 f2 f3 f4 f5 f6
     go_wp2_with fail
     have hco:∀ W,Below wr.heap.size wr W→Calls Tryz.prog 180 #[.agg #[.int .u64 (oa:Int),.int .u64 (ob:Int),.int .u64 (na:Int),.int .u64 (nb:Int),.int .i64 (s:Int)],u0,.slice A' n' c'] W (lK W a' b'):=fun W hW=>by
      obtain ⟨l1,l2,l3,l4,f1,f2,f3,f4,f5,f6⟩:=HF.out
      obtain ⟨hx,hy,hyx,hx0,hg,hlv,hbe⟩:=HR.out
      rcases Nat.mod_two_eq_zero_or_one s with e|e
      ·exact pO oa ob na nb s _ _ x gk a' b' W (hx.below hW) (hy.below hW) hlv (hlv.le hyx) l1 l2 l3 l4 (by rw [Int.tmod_eq_emod_of_nonneg (by omega)];omega) (f5 e).1 (f5 e).2
      ·exact rG oa ob na nb s _ _ x gk a' b' W (hx.below hW) (hy.below hW) hlv (hlv.le hyx) l1 l2 l3 l4 (by rw [Int.tmod_eq_emod_of_nonneg (by omega)];omega) (f6 e).1 (f6 e).2
     refine (hco _ ?_).mono ?_
     ·repeat (first|exact HB2.out.2|(refine Below.setCell ?_ (by first|omega|(simp;done)|(simp;omega)) _)|(refine Below.alloc ?_ (by first|omega|(simp;done)|(simp;omega)) _)|(refine Below.drew ?_)|exact Below.refl _ _)
     rintro e w3 ⟨v1,v2,rfl,q1,q2,q3⟩
     have Q:=aH (aI q1 q2)
     have q4:Below wr.heap.size wr w3:=by
      refine Below.trans ?_ (q3.mono ?_)
      ·repeat (first|exact HB2.out.2|(refine Below.setCell ?_ (by first|omega|(simp;done)|(simp;omega)) _)|(refine Below.alloc ?_ (by first|omega|(simp;done)|(simp;omega)) _)|(refine Below.drew ?_)|exact Below.refl _ _)
      ·simp;omega
     have Q4:=aH q4
     clear q1 q2 q3 q4 hco
     go_wp2
     go_roundg b'
     case measure=>exact HF.out.2.2.2.2.2.2.2.1
     case rel =>
      obtain ⟨l1,l2,l3,l4,f1,f2,f3,f4,f5,f6⟩:=HF.out
      obtain ⟨hx,hy,hyx,hx0,hg,hlv,hbe⟩:=HR.out
      have hle:a'≤x:=by
       have:=Nat.mul_le_mul_right a' (lift_pos hx0 hyx f1 f4 f5 f6)
       omega
      exact ⟨a',Q.out.1,Q.out.2,Nat.le_of_lt f3,by omega,by rw [← hg];exact uF f1 f2 f5 f6,hlv.le hle,Below.step_trans hbe Q4.out⟩
   ·have hz:n'=0∨n'=1:=by omega
    rcases hz with rfl|rfl
    ·obtain rfl:gk=0:=by omega
     have HI:=aH hy
     clear hpos hr' hd' hn' hv' hx hy hyx hx0 hg hlv hbe
     go_wp2_with (go_at_call 113;refine (dO HI.out).mono ?_;rintro e w' ⟨rfl,rfl⟩)
     go_ret
     obtain ⟨hx,hy,hyx,hx0,hg,hlv,hbe⟩:=HR.out
     exact ⟨u0,rfl,by rw [← hg,Nat.gcd_zero_right];exact hx,hbe⟩
    ·obtain ⟨ad,rfl,hk0,hkW,hcell⟩:=nt_one hy rfl
     have hz:decide (gk=0)=false:=by simp;omega
     have HI:=aH (aI hk0 hkW)
     clear hpos hr' hd' hn' hv' hx hy hyx hx0 hg hlv hbe hk0 hkW
     go_wp2_with (go_at_call 113;refine (dO HR.out.2.1).mono ?_;rintro e w' ⟨rfl,rfl⟩)
     refine (pN HR.out.1 HR.out.2.2.2.2.2.1 HI.out.1 HI.out.2).mono ?_
     rintro e w2 ⟨v1,rfl,q1,q2⟩
     have hcell2:w2.cell? ad=some (.int .u64 (gk:Int)):=(q2.cell (p:=ad) (by
      rcases Nat.lt_or_ge ad.block wr.heap.size with h|h
      ·exact h
      ·rw [World.cell?,Array.getElem?_eq_none h] at hcell;cases hcell)).trans hcell
     obtain ⟨r,hr⟩:∃ r,r=x%gk:=⟨_,rfl⟩
     have hrl:r<aD:=by have:=Nat.mod_lt x HI.out.1;have:=HI.out.2;omega
     rw [← hr]
     have Q2:=aH (aI q2 (aI hr hrl))
     clear q1 q2 hcell hr hrl
     go_wp2_with fail
     refine (jE gk r _ HI.out.2 Q2.out.2.2).mono ?_
     rintro e w3 ⟨rfl,q3⟩
     have Q3:=aH q3
     clear q3
     go_wp2_with fail
     refine (cB (Nat.gcd gk r) (Nat.lt_of_le_of_lt (Nat.gcd_le_left _ HI.out.1) HI.out.2) _).mono ?_
     rintro e w4 ⟨v4,rfl,q4,q5⟩
     have Q4:=aH (aI q4 q5)
     clear q4 q5
     go_wp2
     go_ret
     obtain ⟨hx,hy,hyx,hx0,hg,hlv,hbe⟩:=HR.out
     refine ⟨v4,rfl,?_,Below.step_trans hbe (Below.step_trans Q2.out.1 (Below.step_trans Q3.out Q4.out.2))⟩
     have:=Q4.out.1
     rwa [Q2.out.2.1,Nat.gcd_comm,← Nat.gcd_rec,Nat.gcd_comm,hg] at this
def aC (s:ByteArray):List UInt8:=s.data.toList
theorem aE (s:ByteArray):(aC s).length=s.size:=by simp [aC]
theorem aR (s:ByteArray) (i j:Nat):aC (s.extract i j)=((aC s).take j).drop i:=by
 unfold aC
 rw [ByteArray.data_extract,Array.toList_extract,List.extract_eq_take_drop]
 rw [List.drop_take]
def mU:Value→Nat | .string s=>s.size|_=>0
def TextAt (s:ByteArray) (w:World) (d n:Value) (wr:World):Prop :=
 ∃ (r:ByteArray) (a:Nat),d = .string r∧Nt wr n a∧r.size≤s.size∧AllDig (aC r)∧a*10^r.size+aT (aC r)=aT (aC s)∧(a=0∨r.size%19=0)∧Below w.heap.size w wr
theorem lv_pow (k n:Nat) (h:n≤19*2^k) {a:Nat} (ha:a<10^n):Lv k a:=by
 unfold Lv
 have h1:10^n≤10^(19*2^k):=Nat.pow_le_pow_right (by omega) h
 rw [Nat.pow_mul] at h1
 have h2:(10^19)^2^k≤aD^2^k:=Nat.pow_le_pow_left (by rw [aJ];omega) _
 omega
theorem text_step {s r:ByteArray} {a e:Nat} (hd:AllDig (aC r)) (h:a*10^r.size+aT (aC r)=aT (aC s)) (h19:a=0∨r.size%19=0) (he:e=(r.size-1)%19+1) (hr:0<r.size) :
 aC (r.extract 0 e)≠[]∧(aC (r.extract 0 e)).length=e∧AllDig (aC (r.extract 0 e))∧AllDig (aC (r.extract e r.size))∧(r.extract e r.size).size=r.size-e∧(r.size-e)%19=0 ∧
 (a*10000000000000000000+aT (aC (r.extract 0 e)))*10^(r.size-e)+aT (aC (r.extract e r.size))=aT (aC s):=by
 have hl:=aE r
 have hle:e≤r.size:=by have:=Nat.mod_le (r.size-1) 19;omega
 have e1:aC (r.extract 0 e)=(aC r).take e:=by rw [aR,List.drop_zero]
 have e2:aC (r.extract e r.size)=(aC r).drop e:=by rw [aR,List.take_of_length_le (by omega)]
 have l1:((aC r).take e).length=e:=by rw [List.length_take];omega
 refine ⟨by rw [e1];intro h0;rw [h0] at l1;simp at l1;omega,by rw [e1];exact l1,by rw [e1];exact hd.take _,by rw [e2];exact hd.drop _,by simp,by omega,?_⟩
 rw [e1,e2,← h]
 have hap:=fH ((aC r).take e) ((aC r).drop e)
 rw [List.take_append_drop,List.length_drop,hl] at hap
 rw [hap,Nat.add_mul]
 have hm:a*10000000000000000000*10^(r.size-e)=a*10^r.size:=by
  rcases h19 with h0|h0
  ·subst h0;rw [Nat.zero_mul,Nat.zero_mul]
  ·have:e=19:=by omega
   subst this
   have hp:r.size=19+(r.size-19):=by omega
   have hp2:10^r.size=10^19*10^(r.size-19):=by
    rw [← Nat.pow_add,← hp]
   rw [hp2,Nat.mul_assoc]
 rw [hm,Nat.add_assoc]
set_option maxHeartbeats 2000000 in
theorem vA (s:ByteArray) (w:World) (hs:s.size≤100000) (hd:AllDig (aC s)):Calls Tryz.prog 56 #[.string s] w (GivesNt w (aT (aC s))):=by
 have H:=aH (aI hs hd)
 clear hs hd
 go_enter Tryz.func56,Tryz.ntmps56
 go_wp2
 go_loopw [0,3] (fun d n wr=>TextAt s w d n wr) (fun d _ _=>mU d)
 case atStart=>exact ⟨s,0,rfl,Nt.zero w,Nat.le_refl _,H.out.2,by rw [Nat.zero_mul,Nat.zero_add],.inl rfl,Below.refl _ _⟩
 case round =>
  obtain ⟨r,a,rfl,hn,hrs,hdig,hval,h19,hb⟩:=hrel
  have hr1:(r.size:Int)≤100000:=by have:=H.out.1;omega
  rcases Nat.eq_zero_or_pos r.size with h0|h0
  ·have hz:decide (0<r.size)=false:=by rw [decide_eq_false_iff_not];omega
   have H0:=aH (aI h0 (aI hn (aI hval hb)))
   clear h0 hn hrs hdig hval h19 hb hr1
   go_wp2
   go_ret
   obtain ⟨h0,hn,hval,hb⟩:=H0.out
   refine ⟨_,rfl,?_,hb⟩
   have:aC r = []:=List.eq_nil_of_length_eq_zero (by rw [aE];exact h0)
   rw [this,h0,aT,dV,Nat.pow_zero,Nat.mul_one,Nat.add_zero] at hval
   rw [← hval]
   exact hn
  ·obtain ⟨e,he⟩:∃ e,e=(r.size-1)%19+1:=⟨_,rfl⟩
   obtain ⟨t1,t2,t3,t4,t5,t6,t7⟩:=text_step hdig hval h19 he h0
   have hle:e≤r.size:=by have:=Nat.mod_le (r.size-1) 19;omega
   have hl19:e≤19:=by have:=Nat.mod_lt (r.size-1) (y:=19) (by omega);omega
   have hei:((r.size:Int)-1).tmod 19+1=e:=by rw [Int.tmod_eq_emod_of_nonneg (by omega)];omega
   have hei2:((r.size:Int)-1)%19+1=e:=by omega
   have hp0:(0:Int)<(r.size:Int):=by omega
   have hle' : (e:Int)≤(r.size:Int):=by omega
   have HT:=aH (aI hn (aI hrs (aI hdig (aI hval (aI h19 (aI hb (aI he (aI t1 (aI t2 (aI t3 (aI t4 (aI t5 (aI t6 t7)))))))))))))
   clear hn hrs hdig hval h19 hb he t1 t2 t3 t4 t5 t6 t7 h0
   go_wp2_with fail
   have hp:=Tryz.strconv_ParseUint_10_at64_ok (r.extract 0 e) (by simp;omega) (aT (aC (r.extract 0 e))) (by
    obtain ⟨_,_,_,_,_,_,_,t1,t2,t3,_⟩:=HT.out
    exact parseUint_ok t3 t1 (Nat.le_trans (Nat.le_of_eq t2) hl19)) wr
   refine hp.mono ?_
   rintro e1 w2 ⟨rfl,hw2⟩
   have hb2:Below wr.heap.size wr w2:=by
    rcases hw2 with rfl|rfl
    ·exact Below.refl _ _
    ·exact Go.Joins.below_bytesWorld _ _ _ _ (Nat.le_refl _)
   have B2:=aH hb2
   clear hp hw2 hb2
   obtain ⟨u,hu⟩:∃ u,u=aT (aC (r.extract 0 e)):=⟨_,rfl⟩
   rw [← hu]
   have hul:u<aD:=by
    obtain ⟨_,_,_,_,_,_,_,t1,t2,t3,_⟩:=HT.out
    have:=gJ t3
    rw [t2] at this
    have h2:10^e≤10^19:=Nat.pow_le_pow_right (by omega) hl19
    rw [hu]
    rw [aJ]
    omega
   have HU:=aH (aI hu hul)
   clear hu hul
   have hv:Lv 13 a:=by
    obtain ⟨hn,hrs,hdig,hval,_⟩:=HT.out
    refine lv_pow 13 s.size (by have:=H.out.1;omega) (Nat.lt_of_le_of_lt ?_ (by rw [← aE];exact gJ H.out.2))
    rw [← hval]
    exact Nat.le_trans (Nat.le_mul_of_pos_right _ (Nat.pow_pos (by omega))) (Nat.le_add_right _ _)
   have HV:=aH hv
   clear hv
   go_wp2_with fail
   refine (cB 10000000000000000000 (by rw [aJ];omega) _).mono ?_
   rintro e3 w3 ⟨v3,rfl,q3,b3⟩
   have Q3:=aH (aI q3 b3)
   clear q3 b3
   go_wp2_with fail
   refine (iJ (HT.out.1.below (Below.step_trans B2.out Q3.out.2)) Q3.out.1 (HV.out.mono (by omega)) (Lv.one _ (by rw [aJ];omega))).mono ?_
   rintro e4 w4 ⟨v4,rfl,q4,b4⟩
   have Q4:=aH (aI q4 b4)
   clear q4 b4
   go_wp2_with fail
   refine (cB u HU.out.2 _).mono ?_
   rintro e5 w5 ⟨v5,rfl,q5,b5⟩
   have Q5:=aH (aI q5 b5)
   clear q5 b5
   go_wp2_with fail
   refine (nt_plus (Q4.out.1.below Q5.out.2) Q5.out.1 ((HV.out.mul (Lv.one (k:=13) _ (by rw [aJ];omega))).mono (by omega)) (Lv.one _ HU.out.2)).mono ?_
   rintro e6 w6 ⟨v6,rfl,q6,b6⟩
   have Q6:=aH (aI q6 b6)
   clear q6 b6
   go_wp2
   go_roundw
   case rel =>
    obtain ⟨hn,hrs,hdig,hval,h19,hb,he,t1,t2,t3,t4,t5,t6,t7⟩:=HT.out
    refine ⟨r.extract e r.size,_,rfl,Q6.out.1,by rw [t5];omega,t4,?_,.inr (by rw [t5];exact t6),Below.step_trans hb (Below.step_trans B2.out (Below.step_trans Q3.out.2 (Below.step_trans Q4.out.2 (Below.step_trans Q5.out.2 Q6.out.2))))⟩
    rw [t5,HU.out.1]
    exact t7
   case measure =>
    have:=HT.out.2.2.2.2.2.2.1
    simp [mU]
    omega
def kP:Nat:=10000000000000000000
theorem iS:kP=10000000000000000000:=rfl
theorem tF {B:Nat} {e:TypeId} {k:Nat} {v:Value} {n:Nat} {xs:List Value} {w w' : World} (h:w.ownsRow B e k v n xs) (hb:Below w.heap.size w w'):w'.ownsRow B e k v n xs:=by
 obtain ⟨h1,h2⟩:=h
 refine ⟨h1,?_⟩
 rcases h2 with h2|⟨g,cap,cur,e1,e2,e3,e4⟩
 ·exact .inl h2
 ·exact .inr ⟨g,cap,cur,e1,e2,(hb.block g (lt_of_block e3)).trans e3,e4⟩
theorem kQ {T e:TypeId} {B b:Nat} {bs:List Value} {w w' : World} (h:Lib.IsBuilder T e B b bs w) (hb:Below w.heap.size w w'):Lib.IsBuilder T e B b bs w':=by
 unfold Lib.IsBuilder Lib.BuilderAt at *
 rcases h with ⟨h1,v,h2,h3,h4⟩|⟨h1,v,h2,h3,h4⟩
 ·exact .inl ⟨h1,v,(hb.block b (lt_of_block h2)).trans h2,tF h3 hb,h4⟩
 ·exact .inr ⟨h1,v,(hb.block b (lt_of_block h2)).trans h2,tF h3 hb,h4⟩
def ChunkAt (w:World) (a k:Nat) (va vs:Value) (wr:World):Prop :=
 ∃ (m:Nat) (ws:List Nat),Nt wr va k∧k=a/kP^m∧wr.ownsRow w.heap.size 154 1 vs m (ws.map rA)∧(∀ i,i<m→ws[i]?=some (a/kP^i%kP))∧(m=0∨0<k)∧Below w.heap.size w wr
theorem chunk_bound {a k m:Nat} (ha:Lv 20 a) (hk:k=a/kP^m) (h0:m=0∨0<k):m≤2097152:=by
 rcases Nat.lt_or_ge 2097152 m with h|h
 ·exfalso
  have hk0:0<k:=by omega
  rw [hk] at hk0
  have h1:kP^m≤a:=by
   rcases Nat.lt_or_ge a (kP^m) with h'|h'
   ·rw [Nat.div_eq_of_lt h'] at hk0;omega
   ·exact h'
  unfold Lv at ha
  obtain ⟨e,he⟩:∃ e,e=2^20:=⟨_,rfl⟩
  rw [← he] at ha
  have h5:(2*e:Nat)=2097152:=by rw [he]
  have h2:kP^(2*e)≤kP^m:=Nat.pow_le_pow_right (by rw [iS];omega) (by omega)
  have h3:kP^(2*e)=(kP^2)^e:=Nat.pow_mul _ _ _
  have h4:aD^e≤(kP^2)^e:=Nat.pow_le_pow_left (by rw [aJ,iS];omega) _
  rw [← h3] at h4
  exact absurd (Nat.lt_of_lt_of_le ha (Nat.le_trans h4 (Nat.le_trans h2 h1))) (Nat.lt_irrefl _)
 ·exact h
theorem chunk_next {w w2:World} {a k:Nat} {v1 vs' : Value} {m:Nat} {ws:List Nat} (hk:k=a/kP^m) (hw:∀ i,i<m→ws[i]?=some (a/kP^i%kP)) (hl:ws.length=m) (hn:Nt w2 v1 (k/kP)) (hk0:aD≤k)
 (ho:w2.ownsRow w.heap.size 154 1 vs' (m+1) (ws.map rA ++ [.int .u64 ((k%kP:Nat):Int)])) (hb:Below w.heap.size w w2):ChunkAt w a (k/kP) v1 vs' w2:=by
 refine ⟨m+1,ws ++ [k%kP],hn,?_,?_,?_,.inr ?_,hb⟩
 ·rw [Nat.pow_succ,← Nat.div_div_eq_div_mul,← hk]
 ·rw [List.map_append];exact ho
 ·intro i hi
  rcases Nat.lt_or_ge i m with h|h
  ·rw [List.getElem?_append_left (by omega)];exact hw i h
  ·have:i=m:=by omega
   subst this
   rw [List.getElem?_append_right (by omega),hl,Nat.sub_self,← hk]
   rfl
 ·have:kP≤aD:=by rw [iS,aJ];omega
  exact Nat.div_pos (by omega) (by rw [iS];omega)
theorem rH {w:World} {base:Nat} {e:TypeId} {k:Nat} {v:Value} {n:Nat} {xs:List Value} (h:w.ownsRow base e k v n xs):∀ b,v.ownBlock=some b→base≤b:=by
 rintro b hb
 rcases h.2 with ⟨rfl,_⟩|⟨g,cap,cur,rfl,e2,_⟩
 ·cases hb
 ·injection hb with hb
  rw [← hb];exact e2
theorem row_ne {w:World} {base:Nat} {e:TypeId} {k:Nat} {v:Value} {n:Nat} {xs:List Value} (h:w.ownsRow base e k v n xs):some w.heap.size≠v.ownBlock:=by
 rcases h.2 with ⟨rfl,_⟩|⟨g,cap,cur,rfl,e2,e3,_⟩
 ·intro h;cases h
 ·intro h
  injection h with h
  have h2:w.heap.size=g:=h
  have:=lt_of_block e3
  omega
theorem nt_grown {w w' : World} {v:Value} {a:Nat} {row:Option Nat} (h:Nt w v a) (hg:w.grownBy w' row) (hne:v.ownBlock≠row):Nt w' v a:=by
 obtain ⟨A,n,c,xs,rfl,hr,hd,hn,ha⟩:=h
 refine ⟨A,n,c,xs,rfl,⟨hr.1,hr.2.1,hr.2.2.1,fun hp=>?_⟩,hd,hn,ha⟩
 obtain ⟨ad,e,hl,hc⟩:=hr.2.2.2 hp
 subst e
 exact ⟨ad,rfl,Nat.lt_of_lt_of_le hl hg.size,fun j x hj=>hg.cell (hc j x hj) (by rw [bL];exact hne)⟩
theorem xF (b o j:Nat):(⟨b,o,none⟩:Addr).add j=⟨b,o+j,none⟩:=Lib.add_plain b o j
theorem row_rd {w:World} {base m:Nat} {e:TypeId} {v:Value} {ws:List Nat} (h:w.ownsRow base e 1 v m (ws.map rA)):∃ A c,v = .slice A m c∧Rd w A m c ws:=by
 obtain ⟨h1,h2⟩:=h
 have hl:ws.length=m:=by simpa using h1
 rcases h2 with ⟨rfl,rfl⟩|⟨g,cap,cur,rfl,e2,e3,e4,e5,e6,e7⟩
 ·have:ws = []:=List.eq_nil_of_length_eq_zero hl
  subst this
  exact ⟨none,0,rfl,Rd.nil⟩
 ·refine ⟨_,cap,rfl,hl,e4,e5,fun _=>⟨_,rfl,lt_of_block e3,fun j x hx=>?_⟩⟩
  rw [xF,aA e3,← Array.getElem?_toList]
  have hj:(cur.toList.take (m*1))[0+j]?=some (.int .u64 (x:Int)):=by rw [e7,Nat.zero_add,List.getElem?_map,hx];rfl
  rw [List.getElem?_take] at hj
  split at hj
  ·exact hj
  ·cases hj
theorem new_builder (w:World) (T e:TypeId):Lib.IsBuilder T e w.heap.size w.heap.size [] (w.alloc (.cells #[.pointer none,.slice none 0 0] T)) :=
 .inl ⟨Nat.le_refl _,_,heap_alloc_new w _,⟨rfl,.inl ⟨rfl,rfl⟩⟩,by simp [Value.ownBlock]⟩
theorem dsize (l:List UInt8):(⟨l.toArray⟩:ByteArray).size=l.length:=by simp [ByteArray.size]
theorem rep_one (n:Nat):Lib.repeatL [48] n=List.replicate n 48:=by
 induction n with
 | zero=>rfl
 | succ n ih=>rw [Lib.repeatL,ih,List.replicate_succ];rfl
theorem zH {a:Nat} (ha:Lv 20 a):(Lib.decDigits a).length≤20971520:=by
 unfold Lv at ha
 obtain ⟨e,he⟩:∃ e,e=2^20:=⟨_,rfl⟩
 rw [← he] at ha
 have h4:aD^e≤(10^20)^e:=Nat.pow_le_pow_left (by rw [aJ];omega) _
 rw [← Nat.pow_mul] at h4
 have:(20*e:Nat)=20971519+1:=by rw [he]
 rw [this] at h4
 exact kO 20971519 a (Nat.lt_of_lt_of_le ha h4)
theorem chunk_text {a j x:Nat} (hx:x=a/kP^j%kP) (hp:0<a/kP^(j+1)):(Lib.decDigits x).length≤19 ∧
 Lib.decDigits (a/kP^(j+1))++(List.replicate (19-(Lib.decDigits x).length) 48++Lib.decDigits x)=Lib.decDigits (a/kP^j):=by
 have hxl:x<10000000000000000000:=by rw [hx];exact Nat.mod_lt _ (by rw [iS];omega)
 obtain ⟨h1,h2⟩:=dec_chunk hp hxl
 refine ⟨h1,?_⟩
 rw [← h2]
 congr 1
 rw [hx,Nat.pow_succ,← Nat.div_div_eq_div_mul,← iS]
 have:=Nat.div_add_mod (a/kP^j) kP
 rw [Nat.mul_comm] at this
 exact this
set_option maxHeartbeats 2000000 in
theorem text_any (v:Value) (a:Nat) (w:World) (h:Nt w v a) (ha:Lv 20 a) (hlaid:Laid w):Calls Tryz.prog 245 #[v] w fun e w'=>e = .returned (.string ⟨(Lib.decDigits a).toArray⟩)∧Below w.heap.size w w':=by
 have H:=aH (aI h (aI ha hlaid))
 clear h ha hlaid
 obtain ⟨i0,hi,hz0,hz1,hz2⟩:=info_parts eR
 have HI:=aH (aI hi (aI hz0 (aI hz1 hz2)))
 clear hi hz0 hz1 hz2
 go_enter Tryz.func245,Tryz.ntmps245
 go_wp2
 go_loopg [0,3] a (fun k va vs wr=>ChunkAt w a k va vs wr)
 case atStart=>exact ⟨0,[],H.out.1,by simp,⟨rfl,.inl ⟨rfl,rfl⟩⟩,fun i hi=>absurd hi (by omega),.inl rfl,Below.refl _ _⟩
 case round =>
  obtain ⟨m,ws,hn,hk,hrow,hws,hk0,hb⟩:=hrel
  have HM:=aH (chunk_bound H.out.2.1 hk hk0)
  have hlen:ws.length=m:=by have:=hrow.1;simpa using this
  have hlvk:Lv 20 gk:=H.out.2.1.le (by rw [hk];exact Nat.div_le_self _ _)
  obtain ⟨A,n,c,xs,rfl,hr,hd,hno,hval⟩:=id hn
  have hnc:n≤c:=hr.cap
  have hcm:c≤9223372036854775807:=hr.2.2.1
  by_cases h1:1<n
  ·have hbig:aD≤gk:=by
    rcases Nat.lt_or_ge gk aD with hlt|hge
    ·exfalso
     have:=aU eH hno (L:=1) (by rw [hval,Nat.pow_one];exact hlt)
     rw [hr.len] at this
     omega
    ·exact hge
   have HC:=aH (aI hn (aI hk (aI hrow (aI hws (aI hlen (aI hlvk (aI hbig hb)))))))
   clear hr hd hno hval hn hk hrow hws hk0 hb hlen hlvk hbig
   go_wp2_with fail
   refine (rF (d:=10000000000000000000) HC.out.1 (HC.out.2.2.2.2.2.1.mono (by omega)) (by omega) (by rw [aJ];omega)).mono ?_
   rintro e w2 ⟨v1,rfl,q1,q0,q2⟩
   obtain ⟨r,hr⟩:∃ r,r=gk%10000000000000000000:=⟨_,rfl⟩
   rw [← hr]
   have Q:=aH (aI q1 (aI q2 (aI hr q0)))
   have hz2:wr.heap.size≤w2.heap.size:=q2.size
   have hown2:=aH (tF HC.out.2.2.1 q2)
   clear q1 q2 hr q0
   go_wp2_with (at_builtin;refine wpList_append_own _ rfl _ _ 94 rfl w.heap.size 154 i0 (.int .u64 0) 1 8 Tryz.underlying94 HI.out.1 HI.out.2.1 HI.out.2.2.1 HI.out.2.2.2 rfl (by decide) _ _ _ rfl (hown2.out.alloc _) ⟨w2.heap.size,0,none⟩ 1 1 [.int .u64 (r:Int)] rfl rfl ?c1 ?c2 ?c3 ?c4 ?c5 ?_)
   case c1 =>
    intro j u hj
    match j with
    | 0 =>
      simp only [List.getElem?_cons_zero,Option.some.injEq] at hj
      subst hj
      exact aA (heap_alloc_new w2 _) 0
    | j+1=>simp at hj
   case c2=>intro u hu;simp at hu;subst hu;rfl
   case c3=>have:=HM.out;show m+1≤9223372036854775807;omega
   case c4=>have:=HM.out;omega
   case c5=>have:=HC.out.2.2.2.2.2.2.2.size;simp;omega
   intro v' w3 hr3 hg3 _
   have hbx:Below w.heap.size w w3:=by
    refine Below.grown ((HC.out.2.2.2.2.2.2.2.trans (Q.out.2.1.mono HC.out.2.2.2.2.2.2.2.size)).alloc (by have:=HC.out.2.2.2.2.2.2.2.size;omega) _) hg3 (by have:=HC.out.2.2.2.2.2.2.2.size;simp;omega) (rH HC.out.2.2.1)
   have hnx:Nt w3 v1 (gk/kP):=by
    refine nt_grown (Nt.below Q.out.1 ((Below.refl _ _).alloc (Nat.le_refl _) _)) hg3 ?_
    rw [Q.out.2.2.2]
    exact row_ne HC.out.2.2.1
   have HX:=aH (chunk_next HC.out.2.1 HC.out.2.2.2.1 HC.out.2.2.2.2.1 hnx HC.out.2.2.2.2.2.2.1 (by have:=Q.out.2.2.1;rw [iS,← this];exact hr3) hbx)
   clear hr3 hg3 hbx hnx
   go_wp2
   go_roundg (gk/kP)
   case measure=>have:=HC.out.2.2.2.2.2.2.1;exact Nat.div_lt_self (by rw [aJ] at this;omega) (by rw [iS];omega)
   case rel=>exact HX.out
  ·obtain ⟨W0,rfl⟩:∃ W0,W0=wr:=⟨_,rfl⟩
   have hsmall:gk<aD:=by
    rw [← hval]
    have:=bV hd
    rw [hr.len] at this
    exact Nat.lt_of_lt_of_le this (by rw [show aD=aD^1 from (Nat.pow_one _).symm];rw [← Nat.pow_mul,Nat.one_mul];exact Nat.pow_le_pow_right bC (by omega))
   obtain ⟨A3,c3,rfl,hrd⟩:=row_rd hrow
   have hc3:m≤c3:=hrd.cap
   have hc3m:c3≤9223372036854775807:=hrd.2.2.1
   have hlw:Laid W0:=H.out.2.2.below hb
   have HC:=aH (aI hn (aI hk (aI hrd (aI hws (aI hk0 (aI hsmall (aI hlw hb)))))))
   clear hr hd hno hval hn hk hrow hws hk0 hb hlen hlvk hsmall hrd hlw
   go_wp2_with fail
   refine (qD (HC.out.1.below ((Below.refl _ _).alloc (Nat.le_refl _) _))).mono ?_
   rintro e w' ⟨rfl,rfl⟩
   rw [Nat.mod_eq_of_lt HC.out.2.2.2.2.2.1]
   go_wp2_with fail
   refine (nT gk (by have:=HC.out.2.2.2.2.2.1;rw [aJ] at this;exact this) _ (HC.out.2.2.2.2.2.2.1.below ((Below.refl _ _).alloc (Nat.le_refl _) _))).mono ?_
   rintro e w3 ⟨rfl,q3⟩
   have hB3:Lib.IsBuilder 212 5 W0.heap.size W0.heap.size [] w3:=kQ (new_builder W0 _ _) q3
   have hb3:Below W0.heap.size W0 w3:=((Below.refl _ _).alloc (Nat.le_refl _) _).trans (q3.mono (by simp))
   have Q3:=aH (aI hB3 hb3)
   clear q3 hB3 hb3
   go_wp2_with fail
   refine (mP W0.heap.size W0.heap.size [] _ w3 Q3.out.1 (by have:=zH (HC.out.2.1▸H.out.2.1.le (Nat.div_le_self a (kP^m)):Lv 20 gk);rw [dsize];simp;omega) Q3.out.2.size).mono ?_
   rintro e w4 ⟨rfl,q4,b4⟩
   have q4' : Lib.IsBuilder 212 5 W0.heap.size W0.heap.size (Lib.byteCells (Lib.decDigits (a/kP^m))) w4:=by
    rw [← HC.out.2.1]
    exact .inr q4
   have Q4:=aH (aI q4' (Q3.out.2.trans b4))
   clear q4 q4' b4
   go_wp2
   go_loopw [7] (fun i w5 => ∃ j:Nat,j≤m∧i = .int .i64 ((j:Int)-1)∧Lib.IsBuilder 212 5 W0.heap.size W0.heap.size (Lib.byteCells (Lib.decDigits (a/kP^j))) w5∧Below W0.heap.size W0 w5) (fun i _=>(intOf i+1).toNat)
   case atStart=>exact ⟨m,Nat.le_refl _,rfl,Q4.out.1,Q4.out.2⟩
   case round =>
    obtain ⟨j,hj,rfl,hbu,hb5⟩:=hrel
    have HJ:=aH (aI hj (aI hbu hb5))
    rcases Nat.eq_zero_or_pos j with rfl|hj0
    ·simp only [show (((0:Nat):Int)-1) = -1 from rfl]
     clear hj hbu hb5
     go_wp2_with fail
     refine (Tryz.Builder_String_any _ _ _ _ HJ.out.2.1 HJ.out.2.2.size).mono ?_
     rintro e w6 ⟨rfl,b6⟩
     have B6:=aH b6
     clear b6
     go_wp2
     go_ret
     exact ⟨rfl,HC.out.2.2.2.2.2.2.2.trans ((HJ.out.2.2.trans B6.out).mono HC.out.2.2.2.2.2.2.2.size)⟩
    ·obtain ⟨t,rfl⟩:∃ t,j=t+1:=⟨j-1,by omega⟩
     obtain ⟨ad,x,hA,hadl,hx,hcx⟩:=(HC.out.2.2.1.below hb5).at_ (k:=t) (by omega)
     subst hA
     have hx2:x=a/kP^t%kP:=by
      have:=HC.out.2.2.2.1 t (by omega)
      rw [hx] at this
      injection this
     have hq0:0<a/kP^(t+1):=by
      have hk:=HC.out.2.2.2.2.1
      have h1:=HC.out.2.1
      have h2:0<a/kP^m:=by rw [← h1];omega
      have h3:kP^(t+1)≤kP^m:=Nat.pow_le_pow_right (by rw [iS];omega) hj
      have h4:a/kP^m≤a/kP^(t+1):=Nat.div_le_div_left h3 (Nat.pow_pos (by rw [iS];omega))
      omega
     obtain ⟨hl19,hcat⟩:=chunk_text hx2 hq0
     have hxl:x<18446744073709551616:=by
      have:=Nat.mod_lt (a/kP^t) (show 0<kP by rw [iS];omega)
      rw [← hx2,iS] at this
      omega
     have hL19:((Lib.decDigits x).length:Int)≤19:=by omega
     have hL:True:=trivial
     have hidx:(((t+1:Nat):Int)-1)=t:=by omega
     have ht:(t:Int)<m:=by omega
     have HT:=aH (aI hcat (aI hxl (aI hL (aI hl19 (HC.out.2.2.2.2.2.2.1.below hb5)))))
     simp only [hidx]
     clear hidx hx hx2 hq0 hl19 hcat hxl hj hbu hb5 hj0
     go_wp2_with fail
     refine (nT x HT.out.2.1 _ HT.out.2.2.2.2).mono ?_
     rintro e w6 ⟨rfl,b6⟩
     have B6:=aH b6
     clear b6
     have hc19:(19:Int)-(Lib.decDigits x).length=((19-(Lib.decDigits x).length:Nat):Int):=by omega
     have hb6:Below W0.heap.size W0 w6:=HJ.out.2.2.trans (B6.out.mono HJ.out.2.2.size)
     have hB6:=kQ HJ.out.2.1 B6.out
     have Q6:=aH (aI hB6 hb6)
     have hlen0:(Lib.decDigits (a/kP^(t+1))).length≤20971520:=zH (H.out.2.1.le (Nat.div_le_self _ _))
     have HL0:=aH hlen0
     clear hb6 hB6 hlen0
     go_wp2_with fail
     refine (Tryz.strings_Repeat ⟨#[48]⟩ (19-(Lib.decDigits x).length) w6 (by omega) (by simp [ByteArray.size];omega)).mono ?_
     rintro e w7 ⟨rfl,b7⟩
     have B7:=aH b7
     clear b7
     go_wp2_with fail
     have hrep:Lib.repeatL (⟨#[48]⟩:ByteArray).data.toList (19-(Lib.decDigits x).length)=List.replicate (19-(Lib.decDigits x).length) 48:=rep_one _
     rw [hrep]
     refine (mP W0.heap.size W0.heap.size _ _ w7 (kQ Q6.out.1 B7.out) (by rw [dsize,Lib.byteCells_length,List.length_replicate];have:=HL0.out;omega) (Nat.le_trans Q6.out.2.size B7.out.size)).mono ?_
     rintro e w8 ⟨rfl,q8,b8⟩
     have Q8:=aH (aI (show Lib.IsBuilder 212 5 W0.heap.size W0.heap.size _ w8 from .inr q8) (Q6.out.2.trans ((B7.out.mono Q6.out.2.size).trans b8)))
     clear q8 b8 hrep
     go_wp2_with fail
     refine (mP W0.heap.size W0.heap.size _ _ w8 Q8.out.1 (by
      rw [dsize,List.length_append,Lib.byteCells_length,Lib.strCells_length,dsize,List.length_replicate]
      have:=HL0.out
      have:=HT.out.2.2.2.1
      omega) Q8.out.2.size).mono ?_
     rintro e w9 ⟨rfl,q9,b9⟩
     have Q9:=aH (aI q9 (Q8.out.2.trans b9))
     clear q9 b9
     go_wp2
     go_roundw
     case rel =>
      refine ⟨t,by have:=HJ.out.1;omega,rfl,.inr ?_,Q9.out.2⟩
      have:=Q9.out.1
      rw [Lib.strCells_eq,Lib.strCells_eq,← Lib.byteCells_append,← Lib.byteCells_append,List.append_assoc] at this
      simp only [List.toList_toArray] at this
      rw [HT.out.1] at this
      exact this
     case measure=>simp [intOf]
def Fr (w:World) (v:Value) (q:Rat):Prop := ∃ s1 s2,v = .agg #[.bool (decide (q.num<0)),s1,s2]∧Nt w s1 q.num.natAbs∧Nt w s2 q.den
theorem Fr.of {w:World} {neg:Bool} {n d:Nat} {s1 s2:Value} {q:Rat} (h:Parts q neg n d) (h1:Nt w s1 n) (h2:Nt w s2 d):Fr w (.agg #[.bool neg,s1,s2]) q:=by
 obtain ⟨rfl,rfl,rfl⟩:=h
 exact ⟨s1,s2,rfl,h1,h2⟩
theorem Fr.ext {K:Value→Bool} (hK:∀ x,K (.int .u64 x)=true) {w w' : World} {v:Value} {q:Rat} (h:Fr w v q) (hx:Ext K w w'):Fr w' v q:=by
 obtain ⟨s1,s2,e,h1,h2⟩:=h
 exact ⟨s1,s2,e,h1.ext hK hx,h2.ext hK hx⟩
theorem Fr.below {w w' : World} {v:Value} {q:Rat} (h:Fr w v q) (hb:Below w.heap.size w w'):Fr w' v q:=by
 obtain ⟨s1,s2,e,h1,h2⟩:=h
 exact ⟨s1,s2,e,h1.below hb,h2.below hb⟩
def fK (q:Rat):Sp:=fun v w=>Fr w v q
theorem spFr_stable {K:Value→Bool} (hK:∀ x,K (.int .u64 x)=true) (q:Rat):Stable K (fK q):=fun _ _ _ h hx=>Fr.ext hK h hx
def GivesFr (w:World) (q:Rat) (e:Ending) (w' : World):Prop := ∃ v,e = .returned v∧Fr w' v q∧Below w.heap.size w w'
theorem GivesFr.ty {P:Program} {f:FuncId} {args:Array Value} {w:World} {q:Rat} (h:Calls P f args w (GivesFr w q)):Calls P f args w (TyPost w (fK q)) :=
 h.mono fun _ _ ⟨v,h1,h2,h3⟩=>⟨v,h1,h3,h2⟩
def Lf (k:Nat) (q:Rat):Prop:=Lv k q.num.natAbs∧Lv k q.den
theorem Nt.form {w:World} {v:Value} {a:Nat} (h:Nt w v a):∃ A n c,v = .slice A n c:=by
 obtain ⟨A,n,c,_,rfl,_⟩:=h
 exact ⟨A,n,c,rfl⟩
theorem dN {w:World} {g:Nat} {a b c:Value} {t:TypeId} (h:w.heap[g]?=some (.cells #[a,b,c] t (0,0))) :
 (w.cell? ⟨g,0,none⟩=some a∧w.cell? ⟨g,1,none⟩=some b∧w.cell? ⟨g,2,none⟩=some c)∧(w.frozen? ⟨g,0,none⟩=false∧w.frozen? ⟨g,1,none⟩=false∧w.frozen? ⟨g,2,none⟩=false):=by
 refine ⟨⟨aA h 0,aA h 1,aA h 2⟩,?_,?_,?_⟩ <;> simp [World.frozen?,h]
theorem aM {w w' : World} {g:Nat} {o:Obj} (hb:Below w.heap.size w w') (h:w.heap[g]?=some o):w'.heap[g]?=some o:=(hb.block g (lt_of_block h)).trans h
theorem Ext.only {K:Value→Bool} {w w' : World} {g:Nat} {o:Obj} (hg:w.grownBy w' (some g)) (h0:w.heap[g]?=some o) (hc:hotObj K o=false):Ext K w w':=by
 refine ⟨hg.size,fun k o' hk ho=>?_⟩
 by_cases e:k=g
 ·subst e
  rw [h0] at hk
  injection hk with hk
  subst hk
  rw [hc] at ho
  cases ho
 ·rw [hg.block k (lt_of_block hk) (fun h=>e (by injection h))];exact hk
theorem pP (w:World) (g:Nat) (a b c:Value):w.grownBy (((w.setCell ⟨g,0,none⟩ a).setCell ⟨g,1,none⟩ b).setCell ⟨g,2,none⟩ c) (some g) :=
 cU (cU (eL _ _ _ _) (eL _ _ _ _)) (eL _ _ _ _)
set_option maxHeartbeats 1000000 in
theorem rJ (w:World):Calls Tryz.prog 114 #[] w (GivesFr w 0):=by
 go_enter Tryz.func114,Tryz.ntmps114
 go_wp2_with fail
 refine (cB 1 (by rw [aJ];omega) _).mono ?_
 rintro e w2 ⟨v1,rfl,q1,b1⟩
 obtain ⟨A1,n1,c1,rfl⟩:=q1.form
 obtain ⟨⟨h0,h1,h2⟩,f0,f1,f2⟩:=dN (aM b1 (heap_alloc_new w _))
 have B:=aH (aM b1 (heap_alloc_new w _))
 have Q:=aH (aI q1 b1)
 clear q1 b1
 go_wp2
 refine bodyPost_ret (v := .agg #[.bool false,.slice none 0 0,.slice A1 n1 c1]) (by simp [results,Tryz.results114,go_sem,h0,h1,h2]) rfl ⟨_,rfl,?_,?_⟩
 ·exact ((Fr.of Parts.zero (Nt.zero w2) Q.out.1).ext (K:=Ku) (fun _=>rfl) (Ext.only (pP _ _ _ _ _) B.out (by simp [hotObj,Ku])))
 ·repeat (first|exact (Below.step_trans ((Below.refl _ _).alloc (Nat.le_refl _) _) Q.out.2)|(refine Below.setCell ?_ (by first|omega|(simp;done)|(simp;omega)) _)|(refine Below.alloc ?_ (by first|omega|(simp;done)|(simp;omega)) _)|(refine Below.drew ?_)|exact Below.refl _ _)
set_option maxHeartbeats 2000000 in
theorem ratio_zero (neg:Bool) (d:Nat) (v v' : Value) (w:World) (h:Nt w v 0) (h' : Nt w v' d):Calls Tryz.prog 55 #[.bool neg,v,v'] w (GivesFr w 0):=by
 have H:=aH (aI h h')
 obtain ⟨A,n,c,rfl⟩:=h.form
 obtain ⟨A',n',c',rfl⟩:=h'.form
 clear h h'
 go_enter Tryz.func55,Tryz.ntmps55
 go_wp2_with fail
 refine (dO (H.out.1.below ((Below.refl _ _).alloc (Nat.le_refl _) _))).mono ?_
 rintro e w1 ⟨rfl,rfl⟩
 go_wp2_with fail
 refine (rJ _).mono ?_
 rintro e w2 ⟨v1,rfl,⟨s1,s2,rfl,q1,q2⟩,b1⟩
 obtain ⟨A1,n1,c1,rfl⟩:=q1.form
 obtain ⟨A2,n2,c2,rfl⟩:=q2.form
 obtain ⟨⟨h0,h1,h2⟩,f0,f1,f2⟩:=dN (aM b1 (heap_alloc_new w _))
 have B:=aH (aM b1 (heap_alloc_new w _))
 have Q:=aH (aI q1 (aI q2 b1))
 clear q1 q2 b1
 go_wp2
 refine bodyPost_ret (v := .agg #[.bool (decide ((0:Rat).num<0)),.slice A1 n1 c1,.slice A2 n2 c2]) (by simp [results,Tryz.results55,go_sem,h0,h1,h2]) rfl ⟨_,rfl,?_,?_⟩
 ·exact (Fr.ext (K:=Ku) (fun _=>rfl) ⟨_,_,rfl,Q.out.1,Q.out.2.1⟩ (Ext.only (pP _ _ _ _ _) B.out (by simp [hotObj,Ku])))
 ·repeat (first|exact (Below.step_trans ((Below.refl _ _).alloc (Nat.le_refl _) _) Q.out.2.2)|(refine Below.setCell ?_ (by first|omega|(simp;done)|(simp;omega)) _)|(refine Below.alloc ?_ (by first|omega|(simp;done)|(simp;omega)) _)|(refine Below.drew ?_)|exact Below.refl _ _)
theorem vB (a b:Bool) (x y:Nat) (v v' : Value) (w:World) (h:Nt w v x) (h' : Nt w v' y) (hx:Lv 40 x) (hy:Lv 40 y) :
 Calls Tryz.prog 202 #[.bool a,v,.bool b,v'] w fun e w' => ∃ neg u,e = .returned (.tuple #[.bool neg,u])∧sg neg (sg a x+sg b y).natAbs=sg a x+sg b y∧Nt w' u (sg a x+sg b y).natAbs∧Below w.heap.size w w':=by
 have H:=aH (aI h (aI h' (aI hx hy)))
 obtain ⟨A,n,c,rfl⟩:=h.form
 obtain ⟨A',n',c',rfl⟩:=h'.form
 clear h h' hx hy
 by_cases hab:a=b
 ·subst hab
  have hz:(a==a)=true:=by simp
  go_enter Tryz.func202,Tryz.ntmps202
  go_wp2_with fail
  refine (nt_plus H.out.1 H.out.2.1 H.out.2.2.1 H.out.2.2.2).mono ?_
  rintro e w2 ⟨v1,rfl,q1,b1⟩
  have Q:=aH (aI q1 b1)
  clear q1 b1
  go_wp2
  go_ret2
  have hs:(sg a x+sg a y).natAbs=x+y:=by unfold sg;split <;> omega
  refine ⟨a,v1,rfl,?_,by rw [hs];exact Q.out.1,Q.out.2⟩
  rw [hs];unfold sg;split <;> omega
 ·have hz:(a==b)=false:=by simpa using hab
  have hba:sg b y = -(sg a y):=by cases a <;> cases b <;> simp_all [sg]
  have HA:=aH (aI hab hba)
  clear hab hba
  by_cases hlt:x<y
  ·have hc:=qC H.out.1 H.out.2.1
   rw [show bS x y = -1 from by unfold bS;rw [if_pos (by omega)]] at hc
   have HL:=aH (aI hlt hc)
   clear hlt hc
   go_enter Tryz.func202,Tryz.ntmps202
   go_wp2_with fail
   refine HL.out.2.mono ?_
   rintro e w1 ⟨rfl,b0⟩
   have B0:=aH b0
   clear b0
   go_wp2_with fail
   refine (nt_minus (H.out.2.1.below B0.out) (H.out.1.below B0.out) H.out.2.2.2 (Nat.le_of_lt HL.out.1)).mono ?_
   rintro e w2 ⟨v1,rfl,q1,b1⟩
   have Q:=aH (aI q1 b1)
   clear q1 b1
   go_wp2
   go_ret2
   obtain ⟨hab,hba⟩:=HA.out
   have hl:=HL.out.1
   have hs:(sg a x+sg b y).natAbs=y-x:=by rw [hba];unfold sg;split <;> omega
   refine ⟨b,v1,rfl,?_,by rw [hs];exact Q.out.1,Below.step_trans B0.out Q.out.2⟩
   rw [hs]
   unfold sg
   cases a <;> cases b <;> simp_all <;> omega
  ·have hc:=qC H.out.1 H.out.2.1
   have hcc:¬ bS x y<0:=by unfold bS;rw [if_neg (by omega)];split <;> omega
   generalize bS (x:Int) y=cz at hc hcc
   have HL:=aH (aI hlt hc)
   clear hlt hc
   go_enter Tryz.func202,Tryz.ntmps202
   go_wp2_with fail
   refine HL.out.2.mono ?_
   rintro e w1 ⟨rfl,b0⟩
   have B0:=aH b0
   clear b0
   go_wp2_with fail
   refine (nt_minus (H.out.1.below B0.out) (H.out.2.1.below B0.out) H.out.2.2.1 (Nat.le_of_not_lt HL.out.1)).mono ?_
   rintro e w2 ⟨v1,rfl,q1,b1⟩
   have Q:=aH (aI q1 b1)
   clear q1 b1
   go_wp2
   go_ret2
   obtain ⟨hab,hba⟩:=HA.out
   have hl:=HL.out.1
   have hs:(sg a x+sg b y).natAbs=x-y:=by rw [hba];unfold sg;split <;> omega
   refine ⟨a,v1,rfl,?_,by rw [hs];exact Q.out.1,Below.step_trans B0.out Q.out.2⟩
   rw [hs]
   unfold sg
   cases a <;> cases b <;> simp_all <;> omega
set_option maxHeartbeats 4000000 in
theorem tG (neg:Bool) (n d:Nat) (v v' : Value) (w:World) (h:Nt w v n) (h' : Nt w v' d) (hn:Lv 40 n) (hd:Lv 40 d) (hd0:0<d):Calls Tryz.prog 55 #[.bool neg,v,v'] w (GivesFr w (mkRat (sg neg n) d)):=by
 by_cases h0:n=0
 ·subst h0
  rw [sg_zero,Rat.zero_mkRat]
  exact ratio_zero neg d v v' w h h'
 have H:=aH (aI h (aI h' (aI hn (aI hd (aI hd0 h0)))))
 have hnz:decide (n=0)=false:=by simpa using h0
 obtain ⟨A,k,c,rfl⟩:=h.form
 obtain ⟨A',k',c',rfl⟩:=h'.form
 clear h h' hn hd hd0 h0
 have b0:Below w.heap.size w (w.alloc (.cells #[.bool false,.slice none 0 0,.slice none 0 0] 97)):=(Below.refl _ _).alloc (Nat.le_refl _) _
 have B0:=aH b0
 have hblk:=aH (heap_alloc_new w (.cells #[.bool false,.slice none 0 0,.slice none 0 0] 97))
 clear b0
 by_cases h1:d=1
 ·have hz1:decide (d=1)=true:=by simpa using h1
  have H1:=aH h1
  clear h1
  go_enter Tryz.func55,Tryz.ntmps55
  go_wp2_with fail
  refine (dO (H.out.1.below B0.out)).mono ?_
  rintro e w1 ⟨rfl,rfl⟩
  go_wp2_with fail
  refine (oB (H.out.2.1.below B0.out)).mono ?_
  rintro e w1 ⟨rfl,rfl⟩
  obtain ⟨⟨h0,h1,h2⟩,f0,f1,f2⟩:=dN hblk.out
  go_wp2
  refine bodyPost_ret (v := .agg #[.bool neg,.slice A k c,.slice A' k' c']) (by simp [results,Tryz.results55,go_sem,h0,h1,h2]) rfl ⟨_,rfl,?_,(Below.refl _ _).alloc (Nat.le_refl _) _⟩
  exact Fr.of (Parts.reduced H.out.2.2.2.2.2 (by rw [H1.out];omega) (by rw [H1.out,Nat.gcd_one_right])) (H.out.1.below ((Below.refl _ _).alloc (Nat.le_refl _) _)) (H.out.2.1.below ((Below.refl _ _).alloc (Nat.le_refl _) _))
 ·have hz1:decide (d=1)=false:=by simpa using h1
  clear h1
  go_enter Tryz.func55,Tryz.ntmps55
  go_wp2_with fail
  refine (dO (H.out.1.below B0.out)).mono ?_
  rintro e w1 ⟨rfl,rfl⟩
  go_wp2_with fail
  refine (oB (H.out.2.1.below B0.out)).mono ?_
  rintro e w1 ⟨rfl,rfl⟩
  go_wp2_with fail
  refine (vK _ _ n d _ (H.out.1.below B0.out) (H.out.2.1.below B0.out) H.out.2.2.1 H.out.2.2.2.1 (.inr H.out.2.2.2.2.1)).mono ?_
  rintro e w2 ⟨vg,rfl,qg,b2⟩
  obtain ⟨Ag,kg,cg,rfl⟩:=qg.form
  have hb2:Below w.heap.size w w2:=Below.step_trans B0.out b2
  have hk2:=aM b2 hblk.out
  have hg0:0<Nat.gcd n d:=Nat.gcd_pos_of_pos_right _ H.out.2.2.2.2.1
  have hgl:Lv 40 (Nat.gcd n d):=H.out.2.2.2.1.le (Nat.gcd_le_right _ H.out.2.2.2.2.1)
  have HG:=aH (aI qg (aI hb2 (aI hk2 (aI hg0 hgl))))
  clear qg b2 hb2 hk2 hg0 hgl
  by_cases hg1:Nat.gcd n d=1
  ·have hzg:decide (Nat.gcd n d=1)=true:=by simpa using hg1
   have HG1:=aH hg1
   clear hg1
   obtain ⟨⟨h0,h1,h2⟩,f0,f1,f2⟩:=dN HG.out.2.2.1
   go_wp2_with (go_at_call 115;refine (oB HG.out.1).mono ?_;rintro e w1 ⟨rfl,rfl⟩)
   refine bodyPost_ret (v := .agg #[.bool neg,.slice A k c,.slice A' k' c']) (by simp [results,Tryz.results55,go_sem,h0,h1,h2]) rfl ⟨_,rfl,?_,?_⟩
   ·exact Fr.ext (K:=Ku) (fun _=>rfl) (Fr.of (Parts.reduced H.out.2.2.2.2.2 (Nat.ne_of_gt H.out.2.2.2.2.1) HG1.out) (H.out.1.below HG.out.2.1) (H.out.2.1.below HG.out.2.1)) (Ext.only (pP _ _ _ _ _) HG.out.2.2.1 (by simp [hotObj,Ku]))
   ·repeat (first|exact HG.out.2.1|(refine Below.setCell ?_ (by first|omega|(simp;done)|(simp;omega)) _)|(refine Below.alloc ?_ (by first|omega|(simp;done)|(simp;omega)) _)|(refine Below.drew ?_)|exact Below.refl _ _)
  ·have hzg:decide (Nat.gcd n d=1)=false:=by simpa using hg1
   clear hg1
   go_wp2_with (go_at_call 115;refine (oB HG.out.1).mono ?_;rintro e w1 ⟨rfl,rfl⟩)
   refine (fJ (H.out.1.below HG.out.2.1) HG.out.1 H.out.2.2.1 HG.out.2.2.2.1).mono ?_
   rintro e w3 ⟨v1,u1,rfl,q1,_,b3⟩
   obtain ⟨A1,k1,c1,rfl⟩:=q1.form
   have Q3:=aH (aI q1 (aI b3 (aI (Below.step_trans HG.out.2.1 b3) (aM b3 HG.out.2.2.1))))
   clear q1 b3
   go_wp2_with fail
   refine (fJ (H.out.2.1.below Q3.out.2.2.1) (HG.out.1.below Q3.out.2.1) H.out.2.2.2.1 HG.out.2.2.2.1).mono ?_
   rintro e w4 ⟨v2,u2,rfl,q2,_,b4⟩
   obtain ⟨A2,k2,c2,rfl⟩:=q2.form
   have Q4:=aH (aI q2 (aI b4 (aI (Below.step_trans Q3.out.2.2.1 b4) (aM b4 Q3.out.2.2.2))))
   clear q2 b4
   obtain ⟨⟨h0,h1,h2⟩,f0,f1,f2⟩:=dN Q4.out.2.2.2
   go_wp2
   refine bodyPost_ret (v := .agg #[.bool neg,.slice A1 k1 c1,.slice A2 k2 c2]) (by simp [results,Tryz.results55,go_sem,h0,h1,h2]) rfl ⟨_,rfl,?_,?_⟩
   ·exact Fr.ext (K:=Ku) (fun _=>rfl) (Fr.of (Parts.reduce H.out.2.2.2.2.2 (Nat.ne_of_gt H.out.2.2.2.2.1)) (Q3.out.1.below Q4.out.2.1) Q4.out.1) (Ext.only (pP _ _ _ _ _) Q4.out.2.2.2 (by simp [hotObj,Ku]))
   ·repeat (first|exact Q4.out.2.2.1|(refine Below.setCell ?_ (by first|omega|(simp;done)|(simp;omega)) _)|(refine Below.alloc ?_ (by first|omega|(simp;done)|(simp;omega)) _)|(refine Below.drew ?_)|exact Below.refl _ _)
def Kn:Value→Bool
 | .int .u64 _=>true
 | .bool _=>true
 | _=>false
theorem aW {w:World} {g:Nat} {cs:Array Value} {t:TypeId} (h:w.heap[g]?=some (.cells cs t (0,0))) (i:Nat):w.frozen? ⟨g,i,none⟩=false:=by
 simp [World.frozen?,h]
theorem cW {w:World} {b i:Nat} {cs:Array Value} {t:TypeId} {fr:Nat×Nat} (h:w.heap[b]?=some (.cells cs t fr)) (u:Value):Turned b (.cells (cs.setIfInBounds i u) t fr) w (w.setCell ⟨b,i,none⟩ u):=by
 refine ⟨rfl,rfl,rfl,by simp [World.setCell],?_,fun k hk=>Below.heap_setCell w _ u k hk⟩
 simp only [World.setCell,Array.getElem?_modify,h]
 simp
theorem Turned.trans {b:Nat} {o o' : Obj} {w w' w'' : World} (h:Turned b o w w') (h' : Turned b o' w' w''):Turned b o' w w'' :=
 ⟨h'.os.trans h.os,h'.tape.trans h.tape,h'.output.trans h.output,h'.size.trans h.size,h'.at_,fun k hk=>(h'.block k hk).trans (h.block k hk)⟩
theorem eI {w:World} {b:Nat} {x y z:Value} {t:TypeId} (h:w.heap[b]?=some (.cells #[x,y,z] t (0,0))) (u0 u1 u2:Value) :
 Turned b (.cells #[u0,u1,u2] t (0,0)) w (((w.setCell ⟨b,0,none⟩ u0).setCell ⟨b,1,none⟩ u1).setCell ⟨b,2,none⟩ u2):=by
 have h1:=cW (i:=0) h u0
 have h2:=cW (i:=1) h1.at_ u1
 have h3:=cW (i:=2) h2.at_ u2
 exact (h1.trans h2).trans h3
theorem Turned.below {b:Nat} {o:Obj} {w0 w w' : World} (h:Turned b o w w') (hb:Below w0.heap.size w0 w) (hlt:w0.heap.size≤b):Below w0.heap.size w0 w' :=
 hb.trans ⟨h.os,h.tape,h.output,by rw [h.size];exact Nat.le_refl _,fun k hk=>h.block k (by omega)⟩
def coFr (q:Rat):Obj→World→Prop:=fun o w => ∃ s1 s2,o = .cells #[.bool (decide (q.num<0)),s1,s2] 97 (0,0)∧Nt w s1 q.num.natAbs∧Nt w s2 q.den
theorem kE {K:Value→Bool} (hK:∀ x,K (.int .u64 x)=true) (q:Rat):StableO K (coFr q):=fun _ _ _ ⟨s1,s2,e,h1,h2⟩ hx=>⟨s1,s2,e,h1.ext hK hx,h2.ext hK hx⟩
set_option maxHeartbeats 1000000 in
theorem negated_any (v:Value) (q:Rat) (w:World) (h:Fr w v q) (h0:q≠0):Calls Tryz.prog 198 #[v] w (GivesFr w (-q)):=by
 obtain ⟨s1,s2,rfl,h1,h2⟩:=h
 obtain ⟨A1,n1,c1,rfl⟩:=h1.form
 obtain ⟨A2,n2,c2,rfl⟩:=h2.form
 have H:=aH (aI h1 (aI h2 h0))
 clear h1 h2 h0
 generalize hneg:decide (q.num<0)=neg
 have HN:=aH hneg
 clear hneg
 go_enter Tryz.func198,Tryz.ntmps198
 go_wp2
 refine bodyPost_ret (v := .agg #[.bool (!neg),.slice A1 n1 c1,.slice A2 n2 c2]) (by simp [results,Tryz.results198,go_sem]) rfl ⟨_,rfl,?_,?_⟩
 ·have hb:∀ o o',Below w.heap.size w ((w.alloc o).alloc o'):=fun o o'=>((Below.refl _ _).alloc (Nat.le_refl _) _).alloc (by simp) _
  refine Fr.of (Parts.neg ?_ H.out.2.2) (H.out.1.below (hb _ _)) (H.out.2.1.below (hb _ _))
  rw [← HN.out]
  exact Parts.self q
 ·repeat (first|exact Below.refl _ _|(refine Below.setCell ?_ (by first|omega|(simp;done)|(simp;omega)) _)|(refine Below.alloc ?_ (by first|omega|(simp;done)|(simp;omega)) _)|(refine Below.drew ?_)|exact Below.refl _ _)
set_option maxHeartbeats 1000000 in
theorem inverse_any (v:Value) (q:Rat) (w:World) (h:Fr w v q) (h0:q≠0):Calls Tryz.prog 130 #[v] w (GivesFr w q⁻¹):=by
 obtain ⟨s1,s2,rfl,h1,h2⟩:=h
 obtain ⟨A1,n1,c1,rfl⟩:=h1.form
 obtain ⟨A2,n2,c2,rfl⟩:=h2.form
 have H:=aH (aI h1 (aI h2 h0))
 clear h1 h2 h0
 generalize hneg:decide (q.num<0)=neg
 have HN:=aH hneg
 clear hneg
 go_enter Tryz.func130,Tryz.ntmps130
 go_wp2
 refine bodyPost_ret (v := .agg #[.bool neg,.slice A2 n2 c2,.slice A1 n1 c1]) (by simp [results,Tryz.results130,go_sem]) rfl ⟨_,rfl,?_,?_⟩
 ·have hb:∀ o o',Below w.heap.size w ((w.alloc o).alloc o'):=fun o o'=>((Below.refl _ _).alloc (Nat.le_refl _) _).alloc (by simp) _
  refine Fr.of (Parts.inv ?_ H.out.2.2) (H.out.2.1.below (hb _ _)) (H.out.1.below (hb _ _))
  rw [← HN.out]
  exact Parts.self q
 ·repeat (first|exact Below.refl _ _|(refine Below.setCell ?_ (by first|omega|(simp;done)|(simp;omega)) _)|(refine Below.alloc ?_ (by first|omega|(simp;done)|(simp;omega)) _)|(refine Below.drew ?_)|exact Below.refl _ _)
theorem Base.extT {K:Value→Bool} {b:Nat} {w0 w:World} {o:Obj} (h:Base [b] w0 w) (h0:w0.heap[b]?=some o) (hc:hotObj K o=false):Ext K w0 w:=by
 refine ⟨h.size,fun g o' hg ho=>?_⟩
 by_cases e:g=b
 ·subst e
  rw [h0] at hg
  injection hg with hg
  subst hg
  rw [hc] at ho
  cases ho
 ·rw [h.block g (lt_of_block hg) (by simpa using e)];exact hg
theorem Base.belowT {b:Nat} {w w1 w2:World} (h:Base [b] w1 w2) (hb:Below w.heap.size w w1) (hlt:w.heap.size≤b):Below w.heap.size w w2 :=
 hb.trans ⟨h.os,h.tape,h.output,h.size,fun k hk=>h.block k (Nat.lt_of_lt_of_le hk hb.size) (by simp;omega)⟩
theorem dS (z:Int) {d:Nat} (hd:d≠0):(mkRat z d).num.natAbs≤z.natAbs∧(mkRat z d).den≤d:=by
 obtain ⟨h1,h2⟩:=tA z hd
 refine ⟨?_,Nat.le_of_dvd (by omega) h2⟩
 rcases Nat.eq_zero_or_pos z.natAbs with h|h
 ·have:z=0:=by omega
  subst this
  rw [Rat.zero_mkRat]
  exact Nat.le_refl _
 ·exact Nat.le_of_dvd h h1
theorem Lf.mono {k l:Nat} {q:Rat} (h:Lf k q) (hk:k≤l):Lf l q:=⟨h.1.mono hk,h.2.mono hk⟩
theorem Lf.mul {k:Nat} {p q:Rat} (hp:Lf k p) (hq:Lf k q):Lf (k+1) (p*q):=by
 rw [Rat.mul_def']
 obtain ⟨h1,h2⟩:=dS (p.num*q.num) (Nat.ne_of_gt (Nat.mul_pos p.den_pos q.den_pos))
 rw [Int.natAbs_mul] at h1
 exact ⟨(hp.1.mul hq.1).le h1,(hp.2.mul hq.2).le h2⟩
theorem Lf.add {k:Nat} {p q:Rat} (hp:Lf k p) (hq:Lf k q):Lf (k+2) (p+q):=by
 rw [Rat.add_def']
 obtain ⟨h1,h2⟩:=dS (p.num*q.den+q.num*p.den) (Nat.ne_of_gt (Nat.mul_pos p.den_pos q.den_pos))
 refine ⟨(Lv.add (hp.1.mul hq.2) (hq.1.mul hp.2)).le ?_,((hp.2.mul hq.2).le h2).mono (by omega)⟩
 refine Nat.le_trans h1 (Nat.le_trans (Int.natAbs_add_le _ _) ?_)
 rw [Int.natAbs_mul,Int.natAbs_mul,Int.natAbs_natCast,Int.natAbs_natCast]
 exact Nat.le_refl _
theorem Lf.neg {k:Nat} {p:Rat} (hp:Lf k p):Lf k (-p):=by
 refine ⟨?_,hp.2⟩
 rw [Rat.neg_num,Int.natAbs_neg];exact hp.1
theorem Lf.inv {k:Nat} {p:Rat} (hp:Lf k p):Lf k p⁻¹:=by
 by_cases h0:p=0
 ·subst h0;rw [Rat.inv_zero];exact hp
 ·obtain ⟨_,e1,e2⟩:=Parts.inv (Parts.self p) h0
  exact ⟨by rw [← e1];exact hp.2,by rw [← e2];exact hp.1⟩
theorem Lf.zero (k:Nat):Lf k 0:=⟨Lv.one _ bC,Lv.one _ eH⟩
theorem Lf.int {k:Nat} {z:Int} (h:Lv k z.natAbs):Lf k (z:Rat):=by
 refine ⟨?_,?_⟩
 ·rw [Rat.num_intCast];exact h
 ·rw [Rat.den_intCast];exact Lv.one _ eH
theorem eJ (w:World) (a b c:Obj):(((w.alloc a).alloc b).alloc c).heap[w.heap.size]?=some a∧(((w.alloc a).alloc b).alloc c).heap[w.heap.size+1]?=some b∧(((w.alloc a).alloc b).alloc c).heap[w.heap.size+1+1]?=some c∧Below w.heap.size w (((w.alloc a).alloc b).alloc c):=by
 have h1:Below (w.alloc a).heap.size (w.alloc a) (((w.alloc a).alloc b).alloc c):=((Below.refl _ _).alloc (Nat.le_refl _) _).alloc (by simp) _
 have h2:Below ((w.alloc a).alloc b).heap.size ((w.alloc a).alloc b) (((w.alloc a).alloc b).alloc c):=(Below.refl _ _).alloc (Nat.le_refl _) _
 refine ⟨aM h1 (heap_alloc_new w a),aM h2 ?_,?_,(((Below.refl _ _).alloc (Nat.le_refl _) _).alloc (by simp) _).alloc (by simp;omega) _⟩
 ·have:=heap_alloc_new (w.alloc a) b;simpa using this
 ·have:=heap_alloc_new ((w.alloc a).alloc b) c;simpa using this
set_option maxRecDepth 100000 in
set_option maxHeartbeats 8000000 in
theorem rK (v v' : Value) (p q:Rat) (w:World) (h:Fr w v p) (h' : Fr w v' q) (hp:Lf 38 p) (hq:Lf 38 q):Calls Tryz.prog 193 #[v,v'] w (GivesFr w (p*q)):=by
 obtain ⟨s1,s2,rfl,h1,h2⟩:=h
 obtain ⟨s3,s4,rfl,h3,h4⟩:=h'
 obtain ⟨A1,n1,c1,rfl⟩:=h1.form
 obtain ⟨A2,n2,c2,rfl⟩:=h2.form
 obtain ⟨A3,n3,c3,rfl⟩:=h3.form
 obtain ⟨A4,n4,c4,rfl⟩:=h4.form
 obtain ⟨hk1,hk2,hk3,hb1⟩:=eJ w (.cells #[.bool (decide (p.num<0)),.slice A1 n1 c1,.slice A2 n2 c2] 97) (.cells #[.bool (decide (q.num<0)),.slice A3 n3 c3,.slice A4 n4 c4] 97) (.cells #[.bool false,.slice none 0 0,.slice none 0 0] 97)
 have H:=aH (aI (h1.below hb1) (aI (h2.below hb1) (aI (h3.below hb1) (aI (h4.below hb1) (aI hp (aI hq (aI hb1 (aI hk1 (aI hk2 hk3)))))))))
 clear h1 h2 h3 h4 hp hq hb1 hk1 hk2 hk3
 go_enter Tryz.func193,Tryz.ntmps193
 go_wp2
 generalize ((w.alloc (.cells #[.bool (decide (p.num<0)),.slice A1 n1 c1,.slice A2 n2 c2] 97)).alloc (.cells #[.bool (decide (q.num<0)),.slice A3 n3 c3,.slice A4 n4 c4] 97)).alloc (.cells #[.bool false,.slice none 0 0,.slice none 0 0] 97)=w1 at *
 have hA:=H.out.2.2.2.2.2.2.2.1
 have hC:=H.out.2.2.2.2.2.2.2.2.1
 obtain ⟨L,hL⟩:∃ L,L=mkRat p.num q.den:=⟨_,rfl⟩
 obtain ⟨R,hR⟩:∃ R,R=mkRat q.num p.den:=⟨_,rfl⟩
 have HLR:=aH (aI hL hR)
 have t1:∀ w',Base [] w1 w'→Calls Tryz.prog 55 #[.bool (decide (p.num<0)),.slice A1 n1 c1,.slice A4 n4 c4] w' (TyPost w' (fK L)):=fun w' hB=>by
  have:=GivesFr.ty (tG (decide (p.num<0)) p.num.natAbs q.den _ _ w' (H.out.1.below hB.below) (H.out.2.2.2.1.below hB.below) (H.out.2.2.2.2.1.1.mono (by omega)) (H.out.2.2.2.2.2.1.2.mono (by omega)) q.den_pos)
  rwa [wL,← hL] at this
 have t2:∀ w',Base [] w1 w'→Calls Tryz.prog 55 #[.bool (decide (q.num<0)),.slice A3 n3 c3,.slice A2 n2 c2] w' (TyPost w' (fK R)):=fun w' hB=>by
  have:=GivesFr.ty (tG (decide (q.num<0)) q.num.natAbs p.den _ _ w' (H.out.2.2.1.below hB.below) (H.out.2.1.below hB.below) (H.out.2.2.2.2.2.1.1.mono (by omega)) (H.out.2.2.2.2.1.2.mono (by omega)) p.den_pos)
  rwa [wL,← hR] at this
 have T1:=aH t1
 have T2:=aH t2
 clear t1 t2 hL hR
 refine wp_region_ty Ku [] (by kernel_rfl) (by kernel_rfl) ?_
 repeat (first|(apply bQ (hg:=rfl);case h=>(intro A w' hB hk;simp [known,specOf,Kd.spec,Sp.is,isVar,Oper.looksAt,Op.operands,Call.operands,Act.eval] at hk;have c_hA:=aA (hB.blk hA (by first|(simp;done)|(simp;omega)));have c_hC:=aA (hB.blk hC (by first|(simp;done)|(simp;omega)));first|(simp [go_sem,hk,c_hA,c_hC];done)|(simp [go_sem,hk,c_hA,c_hC];rfl)|(simp [go_sem,c_hA,c_hC];rfl)))|(refine aV _ ?_ (by first|exact .inl rfl|exact .inr rfl) (by rfl) (by simp [specOf,Kd.spec];rfl) ?_ rfl ?_;(first|exact Sp.is_stable _ _|exact aL (fun _=>rfl) _|exact spTwo_stable (fun _=>rfl) _ _|exact spFr_stable (fun _=>rfl) _|exact spSum_stable (fun _=>rfl) _|exact spSgn_stable _ _|exact spNb_stable (fun _=>rfl) (fun _=>rfl) _|exact spVc_stable (fun _=>rfl) (fun _=>rfl) _)))
 refine aO (fK L) (spFr_stable (fun _=>rfl) _) rfl (fun A w' hB hk=>?_) ?_;(simp [known,specOf,Kd.spec,Sp.is,isVar,Oper.looksAt,Op.operands,Call.operands,Act.eval] at hk;have c_hA:=aA (hB.blk hA (by first|(simp;done)|(simp;omega)));simp [go_sem,hk,c_hA];refine aG ?_;exact T1.out _ hB)
 repeat (first|(apply bQ (hg:=rfl);case h=>(intro A w' hB hk;simp [known,specOf,Kd.spec,Sp.is,isVar,Oper.looksAt,Op.operands,Call.operands,Act.eval] at hk;have c_hA:=aA (hB.blk hA (by first|(simp;done)|(simp;omega)));have c_hC:=aA (hB.blk hC (by first|(simp;done)|(simp;omega)));first|(simp [go_sem,hk,c_hA,c_hC];done)|(simp [go_sem,hk,c_hA,c_hC];rfl)|(simp [go_sem,c_hA,c_hC];rfl)))|(refine aV _ ?_ (by first|exact .inl rfl|exact .inr rfl) (by rfl) (by simp [specOf,Kd.spec];rfl) ?_ rfl ?_;(first|exact Sp.is_stable _ _|exact aL (fun _=>rfl) _|exact spTwo_stable (fun _=>rfl) _ _|exact spFr_stable (fun _=>rfl) _|exact spSum_stable (fun _=>rfl) _|exact spSgn_stable _ _|exact spNb_stable (fun _=>rfl) (fun _=>rfl) _|exact spVc_stable (fun _=>rfl) (fun _=>rfl) _)))
 refine aO (fK R) (spFr_stable (fun _=>rfl) _) rfl (fun A w' hB hk=>?_) ?_;(simp [known,specOf,Kd.spec,Sp.is,isVar,Oper.looksAt,Op.operands,Call.operands,Act.eval] at hk;have c_hA:=aA (hB.blk hA (by first|(simp;done)|(simp;omega)));simp [go_sem,hk,c_hA];refine aG ?_;exact T2.out _ hB)
 (apply aAg (hg:=rfl) (hd:=rfl);(case h=>(intro A w';simp [go_sem];rfl));(case hc=>simp [hotObj,Ku,Kn]))
 (apply aAg (hg:=rfl) (hd:=rfl);(case h=>(intro A w';simp [go_sem];rfl));(case hc=>simp [hotObj,Ku,Kn]))
 refine aAh 5 ((.cells #[.bool false,.slice none 0 0,.slice none 0 0] 97 (0,0))) (coFr L) (kE (fun _=>rfl) _) rfl rfl (by simp [Oper.looksAt,Op.operands]) (by simp) (fun A w' b hB hk hd h0=>?_) ?_;(simp [known,specOf,Kd.spec,Sp.is,isVar,Oper.looksAt,Op.operands,Call.operands,Act.eval] at hk;simp [Act.eval] at hd;have c_hA:=aA (hB.blk hA (by first|(simp;done)|(simp;omega)));have c0:=aA h0;have f0:=aW h0;obtain ⟨k1,z1,z2,k2,k3,k4⟩:=hk;obtain ⟨B1,m1,e1,rfl⟩:=k3.form;obtain ⟨B2,m2,e2,rfl⟩:=k4.form;simp [go_sem,hd,k2,c0,f0];exact ⟨_,eI h0 _ _ _,_,_,rfl,k3,k4⟩)
 refine aAh 6 ((.cells #[.bool false,.slice none 0 0,.slice none 0 0] 97 (0,0))) (coFr R) (kE (fun _=>rfl) _) rfl rfl (by simp [Oper.looksAt,Op.operands]) (by simp) (fun A w' b hB hk hd h0=>?_) ?_;(simp [known,specOf,Kd.spec,Sp.is,isVar,Oper.looksAt,Op.operands,Call.operands,Act.eval] at hk;simp [Act.eval] at hd;have c_hA:=aA (hB.blk hA (by first|(simp;done)|(simp;omega)));have c0:=aA h0;have f0:=aW h0;obtain ⟨k1,z1,z2,k2,k3,k4⟩:=hk;obtain ⟨B1,m1,e1,rfl⟩:=k3.form;obtain ⟨B2,m2,e2,rfl⟩:=k4.form;simp [go_sem,hd,k2,c0,f0];exact ⟨_,eI h0 _ _ _,_,_,rfl,k3,k4⟩)
 refine ⟨by first|rfl|decide,fun f w2 hB hF hAp=>?_⟩;simp [Final1,Sp.is,isVar] at hF;simp only [frameOf]
 have h56:=hAp 5 6 (.cells #[.bool false,.slice none 0 0,.slice none 0 0] 97 (0,0)) (.cells #[.bool false,.slice none 0 0,.slice none 0 0] 97 (0,0)) (by simp) (by simp) (by decide)
 obtain ⟨b6,e6,l6,_,o6,⟨x1,x2,rfl,y1,y2⟩,ho6⟩:=hF.1
 obtain ⟨b5,e5,l5,_,o5,⟨x3,x4,rfl,y3,y4⟩,ho5⟩:=hF.2.1
 have hF2:=hF.2.2
 have hb56:b5≠b6:=fun e=>h56 (by rw [e5,e6,e])
 obtain ⟨X1,g1,d1,rfl⟩:=y1.form
 obtain ⟨X2,g2,d2,rfl⟩:=y2.form
 obtain ⟨X3,g3,d3,rfl⟩:=y3.form
 obtain ⟨X4,g4,d4,rfl⟩:=y4.form
 clear hF hAp h56
 obtain ⟨⟨r50,r51,r52⟩,_⟩:=dN ho5
 obtain ⟨⟨r60,r61,r62⟩,_⟩:=dN ho6
 have hres:=hB.blk H.out.2.2.2.2.2.2.2.2.2 (by simp)
 have hb2:Below w.heap.size w w2:=Below.step_trans H.out.2.2.2.2.2.2.1 hB.below
 have M:=aH (aI y1 (aI y2 (aI y3 (aI y4 (aI ho5 (aI ho6 (aI hres (aI hb2 (aI l5 (aI l6 hb56))))))))))
 have HE:=aH (aI e5 e6)
 clear y1 y2 y3 y4 ho5 ho6 hres hb2 hB l5 l6 hb56
 have hlv:Lf 38 L∧Lf 38 R:=by
  obtain ⟨hL,hR⟩:=HLR.out
  obtain ⟨m1,m2⟩:=dS p.num q.den_nz
  obtain ⟨m3,m4⟩:=dS q.num p.den_nz
  rw [hL,hR]
  exact ⟨⟨H.out.2.2.2.2.1.1.le m1,H.out.2.2.2.2.2.1.2.le m2⟩,⟨H.out.2.2.2.2.2.1.1.le m3,H.out.2.2.2.2.1.2.le m4⟩⟩
 have HLV:=aH hlv
 clear hlv
 have zeroOut:∀ (v:Value) (w3:World),p*q=0→Fr w3 v 0→Fr w3 v (p*q):=fun v w3 h hf=>by rw [h];exact hf
 have ZO:=aH zeroOut
 clear zeroOut
 by_cases z5:L.num.natAbs=0
 ·have hpq:p*q=0:=by
   have:=Parts.self L
   rw [z5] at this
   rw [HLR.out.1] at this
   exact pJ this
  have hz:decide (L.num.natAbs=0)=true:=by rw [decide_eq_true_eq];exact z5
  clear z5
  go_wp2_with fail
  refine (dO M.out.2.2.1).mono ?_
  rintro e w' ⟨rfl,rfl⟩
  rw [hz]
  clear hz
  have HZ:=aH hpq
  clear hpq
  go_wp2_with fail
  refine (rJ _).mono ?_
  rintro e w3 ⟨v1,rfl,⟨s1,s2,rfl,q1,q2⟩,b1⟩
  obtain ⟨E1,k1,m1,rfl⟩:=q1.form
  obtain ⟨E2,k2,m2,rfl⟩:=q2.form
  have hk:=aM b1 M.out.2.2.2.2.2.2.1
  obtain ⟨⟨h0,h1,h2⟩,f0,f1,f2⟩:=dN hk
  have Q:=aH (aI q1 (aI q2 (aI b1 hk)))
  clear q1 q2 b1 hk
  go_wp2
  refine bodyPost_ret (v := .agg #[.bool (decide ((0:Rat).num<0)),.slice E1 k1 m1,.slice E2 k2 m2]) (by simp [results,Tryz.results193,go_sem,h0,h1,h2]) rfl ⟨_,rfl,?_,?_⟩
  ·exact ZO.out _ _ HZ.out (Fr.ext (K:=Ku) (fun _=>rfl) ⟨_,_,rfl,Q.out.1,Q.out.2.1⟩ (Ext.only (pP _ _ _ _ _) Q.out.2.2.2 (by simp [hotObj,Ku])))
  ·repeat (first|exact (Below.step_trans M.out.2.2.2.2.2.2.2.1 Q.out.2.2.1)|(refine Below.setCell ?_ (by first|omega|(simp;done)|(simp;omega)) _)|(refine Below.alloc ?_ (by first|omega|(simp;done)|(simp;omega)) _)|(refine Below.drew ?_)|exact Below.refl _ _)
 ·have hz:decide (L.num.natAbs=0)=false:=by rw [decide_eq_false_iff_not];exact z5
  have HZ5:=aH z5
  clear z5
  go_wp2_with fail
  refine (dO M.out.2.2.1).mono ?_
  rintro e w' ⟨rfl,rfl⟩
  rw [hz]
  clear hz
  go_wp2_with fail
  refine (dO M.out.1).mono ?_
  rintro e w' ⟨rfl,rfl⟩
  by_cases z6:R.num.natAbs=0
  ·have hpq:p*q=0:=by
    have:=Parts.self R
    rw [z6] at this
    rw [HLR.out.2] at this
    exact wO this
   have hz:decide (R.num.natAbs=0)=true:=by rw [decide_eq_true_eq];exact z6
   rw [hz]
   clear hz z6
   have HZ:=aH hpq
   clear hpq
   go_wp2_with fail
   refine (rJ _).mono ?_
   rintro e w3 ⟨v1,rfl,⟨s1,s2,rfl,q1,q2⟩,b1⟩
   obtain ⟨E1,k1,m1,rfl⟩:=q1.form
   obtain ⟨E2,k2,m2,rfl⟩:=q2.form
   have hk:=aM b1 M.out.2.2.2.2.2.2.1
   obtain ⟨⟨h0,h1,h2⟩,f0,f1,f2⟩:=dN hk
   have Q:=aH (aI q1 (aI q2 (aI b1 hk)))
   clear q1 q2 b1 hk
   go_wp2
   refine bodyPost_ret (v := .agg #[.bool (decide ((0:Rat).num<0)),.slice E1 k1 m1,.slice E2 k2 m2]) (by simp [results,Tryz.results193,go_sem,h0,h1,h2]) rfl ⟨_,rfl,?_,?_⟩
   ·exact ZO.out _ _ HZ.out (Fr.ext (K:=Ku) (fun _=>rfl) ⟨_,_,rfl,Q.out.1,Q.out.2.1⟩ (Ext.only (pP _ _ _ _ _) Q.out.2.2.2 (by simp [hotObj,Ku])))
   ·repeat (first|exact (Below.step_trans M.out.2.2.2.2.2.2.2.1 Q.out.2.2.1)|(refine Below.setCell ?_ (by first|omega|(simp;done)|(simp;omega)) _)|(refine Below.alloc ?_ (by first|omega|(simp;done)|(simp;omega)) _)|(refine Below.drew ?_)|exact Below.refl _ _)
  ·have hz:decide (R.num.natAbs=0)=false:=by rw [decide_eq_false_iff_not];exact z6
   rw [hz]
   have HZ6:=aH z6
   clear hz z6
   have hpar:Parts (p*q) (decide (L.num<0) != decide (R.num<0)) (L.num.natAbs*R.num.natAbs) (L.den*R.den):=by
    have h1:=HLR.out.1
    have h2:=HLR.out.2
    have h3:=HZ5.out
    have h4:=HZ6.out
    rw [h1,h2] at *
    exact Parts.mul (Parts.self _) (Parts.self _) h3 h4
   have HP:=aH hpar
   generalize decide (L.num<0)=nl at *
   generalize decide (R.num<0)=nr at *
   have hA5:=M.out.2.2.2.2.1
   have hA6:=M.out.2.2.2.2.2.1
   have hR0:=M.out.2.2.2.2.2.2.1
   have t1:∀ w',Base [w.heap.size+1+1] w2 w'→Calls Tryz.prog 119 #[.slice X3 g3 d3,.slice X1 g1 d1] w' (TyPost w' (jQ (L.num.natAbs*R.num.natAbs))):=fun w' hB =>
    GivesNt.ty (iJ (Nt.ext (K:=Ku) (fun _=>rfl) M.out.2.2.1 (hB.extT M.out.2.2.2.2.2.2.1 (by simp [hotObj,Ku]))) (Nt.ext (K:=Ku) (fun _=>rfl) M.out.1 (hB.extT M.out.2.2.2.2.2.2.1 (by simp [hotObj,Ku]))) (HLV.out.1.1.mono (by omega)) (HLV.out.2.1.mono (by omega)))
   have t2:∀ w',Base [w.heap.size+1+1] w2 w'→Calls Tryz.prog 119 #[.slice X4 g4 d4,.slice X2 g2 d2] w' (TyPost w' (jQ (L.den*R.den))):=fun w' hB =>
    GivesNt.ty (iJ (Nt.ext (K:=Ku) (fun _=>rfl) M.out.2.2.2.1 (hB.extT M.out.2.2.2.2.2.2.1 (by simp [hotObj,Ku]))) (Nt.ext (K:=Ku) (fun _=>rfl) M.out.2.1 (hB.extT M.out.2.2.2.2.2.2.1 (by simp [hotObj,Ku]))) (HLV.out.1.2.mono (by omega)) (HLV.out.2.2.mono (by omega)))
   have T3:=aH t1
   have T4:=aH t2
   clear t1 t2 hpar
   have hne5:b5≠w.heap.size+1+1:=by
    have:=M.out.2.2.2.2.2.2.2.2.1
    have:=lt_of_block H.out.2.2.2.2.2.2.2.2.2
    omega
   have hne6:b6≠w.heap.size+1+1:=by
    have:=M.out.2.2.2.2.2.2.2.2.2.1
    have:=lt_of_block H.out.2.2.2.2.2.2.2.2.2
    omega
   go_wp2_with fail
   refine wp_region_ty Ku [w.heap.size+1+1] (by kernel_rfl) (by kernel_rfl) ?_
   repeat (first|(apply bQ (hg:=rfl);case h=>(intro A w' hB hk;simp [known,specOf,Kd.spec,Sp.is,isVar,Oper.looksAt,Op.operands,Call.operands,Act.eval] at hk;have c_hA5:=aA (hB.blk hA5 (by first|(simp;done)|(simp;omega)));have c_hA6:=aA (hB.blk hA6 (by first|(simp;done)|(simp;omega)));first|(simp [go_sem,hk,c_hA5,c_hA6];done)|(simp [go_sem,hk,c_hA5,c_hA6];rfl)|(simp [go_sem,c_hA5,c_hA6];rfl)))|(refine aV _ ?_ (by first|exact .inl rfl|exact .inr rfl) (by rfl) (by simp [specOf,Kd.spec];rfl) ?_ rfl ?_;(first|exact Sp.is_stable _ _|exact aL (fun _=>rfl) _|exact spTwo_stable (fun _=>rfl) _ _|exact spFr_stable (fun _=>rfl) _|exact spSum_stable (fun _=>rfl) _|exact spSgn_stable _ _|exact spNb_stable (fun _=>rfl) (fun _=>rfl) _|exact spVc_stable (fun _=>rfl) (fun _=>rfl) _)))
   refine aO (jQ (L.num.natAbs*R.num.natAbs)) (aL (fun _=>rfl) _) rfl (fun A w' hB hk=>?_) ?_;(simp [known,specOf,Kd.spec,Sp.is,isVar,Oper.looksAt,Op.operands,Call.operands,Act.eval] at hk;have c_hA5:=aA (hB.blk hA5 (by first|(simp;done)|(simp;omega)));have c_hA6:=aA (hB.blk hA6 (by first|(simp;done)|(simp;omega)));simp [go_sem,hk,c_hA5,c_hA6];refine aG ?_;exact T3.out _ hB)
   repeat (first|(apply bQ (hg:=rfl);case h=>(intro A w' hB hk;simp [known,specOf,Kd.spec,Sp.is,isVar,Oper.looksAt,Op.operands,Call.operands,Act.eval] at hk;have c_hA5:=aA (hB.blk hA5 (by first|(simp;done)|(simp;omega)));have c_hA6:=aA (hB.blk hA6 (by first|(simp;done)|(simp;omega)));first|(simp [go_sem,hk,c_hA5,c_hA6];done)|(simp [go_sem,hk,c_hA5,c_hA6];rfl)|(simp [go_sem,c_hA5,c_hA6];rfl)))|(refine aV _ ?_ (by first|exact .inl rfl|exact .inr rfl) (by rfl) (by simp [specOf,Kd.spec];rfl) ?_ rfl ?_;(first|exact Sp.is_stable _ _|exact aL (fun _=>rfl) _|exact spTwo_stable (fun _=>rfl) _ _|exact spFr_stable (fun _=>rfl) _|exact spSum_stable (fun _=>rfl) _|exact spSgn_stable _ _|exact spNb_stable (fun _=>rfl) (fun _=>rfl) _|exact spVc_stable (fun _=>rfl) (fun _=>rfl) _)))
   refine aO (jQ (L.den*R.den)) (aL (fun _=>rfl) _) rfl (fun A w' hB hk=>?_) ?_;(simp [known,specOf,Kd.spec,Sp.is,isVar,Oper.looksAt,Op.operands,Call.operands,Act.eval] at hk;have c_hA5:=aA (hB.blk hA5 (by first|(simp;done)|(simp;omega)));have c_hA6:=aA (hB.blk hA6 (by first|(simp;done)|(simp;omega)));simp [go_sem,hk,c_hA5,c_hA6];refine aG ?_;exact T4.out _ hB)
   refine aO (fK (p*q)) (spFr_stable (fun _=>rfl) _) rfl (fun A w' hB hk=>?_) ?_;(simp [known,specOf,Kd.spec,Sp.is,isVar,Oper.looksAt,Op.operands,Call.operands,Act.eval] at hk;have c_hA5:=aA (hB.blk hA5 (by first|(simp;done)|(simp;omega)));obtain ⟨k1,k2,k3⟩:=hk;obtain ⟨B1,m1,u1,e1⟩:=(show Nt _ _ _ from k2).form;obtain ⟨B2,m2,u2,e2⟩:=(show Nt _ _ _ from k3).form;rw [e1] at k2;rw [e2] at k3;simp [go_sem,k1,e1,e2];refine iZ ?_;exact Fr.of HP.out k2 k3)
   refine gR (w.heap.size+1+1) (_) (coFr (p*q)) (kE (fun _=>rfl) _) rfl rfl (by simp) (by assumption) (by simp [hotObj,Ku,Kn]) (fun A w' hB hk h0=>?_) ?_;(simp [known,specOf,Kd.spec,Sp.is,isVar,Oper.looksAt,Op.operands,Call.operands,Act.eval] at hk;have c_hA5:=aA (hB.blk hA5 (by first|(simp;done)|(simp;omega)));have c0:=aA h0;have f0:=aW h0;obtain ⟨k1,z1,z2,k2,k3,k4⟩:=hk;obtain ⟨B1,m1,e1,rfl⟩:=k3.form;obtain ⟨B2,m2,e2,rfl⟩:=k4.form;simp [go_sem,k1,k2,c0,f0];exact ⟨_,eI h0 _ _ _,_,_,rfl,k3,k4⟩)
   refine ⟨by first|rfl|decide,fun f w2 hB hF hAp=>?_⟩;simp [Final1,Sp.is,isVar] at hF;simp only [frameOf]
   obtain ⟨o,⟨s1,s2,rfl,k3,k4⟩,ho⟩:=hF.1
   obtain ⟨B1,m1,u1,rfl⟩:=k3.form
   obtain ⟨B2,m2,u2,rfl⟩:=k4.form
   obtain ⟨⟨r0,r1,r2⟩,_⟩:=dN ho
   have K:=aH (aI k3 (aI k4 hB))
   clear k3 k4 hB ho hA5 hA6 hAp
   go_wp2
   refine bodyPost_ret (v := .agg #[.bool (decide ((p*q).num<0)),.slice B1 m1 u1,.slice B2 m2 u2]) (by simp [results,Tryz.results193,go_sem,r0,r1,r2]) rfl ⟨_,rfl,⟨_,_,rfl,K.out.1,K.out.2.1⟩,?_⟩
   exact Base.belowT K.out.2.2 M.out.2.2.2.2.2.2.2.1 (by omega)
end Go.Proofs.YtejbgingjeedaaaGreatDoor
