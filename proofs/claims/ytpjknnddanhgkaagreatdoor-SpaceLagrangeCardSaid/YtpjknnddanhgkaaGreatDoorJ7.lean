/- Parts of the proof, joined. -/
import Derived.Test.YtpjknnddanhgkaaGreatDoorJ6
import Derived.Deep.LoopGhost
import Derived.RangeFuncNested
import Derived.RangeFuncBound
import Derived.RangeFuncCalls
import Derived.RangeFuncLeaves
import Derived.Shelf.Abstract
import Derived.Shelf.RegionOpen
import Derived.WalkKit
import Derived.OwnWalkIn
import Derived.TacticsInMore
import Derived.LoopNIn
import Derived.LoopIn
import Derived.KernelRfl
import Derived.Test.YtpjknnddanhgkaaGreatDoorProg
import Derived.Laws.Tables
import Derived.Laws.CopyOwn
set_option maxHeartbeats 4000000
set_option linter.unusedSimpArgs false
set_option linter.unusedVariables false
set_option linter.constructorNameAsVariable false
namespace Go.Proofs.YtpjknnddanhgkaaGreatDoor
section
open Go.RowKit Pl
theorem Below.step_trans' {w0 w w' : World} (h:Below w0.heap.size w0 w) (h' : Below w.heap.size w w'):Below w0.heap.size w0 w':=h.trans (h'.mono h.size)
theorem fac_facts {y:Nat} (hy:y<1000000000) (hy0:0<y):∃ f:Nat,(1000000000:Int)/((y:Int)+1)=(f:Int)∧(f:Int)≤999999999∧0<f∧f<1000000000∧f*(y+1)≤B9:=by
 refine ⟨1000000000/(y+1),?_,?_,?_,?_,?_⟩
 ·simp
 ·have:1000000000/(y+1)<1000000000:=(Nat.div_lt_iff_lt_mul (by omega)).2 (by omega)
  omega
 ·exact Nat.div_pos (by omega) (by omega)
 ·exact (Nat.div_lt_iff_lt_mul (by omega)).2 (by omega)
 ·exact Nat.div_mul_le_self _ _
theorem takeFacts {x v t bo:Nat} (bx:x<1000000000) (bv:v<1000000000) (bt:t<1000000000) (bb:bo≤1000000000):∃ P p r e:Nat,(t:Int)*(v:Int)=(P:Int)∧0≤(t:Int)*(v:Int)∧(t:Int)*(v:Int)≤1000000000000000000 ∧
 (p:Int)=(t:Int)*(v:Int)+bo∧p=t*v+bo∧r<B9∧p/B9+e≤B9∧r+p%B9=x+B9*e ∧
 ((((t:Int)*(v:Int)+bo)%1000000000≤x∧(x:Int)-((t:Int)*(v:Int)+bo)%1000000000=(r:Int)∧e=0)∨((x:Int)<((t:Int)*(v:Int)+bo)%1000000000∧(x:Int)-((t:Int)*(v:Int)+bo)%1000000000+1000000000=(r:Int)∧e=1)):=by
 have h1:t*v≤999999999*999999999:=Nat.mul_le_mul (by omega) (by omega)
 have h2:(t:Int)*(v:Int)=((t*v:Nat):Int):=by simp
 rw [h2,cE]
 generalize t*v=P at *
 by_cases hc:(P+bo)%1000000000≤x
 ·exact ⟨P,P+bo,x-(P+bo)%1000000000,0,by omega,by omega,by omega,by omega,rfl,by omega,by omega,by omega,.inl ⟨by omega,by omega,rfl⟩⟩
 ·exact ⟨P,P+bo,x+1000000000-(P+bo)%1000000000,1,by omega,by omega,by omega,by omega,rfl,by omega,by omega,by omega,.inr ⟨by omega,by omega,rfl⟩⟩
theorem yD (xs:List Nat) (i:Nat):(sK xs).set i 0=sK (xs.set i 0):=by simp [List.map_set]
theorem back_ok {u v ul T h t x bor cy wv:Nat} (hu:u=ul+T*h) (hx:x+t*v=ul+T*bor) (k1:t=u/v+1) (k2:u%v+T=x+v) (hb:wv+T*cy=x+v) (hw:wv<T) (hvT:v≤T) (hv:0<v) (hcy:cy≤1):wv=u%v∧cy=1∧bor=h+1:=by
 have hdm:=Nat.div_add_mod u v
 have hm:=Nat.mod_lt u hv
 generalize u/v=q at *
 generalize u%v=r at *
 have hc:cy=1:=by
  rcases Nat.eq_zero_or_pos cy with e|e
  ·subst e;omega
  ·omega
 subst hc
 refine ⟨by omega,rfl,?_⟩
 subst k1
 have e1:(q+1)*v=v*q+v:=by grind
 have e2:T*bor=T*(h+1):=by rw [Nat.mul_add,Nat.mul_one];omega
 exact Nat.eq_of_mul_eq_mul_left (by omega) e2
theorem put_put9 {ys zs ws:List Nat} {o:Nat} (h:o+ws.length≤ys.length) (hl:zs.length≤ws.length):put (put ys o zs) o ws=put ys o ws:=by
 have e1:(put ys o zs).take o=ys.take o:=rW (by omega)
 have e2:(put ys o zs).drop o=zs++ys.drop (o+zs.length):=vD (by omega)
 have e3:(put ys o zs).drop (o+ws.length)=ys.drop (o+ws.length):=by
  rw [← List.drop_drop,e2,List.drop_append,List.drop_of_length_le (by omega),List.nil_append,List.drop_drop]
  congr 1
  omega
 show (put ys o zs).take o++(ws++(put ys o zs).drop (o+ws.length))=_
 rw [e1,e3]
 rfl
set_option maxRecDepth 1000000 in
theorem divLong_any (A:Option Addr) (n c:Nat) (xs:List Nat) (A' : Option Addr) (n' c' : Nat) (ys:List Nat) (w:World) (h:Ri w A n c xs) (h' : Ri w A' n' c' ys)
 (hd:Dig B9 xs) (hd' : Dig B9 ys) (hx:Norm xs) (hy:Norm ys) (hn:n≤1099511627776) (hn2:2≤n') (hge:val B9 ys≤val B9 xs) :
 Calls Tryz.prog 103 #[.slice A n c,.slice A' n' c'] w (wC w (val B9 xs/val B9 ys) (val B9 xs%val B9 ys)):=by
 have hnc:n≤c:=h.cap
 have hcm:c≤9223372036854775807:=h.2.2.1
 have hnc' : n'≤c':=h'.cap
 have hcm' : c'≤9223372036854775807:=h'.2.2.1
 have hle:n'≤n:=by
  rcases Nat.lt_or_ge n n' with e|e
  ·have:=dC eE hd hy (by rw [h.len,h'.len];exact e)
   omega
  ·exact e
 obtain ⟨ad',y,hA',hblk',hyt,hcy⟩:=h'.at_ (k:=n'-1) (by omega)
 subst hA'
 have hyl:y<1000000000:=hd'.at_ hyt
 have hy0:0<y:=by
  have hne:ys≠[]:=by rintro rfl;simp at hyt
  have:=hy hne
  rw [List.getLast_eq_getElem] at this
  obtain ⟨k,ey⟩:=List.getElem?_eq_some_iff.1 hyt
  have hl:=h'.len
  simp only [hl,ey] at this
  omega
 obtain ⟨f,hf,hfb,hf0,hf1,hfy⟩:=fac_facts hyl hy0
 have hyb:(y:Int)≤999999999:=by omega
 have hc1:¬ bQ (val B9 xs) (val B9 ys)<0:=by unfold bQ;rw [if_neg (by omega)];split <;> omega
 obtain ⟨z,hz⟩:∃ z:Int,bQ (val B9 xs) (val B9 ys)=z:=⟨_,rfl⟩
 have cc:=aH (eN A n c xs (some ad') n' c' ys w h h' hd hd' hx hy)
 rw [hz] at cc hc1
 have hz0:decide (z<0)=false:=decide_eq_false hc1
 have hz1:((n' : Int)==1)=false:=by simp;omega
 have HX:=aH (aI h (aI hd (aI hx (aI hn (aI hn2 (aI hge hle))))))
 have HY:=aH (aI h' (aI hd' (aI hy (aI hyt (aI hf0 (aI hf1 hfy))))))
 have i1:(2:Int)≤n':=by omega
 have i2:(n:Int)≤1099511627776:=by omega
 have i3:(n' : Int)≤n:=by omega
 clear h h' hd hd' hx hy hn hn2 hge hle hyt hf0 hf1 hfy hyl hy0 hc1 hz
 go_enter Tryz.func103,Tryz.ntmps103
 go_wp2_with fail
 refine cc.out.mono ?_
 rintro e w0 ⟨rfl,hb0⟩
 have hcy0:=(hb0.cell (p:=ad'.add (n'-1)) (by rw [bF];exact hblk')).trans hcy
 clear hcy
 go_wp2_with fail
 have hbF:Bi (w0.alloc (.cells #[.int .i64 (f:Int)] 3)) w0.heap.size 3 [f]:=heap_alloc_new w0 _
 have hbA:Below w.heap.size w (w0.alloc (.cells #[.int .i64 (f:Int)] 3)):=hb0.alloc hb0.size _
 have hgw:w.heap.size≤w0.heap.size:=hb0.size
 generalize (w0.alloc (.cells #[.int .i64 (f:Int)] 3))=wA at *
 generalize w0.heap.size=g0 at *
 have hdF:Dig B9 [f]:=Dig.cons (by rw [cE];exact HY.out.2.2.2.2.2.1) (Dig.nil _)
 have HF:=aH (aI hbF (aI hbA (aI hgw hdF)))
 clear hbF hbA hgw hdF hb0 hcy0 hz0 hz1
 refine (kP (some ad') n' c' ys (some ⟨g0,0,none⟩) 1 1 [f] wA (HY.out.1.below HF.out.2.1) (HF.out.1.rd (by show 1≤9223372036854775807;omega)) HY.out.2.1 HF.out.2.2.2 (by omega) (by omega)).mono ?_
 rintro e w1 ⟨v,rfl,⟨Av,nv,cv,vs,rfl,hrv,hdv,hnv,hvv⟩,hb1⟩
 have hvv:val B9 vs=val B9 ys*f:=by rw [hvv];simp [val]
 obtain rfl:nv=n':=by
  have:=scaled_len HY.out.2.1 (by rw [HY.out.1.len];omega) (by rw [HY.out.1.len];exact HY.out.2.2.2.1) hdv hnv HY.out.2.2.1 hvv HY.out.2.2.2.2.1 HY.out.2.2.2.2.2.2
  rw [hrv.len,HY.out.1.len] at this
  exact this
 have hbF1:Bi w1 g0 3 [f]:=HF.out.1.below hb1 HF.out.1.lt
 have hbA1:Below w.heap.size w w1:=Below.step_trans' HF.out.2.1 hb1
 have hg01:g0<w1.heap.size:=hbF1.lt
 have hcv:cv≤9223372036854775807:=hrv.2.2.1
 have hncv:nv≤cv:=hrv.cap
 have HV:=aH (aI hrv (aI hdv (aI hnv (aI hvv (aI hbF1 (aI hbA1 hg01))))))
 clear hrv hdv hnv hvv hbF1 hbA1 hg01 hb1 hf hfb hyb cc
 go_wp2_with fail
 obtain ⟨B1,hB1⟩:∃ b,b=w1.heap.size:=⟨_,rfl⟩
 have hnil:(w1.alloc (.cells #[] 3)).heap[w1.heap.size]?=some (.cells #[] 3 (0,0)):=heap_alloc_new w1 _
 have hbN:Below w1.heap.size w1 (w1.alloc (.cells #[] 3)):=(aB _ _).alloc (aR _) _
 generalize (w1.alloc (.cells #[] 3))=wN at *
 rw [← hB1] at hnil hbN ⊢
 have HN:=aH (aI hnil (aI hbN hB1))
 clear hnil hbN hB1
 refine (kP A n c xs (some ⟨g0,0,none⟩) 1 1 [f] wN ((HX.out.1.below HV.out.2.2.2.2.2.1).below (by rw [← HN.out.2.2];exact HN.out.2.1)) ((HV.out.2.2.2.2.1.below HN.out.2.1 (by rw [HN.out.2.2];exact HV.out.2.2.2.2.2.2)).rd (by show 1≤9223372036854775807;omega)) HX.out.2.1 HF.out.2.2.2 (by omega) (by omega)).mono ?_
 rintro e w2 ⟨v2,rfl,⟨A2,m2,c2,us0,rfl,hr2,hd2,hn2,hv2⟩,hb2⟩
 have hv2:val B9 us0=val B9 xs*f:=by rw [hv2];simp [val]
 have hpos:0<val B9 xs:=by
  have h1:=HY.out.2.2.1.pos bY (l:=ys) (by rintro rfl;have:=HY.out.1.len;simp at this;omega)
  have h2:=HX.out.2.2.2.2.2.1
  omega
 have hm2:m2≤n+1:=by
  rw [← hr2.len]
  refine aV eE hn2 ?_
  rw [hv2,Nat.pow_succ]
  have h1:=bM HX.out.2.1
  rw [HX.out.1.len] at h1
  exact Nat.mul_lt_mul'' h1 (by rw [cE];exact HY.out.2.2.2.2.2.1)
 have hm0:0<m2:=by
  rcases Nat.eq_zero_or_pos m2 with e|e
  ·exfalso
   subst e
   have:us0 = []:=List.eq_nil_of_length_eq_zero hr2.len
   subst this
   have h1:0<val B9 xs*f:=Nat.mul_pos hpos HY.out.2.2.2.2.1
   rw [← hv2] at h1
   simp [val] at h1
  ·exact e
 have hNlt:B1<wN.heap.size:=(Array.getElem?_eq_some_iff.1 HN.out.1).1
 have hown:w2.ownsRow B1 3 1 (.slice (some ⟨B1,0,none⟩) 0 0) 0 ([]:List Value):=row_nil ((hb2.block B1 hNlt).trans HN.out.1) (aR _)
 have hb12:Below B1 w1 w2:=HN.out.2.1.trans (hb2.mono (Nat.le_of_lt hNlt))
 have hs2:B1≤w2.heap.size:=Nat.le_trans (Nat.le_of_lt hNlt) hb2.size
 have HU:=aH (aI hr2 (aI hd2 (aI hv2 (aI hpos (aI hm2 (aI hm0 (aI hown (aI hb12 hs2))))))))
 clear hr2 hd2 hn2 hv2 hpos hm2 hm0 hown hb12 hs2 hb2 hNlt
 go_wp2_with (at_builtin;refine wpList_src rfl _ _ rfl rfl HU.out.2.2.2.2.2.2.1 rfl HU.out.1 HU.out.2.2.2.2.2.1 (by have:=HU.out.2.2.2.2.1;omega) HU.out.2.2.2.2.2.2.2.2 ?_)
 intro v3 w3 hr3 hg3
 have hb3:Below B1 w1 w3:=HU.out.2.2.2.2.2.2.2.1.grown hg3 HU.out.2.2.2.2.2.2.2.2 (fun b hb=>by simp [Value.ownBlock] at hb;omega)
 have HR:=aH (aI hr3 hb3)
 clear hr3 hb3 hg3
 go_wp2
 go_loopw [11] (fun uv wr => ∃ (m:Nat) (zs:List Nat),wr.ownsRow B1 3 1 uv m (zs.map dT)∧0<m∧m≤n+1∧Dig B9 zs∧val B9 zs=val B9 xs*f∧Below B1 w1 wr) (fun uv _=>n+1-lenOf uv)
 case atStart=>exact ⟨m2,us0,HR.out.1,HU.out.2.2.2.2.2.1,HU.out.2.2.2.2.1,HU.out.2.1,HU.out.2.2.1,HR.out.2⟩
 case round =>
  clear HR
  obtain ⟨m,zs,hrow,hm0,hmn,hdz,hvz,hb⟩:=hrel
  have hrow':=hrow
  obtain ⟨gu,cu,rfl,hgu,hcu,how,hzl⟩:=yC hrow hm0
  by_cases hlt:m<n+1
  ·have k1:(m:Int)<(n:Int)+1:=by omega
   have HM:=aH (aI hrow' (aI hdz (aI hvz (aI hb (aI hzl hlt)))))
   have hs:B1≤wr.heap.size:=Nat.le_trans hgu (Nat.le_of_lt how.lt)
   clear hrow hrow' hdz hvz hb hlt how hgu hzl
   go_wp2_with (at_builtin;refine fP (r:=0) (B:=B1) rfl _ _ rfl rfl HM.out.1 rfl (by omega) HM.out.2.2.2.1 (aR _) hs ?_)
   intro v4 w4 hr4 hb4 _
   have hr4' : w4.ownsRow B1 3 1 v4 (m+1) ((zs ++ [0]).map dT):=by rw [List.map_append];exact hr4
   obtain ⟨g4,c4,rfl,_,_,_,_⟩:=yC hr4' (Nat.succ_pos _)
   have HQ:=aH (aI hr4' hb4)
   clear hr4'
   clear hr4 hb4
   go_wp2
   go_roundw
   case rel =>
    refine ⟨m+1,zs ++ [0],HQ.out.1,by omega,by have:=HM.out.2.2.2.2.2;omega,HM.out.2.1.app (Dig.cons bY (Dig.nil _)),?_,HQ.out.2⟩
    rw [bZ,Nat.mul_zero,Nat.add_zero];exact HM.out.2.2.1
   case measure =>
    have:=HM.out.2.2.2.2.2
    clear HQ HM
    simp [lenOf];omega
  ·obtain rfl:m=n+1:=by omega
   have hst:LongJ (val B9 vs) (val B9 xs*f) nv (n-nv+1) zs (List.replicate (n-nv+1) 0) (n-nv+1) :=
    LongJ.start hdz hzl hvz rfl (by have:=bM HX.out.2.1;rwa [HX.out.1.len] at this) HV.out.2.2.2.1 HY.out.2.2.2.2.1
     (by have:=HY.out.2.2.1.ge (B:=B9) (l:=ys) (by rintro rfl;have:=HY.out.1.len;simp at this;omega);rwa [HY.out.1.len] at this) HX.out.2.2.2.2.2.2 (by omega)
   have k1:¬ ((n+1:Nat):Int)<(n:Int)+1:=by omega
   have HM:=aH (aI hst (aI how (aI hb (aI hgu hcu))))
   clear hst how hb hgu hrow hrow' hdz hvz hzl hlt hmn hm0
   obtain ⟨i0,hi,hz0,hz1,hz2⟩:=info_parts gR
   have HI:=aH (aI hi (aI hz0 (aI hz1 hz2)))
   clear hi hz0 hz1 hz2
   go_wp2_with (at_make;refine wpList_make_full _ rfl _ _ 82 rfl wr.heap.size 3 i0 (.int .i64 0) 1 Tryz.underlying82 HI.out.1 HI.out.2.1 HI.out.2.2.1 _ _ _ _ (n-nv+1) rfl rfl ?b0 ?b1 ?b2 ?b3 (aR _) ?_)
   case b0=>omega
   case b1=>omega
   case b2=>rw [HI.out.2.2.2];omega
   case b3=>show n-nv+1≤9223372036854775807;omega
   intro w5 hown5 hg5
   have hblk:=pP hown5
   have hb5:Below B1 w1 w5:=HM.out.2.2.1.grown hg5 (Nat.le_trans HM.out.2.2.2.1 (Nat.le_of_lt HM.out.2.1.lt)) (fun b hb=>by cases hb)
   have how5:Ow w5 gu cu (sK zs):=HM.out.2.1.grown hg5 (by simp)
   have hguq:gu<wr.heap.size:=HM.out.2.1.lt
   obtain ⟨gq,hgq⟩:∃ g,g=wr.heap.size:=⟨_,rfl⟩
   rw [← hgq] at hblk hguq ⊢
   obtain ⟨L,hL⟩:∃ L,L=n-nv+1:=⟨_,rfl⟩
   have hLi:(L:Int)=(n:Int)-nv+1:=by omega
   have hLn:L+nv=n+1:=by omega
   have hgu1:=HM.out.2.2.2.1
   have hcu:=HM.out.2.2.2.2
   rw [← hL] at hblk ⊢
   have hst:=HM.out.1
   rw [← hL] at hst
   have HS:=aH (aI hst (aI hblk (aI how5 (aI hb5 (aI hguq (aI hgu1 (aI hLn hcu)))))))
   clear hst hblk how5 hb5 hguq hgu1 hgq hown5 hg5 hL HM k1 hLn
   clear HU
   go_wp2
   go_loopw [13] (fun jv wr => ∃ (k:Nat) (us qs:List Nat),k≤L∧jv = .int .i64 ((k:Int)-1)∧LongJ (val B9 vs) (val B9 xs*f) nv L us qs k∧Bi wr gq 3 qs∧Ow wr gu cu (sK us)∧Below B1 w1 wr) (fun jv _=>(intOf jv+1).toNat)
   case atStart=>exact ⟨L,zs,_,aR _,by go_num,HS.out.1,HS.out.2.1,HS.out.2.2.1,HS.out.2.2.2.1⟩
   case round =>
    obtain ⟨k,us,qs,hk,rfl,hinv,hbq,hou,hbw⟩:=hrel
    rcases Nat.eq_zero_or_pos k with rfl|hk0
    ·obtain ⟨f1,f2,f3⟩:=hinv.finish HV.out.2.2.2.1 (HY.out.2.2.1.pos bY (l:=ys) (by rintro rfl;have:=HY.out.1.len;simp at this;omega)) HY.out.2.2.2.2.1
     have hul:us.length=n+1:=by rw [hinv.2.1];exact HS.out.2.2.2.2.2.2.1
     have hql:qs.length=L:=hinv.2.2.2.1
     have hru:Ri wr (some ⟨gu,0,none⟩) (n+1) cu us:=by have:=hou.rd HS.out.2.2.2.2.2.2.2;rwa [hul] at this
     have hrq:Ri wr (some ⟨gq,0,none⟩) L L qs:=by have:=hbq.rd (by rw [hql];show L≤9223372036854775807;omega);rwa [hql] at this
     have hcap:n+1≤cu:=hru.cap
     have hcap2:nv≤cu:=by omega
     have hVle:val B9 vs≤B9^nv:=by have:=bM HV.out.2.1;rw [HV.out.1.len] at this;exact Nat.le_of_lt this
     have htk:val B9 (us.take nv)=val B9 us:=by
      have e:=dS B9 us nv (by omega)
      rcases Nat.eq_zero_or_pos (val B9 (us.drop nv)) with e2|e2
      ·rw [e2] at e;omega
      ·exfalso
       have:B9^nv*1≤B9^nv*val B9 (us.drop nv):=Nat.mul_le_mul_left _ e2
       omega
     have hbF:Bi wr g0 3 [f]:=HV.out.2.2.2.2.1.below (by rw [← HN.out.2.2];exact hbw) HV.out.2.2.2.2.2.2
     have hcf:wr.cell? ⟨g0,0,none⟩=some (.int .i64 (f:Int)):=hbF.cell rfl
     have hbw0:Below w.heap.size w wr:=Below.step_trans' HV.out.2.2.2.2.2.1 (by rw [← HN.out.2.2];exact hbw)
     have HZ:=aH (aI f1 (aI f2 (aI hinv.1 (aI hinv.2.2.1 (aI (hru.take (k:=nv) (by omega)) (aI hrq (aI htk (aI hbF hbw0))))))))
     have HZ2:=aH (show val B9 us<B9^(n+1) by have:=bM hinv.1;rwa [hul] at this)
     clear f1 f2 f3 hinv hul hql hru hrq hVle htk hbF hbw0 hbq hou hbw hk
     simp only [show (((0:Nat):Int)-1) = -1 from rfl]
     have ct:=aH (fun W (hB:Below wr.heap.size wr W)=>lS (some ⟨gu,0,none⟩) nv cu (us.take nv) W (HZ.out.2.2.2.2.1.below hB) (HZ.out.2.2.1.take nv))
     have cd:=aH (fun W A3 k3 c3 ys3 (hr:Ri W A3 k3 c3 ys3) (hd:Dig B9 ys3) (hk:k3≤2199023255552)=>qP A3 k3 c3 ys3 f W hr hd hk HY.out.2.2.2.2.1 HY.out.2.2.2.2.2.1)
     go_wp2
     go_region_with (first|(go_at_call 158;refine (ct.out _ (by repeat (first|exact aB _ _|refine Below.drew ?_))).mono ?_;rintro e w9 ⟨⟨v9,rfl,A3,k3,c3,ys3,rfl,hr3,hd3,hn3,hv3⟩,rfl⟩;have H3:=aH (aI hr3 (aI hd3 (aI hn3 hv3)));clear hr3 hd3 hn3 hv3)|(go_at_call 157;refine (cd.out _ _ _ _ _ H3.out.1 H3.out.2.1 (by have h1:=aV eE H3.out.2.2.1 (L:=n+1) (by rw [H3.out.2.2.2,HZ.out.2.2.2.2.2.2.1];exact HZ2.out);rw [H3.out.1.len] at h1;omega)).mono ?_;rintro e w10 ⟨v10,rfl,hv10,hb10⟩;have H10:=aH (aI hv10 hb10);clear hv10 hb10))
     all_goals
      have hbd:Below wr.heap.size wr w10:=Below.step_trans' (w:=wr.drew) (Below.drew (aB _ _)) H10.out.2
      have hvm:val B9 ys3/f=val B9 xs%val B9 ys:=by
       rw [H3.out.2.2.2,HZ.out.2.2.2.2.2.2.1,HZ.out.2.1]
       exact Nat.mul_div_cancel _ HY.out.2.2.2.2.1
      have hq10:Ri w10 (some ⟨gq,0,none⟩) L L qs:=HZ.out.2.2.2.2.2.1.below hbd
      have HL:=aH (aI hbd (aI hvm hq10))
      clear hbd hvm hq10
      go_wp2_with (go_at_call 158;refine (lS _ _ _ qs _ HL.out.2.2 HZ.out.2.2.2.1).mono ?_;rintro e w11 ⟨⟨v11,rfl,hv11⟩,rfl⟩)
      go_ret2
      exact ⟨v11,v10,rfl,by rw [← HZ.out.1];exact hv11,by rw [← HL.out.2.1];exact H10.out.1,Below.step_trans' HZ.out.2.2.2.2.2.2.2.2 HL.out.1⟩
    ·obtain ⟨j,rfl⟩:∃ m,k=m+1:=⟨k-1,by omega⟩
     have hul:us.length=n+1:=by rw [hinv.2.1];exact HS.out.2.2.2.2.2.2.1
     have hVle:val B9 vs≤B9^nv:=by have:=bM HV.out.2.1;rw [HV.out.1.len] at this;exact Nat.le_of_lt this
     have hwin:=hinv.window (by omega) hVle
     have hrv:Ri wr Av nv cv vs:=HV.out.1.below (by rw [← HN.out.2.2];exact hbw)
     have hru:Ri wr (some ⟨gu,0,none⟩) (n+1) cu us:=by have:=hou.rd HS.out.2.2.2.2.2.2.2;rwa [hul] at this
     have hjn:j+nv<n+1:=by have:=HS.out.2.2.2.2.2.2.1;omega
     obtain ⟨p2,hp2⟩:∃ p,nv=p+2:=⟨nv-2,by omega⟩
     obtain ⟨d0,hd0⟩:∃ y,us[j+(p2+2)]?=some y:=⟨_,List.getElem?_eq_getElem (by omega)⟩
     obtain ⟨d1,hd1⟩:∃ y,us[j+(p2+1)]?=some y:=⟨_,List.getElem?_eq_getElem (by omega)⟩
     obtain ⟨d2,hd2⟩:∃ y,us[j+p2]?=some y:=⟨_,List.getElem?_eq_getElem (by omega)⟩
     obtain ⟨fv,hfv⟩:∃ y,vs[p2+1]?=some y:=⟨_,List.getElem?_eq_getElem (by rw [hrv.len];omega)⟩
     obtain ⟨sv,hsv⟩:∃ y,vs[p2]?=some y:=⟨_,List.getElem?_eq_getElem (by rw [hrv.len];omega)⟩
     have hfv0:0<fv:=by
      have hne:vs≠[]:=by rintro rfl;simp at hfv
      have h1:=HV.out.2.2.1 hne
      rw [List.getLast_eq_getElem] at h1
      obtain ⟨k,ey⟩:=List.getElem?_eq_some_iff.1 hfv
      have hl:=hrv.len
      simp only [hl,hp2,show p2+2-1=p2+1 by omega,ey] at h1
      omega
     have hwl:((us.drop j).take (nv+1)).length=p2+3:=by simp;omega
     have hgd:=gd_ok (us:=(us.drop j).take (nv+1)) (vs:=vs) (m:=p2) hwl (by rw [hrv.len];exact hp2) ((hinv.1.drop _).take _) HV.out.2.1 (by rw [fO (by omega)];exact hd0) (by rw [fO (by omega)];exact hd1) (by rw [fO (by omega)];exact hd2) hfv hsv hfv0 (by rw [hwin.1];exact hwin.2.2)
     obtain ⟨t,ht⟩:∃ t,t=gD (d0*B9+d1) d2 fv sv:=⟨_,rfl⟩
     have htb:t<1000000000:=by rw [ht,← cE];exact gd_lt
     have cg:=aH (rguess_any (some ⟨gu,0,none⟩) (n+1) cu us Av p2 nv cv vs j wr hru hp2 hrv hinv.1 HV.out.2.1 (by omega) (by omega) d0 d1 d2 fv sv hd0 hd1 hd2 hfv hsv hfv0 hgd.2.2)
     rw [← ht] at cg hgd
     have hd0' : us[j+nv]?=some d0:=by rw [hp2];exact hd0
     have HE:=aH (aI hinv (aI hbq (aI hou (aI hbw (aI hul (aI hVle (aI hwin (aI hrv (aI hgd (aI htb (aI hd0' hjn)))))))))))
     have j1:(j:Int)+nv≤n:=by omega
     have j2:(t:Int)≤999999999:=by omega
     have hidx:((j:Int)+1-1)=j:=by omega
     clear hinv hbq hou hbw hul hVle hwin hrv hru hjn hp2 hd0 hd1 hd2 hfv hsv hfv0 hwl hgd ht htb hd0' hk hk0
     simp only [Int.natCast_add,Int.natCast_one,hidx]
     clear hidx
     go_wp2_with fail
     refine cg.out.mono ?_
     rintro e w6 ⟨rfl,hb6⟩
     have HB6:=aH hb6
     clear hb6 cg
     go_wp2
     go_loopw [15,16] (fun bv iv wr => ∃ (i bo:Nat) (zs:List Nat),i≤nv∧iv = .int .i64 (i:Int)∧bv = .int .i64 (bo:Int)∧TakeK us vs zs j t i bo∧Ow wr gu cu (sK (put us j zs))∧w6.grownBy wr (some gu)) (fun _ iv _=>nv-(intOf iv).toNat)
     case atStart=>exact ⟨0,0,[],Nat.zero_le _,rfl,rfl,⟨rfl,Dig.nil _,Nat.zero_le _,by simp [val]⟩,by rw [tW];exact HE.out.2.2.1.below HB6.out HE.out.2.2.1.lt,rT _ _⟩
     case round =>
      obtain ⟨i,bo,zs,hi,rfl,rfl,htk,how,hg⟩:=hrel
      have hgu1:=HS.out.2.2.2.2.2.1
      have hb6:Below B1 w1 w6:=HE.out.2.2.2.1.trans (HB6.out.mono (Nat.le_trans hgu1 (Nat.le_of_lt HE.out.2.2.1.lt)))
      have hs6:B1≤w6.heap.size:=Nat.le_trans hgu1 (Nat.le_trans (Nat.le_of_lt HE.out.2.2.1.lt) HB6.out.size)
      have hbk:Below B1 w1 wr:=hb6.grown hg hs6 (fun b hb=>by injection hb with hb;omega)
      have hul:=HE.out.2.2.2.2.1
      have hjn:=HE.out.2.2.2.2.2.2.2.2.2.2.2
      by_cases hlt:i<nv
      ·obtain ⟨adv,v,rfl,_,hv,hcv'⟩:=(HV.out.1.below (by rw [← HN.out.2.2];exact hbk)).at_ (k:=i) hlt
       obtain ⟨x,hx⟩:∃ x,us[j+i]?=some x:=⟨_,List.getElem?_eq_getElem (by omega)⟩
       have hcx:=how.cell (i:=i+j) (wD (by rw [Nat.add_comm i j,oE (by rw [htk.1];exact aR _) (by omega)];exact hx))
       have hfx:=how.frozen (i+j)
       have bx:x<1000000000:=HE.out.1.1.at_ hx
       have bv:v<1000000000:=HV.out.2.1.at_ hv
       have bt:t<1000000000:=HE.out.2.2.2.2.2.2.2.2.2.1
       have bb:bo≤1000000000:=htk.2.2.1
       obtain ⟨P,p,r,e,eP,bP0,bP2,hpI,hp,hr,he,hre,hcase⟩:=takeFacts bx bv bt bb
       have hst:=htk.step hx hv hp hr he hre
       have b1:(x:Int)≤999999999:=by omega
       have b2:(bo:Int)≤1000000000:=by omega
       have a1:(i:Int)<nv:=by omega
       have a2:(i:Int)+j<(n:Int)+1:=by omega
       have HT:=aH (aI hst (aI how (aI hg (aI hlt (aI hpI (aI hcase (aI htk.1 hul)))))))
       clear hst how hg hlt htk hx hv hp hr he hre bx bv bt bb hb6 hs6 hbk hul hjn hgu1 hi eP hpI
       rcases hcase with ⟨q1,q2,rfl⟩|⟨q1,q2,rfl⟩
       ·have c1:decide ((x:Int)-((t:Int)*(v:Int)+bo)%1000000000<0)=false:=by rw [decide_eq_false_iff_not];omega
        clear q1
        go_wp2
        go_roundw
        case rel =>
         obtain ⟨hst,how,hg,hlt,hpI,_,hzl,hul⟩:=HT.out
         refine ⟨i+1,p/B9+0,zs ++ [r],hlt,by go_num,?_,hst,?_,cH hg (eF _ _ _ _)⟩
         ·rw [Nat.add_zero];refine congrArg _ ?_;rw [cE];omega
         ·rw [Nat.add_comm i j,← gS hzl (by omega),← wE]
          exact how.set_ _ _
        case measure =>
         have:=HT.out.2.2.2.1
         clear HT q2 c1
         simp [intOf];omega
       ·have c1:(x:Int)-((t:Int)*(v:Int)+bo)%1000000000<0:=by omega
        clear q1
        go_wp2
        go_roundw
        case rel =>
         obtain ⟨hst,how,hg,hlt,hpI,_,hzl,hul⟩:=HT.out
         refine ⟨i+1,p/B9+1,zs ++ [r],hlt,by go_num,?_,hst,?_,cH hg (eF _ _ _ _)⟩
         ·refine congrArg _ ?_;rw [cE];omega
         ·rw [Nat.add_comm i j,← gS hzl (by omega),← wE]
          exact how.set_ _ _
        case measure =>
         have:=HT.out.2.2.2.1
         clear HT q2 c1
         simp [intOf];omega
      ·obtain rfl:nv=i:=by omega
       have hd0:=HE.out.2.2.2.2.2.2.2.2.2.2.1
       have hc0:=how.cell (i:=j+nv) (wD (by rw [oE (by rw [htk.1];exact aR _) (by omega)];exact hd0))
       have hf0:=how.frozen (j+nv)
       have hne:¬ gq=gu:=by have:=HS.out.2.2.2.2.1;omega
       have hne2:¬ gu=gq:=by omega
       have hbq6:=HE.out.2.1.below HB6.out HE.out.2.1.lt
       have hbq:Bi wr gq 3 qs:=(hg.block gq hbq6.lt (by intro e;injection e with e;exact hne e)).trans hbq6
       have hqlen:qs.length=L:=HE.out.1.2.2.2.1
       have hjL:j<L:=by have:=HS.out.2.2.2.2.2.2.1;omega
       obtain ⟨zq,hcq⟩:∃ z:Int,wr.cell? ⟨gq,j,none⟩=some (.int .i64 z):=⟨_,hbq.cell_get (by omega)⟩
       have hfq:=hbq.frozen j
       have htv:=htk.2.2.2
       rw [List.take_of_length_le (l:=vs) (by rw [HV.out.1.len];exact aR _)] at htv
       have hU:val B9 ((us.drop j).take (nv+1))=val B9 ((us.drop j).take nv)+B9^nv*d0:=by
        have hk:nv<(us.drop j).length:=by simp;omega
        rw [aE _ _ _ hk]
        have:(us.drop j)[nv]=d0:=by
         have h1:(us.drop j)[nv]?=some d0:=by rw [List.getElem?_drop];exact hd0
         rw [List.getElem?_eq_getElem hk] at h1
         injection h1
        rw [this]
       have hxT:=bM htk.2.1
       rw [htk.1] at hxT
       have hVle:=HE.out.2.2.2.2.2.1
       have hV0:0<val B9 vs:=by
        rcases Nat.eq_zero_or_pos (val B9 vs) with e|e
        ·exfalso
         have:=HE.out.2.2.2.2.2.2.1.2.2
         rw [e,Nat.zero_mul] at this
         omega
        ·exact e
       have hgd:=HE.out.2.2.2.2.2.2.2.2.1
       have htake:=take_ok (u:=val B9 ((us.drop j).take (nv+1))) (v:=val B9 vs) (h:=d0) (t:=t) (bor:=bo) hU htv hxT hVle hgd.1 hgd.2.1 hV0
       have hstep:=fun (ws:List Nat) (h1:ws.length=nv+1) (h2:Dig B9 ws) (h3:val B9 ws=val B9 ((us.drop j).take (nv+1))%val B9 vs)=>HE.out.1.step hjL hVle hV0 h1 h2 h3
       have bd : (d0 : Int) ≤ 999999999 := by have:d0<1000000000:=HE.out.1.1.at_ hd0
                                              omega
       have bb : (bo : Int) ≤ 1000000000 := by have:bo≤1000000000:=htk.2.2.1
                                               omega
       have a1:(j:Int)<L:=by omega
       have a2:(j:Int)+nv<(n:Int)+1:=by omega
       by_cases hbr:d0<bo
       ·obtain ⟨k1,k2⟩:=htake.2 hbr
        have ht0:0<t:=by rw [k1];exact Nat.succ_pos _
        have ht1:(1:Int)≤t:=by omega
        have c1:(d0:Int)-bo<0:=by omega
        have HC:=aH (aI htk (aI how (aI hg (aI hbq (aI hstep (aI hU (aI htv (aI k1 (aI k2 (aI hxT (aI hVle (aI hV0 (aI hbk (aI hul (aI hqlen hjL)))))))))))))))
        have HCq:=aH (aI hcq hfq)
        clear htk how hg hbq hstep hU htv k1 k2 hxT hVle hV0 hbk hul hqlen hjL htake hgd hd0 hbq6 hbr hjn hb6 hs6 hgu1 hi hlt hcq hfq
        have htT:t<1000000000:=HE.out.2.2.2.2.2.2.2.2.2.1
        clear ht0
        go_wp2
        go_loopw [19,20] (fun cv iv wr => ∃ (i cy:Nat) (ws:List Nat),i≤nv∧iv = .int .i64 (i:Int)∧cv = .int .i64 (cy:Int)∧BackK (put us j zs) vs ws j i cy∧Ow wr gu cu ((sK (put (put us j zs) j ws)).set (j+nv) ((d0:Int)-bo))∧w6.grownBy wr (some gu)) (fun _ iv _=>nv-(intOf iv).toNat)
        case atStart=>exact ⟨0,0,[],Nat.zero_le _,rfl,rfl,⟨rfl,Dig.nil _,by omega,by simp [val]⟩,by rw [tW];exact HC.out.2.1.set_ _ _,cH HC.out.2.2.1 (eF _ _ _ _)⟩
        case round =>
         obtain ⟨i,cy,ws,hi,rfl,rfl,hbk4,how,hg⟩:=hrel
         have hgu1:=HS.out.2.2.2.2.2.1
         have hb6:Below B1 w1 w6:=HE.out.2.2.2.1.trans (HB6.out.mono (Nat.le_trans hgu1 (Nat.le_of_lt HE.out.2.2.1.lt)))
         have hs6:B1≤w6.heap.size:=Nat.le_trans hgu1 (Nat.le_trans (Nat.le_of_lt HE.out.2.2.1.lt) HB6.out.size)
         have hbk:Below B1 w1 wr:=hb6.grown hg hs6 (fun b hb=>by injection hb with hb;omega)
         have hul:=HE.out.2.2.2.2.1
         have hzl:=HC.out.1.1
         have hpl:(put us j zs).length=us.length:=cI (by omega)
         have hpd:Dig B9 (put us j zs):=put_dig9 HE.out.1.1 HC.out.1.2.1
         by_cases hlt:i<nv
         ·obtain ⟨adv,v,rfl,_,hv,hcv'⟩:=(HV.out.1.below (by rw [← HN.out.2.2];exact hbk)).at_ (k:=i) hlt
          obtain ⟨x,hx⟩:∃ x,(put us j zs)[j+i]?=some x:=⟨_,List.getElem?_eq_getElem (by omega)⟩
          have hcx:=how.cell (i:=i+j) (z:=(x:Int)) (by rw [List.getElem?_set_ne (by omega)];exact wD (by rw [Nat.add_comm i j,oE (by rw [hbk4.1];exact aR _) (by omega)];exact hx))
          have hfx:=how.frozen (i+j)
          have bx:x<1000000000:=hpd.at_ hx
          have bv:v<1000000000:=HV.out.2.1.at_ hv
          have bc:cy≤1:=hbk4.2.2.1
          have hst:=hbk4.step hx hv rfl (by rw [cE];exact bx) (by rw [cE];exact bv)
          have b1:(x:Int)≤999999999:=by omega
          have b2:(v:Int)≤999999999:=by omega
          have b3:(cy:Int)≤1:=by omega
          have a1:(i:Int)<nv:=by omega
          have a2:(i:Int)+j<(n:Int)+1:=by omega
          have HT:=aH (aI hst (aI how (aI hg (aI hlt (aI hbk4.1 (aI hul hpl))))))
          clear hst hlt hbk4 hx hv bx bv bc hb6 hs6 hbk hul hgu1 hi hzl hpl hpd
          go_wp2
          go_quiet (fail)
          have HW:=aH (show Ow (wr.drewN nq) gu cu ((sK (put (put us j zs) j ws)).set (j+nv) ((d0:Int)-bo))∧w6.grownBy (wr.drewN nq) (some gu) from ⟨how,⟨hg.os,hg.tape,hg.output,hg.size,hg.block⟩⟩)
          have hcx2:(wr.drewN nq).cell? ⟨gu,i+j,none⟩=some (.int .i64 (x:Int)):=hcx
          have hfx2:(wr.drewN nq).frozen? ⟨gu,i+j,none⟩=false:=hfx
          clear how hg hcx hfx hcv'
          generalize wr.drewN nq=w8 at *
          go_wp2
          go_roundw
          case rel =>
           obtain ⟨hst,_,_,hlt,hwl,hul,hpl⟩:=HT.out
           obtain ⟨how,hg⟩:=HW.out
           have er:((x:Int)+v+cy)%1000000000=(((x+v+cy)%B9:Nat):Int):=by rw [cE];omega
           have eq' : ((x:Int)+v+cy)/1000000000=(((x+v+cy)/B9:Nat):Int):=by rw [cE];omega
           refine ⟨i+1,(x+v+cy)/B9,ws ++ [(x+v+cy)%B9],hlt,by go_num,by rw [← eq'],hst,?_,cH hg (eF _ _ _ _)⟩
           rw [er,Nat.add_comm i j,← gS hwl (by omega),← wE,List.set_comm _ _ (by omega)]
           exact how.set_ _ _
          case measure =>
           have:=HT.out.2.2.2.1
           clear HT HW hcx2 hfx2
           simp [intOf];omega
         ·obtain rfl:nv=i:=by omega
          obtain ⟨htk,_,_,_,hstep,hU,htv,k1,k2,hxT,hVle,hV0,_,_,hqlen,hjL⟩:=HC.out
          have hb4:=hbk4.2.2.2
          have hzw:((put us j zs).drop j).take nv=zs:=by
           have h1:=vC (ys:=us) (zs:=zs) (o:=j) (by rw [hzl];omega)
           rw [hzl] at h1
           exact h1
          rw [hzw,List.take_of_length_le (l:=vs) (by rw [HV.out.1.len];exact aR _)] at hb4
          have hwT:=bM hbk4.2.1
          rw [hbk4.1] at hwT
          obtain ⟨r1,r2,r3⟩:=back_ok hU htv k1 k2 hb4 hwT hVle hV0 hbk4.2.2.1
          have hc0:=how.cell (i:=j+nv) (z:=(d0:Int)-bo) (List.getElem?_set_self (by rw [List.length_map,cI (by rw [hbk4.1,hpl];omega),hpl];omega))
          have hf0:=how.frozen (j+nv)
          have hbq6:=HE.out.2.1.below HB6.out HE.out.2.1.lt
          have hbq:Bi wr gq 3 qs:=(hg.block gq hbq6.lt (by intro e;injection e with e;exact hne e)).trans hbq6
          obtain ⟨zq,hcq⟩:∃ z:Int,wr.cell? ⟨gq,j,none⟩=some (.int .i64 z):=⟨_,hbq.cell_get (by omega)⟩
          have hfq:=hbq.frozen j
          have ez:(d0:Int)-bo+cy=0:=by omega
          have h1:=hstep (ws ++ [0]) (by simp [hbk4.1]) (hbk4.2.1.app (Dig.cons bY (Dig.nil _))) (by rw [bZ,Nat.mul_zero,Nat.add_zero];exact r1)
          have hq1:val B9 ((us.drop j).take (nv+1))/val B9 vs=t-1:=by rw [k1,Nat.add_sub_cancel]
          rw [hq1] at h1
          have b3:(cy:Int)≤1:=by omega
          have HD:=aH (aI h1 (aI how (aI hbq (aI hbk (aI hbk4.1 (aI hul (aI hzl (aI hpl hjL))))))))
          clear h1 how hbq hbk hul hzl hpl hjL hstep hU htv k1 k2 hxT hVle hV0 hqlen htk hb4 hzw hwT r1 r2 r3 hbq6 hq1 hbk4 hg hb6 hs6 hgu1 hi hpd hlt
          go_wp2
          go_roundw
          case rel =>
           obtain ⟨h1,how,hbq,hbk,hwl,hul,hzl,hpl,hjL⟩:=HD.out
           refine ⟨j,put us j (ws ++ [0]),qs.set j (t-1),Nat.le_of_lt hjL,by go_num,h1,?_,?_,(hbk.setCell (by show B1≤gu;exact HS.out.2.2.2.2.2.1) _).setCell (by show B1≤gq;have:=HS.out.2.2.2.2.1;have:=HS.out.2.2.2.2.2.1;omega) _⟩
           ·have e1:(t:Int)-1=((t-1:Nat):Int):=by omega
            rw [e1]
            exact (hbq.far (by show gq≠gu;exact hne) _).set_ _ _
           ·refine Ow.far ?_ (by show gu≠gq;exact hne2) _
            have h2:=how.set_ (j+nv) 0
            rw [List.set_set,yD,gS hwl (by rw [hpl,hul];have:=HS.out.2.2.2.2.2.2.1;omega),put_put9 (by simp only [List.length_append,List.length_singleton,hwl];have:=HS.out.2.2.2.2.2.2.1;omega) (by simp only [List.length_append,List.length_singleton,hwl,hzl];omega)] at h2
            exact h2
          case measure =>
           clear HD
           simp [intOf]
       ·obtain ⟨k1,k2,k3⟩:=htake.1 (by omega)
        have ez:(d0:Int)-bo=0:=by omega
        have HC:=aH (aI htk (aI how (aI hg (aI hbq (aI hstep (aI k1 (aI k2 (aI hbk (aI hul hjL)))))))))
        clear htk how hg hbq hstep hU htv k1 k2 k3 hxT hVle hV0 hbk hul hqlen hjL htake hgd hd0 hbq6 hbr hjn hb6 hs6 hgu1 hi hlt
        go_wp2
        go_roundw
        case rel =>
         obtain ⟨htk,how,hg,hbq,hstep,k1,k2,hbk,hul,hjL⟩:=HC.out
         have h1:=hstep (zs ++ [0]) (by simp [htk.1]) (htk.2.1.app (Dig.cons bY (Dig.nil _))) (by rw [bZ,Nat.mul_zero,Nat.add_zero];exact k2)
         rw [← k1] at h1
         refine ⟨j,put us j (zs ++ [0]),qs.set j t,Nat.le_of_lt hjL,by go_num,h1,(hbq.far (by show gq≠gu;exact hne) _).set_ _ _,?_,(hbk.setCell (by show B1≤gu;exact HS.out.2.2.2.2.2.1) _).setCell (by show B1≤gq;have:=HS.out.2.2.2.2.1;have:=HS.out.2.2.2.2.2.1;omega) _⟩
         refine Ow.far ?_ (by show gu≠gq;exact hne2) _
         rw [← gS htk.1 (by have:=HC.out.2.2.2.2.2.2.2.2.2;have:=HS.out.2.2.2.2.2.2.1;omega),← yD]
         exact how.set_ _ _
        case measure =>
         clear HC
         simp [intOf]
def SubI (xs ys zs:List Nat) (k bo:Nat):Prop:=bo≤1∧Dig B9 zs∧zs.length=k∧val B9 zs+val B9 (ys.take k)=val B9 (xs.take k)+B9^k*bo
theorem SubI.nil (xs ys:List Nat):SubI xs ys [] 0 0:=⟨by omega,Dig.nil _,rfl,by simp [val]⟩
theorem SubI.step {xs ys zs:List Nat} {k bo r q:Nat} (h:SubI xs ys zs k bo) (hr:r<1000000000) (hq:q≤1) (e:r+ys.getD k 0+bo=xs.getD k 0+1000000000*q):SubI xs ys (zs ++ [r]) (k+1) q:=by
 obtain ⟨h1,h2,h3,h4⟩:=h
 refine ⟨hq,h2.app (Dig.cons (by rw [cE];exact hr) (Dig.nil _)),by simp [h3],?_⟩
 rw [bZ,h3,gW,gW,Nat.pow_succ]
 rw [← cE] at e
 generalize xs.getD k 0=x at *
 generalize ys.getD k 0=y at *
 clear hr hq h2 h3 h1
 generalize B9=V at *
 grind
theorem SubI.finish {xs ys zs:List Nat} {k bo:Nat} (h:SubI xs ys zs k bo) (h1:xs.length=k) (h2:ys.length≤k) (hle:val B9 ys≤val B9 xs):val B9 zs=val B9 xs-val B9 ys:=by
 obtain ⟨_,hd,hl,h4⟩:=h
 rw [List.take_of_length_le h2,List.take_of_length_le (by omega)] at h4
 have hz:=bM hd
 rw [hl] at hz
 have hb:bo=0:=by
  rcases Nat.eq_zero_or_pos bo with e|e
  ·exact e
  ·exfalso
   have:B9^k*1≤B9^k*bo:=Nat.mul_le_mul_left _ e
   omega
 rw [hb] at h4
 omega
set_option maxRecDepth 100000 in
theorem wR (A:Option Addr) (n c:Nat) (xs:List Nat) (A' : Option Addr) (n' c' : Nat) (ys:List Nat) (w:World) (h:Ri w A n c xs) (h' : Ri w A' n' c' ys)
 (hd:Dig B9 xs) (hd' : Dig B9 ys) (hn:n≤2199023255552) (hn' : n'≤n) (hle:val B9 ys≤val B9 xs) :
 Calls Tryz.prog 112 #[.slice A n c,.slice A' n' c'] w (zO w (val B9 xs-val B9 ys)):=by
 have HX:=aH (aI h hd)
 have HY:=aH (aI h' hd')
 have HN:=aH (aI hn (aI hn' hle))
 have hnc:n≤c:=h.cap
 have hcm:c≤9223372036854775807:=h.2.2.1
 have hnc' : n'≤c':=h'.cap
 have hcm' : c'≤9223372036854775807:=h'.2.2.1
 obtain ⟨i0,hi,hz0,hz1,hz2⟩:=info_parts gR
 have HI:=aH (aI hi (aI hz0 (aI hz1 hz2)))
 clear h h' hd hd' hi hz0 hz1 hz2 hle
 go_enter Tryz.func112,Tryz.ntmps112
 go_wp2
 go_loopw [5,6,7] (fun ov cv iv wr => ∃ (k cy:Nat) (zs:List Nat),k≤n∧iv = .int .i64 (k:Int)∧cv = .int .i64 (cy:Int)∧SubI xs ys zs k cy∧wr.ownsRow w.heap.size 3 1 ov k (zs.map dT)∧Below w.heap.size w wr) (fun _ _ iv _=>n-(intOf iv).toNat)
 case atStart=>exact ⟨0,0,[],Nat.zero_le _,rfl,rfl,SubI.nil _ _,⟨rfl,.inl ⟨rfl,rfl⟩⟩,aB _ _⟩
 case round =>
  obtain ⟨k,cy,zs,hk,rfl,rfl,hinv,hrow,hb⟩:=hrel
  by_cases hgo:k<n
  ·have b1:(k:Int)<n:=by omega
   have hk1:(k:Int)+1≤2199023255552:=by have:=HN.out;omega
   have hkB:k≤2199023255999:=by have:=HN.out;omega
   obtain ⟨ad,x,rfl,_,hx,hcx⟩:=(HX.out.1.below hb).at_ (k:=k) hgo
   obtain ⟨y,hy⟩:∃ y,y=ys.getD k 0:=⟨_,rfl⟩
   have bx:x<1000000000:=HX.out.2.at_ hx
   have by' : y<1000000000:=by rw [hy];exact HY.out.2.get0 bY k
   have bc:cy≤1:=hinv.1
   obtain ⟨d,s,r,q,e1,e2,e3,e4,hr,hq,hs,he⟩:=subFacts bx by' bc
   have hst:SubI xs ys (zs ++ [r]) (k+1) q:=hinv.step hr hq (by rw [← hy,getD_get hx];exact he)
   have cd':=aH (fun w' (hb' : Below w.heap.size w w')=>sJ A' n' c' ys k w' (HY.out.1.below hb'))
   rw [← hy] at cd'
   have HS:=aH (aI hst (aI hrow (aI hb (aI hgo (aI hinv.2.2.1 hkB)))))
   clear hst hrow hk hinv hx hy hr hq bx by' bc hgo he
   go_wp2
   go_quiet ((go_at_call 160;exact Calls.quiet_of_same ((cd'.out _ (by first|exact hb|exact bX hb _)).mono fun _ _ h=>⟨h.1,h.2.symm⟩)))
   have hb2:=bX hb nq
   have hrow2:(wr.drewN nq).ownsRow w.heap.size 3 1 _ k (zs.map dT):=HS.out.2.1
   have HB:=aH (aI hrow2 hb2)
   clear hb hcx hb2 hrow2
   generalize wr.drewN nq=w2 at *
   rcases hs with ⟨rfl,rfl⟩|⟨hs1,hs2,hs3,rfl⟩
   ·have c1:¬ (r:Int)<0:=uB r
    go_wp2_with (at_builtin;refine fP (r:=r) rfl _ _ rfl rfl HB.out.1 rfl HS.out.2.2.2.2.2 HB.out.2 (aR _) HB.out.2.size ?_)
    intro v' w3 hr3 hbw _
    have HX3:=aH (aI hr3 hbw)
    clear hr3 hbw
    go_wp2
    go_roundw
    case rel=>exact ⟨k+1,0,zs ++ [r],HS.out.2.2.2.1,by first|rfl|go_num|simp,rfl,HS.out.1,by rw [List.map_append];exact HX3.out.1,HX3.out.2⟩
    case measure =>
     have:=HS.out.2.2.2.1
     clear e1 e2 e3 e4 HX3 HS HB
     simp [intOf];omega
   ·have hs4:decide (s<0)=true:=decide_eq_true hs1
    clear hs1
    go_wp2_with (at_builtin;refine fP (r:=r) rfl _ _ rfl rfl HB.out.1 rfl HS.out.2.2.2.2.2 HB.out.2 (aR _) HB.out.2.size ?_)
    intro v' w3 hr3 hbw _
    have HX3:=aH (aI hr3 hbw)
    clear hr3 hbw
    go_wp2
    go_roundw
    case rel=>exact ⟨k+1,1,zs ++ [r],HS.out.2.2.2.1,by first|rfl|go_num|simp,rfl,HS.out.1,by rw [List.map_append];exact HX3.out.1,HX3.out.2⟩
    case measure =>
     have:=HS.out.2.2.2.1
     clear e1 e2 e3 e4 HX3 HS HB hs2 hs3 hs4
     simp [intOf];omega
  ·obtain ⟨A2,c2,rfl,hri⟩:=uA hrow
   have hkn:n=k:=by omega
   have hv:=hinv.finish (by rw [HX.out.1.len];exact hkn) (by rw [HY.out.1.len];omega) HN.out.2.2
   have HF:=aH (aI hri (aI hinv.2.1 (aI hv hb)))
   have b1:¬ (k:Int)<n:=by omega
   clear hri hinv hv hb hk hgo hrow
   go_wp2_with (go_at_call 158;refine (lS _ _ _ _ _ HF.out.1 HF.out.2.1).mono ?_;rintro e w' ⟨⟨v,rfl,hv⟩,rfl⟩)
   go_ret
   exact ⟨v,rfl,by rw [← HF.out.2.2.1];exact hv,HF.out.2.2.2⟩
theorem Di.nil (w:World):Di w (.slice none 0 0) 0:=⟨none,0,0,[],rfl,Ri.nil,Dig.nil _,Norm.nil,rfl⟩
theorem ri_one {w:World} {g:Nat} {f:Nat} (h:w.heap[g]?=some (.cells #[.int .i64 (f:Int)] 3 (0,0))):Ri w (some ⟨g,0,none⟩) 1 1 [f]:=Bi.rd (ys := [f]) h (by show 1≤9223372036854775807;omega)
set_option maxRecDepth 100000 in
theorem wS (A:Option Addr) (n c:Nat) (xs:List Nat) (A' : Option Addr) (n' c' : Nat) (ys:List Nat) (w:World) (h:Ri w A n c xs) (h' : Ri w A' n' c' ys)
 (hd:Dig B9 xs) (hd' : Dig B9 ys) (hx:Norm xs) (hy:Norm ys) (hn:n≤1099511627776) (h0:0<n') :
 Calls Tryz.prog 103 #[.slice A n c,.slice A' n' c'] w (wC w (val B9 xs/val B9 ys) (val B9 xs%val B9 ys)):=by
 have hnc:n≤c:=h.cap
 have hcm:c≤9223372036854775807:=h.2.2.1
 have hnc' : n'≤c':=h'.cap
 have hcm' : c'≤9223372036854775807:=h'.2.2.1
 rcases Nat.lt_or_ge (val B9 xs) (val B9 ys) with hlt|hge
 ·have cc:=aH (eN A n c xs A' n' c' ys w h h' hd hd' hx hy)
  rw [zN hlt] at cc
  have HX:=aH (aI h (aI hd (aI hx hlt)))
  clear h h' hd hd' hx hy hlt
  go_enter Tryz.func103,Tryz.ntmps103
  go_wp2_with fail
  refine cc.out.mono ?_
  rintro e w0 ⟨rfl,hb0⟩
  go_wp2
  go_ret2
  refine ⟨_,_,rfl,?_,?_,hb0⟩
  ·rw [Nat.div_eq_of_lt HX.out.2.2.2];exact Di.nil _
  ·rw [Nat.mod_eq_of_lt HX.out.2.2.2];exact ⟨A,n,c,xs,rfl,HX.out.1.below hb0,HX.out.2.1,HX.out.2.2.1,rfl⟩
 ·rcases Nat.lt_or_ge 1 n' with h1|h1
  ·exact divLong_any A n c xs A' n' c' ys w h h' hd hd' hx hy hn h1 hge
  ·obtain rfl:n'=1:=by omega
   obtain ⟨ad',y,rfl,hblk',hyt,hcy⟩:=h'.at_ (k:=0) (by omega)
   have hyy:ys = [y]:=by
    have hl:=h'.len
    match ys,hl,hyt with
    | [a],_,hy=>simp at hy;rw [hy]
   subst hyy
   have hyv:val B9 [y]=y:=by simp [val]
   have hyl:y<1000000000:=hd'.at_ hyt
   have hy0:0<y:=by
    rcases Nat.eq_zero_or_pos y with e|e
    ·exfalso;subst e;exact hy (by simp) rfl
    ·exact e
   have hc1:¬ bQ (val B9 xs) (val B9 [y])<0:=by unfold bQ;rw [if_neg (by omega)];split <;> omega
   obtain ⟨z,hz⟩:∃ z:Int,bQ (val B9 xs) (val B9 [y])=z:=⟨_,rfl⟩
   have cc:=aH (eN A n c xs (some ad') 1 c' [y] w h h' hd hd' hx hy)
   have cd:=aH (fun W (hb:Below w.heap.size w W)=>qP A n c xs y W (h.below hb) hd (by omega) hy0 hyl)
   rw [hz] at cc hc1
   rw [hyv]
   have hz0:decide (z<0)=false:=decide_eq_false hc1
   have HY:=aH (aI hyl hy0)
   obtain ⟨r,hr⟩:∃ r,r=val B9 xs%y:=⟨_,rfl⟩
   have hrl:r<1000000000:=by rw [hr];exact Nat.lt_trans (Nat.mod_lt _ hy0) hyl
   rw [← hr] at cd ⊢
   have HR:=aH hrl
   clear h h' hd hd' hx hy hc1 hz hyl hy0 hyv hyt hge hr hrl
   go_enter Tryz.func103,Tryz.ntmps103
   go_wp2_with fail
   refine cc.out.mono ?_
   rintro e w0 ⟨rfl,hb0⟩
   have hcy0:=(hb0.cell (p:=ad'.add 0) (by rw [bF];exact hblk')).trans hcy
   have hcy1:w0.cell? ad'=some (.int .i64 (y:Int)):=by simpa [Addr.add] using hcy0
   clear hcy hcy0
   go_wp2_with fail
   refine (cd.out _ hb0).mono ?_
   rintro e w1 ⟨v,rfl,hv,hb1⟩
   have HV:=aH (aI hv (Below.step_trans' hb0 hb1))
   clear hv hb1 hb0
   have hbN:Below w1.heap.size w1 (w1.alloc (.cells #[.int .i64 (r:Int)] 3)):=(aB _ _).alloc (aR _) _
   have HN:=aH hbN
   clear hbN
   go_wp2_with (go_at_call 158;refine (lS _ _ _ [r] _ (ri_one (heap_alloc_new w1 _)) (Dig.cons HR.out (Dig.nil _))).mono ?_;rintro e w11 ⟨⟨v11,rfl,hv11⟩,rfl⟩)
   go_ret2
   exact ⟨v,v11,rfl,HV.out.1.below HN.out,by simpa [val] using hv11,Below.step_trans' HV.out.2 HN.out⟩
theorem qQ {v v' : Value} {a b:Nat} {w:World} (h:Di w v a) (h' : Di w v' b) (ha:a<B9^1099511627776) (hb:0<b):Calls Tryz.prog 103 #[v,v'] w (wC w (a/b) (a%b)):=by
 obtain ⟨A,n,c,xs,rfl,hr,hd,hn,rfl⟩:=h
 obtain ⟨A',n',c',ys,rfl,hr',hd',hn',rfl⟩:=h'
 refine wS A n c xs A' n' c' ys w hr hr' hd hd' hn hn' ?_ ?_
 ·rw [← hr.len];exact aV eE hn ha
 ·rw [← hr'.len]
  exact List.length_pos_iff.2 (by rintro rfl;simp [val] at hb)
def CommAt (w:World) (T a b k:Nat) (va vb:Value) (wr:World):Prop := ∃ x,Di wr va x∧Di wr vb k∧Nat.gcd x k=Nat.gcd a b∧x<T∧k<T∧Below w.heap.size w wr
set_option maxRecDepth 100000 in
theorem common_any (v v' : Value) (a b:Nat) (w:World) (h:Di w v a) (h' : Di w v' b) (ha:a<B9^1099511627776) (hb:b<B9^1099511627776) :
 Calls Tryz.prog 45 #[v,v'] w (zO w (Nat.gcd a b)):=by
 obtain ⟨T,hT⟩:∃ T,T=B9^1099511627776:=⟨_,rfl⟩
 have HB:=aH (fun (x y:Nat) (u u' : Value) (W:World) (k:Di W u x) (k' : Di W u' y) (kx:x<T) (ky:0<y)=>qQ k k' (by rw [← hT];exact kx) ky)
 rw [← hT] at ha hb
 clear hT
 have HA:=aH (aI h (aI h' (aI ha hb)))
 obtain ⟨A,n,c,xs,rfl,hr,hd,hn,rfl⟩:=h
 obtain ⟨A',n',c',ys,rfl,hr',hd',hn',rfl⟩:=h'
 generalize val B9 xs=a at *
 generalize val B9 ys=b at *
 clear hr hd hn hr' hd' hn' ha hb
 go_enter Tryz.func45,Tryz.ntmps45
 go_wp2
 go_loopg [0,1] b (fun k va vb wr=>CommAt w T a b k va vb wr)
 case atStart=>exact ⟨a,HA.out.1,HA.out.2.1,rfl,HA.out.2.2.1,HA.out.2.2.2,aB _ _⟩
 case round =>
  obtain ⟨x,hx,hy,hg,hxT,hyT,hbe⟩:=hrel
  have HR:=aH (aI hx (aI hy (aI hg (aI hxT (aI hyT hbe)))))
  obtain ⟨A',n',c',ys,rfl,hr',hd',hn',hv'⟩:=hy
  rcases Nat.eq_zero_or_pos n' with h0|h0
  ·subst h0
   have hk:gk=0:=by
    rw [← hv',List.eq_nil_of_length_eq_zero hr'.len];rfl
   obtain ⟨A2,n2,c2,zs,rfl,hr2,hd2,hn2,hv2⟩:=hx
   have HK:=aH hk
   clear hg hxT hyT hbe hr' hd' hn' hv' hk hr2 hd2 hn2 hv2
   go_wp2
   go_ret
   obtain ⟨hx,hy,hg,hxT,hyT,hbe⟩:=HR.out
   refine ⟨_,rfl,?_,hbe⟩
   rw [← hg,HK.out,Nat.gcd_zero_right]
   exact hx
  ·have k1:(0:Int)<n':=by omega
   have hkp:0<gk:=by
    rw [← hv']
    exact hn'.pos bY (by rintro rfl;have:=hr'.len;simp at this;omega)
   have HK:=aH hkp
   obtain ⟨A2,n2,c2,zs,rfl,hr2,hd2,hn2,hv2⟩:=hx
   clear hg hxT hyT hbe hr' hd' hn' hv' hkp hr2 hd2 hn2 hv2 h0
   go_wp2_with fail
   refine (HB.out x gk _ _ _ HR.out.1 HR.out.2.1 HR.out.2.2.2.1 HK.out).mono ?_
   rintro e w3 ⟨v1,v2,rfl,q1,q2,q3⟩
   obtain ⟨A1,n1,c1,zs1,rfl,_⟩:=id q1
   obtain ⟨A3,n3,c3,zs3,rfl,_⟩:=id q2
   have Q:=aH (aI q2 q3)
   clear q1 q2 q3
   go_wp2
   go_roundg (x%gk)
   case measure=>exact Nat.mod_lt _ HK.out
   case rel =>
    obtain ⟨hx,hy,hg,hxT,hyT,hbe⟩:=HR.out
    exact ⟨gk,hy.below Q.out.2,Q.out.1,by rw [← hg,Nat.gcd_comm gk,Nat.gcd_comm x,Nat.gcd_rec gk x],hyT,Nat.lt_trans (Nat.mod_lt _ HK.out) hyT,Below.step_trans' hbe Q.out.2⟩
end
section
open Go.RowKit Pl
def Kr:Value→Bool
 | .int .i64 _=>true
 | _=>false
theorem Ri.ext {K:Value→Bool} (hK:∀ x,K (.int .i64 x)=true) {w w' : World} {A:Option Addr} {n c:Nat} {xs:List Nat} (h:Ri w A n c xs) (hx:Ext K w w'):Ri w' A n c xs:=by
 refine ⟨h.1,h.2.1,h.2.2.1,fun hn=>?_⟩
 obtain ⟨ad,e,hl,hc⟩:=h.2.2.2 hn
 exact ⟨ad,e,Nat.lt_of_lt_of_le hl hx.size,fun j x hj=>hx.cell (hc j x hj) (hK _)⟩
theorem Di.ext {w w' : World} {v:Value} {a:Nat} (h:Di w v a) (hx:Ext Kr w w'):Di w' v a:=by
 obtain ⟨A,n,c,xs,hv,hr,hd,hn,ha⟩:=h
 exact ⟨A,n,c,xs,hv,hr.ext (fun _=>rfl) hx,hd,hn,ha⟩
def Ru (w:World) (v:Value) (a:Nat):Prop := ∃ A n c xs,v = .slice A n c∧Ri w A n c xs∧Dig B9 xs∧val B9 xs=a
theorem Ru.ext {w w' : World} {v:Value} {a:Nat} (h:Ru w v a) (hx:Ext Kr w w'):Ru w' v a:=by
 obtain ⟨A,n,c,xs,hv,hr,hd,ha⟩:=h
 exact ⟨A,n,c,xs,hv,hr.ext (fun _=>rfl) hx,hd,ha⟩
end
namespace Ab
open Go.RowKit Pl
theorem kr_ok:KOk Kr:=⟨fun _=>rfl,fun _ _ _=>rfl⟩
def wF (a:Nat):CS Kr where
 size:=1
 cold:=true
 pred cs w := ∃ v,cs = [v]∧Di w v a
 stable cs w w' h hx:=by obtain ⟨v,e,h⟩:=h;exact ⟨v,e,h.ext hx⟩
 len cs w h:=by obtain ⟨v,e,_⟩:=h;rw [e];rfl
 one cs w h:=by
  obtain ⟨v,e,A,n,c,xs,hv,_⟩:=h
  rw [e];intro d hd;rw [List.mem_singleton] at hd;rw [hd,hv];rfl
 iscold _ cs w h:=by
  obtain ⟨v,e,A,n,c,xs,hv,_⟩:=h
  rw [e];intro d hd;rw [List.mem_singleton] at hd;rw [hd,hv];rfl
def csRu (a:Nat):CS Kr where
 size:=1
 cold:=true
 pred cs w := ∃ v,cs = [v]∧Ru w v a
 stable cs w w' h hx:=by obtain ⟨v,e,h⟩:=h;exact ⟨v,e,h.ext hx⟩
 len cs w h:=by obtain ⟨v,e,_⟩:=h;rw [e];rfl
 one cs w h:=by
  obtain ⟨v,e,A,n,c,xs,hv,_⟩:=h
  rw [e];intro d hd;rw [List.mem_singleton] at hd;rw [hd,hv];rfl
 iscold _ cs w h:=by
  obtain ⟨v,e,A,n,c,xs,hv,_⟩:=h
  rw [e];intro d hd;rw [List.mem_singleton] at hd;rw [hd,hv];rfl
def iA (v:Value) (h:v.oneCell'=true) (c:Bool) (hc:c=true→Kr v=false):CS Kr where
 size:=1
 cold:=c
 pred cs _:=cs = [v]
 stable _ _ _ h _:=h
 len _ _ h:=by rw [h];rfl
 one _ _ hp:=by rw [hp];intro c hc;rw [List.mem_singleton] at hc;rw [hc];exact h
 iscold hb _ _ hp:=by rw [hp];intro d hd;rw [List.mem_singleton] at hd;rw [hd];exact hc hb
abbrev di (a:Nat):AV Kr := .fv (.sc (.sp (wF a)))
abbrev ru (a:Nat):AV Kr := .fv (.sc (.sp (csRu a)))
abbrev rB (b:Bool):Seg Kr := .sp (iA (.bool b) rfl true (fun _=>rfl))
abbrev rb (b:Bool):AV Kr := .fv (.sc (rB b))
abbrev rS (s:ByteArray):AV Kr := .fv (.sc (.sp (iA (.string s) rfl true (fun _=>rfl))))
abbrev iz (z:Int):AV Kr := .fv (.ag [rB (decide (z<0)),.sp (wF z.natAbs)])
theorem bD {β:List Nat} {v:Value} {w:World} {a:Nat}:(di a).holds β v w↔Di w v a:=by
 constructor
 ·rintro ⟨u,e,h⟩
  injection e with e
  rw [e];exact h
 ·intro h;exact ⟨v,rfl,h⟩
theorem ru_holds {β:List Nat} {v:Value} {w:World} {a:Nat}:(ru a).holds β v w↔Ru w v a:=by
 constructor
 ·rintro ⟨u,e,h⟩
  injection e with e
  rw [e];exact h
 ·intro h;exact ⟨v,rfl,h⟩
theorem bA {v u:Value} {h:v.oneCell'=true} {c:Bool} {hc:c=true→Kr v=false} {β:List Nat} {w:World} (k:(AV.fv (.sc (.sp (iA v h c hc))):AV Kr).holds β u w):u=v:=by
 have:[u] = [v]:=k
 injection this
theorem dE {v:Value} {h:v.oneCell'=true} {c:Bool} {hc:c=true→Kr v=false} {β:List Nat} {w:World}:(AV.fv (.sc (.sp (iA v h c hc))):AV Kr).holds β v w:=rfl
theorem lT {β:List Nat} {v:Value} {w:World} {z:Int}:(iz z).holds β v w↔In w v z:=by
 constructor
 ·rintro ⟨cs,rfl,a,r,rfl,h1,b,r2,rfl,⟨u,e,A,n,c,xs,rfl,hr,hd,hn,hv⟩,h3⟩
  have h1:a = [.bool (decide (z<0))]:=h1
  rw [show r2 = [] from h3,h1,e]
  exact ⟨A,n,c,xs,rfl,hr,hd,hn,hv⟩
 ·rintro ⟨A,n,c,xs,rfl,hr,hd,hn,hv⟩
  exact ⟨[.bool (decide (z<0)),.slice A n c],rfl,[.bool (decide (z<0))],_,rfl,rfl,[.slice A n c],[],rfl,⟨_,rfl,A,n,c,xs,rfl,hr,hd,hn,hv⟩,rfl⟩
theorem rgo {f:FuncId} {fn:Func} {args:List (AV Kr)} {x:AV Kr} (hfn:Tryz.prog.funcs[f]?=some fn) (hc:(fn.body.isSome,decide (args.length≤fn.ntmps),x.noPtr,args.all AV.noPtr)=(true,true,true,true))
 (h:∀ w00,Ok Tryz.prog f w00 (fun v w=>x.holds [] v w) (dB Tryz.prog 1000 (pI fn args))):jF f args x:=by
 simp only [Prod.mk.injEq] at hc
 exact fits_go hfn hc.1 hc.2.1 hc.2.2.1 hc.2.2.2 fun w00=>Ok.go (by kernel_rfl) kr_ok 1000 (h w00)
section
variable {f:FuncId} {w00:World} {Out:Value→World→Prop}
theorem rcall {c:Cfg Kr} (fn:FuncId) (args:List (AV Kr)) {x:AV Kr} (h:jF fn args x) (hc:(c.callee Tryz.prog,c.args Tryz.prog,c.okT x)=(some fn,args,true)) (hfn:∀ (args:Array Value) (w:World),(callFunc fn args).run Tryz.prog w = .ok (.enter fn args) w)
 (hg:Ok Tryz.prog f w00 Out (dB Tryz.prog 1000 (c.give x))):Ok Tryz.prog f w00 Out c:=by
 simp only [Prod.mk.injEq] at hc
 exact Ok.call fn args h hc.1 hc.2.1 hc.2.2 hfn (Ok.go (by kernel_rfl) kr_ok 1000 hg)
theorem oM {c:Cfg Kr} (op:Op) (x y:Operand) (X Y r:AV Kr) (hc:(c.op.map fun o=>o.op,c.okT r,c.ev x,c.ev y)=(some op,true,X,Y)) (hx:x∈op.operands) (hy:y∈op.operands)
 (h:∀ (ρ:Operand→Value) (o:Oper) (β:List Nat) (w:World),o.op=op→X.holds β (ρ x) w→Y.holds β (ρ y) w→∃ v,(execOp ρ o).run Tryz.prog w = .ok (.value v) w∧r.holds β v w)
 (hg:Ok Tryz.prog f w00 Out (dB Tryz.prog 1000 (c.give r))):Ok Tryz.prog f w00 Out c:=by
 simp only [Prod.mk.injEq] at hc
 obtain ⟨h1,h2,h3,h4⟩:=hc
 rw [Option.map_eq_some_iff] at h1
 obtain ⟨o,ho,ho2⟩:=h1
 refine Ok.op o r ho h2 (fun β ρ w _ _ hs => .inl ?_) (Ok.go (by kernel_rfl) kr_ok 1000 hg)
 obtain ⟨v,e,hv⟩:=h ρ o β w ho2 (by rw [← h3];exact hs x (by rw [ho2];exact hx)) (by rw [← h4];exact hs y (by rw [ho2];exact hy))
 exact ⟨v,w,e,aB _ _,hv⟩
theorem rret {c:Cfg Kr} {fn:Func} {x:AV Kr} (hfn:Tryz.prog.funcs[f]?=some fn) (hc:(x.noPtr,c.res Tryz.prog fn)=(true,some x)):Ok Tryz.prog f w00 (fun v w=>x.holds [] v w) c:=by
 simp only [Prod.mk.injEq] at hc
 exact Ok.ret hfn hc.1 hc.2
end
theorem jL{f:FuncId}{w00:World}{Out:Value→World→Prop}{c:Cfg Kr}(op:Op)(x y:Operand)(X Y r:AV Kr)(h:∀(ρ:Operand→Value)(o:Oper)(β:List Nat)(w:World),o.op=op→X.holds β (ρ x) w→Y.holds β (ρ y) w→∃v,(execOp ρ o).run Tryz.prog w=.ok (.value v) w∧r.holds β v w)(hg:Ok Tryz.prog f w00 Out (dB Tryz.prog 1000 (c.give r)))(hc:(c.op.map fun o=>o.op,c.okT r,c.ev x,c.ev y)=(some op,true,X,Y):=by kernel_rfl)(hx:x∈op.operands:=by simp [Op.operands,Call.operands])(hy:y∈op.operands:=by simp [Op.operands,Call.operands]):Ok Tryz.prog f w00 Out c:=oM op x y X Y r hc hx hy h hg
theorem jB{f:FuncId}{w00:World}{Out:Value→World→Prop}{c:Cfg Kr}(fn:FuncId)(args:List (AV Kr)){x:AV Kr}(h:jF fn args x)(hg:Ok Tryz.prog f w00 Out (dB Tryz.prog 1000 (c.give x)))(hc:(c.callee Tryz.prog,c.args Tryz.prog,c.okT x)=(some fn,args,true):=by kernel_rfl)(hfn:∀(args:Array Value)(w:World),(callFunc fn args).run Tryz.prog w=.ok (.enter fn args) w:=by intro _ _;kernel_rfl):Ok Tryz.prog f w00 Out c:=rcall fn args h hc hfn hg
theorem jS{f:FuncId}{w00:World}{c:Cfg Kr}{fn:Func}{x:AV Kr}(hfn:Tryz.prog.funcs[f]?=some fn)(hc:(x.noPtr,c.res Tryz.prog fn)=(true,some x):=by kernel_rfl):Ok Tryz.prog f w00 (fun v w=>x.holds [] v w) c:=rret hfn hc
theorem jT{f:FuncId}{fn:Func}{args:List (AV Kr)}{x:AV Kr}(hfn:Tryz.prog.funcs[f]?=some fn)(h:∀w00,Ok Tryz.prog f w00 (fun v w=>x.holds [] v w) (dB Tryz.prog 1000 (pI fn args)))(hc:(fn.body.isSome,decide (args.length≤fn.ntmps),x.noPtr,args.all AV.noPtr)=(true,true,true,true):=by kernel_rfl):jF f args x:=rgo hfn hc h
theorem zP {o:Oper} {ρ:Operand→Value} {w:World} {x y:Operand} {a b:Bool} (ho:o.op = .binOp .eql 4 x y 4) (hx:ρ x = .bool a) (hy:ρ y = .bool b):(execOp ρ o).run Tryz.prog w = .ok (.value (.bool (a==b))) w:=by
 simp only [execOp,ho,hx,hy]
 refine bJ ?_
 cases a <;> cases b <;> exact bL (by kernel_rfl) w
theorem bne_run {o:Oper} {ρ:Operand→Value} {w:World} {x y:Operand} {a b:Bool} (ho:o.op = .binOp .neq 4 x y 4) (hx:ρ x = .bool a) (hy:ρ y = .bool b):(execOp ρ o).run Tryz.prog w = .ok (.value (.bool (a != b))) w:=by
 simp only [execOp,ho,hx,hy]
 refine bJ ?_
 cases a <;> cases b <;> exact bL (by kernel_rfl) w
abbrev Bd (a:Nat):Prop:=a<B9^1099511627776
theorem mulF {a b:Nat} (ha:Bd a) (hb:Bd b):jF 113 [di a,di b] (di (a*b)):=by
 intro β w vs hv
 obtain ⟨v,u,rfl,h1,h2⟩:=eG hv
 obtain ⟨A,n,c,xs,rfl,hr,hd,hn,rfl⟩:=bD.1 h1
 obtain ⟨A',n',c',ys,rfl,hr',hd',hn',rfl⟩:=bD.1 h2
 have hl:n≤1099511627776:=by rw [← hr.len];exact aV eE hn ha
 have hl' : n'≤1099511627776:=by rw [← hr'.len];exact aV eE hn' hb
 exact (kP A n c xs A' n' c' ys w hr hr' hd hd' (by omega) (by omega)).mono fun e w' ⟨v,e1,e2,e3⟩=>⟨v,e1,e3,bD.2 e2⟩
theorem jI {b:Bool} {a:Nat}:jF 109 [rb b,di a] (iz (iS b a)):=by
 intro β w vs hv
 obtain ⟨v,u,rfl,h1,h2⟩:=eG hv
 rw [bA h1]
 obtain ⟨A,n,c,xs,rfl,hr,hd,hn,rfl⟩:=bD.1 h2
 exact (jH b A n c xs w hr hd).mono fun e w' ⟨v,e1,e2,e3⟩=>⟨v,e1,e3,lT.2 e2⟩
theorem signedRF {b:Bool} {a:Nat}:jF 109 [rb b,ru a] (iz (iS b a)):=by
 intro β w vs hv
 obtain ⟨v,u,rfl,h1,h2⟩:=eG hv
 rw [bA h1]
 obtain ⟨A,n,c,xs,rfl,hr,hd,rfl⟩:=ru_holds.1 h2
 exact (jH b A n c xs w hr hd).mono fun e w' ⟨v,e1,e2,e3⟩=>⟨v,e1,e3,lT.2 e2⟩
theorem sgz_mul (a b:Int):iS (decide (a<0) != decide (b<0)) (a.natAbs*b.natAbs)=a*b:=by
 have ha:a=if decide (a<0) then -(a.natAbs:Int) else (a.natAbs:Int):=by split <;> simp_all <;> omega
 have hb:b=if decide (b<0) then -(b.natAbs:Int) else (b.natAbs:Int):=by split <;> simp_all <;> omega
 generalize decide (a<0)=na at *
 generalize decide (b<0)=nb at *
 generalize a.natAbs=x at *
 generalize b.natAbs=y at *
 subst ha
 subst hb
 cases na <;> cases nb <;> simp [iS,Int.neg_mul,Int.mul_neg]
theorem timesZ {a b:Int} (ha:Bd a.natAbs) (hb:Bd b.natAbs):jF 50 [iz a,iz b] (iz (a*b)):=by
 refine jT Tryz.func50 fun w00=>?_
 refine jL (.binOp .neq 4 (.tmp 6) (.tmp 8) 4) (.tmp 6) (.tmp 8) (rb (decide (a<0))) (rb (decide (b<0))) (rb (decide (a<0) != decide (b<0))) (fun ρ o β w ho hx hy=>⟨_,bne_run ho (bA hx) (bA hy),dE⟩) ?_
 refine jB 113 [di a.natAbs,di b.natAbs] (mulF ha hb) ?_
 refine jB 109 [rb (decide (a<0) != decide (b<0)),di (a.natAbs*b.natAbs)] (by have := @jI (decide (a<0) != decide (b<0)) (a.natAbs*b.natAbs);rw [sgz_mul] at this;exact this) ?_
 exact jS Tryz.func50
end Ab
namespace Ab
open Go.RowKit Pl
abbrev rl (b:Bool):AV Kr := .fv (.sc (.lit (.bool b)))
abbrev rI (n:Int):AV Kr := .fv (.sc (.sp (iA (.int .i64 n) rfl false (fun h=>by cases h))))
theorem eO {v:Value} (h:v.oneCell'=true) {β:List Nat} {w:World}:(AV.fv (.sc (.lit v)):AV Kr).holds β v w:=⟨rfl,h⟩
theorem bV {v u:Value} {β:List Nat} {w:World} (k:(AV.fv (.sc (.lit v)):AV Kr).holds β u w):u=v:=by have:=k.1;injection this
theorem addF {a b:Nat} (ha:Bd a) (hb:Bd b):jF 110 [di a,di b] (ru (a+b)):=by
 intro β w vs hv
 obtain ⟨v,u,rfl,h1,h2⟩:=eG hv
 obtain ⟨A,n,c,xs,rfl,hr,hd,hn,rfl⟩:=bD.1 h1
 obtain ⟨A',n',c',ys,rfl,hr',hd',hn',rfl⟩:=bD.1 h2
 have hl:n≤1099511627776:=by rw [← hr.len];exact aV eE hn ha
 have hl' : n'≤1099511627776:=by rw [← hr'.len];exact aV eE hn' hb
 refine (wQ A n c xs A' n' c' ys w hr hr' hd hd' (by omega) (by omega)).mono ?_
 rintro e w' ⟨A2,n2,c2,zs,rfl,h1,h2,h3,h4⟩
 exact ⟨_,rfl,h4,ru_holds.2 ⟨A2,n2,c2,zs,rfl,h1,h2,h3⟩⟩
theorem subF {a b:Nat} (ha:Bd a) (hle:b≤a):jF 112 [di a,di b] (di (a-b)):=by
 intro β w vs hv
 obtain ⟨v,u,rfl,h1,h2⟩:=eG hv
 obtain ⟨A,n,c,xs,rfl,hr,hd,hn,rfl⟩:=bD.1 h1
 obtain ⟨A',n',c',ys,rfl,hr',hd',hn',rfl⟩:=bD.1 h2
 have hl:n≤1099511627776:=by rw [← hr.len];exact aV eE hn ha
 have hl' : n'≤n:=by
  rcases Nat.lt_or_ge n n' with e|e
  ·have:=dC eE hd hn' (by rw [hr.len,hr'.len];exact e)
   omega
  ·exact e
 exact (wR A n c xs A' n' c' ys w hr hr' hd hd' (by omega) hl' hle).mono fun e w' ⟨v,e1,e2,e3⟩=>⟨v,e1,e3,bD.2 e2⟩
theorem compareF {a b:Nat}:jF 111 [di a,di b] (rI (bQ a b)):=by
 intro β w vs hv
 obtain ⟨v,u,rfl,h1,h2⟩:=eG hv
 obtain ⟨A,n,c,xs,rfl,hr,hd,hn,rfl⟩:=bD.1 h1
 obtain ⟨A',n',c',ys,rfl,hr',hd',hn',rfl⟩:=bD.1 h2
 exact (eN A n c xs A' n' c' ys w hr hr' hd hd' hn hn').mono fun e w' ⟨e1,e2⟩=>⟨_,e1,e2,dE⟩
theorem divF {a b:Nat} (ha:Bd a) (hb:0<b):jF 103 [di a,di b] (.tup [.sc (.sp (wF (a/b))),.sc (.sp (wF (a%b)))]):=by
 intro β w vs hv
 obtain ⟨v,u,rfl,h1,h2⟩:=eG hv
 refine (qQ (bD.1 h1) (bD.1 h2) ha hb).mono ?_
 rintro e w' ⟨v1,v2,rfl,q1,q2,q3⟩
 exact ⟨_,rfl,q3,[v1,v2],rfl,v1,[v2],rfl,⟨v1,rfl,q1⟩,v2,[],rfl,⟨v2,rfl,q2⟩,rfl⟩
theorem qR {a b:Nat} (ha:Bd a) (hb:Bd b):jF 45 [di a,di b] (di (Nat.gcd a b)):=by
 intro β w vs hv
 obtain ⟨v,u,rfl,h1,h2⟩:=eG hv
 exact (common_any v u a b w (bD.1 h1) (bD.1 h2) ha hb).mono fun e w' ⟨v,e1,e2,e3⟩=>⟨v,e1,e3,bD.2 e2⟩
theorem textF {z:Int} (hz:z.natAbs<B9^100000000):jF 108 [iz z] (rS (aX z)):=by
 intro β w vs hv
 obtain ⟨v,rfl,h1⟩:=dQ hv
 exact (text_in v z w (lT.1 h1) hz).mono fun e w' ⟨e1,e2⟩=>⟨_,e1,e2,dE⟩
theorem geq_run {o:Oper} {ρ:Operand→Value} {w:World} {x y:Operand} {a b:Int} {r:Bool} (ho:o.op = .binOp .geq 3 x y 3) (hx:ρ x = .int .i64 a) (hy:ρ y = .int .i64 b) (h:decide (b≤a)=r) :
 (execOp ρ o).run Tryz.prog w = .ok (.value (.bool r)) w:=by
 simp only [execOp,ho,hx,hy]
 refine bJ ?_
 rw [← h]
 exact bL (by kernel_rfl) w
theorem sgz_val (a:Int):a=iS (decide (a<0)) a.natAbs:=by unfold iS;split <;> simp_all <;> omega
theorem plusZ {a b:Int} (ha:Bd a.natAbs) (hb:Bd b.natAbs):jF 49 [iz a,iz b] (iz (a+b)):=by
 by_cases hs:decide (a<0)=decide (b<0)
 ·have hsum:iS (decide (a<0)) (a.natAbs+b.natAbs)=a+b:=by
   have h1:=sgz_val a
   have h2:=sgz_val b
   rw [← hs] at h2
   generalize decide (a<0)=na at *
   generalize a.natAbs=x at *
   generalize b.natAbs=y at *
   rw [h1,h2]
   cases na <;> simp [iS] <;> omega
  refine jT Tryz.func49 fun w00=>?_
  refine jL (.binOp .eql 4 (.tmp 6) (.tmp 8) 4) (.tmp 6) (.tmp 8) (rb (decide (a<0))) (rb (decide (b<0))) (rl true) (fun ρ o β w ho hx hy=>⟨.bool true,by have:=zP (w:=w) ho (bA hx) (bA hy);rw [hs] at this;simpa using this,eO rfl⟩) ?_
  refine jB 110 [di a.natAbs,di b.natAbs] (addF ha hb) ?_
  refine jB 109 [rb (decide (a<0)),ru (a.natAbs+b.natAbs)] (by have := @signedRF (decide (a<0)) (a.natAbs+b.natAbs);rw [hsum] at this;exact this) ?_
  exact jS Tryz.func49
 ·have hne:(decide (a<0)==decide (b<0))=false:=by simpa using hs
  by_cases hle:b.natAbs≤a.natAbs
  ·have hsum:iS (decide (a<0)) (a.natAbs-b.natAbs)=a+b:=by
    unfold iS;split <;> simp_all <;> omega
   have hc:decide ((0:Int)≤bQ a.natAbs b.natAbs)=true:=by unfold bQ;rw [decide_eq_true_iff,if_neg (by omega)];split <;> omega
   refine jT Tryz.func49 fun w00=>?_
   refine jL (.binOp .eql 4 (.tmp 6) (.tmp 8) 4) (.tmp 6) (.tmp 8) (rb (decide (a<0))) (rb (decide (b<0))) (rl false) (fun ρ o β w ho hx hy=>⟨.bool false,by have:=zP (w:=w) ho (bA hx) (bA hy);rw [hne] at this;exact this,eO rfl⟩) ?_
   refine jB 111 [di a.natAbs,di b.natAbs] compareF ?_
   refine jL (.binOp .geq 3 (.tmp 22) (.const (.int .i64 0)) 3) (.tmp 22) (.const (.int .i64 0)) (rI (bQ a.natAbs b.natAbs)) (.fv (.sc (.lit (.int .i64 0)))) (rl true) (fun ρ o β w ho hx hy=>⟨.bool true,geq_run ho (bA hx) (bV hy) hc,eO rfl⟩) ?_
   refine jB 112 [di a.natAbs,di b.natAbs] (subF ha hle) ?_
   refine jB 109 [rb (decide (a<0)),di (a.natAbs-b.natAbs)] (by have := @jI (decide (a<0)) (a.natAbs-b.natAbs);rw [hsum] at this;exact this) ?_
   exact jS Tryz.func49
  ·have hsum:iS (decide (b<0)) (b.natAbs-a.natAbs)=a+b:=by
    unfold iS;split <;> simp_all <;> omega
   have hc:decide ((0:Int)≤bQ a.natAbs b.natAbs)=false:=by unfold bQ;rw [decide_eq_false_iff_not,if_pos (by omega)];omega
   refine jT Tryz.func49 fun w00=>?_
   refine jL (.binOp .eql 4 (.tmp 6) (.tmp 8) 4) (.tmp 6) (.tmp 8) (rb (decide (a<0))) (rb (decide (b<0))) (rl false) (fun ρ o β w ho hx hy=>⟨.bool false,by have:=zP (w:=w) ho (bA hx) (bA hy);rw [hne] at this;exact this,eO rfl⟩) ?_
   refine jB 111 [di a.natAbs,di b.natAbs] compareF ?_
   refine jL (.binOp .geq 3 (.tmp 22) (.const (.int .i64 0)) 3) (.tmp 22) (.const (.int .i64 0)) (rI (bQ a.natAbs b.natAbs)) (.fv (.sc (.lit (.int .i64 0)))) (rl false) (fun ρ o β w ho hx hy=>⟨.bool false,geq_run ho (bA hx) (bV hy) hc,eO rfl⟩) ?_
   refine jB 112 [di b.natAbs,di a.natAbs] (subF hb (by omega)) ?_
   refine jB 109 [rb (decide (b<0)),di (b.natAbs-a.natAbs)] (by have := @jI (decide (b<0)) (b.natAbs-a.natAbs);rw [hsum] at this;exact this) ?_
   exact jS Tryz.func49
abbrev pz (d:Nat):AV Kr := .fv (.ag [.lit (.bool false),.sp (wF d)])
theorem pQ {o:Oper} {ρ:Operand→Value} {w:World} {t:Tmp} {A:Option Addr} {n c:Nat} (ho:o.op = .call ⟨.builtin .len,#[.tmp t],#[82]⟩) (hx:ρ (.tmp t) = .slice A n c) :
 (execOp ρ o).run Tryz.prog w = .ok (.value (.int .i64 n)) w:=by
 have hm:(#[Operand.tmp t].map ρ) = #[.slice A n c]:=by simp [hx]
 simp only [execOp,ho,resolve,Sem.run_bind,Sem.run_pure,Result.andThen,hm,invoke,builtin,Builtin.len_]
 simp [Sem.run_bind,run_underlying Tryz.underlying82,Result.andThen,goInt,Builtin.lenOf]
theorem qS {o:Oper} {ρ:Operand→Value} {w:World} {t:Tmp} {ad:Addr} {n c:Nat} (ho:o.op = .indexAddr 82 (.tmp t) (.const (.int .i64 0))) (hx:ρ (.tmp t) = .slice (some ad) n c) (hy:ρ (.const (.int .i64 0)) = .int .i64 0) (hn:0<n) :
 (execOp ρ o).run Tryz.prog w = .ok (.value (.pointer (some ad))) w:=by
 simp only [execOp,ho,hx,hy]
 refine bJ ?_
 have h0:¬ n=0:=by omega
 simp [go_sem,run_underlying Tryz.underlying82,hn,h0]
 done
def csP (x:Nat):CS Kr where
 size:=1
 cold:=true
 pred cs w := ∃ ad:Addr,cs = [.pointer (some ad)]∧w.cell? ad=some (.int .i64 (x:Int))
 stable cs w w' h hx:=by obtain ⟨ad,e,h⟩:=h;exact ⟨ad,e,hx.cell h rfl⟩
 len cs w h:=by obtain ⟨v,e,_⟩:=h;rw [e];rfl
 one cs w h:=by obtain ⟨v,e,_⟩:=h;rw [e];intro d hd;rw [List.mem_singleton] at hd;rw [hd];rfl
 iscold _ cs w h:=by obtain ⟨v,e,_⟩:=h;rw [e];intro d hd;rw [List.mem_singleton] at hd;rw [hd];rfl
def csNe:CS Kr where
 size:=1
 cold:=false
 pred cs _ := ∃ n:Int,cs = [.int .i64 n]∧n≠1
 stable _ _ _ h _:=h
 len cs w h:=by obtain ⟨v,e,_⟩:=h;rw [e];rfl
 one cs w h:=by obtain ⟨v,e,_⟩:=h;rw [e];intro d hd;rw [List.mem_singleton] at hd;rw [hd];rfl
 iscold h:=by cases h
abbrev rP (x:Nat):AV Kr := .fv (.sc (.sp (csP x)))
abbrev rNe:AV Kr := .fv (.sc (.sp csNe))
theorem nT {w:World} {v:Value} {q:Nat} (h:Di w v q) (h0:0<q) (hq:q<B9):∃ ad c,v = .slice (some ad) 1 c∧w.cell? ad=some (.int .i64 (q:Int)):=by
 obtain ⟨A,n,c,xs,rfl,hr,hd,hn,rfl⟩:=h
 have hl:=aV eE hn (L:=1) (by rw [Nat.pow_one];exact hq)
 match xs,hl,hr with
 | [],_,_=>simp [val] at h0
 | [x],_,hr =>
   obtain rfl:n=1:=hr.len.symm
   obtain ⟨ad,y,rfl,_,hy,hc⟩:=hr.at_ (k:=0) (by omega)
   simp at hy
   subst hy
   exact ⟨ad,c,rfl,by simpa [val,Addr.add] using hc⟩
theorem zQ {w:World} {v:Value} {q:Nat} (h:Di w v q) (hq:B9≤q):∃ A n c,v = .slice A n c∧n≠1:=by
 obtain ⟨A,n,c,xs,rfl,hr,hd,hn,rfl⟩:=h
 refine ⟨A,n,c,rfl,fun e=>?_⟩
 have h1:=bM hd
 rw [hr.len,e,Nat.pow_one] at h1
 omega
theorem zR {o:Oper} {ρ:Operand→Value} {w:World} {t:Tmp} {ad:Addr} {x:Int} (ho:o.op = .load 3 (.tmp t)) (hx:ρ (.tmp t) = .pointer (some ad)) (hc:w.cell? ad=some (.int .i64 x)) :
 (execOp ρ o).run Tryz.prog w = .ok (.value (.int .i64 x)) w:=by
 simp only [execOp,ho,hx]
 refine bJ ?_
 simp [go_sem,hc]
theorem gH {o:Oper} {ρ:Operand→Value} {w:World} {x y:Operand} {a b:Int} {r:Bool} (ho:o.op = .binOp .eql 3 x y 3) (hx:ρ x = .int .i64 a) (hy:ρ y = .int .i64 b) (h:(a==b)=r) :
 (execOp ρ o).run Tryz.prog w = .ok (.value (.bool r)) w:=by
 simp only [execOp,ho,hx,hy]
 refine bJ ?_
 rw [← h]
 exact bL (by kernel_rfl) w
theorem signedLF {a:Nat}:jF 109 [rl false,di a] (iz (a:Int)):=by
 intro β w vs hv
 obtain ⟨v,u,rfl,h1,h2⟩:=eG hv
 rw [bV h1]
 have := @jI false a β w [.bool false,u] ⟨_,_,rfl,dE,u,[],rfl,h2,rfl⟩
 simpa [iS] using this
section
variable {n:Int} {d:Nat}
theorem fractionF (hn:Bd n.natAbs) (hd:Bd d) (hd0:0<d) (hp:n.natAbs<B9^100000000) (hq:d<B9^100000000) (hs1:(aX (iS (decide (n<0)) (n.natAbs/Nat.gcd n.natAbs d))).size≤1000000000) (hs2:(aX ((d/Nat.gcd n.natAbs d:Nat):Int)).size≤1000000000) :
 jF 48 [iz n,pz d] (rS (if d/Nat.gcd n.natAbs d=1 then aX (iS (decide (n<0)) (n.natAbs/Nat.gcd n.natAbs d)) else aX (iS (decide (n<0)) (n.natAbs/Nat.gcd n.natAbs d))++⟨#[47]⟩++aX ((d/Nat.gcd n.natAbs d:Nat):Int))):=by
 have hg:0<Nat.gcd n.natAbs d:=Nat.gcd_pos_of_pos_right _ hd0
 have hq0:0<d/Nat.gcd n.natAbs d:=Nat.div_pos (Nat.gcd_le_right _ hd0) hg
 have hq1:d/Nat.gcd n.natAbs d≤d:=Nat.div_le_self _ _
 have hp1:(iS (decide (n<0)) (n.natAbs/Nat.gcd n.natAbs d)).natAbs<B9^100000000:=by rw [zJ];exact Nat.lt_of_le_of_lt (Nat.div_le_self _ _) hp
 have hq2:((d/Nat.gcd n.natAbs d:Nat):Int).natAbs<B9^100000000:=by rw [Int.natAbs_natCast];exact Nat.lt_of_le_of_lt hq1 hq
 generalize hG:Nat.gcd n.natAbs d=g at *
 generalize hP:iS (decide (n<0)) (n.natAbs/g)=p at *
 generalize hQ:d/g=q at *
 by_cases h1:q=1
 ·rw [if_pos h1]
  refine jT Tryz.func48 fun w00=>?_
  refine jB 45 [di n.natAbs,di d] (by have:=qR hn hd;rw [hG] at this;exact this) ?_
  refine jB 103 [di n.natAbs,di g] (divF hn hg) ?_
  refine jB 103 [di d,di g] (by have:=divF (a:=d) (b:=g) hd hg;rw [hQ] at this;exact this) ?_
  refine jB 109 [rb (decide (n<0)),di (n.natAbs/g)] (by have := @jI (decide (n<0)) (n.natAbs/g);rw [hP] at this;exact this) ?_
  refine jB 108 [iz p] (textF hp1) ?_
  refine jL (.call ⟨.builtin .len,#[.tmp 41],#[82]⟩) (.tmp 41) (.tmp 41) (di q) (di q) (.fv (.sc (.lit (.int .i64 1)))) (fun ρ o β w ho hx _=>?_) ?_
  ·obtain ⟨ad,c,e,_⟩:=nT (bD.1 hx) hq0 (by rw [h1];exact eE)
   exact ⟨_,pQ ho e,eO rfl⟩
  refine jL (.indexAddr 82 (.tmp 45) (.const (.int .i64 0))) (.tmp 45) (.const (.int .i64 0)) (di q) (.fv (.sc (.lit (.int .i64 0)))) (rP q) (fun ρ o β w ho hx hy=>?_) ?_
  ·obtain ⟨ad,c,e,hc⟩:=nT (bD.1 hx) hq0 (by rw [h1];exact eE)
   exact ⟨_,qS ho e (bV hy) (by omega),⟨ad,rfl,hc⟩⟩
  refine jL (.load 3 (.tmp 46)) (.tmp 46) (.tmp 46) (rP q) (rP q) (.fv (.sc (.lit (.int .i64 1)))) (fun ρ o β w ho hx _=>?_) ?_
  ·obtain ⟨ad,e,hc⟩:=hx
   injection e with e
   rw [h1] at hc
   exact ⟨_,zR ho e hc,eO rfl⟩
  exact jS Tryz.func48
 ·rw [if_neg h1]
  have hcat1:(aX p).size+(⟨#[47]⟩:ByteArray).size≤9223372036854775807:=by
   have:(⟨#[47]⟩:ByteArray).size=1:=rfl
   omega
  have hcat2:(aX p++⟨#[47]⟩:ByteArray).size+(aX (q:Int)).size≤9223372036854775807:=by
   have:(⟨#[47]⟩:ByteArray).size=1:=rfl
   rw [ByteArray.size_append]
   omega
  by_cases h2:q<B9
  ·refine jT Tryz.func48 fun w00=>?_
   refine jB 45 [di n.natAbs,di d] (by have:=qR hn hd;rw [hG] at this;exact this) ?_
   refine jB 103 [di n.natAbs,di g] (divF hn hg) ?_
   refine jB 103 [di d,di g] (by have:=divF (a:=d) (b:=g) hd hg;rw [hQ] at this;exact this) ?_
   refine jB 109 [rb (decide (n<0)),di (n.natAbs/g)] (by have := @jI (decide (n<0)) (n.natAbs/g);rw [hP] at this;exact this) ?_
   refine jB 108 [iz p] (textF hp1) ?_
   refine jL (.call ⟨.builtin .len,#[.tmp 41],#[82]⟩) (.tmp 41) (.tmp 41) (di q) (di q) (.fv (.sc (.lit (.int .i64 1)))) (fun ρ o β w ho hx _=>?_) ?_
   ·obtain ⟨ad,c,e,_⟩:=nT (bD.1 hx) hq0 h2
    exact ⟨_,pQ ho e,eO rfl⟩
   refine jL (.indexAddr 82 (.tmp 45) (.const (.int .i64 0))) (.tmp 45) (.const (.int .i64 0)) (di q) (.fv (.sc (.lit (.int .i64 0)))) (rP q) (fun ρ o β w ho hx hy=>?_) ?_
   ·obtain ⟨ad,c,e,hc⟩:=nT (bD.1 hx) hq0 h2
    exact ⟨_,qS ho e (bV hy) (by omega),⟨ad,rfl,hc⟩⟩
   refine jL (.load 3 (.tmp 46)) (.tmp 46) (.tmp 46) (rP q) (rP q) (rI q) (fun ρ o β w ho hx _=>?_) ?_
   ·obtain ⟨ad,e,hc⟩:=hx
    injection e with e
    exact ⟨_,zR ho e hc,dE⟩
   refine jL (.binOp .eql 3 (.tmp 47) (.const (.int .i64 1)) 3) (.tmp 47) (.const (.int .i64 1)) (rI q) (.fv (.sc (.lit (.int .i64 1)))) (rl false) (fun ρ o β w ho hx hy=>⟨.bool false,gH ho (bA hx) (bV hy) (by simp;omega),eO rfl⟩) ?_
   refine jL (.binOp .add 9 (.tmp 51) (.const (.string ⟨#[47]⟩)) 9) (.tmp 51) (.const (.string ⟨#[47]⟩)) (rS (aX p)) (.fv (.sc (.lit (.string ⟨#[47]⟩)))) (rS (aX p++⟨#[47]⟩)) (fun ρ o β w ho hx hy=>⟨_,iP ho (bA hx) (bV hy) hcat1,dE⟩) ?_
   refine jB 109 [rl false,di q] signedLF ?_
   refine jB 108 [iz (q:Int)] (textF hq2) ?_
   refine jL (.binOp .add 9 (.tmp 52) (.tmp 55) 9) (.tmp 52) (.tmp 55) (rS (aX p++⟨#[47]⟩)) (rS (aX (q:Int))) (rS (aX p++⟨#[47]⟩++aX (q:Int))) (fun ρ o β w ho hx hy=>⟨_,iP ho (bA hx) (bA hy) hcat2,dE⟩) ?_
   exact jS Tryz.func48
  ·refine jT Tryz.func48 fun w00=>?_
   refine jB 45 [di n.natAbs,di d] (by have:=qR hn hd;rw [hG] at this;exact this) ?_
   refine jB 103 [di n.natAbs,di g] (divF hn hg) ?_
   refine jB 103 [di d,di g] (by have:=divF (a:=d) (b:=g) hd hg;rw [hQ] at this;exact this) ?_
   refine jB 109 [rb (decide (n<0)),di (n.natAbs/g)] (by have := @jI (decide (n<0)) (n.natAbs/g);rw [hP] at this;exact this) ?_
   refine jB 108 [iz p] (textF hp1) ?_
   refine jL (.call ⟨.builtin .len,#[.tmp 41],#[82]⟩) (.tmp 41) (.tmp 41) (di q) (di q) rNe (fun ρ o β w ho hx _=>?_) ?_
   ·obtain ⟨A,m,c,e,hm⟩:=zQ (bD.1 hx) (Nat.le_of_not_lt h2)
    exact ⟨_,pQ ho e,⟨(m:Int),rfl,by omega⟩⟩
   refine jL (.binOp .eql 3 (.tmp 42) (.const (.int .i64 1)) 3) (.tmp 42) (.const (.int .i64 1)) rNe (.fv (.sc (.lit (.int .i64 1)))) (rl false) (fun ρ o β w ho hx hy=>?_) ?_
   ·obtain ⟨m,e,hm⟩:=hx
    injection e with e
    exact ⟨.bool false,gH ho e (bV hy) (by simpa using hm),eO rfl⟩
   refine jL (.binOp .add 9 (.tmp 51) (.const (.string ⟨#[47]⟩)) 9) (.tmp 51) (.const (.string ⟨#[47]⟩)) (rS (aX p)) (.fv (.sc (.lit (.string ⟨#[47]⟩)))) (rS (aX p++⟨#[47]⟩)) (fun ρ o β w ho hx hy=>⟨_,iP ho (bA hx) (bV hy) hcat1,dE⟩) ?_
   refine jB 109 [rl false,di q] signedLF ?_
   refine jB 108 [iz (q:Int)] (textF hq2) ?_
   refine jL (.binOp .add 9 (.tmp 52) (.tmp 55) 9) (.tmp 52) (.tmp 55) (rS (aX p++⟨#[47]⟩)) (rS (aX (q:Int))) (rS (aX p++⟨#[47]⟩++aX (q:Int))) (fun ρ o β w ho hx hy=>⟨_,iP ho (bA hx) (bA hy) hcat2,dE⟩) ?_
   exact jS Tryz.func48
end
end Ab
section
open Go.RowKit Pl
def yE (w:World) (r r' : ByteArray) (ws:List Nat):Prop :=
 Dig B9 ws∧AllDig (aC r')∧aT (aC r)=val B9 ws+B9^ws.length*aT (aC r')∧r'.size+9*ws.length=r.size
def ParseAt (w:World) (r:ByteArray) (dv wv:Value) (wr:World):Prop :=
 ∃ (r' : ByteArray) (ws:List Nat),dv = .string r'∧wr.ownsRow (w.heap.size+1) 3 1 wv ws.length (ws.map dT)∧Dig B9 ws∧AllDig (aC r')∧aT (aC r)=val B9 ws+B9^ws.length*aT (aC r')∧r'.size+9*ws.length=r.size ∧
   Below w.heap.size w wr∧wr.heap[w.heap.size]?=some (.cells #[.bool false,.slice none 0 0] 84 (0,0))∧w.heap.size<wr.heap.size
set_option maxRecDepth 100000 in
theorem tK (r:ByteArray) (w:World) (hd:AllDig (aC r)) (h0:0<r.size) (hs:r.size≤100000):Calls Tryz.prog 101 #[.string r] w fun e w' => ∃ v,e = .returned v∧In w' v (iS false (aT (aC r)))∧Below w.heap.size w w':=by
 have HD:=aH (aI hd hs)
 have k0:(0:Int)<r.size:=by omega
 obtain ⟨c,hc⟩:∃ c:Nat,(r[0]'h0).toNat=c:=⟨_,rfl⟩
 have k45:((c:Int)==45)=false:=by
  have:=hd _ (List.mem_of_getElem? (dA h0))
  rw [hc] at this
  simp;omega
 clear hd hs
 go_enter Tryz.func101,Tryz.ntmps101
 go_wp2
 clear hc k45
 go_loopw [0,4] (fun dv wv wr=>ParseAt w r dv wv wr) (fun dv _ _=>mI dv)
 case atStart=>exact ⟨r,[],rfl,⟨rfl,.inl ⟨rfl,rfl⟩⟩,Dig.nil _,HD.out.1,by simp [val],by simp,(aB _ _).alloc (aR _) _,heap_alloc_new w _,by simp⟩
 case round =>
  obtain ⟨r',ws,rfl,hrow,hdw,hd',hval,hsz,hb,hh,hs⟩:=hrel
  have hr1:r'.size≤100000:=by have:=HD.out.2;omega
  have hw1:ws.length≤100000:=by have:=HD.out.2;omega
  by_cases h9:9<r'.size
  ·have k1:(9:Int)<r'.size:=by omega
   have k2:(r'.size:Int)≤100000:=by omega
   have hlt:aT (aC (r'.extract (r'.size-9) r'.size))<B9:=by
    have e1:aC (r'.extract (r'.size-9) r'.size)=(aC r').drop (r'.size-9):=by rw [aS,List.take_of_length_le (by rw [aG];exact aR _)]
    rw [e1]
    have h1:=fY (hd'.drop (r'.size-9))
    rw [List.length_drop,aG,show r'.size-(r'.size-9)=9 by omega] at h1
    exact h1
   have hnat:aT (aC r')=aT (aC (r'.extract 0 (r'.size-9)))*B9+aT (aC (r'.extract (r'.size-9) r'.size)):=by
    have e1:aC (r'.extract (r'.size-9) r'.size)=(aC r').drop (r'.size-9):=by rw [aS,List.take_of_length_le (by rw [aG];exact aR _)]
    have e2:aC (r'.extract 0 (r'.size-9))=(aC r').take (r'.size-9):=by rw [aS,List.drop_zero]
    rw [e1,e2]
    conv=>lhs;rw [← List.take_append_drop (r'.size-9) (aC r'),eV]
    rw [List.length_drop,aG,show r'.size-(r'.size-9)=9 by omega]
    rfl
   have cv:=aH (fun W=>lP (r'.extract (r'.size-9) r'.size) W (by rw [aS];exact (hd'.take _).drop _) (by simp;omega))
   obtain ⟨x,hx⟩:∃ x,x=aT (aC (r'.extract (r'.size-9) r'.size)):=⟨_,rfl⟩
   rw [← hx] at cv hlt hnat
   have hnext:yE w r (r'.extract 0 (r'.size-9)) (ws ++ [x]):=by
    refine ⟨hdw.app (Dig.cons hlt (Dig.nil _)),by rw [aS,List.drop_zero];exact hd'.take _,?_,?_⟩
    ·rw [bZ,List.length_append,List.length_singleton,Nat.pow_succ,hval,hnat]
     generalize aT (aC (r'.extract 0 (r'.size-9)))=m
     generalize B9^ws.length=P
     generalize B9=V
     grind
    ·rw [List.length_append,List.length_singleton];simp;omega
   have HE:=aH (aI hrow (aI hnext (aI hb (aI hh (aI hs (by omega:ws.length≤2199023255999))))))
   clear hrow hnext hb hh hs hdw hd' hval hsz hlt hnat hx hw1 hr1
   go_wp2_with fail
   refine (cv.out _).mono ?_
   rintro e w' ⟨rfl,rfl⟩
   go_wp2_with (at_builtin;refine fP (r:=x) (B:=w.heap.size) rfl _ _ rfl rfl HE.out.1 rfl HE.out.2.2.2.2.2 HE.out.2.2.1 (Nat.le_succ _) HE.out.2.2.2.2.1 ?_)
   intro v' w3 hr3 hbw hg3
   have hr3' : w3.ownsRow (w.heap.size+1) 3 1 v' (ws ++ [x]).length ((ws ++ [x]).map dT):=by
    rw [List.length_append,List.length_singleton,List.map_append];exact hr3
   have hh3:w3.heap[w.heap.size]?=some (.cells #[.bool false,.slice none 0 0] 84 (0,0)):=by
    have h2:=(Below.heap_alloc w' (.cells #[.int .i64 (x:Int)] 3) _ HE.out.2.2.2.2.1).trans HE.out.2.2.2.1
    refine fU hg3 h2 ?_
    intro he
    have:=lR HE.out.1 _ he.symm
    omega
   have hs3:w.heap.size<w3.heap.size:=by have:=hg3.size;have:=HE.out.2.2.2.2.1;simp at *;omega
   have HX:=aH (aI hr3' (aI hbw (aI hh3 hs3)))
   clear hr3 hr3' hbw hg3 hh3 hs3
   go_wp2
   go_roundw
   case rel =>
    obtain ⟨h1,h2,h3,h4⟩:=HE.out.2.1
    exact ⟨_,ws ++ [x],rfl,HX.out.1,h1,h2,h3,h4,HX.out.2.1,HX.out.2.2.1,HX.out.2.2.2⟩
   case measure =>
    clear HX HE
    simp [mI];omega
  ·have k1:¬ (9:Int)<r'.size:=by omega
   have cv:=aH (fun W=>lP r' W hd' (by omega))
   have hlt:aT (aC r')<B9:=by
    have h1:=fY hd'
    rw [aG] at h1
    refine Nat.lt_of_lt_of_le h1 ?_
    have:10^r'.size≤10^9:=Nat.pow_le_pow_right (by omega) (by omega)
    exact this
   obtain ⟨x,hx⟩:∃ x,x=aT (aC r'):=⟨_,rfl⟩
   rw [← hx] at cv hlt hval
   have hfin:iS false (val B9 (ws ++ [x]))=iS false (aT (aC r)):=by rw [bZ,hval]
   have HE:=aH (aI hrow (aI hfin (aI hb (aI hh (aI hs (aI (by omega:ws.length≤2199023255999) (hdw.app (Dig.cons hlt (Dig.nil _)))))))))
   clear hrow hfin hb hh hs hdw hd' hval hsz hlt hx hw1 hr1 h9
   go_wp2_with fail
   refine (cv.out _).mono ?_
   rintro e w' ⟨rfl,rfl⟩
   go_wp2_with (at_builtin;refine fP (r:=x) (B:=w.heap.size) rfl _ _ rfl rfl HE.out.1 rfl HE.out.2.2.2.2.2.1 HE.out.2.2.1 (Nat.le_succ _) HE.out.2.2.2.2.1 ?_)
   intro v' w3 hr3 hbw hg3
   have hr3' : w3.ownsRow (w.heap.size+1) 3 1 v' (ws.length+1) ((ws ++ [x]).map dT):=by
    rw [List.map_append];exact hr3
   obtain ⟨A3,c3,rfl,hri⟩:=uA hr3'
   have hh3:w3.heap[w.heap.size]?=some (.cells #[.bool false,.slice none 0 0] 84 (0,0)):=by
    have h2:=(Below.heap_alloc w' (.cells #[.int .i64 (x:Int)] 3) _ HE.out.2.2.2.2.1).trans HE.out.2.2.2.1
    refine fU hg3 h2 ?_
    intro he
    have:=lR HE.out.1 _ he.symm
    omega
   have hs3:w.heap.size<w3.heap.size:=by have:=hg3.size;have:=HE.out.2.2.2.2.1;simp at *;omega
   have HX:=aH (aI hri (aI hbw (aI hh3 hs3)))
   clear hr3 hr3' hbw hg3 hh3 hs3 hri
   go_wp2_with fail
   refine (jH false A3 _ c3 (ws ++ [x]) _ HX.out.1 HE.out.2.2.2.2.2.2).mono ?_
   rintro e w2 ⟨v,rfl,q,b⟩
   rw [HE.out.2.1] at q
   have hh2:w2.heap[w.heap.size]?=some (.cells #[.bool false,.slice none 0 0] 84 (0,0)):=(b.block _ HX.out.2.2.2).trans HX.out.2.2.1
   have hb2:Below w.heap.size w w2:=HX.out.2.1.trans (b.mono (Nat.le_of_lt HX.out.2.2.2))
   obtain ⟨A',n',c',xs',rfl,q'⟩:=id q
   have Q:=aH (aI q (aI hh2 hb2))
   clear q q' b hh2 hb2
   obtain ⟨⟨b0,b1⟩,f0,f1⟩:=xZ Q.out.2.1
   go_wp2
   obtain ⟨q,hh2,hb2⟩:=Q.out
   obtain ⟨⟨g0,g1⟩,_⟩:=xZ (sI hh2 (x := .bool (decide (iS false (aT (aC r))<0))) (y := .slice A' n' c'))
   refine bodyPost_ret (v := .agg #[.bool (decide (iS false (aT (aC r))<0)),.slice A' n' c']) (by simp [results,Tryz.results101,go_sem,g0,g1]) rfl ⟨_,rfl,q.set2 hh2 (fun n h=>by cases h) (fun n h=>by cases h),?_⟩
   exact (hb2.setCell (p:=⟨w.heap.size,0,none⟩) (aR _) _).setCell (p:=⟨w.heap.size,1,none⟩) (aR _) _
set_option maxRecDepth 100000 in
theorem parse_minus (r : ByteArray) (w : World) (hd:AllDig (aC r)) (hs:r.size≤100000):Calls Tryz.prog 101 #[.string (⟨#[45]⟩++r)] w fun e w' => ∃ v,e = .returned v∧In w' v (iS true (aT (aC r)))∧Below w.heap.size w w':=by
 have HD:=aH (aI hd hs)
 obtain ⟨s,hs'⟩:∃ s,s=(⟨#[45]⟩++r:ByteArray):=⟨_,rfl⟩
 have hsz : s.size = r.size + 1 := by rw [hs',ByteArray.size_append];have:(⟨#[45]⟩:ByteArray).size=1:=rfl
                                      omega
 have h0:0<s.size:=by omega
 have k0:(0:Int)<s.size:=by omega
 have k1:(s.size:Int)≤100001:=by omega
 have hbs:aC s=45::aC r:=by rw [hs'];simp [aC]
 have hc:(s[0]'h0).toNat=45:=by
  have h1:=dA h0
  rw [hbs] at h1
  simp at h1
  rw [← h1];rfl
 have hext:s.extract 1 (r.size+1)=r:=by
  subst hs'
  apply Ab.ba_ext
  simp [hsz]
  exact List.take_of_length_le (Nat.le_of_eq rfl)
 rw [← hs']
 clear hd hs hs' hbs
 go_enter Tryz.func101,Tryz.ntmps101
 go_wp2
 try rw [hext]
 clear hc hext
 go_loopw [0,4] (fun dv wv wr=>ParseAt w r dv wv wr) (fun dv _ _=>mI dv)
 case atStart=>exact ⟨r,[],rfl,⟨rfl,.inl ⟨rfl,rfl⟩⟩,Dig.nil _,HD.out.1,by simp [val],by simp,(aB _ _).alloc (aR _) _,heap_alloc_new w _,by simp⟩
 case round =>
  obtain ⟨r',ws,rfl,hrow,hdw,hd',hval,hsz,hb,hh,hs⟩:=hrel
  have hr1:r'.size≤100000:=by have:=HD.out.2;omega
  have hw1:ws.length≤100000:=by have:=HD.out.2;omega
  by_cases h9:9<r'.size
  ·have k1:(9:Int)<r'.size:=by omega
   have k2:(r'.size:Int)≤100000:=by omega
   have hlt:aT (aC (r'.extract (r'.size-9) r'.size))<B9:=by
    have e1:aC (r'.extract (r'.size-9) r'.size)=(aC r').drop (r'.size-9):=by rw [aS,List.take_of_length_le (by rw [aG];exact aR _)]
    rw [e1]
    have h1:=fY (hd'.drop (r'.size-9))
    rw [List.length_drop,aG,show r'.size-(r'.size-9)=9 by omega] at h1
    exact h1
   have hnat:aT (aC r')=aT (aC (r'.extract 0 (r'.size-9)))*B9+aT (aC (r'.extract (r'.size-9) r'.size)):=by
    have e1:aC (r'.extract (r'.size-9) r'.size)=(aC r').drop (r'.size-9):=by rw [aS,List.take_of_length_le (by rw [aG];exact aR _)]
    have e2:aC (r'.extract 0 (r'.size-9))=(aC r').take (r'.size-9):=by rw [aS,List.drop_zero]
    rw [e1,e2]
    conv=>lhs;rw [← List.take_append_drop (r'.size-9) (aC r'),eV]
    rw [List.length_drop,aG,show r'.size-(r'.size-9)=9 by omega]
    rfl
   have cv:=aH (fun W=>lP (r'.extract (r'.size-9) r'.size) W (by rw [aS];exact (hd'.take _).drop _) (by simp;omega))
   obtain ⟨x,hx⟩:∃ x,x=aT (aC (r'.extract (r'.size-9) r'.size)):=⟨_,rfl⟩
   rw [← hx] at cv hlt hnat
   have hnext:yE w r (r'.extract 0 (r'.size-9)) (ws ++ [x]):=by
    refine ⟨hdw.app (Dig.cons hlt (Dig.nil _)),by rw [aS,List.drop_zero];exact hd'.take _,?_,?_⟩
    ·rw [bZ,List.length_append,List.length_singleton,Nat.pow_succ,hval,hnat]
     generalize aT (aC (r'.extract 0 (r'.size-9)))=m
     generalize B9^ws.length=P
     generalize B9=V
     grind
    ·rw [List.length_append,List.length_singleton];simp;omega
   have HE:=aH (aI hrow (aI hnext (aI hb (aI hh (aI hs (by omega:ws.length≤2199023255999))))))
   clear hrow hnext hb hh hs hdw hd' hval hsz hlt hnat hx hw1 hr1
   go_wp2_with fail
   refine (cv.out _).mono ?_
   rintro e w' ⟨rfl,rfl⟩
   go_wp2_with (at_builtin;refine fP (r:=x) (B:=w.heap.size) rfl _ _ rfl rfl HE.out.1 rfl HE.out.2.2.2.2.2 HE.out.2.2.1 (Nat.le_succ _) HE.out.2.2.2.2.1 ?_)
   intro v' w3 hr3 hbw hg3
   have hr3' : w3.ownsRow (w.heap.size+1) 3 1 v' (ws ++ [x]).length ((ws ++ [x]).map dT):=by
    rw [List.length_append,List.length_singleton,List.map_append];exact hr3
   have hh3:w3.heap[w.heap.size]?=some (.cells #[.bool false,.slice none 0 0] 84 (0,0)):=by
    have h2:=(Below.heap_alloc w' (.cells #[.int .i64 (x:Int)] 3) _ HE.out.2.2.2.2.1).trans HE.out.2.2.2.1
    refine fU hg3 h2 ?_
    intro he
    have:=lR HE.out.1 _ he.symm
    omega
   have hs3:w.heap.size<w3.heap.size:=by have:=hg3.size;have:=HE.out.2.2.2.2.1;simp at *;omega
   have HX:=aH (aI hr3' (aI hbw (aI hh3 hs3)))
   clear hr3 hr3' hbw hg3 hh3 hs3
   go_wp2
   go_roundw
   case rel =>
    obtain ⟨h1,h2,h3,h4⟩:=HE.out.2.1
    exact ⟨_,ws ++ [x],rfl,HX.out.1,h1,h2,h3,h4,HX.out.2.1,HX.out.2.2.1,HX.out.2.2.2⟩
   case measure =>
    clear HX HE
    simp [mI];omega
  ·have k1:¬ (9:Int)<r'.size:=by omega
   have cv:=aH (fun W=>lP r' W hd' (by omega))
   have hlt:aT (aC r')<B9:=by
    have h1:=fY hd'
    rw [aG] at h1
    refine Nat.lt_of_lt_of_le h1 ?_
    have:10^r'.size≤10^9:=Nat.pow_le_pow_right (by omega) (by omega)
    exact this
   obtain ⟨x,hx⟩:∃ x,x=aT (aC r'):=⟨_,rfl⟩
   rw [← hx] at cv hlt hval
   have hfin:iS true (val B9 (ws ++ [x]))=iS true (aT (aC r)):=by rw [bZ,hval]
   have HE:=aH (aI hrow (aI hfin (aI hb (aI hh (aI hs (aI (by omega:ws.length≤2199023255999) (hdw.app (Dig.cons hlt (Dig.nil _)))))))))
   clear hrow hfin hb hh hs hdw hd' hval hsz hlt hx hw1 hr1 h9
   go_wp2_with fail
   refine (cv.out _).mono ?_
   rintro e w' ⟨rfl,rfl⟩
   go_wp2_with (at_builtin;refine fP (r:=x) (B:=w.heap.size) rfl _ _ rfl rfl HE.out.1 rfl HE.out.2.2.2.2.2.1 HE.out.2.2.1 (Nat.le_succ _) HE.out.2.2.2.2.1 ?_)
   intro v' w3 hr3 hbw hg3
   have hr3' : w3.ownsRow (w.heap.size+1) 3 1 v' (ws.length+1) ((ws ++ [x]).map dT):=by
    rw [List.map_append];exact hr3
   obtain ⟨A3,c3,rfl,hri⟩:=uA hr3'
   have hh3:w3.heap[w.heap.size]?=some (.cells #[.bool false,.slice none 0 0] 84 (0,0)):=by
    have h2:=(Below.heap_alloc w' (.cells #[.int .i64 (x:Int)] 3) _ HE.out.2.2.2.2.1).trans HE.out.2.2.2.1
    refine fU hg3 h2 ?_
    intro he
    have:=lR HE.out.1 _ he.symm
    omega
   have hs3:w.heap.size<w3.heap.size:=by have:=hg3.size;have:=HE.out.2.2.2.2.1;simp at *;omega
   have HX:=aH (aI hri (aI hbw (aI hh3 hs3)))
   clear hr3 hr3' hbw hg3 hh3 hs3 hri
   go_wp2_with fail
   refine (jH true A3 _ c3 (ws ++ [x]) _ HX.out.1 HE.out.2.2.2.2.2.2).mono ?_
   rintro e w2 ⟨v,rfl,q,b⟩
   rw [HE.out.2.1] at q
   have hh2:w2.heap[w.heap.size]?=some (.cells #[.bool false,.slice none 0 0] 84 (0,0)):=(b.block _ HX.out.2.2.2).trans HX.out.2.2.1
   have hb2:Below w.heap.size w w2:=HX.out.2.1.trans (b.mono (Nat.le_of_lt HX.out.2.2.2))
   obtain ⟨A',n',c',xs',rfl,q'⟩:=id q
   have Q:=aH (aI q (aI hh2 hb2))
   clear q q' b hh2 hb2
   obtain ⟨⟨b0,b1⟩,f0,f1⟩:=xZ Q.out.2.1
   go_wp2
   obtain ⟨q,hh2,hb2⟩:=Q.out
   obtain ⟨⟨g0,g1⟩,_⟩:=xZ (sI hh2 (x := .bool (decide (iS true (aT (aC r))<0))) (y := .slice A' n' c'))
   refine bodyPost_ret (v := .agg #[.bool (decide (iS true (aT (aC r))<0)),.slice A' n' c']) (by simp [results,Tryz.results101,go_sem,g0,g1]) rfl ⟨_,rfl,q.set2 hh2 (fun n h=>by cases h) (fun n h=>by cases h),?_⟩
   exact (hb2.setCell (p:=⟨w.heap.size,0,none⟩) (aR _) _).setCell (p:=⟨w.heap.size,1,none⟩) (aR _) _
end
namespace Ab
open Go.RowKit Pl
theorem fI (n:Nat):AllDig (aC (decB n)):=by
 have:aC (decB n)=Lib.decDigits n:=cL n
 rw [this];exact (bU n).2.1
theorem eR (n:Nat):aT (aC (decB n))=n:=by
 have:aC (decB n)=Lib.decDigits n:=cL n
 rw [this];exact (bU n).1
theorem qT (n:Nat):0<(decB n).size:=by
 have h:(decB n).size=(Lib.decDigits n).length:=by simp [decB,ByteArray.size]
 rw [h];exact List.length_pos_iff.2 (bU n).2.2
theorem pz_of {β:List Nat} {v:Value} {w:World} {d:Nat} (h:In w v (d:Int)):(pz d).holds β v w:=by
 obtain ⟨A,n,c,xs,rfl,hr,hd,hn,hv⟩:=h
 have e:decide ((d:Int)<0)=false:=decide_eq_false (uB d)
 rw [e]
 exact ⟨[.bool false,.slice A n c],rfl,[.bool false],_,rfl,⟨rfl,rfl⟩,[.slice A n c],[],rfl,⟨_,rfl,A,n,c,xs,rfl,hr,hd,hn,by simpa using hv⟩,rfl⟩
theorem parseF {z:Int} (hz:(decB z.natAbs).size≤100000):jF 101 [rS (aX z)] (iz z):=by
 intro β w vs hv
 obtain ⟨v,rfl,h1⟩:=dQ hv
 rw [bA h1]
 unfold aX
 split
 ·rename_i h
  refine (parse_minus (decB z.natAbs) w (fI _) hz).mono fun e w' ⟨v,e1,e2,e3⟩=>⟨v,e1,e3,lT.2 ?_⟩
  rw [eR] at e2
  have:iS true z.natAbs=z:=by simp [iS];omega
  rwa [this] at e2
 ·rename_i h
  refine (tK (decB z.natAbs) w (fI _) (qT _) hz).mono fun e w' ⟨v,e1,e2,e3⟩=>⟨v,e1,e3,lT.2 ?_⟩
  rw [eR] at e2
  have:iS false z.natAbs=z:=by simp [iS];omega
  rwa [this] at e2
theorem zS {d:Nat} (hz:(decB d).size≤100000):jF 101 [rS (decB d)] (pz d):=by
 intro β w vs hv
 obtain ⟨v,rfl,h1⟩:=dQ hv
 rw [bA h1]
 refine (tK (decB d) w (fI _) (qT _) hz).mono fun e w' ⟨v,e1,e2,e3⟩=>⟨v,e1,e3,pz_of ?_⟩
 rw [eR] at e2
 exact e2
theorem wholeOneF:jF 102 [.fv (.sc (.lit (.int .i64 1)))] (pz 1):=by
 intro β w vs hv
 obtain ⟨v,rfl,h1⟩:=dQ hv
 rw [bV h1]
 exact (yA 1 w (by constructor <;> omega)).mono fun e w' ⟨v,e1,e2,e3⟩=>⟨v,e1,e3,pz_of e2⟩
theorem eS {s:ByteArray} (hs:s.size≤9223372036854775807):jF 42 [rS s] (rI (aJ s:Nat)):=by
 intro β w vs hv
 obtain ⟨v,rfl,h1⟩:=dQ hv
 rw [bA h1]
 exact (slash_any s w hs).mono fun e w' ⟨e1,e2⟩=>⟨_,e1,by rw [e2];exact aB _ _,dE⟩
theorem qU {o:Oper} {ρ:Operand→Value} {w:World} {t:Tmp} {T:TypeId} {s:ByteArray} (ho:o.op = .call ⟨.builtin .len,#[.tmp t],#[T]⟩) (hT:Tryz.prog.underlying T=some .string) (hx:ρ (.tmp t) = .string s) :
 (execOp ρ o).run Tryz.prog w = .ok (.value (.int .i64 s.size)) w:=zB ho hT hx
theorem nU {o:Oper} {ρ:Operand→Value} {w:World} {T:TypeId} {x y:Operand} {s:ByteArray} {k:Nat} (ho:o.op = .slice T x none (some y) none) (hT:Tryz.prog.underlying T=some .string) (hx:ρ x = .string s) (hy:ρ y = .int .i64 (k:Int)) (hk:k≤s.size) :
 (execOp ρ o).run Tryz.prog w = .ok (.value (.string (s.extract 0 k))) w:=by
 simp only [execOp,ho,hx]
 refine bJ ?_
 have h1:(k:Int)≤s.size:=by omega
 simp only [Option.map,hy]
 rw [run_sliceAt_string w _ _ _ _ _ hT]
 simp [Instr.slice,run_underlying hT,Instr.sliceBounds,run_sliceBound,h1,hk]
theorem nV {o:Oper} {ρ:Operand→Value} {w:World} {T:TypeId} {x y:Operand} {s:ByteArray} {k:Nat} (ho:o.op = .slice T x (some y) none none) (hT:Tryz.prog.underlying T=some .string) (hx:ρ x = .string s) (hy:ρ y = .int .i64 (k:Int)) (hk:k≤s.size) :
 (execOp ρ o).run Tryz.prog w = .ok (.value (.string (s.extract k s.size))) w:=by
 simp only [execOp,ho,hx]
 refine bJ ?_
 have h1:(k:Int)≤s.size:=by omega
 simp only [Option.map,hy]
 rw [run_sliceAt_string w _ _ _ _ _ hT]
 simp [Instr.slice,run_underlying hT,Instr.sliceBounds,run_sliceBound,h1,hk]
theorem qV {o:Oper} {ρ:Operand→Value} {w:World} {x:Operand} {a:Nat} (ho:o.op = .binOp .add 3 x (.const (.int .i64 1)) 3) (hx:ρ x = .int .i64 (a:Int)) (hy:ρ (.const (.int .i64 1)) = .int .i64 1) (ha:a<9223372036854775807) :
 (execOp ρ o).run Tryz.prog w = .ok (.value (.int .i64 ((a+1:Nat):Int))) w:=by
 simp only [execOp,ho,hx,hy]
 refine bJ ?_
 have e:IntKind.i64.wrap ((a:Int)+1)=((a+1:Nat):Int):=by
  rw [IntWalk.i64_left,IntWalk.wrap64_in _ ⟨by omega,by omega⟩];omega
 simp [go_sem,e]
theorem iT {q:Rat} (h:q.den=1):writeB q=aX q.num:=by
 unfold writeB aX overB
 rw [if_pos h]
theorem eT {q:Rat} (h:q.den≠1):writeB q=aX q.num++(⟨#[47]⟩++decB q.den):=by
 unfold writeB aX overB
 rw [if_neg h]
theorem dig47 {l:List UInt8} (h:AllDig l):∀ c∈l,(c==47)=false:=by
 intro c hc
 have:=h c hc
 rw [beq_eq_false_iff_ne]
 rintro rfl
 revert this
 decide
theorem text47 (z:Int):∀ c∈aC (aX z),(c==47)=false:=by
 unfold aX
 split
 ·intro c hc
  have e:aC (⟨#[45]⟩++decB z.natAbs:ByteArray)=45::aC (decB z.natAbs):=by simp [aC]
  rw [e] at hc
  rcases List.mem_cons.1 hc with rfl|hc
  ·rfl
  ·exact dig47 (fI _) c hc
 ·exact dig47 (fI _)
theorem sL (z:Int):aJ (aX z)=(aX z).size:=by
 unfold aJ
 rw [← aG,List.findIdx_eq_length]
 exact text47 z
theorem sM (z:Int) (r:ByteArray):aJ (aX z++(⟨#[47]⟩++r))=(aX z).size:=by
 unfold aJ
 have e:aC (aX z++(⟨#[47]⟩++r))=aC (aX z)++47::aC r:=by simp [aC]
 rw [e,List.findIdx_append,if_neg (by
  rw [Nat.not_lt,Nat.le_iff_lt_or_eq]
  right
  exact ((List.findIdx_eq_length).2 (text47 z)).symm),List.findIdx_cons]
 simp [← aG]
theorem ext_lo (a b:ByteArray):(a++b).extract 0 a.size=a:=by
 apply ba_ext
 simp
 exact List.take_of_length_le (Nat.le_of_eq rfl)
theorem ext_hi (a b:ByteArray):(a++(⟨#[47]⟩++b)).extract (a.size+1) (a++(⟨#[47]⟩++b)).size=b:=by
 have h:aC ((a++(⟨#[47]⟩++b)).extract (a.size+1) (a++(⟨#[47]⟩++b)).size)=aC b:=by
  rw [aS,List.take_of_length_le (by rw [aG];exact aR _)]
  have e:aC (a++(⟨#[47]⟩++b))=aC a++47::aC b:=by simp [aC]
  rw [e,List.drop_append,List.drop_of_length_le (by rw [aG];omega),List.nil_append,aG,Nat.add_sub_cancel_left]
  rfl
 exact ba_ext h
abbrev prt (q:Rat):AV Kr := .tup [.ag [rB (decide (q.num<0)),.sp (wF q.num.natAbs)],.ag [.lit (.bool false),.sp (wF q.den)]]
theorem zT {q:Rat} (hn:(decB q.num.natAbs).size≤100000) (hd:(decB q.den).size≤100000):jF 44 [rS (writeB q)] (prt q):=by
 have hts:(aX q.num).size≤100001:=by
  unfold aX
  split
  ·rw [ByteArray.size_append]
   have:(⟨#[45]⟩:ByteArray).size=1:=rfl
   omega
  ·omega
 by_cases h1:q.den=1
 ·have e1:q.den=1:=h1
  rw [iT h1]
  have hsl:=sL q.num
  have hres:prt q = .tup [.ag [rB (decide (q.num<0)),.sp (wF q.num.natAbs)],.ag [.lit (.bool false),.sp (wF 1)]]:=by show AV.tup _=AV.tup _;rw [e1]
  rw [hres]
  generalize hs:aX q.num=s at *
  refine jT Tryz.func44 fun w00=>?_
  refine jB 42 [rS s] (eS (by omega)) ?_
  refine jL (.call ⟨.builtin .len,#[.tmp 10],#[9]⟩) (.tmp 10) (.tmp 10) (rS s) (rS s) (rI s.size) (fun ρ o β w ho hx _=>⟨_,qU ho Tryz.underlying9 (bA hx),dE⟩) ?_
  refine jL (.binOp .eql 3 (.tmp 9) (.tmp 11) 3) (.tmp 9) (.tmp 11) (rI (aJ s:Nat)) (rI s.size) (rl true) (fun ρ o β w ho hx hy=>⟨.bool true,gH ho (bA hx) (bA hy) (by rw [hsl];simp),eO rfl⟩) ?_
  refine jB 101 [rS s] (by rw [← hs];exact parseF hn) ?_
  refine jB 102 [.fv (.sc (.lit (.int .i64 1)))] wholeOneF ?_
  exact jS Tryz.func44
 ·rw [eT h1]
  have hsl:=sM q.num (decB q.den)
  have hx1:=ext_lo (aX q.num) (⟨#[47]⟩++decB q.den)
  have hx2:=ext_hi (aX q.num) (decB q.den)
  have hsz:(aX q.num++(⟨#[47]⟩++decB q.den):ByteArray).size=(aX q.num).size+1+(decB q.den).size:=by
   rw [ByteArray.size_append,ByteArray.size_append]
   have:(⟨#[47]⟩:ByteArray).size=1:=rfl
   omega
  generalize hs:(aX q.num++(⟨#[47]⟩++decB q.den):ByteArray)=s at *
  generalize hk:(aX q.num).size=k at *
  refine jT Tryz.func44 fun w00=>?_
  refine jB 42 [rS s] (eS (by omega)) ?_
  refine jL (.call ⟨.builtin .len,#[.tmp 10],#[9]⟩) (.tmp 10) (.tmp 10) (rS s) (rS s) (rI s.size) (fun ρ o β w ho hx _=>⟨_,qU ho Tryz.underlying9 (bA hx),dE⟩) ?_
  refine jL (.binOp .eql 3 (.tmp 9) (.tmp 11) 3) (.tmp 9) (.tmp 11) (rI (aJ s:Nat)) (rI s.size) (rl false) (fun ρ o β w ho hx hy=>⟨.bool false,gH ho (bA hx) (bA hy) (by rw [hsl,hsz];simp;omega),eO rfl⟩) ?_
  refine jL (.slice 9 (.tmp 16) none (some (.tmp 17)) none) (.tmp 16) (.tmp 17) (rS s) (rI (aJ s:Nat)) (rS (aX q.num)) (fun ρ o β w ho hx hy=>?_) ?_
  ·have:=nU (w:=w) ho Tryz.underlying9 (bA hx) (by have:=bA hy;rwa [hsl] at this) (by omega)
   rw [hx1] at this
   exact ⟨_,this,dE⟩
  refine jB 101 [rS (aX q.num)] (parseF hn) ?_
  refine jL (.binOp .add 3 (.tmp 21) (.const (.int .i64 1)) 3) (.tmp 21) (.const (.int .i64 1)) (rI (aJ s:Nat)) (.fv (.sc (.lit (.int .i64 1)))) (rI ((k+1:Nat):Int)) (fun ρ o β w ho hx hy=>⟨_,qV ho (by have:=bA hx;rwa [hsl] at this) (bV hy) (by omega),dE⟩) ?_
  refine jL (.slice 9 (.tmp 20) (some (.tmp 22)) none none) (.tmp 20) (.tmp 22) (rS s) (rI ((k+1:Nat):Int)) (rS (decB q.den)) (fun ρ o β w ho hx hy=>?_) ?_
  ·have:=nV (w:=w) ho Tryz.underlying9 (bA hx) (bA hy) (by omega)
   rw [hx2] at this
   exact ⟨_,this,dE⟩
  refine jB 101 [rS (decB q.den)] (zS hd) ?_
  exact jS Tryz.func44
theorem mk_parts (n:Int) {d:Nat} (h:d≠0):(mkRat n d).num=n/(Nat.gcd n.natAbs d:Nat)∧(mkRat n d).den=d/Nat.gcd n.natAbs d:=by
 rw [← Rat.normalize_eq_mkRat h,Rat.normalize_eq]
 exact ⟨rfl,rfl⟩
theorem sgz_div (n:Int) {g:Nat} (hg:g ∣ n.natAbs) (h0:0<g):iS (decide (n<0)) (n.natAbs/g)=n/(g:Int):=by
 obtain ⟨k,hk⟩:=hg
 have e:n.natAbs/g=k:=by rw [hk];exact Nat.mul_div_cancel_left _ h0
 rw [e]
 unfold iS
 split
 ·rename_i h
  have hn:n=(g:Int)*(-(k:Int)):=by
   have:n = -(n.natAbs:Int):=by simp at h;omega
   rw [this,hk];simp [Int.mul_neg]
  rw [hn,Int.mul_ediv_cancel_left _ (by omega)]
 ·rename_i h
  have hn:n=(g:Int)*(k:Int):=by
   have:n=(n.natAbs:Int):=by simp at h;omega
   rw [this,hk];simp
  rw [hn,Int.mul_ediv_cancel_left _ (by omega)]
theorem bW (d:Nat):aX (d:Int)=decB d:=by unfold aX;rw [if_neg (uB d)];rfl
theorem wG (n:Int) {d:Nat} (h:0<d):(if d/Nat.gcd n.natAbs d=1 then aX (iS (decide (n<0)) (n.natAbs/Nat.gcd n.natAbs d)) else aX (iS (decide (n<0)) (n.natAbs/Nat.gcd n.natAbs d))++⟨#[47]⟩++aX ((d/Nat.gcd n.natAbs d:Nat):Int))=writeB (mkRat n d):=by
 obtain ⟨e1,e2⟩:=mk_parts n (Nat.ne_of_gt h)
 have hg:0<Nat.gcd n.natAbs d:=Nat.gcd_pos_of_pos_right _ h
 rw [sgz_div n (Nat.gcd_dvd_left _ _) hg,← e1,← e2,bW]
 split
 ·rename_i h1;rw [iT h1]
 ·rename_i h1;rw [eT h1,ByteArray.append_assoc]
theorem rargs {P:Program} {f:FuncId} {l l' : List (AV Kr)} {x:AV Kr} (h:Fits P f l x) (hl:∀ β vs w,holdsA β l' vs w→holdsA β l vs w):Fits P f l' x:=fun β w vs hv=>h β w vs (hl β vs w hv)
theorem mP {P:Program} {f:FuncId} {l:List (AV Kr)} {x y:AV Kr} (h:Fits P f l x) (hl:∀ β v w,x.holds β v w→y.holds β v w):Fits P f l y:=fun β w vs hv=>(h β w vs hv).mono fun _ _ ⟨v,e1,e2,e3⟩=>⟨v,e1,e2,hl β v _ e3⟩
theorem pz_iz {β:List Nat} {v:Value} {w:World} {d:Nat} (h:(pz d).holds β v w):(iz (d:Int)).holds β v w:=by
 obtain ⟨cs,rfl,a,r,rfl,h1,b,r2,rfl,h2,h3⟩:=h
 have h1':=h1.1
 subst h1'
 refine ⟨_,rfl,[.bool false],_,rfl,?_,b,r2,rfl,?_,h3⟩
 ·show [Value.bool false] = [.bool (decide ((d:Int)<0))]
  rw [decide_eq_false (uB d)]
 ·obtain ⟨u,e,hu⟩:=h2
  exact ⟨u,e,by simpa using hu⟩
theorem iz_pz {β:List Nat} {v:Value} {w:World} {d:Nat} (h:(iz (d:Int)).holds β v w):(pz d).holds β v w:=pz_of (lT.1 h)
theorem timesZP {a:Int} {b:Nat} (ha:Bd a.natAbs) (hb:Bd b):jF 50 [iz a,pz b] (iz (a*b)) :=
 rargs (timesZ ha (by simpa using hb)) fun β vs w ⟨v,r,e,h1,u,r2,e2,h2,h3⟩=>⟨v,r,e,h1,u,r2,e2,pz_iz h2,h3⟩
theorem timesPP {a b:Nat} (ha:Bd a) (hb:Bd b):jF 50 [pz a,pz b] (pz (a*b)) :=
 mP (rargs (timesZ (a:=(a:Int)) (b:=(b:Int)) (by simpa using ha) (by simpa using hb)) fun β vs w ⟨v,r,e,h1,u,r2,e2,h2,h3⟩=>⟨v,r,e,pz_iz h1,u,r2,e2,pz_iz h2,h3⟩)
  fun β v w h=>iz_pz (d:=a*b) (by simpa using h)
abbrev rU (n:Nat):AV Kr := .fv (.sc (.sp (iA (.int .u8 (n:Int)) rfl true (fun _=>rfl))))
theorem index_s {o:Oper} {ρ:Operand→Value} {w:World} {t:Tmp} {s:ByteArray} {c:Nat} (ho:o.op = .index 9 (.tmp t) (.const (.int .i64 0))) (hx:ρ (.tmp t) = .string s) (hy:ρ (.const (.int .i64 0)) = .int .i64 0) (hc:∃ h:0<s.size,(s[0]'h).toNat=c) :
 (execOp ρ o).run Tryz.prog w = .ok (.value (.int .u8 (c:Int))) w:=by
 obtain ⟨h,hc⟩:=hc
 simp only [execOp,ho,hx,hy]
 refine bJ ?_
 have h0:¬ s.size=0:=by omega
 simp [go_sem,run_underlying Tryz.underlying9,h,h0,hc]
theorem ueq_run {o:Oper} {ρ:Operand→Value} {w:World} {x y:Operand} {a b:Int} {r:Bool} (ho:o.op = .binOp .eql 5 x y 5) (hx:ρ x = .int .u8 a) (hy:ρ y = .int .u8 b) (h:(a==b)=r) :
 (execOp ρ o).run Tryz.prog w = .ok (.value (.bool r)) w:=by
 simp only [execOp,ho,hx,hy]
 refine bJ ?_
 rw [← h]
 exact bL (by kernel_rfl) w
theorem subn_run {o:Oper} {ρ:Operand→Value} {w:World} {x y:Operand} {a b:Nat} (ho:o.op = .binOp .sub 3 x y 3) (hx:ρ x = .int .i64 (a:Int)) (hy:ρ y = .int .i64 (b:Int)) (hle:b≤a) (ha:a≤9223372036854775807) :
 (execOp ρ o).run Tryz.prog w = .ok (.value (.int .i64 ((a-b:Nat):Int))) w:=by
 simp only [execOp,ho,hx,hy]
 refine bJ ?_
 have e:IntKind.i64.wrap ((a:Int)-b)=((a-b:Nat):Int):=by
  rw [IntWalk.i64_left,IntWalk.wrap64_in _ ⟨by omega,by omega⟩];omega
 simp [go_sem,e]
theorem lss_run {o:Oper} {ρ:Operand→Value} {w:World} {x y:Operand} {a b:Int} {r:Bool} (ho:o.op = .binOp .lss 3 x y 3) (hx:ρ x = .int .i64 a) (hy:ρ y = .int .i64 b) (h:decide (a<b)=r) :
 (execOp ρ o).run Tryz.prog w = .ok (.value (.bool r)) w:=by
 simp only [execOp,ho,hx,hy]
 refine bJ ?_
 rw [← h]
 exact bL (by kernel_rfl) w
theorem index_26 {o:Oper} {ρ:Operand→Value} {w:World} {t:Tmp} {s:ByteArray} {c:Nat} (ho:o.op = .index 22 (.tmp t) (.const (.int .i64 0))) (hx:ρ (.tmp t) = .string s) (hy:ρ (.const (.int .i64 0)) = .int .i64 0) (hc:∃ h:0<s.size,(s[0]'h).toNat=c) :
 (execOp ρ o).run Tryz.prog w = .ok (.value (.int .u8 (c:Int))) w:=by
 obtain ⟨h,hc⟩:=hc
 simp only [execOp,ho,hx,hy]
 refine bJ ?_
 have h0:¬ s.size=0:=by omega
 simp [go_sem,run_underlying Tryz.underlying22,h,h0,hc]
theorem leq_run {o:Oper} {ρ:Operand→Value} {w:World} {x y:Operand} {a b:Int} {r:Bool} (ho:o.op = .binOp .leq 3 x y 3) (hx:ρ x = .int .i64 a) (hy:ρ y = .int .i64 b) (h:decide (a≤b)=r) :
 (execOp ρ o).run Tryz.prog w = .ok (.value (.bool r)) w:=by
 simp only [execOp,ho,hx,hy]
 refine bJ ?_
 rw [← h]
 exact bL (by kernel_rfl) w
section
variable {f:FuncId} {w00:World} {Out:Value→World→Prop} {c:Cfg Kr}
abbrev rli (n:Int):AV Kr := .fv (.sc (.lit (.int .i64 n)))
theorem cR (t:Tmp) (T:TypeId) (hT:Tryz.prog.underlying T=some .string) (s:ByteArray) (hg:Ok Tryz.prog f w00 Out (dB Tryz.prog 1000 (c.give (rI (s.size:Nat)))))
 (hc:(c.op.map fun o=>o.op,c.okT (rI (s.size:Nat)),c.ev (.tmp t),c.ev (.tmp t))=(some (.call ⟨.builtin .len,#[.tmp t],#[T]⟩),true,(rS s),(rS s)):=by kernel_rfl):Ok Tryz.prog f w00 Out c :=
 oM (.call ⟨.builtin .len,#[.tmp t],#[T]⟩) (.tmp t) (.tmp t) (rS s) (rS s) (rI (s.size:Nat)) hc (by simp [Op.operands,Call.operands]) (by simp [Op.operands,Call.operands]) (fun ρ o β w ho hx hy=>⟨_,qU ho hT (bA hx),dE⟩) hg
theorem iI (t:Tmp) (n a:Int) (r:Bool) (h:decide (n<a)=r) (hg:Ok Tryz.prog f w00 Out (dB Tryz.prog 1000 (c.give (rl r))))
 (hc:(c.op.map fun o=>o.op,c.okT (rl r),c.ev (.tmp t),c.ev (.const (.int .i64 n)))=(some (.binOp .gtr 3 (.tmp t) (.const (.int .i64 n)) 3),true,(rI a),(rli n)):=by kernel_rfl):Ok Tryz.prog f w00 Out c :=
 oM (.binOp .gtr 3 (.tmp t) (.const (.int .i64 n)) 3) (.tmp t) (.const (.int .i64 n)) (rI a) (rli n) (rl r) hc (by simp [Op.operands]) (by simp [Op.operands]) (fun ρ o β w ho hx hy=>⟨_,zC ho (bA hx) (bV hy) h,eO rfl⟩) hg
theorem ridn (t:Tmp) (s:ByteArray) (h:∃ h:0<s.size,(s[0]'h).toNat=45) (hg:Ok Tryz.prog f w00 Out (dB Tryz.prog 1000 (c.give (.fv (.sc (.lit (.int .u8 45)))))))
 (hc:(c.op.map fun o=>o.op,c.okT (.fv (.sc (.lit (.int .u8 45)))),c.ev (.tmp t),c.ev (.const (.int .i64 0)))=(some (.index 9 (.tmp t) (.const (.int .i64 0))),true,(rS s),(rli 0)):=by kernel_rfl):Ok Tryz.prog f w00 Out c :=
 oM (.index 9 (.tmp t) (.const (.int .i64 0))) (.tmp t) (.const (.int .i64 0)) (rS s) (rli 0) (.fv (.sc (.lit (.int .u8 45)))) hc (by simp [Op.operands]) (by simp [Op.operands]) (fun ρ o β w ho hx hy=>⟨_,index_s ho (bA hx) (bV hy) h,eO rfl⟩) hg
theorem ridp (t:Tmp) (s:ByteArray) (n:Nat) (h:∃ h:0<s.size,(s[0]'h).toNat=n) (hg:Ok Tryz.prog f w00 Out (dB Tryz.prog 1000 (c.give (rU n))))
 (hc:(c.op.map fun o=>o.op,c.okT (rU n),c.ev (.tmp t),c.ev (.const (.int .i64 0)))=(some (.index 9 (.tmp t) (.const (.int .i64 0))),true,(rS s),(rli 0)):=by kernel_rfl):Ok Tryz.prog f w00 Out c :=
 oM (.index 9 (.tmp t) (.const (.int .i64 0))) (.tmp t) (.const (.int .i64 0)) (rS s) (rli 0) (rU n) hc (by simp [Op.operands]) (by simp [Op.operands]) (fun ρ o β w ho hx hy=>⟨_,index_s ho (bA hx) (bV hy) h,dE⟩) hg
theorem ridnR (t:Tmp) (s:ByteArray) (h:∃ h:0<s.size,(s[0]'h).toNat=45) (hg:Ok Tryz.prog f w00 Out (dB Tryz.prog 1000 (c.give (.fv (.sc (.lit (.int .u8 45)))))))
 (hc:(c.op.map fun o=>o.op,c.okT (.fv (.sc (.lit (.int .u8 45)))),c.ev (.tmp t),c.ev (.const (.int .i64 0)))=(some (.index 22 (.tmp t) (.const (.int .i64 0))),true,(rS s),(rli 0)):=by kernel_rfl):Ok Tryz.prog f w00 Out c :=
 oM (.index 22 (.tmp t) (.const (.int .i64 0))) (.tmp t) (.const (.int .i64 0)) (rS s) (rli 0) (.fv (.sc (.lit (.int .u8 45)))) hc (by simp [Op.operands]) (by simp [Op.operands]) (fun ρ o β w ho hx hy=>⟨_,index_26 ho (bA hx) (bV hy) h,eO rfl⟩) hg
theorem ridpR (t:Tmp) (s:ByteArray) (n:Nat) (h:∃ h:0<s.size,(s[0]'h).toNat=n) (hg:Ok Tryz.prog f w00 Out (dB Tryz.prog 1000 (c.give (rU n))))
 (hc:(c.op.map fun o=>o.op,c.okT (rU n),c.ev (.tmp t),c.ev (.const (.int .i64 0)))=(some (.index 22 (.tmp t) (.const (.int .i64 0))),true,(rS s),(rli 0)):=by kernel_rfl):Ok Tryz.prog f w00 Out c :=
 oM (.index 22 (.tmp t) (.const (.int .i64 0))) (.tmp t) (.const (.int .i64 0)) (rS s) (rli 0) (rU n) hc (by simp [Op.operands]) (by simp [Op.operands]) (fun ρ o β w ho hx hy=>⟨_,index_26 ho (bA hx) (bV hy) h,dE⟩) hg
theorem rueq (t:Tmp) (n:Nat) (h:((n:Int)==45)=false) (hg:Ok Tryz.prog f w00 Out (dB Tryz.prog 1000 (c.give (rl false))))
 (hc:(c.op.map fun o=>o.op,c.okT (rl false),c.ev (.tmp t),c.ev (.const (.int .u8 45)))=(some (.binOp .eql 5 (.tmp t) (.const (.int .u8 45)) 5),true,(rU n),(.fv (.sc (.lit (.int .u8 45))))):=by kernel_rfl):Ok Tryz.prog f w00 Out c :=
 oM (.binOp .eql 5 (.tmp t) (.const (.int .u8 45)) 5) (.tmp t) (.const (.int .u8 45)) (rU n) (.fv (.sc (.lit (.int .u8 45)))) (rl false) hc (by simp [Op.operands]) (by simp [Op.operands]) (fun ρ o β w ho hx hy=>⟨.bool false,ueq_run ho (bA hx) (bV hy) h,eO rfl⟩) hg
theorem rshi (t i:Tmp) (T:TypeId) (hT:Tryz.prog.underlying T=some .string) (s:ByteArray) (k:Nat) (a:ByteArray) (hk:k≤s.size) (ha:s.extract 0 k=a) (hg:Ok Tryz.prog f w00 Out (dB Tryz.prog 1000 (c.give (rS a))))
 (hc:(c.op.map fun o=>o.op,c.okT (rS a),c.ev (.tmp t),c.ev (.tmp i))=(some (.slice T (.tmp t) none (some (.tmp i)) none),true,(rS s),(rI (k:Int))):=by kernel_rfl):Ok Tryz.prog f w00 Out c :=
 oM (.slice T (.tmp t) none (some (.tmp i)) none) (.tmp t) (.tmp i) (rS s) (rI (k:Int)) (rS a) hc (by simp [Op.operands]) (by simp [Op.operands]) (fun ρ o β w ho hx hy=>⟨_,ha▸nU ho hT (bA hx) (bA hy) hk,dE⟩) hg
theorem zU (t i:Tmp) (T:TypeId) (hT:Tryz.prog.underlying T=some .string) (s:ByteArray) (k:Nat) (d:ByteArray) (hk:k≤s.size) (hd:s.extract k s.size=d) (hg:Ok Tryz.prog f w00 Out (dB Tryz.prog 1000 (c.give (rS d))))
 (hc:(c.op.map fun o=>o.op,c.okT (rS d),c.ev (.tmp t),c.ev (.tmp i))=(some (.slice T (.tmp t) (some (.tmp i)) none none),true,(rS s),(rI (k:Int))):=by kernel_rfl):Ok Tryz.prog f w00 Out c :=
 oM (.slice T (.tmp t) (some (.tmp i)) none none) (.tmp t) (.tmp i) (rS s) (rI (k:Int)) (rS d) hc (by simp [Op.operands]) (by simp [Op.operands]) (fun ρ o β w ho hx hy=>⟨_,hd▸nV ho hT (bA hx) (bA hy) hk,dE⟩) hg
theorem rsl1 (t:Tmp) (T:TypeId) (hT:Tryz.prog.underlying T=some .string) (s d:ByteArray) (hk:1≤s.size) (hd:s.extract 1 s.size=d) (hg:Ok Tryz.prog f w00 Out (dB Tryz.prog 1000 (c.give (rS d))))
 (hc:(c.op.map fun o=>o.op,c.okT (rS d),c.ev (.tmp t),c.ev (.const (.int .i64 1)))=(some (.slice T (.tmp t) (some (.const (.int .i64 1))) none none),true,(rS s),(rli 1)):=by kernel_rfl):Ok Tryz.prog f w00 Out c :=
 oM (.slice T (.tmp t) (some (.const (.int .i64 1))) none none) (.tmp t) (.const (.int .i64 1)) (rS s) (rli 1) (rS d) hc (by simp [Op.operands]) (by simp [Op.operands]) (fun ρ o β w ho hx hy=>⟨_,hd▸nV (k:=1) ho hT (bA hx) (bV hy) hk,dE⟩) hg
theorem zV (t:Tmp) (k:Nat) (h:k<9223372036854775807) (hg:Ok Tryz.prog f w00 Out (dB Tryz.prog 1000 (c.give (rI ((k+1:Nat):Int)))))
 (hc:(c.op.map fun o=>o.op,c.okT (rI ((k+1:Nat):Int)),c.ev (.tmp t),c.ev (.const (.int .i64 1)))=(some (.binOp .add 3 (.tmp t) (.const (.int .i64 1)) 3),true,(rI (k:Int)),(rli 1)):=by kernel_rfl):Ok Tryz.prog f w00 Out c :=
 oM (.binOp .add 3 (.tmp t) (.const (.int .i64 1)) 3) (.tmp t) (.const (.int .i64 1)) (rI (k:Int)) (rli 1) (rI ((k+1:Nat):Int)) hc (by simp [Op.operands]) (by simp [Op.operands]) (fun ρ o β w ho hx hy=>⟨_,qV ho (bA hx) (bV hy) h,dE⟩) hg
theorem sN (t:Tmp) (T:TypeId) (s b:ByteArray) (r:Bool) (h:(s.toList==b.toList)=r) (hg:Ok Tryz.prog f w00 Out (dB Tryz.prog 1000 (c.give (rl r))))
 (hc:(c.op.map fun o=>o.op,c.okT (rl r),c.ev (.tmp t),c.ev (.const (.string b)))=(some (.binOp .eql T (.tmp t) (.const (.string b)) T),true,(rS s),(.fv (.sc (.lit (.string b))))):=by kernel_rfl):Ok Tryz.prog f w00 Out c :=
 oM (.binOp .eql T (.tmp t) (.const (.string b)) T) (.tmp t) (.const (.string b)) (rS s) (.fv (.sc (.lit (.string b)))) (rl r) hc (by simp [Op.operands]) (by simp [Op.operands]) (fun ρ o β w ho hx hy=>⟨_,gE ho (bA hx) (bV hy) h,eO rfl⟩) hg
theorem tT (t i:Tmp) (a b:Int) (r:Bool) (h:decide (a<b)=r) (hg:Ok Tryz.prog f w00 Out (dB Tryz.prog 1000 (c.give (rl r))))
 (hc:(c.op.map fun o=>o.op,c.okT (rl r),c.ev (.tmp t),c.ev (.tmp i))=(some (.binOp .lss 3 (.tmp t) (.tmp i) 3),true,(rI a),(rI b)):=by kernel_rfl):Ok Tryz.prog f w00 Out c :=
 oM (.binOp .lss 3 (.tmp t) (.tmp i) 3) (.tmp t) (.tmp i) (rI a) (rI b) (rl r) hc (by simp [Op.operands]) (by simp [Op.operands]) (fun ρ o β w ho hx hy=>⟨_,lss_run ho (bA hx) (bA hy) h,eO rfl⟩) hg
theorem wT (t i:Tmp) (a b:Nat) (hle:b≤a) (ha:a≤9223372036854775807) (hg:Ok Tryz.prog f w00 Out (dB Tryz.prog 1000 (c.give (rI ((a-b:Nat):Int)))))
 (hc:(c.op.map fun o=>o.op,c.okT (rI ((a-b:Nat):Int)),c.ev (.tmp t),c.ev (.tmp i))=(some (.binOp .sub 3 (.tmp t) (.tmp i) 3),true,(rI (a:Int)),(rI (b:Int))):=by kernel_rfl):Ok Tryz.prog f w00 Out c :=
 oM (.binOp .sub 3 (.tmp t) (.tmp i) 3) (.tmp t) (.tmp i) (rI (a:Int)) (rI (b:Int)) (rI ((a-b:Nat):Int)) hc (by simp [Op.operands]) (by simp [Op.operands]) (fun ρ o β w ho hx hy=>⟨_,subn_run ho (bA hx) (bA hy) hle ha,dE⟩) hg
theorem wU (t i:Tmp) (a n:Int) (r:Bool) (h:decide (a≤n)=r) (hg:Ok Tryz.prog f w00 Out (dB Tryz.prog 1000 (c.give (rl r))))
 (hc:(c.op.map fun o=>o.op,c.okT (rl r),c.ev (.tmp t),c.ev (.tmp i))=(some (.binOp .leq 3 (.tmp t) (.tmp i) 3),true,(rI a),(rli n)):=by kernel_rfl):Ok Tryz.prog f w00 Out c :=
 oM (.binOp .leq 3 (.tmp t) (.tmp i) 3) (.tmp t) (.tmp i) (rI a) (rli n) (rl r) hc (by simp [Op.operands]) (by simp [Op.operands]) (fun ρ o β w ho hx hy=>⟨_,leq_run ho (bA hx) (bV hy) h,eO rfl⟩) hg
end
abbrev qno:AV Kr := .tup [.sc (.lit (.int .i64 0)),.sc (.lit (.int .i64 0)),.sc (.lit (.bool false))]
section
variable {s u:ByteArray} {c:Nat}
theorem quick_long (h20:decide ((20:Int)<s.size)=true):jF 46 [rS s] qno:=by
 refine jT Tryz.func46 fun w00=>?_
 refine cR 11 9 Tryz.underlying9 s ?_
 refine iI 12 20 s.size true h20 ?_
 exact jS Tryz.func46
theorem quick_k9n (h20:decide ((20:Int)<s.size)=false) (h0:decide ((0:Int)<s.size)=true) (h1:1≤s.size) (hc:∃ h:0<s.size,(s[0]'h).toNat=45) (hext:s.extract 1 s.size=u) (hus:u.size≤s.size) (h9:decide ((9:Int)<(aJ u:Nat))=true):jF 46 [rS s] qno:=by
 have hs20:s.size≤20:=by rw [decide_eq_false_iff_not] at h20;omega
 refine jT Tryz.func46 fun w00=>?_
 refine cR 11 9 Tryz.underlying9 s ?_
 refine iI 12 20 s.size false h20 ?_
 refine cR 14 9 Tryz.underlying9 s ?_
 refine iI 15 0 s.size true h0 ?_
 refine ridn 18 s hc ?_
 refine rsl1 23 9 Tryz.underlying9 s u h1 hext ?_
 refine jB 42 [rS u] (eS (by omega)) ?_
 refine iI 27 9 (aJ u:Nat) true h9 ?_
 exact jS Tryz.func46
theorem quick_l10n (h20:decide ((20:Int)<s.size)=false) (h0:decide ((0:Int)<s.size)=true) (h1:1≤s.size) (hc:∃ h:0<s.size,(s[0]'h).toNat=45) (hext:s.extract 1 s.size=u) (hus:u.size≤s.size) (h9:decide ((9:Int)<(aJ u:Nat))=false) (h10:decide ((10:Int)<((u.size-aJ u:Nat):Int))=true):jF 46 [rS s] qno:=by
 have hs20:s.size≤20:=by rw [decide_eq_false_iff_not] at h20;omega
 refine jT Tryz.func46 fun w00=>?_
 refine cR 11 9 Tryz.underlying9 s ?_
 refine iI 12 20 s.size false h20 ?_
 refine cR 14 9 Tryz.underlying9 s ?_
 refine iI 15 0 s.size true h0 ?_
 refine ridn 18 s hc ?_
 refine rsl1 23 9 Tryz.underlying9 s u h1 hext ?_
 refine jB 42 [rS u] (eS (by omega)) ?_
 refine iI 27 9 (aJ u:Nat) false h9 ?_
 refine cR 30 9 Tryz.underlying9 u ?_
 refine wT 31 32 (u.size) (aJ u) (cB _) (by omega) ?_
 refine iI 33 10 ((u.size-aJ u:Nat):Int) true h10 ?_
 exact jS Tryz.func46
theorem quick_k9p (h20:decide ((20:Int)<s.size)=false) (h0:decide ((0:Int)<s.size)=true) (hc:∃ h:0<s.size,(s[0]'h).toNat=c) (hc45:((c:Int)==45)=false) (h9:decide ((9:Int)<(aJ s:Nat))=true):jF 46 [rS s] qno:=by
 have hs20:s.size≤20:=by rw [decide_eq_false_iff_not] at h20;omega
 refine jT Tryz.func46 fun w00=>?_
 refine cR 11 9 Tryz.underlying9 s ?_
 refine iI 12 20 s.size false h20 ?_
 refine cR 14 9 Tryz.underlying9 s ?_
 refine iI 15 0 s.size true h0 ?_
 refine ridp 18 s c hc ?_
 refine rueq 19 c hc45 ?_
 refine jB 42 [rS s] (eS (by omega)) ?_
 refine iI 27 9 (aJ s:Nat) true h9 ?_
 exact jS Tryz.func46
theorem quick_l10p (h20:decide ((20:Int)<s.size)=false) (h0:decide ((0:Int)<s.size)=true) (hc:∃ h:0<s.size,(s[0]'h).toNat=c) (hc45:((c:Int)==45)=false) (h9:decide ((9:Int)<(aJ s:Nat))=false) (h10:decide ((10:Int)<((s.size-aJ s:Nat):Int))=true):jF 46 [rS s] qno:=by
 have hs20:s.size≤20:=by rw [decide_eq_false_iff_not] at h20;omega
 refine jT Tryz.func46 fun w00=>?_
 refine cR 11 9 Tryz.underlying9 s ?_
 refine iI 12 20 s.size false h20 ?_
 refine cR 14 9 Tryz.underlying9 s ?_
 refine iI 15 0 s.size true h0 ?_
 refine ridp 18 s c hc ?_
 refine rueq 19 c hc45 ?_
 refine jB 42 [rS s] (eS (by omega)) ?_
 refine iI 27 9 (aJ s:Nat) false h9 ?_
 refine cR 30 9 Tryz.underlying9 s ?_
 refine wT 31 32 (s.size) (aJ s) (cB _) (by omega) ?_
 refine iI 33 10 ((s.size-aJ s:Nat):Int) true h10 ?_
 exact jS Tryz.func46
end
theorem valueF {d:ByteArray} {n:Nat} (hd:AllDig (aC d)) (hs:d.size≤17) (hn:aT (aC d)=n):jF 104 [rS d] (rI n):=by
 intro β w vs hv
 obtain ⟨v,rfl,h1⟩:=dQ hv
 rw [bA h1]
 exact (lP d w hd hs).mono fun e w' ⟨e1,e2⟩=>⟨_,e1,by rw [e2];exact aB _ _,by rw [hn];exact dE⟩
theorem neg_run {o:Oper} {ρ:Operand→Value} {w:World} {x y:Operand} {a:Nat} (ho:o.op = .binOp .sub 3 x y 3) (hx:ρ x = .int .i64 0) (hy:ρ y = .int .i64 (a:Int)) (ha:a<4611686018427387904) :
 (execOp ρ o).run Tryz.prog w = .ok (.value (.int .i64 (-(a:Int)))) w:=by
 simp only [execOp,ho,hx,hy]
 refine bJ ?_
 have e:IntKind.i64.wrap (0-(a:Int)) = -(a:Int):=by
  rw [IntWalk.i64_left,IntWalk.wrap64_in _ ⟨by omega,by omega⟩];omega
 rw [Int.zero_sub] at e
 simp [go_sem,e]
section
variable {s u d1 d2:ByteArray} {c n1 n2:Nat}
theorem quick_yes1n (h20:decide ((20:Int)<s.size)=false) (h0:decide ((0:Int)<s.size)=true) (h1:1≤s.size) (hc:∃ h:0<s.size,(s[0]'h).toNat=45) (hext:s.extract 1 s.size=u) (hus:u.size≤s.size) (hn1:n1<4611686018427387904) (h9:decide ((9:Int)<(aJ u:Nat))=false) (h10:decide ((10:Int)<((u.size-aJ u:Nat):Int))=false) (hd1:u.extract 0 (aJ u)=d1) (v1:jF 104 [rS d1] (rI n1)) (hlt:decide (((aJ u:Nat):Int)<(u.size:Nat))=false):jF 46 [rS s] (.tup [.sc (.sp (iA (.int .i64 (-(n1:Int))) rfl false (fun h=>by cases h))),.sc (.lit (.int .i64 1)),.sc (.lit (.bool true))]):=by
 have hs20:s.size≤20:=by rw [decide_eq_false_iff_not] at h20;omega
 refine jT Tryz.func46 fun w00=>?_
 refine cR 11 9 Tryz.underlying9 s ?_
 refine iI 12 20 s.size false h20 ?_
 refine cR 14 9 Tryz.underlying9 s ?_
 refine iI 15 0 s.size true h0 ?_
 refine ridn 18 s hc ?_
 refine rsl1 23 9 Tryz.underlying9 s u h1 hext ?_
 refine jB 42 [rS u] (eS (by omega)) ?_
 refine iI 27 9 (aJ u:Nat) false h9 ?_
 refine cR 30 9 Tryz.underlying9 u ?_
 refine wT 31 32 (u.size) (aJ u) (cB _) (by omega) ?_
 refine iI 33 10 ((u.size-aJ u:Nat):Int) false h10 ?_
 refine rshi 36 37 9 Tryz.underlying9 u (aJ u) d1 (cB _) hd1 ?_
 refine jB 104 [rS d1] v1 ?_
 refine cR 41 9 Tryz.underlying9 u ?_
 refine tT 40 42 (aJ u:Nat) (u.size:Nat) false hlt ?_
 refine jL (.binOp .sub 3 (.const (.int .i64 0)) (.tmp 50) 3) (.const (.int .i64 0)) (.tmp 50) (.fv (.sc (.lit (.int .i64 0)))) (rI n1) (rI (-(n1:Int))) (fun ρ o β w ho hx hy=>⟨_,neg_run ho (bV hx) (bA hy) hn1,dE⟩) ?_
 exact jS Tryz.func46
theorem quick_yes2n (h20:decide ((20:Int)<s.size)=false) (h0:decide ((0:Int)<s.size)=true) (h1:1≤s.size) (hc:∃ h:0<s.size,(s[0]'h).toNat=45) (hext:s.extract 1 s.size=u) (hus:u.size≤s.size) (hn1:n1<4611686018427387904) (h9:decide ((9:Int)<(aJ u:Nat))=false) (h10:decide ((10:Int)<((u.size-aJ u:Nat):Int))=false) (hd1:u.extract 0 (aJ u)=d1) (v1:jF 104 [rS d1] (rI n1)) (hlt:decide (((aJ u:Nat):Int)<(u.size:Nat))=true) (hd2:u.extract (aJ u+1) u.size=d2) (v2:jF 104 [rS d2] (rI n2)):jF 46 [rS s] (.tup [.sc (.sp (iA (.int .i64 (-(n1:Int))) rfl false (fun h=>by cases h))),.sc (.sp (iA (.int .i64 (n2:Int)) rfl false (fun h=>by cases h))),.sc (.lit (.bool true))]):=by
 have hs20:s.size≤20:=by rw [decide_eq_false_iff_not] at h20;omega
 refine jT Tryz.func46 fun w00=>?_
 refine cR 11 9 Tryz.underlying9 s ?_
 refine iI 12 20 s.size false h20 ?_
 refine cR 14 9 Tryz.underlying9 s ?_
 refine iI 15 0 s.size true h0 ?_
 refine ridn 18 s hc ?_
 refine rsl1 23 9 Tryz.underlying9 s u h1 hext ?_
 refine jB 42 [rS u] (eS (by omega)) ?_
 refine iI 27 9 (aJ u:Nat) false h9 ?_
 refine cR 30 9 Tryz.underlying9 u ?_
 refine wT 31 32 (u.size) (aJ u) (cB _) (by omega) ?_
 refine iI 33 10 ((u.size-aJ u:Nat):Int) false h10 ?_
 refine rshi 36 37 9 Tryz.underlying9 u (aJ u) d1 (cB _) hd1 ?_
 refine jB 104 [rS d1] v1 ?_
 refine cR 41 9 Tryz.underlying9 u ?_
 refine tT 40 42 (aJ u:Nat) (u.size:Nat) true hlt ?_
 refine zV 45 (aJ u) (by have:=cB u;omega) ?_
 refine zU 44 46 9 Tryz.underlying9 u (aJ u+1) d2 (by have:=of_decide_eq_true hlt;omega) hd2 ?_
 refine jB 104 [rS d2] v2 ?_
 refine jL (.binOp .sub 3 (.const (.int .i64 0)) (.tmp 50) 3) (.const (.int .i64 0)) (.tmp 50) (.fv (.sc (.lit (.int .i64 0)))) (rI n1) (rI (-(n1:Int))) (fun ρ o β w ho hx hy=>⟨_,neg_run ho (bV hx) (bA hy) hn1,dE⟩) ?_
 exact jS Tryz.func46
theorem quick_yes1p (h20:decide ((20:Int)<s.size)=false) (h0:decide ((0:Int)<s.size)=true) (hc:∃ h:0<s.size,(s[0]'h).toNat=c) (hc45:((c:Int)==45)=false) (h9:decide ((9:Int)<(aJ s:Nat))=false) (h10:decide ((10:Int)<((s.size-aJ s:Nat):Int))=false) (hd1:s.extract 0 (aJ s)=d1) (v1:jF 104 [rS d1] (rI n1)) (hlt:decide (((aJ s:Nat):Int)<(s.size:Nat))=false):jF 46 [rS s] (.tup [.sc (.sp (iA (.int .i64 (n1:Int)) rfl false (fun h=>by cases h))),.sc (.lit (.int .i64 1)),.sc (.lit (.bool true))]):=by
 have hs20:s.size≤20:=by rw [decide_eq_false_iff_not] at h20;omega
 refine jT Tryz.func46 fun w00=>?_
 refine cR 11 9 Tryz.underlying9 s ?_
 refine iI 12 20 s.size false h20 ?_
 refine cR 14 9 Tryz.underlying9 s ?_
 refine iI 15 0 s.size true h0 ?_
 refine ridp 18 s c hc ?_
 refine rueq 19 c hc45 ?_
 refine jB 42 [rS s] (eS (by omega)) ?_
 refine iI 27 9 (aJ s:Nat) false h9 ?_
 refine cR 30 9 Tryz.underlying9 s ?_
 refine wT 31 32 (s.size) (aJ s) (cB _) (by omega) ?_
 refine iI 33 10 ((s.size-aJ s:Nat):Int) false h10 ?_
 refine rshi 36 37 9 Tryz.underlying9 s (aJ s) d1 (cB _) hd1 ?_
 refine jB 104 [rS d1] v1 ?_
 refine cR 41 9 Tryz.underlying9 s ?_
 refine tT 40 42 (aJ s:Nat) (s.size:Nat) false hlt ?_
 exact jS Tryz.func46
theorem quick_yes2p (h20:decide ((20:Int)<s.size)=false) (h0:decide ((0:Int)<s.size)=true) (hc:∃ h:0<s.size,(s[0]'h).toNat=c) (hc45:((c:Int)==45)=false) (h9:decide ((9:Int)<(aJ s:Nat))=false) (h10:decide ((10:Int)<((s.size-aJ s:Nat):Int))=false) (hd1:s.extract 0 (aJ s)=d1) (v1:jF 104 [rS d1] (rI n1)) (hlt:decide (((aJ s:Nat):Int)<(s.size:Nat))=true) (hd2:s.extract (aJ s+1) s.size=d2) (v2:jF 104 [rS d2] (rI n2)):jF 46 [rS s] (.tup [.sc (.sp (iA (.int .i64 (n1:Int)) rfl false (fun h=>by cases h))),.sc (.sp (iA (.int .i64 (n2:Int)) rfl false (fun h=>by cases h))),.sc (.lit (.bool true))]):=by
 have hs20:s.size≤20:=by rw [decide_eq_false_iff_not] at h20;omega
 refine jT Tryz.func46 fun w00=>?_
 refine cR 11 9 Tryz.underlying9 s ?_
 refine iI 12 20 s.size false h20 ?_
 refine cR 14 9 Tryz.underlying9 s ?_
 refine iI 15 0 s.size true h0 ?_
 refine ridp 18 s c hc ?_
 refine rueq 19 c hc45 ?_
 refine jB 42 [rS s] (eS (by omega)) ?_
 refine iI 27 9 (aJ s:Nat) false h9 ?_
 refine cR 30 9 Tryz.underlying9 s ?_
 refine wT 31 32 (s.size) (aJ s) (cB _) (by omega) ?_
 refine iI 33 10 ((s.size-aJ s:Nat):Int) false h10 ?_
 refine rshi 36 37 9 Tryz.underlying9 s (aJ s) d1 (cB _) hd1 ?_
 refine jB 104 [rS d1] v1 ?_
 refine cR 41 9 Tryz.underlying9 s ?_
 refine tT 40 42 (aJ s:Nat) (s.size:Nat) true hlt ?_
 refine zV 45 (aJ s) (by have:=cB s;omega) ?_
 refine zU 44 46 9 Tryz.underlying9 s (aJ s+1) d2 (by have:=of_decide_eq_true hlt;omega) hd2 ?_
 refine jB 104 [rS d2] v2 ?_
 exact jS Tryz.func46
end
theorem cutPrefixNo {s:ByteArray} (h:Lib.hasPrefix s.data.toList [45]=false):jF 57 [tx s,lt ⟨#[45]⟩] (.tup [.sc (cT s),.sc (.lit (.bool false))]):=by
 intro β w vs hv
 obtain ⟨v,u,rfl,h1,h2⟩:=eG hv
 rw [aP h1,aO h2]
 have es:(⟨(Lib.trimPrefix s.data.toList [45]).toArray⟩:ByteArray)=s:=ba_ext (by unfold Lib.trimPrefix;rw [h];simp)
 refine (Tryz.strings_CutPrefix s ⟨#[45]⟩ w).mono fun e w' ⟨e1,e2⟩=>⟨_,e1,by rw [e2];exact aB _ _,?_⟩
 rw [show (⟨#[45]⟩:ByteArray).data.toList = [45] from rfl,es,h]
 exact ⟨[.string s,.bool false],rfl,_,_,rfl,bO (β:=β),_,_,rfl,⟨rfl,rfl⟩,rfl⟩
theorem ascii_two:∀ (j:Nat) (b:UInt8),(⟨#[47,46]⟩:ByteArray).data.toList[j]?=some b→b.toNat<128:=by
 intro j b h
 have:=List.mem_of_getElem? h
 simp at this
 rcases this with rfl|rfl <;> decide
theorem indexAnyF {s:ByteArray} {k:Int} (hs:s.size<4294967281) (ha:∀ (j:Nat) (b:UInt8),s.data.toList[j]?=some b→b.toNat<128) (h:Lib.indexAny s.data.toList [47,46]=k):jF 123 [tx s,lt ⟨#[47,46]⟩] (.fv (.sc (rH k))):=by
 intro β w vs hv
 obtain ⟨v,u,rfl,h1,h2⟩:=eG hv
 rw [aP h1,aO h2]
 refine (Tryz.strings_IndexAny_laid s ⟨#[47,46]⟩ w hs (by decide) ha ascii_two).mono fun e w' ⟨e1,e2⟩=>⟨_,e1,e2,?_⟩
 rw [show (⟨#[47,46]⟩:ByteArray).data.toList = [47,46] from rfl,h]
 exact bO
theorem repeatF {c:Nat} {z:ByteArray} (h2:2≤c) (hc:c≤100000) (hz:(⟨(Lib.repeatL [48] c).toArray⟩:ByteArray)=z):jF 125 [lt ⟨#[48]⟩,.fv (.sc (rH c))] (tx z):=by
 intro β w vs hv
 obtain ⟨v,u,rfl,h1,h3⟩:=eG hv
 rw [aO h1,aP h3]
 have hsz:(⟨#[48]⟩:ByteArray).size=1:=rfl
 refine (Tryz.strings_Repeat_main ⟨#[48]⟩ c w h2 (by omega) (by rw [hsz];omega) (by rw [hsz];omega)).mono fun e w' ⟨e1,e2⟩=>⟨_,e1,e2,?_⟩
 rw [show (⟨#[48]⟩:ByteArray).data.toList = [48] from rfl,hz]
 exact bO
section
variable {s a b z:ByteArray} {k:Nat}
theorem partsDot (hi:jF 123 [tx s,lt ⟨#[47,46]⟩] (.fv (.sc (rH k)))) (hk:k<s.size) (hs:s.size≤10000) (ha:s.extract 0 k=a) (hb:s.extract (k+1) s.size=b) (da:AllDig (aC a)) (da0:0<a.size) (db:AllDig (aC b)) (db0:0<b.size)
 (hdot:s[k]?=some 46) (hr:jF 125 [lt ⟨#[48]⟩,.fv (.sc (rH b.size))] (tx z)) (hz:z.size≤10000):jF 58 [tx s] (.tup [.sc (cT (a++b)),.sc (cT (⟨#[49]⟩++z)),.sc z0]):=by
 have hasz:a.size≤s.size:=by rw [← ha,ByteArray.size_extract];omega
 have hbsz:b.size≤s.size:=by rw [← hb,ByteArray.size_extract];omega
 refine jG Tryz.func58 fun w00=>?_
 refine jC 123 [tx s,lt ⟨#[47,46]⟩] (hi) ?_
 refine jK (.binOp .lss 3 (.tmp 10) (.const (.int .i64 0)) 3) (.tmp 10) (.const (.int .i64 0)) (.fv (.sc (rH k))) (it 0) (bl false) (fun ρ o β w ho hx hy=>⟨_,lss_run ho (aP hx) (aO hy) (by rw [decide_eq_false_iff_not];omega),bB rfl⟩) ?_
 refine jK (.slice 9 (.tmp 16) none (some (.tmp 17)) none) (.tmp 16) (.tmp 17) (tx s) (.fv (.sc (rH k))) (tx a) (fun ρ o β w ho hx hy=>?_) ?_
 ·have:=nU (w:=w) ho Tryz.underlying9 (aP hx) (aP hy) (by omega)
  rw [ha] at this
  exact ⟨_,this,bO⟩
 refine jK (.binOp .add 3 (.tmp 20) (.const (.int .i64 1)) 3) (.tmp 20) (.const (.int .i64 1)) (.fv (.sc (rH k))) (it 1) (.fv (.sc (rH ((k+1:Nat):Int)))) (fun ρ o β w ho hx hy=>⟨_,qV ho (aP hx) (aO hy) (by omega),bO⟩) ?_
 refine jK (.slice 9 (.tmp 19) (some (.tmp 21)) none none) (.tmp 19) (.tmp 21) (tx s) (.fv (.sc (rH ((k+1:Nat):Int)))) (tx b) (fun ρ o β w ho hx hy=>?_) ?_
 ·have:=nV (w:=w) ho Tryz.underlying9 (aP hx) (aP hy) (by omega)
  rw [hb] at this
  exact ⟨_,this,bO⟩
 refine jC 124 [tx a] (oH da da0) ?_
 refine jC 124 [tx b] (oH db db0) ?_
 refine jK (.index 9 (.tmp 33) (.tmp 34)) (.tmp 33) (.tmp 34) (tx s) (.fv (.sc (rH k))) (.fv (.sc (.lit (.int .u8 46)))) (fun ρ o β w ho hx hy=>⟨_,sE ho Tryz.underlying9 (aP hx) (aP hy) hdot,bB rfl⟩) ?_
 refine jK (.binOp .add 9 (.tmp 37) (.tmp 38) 9) (.tmp 37) (.tmp 38) (tx a) (tx b) (tx (a++b)) (fun ρ o β w ho hx hy=>⟨_,iP ho (aP hx) (aP hy) (by omega),bO⟩) ?_
 refine jO 40 b ?_
 refine jC 125 [lt ⟨#[48]⟩,.fv (.sc (rH b.size))] (hr) ?_
 refine jK (.binOp .add 9 (.const (.string ⟨#[49]⟩)) (.tmp 42) 9) (.const (.string ⟨#[49]⟩)) (.tmp 42) (lt ⟨#[49]⟩) (tx z) (tx (⟨#[49]⟩++z)) (fun ρ o β w ho hx hy=>⟨_,iP ho (aO hx) (aP hy) (by have:(⟨#[49]⟩:ByteArray).size=1:=rfl;omega),bO⟩) ?_
 exact jR Tryz.func58
theorem parseF' {n d:Nat} (hs:s.size≤4096) (hp:Lib.hasPrefix s.data.toList [45]=false) (hpt:jF 58 [tx s] (.tup [.sc (cT (decB n)),.sc (cT (decB d)),.sc z0])) (hn:(decB n).size≤100000) (hd:(decB d).size≤100000) (ln:Lv 40 n) (ld:Lv 40 d) (d0:0<d)
 (lq:Lf 20 (mkRat (sg false n) d)) (w1:(decB (mkRat (sg false n) d).num.natAbs).size≤600) (w2:(decB (mkRat (sg false n) d).den).size≤600):jX 19 [tx s] (.tup [.sc (cT (writeB (mkRat (sg false n) d))),.sc z0]):=by
 refine jY Tryz.func19 fun w00 hI=>?_
 refine jO 9 s ?_
 refine jM 10 s.size 4096 false (by rw [decide_eq_false_iff_not];omega) ?_
 refine jC 57 [tx s,lt ⟨#[45]⟩] (cutPrefixNo hp) ?_
 refine jC 58 [tx s] (hpt) ?_
 refine jC 60 [tx (decB n)] (dD hn) ?_
 refine jC 60 [tx (decB d)] (dD hd) ?_
 refine jC 59 [bl false,nt n,nt d] (nP ln ld d0) ?_
 refine jC 61 [fra (mkRat (sg false n) d)] (iO) ?_
 refine jW hI 40 [num (mkRat (sg false n) d)] (nQ lq w1 w2) ?_
 exact jR Tryz.func19
end
end Ab
namespace Fr
open Go.RowKit Go.Shelf
attribute [local go_sem] Oper.semAt_some
def axV (x1 x2 x3 y1 y2 y3 z1 z2 z3:ByteArray):Fin 3→Value
 | 0 => .agg #[.string x1,.string x2,.string x3]
 | 1 => .agg #[.string y1,.string y2,.string y3]
 | 2 => .agg #[.string z1,.string z2,.string z3]
def axE (x1 x2 x3 y1 y2 y3 z1 z2 z3:ByteArray) (i:Fin 3):Array Value := #[.int .i64 ((i.val:Nat):Int),axV x1 x2 x3 y1 y2 y3 z1 z2 z3 i]
theorem ix0 (w:World) (x1 x2 x3 y1 y2 y3 z1 z2 z3:ByteArray):(Sem.run Tryz.prog (Instr.index 237 (.agg #[.string x1,.string x2,.string x3,.string y1,.string y2,.string y3,.string z1,.string z2,.string z3]) (.int .i64 0)) w) = .ok (.agg #[.string x1,.string x2,.string x3]) w:=by
 kernel_rfl
theorem ix1 (w:World) (x1 x2 x3 y1 y2 y3 z1 z2 z3:ByteArray):(Sem.run Tryz.prog (Instr.index 237 (.agg #[.string x1,.string x2,.string x3,.string y1,.string y2,.string y3,.string z1,.string z2,.string z3]) (.int .i64 1)) w) = .ok (.agg #[.string y1,.string y2,.string y3]) w:=by
 kernel_rfl
theorem ix2 (w:World) (x1 x2 x3 y1 y2 y3 z1 z2 z3:ByteArray):(Sem.run Tryz.prog (Instr.index 237 (.agg #[.string x1,.string x2,.string x3,.string y1,.string y2,.string y3,.string z1,.string z2,.string z3]) (.int .i64 2)) w) = .ok (.agg #[.string z1,.string z2,.string z3]) w:=by
 kernel_rfl
set_option maxRecDepth 100000 in
theorem axes1_in (F:Fence) (n:Nat) (h8:F.fn 192) (hro:F.round=none) (hn:1≤n) (l Bf n₀:Nat) (o1 o2 o3 x1 x2 x3 y1 y2 y3 z1 z2 z3:ByteArray) (J Jx:List (Fin 3)→World→Prop)
 (hY:∀ pre x W,J pre W→pre.length<3→YieldAt F (n-1) Tryz.prog l (axE x1 x2 x3 y1 y2 y3 z1 z2 z3 x) W fun e W' =>
  (e = .returned (.bool true)∧J (pre ++ [x]) W'∧Below n₀ W W')∨(e = .returned (.bool false)∧Jx (pre ++ [x]) W'))
 (W:World) (hJ:AbidesFrom W.heap.size J) (hn0:n₀≤W.heap.size) (hB:W.heap[Bf]?=some (.cells #[.string o1,.string o2,.string o3,.string x1,.string x2,.string x3,.string y1,.string y2,.string y3,.string z1,.string z2,.string z3] 54 (0,0))) (h0:J [] W) :
 CallsIn F n Tryz.prog 192 #[.func (.yield l) #[] #[],.pointer (some ⟨Bf,0,none⟩)] W fun e W'=>(∃ v,e = .returned v) ∧
  ((∃ ys,ys = [0,1,2]∧J ys W')∨(∃ pre,True∧Jx pre W')):=by
 refine callsIn_of_wp Tryz.func192 rfl h8 ?_ hro
 simp only [Tryz.ntmps192,List.size_toArray,List.length_cons,List.length_nil,Nat.reduceAdd,Nat.reduceSub,Array.replicate_succ,Array.replicate_zero,List.push_toArray,List.append_toArray,List.nil_append,List.cons_append]
 have c3:W.cell? ⟨Bf,3,none⟩=some (.string x1):=by simp [World.cell?,hB]
 have c4:W.cell? ⟨Bf,4,none⟩=some (.string x2):=by simp [World.cell?,hB]
 have c5:W.cell? ⟨Bf,5,none⟩=some (.string x3):=by simp [World.cell?,hB]
 have c6:W.cell? ⟨Bf,6,none⟩=some (.string y1):=by simp [World.cell?,hB]
 have c7:W.cell? ⟨Bf,7,none⟩=some (.string y2):=by simp [World.cell?,hB]
 have c8:W.cell? ⟨Bf,8,none⟩=some (.string y3):=by simp [World.cell?,hB]
 have c9:W.cell? ⟨Bf,9,none⟩=some (.string z1):=by simp [World.cell?,hB]
 have c10:W.cell? ⟨Bf,10,none⟩=some (.string z2):=by simp [World.cell?,hB]
 have c11:W.cell? ⟨Bf,11,none⟩=some (.string z3):=by simp [World.cell?,hB]
 clear hB
 gi_wp2
 gi_loopw [12] (fun i wr=>(i = .int .i64 0∧J [] wr∨i = .int .i64 1∧J [0] wr∨i = .int .i64 2∧J [0,1] wr∨i = .int .i64 3∧J [0,1,2] wr)∧n₀≤wr.heap.size) (fun i _=>3-(intOf i).toNat)
 case atStart=>exact ⟨.inl ⟨rfl,h0⟩,hn0⟩
 case round =>
  obtain ⟨hc,hnr⟩:=hrel
  rcases hc with ⟨rfl,hJs⟩|⟨rfl,hJs⟩|⟨rfl,hJs⟩|⟨rfl,hJs⟩
  ·have hix:=ix0 wr x1 x2 x3 y1 y2 y3 z1 z2 z3
   have hJa:=hJ [] wr (wr.alloc (.cells #[.string x1,.string x2,.string x3] 24)) none hJs (World.grownBy_alloc _ _ none) (fun r e=>by cases e)
   obtain ⟨fn,tmps,assign,body,hy,hR⟩:=hY [] 0 _ hJa (by simp)
   change (Sem.run Tryz.prog (Instr.yield l #[.int .i64 0,.agg #[.string x1,.string x2,.string x3]]) _)=_ at hy
   gi_wp2
   refine hR.mono ?_
   rintro e W3 (⟨rfl,hJ3,hk3⟩|⟨rfl,hJx3⟩)
   ·have hs3:n₀≤W3.heap.size:=by have:=hk3.size;simp at this;omega
    gi_wp2
    go_roundw
    case rel=>exact ⟨.inr (.inl ⟨rfl,hJ3⟩),hs3⟩
    case measure=>simp [intOf]
   ·gi_wp2
    refine bodyPost_ret (results_none rfl _ _ _) rfl ?_
    exact ⟨⟨_,rfl⟩,.inr ⟨_,trivial,hJx3⟩⟩
  ·have hix:=ix1 wr x1 x2 x3 y1 y2 y3 z1 z2 z3
   have hJa:=hJ [0] wr (wr.alloc (.cells #[.string y1,.string y2,.string y3] 24)) none hJs (World.grownBy_alloc _ _ none) (fun r e=>by cases e)
   obtain ⟨fn,tmps,assign,body,hy,hR⟩:=hY [0] 1 _ hJa (by simp)
   change (Sem.run Tryz.prog (Instr.yield l #[.int .i64 1,.agg #[.string y1,.string y2,.string y3]]) _)=_ at hy
   gi_wp2
   refine hR.mono ?_
   rintro e W3 (⟨rfl,hJ3,hk3⟩|⟨rfl,hJx3⟩)
   ·have hs3:n₀≤W3.heap.size:=by have:=hk3.size;simp at this;omega
    gi_wp2
    go_roundw
    case rel=>exact ⟨.inr (.inr (.inl ⟨rfl,hJ3⟩)),hs3⟩
    case measure=>simp [intOf]
   ·gi_wp2
    refine bodyPost_ret (results_none rfl _ _ _) rfl ?_
    exact ⟨⟨_,rfl⟩,.inr ⟨_,trivial,hJx3⟩⟩
  ·have hix:=ix2 wr x1 x2 x3 y1 y2 y3 z1 z2 z3
   have hJa:=hJ [0,1] wr (wr.alloc (.cells #[.string z1,.string z2,.string z3] 24)) none hJs (World.grownBy_alloc _ _ none) (fun r e=>by cases e)
   obtain ⟨fn,tmps,assign,body,hy,hR⟩:=hY [0,1] 2 _ hJa (by simp)
   change (Sem.run Tryz.prog (Instr.yield l #[.int .i64 2,.agg #[.string z1,.string z2,.string z3]]) _)=_ at hy
   gi_wp2
   refine hR.mono ?_
   rintro e W3 (⟨rfl,hJ3,hk3⟩|⟨rfl,hJx3⟩)
   ·have hs3:n₀≤W3.heap.size:=by have:=hk3.size;simp at this;omega
    gi_wp2
    go_roundw
    case rel=>exact ⟨.inr (.inr (.inr ⟨rfl,hJ3⟩)),hs3⟩
    case measure=>simp [intOf]
   ·gi_wp2
    refine bodyPost_ret (results_none rfl _ _ _) rfl ?_
    exact ⟨⟨_,rfl⟩,.inr ⟨_,trivial,hJx3⟩⟩
  ·gi_wp2
   go_end0
   exact ⟨⟨_,rfl⟩,.inl ⟨_,rfl,hJs⟩⟩
theorem axes_stops (F:Fence) (n:Nat) (h8:F.fn 192) (hro:F.round=none) (hn:1≤n) (Bf n₀:Nat) (o1 o2 o3 x1 x2 x3 y1 y2 y3 z1 z2 z3:ByteArray) (w:World) (hn0:n₀≤w.heap.size)
 (hB:w.heap[Bf]?=some (.cells #[.string o1,.string o2,.string o3,.string x1,.string x2,.string x3,.string y1,.string y2,.string y3,.string z1,.string z2,.string z3] 54 (0,0))) :
 SeqStopsK F n Tryz.prog 192 #[.pointer (some ⟨Bf,0,none⟩)] (axE x1 x2 x3 y1 y2 y3 z1 z2 z3) (Below n₀) (fun ys=>ys = [0,1,2]) (fun _=>True) 3 w:=fun l J Jx W hW hJ _ hY h0 =>
 axes1_in F n h8 hro hn l Bf n₀ o1 o2 o3 x1 x2 x3 y1 y2 y3 z1 z2 z3 J Jx hY W hJ (Nat.le_trans hn0 hW.size) ((hW.block Bf (by rcases Nat.lt_or_ge Bf w.heap.size with h|h;exact h;rw [Array.getElem?_eq_none h] at hB;cases hB)).trans hB) h0
theorem axes_any (o1 o2 o3 x1 x2 x3 y1 y2 y3 z1 z2 z3:ByteArray) (w:World):Calls Tryz.prog 141 #[.agg #[.string o1,.string o2,.string o3,.string x1,.string x2,.string x3,.string y1,.string y2,.string y3,.string z1,.string z2,.string z3]] w fun e w' =>
 e = .returned (.func (.func 192) #[] #[.pointer (some ⟨w.heap.size,0,none⟩)])∧w'=w.alloc (.cells #[.string o1,.string o2,.string o3,.string x1,.string x2,.string x3,.string y1,.string y2,.string y3,.string z1,.string z2,.string z3] 54 (0,0)):=by
 refine (callsIn_wide (n:=3)).1 ?_
 refine callsIn_of_wp Tryz.func141 rfl trivial ?_ rfl
 simp only [Tryz.ntmps141,List.size_toArray,List.length_cons,List.length_nil,Nat.reduceAdd,Nat.reduceSub,Array.replicate_succ,Array.replicate_zero,List.push_toArray,List.append_toArray,List.nil_append,List.cons_append]
 gi_wp2
 refine bodyPost_ret (results_tmp rfl _ _ _) rfl ?_
 exact ⟨rfl,rfl⟩
end Fr
namespace Fr
open Go.RowKit Go.Shelf Ab Pl
structure C9 where
 n1:Int
 d1:Int
 p1:Option Addr
 n2:Int
 d2:Int
 p2:Option Addr
 n3:Int
 d3:Int
 p3:Option Addr
def C9.cells (k:C9):List Value := [.int .i64 k.n1,.int .i64 k.d1,.pointer k.p1,.int .i64 k.n2,.int .i64 k.d2,.pointer k.p2,.int .i64 k.n3,.int .i64 k.d3,.pointer k.p3]
def C9.val (k:C9):Value := .agg #[.int .i64 k.n1,.int .i64 k.d1,.pointer k.p1,.int .i64 k.n2,.int .i64 k.d2,.pointer k.p2,.int .i64 k.n3,.int .i64 k.d3,.pointer k.p3]
def C9.zero:C9:=⟨0,0,none,0,0,none,0,0,none⟩
theorem vc9 {w:World} {v:Value} {a b c:Rat} (h:Vc w v a b c):∃ k:C9,v=k.val∧Vc w k.val a b c:=by
 obtain ⟨n1,d1,p1,n2,d2,p2,n3,d3,p3,rfl,h1,h2,h3⟩:=h
 exact ⟨⟨n1,d1,p1,n2,d2,p2,n3,d3,p3⟩,rfl,n1,d1,p1,n2,d2,p2,n3,d3,p3,rfl,h1,h2,h3⟩
theorem qW {β:List Nat} {w:World} {k:C9} {a b c:Rat} (h:Vc w k.val a b c):holdsL β [nb a,nb b,nb c] k.cells w:=by
 obtain ⟨cs,e,hl⟩:=(vN (β:=β)).2 h
 injection e with e
 have e:=congrArg Array.toList e
 have e:k.cells=cs:=e
 rw [e]
 exact hl
def fK (o x y z:C9):List Value:=o.cells++x.cells++y.cells++z.cells
theorem kG {a b c:Rat} (h:iC a b c) (w:World) (hG:Gl w):Calls Tryz.prog 38 #[.agg #[.string (writeB a),.string (writeB b),.string (writeB c)]] w fun e w' => ∃ k:C9,e = .returned (.tuple #[k.val,.int .i64 0])∧Vc w' k.val a b c∧Below w.heap.size w w':=by
 refine (fG h [] w [.agg #[.string (writeB a),.string (writeB b),.string (writeB c)]] hG ⟨_,_,rfl,⟨[.string (writeB a),.string (writeB b),.string (writeB c)],rfl,[.string (writeB a)],_,rfl,rfl,[.string (writeB b)],_,rfl,rfl,[.string (writeB c)],_,rfl,rfl,rfl⟩,rfl⟩).mono ?_
 rintro e w' ⟨v,e1,e2,vs,rfl,u,r,rfl,h1,u2,r2,rfl,h2,h3⟩
 obtain ⟨k,rfl,h4⟩:=vc9 (vN.1 h1)
 have h5:[u2] = [.int .i64 0]:=h2.1
 injection h5 with h5
 rw [show r2 = [] from h3,h5] at e1
 exact ⟨k,e1,h4,e2⟩
section
variable {o1 o2 o3 x1 x2 x3 y1 y2 y3 z1 z2 z3:Rat}
theorem fr_holds {β:List Nat} {w:World} {o x y z:C9} (ho:Vc w o.val o1 o2 o3) (hx:Vc w x.val x1 x2 x3) (hy:Vc w y.val y1 y2 y3) (hz:Vc w z.val z1 z2 z3) :
 (pK o1 o2 o3 x1 x2 x3 y1 y2 y3 z1 z2 z3).holds β (.agg (fK o x y z).toArray) w :=
 ⟨fK o x y z,rfl,(((qW ho).append (qW hx)).append (qW hy)).append (qW hz)⟩
theorem check_any {w:World} {o x y z:C9} (ho:Vc w o.val o1 o2 o3) (hx:Vc w x.val x1 x2 x3) (hy:Vc w y.val y1 y2 y3) (hz:Vc w z.val z1 z2 z3) (l:Lm 25 x1 x2 x3 y1 y2 y3 z1 z2 z3) (h:Ax x1 x2 x3 y1 y2 y3 z1 z2 z3) :
 Calls Tryz.prog 142 #[.agg (fK o x y z).toArray] w fun e w'=>e = .returned (.int .i64 0)∧Below w.heap.size w w':=by
 refine (checkF (o1:=o1) (o2:=o2) (o3:=o3) l h [] w [.agg (fK o x y z).toArray] ⟨_,_,rfl,fr_holds ho hx hy hz,rfl⟩).mono ?_
 rintro e w' ⟨v,e1,e2,h1⟩
 have h5:[v] = [.int .i64 0]:=h1.1
 injection h5 with h5
 exact ⟨by rw [e1,h5],e2⟩
end
attribute [local go_sem] Oper.semAt_some
theorem wV {P:Program} {ops:Array Oper} {rest:List Oper} {o:Oper} {a:Act} {w:World} {Q:Exit→Act→World→Prop} (hg:o.guard=none) (t:TypeId) (parts:Array (Nat×Operand)) (ho:o.op = .build t parts) (cs:Array Value)
 (hb:P.built t (parts.map fun (i,x)=>(i,a.eval x)).toList=some cs) (h:wpList P ops Q rest (a.put o.dst (.agg cs)) w):wpList P ops Q (o::rest) a w :=
 wpList_build hg t parts ho (by rw [hb];rfl) (by rw [hb];exact h)
theorem store_new3 {P:Program} {ops:Array Oper} {rest:List Oper} {o:Oper} {a:Act} {Q:Exit→Act→World→Prop} (hgd:o.guard=none) (ty:TypeId) (x y:Operand) (ho:o.op = .store ty x y) (w1:World) (A B:Obj) (old cells:Array Value)
 (hx:a.eval x = .pointer (some ⟨w1.heap.size+1+1,0,none⟩)) (hy:a.eval y = .agg cells) (hi:(P.info? ty).map (·.size)=some cells.size) (hold:old.size=cells.size) (h1:cells.all (·.oneCell')=true)
 (h:∀ W3:World,W3.heap.size=w1.heap.size+3→Below w1.heap.size w1 W3→W3.heap[w1.heap.size]?=some A→W3.heap[w1.heap.size+1]?=some B→W3.heap[w1.heap.size+2]?=some (.cells cells ty (0,0))→wpList P ops Q rest (a.put o.dst undef) W3) :
 wpList P ops Q (o::rest) a (((w1.alloc A).alloc B).alloc (.cells old ty (0,0))):=by
 have hg:(((w1.alloc A).alloc B).alloc (.cells old ty (0,0))).heap[w1.heap.size+1+1]?=some (.cells old ty (0,0)):=by
  have:=World.alloc_heap_new ((w1.alloc A).alloc B) (.cells old ty (0,0))
  rwa [World.size_alloc,World.size_alloc] at this
 refine wpList_store_row hgd ty x y ho (w1.heap.size+1+1) cells hx hy ty old hg hi hold h1 (h _ (by rw [setRow_size];simp) ?_ ?_ ?_ (setRow_heap _ _ _ _ _ _ hg))
 ·exact below_setRow ((((aB _ w1).alloc (aR _) _).alloc (by simp) _).alloc (by simp;omega) _) (by omega) _
 ·rw [setRow_other _ _ _ _ (by omega)]
  exact (Below.heap_alloc _ _ _ (by simp;omega)).trans ((Below.heap_alloc _ _ _ (by simp)).trans (World.alloc_heap_new w1 A))
 ·rw [setRow_other _ _ _ _ (by omega)]
  refine (Below.heap_alloc _ _ _ (by simp)).trans ?_
  have:=World.alloc_heap_new (w1.alloc A) B
  rwa [World.size_alloc] at this
structure Stopped (p:Prop):Prop where
 out:p
theorem stop_store {P:Program} {ops:Array Oper} {rest:List Oper} {o:Oper} {a:Act} {w:World} {Q:Exit→Act→World→Prop} (ty:TypeId) (x y:Operand) (ho:o.op = .store ty x y) (h:Stopped (wpList P ops Q (o::rest) a w)):wpList P ops Q (o::rest) a w:=h.out
theorem sO {W W' : World} {row:Option Nat} (hg:W.grownBy W' row) (hrow:∀ r,row=some r→∃ o:Obj,W.heap[r]?=some o∧o.isCells=false):Go.Proofs.YtpjknnddanhgkaaGreatDoor.Ext Kn W W':=by
 refine ⟨hg.size,fun g o h ho=>?_⟩
 have hc:o.isCells=true:=by cases o <;> first|rfl|(simp [Go.Proofs.YtpjknnddanhgkaaGreatDoor.hotObj] at ho)
 exact (grownBy_keeps_cells hg hrow h hc).trans h
theorem Vc.kext {w w' : World} {v:Value} {a b c:Rat} (h:Vc w v a b c) (hx:Go.Proofs.YtpjknnddanhgkaaGreatDoor.Ext Kn w w'):Vc w' v a b c:=h.ext (fun _=>rfl) (fun _=>rfl) hx
theorem load_all {P:Program} {ρ:Operand→Value} {o:Oper} {w:World} {T T' : TypeId} {x:Operand} {g:Nat} {cs:List Value} {d:TypeDesc} (ho:o.op = .load T x) (hx:ρ x = .pointer (some ⟨g,0,none⟩)) (hg:w.heap[g]?=some (.cells cs.toArray T' (0,0)))
 (hd:P.underlying T=some d) (hr:d.isRow=true) (hi:(P.info? T).map (·.size)=some cs.length):(execOp ρ o).run P w = .ok (.value (.agg cs.toArray)) w:=by
 have h:=run_loadVar_mid w g 0 T ((cs.drop 0).take cs.length) d (pU hg 0 cs.length) hd hr (by rw [hi,List.drop_zero,List.take_length])
 rw [List.drop_zero,List.take_length] at h
 simp only [execOp,ho,Instr.loadAt,hx,Instr.sureAddr]
 exact bJ (by simpa [Sem.run_bind] using h)
theorem frL_one (o x y z:C9):∀ c∈fK o x y z,c.oneCell'=true:=by
 have h:(fK o x y z).all (·.oneCell')=true:=rfl
 exact fun c hc=>List.all_eq_true.1 h c hc
theorem fin3:∀ x:Fin 3,x=0∨x=1∨x=2:=by decide
theorem qX {w:World} {b i:Nat} {v:Value} (hlt:b<w.heap.size) (h:w.cell? ⟨b,i,none⟩=some v) (o:Obj):(w.alloc o).cell? ⟨b,i,none⟩=some v :=
 (((aB _ w).alloc (aR _) o).cell (p:=⟨b,i,none⟩) hlt).trans h
theorem gI {w:World} {b i:Nat} {cs:Array Value} {t:TypeId} (hlt:b<w.heap.size) (h:w.heap[b]?=some (.cells cs t (0,0))) (o:Obj):(w.alloc o).frozen? ⟨b,i,none⟩=false :=
 aY ((((aB _ w).alloc (aR _) o).block b hlt).trans h) i
theorem qY {n g:Nat} {o:Obj} {A X Y:World} (hb:Below n A X) (h:Turned g o X Y) (hn:n≤g):Below n A Y :=
 ⟨h.os.trans hb.os,h.tape.trans hb.tape,h.output.trans hb.output,by rw [h.size];exact hb.size,fun k hk=>(h.block k (by omega)).trans (hb.block k hk)⟩
theorem qZ {g S:Nat} {o o0:Obj} {X Y:World} (h:Turned g o X Y) (h0:X.heap[g]?=some o0) (hc:o0.isCells=true):KeepsFrom S X Y:=by
 refine ⟨by rw [h.size];exact aR _,fun k o' _ hk ho=>?_⟩
 have:k≠g:=by
  rintro rfl
  rw [h0] at hk
  injection hk with hk
  rw [hk,ho] at hc
  cases hc
 exact (h.block k this).trans hk
theorem fL {S:Nat} {W W' : World} (h:Below W.heap.size W W'):KeepsFrom S W W':=⟨h.size,fun k o _ hk _=>(h.block k (Array.getElem?_eq_some_iff.1 hk).1).trans hk⟩
section
variable {w:World} {k:C9} {B E R:Nat} {o1 o2 o3 x1 x2 x3 y1 y2 y3 z1 z2 z3:Rat}
theorem lU (o x y z:C9) (T:TypeId):Go.Proofs.YtpjknnddanhgkaaGreatDoor.hotObj Kn (.cells (fK o x y z).toArray T (0,0))=false:=by simp [Go.Proofs.YtpjknnddanhgkaaGreatDoor.hotObj,fK,C9.cells,Kn]
theorem turn9 {w:World} {B:Nat} {T:TypeId} {cs cs' : Array Value} (off:Nat) (h:w.heap[B]?=some (.cells cs T (0,0))) (u0 u1 u2 u3 u4 u5 u6 u7 u8:Value)
 (e:((((((((cs.setIfInBounds off u0).setIfInBounds (off+1) u1).setIfInBounds (off+2) u2).setIfInBounds (off+3) u3).setIfInBounds (off+4) u4).setIfInBounds (off+5) u5).setIfInBounds (off+6) u6).setIfInBounds (off+7) u7).setIfInBounds (off+8) u8=cs') :
 Turned B (.cells cs' T (0,0)) w (((((((((w.setCell ⟨B,off,none⟩ u0).setCell ⟨B,off+1,none⟩ u1).setCell ⟨B,off+2,none⟩ u2).setCell ⟨B,off+3,none⟩ u3).setCell ⟨B,off+4,none⟩ u4).setCell ⟨B,off+5,none⟩ u5).setCell ⟨B,off+6,none⟩ u6).setCell ⟨B,off+7,none⟩ u7).setCell ⟨B,off+8,none⟩ u8):=by
 subst e
 have t0:=cJ (i:=off) h u0
 have t1:=t0.trans (cJ (i:=off+1) t0.at_ u1)
 have t2:=t1.trans (cJ (i:=off+2) t1.at_ u2)
 have t3:=t2.trans (cJ (i:=off+3) t2.at_ u3)
 have t4:=t3.trans (cJ (i:=off+4) t3.at_ u4)
 have t5:=t4.trans (cJ (i:=off+5) t4.at_ u5)
 have t6:=t5.trans (cJ (i:=off+6) t5.at_ u6)
 have t7:=t6.trans (cJ (i:=off+7) t6.at_ u7)
 exact t7.trans (cJ (i:=off+8) t7.at_ u8)
end
end Fr
namespace Ab
open Go.RowKit Pl
def Sq (q:Rat):Prop:=(decB q.num.natAbs).size≤9∧(q.den=1∨(decB q.den).size≤9)
theorem lW {q:Rat} (h:q.den=1):aZ q=aX (q.num.natAbs:Int):=by unfold aZ;rw [if_pos h,bW]
theorem nW {q:Rat} (h:q.den≠1):aZ q=aX (q.num.natAbs:Int)++(⟨#[47]⟩++decB q.den):=by unfold aZ;rw [if_neg h,bW]
theorem mQ (q:Rat):aJ (aZ q)=(decB q.num.natAbs).size:=by
 by_cases h:q.den=1
 ·rw [lW h,sL,bW]
 ·rw [nW h,sM,bW]
theorem size47:(⟨#[47]⟩:ByteArray).size=1:=rfl
theorem size45:(⟨#[45]⟩:ByteArray).size=1:=rfl
theorem nX (q:Rat):(aZ q).size=(decB q.num.natAbs).size+if q.den=1 then 0 else 1+(decB q.den).size:=by
 by_cases h:q.den=1
 ·rw [lW h,bW,if_pos h];rfl
 ·rw [nW h,if_neg h,ByteArray.size_append,ByteArray.size_append,bW,size47]
theorem sP (q:Rat):∃ c:Nat,(∃ h:0<(aZ q).size,((aZ q)[0]'h).toNat=c)∧((c:Int)==45)=false:=by
 obtain ⟨c,r,e,hc⟩:=sF q
 have h0:0<(aZ q).size:=by
  have:(aZ q).size=(aZ q).data.toList.length:=rfl
  rw [this,e];simp
 have h1:=dA h0
 have h2:aC (aZ q)=c::r:=e
 rw [h2] at h1
 simp at h1
 refine ⟨c.toNat,⟨h0,by rw [← h1]⟩,?_⟩
 simp;omega
theorem iU {q:Rat} (h:q.num<0):1≤(writeB q).size∧(∃ h:0<(writeB q).size,((writeB q)[0]'h).toNat=45)∧(writeB q).extract 1 (writeB q).size=aZ q∧(aZ q).size≤(writeB q).size∧(writeB q).size=(aZ q).size+1:=by
 have e:writeB q=⟨#[45]⟩++aZ q:=oI h
 have hsz:(writeB q).size=(aZ q).size+1:=by rw [e,ByteArray.size_append,size45];omega
 have h0:0<(writeB q).size:=by omega
 refine ⟨h0,⟨h0,?_⟩,?_,by omega,hsz⟩
 ·have h1:=dA h0
  have h2:aC (writeB q)=45::aC (aZ q):=by rw [e];simp [aC]
  rw [h2] at h1
  simp at h1
  rw [← h1];rfl
 ·have h2:aC (writeB q)=45::aC (aZ q):=by rw [e];simp [aC]
  have:aC ((writeB q).extract 1 (writeB q).size)=aC (aZ q):=by
   rw [aS,List.take_of_length_le (by rw [aG];exact aR _),h2];rfl
  exact ba_ext this
theorem kH {q:Rat} (hq:¬ Sq q):jF 46 [rS (writeB q)] qno:=by
 by_cases h20:20<(writeB q).size
 ·exact quick_long (by rw [decide_eq_true_iff];omega)
 have hbs:=nX q
 have hsl:=mQ q
 by_cases hn:q.num<0
 ·obtain ⟨f1,f2,f3,f4,f5⟩:=iU hn
  by_cases h9:9<(decB q.num.natAbs).size
  ·exact quick_k9n (by rw [decide_eq_false_iff_not];omega) (by rw [decide_eq_true_iff];omega) f1 f2 f3 f4 (by rw [hsl,decide_eq_true_iff];omega)
  ·refine quick_l10n (by rw [decide_eq_false_iff_not];omega) (by rw [decide_eq_true_iff];omega) f1 f2 f3 f4 (by rw [hsl,decide_eq_false_iff_not];omega) ?_
   rw [hsl,decide_eq_true_iff,hbs]
   have hd:¬ (q.den=1∨(decB q.den).size≤9):=fun h=>hq ⟨by omega,h⟩
   rw [if_neg (fun h=>hd (.inl h))]
   have:¬ (decB q.den).size≤9:=fun h=>hd (.inr h)
   omega
 ·have hw:=eZ hn
  obtain ⟨c,c1,c2⟩:=sP q
  have h0:0<(aZ q).size:=c1.1
  rw [hw] at h20 ⊢
  by_cases h9:9<(decB q.num.natAbs).size
  ·exact quick_k9p (by rw [decide_eq_false_iff_not];omega) (by rw [decide_eq_true_iff];omega) c1 c2 (by rw [hsl,decide_eq_true_iff];omega)
  ·refine quick_l10p (by rw [decide_eq_false_iff_not];omega) (by rw [decide_eq_true_iff];omega) c1 c2 (by rw [hsl,decide_eq_false_iff_not];omega) ?_
   rw [hsl,decide_eq_true_iff,hbs]
   have hd:¬ (q.den=1∨(decB q.den).size≤9):=fun h=>hq ⟨by omega,h⟩
   rw [if_neg (fun h=>hd (.inl h))]
   have:¬ (decB q.den).size≤9:=fun h=>hd (.inr h)
   omega
def csAny:CS Kr where
 size:=1
 cold:=false
 pred cs _ := ∃ n:Int,cs = [.int .i64 n]
 stable _ _ _ h _:=h
 len cs w h:=by obtain ⟨v,e⟩:=h;rw [e];rfl
 one cs w h:=by obtain ⟨v,e⟩:=h;rw [e];intro d hd;rw [List.mem_singleton] at hd;rw [hd];rfl
 iscold h:=by cases h
abbrev qany (b:Bool):AV Kr := .tup [.sc (.sp csAny),.sc (.sp csAny),.sc (.lit (.bool b))]
theorem kI {β:List Nat} {v:Value} {w:World} (h:qno.holds β v w):(qany false).holds β v w:=by
 obtain ⟨vs,rfl,a,r,rfl,h1,b,r2,rfl,h2,c,r3,rfl,h3,h4⟩:=h
 exact ⟨_,rfl,a,_,rfl,⟨0,h1.1⟩,b,_,rfl,⟨0,h2.1⟩,c,_,rfl,h3,h4⟩
theorem pow_lift {a k n:Nat} (h:a<10^k) (hk:k≤n):a<B9^n :=
 Nat.lt_of_lt_of_le h (Nat.le_trans (Nat.pow_le_pow_right (by omega) hk) (Nat.pow_le_pow_left (by unfold B9;omega) _))
theorem gL {a k:Nat} (h:a<10^k) (hk:k≤1099511627776):Bd a:=by
 obtain ⟨n,hn⟩:∃ n,n=1099511627776:=⟨_,rfl⟩
 unfold Bd
 rw [← hn] at hk ⊢
 exact pow_lift h hk
theorem bd1_of {a k:Nat} (h:a<10^k) (hk:k≤100000000):a<B9^100000000:=by
 obtain ⟨n,hn⟩:∃ n,n=100000000:=⟨_,rfl⟩
 rw [← hn] at hk ⊢
 exact pow_lift h hk
theorem yF {z:Int} {k:Nat} (h:z.natAbs<10^(k+1)):(aX z).size≤k+2:=by
 have:=decB_size h
 unfold aX
 split
 ·rw [ByteArray.size_append,size45];omega
 ·omega
def Zs (k:Nat) (q:Rat):Prop:=q.num.natAbs<10^(k+1)∧q.den<10^(k+1)
theorem fracW {n:Int} {d k:Nat} (hk:k≤1000000) (hn:n.natAbs<10^(k+1)) (hd:d<10^(k+1)) (h0:0<d):jF 48 [iz n,pz d] (rS (writeB (mkRat n d))):=by
 have h:=fractionF (n:=n) (d:=d) (gL hn (by omega)) (gL hd (by omega)) h0 (bd1_of hn (by omega)) (bd1_of hd (by omega))
  (by have:=yF (k:=k) (z:=iS (decide (n<0)) (n.natAbs/Nat.gcd n.natAbs d)) (by rw [zJ];exact Nat.lt_of_le_of_lt (Nat.div_le_self _ _) hn);omega)
  (by have:=yF (k:=k) (z:=((d/Nat.gcd n.natAbs d:Nat):Int)) (by rw [Int.natAbs_natCast];exact Nat.lt_of_le_of_lt (Nat.div_le_self _ _) hd);omega)
 rw [wG n h0] at h
 exact h
theorem nY {a b k:Nat} (ha:a<10^(k+1)) (hb:b<10^(k+1)):a*b<10^(2*k+1+1):=by
 have:10^(2*k+1+1)=10^(k+1)*10^(k+1):=by rw [← Nat.pow_add];congr 1;omega
 rw [this]
 exact Nat.mul_lt_mul'' ha hb
theorem add_lt10 {a b k:Nat} (ha:a<10^(k+1)) (hb:b<10^(k+1)):a+b<10^(k+1+1):=by
 have:10^(k+1+1)=10^(k+1)*10:=Nat.pow_succ _ _
 omega
theorem uC {k:Nat} {q:Rat} (h:Zs k q) (hk:k≤10000):(decB q.num.natAbs).size≤100000∧(decB q.den).size≤100000:=by
 have h1:=decB_size h.1
 have h2:=decB_size h.2
 omega
section
variable {p q:Rat} {b1 b2:Bool}
theorem mulBig (hp:Zs 10000 p) (hq:Zs 10000 q) (q1:jF 46 [rS (writeB p)] (qany b1)) (q2:jF 46 [rS (writeB q)] (qany b2)) (hb:(b1&&b2)=false) :
 jF 16 [rS (writeB p),rS (writeB q)] (rS (writeB (p*q))):=by
 have hn:=nY hp.1 hq.1
 rw [← Int.natAbs_mul] at hn
 have hd:=nY hp.2 hq.2
 have s1:=uC hp (aR _)
 have s2:=uC hq (aR _)
 have hf:=fracW (by omega) hn hd (Nat.mul_pos p.den_pos q.den_pos)
 rw [← Rat.mul_def'] at hf
 have w1:=zT s1.1 s1.2
 have w2:=zT s2.1 s2.2
 have t1:=timesZ (gL hp.1 (by omega)) (gL hq.1 (by omega))
 have t2:=timesPP (gL hp.2 (by omega)) (gL hq.2 (by omega))
 generalize writeB p=s at *
 generalize writeB q=u at *
 cases b1 <;> cases b2 <;> first|cases hb|skip
 all_goals
  refine jT Tryz.func16 fun w00=>?_
  refine jB 46 [rS s] q1 ?_
  refine jB 46 [rS u] q2 ?_
  refine jB 44 [rS s] w1 ?_
  refine jB 44 [rS u] w2 ?_
  refine jB 50 [iz p.num,iz q.num] t1 ?_
  refine jB 50 [pz p.den,pz q.den] t2 ?_
  refine jB 48 [iz (p.num*q.num),pz (p.den*q.den)] hf ?_
  exact jS Tryz.func16
theorem addBig (hp:Zs 10000 p) (hq:Zs 10000 q) (q1:jF 46 [rS (writeB p)] (qany b1)) (q2:jF 46 [rS (writeB q)] (qany b2)) (hb:(b1&&b2)=false) :
 jF 15 [rS (writeB p),rS (writeB q)] (rS (writeB (p+q))):=by
 obtain ⟨K,hK⟩:∃ K,K=10000:=⟨_,rfl⟩
 rw [← hK] at hp hq
 have hn1:(p.num*(q.den:Int)).natAbs<10^(2*K+1+1):=Nat.lt_of_le_of_lt (Nat.le_of_eq (by rw [Int.natAbs_mul,Int.natAbs_natCast])) (nY hp.1 hq.2)
 have hn2:(q.num*(p.den:Int)).natAbs<10^(2*K+1+1):=Nat.lt_of_le_of_lt (Nat.le_of_eq (by rw [Int.natAbs_mul,Int.natAbs_natCast])) (nY hq.1 hp.2)
 have hn:(p.num*(q.den:Int)+q.num*(p.den:Int)).natAbs<10^(2*K+1+1+1):=Nat.lt_of_le_of_lt (Int.natAbs_add_le _ _) (add_lt10 hn1 hn2)
 have hd:p.den*q.den<10^(2*K+1+1+1):=Nat.lt_of_lt_of_le (nY hp.2 hq.2) (Nat.pow_le_pow_right (by omega) (by omega))
 have s1:=uC hp (by omega)
 have s2:=uC hq (by omega)
 have hf:=fracW (by omega) hn hd (Nat.mul_pos p.den_pos q.den_pos)
 rw [← Rat.add_def'] at hf
 have w1:=zT s1.1 s1.2
 have w2:=zT s2.1 s2.2
 have t1:=timesZP (a:=p.num) (b:=q.den) (gL hp.1 (by omega)) (gL hq.2 (by omega))
 have t2:=timesZP (a:=q.num) (b:=p.den) (gL hq.1 (by omega)) (gL hp.2 (by omega))
 have t3:=timesPP (gL hp.2 (by omega)) (gL hq.2 (by omega))
 have t4:=plusZ (gL hn1 (by omega)) (gL hn2 (by omega))
 generalize writeB p=s at *
 generalize writeB q=u at *
 cases b1 <;> cases b2 <;> first|cases hb|skip
 all_goals
  refine jT Tryz.func15 fun w00=>?_
  refine jB 46 [rS s] q1 ?_
  refine jB 46 [rS u] q2 ?_
  refine jB 44 [rS s] w1 ?_
  refine jB 44 [rS u] w2 ?_
  refine jB 50 [iz p.num,pz q.den] t1 ?_
  refine jB 50 [iz q.num,pz p.den] t2 ?_
  refine jB 49 [iz (p.num*(q.den:Int)),iz (q.num*(p.den:Int))] t4 ?_
  refine jB 50 [pz p.den,pz q.den] t3 ?_
  refine jB 48 [iz (p.num*(q.den:Int)+q.num*(p.den:Int)),pz (p.den*q.den)] hf ?_
  exact jS Tryz.func15
end
end Ab
section
open Go.RowKit Pl
theorem yG (b:ByteArray):(⟨#[]⟩:ByteArray)++b=b:=Ab.ba_ext (by simp)
set_option maxRecDepth 100000 in
theorem of_pos (a d:Nat) (w:World) (ha:a≤4000000000000000000) (hd:d≤4000000000000000000) (hd0:0<d) (p q g:Nat) (hg:g=Nat.gcd a d) (hp:p=a/g) (hq:q=d/g) :
 Calls Tryz.prog 47 #[.int .i64 (a:Int),.int .i64 (d:Int)] w fun e w'=>e = .returned (.string (if q=1 then Ab.decB p else Ab.decB p++⟨#[47]⟩++Ab.decB q))∧Below w.heap.size w w':=by
 have hg0:0<g:=by rw [hg];exact Nat.gcd_pos_of_pos_right _ hd0
 have hpa:p≤a:=by rw [hp];exact Nat.div_le_self _ _
 have hqd:q≤d:=by rw [hq];exact Nat.div_le_self _ _
 have hq0:0<q:=by rw [hq,hg];exact Nat.div_pos (Nat.gcd_le_right _ hd0) (Nat.gcd_pos_of_pos_right _ hd0)
 have cg:=aH (rgcd_any a d w (by omega) (by omega))
 rw [← hg] at cg
 have c1:=aH (fun W=>nR p W (by omega))
 have c2:=aH (fun W=>nR q W (by omega))
 have s1:(Ab.decB p).size≤19:=Ab.decB_size (k:=18) (by omega)
 have s2:(Ab.decB q).size≤19:=Ab.decB_size (k:=18) (by omega)
 have T:=aH (show wrap64 ((a:Int)/(g:Int))=(p:Int)∧wrap64 ((d:Int)/(g:Int))=(q:Int) from by
  have e1:(a:Int)/(g:Int)=(p:Int):=by rw [hp];simp
  have e2:(d:Int)/(g:Int)=(q:Int):=by rw [hq];simp
  rw [e1,e2]
  exact ⟨IntWalk.wrap64_in _ ⟨by omega,by omega⟩,IntWalk.wrap64_in _ ⟨by omega,by omega⟩⟩)
 have hz0:((g:Int)==0)=false:=by simp;omega
 have hz1:¬ (g:Int)=0:=by omega
 have hz3:((g:Int) == -1)=false:=by simp
 have b1:(a:Int)≤4000000000000000000:=by omega
 have b2:(d:Int)≤4000000000000000000:=by omega
 have b3:(p:Int)≤4000000000000000000:=by omega
 have b4:(q:Int)≤4000000000000000000:=by omega
 have b5:(1:Int)≤d:=by omega
 have b6:(1:Int)≤q:=by omega
 have HQ:=aH (aI hq0 (aI s1 s2))
 obtain ⟨res,hqq⟩:∃ res,res=(if q=1 then Ab.decB p else Ab.decB p++⟨#[47]⟩++Ab.decB q):=⟨_,rfl⟩
 rw [← hqq]
 have HQQ:=aH hqq
 clear hqq
 clear hg hp hq hpa hqd hg0 hd0 ha hd hq0 s1 s2
 go_enter Tryz.func47,Tryz.ntmps47
 go_wp2_with fail
 rw [show max (a:Int) (-(a:Int))=(a:Int) by omega]
 refine (cg.out).mono ?_
 rintro e w1 ⟨rfl,hb⟩
 go_wp2
 go_quiet (fail)
 have hb2:=bX hb nq
 clear hb
 generalize w1.drewN nq=w2 at *
 rw [T.out.1,T.out.2]
 go_wp2_with fail
 rw [show max (p:Int) (-(p:Int))=(p:Int) by omega]
 refine (c1.out _).mono ?_
 rintro e w3 ⟨rfl,rfl⟩
 obtain ⟨h0,s1,s2⟩:=HQ.out
 by_cases hq1:q=1
 ·have k1:¬ (1:Int)<q:=by omega
  have hr:=aH (HQQ.out.trans (if_pos hq1))
  clear hq1 h0 HQQ
  go_wp2
  go_ret
  have E:(⟨#[]⟩:ByteArray)++Ab.decB p=res:=by rw [hr.out];rw [yG]
  exact ⟨congrArg (fun s=>Ending.returned (Value.string s)) E,hb2⟩
 ·have k1:(1:Int)<q:=by omega
  have hr:=aH (HQQ.out.trans (if_neg hq1))
  clear hq1 h0 HQQ
  go_wp2_with fail
  refine (c2.out _).mono ?_
  rintro e w4 ⟨rfl,rfl⟩
  go_wp2
  go_ret
  have E:(⟨#[]⟩:ByteArray)++Ab.decB p++⟨#[47]⟩++Ab.decB q=res:=by rw [hr.out];rw [yG]
  exact ⟨congrArg (fun s=>Ending.returned (Value.string s)) E,hb2⟩
set_option maxRecDepth 100000 in
theorem of_neg (a d:Nat) (w:World) (ha0:0<a) (ha:a≤4000000000000000000) (hd:d≤4000000000000000000) (hd0:0<d) (p q g:Nat) (hg:g=Nat.gcd a d) (hp:p=a/g) (hq:q=d/g) :
 Calls Tryz.prog 47 #[.int .i64 (-(a:Int)),.int .i64 (d:Int)] w fun e w'=>e = .returned (.string (if q=1 then (⟨#[45]⟩++Ab.decB p) else (⟨#[45]⟩++Ab.decB p)++⟨#[47]⟩++Ab.decB q))∧Below w.heap.size w w':=by
 have hg0:0<g:=by rw [hg];exact Nat.gcd_pos_of_pos_right _ hd0
 have hpa:p≤a:=by rw [hp];exact Nat.div_le_self _ _
 have hqd:q≤d:=by rw [hq];exact Nat.div_le_self _ _
 have hq0:0<q:=by rw [hq,hg];exact Nat.div_pos (Nat.gcd_le_right _ hd0) (Nat.gcd_pos_of_pos_right _ hd0)
 have hp0:0<p:=by rw [hp,hg];exact Nat.div_pos (Nat.gcd_le_left _ ha0) (Nat.gcd_pos_of_pos_left _ ha0)
 have cg:=aH (rgcd_any a d w (by omega) (by omega))
 rw [← hg] at cg
 have c1:=aH (fun W=>nR p W (by omega))
 have c2:=aH (fun W=>nR q W (by omega))
 have s1:(Ab.decB p).size≤19:=Ab.decB_size (k:=18) (by omega)
 have s2:(Ab.decB q).size≤19:=Ab.decB_size (k:=18) (by omega)
 have T:=aH (show wrap64 (-((a:Int)/(g:Int)))=(-(p:Int))∧wrap64 ((d:Int)/(g:Int))=(q:Int) from by
  have e1:(a:Int)/(g:Int)=(p:Int):=by rw [hp];simp
  have e2:(d:Int)/(g:Int)=(q:Int):=by rw [hq];simp
  rw [e1,e2]
  exact ⟨IntWalk.wrap64_in _ ⟨by omega,by omega⟩,IntWalk.wrap64_in _ ⟨by omega,by omega⟩⟩)
 have hz0:((g:Int)==0)=false:=by simp;omega
 have hz1:¬ (g:Int)=0:=by omega
 have hz3:((g:Int) == -1)=false:=by simp
 have b1:(a:Int)≤4000000000000000000:=by omega
 have b2:(d:Int)≤4000000000000000000:=by omega
 have b3:(p:Int)≤4000000000000000000:=by omega
 have b4:(q:Int)≤4000000000000000000:=by omega
 have b5:(1:Int)≤d:=by omega
 have b6:(1:Int)≤q:=by omega
 have b7:(1:Int)≤a:=by omega
 have b8:(1:Int)≤p:=by omega
 have HQ:=aH (aI hq0 (aI s1 s2))
 obtain ⟨res,hqq⟩:∃ res,res=(if q=1 then (⟨#[45]⟩++Ab.decB p) else (⟨#[45]⟩++Ab.decB p)++⟨#[47]⟩++Ab.decB q):=⟨_,rfl⟩
 rw [← hqq]
 have HQQ:=aH hqq
 clear hqq
 clear hg hp hq hpa hqd hg0 hd0 ha hd hq0 s1 s2
 go_enter Tryz.func47,Tryz.ntmps47
 go_wp2_with fail
 rw [show max (-(a:Int)) (a:Int)=(a:Int) by omega]
 refine (cg.out).mono ?_
 rintro e w1 ⟨rfl,hb⟩
 go_wp2
 go_quiet (fail)
 have hb2:=bX hb nq
 clear hb
 generalize w1.drewN nq=w2 at *
 rw [T.out.1,T.out.2]
 go_wp2_with fail
 rw [show max (-(p:Int)) (p:Int)=(p:Int) by omega]
 refine (c1.out _).mono ?_
 rintro e w3 ⟨rfl,rfl⟩
 obtain ⟨h0,s1,s2⟩:=HQ.out
 by_cases hq1:q=1
 ·have k1:¬ (1:Int)<q:=by omega
  have hr:=aH (HQQ.out.trans (if_pos hq1))
  clear hq1 h0 HQQ
  go_wp2
  go_ret
  have E:(⟨#[45]⟩:ByteArray)++Ab.decB p=res:=by rw [hr.out]
  exact ⟨congrArg (fun s=>Ending.returned (Value.string s)) E,hb2⟩
 ·have k1:(1:Int)<q:=by omega
  have hr:=aH (HQQ.out.trans (if_neg hq1))
  clear hq1 h0 HQQ
  go_wp2_with fail
  refine (c2.out _).mono ?_
  rintro e w4 ⟨rfl,rfl⟩
  go_wp2
  go_ret
  have E:(⟨#[45]⟩:ByteArray)++Ab.decB p++⟨#[47]⟩++Ab.decB q=res:=by rw [hr.out]
  exact ⟨congrArg (fun s=>Ending.returned (Value.string s)) E,hb2⟩
end
namespace Ab
open Go.RowKit Pl
def zeroT:ByteArray:=⟨#[48]⟩
def oneT:ByteArray:=⟨#[49]⟩
def decF (s:ByteArray):Bool:=if s.size=0 then false else if 1<s.size∧(aC s).head?=some 48 then false else gG s
theorem decF_dec (n:Nat):decF (decB n)=true:=by
 unfold decF
 have e:aC (decB n)=Lib.decDigits n:=cL n
 rw [if_neg (by have:=qT n;omega),if_neg,tJ]
 ·exact fI n
 ·rintro ⟨h1,h2⟩
  rw [e] at h2
  by_cases h0:0<n
  ·exact uX h0 h2
  ·have:n=0:=by omega
   subst this
   rw [dec0] at h1
   exact absurd h1 (by decide)
theorem oK {s:ByteArray} (h:decF s=true):s=decB (aT (aC s)):=by
 unfold decF at h
 split at h
 ·cases h
 ·split at h
  ·cases h
  ·rename_i h0 h1
   have hd:=tJ.1 h
   refine ba_ext ?_
   rw [cL]
   refine (xG (aC s).length (aC s) rfl hd ?_ ?_).symm
   ·intro e;apply h0;rw [← aG,e];rfl
   ·by_cases hl:(aC s).length=1
    ·exact .inl hl
    ·right;intro e;apply h1
     refine ⟨?_,e⟩
     rw [aG] at hl
     omega
def jJ (s:ByteArray):Bool:=(aC s).head?==some 45
def bK (s:ByteArray):ByteArray:=if jJ s=true then s.extract 1 s.size else s
def fQ (s:ByteArray):Int :=
 if decF ((bK s).extract 0 (aJ (bK s)))=false∨(jJ s=true∧(bK s).extract 0 (aJ (bK s))=zeroT) then 1
 else if aJ (bK s)<(bK s).size∧(decF ((bK s).extract (aJ (bK s)+1) (bK s).size)=false∨(bK s).extract (aJ (bK s)+1) (bK s).size=zeroT∨(bK s).extract (aJ (bK s)+1) (bK s).size=oneT) then 1
 else if 600<aJ (bK s)∨600<(bK s).size-aJ (bK s)-1 then 4
 else if aJ (bK s)<(bK s).size∧Nat.gcd (aT (aC ((bK s).extract 0 (aJ (bK s))))) (aT (aC ((bK s).extract (aJ (bK s)+1) (bK s).size)))≠1 then 1 else 0
theorem rA {n m:Nat} (h:decB n=decB m):n=m:=by rw [← eR n,h,eR]
theorem zW (s:ByteArray):s.extract 0 s.size=s:=by
 refine ba_ext ?_
 show aC (s.extract 0 s.size)=aC s
 rw [aS,List.drop_zero,List.take_of_length_le (by rw [aG];exact aR _)]
theorem slash_split {s:ByteArray} (h:aJ s<s.size):s=s.extract 0 (aJ s)++(⟨#[47]⟩++s.extract (aJ s+1) s.size):=by
 refine ba_ext ?_
 show aC s=aC _
 have e1:aC (s.extract 0 (aJ s)++(⟨#[47]⟩++s.extract (aJ s+1) s.size))=aC (s.extract 0 (aJ s))++(47::aC (s.extract (aJ s+1) s.size)):=by simp [aC]
 have e2:(aC s).take s.size=aC s:=List.take_of_length_le (by rw [aG];exact aR _)
 rw [e1,aS,aS,List.drop_zero,e2]
 have hl:aJ s<(aC s).length:=by rw [aG];exact h
 have hk:(aC s)[aJ s]'hl=47:=by
  have:=List.findIdx_getElem (xs:=aC s) (p:=fun c=>c==47) (w:=hl)
  exact eq_of_beq this
 conv=>lhs;rw [← List.take_append_drop (aJ s) (aC s),List.drop_eq_getElem_cons hl,hk]
theorem neg_split {s:ByteArray} (h:jJ s=true):s=⟨#[45]⟩++bK s:=by
 have hh:(aC s).head?=some 45:=eq_of_beq h
 refine ba_ext ?_
 show aC s=aC _
 unfold bK
 rw [if_pos h]
 have e1:aC (⟨#[45]⟩++s.extract 1 s.size)=45::aC (s.extract 1 s.size):=by simp [aC]
 rw [e1,aS,List.take_of_length_le (by rw [aG];exact aR _)]
 generalize aC s=l at hh ⊢
 cases l with
 | nil=>cases hh
 | cons c r =>
   injection hh with hh
   rw [hh];rfl
theorem tL (q:Rat):jJ (writeB q)=decide (q.num<0)∧bK (writeB q)=aZ q:=by
 by_cases hn:q.num<0
 ·obtain ⟨f1,⟨h0,hc⟩,f3,f4,f5⟩:=iU hn
  have e:jJ (writeB q)=true:=by
   unfold jJ
   have h2:aC (writeB q)=45::aC (aZ q):=by rw [oI hn];simp [aC]
   rw [h2];rfl
  refine ⟨by rw [e,decide_eq_true hn],?_⟩
  unfold bK
  rw [if_pos e,f3]
 ·have e:jJ (writeB q)=false:=by
   unfold jJ
   obtain ⟨c,r,h1,h2⟩:=sF q
   have h3:aC (aZ q)=c::r:=h1
   rw [eZ hn,h3]
   show (some c==some 45)=false
   rw [beq_eq_false_iff_ne]
   intro h
   injection h with h
   rw [h] at h2
   exact absurd h2 (by decide)
  refine ⟨by rw [e,decide_eq_false hn],?_⟩
  unfold bK
  rw [if_neg (by rw [e];exact Bool.false_ne_true),eZ hn]
theorem body_cut (q:Rat):(aZ q).extract 0 (aJ (aZ q))=decB q.num.natAbs∧(q.den≠1→(aZ q).extract (aJ (aZ q)+1) (aZ q).size=decB q.den)∧(aJ (aZ q)<(aZ q).size↔q.den≠1):=by
 have hsl:=mQ q
 have hsz:=nX q
 refine ⟨?_,fun hd=>?_,?_⟩
 ·rw [hsl]
  by_cases h:q.den=1
  ·rw [lW h,bW,zW]
  ·rw [nW h,bW,ext_lo]
 ·rw [hsl,nW hd,bW]
  exact ext_hi _ _
 ·rw [hsl,hsz]
  by_cases h:q.den=1
  ·rw [if_pos h];simp [h]
  ·rw [if_neg h];simp [h];omega
theorem gcd_of (q:Rat):Nat.gcd q.num.natAbs q.den=1:=q.reduced
theorem tM {q:Rat} (h1:(decB q.num.natAbs).size≤600) (h2:(decB q.den).size≤600):fQ (writeB q)=0:=by
 obtain ⟨s1,s2⟩:=tL q
 obtain ⟨c1,c2,c3⟩:=body_cut q
 have hsl:=mQ q
 have hsz:=nX q
 unfold fQ
 rw [s2,s1,c1]
 rw [if_neg,if_neg,if_neg,if_neg]
 ·rintro ⟨k,e⟩
  have hd:=c3.1 k
  rw [c2 hd,eR,eR] at e
  exact e (gcd_of q)
 ·rw [hsl,hsz]
  by_cases h:q.den=1
  ·rw [if_pos h];omega
  ·rw [if_neg h];omega
 ·rintro ⟨k,e⟩
  have hd:=c3.1 k
  rw [c2 hd] at e
  rcases e with e|e|e
  ·rw [decF_dec] at e;cases e
  ·have:=rA (e.trans dec0.symm)
   exact q.den_nz this
  ·exact hd (rA (e.trans dec1.symm))
 ·rintro (e|⟨e1,e2⟩)
  ·rw [decF_dec] at e;cases e
  ·have:=rA (e2.trans dec0.symm)
   have:=of_decide_eq_true e1
   omega
theorem check_zero {s:ByteArray} (h:fQ s=0):∃ q:Rat,s=writeB q∧(decB q.num.natAbs).size≤600∧(decB q.den).size≤600:=by
 unfold fQ at h
 split at h
 ·exact absurd h (by decide)
 rename_i g1
 split at h
 ·exact absurd h (by decide)
 rename_i g2
 split at h
 ·exact absurd h (by decide)
 rename_i g3
 split at h
 ·exact absurd h (by decide)
 rename_i g4
 clear h
 obtain ⟨t,ht⟩:∃ t,t=bK s:=⟨_,rfl⟩
 rw [← ht] at g1 g2 g3 g4
 obtain ⟨k,hk⟩:∃ k,k=aJ t:=⟨_,rfl⟩
 rw [← hk] at g1 g2 g3 g4
 have ha:decF (t.extract 0 k)=true:=by
  cases e:decF (t.extract 0 k) with
  | true=>rfl
  | false=>exact absurd (.inl e) g1
 have hz:jJ s=true→t.extract 0 k≠zeroT:=fun e1 e2=>g1 (.inr ⟨e1,e2⟩)
 have hae:=oK ha
 obtain ⟨n,hn⟩:∃ n,n=aT (aC (t.extract 0 k)):=⟨_,rfl⟩
 rw [← hn] at hae g4
 have hkl:k≤t.size:=by rw [hk];exact cB t
 have hasz:(decB n).size=k:=by rw [← hae,ByteArray.size_extract];omega
 have hn0:jJ s=true→n≠0:=by
  intro e1 e2
  apply hz e1
  rw [hae,e2,dec0];rfl
 obtain ⟨z,hz1,hz2⟩:∃ z:Int,z.natAbs=n∧decide (z<0)=jJ s:=by
  cases e:jJ s with
  | true=>exact ⟨-(n:Int),by simp,by have:=hn0 e;rw [decide_eq_true_iff];omega⟩
  | false=>exact ⟨(n:Int),by simp,by rw [decide_eq_false_iff_not];omega⟩
 have fin:∀ q:Rat,q.num=z→aZ q=t→s=writeB q:=by
  intro q e1 e2
  by_cases hneg:jJ s=true
  ·have:q.num<0:=by rw [e1];exact of_decide_eq_true (hz2.trans hneg)
   rw [oI this,e2,ht]
   exact neg_split hneg
  ·have h0:jJ s=false:=by cases e:jJ s with
    | true=>exact absurd e hneg
    | false=>rfl
   have:¬ q.num<0:=by rw [e1];exact of_decide_eq_false (hz2.trans h0)
   rw [eZ this,e2,ht]
   unfold bK
   rw [if_neg hneg]
 by_cases hlt:k<t.size
 ·have hd:decF (t.extract (k+1) t.size)=true:=by
   cases e:decF (t.extract (k+1) t.size) with
   | true=>rfl
   | false=>exact absurd ⟨hlt,.inl e⟩ g2
  have hde:=oK hd
  obtain ⟨m,hm⟩:∃ m,m=aT (aC (t.extract (k+1) t.size)):=⟨_,rfl⟩
  rw [← hm] at hde g4
  have hm0:m≠0:=by
   intro e
   exact g2 ⟨hlt,.inr (.inl (by rw [hde,e,dec0];rfl))⟩
  have hm1:m≠1:=by
   intro e
   exact g2 ⟨hlt,.inr (.inr (by rw [hde,e,dec1];rfl))⟩
  have hg:Nat.gcd n m=1:=by
   by_cases e:Nat.gcd n m=1
   ·exact e
   ·exact absurd ⟨hlt,e⟩ g4
  obtain ⟨p1,p2⟩:=mk_parts z hm0
  rw [hz1,hg] at p1 p2
  have q1:(mkRat z m).num=z:=by rw [p1];simp
  have q2:(mkRat z m).den=m:=by rw [p2];simp
  refine ⟨mkRat z m,fin _ q1 ?_,by rw [q1,hz1,hasz];omega,?_⟩
  ·rw [nW (by rw [q2];exact hm1),bW,q1,hz1,q2,← hae,← hde,hk]
   exact (slash_split (hk▸hlt)).symm
  ·rw [q2,← hde,ByteArray.size_extract];omega
 ·have hkt:k=t.size:=by omega
  have q1:((z:Int):Rat).num=z:=rfl
  have q2:((z:Int):Rat).den=1:=rfl
  refine ⟨(z:Rat),fin _ q1 ?_,by rw [q1,hz1,hasz];omega,by rw [q2,dec1];decide⟩
  rw [lW q2,bW,q1,hz1,← hae,hkt,zW]
theorem rC {o:Oper} {ρ:Operand→Value} {w:World} {x y:Operand} {a b:Int} (ho:o.op = .binOp .mul 3 x y 3) (hx:ρ x = .int .i64 a) (hy:ρ y = .int .i64 b) (h:-9223372036854775808≤a*b∧a*b≤9223372036854775807) :
 (execOp ρ o).run Tryz.prog w = .ok (.value (.int .i64 (a*b))) w:=by
 simp only [execOp,ho,hx,hy]
 refine bJ ?_
 have e:IntKind.i64.wrap (a*b)=a*b:=by rw [IntWalk.i64_left,IntWalk.wrap64_in _ h]
 simp [go_sem,e]
theorem addi_run {o:Oper} {ρ:Operand→Value} {w:World} {x y:Operand} {a b:Int} (ho:o.op = .binOp .add 3 x y 3) (hx:ρ x = .int .i64 a) (hy:ρ y = .int .i64 b) (h:-9223372036854775808≤a+b∧a+b≤9223372036854775807) :
 (execOp ρ o).run Tryz.prog w = .ok (.value (.int .i64 (a+b))) w:=by
 simp only [execOp,ho,hx,hy]
 refine bJ ?_
 have e:IntKind.i64.wrap (a+b)=a+b:=by rw [IntWalk.i64_left,IntWalk.wrap64_in _ h]
 simp [go_sem,e]
theorem mS {n k:Nat} (h:(decB n).size≤k):n<10^k:=by
 have:=fY (fI n)
 rw [eR,aG] at this
 exact Nat.lt_of_lt_of_le this (Nat.pow_le_pow_right (by omega) h)
abbrev qy (q:Rat):AV Kr := .tup [.sc (.sp (iA (.int .i64 q.num) rfl false (fun h=>by cases h))),.sc (.sp (iA (.int .i64 (q.den:Int)) rfl false (fun h=>by cases h))),.sc (.lit (.bool true))]
theorem rD {q:Rat} {β:List Nat} {v:Value} {w:World} (h:(qy q).holds β v w):(qany true).holds β v w:=by
 obtain ⟨vs,rfl,a,r,rfl,h1,b,r2,rfl,h2,c,r3,rfl,h3,h4⟩:=h
 exact ⟨_,rfl,a,_,rfl,⟨q.num,h1⟩,b,_,rfl,⟨(q.den:Int),h2⟩,c,_,rfl,h3,h4⟩
theorem to_qy1 {q:Rat} {n:Int} (hn:n=q.num) (hd:q.den=1) {β:List Nat} {v:Value} {w:World} (h:(AV.tup [.sc (.sp (iA (.int .i64 n) rfl false (fun h=>by cases h))),.sc (.lit (.int .i64 1)),.sc (.lit (.bool true))]:AV Kr).holds β v w):(qy q).holds β v w:=by
 subst hn
 obtain ⟨vs,rfl,a,r,rfl,h1,b,r2,rfl,h2,c,r3,rfl,h3,h4⟩:=h
 have e:[b] = [.int .i64 1]:=h2.1
 exact ⟨_,rfl,a,_,rfl,h1,b,_,rfl,(by show [b] = [Value.int .i64 (q.den:Int)];rw [hd];exact e),c,_,rfl,h3,h4⟩
theorem to_qy2 {q:Rat} {n:Int} {d:Nat} (hn:n=q.num) (hd:d=q.den) {β:List Nat} {v:Value} {w:World} (h:(AV.tup [.sc (.sp (iA (.int .i64 n) rfl false (fun h=>by cases h))),.sc (.sp (iA (.int .i64 (d:Int)) rfl false (fun h=>by cases h))),.sc (.lit (.bool true))]:AV Kr).holds β v w):(qy q).holds β v w:=by
 subst hn
 subst hd
 exact h
theorem iB {q:Rat} (hq:Sq q):jF 46 [rS (writeB q)] (qy q):=by
 have hbs:=nX q
 have hsl:=mQ q
 obtain ⟨k1,k2,k3⟩:=body_cut q
 have n9:=mS hq.1
 have hs9:=hq.1
 have h100:(10:Nat)^9=1000000000:=by decide
 have v1:=valueF (d:=decB q.num.natAbs) (n:=q.num.natAbs) (fI _) (by omega) (eR _)
 by_cases hn:q.num<0
 ·obtain ⟨f1,f2,f3,f4,f5⟩:=iU hn
  have e1:-(q.num.natAbs:Int)=q.num:=by omega
  by_cases hd:q.den=1
  ·rw [if_pos hd] at hbs
   refine mP (quick_yes1n (u:=aZ q) (d1:=decB q.num.natAbs) (n1:=q.num.natAbs) ?_ ?_ f1 f2 f3 f4 (by omega) ?_ ?_ k1 v1 ?_) (fun β v w h=>to_qy1 e1 hd h)
   ·rw [decide_eq_false_iff_not];omega
   ·rw [decide_eq_true_iff];omega
   ·rw [hsl,decide_eq_false_iff_not];omega
   ·rw [hsl,decide_eq_false_iff_not];omega
   ·rw [hsl,decide_eq_false_iff_not];omega
  ·rw [if_neg hd] at hbs
   have hd9:(decB q.den).size≤9:=by rcases hq.2 with h|h;exact absurd h hd;exact h
   have v2:=valueF (d:=decB q.den) (n:=q.den) (fI _) (by omega) (eR _)
   refine mP (quick_yes2n (u:=aZ q) (d1:=decB q.num.natAbs) (d2:=decB q.den) (n1:=q.num.natAbs) (n2:=q.den) ?_ ?_ f1 f2 f3 f4 (by omega) ?_ ?_ k1 v1 ?_ (k2 hd) v2) (fun β v w h=>to_qy2 e1 rfl h)
   ·rw [decide_eq_false_iff_not];omega
   ·rw [decide_eq_true_iff];omega
   ·rw [hsl,decide_eq_false_iff_not];omega
   ·rw [hsl,decide_eq_false_iff_not];omega
   ·rw [hsl,decide_eq_true_iff];omega
 ·have hw:=eZ hn
  obtain ⟨c,c1,c2⟩:=sP q
  have h0:0<(aZ q).size:=c1.1
  have e1:(q.num.natAbs:Int)=q.num:=by omega
  rw [hw]
  by_cases hd:q.den=1
  ·rw [if_pos hd] at hbs
   refine mP (quick_yes1p (s:=aZ q) (d1:=decB q.num.natAbs) (n1:=q.num.natAbs) ?_ ?_ c1 c2 ?_ ?_ k1 v1 ?_) (fun β v w h=>to_qy1 e1 hd h)
   ·rw [decide_eq_false_iff_not];omega
   ·rw [decide_eq_true_iff];omega
   ·rw [hsl,decide_eq_false_iff_not];omega
   ·rw [hsl,decide_eq_false_iff_not];omega
   ·rw [hsl,decide_eq_false_iff_not];omega
  ·rw [if_neg hd] at hbs
   have hd9:(decB q.den).size≤9:=by rcases hq.2 with h|h;exact absurd h hd;exact h
   have v2:=valueF (d:=decB q.den) (n:=q.den) (fI _) (by omega) (eR _)
   refine mP (quick_yes2p (s:=aZ q) (d1:=decB q.num.natAbs) (d2:=decB q.den) (n1:=q.num.natAbs) (n2:=q.den) ?_ ?_ c1 c2 ?_ ?_ k1 v1 ?_ (k2 hd) v2) (fun β v w h=>to_qy2 e1 rfl h)
   ·rw [decide_eq_false_iff_not];omega
   ·rw [decide_eq_true_iff];omega
   ·rw [hsl,decide_eq_false_iff_not];omega
   ·rw [hsl,decide_eq_false_iff_not];omega
   ·rw [hsl,decide_eq_true_iff];omega
theorem ofF {n:Int} {d:Nat} (hn:n.natAbs≤4000000000000000000) (hd:d≤4000000000000000000) (h0:0<d):jF 47 [rI n,rI (d:Int)] (rS (writeB (mkRat n d))):=by
 intro β w vs hv
 obtain ⟨v,u,rfl,h1,h2⟩:=eG hv
 rw [bA h1,bA h2]
 have hw:=wG n h0
 by_cases hneg:n<0
 ·have e:n = -(n.natAbs:Int):=by omega
  have h:=of_neg n.natAbs d w (by omega) hn hd h0 _ _ _ rfl rfl rfl
  have hp0:0<n.natAbs/Nat.gcd n.natAbs d:=Nat.div_pos (Nat.gcd_le_left _ (by omega)) (Nat.gcd_pos_of_pos_right _ h0)
  have et:aX (iS (decide (n<0)) (n.natAbs/Nat.gcd n.natAbs d))=⟨#[45]⟩++decB (n.natAbs/Nat.gcd n.natAbs d):=by
   rw [decide_eq_true hneg]
   generalize n.natAbs/Nat.gcd n.natAbs d=m at hp0
   show aX (-(m:Int))=_
   unfold aX
   rw [if_pos (by omega)]
   simp
  rw [et,bW] at hw
  rw [← e,hw] at h
  exact h.mono fun e w' ⟨e1,e2⟩=>⟨_,e1,e2,dE⟩
 ·have e:n=(n.natAbs:Int):=by omega
  have h:=of_pos n.natAbs d w hn hd h0 _ _ _ rfl rfl rfl
  have et:aX (iS (decide (n<0)) (n.natAbs/Nat.gcd n.natAbs d))=decB (n.natAbs/Nat.gcd n.natAbs d):=by
   rw [decide_eq_false hneg]
   exact bW _
  rw [et,bW] at hw
  rw [← e,hw] at h
  exact h.mono fun e w' ⟨e1,e2⟩=>⟨_,e1,e2,dE⟩
section
variable {p q:Rat}
theorem sq_lt (h:Sq q):q.num.natAbs<1000000000∧q.den<1000000000:=by
 have h100:(10:Nat)^9=1000000000:=by decide
 refine ⟨by rw [← h100];exact mS h.1,?_⟩
 rcases h.2 with h|h
 ·omega
 ·rw [← h100];exact mS h
theorem pR {a b:Nat} (ha:a<1000000000) (hb:b<1000000000):a*b<1000000000000000000:=Nat.mul_lt_mul'' ha hb
theorem pS {a b:Int} (ha:a.natAbs<1000000000) (hb:b.natAbs<1000000000):(a*b).natAbs<1000000000000000000:=by rw [Int.natAbs_mul];exact pR ha hb
theorem mulS (hp:Sq p) (hq:Sq q):jF 16 [rS (writeB p),rS (writeB q)] (rS (writeB (p*q))):=by
 obtain ⟨a1,a2⟩:=sq_lt hp
 obtain ⟨b1,b2⟩:=sq_lt hq
 have m1:=pS a1 b1
 have m2:=pR a2 b2
 have hof:=ofF (n:=p.num*q.num) (d:=p.den*q.den) (by omega) (by omega) (Nat.mul_pos p.den_pos q.den_pos)
 rw [← Rat.mul_def',Int.natCast_mul] at hof
 have m3:((p.den:Int)*(q.den:Int))<1000000000000000000:=by rw [← Int.natCast_mul];omega
 have m4:0≤((p.den:Int)*(q.den:Int)):=by rw [← Int.natCast_mul];omega
 have q1:=iB hp
 have q2:=iB hq
 generalize writeB p=s at *
 generalize writeB q=u at *
 refine jT Tryz.func16 fun w00=>?_
 refine jB 46 [rS s] q1 ?_
 refine jB 46 [rS u] q2 ?_
 refine jL (.binOp .mul 3 (.tmp 31) (.tmp 32) 3) (.tmp 31) (.tmp 32) (rI p.num) (rI q.num) (rI (p.num*q.num)) (fun ρ o β w ho hx hy=>⟨_,rC ho (bA hx) (bA hy) (by omega),dE⟩) ?_
 refine jL (.binOp .mul 3 (.tmp 34) (.tmp 35) 3) (.tmp 34) (.tmp 35) (rI (p.den:Int)) (rI (q.den:Int)) (rI ((p.den:Int)*(q.den:Int))) (fun ρ o β w ho hx hy=>⟨_,rC ho (bA hx) (bA hy) (by omega),dE⟩) ?_
 refine jB 47 [rI (p.num*q.num),rI ((p.den:Int)*(q.den:Int))] hof ?_
 exact jS Tryz.func16
theorem addS (hp:Sq p) (hq:Sq q):jF 15 [rS (writeB p),rS (writeB q)] (rS (writeB (p+q))):=by
 obtain ⟨a1,a2⟩:=sq_lt hp
 obtain ⟨b1,b2⟩:=sq_lt hq
 have m1:(p.num*(q.den:Int)).natAbs<1000000000000000000:=pS a1 (by omega)
 have m5:(q.num*(p.den:Int)).natAbs<1000000000000000000:=pS b1 (by omega)
 have m2:=pR a2 b2
 have hof:=ofF (n:=p.num*(q.den:Int)+q.num*(p.den:Int)) (d:=p.den*q.den) (by omega) (by omega) (Nat.mul_pos p.den_pos q.den_pos)
 rw [← Rat.add_def',Int.natCast_mul] at hof
 have m3:((p.den:Int)*(q.den:Int))<1000000000000000000:=by rw [← Int.natCast_mul];omega
 have m4:0≤((p.den:Int)*(q.den:Int)):=by rw [← Int.natCast_mul];omega
 have q1:=iB hp
 have q2:=iB hq
 generalize writeB p=s at *
 generalize writeB q=u at *
 refine jT Tryz.func15 fun w00=>?_
 refine jB 46 [rS s] q1 ?_
 refine jB 46 [rS u] q2 ?_
 refine jL (.binOp .mul 3 (.tmp 31) (.tmp 32) 3) (.tmp 31) (.tmp 32) (rI p.num) (rI (q.den:Int)) (rI (p.num*(q.den:Int))) (fun ρ o β w ho hx hy=>⟨_,rC ho (bA hx) (bA hy) (by omega),dE⟩) ?_
 refine jL (.binOp .mul 3 (.tmp 34) (.tmp 35) 3) (.tmp 34) (.tmp 35) (rI q.num) (rI (p.den:Int)) (rI (q.num*(p.den:Int))) (fun ρ o β w ho hx hy=>⟨_,rC ho (bA hx) (bA hy) (by omega),dE⟩) ?_
 refine jL (.binOp .add 3 (.tmp 33) (.tmp 36) 3) (.tmp 33) (.tmp 36) (rI (p.num*(q.den:Int))) (rI (q.num*(p.den:Int))) (rI (p.num*(q.den:Int)+q.num*(p.den:Int))) (fun ρ o β w ho hx hy=>⟨_,addi_run ho (bA hx) (bA hy) (by omega),dE⟩) ?_
 refine jL (.binOp .mul 3 (.tmp 38) (.tmp 39) 3) (.tmp 38) (.tmp 39) (rI (p.den:Int)) (rI (q.den:Int)) (rI ((p.den:Int)*(q.den:Int))) (fun ρ o β w ho hx hy=>⟨_,rC ho (bA hx) (bA hy) (by omega),dE⟩) ?_
 refine jB 47 [rI (p.num*(q.den:Int)+q.num*(p.den:Int)),rI ((p.den:Int)*(q.den:Int))] hof ?_
 exact jS Tryz.func15
theorem refMulF (hp:Zs 10000 p) (hq:Zs 10000 q):jF 16 [rS (writeB p),rS (writeB q)] (rS (writeB (p*q))):=by
 by_cases h1:Sq p
 ·by_cases h2:Sq q
  ·exact mulS h1 h2
  ·exact mulBig hp hq (mP (iB h1) fun _ _ _=>rD) (mP (kH h2) fun _ _ _=>kI) rfl
 ·by_cases h2:Sq q
  ·exact mulBig hp hq (mP (kH h1) fun _ _ _=>kI) (mP (iB h2) fun _ _ _=>rD) rfl
  ·exact mulBig hp hq (mP (kH h1) fun _ _ _=>kI) (mP (kH h2) fun _ _ _=>kI) rfl
theorem uD (hp:Zs 10000 p) (hq:Zs 10000 q):jF 15 [rS (writeB p),rS (writeB q)] (rS (writeB (p+q))):=by
 by_cases h1:Sq p
 ·by_cases h2:Sq q
  ·exact addS h1 h2
  ·exact addBig hp hq (mP (iB h1) fun _ _ _=>rD) (mP (kH h2) fun _ _ _=>kI) rfl
 ·by_cases h2:Sq q
  ·exact addBig hp hq (mP (kH h1) fun _ _ _=>kI) (mP (iB h2) fun _ _ _=>rD) rfl
  ·exact addBig hp hq (mP (kH h1) fun _ _ _=>kI) (mP (kH h2) fun _ _ _=>kI) rfl
end
theorem rE {o:Oper} {ρ:Operand→Value} {w:World} {x y:Operand} {a:Nat} (ho:o.op = .binOp .sub 3 x y 3) (hx:ρ x = .int .i64 (a:Int)) (hy:ρ y = .int .i64 1) (ha:a≤9223372036854775807) :
 (execOp ρ o).run Tryz.prog w = .ok (.value (.int .i64 ((a:Int)-1))) w:=by
 simp only [execOp,ho,hx,hy]
 refine bJ ?_
 have e:IntKind.i64.wrap ((a:Int)-1)=(a:Int)-1:=by
  rw [IntWalk.i64_left,IntWalk.wrap64_in _ ⟨by omega,by omega⟩]
 simp [go_sem,e]
theorem oL {o:Oper} {ρ:Operand→Value} {w:World} {x y:Operand} {a b:Int} {r:Bool} (ho:o.op = .binOp .neq 3 x y 3) (hx:ρ x = .int .i64 a) (hy:ρ y = .int .i64 b) (h:(a != b)=r) :
 (execOp ρ o).run Tryz.prog w = .ok (.value (.bool r)) w:=by
 simp only [execOp,ho,hx,hy]
 refine bJ ?_
 rw [← h]
 exact bL (by kernel_rfl) w
section
variable {s t a d:ByteArray} {c k n m g:Nat}
theorem check_empty (h0:decide ((0:Int)<(s.size:Nat))=false) (hsl:jF 42 [rS s] (rI (0:Int))) (ha:s.extract 0 0=a) (fa:jF 43 [rS a] (rl false)):jF 12 [rS s] (.fv (.sc (.lit (.int .i64 1)))):=by
 refine jT Tryz.func12 fun w00=>?_
 refine cR 9 9 Tryz.underlying9 s ?_
 refine iI 10 0 (s.size:Nat) false h0 ?_
 refine jB 42 [rS s] hsl ?_
 refine jL (.slice 9 (.tmp 21) none (some (.tmp 22)) none) (.tmp 21) (.tmp 22) (rS s) (rI (0:Int)) (rS a) (fun ρ o β w ho hx hy=>?_) ?_
 ·have:=nU (k:=0) (w:=w) ho Tryz.underlying9 (bA hx) (bA hy) (Nat.zero_le _)
  rw [ha] at this
  exact ⟨_,this,dE⟩
 refine jB 43 [rS a] fa ?_
 exact jS Tryz.func12
end
end Ab
end Go.Proofs.YtpjknnddanhgkaaGreatDoor
