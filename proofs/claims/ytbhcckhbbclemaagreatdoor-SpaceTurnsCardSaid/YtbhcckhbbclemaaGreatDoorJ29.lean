/- Parts of the proof, joined. -/
import Derived.Test.YtbhcckhbbclemaaGreatDoorJ28
import Derived.Test.YtbhcckhbbclemaaGreatDoorJ27
set_option linter.unusedSimpArgs false
set_option linter.unusedVariables false
namespace Go.Proofs.YtbhcckhbbclemaaGreatDoor
open Go.RowKit Pl
theorem Below.step_trans' {w0 w w' : World} (h:Below w0.heap.size w0 w) (h' : Below w.heap.size w w'):Below w0.heap.size w0 w':=h.trans (h'.mono h.size)
theorem fac_facts {y:Nat} (hy:y<1000000000) (hy0:0<y):∃ f:Nat,(1000000000:Int)/((y:Int)+1)=(f:Int)∧(f:Int)≤999999999∧0<f∧f<1000000000∧f*(y+1)≤B9:=by
 refine ⟨1000000000/(y+1),?_,?_,?_,?_,?_⟩
 ·simp
 ·have:1000000000/(y+1)<1000000000:=(Nat.div_lt_iff_lt_mul (by omega)).2 (by omega)
  omega
 ·exact Nat.div_pos (by omega) (by omega)
 ·exact (Nat.div_lt_iff_lt_mul (by omega)).2 (by omega)
 ·exact Nat.div_mul_le_self _ _
theorem takeFacts {x v t bo:Nat} (bx:x<1000000000) (bv:v<1000000000) (bt:t<1000000000) (bb:bo≤1000000000):∃ P p r e:Nat,(t:Int)*(v:Int)=(P:Int)∧0≤(t:Int)*(v:Int)∧(t:Int)*(v:Int)≤1000000000000000000 ∧
 (p:Int)=(t:Int)*(v:Int)+bo∧p=t*v+bo∧r<B9∧p/B9+e≤B9∧r+p%B9=x+B9*e ∧
 ((((t:Int)*(v:Int)+bo)%1000000000≤x∧(x:Int)-((t:Int)*(v:Int)+bo)%1000000000=(r:Int)∧e=0)∨((x:Int)<((t:Int)*(v:Int)+bo)%1000000000∧(x:Int)-((t:Int)*(v:Int)+bo)%1000000000+1000000000=(r:Int)∧e=1)):=by
 have h1:t*v≤999999999*999999999:=Nat.mul_le_mul (by omega) (by omega)
 have h2:(t:Int)*(v:Int)=((t*v:Nat):Int):=by simp
 rw [h2,B9_eq]
 generalize t*v=P at *
 by_cases hc:(P+bo)%1000000000≤x
 ·exact ⟨P,P+bo,x-(P+bo)%1000000000,0,by omega,by omega,by omega,by omega,rfl,by omega,by omega,by omega,.inl ⟨by omega,by omega,rfl⟩⟩
 ·exact ⟨P,P+bo,x+1000000000-(P+bo)%1000000000,1,by omega,by omega,by omega,by omega,rfl,by omega,by omega,by omega,.inr ⟨by omega,by omega,rfl⟩⟩
theorem ints_set0 (xs:List Nat) (i:Nat):(ints xs).set i 0=ints (xs.set i 0):=by simp [List.map_set]
theorem back_ok {u v ul T h t x bor cy wv:Nat} (hu:u=ul+T*h) (hx:x+t*v=ul+T*bor) (k1:t=u/v+1) (k2:u%v+T=x+v) (hb:wv+T*cy=x+v) (hw:wv<T) (hvT:v≤T) (hv:0<v) (hcy:cy≤1):wv=u%v∧cy=1∧bor=h+1:=by
 have hdm:=Nat.div_add_mod u v
 have hm:=Nat.mod_lt u hv
 generalize u/v=q at *
 generalize u%v=r at *
 have hc:cy=1:=by
  rcases Nat.eq_zero_or_pos cy with e|e
  ·subst e;omega
  ·omega
 subst hc
 refine ⟨by omega,rfl,?_⟩
 subst k1
 have e1:(q+1)*v=v*q+v:=by grind
 have e2:T*bor=T*(h+1):=by rw [Nat.mul_add,Nat.mul_one];omega
 exact Nat.eq_of_mul_eq_mul_left (by omega) e2
theorem put_put9 {ys zs ws:List Nat} {o:Nat} (h:o+ws.length≤ys.length) (hl:zs.length≤ws.length):put (put ys o zs) o ws=put ys o ws:=by
 have e1:(put ys o zs).take o=ys.take o:=put_take0 (by omega)
 have e2:(put ys o zs).drop o=zs++ys.drop (o+zs.length):=put_drop (by omega)
 have e3:(put ys o zs).drop (o+ws.length)=ys.drop (o+ws.length):=by
  rw [← List.drop_drop,e2,List.drop_append,List.drop_of_length_le (by omega),List.nil_append,List.drop_drop]
  congr 1
  omega
 show (put ys o zs).take o++(ws++(put ys o zs).drop (o+ws.length))=_
 rw [e1,e3]
 rfl
set_option maxHeartbeats 4000000 in
set_option maxRecDepth 1000000 in
theorem divLong_any (A:Option Addr) (n c:Nat) (xs:List Nat) (A' : Option Addr) (n' c' : Nat) (ys:List Nat) (w:World) (h:Ri w A n c xs) (h' : Ri w A' n' c' ys)
 (hd:Dig B9 xs) (hd' : Dig B9 ys) (hx:Norm xs) (hy:Norm ys) (hn:n≤1099511627776) (hn2:2≤n') (hge:val B9 ys≤val B9 xs) :
 Calls Tryz.prog 118 #[.slice A n c,.slice A' n' c'] w (GivesDi2 w (val B9 xs/val B9 ys) (val B9 xs%val B9 ys)):=by
 have hnc:n≤c:=h.cap
 have hcm:c≤9223372036854775807:=h.2.2.1
 have hnc' : n'≤c':=h'.cap
 have hcm' : c'≤9223372036854775807:=h'.2.2.1
 have hle:n'≤n:=by
  rcases Nat.lt_or_ge n n' with e|e
  ·have:=lt_of_length B9_one hd hy (by rw [h.len,h'.len];exact e)
   omega
  ·exact e
 obtain ⟨ad',y,hA',hblk',hyt,hcy⟩:=h'.at_ (k:=n'-1) (by omega)
 subst hA'
 have hyl:y<1000000000:=hd'.at_ hyt
 have hy0:0<y:=by
  have hne:ys≠[]:=by rintro rfl;simp at hyt
  have:=hy hne
  rw [List.getLast_eq_getElem] at this
  obtain ⟨k,ey⟩:=List.getElem?_eq_some_iff.1 hyt
  have hl:=h'.len
  simp only [hl,ey] at this
  omega
 obtain ⟨f,hf,hfb,hf0,hf1,hfy⟩:=fac_facts hyl hy0
 have hyb:(y:Int)≤999999999:=by omega
 have hc1:¬ cmpI (val B9 xs) (val B9 ys)<0:=by unfold cmpI;rw [if_neg (by omega)];split <;> omega
 obtain ⟨z,hz⟩:∃ z:Int,cmpI (val B9 xs) (val B9 ys)=z:=⟨_,rfl⟩
 have cc:=Lib.hid (compareDigits_any A n c xs (some ad') n' c' ys w h h' hd hd' hx hy)
 rw [hz] at cc hc1
 have hz0:decide (z<0)=false:=decide_eq_false hc1
 have hz1:((n' : Int)==1)=false:=by simp;omega
 have HX:=Lib.hid (And.intro h (And.intro hd (And.intro hx (And.intro hn (And.intro hn2 (And.intro hge hle))))))
 have HY:=Lib.hid (And.intro h' (And.intro hd' (And.intro hy (And.intro hyt (And.intro hf0 (And.intro hf1 hfy))))))
 have i1:(2:Int)≤n':=by omega
 have i2:(n:Int)≤1099511627776:=by omega
 have i3:(n' : Int)≤n:=by omega
 clear h h' hd hd' hx hy hn hn2 hge hle hyt hf0 hf1 hfy hyl hy0 hc1 hz
 go_enter Tryz.func118,Tryz.ntmps118
 go_wp2_with fail
 refine cc.out.mono ?_
 rintro e w0 ⟨rfl,hb0⟩
 have hcy0:=(hb0.cell (p:=ad'.add (n'-1)) (by rw [block_add];exact hblk')).trans hcy
 clear hcy
 go_wp2_with fail
 have hbF:Bi (w0.alloc (.cells #[.int .i64 (f:Int)] 3)) w0.heap.size 3 [f]:=heap_alloc_new w0 _
 have hbA:Below w.heap.size w (w0.alloc (.cells #[.int .i64 (f:Int)] 3)):=hb0.alloc hb0.size _
 have hgw:w.heap.size≤w0.heap.size:=hb0.size
 generalize (w0.alloc (.cells #[.int .i64 (f:Int)] 3))=wA at *
 generalize w0.heap.size=g0 at *
 have hdF:Dig B9 [f]:=Dig.cons (by rw [B9_eq];exact HY.out.2.2.2.2.2.1) (Dig.nil _)
 have HF:=Lib.hid (And.intro hbF (And.intro hbA (And.intro hgw hdF)))
 clear hbF hbA hgw hdF hb0 hcy0 hz0 hz1
 refine (mulDigits_any (some ad') n' c' ys (some ⟨g0,0,none⟩) 1 1 [f] wA (HY.out.1.below HF.out.2.1) (HF.out.1.rd (by show 1≤9223372036854775807;omega)) HY.out.2.1 HF.out.2.2.2 (by omega) (by omega)).mono ?_
 rintro e w1 ⟨v,rfl,⟨Av,nv,cv,vs,rfl,hrv,hdv,hnv,hvv⟩,hb1⟩
 have hvv:val B9 vs=val B9 ys*f:=by rw [hvv];simp [val]
 obtain rfl:nv=n':=by
  have:=scaled_len HY.out.2.1 (by rw [HY.out.1.len];omega) (by rw [HY.out.1.len];exact HY.out.2.2.2.1) hdv hnv HY.out.2.2.1 hvv HY.out.2.2.2.2.1 HY.out.2.2.2.2.2.2
  rw [hrv.len,HY.out.1.len] at this
  exact this
 have hbF1:Bi w1 g0 3 [f]:=HF.out.1.below hb1 HF.out.1.lt
 have hbA1:Below w.heap.size w w1:=Below.step_trans' HF.out.2.1 hb1
 have hg01:g0<w1.heap.size:=hbF1.lt
 have hcv:cv≤9223372036854775807:=hrv.2.2.1
 have hncv:nv≤cv:=hrv.cap
 have HV:=Lib.hid (And.intro hrv (And.intro hdv (And.intro hnv (And.intro hvv (And.intro hbF1 (And.intro hbA1 hg01))))))
 clear hrv hdv hnv hvv hbF1 hbA1 hg01 hb1 hf hfb hyb cc
 go_wp2_with fail
 obtain ⟨B1,hB1⟩:∃ b,b=w1.heap.size:=⟨_,rfl⟩
 have hnil:(w1.alloc (.cells #[] 3)).heap[w1.heap.size]?=some (.cells #[] 3 (0,0)):=heap_alloc_new w1 _
 have hbN:Below w1.heap.size w1 (w1.alloc (.cells #[] 3)):=(Below.refl _ _).alloc (Nat.le_refl _) _
 generalize (w1.alloc (.cells #[] 3))=wN at *
 rw [← hB1] at hnil hbN ⊢
 have HN:=Lib.hid (And.intro hnil (And.intro hbN hB1))
 clear hnil hbN hB1
 refine (mulDigits_any A n c xs (some ⟨g0,0,none⟩) 1 1 [f] wN ((HX.out.1.below HV.out.2.2.2.2.2.1).below (by rw [← HN.out.2.2];exact HN.out.2.1)) ((HV.out.2.2.2.2.1.below HN.out.2.1 (by rw [HN.out.2.2];exact HV.out.2.2.2.2.2.2)).rd (by show 1≤9223372036854775807;omega)) HX.out.2.1 HF.out.2.2.2 (by omega) (by omega)).mono ?_
 rintro e w2 ⟨v2,rfl,⟨A2,m2,c2,us0,rfl,hr2,hd2,hn2,hv2⟩,hb2⟩
 have hv2:val B9 us0=val B9 xs*f:=by rw [hv2];simp [val]
 have hpos:0<val B9 xs:=by
  have h1:=HY.out.2.2.1.pos B9_pos (l:=ys) (by rintro rfl;have:=HY.out.1.len;simp at this;omega)
  have h2:=HX.out.2.2.2.2.2.1
  omega
 have hm2:m2≤n+1:=by
  rw [← hr2.len]
  refine length_le_of_val B9_one hn2 ?_
  rw [hv2,Nat.pow_succ]
  have h1:=val_lt HX.out.2.1
  rw [HX.out.1.len] at h1
  exact Nat.mul_lt_mul'' h1 (by rw [B9_eq];exact HY.out.2.2.2.2.2.1)
 have hm0:0<m2:=by
  rcases Nat.eq_zero_or_pos m2 with e|e
  ·exfalso
   subst e
   have:us0 = []:=List.eq_nil_of_length_eq_zero hr2.len
   subst this
   have h1:0<val B9 xs*f:=Nat.mul_pos hpos HY.out.2.2.2.2.1
   rw [← hv2] at h1
   simp [val] at h1
  ·exact e
 have hNlt:B1<wN.heap.size:=(Array.getElem?_eq_some_iff.1 HN.out.1).1
 have hown:w2.ownsRow B1 3 1 (.slice (some ⟨B1,0,none⟩) 0 0) 0 ([]:List Value):=row_nil ((hb2.block B1 hNlt).trans HN.out.1) (Nat.le_refl _)
 have hb12:Below B1 w1 w2:=HN.out.2.1.trans (hb2.mono (Nat.le_of_lt hNlt))
 have hs2:B1≤w2.heap.size:=Nat.le_trans (Nat.le_of_lt hNlt) hb2.size
 have HU:=Lib.hid (And.intro hr2 (And.intro hd2 (And.intro hv2 (And.intro hpos (And.intro hm2 (And.intro hm0 (And.intro hown (And.intro hb12 hs2))))))))
 clear hr2 hd2 hn2 hv2 hpos hm2 hm0 hown hb12 hs2 hb2 hNlt
 go_wp2_with (at_builtin;refine wpList_src rfl _ _ rfl rfl HU.out.2.2.2.2.2.2.1 rfl HU.out.1 HU.out.2.2.2.2.2.1 (by have:=HU.out.2.2.2.2.1;omega) HU.out.2.2.2.2.2.2.2.2 ?_)
 intro v3 w3 hr3 hg3
 have hb3:Below B1 w1 w3:=HU.out.2.2.2.2.2.2.2.1.grown hg3 HU.out.2.2.2.2.2.2.2.2 (fun b hb=>by simp [Value.ownBlock] at hb;omega)
 have HR:=Lib.hid (And.intro hr3 hb3)
 clear hr3 hb3 hg3
 go_wp2
 go_loopw [11] (fun uv wr => ∃ (m:Nat) (zs:List Nat),wr.ownsRow B1 3 1 uv m (zs.map cellI)∧0<m∧m≤n+1∧Dig B9 zs∧val B9 zs=val B9 xs*f∧Below B1 w1 wr) (fun uv _=>n+1-lenOf uv)
 case atStart=>exact ⟨m2,us0,HR.out.1,HU.out.2.2.2.2.2.1,HU.out.2.2.2.2.1,HU.out.2.1,HU.out.2.2.1,HR.out.2⟩
 case round =>
  clear HR
  obtain ⟨m,zs,hrow,hm0,hmn,hdz,hvz,hb⟩:=hrel
  have hrow':=hrow
  obtain ⟨gu,cu,rfl,hgu,hcu,how,hzl⟩:=ow_of_row hrow hm0
  by_cases hlt:m<n+1
  ·have k1:(m:Int)<(n:Int)+1:=by omega
   have HM:=Lib.hid (And.intro hrow' (And.intro hdz (And.intro hvz (And.intro hb (And.intro hzl hlt)))))
   have hs:B1≤wr.heap.size:=Nat.le_trans hgu (Nat.le_of_lt how.lt)
   clear hrow hrow' hdz hvz hb hlt how hgu hzl
   go_wp2_with (at_builtin;refine wpList_app (r:=0) (B:=B1) rfl _ _ rfl rfl HM.out.1 rfl (by omega) HM.out.2.2.2.1 (Nat.le_refl _) hs ?_)
   intro v4 w4 hr4 hb4 _
   have hr4' : w4.ownsRow B1 3 1 v4 (m+1) ((zs ++ [0]).map cellI):=by rw [List.map_append];exact hr4
   obtain ⟨g4,c4,rfl,_,_,_,_⟩:=ow_of_row hr4' (Nat.succ_pos _)
   have HQ:=Lib.hid (And.intro hr4' hb4)
   clear hr4'
   clear hr4 hb4
   go_wp2
   go_roundw
   case rel =>
    refine ⟨m+1,zs ++ [0],HQ.out.1,by omega,by have:=HM.out.2.2.2.2.2;omega,HM.out.2.1.app (Dig.cons B9_pos (Dig.nil _)),?_,HQ.out.2⟩
    rw [val_snoc,Nat.mul_zero,Nat.add_zero];exact HM.out.2.2.1
   case measure =>
    have:=HM.out.2.2.2.2.2
    clear HQ HM
    simp [lenOf];omega
  ·obtain rfl:m=n+1:=by omega
   have hst:LongJ (val B9 vs) (val B9 xs*f) nv (n-nv+1) zs (List.replicate (n-nv+1) 0) (n-nv+1) :=
    LongJ.start hdz hzl hvz rfl (by have:=val_lt HX.out.2.1;rwa [HX.out.1.len] at this) HV.out.2.2.2.1 HY.out.2.2.2.2.1
     (by have:=HY.out.2.2.1.ge (B:=B9) (l:=ys) (by rintro rfl;have:=HY.out.1.len;simp at this;omega);rwa [HY.out.1.len] at this) HX.out.2.2.2.2.2.2 (by omega)
   have k1:¬ ((n+1:Nat):Int)<(n:Int)+1:=by omega
   have HM:=Lib.hid (And.intro hst (And.intro how (And.intro hb (And.intro hgu hcu))))
   clear hst how hb hgu hrow hrow' hdz hvz hzl hlt hmn hm0
   obtain ⟨i0,hi,hz0,hz1,hz2⟩:=info_parts info_int3
   have HI:=Lib.hid (And.intro hi (And.intro hz0 (And.intro hz1 hz2)))
   clear hi hz0 hz1 hz2
   go_wp2_with (at_make;refine wpList_make_full _ rfl _ _ 92 rfl wr.heap.size 3 i0 (.int .i64 0) 1 Tryz.underlying92 HI.out.1 HI.out.2.1 HI.out.2.2.1 _ _ _ _ (n-nv+1) rfl rfl ?b0 ?b1 ?b2 ?b3 (Nat.le_refl _) ?_)
   case b0=>omega
   case b1=>omega
   case b2=>rw [HI.out.2.2.2];omega
   case b3=>show n-nv+1≤9223372036854775807;omega
   intro w5 hown5 hg5
   have hblk:=bi_of_made hown5
   have hb5:Below B1 w1 w5:=HM.out.2.2.1.grown hg5 (Nat.le_trans HM.out.2.2.2.1 (Nat.le_of_lt HM.out.2.1.lt)) (fun b hb=>by cases hb)
   have how5:Ow w5 gu cu (ints zs):=HM.out.2.1.grown hg5 (by simp)
   have hguq:gu<wr.heap.size:=HM.out.2.1.lt
   obtain ⟨gq,hgq⟩:∃ g,g=wr.heap.size:=⟨_,rfl⟩
   rw [← hgq] at hblk hguq ⊢
   obtain ⟨L,hL⟩:∃ L,L=n-nv+1:=⟨_,rfl⟩
   have hLi:(L:Int)=(n:Int)-nv+1:=by omega
   have hLn:L+nv=n+1:=by omega
   have hgu1:=HM.out.2.2.2.1
   have hcu:=HM.out.2.2.2.2
   rw [← hL] at hblk ⊢
   have hst:=HM.out.1
   rw [← hL] at hst
   have HS:=Lib.hid (And.intro hst (And.intro hblk (And.intro how5 (And.intro hb5 (And.intro hguq (And.intro hgu1 (And.intro hLn hcu)))))))
   clear hst hblk how5 hb5 hguq hgu1 hgq hown5 hg5 hL HM k1 hLn
   clear HU
   go_wp2
   go_loopw [13] (fun jv wr => ∃ (k:Nat) (us qs:List Nat),k≤L∧jv = .int .i64 ((k:Int)-1)∧LongJ (val B9 vs) (val B9 xs*f) nv L us qs k∧Bi wr gq 3 qs∧Ow wr gu cu (ints us)∧Below B1 w1 wr) (fun jv _=>(intOf jv+1).toNat)
   case atStart=>exact ⟨L,zs,_,Nat.le_refl _,by go_num,HS.out.1,HS.out.2.1,HS.out.2.2.1,HS.out.2.2.2.1⟩
   case round =>
    obtain ⟨k,us,qs,hk,rfl,hinv,hbq,hou,hbw⟩:=hrel
    rcases Nat.eq_zero_or_pos k with rfl|hk0
    ·obtain ⟨f1,f2,f3⟩:=hinv.finish HV.out.2.2.2.1 (HY.out.2.2.1.pos B9_pos (l:=ys) (by rintro rfl;have:=HY.out.1.len;simp at this;omega)) HY.out.2.2.2.2.1
     have hul:us.length=n+1:=by rw [hinv.2.1];exact HS.out.2.2.2.2.2.2.1
     have hql:qs.length=L:=hinv.2.2.2.1
     have hru:Ri wr (some ⟨gu,0,none⟩) (n+1) cu us:=by have:=hou.rd HS.out.2.2.2.2.2.2.2;rwa [hul] at this
     have hrq:Ri wr (some ⟨gq,0,none⟩) L L qs:=by have:=hbq.rd (by rw [hql];show L≤9223372036854775807;omega);rwa [hql] at this
     have hcap:n+1≤cu:=hru.cap
     have hcap2:nv≤cu:=by omega
     have hVle:val B9 vs≤B9^nv:=by have:=val_lt HV.out.2.1;rw [HV.out.1.len] at this;exact Nat.le_of_lt this
     have htk:val B9 (us.take nv)=val B9 us:=by
      have e:=val_split B9 us nv (by omega)
      rcases Nat.eq_zero_or_pos (val B9 (us.drop nv)) with e2|e2
      ·rw [e2] at e;omega
      ·exfalso
       have:B9^nv*1≤B9^nv*val B9 (us.drop nv):=Nat.mul_le_mul_left _ e2
       omega
     have hbF:Bi wr g0 3 [f]:=HV.out.2.2.2.2.1.below (by rw [← HN.out.2.2];exact hbw) HV.out.2.2.2.2.2.2
     have hcf:wr.cell? ⟨g0,0,none⟩=some (.int .i64 (f:Int)):=hbF.cell rfl
     have hbw0:Below w.heap.size w wr:=Below.step_trans' HV.out.2.2.2.2.2.1 (by rw [← HN.out.2.2];exact hbw)
     have HZ:=Lib.hid (And.intro f1 (And.intro f2 (And.intro hinv.1 (And.intro hinv.2.2.1 (And.intro (hru.take (k:=nv) (by omega)) (And.intro hrq (And.intro htk (And.intro hbF hbw0))))))))
     have HZ2:=Lib.hid (show val B9 us<B9^(n+1) by have:=val_lt hinv.1;rwa [hul] at this)
     clear f1 f2 f3 hinv hul hql hru hrq hVle htk hbF hbw0 hbq hou hbw hk
     simp only [show (((0:Nat):Int)-1) = -1 from rfl]
     have ct:=Lib.hid (fun W (hB:Below wr.heap.size wr W)=>trim_any (some ⟨gu,0,none⟩) nv cu (us.take nv) W (HZ.out.2.2.2.2.1.below hB) (HZ.out.2.2.1.take nv))
     have cd:=Lib.hid (fun W A3 k3 c3 ys3 (hr:Ri W A3 k3 c3 ys3) (hd:Dig B9 ys3) (hk:k3≤2199023255552)=>divDigit_any A3 k3 c3 ys3 f W hr hd hk HY.out.2.2.2.2.1 HY.out.2.2.2.2.2.1)
     go_wp2
     go_region_with (first|(go_at_call 166;refine (ct.out _ (by repeat (first|exact Below.refl _ _|refine Below.drew ?_))).mono ?_;rintro e w9 ⟨⟨v9,rfl,A3,k3,c3,ys3,rfl,hr3,hd3,hn3,hv3⟩,rfl⟩;have H3:=Lib.hid (And.intro hr3 (And.intro hd3 (And.intro hn3 hv3)));clear hr3 hd3 hn3 hv3)|(go_at_call 165;refine (cd.out _ _ _ _ _ H3.out.1 H3.out.2.1 (by have h1:=length_le_of_val B9_one H3.out.2.2.1 (L:=n+1) (by rw [H3.out.2.2.2,HZ.out.2.2.2.2.2.2.1];exact HZ2.out);rw [H3.out.1.len] at h1;omega)).mono ?_;rintro e w10 ⟨v10,rfl,hv10,hb10⟩;have H10:=Lib.hid (And.intro hv10 hb10);clear hv10 hb10))
     all_goals
      have hbd:Below wr.heap.size wr w10:=Below.step_trans' (w:=wr.drew) (Below.drew (Below.refl _ _)) H10.out.2
      have hvm:val B9 ys3/f=val B9 xs%val B9 ys:=by
       rw [H3.out.2.2.2,HZ.out.2.2.2.2.2.2.1,HZ.out.2.1]
       exact Nat.mul_div_cancel _ HY.out.2.2.2.2.1
      have hq10:Ri w10 (some ⟨gq,0,none⟩) L L qs:=HZ.out.2.2.2.2.2.1.below hbd
      have HL:=Lib.hid (And.intro hbd (And.intro hvm hq10))
      clear hbd hvm hq10
      go_wp2_with (go_at_call 166;refine (trim_any _ _ _ qs _ HL.out.2.2 HZ.out.2.2.2.1).mono ?_;rintro e w11 ⟨⟨v11,rfl,hv11⟩,rfl⟩)
      go_ret2
      exact ⟨v11,v10,rfl,by rw [← HZ.out.1];exact hv11,by rw [← HL.out.2.1];exact H10.out.1,Below.step_trans' HZ.out.2.2.2.2.2.2.2.2 HL.out.1⟩
    ·obtain ⟨j,rfl⟩:∃ m,k=m+1:=⟨k-1,by omega⟩
     have hul:us.length=n+1:=by rw [hinv.2.1];exact HS.out.2.2.2.2.2.2.1
     have hVle:val B9 vs≤B9^nv:=by have:=val_lt HV.out.2.1;rw [HV.out.1.len] at this;exact Nat.le_of_lt this
     have hwin:=hinv.window (by omega) hVle
     have hrv:Ri wr Av nv cv vs:=HV.out.1.below (by rw [← HN.out.2.2];exact hbw)
     have hru:Ri wr (some ⟨gu,0,none⟩) (n+1) cu us:=by have:=hou.rd HS.out.2.2.2.2.2.2.2;rwa [hul] at this
     have hjn:j+nv<n+1:=by have:=HS.out.2.2.2.2.2.2.1;omega
     obtain ⟨p2,hp2⟩:∃ p,nv=p+2:=⟨nv-2,by omega⟩
     obtain ⟨d0,hd0⟩:∃ y,us[j+(p2+2)]?=some y:=⟨_,List.getElem?_eq_getElem (by omega)⟩
     obtain ⟨d1,hd1⟩:∃ y,us[j+(p2+1)]?=some y:=⟨_,List.getElem?_eq_getElem (by omega)⟩
     obtain ⟨d2,hd2⟩:∃ y,us[j+p2]?=some y:=⟨_,List.getElem?_eq_getElem (by omega)⟩
     obtain ⟨fv,hfv⟩:∃ y,vs[p2+1]?=some y:=⟨_,List.getElem?_eq_getElem (by rw [hrv.len];omega)⟩
     obtain ⟨sv,hsv⟩:∃ y,vs[p2]?=some y:=⟨_,List.getElem?_eq_getElem (by rw [hrv.len];omega)⟩
     have hfv0:0<fv:=by
      have hne:vs≠[]:=by rintro rfl;simp at hfv
      have h1:=HV.out.2.2.1 hne
      rw [List.getLast_eq_getElem] at h1
      obtain ⟨k,ey⟩:=List.getElem?_eq_some_iff.1 hfv
      have hl:=hrv.len
      simp only [hl,hp2,show p2+2-1=p2+1 by omega,ey] at h1
      omega
     have hwl:((us.drop j).take (nv+1)).length=p2+3:=by simp;omega
     have hgd:=gd_ok (us:=(us.drop j).take (nv+1)) (vs:=vs) (m:=p2) hwl (by rw [hrv.len];exact hp2) ((hinv.1.drop _).take _) HV.out.2.1 (by rw [window_get (by omega)];exact hd0) (by rw [window_get (by omega)];exact hd1) (by rw [window_get (by omega)];exact hd2) hfv hsv hfv0 (by rw [hwin.1];exact hwin.2.2)
     obtain ⟨t,ht⟩:∃ t,t=gD (d0*B9+d1) d2 fv sv:=⟨_,rfl⟩
     have htb:t<1000000000:=by rw [ht,← B9_eq];exact gd_lt
     have cg:=Lib.hid (rguess_any (some ⟨gu,0,none⟩) (n+1) cu us Av p2 nv cv vs j wr hru hp2 hrv hinv.1 HV.out.2.1 (by omega) (by omega) d0 d1 d2 fv sv hd0 hd1 hd2 hfv hsv hfv0 hgd.2.2)
     rw [← ht] at cg hgd
     have hd0' : us[j+nv]?=some d0:=by rw [hp2];exact hd0
     have HE:=Lib.hid (And.intro hinv (And.intro hbq (And.intro hou (And.intro hbw (And.intro hul (And.intro hVle (And.intro hwin (And.intro hrv (And.intro hgd (And.intro htb (And.intro hd0' hjn)))))))))))
     have j1:(j:Int)+nv≤n:=by omega
     have j2:(t:Int)≤999999999:=by omega
     have hidx:((j:Int)+1-1)=j:=by omega
     clear hinv hbq hou hbw hul hVle hwin hrv hru hjn hp2 hd0 hd1 hd2 hfv hsv hfv0 hwl hgd ht htb hd0' hk hk0
     simp only [Int.natCast_add,Int.natCast_one,hidx]
     clear hidx
     go_wp2_with fail
     refine cg.out.mono ?_
     rintro e w6 ⟨rfl,hb6⟩
     have HB6:=Lib.hid hb6
     clear hb6 cg
     go_wp2
     go_loopw [15,16] (fun bv iv wr => ∃ (i bo:Nat) (zs:List Nat),i≤nv∧iv = .int .i64 (i:Int)∧bv = .int .i64 (bo:Int)∧TakeK us vs zs j t i bo∧Ow wr gu cu (ints (put us j zs))∧w6.grownBy wr (some gu)) (fun _ iv _=>nv-(intOf iv).toNat)
     case atStart=>exact ⟨0,0,[],Nat.zero_le _,rfl,rfl,⟨rfl,Dig.nil _,Nat.zero_le _,by simp [val]⟩,by rw [put_nil];exact HE.out.2.2.1.below HB6.out HE.out.2.2.1.lt,only_refl _ _⟩
     case round =>
      obtain ⟨i,bo,zs,hi,rfl,rfl,htk,how,hg⟩:=hrel
      have hgu1:=HS.out.2.2.2.2.2.1
      have hb6:Below B1 w1 w6:=HE.out.2.2.2.1.trans (HB6.out.mono (Nat.le_trans hgu1 (Nat.le_of_lt HE.out.2.2.1.lt)))
      have hs6:B1≤w6.heap.size:=Nat.le_trans hgu1 (Nat.le_trans (Nat.le_of_lt HE.out.2.2.1.lt) HB6.out.size)
      have hbk:Below B1 w1 wr:=hb6.grown hg hs6 (fun b hb=>by injection hb with hb;omega)
      have hul:=HE.out.2.2.2.2.1
      have hjn:=HE.out.2.2.2.2.2.2.2.2.2.2.2
      by_cases hlt:i<nv
      ·obtain ⟨adv,v,rfl,_,hv,hcv'⟩:=(HV.out.1.below (by rw [← HN.out.2.2];exact hbk)).at_ (k:=i) hlt
       obtain ⟨x,hx⟩:∃ x,us[j+i]?=some x:=⟨_,List.getElem?_eq_getElem (by omega)⟩
       have hcx:=how.cell (i:=i+j) (ints_get (by rw [Nat.add_comm i j,put_get (by rw [htk.1];exact Nat.le_refl _) (by omega)];exact hx))
       have hfx:=how.frozen (i+j)
       have bx:x<1000000000:=HE.out.1.1.at_ hx
       have bv:v<1000000000:=HV.out.2.1.at_ hv
       have bt:t<1000000000:=HE.out.2.2.2.2.2.2.2.2.2.1
       have bb:bo≤1000000000:=htk.2.2.1
       obtain ⟨P,p,r,e,eP,bP0,bP2,hpI,hp,hr,he,hre,hcase⟩:=takeFacts bx bv bt bb
       have hst:=htk.step hx hv hp hr he hre
       have b1:(x:Int)≤999999999:=by omega
       have b2:(bo:Int)≤1000000000:=by omega
       have a1:(i:Int)<nv:=by omega
       have a2:(i:Int)+j<(n:Int)+1:=by omega
       have HT:=Lib.hid (And.intro hst (And.intro how (And.intro hg (And.intro hlt (And.intro hpI (And.intro hcase (And.intro htk.1 hul)))))))
       clear hst how hg hlt htk hx hv hp hr he hre bx bv bt bb hb6 hs6 hbk hul hjn hgu1 hi eP hpI
       rcases hcase with ⟨q1,q2,rfl⟩|⟨q1,q2,rfl⟩
       ·have c1:decide ((x:Int)-((t:Int)*(v:Int)+bo)%1000000000<0)=false:=by rw [decide_eq_false_iff_not];omega
        clear q1
        go_wp2
        go_roundw
        case rel =>
         obtain ⟨hst,how,hg,hlt,hpI,_,hzl,hul⟩:=HT.out
         refine ⟨i+1,p/B9+0,zs ++ [r],hlt,by go_num,?_,hst,?_,only_trans hg (only_set _ _ _ _)⟩
         ·rw [Nat.add_zero];refine congrArg _ ?_;rw [B9_eq];omega
         ·rw [Nat.add_comm i j,← put_set hzl (by omega),← ints_set]
          exact how.set_ _ _
        case measure =>
         have:=HT.out.2.2.2.1
         clear HT q2 c1
         simp [intOf];omega
       ·have c1:(x:Int)-((t:Int)*(v:Int)+bo)%1000000000<0:=by omega
        clear q1
        go_wp2
        go_roundw
        case rel =>
         obtain ⟨hst,how,hg,hlt,hpI,_,hzl,hul⟩:=HT.out
         refine ⟨i+1,p/B9+1,zs ++ [r],hlt,by go_num,?_,hst,?_,only_trans hg (only_set _ _ _ _)⟩
         ·refine congrArg _ ?_;rw [B9_eq];omega
         ·rw [Nat.add_comm i j,← put_set hzl (by omega),← ints_set]
          exact how.set_ _ _
        case measure =>
         have:=HT.out.2.2.2.1
         clear HT q2 c1
         simp [intOf];omega
      ·obtain rfl:nv=i:=by omega
       have hd0:=HE.out.2.2.2.2.2.2.2.2.2.2.1
       have hc0:=how.cell (i:=j+nv) (ints_get (by rw [put_get (by rw [htk.1];exact Nat.le_refl _) (by omega)];exact hd0))
       have hf0:=how.frozen (j+nv)
       have hne:¬ gq=gu:=by have:=HS.out.2.2.2.2.1;omega
       have hne2:¬ gu=gq:=by omega
       have hbq6:=HE.out.2.1.below HB6.out HE.out.2.1.lt
       have hbq:Bi wr gq 3 qs:=(hg.block gq hbq6.lt (by intro e;injection e with e;exact hne e)).trans hbq6
       have hqlen:qs.length=L:=HE.out.1.2.2.2.1
       have hjL:j<L:=by have:=HS.out.2.2.2.2.2.2.1;omega
       obtain ⟨zq,hcq⟩:∃ z:Int,wr.cell? ⟨gq,j,none⟩=some (.int .i64 z):=⟨_,hbq.cell_get (by omega)⟩
       have hfq:=hbq.frozen j
       have htv:=htk.2.2.2
       rw [List.take_of_length_le (l:=vs) (by rw [HV.out.1.len];exact Nat.le_refl _)] at htv
       have hU:val B9 ((us.drop j).take (nv+1))=val B9 ((us.drop j).take nv)+B9^nv*d0:=by
        have hk:nv<(us.drop j).length:=by simp;omega
        rw [val_take_succ _ _ _ hk]
        have:(us.drop j)[nv]=d0:=by
         have h1:(us.drop j)[nv]?=some d0:=by rw [List.getElem?_drop];exact hd0
         rw [List.getElem?_eq_getElem hk] at h1
         injection h1
        rw [this]
       have hxT:=val_lt htk.2.1
       rw [htk.1] at hxT
       have hVle:=HE.out.2.2.2.2.2.1
       have hV0:0<val B9 vs:=by
        rcases Nat.eq_zero_or_pos (val B9 vs) with e|e
        ·exfalso
         have:=HE.out.2.2.2.2.2.2.1.2.2
         rw [e,Nat.zero_mul] at this
         omega
        ·exact e
       have hgd:=HE.out.2.2.2.2.2.2.2.2.1
       have htake:=take_ok (u:=val B9 ((us.drop j).take (nv+1))) (v:=val B9 vs) (h:=d0) (t:=t) (bor:=bo) hU htv hxT hVle hgd.1 hgd.2.1 hV0
       have hstep:=fun (ws:List Nat) (h1:ws.length=nv+1) (h2:Dig B9 ws) (h3:val B9 ws=val B9 ((us.drop j).take (nv+1))%val B9 vs)=>HE.out.1.step hjL hVle hV0 h1 h2 h3
       have bd : (d0 : Int) ≤ 999999999 := by have:d0<1000000000:=HE.out.1.1.at_ hd0
                                              omega
       have bb : (bo : Int) ≤ 1000000000 := by have:bo≤1000000000:=htk.2.2.1
                                               omega
       have a1:(j:Int)<L:=by omega
       have a2:(j:Int)+nv<(n:Int)+1:=by omega
       by_cases hbr:d0<bo
       ·obtain ⟨k1,k2⟩:=htake.2 hbr
        have ht0:0<t:=by rw [k1];exact Nat.succ_pos _
        have ht1:(1:Int)≤t:=by omega
        have c1:(d0:Int)-bo<0:=by omega
        have HC:=Lib.hid (And.intro htk (And.intro how (And.intro hg (And.intro hbq (And.intro hstep (And.intro hU (And.intro htv (And.intro k1 (And.intro k2 (And.intro hxT (And.intro hVle (And.intro hV0 (And.intro hbk (And.intro hul (And.intro hqlen hjL)))))))))))))))
        have HCq:=Lib.hid (And.intro hcq hfq)
        clear htk how hg hbq hstep hU htv k1 k2 hxT hVle hV0 hbk hul hqlen hjL htake hgd hd0 hbq6 hbr hjn hb6 hs6 hgu1 hi hlt hcq hfq
        have htT:t<1000000000:=HE.out.2.2.2.2.2.2.2.2.2.1
        clear ht0
        go_wp2
        go_loopw [19,20] (fun cv iv wr => ∃ (i cy:Nat) (ws:List Nat),i≤nv∧iv = .int .i64 (i:Int)∧cv = .int .i64 (cy:Int)∧BackK (put us j zs) vs ws j i cy∧Ow wr gu cu ((ints (put (put us j zs) j ws)).set (j+nv) ((d0:Int)-bo))∧w6.grownBy wr (some gu)) (fun _ iv _=>nv-(intOf iv).toNat)
        case atStart=>exact ⟨0,0,[],Nat.zero_le _,rfl,rfl,⟨rfl,Dig.nil _,by omega,by simp [val]⟩,by rw [put_nil];exact HC.out.2.1.set_ _ _,only_trans HC.out.2.2.1 (only_set _ _ _ _)⟩
        case round =>
         obtain ⟨i,cy,ws,hi,rfl,rfl,hbk4,how,hg⟩:=hrel
         have hgu1:=HS.out.2.2.2.2.2.1
         have hb6:Below B1 w1 w6:=HE.out.2.2.2.1.trans (HB6.out.mono (Nat.le_trans hgu1 (Nat.le_of_lt HE.out.2.2.1.lt)))
         have hs6:B1≤w6.heap.size:=Nat.le_trans hgu1 (Nat.le_trans (Nat.le_of_lt HE.out.2.2.1.lt) HB6.out.size)
         have hbk:Below B1 w1 wr:=hb6.grown hg hs6 (fun b hb=>by injection hb with hb;omega)
         have hul:=HE.out.2.2.2.2.1
         have hzl:=HC.out.1.1
         have hpl:(put us j zs).length=us.length:=put_length (by omega)
         have hpd:Dig B9 (put us j zs):=put_dig9 HE.out.1.1 HC.out.1.2.1
         by_cases hlt:i<nv
         ·obtain ⟨adv,v,rfl,_,hv,hcv'⟩:=(HV.out.1.below (by rw [← HN.out.2.2];exact hbk)).at_ (k:=i) hlt
          obtain ⟨x,hx⟩:∃ x,(put us j zs)[j+i]?=some x:=⟨_,List.getElem?_eq_getElem (by omega)⟩
          have hcx:=how.cell (i:=i+j) (z:=(x:Int)) (by rw [List.getElem?_set_ne (by omega)];exact ints_get (by rw [Nat.add_comm i j,put_get (by rw [hbk4.1];exact Nat.le_refl _) (by omega)];exact hx))
          have hfx:=how.frozen (i+j)
          have bx:x<1000000000:=hpd.at_ hx
          have bv:v<1000000000:=HV.out.2.1.at_ hv
          have bc:cy≤1:=hbk4.2.2.1
          have hst:=hbk4.step hx hv rfl (by rw [B9_eq];exact bx) (by rw [B9_eq];exact bv)
          have b1:(x:Int)≤999999999:=by omega
          have b2:(v:Int)≤999999999:=by omega
          have b3:(cy:Int)≤1:=by omega
          have a1:(i:Int)<nv:=by omega
          have a2:(i:Int)+j<(n:Int)+1:=by omega
          have HT:=Lib.hid (And.intro hst (And.intro how (And.intro hg (And.intro hlt (And.intro hbk4.1 (And.intro hul hpl))))))
          clear hst hlt hbk4 hx hv bx bv bc hb6 hs6 hbk hul hgu1 hi hzl hpl hpd
          go_wp2
          go_quiet (fail)
          have HW:=Lib.hid (show Ow (wr.drewN nq) gu cu ((ints (put (put us j zs) j ws)).set (j+nv) ((d0:Int)-bo))∧w6.grownBy (wr.drewN nq) (some gu) from ⟨how,⟨hg.os,hg.tape,hg.output,hg.size,hg.block⟩⟩)
          have hcx2:(wr.drewN nq).cell? ⟨gu,i+j,none⟩=some (.int .i64 (x:Int)):=hcx
          have hfx2:(wr.drewN nq).frozen? ⟨gu,i+j,none⟩=false:=hfx
          clear how hg hcx hfx hcv'
          generalize wr.drewN nq=w8 at *
          go_wp2
          go_roundw
          case rel =>
           obtain ⟨hst,_,_,hlt,hwl,hul,hpl⟩:=HT.out
           obtain ⟨how,hg⟩:=HW.out
           have er:((x:Int)+v+cy)%1000000000=(((x+v+cy)%B9:Nat):Int):=by rw [B9_eq];omega
           have eq' : ((x:Int)+v+cy)/1000000000=(((x+v+cy)/B9:Nat):Int):=by rw [B9_eq];omega
           refine ⟨i+1,(x+v+cy)/B9,ws ++ [(x+v+cy)%B9],hlt,by go_num,by rw [← eq'],hst,?_,only_trans hg (only_set _ _ _ _)⟩
           rw [er,Nat.add_comm i j,← put_set hwl (by omega),← ints_set,List.set_comm _ _ (by omega)]
           exact how.set_ _ _
          case measure =>
           have:=HT.out.2.2.2.1
           clear HT HW hcx2 hfx2
           simp [intOf];omega
         ·obtain rfl:nv=i:=by omega
          obtain ⟨htk,_,_,_,hstep,hU,htv,k1,k2,hxT,hVle,hV0,_,_,hqlen,hjL⟩:=HC.out
          have hb4:=hbk4.2.2.2
          have hzw:((put us j zs).drop j).take nv=zs:=by
           have h1:=put_window (ys:=us) (zs:=zs) (o:=j) (by rw [hzl];omega)
           rw [hzl] at h1
           exact h1
          rw [hzw,List.take_of_length_le (l:=vs) (by rw [HV.out.1.len];exact Nat.le_refl _)] at hb4
          have hwT:=val_lt hbk4.2.1
          rw [hbk4.1] at hwT
          obtain ⟨r1,r2,r3⟩:=back_ok hU htv k1 k2 hb4 hwT hVle hV0 hbk4.2.2.1
          have hc0:=how.cell (i:=j+nv) (z:=(d0:Int)-bo) (List.getElem?_set_self (by rw [List.length_map,put_length (by rw [hbk4.1,hpl];omega),hpl];omega))
          have hf0:=how.frozen (j+nv)
          have hbq6:=HE.out.2.1.below HB6.out HE.out.2.1.lt
          have hbq:Bi wr gq 3 qs:=(hg.block gq hbq6.lt (by intro e;injection e with e;exact hne e)).trans hbq6
          obtain ⟨zq,hcq⟩:∃ z:Int,wr.cell? ⟨gq,j,none⟩=some (.int .i64 z):=⟨_,hbq.cell_get (by omega)⟩
          have hfq:=hbq.frozen j
          have ez:(d0:Int)-bo+cy=0:=by omega
          have h1:=hstep (ws ++ [0]) (by simp [hbk4.1]) (hbk4.2.1.app (Dig.cons B9_pos (Dig.nil _))) (by rw [val_snoc,Nat.mul_zero,Nat.add_zero];exact r1)
          have hq1:val B9 ((us.drop j).take (nv+1))/val B9 vs=t-1:=by rw [k1,Nat.add_sub_cancel]
          rw [hq1] at h1
          have b3:(cy:Int)≤1:=by omega
          have HD:=Lib.hid (And.intro h1 (And.intro how (And.intro hbq (And.intro hbk (And.intro hbk4.1 (And.intro hul (And.intro hzl (And.intro hpl hjL))))))))
          clear h1 how hbq hbk hul hzl hpl hjL hstep hU htv k1 k2 hxT hVle hV0 hqlen htk hb4 hzw hwT r1 r2 r3 hbq6 hq1 hbk4 hg hb6 hs6 hgu1 hi hpd hlt
          go_wp2
          go_roundw
          case rel =>
           obtain ⟨h1,how,hbq,hbk,hwl,hul,hzl,hpl,hjL⟩:=HD.out
           refine ⟨j,put us j (ws ++ [0]),qs.set j (t-1),Nat.le_of_lt hjL,by go_num,h1,?_,?_,(hbk.setCell (by show B1≤gu;exact HS.out.2.2.2.2.2.1) _).setCell (by show B1≤gq;have:=HS.out.2.2.2.2.1;have:=HS.out.2.2.2.2.2.1;omega) _⟩
           ·have e1:(t:Int)-1=((t-1:Nat):Int):=by omega
            rw [e1]
            exact (hbq.far (by show gq≠gu;exact hne) _).set_ _ _
           ·refine Ow.far ?_ (by show gu≠gq;exact hne2) _
            have h2:=how.set_ (j+nv) 0
            rw [List.set_set,ints_set0,put_set hwl (by rw [hpl,hul];have:=HS.out.2.2.2.2.2.2.1;omega),put_put9 (by simp only [List.length_append,List.length_singleton,hwl];have:=HS.out.2.2.2.2.2.2.1;omega) (by simp only [List.length_append,List.length_singleton,hwl,hzl];omega)] at h2
            exact h2
          case measure =>
           clear HD
           simp [intOf]
       ·obtain ⟨k1,k2,k3⟩:=htake.1 (by omega)
        have ez:(d0:Int)-bo=0:=by omega
        have HC:=Lib.hid (And.intro htk (And.intro how (And.intro hg (And.intro hbq (And.intro hstep (And.intro k1 (And.intro k2 (And.intro hbk (And.intro hul hjL)))))))))
        clear htk how hg hbq hstep hU htv k1 k2 k3 hxT hVle hV0 hbk hul hqlen hjL htake hgd hd0 hbq6 hbr hjn hb6 hs6 hgu1 hi hlt
        go_wp2
        go_roundw
        case rel =>
         obtain ⟨htk,how,hg,hbq,hstep,k1,k2,hbk,hul,hjL⟩:=HC.out
         have h1:=hstep (zs ++ [0]) (by simp [htk.1]) (htk.2.1.app (Dig.cons B9_pos (Dig.nil _))) (by rw [val_snoc,Nat.mul_zero,Nat.add_zero];exact k2)
         rw [← k1] at h1
         refine ⟨j,put us j (zs ++ [0]),qs.set j t,Nat.le_of_lt hjL,by go_num,h1,(hbq.far (by show gq≠gu;exact hne) _).set_ _ _,?_,(hbk.setCell (by show B1≤gu;exact HS.out.2.2.2.2.2.1) _).setCell (by show B1≤gq;have:=HS.out.2.2.2.2.1;have:=HS.out.2.2.2.2.2.1;omega) _⟩
         refine Ow.far ?_ (by show gu≠gq;exact hne2) _
         rw [← put_set htk.1 (by have:=HC.out.2.2.2.2.2.2.2.2.2;have:=HS.out.2.2.2.2.2.2.1;omega),← ints_set0]
         exact how.set_ _ _
        case measure =>
         clear HC
         simp [intOf]
def SubI (xs ys zs:List Nat) (k bo:Nat):Prop:=bo≤1∧Dig B9 zs∧zs.length=k∧val B9 zs+val B9 (ys.take k)=val B9 (xs.take k)+B9^k*bo
theorem SubI.nil (xs ys:List Nat):SubI xs ys [] 0 0:=⟨by omega,Dig.nil _,rfl,by simp [val]⟩
theorem SubI.step {xs ys zs:List Nat} {k bo r q:Nat} (h:SubI xs ys zs k bo) (hr:r<1000000000) (hq:q≤1) (e:r+ys.getD k 0+bo=xs.getD k 0+1000000000*q):SubI xs ys (zs ++ [r]) (k+1) q:=by
 obtain ⟨h1,h2,h3,h4⟩:=h
 refine ⟨hq,h2.app (Dig.cons (by rw [B9_eq];exact hr) (Dig.nil _)),by simp [h3],?_⟩
 rw [val_snoc,h3,val_take_getD,val_take_getD,Nat.pow_succ]
 rw [← B9_eq] at e
 generalize xs.getD k 0=x at *
 generalize ys.getD k 0=y at *
 clear hr hq h2 h3 h1
 generalize B9=V at *
 grind
theorem SubI.finish {xs ys zs:List Nat} {k bo:Nat} (h:SubI xs ys zs k bo) (h1:xs.length=k) (h2:ys.length≤k) (hle:val B9 ys≤val B9 xs):val B9 zs=val B9 xs-val B9 ys:=by
 obtain ⟨_,hd,hl,h4⟩:=h
 rw [List.take_of_length_le h2,List.take_of_length_le (by omega)] at h4
 have hz:=val_lt hd
 rw [hl] at hz
 have hb:bo=0:=by
  rcases Nat.eq_zero_or_pos bo with e|e
  ·exact e
  ·exfalso
   have:B9^k*1≤B9^k*bo:=Nat.mul_le_mul_left _ e
   omega
 rw [hb] at h4
 omega
set_option maxHeartbeats 1000000 in
set_option maxRecDepth 100000 in
theorem subDigits_any (A:Option Addr) (n c:Nat) (xs:List Nat) (A' : Option Addr) (n' c' : Nat) (ys:List Nat) (w:World) (h:Ri w A n c xs) (h' : Ri w A' n' c' ys)
 (hd:Dig B9 xs) (hd' : Dig B9 ys) (hn:n≤2199023255552) (hn' : n'≤n) (hle:val B9 ys≤val B9 xs) :
 Calls Tryz.prog 169 #[.slice A n c,.slice A' n' c'] w (GivesDi w (val B9 xs-val B9 ys)):=by
 have HX:=Lib.hid (And.intro h hd)
 have HY:=Lib.hid (And.intro h' hd')
 have HN:=Lib.hid (And.intro hn (And.intro hn' hle))
 have hnc:n≤c:=h.cap
 have hcm:c≤9223372036854775807:=h.2.2.1
 have hnc' : n'≤c':=h'.cap
 have hcm' : c'≤9223372036854775807:=h'.2.2.1
 obtain ⟨i0,hi,hz0,hz1,hz2⟩:=info_parts info_int3
 have HI:=Lib.hid (And.intro hi (And.intro hz0 (And.intro hz1 hz2)))
 clear h h' hd hd' hi hz0 hz1 hz2 hle
 go_enter Tryz.func169,Tryz.ntmps169
 go_wp2
 go_loopw [5,6,7] (fun ov cv iv wr => ∃ (k cy:Nat) (zs:List Nat),k≤n∧iv = .int .i64 (k:Int)∧cv = .int .i64 (cy:Int)∧SubI xs ys zs k cy∧wr.ownsRow w.heap.size 3 1 ov k (zs.map cellI)∧Below w.heap.size w wr) (fun _ _ iv _=>n-(intOf iv).toNat)
 case atStart=>exact ⟨0,0,[],Nat.zero_le _,rfl,rfl,SubI.nil _ _,⟨rfl,.inl ⟨rfl,rfl⟩⟩,Below.refl _ _⟩
 case round =>
  obtain ⟨k,cy,zs,hk,rfl,rfl,hinv,hrow,hb⟩:=hrel
  by_cases hgo:k<n
  ·have b1:(k:Int)<n:=by omega
   have hk1:(k:Int)+1≤2199023255552:=by have:=HN.out;omega
   have hkB:k≤2199023255999:=by have:=HN.out;omega
   obtain ⟨ad,x,rfl,_,hx,hcx⟩:=(HX.out.1.below hb).at_ (k:=k) hgo
   obtain ⟨y,hy⟩:∃ y,y=ys.getD k 0:=⟨_,rfl⟩
   have bx:x<1000000000:=HX.out.2.at_ hx
   have by' : y<1000000000:=by rw [hy];exact HY.out.2.get0 B9_pos k
   have bc:cy≤1:=hinv.1
   obtain ⟨d,s,r,q,e1,e2,e3,e4,hr,hq,hs,he⟩:=subFacts bx by' bc
   have hst:SubI xs ys (zs ++ [r]) (k+1) q:=hinv.step hr hq (by rw [← hy,getD_get hx];exact he)
   have cd':=Lib.hid (fun w' (hb' : Below w.heap.size w w')=>digit_any A' n' c' ys k w' (HY.out.1.below hb'))
   rw [← hy] at cd'
   have HS:=Lib.hid (And.intro hst (And.intro hrow (And.intro hb (And.intro hgo (And.intro hinv.2.2.1 hkB)))))
   clear hst hrow hk hinv hx hy hr hq bx by' bc hgo he
   go_wp2
   go_quiet ((go_at_call 212;exact Calls.quiet_of_same ((cd'.out _ (by first|exact hb|exact drewN0 hb _)).mono fun _ _ h=>⟨h.1,h.2.symm⟩)))
   have hb2:=drewN0 hb nq
   have hrow2:(wr.drewN nq).ownsRow w.heap.size 3 1 _ k (zs.map cellI):=HS.out.2.1
   have HB:=Lib.hid (And.intro hrow2 hb2)
   clear hb hcx hb2 hrow2
   generalize wr.drewN nq=w2 at *
   rcases hs with ⟨rfl,rfl⟩|⟨hs1,hs2,hs3,rfl⟩
   ·have c1:¬ (r:Int)<0:=not_neg r
    go_wp2_with (at_builtin;refine wpList_app (r:=r) rfl _ _ rfl rfl HB.out.1 rfl HS.out.2.2.2.2.2 HB.out.2 (Nat.le_refl _) HB.out.2.size ?_)
    intro v' w3 hr3 hbw _
    have HX3:=Lib.hid (And.intro hr3 hbw)
    clear hr3 hbw
    go_wp2
    go_roundw
    case rel=>exact ⟨k+1,0,zs ++ [r],HS.out.2.2.2.1,by first|rfl|go_num|simp,rfl,HS.out.1,by rw [List.map_append];exact HX3.out.1,HX3.out.2⟩
    case measure =>
     have:=HS.out.2.2.2.1
     clear e1 e2 e3 e4 HX3 HS HB
     simp [intOf];omega
   ·have hs4:decide (s<0)=true:=decide_eq_true hs1
    clear hs1
    go_wp2_with (at_builtin;refine wpList_app (r:=r) rfl _ _ rfl rfl HB.out.1 rfl HS.out.2.2.2.2.2 HB.out.2 (Nat.le_refl _) HB.out.2.size ?_)
    intro v' w3 hr3 hbw _
    have HX3:=Lib.hid (And.intro hr3 hbw)
    clear hr3 hbw
    go_wp2
    go_roundw
    case rel=>exact ⟨k+1,1,zs ++ [r],HS.out.2.2.2.1,by first|rfl|go_num|simp,rfl,HS.out.1,by rw [List.map_append];exact HX3.out.1,HX3.out.2⟩
    case measure =>
     have:=HS.out.2.2.2.1
     clear e1 e2 e3 e4 HX3 HS HB hs2 hs3 hs4
     simp [intOf];omega
  ·obtain ⟨A2,c2,rfl,hri⟩:=row_ri' hrow
   have hkn:n=k:=by omega
   have hv:=hinv.finish (by rw [HX.out.1.len];exact hkn) (by rw [HY.out.1.len];omega) HN.out.2.2
   have HF:=Lib.hid (And.intro hri (And.intro hinv.2.1 (And.intro hv hb)))
   have b1:¬ (k:Int)<n:=by omega
   clear hri hinv hv hb hk hgo hrow
   go_wp2_with (go_at_call 166;refine (trim_any _ _ _ _ _ HF.out.1 HF.out.2.1).mono ?_;rintro e w' ⟨⟨v,rfl,hv⟩,rfl⟩)
   go_ret
   exact ⟨v,rfl,by rw [← HF.out.2.2.1];exact hv,HF.out.2.2.2⟩
end Go.Proofs.YtbhcckhbbclemaaGreatDoor
