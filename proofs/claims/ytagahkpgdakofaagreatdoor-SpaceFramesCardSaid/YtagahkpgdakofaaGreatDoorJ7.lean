/- Parts of the proof, joined. -/
import Derived.Test.YtagahkpgdakofaaGreatDoorJ6
import Derived.Test.YtagahkpgdakofaaGreatDoorJ4
import Derived.Test.YtagahkpgdakofaaGreatDoorJ1
import Derived.Laws.Tables
import Derived.Laws.StructEq
import Derived.Test.YtagahkpgdakofaaGreatDoorJ5
set_option maxHeartbeats 4000000
set_option linter.unusedSimpArgs false
set_option linter.unusedVariables false
set_option linter.constructorNameAsVariable false
namespace Go.Proofs.YtagahkpgdakofaaGreatDoor
section
open Go.RowKit Pl
def aP (z:Int):ByteArray:=if z<0 then ⟨#[45]⟩++Ab.decB z.natAbs else Ab.decB z.natAbs
theorem size_val {xs:List Nat} (hd:Dig B9 xs) (h0:xs≠[]):(Ab.decB (val B9 xs)).size≤9*xs.length:=by
 have h1:=bQ hd
 have h2:B9^xs.length=10^(9*xs.length):=by rw [Nat.pow_mul];rfl
 have hl:0<xs.length:=List.length_pos_iff.2 h0
 rw [h2,show 9*xs.length=9*xs.length-1+1 by omega] at h1
 have:=Ab.decB_size h1
 omega
set_option maxRecDepth 100000 in
theorem text_raw (neg:Bool) (A:Option Addr) (n c:Nat) (xs:List Nat) (w:World) (h:Ri w A n c xs) (hd:Dig B9 xs) (hn:Norm xs) (hlen:n≤100000000) :
 Calls Tryz.prog 195 #[.agg #[.bool neg,.slice A n c]] w fun e w'=>e = .returned (.string (if neg&&decide (0<n) then ⟨#[45]⟩++Ab.decB (val B9 xs) else Ab.decB (val B9 xs)))∧Below w.heap.size w w':=by
 have hB:Below w.heap.size w (w.alloc (.cells #[.bool neg,.slice A n c] 189)):=(aB _ _).alloc (aR _) _
 have HR:=aH (aI (h.below hB) (aI hd (aI hn (aI hlen (aI h.len hB)))))
 clear h hd hn hlen hB
 go_enter Tryz.func195,Tryz.ntmps195
 rcases Nat.eq_zero_or_pos n with h0|h0
 ·subst h0
  have h0:xs = []:=List.eq_nil_of_length_eq_zero HR.out.2.2.2.2.1
  have he:Ab.decB (val B9 xs)=⟨#[48]⟩:=by rw [h0];exact Ab.dec0
  have hb:=HR.out.2.2.2.2.2
  clear HR h0
  cases neg <;> (go_wp2;go_ret;exact ⟨rfl,hb⟩)
 ·have c0:((n:Int)==0)=false:=by simp;omega
  obtain ⟨m,hm⟩:∃ m,m=n-1:=⟨_,rfl⟩
  obtain ⟨ad,x,rfl,_hb,hx,hcell⟩:=HR.out.1.at_ (k:=m) (by omega)
  have c1:((n:Int)-1)=(m:Int):=by omega
  have c3:((n:Int)-2)=(m:Int)-1:=by omega
  have c2:(m:Int)<n:=by omega
  have c4:wrap64 (m:Int)=m:=wrapI (by have:=HR.out.2.2.2.1;omega)
  have c5:wrap64 ((m:Int)-1)=(m:Int)-1:=by unfold wrap64;have:=HR.out.2.2.2.1;omega
  have hlx:m<xs.length:=by rw [HR.out.2.2.2.2.1];omega
  have hx9:x<B9:=HR.out.2.1.at_ hx
  have hx63:x<9223372036854775808:=by rw [cK] at hx9;omega
  have hdrop:val B9 (xs.drop m)=x:=by
   rw [List.getElem?_eq_getElem hlx] at hx
   injection hx with hx
   rw [lM B9 xs _ hlx,List.drop_of_length_le (by rw [HR.out.2.2.2.2.1];omega)]
   simp [val,hx]
  have HX:=aH (aI hx (aI hdrop hm))
  clear hx hdrop hlx hx9 hm
  go_wp2_with fail
  refine (oH x _ hx63).mono ?_
  rintro e w' ⟨rfl,rfl⟩
  go_wp2_with fail
  go_loopw [3,4] (fun s i wr => ∃ k:Nat,i = .int .i64 ((k:Int)-1)∧k≤m∧s = .string (Ab.decB (val B9 (xs.drop k)))∧wr=w.alloc (.cells #[.bool neg,.slice (some ad) n c] 189)) (fun _ i _=>(intOf i+1).toNat)
  case atStart=>exact ⟨m,by rw [c5],aR _,by rw [HX.out.2.1],rfl⟩
  case round =>
   obtain ⟨k,rfl,hk,rfl,rfl⟩:=hrel
   have hpos:0<val B9 (xs.drop k):=by
    obtain ⟨hx,_,hm⟩:=HX.out
    obtain ⟨_,hd,hn,_,hl,_⟩:=HR.out
    have hne:xs.drop k≠[]:=fun e=>by have:=congrArg List.length e;rw [List.length_drop,List.length_nil] at this;omega
    refine Norm.pos cF (fun h=>?_) hne
    rw [List.getLast_drop]
    exact hn _
   have hsz:(Ab.decB (val B9 (xs.drop k))).size≤900000000:=by
    obtain ⟨_,hd,hn,hlen,hl,_⟩:=HR.out
    have hne:xs.drop k≠[]:=fun e=>by have:=congrArg List.length e;rw [List.length_drop,List.length_nil] at this;have:=HX.out.2.2;omega
    have:=size_val (hd.drop k) hne
    rw [List.length_drop] at this
    omega
   rcases Nat.eq_zero_or_pos k with h0|h0
   ·subst h0
    rw [List.drop_zero] at hpos hsz ⊢
    have HF:=aH (aI hpos hsz)
    clear hpos hsz hk
    have hb:=HR.out.2.2.2.2.2
    cases neg
    ·go_wp2
     all_goals first|(exfalso;have:=HF.out.2;simp at *;omega)|(go_ret;exact ⟨rfl,hb⟩)
    ·go_wp2
     all_goals first|(go_ret;exact ⟨rfl,hb⟩)|(exfalso;have:=HF.out.2;simp at *;omega)
   ·obtain ⟨j,hj⟩:∃ j,j=k-1:=⟨_,rfl⟩
    have d1:((k:Int)-1)=(j:Int):=by omega
    have d2:(j:Int)<n:=by have:=HX.out.2.2;omega
    have d3:(0:Int)≤j:=by omega
    have d4:wrap64 ((j:Int)-1)=(j:Int)-1:=by unfold wrap64;have:=HR.out.2.2.2.1;have:=HX.out.2.2;omega
    obtain ⟨ad',y,e,_hb',hy,hcy⟩:=HR.out.1.at_ (k:=j) (by have:=HX.out.2.2;omega)
    injection e with e
    subst e
    have hy9:y<B9:=HR.out.2.1.at_ hy
    have HY:=aH (aI hy (aI hj (aI hpos (aI hsz (aI hk h0)))))
    clear hy hj hpos hsz hk h0 hcell
    rw [d1]
    go_wp2_with fail
    refine (decimal9 y _ hy9).mono ?_
    rintro e w' ⟨rfl,rfl⟩
    go_wp2
    ·exfalso
     have h9:=iG y 9
     obtain ⟨_,_,_,h8,_⟩:=HY.out
     omega
    go_roundw
    case rel =>
     obtain ⟨hy,hj,hpos,hsz,hk,h0⟩:=HY.out
     have hl:=HR.out.2.2.2.2.1
     have hjl:j<xs.length:=by have:=HX.out.2.2;omega
     rw [c5]
     refine ⟨_,_,_,_,_,_,_,_,_,_,_,_,_,_,⟨j,?_,by omega,?_,trivial⟩,rfl⟩
     ·rw [d4]
     congr 1
     rw [decB_app hpos hy9,lM B9 xs j hjl]
     rw [List.getElem?_eq_getElem hjl] at hy
     injection hy with hy
     rw [hy,show j+1=k by omega]
    case measure =>
     have:=HY.out.2.1
     have:=HY.out.2.2.2.2.2
     simp [intOf]
     omega
theorem row_ri {w:World} {base m:Nat} {e:TypeId} {v:Value} {ws:List Nat} (h:w.ownsRow base e 1 v m (ws.map dV)):∃ A c,v = .slice A m c∧Ri w A m c ws:=by
 obtain ⟨h1,h2⟩:=h
 have hl:ws.length=m:=by simpa using h1
 rcases h2 with ⟨rfl,rfl⟩|⟨g,cap,cur,rfl,e2,e3,e4,e5,e6,e7⟩
 ·have:ws = []:=List.eq_nil_of_length_eq_zero hl
  subst this
  exact ⟨none,0,rfl,Ri.nil⟩
 ·refine ⟨_,cap,rfl,hl,e4,e5,fun _=>⟨_,rfl,lt_of_block e3,fun j x hx=>?_⟩⟩
  rw [xK,aA e3,← Array.getElem?_toList]
  have hj:(cur.toList.take (m*1))[0+j]?=some (.int .i64 (x:Int)):=by rw [e7,Nat.zero_add,List.getElem?_map,hx];rfl
  rw [List.getElem?_take] at hj
  split at hj
  ·exact hj
  ·cases hj
def WholeAt (w:World) (z:Int) (nv wv:Value) (wr:World):Prop :=
 ∃ (m:Int) (ds:List Nat),nv = .int .i64 m∧wr.ownsRow (w.heap.size+1) 3 1 wv ds.length (ds.map dV)∧Dig B9 ds∧z.natAbs=val B9 ds+B9^ds.length*m.natAbs∧(m<0→z<0)∧(0<m→0<z) ∧
   Below w.heap.size w wr∧wr.heap[w.heap.size]?=some (.cells #[.bool false,.slice none 0 0] 189 (0,0))∧w.heap.size<wr.heap.size
theorem whole_len {z m:Int} {ds:List Nat} (hz:-9223372036854775808≤z∧z≤9223372036854775807) (h:z.natAbs=val B9 ds+B9^ds.length*m.natAbs) (hm:m≠0):ds.length≤2∧-9223372036854775808≤m∧m≤9223372036854775808:=by
 have h1:1≤m.natAbs:=by omega
 have h2:B9^ds.length*1≤B9^ds.length*m.natAbs:=Nat.mul_le_mul_left _ h1
 have hp:0<B9^ds.length:=Nat.pow_pos cF
 have h4:1*m.natAbs≤B9^ds.length*m.natAbs:=Nat.mul_le_mul_right _ hp
 refine ⟨Nat.le_of_not_lt fun hlt=>?_,by omega,by omega⟩
 have h3:B9^3≤B9^ds.length:=Nat.pow_le_pow_right cF hlt
 have h5:B9^3=1000000000000000000000000000:=rfl
 rw [h5] at h3
 omega
theorem yB {w w2:World} {z m m2:Int} {ds:List Nat} {r:Nat} {v' : Value} (hd:Dig B9 ds) (h:z.natAbs=val B9 ds+B9^ds.length*m.natAbs) (hn:m<0→z<0) (hp:0<m→0<z)
 (e:m.natAbs=r+1000000000*m2.natAbs) (hr:r<1000000000) (s1:m2<0→m<0) (s2:0<m2→0<m) (ho:w2.ownsRow (w.heap.size+1) 3 1 v' (ds.length+1) (ds.map dV ++ [.int .i64 (r:Int)]))
 (hb:Below w.heap.size w w2) (hh:w2.heap[w.heap.size]?=some (.cells #[.bool false,.slice none 0 0] 189 (0,0))) (hs:w.heap.size<w2.heap.size):WholeAt w z (.int .i64 m2) v' w2:=by
 refine ⟨m2,ds ++ [r],rfl,?_,hd.app (Dig.cons (by rw [cK];exact hr) (Dig.nil _)),?_,fun h1=>hn (s1 h1),fun h1=>hp (s2 h1),hb,hh,hs⟩
 ·rw [List.length_append,List.length_singleton,List.map_append];exact ho
 ·rw [cH,List.length_append,List.length_singleton,Nat.pow_succ,h,e,Nat.mul_add,Nat.mul_assoc,cK,Nat.add_assoc]
theorem fT {w w' : World} {row:Option Nat} {g:Nat} {o:Obj} (hg:w.grownBy w' row) (h:w.heap[g]?=some o) (hr:some g≠row):w'.heap[g]?=some o :=
 (hg.block g (lt_of_block h) hr).trans h
theorem blk2i {w:World} {g:Nat} {T:TypeId} {a b:Value} (h:w.heap[g]?=some (.cells #[a,b] T (0,0))):(w.cell? ⟨g,0,none⟩=some a∧w.cell? ⟨g,1,none⟩=some b)∧w.frozen? ⟨g,0,none⟩=false∧w.frozen? ⟨g,1,none⟩=false:=by
 simp [World.cell?,World.frozen?,h]
theorem tU {w:World} {g:Nat} {T:TypeId} {a b x y:Value} (h:w.heap[g]?=some (.cells #[a,b] T (0,0))):((w.setCell ⟨g,0,none⟩ x).setCell ⟨g,1,none⟩ y).heap[g]?=some (.cells #[x,y] T (0,0)):=by
 simp [World.setCell,Array.getElem?_modify,h]
theorem In.set2 {w:World} {v:Value} {z:Int} {g:Nat} {T:TypeId} {a b x y:Value} (h:In w v z) (hg:w.heap[g]?=some (.cells #[a,b] T (0,0))) (ha:∀ n,a≠.int .i64 n) (hb:∀ n,b≠.int .i64 n):In ((w.setCell ⟨g,0,none⟩ x).setCell ⟨g,1,none⟩ y) v z:=by
 obtain ⟨A,n,c,xs,hv,hr,hd,hn,hz⟩:=h
 refine ⟨A,n,c,xs,hv,⟨hr.1,hr.2.1,hr.2.2.1,fun hp=>?_⟩,hd,hn,hz⟩
 obtain ⟨ad,e,hl,hc⟩:=hr.2.2.2 hp
 refine ⟨ad,e,by simpa [World.setCell] using hl,fun j u hu=>?_⟩
 have h1:=hc j u hu
 have hne:(ad.add j).block≠g:=fun he=>by
  unfold World.cell? at h1
  rw [he,hg] at h1
  simp only at h1
  match ho:(ad.add j).off with
  | 0=>rw [ho] at h1;simp at h1;exact ha _ h1.2
  | 1=>rw [ho] at h1;simp at h1;exact hb _ h1.2
  | k+2=>rw [ho] at h1;simp at h1
 rw [World.cell?_of_block (w:=w),h1]
 rw [Below.heap_setCell _ _ _ _ (show (ad.add j).block≠(⟨g,1,none⟩:Addr).block from hne),Below.heap_setCell _ _ _ _ (show (ad.add j).block≠(⟨g,0,none⟩:Addr).block from hne)]
theorem info_int:(Tryz.prog.info? 3).map (fun i=>(i.zero,i.size,i.bytes))=some (some (.int .i64 0),1,8):=by kernel_rfl
set_option maxRecDepth 100000 in
theorem whole_any (z:Int) (w:World) (hz:-9223372036854775808≤z∧z≤9223372036854775807):Calls Tryz.prog 196 #[.int .i64 z] w fun e w' => ∃ v,e = .returned v∧In w' v z∧Below w.heap.size w w':=by
 have HZ:=aH hz
 clear hz
 obtain ⟨i0,hi,hz0,hz1,hz2⟩:=info_parts info_int
 have HI:=aH (aI hi (aI hz0 (aI hz1 hz2)))
 clear hi hz0 hz1 hz2
 go_enter Tryz.func196,Tryz.ntmps196
 go_wp2
 go_loopw [0,3] (fun nv wv wr=>WholeAt w z nv wv wr) (fun nv _ _=>(intOf nv).natAbs)
 case atStart=>exact ⟨z,[],rfl,⟨rfl,.inl ⟨rfl,rfl⟩⟩,Dig.nil _,by simp [val],fun h=>h,fun h=>h,(aB _ _).alloc (aR _) _,heap_alloc_new w _,by simp⟩
 case round =>
  obtain ⟨m,ds,rfl,hrow,hd,hzm,hn,hp,hb,hh,hs⟩:=hrel
  by_cases c0:m=0
  ·subst c0
   obtain ⟨A,c,rfl,hri⟩:=row_ri hrow
   have hv:gU (decide (z<0)) (val B9 ds)=z:=by
    simp only [Int.natAbs_zero,Nat.mul_zero,Nat.add_zero] at hzm
    rw [← hzm]
    unfold gU
    split <;> simp_all <;> omega
   have HC:=aH (aI hri (aI hd (aI hv (aI hb (aI hh hs)))))
   clear hrow hri hd hzm hn hp hb hh hs hv
   go_wp2_with fail
   refine (kB _ A _ c ds _ HC.out.1 HC.out.2.1).mono ?_
   rintro e w2 ⟨v,rfl,q,b⟩
   rw [HC.out.2.2.1] at q
   have hh2:w2.heap[w.heap.size]?=some (.cells #[.bool false,.slice none 0 0] 189 (0,0)):=(b.block _ HC.out.2.2.2.2.2).trans HC.out.2.2.2.2.1
   have hs2:w.heap.size<w2.heap.size:=Nat.lt_of_lt_of_le HC.out.2.2.2.2.2 b.size
   have hb2:Below w.heap.size w w2:=HC.out.2.2.2.1.trans (b.mono HC.out.2.2.2.1.size)
   obtain ⟨A',n',c',xs',rfl,q'⟩:=id q
   have Q:=aH (aI q (aI hh2 (aI hs2 hb2)))
   clear q q' b hh2 hs2 hb2
   obtain ⟨⟨b0,b1⟩,f0,f1⟩:=blk2i Q.out.2.1
   go_wp2
   obtain ⟨q,hh2,hs2,hb2⟩:=Q.out
   obtain ⟨⟨g0,g1⟩,_⟩:=blk2i (tU hh2 (x := .bool (decide (z<0))) (y := .slice A' n' c'))
   refine bodyPost_ret (v := .agg #[.bool (decide (z<0)),.slice A' n' c']) (by simp [results,Tryz.results196,go_sem,g0,g1]) rfl ⟨_,rfl,q.set2 hh2 (fun n h=>by cases h) (fun n h=>by cases h),?_⟩
   exact (hb2.setCell (p:=⟨w.heap.size,0,none⟩) (aR _) _).setCell (p:=⟨w.heap.size,1,none⟩) (aR _) _
  ·obtain ⟨hl2,hm1,hm2⟩:=whole_len HZ.out hzm c0
   obtain ⟨r,hr⟩:∃ r,r=m.natAbs%1000000000:=⟨_,rfl⟩
   obtain ⟨r',hr'⟩:∃ r' : Int,r'=if m<0 then -(r:Int) else r:=⟨_,rfl⟩
   obtain ⟨q',hq'⟩:∃ q' : Int,q'=if m<0 then -((m.natAbs/1000000000:Nat):Int) else ((m.natAbs/1000000000:Nat):Int):=⟨_,rfl⟩
   have t1:m.tmod 1000000000=r':=by
    rcases Int.lt_or_le m 0 with h|h
    ·rw [hr',if_pos h,show m = -((m.natAbs:Nat):Int) by omega,Int.neg_tmod,Int.tmod_eq_emod_of_nonneg (by omega)]
     omega
    ·rw [hr',if_neg (by omega),Int.tmod_eq_emod_of_nonneg h]
     omega
   have t3:m.tdiv 1000000000=q':=by
    rcases Int.lt_or_le m 0 with h|h
    ·rw [hq',if_pos h,show m = -((m.natAbs:Nat):Int) by omega,Int.neg_tdiv,Int.tdiv_eq_ediv_of_nonneg (by omega)]
     omega
    ·rw [hq',if_neg (by omega),Int.tdiv_eq_ediv_of_nonneg h]
     omega
   have hq:m.natAbs=r+1000000000*q'.natAbs:=by split at hq' <;> omega
   have hqs:(q'<0→m<0)∧(0<q'→0<m):=by split at hq' <;> omega
   have t4:wrap64 q'=q':=by unfold wrap64;split at hq' <;> omega
   have hrr:r<1000000000:=by omega
   have hrs:r'=(r:Int)∨(r'<0∧r' = -(r:Int)):=by split at hr' <;> omega
   have HC:=aH (aI hrow (aI hd (aI hzm (aI hn (aI hp (aI hb (aI hh (aI hs (aI hl2 (aI hq (aI hqs hrr)))))))))))
   clear hrow hd hzm hn hp hb hh hs hl2 hr hq hq' hr' hqs
   rcases hrs with h1|⟨h1,h2⟩
   ·subst h1
    have hneg:¬ (r:Int)<0:=by omega
    clear hrr
    go_wp2_with (at_builtin;refine wpList_append_own _ rfl _ _ 187 rfl (w.heap.size+1) 3 i0 (.int .i64 0) 1 8 Tryz.underlying187 HI.out.1 HI.out.2.1 HI.out.2.2.1 HI.out.2.2.2 rfl (by decide) _ _ _ rfl (HC.out.1.alloc _) ⟨wr.heap.size,0,none⟩ 1 1 [.int .i64 (r:Int)] rfl rfl ?k1 ?k2 ?k3 ?k4 ?k5 ?_)
    try (case k1 =>
     intro j u hj
     match j with
     | 0 =>
       simp only [List.getElem?_cons_zero,Option.some.injEq] at hj
       subst hj
       exact aA (heap_alloc_new wr _) 0
     | j+1=>simp at hj)
    case k2=>first|rfl|(intro u hu;simp at hu;subst hu;rfl)
    case k3=>have:=HC.out.2.2.2.2.2.2.2.2.1;show ds.length+1≤9223372036854775807;omega
    case k4=>have:=HC.out.2.2.2.2.2.2.2.2.1;omega
    case k5=>have:=HC.out.2.2.2.2.2.2.2.1;simp;omega
    intro v' w3 hr3 hg3 _
    obtain ⟨hrow,hd,hzm,hn,hp,hb,hh,hs,hl2,hq,hqs,hrr⟩:=HC.out
    have hbw:Below w.heap.size w w3:=Below.grown (hb.alloc hb.size _) hg3 (by have:=hb.size;simp;omega) (fun b hb'=>by have:=rK hrow b hb';omega)
    have hh3:w3.heap[w.heap.size]?=some (.cells #[.bool false,.slice none 0 0] 189 (0,0)):=by
     have h2:=(Below.heap_alloc wr (.cells #[.int .i64 (r:Int)] 3) _ hs).trans hh
     refine fT hg3 h2 ?_
     intro he
     have:=rK hrow _ he.symm
     omega
    have HX:=aH (aI (yB hd hzm hn hp hq hrr hqs.1 hqs.2 hr3 hbw hh3 (by have:=hg3.size;simp at this;omega)) hq)
    clear hr3 hg3 hrow hd hzm hn hp hb hh hs hl2 hq hqs hrr hbw hh3
    go_wp2
    go_roundw
    case rel=>first|exact HX.out.1|(rw [t4];exact HX.out.1)
    case measure=>have:=HX.out.2;simp only [intOf,t4];omega
   ·have t5:wrap64 (0-r')=(r:Int):=by unfold wrap64;omega
    have t6:wrap64 (-r')=(r:Int):=by unfold wrap64;omega
    clear hrr h2
    go_wp2_with (at_builtin;refine wpList_append_own _ rfl _ _ 187 rfl (w.heap.size+1) 3 i0 (.int .i64 0) 1 8 Tryz.underlying187 HI.out.1 HI.out.2.1 HI.out.2.2.1 HI.out.2.2.2 rfl (by decide) _ _ _ rfl (HC.out.1.alloc _) ⟨wr.heap.size,0,none⟩ 1 1 [.int .i64 (r:Int)] rfl rfl ?k1 ?k2 ?k3 ?k4 ?k5 ?_)
    try (case k1 =>
     intro j u hj
     match j with
     | 0 =>
       simp only [List.getElem?_cons_zero,Option.some.injEq] at hj
       subst hj
       exact aA (heap_alloc_new wr _) 0
     | j+1=>simp at hj)
    case k2=>first|rfl|(intro u hu;simp at hu;subst hu;rfl)
    case k3=>have:=HC.out.2.2.2.2.2.2.2.2.1;show ds.length+1≤9223372036854775807;omega
    case k4=>have:=HC.out.2.2.2.2.2.2.2.2.1;omega
    case k5=>have:=HC.out.2.2.2.2.2.2.2.1;simp;omega
    intro v' w3 hr3 hg3 _
    obtain ⟨hrow,hd,hzm,hn,hp,hb,hh,hs,hl2,hq,hqs,hrr⟩:=HC.out
    have hbw:Below w.heap.size w w3:=Below.grown (hb.alloc hb.size _) hg3 (by have:=hb.size;simp;omega) (fun b hb'=>by have:=rK hrow b hb';omega)
    have hh3:w3.heap[w.heap.size]?=some (.cells #[.bool false,.slice none 0 0] 189 (0,0)):=by
     have h2:=(Below.heap_alloc wr (.cells #[.int .i64 (r:Int)] 3) _ hs).trans hh
     refine fT hg3 h2 ?_
     intro he
     have:=rK hrow _ he.symm
     omega
    have HX:=aH (aI (yB hd hzm hn hp hq hrr hqs.1 hqs.2 hr3 hbw hh3 (by have:=hg3.size;simp at this;omega)) hq)
    clear hr3 hg3 hrow hd hzm hn hp hb hh hs hl2 hq hqs hrr hbw hh3
    go_wp2
    go_roundw
    case rel=>first|exact HX.out.1|(rw [t4];exact HX.out.1)
    case measure=>have:=HX.out.2;simp only [intOf,t4];omega
end
section
open Go.RowKit Pl
def Kr:Value→Bool
 | .int .i64 _=>true
 | _=>false
theorem Ri.ext {K:Value→Bool} (hK:∀ x,K (.int .i64 x)=true) {w w' : World} {A:Option Addr} {n c:Nat} {xs:List Nat} (h:Ri w A n c xs) (hx:Ext K w w'):Ri w' A n c xs:=by
 refine ⟨h.1,h.2.1,h.2.2.1,fun hn=>?_⟩
 obtain ⟨ad,e,hl,hc⟩:=h.2.2.2 hn
 exact ⟨ad,e,Nat.lt_of_lt_of_le hl hx.size,fun j x hj=>hx.cell (hc j x hj) (hK _)⟩
theorem Di.ext {w w' : World} {v:Value} {a:Nat} (h:Di w v a) (hx:Ext Kr w w'):Di w' v a:=by
 obtain ⟨A,n,c,xs,hv,hr,hd,hn,ha⟩:=h
 exact ⟨A,n,c,xs,hv,hr.ext (fun _=>rfl) hx,hd,hn,ha⟩
def Ru (w:World) (v:Value) (a:Nat):Prop := ∃ A n c xs,v = .slice A n c∧Ri w A n c xs∧Dig B9 xs∧val B9 xs=a
theorem Ru.ext {w w' : World} {v:Value} {a:Nat} (h:Ru w v a) (hx:Ext Kr w w'):Ru w' v a:=by
 obtain ⟨A,n,c,xs,hv,hr,hd,ha⟩:=h
 exact ⟨A,n,c,xs,hv,hr.ext (fun _=>rfl) hx,hd,ha⟩
end
namespace Ab
open Go.RowKit Pl
theorem kr_ok:KOk Kr:=⟨fun _=>rfl,fun _ _ _=>rfl⟩
def pH (a:Nat):CS Kr where
 size:=1
 cold:=true
 pred cs w := ∃ v,cs = [v]∧Di w v a
 stable cs w w' h hx:=by obtain ⟨v,e,h⟩:=h;exact ⟨v,e,h.ext hx⟩
 len cs w h:=by obtain ⟨v,e,_⟩:=h;rw [e];rfl
 one cs w h:=by
  obtain ⟨v,e,A,n,c,xs,hv,_⟩:=h
  rw [e];intro d hd;rw [List.mem_singleton] at hd;rw [hd,hv];rfl
 iscold _ cs w h:=by
  obtain ⟨v,e,A,n,c,xs,hv,_⟩:=h
  rw [e];intro d hd;rw [List.mem_singleton] at hd;rw [hd,hv];rfl
def csRu (a:Nat):CS Kr where
 size:=1
 cold:=true
 pred cs w := ∃ v,cs = [v]∧Ru w v a
 stable cs w w' h hx:=by obtain ⟨v,e,h⟩:=h;exact ⟨v,e,h.ext hx⟩
 len cs w h:=by obtain ⟨v,e,_⟩:=h;rw [e];rfl
 one cs w h:=by
  obtain ⟨v,e,A,n,c,xs,hv,_⟩:=h
  rw [e];intro d hd;rw [List.mem_singleton] at hd;rw [hd,hv];rfl
 iscold _ cs w h:=by
  obtain ⟨v,e,A,n,c,xs,hv,_⟩:=h
  rw [e];intro d hd;rw [List.mem_singleton] at hd;rw [hd,hv];rfl
def iH (v:Value) (h:v.oneCell'=true) (c:Bool) (hc:c=true→Kr v=false):CS Kr where
 size:=1
 cold:=c
 pred cs _:=cs = [v]
 stable _ _ _ h _:=h
 len _ _ h:=by rw [h];rfl
 one _ _ hp:=by rw [hp];intro c hc;rw [List.mem_singleton] at hc;rw [hc];exact h
 iscold hb _ _ hp:=by rw [hp];intro d hd;rw [List.mem_singleton] at hd;rw [hd];exact hc hb
abbrev di (a:Nat):AV Kr := .fv (.sc (.sp (pH a)))
abbrev ru (a:Nat):AV Kr := .fv (.sc (.sp (csRu a)))
abbrev rB (b:Bool):Seg Kr := .sp (iH (.bool b) rfl true (fun _=>rfl))
abbrev rb (b:Bool):AV Kr := .fv (.sc (rB b))
abbrev rS (s:ByteArray):AV Kr := .fv (.sc (.sp (iH (.string s) rfl true (fun _=>rfl))))
abbrev iz (z:Int):AV Kr := .fv (.ag [rB (decide (z<0)),.sp (pH z.natAbs)])
theorem bC {β:List Nat} {v:Value} {w:World} {a:Nat}:(di a).holds β v w↔Di w v a:=by
 constructor
 ·rintro ⟨u,e,h⟩
  injection e with e
  rw [e];exact h
 ·intro h;exact ⟨v,rfl,h⟩
theorem ru_holds {β:List Nat} {v:Value} {w:World} {a:Nat}:(ru a).holds β v w↔Ru w v a:=by
 constructor
 ·rintro ⟨u,e,h⟩
  injection e with e
  rw [e];exact h
 ·intro h;exact ⟨v,rfl,h⟩
theorem bA {v u:Value} {h:v.oneCell'=true} {c:Bool} {hc:c=true→Kr v=false} {β:List Nat} {w:World} (k:(AV.fv (.sc (.sp (iH v h c hc))):AV Kr).holds β u w):u=v:=by
 have:[u] = [v]:=k
 injection this
theorem cJ {v:Value} {h:v.oneCell'=true} {c:Bool} {hc:c=true→Kr v=false} {β:List Nat} {w:World}:(AV.fv (.sc (.sp (iH v h c hc))):AV Kr).holds β v w:=rfl
theorem mC {β:List Nat} {v:Value} {w:World} {z:Int}:(iz z).holds β v w↔In w v z:=by
 constructor
 ·rintro ⟨cs,rfl,a,r,rfl,h1,b,r2,rfl,⟨u,e,A,n,c,xs,rfl,hr,hd,hn,hv⟩,h3⟩
  have h1:a = [.bool (decide (z<0))]:=h1
  rw [show r2 = [] from h3,h1,e]
  exact ⟨A,n,c,xs,rfl,hr,hd,hn,hv⟩
 ·rintro ⟨A,n,c,xs,rfl,hr,hd,hn,hv⟩
  exact ⟨[.bool (decide (z<0)),.slice A n c],rfl,[.bool (decide (z<0))],_,rfl,rfl,[.slice A n c],[],rfl,⟨_,rfl,A,n,c,xs,rfl,hr,hd,hn,hv⟩,rfl⟩
theorem rgo {f:FuncId} {fn:Func} {args:List (AV Kr)} {x:AV Kr} (hfn:Tryz.prog.funcs[f]?=some fn) (hc:(fn.body.isSome,decide (args.length≤fn.ntmps),x.noPtr,args.all AV.noPtr)=(true,true,true,true))
 (h:∀ w00,Ok Tryz.prog f w00 (fun v w=>x.holds [] v w) (cD Tryz.prog 1000 (oD fn args))):jF f args x:=by
 simp only [Prod.mk.injEq] at hc
 exact fits_go hfn hc.1 hc.2.1 hc.2.2.1 hc.2.2.2 fun w00=>Ok.go (by kernel_rfl) kr_ok 1000 (h w00)
section
variable {f:FuncId} {w00:World} {Out:Value→World→Prop}
theorem rcall {c:Cfg Kr} (fn:FuncId) (args:List (AV Kr)) {x:AV Kr} (h:jF fn args x) (hc:(c.callee Tryz.prog,c.args Tryz.prog,c.okT x)=(some fn,args,true)) (hfn:∀ (args:Array Value) (w:World),(callFunc fn args).run Tryz.prog w = .ok (.enter fn args) w)
 (hg:Ok Tryz.prog f w00 Out (cD Tryz.prog 1000 (c.give x))):Ok Tryz.prog f w00 Out c:=by
 simp only [Prod.mk.injEq] at hc
 exact Ok.call fn args h hc.1 hc.2.1 hc.2.2 hfn (Ok.go (by kernel_rfl) kr_ok 1000 hg)
theorem qO {c:Cfg Kr} (op:Op) (x y:Operand) (X Y r:AV Kr) (hc:(c.op.map fun o=>o.op,c.okT r,c.ev x,c.ev y)=(some op,true,X,Y)) (hx:x∈op.operands) (hy:y∈op.operands)
 (h:∀ (ρ:Operand→Value) (o:Oper) (β:List Nat) (w:World),o.op=op→X.holds β (ρ x) w→Y.holds β (ρ y) w→∃ v,(execOp ρ o).run Tryz.prog w = .ok (.value v) w∧r.holds β v w)
 (hg:Ok Tryz.prog f w00 Out (cD Tryz.prog 1000 (c.give r))):Ok Tryz.prog f w00 Out c:=by
 simp only [Prod.mk.injEq] at hc
 obtain ⟨h1,h2,h3,h4⟩:=hc
 rw [Option.map_eq_some_iff] at h1
 obtain ⟨o,ho,ho2⟩:=h1
 refine Ok.op o r ho h2 (fun β ρ w _ _ hs => .inl ?_) (Ok.go (by kernel_rfl) kr_ok 1000 hg)
 obtain ⟨v,e,hv⟩:=h ρ o β w ho2 (by rw [← h3];exact hs x (by rw [ho2];exact hx)) (by rw [← h4];exact hs y (by rw [ho2];exact hy))
 exact ⟨v,w,e,aB _ _,hv⟩
theorem rret {c:Cfg Kr} {fn:Func} {x:AV Kr} (hfn:Tryz.prog.funcs[f]?=some fn) (hc:(x.noPtr,c.res Tryz.prog fn)=(true,some x)):Ok Tryz.prog f w00 (fun v w=>x.holds [] v w) c:=by
 simp only [Prod.mk.injEq] at hc
 exact Ok.ret hfn hc.1 hc.2
end
theorem jL{f:FuncId}{w00:World}{Out:Value→World→Prop}{c:Cfg Kr}(op:Op)(x y:Operand)(X Y r:AV Kr)(h:∀(ρ:Operand→Value)(o:Oper)(β:List Nat)(w:World),o.op=op→X.holds β (ρ x) w→Y.holds β (ρ y) w→∃v,(execOp ρ o).run Tryz.prog w=.ok (.value v) w∧r.holds β v w)(hg:Ok Tryz.prog f w00 Out (cD Tryz.prog 1000 (c.give r)))(hc:(c.op.map fun o=>o.op,c.okT r,c.ev x,c.ev y)=(some op,true,X,Y):=by kernel_rfl)(hx:x∈op.operands:=by simp [Op.operands,Call.operands])(hy:y∈op.operands:=by simp [Op.operands,Call.operands]):Ok Tryz.prog f w00 Out c:=qO op x y X Y r hc hx hy h hg
theorem jB{f:FuncId}{w00:World}{Out:Value→World→Prop}{c:Cfg Kr}(fn:FuncId)(args:List (AV Kr)){x:AV Kr}(h:jF fn args x)(hg:Ok Tryz.prog f w00 Out (cD Tryz.prog 1000 (c.give x)))(hc:(c.callee Tryz.prog,c.args Tryz.prog,c.okT x)=(some fn,args,true):=by kernel_rfl)(hfn:∀(args:Array Value)(w:World),(callFunc fn args).run Tryz.prog w=.ok (.enter fn args) w:=by intro _ _;kernel_rfl):Ok Tryz.prog f w00 Out c:=rcall fn args h hc hfn hg
theorem jS{f:FuncId}{w00:World}{c:Cfg Kr}{fn:Func}{x:AV Kr}(hfn:Tryz.prog.funcs[f]?=some fn)(hc:(x.noPtr,c.res Tryz.prog fn)=(true,some x):=by kernel_rfl):Ok Tryz.prog f w00 (fun v w=>x.holds [] v w) c:=rret hfn hc
theorem jT{f:FuncId}{fn:Func}{args:List (AV Kr)}{x:AV Kr}(hfn:Tryz.prog.funcs[f]?=some fn)(h:∀w00,Ok Tryz.prog f w00 (fun v w=>x.holds [] v w) (cD Tryz.prog 1000 (oD fn args)))(hc:(fn.body.isSome,decide (args.length≤fn.ntmps),x.noPtr,args.all AV.noPtr)=(true,true,true,true):=by kernel_rfl):jF f args x:=rgo hfn hc h
theorem beq_run {o:Oper} {ρ:Operand→Value} {w:World} {x y:Operand} {a b:Bool} (ho:o.op = .binOp .eql 4 x y 4) (hx:ρ x = .bool a) (hy:ρ y = .bool b):(execOp ρ o).run Tryz.prog w = .ok (.value (.bool (a==b))) w:=by
 simp only [execOp,ho,hx,hy]
 refine bI ?_
 cases a <;> cases b <;> exact bW (by kernel_rfl) w
theorem bne_run {o:Oper} {ρ:Operand→Value} {w:World} {x y:Operand} {a b:Bool} (ho:o.op = .binOp .neq 4 x y 4) (hx:ρ x = .bool a) (hy:ρ y = .bool b):(execOp ρ o).run Tryz.prog w = .ok (.value (.bool (a != b))) w:=by
 simp only [execOp,ho,hx,hy]
 refine bI ?_
 cases a <;> cases b <;> exact bW (by kernel_rfl) w
abbrev Bd (a:Nat):Prop:=a<B9^1099511627776
theorem mulF {a b:Nat} (ha:Bd a) (hb:Bd b):jF 219 [di a,di b] (di (a*b)):=by
 intro β w vs hv
 obtain ⟨v,u,rfl,h1,h2⟩:=dZ hv
 obtain ⟨A,n,c,xs,rfl,hr,hd,hn,rfl⟩:=bC.1 h1
 obtain ⟨A',n',c',ys,rfl,hr',hd',hn',rfl⟩:=bC.1 h2
 have hl:n≤1099511627776:=by rw [← hr.len];exact aW dQ hn ha
 have hl' : n'≤1099511627776:=by rw [← hr'.len];exact aW dQ hn' hb
 exact (kX A n c xs A' n' c' ys w hr hr' hd hd' (by omega) (by omega)).mono fun e w' ⟨v,e1,e2,e3⟩=>⟨v,e1,e3,bC.2 e2⟩
theorem eU {b:Bool} {a:Nat}:jF 215 [rb b,di a] (iz (gU b a)):=by
 intro β w vs hv
 obtain ⟨v,u,rfl,h1,h2⟩:=dZ hv
 rw [bA h1]
 obtain ⟨A,n,c,xs,rfl,hr,hd,hn,rfl⟩:=bC.1 h2
 exact (kB b A n c xs w hr hd).mono fun e w' ⟨v,e1,e2,e3⟩=>⟨v,e1,e3,mC.2 e2⟩
theorem signedRF {b:Bool} {a:Nat}:jF 215 [rb b,ru a] (iz (gU b a)):=by
 intro β w vs hv
 obtain ⟨v,u,rfl,h1,h2⟩:=dZ hv
 rw [bA h1]
 obtain ⟨A,n,c,xs,rfl,hr,hd,rfl⟩:=ru_holds.1 h2
 exact (kB b A n c xs w hr hd).mono fun e w' ⟨v,e1,e2,e3⟩=>⟨v,e1,e3,mC.2 e2⟩
theorem sgz_mul (a b:Int):gU (decide (a<0) != decide (b<0)) (a.natAbs*b.natAbs)=a*b:=by
 have ha:a=if decide (a<0) then -(a.natAbs:Int) else (a.natAbs:Int):=by split <;> simp_all <;> omega
 have hb:b=if decide (b<0) then -(b.natAbs:Int) else (b.natAbs:Int):=by split <;> simp_all <;> omega
 generalize decide (a<0)=na at *
 generalize decide (b<0)=nb at *
 generalize a.natAbs=x at *
 generalize b.natAbs=y at *
 subst ha
 subst hb
 cases na <;> cases nb <;> simp [gU,Int.neg_mul,Int.mul_neg]
theorem timesZ {a b:Int} (ha:Bd a.natAbs) (hb:Bd b.natAbs):jF 160 [iz a,iz b] (iz (a*b)):=by
 refine jT Tryz.func160 fun w00=>?_
 refine jL (.binOp .neq 4 (.tmp 6) (.tmp 8) 4) (.tmp 6) (.tmp 8) (rb (decide (a<0))) (rb (decide (b<0))) (rb (decide (a<0) != decide (b<0))) (fun ρ o β w ho hx hy=>⟨_,bne_run ho (bA hx) (bA hy),cJ⟩) ?_
 refine jB 219 [di a.natAbs,di b.natAbs] (mulF ha hb) ?_
 refine jB 215 [rb (decide (a<0) != decide (b<0)),di (a.natAbs*b.natAbs)] (by have := @eU (decide (a<0) != decide (b<0)) (a.natAbs*b.natAbs);rw [sgz_mul] at this;exact this) ?_
 exact jS Tryz.func160
end Ab
section
open Go.RowKit Pl
theorem text_in (v:Value) (z:Int) (w:World) (h:In w v z) (hz:z.natAbs<B9^100000000):Calls Tryz.prog 195 #[v] w fun e w'=>e = .returned (.string (aP z))∧Below w.heap.size w w':=by
 obtain ⟨A,n,c,xs,rfl,hr,hd,hn,hv⟩:=h
 have hl:n≤100000000:=by rw [← hr.len];exact aW dQ hn (by rw [hv];exact hz)
 refine (text_raw _ A n c xs w hr hd hn hl).mono ?_
 rintro e w' ⟨rfl,hb⟩
 refine ⟨?_,hb⟩
 congr 2
 unfold aP
 rw [hv]
 by_cases h0:z<0
 ·have h1:0<n:=by
   refine Nat.pos_of_ne_zero fun he=>?_
   have:=(Norm.zero_iff cF hn).2 (List.eq_nil_of_length_eq_zero (by rw [hr.len];exact he))
   omega
  simp [h0,h1]
 ·simp [h0]
theorem dC (z:Int):aP z=Ab.writeB (z:Rat):=by
 unfold aP Ab.writeB Ab.overB
 rw [if_pos (Rat.den_intCast z),Rat.num_intCast]
theorem fromInt_any (z:Int) (w:World) (hz:-9223372036854775808≤z∧z≤9223372036854775807):Calls Tryz.prog 133 #[.int .i64 z] w fun e w'=>e = .returned (.string (Ab.writeB (z:Rat)))∧Below w.heap.size w w':=by
 have HZ:=aH hz
 clear hz
 go_enter Tryz.func133,Tryz.ntmps133
 go_wp2_with fail
 refine (whole_any z _ HZ.out).mono ?_
 rintro e w2 ⟨v,rfl,q,b⟩
 have Q:=aH (aI q b)
 clear q b
 go_wp2_with fail
 refine (text_in v z _ Q.out.1 ?_).mono ?_
 ·obtain ⟨n,hn⟩:∃ n,n=100000000:=⟨_,rfl⟩
  rw [← hn]
  have h3:B9^3≤B9^n:=Nat.pow_le_pow_right cF (by omega)
  have h5:B9^3=1000000000000000000000000000:=rfl
  rw [h5] at h3
  have:=HZ.out
  refine Nat.lt_of_lt_of_le ?_ h3
  omega
 rintro e w3 ⟨rfl,b⟩
 have B:=aH (Below.step_trans Q.out.2 b)
 clear b
 go_wp2
 go_ret
 exact ⟨by rw [dC];rfl,B.out⟩
end
namespace Ab
open Go.RowKit Pl
theorem yC {z:Int} (hz:yR z):jF 133 [it z] (tx (writeB (z:Rat))):=by
 intro β w vs hv
 obtain ⟨v,rfl,h1⟩:=cW hv
 rw [aN h1]
 exact (fromInt_any z w hz).mono fun e w' ⟨e1,e2⟩=>⟨_,e1,e2,bG⟩
theorem intsF {a b c:Int} (ha:yR a) (hb:yR b) (hc:yR c):jF 65 [it a,it b,it c] (vS a b c):=by
 refine jG Tryz.func65 fun w00=>?_
 refine jC 133 [it a] (yC ha) ?_
 refine jC 133 [it b] (yC hb) ?_
 refine jC 133 [it c] (yC hc) ?_
 exact jR Tryz.func65
theorem dG {a b c:Int} (ha:yR a) (hb:yR b) (hc:yR c):jF 22 [it a,it b,it c] (vS a b c):=by
 refine jG Tryz.func22 fun w00=>?_
 refine jC 65 [it a,it b,it c] (intsF ha hb hc) ?_
 exact jR Tryz.func22
theorem lawFrameF:jF 26 [] (gR (1:Int) (0:Int) (0:Int) (3:Int) (4:Int) (0:Int) (-4:Int) (3:Int) (0:Int) (0:Int) (0:Int) (5:Int)):=by
 refine jG Tryz.func26 fun w00=>?_
 refine jC 22 [it 1,it 0,it 0] (dG (by constructor <;> omega) (by constructor <;> omega) (by constructor <;> omega)) ?_
 refine jC 22 [it 3,it 4,it 0] (dG (by constructor <;> omega) (by constructor <;> omega) (by constructor <;> omega)) ?_
 refine jC 22 [it (-4),it 3,it 0] (dG (by constructor <;> omega) (by constructor <;> omega) (by constructor <;> omega)) ?_
 refine jC 22 [it 0,it 0,it 5] (dG (by constructor <;> omega) (by constructor <;> omega) (by constructor <;> omega)) ?_
 exact jR Tryz.func26
end Ab
namespace Ab
open Go.RowKit Pl
abbrev rl (b:Bool):AV Kr := .fv (.sc (.lit (.bool b)))
abbrev rI (n:Int):AV Kr := .fv (.sc (.sp (iH (.int .i64 n) rfl false (fun h=>by cases h))))
theorem eV {v:Value} (h:v.oneCell'=true) {β:List Nat} {w:World}:(AV.fv (.sc (.lit v)):AV Kr).holds β v w:=⟨rfl,h⟩
theorem bV {v u:Value} {β:List Nat} {w:World} (k:(AV.fv (.sc (.lit v)):AV Kr).holds β u w):u=v:=by have:=k.1;injection this
theorem addF {a b:Nat} (ha:Bd a) (hb:Bd b):jF 216 [di a,di b] (ru (a+b)):=by
 intro β w vs hv
 obtain ⟨v,u,rfl,h1,h2⟩:=dZ hv
 obtain ⟨A,n,c,xs,rfl,hr,hd,hn,rfl⟩:=bC.1 h1
 obtain ⟨A',n',c',ys,rfl,hr',hd',hn',rfl⟩:=bC.1 h2
 have hl:n≤1099511627776:=by rw [← hr.len];exact aW dQ hn ha
 have hl' : n'≤1099511627776:=by rw [← hr'.len];exact aW dQ hn' hb
 refine (yT A n c xs A' n' c' ys w hr hr' hd hd' (by omega) (by omega)).mono ?_
 rintro e w' ⟨A2,n2,c2,zs,rfl,h1,h2,h3,h4⟩
 exact ⟨_,rfl,h4,ru_holds.2 ⟨A2,n2,c2,zs,rfl,h1,h2,h3⟩⟩
theorem subF {a b:Nat} (ha:Bd a) (hle:b≤a):jF 218 [di a,di b] (di (a-b)):=by
 intro β w vs hv
 obtain ⟨v,u,rfl,h1,h2⟩:=dZ hv
 obtain ⟨A,n,c,xs,rfl,hr,hd,hn,rfl⟩:=bC.1 h1
 obtain ⟨A',n',c',ys,rfl,hr',hd',hn',rfl⟩:=bC.1 h2
 have hl:n≤1099511627776:=by rw [← hr.len];exact aW dQ hn ha
 have hl' : n'≤n:=by
  rcases Nat.lt_or_ge n n' with e|e
  ·have:=dA dQ hd hn' (by rw [hr.len,hr'.len];exact e)
   omega
  ·exact e
 exact (yU A n c xs A' n' c' ys w hr hr' hd hd' (by omega) hl' hle).mono fun e w' ⟨v,e1,e2,e3⟩=>⟨v,e1,e3,bC.2 e2⟩
theorem compareF {a b:Nat}:jF 217 [di a,di b] (rI (bN a b)):=by
 intro β w vs hv
 obtain ⟨v,u,rfl,h1,h2⟩:=dZ hv
 obtain ⟨A,n,c,xs,rfl,hr,hd,hn,rfl⟩:=bC.1 h1
 obtain ⟨A',n',c',ys,rfl,hr',hd',hn',rfl⟩:=bC.1 h2
 exact (eO A n c xs A' n' c' ys w hr hr' hd hd' hn hn').mono fun e w' ⟨e1,e2⟩=>⟨_,e1,e2,cJ⟩
theorem vJ {a b:Nat} (ha:Bd a) (hb:0<b):jF 210 [di a,di b] (.tup [.sc (.sp (pH (a/b))),.sc (.sp (pH (a%b)))]):=by
 intro β w vs hv
 obtain ⟨v,u,rfl,h1,h2⟩:=dZ hv
 refine (sC (bC.1 h1) (bC.1 h2) ha hb).mono ?_
 rintro e w' ⟨v1,v2,rfl,q1,q2,q3⟩
 exact ⟨_,rfl,q3,[v1,v2],rfl,v1,[v2],rfl,⟨v1,rfl,q1⟩,v2,[],rfl,⟨v2,rfl,q2⟩,rfl⟩
theorem kL {a b:Nat} (ha:Bd a) (hb:Bd b):jF 155 [di a,di b] (di (Nat.gcd a b)):=by
 intro β w vs hv
 obtain ⟨v,u,rfl,h1,h2⟩:=dZ hv
 exact (common_any v u a b w (bC.1 h1) (bC.1 h2) ha hb).mono fun e w' ⟨v,e1,e2,e3⟩=>⟨v,e1,e3,bC.2 e2⟩
theorem pX {z:Int} (hz:z.natAbs<B9^100000000):jF 195 [iz z] (rS (aP z)):=by
 intro β w vs hv
 obtain ⟨v,rfl,h1⟩:=cW hv
 exact (text_in v z w (mC.1 h1) hz).mono fun e w' ⟨e1,e2⟩=>⟨_,e1,e2,cJ⟩
theorem geq_run {o:Oper} {ρ:Operand→Value} {w:World} {x y:Operand} {a b:Int} {r:Bool} (ho:o.op = .binOp .geq 3 x y 3) (hx:ρ x = .int .i64 a) (hy:ρ y = .int .i64 b) (h:decide (b≤a)=r) :
 (execOp ρ o).run Tryz.prog w = .ok (.value (.bool r)) w:=by
 simp only [execOp,ho,hx,hy]
 refine bI ?_
 rw [← h]
 exact bW (by kernel_rfl) w
theorem sgz_val (a:Int):a=gU (decide (a<0)) a.natAbs:=by unfold gU;split <;> simp_all <;> omega
theorem plusZ {a b:Int} (ha:Bd a.natAbs) (hb:Bd b.natAbs):jF 159 [iz a,iz b] (iz (a+b)):=by
 by_cases hs:decide (a<0)=decide (b<0)
 ·have hsum:gU (decide (a<0)) (a.natAbs+b.natAbs)=a+b:=by
   have h1:=sgz_val a
   have h2:=sgz_val b
   rw [← hs] at h2
   generalize decide (a<0)=na at *
   generalize a.natAbs=x at *
   generalize b.natAbs=y at *
   rw [h1,h2]
   cases na <;> simp [gU] <;> omega
  refine jT Tryz.func159 fun w00=>?_
  refine jL (.binOp .eql 4 (.tmp 6) (.tmp 8) 4) (.tmp 6) (.tmp 8) (rb (decide (a<0))) (rb (decide (b<0))) (rl true) (fun ρ o β w ho hx hy=>⟨.bool true,by have:=beq_run (w:=w) ho (bA hx) (bA hy);rw [hs] at this;simpa using this,eV rfl⟩) ?_
  refine jB 216 [di a.natAbs,di b.natAbs] (addF ha hb) ?_
  refine jB 215 [rb (decide (a<0)),ru (a.natAbs+b.natAbs)] (by have := @signedRF (decide (a<0)) (a.natAbs+b.natAbs);rw [hsum] at this;exact this) ?_
  exact jS Tryz.func159
 ·have hne:(decide (a<0)==decide (b<0))=false:=by simpa using hs
  by_cases hle:b.natAbs≤a.natAbs
  ·have hsum:gU (decide (a<0)) (a.natAbs-b.natAbs)=a+b:=by
    unfold gU;split <;> simp_all <;> omega
   have hc:decide ((0:Int)≤bN a.natAbs b.natAbs)=true:=by unfold bN;rw [decide_eq_true_iff,if_neg (by omega)];split <;> omega
   refine jT Tryz.func159 fun w00=>?_
   refine jL (.binOp .eql 4 (.tmp 6) (.tmp 8) 4) (.tmp 6) (.tmp 8) (rb (decide (a<0))) (rb (decide (b<0))) (rl false) (fun ρ o β w ho hx hy=>⟨.bool false,by have:=beq_run (w:=w) ho (bA hx) (bA hy);rw [hne] at this;exact this,eV rfl⟩) ?_
   refine jB 217 [di a.natAbs,di b.natAbs] compareF ?_
   refine jL (.binOp .geq 3 (.tmp 22) (.const (.int .i64 0)) 3) (.tmp 22) (.const (.int .i64 0)) (rI (bN a.natAbs b.natAbs)) (.fv (.sc (.lit (.int .i64 0)))) (rl true) (fun ρ o β w ho hx hy=>⟨.bool true,geq_run ho (bA hx) (bV hy) hc,eV rfl⟩) ?_
   refine jB 218 [di a.natAbs,di b.natAbs] (subF ha hle) ?_
   refine jB 215 [rb (decide (a<0)),di (a.natAbs-b.natAbs)] (by have := @eU (decide (a<0)) (a.natAbs-b.natAbs);rw [hsum] at this;exact this) ?_
   exact jS Tryz.func159
  ·have hsum:gU (decide (b<0)) (b.natAbs-a.natAbs)=a+b:=by
    unfold gU;split <;> simp_all <;> omega
   have hc:decide ((0:Int)≤bN a.natAbs b.natAbs)=false:=by unfold bN;rw [decide_eq_false_iff_not,if_pos (by omega)];omega
   refine jT Tryz.func159 fun w00=>?_
   refine jL (.binOp .eql 4 (.tmp 6) (.tmp 8) 4) (.tmp 6) (.tmp 8) (rb (decide (a<0))) (rb (decide (b<0))) (rl false) (fun ρ o β w ho hx hy=>⟨.bool false,by have:=beq_run (w:=w) ho (bA hx) (bA hy);rw [hne] at this;exact this,eV rfl⟩) ?_
   refine jB 217 [di a.natAbs,di b.natAbs] compareF ?_
   refine jL (.binOp .geq 3 (.tmp 22) (.const (.int .i64 0)) 3) (.tmp 22) (.const (.int .i64 0)) (rI (bN a.natAbs b.natAbs)) (.fv (.sc (.lit (.int .i64 0)))) (rl false) (fun ρ o β w ho hx hy=>⟨.bool false,geq_run ho (bA hx) (bV hy) hc,eV rfl⟩) ?_
   refine jB 218 [di b.natAbs,di a.natAbs] (subF hb (by omega)) ?_
   refine jB 215 [rb (decide (b<0)),di (b.natAbs-a.natAbs)] (by have := @eU (decide (b<0)) (b.natAbs-a.natAbs);rw [hsum] at this;exact this) ?_
   exact jS Tryz.func159
abbrev pz (d:Nat):AV Kr := .fv (.ag [.lit (.bool false),.sp (pH d)])
theorem kY {o:Oper} {ρ:Operand→Value} {w:World} {t:Tmp} {A:Option Addr} {n c:Nat} (ho:o.op = .call ⟨.builtin .len,#[.tmp t],#[187]⟩) (hx:ρ (.tmp t) = .slice A n c) :
 (execOp ρ o).run Tryz.prog w = .ok (.value (.int .i64 n)) w:=by
 have hm:(#[Operand.tmp t].map ρ) = #[.slice A n c]:=by simp [hx]
 simp only [execOp,ho,resolve,Sem.run_bind,Sem.run_pure,Result.andThen,hm,invoke,builtin,Builtin.len_]
 simp [Sem.run_bind,run_underlying Tryz.underlying187,Result.andThen,goInt,Builtin.lenOf]
theorem mD {o:Oper} {ρ:Operand→Value} {w:World} {t:Tmp} {ad:Addr} {n c:Nat} (ho:o.op = .indexAddr 187 (.tmp t) (.const (.int .i64 0))) (hx:ρ (.tmp t) = .slice (some ad) n c) (hy:ρ (.const (.int .i64 0)) = .int .i64 0) (hn:0<n) :
 (execOp ρ o).run Tryz.prog w = .ok (.value (.pointer (some ad))) w:=by
 simp only [execOp,ho,hx,hy]
 refine bI ?_
 have h0:¬ n=0:=by omega
 simp [go_sem,run_underlying Tryz.underlying187,hn,h0]
 done
def csP (x:Nat):CS Kr where
 size:=1
 cold:=true
 pred cs w := ∃ ad:Addr,cs = [.pointer (some ad)]∧w.cell? ad=some (.int .i64 (x:Int))
 stable cs w w' h hx:=by obtain ⟨ad,e,h⟩:=h;exact ⟨ad,e,hx.cell h rfl⟩
 len cs w h:=by obtain ⟨v,e,_⟩:=h;rw [e];rfl
 one cs w h:=by obtain ⟨v,e,_⟩:=h;rw [e];intro d hd;rw [List.mem_singleton] at hd;rw [hd];rfl
 iscold _ cs w h:=by obtain ⟨v,e,_⟩:=h;rw [e];intro d hd;rw [List.mem_singleton] at hd;rw [hd];rfl
def csNe:CS Kr where
 size:=1
 cold:=false
 pred cs _ := ∃ n:Int,cs = [.int .i64 n]∧n≠1
 stable _ _ _ h _:=h
 len cs w h:=by obtain ⟨v,e,_⟩:=h;rw [e];rfl
 one cs w h:=by obtain ⟨v,e,_⟩:=h;rw [e];intro d hd;rw [List.mem_singleton] at hd;rw [hd];rfl
 iscold h:=by cases h
abbrev rP (x:Nat):AV Kr := .fv (.sc (.sp (csP x)))
abbrev rNe:AV Kr := .fv (.sc (.sp csNe))
theorem iQ {w:World} {v:Value} {q:Nat} (h:Di w v q) (h0:0<q) (hq:q<B9):∃ ad c,v = .slice (some ad) 1 c∧w.cell? ad=some (.int .i64 (q:Int)):=by
 obtain ⟨A,n,c,xs,rfl,hr,hd,hn,rfl⟩:=h
 have hl:=aW dQ hn (L:=1) (by rw [Nat.pow_one];exact hq)
 match xs,hl,hr with
 | [],_,_=>simp [val] at h0
 | [x],_,hr =>
   obtain rfl:n=1:=hr.len.symm
   obtain ⟨ad,y,rfl,_,hy,hc⟩:=hr.at_ (k:=0) (by omega)
   simp at hy
   subst hy
   exact ⟨ad,c,rfl,by simpa [val,Addr.add] using hc⟩
theorem vX {w:World} {v:Value} {q:Nat} (h:Di w v q) (hq:B9≤q):∃ A n c,v = .slice A n c∧n≠1:=by
 obtain ⟨A,n,c,xs,rfl,hr,hd,hn,rfl⟩:=h
 refine ⟨A,n,c,rfl,fun e=>?_⟩
 have h1:=bQ hd
 rw [hr.len,e,Nat.pow_one] at h1
 omega
theorem tV {o:Oper} {ρ:Operand→Value} {w:World} {t:Tmp} {ad:Addr} {x:Int} (ho:o.op = .load 3 (.tmp t)) (hx:ρ (.tmp t) = .pointer (some ad)) (hc:w.cell? ad=some (.int .i64 x)) :
 (execOp ρ o).run Tryz.prog w = .ok (.value (.int .i64 x)) w:=by
 simp only [execOp,ho,hx]
 refine bI ?_
 simp [go_sem,hc]
theorem iZ {o:Oper} {ρ:Operand→Value} {w:World} {x y:Operand} {a b:Int} {r:Bool} (ho:o.op = .binOp .eql 3 x y 3) (hx:ρ x = .int .i64 a) (hy:ρ y = .int .i64 b) (h:(a==b)=r) :
 (execOp ρ o).run Tryz.prog w = .ok (.value (.bool r)) w:=by
 simp only [execOp,ho,hx,hy]
 refine bI ?_
 rw [← h]
 exact bW (by kernel_rfl) w
theorem oI {a:Nat}:jF 215 [rl false,di a] (iz (a:Int)):=by
 intro β w vs hv
 obtain ⟨v,u,rfl,h1,h2⟩:=dZ hv
 rw [bV h1]
 have := @eU false a β w [.bool false,u] ⟨_,_,rfl,cJ,u,[],rfl,h2,rfl⟩
 simpa [gU] using this
section
variable {n:Int} {d:Nat}
theorem fractionF (hn:Bd n.natAbs) (hd:Bd d) (hd0:0<d) (hp:n.natAbs<B9^100000000) (hq:d<B9^100000000) (hs1:(aP (gU (decide (n<0)) (n.natAbs/Nat.gcd n.natAbs d))).size≤1000000000) (hs2:(aP ((d/Nat.gcd n.natAbs d:Nat):Int)).size≤1000000000) :
 jF 158 [iz n,pz d] (rS (if d/Nat.gcd n.natAbs d=1 then aP (gU (decide (n<0)) (n.natAbs/Nat.gcd n.natAbs d)) else aP (gU (decide (n<0)) (n.natAbs/Nat.gcd n.natAbs d))++⟨#[47]⟩++aP ((d/Nat.gcd n.natAbs d:Nat):Int))):=by
 have hg:0<Nat.gcd n.natAbs d:=Nat.gcd_pos_of_pos_right _ hd0
 have hq0:0<d/Nat.gcd n.natAbs d:=Nat.div_pos (Nat.gcd_le_right _ hd0) hg
 have hq1:d/Nat.gcd n.natAbs d≤d:=Nat.div_le_self _ _
 have hp1:(gU (decide (n<0)) (n.natAbs/Nat.gcd n.natAbs d)).natAbs<B9^100000000:=by rw [sD];exact Nat.lt_of_le_of_lt (Nat.div_le_self _ _) hp
 have hq2:((d/Nat.gcd n.natAbs d:Nat):Int).natAbs<B9^100000000:=by rw [Int.natAbs_natCast];exact Nat.lt_of_le_of_lt hq1 hq
 generalize hG:Nat.gcd n.natAbs d=g at *
 generalize hP:gU (decide (n<0)) (n.natAbs/g)=p at *
 generalize hQ:d/g=q at *
 by_cases h1:q=1
 ·rw [if_pos h1]
  refine jT Tryz.func158 fun w00=>?_
  refine jB 155 [di n.natAbs,di d] (by have:=kL hn hd;rw [hG] at this;exact this) ?_
  refine jB 210 [di n.natAbs,di g] (vJ hn hg) ?_
  refine jB 210 [di d,di g] (by have:=vJ (a:=d) (b:=g) hd hg;rw [hQ] at this;exact this) ?_
  refine jB 215 [rb (decide (n<0)),di (n.natAbs/g)] (by have := @eU (decide (n<0)) (n.natAbs/g);rw [hP] at this;exact this) ?_
  refine jB 195 [iz p] (pX hp1) ?_
  refine jL (.call ⟨.builtin .len,#[.tmp 41],#[187]⟩) (.tmp 41) (.tmp 41) (di q) (di q) (.fv (.sc (.lit (.int .i64 1)))) (fun ρ o β w ho hx _=>?_) ?_
  ·obtain ⟨ad,c,e,_⟩:=iQ (bC.1 hx) hq0 (by rw [h1];exact dQ)
   exact ⟨_,kY ho e,eV rfl⟩
  refine jL (.indexAddr 187 (.tmp 45) (.const (.int .i64 0))) (.tmp 45) (.const (.int .i64 0)) (di q) (.fv (.sc (.lit (.int .i64 0)))) (rP q) (fun ρ o β w ho hx hy=>?_) ?_
  ·obtain ⟨ad,c,e,hc⟩:=iQ (bC.1 hx) hq0 (by rw [h1];exact dQ)
   exact ⟨_,mD ho e (bV hy) (by omega),⟨ad,rfl,hc⟩⟩
  refine jL (.load 3 (.tmp 46)) (.tmp 46) (.tmp 46) (rP q) (rP q) (.fv (.sc (.lit (.int .i64 1)))) (fun ρ o β w ho hx _=>?_) ?_
  ·obtain ⟨ad,e,hc⟩:=hx
   injection e with e
   rw [h1] at hc
   exact ⟨_,tV ho e hc,eV rfl⟩
  exact jS Tryz.func158
 ·rw [if_neg h1]
  have hcat1:(aP p).size+(⟨#[47]⟩:ByteArray).size≤9223372036854775807:=by
   have:(⟨#[47]⟩:ByteArray).size=1:=rfl
   omega
  have hcat2:(aP p++⟨#[47]⟩:ByteArray).size+(aP (q:Int)).size≤9223372036854775807:=by
   have:(⟨#[47]⟩:ByteArray).size=1:=rfl
   rw [ByteArray.size_append]
   omega
  by_cases h2:q<B9
  ·refine jT Tryz.func158 fun w00=>?_
   refine jB 155 [di n.natAbs,di d] (by have:=kL hn hd;rw [hG] at this;exact this) ?_
   refine jB 210 [di n.natAbs,di g] (vJ hn hg) ?_
   refine jB 210 [di d,di g] (by have:=vJ (a:=d) (b:=g) hd hg;rw [hQ] at this;exact this) ?_
   refine jB 215 [rb (decide (n<0)),di (n.natAbs/g)] (by have := @eU (decide (n<0)) (n.natAbs/g);rw [hP] at this;exact this) ?_
   refine jB 195 [iz p] (pX hp1) ?_
   refine jL (.call ⟨.builtin .len,#[.tmp 41],#[187]⟩) (.tmp 41) (.tmp 41) (di q) (di q) (.fv (.sc (.lit (.int .i64 1)))) (fun ρ o β w ho hx _=>?_) ?_
   ·obtain ⟨ad,c,e,_⟩:=iQ (bC.1 hx) hq0 h2
    exact ⟨_,kY ho e,eV rfl⟩
   refine jL (.indexAddr 187 (.tmp 45) (.const (.int .i64 0))) (.tmp 45) (.const (.int .i64 0)) (di q) (.fv (.sc (.lit (.int .i64 0)))) (rP q) (fun ρ o β w ho hx hy=>?_) ?_
   ·obtain ⟨ad,c,e,hc⟩:=iQ (bC.1 hx) hq0 h2
    exact ⟨_,mD ho e (bV hy) (by omega),⟨ad,rfl,hc⟩⟩
   refine jL (.load 3 (.tmp 46)) (.tmp 46) (.tmp 46) (rP q) (rP q) (rI q) (fun ρ o β w ho hx _=>?_) ?_
   ·obtain ⟨ad,e,hc⟩:=hx
    injection e with e
    exact ⟨_,tV ho e hc,cJ⟩
   refine jL (.binOp .eql 3 (.tmp 47) (.const (.int .i64 1)) 3) (.tmp 47) (.const (.int .i64 1)) (rI q) (.fv (.sc (.lit (.int .i64 1)))) (rl false) (fun ρ o β w ho hx hy=>⟨.bool false,iZ ho (bA hx) (bV hy) (by simp;omega),eV rfl⟩) ?_
   refine jL (.binOp .add 9 (.tmp 51) (.const (.string ⟨#[47]⟩)) 9) (.tmp 51) (.const (.string ⟨#[47]⟩)) (rS (aP p)) (.fv (.sc (.lit (.string ⟨#[47]⟩)))) (rS (aP p++⟨#[47]⟩)) (fun ρ o β w ho hx hy=>⟨_,eN ho (bA hx) (bV hy) hcat1,cJ⟩) ?_
   refine jB 215 [rl false,di q] oI ?_
   refine jB 195 [iz (q:Int)] (pX hq2) ?_
   refine jL (.binOp .add 9 (.tmp 52) (.tmp 55) 9) (.tmp 52) (.tmp 55) (rS (aP p++⟨#[47]⟩)) (rS (aP (q:Int))) (rS (aP p++⟨#[47]⟩++aP (q:Int))) (fun ρ o β w ho hx hy=>⟨_,eN ho (bA hx) (bA hy) hcat2,cJ⟩) ?_
   exact jS Tryz.func158
  ·refine jT Tryz.func158 fun w00=>?_
   refine jB 155 [di n.natAbs,di d] (by have:=kL hn hd;rw [hG] at this;exact this) ?_
   refine jB 210 [di n.natAbs,di g] (vJ hn hg) ?_
   refine jB 210 [di d,di g] (by have:=vJ (a:=d) (b:=g) hd hg;rw [hQ] at this;exact this) ?_
   refine jB 215 [rb (decide (n<0)),di (n.natAbs/g)] (by have := @eU (decide (n<0)) (n.natAbs/g);rw [hP] at this;exact this) ?_
   refine jB 195 [iz p] (pX hp1) ?_
   refine jL (.call ⟨.builtin .len,#[.tmp 41],#[187]⟩) (.tmp 41) (.tmp 41) (di q) (di q) rNe (fun ρ o β w ho hx _=>?_) ?_
   ·obtain ⟨A,m,c,e,hm⟩:=vX (bC.1 hx) (Nat.le_of_not_lt h2)
    exact ⟨_,kY ho e,⟨(m:Int),rfl,by omega⟩⟩
   refine jL (.binOp .eql 3 (.tmp 42) (.const (.int .i64 1)) 3) (.tmp 42) (.const (.int .i64 1)) rNe (.fv (.sc (.lit (.int .i64 1)))) (rl false) (fun ρ o β w ho hx hy=>?_) ?_
   ·obtain ⟨m,e,hm⟩:=hx
    injection e with e
    exact ⟨.bool false,iZ ho e (bV hy) (by simpa using hm),eV rfl⟩
   refine jL (.binOp .add 9 (.tmp 51) (.const (.string ⟨#[47]⟩)) 9) (.tmp 51) (.const (.string ⟨#[47]⟩)) (rS (aP p)) (.fv (.sc (.lit (.string ⟨#[47]⟩)))) (rS (aP p++⟨#[47]⟩)) (fun ρ o β w ho hx hy=>⟨_,eN ho (bA hx) (bV hy) hcat1,cJ⟩) ?_
   refine jB 215 [rl false,di q] oI ?_
   refine jB 195 [iz (q:Int)] (pX hq2) ?_
   refine jL (.binOp .add 9 (.tmp 52) (.tmp 55) 9) (.tmp 52) (.tmp 55) (rS (aP p++⟨#[47]⟩)) (rS (aP (q:Int))) (rS (aP p++⟨#[47]⟩++aP (q:Int))) (fun ρ o β w ho hx hy=>⟨_,eN ho (bA hx) (bA hy) hcat2,cJ⟩) ?_
   exact jS Tryz.func158
end
end Ab
section
open Go.RowKit Pl
def ParseNext (w:World) (r r' : ByteArray) (ws:List Nat):Prop :=
 Dig B9 ws∧AllDig (aC r')∧aU (aC r)=val B9 ws+B9^ws.length*aU (aC r')∧r'.size+9*ws.length=r.size
def ParseAt (w:World) (r:ByteArray) (dv wv:Value) (wr:World):Prop :=
 ∃ (r' : ByteArray) (ws:List Nat),dv = .string r'∧wr.ownsRow (w.heap.size+1) 3 1 wv ws.length (ws.map dV)∧Dig B9 ws∧AllDig (aC r')∧aU (aC r)=val B9 ws+B9^ws.length*aU (aC r')∧r'.size+9*ws.length=r.size ∧
   Below w.heap.size w wr∧wr.heap[w.heap.size]?=some (.cells #[.bool false,.slice none 0 0] 189 (0,0))∧w.heap.size<wr.heap.size
set_option maxRecDepth 100000 in
theorem uY (r:ByteArray) (w:World) (hd:AllDig (aC r)) (h0:0<r.size) (hs:r.size≤100000):Calls Tryz.prog 209 #[.string r] w fun e w' => ∃ v,e = .returned v∧In w' v (gU false (aU (aC r)))∧Below w.heap.size w w':=by
 have HD:=aH (aI hd hs)
 have k0:(0:Int)<r.size:=by omega
 obtain ⟨c,hc⟩:∃ c:Nat,(r[0]'h0).toNat=c:=⟨_,rfl⟩
 have k45:((c:Int)==45)=false:=by
  have:=hd _ (List.mem_of_getElem? (cI h0))
  rw [hc] at this
  simp;omega
 clear hd hs
 go_enter Tryz.func209,Tryz.ntmps209
 go_wp2
 clear hc k45
 go_loopw [0,4] (fun dv wv wr=>ParseAt w r dv wv wr) (fun dv _ _=>mV dv)
 case atStart=>exact ⟨r,[],rfl,⟨rfl,.inl ⟨rfl,rfl⟩⟩,Dig.nil _,HD.out.1,by simp [val],by simp,(aB _ _).alloc (aR _) _,heap_alloc_new w _,by simp⟩
 case round =>
  obtain ⟨r',ws,rfl,hrow,hdw,hd',hval,hsz,hb,hh,hs⟩:=hrel
  have hr1:r'.size≤100000:=by have:=HD.out.2;omega
  have hw1:ws.length≤100000:=by have:=HD.out.2;omega
  by_cases h9:9<r'.size
  ·have k1:(9:Int)<r'.size:=by omega
   have k2:(r'.size:Int)≤100000:=by omega
   have hlt:aU (aC (r'.extract (r'.size-9) r'.size))<B9:=by
    have e1:aC (r'.extract (r'.size-9) r'.size)=(aC r').drop (r'.size-9):=by rw [aS,List.take_of_length_le (by rw [aE];exact aR _)]
    rw [e1]
    have h1:=gA (hd'.drop (r'.size-9))
    rw [List.length_drop,aE,show r'.size-(r'.size-9)=9 by omega] at h1
    exact h1
   have hnat:aU (aC r')=aU (aC (r'.extract 0 (r'.size-9)))*B9+aU (aC (r'.extract (r'.size-9) r'.size)):=by
    have e1:aC (r'.extract (r'.size-9) r'.size)=(aC r').drop (r'.size-9):=by rw [aS,List.take_of_length_le (by rw [aE];exact aR _)]
    have e2:aC (r'.extract 0 (r'.size-9))=(aC r').take (r'.size-9):=by rw [aS,List.drop_zero]
    rw [e1,e2]
    conv=>lhs;rw [← List.take_append_drop (r'.size-9) (aC r'),fA]
    rw [List.length_drop,aE,show r'.size-(r'.size-9)=9 by omega]
    rfl
   have cv:=aH (fun W=>lZ (r'.extract (r'.size-9) r'.size) W (by rw [aS];exact (hd'.take _).drop _) (by simp;omega))
   obtain ⟨x,hx⟩:∃ x,x=aU (aC (r'.extract (r'.size-9) r'.size)):=⟨_,rfl⟩
   rw [← hx] at cv hlt hnat
   have hnext:ParseNext w r (r'.extract 0 (r'.size-9)) (ws ++ [x]):=by
    refine ⟨hdw.app (Dig.cons hlt (Dig.nil _)),by rw [aS,List.drop_zero];exact hd'.take _,?_,?_⟩
    ·rw [cH,List.length_append,List.length_singleton,Nat.pow_succ,hval,hnat]
     generalize aU (aC (r'.extract 0 (r'.size-9)))=m
     generalize B9^ws.length=P
     generalize B9=V
     grind
    ·rw [List.length_append,List.length_singleton];simp;omega
   have HE:=aH (aI hrow (aI hnext (aI hb (aI hh (aI hs (by omega:ws.length≤2199023255999))))))
   clear hrow hnext hb hh hs hdw hd' hval hsz hlt hnat hx hw1 hr1
   go_wp2_with fail
   refine (cv.out _).mono ?_
   rintro e w' ⟨rfl,rfl⟩
   go_wp2_with (at_builtin;refine fQ (r:=x) (B:=w.heap.size) rfl _ _ rfl rfl HE.out.1 rfl HE.out.2.2.2.2.2 HE.out.2.2.1 (Nat.le_succ _) HE.out.2.2.2.2.1 ?_)
   intro v' w3 hr3 hbw hg3
   have hr3' : w3.ownsRow (w.heap.size+1) 3 1 v' (ws ++ [x]).length ((ws ++ [x]).map dV):=by
    rw [List.length_append,List.length_singleton,List.map_append];exact hr3
   have hh3:w3.heap[w.heap.size]?=some (.cells #[.bool false,.slice none 0 0] 189 (0,0)):=by
    have h2:=(Below.heap_alloc w' (.cells #[.int .i64 (x:Int)] 3) _ HE.out.2.2.2.2.1).trans HE.out.2.2.2.1
    refine fT hg3 h2 ?_
    intro he
    have:=mA HE.out.1 _ he.symm
    omega
   have hs3:w.heap.size<w3.heap.size:=by have:=hg3.size;have:=HE.out.2.2.2.2.1;simp at *;omega
   have HX:=aH (aI hr3' (aI hbw (aI hh3 hs3)))
   clear hr3 hr3' hbw hg3 hh3 hs3
   go_wp2
   go_roundw
   case rel =>
    obtain ⟨h1,h2,h3,h4⟩:=HE.out.2.1
    exact ⟨_,ws ++ [x],rfl,HX.out.1,h1,h2,h3,h4,HX.out.2.1,HX.out.2.2.1,HX.out.2.2.2⟩
   case measure =>
    clear HX HE
    simp [mV];omega
  ·have k1:¬ (9:Int)<r'.size:=by omega
   have cv:=aH (fun W=>lZ r' W hd' (by omega))
   have hlt:aU (aC r')<B9:=by
    have h1:=gA hd'
    rw [aE] at h1
    refine Nat.lt_of_lt_of_le h1 ?_
    have:10^r'.size≤10^9:=Nat.pow_le_pow_right (by omega) (by omega)
    exact this
   obtain ⟨x,hx⟩:∃ x,x=aU (aC r'):=⟨_,rfl⟩
   rw [← hx] at cv hlt hval
   have hfin:gU false (val B9 (ws ++ [x]))=gU false (aU (aC r)):=by rw [cH,hval]
   have HE:=aH (aI hrow (aI hfin (aI hb (aI hh (aI hs (aI (by omega:ws.length≤2199023255999) (hdw.app (Dig.cons hlt (Dig.nil _)))))))))
   clear hrow hfin hb hh hs hdw hd' hval hsz hlt hx hw1 hr1 h9
   go_wp2_with fail
   refine (cv.out _).mono ?_
   rintro e w' ⟨rfl,rfl⟩
   go_wp2_with (at_builtin;refine fQ (r:=x) (B:=w.heap.size) rfl _ _ rfl rfl HE.out.1 rfl HE.out.2.2.2.2.2.1 HE.out.2.2.1 (Nat.le_succ _) HE.out.2.2.2.2.1 ?_)
   intro v' w3 hr3 hbw hg3
   have hr3' : w3.ownsRow (w.heap.size+1) 3 1 v' (ws.length+1) ((ws ++ [x]).map dV):=by
    rw [List.map_append];exact hr3
   obtain ⟨A3,c3,rfl,hri⟩:=vV hr3'
   have hh3:w3.heap[w.heap.size]?=some (.cells #[.bool false,.slice none 0 0] 189 (0,0)):=by
    have h2:=(Below.heap_alloc w' (.cells #[.int .i64 (x:Int)] 3) _ HE.out.2.2.2.2.1).trans HE.out.2.2.2.1
    refine fT hg3 h2 ?_
    intro he
    have:=mA HE.out.1 _ he.symm
    omega
   have hs3:w.heap.size<w3.heap.size:=by have:=hg3.size;have:=HE.out.2.2.2.2.1;simp at *;omega
   have HX:=aH (aI hri (aI hbw (aI hh3 hs3)))
   clear hr3 hr3' hbw hg3 hh3 hs3 hri
   go_wp2_with fail
   refine (kB false A3 _ c3 (ws ++ [x]) _ HX.out.1 HE.out.2.2.2.2.2.2).mono ?_
   rintro e w2 ⟨v,rfl,q,b⟩
   rw [HE.out.2.1] at q
   have hh2:w2.heap[w.heap.size]?=some (.cells #[.bool false,.slice none 0 0] 189 (0,0)):=(b.block _ HX.out.2.2.2).trans HX.out.2.2.1
   have hb2:Below w.heap.size w w2:=HX.out.2.1.trans (b.mono (Nat.le_of_lt HX.out.2.2.2))
   obtain ⟨A',n',c',xs',rfl,q'⟩:=id q
   have Q:=aH (aI q (aI hh2 hb2))
   clear q q' b hh2 hb2
   obtain ⟨⟨b0,b1⟩,f0,f1⟩:=blk2i Q.out.2.1
   go_wp2
   obtain ⟨q,hh2,hb2⟩:=Q.out
   obtain ⟨⟨g0,g1⟩,_⟩:=blk2i (tU hh2 (x := .bool (decide (gU false (aU (aC r))<0))) (y := .slice A' n' c'))
   refine bodyPost_ret (v := .agg #[.bool (decide (gU false (aU (aC r))<0)),.slice A' n' c']) (by simp [results,Tryz.results209,go_sem,g0,g1]) rfl ⟨_,rfl,q.set2 hh2 (fun n h=>by cases h) (fun n h=>by cases h),?_⟩
   exact (hb2.setCell (p:=⟨w.heap.size,0,none⟩) (aR _) _).setCell (p:=⟨w.heap.size,1,none⟩) (aR _) _
set_option maxRecDepth 100000 in
theorem parse_minus (r : ByteArray) (w : World) (hd:AllDig (aC r)) (hs:r.size≤100000):Calls Tryz.prog 209 #[.string (⟨#[45]⟩++r)] w fun e w' => ∃ v,e = .returned v∧In w' v (gU true (aU (aC r)))∧Below w.heap.size w w':=by
 have HD:=aH (aI hd hs)
 obtain ⟨s,hs'⟩:∃ s,s=(⟨#[45]⟩++r:ByteArray):=⟨_,rfl⟩
 have hsz : s.size = r.size + 1 := by rw [hs',ByteArray.size_append];have:(⟨#[45]⟩:ByteArray).size=1:=rfl
                                      omega
 have h0:0<s.size:=by omega
 have k0:(0:Int)<s.size:=by omega
 have k1:(s.size:Int)≤100001:=by omega
 have hbs:aC s=45::aC r:=by rw [hs'];simp [aC]
 have hc:(s[0]'h0).toNat=45:=by
  have h1:=cI h0
  rw [hbs] at h1
  simp at h1
  rw [← h1];rfl
 have hext:s.extract 1 (r.size+1)=r:=by
  subst hs'
  apply Ab.ba_ext
  simp [hsz]
  exact List.take_of_length_le (Nat.le_of_eq rfl)
 rw [← hs']
 clear hd hs hs' hbs
 go_enter Tryz.func209,Tryz.ntmps209
 go_wp2
 try rw [hext]
 clear hc hext
 go_loopw [0,4] (fun dv wv wr=>ParseAt w r dv wv wr) (fun dv _ _=>mV dv)
 case atStart=>exact ⟨r,[],rfl,⟨rfl,.inl ⟨rfl,rfl⟩⟩,Dig.nil _,HD.out.1,by simp [val],by simp,(aB _ _).alloc (aR _) _,heap_alloc_new w _,by simp⟩
 case round =>
  obtain ⟨r',ws,rfl,hrow,hdw,hd',hval,hsz,hb,hh,hs⟩:=hrel
  have hr1:r'.size≤100000:=by have:=HD.out.2;omega
  have hw1:ws.length≤100000:=by have:=HD.out.2;omega
  by_cases h9:9<r'.size
  ·have k1:(9:Int)<r'.size:=by omega
   have k2:(r'.size:Int)≤100000:=by omega
   have hlt:aU (aC (r'.extract (r'.size-9) r'.size))<B9:=by
    have e1:aC (r'.extract (r'.size-9) r'.size)=(aC r').drop (r'.size-9):=by rw [aS,List.take_of_length_le (by rw [aE];exact aR _)]
    rw [e1]
    have h1:=gA (hd'.drop (r'.size-9))
    rw [List.length_drop,aE,show r'.size-(r'.size-9)=9 by omega] at h1
    exact h1
   have hnat:aU (aC r')=aU (aC (r'.extract 0 (r'.size-9)))*B9+aU (aC (r'.extract (r'.size-9) r'.size)):=by
    have e1:aC (r'.extract (r'.size-9) r'.size)=(aC r').drop (r'.size-9):=by rw [aS,List.take_of_length_le (by rw [aE];exact aR _)]
    have e2:aC (r'.extract 0 (r'.size-9))=(aC r').take (r'.size-9):=by rw [aS,List.drop_zero]
    rw [e1,e2]
    conv=>lhs;rw [← List.take_append_drop (r'.size-9) (aC r'),fA]
    rw [List.length_drop,aE,show r'.size-(r'.size-9)=9 by omega]
    rfl
   have cv:=aH (fun W=>lZ (r'.extract (r'.size-9) r'.size) W (by rw [aS];exact (hd'.take _).drop _) (by simp;omega))
   obtain ⟨x,hx⟩:∃ x,x=aU (aC (r'.extract (r'.size-9) r'.size)):=⟨_,rfl⟩
   rw [← hx] at cv hlt hnat
   have hnext:ParseNext w r (r'.extract 0 (r'.size-9)) (ws ++ [x]):=by
    refine ⟨hdw.app (Dig.cons hlt (Dig.nil _)),by rw [aS,List.drop_zero];exact hd'.take _,?_,?_⟩
    ·rw [cH,List.length_append,List.length_singleton,Nat.pow_succ,hval,hnat]
     generalize aU (aC (r'.extract 0 (r'.size-9)))=m
     generalize B9^ws.length=P
     generalize B9=V
     grind
    ·rw [List.length_append,List.length_singleton];simp;omega
   have HE:=aH (aI hrow (aI hnext (aI hb (aI hh (aI hs (by omega:ws.length≤2199023255999))))))
   clear hrow hnext hb hh hs hdw hd' hval hsz hlt hnat hx hw1 hr1
   go_wp2_with fail
   refine (cv.out _).mono ?_
   rintro e w' ⟨rfl,rfl⟩
   go_wp2_with (at_builtin;refine fQ (r:=x) (B:=w.heap.size) rfl _ _ rfl rfl HE.out.1 rfl HE.out.2.2.2.2.2 HE.out.2.2.1 (Nat.le_succ _) HE.out.2.2.2.2.1 ?_)
   intro v' w3 hr3 hbw hg3
   have hr3' : w3.ownsRow (w.heap.size+1) 3 1 v' (ws ++ [x]).length ((ws ++ [x]).map dV):=by
    rw [List.length_append,List.length_singleton,List.map_append];exact hr3
   have hh3:w3.heap[w.heap.size]?=some (.cells #[.bool false,.slice none 0 0] 189 (0,0)):=by
    have h2:=(Below.heap_alloc w' (.cells #[.int .i64 (x:Int)] 3) _ HE.out.2.2.2.2.1).trans HE.out.2.2.2.1
    refine fT hg3 h2 ?_
    intro he
    have:=mA HE.out.1 _ he.symm
    omega
   have hs3:w.heap.size<w3.heap.size:=by have:=hg3.size;have:=HE.out.2.2.2.2.1;simp at *;omega
   have HX:=aH (aI hr3' (aI hbw (aI hh3 hs3)))
   clear hr3 hr3' hbw hg3 hh3 hs3
   go_wp2
   go_roundw
   case rel =>
    obtain ⟨h1,h2,h3,h4⟩:=HE.out.2.1
    exact ⟨_,ws ++ [x],rfl,HX.out.1,h1,h2,h3,h4,HX.out.2.1,HX.out.2.2.1,HX.out.2.2.2⟩
   case measure =>
    clear HX HE
    simp [mV];omega
  ·have k1:¬ (9:Int)<r'.size:=by omega
   have cv:=aH (fun W=>lZ r' W hd' (by omega))
   have hlt:aU (aC r')<B9:=by
    have h1:=gA hd'
    rw [aE] at h1
    refine Nat.lt_of_lt_of_le h1 ?_
    have:10^r'.size≤10^9:=Nat.pow_le_pow_right (by omega) (by omega)
    exact this
   obtain ⟨x,hx⟩:∃ x,x=aU (aC r'):=⟨_,rfl⟩
   rw [← hx] at cv hlt hval
   have hfin:gU true (val B9 (ws ++ [x]))=gU true (aU (aC r)):=by rw [cH,hval]
   have HE:=aH (aI hrow (aI hfin (aI hb (aI hh (aI hs (aI (by omega:ws.length≤2199023255999) (hdw.app (Dig.cons hlt (Dig.nil _)))))))))
   clear hrow hfin hb hh hs hdw hd' hval hsz hlt hx hw1 hr1 h9
   go_wp2_with fail
   refine (cv.out _).mono ?_
   rintro e w' ⟨rfl,rfl⟩
   go_wp2_with (at_builtin;refine fQ (r:=x) (B:=w.heap.size) rfl _ _ rfl rfl HE.out.1 rfl HE.out.2.2.2.2.2.1 HE.out.2.2.1 (Nat.le_succ _) HE.out.2.2.2.2.1 ?_)
   intro v' w3 hr3 hbw hg3
   have hr3' : w3.ownsRow (w.heap.size+1) 3 1 v' (ws.length+1) ((ws ++ [x]).map dV):=by
    rw [List.map_append];exact hr3
   obtain ⟨A3,c3,rfl,hri⟩:=vV hr3'
   have hh3:w3.heap[w.heap.size]?=some (.cells #[.bool false,.slice none 0 0] 189 (0,0)):=by
    have h2:=(Below.heap_alloc w' (.cells #[.int .i64 (x:Int)] 3) _ HE.out.2.2.2.2.1).trans HE.out.2.2.2.1
    refine fT hg3 h2 ?_
    intro he
    have:=mA HE.out.1 _ he.symm
    omega
   have hs3:w.heap.size<w3.heap.size:=by have:=hg3.size;have:=HE.out.2.2.2.2.1;simp at *;omega
   have HX:=aH (aI hri (aI hbw (aI hh3 hs3)))
   clear hr3 hr3' hbw hg3 hh3 hs3 hri
   go_wp2_with fail
   refine (kB true A3 _ c3 (ws ++ [x]) _ HX.out.1 HE.out.2.2.2.2.2.2).mono ?_
   rintro e w2 ⟨v,rfl,q,b⟩
   rw [HE.out.2.1] at q
   have hh2:w2.heap[w.heap.size]?=some (.cells #[.bool false,.slice none 0 0] 189 (0,0)):=(b.block _ HX.out.2.2.2).trans HX.out.2.2.1
   have hb2:Below w.heap.size w w2:=HX.out.2.1.trans (b.mono (Nat.le_of_lt HX.out.2.2.2))
   obtain ⟨A',n',c',xs',rfl,q'⟩:=id q
   have Q:=aH (aI q (aI hh2 hb2))
   clear q q' b hh2 hb2
   obtain ⟨⟨b0,b1⟩,f0,f1⟩:=blk2i Q.out.2.1
   go_wp2
   obtain ⟨q,hh2,hb2⟩:=Q.out
   obtain ⟨⟨g0,g1⟩,_⟩:=blk2i (tU hh2 (x := .bool (decide (gU true (aU (aC r))<0))) (y := .slice A' n' c'))
   refine bodyPost_ret (v := .agg #[.bool (decide (gU true (aU (aC r))<0)),.slice A' n' c']) (by simp [results,Tryz.results209,go_sem,g0,g1]) rfl ⟨_,rfl,q.set2 hh2 (fun n h=>by cases h) (fun n h=>by cases h),?_⟩
   exact (hb2.setCell (p:=⟨w.heap.size,0,none⟩) (aR _) _).setCell (p:=⟨w.heap.size,1,none⟩) (aR _) _
end
namespace Ab
open Go.RowKit Pl
theorem fJ (n:Nat):AllDig (aC (decB n)):=by
 have:aC (decB n)=Lib.decDigits n:=cT n
 rw [this];exact (bZ n).2.1
theorem eW (n:Nat):aU (aC (decB n))=n:=by
 have:aC (decB n)=Lib.decDigits n:=cT n
 rw [this];exact (bZ n).1
theorem sE (n:Nat):0<(decB n).size:=by
 have h:(decB n).size=(Lib.decDigits n).length:=by simp [decB,ByteArray.size]
 rw [h];exact List.length_pos_iff.2 (bZ n).2.2
theorem pz_of {β:List Nat} {v:Value} {w:World} {d:Nat} (h:In w v (d:Int)):(pz d).holds β v w:=by
 obtain ⟨A,n,c,xs,rfl,hr,hd,hn,hv⟩:=h
 have e:decide ((d:Int)<0)=false:=decide_eq_false (vW d)
 rw [e]
 exact ⟨[.bool false,.slice A n c],rfl,[.bool false],_,rfl,⟨rfl,rfl⟩,[.slice A n c],[],rfl,⟨_,rfl,A,n,c,xs,rfl,hr,hd,hn,by simpa using hv⟩,rfl⟩
theorem parseF {z:Int} (hz:(decB z.natAbs).size≤100000):jF 209 [rS (aP z)] (iz z):=by
 intro β w vs hv
 obtain ⟨v,rfl,h1⟩:=cW hv
 rw [bA h1]
 unfold aP
 split
 ·rename_i h
  refine (parse_minus (decB z.natAbs) w (fJ _) hz).mono fun e w' ⟨v,e1,e2,e3⟩=>⟨v,e1,e3,mC.2 ?_⟩
  rw [eW] at e2
  have:gU true z.natAbs=z:=by simp [gU];omega
  rwa [this] at e2
 ·rename_i h
  refine (uY (decB z.natAbs) w (fJ _) (sE _) hz).mono fun e w' ⟨v,e1,e2,e3⟩=>⟨v,e1,e3,mC.2 ?_⟩
  rw [eW] at e2
  have:gU false z.natAbs=z:=by simp [gU];omega
  rwa [this] at e2
theorem parseDF {d:Nat} (hz:(decB d).size≤100000):jF 209 [rS (decB d)] (pz d):=by
 intro β w vs hv
 obtain ⟨v,rfl,h1⟩:=cW hv
 rw [bA h1]
 refine (uY (decB d) w (fJ _) (sE _) hz).mono fun e w' ⟨v,e1,e2,e3⟩=>⟨v,e1,e3,pz_of ?_⟩
 rw [eW] at e2
 exact e2
theorem wholeOneF:jF 196 [.fv (.sc (.lit (.int .i64 1)))] (pz 1):=by
 intro β w vs hv
 obtain ⟨v,rfl,h1⟩:=cW hv
 rw [bV h1]
 exact (whole_any 1 w (by constructor <;> omega)).mono fun e w' ⟨v,e1,e2,e3⟩=>⟨v,e1,e3,pz_of e2⟩
theorem eX {s:ByteArray} (hs:s.size≤9223372036854775807):jF 152 [rS s] (rI (aJ s:Nat)):=by
 intro β w vs hv
 obtain ⟨v,rfl,h1⟩:=cW hv
 rw [bA h1]
 exact (slash_any s w hs).mono fun e w' ⟨e1,e2⟩=>⟨_,e1,by rw [e2];exact aB _ _,cJ⟩
theorem sF {o:Oper} {ρ:Operand→Value} {w:World} {t:Tmp} {T:TypeId} {s:ByteArray} (ho:o.op = .call ⟨.builtin .len,#[.tmp t],#[T]⟩) (hT:Tryz.prog.underlying T=some .string) (hx:ρ (.tmp t) = .string s) :
 (execOp ρ o).run Tryz.prog w = .ok (.value (.int .i64 s.size)) w:=vT ho hT hx
theorem oJ {o:Oper} {ρ:Operand→Value} {w:World} {T:TypeId} {x y:Operand} {s:ByteArray} {k:Nat} (ho:o.op = .slice T x none (some y) none) (hT:Tryz.prog.underlying T=some .string) (hx:ρ x = .string s) (hy:ρ y = .int .i64 (k:Int)) (hk:k≤s.size) :
 (execOp ρ o).run Tryz.prog w = .ok (.value (.string (s.extract 0 k))) w:=by
 simp only [execOp,ho,hx]
 refine bI ?_
 have h1:(k:Int)≤s.size:=by omega
 simp only [Option.map,hy]
 rw [run_sliceAt_string w _ _ _ _ _ hT]
 simp [Instr.slice,run_underlying hT,Instr.sliceBounds,run_sliceBound,h1,hk]
theorem oK {o:Oper} {ρ:Operand→Value} {w:World} {T:TypeId} {x y:Operand} {s:ByteArray} {k:Nat} (ho:o.op = .slice T x (some y) none none) (hT:Tryz.prog.underlying T=some .string) (hx:ρ x = .string s) (hy:ρ y = .int .i64 (k:Int)) (hk:k≤s.size) :
 (execOp ρ o).run Tryz.prog w = .ok (.value (.string (s.extract k s.size))) w:=by
 simp only [execOp,ho,hx]
 refine bI ?_
 have h1:(k:Int)≤s.size:=by omega
 simp only [Option.map,hy]
 rw [run_sliceAt_string w _ _ _ _ _ hT]
 simp [Instr.slice,run_underlying hT,Instr.sliceBounds,run_sliceBound,h1,hk]
theorem sG {o:Oper} {ρ:Operand→Value} {w:World} {x:Operand} {a:Nat} (ho:o.op = .binOp .add 3 x (.const (.int .i64 1)) 3) (hx:ρ x = .int .i64 (a:Int)) (hy:ρ (.const (.int .i64 1)) = .int .i64 1) (ha:a<9223372036854775807) :
 (execOp ρ o).run Tryz.prog w = .ok (.value (.int .i64 ((a+1:Nat):Int))) w:=by
 simp only [execOp,ho,hx,hy]
 refine bI ?_
 have e:IntKind.i64.wrap ((a:Int)+1)=((a+1:Nat):Int):=by
  rw [IntWalk.i64_left,IntWalk.wrap64_in _ ⟨by omega,by omega⟩];omega
 simp [go_sem,e]
theorem jE {q:Rat} (h:q.den=1):writeB q=aP q.num:=by
 unfold writeB aP overB
 rw [if_pos h]
theorem eY {q:Rat} (h:q.den≠1):writeB q=aP q.num++(⟨#[47]⟩++decB q.den):=by
 unfold writeB aP overB
 rw [if_neg h]
theorem dig47 {l:List UInt8} (h:AllDig l):∀ c∈l,(c==47)=false:=by
 intro c hc
 have:=h c hc
 rw [beq_eq_false_iff_ne]
 rintro rfl
 revert this
 decide
theorem text47 (z:Int):∀ c∈aC (aP z),(c==47)=false:=by
 unfold aP
 split
 ·intro c hc
  have e:aC (⟨#[45]⟩++decB z.natAbs:ByteArray)=45::aC (decB z.natAbs):=by simp [aC]
  rw [e] at hc
  rcases List.mem_cons.1 hc with rfl|hc
  ·rfl
  ·exact dig47 (fJ _) c hc
 ·exact dig47 (fJ _)
theorem tW (z:Int):aJ (aP z)=(aP z).size:=by
 unfold aJ
 rw [← aE,List.findIdx_eq_length]
 exact text47 z
theorem tX (z:Int) (r:ByteArray):aJ (aP z++(⟨#[47]⟩++r))=(aP z).size:=by
 unfold aJ
 have e:aC (aP z++(⟨#[47]⟩++r))=aC (aP z)++47::aC r:=by simp [aC]
 rw [e,List.findIdx_append,if_neg (by
  rw [Nat.not_lt,Nat.le_iff_lt_or_eq]
  right
  exact ((List.findIdx_eq_length).2 (text47 z)).symm),List.findIdx_cons]
 simp [← aE]
theorem ext_lo (a b:ByteArray):(a++b).extract 0 a.size=a:=by
 apply ba_ext
 simp
 exact List.take_of_length_le (Nat.le_of_eq rfl)
theorem ext_hi (a b:ByteArray):(a++(⟨#[47]⟩++b)).extract (a.size+1) (a++(⟨#[47]⟩++b)).size=b:=by
 have h:aC ((a++(⟨#[47]⟩++b)).extract (a.size+1) (a++(⟨#[47]⟩++b)).size)=aC b:=by
  rw [aS,List.take_of_length_le (by rw [aE];exact aR _)]
  have e:aC (a++(⟨#[47]⟩++b))=aC a++47::aC b:=by simp [aC]
  rw [e,List.drop_append,List.drop_of_length_le (by rw [aE];omega),List.nil_append,aE,Nat.add_sub_cancel_left]
  rfl
 exact ba_ext h
abbrev prt (q:Rat):AV Kr := .tup [.ag [rB (decide (q.num<0)),.sp (pH q.num.natAbs)],.ag [.lit (.bool false),.sp (pH q.den)]]
theorem yD {q:Rat} (hn:(decB q.num.natAbs).size≤100000) (hd:(decB q.den).size≤100000):jF 154 [rS (writeB q)] (prt q):=by
 have hts:(aP q.num).size≤100001:=by
  unfold aP
  split
  ·rw [ByteArray.size_append]
   have:(⟨#[45]⟩:ByteArray).size=1:=rfl
   omega
  ·omega
 by_cases h1:q.den=1
 ·have e1:q.den=1:=h1
  rw [jE h1]
  have hsl:=tW q.num
  have hres:prt q = .tup [.ag [rB (decide (q.num<0)),.sp (pH q.num.natAbs)],.ag [.lit (.bool false),.sp (pH 1)]]:=by show AV.tup _=AV.tup _;rw [e1]
  rw [hres]
  generalize hs:aP q.num=s at *
  refine jT Tryz.func154 fun w00=>?_
  refine jB 152 [rS s] (eX (by omega)) ?_
  refine jL (.call ⟨.builtin .len,#[.tmp 10],#[9]⟩) (.tmp 10) (.tmp 10) (rS s) (rS s) (rI s.size) (fun ρ o β w ho hx _=>⟨_,sF ho Tryz.underlying9 (bA hx),cJ⟩) ?_
  refine jL (.binOp .eql 3 (.tmp 9) (.tmp 11) 3) (.tmp 9) (.tmp 11) (rI (aJ s:Nat)) (rI s.size) (rl true) (fun ρ o β w ho hx hy=>⟨.bool true,iZ ho (bA hx) (bA hy) (by rw [hsl];simp),eV rfl⟩) ?_
  refine jB 209 [rS s] (by rw [← hs];exact parseF hn) ?_
  refine jB 196 [.fv (.sc (.lit (.int .i64 1)))] wholeOneF ?_
  exact jS Tryz.func154
 ·rw [eY h1]
  have hsl:=tX q.num (decB q.den)
  have hx1:=ext_lo (aP q.num) (⟨#[47]⟩++decB q.den)
  have hx2:=ext_hi (aP q.num) (decB q.den)
  have hsz:(aP q.num++(⟨#[47]⟩++decB q.den):ByteArray).size=(aP q.num).size+1+(decB q.den).size:=by
   rw [ByteArray.size_append,ByteArray.size_append]
   have:(⟨#[47]⟩:ByteArray).size=1:=rfl
   omega
  generalize hs:(aP q.num++(⟨#[47]⟩++decB q.den):ByteArray)=s at *
  generalize hk:(aP q.num).size=k at *
  refine jT Tryz.func154 fun w00=>?_
  refine jB 152 [rS s] (eX (by omega)) ?_
  refine jL (.call ⟨.builtin .len,#[.tmp 10],#[9]⟩) (.tmp 10) (.tmp 10) (rS s) (rS s) (rI s.size) (fun ρ o β w ho hx _=>⟨_,sF ho Tryz.underlying9 (bA hx),cJ⟩) ?_
  refine jL (.binOp .eql 3 (.tmp 9) (.tmp 11) 3) (.tmp 9) (.tmp 11) (rI (aJ s:Nat)) (rI s.size) (rl false) (fun ρ o β w ho hx hy=>⟨.bool false,iZ ho (bA hx) (bA hy) (by rw [hsl,hsz];simp;omega),eV rfl⟩) ?_
  refine jL (.slice 9 (.tmp 16) none (some (.tmp 17)) none) (.tmp 16) (.tmp 17) (rS s) (rI (aJ s:Nat)) (rS (aP q.num)) (fun ρ o β w ho hx hy=>?_) ?_
  ·have:=oJ (w:=w) ho Tryz.underlying9 (bA hx) (by have:=bA hy;rwa [hsl] at this) (by omega)
   rw [hx1] at this
   exact ⟨_,this,cJ⟩
  refine jB 209 [rS (aP q.num)] (parseF hn) ?_
  refine jL (.binOp .add 3 (.tmp 21) (.const (.int .i64 1)) 3) (.tmp 21) (.const (.int .i64 1)) (rI (aJ s:Nat)) (.fv (.sc (.lit (.int .i64 1)))) (rI ((k+1:Nat):Int)) (fun ρ o β w ho hx hy=>⟨_,sG ho (by have:=bA hx;rwa [hsl] at this) (bV hy) (by omega),cJ⟩) ?_
  refine jL (.slice 9 (.tmp 20) (some (.tmp 22)) none none) (.tmp 20) (.tmp 22) (rS s) (rI ((k+1:Nat):Int)) (rS (decB q.den)) (fun ρ o β w ho hx hy=>?_) ?_
  ·have:=oK (w:=w) ho Tryz.underlying9 (bA hx) (bA hy) (by omega)
   rw [hx2] at this
   exact ⟨_,this,cJ⟩
  refine jB 209 [rS (decB q.den)] (parseDF hd) ?_
  exact jS Tryz.func154
theorem sH (n:Int) {d:Nat} (h:d≠0):(mkRat n d).num=n/(Nat.gcd n.natAbs d:Nat)∧(mkRat n d).den=d/Nat.gcd n.natAbs d:=by
 rw [← Rat.normalize_eq_mkRat h,Rat.normalize_eq]
 exact ⟨rfl,rfl⟩
theorem sgz_div (n:Int) {g:Nat} (hg:g ∣ n.natAbs) (h0:0<g):gU (decide (n<0)) (n.natAbs/g)=n/(g:Int):=by
 obtain ⟨k,hk⟩:=hg
 have e:n.natAbs/g=k:=by rw [hk];exact Nat.mul_div_cancel_left _ h0
 rw [e]
 unfold gU
 split
 ·rename_i h
  have hn:n=(g:Int)*(-(k:Int)):=by
   have:n = -(n.natAbs:Int):=by simp at h;omega
   rw [this,hk];simp [Int.mul_neg]
  rw [hn,Int.mul_ediv_cancel_left _ (by omega)]
 ·rename_i h
  have hn:n=(g:Int)*(k:Int):=by
   have:n=(n.natAbs:Int):=by simp at h;omega
   rw [this,hk];simp
  rw [hn,Int.mul_ediv_cancel_left _ (by omega)]
theorem cB (d:Nat):aP (d:Int)=decB d:=by unfold aP;rw [if_neg (vW d)];rfl
theorem qP (n:Int) {d:Nat} (h:0<d):(if d/Nat.gcd n.natAbs d=1 then aP (gU (decide (n<0)) (n.natAbs/Nat.gcd n.natAbs d)) else aP (gU (decide (n<0)) (n.natAbs/Nat.gcd n.natAbs d))++⟨#[47]⟩++aP ((d/Nat.gcd n.natAbs d:Nat):Int))=writeB (mkRat n d):=by
 obtain ⟨e1,e2⟩:=sH n (Nat.ne_of_gt h)
 have hg:0<Nat.gcd n.natAbs d:=Nat.gcd_pos_of_pos_right _ h
 rw [sgz_div n (Nat.gcd_dvd_left _ _) hg,← e1,← e2,cB]
 split
 ·rename_i h1;rw [jE h1]
 ·rename_i h1;rw [eY h1,ByteArray.append_assoc]
theorem rargs {P:Program} {f:FuncId} {l l' : List (AV Kr)} {x:AV Kr} (h:Fits P f l x) (hl:∀ β vs w,holdsA β l' vs w→holdsA β l vs w):Fits P f l' x:=fun β w vs hv=>h β w vs (hl β vs w hv)
theorem mE {P:Program} {f:FuncId} {l:List (AV Kr)} {x y:AV Kr} (h:Fits P f l x) (hl:∀ β v w,x.holds β v w→y.holds β v w):Fits P f l y:=fun β w vs hv=>(h β w vs hv).mono fun _ _ ⟨v,e1,e2,e3⟩=>⟨v,e1,e2,hl β v _ e3⟩
theorem pz_iz {β:List Nat} {v:Value} {w:World} {d:Nat} (h:(pz d).holds β v w):(iz (d:Int)).holds β v w:=by
 obtain ⟨cs,rfl,a,r,rfl,h1,b,r2,rfl,h2,h3⟩:=h
 have h1':=h1.1
 subst h1'
 refine ⟨_,rfl,[.bool false],_,rfl,?_,b,r2,rfl,?_,h3⟩
 ·show [Value.bool false] = [.bool (decide ((d:Int)<0))]
  rw [decide_eq_false (vW d)]
 ·obtain ⟨u,e,hu⟩:=h2
  exact ⟨u,e,by simpa using hu⟩
theorem iz_pz {β:List Nat} {v:Value} {w:World} {d:Nat} (h:(iz (d:Int)).holds β v w):(pz d).holds β v w:=pz_of (mC.1 h)
theorem timesZP {a:Int} {b:Nat} (ha:Bd a.natAbs) (hb:Bd b):jF 160 [iz a,pz b] (iz (a*b)) :=
 rargs (timesZ ha (by simpa using hb)) fun β vs w ⟨v,r,e,h1,u,r2,e2,h2,h3⟩=>⟨v,r,e,h1,u,r2,e2,pz_iz h2,h3⟩
theorem timesPP {a b:Nat} (ha:Bd a) (hb:Bd b):jF 160 [pz a,pz b] (pz (a*b)) :=
 mE (rargs (timesZ (a:=(a:Int)) (b:=(b:Int)) (by simpa using ha) (by simpa using hb)) fun β vs w ⟨v,r,e,h1,u,r2,e2,h2,h3⟩=>⟨v,r,e,pz_iz h1,u,r2,e2,pz_iz h2,h3⟩)
  fun β v w h=>iz_pz (d:=a*b) (by simpa using h)
abbrev rU (n:Nat):AV Kr := .fv (.sc (.sp (iH (.int .u8 (n:Int)) rfl true (fun _=>rfl))))
theorem index_s {o:Oper} {ρ:Operand→Value} {w:World} {t:Tmp} {s:ByteArray} {c:Nat} (ho:o.op = .index 9 (.tmp t) (.const (.int .i64 0))) (hx:ρ (.tmp t) = .string s) (hy:ρ (.const (.int .i64 0)) = .int .i64 0) (hc:∃ h:0<s.size,(s[0]'h).toNat=c) :
 (execOp ρ o).run Tryz.prog w = .ok (.value (.int .u8 (c:Int))) w:=by
 obtain ⟨h,hc⟩:=hc
 simp only [execOp,ho,hx,hy]
 refine bI ?_
 have h0:¬ s.size=0:=by omega
 simp [go_sem,run_underlying Tryz.underlying9,h,h0,hc]
theorem ueq_run {o:Oper} {ρ:Operand→Value} {w:World} {x y:Operand} {a b:Int} {r:Bool} (ho:o.op = .binOp .eql 5 x y 5) (hx:ρ x = .int .u8 a) (hy:ρ y = .int .u8 b) (h:(a==b)=r) :
 (execOp ρ o).run Tryz.prog w = .ok (.value (.bool r)) w:=by
 simp only [execOp,ho,hx,hy]
 refine bI ?_
 rw [← h]
 exact bW (by kernel_rfl) w
theorem subn_run {o:Oper} {ρ:Operand→Value} {w:World} {x y:Operand} {a b:Nat} (ho:o.op = .binOp .sub 3 x y 3) (hx:ρ x = .int .i64 (a:Int)) (hy:ρ y = .int .i64 (b:Int)) (hle:b≤a) (ha:a≤9223372036854775807) :
 (execOp ρ o).run Tryz.prog w = .ok (.value (.int .i64 ((a-b:Nat):Int))) w:=by
 simp only [execOp,ho,hx,hy]
 refine bI ?_
 have e:IntKind.i64.wrap ((a:Int)-b)=((a-b:Nat):Int):=by
  rw [IntWalk.i64_left,IntWalk.wrap64_in _ ⟨by omega,by omega⟩];omega
 simp [go_sem,e]
theorem lss_run {o:Oper} {ρ:Operand→Value} {w:World} {x y:Operand} {a b:Int} {r:Bool} (ho:o.op = .binOp .lss 3 x y 3) (hx:ρ x = .int .i64 a) (hy:ρ y = .int .i64 b) (h:decide (a<b)=r) :
 (execOp ρ o).run Tryz.prog w = .ok (.value (.bool r)) w:=by
 simp only [execOp,ho,hx,hy]
 refine bI ?_
 rw [← h]
 exact bW (by kernel_rfl) w
theorem index_26 {o:Oper} {ρ:Operand→Value} {w:World} {t:Tmp} {s:ByteArray} {c:Nat} (ho:o.op = .index 22 (.tmp t) (.const (.int .i64 0))) (hx:ρ (.tmp t) = .string s) (hy:ρ (.const (.int .i64 0)) = .int .i64 0) (hc:∃ h:0<s.size,(s[0]'h).toNat=c) :
 (execOp ρ o).run Tryz.prog w = .ok (.value (.int .u8 (c:Int))) w:=by
 obtain ⟨h,hc⟩:=hc
 simp only [execOp,ho,hx,hy]
 refine bI ?_
 have h0:¬ s.size=0:=by omega
 simp [go_sem,run_underlying Tryz.underlying22,h,h0,hc]
section
variable {f:FuncId} {w00:World} {Out:Value→World→Prop} {c:Cfg Kr}
abbrev rli (n:Int):AV Kr := .fv (.sc (.lit (.int .i64 n)))
theorem dO (t:Tmp) (T:TypeId) (hT:Tryz.prog.underlying T=some .string) (s:ByteArray) (hg:Ok Tryz.prog f w00 Out (cD Tryz.prog 1000 (c.give (rI (s.size:Nat)))))
 (hc:(c.op.map fun o=>o.op,c.okT (rI (s.size:Nat)),c.ev (.tmp t),c.ev (.tmp t))=(some (.call ⟨.builtin .len,#[.tmp t],#[T]⟩),true,(rS s),(rS s)):=by kernel_rfl):Ok Tryz.prog f w00 Out c :=
 qO (.call ⟨.builtin .len,#[.tmp t],#[T]⟩) (.tmp t) (.tmp t) (rS s) (rS s) (rI (s.size:Nat)) hc (by simp [Op.operands,Call.operands]) (by simp [Op.operands,Call.operands]) (fun ρ o β w ho hx hy=>⟨_,sF ho hT (bA hx),cJ⟩) hg
theorem iS (t:Tmp) (n a:Int) (r:Bool) (h:decide (n<a)=r) (hg:Ok Tryz.prog f w00 Out (cD Tryz.prog 1000 (c.give (rl r))))
 (hc:(c.op.map fun o=>o.op,c.okT (rl r),c.ev (.tmp t),c.ev (.const (.int .i64 n)))=(some (.binOp .gtr 3 (.tmp t) (.const (.int .i64 n)) 3),true,(rI a),(rli n)):=by kernel_rfl):Ok Tryz.prog f w00 Out c :=
 qO (.binOp .gtr 3 (.tmp t) (.const (.int .i64 n)) 3) (.tmp t) (.const (.int .i64 n)) (rI a) (rli n) (rl r) hc (by simp [Op.operands]) (by simp [Op.operands]) (fun ρ o β w ho hx hy=>⟨_,xS ho (bA hx) (bV hy) h,eV rfl⟩) hg
theorem ridn (t:Tmp) (s:ByteArray) (h:∃ h:0<s.size,(s[0]'h).toNat=45) (hg:Ok Tryz.prog f w00 Out (cD Tryz.prog 1000 (c.give (.fv (.sc (.lit (.int .u8 45)))))))
 (hc:(c.op.map fun o=>o.op,c.okT (.fv (.sc (.lit (.int .u8 45)))),c.ev (.tmp t),c.ev (.const (.int .i64 0)))=(some (.index 9 (.tmp t) (.const (.int .i64 0))),true,(rS s),(rli 0)):=by kernel_rfl):Ok Tryz.prog f w00 Out c :=
 qO (.index 9 (.tmp t) (.const (.int .i64 0))) (.tmp t) (.const (.int .i64 0)) (rS s) (rli 0) (.fv (.sc (.lit (.int .u8 45)))) hc (by simp [Op.operands]) (by simp [Op.operands]) (fun ρ o β w ho hx hy=>⟨_,index_s ho (bA hx) (bV hy) h,eV rfl⟩) hg
theorem ridp (t:Tmp) (s:ByteArray) (n:Nat) (h:∃ h:0<s.size,(s[0]'h).toNat=n) (hg:Ok Tryz.prog f w00 Out (cD Tryz.prog 1000 (c.give (rU n))))
 (hc:(c.op.map fun o=>o.op,c.okT (rU n),c.ev (.tmp t),c.ev (.const (.int .i64 0)))=(some (.index 9 (.tmp t) (.const (.int .i64 0))),true,(rS s),(rli 0)):=by kernel_rfl):Ok Tryz.prog f w00 Out c :=
 qO (.index 9 (.tmp t) (.const (.int .i64 0))) (.tmp t) (.const (.int .i64 0)) (rS s) (rli 0) (rU n) hc (by simp [Op.operands]) (by simp [Op.operands]) (fun ρ o β w ho hx hy=>⟨_,index_s ho (bA hx) (bV hy) h,cJ⟩) hg
theorem ridnR (t:Tmp) (s:ByteArray) (h:∃ h:0<s.size,(s[0]'h).toNat=45) (hg:Ok Tryz.prog f w00 Out (cD Tryz.prog 1000 (c.give (.fv (.sc (.lit (.int .u8 45)))))))
 (hc:(c.op.map fun o=>o.op,c.okT (.fv (.sc (.lit (.int .u8 45)))),c.ev (.tmp t),c.ev (.const (.int .i64 0)))=(some (.index 22 (.tmp t) (.const (.int .i64 0))),true,(rS s),(rli 0)):=by kernel_rfl):Ok Tryz.prog f w00 Out c :=
 qO (.index 22 (.tmp t) (.const (.int .i64 0))) (.tmp t) (.const (.int .i64 0)) (rS s) (rli 0) (.fv (.sc (.lit (.int .u8 45)))) hc (by simp [Op.operands]) (by simp [Op.operands]) (fun ρ o β w ho hx hy=>⟨_,index_26 ho (bA hx) (bV hy) h,eV rfl⟩) hg
theorem ridpR (t:Tmp) (s:ByteArray) (n:Nat) (h:∃ h:0<s.size,(s[0]'h).toNat=n) (hg:Ok Tryz.prog f w00 Out (cD Tryz.prog 1000 (c.give (rU n))))
 (hc:(c.op.map fun o=>o.op,c.okT (rU n),c.ev (.tmp t),c.ev (.const (.int .i64 0)))=(some (.index 22 (.tmp t) (.const (.int .i64 0))),true,(rS s),(rli 0)):=by kernel_rfl):Ok Tryz.prog f w00 Out c :=
 qO (.index 22 (.tmp t) (.const (.int .i64 0))) (.tmp t) (.const (.int .i64 0)) (rS s) (rli 0) (rU n) hc (by simp [Op.operands]) (by simp [Op.operands]) (fun ρ o β w ho hx hy=>⟨_,index_26 ho (bA hx) (bV hy) h,cJ⟩) hg
theorem rueq (t:Tmp) (n:Nat) (h:((n:Int)==45)=false) (hg:Ok Tryz.prog f w00 Out (cD Tryz.prog 1000 (c.give (rl false))))
 (hc:(c.op.map fun o=>o.op,c.okT (rl false),c.ev (.tmp t),c.ev (.const (.int .u8 45)))=(some (.binOp .eql 5 (.tmp t) (.const (.int .u8 45)) 5),true,(rU n),(.fv (.sc (.lit (.int .u8 45))))):=by kernel_rfl):Ok Tryz.prog f w00 Out c :=
 qO (.binOp .eql 5 (.tmp t) (.const (.int .u8 45)) 5) (.tmp t) (.const (.int .u8 45)) (rU n) (.fv (.sc (.lit (.int .u8 45)))) (rl false) hc (by simp [Op.operands]) (by simp [Op.operands]) (fun ρ o β w ho hx hy=>⟨.bool false,ueq_run ho (bA hx) (bV hy) h,eV rfl⟩) hg
theorem rshi (t i:Tmp) (T:TypeId) (hT:Tryz.prog.underlying T=some .string) (s:ByteArray) (k:Nat) (a:ByteArray) (hk:k≤s.size) (ha:s.extract 0 k=a) (hg:Ok Tryz.prog f w00 Out (cD Tryz.prog 1000 (c.give (rS a))))
 (hc:(c.op.map fun o=>o.op,c.okT (rS a),c.ev (.tmp t),c.ev (.tmp i))=(some (.slice T (.tmp t) none (some (.tmp i)) none),true,(rS s),(rI (k:Int))):=by kernel_rfl):Ok Tryz.prog f w00 Out c :=
 qO (.slice T (.tmp t) none (some (.tmp i)) none) (.tmp t) (.tmp i) (rS s) (rI (k:Int)) (rS a) hc (by simp [Op.operands]) (by simp [Op.operands]) (fun ρ o β w ho hx hy=>⟨_,ha▸oJ ho hT (bA hx) (bA hy) hk,cJ⟩) hg
theorem rslo (t i:Tmp) (T:TypeId) (hT:Tryz.prog.underlying T=some .string) (s:ByteArray) (k:Nat) (d:ByteArray) (hk:k≤s.size) (hd:s.extract k s.size=d) (hg:Ok Tryz.prog f w00 Out (cD Tryz.prog 1000 (c.give (rS d))))
 (hc:(c.op.map fun o=>o.op,c.okT (rS d),c.ev (.tmp t),c.ev (.tmp i))=(some (.slice T (.tmp t) (some (.tmp i)) none none),true,(rS s),(rI (k:Int))):=by kernel_rfl):Ok Tryz.prog f w00 Out c :=
 qO (.slice T (.tmp t) (some (.tmp i)) none none) (.tmp t) (.tmp i) (rS s) (rI (k:Int)) (rS d) hc (by simp [Op.operands]) (by simp [Op.operands]) (fun ρ o β w ho hx hy=>⟨_,hd▸oK ho hT (bA hx) (bA hy) hk,cJ⟩) hg
theorem rsl1 (t:Tmp) (T:TypeId) (hT:Tryz.prog.underlying T=some .string) (s d:ByteArray) (hk:1≤s.size) (hd:s.extract 1 s.size=d) (hg:Ok Tryz.prog f w00 Out (cD Tryz.prog 1000 (c.give (rS d))))
 (hc:(c.op.map fun o=>o.op,c.okT (rS d),c.ev (.tmp t),c.ev (.const (.int .i64 1)))=(some (.slice T (.tmp t) (some (.const (.int .i64 1))) none none),true,(rS s),(rli 1)):=by kernel_rfl):Ok Tryz.prog f w00 Out c :=
 qO (.slice T (.tmp t) (some (.const (.int .i64 1))) none none) (.tmp t) (.const (.int .i64 1)) (rS s) (rli 1) (rS d) hc (by simp [Op.operands]) (by simp [Op.operands]) (fun ρ o β w ho hx hy=>⟨_,hd▸oK (k:=1) ho hT (bA hx) (bV hy) hk,cJ⟩) hg
theorem radd (t:Tmp) (k:Nat) (h:k<9223372036854775807) (hg:Ok Tryz.prog f w00 Out (cD Tryz.prog 1000 (c.give (rI ((k+1:Nat):Int)))))
 (hc:(c.op.map fun o=>o.op,c.okT (rI ((k+1:Nat):Int)),c.ev (.tmp t),c.ev (.const (.int .i64 1)))=(some (.binOp .add 3 (.tmp t) (.const (.int .i64 1)) 3),true,(rI (k:Int)),(rli 1)):=by kernel_rfl):Ok Tryz.prog f w00 Out c :=
 qO (.binOp .add 3 (.tmp t) (.const (.int .i64 1)) 3) (.tmp t) (.const (.int .i64 1)) (rI (k:Int)) (rli 1) (rI ((k+1:Nat):Int)) hc (by simp [Op.operands]) (by simp [Op.operands]) (fun ρ o β w ho hx hy=>⟨_,sG ho (bA hx) (bV hy) h,cJ⟩) hg
theorem tY (t:Tmp) (T:TypeId) (s b:ByteArray) (r:Bool) (h:(s.toList==b.toList)=r) (hg:Ok Tryz.prog f w00 Out (cD Tryz.prog 1000 (c.give (rl r))))
 (hc:(c.op.map fun o=>o.op,c.okT (rl r),c.ev (.tmp t),c.ev (.const (.string b)))=(some (.binOp .eql T (.tmp t) (.const (.string b)) T),true,(rS s),(.fv (.sc (.lit (.string b))))):=by kernel_rfl):Ok Tryz.prog f w00 Out c :=
 qO (.binOp .eql T (.tmp t) (.const (.string b)) T) (.tmp t) (.const (.string b)) (rS s) (.fv (.sc (.lit (.string b)))) (rl r) hc (by simp [Op.operands]) (by simp [Op.operands]) (fun ρ o β w ho hx hy=>⟨_,rT ho (bA hx) (bV hy) h,eV rfl⟩) hg
theorem vK (t i:Tmp) (a b:Int) (r:Bool) (h:decide (a<b)=r) (hg:Ok Tryz.prog f w00 Out (cD Tryz.prog 1000 (c.give (rl r))))
 (hc:(c.op.map fun o=>o.op,c.okT (rl r),c.ev (.tmp t),c.ev (.tmp i))=(some (.binOp .lss 3 (.tmp t) (.tmp i) 3),true,(rI a),(rI b)):=by kernel_rfl):Ok Tryz.prog f w00 Out c :=
 qO (.binOp .lss 3 (.tmp t) (.tmp i) 3) (.tmp t) (.tmp i) (rI a) (rI b) (rl r) hc (by simp [Op.operands]) (by simp [Op.operands]) (fun ρ o β w ho hx hy=>⟨_,lss_run ho (bA hx) (bA hy) h,eV rfl⟩) hg
theorem yW (t i:Tmp) (a b:Nat) (hle:b≤a) (ha:a≤9223372036854775807) (hg:Ok Tryz.prog f w00 Out (cD Tryz.prog 1000 (c.give (rI ((a-b:Nat):Int)))))
 (hc:(c.op.map fun o=>o.op,c.okT (rI ((a-b:Nat):Int)),c.ev (.tmp t),c.ev (.tmp i))=(some (.binOp .sub 3 (.tmp t) (.tmp i) 3),true,(rI (a:Int)),(rI (b:Int))):=by kernel_rfl):Ok Tryz.prog f w00 Out c :=
 qO (.binOp .sub 3 (.tmp t) (.tmp i) 3) (.tmp t) (.tmp i) (rI (a:Int)) (rI (b:Int)) (rI ((a-b:Nat):Int)) hc (by simp [Op.operands]) (by simp [Op.operands]) (fun ρ o β w ho hx hy=>⟨_,subn_run ho (bA hx) (bA hy) hle ha,cJ⟩) hg
end
abbrev qno:AV Kr := .tup [.sc (.lit (.int .i64 0)),.sc (.lit (.int .i64 0)),.sc (.lit (.bool false))]
section
variable {s u:ByteArray} {c:Nat}
theorem quick_long (h20:decide ((20:Int)<s.size)=true):jF 156 [rS s] qno:=by
 refine jT Tryz.func156 fun w00=>?_
 refine dO 11 9 Tryz.underlying9 s ?_
 refine iS 12 20 s.size true h20 ?_
 exact jS Tryz.func156
theorem quick_k9n (h20:decide ((20:Int)<s.size)=false) (h0:decide ((0:Int)<s.size)=true) (h1:1≤s.size) (hc:∃ h:0<s.size,(s[0]'h).toNat=45) (hext:s.extract 1 s.size=u) (hus:u.size≤s.size) (h9:decide ((9:Int)<(aJ u:Nat))=true):jF 156 [rS s] qno:=by
 have hs20:s.size≤20:=by rw [decide_eq_false_iff_not] at h20;omega
 refine jT Tryz.func156 fun w00=>?_
 refine dO 11 9 Tryz.underlying9 s ?_
 refine iS 12 20 s.size false h20 ?_
 refine dO 14 9 Tryz.underlying9 s ?_
 refine iS 15 0 s.size true h0 ?_
 refine ridn 18 s hc ?_
 refine rsl1 23 9 Tryz.underlying9 s u h1 hext ?_
 refine jB 152 [rS u] (eX (by omega)) ?_
 refine iS 27 9 (aJ u:Nat) true h9 ?_
 exact jS Tryz.func156
theorem quick_l10n (h20:decide ((20:Int)<s.size)=false) (h0:decide ((0:Int)<s.size)=true) (h1:1≤s.size) (hc:∃ h:0<s.size,(s[0]'h).toNat=45) (hext:s.extract 1 s.size=u) (hus:u.size≤s.size) (h9:decide ((9:Int)<(aJ u:Nat))=false) (h10:decide ((10:Int)<((u.size-aJ u:Nat):Int))=true):jF 156 [rS s] qno:=by
 have hs20:s.size≤20:=by rw [decide_eq_false_iff_not] at h20;omega
 refine jT Tryz.func156 fun w00=>?_
 refine dO 11 9 Tryz.underlying9 s ?_
 refine iS 12 20 s.size false h20 ?_
 refine dO 14 9 Tryz.underlying9 s ?_
 refine iS 15 0 s.size true h0 ?_
 refine ridn 18 s hc ?_
 refine rsl1 23 9 Tryz.underlying9 s u h1 hext ?_
 refine jB 152 [rS u] (eX (by omega)) ?_
 refine iS 27 9 (aJ u:Nat) false h9 ?_
 refine dO 30 9 Tryz.underlying9 u ?_
 refine yW 31 32 (u.size) (aJ u) (cA _) (by omega) ?_
 refine iS 33 10 ((u.size-aJ u:Nat):Int) true h10 ?_
 exact jS Tryz.func156
theorem quick_k9p (h20:decide ((20:Int)<s.size)=false) (h0:decide ((0:Int)<s.size)=true) (hc:∃ h:0<s.size,(s[0]'h).toNat=c) (hc45:((c:Int)==45)=false) (h9:decide ((9:Int)<(aJ s:Nat))=true):jF 156 [rS s] qno:=by
 have hs20:s.size≤20:=by rw [decide_eq_false_iff_not] at h20;omega
 refine jT Tryz.func156 fun w00=>?_
 refine dO 11 9 Tryz.underlying9 s ?_
 refine iS 12 20 s.size false h20 ?_
 refine dO 14 9 Tryz.underlying9 s ?_
 refine iS 15 0 s.size true h0 ?_
 refine ridp 18 s c hc ?_
 refine rueq 19 c hc45 ?_
 refine jB 152 [rS s] (eX (by omega)) ?_
 refine iS 27 9 (aJ s:Nat) true h9 ?_
 exact jS Tryz.func156
theorem quick_l10p (h20:decide ((20:Int)<s.size)=false) (h0:decide ((0:Int)<s.size)=true) (hc:∃ h:0<s.size,(s[0]'h).toNat=c) (hc45:((c:Int)==45)=false) (h9:decide ((9:Int)<(aJ s:Nat))=false) (h10:decide ((10:Int)<((s.size-aJ s:Nat):Int))=true):jF 156 [rS s] qno:=by
 have hs20:s.size≤20:=by rw [decide_eq_false_iff_not] at h20;omega
 refine jT Tryz.func156 fun w00=>?_
 refine dO 11 9 Tryz.underlying9 s ?_
 refine iS 12 20 s.size false h20 ?_
 refine dO 14 9 Tryz.underlying9 s ?_
 refine iS 15 0 s.size true h0 ?_
 refine ridp 18 s c hc ?_
 refine rueq 19 c hc45 ?_
 refine jB 152 [rS s] (eX (by omega)) ?_
 refine iS 27 9 (aJ s:Nat) false h9 ?_
 refine dO 30 9 Tryz.underlying9 s ?_
 refine yW 31 32 (s.size) (aJ s) (cA _) (by omega) ?_
 refine iS 33 10 ((s.size-aJ s:Nat):Int) true h10 ?_
 exact jS Tryz.func156
end
theorem valueF {d:ByteArray} {n:Nat} (hd:AllDig (aC d)) (hs:d.size≤17) (hn:aU (aC d)=n):jF 211 [rS d] (rI n):=by
 intro β w vs hv
 obtain ⟨v,rfl,h1⟩:=cW hv
 rw [bA h1]
 exact (lZ d w hd hs).mono fun e w' ⟨e1,e2⟩=>⟨_,e1,by rw [e2];exact aB _ _,by rw [hn];exact cJ⟩
theorem neg_run {o:Oper} {ρ:Operand→Value} {w:World} {x y:Operand} {a:Nat} (ho:o.op = .binOp .sub 3 x y 3) (hx:ρ x = .int .i64 0) (hy:ρ y = .int .i64 (a:Int)) (ha:a<4611686018427387904) :
 (execOp ρ o).run Tryz.prog w = .ok (.value (.int .i64 (-(a:Int)))) w:=by
 simp only [execOp,ho,hx,hy]
 refine bI ?_
 have e:IntKind.i64.wrap (0-(a:Int)) = -(a:Int):=by
  rw [IntWalk.i64_left,IntWalk.wrap64_in _ ⟨by omega,by omega⟩];omega
 rw [Int.zero_sub] at e
 simp [go_sem,e]
section
variable {s u d1 d2:ByteArray} {c n1 n2:Nat}
theorem quick_yes1n (h20:decide ((20:Int)<s.size)=false) (h0:decide ((0:Int)<s.size)=true) (h1:1≤s.size) (hc:∃ h:0<s.size,(s[0]'h).toNat=45) (hext:s.extract 1 s.size=u) (hus:u.size≤s.size) (hn1:n1<4611686018427387904) (h9:decide ((9:Int)<(aJ u:Nat))=false) (h10:decide ((10:Int)<((u.size-aJ u:Nat):Int))=false) (hd1:u.extract 0 (aJ u)=d1) (v1:jF 211 [rS d1] (rI n1)) (hlt:decide (((aJ u:Nat):Int)<(u.size:Nat))=false):jF 156 [rS s] (.tup [.sc (.sp (iH (.int .i64 (-(n1:Int))) rfl false (fun h=>by cases h))),.sc (.lit (.int .i64 1)),.sc (.lit (.bool true))]):=by
 have hs20:s.size≤20:=by rw [decide_eq_false_iff_not] at h20;omega
 refine jT Tryz.func156 fun w00=>?_
 refine dO 11 9 Tryz.underlying9 s ?_
 refine iS 12 20 s.size false h20 ?_
 refine dO 14 9 Tryz.underlying9 s ?_
 refine iS 15 0 s.size true h0 ?_
 refine ridn 18 s hc ?_
 refine rsl1 23 9 Tryz.underlying9 s u h1 hext ?_
 refine jB 152 [rS u] (eX (by omega)) ?_
 refine iS 27 9 (aJ u:Nat) false h9 ?_
 refine dO 30 9 Tryz.underlying9 u ?_
 refine yW 31 32 (u.size) (aJ u) (cA _) (by omega) ?_
 refine iS 33 10 ((u.size-aJ u:Nat):Int) false h10 ?_
 refine rshi 36 37 9 Tryz.underlying9 u (aJ u) d1 (cA _) hd1 ?_
 refine jB 211 [rS d1] v1 ?_
 refine dO 41 9 Tryz.underlying9 u ?_
 refine vK 40 42 (aJ u:Nat) (u.size:Nat) false hlt ?_
 refine jL (.binOp .sub 3 (.const (.int .i64 0)) (.tmp 50) 3) (.const (.int .i64 0)) (.tmp 50) (.fv (.sc (.lit (.int .i64 0)))) (rI n1) (rI (-(n1:Int))) (fun ρ o β w ho hx hy=>⟨_,neg_run ho (bV hx) (bA hy) hn1,cJ⟩) ?_
 exact jS Tryz.func156
theorem quick_yes2n (h20:decide ((20:Int)<s.size)=false) (h0:decide ((0:Int)<s.size)=true) (h1:1≤s.size) (hc:∃ h:0<s.size,(s[0]'h).toNat=45) (hext:s.extract 1 s.size=u) (hus:u.size≤s.size) (hn1:n1<4611686018427387904) (h9:decide ((9:Int)<(aJ u:Nat))=false) (h10:decide ((10:Int)<((u.size-aJ u:Nat):Int))=false) (hd1:u.extract 0 (aJ u)=d1) (v1:jF 211 [rS d1] (rI n1)) (hlt:decide (((aJ u:Nat):Int)<(u.size:Nat))=true) (hd2:u.extract (aJ u+1) u.size=d2) (v2:jF 211 [rS d2] (rI n2)):jF 156 [rS s] (.tup [.sc (.sp (iH (.int .i64 (-(n1:Int))) rfl false (fun h=>by cases h))),.sc (.sp (iH (.int .i64 (n2:Int)) rfl false (fun h=>by cases h))),.sc (.lit (.bool true))]):=by
 have hs20:s.size≤20:=by rw [decide_eq_false_iff_not] at h20;omega
 refine jT Tryz.func156 fun w00=>?_
 refine dO 11 9 Tryz.underlying9 s ?_
 refine iS 12 20 s.size false h20 ?_
 refine dO 14 9 Tryz.underlying9 s ?_
 refine iS 15 0 s.size true h0 ?_
 refine ridn 18 s hc ?_
 refine rsl1 23 9 Tryz.underlying9 s u h1 hext ?_
 refine jB 152 [rS u] (eX (by omega)) ?_
 refine iS 27 9 (aJ u:Nat) false h9 ?_
 refine dO 30 9 Tryz.underlying9 u ?_
 refine yW 31 32 (u.size) (aJ u) (cA _) (by omega) ?_
 refine iS 33 10 ((u.size-aJ u:Nat):Int) false h10 ?_
 refine rshi 36 37 9 Tryz.underlying9 u (aJ u) d1 (cA _) hd1 ?_
 refine jB 211 [rS d1] v1 ?_
 refine dO 41 9 Tryz.underlying9 u ?_
 refine vK 40 42 (aJ u:Nat) (u.size:Nat) true hlt ?_
 refine radd 45 (aJ u) (by have:=cA u;omega) ?_
 refine rslo 44 46 9 Tryz.underlying9 u (aJ u+1) d2 (by have:=of_decide_eq_true hlt;omega) hd2 ?_
 refine jB 211 [rS d2] v2 ?_
 refine jL (.binOp .sub 3 (.const (.int .i64 0)) (.tmp 50) 3) (.const (.int .i64 0)) (.tmp 50) (.fv (.sc (.lit (.int .i64 0)))) (rI n1) (rI (-(n1:Int))) (fun ρ o β w ho hx hy=>⟨_,neg_run ho (bV hx) (bA hy) hn1,cJ⟩) ?_
 exact jS Tryz.func156
theorem quick_yes1p (h20:decide ((20:Int)<s.size)=false) (h0:decide ((0:Int)<s.size)=true) (hc:∃ h:0<s.size,(s[0]'h).toNat=c) (hc45:((c:Int)==45)=false) (h9:decide ((9:Int)<(aJ s:Nat))=false) (h10:decide ((10:Int)<((s.size-aJ s:Nat):Int))=false) (hd1:s.extract 0 (aJ s)=d1) (v1:jF 211 [rS d1] (rI n1)) (hlt:decide (((aJ s:Nat):Int)<(s.size:Nat))=false):jF 156 [rS s] (.tup [.sc (.sp (iH (.int .i64 (n1:Int)) rfl false (fun h=>by cases h))),.sc (.lit (.int .i64 1)),.sc (.lit (.bool true))]):=by
 have hs20:s.size≤20:=by rw [decide_eq_false_iff_not] at h20;omega
 refine jT Tryz.func156 fun w00=>?_
 refine dO 11 9 Tryz.underlying9 s ?_
 refine iS 12 20 s.size false h20 ?_
 refine dO 14 9 Tryz.underlying9 s ?_
 refine iS 15 0 s.size true h0 ?_
 refine ridp 18 s c hc ?_
 refine rueq 19 c hc45 ?_
 refine jB 152 [rS s] (eX (by omega)) ?_
 refine iS 27 9 (aJ s:Nat) false h9 ?_
 refine dO 30 9 Tryz.underlying9 s ?_
 refine yW 31 32 (s.size) (aJ s) (cA _) (by omega) ?_
 refine iS 33 10 ((s.size-aJ s:Nat):Int) false h10 ?_
 refine rshi 36 37 9 Tryz.underlying9 s (aJ s) d1 (cA _) hd1 ?_
 refine jB 211 [rS d1] v1 ?_
 refine dO 41 9 Tryz.underlying9 s ?_
 refine vK 40 42 (aJ s:Nat) (s.size:Nat) false hlt ?_
 exact jS Tryz.func156
theorem quick_yes2p (h20:decide ((20:Int)<s.size)=false) (h0:decide ((0:Int)<s.size)=true) (hc:∃ h:0<s.size,(s[0]'h).toNat=c) (hc45:((c:Int)==45)=false) (h9:decide ((9:Int)<(aJ s:Nat))=false) (h10:decide ((10:Int)<((s.size-aJ s:Nat):Int))=false) (hd1:s.extract 0 (aJ s)=d1) (v1:jF 211 [rS d1] (rI n1)) (hlt:decide (((aJ s:Nat):Int)<(s.size:Nat))=true) (hd2:s.extract (aJ s+1) s.size=d2) (v2:jF 211 [rS d2] (rI n2)):jF 156 [rS s] (.tup [.sc (.sp (iH (.int .i64 (n1:Int)) rfl false (fun h=>by cases h))),.sc (.sp (iH (.int .i64 (n2:Int)) rfl false (fun h=>by cases h))),.sc (.lit (.bool true))]):=by
 have hs20:s.size≤20:=by rw [decide_eq_false_iff_not] at h20;omega
 refine jT Tryz.func156 fun w00=>?_
 refine dO 11 9 Tryz.underlying9 s ?_
 refine iS 12 20 s.size false h20 ?_
 refine dO 14 9 Tryz.underlying9 s ?_
 refine iS 15 0 s.size true h0 ?_
 refine ridp 18 s c hc ?_
 refine rueq 19 c hc45 ?_
 refine jB 152 [rS s] (eX (by omega)) ?_
 refine iS 27 9 (aJ s:Nat) false h9 ?_
 refine dO 30 9 Tryz.underlying9 s ?_
 refine yW 31 32 (s.size) (aJ s) (cA _) (by omega) ?_
 refine iS 33 10 ((s.size-aJ s:Nat):Int) false h10 ?_
 refine rshi 36 37 9 Tryz.underlying9 s (aJ s) d1 (cA _) hd1 ?_
 refine jB 211 [rS d1] v1 ?_
 refine dO 41 9 Tryz.underlying9 s ?_
 refine vK 40 42 (aJ s:Nat) (s.size:Nat) true hlt ?_
 refine radd 45 (aJ s) (by have:=cA s;omega) ?_
 refine rslo 44 46 9 Tryz.underlying9 s (aJ s+1) d2 (by have:=of_decide_eq_true hlt;omega) hd2 ?_
 refine jB 211 [rS d2] v2 ?_
 exact jS Tryz.func156
end
def Sq (q:Rat):Prop:=(decB q.num.natAbs).size≤9∧(q.den=1∨(decB q.den).size≤9)
theorem mF {q:Rat} (h:q.den=1):aZ q=aP (q.num.natAbs:Int):=by unfold aZ;rw [if_pos h,cB]
theorem oL {q:Rat} (h:q.den≠1):aZ q=aP (q.num.natAbs:Int)++(⟨#[47]⟩++decB q.den):=by unfold aZ;rw [if_neg h,cB]
theorem nC (q:Rat):aJ (aZ q)=(decB q.num.natAbs).size:=by
 by_cases h:q.den=1
 ·rw [mF h,tW,cB]
 ·rw [oL h,tX,cB]
theorem size47:(⟨#[47]⟩:ByteArray).size=1:=rfl
theorem size45:(⟨#[45]⟩:ByteArray).size=1:=rfl
theorem oM (q:Rat):(aZ q).size=(decB q.num.natAbs).size+if q.den=1 then 0 else 1+(decB q.den).size:=by
 by_cases h:q.den=1
 ·rw [mF h,cB,if_pos h];rfl
 ·rw [oL h,if_neg h,ByteArray.size_append,ByteArray.size_append,cB,size47]
theorem tZ (q:Rat):∃ c:Nat,(∃ h:0<(aZ q).size,((aZ q)[0]'h).toNat=c)∧((c:Int)==45)=false:=by
 obtain ⟨c,r,e,hc⟩:=tP q
 have h0:0<(aZ q).size:=by
  have:(aZ q).size=(aZ q).data.toList.length:=rfl
  rw [this,e];simp
 have h1:=cI h0
 have h2:aC (aZ q)=c::r:=e
 rw [h2] at h1
 simp at h1
 refine ⟨c.toNat,⟨h0,by rw [← h1]⟩,?_⟩
 simp;omega
theorem gV {q:Rat} (h:q.num<0):1≤(writeB q).size∧(∃ h:0<(writeB q).size,((writeB q)[0]'h).toNat=45)∧(writeB q).extract 1 (writeB q).size=aZ q∧(aZ q).size≤(writeB q).size∧(writeB q).size=(aZ q).size+1:=by
 have e:writeB q=⟨#[45]⟩++aZ q:=lX h
 have hsz:(writeB q).size=(aZ q).size+1:=by rw [e,ByteArray.size_append,size45];omega
 have h0:0<(writeB q).size:=by omega
 refine ⟨h0,⟨h0,?_⟩,?_,by omega,hsz⟩
 ·have h1:=cI h0
  have h2:aC (writeB q)=45::aC (aZ q):=by rw [e];simp [aC]
  rw [h2] at h1
  simp at h1
  rw [← h1];rfl
 ·have h2:aC (writeB q)=45::aC (aZ q):=by rw [e];simp [aC]
  have:aC ((writeB q).extract 1 (writeB q).size)=aC (aZ q):=by
   rw [aS,List.take_of_length_le (by rw [aE];exact aR _),h2];rfl
  exact ba_ext this
theorem kM {q:Rat} (hq:¬ Sq q):jF 156 [rS (writeB q)] qno:=by
 by_cases h20:20<(writeB q).size
 ·exact quick_long (by rw [decide_eq_true_iff];omega)
 have hbs:=oM q
 have hsl:=nC q
 by_cases hn:q.num<0
 ·obtain ⟨f1,f2,f3,f4,f5⟩:=gV hn
  by_cases h9:9<(decB q.num.natAbs).size
  ·exact quick_k9n (by rw [decide_eq_false_iff_not];omega) (by rw [decide_eq_true_iff];omega) f1 f2 f3 f4 (by rw [hsl,decide_eq_true_iff];omega)
  ·refine quick_l10n (by rw [decide_eq_false_iff_not];omega) (by rw [decide_eq_true_iff];omega) f1 f2 f3 f4 (by rw [hsl,decide_eq_false_iff_not];omega) ?_
   rw [hsl,decide_eq_true_iff,hbs]
   have hd:¬ (q.den=1∨(decB q.den).size≤9):=fun h=>hq ⟨by omega,h⟩
   rw [if_neg (fun h=>hd (.inl h))]
   have:¬ (decB q.den).size≤9:=fun h=>hd (.inr h)
   omega
 ·have hw:=dU hn
  obtain ⟨c,c1,c2⟩:=tZ q
  have h0:0<(aZ q).size:=c1.1
  rw [hw] at h20 ⊢
  by_cases h9:9<(decB q.num.natAbs).size
  ·exact quick_k9p (by rw [decide_eq_false_iff_not];omega) (by rw [decide_eq_true_iff];omega) c1 c2 (by rw [hsl,decide_eq_true_iff];omega)
  ·refine quick_l10p (by rw [decide_eq_false_iff_not];omega) (by rw [decide_eq_true_iff];omega) c1 c2 (by rw [hsl,decide_eq_false_iff_not];omega) ?_
   rw [hsl,decide_eq_true_iff,hbs]
   have hd:¬ (q.den=1∨(decB q.den).size≤9):=fun h=>hq ⟨by omega,h⟩
   rw [if_neg (fun h=>hd (.inl h))]
   have:¬ (decB q.den).size≤9:=fun h=>hd (.inr h)
   omega
def csAny:CS Kr where
 size:=1
 cold:=false
 pred cs _ := ∃ n:Int,cs = [.int .i64 n]
 stable _ _ _ h _:=h
 len cs w h:=by obtain ⟨v,e⟩:=h;rw [e];rfl
 one cs w h:=by obtain ⟨v,e⟩:=h;rw [e];intro d hd;rw [List.mem_singleton] at hd;rw [hd];rfl
 iscold h:=by cases h
abbrev qany (b:Bool):AV Kr := .tup [.sc (.sp csAny),.sc (.sp csAny),.sc (.lit (.bool b))]
theorem kO {β:List Nat} {v:Value} {w:World} (h:qno.holds β v w):(qany false).holds β v w:=by
 obtain ⟨vs,rfl,a,r,rfl,h1,b,r2,rfl,h2,c,r3,rfl,h3,h4⟩:=h
 exact ⟨_,rfl,a,_,rfl,⟨0,h1.1⟩,b,_,rfl,⟨0,h2.1⟩,c,_,rfl,h3,h4⟩
theorem pow_lift {a k n:Nat} (h:a<10^k) (hk:k≤n):a<B9^n :=
 Nat.lt_of_lt_of_le h (Nat.le_trans (Nat.pow_le_pow_right (by omega) hk) (Nat.pow_le_pow_left (by unfold B9;omega) _))
theorem fU {a k:Nat} (h:a<10^k) (hk:k≤1099511627776):Bd a:=by
 obtain ⟨n,hn⟩:∃ n,n=1099511627776:=⟨_,rfl⟩
 unfold Bd
 rw [← hn] at hk ⊢
 exact pow_lift h hk
theorem bd1_of {a k:Nat} (h:a<10^k) (hk:k≤100000000):a<B9^100000000:=by
 obtain ⟨n,hn⟩:∃ n,n=100000000:=⟨_,rfl⟩
 rw [← hn] at hk ⊢
 exact pow_lift h hk
theorem pD {z:Int} {k:Nat} (h:z.natAbs<10^(k+1)):(aP z).size≤k+2:=by
 have:=decB_size h
 unfold aP
 split
 ·rw [ByteArray.size_append,size45];omega
 ·omega
def Zs (k:Nat) (q:Rat):Prop:=q.num.natAbs<10^(k+1)∧q.den<10^(k+1)
theorem fracW {n:Int} {d k:Nat} (hk:k≤1000000) (hn:n.natAbs<10^(k+1)) (hd:d<10^(k+1)) (h0:0<d):jF 158 [iz n,pz d] (rS (writeB (mkRat n d))):=by
 have h:=fractionF (n:=n) (d:=d) (fU hn (by omega)) (fU hd (by omega)) h0 (bd1_of hn (by omega)) (bd1_of hd (by omega))
  (by have:=pD (k:=k) (z:=gU (decide (n<0)) (n.natAbs/Nat.gcd n.natAbs d)) (by rw [sD];exact Nat.lt_of_le_of_lt (Nat.div_le_self _ _) hn);omega)
  (by have:=pD (k:=k) (z:=((d/Nat.gcd n.natAbs d:Nat):Int)) (by rw [Int.natAbs_natCast];exact Nat.lt_of_le_of_lt (Nat.div_le_self _ _) hd);omega)
 rw [qP n h0] at h
 exact h
theorem oN {a b k:Nat} (ha:a<10^(k+1)) (hb:b<10^(k+1)):a*b<10^(2*k+1+1):=by
 have:10^(2*k+1+1)=10^(k+1)*10^(k+1):=by rw [← Nat.pow_add];congr 1;omega
 rw [this]
 exact Nat.mul_lt_mul'' ha hb
theorem add_lt10 {a b k:Nat} (ha:a<10^(k+1)) (hb:b<10^(k+1)):a+b<10^(k+1+1):=by
 have:10^(k+1+1)=10^(k+1)*10:=Nat.pow_succ _ _
 omega
theorem sI {k:Nat} {q:Rat} (h:Zs k q) (hk:k≤10000):(decB q.num.natAbs).size≤100000∧(decB q.den).size≤100000:=by
 have h1:=decB_size h.1
 have h2:=decB_size h.2
 omega
section
variable {p q:Rat} {b1 b2:Bool}
theorem mulBig (hp:Zs 10000 p) (hq:Zs 10000 q) (q1:jF 156 [rS (writeB p)] (qany b1)) (q2:jF 156 [rS (writeB q)] (qany b2)) (hb:(b1&&b2)=false) :
 jF 106 [rS (writeB p),rS (writeB q)] (rS (writeB (p*q))):=by
 have hn:=oN hp.1 hq.1
 rw [← Int.natAbs_mul] at hn
 have hd:=oN hp.2 hq.2
 have s1:=sI hp (aR _)
 have s2:=sI hq (aR _)
 have hf:=fracW (by omega) hn hd (Nat.mul_pos p.den_pos q.den_pos)
 rw [← Rat.mul_def'] at hf
 have w1:=yD s1.1 s1.2
 have w2:=yD s2.1 s2.2
 have t1:=timesZ (fU hp.1 (by omega)) (fU hq.1 (by omega))
 have t2:=timesPP (fU hp.2 (by omega)) (fU hq.2 (by omega))
 generalize writeB p=s at *
 generalize writeB q=u at *
 cases b1 <;> cases b2 <;> first|cases hb|skip
 all_goals
  refine jT Tryz.func106 fun w00=>?_
  refine jB 156 [rS s] q1 ?_
  refine jB 156 [rS u] q2 ?_
  refine jB 154 [rS s] w1 ?_
  refine jB 154 [rS u] w2 ?_
  refine jB 160 [iz p.num,iz q.num] t1 ?_
  refine jB 160 [pz p.den,pz q.den] t2 ?_
  refine jB 158 [iz (p.num*q.num),pz (p.den*q.den)] hf ?_
  exact jS Tryz.func106
theorem addBig (hp:Zs 10000 p) (hq:Zs 10000 q) (q1:jF 156 [rS (writeB p)] (qany b1)) (q2:jF 156 [rS (writeB q)] (qany b2)) (hb:(b1&&b2)=false) :
 jF 103 [rS (writeB p),rS (writeB q)] (rS (writeB (p+q))):=by
 obtain ⟨K,hK⟩:∃ K,K=10000:=⟨_,rfl⟩
 rw [← hK] at hp hq
 have hn1:(p.num*(q.den:Int)).natAbs<10^(2*K+1+1):=Nat.lt_of_le_of_lt (Nat.le_of_eq (by rw [Int.natAbs_mul,Int.natAbs_natCast])) (oN hp.1 hq.2)
 have hn2:(q.num*(p.den:Int)).natAbs<10^(2*K+1+1):=Nat.lt_of_le_of_lt (Nat.le_of_eq (by rw [Int.natAbs_mul,Int.natAbs_natCast])) (oN hq.1 hp.2)
 have hn:(p.num*(q.den:Int)+q.num*(p.den:Int)).natAbs<10^(2*K+1+1+1):=Nat.lt_of_le_of_lt (Int.natAbs_add_le _ _) (add_lt10 hn1 hn2)
 have hd:p.den*q.den<10^(2*K+1+1+1):=Nat.lt_of_lt_of_le (oN hp.2 hq.2) (Nat.pow_le_pow_right (by omega) (by omega))
 have s1:=sI hp (by omega)
 have s2:=sI hq (by omega)
 have hf:=fracW (by omega) hn hd (Nat.mul_pos p.den_pos q.den_pos)
 rw [← Rat.add_def'] at hf
 have w1:=yD s1.1 s1.2
 have w2:=yD s2.1 s2.2
 have t1:=timesZP (a:=p.num) (b:=q.den) (fU hp.1 (by omega)) (fU hq.2 (by omega))
 have t2:=timesZP (a:=q.num) (b:=p.den) (fU hq.1 (by omega)) (fU hp.2 (by omega))
 have t3:=timesPP (fU hp.2 (by omega)) (fU hq.2 (by omega))
 have t4:=plusZ (fU hn1 (by omega)) (fU hn2 (by omega))
 generalize writeB p=s at *
 generalize writeB q=u at *
 cases b1 <;> cases b2 <;> first|cases hb|skip
 all_goals
  refine jT Tryz.func103 fun w00=>?_
  refine jB 156 [rS s] q1 ?_
  refine jB 156 [rS u] q2 ?_
  refine jB 154 [rS s] w1 ?_
  refine jB 154 [rS u] w2 ?_
  refine jB 160 [iz p.num,pz q.den] t1 ?_
  refine jB 160 [iz q.num,pz p.den] t2 ?_
  refine jB 159 [iz (p.num*(q.den:Int)),iz (q.num*(p.den:Int))] t4 ?_
  refine jB 160 [pz p.den,pz q.den] t3 ?_
  refine jB 158 [iz (p.num*(q.den:Int)+q.num*(p.den:Int)),pz (p.den*q.den)] hf ?_
  exact jS Tryz.func103
end
end Ab
section
open Go.RowKit Pl
theorem empty_app (b:ByteArray):(⟨#[]⟩:ByteArray)++b=b:=Ab.ba_ext (by simp)
set_option maxRecDepth 100000 in
theorem of_pos (a d:Nat) (w:World) (ha:a≤4000000000000000000) (hd:d≤4000000000000000000) (hd0:0<d) (p q g:Nat) (hg:g=Nat.gcd a d) (hp:p=a/g) (hq:q=d/g) :
 Calls Tryz.prog 157 #[.int .i64 (a:Int),.int .i64 (d:Int)] w fun e w'=>e = .returned (.string (if q=1 then Ab.decB p else Ab.decB p++⟨#[47]⟩++Ab.decB q))∧Below w.heap.size w w':=by
 have hg0:0<g:=by rw [hg];exact Nat.gcd_pos_of_pos_right _ hd0
 have hpa:p≤a:=by rw [hp];exact Nat.div_le_self _ _
 have hqd:q≤d:=by rw [hq];exact Nat.div_le_self _ _
 have hq0:0<q:=by rw [hq,hg];exact Nat.div_pos (Nat.gcd_le_right _ hd0) (Nat.gcd_pos_of_pos_right _ hd0)
 have cg:=aH (rgcd_any a d w (by omega) (by omega))
 rw [← hg] at cg
 have c1:=aH (fun W=>oH p W (by omega))
 have c2:=aH (fun W=>oH q W (by omega))
 have s1:(Ab.decB p).size≤19:=Ab.decB_size (k:=18) (by omega)
 have s2:(Ab.decB q).size≤19:=Ab.decB_size (k:=18) (by omega)
 have T:=aH (show wrap64 ((a:Int)/(g:Int))=(p:Int)∧wrap64 ((d:Int)/(g:Int))=(q:Int) from by
  have e1:(a:Int)/(g:Int)=(p:Int):=by rw [hp];simp
  have e2:(d:Int)/(g:Int)=(q:Int):=by rw [hq];simp
  rw [e1,e2]
  exact ⟨IntWalk.wrap64_in _ ⟨by omega,by omega⟩,IntWalk.wrap64_in _ ⟨by omega,by omega⟩⟩)
 have hz0:((g:Int)==0)=false:=by simp;omega
 have hz1:¬ (g:Int)=0:=by omega
 have hz3:((g:Int) == -1)=false:=by simp
 have b1:(a:Int)≤4000000000000000000:=by omega
 have b2:(d:Int)≤4000000000000000000:=by omega
 have b3:(p:Int)≤4000000000000000000:=by omega
 have b4:(q:Int)≤4000000000000000000:=by omega
 have b5:(1:Int)≤d:=by omega
 have b6:(1:Int)≤q:=by omega
 have HQ:=aH (aI hq0 (aI s1 s2))
 obtain ⟨res,hqq⟩:∃ res,res=(if q=1 then Ab.decB p else Ab.decB p++⟨#[47]⟩++Ab.decB q):=⟨_,rfl⟩
 rw [← hqq]
 have HQQ:=aH hqq
 clear hqq
 clear hg hp hq hpa hqd hg0 hd0 ha hd hq0 s1 s2
 go_enter Tryz.func157,Tryz.ntmps157
 go_wp2_with fail
 rw [show max (a:Int) (-(a:Int))=(a:Int) by omega]
 refine (cg.out).mono ?_
 rintro e w1 ⟨rfl,hb⟩
 go_wp2
 go_quiet (fail)
 have hb2:=cE hb nq
 clear hb
 generalize w1.drewN nq=w2 at *
 rw [T.out.1,T.out.2]
 go_wp2_with fail
 rw [show max (p:Int) (-(p:Int))=(p:Int) by omega]
 refine (c1.out _).mono ?_
 rintro e w3 ⟨rfl,rfl⟩
 obtain ⟨h0,s1,s2⟩:=HQ.out
 by_cases hq1:q=1
 ·have k1:¬ (1:Int)<q:=by omega
  have hr:=aH (HQQ.out.trans (if_pos hq1))
  clear hq1 h0 HQQ
  go_wp2
  go_ret
  have E:(⟨#[]⟩:ByteArray)++Ab.decB p=res:=by rw [hr.out];rw [empty_app]
  exact ⟨congrArg (fun s=>Ending.returned (Value.string s)) E,hb2⟩
 ·have k1:(1:Int)<q:=by omega
  have hr:=aH (HQQ.out.trans (if_neg hq1))
  clear hq1 h0 HQQ
  go_wp2_with fail
  refine (c2.out _).mono ?_
  rintro e w4 ⟨rfl,rfl⟩
  go_wp2
  go_ret
  have E:(⟨#[]⟩:ByteArray)++Ab.decB p++⟨#[47]⟩++Ab.decB q=res:=by rw [hr.out];rw [empty_app]
  exact ⟨congrArg (fun s=>Ending.returned (Value.string s)) E,hb2⟩
set_option maxRecDepth 100000 in
theorem of_neg (a d:Nat) (w:World) (ha0:0<a) (ha:a≤4000000000000000000) (hd:d≤4000000000000000000) (hd0:0<d) (p q g:Nat) (hg:g=Nat.gcd a d) (hp:p=a/g) (hq:q=d/g) :
 Calls Tryz.prog 157 #[.int .i64 (-(a:Int)),.int .i64 (d:Int)] w fun e w'=>e = .returned (.string (if q=1 then (⟨#[45]⟩++Ab.decB p) else (⟨#[45]⟩++Ab.decB p)++⟨#[47]⟩++Ab.decB q))∧Below w.heap.size w w':=by
 have hg0:0<g:=by rw [hg];exact Nat.gcd_pos_of_pos_right _ hd0
 have hpa:p≤a:=by rw [hp];exact Nat.div_le_self _ _
 have hqd:q≤d:=by rw [hq];exact Nat.div_le_self _ _
 have hq0:0<q:=by rw [hq,hg];exact Nat.div_pos (Nat.gcd_le_right _ hd0) (Nat.gcd_pos_of_pos_right _ hd0)
 have hp0:0<p:=by rw [hp,hg];exact Nat.div_pos (Nat.gcd_le_left _ ha0) (Nat.gcd_pos_of_pos_left _ ha0)
 have cg:=aH (rgcd_any a d w (by omega) (by omega))
 rw [← hg] at cg
 have c1:=aH (fun W=>oH p W (by omega))
 have c2:=aH (fun W=>oH q W (by omega))
 have s1:(Ab.decB p).size≤19:=Ab.decB_size (k:=18) (by omega)
 have s2:(Ab.decB q).size≤19:=Ab.decB_size (k:=18) (by omega)
 have T:=aH (show wrap64 (-((a:Int)/(g:Int)))=(-(p:Int))∧wrap64 ((d:Int)/(g:Int))=(q:Int) from by
  have e1:(a:Int)/(g:Int)=(p:Int):=by rw [hp];simp
  have e2:(d:Int)/(g:Int)=(q:Int):=by rw [hq];simp
  rw [e1,e2]
  exact ⟨IntWalk.wrap64_in _ ⟨by omega,by omega⟩,IntWalk.wrap64_in _ ⟨by omega,by omega⟩⟩)
 have hz0:((g:Int)==0)=false:=by simp;omega
 have hz1:¬ (g:Int)=0:=by omega
 have hz3:((g:Int) == -1)=false:=by simp
 have b1:(a:Int)≤4000000000000000000:=by omega
 have b2:(d:Int)≤4000000000000000000:=by omega
 have b3:(p:Int)≤4000000000000000000:=by omega
 have b4:(q:Int)≤4000000000000000000:=by omega
 have b5:(1:Int)≤d:=by omega
 have b6:(1:Int)≤q:=by omega
 have b7:(1:Int)≤a:=by omega
 have b8:(1:Int)≤p:=by omega
 have HQ:=aH (aI hq0 (aI s1 s2))
 obtain ⟨res,hqq⟩:∃ res,res=(if q=1 then (⟨#[45]⟩++Ab.decB p) else (⟨#[45]⟩++Ab.decB p)++⟨#[47]⟩++Ab.decB q):=⟨_,rfl⟩
 rw [← hqq]
 have HQQ:=aH hqq
 clear hqq
 clear hg hp hq hpa hqd hg0 hd0 ha hd hq0 s1 s2
 go_enter Tryz.func157,Tryz.ntmps157
 go_wp2_with fail
 rw [show max (-(a:Int)) (a:Int)=(a:Int) by omega]
 refine (cg.out).mono ?_
 rintro e w1 ⟨rfl,hb⟩
 go_wp2
 go_quiet (fail)
 have hb2:=cE hb nq
 clear hb
 generalize w1.drewN nq=w2 at *
 rw [T.out.1,T.out.2]
 go_wp2_with fail
 rw [show max (-(p:Int)) (p:Int)=(p:Int) by omega]
 refine (c1.out _).mono ?_
 rintro e w3 ⟨rfl,rfl⟩
 obtain ⟨h0,s1,s2⟩:=HQ.out
 by_cases hq1:q=1
 ·have k1:¬ (1:Int)<q:=by omega
  have hr:=aH (HQQ.out.trans (if_pos hq1))
  clear hq1 h0 HQQ
  go_wp2
  go_ret
  have E:(⟨#[45]⟩:ByteArray)++Ab.decB p=res:=by rw [hr.out]
  exact ⟨congrArg (fun s=>Ending.returned (Value.string s)) E,hb2⟩
 ·have k1:(1:Int)<q:=by omega
  have hr:=aH (HQQ.out.trans (if_neg hq1))
  clear hq1 h0 HQQ
  go_wp2_with fail
  refine (c2.out _).mono ?_
  rintro e w4 ⟨rfl,rfl⟩
  go_wp2
  go_ret
  have E:(⟨#[45]⟩:ByteArray)++Ab.decB p++⟨#[47]⟩++Ab.decB q=res:=by rw [hr.out]
  exact ⟨congrArg (fun s=>Ending.returned (Value.string s)) E,hb2⟩
end
namespace Ab
open Go.RowKit Pl
def zeroT:ByteArray:=⟨#[48]⟩
def oneT:ByteArray:=⟨#[49]⟩
def decF (s:ByteArray):Bool:=if s.size=0 then false else if 1<s.size∧(aC s).head?=some 48 then false else dN s
theorem decF_dec (n:Nat):decF (decB n)=true:=by
 unfold decF
 have e:aC (decB n)=Lib.decDigits n:=cT n
 rw [if_neg (by have:=sE n;omega),if_neg,uW]
 ·exact fJ n
 ·rintro ⟨h1,h2⟩
  rw [e] at h2
  by_cases h0:0<n
  ·exact wY h0 h2
  ·have:n=0:=by omega
   subst this
   rw [dec0] at h1
   exact absurd h1 (by decide)
theorem iC {s:ByteArray} (h:decF s=true):s=decB (aU (aC s)):=by
 unfold decF at h
 split at h
 ·cases h
 ·split at h
  ·cases h
  ·rename_i h0 h1
   have hd:=uW.1 h
   refine ba_ext ?_
   rw [cT]
   refine (zJ (aC s).length (aC s) rfl hd ?_ ?_).symm
   ·intro e;apply h0;rw [← aE,e];rfl
   ·by_cases hl:(aC s).length=1
    ·exact .inl hl
    ·right;intro e;apply h1
     refine ⟨?_,e⟩
     rw [aE] at hl
     omega
def gW (s:ByteArray):Bool:=(aC s).head?==some 45
def bE (s:ByteArray):ByteArray:=if gW s=true then s.extract 1 s.size else s
def bT (s:ByteArray):Int :=
 if decF ((bE s).extract 0 (aJ (bE s)))=false∨(gW s=true∧(bE s).extract 0 (aJ (bE s))=zeroT) then 1
 else if aJ (bE s)<(bE s).size∧(decF ((bE s).extract (aJ (bE s)+1) (bE s).size)=false∨(bE s).extract (aJ (bE s)+1) (bE s).size=zeroT∨(bE s).extract (aJ (bE s)+1) (bE s).size=oneT) then 1
 else if 600<aJ (bE s)∨600<(bE s).size-aJ (bE s)-1 then 4
 else if aJ (bE s)<(bE s).size∧Nat.gcd (aU (aC ((bE s).extract 0 (aJ (bE s))))) (aU (aC ((bE s).extract (aJ (bE s)+1) (bE s).size)))≠1 then 1 else 0
theorem mG {n m:Nat} (h:decB n=decB m):n=m:=by rw [← eW n,h,eW]
theorem vY (s:ByteArray):s.extract 0 s.size=s:=by
 refine ba_ext ?_
 show aC (s.extract 0 s.size)=aC s
 rw [aS,List.drop_zero,List.take_of_length_le (by rw [aE];exact aR _)]
theorem slash_split {s:ByteArray} (h:aJ s<s.size):s=s.extract 0 (aJ s)++(⟨#[47]⟩++s.extract (aJ s+1) s.size):=by
 refine ba_ext ?_
 show aC s=aC _
 have e1:aC (s.extract 0 (aJ s)++(⟨#[47]⟩++s.extract (aJ s+1) s.size))=aC (s.extract 0 (aJ s))++(47::aC (s.extract (aJ s+1) s.size)):=by simp [aC]
 have e2:(aC s).take s.size=aC s:=List.take_of_length_le (by rw [aE];exact aR _)
 rw [e1,aS,aS,List.drop_zero,e2]
 have hl:aJ s<(aC s).length:=by rw [aE];exact h
 have hk:(aC s)[aJ s]'hl=47:=by
  have:=List.findIdx_getElem (xs:=aC s) (p:=fun c=>c==47) (w:=hl)
  exact eq_of_beq this
 conv=>lhs;rw [← List.take_append_drop (aJ s) (aC s),List.drop_eq_getElem_cons hl,hk]
theorem neg_split {s:ByteArray} (h:gW s=true):s=⟨#[45]⟩++bE s:=by
 have hh:(aC s).head?=some 45:=eq_of_beq h
 refine ba_ext ?_
 show aC s=aC _
 unfold bE
 rw [if_pos h]
 have e1:aC (⟨#[45]⟩++s.extract 1 s.size)=45::aC (s.extract 1 s.size):=by simp [aC]
 rw [e1,aS,List.take_of_length_le (by rw [aE];exact aR _)]
 generalize aC s=l at hh ⊢
 cases l with
 | nil=>cases hh
 | cons c r =>
   injection hh with hh
   rw [hh];rfl
theorem fV (q:Rat):gW (writeB q)=decide (q.num<0)∧bE (writeB q)=aZ q:=by
 by_cases hn:q.num<0
 ·obtain ⟨f1,⟨h0,hc⟩,f3,f4,f5⟩:=gV hn
  have e:gW (writeB q)=true:=by
   unfold gW
   have h2:aC (writeB q)=45::aC (aZ q):=by rw [lX hn];simp [aC]
   rw [h2];rfl
  refine ⟨by rw [e,decide_eq_true hn],?_⟩
  unfold bE
  rw [if_pos e,f3]
 ·have e:gW (writeB q)=false:=by
   unfold gW
   obtain ⟨c,r,h1,h2⟩:=tP q
   have h3:aC (aZ q)=c::r:=h1
   rw [dU hn,h3]
   show (some c==some 45)=false
   rw [beq_eq_false_iff_ne]
   intro h
   injection h with h
   rw [h] at h2
   exact absurd h2 (by decide)
  refine ⟨by rw [e,decide_eq_false hn],?_⟩
  unfold bE
  rw [if_neg (by rw [e];exact Bool.false_ne_true),dU hn]
theorem sJ (q:Rat):(aZ q).extract 0 (aJ (aZ q))=decB q.num.natAbs∧(q.den≠1→(aZ q).extract (aJ (aZ q)+1) (aZ q).size=decB q.den)∧(aJ (aZ q)<(aZ q).size↔q.den≠1):=by
 have hsl:=nC q
 have hsz:=oM q
 refine ⟨?_,fun hd=>?_,?_⟩
 ·rw [hsl]
  by_cases h:q.den=1
  ·rw [mF h,cB,vY]
  ·rw [oL h,cB,ext_lo]
 ·rw [hsl,oL hd,cB]
  exact ext_hi _ _
 ·rw [hsl,hsz]
  by_cases h:q.den=1
  ·rw [if_pos h];simp [h]
  ·rw [if_neg h];simp [h];omega
theorem gcd_of (q:Rat):Nat.gcd q.num.natAbs q.den=1:=q.reduced
theorem uZ {q:Rat} (h1:(decB q.num.natAbs).size≤600) (h2:(decB q.den).size≤600):bT (writeB q)=0:=by
 obtain ⟨s1,s2⟩:=fV q
 obtain ⟨c1,c2,c3⟩:=sJ q
 have hsl:=nC q
 have hsz:=oM q
 unfold bT
 rw [s2,s1,c1]
 rw [if_neg,if_neg,if_neg,if_neg]
 ·rintro ⟨k,e⟩
  have hd:=c3.1 k
  rw [c2 hd,eW,eW] at e
  exact e (gcd_of q)
 ·rw [hsl,hsz]
  by_cases h:q.den=1
  ·rw [if_pos h];omega
  ·rw [if_neg h];omega
 ·rintro ⟨k,e⟩
  have hd:=c3.1 k
  rw [c2 hd] at e
  rcases e with e|e|e
  ·rw [decF_dec] at e;cases e
  ·have:=mG (e.trans dec0.symm)
   exact q.den_nz this
  ·exact hd (mG (e.trans dec1.symm))
 ·rintro (e|⟨e1,e2⟩)
  ·rw [decF_dec] at e;cases e
  ·have:=mG (e2.trans dec0.symm)
   have:=of_decide_eq_true e1
   omega
theorem qQ {s:ByteArray} (h:bT s=0):∃ q:Rat,s=writeB q∧(decB q.num.natAbs).size≤600∧(decB q.den).size≤600:=by
 unfold bT at h
 split at h
 ·exact absurd h (by decide)
 rename_i g1
 split at h
 ·exact absurd h (by decide)
 rename_i g2
 split at h
 ·exact absurd h (by decide)
 rename_i g3
 split at h
 ·exact absurd h (by decide)
 rename_i g4
 clear h
 obtain ⟨t,ht⟩:∃ t,t=bE s:=⟨_,rfl⟩
 rw [← ht] at g1 g2 g3 g4
 obtain ⟨k,hk⟩:∃ k,k=aJ t:=⟨_,rfl⟩
 rw [← hk] at g1 g2 g3 g4
 have ha:decF (t.extract 0 k)=true:=by
  cases e:decF (t.extract 0 k) with
  | true=>rfl
  | false=>exact absurd (.inl e) g1
 have hz:gW s=true→t.extract 0 k≠zeroT:=fun e1 e2=>g1 (.inr ⟨e1,e2⟩)
 have hae:=iC ha
 obtain ⟨n,hn⟩:∃ n,n=aU (aC (t.extract 0 k)):=⟨_,rfl⟩
 rw [← hn] at hae g4
 have hkl:k≤t.size:=by rw [hk];exact cA t
 have hasz:(decB n).size=k:=by rw [← hae,ByteArray.size_extract];omega
 have hn0:gW s=true→n≠0:=by
  intro e1 e2
  apply hz e1
  rw [hae,e2,dec0];rfl
 obtain ⟨z,hz1,hz2⟩:∃ z:Int,z.natAbs=n∧decide (z<0)=gW s:=by
  cases e:gW s with
  | true=>exact ⟨-(n:Int),by simp,by have:=hn0 e;rw [decide_eq_true_iff];omega⟩
  | false=>exact ⟨(n:Int),by simp,by rw [decide_eq_false_iff_not];omega⟩
 have fin:∀ q:Rat,q.num=z→aZ q=t→s=writeB q:=by
  intro q e1 e2
  by_cases hneg:gW s=true
  ·have:q.num<0:=by rw [e1];exact of_decide_eq_true (hz2.trans hneg)
   rw [lX this,e2,ht]
   exact neg_split hneg
  ·have h0:gW s=false:=by cases e:gW s with
    | true=>exact absurd e hneg
    | false=>rfl
   have:¬ q.num<0:=by rw [e1];exact of_decide_eq_false (hz2.trans h0)
   rw [dU this,e2,ht]
   unfold bE
   rw [if_neg hneg]
 by_cases hlt:k<t.size
 ·have hd:decF (t.extract (k+1) t.size)=true:=by
   cases e:decF (t.extract (k+1) t.size) with
   | true=>rfl
   | false=>exact absurd ⟨hlt,.inl e⟩ g2
  have hde:=iC hd
  obtain ⟨m,hm⟩:∃ m,m=aU (aC (t.extract (k+1) t.size)):=⟨_,rfl⟩
  rw [← hm] at hde g4
  have hm0:m≠0:=by
   intro e
   exact g2 ⟨hlt,.inr (.inl (by rw [hde,e,dec0];rfl))⟩
  have hm1:m≠1:=by
   intro e
   exact g2 ⟨hlt,.inr (.inr (by rw [hde,e,dec1];rfl))⟩
  have hg:Nat.gcd n m=1:=by
   by_cases e:Nat.gcd n m=1
   ·exact e
   ·exact absurd ⟨hlt,e⟩ g4
  obtain ⟨p1,p2⟩:=sH z hm0
  rw [hz1,hg] at p1 p2
  have q1:(mkRat z m).num=z:=by rw [p1];simp
  have q2:(mkRat z m).den=m:=by rw [p2];simp
  refine ⟨mkRat z m,fin _ q1 ?_,by rw [q1,hz1,hasz];omega,?_⟩
  ·rw [oL (by rw [q2];exact hm1),cB,q1,hz1,q2,← hae,← hde,hk]
   exact (slash_split (hk▸hlt)).symm
  ·rw [q2,← hde,ByteArray.size_extract];omega
 ·have hkt:k=t.size:=by omega
  have q1:((z:Int):Rat).num=z:=rfl
  have q2:((z:Int):Rat).den=1:=rfl
  refine ⟨(z:Rat),fin _ q1 ?_,by rw [q1,hz1,hasz];omega,by rw [q2,dec1];decide⟩
  rw [mF q2,cB,q1,hz1,← hae,hkt,vY]
theorem sK {o:Oper} {ρ:Operand→Value} {w:World} {x y:Operand} {a b:Int} (ho:o.op = .binOp .mul 3 x y 3) (hx:ρ x = .int .i64 a) (hy:ρ y = .int .i64 b) (h:-9223372036854775808≤a*b∧a*b≤9223372036854775807) :
 (execOp ρ o).run Tryz.prog w = .ok (.value (.int .i64 (a*b))) w:=by
 simp only [execOp,ho,hx,hy]
 refine bI ?_
 have e:IntKind.i64.wrap (a*b)=a*b:=by rw [IntWalk.i64_left,IntWalk.wrap64_in _ h]
 simp [go_sem,e]
theorem addi_run {o:Oper} {ρ:Operand→Value} {w:World} {x y:Operand} {a b:Int} (ho:o.op = .binOp .add 3 x y 3) (hx:ρ x = .int .i64 a) (hy:ρ y = .int .i64 b) (h:-9223372036854775808≤a+b∧a+b≤9223372036854775807) :
 (execOp ρ o).run Tryz.prog w = .ok (.value (.int .i64 (a+b))) w:=by
 simp only [execOp,ho,hx,hy]
 refine bI ?_
 have e:IntKind.i64.wrap (a+b)=a+b:=by rw [IntWalk.i64_left,IntWalk.wrap64_in _ h]
 simp [go_sem,e]
theorem nD {n k:Nat} (h:(decB n).size≤k):n<10^k:=by
 have:=gA (fJ n)
 rw [eW,aE] at this
 exact Nat.lt_of_lt_of_le this (Nat.pow_le_pow_right (by omega) h)
abbrev qy (q:Rat):AV Kr := .tup [.sc (.sp (iH (.int .i64 q.num) rfl false (fun h=>by cases h))),.sc (.sp (iH (.int .i64 (q.den:Int)) rfl false (fun h=>by cases h))),.sc (.lit (.bool true))]
theorem sL {q:Rat} {β:List Nat} {v:Value} {w:World} (h:(qy q).holds β v w):(qany true).holds β v w:=by
 obtain ⟨vs,rfl,a,r,rfl,h1,b,r2,rfl,h2,c,r3,rfl,h3,h4⟩:=h
 exact ⟨_,rfl,a,_,rfl,⟨q.num,h1⟩,b,_,rfl,⟨(q.den:Int),h2⟩,c,_,rfl,h3,h4⟩
theorem to_qy1 {q:Rat} {n:Int} (hn:n=q.num) (hd:q.den=1) {β:List Nat} {v:Value} {w:World} (h:(AV.tup [.sc (.sp (iH (.int .i64 n) rfl false (fun h=>by cases h))),.sc (.lit (.int .i64 1)),.sc (.lit (.bool true))]:AV Kr).holds β v w):(qy q).holds β v w:=by
 subst hn
 obtain ⟨vs,rfl,a,r,rfl,h1,b,r2,rfl,h2,c,r3,rfl,h3,h4⟩:=h
 have e:[b] = [.int .i64 1]:=h2.1
 exact ⟨_,rfl,a,_,rfl,h1,b,_,rfl,(by show [b] = [Value.int .i64 (q.den:Int)];rw [hd];exact e),c,_,rfl,h3,h4⟩
theorem to_qy2 {q:Rat} {n:Int} {d:Nat} (hn:n=q.num) (hd:d=q.den) {β:List Nat} {v:Value} {w:World} (h:(AV.tup [.sc (.sp (iH (.int .i64 n) rfl false (fun h=>by cases h))),.sc (.sp (iH (.int .i64 (d:Int)) rfl false (fun h=>by cases h))),.sc (.lit (.bool true))]:AV Kr).holds β v w):(qy q).holds β v w:=by
 subst hn
 subst hd
 exact h
theorem iI {q:Rat} (hq:Sq q):jF 156 [rS (writeB q)] (qy q):=by
 have hbs:=oM q
 have hsl:=nC q
 obtain ⟨k1,k2,k3⟩:=sJ q
 have n9:=nD hq.1
 have hs9:=hq.1
 have h100:(10:Nat)^9=1000000000:=by decide
 have v1:=valueF (d:=decB q.num.natAbs) (n:=q.num.natAbs) (fJ _) (by omega) (eW _)
 by_cases hn:q.num<0
 ·obtain ⟨f1,f2,f3,f4,f5⟩:=gV hn
  have e1:-(q.num.natAbs:Int)=q.num:=by omega
  by_cases hd:q.den=1
  ·rw [if_pos hd] at hbs
   refine mE (quick_yes1n (u:=aZ q) (d1:=decB q.num.natAbs) (n1:=q.num.natAbs) ?_ ?_ f1 f2 f3 f4 (by omega) ?_ ?_ k1 v1 ?_) (fun β v w h=>to_qy1 e1 hd h)
   ·rw [decide_eq_false_iff_not];omega
   ·rw [decide_eq_true_iff];omega
   ·rw [hsl,decide_eq_false_iff_not];omega
   ·rw [hsl,decide_eq_false_iff_not];omega
   ·rw [hsl,decide_eq_false_iff_not];omega
  ·rw [if_neg hd] at hbs
   have hd9:(decB q.den).size≤9:=by rcases hq.2 with h|h;exact absurd h hd;exact h
   have v2:=valueF (d:=decB q.den) (n:=q.den) (fJ _) (by omega) (eW _)
   refine mE (quick_yes2n (u:=aZ q) (d1:=decB q.num.natAbs) (d2:=decB q.den) (n1:=q.num.natAbs) (n2:=q.den) ?_ ?_ f1 f2 f3 f4 (by omega) ?_ ?_ k1 v1 ?_ (k2 hd) v2) (fun β v w h=>to_qy2 e1 rfl h)
   ·rw [decide_eq_false_iff_not];omega
   ·rw [decide_eq_true_iff];omega
   ·rw [hsl,decide_eq_false_iff_not];omega
   ·rw [hsl,decide_eq_false_iff_not];omega
   ·rw [hsl,decide_eq_true_iff];omega
 ·have hw:=dU hn
  obtain ⟨c,c1,c2⟩:=tZ q
  have h0:0<(aZ q).size:=c1.1
  have e1:(q.num.natAbs:Int)=q.num:=by omega
  rw [hw]
  by_cases hd:q.den=1
  ·rw [if_pos hd] at hbs
   refine mE (quick_yes1p (s:=aZ q) (d1:=decB q.num.natAbs) (n1:=q.num.natAbs) ?_ ?_ c1 c2 ?_ ?_ k1 v1 ?_) (fun β v w h=>to_qy1 e1 hd h)
   ·rw [decide_eq_false_iff_not];omega
   ·rw [decide_eq_true_iff];omega
   ·rw [hsl,decide_eq_false_iff_not];omega
   ·rw [hsl,decide_eq_false_iff_not];omega
   ·rw [hsl,decide_eq_false_iff_not];omega
  ·rw [if_neg hd] at hbs
   have hd9:(decB q.den).size≤9:=by rcases hq.2 with h|h;exact absurd h hd;exact h
   have v2:=valueF (d:=decB q.den) (n:=q.den) (fJ _) (by omega) (eW _)
   refine mE (quick_yes2p (s:=aZ q) (d1:=decB q.num.natAbs) (d2:=decB q.den) (n1:=q.num.natAbs) (n2:=q.den) ?_ ?_ c1 c2 ?_ ?_ k1 v1 ?_ (k2 hd) v2) (fun β v w h=>to_qy2 e1 rfl h)
   ·rw [decide_eq_false_iff_not];omega
   ·rw [decide_eq_true_iff];omega
   ·rw [hsl,decide_eq_false_iff_not];omega
   ·rw [hsl,decide_eq_false_iff_not];omega
   ·rw [hsl,decide_eq_true_iff];omega
theorem ofF {n:Int} {d:Nat} (hn:n.natAbs≤4000000000000000000) (hd:d≤4000000000000000000) (h0:0<d):jF 157 [rI n,rI (d:Int)] (rS (writeB (mkRat n d))):=by
 intro β w vs hv
 obtain ⟨v,u,rfl,h1,h2⟩:=dZ hv
 rw [bA h1,bA h2]
 have hw:=qP n h0
 by_cases hneg:n<0
 ·have e:n = -(n.natAbs:Int):=by omega
  have h:=of_neg n.natAbs d w (by omega) hn hd h0 _ _ _ rfl rfl rfl
  have hp0:0<n.natAbs/Nat.gcd n.natAbs d:=Nat.div_pos (Nat.gcd_le_left _ (by omega)) (Nat.gcd_pos_of_pos_right _ h0)
  have et:aP (gU (decide (n<0)) (n.natAbs/Nat.gcd n.natAbs d))=⟨#[45]⟩++decB (n.natAbs/Nat.gcd n.natAbs d):=by
   rw [decide_eq_true hneg]
   generalize n.natAbs/Nat.gcd n.natAbs d=m at hp0
   show aP (-(m:Int))=_
   unfold aP
   rw [if_pos (by omega)]
   simp
  rw [et,cB] at hw
  rw [← e,hw] at h
  exact h.mono fun e w' ⟨e1,e2⟩=>⟨_,e1,e2,cJ⟩
 ·have e:n=(n.natAbs:Int):=by omega
  have h:=of_pos n.natAbs d w hn hd h0 _ _ _ rfl rfl rfl
  have et:aP (gU (decide (n<0)) (n.natAbs/Nat.gcd n.natAbs d))=decB (n.natAbs/Nat.gcd n.natAbs d):=by
   rw [decide_eq_false hneg]
   exact cB _
  rw [et,cB] at hw
  rw [← e,hw] at h
  exact h.mono fun e w' ⟨e1,e2⟩=>⟨_,e1,e2,cJ⟩
section
variable {p q:Rat}
theorem sq_lt (h:Sq q):q.num.natAbs<1000000000∧q.den<1000000000:=by
 have h100:(10:Nat)^9=1000000000:=by decide
 refine ⟨by rw [← h100];exact nD h.1,?_⟩
 rcases h.2 with h|h
 ·omega
 ·rw [← h100];exact nD h
theorem qR {a b:Nat} (ha:a<1000000000) (hb:b<1000000000):a*b<1000000000000000000:=Nat.mul_lt_mul'' ha hb
theorem qS {a b:Int} (ha:a.natAbs<1000000000) (hb:b.natAbs<1000000000):(a*b).natAbs<1000000000000000000:=by rw [Int.natAbs_mul];exact qR ha hb
theorem mulS (hp:Sq p) (hq:Sq q):jF 106 [rS (writeB p),rS (writeB q)] (rS (writeB (p*q))):=by
 obtain ⟨a1,a2⟩:=sq_lt hp
 obtain ⟨b1,b2⟩:=sq_lt hq
 have m1:=qS a1 b1
 have m2:=qR a2 b2
 have hof:=ofF (n:=p.num*q.num) (d:=p.den*q.den) (by omega) (by omega) (Nat.mul_pos p.den_pos q.den_pos)
 rw [← Rat.mul_def',Int.natCast_mul] at hof
 have m3:((p.den:Int)*(q.den:Int))<1000000000000000000:=by rw [← Int.natCast_mul];omega
 have m4:0≤((p.den:Int)*(q.den:Int)):=by rw [← Int.natCast_mul];omega
 have q1:=iI hp
 have q2:=iI hq
 generalize writeB p=s at *
 generalize writeB q=u at *
 refine jT Tryz.func106 fun w00=>?_
 refine jB 156 [rS s] q1 ?_
 refine jB 156 [rS u] q2 ?_
 refine jL (.binOp .mul 3 (.tmp 31) (.tmp 32) 3) (.tmp 31) (.tmp 32) (rI p.num) (rI q.num) (rI (p.num*q.num)) (fun ρ o β w ho hx hy=>⟨_,sK ho (bA hx) (bA hy) (by omega),cJ⟩) ?_
 refine jL (.binOp .mul 3 (.tmp 34) (.tmp 35) 3) (.tmp 34) (.tmp 35) (rI (p.den:Int)) (rI (q.den:Int)) (rI ((p.den:Int)*(q.den:Int))) (fun ρ o β w ho hx hy=>⟨_,sK ho (bA hx) (bA hy) (by omega),cJ⟩) ?_
 refine jB 157 [rI (p.num*q.num),rI ((p.den:Int)*(q.den:Int))] hof ?_
 exact jS Tryz.func106
theorem addS (hp:Sq p) (hq:Sq q):jF 103 [rS (writeB p),rS (writeB q)] (rS (writeB (p+q))):=by
 obtain ⟨a1,a2⟩:=sq_lt hp
 obtain ⟨b1,b2⟩:=sq_lt hq
 have m1:(p.num*(q.den:Int)).natAbs<1000000000000000000:=qS a1 (by omega)
 have m5:(q.num*(p.den:Int)).natAbs<1000000000000000000:=qS b1 (by omega)
 have m2:=qR a2 b2
 have hof:=ofF (n:=p.num*(q.den:Int)+q.num*(p.den:Int)) (d:=p.den*q.den) (by omega) (by omega) (Nat.mul_pos p.den_pos q.den_pos)
 rw [← Rat.add_def',Int.natCast_mul] at hof
 have m3:((p.den:Int)*(q.den:Int))<1000000000000000000:=by rw [← Int.natCast_mul];omega
 have m4:0≤((p.den:Int)*(q.den:Int)):=by rw [← Int.natCast_mul];omega
 have q1:=iI hp
 have q2:=iI hq
 generalize writeB p=s at *
 generalize writeB q=u at *
 refine jT Tryz.func103 fun w00=>?_
 refine jB 156 [rS s] q1 ?_
 refine jB 156 [rS u] q2 ?_
 refine jL (.binOp .mul 3 (.tmp 31) (.tmp 32) 3) (.tmp 31) (.tmp 32) (rI p.num) (rI (q.den:Int)) (rI (p.num*(q.den:Int))) (fun ρ o β w ho hx hy=>⟨_,sK ho (bA hx) (bA hy) (by omega),cJ⟩) ?_
 refine jL (.binOp .mul 3 (.tmp 34) (.tmp 35) 3) (.tmp 34) (.tmp 35) (rI q.num) (rI (p.den:Int)) (rI (q.num*(p.den:Int))) (fun ρ o β w ho hx hy=>⟨_,sK ho (bA hx) (bA hy) (by omega),cJ⟩) ?_
 refine jL (.binOp .add 3 (.tmp 33) (.tmp 36) 3) (.tmp 33) (.tmp 36) (rI (p.num*(q.den:Int))) (rI (q.num*(p.den:Int))) (rI (p.num*(q.den:Int)+q.num*(p.den:Int))) (fun ρ o β w ho hx hy=>⟨_,addi_run ho (bA hx) (bA hy) (by omega),cJ⟩) ?_
 refine jL (.binOp .mul 3 (.tmp 38) (.tmp 39) 3) (.tmp 38) (.tmp 39) (rI (p.den:Int)) (rI (q.den:Int)) (rI ((p.den:Int)*(q.den:Int))) (fun ρ o β w ho hx hy=>⟨_,sK ho (bA hx) (bA hy) (by omega),cJ⟩) ?_
 refine jB 157 [rI (p.num*(q.den:Int)+q.num*(p.den:Int)),rI ((p.den:Int)*(q.den:Int))] hof ?_
 exact jS Tryz.func103
theorem kP (hp:Zs 10000 p) (hq:Zs 10000 q):jF 106 [rS (writeB p),rS (writeB q)] (rS (writeB (p*q))):=by
 by_cases h1:Sq p
 ·by_cases h2:Sq q
  ·exact mulS h1 h2
  ·exact mulBig hp hq (mE (iI h1) fun _ _ _=>sL) (mE (kM h2) fun _ _ _=>kO) rfl
 ·by_cases h2:Sq q
  ·exact mulBig hp hq (mE (kM h1) fun _ _ _=>kO) (mE (iI h2) fun _ _ _=>sL) rfl
  ·exact mulBig hp hq (mE (kM h1) fun _ _ _=>kO) (mE (kM h2) fun _ _ _=>kO) rfl
theorem pE (hp:Zs 10000 p) (hq:Zs 10000 q):jF 103 [rS (writeB p),rS (writeB q)] (rS (writeB (p+q))):=by
 by_cases h1:Sq p
 ·by_cases h2:Sq q
  ·exact addS h1 h2
  ·exact addBig hp hq (mE (iI h1) fun _ _ _=>sL) (mE (kM h2) fun _ _ _=>kO) rfl
 ·by_cases h2:Sq q
  ·exact addBig hp hq (mE (kM h1) fun _ _ _=>kO) (mE (iI h2) fun _ _ _=>sL) rfl
  ·exact addBig hp hq (mE (kM h1) fun _ _ _=>kO) (mE (kM h2) fun _ _ _=>kO) rfl
end
theorem sM {o:Oper} {ρ:Operand→Value} {w:World} {x y:Operand} {a:Nat} (ho:o.op = .binOp .sub 3 x y 3) (hx:ρ x = .int .i64 (a:Int)) (hy:ρ y = .int .i64 1) (ha:a≤9223372036854775807) :
 (execOp ρ o).run Tryz.prog w = .ok (.value (.int .i64 ((a:Int)-1))) w:=by
 simp only [execOp,ho,hx,hy]
 refine bI ?_
 have e:IntKind.i64.wrap ((a:Int)-1)=(a:Int)-1:=by
  rw [IntWalk.i64_left,IntWalk.wrap64_in _ ⟨by omega,by omega⟩]
 simp [go_sem,e]
theorem pG {o:Oper} {ρ:Operand→Value} {w:World} {x y:Operand} {a b:Int} {r:Bool} (ho:o.op = .binOp .neq 3 x y 3) (hx:ρ x = .int .i64 a) (hy:ρ y = .int .i64 b) (h:(a != b)=r) :
 (execOp ρ o).run Tryz.prog w = .ok (.value (.bool r)) w:=by
 simp only [execOp,ho,hx,hy]
 refine bI ?_
 rw [← h]
 exact bW (by kernel_rfl) w
section
variable {s t a d:ByteArray} {c k n m g:Nat}
theorem check_empty (h0:decide ((0:Int)<(s.size:Nat))=false) (hsl:jF 152 [rS s] (rI (0:Int))) (ha:s.extract 0 0=a) (fa:jF 153 [rS a] (rl false)):jF 102 [rS s] (.fv (.sc (.lit (.int .i64 1)))):=by
 refine jT Tryz.func102 fun w00=>?_
 refine dO 9 9 Tryz.underlying9 s ?_
 refine iS 10 0 (s.size:Nat) false h0 ?_
 refine jB 152 [rS s] hsl ?_
 refine jL (.slice 9 (.tmp 21) none (some (.tmp 22)) none) (.tmp 21) (.tmp 22) (rS s) (rI (0:Int)) (rS a) (fun ρ o β w ho hx hy=>?_) ?_
 ·have:=oJ (k:=0) (w:=w) ho Tryz.underlying9 (bA hx) (bA hy) (Nat.zero_le _)
  rw [ha] at this
  exact ⟨_,this,cJ⟩
 refine jB 153 [rS a] fa ?_
 exact jS Tryz.func102
end
end Ab
section
open Go.RowKit Pl
theorem decForm_any (s:ByteArray) (w:World) (hs:s.size≤9223372036854775807):Calls Tryz.prog 153 #[.string s] w fun e w'=>e = .returned (.bool (Ab.decF s))∧w'=w:=by
 have cd:=aH (fun W=>digits_any s W hs)
 by_cases h0:s.size=0
 ·have hr:Ab.decF s=false:=by unfold Ab.decF;rw [if_pos h0]
  have k0:(s.size:Int)=0:=by omega
  rw [hr]
  clear hr h0 cd
  go_enter Tryz.func153,Tryz.ntmps153
  go_wp2
  go_ret
  exact ⟨rfl,rfl⟩
 ·have hp:0<s.size:=by omega
  obtain ⟨c,hc⟩:∃ c:Nat,(s[0]'hp).toNat=c:=⟨_,rfl⟩
  have hh:(aC s).head?=some 48↔c=48:=by
   have h1:=cI hp
   rw [List.head?_eq_getElem?,h1,← hc]
   constructor
   ·intro h;injection h with h;rw [h];rfl
   ·intro h;congr 1;exact UInt8.toNat_inj.1 h
  have k0:((s.size:Int)==0)=false:=by rw [beq_eq_false_iff_ne];omega
  have p0:(0:Int)<s.size:=by omega
  obtain ⟨r,hr⟩:∃ r,r=Ab.decF s:=⟨_,rfl⟩
  rw [← hr]
  unfold Ab.decF at hr
  rw [if_neg h0] at hr
  by_cases h1:1<s.size
  ·have k1:(1:Int)<s.size:=by omega
   by_cases h48:c=48
   ·rw [if_pos ⟨h1,hh.2 h48⟩] at hr
    subst h48
    have HR:=aH hr
    clear hr hh h1 h0 cd
    go_enter Tryz.func153,Tryz.ntmps153
    go_wp2
    go_ret
    exact ⟨by rw [HR.out];rfl,rfl⟩
   ·rw [if_neg (fun h=>h48 (hh.1 h.2))] at hr
    have k2:((c:Int)==48)=false:=by simp;omega
    have k3:¬ (c:Int)=48:=by omega
    have HR:=aH hr
    clear hr hh h1 h0 h48
    go_enter Tryz.func153,Tryz.ntmps153
    go_wp2_with fail
    refine (cd.out _).mono ?_
    rintro e w' ⟨rfl,rfl⟩
    go_wp2
    go_ret
    exact ⟨by rw [HR.out];rfl,rfl⟩
  ·rw [if_neg (fun h=>h1 h.1)] at hr
   have k1:¬ (1:Int)<s.size:=by omega
   have HR:=aH hr
   clear hr hh h1 h0
   go_enter Tryz.func153,Tryz.ntmps153
   go_wp2_with fail
   refine (cd.out _).mono ?_
   rintro e w' ⟨rfl,rfl⟩
   go_wp2
   go_ret
   exact ⟨by rw [HR.out];rfl,rfl⟩
end
namespace Ab
open Go.RowKit Pl
theorem oO {s:ByteArray} (hs:s.size≤9223372036854775807):jF 153 [rS s] (rl (decF s)):=by
 intro β w vs hv
 obtain ⟨v,rfl,h1⟩:=cW hv
 rw [bA h1]
 exact (decForm_any s w hs).mono fun e w' ⟨e1,e2⟩=>⟨_,e1,by rw [e2];exact aB _ _,eV rfl⟩
theorem lit_I {z:Int} (β:List Nat) (v:Value) (w:World) (h:(AV.fv (.sc (.lit (.int .i64 z))):AV Kr).holds β v w):(rI z).holds β v w:=h.1
theorem dS {a b:ByteArray} (h:a≠b):(a.toList==b.toList)=false:=by
 rw [beq_eq_false_iff_ne]
 intro e
 apply h
 rw [Go.ByteArray.toList_eq,Go.ByteArray.toList_eq] at e
 exact ba_ext e
theorem neg_head {s:ByteArray} (h:gW s=true):∃ h:0<s.size,(s[0]'h).toNat=45:=by
 have hh:(aC s).head?=some 45:=eq_of_beq h
 have hp:0<s.size:=by
  rcases Nat.eq_zero_or_pos s.size with e|e
  ·rw [← aE] at e
   rw [List.eq_nil_of_length_eq_zero e] at hh
   cases hh
  ·exact e
 refine ⟨hp,?_⟩
 rw [List.head?_eq_getElem?,cI hp] at hh
 injection hh with hh
 rw [hh];rfl
theorem pos_head {s:ByteArray} (hp:0<s.size) (h:gW s=false):∃ c:Nat,(∃ h:0<s.size,(s[0]'h).toNat=c)∧((c:Int)==45)=false:=by
 refine ⟨_,⟨hp,rfl⟩,?_⟩
 have hh:¬ (aC s).head?=some 45:=by unfold gW at h;rw [beq_eq_false_iff_ne] at h;exact h
 rw [beq_eq_false_iff_ne]
 intro e
 apply hh
 rw [List.head?_eq_getElem?,cI hp]
 congr 1
 apply UInt8.toNat_inj.1
 show (s[0]'hp).toNat=45
 omega
theorem partsT {t:ByteArray} {k n m:Nat} (hts:t.size≤1000000000) (hk:aJ t=k) (hlt:k<t.size) (ha:t.extract 0 k=decB n) (hd:t.extract (k+1) t.size=decB m) (hn:(decB n).size≤100000) (hm:(decB m).size≤100000) :
 jF 154 [rS t] (.tup [.ag [.lit (.bool false),.sp (pH n)],.ag [.lit (.bool false),.sp (pH m)]]):=by
 have hsl:=eX (s:=t) (by omega)
 rw [hk] at hsl
 refine jT Tryz.func154 fun w00=>?_
 refine jB 152 [rS t] hsl ?_
 refine jL (.call ⟨.builtin .len,#[.tmp 10],#[9]⟩) (.tmp 10) (.tmp 10) (rS t) (rS t) (rI t.size) (fun ρ o β w ho hx _=>⟨_,sF ho Tryz.underlying9 (bA hx),cJ⟩) ?_
 refine jL (.binOp .eql 3 (.tmp 9) (.tmp 11) 3) (.tmp 9) (.tmp 11) (rI (k:Int)) (rI t.size) (rl false) (fun ρ o β w ho hx hy=>⟨.bool false,iZ ho (bA hx) (bA hy) (by simp;omega),eV rfl⟩) ?_
 refine jL (.slice 9 (.tmp 16) none (some (.tmp 17)) none) (.tmp 16) (.tmp 17) (rS t) (rI (k:Int)) (rS (decB n)) (fun ρ o β w ho hx hy=>?_) ?_
 ·have:=oJ (w:=w) ho Tryz.underlying9 (bA hx) (bA hy) (by omega)
  rw [ha] at this
  exact ⟨_,this,cJ⟩
 refine jB 209 [rS (decB n)] (parseDF hn) ?_
 refine jL (.binOp .add 3 (.tmp 21) (.const (.int .i64 1)) 3) (.tmp 21) (.const (.int .i64 1)) (rI (k:Int)) (.fv (.sc (.lit (.int .i64 1)))) (rI ((k+1:Nat):Int)) (fun ρ o β w ho hx hy=>⟨_,sG ho (bA hx) (bV hy) (by omega),cJ⟩) ?_
 refine jL (.slice 9 (.tmp 20) (some (.tmp 22)) none none) (.tmp 20) (.tmp 22) (rS t) (rI ((k+1:Nat):Int)) (rS (decB m)) (fun ρ o β w ho hx hy=>?_) ?_
 ·have:=oK (w:=w) ho Tryz.underlying9 (bA hx) (bA hy) (by omega)
  rw [hd] at this
  exact ⟨_,this,cJ⟩
 refine jB 209 [rS (decB m)] (parseDF hm) ?_
 exact jS Tryz.func154
theorem eZ {f:FuncId} {w00:World} {c:Cfg Kr} {fn:Func} {z:Int} (hfn:Tryz.prog.funcs[f]?=some fn) (hc:c.res Tryz.prog fn=some (.fv (.sc (.lit (.int .i64 z))))):Ok Tryz.prog f w00 (fun v w=>(rI z).holds [] v w) c :=
 ⟨good_ret hfn _ hc fun _ _ _ h=>h.1⟩
theorem check_neg {s:ByteArray} {z:Int} (hs:s.size≤9223372036854775807) (hne:0<s.size) (hn:gW s=true) (hz:bT s=z):jF 102 [rS s] (rI z):=by
 have hc:=neg_head hn
 have h1:1≤s.size:=hne
 have hsp:bE s=s.extract 1 s.size:=if_pos hn
 unfold bT at hz
 rw [hn] at hz
 obtain ⟨t,hext⟩:∃ t,s.extract 1 s.size=t:=⟨_,rfl⟩
 rw [hsp,hext] at hz
 have hts:t.size<9223372036854775807:=by rw [← hext,ByteArray.size_extract];omega
 have hsl:=eX (s:=t) (by omega)
 have hkl:=cA t
 have hks:aJ t=aJ t:=rfl
 generalize hk:aJ t=k at hsl hkl hks hz
 obtain ⟨a,ha⟩:∃ a,t.extract 0 k=a:=⟨_,rfl⟩
 obtain ⟨d,hd⟩:∃ d,t.extract (k+1) t.size=d:=⟨_,rfl⟩
 have hasz:a.size=k:=by rw [← ha,ByteArray.size_extract];omega
 have hdsz:d.size=t.size-(k+1):=by rw [← hd,ByteArray.size_extract];omega
 rw [ha,hd] at hz
 have fa:=oO (s:=a) (by omega)
 have fd:=oO (s:=d) (by omega)
 refine jT Tryz.func102 fun w00=>?_
 refine dO 9 9 Tryz.underlying9 s ?_
 refine iS 10 0 (s.size:Nat) true (by rw [decide_eq_true_iff];omega) ?_
 refine ridn 13 s hc ?_
 refine rsl1 17 9 Tryz.underlying9 s t h1 hext ?_
 refine jB 152 [rS t] hsl ?_
 refine rshi 21 22 9 Tryz.underlying9 t k a hkl ha ?_
 by_cases c1:decF a=false
 ·rw [if_pos (.inl c1)] at hz
  subst hz
  rw [c1] at fa
  refine jB 153 [rS a] fa ?_
  exact eZ Tryz.func102 (by kernel_rfl)
 rw [Bool.not_eq_false] at c1
 rw [c1] at fa
 refine jB 153 [rS a] fa ?_
 refine ridnR 27 s hc ?_
 refine rshi 31 32 9 Tryz.underlying9 t k a hkl ha ?_
 by_cases cz:a=zeroT
 ·rw [if_pos (.inr ⟨rfl,cz⟩)] at hz
  subst hz
  refine tY 33 9 a ⟨#[48]⟩ true (by rw [cz];exact beq_self_eq_true zeroT.toList) ?_
  exact eZ Tryz.func102 (by kernel_rfl)
 refine tY 33 9 a ⟨#[48]⟩ false (dS cz) ?_
 rw [if_neg (by rintro (h|h);exact absurd (h.symm.trans c1) (by decide);exact cz h.2)] at hz
 refine dO 38 9 Tryz.underlying9 t ?_
 by_cases hlt:k<t.size
 ·have fl:decide ((k:Int)<(t.size:Nat))=true:=by rw [decide_eq_true_iff];omega
  refine vK 37 39 (k:Int) (t.size:Nat) true fl ?_
  refine radd 43 k (by omega) ?_
  refine rslo 42 44 9 Tryz.underlying9 t (k+1) d (by omega) hd ?_
  by_cases d1:decF d=false
  ·rw [if_pos ⟨hlt,.inl d1⟩] at hz
   subst hz
   rw [d1] at fd
   refine jB 153 [rS d] fd ?_
   exact eZ Tryz.func102 (by kernel_rfl)
  rw [Bool.not_eq_false] at d1
  rw [d1] at fd
  refine jB 153 [rS d] fd ?_
  refine radd 50 k (by omega) ?_
  refine rslo 49 51 9 Tryz.underlying9 t (k+1) d (by omega) hd ?_
  by_cases d0:d=zeroT
  ·rw [if_pos ⟨hlt,.inr (.inl d0)⟩] at hz
   subst hz
   refine tY 52 9 d ⟨#[48]⟩ true (by rw [d0];exact beq_self_eq_true zeroT.toList) ?_
   exact eZ Tryz.func102 (by kernel_rfl)
  refine tY 52 9 d ⟨#[48]⟩ false (dS d0) ?_
  refine radd 57 k (by omega) ?_
  refine rslo 56 58 9 Tryz.underlying9 t (k+1) d (by omega) hd ?_
  by_cases d2:d=oneT
  ·rw [if_pos ⟨hlt,.inr (.inr d2)⟩] at hz
   subst hz
   refine tY 59 9 d ⟨#[49]⟩ true (by rw [d2];exact beq_self_eq_true oneT.toList) ?_
   exact eZ Tryz.func102 (by kernel_rfl)
  refine tY 59 9 d ⟨#[49]⟩ false (dS d2) ?_
  rw [if_neg (by rintro ⟨_,h|h|h⟩;exact absurd (h.symm.trans d1) (by decide);exact d0 h;exact d2 h)] at hz
  by_cases l1:600<k
  ·rw [if_pos (.inl l1)] at hz
   subst hz
   refine iS 63 600 (k:Int) true (by rw [decide_eq_true_iff];omega) ?_
   exact eZ Tryz.func102 (by kernel_rfl)
  refine iS 63 600 (k:Int) false (by rw [decide_eq_false_iff_not];omega) ?_
  refine dO 66 9 Tryz.underlying9 t ?_
  refine yW 67 68 t.size k hkl (by omega) ?_
  refine jL (.binOp .sub 3 (.tmp 69) (.const (.int .i64 1)) 3) (.tmp 69) (.const (.int .i64 1)) (rI ((t.size-k:Nat):Int)) (.fv (.sc (.lit (.int .i64 1)))) (rI (((t.size-k:Nat):Int)-1)) (fun ρ o β w ho hx hy=>⟨_,sM ho (bA hx) (bV hy) (by omega),cJ⟩) ?_
  by_cases l2:600<t.size-k-1
  ·rw [if_pos (.inr l2)] at hz
   subst hz
   refine iS 70 600 (((t.size-k:Nat):Int)-1) true (by rw [decide_eq_true_iff];omega) ?_
   exact eZ Tryz.func102 (by kernel_rfl)
  refine iS 70 600 (((t.size-k:Nat):Int)-1) false (by rw [decide_eq_false_iff_not];omega) ?_
  rw [if_neg (by rintro (h|h) <;> omega)] at hz
  refine dO 74 9 Tryz.underlying9 t ?_
  refine vK 73 75 (k:Int) (t.size:Nat) true fl ?_
  have hae:=iC c1
  have hde:=iC d1
  generalize aU (aC a)=n at hae hz
  generalize aU (aC d)=m at hde hz
  have hp:=partsT (t:=t) (by omega) hk hlt (ha.trans hae) (hd.trans hde) (by rw [← hae];omega) (by rw [← hde];omega)
  have hm0:0<m:=Nat.pos_of_ne_zero fun e=>d0 (by rw [hde,e,dec0];rfl)
  have hg0:0<Nat.gcd n m:=Nat.gcd_pos_of_pos_right _ hm0
  have hg:=kL (a:=n) (b:=m) (fU (nD (n:=n) (k:=600) (by rw [← hae];omega)) (by omega)) (fU (nD (n:=m) (k:=600) (by rw [← hde];omega)) (by omega))
  obtain ⟨g,hgg⟩:∃ g,Nat.gcd n m=g:=⟨_,rfl⟩
  rw [hgg] at hg hg0
  simp only [hgg] at hz
  refine jB 154 [rS t] hp ?_
  refine jB 155 [di n,di m] hg ?_
  rcases Nat.lt_or_ge g B9 with gb|gb
  ·refine jL (.call ⟨.builtin .len,#[.tmp 87],#[187]⟩) (.tmp 87) (.tmp 87) (di g) (di g) (.fv (.sc (.lit (.int .i64 1)))) (fun ρ o β w ho hx _=>?_) ?_
   ·obtain ⟨ad,c,e,_⟩:=iQ (bC.1 hx) hg0 gb
    exact ⟨_,kY ho e,eV rfl⟩
   refine jL (.indexAddr 187 (.tmp 91) (.const (.int .i64 0))) (.tmp 91) (.const (.int .i64 0)) (di g) (.fv (.sc (.lit (.int .i64 0)))) (rP g) (fun ρ o β w ho hx hy=>?_) ?_
   ·obtain ⟨ad,c,e,hc⟩:=iQ (bC.1 hx) hg0 gb
    exact ⟨_,mD ho e (bV hy) (by omega),⟨ad,rfl,hc⟩⟩
   refine jL (.load 3 (.tmp 92)) (.tmp 92) (.tmp 92) (rP g) (rP g) (rI (g:Int)) (fun ρ o β w ho hx _=>?_) ?_
   ·obtain ⟨ad,e,hc⟩:=hx
    injection e with e
    exact ⟨_,tV ho e hc,cJ⟩
   have hne:(((g:Int) != 1) = !decide (g=1)):=by rw [Bool.eq_iff_iff];simp;omega
   by_cases g1:g=1
   ·rw [if_neg (by rintro ⟨_,h⟩;exact h g1)] at hz
    subst hz
    refine jL (.binOp .neq 3 (.tmp 93) (.const (.int .i64 1)) 3) (.tmp 93) (.const (.int .i64 1)) (rI (g:Int)) (.fv (.sc (.lit (.int .i64 1)))) (rl false) (fun ρ o β w ho hx hy=>⟨.bool false,pG ho (bA hx) (bV hy) (by rw [hne];simp [g1]),eV rfl⟩) ?_
    exact eZ Tryz.func102 (by kernel_rfl)
   ·rw [if_pos ⟨hlt,g1⟩] at hz
    subst hz
    refine jL (.binOp .neq 3 (.tmp 93) (.const (.int .i64 1)) 3) (.tmp 93) (.const (.int .i64 1)) (rI (g:Int)) (.fv (.sc (.lit (.int .i64 1)))) (rl true) (fun ρ o β w ho hx hy=>⟨.bool true,pG ho (bA hx) (bV hy) (by rw [hne];simp [g1]),eV rfl⟩) ?_
    exact eZ Tryz.func102 (by kernel_rfl)
  ·rw [if_pos ⟨hlt,by have:=dQ;omega⟩] at hz
   subst hz
   refine jL (.call ⟨.builtin .len,#[.tmp 87],#[187]⟩) (.tmp 87) (.tmp 87) (di g) (di g) rNe (fun ρ o β w ho hx _=>?_) ?_
   ·obtain ⟨A,m,c,e,hm⟩:=vX (bC.1 hx) gb
    exact ⟨_,kY ho e,⟨(m:Int),rfl,by omega⟩⟩
   refine jL (.binOp .neq 3 (.tmp 88) (.const (.int .i64 1)) 3) (.tmp 88) (.const (.int .i64 1)) rNe (.fv (.sc (.lit (.int .i64 1)))) (rl true) (fun ρ o β w ho hx hy=>?_) ?_
   ·obtain ⟨x,e,hm⟩:=hx
    injection e with e
    exact ⟨.bool true,pG ho e (bV hy) (by simpa using hm),eV rfl⟩
   exact eZ Tryz.func102 (by kernel_rfl)
 ·have fl:decide ((k:Int)<(t.size:Nat))=false:=by rw [decide_eq_false_iff_not];omega
  refine vK 37 39 (k:Int) (t.size:Nat) false fl ?_
  rw [if_neg (fun h=>hlt h.1)] at hz
  by_cases l1:600<k
  ·rw [if_pos (.inl l1)] at hz
   subst hz
   refine iS 63 600 (k:Int) true (by rw [decide_eq_true_iff];omega) ?_
   exact eZ Tryz.func102 (by kernel_rfl)
  rw [if_neg (by rintro (h|h) <;> omega),if_neg (fun h=>hlt h.1)] at hz
  subst hz
  refine iS 63 600 (k:Int) false (by rw [decide_eq_false_iff_not];omega) ?_
  refine dO 66 9 Tryz.underlying9 t ?_
  refine yW 67 68 t.size k hkl (by omega) ?_
  refine jL (.binOp .sub 3 (.tmp 69) (.const (.int .i64 1)) 3) (.tmp 69) (.const (.int .i64 1)) (rI ((t.size-k:Nat):Int)) (.fv (.sc (.lit (.int .i64 1)))) (rI (((t.size-k:Nat):Int)-1)) (fun ρ o β w ho hx hy=>⟨_,sM ho (bA hx) (bV hy) (by omega),cJ⟩) ?_
  refine iS 70 600 (((t.size-k:Nat):Int)-1) false (by rw [decide_eq_false_iff_not];omega) ?_
  refine dO 74 9 Tryz.underlying9 t ?_
  refine vK 73 75 (k:Int) (t.size:Nat) false fl ?_
  exact eZ Tryz.func102 (by kernel_rfl)
theorem check_pos {s:ByteArray} {z:Int} (hs:s.size≤9223372036854775807) (hne:0<s.size) (hn:gW s=false) (hz:bT s=z):jF 102 [rS s] (rI z):=by
 obtain ⟨c,hc,hc45⟩:=pos_head hne hn
 have hsp:bE s=s:=if_neg (by rw [hn];exact Bool.false_ne_true)
 unfold bT at hz
 rw [hn,hsp] at hz
 have hts:=hs
 have hsl:=eX (s:=s) (by omega)
 have hkl:=cA s
 have hks:aJ s=aJ s:=rfl
 generalize hk:aJ s=k at hsl hkl hks hz
 obtain ⟨a,ha⟩:∃ a,s.extract 0 k=a:=⟨_,rfl⟩
 obtain ⟨d,hd⟩:∃ d,s.extract (k+1) s.size=d:=⟨_,rfl⟩
 have hasz:a.size=k:=by rw [← ha,ByteArray.size_extract];omega
 have hdsz:d.size=s.size-(k+1):=by rw [← hd,ByteArray.size_extract];omega
 rw [ha,hd] at hz
 have fa:=oO (s:=a) (by omega)
 have fd:=oO (s:=d) (by omega)
 refine jT Tryz.func102 fun w00=>?_
 refine dO 9 9 Tryz.underlying9 s ?_
 refine iS 10 0 (s.size:Nat) true (by rw [decide_eq_true_iff];omega) ?_
 refine ridp 13 s c hc ?_
 refine rueq 14 c hc45 ?_
 refine jB 152 [rS s] hsl ?_
 refine rshi 21 22 9 Tryz.underlying9 s k a hkl ha ?_
 by_cases c1:decF a=false
 ·rw [if_pos (.inl c1)] at hz
  subst hz
  rw [c1] at fa
  refine jB 153 [rS a] fa ?_
  exact eZ Tryz.func102 (by kernel_rfl)
 rw [Bool.not_eq_false] at c1
 rw [c1] at fa
 refine jB 153 [rS a] fa ?_
 refine ridpR 27 s c hc ?_
 refine rueq 28 c hc45 ?_
 rw [if_neg (by rintro (h|h);exact absurd (h.symm.trans c1) (by decide);exact absurd h.1 (by decide))] at hz
 refine dO 38 9 Tryz.underlying9 s ?_
 by_cases hlt:k<s.size
 ·have fl:decide ((k:Int)<(s.size:Nat))=true:=by rw [decide_eq_true_iff];omega
  refine vK 37 39 (k:Int) (s.size:Nat) true fl ?_
  refine radd 43 k (by omega) ?_
  refine rslo 42 44 9 Tryz.underlying9 s (k+1) d (by omega) hd ?_
  by_cases d1:decF d=false
  ·rw [if_pos ⟨hlt,.inl d1⟩] at hz
   subst hz
   rw [d1] at fd
   refine jB 153 [rS d] fd ?_
   exact eZ Tryz.func102 (by kernel_rfl)
  rw [Bool.not_eq_false] at d1
  rw [d1] at fd
  refine jB 153 [rS d] fd ?_
  refine radd 50 k (by omega) ?_
  refine rslo 49 51 9 Tryz.underlying9 s (k+1) d (by omega) hd ?_
  by_cases d0:d=zeroT
  ·rw [if_pos ⟨hlt,.inr (.inl d0)⟩] at hz
   subst hz
   refine tY 52 9 d ⟨#[48]⟩ true (by rw [d0];exact beq_self_eq_true zeroT.toList) ?_
   exact eZ Tryz.func102 (by kernel_rfl)
  refine tY 52 9 d ⟨#[48]⟩ false (dS d0) ?_
  refine radd 57 k (by omega) ?_
  refine rslo 56 58 9 Tryz.underlying9 s (k+1) d (by omega) hd ?_
  by_cases d2:d=oneT
  ·rw [if_pos ⟨hlt,.inr (.inr d2)⟩] at hz
   subst hz
   refine tY 59 9 d ⟨#[49]⟩ true (by rw [d2];exact beq_self_eq_true oneT.toList) ?_
   exact eZ Tryz.func102 (by kernel_rfl)
  refine tY 59 9 d ⟨#[49]⟩ false (dS d2) ?_
  rw [if_neg (by rintro ⟨_,h|h|h⟩;exact absurd (h.symm.trans d1) (by decide);exact d0 h;exact d2 h)] at hz
  by_cases l1:600<k
  ·rw [if_pos (.inl l1)] at hz
   subst hz
   refine iS 63 600 (k:Int) true (by rw [decide_eq_true_iff];omega) ?_
   exact eZ Tryz.func102 (by kernel_rfl)
  refine iS 63 600 (k:Int) false (by rw [decide_eq_false_iff_not];omega) ?_
  refine dO 66 9 Tryz.underlying9 s ?_
  refine yW 67 68 s.size k hkl (by omega) ?_
  refine jL (.binOp .sub 3 (.tmp 69) (.const (.int .i64 1)) 3) (.tmp 69) (.const (.int .i64 1)) (rI ((s.size-k:Nat):Int)) (.fv (.sc (.lit (.int .i64 1)))) (rI (((s.size-k:Nat):Int)-1)) (fun ρ o β w ho hx hy=>⟨_,sM ho (bA hx) (bV hy) (by omega),cJ⟩) ?_
  by_cases l2:600<s.size-k-1
  ·rw [if_pos (.inr l2)] at hz
   subst hz
   refine iS 70 600 (((s.size-k:Nat):Int)-1) true (by rw [decide_eq_true_iff];omega) ?_
   exact eZ Tryz.func102 (by kernel_rfl)
  refine iS 70 600 (((s.size-k:Nat):Int)-1) false (by rw [decide_eq_false_iff_not];omega) ?_
  rw [if_neg (by rintro (h|h) <;> omega)] at hz
  refine dO 74 9 Tryz.underlying9 s ?_
  refine vK 73 75 (k:Int) (s.size:Nat) true fl ?_
  have hae:=iC c1
  have hde:=iC d1
  generalize aU (aC a)=n at hae hz
  generalize aU (aC d)=m at hde hz
  have hp:=partsT (t:=s) (by omega) hk hlt (ha.trans hae) (hd.trans hde) (by rw [← hae];omega) (by rw [← hde];omega)
  have hm0:0<m:=Nat.pos_of_ne_zero fun e=>d0 (by rw [hde,e,dec0];rfl)
  have hg0:0<Nat.gcd n m:=Nat.gcd_pos_of_pos_right _ hm0
  have hg:=kL (a:=n) (b:=m) (fU (nD (n:=n) (k:=600) (by rw [← hae];omega)) (by omega)) (fU (nD (n:=m) (k:=600) (by rw [← hde];omega)) (by omega))
  obtain ⟨g,hgg⟩:∃ g,Nat.gcd n m=g:=⟨_,rfl⟩
  rw [hgg] at hg hg0
  simp only [hgg] at hz
  refine jB 154 [rS s] hp ?_
  refine jB 155 [di n,di m] hg ?_
  rcases Nat.lt_or_ge g B9 with gb|gb
  ·refine jL (.call ⟨.builtin .len,#[.tmp 87],#[187]⟩) (.tmp 87) (.tmp 87) (di g) (di g) (.fv (.sc (.lit (.int .i64 1)))) (fun ρ o β w ho hx _=>?_) ?_
   ·obtain ⟨ad,c,e,_⟩:=iQ (bC.1 hx) hg0 gb
    exact ⟨_,kY ho e,eV rfl⟩
   refine jL (.indexAddr 187 (.tmp 91) (.const (.int .i64 0))) (.tmp 91) (.const (.int .i64 0)) (di g) (.fv (.sc (.lit (.int .i64 0)))) (rP g) (fun ρ o β w ho hx hy=>?_) ?_
   ·obtain ⟨ad,c,e,hc⟩:=iQ (bC.1 hx) hg0 gb
    exact ⟨_,mD ho e (bV hy) (by omega),⟨ad,rfl,hc⟩⟩
   refine jL (.load 3 (.tmp 92)) (.tmp 92) (.tmp 92) (rP g) (rP g) (rI (g:Int)) (fun ρ o β w ho hx _=>?_) ?_
   ·obtain ⟨ad,e,hc⟩:=hx
    injection e with e
    exact ⟨_,tV ho e hc,cJ⟩
   have hne:(((g:Int) != 1) = !decide (g=1)):=by rw [Bool.eq_iff_iff];simp;omega
   by_cases g1:g=1
   ·rw [if_neg (by rintro ⟨_,h⟩;exact h g1)] at hz
    subst hz
    refine jL (.binOp .neq 3 (.tmp 93) (.const (.int .i64 1)) 3) (.tmp 93) (.const (.int .i64 1)) (rI (g:Int)) (.fv (.sc (.lit (.int .i64 1)))) (rl false) (fun ρ o β w ho hx hy=>⟨.bool false,pG ho (bA hx) (bV hy) (by rw [hne];simp [g1]),eV rfl⟩) ?_
    exact eZ Tryz.func102 (by kernel_rfl)
   ·rw [if_pos ⟨hlt,g1⟩] at hz
    subst hz
    refine jL (.binOp .neq 3 (.tmp 93) (.const (.int .i64 1)) 3) (.tmp 93) (.const (.int .i64 1)) (rI (g:Int)) (.fv (.sc (.lit (.int .i64 1)))) (rl true) (fun ρ o β w ho hx hy=>⟨.bool true,pG ho (bA hx) (bV hy) (by rw [hne];simp [g1]),eV rfl⟩) ?_
    exact eZ Tryz.func102 (by kernel_rfl)
  ·rw [if_pos ⟨hlt,by have:=dQ;omega⟩] at hz
   subst hz
   refine jL (.call ⟨.builtin .len,#[.tmp 87],#[187]⟩) (.tmp 87) (.tmp 87) (di g) (di g) rNe (fun ρ o β w ho hx _=>?_) ?_
   ·obtain ⟨A,m,c,e,hm⟩:=vX (bC.1 hx) gb
    exact ⟨_,kY ho e,⟨(m:Int),rfl,by omega⟩⟩
   refine jL (.binOp .neq 3 (.tmp 88) (.const (.int .i64 1)) 3) (.tmp 88) (.const (.int .i64 1)) rNe (.fv (.sc (.lit (.int .i64 1)))) (rl true) (fun ρ o β w ho hx hy=>?_) ?_
   ·obtain ⟨x,e,hm⟩:=hx
    injection e with e
    exact ⟨.bool true,pG ho e (bV hy) (by simpa using hm),eV rfl⟩
   exact eZ Tryz.func102 (by kernel_rfl)
 ·have fl:decide ((k:Int)<(s.size:Nat))=false:=by rw [decide_eq_false_iff_not];omega
  refine vK 37 39 (k:Int) (s.size:Nat) false fl ?_
  rw [if_neg (fun h=>hlt h.1)] at hz
  by_cases l1:600<k
  ·rw [if_pos (.inl l1)] at hz
   subst hz
   refine iS 63 600 (k:Int) true (by rw [decide_eq_true_iff];omega) ?_
   exact eZ Tryz.func102 (by kernel_rfl)
  rw [if_neg (by rintro (h|h) <;> omega),if_neg (fun h=>hlt h.1)] at hz
  subst hz
  refine iS 63 600 (k:Int) false (by rw [decide_eq_false_iff_not];omega) ?_
  refine dO 66 9 Tryz.underlying9 s ?_
  refine yW 67 68 s.size k hkl (by omega) ?_
  refine jL (.binOp .sub 3 (.tmp 69) (.const (.int .i64 1)) 3) (.tmp 69) (.const (.int .i64 1)) (rI ((s.size-k:Nat):Int)) (.fv (.sc (.lit (.int .i64 1)))) (rI (((s.size-k:Nat):Int)-1)) (fun ρ o β w ho hx hy=>⟨_,sM ho (bA hx) (bV hy) (by omega),cJ⟩) ?_
  refine iS 70 600 (((s.size-k:Nat):Int)-1) false (by rw [decide_eq_false_iff_not];omega) ?_
  refine dO 74 9 Tryz.underlying9 s ?_
  refine vK 73 75 (k:Int) (s.size:Nat) false fl ?_
  exact eZ Tryz.func102 (by kernel_rfl)
theorem checkAnyF {s:ByteArray} (hs:s.size≤9223372036854775807):jF 102 [rS s] (rI (bT s)):=by
 rcases Nat.eq_zero_or_pos s.size with h0|h0
 ·have hbs:aC s = []:=List.eq_nil_of_length_eq_zero (by rw [aE];exact h0)
  have hn:gW s=false:=by unfold gW;rw [hbs];rfl
  have hst:bE s=s:=if_neg (by rw [hn];exact Bool.false_ne_true)
  have hsl:aJ s=0:=by unfold aJ;rw [hbs];rfl
  have hd:decF (s.extract 0 0)=false:=by unfold decF;rw [if_pos (by rw [ByteArray.size_extract];omega)]
  have e:bT s=1:=by unfold bT;rw [hst,hsl,if_pos (.inl hd)]
  rw [e]
  have h1:=eX (s:=s) (by omega)
  rw [hsl] at h1
  have h2:=oO (s:=s.extract 0 0) (by rw [ByteArray.size_extract];omega)
  rw [hd] at h2
  exact mE (check_empty (by rw [decide_eq_false_iff_not];omega) h1 rfl h2) lit_I
 ·cases e:gW s with
  | true=>exact check_neg hs h0 e rfl
  | false=>exact check_pos hs h0 e rfl
end Ab
namespace Ab
open Go.RowKit Pl
section
variable {o1 o2 o3 x1 x2 x3 y1 y2 y3 z1 z2 z3 p1 p2 p3 m1 m2 m3:Rat}
theorem vA (h:Fv o1 o2 o3 x1 x2 x3 y1 y2 y3 z1 z2 z3) (hr:kF (dt x1 x2 x3 x1 x2 x3) (dt y1 y2 y3 y1 y2 y3) (dt z1 z2 z3 z1 z2 z3)):jX 12 [gR o1 o2 o3 x1 x2 x3 y1 y2 y3 z1 z2 z3] (fP (dt x1 x2 x3 x1 x2 x3) (dt y1 y2 y3 y1 y2 y3) (dt z1 z2 z3 z1 z2 z3)):=by
 refine jY Tryz.func12 fun w00 hI=>?_
 refine jW hI 35 [gR o1 o2 o3 x1 x2 x3 y1 y2 y3 z1 z2 z3] (h.r) ?_
 refine jC 43 [lC o1 o2 o3 x1 x2 x3 y1 y2 y3 z1 z2 z3] (xQ (h.w.lm.mono (by decide))) ?_
 refine jW hI 39 [vc (dt x1 x2 x3 x1 x2 x3) (dt y1 y2 y3 y1 y2 y3) (dt z1 z2 z3 z1 z2 z3)] (gS hr) ?_
 exact jR Tryz.func12
theorem apiLocalF (h:Fv o1 o2 o3 x1 x2 x3 y1 y2 y3 z1 z2 z3) (k:kF p1 p2 p3) (h0:Sq0 x1 x2 x3 y1 y2 y3 z1 z2 z3)
 (e1:dt (p1-o1) (p2-o2) (p3-o3) x1 x2 x3/dt x1 x2 x3 x1 x2 x3=m1) (e2:dt (p1-o1) (p2-o2) (p3-o3) y1 y2 y3/dt y1 y2 y3 y1 y2 y3=m2) (e3:dt (p1-o1) (p2-o2) (p3-o3) z1 z2 z3/dt z1 z2 z3 z1 z2 z3=m3) (hr:kF m1 m2 m3) :
 jX 10 [gR o1 o2 o3 x1 x2 x3 y1 y2 y3 z1 z2 z3,vS p1 p2 p3] (fP m1 m2 m3):=by
 have hl:jF 40 [lC o1 o2 o3 x1 x2 x3 y1 y2 y3 z1 z2 z3,vc p1 p2 p3] (vc m1 m2 m3):=by
  rw [← e1,← e2,← e3]
  exact localF (h.w.lm.mono (by decide)) ((vI k).mono (by decide)) ((vI h.w.o).mono (by decide)) h0
 refine jY Tryz.func10 fun w00 hI=>?_
 refine jW hI 36 [gL 35,gR o1 o2 o3 x1 x2 x3 y1 y2 y3 z1 z2 z3,gL 37,vS p1 p2 p3] (readFV h k) ?_
 refine jC 40 [lC o1 o2 o3 x1 x2 x3 y1 y2 y3 z1 z2 z3,vc p1 p2 p3] (hl) ?_
 refine jW hI 39 [vc m1 m2 m3] (gS hr) ?_
 exact jR Tryz.func10
theorem apiShiftF (h:Fv o1 o2 o3 x1 x2 x3 y1 y2 y3 z1 z2 z3) (k:kF p1 p2 p3) (hr:Wf (o1+p1) (o2+p2) (o3+p3) x1 x2 x3 y1 y2 y3 z1 z2 z3):jX 11 [gR o1 o2 o3 x1 x2 x3 y1 y2 y3 z1 z2 z3,vS p1 p2 p3] (fW (o1+p1) (o2+p2) (o3+p3) x1 x2 x3 y1 y2 y3 z1 z2 z3):=by
 have ho:=(vI h.w.o).mono (l:=36) (by decide)
 have hk:=(vI k).mono (l:=36) (by decide)
 refine jY Tryz.func11 fun w00 hI=>?_
 refine jW hI 36 [gL 35,gR o1 o2 o3 x1 x2 x3 y1 y2 y3 z1 z2 z3,gL 37,vS p1 p2 p3] (readFV h k) ?_
 refine jC 41 [vc o1 o2 o3,vc p1 p2 p3] (qJ ho.a ho.b ho.c hk.a hk.b hk.c) ?_
 refine jW hI 42 [lC (o1+p1) (o2+p2) (o3+p3) x1 x2 x3 y1 y2 y3 z1 z2 z3] (rZ hr) ?_
 exact jR Tryz.func11
end
theorem isS_lit {β:List Nat} {cs:List Value} {w:World} {b:ByteArray}:(bS b).holds β cs w↔(Seg.lit (.string b):Seg Kn).holds β cs w:=⟨fun h=>⟨h,rfl⟩,fun h=>h.1⟩
inductive LitL:List (Seg Kn)→List (Seg Kn)→Prop where
 | nil:LitL [] []
 | txt {b:ByteArray} {l m}:LitL l m→LitL (bS b::l) (.lit (.string b)::m)
 | same {s:Seg Kn} {l m}:LitL l m→LitL (s::l) (s::m)
theorem LitL.to {β:List Nat} {w:World} {l m:List (Seg Kn)} (h:LitL l m):∀ {cs:List Value},holdsL β l cs w↔holdsL β m cs w:=by
 induction h with
 | nil=>intro cs;exact Iff.rfl
 | txt _ ih =>
   intro cs
   constructor
   ·rintro ⟨a,b,e,h1,h2⟩;exact ⟨a,b,e,isS_lit.1 h1,ih.1 h2⟩
   ·rintro ⟨a,b,e,h1,h2⟩;exact ⟨a,b,e,isS_lit.2 h1,ih.2 h2⟩
 | same _ ih =>
   intro cs
   constructor
   ·rintro ⟨a,b,e,h1,h2⟩;exact ⟨a,b,e,h1,ih.1 h2⟩
   ·rintro ⟨a,b,e,h1,h2⟩;exact ⟨a,b,e,h1,ih.2 h2⟩
theorem ag_lit {β:List Nat} {v:Value} {w:World} {l m:List (Seg Kn)} (h:LitL l m):(AV.fv (.ag l)).holds β v w↔(AV.fv (.ag m)).holds β v w:=by
 constructor
 ·rintro ⟨cs,e,k⟩;exact ⟨cs,e,h.to.1 k⟩
 ·rintro ⟨cs,e,k⟩;exact ⟨cs,e,h.to.2 k⟩
theorem sc_lit {β:List Nat} {v:Value} {w:World} {b:ByteArray}:(AV.fv (.sc (bS b)):AV Kn).holds β v w↔(AV.fv (.sc (.lit (.string b))):AV Kn).holds β v w:=isS_lit (β:=β) (cs := [v])
theorem FitsW.args {P:Program} {I:World→Prop} {f:FuncId} {l l' : List (AV Kn)} {x:AV Kn} (h:FitsW P I f l x) (hl:∀ β vs w,holdsA β l' vs w→holdsA β l vs w):FitsW P I f l' x:=fun β w vs hI hv=>h β w vs hI (hl β vs w hv)
theorem FitsW.res {P:Program} {I:World→Prop} {f:FuncId} {l:List (AV Kn)} {x y:AV Kn} (h:FitsW P I f l x) (hx:∀ β v w,x.holds β v w→y.holds β v w):FitsW P I f l y:=fun β w vs hI hv =>
 (h β w vs hI hv).mono fun e w' ⟨v,e1,e2,e3⟩=>⟨v,e1,e2,hx β v w' e3⟩
theorem dec_two {n:Nat} (h1:10≤n) (h2:n<100):Lib.decDigits n = [UInt8.ofNat (48+n/10),UInt8.ofNat (48+n%10)]:=by
 rw [eI (by omega),cM (by omega)]
 rfl
theorem bL {n:Nat} (h:n<10):decB n=⟨#[UInt8.ofNat (48+n)]⟩:=by unfold decB;rw [cM h]
theorem mH {n:Nat} (h1:10≤n) (h2:n<100):decB n=⟨#[UInt8.ofNat (48+n/10),UInt8.ofNat (48+n%10)]⟩:=by unfold decB;rw [dec_two h1 h2]
theorem cV {z:Int} {b:ByteArray} (hz:¬ z<0) (h:decB z.natAbs=b):writeB (z:Rat)=b:=by
 rw [← dC,aP,if_neg hz,h]
theorem fK {z:Int} {b:ByteArray} (hz:z<0) (h:decB z.natAbs=b):writeB (z:Rat)=⟨#[45]⟩++b:=by
 rw [← dC,aP,if_pos hz,h]
theorem w0:writeB ((0:Int):Rat)=⟨#[48]⟩:=cV (by omega) (bL (n:=0) (by omega))
theorem w1:writeB ((1:Int):Rat)=⟨#[49]⟩:=cV (by omega) (bL (n:=1) (by omega))
theorem kQ (q:Rat):aJ (writeB q)=(aP q.num).size:=by
 by_cases h:q.den=1
 ·rw [jE h,tW]
 ·rw [eY h,tX]
theorem num_cut (q:Rat):(writeB q).extract 0 (aJ (writeB q))=aP q.num:=by
 rw [kQ]
 by_cases h:q.den=1
 ·rw [jE h,vY]
 ·rw [eY h,ext_lo]
theorem den_cut {q:Rat} (h:q.den≠1):(writeB q).extract (aJ (writeB q)+1) (writeB q).size=decB q.den:=by
 rw [kQ,eY h]
 exact ext_hi _ _
theorem jH (q:Rat):(writeB q).size=(aP q.num).size+if q.den=1 then 0 else 1+(decB q.den).size:=by
 by_cases h:q.den=1
 ·rw [jE h,if_pos h];rfl
 ·rw [eY h,if_neg h,ByteArray.size_append,ByteArray.size_append,size47]
theorem numF {q:Rat} (hs:(writeB q).size≤1000000000):jF 206 [rS (writeB q)] (rS (aP q.num)):=by
 have hc:=num_cut q
 generalize writeB q=s at *
 refine jT Tryz.func206 fun w00=>?_
 refine jB 152 [rS s] (eX (by omega)) ?_
 refine rshi 3 5 22 Tryz.underlying22 s (aJ s) (aP q.num) (cA _) hc ?_
 exact jS Tryz.func206
theorem denF1 {q:Rat} (hs:(writeB q).size≤1000000000) (h:q.den=1):jF 207 [rS (writeB q)] (rS (decB q.den)):=by
 have hl:=jH q
 have hk:=kQ q
 rw [if_pos h] at hl
 have e:decB q.den=⟨#[49]⟩:=by rw [h,dec1]
 rw [e]
 generalize writeB q=s at *
 have key:jF 207 [rS s] (.fv (.sc (.lit (.string ⟨#[49]⟩)))):=by
  refine jT Tryz.func207 fun w00=>?_
  refine jB 152 [rS s] (eX (by omega)) ?_
  refine dO 7 22 Tryz.underlying22 s ?_
  refine jL (.binOp .eql 3 (.tmp 6) (.tmp 8) 3) (.tmp 6) (.tmp 8) (rI (aJ s:Nat)) (rI (s.size:Nat)) (rl true) (fun ρ o β w ho hx hy=>⟨.bool true,iZ ho (bA hx) (bA hy) (by simp;omega),eV rfl⟩) ?_
  exact jS Tryz.func207
 exact mE key fun β v w h=>h.1
theorem denF2 {q:Rat} (hs:(writeB q).size≤1000000000) (h:q.den≠1):jF 207 [rS (writeB q)] (rS (decB q.den)):=by
 have hl:=jH q
 have hk:=kQ q
 rw [if_neg h] at hl
 have hc:=den_cut h
 generalize decB q.den=d at *
 generalize writeB q=s at *
 refine jT Tryz.func207 fun w00=>?_
 refine jB 152 [rS s] (eX (by omega)) ?_
 refine dO 7 22 Tryz.underlying22 s ?_
 refine jL (.binOp .eql 3 (.tmp 6) (.tmp 8) 3) (.tmp 6) (.tmp 8) (rI (aJ s:Nat)) (rI (s.size:Nat)) (rl false) (fun ρ o β w ho hx hy=>⟨.bool false,iZ ho (bA hx) (bA hy) (by simp;omega),eV rfl⟩) ?_
 refine radd 11 (aJ s) (by omega) ?_
 refine rslo 10 12 22 Tryz.underlying22 s (aJ s+1) d (by omega) hc ?_
 exact jS Tryz.func207
theorem denOfF {q:Rat} (hs:(writeB q).size≤1000000000):jF 207 [rS (writeB q)] (rS (decB q.den)):=by
 by_cases h:q.den=1
 ·exact denF1 hs h
 ·exact denF2 hs h
theorem dec0_ne {n:Nat} (h:n≠0):decB n≠zeroT:=fun e=>h (mG (e.trans dec0.symm))
theorem body_ne_zero {q:Rat} (h:q.num≠0):aZ q≠zeroT:=by
 by_cases hd:q.den=1
 ·rw [mF hd,cB]
  exact dec0_ne (by omega)
 ·intro e
  have hl:=oM q
  rw [if_neg hd,e] at hl
  have:zeroT.size=1:=rfl
  have:=sE q.num.natAbs
  omega
theorem kZ {q:Rat} (h:q.num≠0):writeB q≠zeroT:=by
 by_cases hn:q.num<0
 ·obtain ⟨f1,⟨h0,hc⟩,f3,f4,f5⟩:=gV hn
  intro e
  have h1:=(fV q).1
  rw [e,decide_eq_true hn] at h1
  exact absurd h1 (by decide)
 ·rw [dU hn]
  exact body_ne_zero h
theorem signF0 {q:Rat} (h:q.num=0):jF 95 [rS (writeB q)] (.fv (.sc (.lit (.int .i64 0)))):=by
 have e:((writeB q).toList==(⟨#[48]⟩:ByteArray).toList)=true:=by
  have hd:q.den=1:=by have:=q.reduced;rw [h] at this;simpa using this
  rw [jE hd,h]
  have:aP 0=zeroT:=by unfold aP;rw [if_neg (by omega)];exact dec0
  rw [this]
  exact beq_self_eq_true zeroT.toList
 generalize writeB q=s at *
 refine jT Tryz.func95 fun w00=>?_
 refine tY 3 22 s ⟨#[48]⟩ true e ?_
 exact jS Tryz.func95
theorem signFn {q:Rat} (h:q.num<0):jF 95 [rS (writeB q)] (.fv (.sc (.lit (.int .i64 (-1))))):=by
 have e:=dS (kZ (q:=q) (by omega))
 obtain ⟨f1,hc,f3,f4,f5⟩:=gV h
 have h0:decide ((0:Int)<((writeB q).size:Nat))=true:=by rw [decide_eq_true_iff];omega
 generalize writeB q=s at *
 refine jT Tryz.func95 fun w00=>?_
 refine tY 3 22 s ⟨#[48]⟩ false e ?_
 refine dO 5 22 Tryz.underlying22 s ?_
 refine iS 6 0 (s.size:Nat) true h0 ?_
 refine ridnR 9 s hc ?_
 exact jS Tryz.func95
theorem signFp {q:Rat} (h:0<q.num):jF 95 [rS (writeB q)] (.fv (.sc (.lit (.int .i64 1)))):=by
 have e:=dS (kZ (q:=q) (by omega))
 obtain ⟨c,hc,hc45⟩:=tZ q
 rw [← dU (by omega)] at hc
 have h0:decide ((0:Int)<((writeB q).size:Nat))=true:=by rw [decide_eq_true_iff];have:=hc.1;omega
 generalize writeB q=s at *
 refine jT Tryz.func95 fun w00=>?_
 refine tY 3 22 s ⟨#[48]⟩ false e ?_
 refine dO 5 22 Tryz.underlying22 s ?_
 refine iS 6 0 (s.size:Nat) true h0 ?_
 refine ridpR 9 s c hc ?_
 refine rueq 10 c hc45 ?_
 exact jS Tryz.func95
theorem absFn {q:Rat} (h:q.num<0) (hs:(writeB q).size≤1000000000):jF 205 [rS (writeB q)] (rS (aZ q)):=by
 have hg:=signFn h
 obtain ⟨f1,hc,f3,f4,f5⟩:=gV h
 generalize aZ q=u at *
 generalize writeB q=s at *
 refine jT Tryz.func205 fun w00=>?_
 refine jB 95 [rS s] hg ?_
 refine rsl1 6 22 Tryz.underlying22 s u f1 f3 ?_
 exact jS Tryz.func205
theorem absFp {q:Rat} (h:¬ q.num<0):jF 205 [rS (writeB q)] (rS (aZ q)):=by
 rw [← dU h]
 by_cases h0:q.num=0
 ·have hg:=signF0 h0
  generalize writeB q=s at *
  refine jT Tryz.func205 fun w00=>?_
  refine jB 95 [rS s] hg ?_
  exact jS Tryz.func205
 ·have hg:=signFp (q:=q) (by omega)
  generalize writeB q=s at *
  refine jT Tryz.func205 fun w00=>?_
  refine jB 95 [rS s] hg ?_
  exact jS Tryz.func205
theorem absOfF {q:Rat} (hs:(writeB q).size≤1000000000):jF 205 [rS (writeB q)] (rS (aZ q)):=by
 by_cases h:q.num<0
 ·exact absFn h hs
 ·exact absFp h
theorem absTF {z:Int} (hs:(aP z).size≤1000000000):jF 205 [rS (aP z)] (rS (decB z.natAbs)):=by
 have h:=absOfF (q:=(z:Rat)) (by rw [← dC];exact hs)
 have e:aZ (z:Rat)=decB z.natAbs:=by rw [mF rfl,cB];rfl
 rw [← dC,e] at h
 exact h
def Fw (k:Nat) (q:Rat):Prop:=(decB q.num.natAbs).size≤k∧(decB q.den).size≤k
theorem sN (z:Int):(aP z).size≤(decB z.natAbs).size+1:=by
 unfold aP
 split
 ·rw [ByteArray.size_append,size45];omega
 ·omega
theorem kn_I {f:FuncId} {s:ByteArray} {z:Int} (h:jF f [rS s] (rI z)):jF f [tx s] (.fv (.sc (iP z))):=by
 intro β w vs hv
 obtain ⟨v,rfl,h1⟩:=cW hv
 rw [aQ h1]
 exact (h β w [.string s] ⟨_,_,rfl,cJ,rfl⟩).mono fun e w' ⟨v,e1,e2,e3⟩=>⟨v,e1,e2,by rw [bA e3];exact bG⟩
theorem nE {f:FuncId} {s t u:ByteArray} (h:jF f [rS s,rS t] (rS u)):jF f [tx s,tx t] (tx u):=by
 intro β w vs hv
 obtain ⟨v,v2,rfl,h1,h2⟩:=dZ hv
 rw [aQ h1,aQ h2]
 exact (h β w [.string s,.string t] ⟨_,_,rfl,cJ,_,_,rfl,cJ,rfl⟩).mono fun e w' ⟨v,e1,e2,e3⟩=>⟨v,e1,e2,by rw [bA e3];exact bG⟩
abbrev t3 (a b c:ByteArray):AV Kn := .fv (.ag [bS a,bS b,bS c])
theorem chkF {q:Rat} (h1:(decB q.num.natAbs).size≤600) (h2:(decB q.den).size≤600):jF 102 [tx (writeB q)] (it 0):=by
 have hw:=jH q
 have ht:=sN q.num
 have h:=kn_I (checkAnyF (s:=writeB q) (by split at hw <;> omega))
 rw [uZ h1 h2] at h
 intro β w vs hv
 exact (h β w vs hv).mono fun e w' ⟨v,e1,e2,e3⟩=>⟨v,e1,e2,by rw [aQ e3];exact bB rfl⟩
section
variable {a b c:ByteArray} {n:Int}
theorem checkRow3 {T:TypeId} (h1:jF 102 [tx a] (it 0)) (h2:jF 102 [tx b] (it 0)) (h3:jF 102 [tx c] (it 0)):jF 47 [.fv (.nsl 3 T [bS a,bS b,bS c])] (it 0):=by
 refine nL Tryz.func47 (by kernel_rfl) fun w00=>?_
 refine jC 102 [tx a] (h1) ?_
 refine jC 102 [tx b] (h2) ?_
 refine jC 102 [tx c] (h3) ?_
 exact jR Tryz.func47
theorem checkVec3 (h1:jF 102 [tx a] (it 0)) (h2:jF 102 [tx b] (it 0)) (h3:jF 102 [tx c] (it 0)):jF 16 [t3 a b c] (it 0):=by
 refine jG Tryz.func16 fun w00=>?_
 refine jC 47 [.fv (.nsl 3 22 [bS a,bS b,bS c])] (checkRow3 h1 h2 h3) ?_
 exact jR Tryz.func16
end
theorem originF:jF 93 ([]:List (AV Kn)) (.fv (.ag [.lit (.string ⟨#[48]⟩),.lit (.string ⟨#[48]⟩),.lit (.string ⟨#[48]⟩)])):=by
 refine jG Tryz.func93 fun w00=>?_
 exact jR Tryz.func93
section
variable {a b c d e f:ByteArray} {x y z:ByteArray}
theorem addVecR (h1:jF 103 [tx a,tx d] (tx x)) (h2:jF 103 [tx b,tx e] (tx y)) (h3:jF 103 [tx c,tx f] (tx z)):jF 48 [t3 a b c,t3 d e f] (t3 x y z):=by
 refine jG Tryz.func48 fun w00=>?_
 refine jC 103 [tx a,tx d] (h1) ?_
 refine jC 103 [tx b,tx e] (h2) ?_
 refine jC 103 [tx c,tx f] (h3) ?_
 exact jR Tryz.func48
end
theorem vB (q:Rat):aZ (-q)=aZ q:=by
 unfold aZ
 rw [Rat.neg_den,Rat.neg_num,Int.natAbs_neg]
theorem zs_len {k:Nat} {q:Rat} (h:Zs k q):(writeB q).size≤2*k+4:=by
 have h1:=rV h.1
 have h2:=rV h.2
 have:=jH q
 have:=sN q.num
 split at * <;> omega
theorem negR {q:Rat} (hs:(writeB q).size≤1000000000):jF 161 [rS (writeB q)] (rS (writeB (-q))):=by
 by_cases h:q.num<0
 ·rw [dU (q := -q) (by rw [Rat.neg_num];omega),vB]
  have hg:=signFn h
  obtain ⟨f1,hc,f3,f4,f5⟩:=gV h
  generalize aZ q=u at *
  generalize writeB q=s at *
  refine jT Tryz.func161 fun w00=>?_
  refine jB 95 [rS s] hg ?_
  refine rsl1 6 22 Tryz.underlying22 s u f1 f3 ?_
  exact jS Tryz.func161
 ·by_cases h0:q.num=0
  ·have e:-q=q:=by
    have:q=0:=Rat.num_eq_zero.1 h0
    rw [this]
    rfl
   rw [e]
   have hg:=signF0 h0
   generalize writeB q=s at *
   refine jT Tryz.func161 fun w00=>?_
   refine jB 95 [rS s] hg ?_
   refine jB 95 [rS s] hg ?_
   exact jS Tryz.func161
  ·rw [lX (q := -q) (by rw [Rat.neg_num];omega),vB,← dU h]
   have hg:=signFp (q:=q) (by omega)
   have hcat:(⟨#[45]⟩:ByteArray).size+(writeB q).size≤9223372036854775807:=by rw [size45];omega
   generalize writeB q=s at *
   refine jT Tryz.func161 fun w00=>?_
   refine jB 95 [rS s] hg ?_
   refine jB 95 [rS s] hg ?_
   refine jL (.binOp .add 22 (.const (.string ⟨#[45]⟩)) (.tmp 12) 22) (.const (.string ⟨#[45]⟩)) (.tmp 12) (.fv (.sc (.lit (.string ⟨#[45]⟩)))) (rS s) (rS (⟨#[45]⟩++s)) (fun ρ o β w ho hx hy=>⟨_,eN ho (bV hx) (bA hy) hcat,cJ⟩) ?_
   exact jS Tryz.func161
theorem zs_neg {k:Nat} {q:Rat} (h:Zs k q):Zs k (-q):=by
 unfold Zs
 rw [Rat.neg_den,Rat.neg_num,Int.natAbs_neg]
 exact h
theorem subR {p q:Rat} (hp:Zs 10000 p) (hq:Zs 10000 q):jF 105 [rS (writeB p),rS (writeB q)] (rS (writeB (p-q))):=by
 have h1:=negR (q:=q) (by have:=zs_len hq;omega)
 have h2:=pE hp (zs_neg hq)
 rw [← Rat.sub_eq_add_neg] at h2
 generalize writeB (p-q)=x at *
 generalize writeB (-q)=y at *
 generalize writeB p=a at *
 generalize writeB q=b at *
 refine jT Tryz.func105 fun w00=>?_
 refine jB 161 [rS b] h1 ?_
 refine jB 103 [rS a,rS y] h2 ?_
 exact jS Tryz.func105
section
variable {a b c d e f:ByteArray} {x y z u v:ByteArray}
theorem subVecR (h1:jF 105 [tx a,tx d] (tx x)) (h2:jF 105 [tx b,tx e] (tx y)) (h3:jF 105 [tx c,tx f] (tx z)):jF 50 [t3 a b c,t3 d e f] (t3 x y z):=by
 refine jG Tryz.func50 fun w00=>?_
 refine jC 105 [tx a,tx d] (h1) ?_
 refine jC 105 [tx b,tx e] (h2) ?_
 refine jC 105 [tx c,tx f] (h3) ?_
 exact jR Tryz.func50
theorem dotR (h1:jF 106 [tx a,tx d] (tx x)) (h2:jF 106 [tx b,tx e] (tx y)) (h3:jF 103 [tx x,tx y] (tx u)) (h4:jF 106 [tx c,tx f] (tx z)) (h5:jF 103 [tx u,tx z] (tx v)):jF 52 [t3 a b c,t3 d e f] (tx v):=by
 refine jG Tryz.func52 fun w00=>?_
 refine jC 106 [tx a,tx d] (h1) ?_
 refine jC 106 [tx b,tx e] (h2) ?_
 refine jC 103 [tx x,tx y] (h3) ?_
 refine jC 106 [tx c,tx f] (h4) ?_
 refine jC 103 [tx u,tx z] (h5) ?_
 exact jR Tryz.func52
theorem squareR (h:jF 52 [t3 a b c,t3 a b c] (tx v)):jF 46 [t3 a b c] (tx v):=by
 refine jG Tryz.func46 fun w00=>?_
 refine jC 52 [t3 a b c,t3 a b c] (h) ?_
 exact jR Tryz.func46
end
end Ab
section
open Go.RowKit Pl
end
namespace Ab
open Go.RowKit Pl
end Ab
namespace Ab
open Go.RowKit
theorem equal3 {P:Program} {T e:TypeId} {x0 x1 x2 y0 y1 y2:Value} {r0 r1 r2:Bool} (d:Nat) (hT:P.underlying T=some (.array 3 e)) (he:P.cellsOf e=1) (ha:∀ w,(isAgg e).run P w = .ok false w) (hs:∀ w,(sizeOf e).run P w = .ok 1 w)
 (h0:∀ w,(Op.equalIn d e x0 y0).run P w = .ok r0 w) (h1:∀ w,(Op.equalIn d e x1 y1).run P w = .ok r1 w) (h2:∀ w,(Op.equalIn d e x2 y2).run P w = .ok r2 w) (w:World) :
 (Op.equalIn (d+1) T (.agg #[x0,x1,x2]) (.agg #[y0,y1,y2])).run P w = .ok (r0&&r1&&r2) w:=by
 rw [Op.equalIn]
 simp only [Sem.run_bind,run_underlying hT,Result.andThen_ok,hs]
 simp only [Std.Legacy.Range.forIn_eq_forIn_range',Std.Legacy.Range.size,Nat.sub_zero,Nat.add_sub_cancel,Nat.div_one,List.range'_succ,List.range'_zero,List.forIn_cons,List.forIn_nil]
 simp [go_sem,ha,hs,h0,h1,h2]
 cases r0 <;> cases r1 <;> cases r2 <;> simp
end Ab
namespace Ab
open Go.RowKit Pl
theorem iss_run {o:Oper} {ρ:Operand→Value} {w:World} {x y:Operand} {a b:Int} {r:Bool} (ho:o.op = .binOp .lss 3 x y 3) (hx:ρ x = .int .i64 a) (hy:ρ y = .int .i64 b) (h:decide (a<b)=r) :
 (execOp ρ o).run Tryz.prog w = .ok (.value (.bool r)) w:=by
 simp only [execOp,ho,hx,hy]
 refine bI ?_
 rw [← h]
 exact bW (by kernel_rfl) w
theorem guard_eq {T:TypeId} {xs ys:Array Value} {x y:Operand} (h:Tryz.prog.eqGuardType Tryz.prog.depth T=false) (w:World):(eqGuard .eql T x y (.agg xs) (.agg ys)).run Tryz.prog w = .ok () w:=by
 simp [eqGuard,Sem.run_bind,run_program,h]
theorem agg_eq {o:Oper} {ρ:Operand→Value} {w:World} {x y:Operand} {xs ys:Array Value} {T T' : TypeId} {r:Bool} (hg:Tryz.prog.eqGuardType Tryz.prog.depth T=false) (h:(Op.equal T (.agg xs) (.agg ys)).run Tryz.prog w = .ok r w) (ho:o.op = .binOp .eql T x y T') (hx:ρ x = .agg xs) (hy:ρ y = .agg ys) :
 (execOp ρ o).run Tryz.prog w = .ok (.value (.bool r)) w:=by
 simp only [execOp,ho,hx,hy]
 refine bI ?_
 simp only [Sem.run_bind,guard_eq hg,Result.andThen_ok]
 show (do pure (Value.bool (← Op.equal T (.agg xs) (.agg ys))):Sem Value).run Tryz.prog w=_
 rw [Sem.run_bind,h]
 rfl
theorem equalZ (a b c x y z:Int) (w:World):(Op.equal 49 (.agg #[.int .i64 a,.int .i64 b,.int .i64 c]) (.agg #[.int .i64 x,.int .i64 y,.int .i64 z])).run Tryz.prog w = .ok (a==x&&b==y&&c==z) w :=
 equal3 9999 (e:=3) (by kernel_rfl) (by kernel_rfl) (fun w=>by kernel_rfl) (fun w=>by kernel_rfl) (fun w=>run_equalIn_int w _ _ _ .i64 _ _ (by kernel_rfl)) (fun w=>run_equalIn_int w _ _ _ .i64 _ _ (by kernel_rfl)) (fun w=>run_equalIn_int w _ _ _ .i64 _ _ (by kernel_rfl)) w
theorem equalT (a b c x y z:ByteArray) (w:World):(Op.equal 24 (.agg #[.string a,.string b,.string c]) (.agg #[.string x,.string y,.string z])).run Tryz.prog w = .ok (a.toList==x.toList&&b.toList==y.toList&&c.toList==z.toList) w :=
 equal3 9999 (e:=22) (by kernel_rfl) (by kernel_rfl) (fun w=>by kernel_rfl) (fun w=>by kernel_rfl) (fun w=>run_equalIn_string w _ _ _ _ (by kernel_rfl)) (fun w=>run_equalIn_string w _ _ _ _ (by kernel_rfl)) (fun w=>run_equalIn_string w _ _ _ _ (by kernel_rfl)) w
abbrev i3 (a b c:Int):AV Kn := .fv (.ag [iP a,iP b,iP c])
theorem i3_is {a b c:Int} {β:List Nat} {v:Value} {w:World} (h:(i3 a b c).holds β v w):v = .agg #[.int .i64 a,.int .i64 b,.int .i64 c]:=by
 obtain ⟨cs,rfl,x1,r1,rfl,h1,x2,r2,rfl,h2,x3,r3,rfl,h3,e⟩:=h
 rw [show r3 = [] from e,show x1=_ from h1,show x2=_ from h2,show x3=_ from h3]
 rfl
theorem s3_is {a b c:ByteArray} {β:List Nat} {v:Value} {w:World} (h:(.fv (.ag [bS a,bS b,bS c]):AV Kn).holds β v w):v = .agg #[.string a,.string b,.string c]:=by
 obtain ⟨cs,rfl,x1,r1,rfl,h1,x2,r2,rfl,h2,x3,r3,rfl,h3,e⟩:=h
 rw [show r3 = [] from e,show x1=_ from h1,show x2=_ from h2,show x3=_ from h3]
 rfl
theorem l3_is {a b c:Value} {β:List Nat} {v:Value} {w:World} (h:(.fv (.ag [.lit a,.lit b,.lit c]):AV Kn).holds β v w):v = .agg #[a,b,c]:=by
 obtain ⟨cs,rfl,x1,r1,rfl,h1,x2,r2,rfl,h2,x3,r3,rfl,h3,e⟩:=h
 rw [show r3 = [] from e,h1.1,h2.1,h3.1]
 rfl
section
variable {f:FuncId} {w00:World} {Out:Value→World→Prop} {c:Cfg Kn}
theorem klt (x y:Operand) (a b:Int) (r:Bool) (Y:AV Kn) (hY:∀ β v w,Y.holds β v w→v = .int .i64 b) (h:decide (a<b)=r) (hg:Ok Tryz.prog f w00 Out (cD Tryz.prog 1000 (c.give (bl r))))
 (hc:(c.op.map fun o=>o.op,c.okT (bl r),c.ev x,c.ev y)=(some (.binOp .lss 3 x y 3),true,.fv (.sc (iP a)),Y):=by kernel_rfl):Ok Tryz.prog f w00 Out c :=
 qH (.binOp .lss 3 x y 3) x y _ _ (bl r) hc (by simp [Op.operands]) (by simp [Op.operands]) (fun ρ o β w ho hx hy=>⟨_,iss_run ho (aQ hx) (hY _ _ _ hy) h,bB rfl⟩) hg
theorem kgg (x y:Operand) (a b:Int) (r:Bool) (Y:AV Kn) (hY:∀ β v w,Y.holds β v w→v = .int .i64 b) (h:decide (b<a)=r) (hg:Ok Tryz.prog f w00 Out (cD Tryz.prog 1000 (c.give (bl r))))
 (hc:(c.op.map fun o=>o.op,c.okT (bl r),c.ev x,c.ev y)=(some (.binOp .gtr 3 x y 3),true,.fv (.sc (iP a)),Y):=by kernel_rfl):Ok Tryz.prog f w00 Out c :=
 qH (.binOp .gtr 3 x y 3) x y _ _ (bl r) hc (by simp [Op.operands]) (by simp [Op.operands]) (fun ρ o β w ho hx hy=>⟨_,xS ho (aQ hx) (hY _ _ _ hy) h,bB rfl⟩) hg
theorem cU {b:Int} (β:List Nat) (v:Value) (w:World) (h:(it b).holds β v w):v = .int .i64 b:=aN h
theorem kz3 (x y:Operand) (a b d:Int) (r:Bool) (h:(a==0&&b==0&&d==0)=r) (hg:Ok Tryz.prog f w00 Out (cD Tryz.prog 1000 (c.give (bl r))))
 (hc:(c.op.map fun o=>o.op,c.okT (bl r),c.ev x,c.ev y)=(some (.binOp .eql 49 x y 49),true,i3 a b d,iv 0 0 0):=by kernel_rfl):Ok Tryz.prog f w00 Out c :=
 qH (.binOp .eql 49 x y 49) x y _ _ (bl r) hc (by simp [Op.operands]) (by simp [Op.operands]) (fun ρ o β w ho hx hy=>⟨_,agg_eq (by kernel_rfl) (h▸equalZ a b d 0 0 0 w) ho (i3_is hx) (l3_is hy),bB rfl⟩) hg
theorem kneg (t:Tmp) (a:Int) (ha:yR a) (ha2:yR (-a)) (hg:Ok Tryz.prog f w00 Out (cD Tryz.prog 1000 (c.give (.fv (.sc (iP (-a)))))))
 (hc:(c.op.map fun o=>o.op,c.okT (.fv (.sc (iP (-a)))),c.ev (.tmp t),c.ev (.tmp t))=(some (.unOp .neg 3 (.tmp t)),true,.fv (.sc (iP a)),.fv (.sc (iP a))):=by kernel_rfl):Ok Tryz.prog f w00 Out c :=
 qH (.unOp .neg 3 (.tmp t)) (.tmp t) (.tmp t) _ _ (.fv (.sc (iP (-a)))) hc (by simp [Op.operands]) (by simp [Op.operands]) (fun ρ o β w ho hx hy=>⟨_,by
  simp only [execOp,ho,aQ hx]
  refine bI ?_
  have e:IntKind.i64.wrap (-a) = -a:=by rw [IntWalk.i64_left,IntWalk.wrap64_in _ ⟨by have:=ha2.1;omega,by have:=ha2.2;omega⟩]
  simp [go_sem,e],bG⟩) hg
theorem kabs (t u:Tmp) (a:Int) (hg:Ok Tryz.prog f w00 Out (cD Tryz.prog 1000 (c.give (.fv (.sc (iP (a.natAbs:Int)))))))
 (hc:(c.op.map fun o=>o.op,c.okT (.fv (.sc (iP (a.natAbs:Int)))),c.ev (.tmp t),c.ev (.tmp u))=(some (.call ⟨.builtin .max,#[.tmp t,.tmp u],#[3,3]⟩),true,.fv (.sc (iP a)),.fv (.sc (iP (-a)))):=by kernel_rfl):Ok Tryz.prog f w00 Out c :=
 qH (.call ⟨.builtin .max,#[.tmp t,.tmp u],#[3,3]⟩) (.tmp t) (.tmp u) _ _ (.fv (.sc (iP (a.natAbs:Int)))) hc (by simp [Op.operands,Call.operands]) (by simp [Op.operands,Call.operands]) (fun ρ o β w ho hx hy=>⟨_,by
  have e:max a (-a)=(a.natAbs:Int):=by rw [Int.max_def];split <;> omega
  rw [← e]
  simp only [execOp,ho]
  refine bI ?_
  simp [go_sem,aQ hx,aQ hy],bG⟩) hg
theorem kcvu (t:Tmp) (a:Nat) (ha:a<9223372036854775808) (hg:Ok Tryz.prog f w00 Out (cD Tryz.prog 1000 (c.give (.fv (.sc (.lit (.int .u64 (a:Int))))))))
 (hc:(c.op.map fun o=>o.op,c.okT (.fv (.sc (.lit (.int .u64 (a:Int))))),c.ev (.tmp t),c.ev (.tmp t))=(some (.convert 3 154 (.tmp t)),true,.fv (.sc (iP (a:Int))),.fv (.sc (iP (a:Int)))):=by kernel_rfl):Ok Tryz.prog f w00 Out c :=
 qH (.convert 3 154 (.tmp t)) (.tmp t) (.tmp t) _ _ (.fv (.sc (.lit (.int .u64 (a:Int))))) hc (by simp [Op.operands]) (by simp [Op.operands]) (fun ρ o β w ho hx hy=>⟨_,by
  simp only [execOp,ho,aQ hx]
  refine bI ?_
  have e:IntKind.u64.wrap (a:Int)=a:=by simp [IntKind.wrap,IntKind.bits,IntKind.signed];omega
  simp [go_sem,e],bB rfl⟩) hg
end
end Ab
end Go.Proofs.YtagahkpgdakofaaGreatDoor
