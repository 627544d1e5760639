/- Parts of the proof, joined. -/
import Derived.Lib.SmallJoins
import Derived.Laws.ResultCell
import Derived.Test.YtejbgingjeedaaaGreatDoorJ5
import Derived.WalkLawsBesides
import Derived.Test.YtejbgingjeedaaaGreatDoorJ4
import Derived.BigRegion
import Derived.Test.YtejbgingjeedaaaGreatDoorJ1
set_option linter.unusedSimpArgs false
set_option linter.unusedVariables false
namespace Go.Proofs.YtejbgingjeedaaaGreatDoor
open Go.RowKit Pl
set_option maxHeartbeats 1000000 in
theorem jE (a b:Nat) (w:World) (ha:a<aD) (hb:b<aD) :
 Calls Tryz.prog 182 #[.int .u64 (a:Int),.int .u64 (b:Int)] w (Gives w (.int .u64 ((Nat.gcd a b:Nat):Int))):=by
 have HA:=aH (aI ha hb)
 clear ha hb
 go_enter Tryz.func182,Tryz.ntmps182
 go_wp2
 go_loopw [0,1] (fun x y wr => ∃ p q:Nat,x = .int .u64 (p:Int)∧y = .int .u64 (q:Int)∧Hid (Nat.gcd p q=Nat.gcd a b∧p<aD∧q<aD)∧Below w.heap.size w wr) (fun _ y _=>(intOf y).toNat)
 case atStart=>exact ⟨a,b,rfl,rfl,⟨rfl,HA.out.1,HA.out.2⟩,Below.refl _ _⟩
 case round =>
  obtain ⟨p,q,rfl,rfl,hpq,hbe⟩:=hrel
  rcases Nat.eq_zero_or_pos q with rfl|hq
  ·have ht:(((0:Nat):Int) != 0)=false:=by simp
   simp only [Int.natCast_zero] at ht ⊢
   go_wp2
   go_ret
   refine ⟨bX ?_,hbe⟩
   rw [← hpq.out.1,Nat.gcd_zero_right]
  ·have ht:((q:Int) != 0)=true:=by simp;omega
   obtain ⟨r,hr⟩:∃ r:Nat,r=p%q:=⟨_,rfl⟩
   have hrq:r<q:=by rw [hr];exact Nat.mod_lt _ hq
   have e2:(p:Int).tmod q=r:=by rw [hr,Int.tmod_eq_emod_of_nonneg (by omega),Int.natCast_emod]
   have e4:(p:Int)%q=r:=by rw [hr,Int.natCast_emod]
   have hbd:(r:Int)≤18446744073709551615:=by have:=hpq.out;have:=aJ;omega
   have hne:¬ ((q:Int)=0):=by omega
   have HH:Hid (Nat.gcd q r=Nat.gcd a b∧q<aD∧r<aD):=by
    have:=hpq.out
    refine ⟨?_,this.2.2,by omega⟩
    rw [← this.1,hr,Nat.gcd_comm p q,Nat.gcd_rec q p,Nat.gcd_comm]
   clear hr
   go_wp2
   go_quiet (fail)
   go_wp2
   go_roundw
   case rel=>exact ⟨q,r,rfl,rfl,HH,cI hbe _⟩
   case measure=>simp [intOf];omega
def nZ (oa ob na nb s:Nat):Value := .agg #[.int .u64 (oa:Int),.int .u64 (ob:Int),.int .u64 (na:Int),.int .u64 (nb:Int),.int .i64 (s:Int)]
set_option maxHeartbeats 1000000 in
theorem xC (oa ob na nb s q oa2 ob2:Nat) (w:World) (h1:oa+q*na=oa2) (h2:ob+q*nb=ob2) (b1:oa2<aD) (b2:ob2<aD) (hs:s<4294967296) :
 Calls Tryz.prog 233 #[.agg #[.int .u64 (oa:Int),.int .u64 (ob:Int),.int .u64 (na:Int),.int .u64 (nb:Int),.int .i64 (s:Int)],.int .u64 (q:Int)] w fun e w' =>
  e = .returned (.agg #[.int .u64 (na:Int),.int .u64 (nb:Int),.int .u64 (oa2:Int),.int .u64 (ob2:Int),.int .i64 ((s:Int)+1)])∧Below w.heap.size w w':=by
 obtain ⟨p1,hp1⟩:∃ p1:Nat,(q:Int)*na=p1:=⟨q*na,by simp⟩
 obtain ⟨p2,hp2⟩:∃ p2:Nat,(q:Int)*nb=p2:=⟨q*nb,by simp⟩
 have k1:(oa:Int)+p1=oa2:=by rw [← hp1,← h1];simp
 have k2:(ob:Int)+p2=ob2:=by rw [← hp2,← h2];simp
 have c1:(oa2:Int)≤18446744073709551615:=by have:=aJ;omega
 have c2:(ob2:Int)≤18446744073709551615:=by have:=aJ;omega
 have c3:(p1:Int)≤18446744073709551615:=by omega
 have c4:(p2:Int)≤18446744073709551615:=by omega
 clear h1 h2 b1 b2
 go_enter Tryz.func233,Tryz.ntmps233
 go_wp2
 exact bodyPost_ret (v := .agg #[.int .u64 (na:Int),.int .u64 (nb:Int),.int .u64 (oa2:Int),.int .u64 (ob2:Int),.int .i64 ((s:Int)+1)]) (by simp [results,Tryz.results233,go_sem]) rfl ⟨rfl,((Below.refl _ _).alloc (Nat.le_refl _) _).alloc (by simp) _⟩
def LowInv (us zs:List Nat) (Y i bw:Nat):Prop :=
 Dig aD zs∧zs.length=us.length∧bw<aD∧val aD (zs.take i)+Y=val aD (us.take i)+aD^i*bw∧zs.drop i=us.drop i
theorem low_alg (A Y B P bw W r q u:Nat) (h:A+Y=B+P*bw) (h2:r+bw=u+W*q):A+P*r+Y=B+P*u+P*W*q:=by grind
theorem LowInv.step {us zs:List Nat} {Y i bw u:Nat} (h:LowInv us zs Y i bw) (hu:zs[i]?=some u) :
 LowInv us (zs.set i ((u+aD-bw-0)%aD)) Y (i+1) (if u<bw+0 then 1 else 0):=by
 obtain ⟨h1,h2,h3,h4,h5⟩:=h
 obtain ⟨hi,eu⟩:=List.getElem?_eq_some_iff.1 hu
 have ul:=h1.at_ hu
 have eus:us[i]'(by omega)=u:=by
  have e1:=List.drop_eq_getElem_cons hi
  have e2:=List.drop_eq_getElem_cons (l:=us) (i:=i) (by omega)
  rw [h5] at e1
  rw [e1] at e2
  injection e2 with e2
  rw [← e2,eu]
 have hr:(u+aD-bw-0)%aD<aD:=Nat.mod_lt _ bC
 have hdm:(u+aD-bw-0)%aD+bw=u+aD*(if u<bw+0 then 1 else 0):=by
  have:=aJ
  rw [this] at ul h3 ⊢
  split <;> omega
 refine ⟨h1.set hr,by simp [h2],by split <;> (have:=eH;omega),?_,?_⟩
 ·rw [aF _ _ _ (by simp;omega),List.take_set_of_le (Nat.le_refl _),List.getElem_set_self,aF _ _ _ (by omega),eus,Nat.pow_succ]
  generalize (if u<bw+0 then 1 else 0)=q at *
  generalize (u+aD-bw-0)%aD=r at *
  exact low_alg _ _ _ _ _ _ _ _ _ h4 hdm
 ·rw [List.drop_set_of_lt (by omega)]
  have e1:=List.drop_eq_getElem_cons hi
  have e2:=List.drop_eq_getElem_cons (l:=us) (i:=i) (by omega)
  rw [h5,e2] at e1
  injection e1 with _ e1
  exact e1.symm
theorem LowInv.finish {us zs:List Nat} {Y bw:Nat} (h:LowInv us zs Y us.length bw) (hY:Y≤val aD us):val aD zs=val aD us-Y:=by
 obtain ⟨h1,h2,h3,h4,h5⟩:=h
 rw [List.take_of_length_le (by omega),List.take_of_length_le (Nat.le_refl _)] at h4
 have hz:=bV h1
 rw [h2] at hz
 rcases Nat.eq_zero_or_pos bw with e|e
 ·subst e
  rw [Nat.mul_zero] at h4
  omega
 ·have:aD^us.length*1≤aD^us.length*bw:=Nat.mul_le_mul_left _ e
  omega
theorem first_part {zs:List Nat} {n L cy X:Nat} (hl:zs.length=n) (hd:Dig aD zs) (hc:cy<aD) (hn:n<L) (hv:val aD zs+aD^n*cy=val aD (((List.replicate L 0).drop 0).take n)+X) :
 Dig aD ((put (List.replicate L 0) 0 zs).set n cy)∧((put (List.replicate L 0) 0 zs).set n cy).length=L∧val aD ((put (List.replicate L 0) 0 zs).set n cy)=X:=by
 subst hl
 have hlen:(put (List.replicate L 0) 0 zs).length=L:=by rw [cV (by simp;omega)];simp
 have e1:(put (List.replicate L 0) 0 zs).set (0+zs.length) cy=put (List.replicate L 0) 0 (zs ++ [cy]):=iC rfl (by simp;omega)
 rw [Nat.zero_add] at e1
 refine ⟨(rD (Dig.replicate bC _) hd).set hc,by rw [List.length_set,hlen],?_⟩
 rw [e1]
 unfold put
 rw [List.take_zero,List.nil_append,fT,cL,List.drop_replicate,lG,Nat.mul_zero,Nat.add_zero,hv]
 rw [List.drop_zero,List.take_replicate,lG,Nat.zero_add]
theorem second_part {us zs:List Nat} {n' bor Y:Nat} (hl:zs.length=n') (hd:Dig aD zs) (hu:Dig aD us) (hc:bor<aD) (hn:n'≤us.length) (hv:val aD zs+Y=val aD ((us.drop 0).take n')+aD^n'*bor) :
 LowInv us (put us 0 zs) Y n' bor:=by
 subst hl
 have hlen:(put us 0 zs).length=us.length:=cV (by omega)
 refine ⟨rD hu hd,hlen,hc,?_,?_⟩
 ·have e:(put us 0 zs).take zs.length=zs:=by
   unfold put
   rw [List.take_zero,List.nil_append,List.take_append_of_le_length (Nat.le_refl _),List.take_of_length_le (Nat.le_refl _)]
  rw [e,hv,List.drop_zero]
 ·unfold put
  rw [List.take_zero,List.nil_append,List.drop_append_of_le_length (Nat.le_refl _),List.drop_of_length_le (Nat.le_refl _),List.nil_append,Nat.zero_add]
set_option maxHeartbeats 2000000 in
theorem xD (x:Nat) (A:Option Addr) (n c:Nat) (xs:List Nat) (y:Nat) (A' : Option Addr) (n' c' : Nat) (ys:List Nat) (w:World) (h:Rd w A n c xs) (h' : Rd w A' n' c' ys)
 (hd:Dig aD xs) (hd' : Dig aD ys) (hx:x<aD) (hy:y<aD) (hn:n≤2199023255551) (hn' : n'≤2199023255551) (hge:y*val aD ys≤x*val aD xs) :
 Calls Tryz.prog 234 #[.int .u64 (x:Int),.slice A n c,.int .u64 (y:Int),.slice A' n' c'] w (GivesNt w (x*val aD xs-y*val aD ys)):=by
 have HX:=aH (aI h (aI hd hx))
 have HY:=aH (aI h' (aI hd' (aI hy hge)))
 have hnc:n≤c:=h.cap
 have hcm:c≤9223372036854775807:=h.2.2.1
 have hnc' : n'≤c':=h'.cap
 have hcm' : c'≤9223372036854775807:=h'.2.2.1
 obtain ⟨i0,hi,hz0,hz1,hz2⟩:=info_parts eR
 have HI:=aH (aI hi (aI hz0 (aI hz1 hz2)))
 clear h h' hd hd' hi hz0 hz1 hz2 hx hy hge
 obtain ⟨M,hM,hM1,hM2,hM3⟩:∃ M:Nat,max (n:Int) n'=M∧n≤M∧n'≤M∧M≤2199023255551:=⟨max n n',by omega,by omega,by omega,by omega⟩
 go_enter Tryz.func234,Tryz.ntmps234
 go_wp2_with (at_make;refine wpList_make_full _ rfl _ _ 94 rfl w.heap.size 154 i0 (.int .u64 0) 1 Tryz.underlying94 HI.out.1 HI.out.2.1 HI.out.2.2.1 _ _ _ _ (M+1) rfl rfl ?b0 ?b1 ?b2 ?b3 (Nat.le_refl _) ?_)
 case b0=>omega
 case b1=>omega
 case b2=>rw [HI.out.2.2.2];omega
 case b3=>show M+1≤9223372036854775807;omega
 intro w1 hown hg1
 have hb1:Below w.heap.size w w1:=(Below.refl _ _).grown hg1 (Nat.le_refl _) (fun _ h=>by cases h)
 have hblk:=dQ hown
 obtain ⟨g,hg⟩:∃ g,g=w.heap.size:=⟨_,rfl⟩
 rw [← hg] at hblk ⊢
 have HG:=aH hg
 have ca:=iQ g 0 n (M+1) 154 (List.replicate (M+1) 0) A n c xs x w1 hblk (Dig.replicate bC _) (by simp;omega) (Nat.le_refl _) (by omega) (by omega) (HX.out.1.below hb1) HX.out.2.1 (HX.out.1.away (by omega)) HX.out.2.2
 have CA:=aH ca
 have HM:=aH hM
 obtain ⟨L,hL⟩:∃ L,L=M+1:=⟨_,rfl⟩
 have hLi:(M:Int)+1=L:=by omega
 rw [← hL] at CA ⊢
 have hL1:n<L:=by omega
 have hL2:n'<L:=by omega
 have hL3:L≤2199023255552:=by omega
 clear hown hg1 hblk ca hg hM hM1 hM2 hM3 hL
 go_wp2_with fail
 refine CA.out.mono ?_
 rintro e w2 ⟨zs,cy,rfl,q1,q2,q3,q4,q5,q6⟩
 obtain ⟨f1,f2,f3⟩:=first_part q1 q2 q3 hL1 q4
 have hb2:Below w.heap.size w w2:=hb1.grown q6 hb1.size (fun _ h=>by injection h with h;rw [← h,HG.out];exact Nat.le_refl _)
 obtain ⟨z,hcz⟩:∃ z:Int,w2.cell? ⟨g,n,none⟩=some (.int .u64 z):=⟨_,q5.cell_get (by rw [cV (by simp;omega)];simp;omega)⟩
 have hfz:=q5.frozen n
 obtain ⟨us,hus⟩:∃ us,us=(put (List.replicate L 0) 0 zs).set n cy:=⟨_,rfl⟩
 rw [← hus] at f1 f2 f3
 have hblk3:Blk (w2.setCell ⟨g,n,none⟩ (.int .u64 (cy:Int))) g 154 us:=by rw [hus];exact q5.set_ _ _
 have hb3:Below w.heap.size w (w2.setCell ⟨g,n,none⟩ (.int .u64 (cy:Int))):=hb2.setCell (by rw [HG.out];exact Nat.le_refl _) _
 have hw3:=aH (aI hblk3 (aI hb3 (aI f1 (aI f2 f3))))
 clear hblk3 hb3 f1 f2 f3 hus q1 q2 q3 q4 q5 q6 hb2 hb1 CA
 go_wp2_with fail
 generalize w2.setCell ⟨g,n,none⟩ (.int .u64 (cy:Int))=w3 at *
 obtain ⟨hblk3,hb3,f1,f2,f3⟩:=hw3.out
 refine (lI g 0 n' L 154 us A' n' c' ys y w3 hblk3 f1 (by omega) (Nat.le_refl _) (by omega) (by omega) (HY.out.1.below hb3) HY.out.2.1 (HY.out.1.away (by rw [HG.out];exact Nat.le_refl _)) HY.out.2.2.1).mono ?_
 rintro e w4 ⟨zs2,bor,rfl,q1,q2,q3,q4,q5,q6⟩
 have hb4:Below w.heap.size w w4:=hb3.grown q6 hb3.size (fun _ h=>by injection h with h;rw [← h,HG.out];exact Nat.le_refl _)
 have hlow:=second_part q1 q2 f1 q3 (by omega) q4
 have H4:=aH (aI hlow (aI q5 (aI hb4 (aI f2 f3))))
 clear hblk3 hb3 f1 f2 f3 q1 q2 q3 q4 q5 q6 hb4 hlow hw3 hcz hfz
 go_wp2
 go_loopw [10,11] (fun b i wr => ∃ (k bw:Nat) (qs:List Nat),n'≤k∧k≤L∧i = .int .i64 (k:Int)∧b = .int .u64 (bw:Int)∧LowInv us qs (y*val aD ys) k bw∧Blk wr g 154 qs∧Below w.heap.size w wr) (fun _ i _=>L-(intOf i).toNat)
 case atStart=>exact ⟨n',bor,_,Nat.le_refl _,by omega,rfl,rfl,H4.out.1,H4.out.2.1,H4.out.2.2.1⟩
 case round =>
  obtain ⟨k,bw,qs,hk1,hk2,rfl,rfl,hinv,hblk,hb⟩:=hrel
  have hql:qs.length=L:=by rw [hinv.2.1];exact H4.out.2.2.2.1
  by_cases hlt:k<L
  ·obtain ⟨u,hu⟩:∃ u,qs[k]?=some u:=⟨_,List.getElem?_eq_getElem (by omega)⟩
   have hcz:=hblk.cell hu
   have hfz:=hblk.frozen k
   have hst:=hinv.step hu
   obtain ⟨q,hq⟩:∃ q:Nat,q=if u<bw+0 then 1 else 0:=⟨_,rfl⟩
   obtain ⟨r,hr⟩:∃ r:Nat,r=(u+aD-bw-0)%aD:=⟨_,rfl⟩
   have hsub:∀ w,(callFunc 262 #[.int .u64 (u:Int),.int .u64 (bw:Int),.int .u64 0]).run Tryz.prog w = .ok (.value (.tuple #[.int .u64 (r:Int),.int .u64 (q:Int)])) w:=by
    intro w
    have:=mQ u bw 0 (by omega) w
    rw [← hq,← hr] at this
    exact this
   rw [← hq,← hr] at hst
   have HE:=aH (aI hst hblk)
   clear hst hblk hinv hu hql hq hr
   go_wp2
   go_roundw
   case rel=>exact ⟨k+1,q,qs.set k r,by omega,by omega,by go_num,rfl,HE.out.1,HE.out.2.set_ _ _,hb.setCell (by rw [HG.out];exact Nat.le_refl _) _⟩
   case measure=>simp [intOf];omega
  ·obtain rfl:k=L:=by omega
   have hrd:=hblk.rd (by rw [hql];show k≤9223372036854775807;omega)
   rw [hql] at hrd
   have hfin:val aD qs=x*val aD xs-y*val aD ys:=by
    have h2:=H4.out.2.2.2
    have hi2:=hinv
    rw [← h2.1] at hi2
    rw [hi2.finish (by rw [h2.2];exact HY.out.2.2.2),h2.2]
   have HF:=aH (aI hinv.1 (aI hfin hrd))
   clear hrd hfin hinv hblk hql hlt
   go_wp2_with (go_at_call 187;refine (eE _ _ _ qs _ HF.out.2.2 HF.out.1).mono ?_;rintro e w' ⟨⟨v,rfl,hv⟩,rfl⟩)
   go_ret
   exact ⟨v,rfl,by rw [← HF.out.2.1];exact hv,hb⟩
theorem lead_alg (Z P T S W a1 a2 q r:Nat) (hW:W=T*S) (h:T*q+r=a2):Z+P*a2+P*W*a1=(a1*S+q)*(T*P)+(r*P+Z):=by subst hW;subst h;grind
theorem zG {xs:List Nat} {n s a1 a2:Nat} (hd:Dig aD xs) (hl:xs.length≤n) (hn:2≤n) (hs:s≤63) (h1:xs.getD (n-1) 0=a1) (h2:xs.getD (n-2) 0=a2) (hb:a1*2^s<aD) :
 a2/2^(64-s)<2^s∧a1*2^s+a2/2^(64-s)<aD∧∃ α,val aD xs=(a1*2^s+a2/2^(64-s))*(2^(64-s)*aD^(n-2))+α∧α<2^(64-s)*aD^(n-2):=by
 have l2:a2<aD:=by rw [← h2];exact hd.get0 bC _
 have hlt:=hi_lt (s:=s) (by omega) l2
 have hW:=iD (s:=s) (by omega)
 have hpT:0<2^(64-s):=Nat.pow_pos (by omega)
 have htop:a1*2^s+a2/2^(64-s)<aD:=by
  have c1:a1*2^s<2^(64-s)*2^s:=by rw [← hW];exact hb
  have c2:=Nat.lt_of_mul_lt_mul_right c1
  have c3:(a1+1)*2^s≤2^(64-s)*2^s:=Nat.mul_le_mul_right _ c2
  rw [← hW,Nat.add_mul,Nat.one_mul] at c3
  omega
 refine ⟨hlt,htop,?_⟩
 obtain ⟨m,rfl⟩:∃ m,n=m+2:=⟨n-2,by omega⟩
 rw [show m+2-1=m+1 from by omega] at h1
 rw [show m+2-2=m from by omega] at h2 ⊢
 have hval:val aD xs=val aD (xs.take m)+aD^m*a2+aD^(m+1)*a1:=by
  have e:∀ k,val aD (xs.take (k+1))=val aD (xs.take k)+aD^k*xs.getD k 0:=by
   intro k
   rcases Nat.lt_or_ge k xs.length with h|h
   ·rw [aF _ _ _ h,List.getD,List.getElem?_eq_getElem h];rfl
   ·rw [List.take_of_length_le (by omega),List.take_of_length_le h,List.getD,List.getElem?_eq_none h]
    show _=_+aD^k*0
    rw [Nat.mul_zero,Nat.add_zero]
  have:val aD xs=val aD (xs.take (m+1+1)):=by rw [List.take_of_length_le (by omega)]
  rw [this,e,e,h1,h2]
 have hlow:val aD (xs.take m)<aD^m:=by
  have:=bV (hd.take m)
  have h3:aD^(xs.take m).length≤aD^m:=Nat.pow_le_pow_right bC (by rw [List.length_take];omega)
  omega
 have hdm:=Nat.div_add_mod a2 (2^(64-s))
 have hmt:a2%2^(64-s)<2^(64-s):=Nat.mod_lt _ hpT
 refine ⟨a2%2^(64-s)*aD^m+val aD (xs.take m),?_,?_⟩
 ·rw [hval,Nat.pow_succ]
  generalize val aD (xs.take m)=Z at *
  generalize a2/2^(64-s)=q at *
  generalize a2%2^(64-s)=r at *
  generalize aD^m=P at *
  exact lead_alg _ _ _ _ _ _ _ _ _ hW hdm
 ·have:(a2%2^(64-s)+1)*aD^m≤2^(64-s)*aD^m:=Nat.mul_le_mul_right _ hmt
  rw [Nat.add_mul,Nat.one_mul] at this
  omega
def SimOk (a b oa ob na nb s:Nat):Prop :=
 s < 4294967296∧(0<s→oa<aD∧ob<aD∧na<aD∧nb<aD∧∃ a' b',a=nb*a'+ob*b'∧b=na*a'+oa*b'∧b'<a'∧b'<b ∧
   (s%2=0→oa*a=a'+ob*b∧nb*b=b'+na*a)∧(s%2=1→ob*b=a'+oa*a∧na*a=b'+nb*b))
theorem SimOk.zero (a b oa ob na nb:Nat):SimOk a b oa ob na nb 0:=⟨by omega,fun h=>absurd h (by omega)⟩
def uI (x y ob nb s:Nat):Prop:=0<s→nb≤y∧ob+nb≤x-y
theorem SimOk.of_steps {x0 y0 x y oa ob na nb s K α β a b:Nat} (h:Pl.Steps x0 y0 x y oa ob na nb s) (ht:uI x y ob nb s) (hx0:x0<aD) (hy0:y0≤x0)
 (ha:a=x0*K+α) (hb:b=y0*K+β) (hα:α<K) (hβ:β<K):SimOk a b oa ob na nb s:=by
 rcases Nat.eq_zero_or_pos s with rfl|hs
 ·exact SimOk.zero _ _ _ _ _ _
 ·obtain ⟨c1,c2⟩:=ht hs
  have hyp:0<y:=Nat.lt_of_lt_of_le h.nb1 c1
  have hxp:0<x:=Nat.lt_of_lt_of_le hyp h.lt
  have hnb:=h.nb_le hxp
  have hna:=h.na_le hxp
  have hsum:=h.sum_le hyp
  obtain ⟨o1,o2,o3,o4⟩:=h.ord hs
  have hsb:s<4294967296:=by
   rcases Nat.lt_or_ge s 4294967296 with e|e
   ·exact e
   ·exfalso
    have hsn:=h.sb
    have b1:4294967296≤nb:=Nat.le_trans e hsn
    have b2:4294967296≤x:=Nat.le_trans b1 (Nat.le_trans c1 h.lt)
    have b3:4294967296*4294967296≤nb*x:=Nat.mul_le_mul b1 b2
    have:=h.i1
    have:=aJ
    omega
  refine ⟨hsb,fun _=>⟨by omega,by omega,by omega,by omega,?_⟩⟩
  obtain ⟨a',b',e1,e2,e3,e4,e5⟩:=h.lift hs c1 c2 ha hb hα hβ
  refine ⟨a',b',e1,e2,e3,?_,e4,e5⟩
  have:1*a'≤na*a':=Nat.mul_le_mul_right _ o3
  rw [Nat.one_mul] at this
  omega
def eV:Obj := .cells #[.int .u64 0,.int .u64 0,.int .u64 0,.int .u64 0,.int .i64 0] 222
def oA (oa ob na nb s:Nat):Obj := .cells #[.int .u64 (oa:Int),.int .u64 (ob:Int),.int .u64 (na:Int),.int .u64 (nb:Int),.int .i64 (s:Int)] 222
theorem bI {W:World} {g oa ob na nb s:Nat} (h:W.heap[g]?=some (oA oa ob na nb s)) :
 W.cell? ⟨g,0,none⟩=some (.int .u64 (oa:Int))∧W.cell? ⟨g,1,none⟩=some (.int .u64 (ob:Int))∧W.cell? ⟨g,2,none⟩=some (.int .u64 (na:Int))∧W.cell? ⟨g,3,none⟩=some (.int .u64 (nb:Int))∧W.cell? ⟨g,4,none⟩=some (.int .i64 (s:Int)) ∧
  W.frozen? ⟨g,0,none⟩=false∧W.frozen? ⟨g,1,none⟩=false∧W.frozen? ⟨g,2,none⟩=false∧W.frozen? ⟨g,3,none⟩=false∧W.frozen? ⟨g,4,none⟩=false:=by
 unfold oA at h
 simp [World.cell?,World.frozen?,h]
theorem dK:eV=oA 0 0 0 0 0:=rfl
theorem fI {W:World} {g oa ob na nb s oa' ob' na' nb' s' : Nat} (h:W.heap[g]?=some (oA oa ob na nb s)) :
 (((((W.setCell ⟨g,0,none⟩ (.int .u64 (oa' : Int))).setCell ⟨g,1,none⟩ (.int .u64 (ob' : Int))).setCell ⟨g,2,none⟩ (.int .u64 (na' : Int))).setCell ⟨g,3,none⟩ (.int .u64 (nb' : Int))).setCell ⟨g,4,none⟩ (.int .i64 (s' : Int))).heap[g]?=some (oA oa' ob' na' nb' s'):=by
 unfold oA at h ⊢
 simp [World.setCell,Array.getElem?_modify,h]
theorem fO {W:World} {g k:Nat} (hk:k≠g) (a b c d e:Value) :
 (((((W.setCell ⟨g,0,none⟩ a).setCell ⟨g,1,none⟩ b).setCell ⟨g,2,none⟩ c).setCell ⟨g,3,none⟩ d).setCell ⟨g,4,none⟩ e).heap[k]?=W.heap[k]?:=by
 rw [Below.heap_setCell _ _ _ _ hk,Below.heap_setCell _ _ _ _ hk,Below.heap_setCell _ _ _ _ hk,Below.heap_setCell _ _ _ _ hk,Below.heap_setCell _ _ _ _ hk]
theorem bM {W0 W:World} {B g:Nat} (h:Below B W0 W) (hg:B≤g) (a b c d e:Value) :
 Below B W0 (((((W.setCell ⟨g,0,none⟩ a).setCell ⟨g,1,none⟩ b).setCell ⟨g,2,none⟩ c).setCell ⟨g,3,none⟩ d).setCell ⟨g,4,none⟩ e) :=
 ((((h.setCell hg _).setCell hg _).setCell hg _).setCell hg _).setCell hg _
theorem dR {W:World} {g oa ob na nb s:Nat} (fr:Array Value) (h:W.heap[g]?=some (oA oa ob na nb s)) (hf:fr.getD 4 undef = .pointer (some ⟨g,0,none⟩)) :
 (results Tryz.f179 fr).run Tryz.prog W = .ok (nZ oa ob na nb s) W:=by
 obtain ⟨c0,c1,c2,c3,c4,z0,z1,z2,z3,z4⟩:=bI h
 rw [Array.getD_eq_getD_getElem?] at hf
 simp [results,Tryz.results179,hf,go_sem,c0,c1,c2,c3,c4,nZ]
theorem iR {W W5:World} (h:Below (W.alloc eV).drew.heap.size (W.alloc eV).drew W5):W5.heap[W.heap.size]?=some (oA 0 0 0 0 0):=(h.block W.heap.size (by simp [World.drew])).trans (heap_alloc_new W _)
def Behind (W0 W:World) (gr gs gn oa ob na nb s na2 nb2 oa2 ob2 s2:Nat):Prop :=
 W.heap[gn]?=some (oA oa2 ob2 na2 nb2 s2)∧W.heap[gs]?=some (oA oa ob na nb s)∧W.heap[gr]?=some eV∧Below gr W0 W∧gn≠gs∧gn≠gr
theorem Behind.fresh {W0 wr X w5:World} {gr gs oa ob na nb s oa2 ob2:Nat} (hX:Below wr.heap.size wr X) (hb5:Below X.heap.size X w5) (hs:wr.heap[gs]?=some (oA oa ob na nb s)) (hr:wr.heap[gr]?=some eV) (hb:Below gr W0 wr) :
 Behind W0 (w5.alloc (.cells #[.int .u64 (na:Int),.int .u64 (nb:Int),.int .u64 (oa2:Int),.int .u64 (ob2:Int),.int .i64 ((s:Int)+1)] 222)) gr gs w5.heap.size oa ob na nb s oa2 ob2 na nb (s+1):=by
 have h1:gs<wr.heap.size:=(Array.getElem?_eq_some_iff.1 hs).1
 have h2:gr<wr.heap.size:=(Array.getElem?_eq_some_iff.1 hr).1
 have h3:=hX.size
 have h4:=hb5.size
 refine ⟨?_,?_,?_,?_,by omega,by omega⟩
 ·have:=heap_alloc_new w5 (.cells #[.int .u64 (na:Int),.int .u64 (nb:Int),.int .u64 (oa2:Int),.int .u64 (ob2:Int),.int .i64 ((s:Int)+1)] 222)
  unfold oA
  rw [Int.natCast_add,Int.natCast_one]
  exact this
 ·rw [Below.heap_alloc _ _ _ (by omega),hb5.block _ (by omega),hX.block _ h1];exact hs
 ·rw [Below.heap_alloc _ _ _ (by omega),hb5.block _ (by omega),hX.block _ h2];exact hr
 ·exact (hb.trans ((hX.mono (by omega)).trans (hb5.mono (by omega)))).alloc (by omega) _
theorem Behind.laid {W0 wr X w5:World} {gr gs oa ob na nb s oa2 ob2:Nat} (hX:Below wr.heap.size wr X) (hb5:Below X.heap.size X w5) (hk:w5.heap[wr.heap.size]?=some (oA 0 0 0 0 0)) (hs:wr.heap[gs]?=some (oA oa ob na nb s)) (hr:wr.heap[gr]?=some eV) (hb:Below gr W0 wr) :
 Behind W0 (((((w5.setCell ⟨wr.heap.size,0,none⟩ (.int .u64 (na:Int))).setCell ⟨wr.heap.size,1,none⟩ (.int .u64 (nb:Int))).setCell ⟨wr.heap.size,2,none⟩ (.int .u64 (oa2:Int))).setCell ⟨wr.heap.size,3,none⟩ (.int .u64 (ob2:Int))).setCell ⟨wr.heap.size,4,none⟩ (.int .i64 ((s:Int)+1)))
  gr gs wr.heap.size oa ob na nb s oa2 ob2 na nb (s+1):=by
 have h1:gs<wr.heap.size:=(Array.getElem?_eq_some_iff.1 hs).1
 have h2:gr<wr.heap.size:=(Array.getElem?_eq_some_iff.1 hr).1
 have h3:=hX.size
 have h4:=hb5.size
 refine ⟨?_,?_,?_,?_,by omega,by omega⟩
 ·have:=fI (oa':=na) (ob':=nb) (na':=oa2) (nb':=ob2) (s':=s+1) hk
  rw [Int.natCast_add,Int.natCast_one] at this
  exact this
 ·rw [fO (by omega),hb5.block _ (by omega),hX.block _ h1];exact hs
 ·rw [fO (by omega),hb5.block _ (by omega),hX.block _ h2];exact hr
 ·exact bM (hb.trans ((hX.mono (by omega)).trans (hb5.mono (by omega)))) (by omega) _ _ _ _ _
def SimRes (x0 y0:Nat) (e:Ending):Prop := ∃ oa ob na nb s x y:Nat,e = .returned (nZ oa ob na nb s)∧Pl.Steps x0 y0 x y oa ob na nb s∧uI x y ob nb s
def SimB (x0 x y s:Nat):Prop:=x0<aD∧x≤x0∧y≤x∧s<4294967296
set_option maxHeartbeats 4000000 in
set_option maxRecDepth 100000 in
theorem simulate_eq (A:Option Addr) (n c:Nat) (xs:List Nat) (A' : Option Addr) (n' c' : Nat) (ys:List Nat) (sh x0 y0:Nat) (w:World) (h:Rd w A n c xs) (h' : Rd w A' n' c' ys)
 (hd:Dig aD xs) (hd' : Dig aD ys) (hn:2≤n) (hn' : 2≤n') (hle:n'≤n) (hnn:n'=n) (a1 a2 b1 b2 ah bh:Nat) (hs:sh≤63) (hbl:Hid ((64:Int)-Lib.bitLen a1=sh))
 (g1:xs[n-1]?=some a1) (g2:xs[n-2]?=some a2) (k1:n'=n→ys[n-1]?=some b1) (k2:n-1≤n'→ys[n-2]?=some b2)
 (e1:IntKind.u64.wrap ((a1:Int)*2^sh)=(ah:Int)) (e2:bits .or .u64 (ah:Int) ((a2:Int)/2^(64-sh))=(x0:Int))
 (e3:IntKind.u64.wrap ((b1:Int)*2^sh)=(bh:Int)) (e4:n'=n→bits .or .u64 (bh:Int) ((b2:Int)/2^(64-sh))=(y0:Int)) (e5:n'=n-1→(b2:Int)/2^(64-sh)=(y0:Int)) (e6:n'<n-1→y0=0)
 (hx0:x0<aD) (hy0:y0≤x0) :
 Calls Tryz.prog 179 #[.slice A n c,.slice A' n' c'] w fun e w' =>
  SimRes x0 y0 e∧Below w.heap.size w w':=by
 have hnc:n≤c:=h.cap
 have hcm:c≤9223372036854775807:=h.2.2.1
 have hnc' : n'≤c':=h'.cap
 have hcm' : c'≤9223372036854775807:=h'.2.2.1
 obtain ⟨ad,a1',hA,hal,ha1,hc1⟩:=h.at_ (k:=n-1) (by omega)
 obtain ⟨ad2,a2',hA2,_,ha2,hc2⟩:=h.at_ (k:=n-2) (by omega)
 obtain ⟨ad',hA',hal',hcb⟩:=h'.2.2.2 (by omega)
 subst hA
 injection hA2 with hA2
 subst hA2
 rw [g1] at ha1
 injection ha1 with ha1
 subst ha1
 rw [g2] at ha2
 injection ha2 with ha2
 subst ha2
 subst hA'
 have hab:a1≤18446744073709551615:=by have:=hd.at_ g1;have:=aJ;omega
 have cl:=aH (fun w=>Tryz.bits_LeadingZeros64 (a1:Int) w (by omega) (by omega))
 have HX:=aH (aI hd hd')
 have HC:=aH hcb
 have hx0' : (x0:Int)≤18446744073709551615:=by have:=aJ;omega
 have hq1:(ad.add (n-1)).block<w.heap.size:=by rw [bL];exact hal
 have hq2:(ad.add (n-2)).block<w.heap.size:=by rw [bL];exact hal
 have hq3:(ad'.add (n-1)).block<w.heap.size:=by rw [bL];exact hal'
 have hq4:(ad'.add (n-2)).block<w.heap.size:=by rw [bL];exact hal'
 clear h h' hd hd' hcb g1 g2 hab
 subst hnn
 have e4':=e4 rfl
 have hc3:=HC.out (n'-1) b1 (k1 rfl)
 have hc4:=HC.out (n'-2) b2 (k2 (by omega))
 have hb:y0≤x0:=hy0
 have HK:=aH (aI e6 (aI hx0 hy0))
 clear e4 e5 e6 k1 k2 hx0 hb hy0
 go_enter Tryz.func179,Tryz.ntmps179
 go_wp2_with (go_at_call 232;refine (cl.out _).mono ?_;rintro e w' ⟨rfl,hw⟩;rw [hw];rw [Int.toNat_natCast,hbl.out])
 go_quiet (fail)
 have hbW:Below w.heap.size w ((w.alloc eV).drewN nq):=cI ((Below.refl _ _).alloc (Nat.le_refl _) _) _
 have hrW:((w.alloc eV).drewN nq).heap[w.heap.size]?=some eV:=heap_alloc_new w _
 unfold eV at hbW hrW
 have hc3':=(hbW.cell (p:=ad'.add (n'-1)) hq3).trans hc3
 have hc4':=(hbW.cell (p:=ad'.add (n'-2)) hq4).trans hc4
 have HW:=aH (aI hbW hrW)
 clear hbW hrW hc1 hc2 hc3 hc4 hq1 hq2 hq3 hq4
 generalize (w.alloc (.cells #[.int .u64 0,.int .u64 0,.int .u64 0,.int .u64 0,.int .i64 0] 222)).drewN nq=W2 at *
 go_wp2
 go_quiet (fail)
 have HW2:=aH (show Below w.heap.size w (W2.drewN nq)∧(W2.drewN nq).heap[w.heap.size]?=_ from ⟨cI HW.out.1 _,HW.out.2⟩)
 clear HW hc3' hc4'
 generalize W2.drewN nq=W3 at *
 go_wp2
 obtain ⟨gr,hgr⟩:∃ gr,gr=w.heap.size:=⟨_,rfl⟩
 obtain ⟨gs,hgs⟩:∃ gs,gs=W3.heap.size:=⟨_,rfl⟩
 have hlt:gr<gs:=by rw [hgr,hgs];exact (Array.getElem?_eq_some_iff.1 HW2.out.2).1
 have hW4b:Below gr w (W3.alloc (.cells #[.int .u64 1,.int .u64 0,.int .u64 0,.int .u64 1,.int .i64 0] 222)):=by rw [hgr];exact HW2.out.1.alloc HW2.out.1.size _
 have hW4s:(W3.alloc (.cells #[.int .u64 1,.int .u64 0,.int .u64 0,.int .u64 1,.int .i64 0] 222)).heap[gs]?=some (.cells #[.int .u64 1,.int .u64 0,.int .u64 0,.int .u64 1,.int .i64 0] 222):=by rw [hgs];exact heap_alloc_new _ _
 have hW4r:(W3.alloc (.cells #[.int .u64 1,.int .u64 0,.int .u64 0,.int .u64 1,.int .i64 0] 222)).heap[gr]?=some eV:=by rw [hgr];exact (Below.heap_alloc W3 _ _ (by rw [← hgr,← hgs];exact hlt)).trans HW2.out.2
 have HW4:=aH (aI hW4b (aI hW4s hW4r))
 rw [← hgr,← hgs]
 clear hW4b hW4s hW4r HW2 hgs
 have HGR:=aH hgr
 clear hgr
 generalize W3.alloc (.cells #[.int .u64 1,.int .u64 0,.int .u64 0,.int .u64 1,.int .i64 0] 222)=W4 at *
 go_loopw [7,8] (fun p q wr => ∃ x y oa ob na nb s:Nat,p = .int .u64 (x:Int)∧q = .int .u64 (y:Int)∧Hid (Pl.Steps x0 y0 x y oa ob na nb s∧uI x y ob nb s)∧SimB x0 x y s∧wr.heap[gs]?=some (oA oa ob na nb s)∧wr.heap[gr]?=some eV∧Below gr w wr) (fun _ q _=>(intOf q).toNat)
 case atStart=>exact ⟨x0,y0,1,0,0,1,0,rfl,rfl,⟨Pl.Steps.start _ _ HK.out.2.2,fun h=>absurd h (by omega)⟩,⟨HK.out.2.1,Nat.le_refl _,HK.out.2.2,by omega⟩,HW4.out.2.1,HW4.out.2.2,HW4.out.1⟩
 case round =>
  obtain ⟨x,y,oa,ob,na,nb,s,rfl,rfl,hst,hsb,hbs,hbr,hbe⟩:=hrel
  obtain ⟨m1,m2,m3,m4⟩:=hsb
  obtain ⟨c0,c1,c2,c3,c4,z0,z1,z2,z3,z4⟩:=bI hbs
  obtain ⟨d0,d1,d2,d3,d4,w0,w1,w2,w3,w4⟩:=bI (dK▸hbr)
  have hne:¬ gs=gr:=by omega
  have hne' : ¬ gr=gs:=by omega
  have hgsl:gs<wr.heap.size:=(Array.getElem?_eq_some_iff.1 hbs).1
  have hgrl:gr<wr.heap.size:=(Array.getElem?_eq_some_iff.1 hbr).1
  have HB:=aH (aI hbs (aI hbr hbe))
  clear hbs hbr hbe
  rcases Nat.eq_zero_or_pos y with rfl|hy
  ·simp only [Int.natCast_zero]
   go_wp2
   exact bodyPost_ret (v:=nZ oa ob na nb s) (dR _ (fI (dK▸HB.out.2.1)) rfl) rfl ⟨⟨oa,ob,na,nb,s,x,0,rfl,hst.out.1,hst.out.2⟩,by rw [← HGR.out];exact bM HB.out.2.2 (Nat.le_refl _) _ _ _ _ _⟩
  ·have hs1:=hst.out.1.next hy
   obtain ⟨q,hq⟩:∃ q:Nat,q=x/y:=⟨_,rfl⟩
   obtain ⟨r,hr⟩:∃ r:Nat,r=x%y:=⟨_,rfl⟩
   rw [← hq,← hr] at hs1
   have f1:(x:Int).tdiv y=q:=by rw [hq,Int.tdiv_eq_ediv_of_nonneg (by omega),Int.natCast_ediv]
   have f2:(x:Int)/y=q:=by rw [hq,Int.natCast_ediv]
   have f3:(x:Int).tmod y=r:=by rw [hr,Int.tmod_eq_emod_of_nonneg (by omega),Int.natCast_emod]
   have f4:(x:Int)%y=r:=by rw [hr,Int.natCast_emod]
   have hry:r<y:=by rw [hr];exact Nat.mod_lt _ hy
   have hqx:q≤x:=by rw [hq];exact Nat.div_le_self _ _
   obtain ⟨oa2,hoa2⟩:∃ k:Nat,oa+q*na=k:=⟨_,rfl⟩
   obtain ⟨ob2,hob2⟩:∃ k:Nat,ob+q*nb=k:=⟨_,rfl⟩
   rw [hoa2,hob2] at hs1
   have l1:=hs1.na_le hy
   have l2:=hs1.nb_le hy
   have hy0x:=HK.out.2.2
   have cn:=aH (fun w=>xC oa ob na nb s q oa2 ob2 w hoa2 hob2 (by omega) (by omega) m4)
   have HS1:=aH (aI hs1 (aI l1 l2))
   have hxi:(x:Int)≤18446744073709551615:=by omega
   have hyn:¬ ((y:Int)=0):=by omega
   have hy' : (0:Int)<y:=by omega
   have hqi:(q:Int)≤18446744073709551615:=by omega
   have hri:(r:Int)≤18446744073709551615:=by omega
   have HM:=aH (aI m1 (aI m2 (aI m3 m4)))
   clear hs1 l1 l2 hq hr hoa2 hob2 hy m1 m2 m3 m4 hy0x d0 d1 d2 d3 d4 w0 w1 w2 w3 w4 z0 z1 z2 z3 z4 hqx
   go_wp2
   go_region_with ((go_at_call 233;refine (cn.out _).mono ?_;rintro e w5 ⟨rfl,hb5⟩;first|(have hk0:=iR hb5;obtain ⟨v0,v1,v2,v3,v4,x0',x1',x2',x3',x4'⟩:=bI hk0)|(have hk0:=kept_alloc hb5;obtain ⟨v0,v1,v2,v3,v4,x0',x1',x2',x3',x4'⟩:=bI hk0)|skip))
   all_goals first
    | (have hW:=Behind.fresh (W0:=w) (gr:=gr) (gs:=gs) (na:=na) (nb:=nb) (oa2:=oa2) (ob2:=ob2) (Below.refl _ _) hb5 HB.out.1 HB.out.2.1 HB.out.2.2
       have HW6:=aH hW
       generalize w5.alloc (.cells #[.int .u64 (na:Int),.int .u64 (nb:Int),.int .u64 (oa2:Int),.int .u64 (ob2:Int),.int .i64 ((s:Int)+1)] 222)=W6 at HW6 ⊢
       generalize w5.heap.size=gn at HW6 ⊢)
    | (have hW:=Behind.fresh (W0:=w) (gr:=gr) (gs:=gs) (na:=na) (nb:=nb) (oa2:=oa2) (ob2:=ob2) (Below.refl _ _).drew hb5 HB.out.1 HB.out.2.1 HB.out.2.2
       have HW6:=aH hW
       generalize w5.alloc (.cells #[.int .u64 (na:Int),.int .u64 (nb:Int),.int .u64 (oa2:Int),.int .u64 (ob2:Int),.int .i64 ((s:Int)+1)] 222)=W6 at HW6 ⊢
       generalize w5.heap.size=gn at HW6 ⊢)
    | (have hW:=Behind.laid (W0:=w) (gr:=gr) (gs:=gs) (na:=na) (nb:=nb) (oa2:=oa2) (ob2:=ob2) ((Below.refl _ _).alloc (Nat.le_refl _) _) hb5 hk0 HB.out.1 HB.out.2.1 HB.out.2.2
       have HW6:=aH hW
       generalize (((((w5.setCell ⟨wr.heap.size,0,none⟩ (.int .u64 (na:Int))).setCell ⟨wr.heap.size,1,none⟩ (.int .u64 (nb:Int))).setCell ⟨wr.heap.size,2,none⟩ (.int .u64 (oa2:Int))).setCell ⟨wr.heap.size,3,none⟩ (.int .u64 (ob2:Int))).setCell ⟨wr.heap.size,4,none⟩ (.int .i64 ((s:Int)+1)))=W6 at HW6 ⊢
       generalize wr.heap.size=gn at HW6 ⊢)
    | (have hW:=Behind.laid (W0:=w) (gr:=gr) (gs:=gs) (na:=na) (nb:=nb) (oa2:=oa2) (ob2:=ob2) ((Below.refl _ _).alloc (Nat.le_refl _) _).drew hb5 hk0 HB.out.1 HB.out.2.1 HB.out.2.2
       have HW6:=aH hW
       generalize (((((w5.setCell ⟨wr.heap.size,0,none⟩ (.int .u64 (na:Int))).setCell ⟨wr.heap.size,1,none⟩ (.int .u64 (nb:Int))).setCell ⟨wr.heap.size,2,none⟩ (.int .u64 (oa2:Int))).setCell ⟨wr.heap.size,3,none⟩ (.int .u64 (ob2:Int))).setCell ⟨wr.heap.size,4,none⟩ (.int .i64 ((s:Int)+1)))=W6 at HW6 ⊢
       generalize wr.heap.size=gn at HW6 ⊢)
   all_goals clear cn c0 c1 c2 c3 c4 hgsl hgrl hb5
   all_goals try clear hk0
   all_goals try clear v0 v1 v2 v3 v4 x0' x1' x2' x3' x4'
   all_goals
    go_wp2
    go_quiet (fail)
    have HW7:=aH (show Behind w (W6.drewN nq) gr gs gn oa ob na nb s oa2 ob2 na nb (s+1) from ⟨HW6.out.1,HW6.out.2.1,HW6.out.2.2.1,cI HW6.out.2.2.2.1 _,HW6.out.2.2.2.2⟩)
    clear HW6
    generalize W6.drewN nq=W7 at HW7 ⊢
    obtain ⟨n0,n1,n2,n3,n4,p0,p1,p2,p3,p4⟩:=bI HW7.out.1
    obtain ⟨c0,c1,c2,c3,c4,z0,z1,z2,z3,z4⟩:=bI HW7.out.2.1
    obtain ⟨d0,d1,d2,d3,d4,w0,w1,w2,w3,w4⟩:=bI (dK▸HW7.out.2.2.1)
    have q1:¬ gn=gs:=HW7.out.2.2.2.2.1
    have q2:¬ gn=gr:=HW7.out.2.2.2.2.2
    have q3:¬ gs=gn:=fun h=>q1 h.symm
    have q4:¬ gr=gn:=fun h=>q2 h.symm
    have hsum:(nb:Int)+ob2≤18446744073709551615∨r<ob2:=by
     rcases Nat.lt_or_ge r ob2 with h|h
     ·exact .inr h
     ·have hrp:0<r:=Nat.lt_of_lt_of_le HS1.out.1.nb1 h
      have:=HS1.out.1.sum_le hrp
      have:=HM.out.1
      have:=aJ
      exact .inl (by omega)
    have hyr:(0:Int)≤(y:Int)-r:=by omega
    have hwr:IntKind.u64.wrap ((y:Int)-r)=(y:Int)-r:=by rw [IntKind.wrap_u64];have:=HM.out;have:=aJ;omega
    by_cases t1:r<ob2
    ·have t1' : (r:Int)<ob2:=by omega
     clear hsum t1
     go_wp2
     exact bodyPost_ret (v:=nZ oa ob na nb s) (dR _ (fI (dK▸HW7.out.2.2.1)) rfl) rfl ⟨⟨oa,ob,na,nb,s,x,y,rfl,hst.out.1,hst.out.2⟩,by rw [← HGR.out];exact bM HW7.out.2.2.2.1 (Nat.le_refl _) _ _ _ _ _⟩
    ·have t1' : ¬ (r:Int)<ob2:=by omega
     have hsum' : (nb:Int)+ob2≤18446744073709551615:=by omega
     by_cases t2:(y:Int)-r<(nb:Int)+ob2
     ·clear hsum t1
      go_wp2
      exact bodyPost_ret (v:=nZ oa ob na nb s) (dR _ (fI (dK▸HW7.out.2.2.1)) rfl) rfl ⟨⟨oa,ob,na,nb,s,x,y,rfl,hst.out.1,hst.out.2⟩,by rw [← HGR.out];exact bM HW7.out.2.2.2.1 (Nat.le_refl _) _ _ _ _ _⟩
     ·have htk:uI y r nb ob2 (s+1):=fun _=>⟨by omega,by omega⟩
      have hsm:SimB x0 y r (s+1):=⟨HM.out.1,by have:=HM.out;omega,by omega,(SimOk.of_steps HS1.out.1 htk HM.out.1 HK.out.2.2 (K:=1) (α:=0) (β:=0) rfl rfl (by omega) (by omega)).1⟩
      have HT:=aH (aI htk hsm)
      have t3:decide ((y:Int)-r<(nb:Int)+ob2)=false:=by simp;omega
      have t4:(nb:Int)+ob2≤(y:Int)-r:=by omega
      clear hsum t1 htk hsm t2
      go_wp2
      go_roundw
      case rel=>exact ⟨y,r,na,nb,oa2,ob2,s+1,rfl,rfl,⟨HS1.out.1,HT.out.1⟩,HT.out.2,fI HW7.out.2.1,(fO hne' _ _ _ _ _).trans HW7.out.2.2.1,bM HW7.out.2.2.2.1 (Nat.le_of_lt hlt) _ _ _ _ _⟩
      case measure=>simp [intOf];omega
set_option maxHeartbeats 4000000 in
set_option maxRecDepth 100000 in
theorem simulate_one (A:Option Addr) (n c:Nat) (xs:List Nat) (A' : Option Addr) (n' c' : Nat) (ys:List Nat) (sh x0 y0:Nat) (w:World) (h:Rd w A n c xs) (h' : Rd w A' n' c' ys)
 (hd:Dig aD xs) (hd' : Dig aD ys) (hn:2≤n) (hn' : 2≤n') (hle:n'≤n) (hnn:n'=n-1) (a1 a2 b1 b2 ah bh:Nat) (hs:sh≤63) (hbl:Hid ((64:Int)-Lib.bitLen a1=sh))
 (g1:xs[n-1]?=some a1) (g2:xs[n-2]?=some a2) (k1:n'=n→ys[n-1]?=some b1) (k2:n-1≤n'→ys[n-2]?=some b2)
 (e1:IntKind.u64.wrap ((a1:Int)*2^sh)=(ah:Int)) (e2:bits .or .u64 (ah:Int) ((a2:Int)/2^(64-sh))=(x0:Int))
 (e3:IntKind.u64.wrap ((b1:Int)*2^sh)=(bh:Int)) (e4:n'=n→bits .or .u64 (bh:Int) ((b2:Int)/2^(64-sh))=(y0:Int)) (e5:n'=n-1→(b2:Int)/2^(64-sh)=(y0:Int)) (e6:n'<n-1→y0=0)
 (hx0:x0<aD) (hy0:y0≤x0) :
 Calls Tryz.prog 179 #[.slice A n c,.slice A' n' c'] w fun e w' =>
  SimRes x0 y0 e∧Below w.heap.size w w':=by
 have hnc:n≤c:=h.cap
 have hcm:c≤9223372036854775807:=h.2.2.1
 have hnc' : n'≤c':=h'.cap
 have hcm' : c'≤9223372036854775807:=h'.2.2.1
 obtain ⟨ad,a1',hA,hal,ha1,hc1⟩:=h.at_ (k:=n-1) (by omega)
 obtain ⟨ad2,a2',hA2,_,ha2,hc2⟩:=h.at_ (k:=n-2) (by omega)
 obtain ⟨ad',hA',hal',hcb⟩:=h'.2.2.2 (by omega)
 subst hA
 injection hA2 with hA2
 subst hA2
 rw [g1] at ha1
 injection ha1 with ha1
 subst ha1
 rw [g2] at ha2
 injection ha2 with ha2
 subst ha2
 subst hA'
 have hab:a1≤18446744073709551615:=by have:=hd.at_ g1;have:=aJ;omega
 have cl:=aH (fun w=>Tryz.bits_LeadingZeros64 (a1:Int) w (by omega) (by omega))
 have HX:=aH (aI hd hd')
 have HC:=aH hcb
 have hx0' : (x0:Int)≤18446744073709551615:=by have:=aJ;omega
 have hq1:(ad.add (n-1)).block<w.heap.size:=by rw [bL];exact hal
 have hq2:(ad.add (n-2)).block<w.heap.size:=by rw [bL];exact hal
 have hq3:(ad'.add (n-1)).block<w.heap.size:=by rw [bL];exact hal'
 have hq4:(ad'.add (n-2)).block<w.heap.size:=by rw [bL];exact hal'
 clear h h' hd hd' hcb g1 g2 hab
 have hnn2:¬ n'=n:=by omega
 have e5':=e5 hnn
 have hc4:=HC.out (n-2) b2 (k2 (by omega))
 have hsw1:((n' : Int)==n)=false:=by simp;omega
 have hsw2:((n' : Int)==(n:Int)-1)=true:=by simp;omega
 have HK:=aH (aI e6 (aI hx0 hy0))
 have hidx:n-2<n':=by omega
 clear e4 e5 e6 k1 k2 hx0 hy0 hnn hnn2
 go_enter Tryz.func179,Tryz.ntmps179
 go_wp2_with (go_at_call 232;refine (cl.out _).mono ?_;rintro e w' ⟨rfl,hw⟩;rw [hw];rw [Int.toNat_natCast,hbl.out])
 go_quiet (fail)
 have hbW:Below w.heap.size w ((w.alloc eV).drewN nq):=cI ((Below.refl _ _).alloc (Nat.le_refl _) _) _
 have hrW:((w.alloc eV).drewN nq).heap[w.heap.size]?=some eV:=heap_alloc_new w _
 have hc4':=(hbW.cell (p:=ad'.add (n-2)) hq4).trans hc4
 unfold eV at hbW hrW hc4'
 have HW2:=aH (aI hbW hrW)
 clear hbW hrW hc1 hc2 hc4 hq1 hq2 hq3 hq4
 generalize (w.alloc (.cells #[.int .u64 0,.int .u64 0,.int .u64 0,.int .u64 0,.int .i64 0] 222)).drewN nq=W3 at *
 go_wp2
 obtain ⟨gr,hgr⟩:∃ gr,gr=w.heap.size:=⟨_,rfl⟩
 obtain ⟨gs,hgs⟩:∃ gs,gs=W3.heap.size:=⟨_,rfl⟩
 have hlt:gr<gs:=by rw [hgr,hgs];exact (Array.getElem?_eq_some_iff.1 HW2.out.2).1
 have hW4b:Below gr w (W3.alloc (.cells #[.int .u64 1,.int .u64 0,.int .u64 0,.int .u64 1,.int .i64 0] 222)):=by rw [hgr];exact HW2.out.1.alloc HW2.out.1.size _
 have hW4s:(W3.alloc (.cells #[.int .u64 1,.int .u64 0,.int .u64 0,.int .u64 1,.int .i64 0] 222)).heap[gs]?=some (.cells #[.int .u64 1,.int .u64 0,.int .u64 0,.int .u64 1,.int .i64 0] 222):=by rw [hgs];exact heap_alloc_new _ _
 have hW4r:(W3.alloc (.cells #[.int .u64 1,.int .u64 0,.int .u64 0,.int .u64 1,.int .i64 0] 222)).heap[gr]?=some eV:=by rw [hgr];exact (Below.heap_alloc W3 _ _ (by rw [← hgr,← hgs];exact hlt)).trans HW2.out.2
 have HW4:=aH (aI hW4b (aI hW4s hW4r))
 rw [← hgr,← hgs]
 clear hW4b hW4s hW4r HW2 hgs
 have HGR:=aH hgr
 clear hgr
 generalize W3.alloc (.cells #[.int .u64 1,.int .u64 0,.int .u64 0,.int .u64 1,.int .i64 0] 222)=W4 at *
 go_loopw [7,8] (fun p q wr => ∃ x y oa ob na nb s:Nat,p = .int .u64 (x:Int)∧q = .int .u64 (y:Int)∧Hid (Pl.Steps x0 y0 x y oa ob na nb s∧uI x y ob nb s)∧SimB x0 x y s∧wr.heap[gs]?=some (oA oa ob na nb s)∧wr.heap[gr]?=some eV∧Below gr w wr) (fun _ q _=>(intOf q).toNat)
 case atStart=>exact ⟨x0,y0,1,0,0,1,0,rfl,rfl,⟨Pl.Steps.start _ _ HK.out.2.2,fun h=>absurd h (by omega)⟩,⟨HK.out.2.1,Nat.le_refl _,HK.out.2.2,by omega⟩,HW4.out.2.1,HW4.out.2.2,HW4.out.1⟩
 case round =>
  obtain ⟨x,y,oa,ob,na,nb,s,rfl,rfl,hst,hsb,hbs,hbr,hbe⟩:=hrel
  obtain ⟨m1,m2,m3,m4⟩:=hsb
  obtain ⟨c0,c1,c2,c3,c4,z0,z1,z2,z3,z4⟩:=bI hbs
  obtain ⟨d0,d1,d2,d3,d4,w0,w1,w2,w3,w4⟩:=bI (dK▸hbr)
  have hne:¬ gs=gr:=by omega
  have hne' : ¬ gr=gs:=by omega
  have hgsl:gs<wr.heap.size:=(Array.getElem?_eq_some_iff.1 hbs).1
  have hgrl:gr<wr.heap.size:=(Array.getElem?_eq_some_iff.1 hbr).1
  have HB:=aH (aI hbs (aI hbr hbe))
  clear hbs hbr hbe
  rcases Nat.eq_zero_or_pos y with rfl|hy
  ·simp only [Int.natCast_zero]
   go_wp2
   exact bodyPost_ret (v:=nZ oa ob na nb s) (dR _ (fI (dK▸HB.out.2.1)) rfl) rfl ⟨⟨oa,ob,na,nb,s,x,0,rfl,hst.out.1,hst.out.2⟩,by rw [← HGR.out];exact bM HB.out.2.2 (Nat.le_refl _) _ _ _ _ _⟩
  ·have hs1:=hst.out.1.next hy
   obtain ⟨q,hq⟩:∃ q:Nat,q=x/y:=⟨_,rfl⟩
   obtain ⟨r,hr⟩:∃ r:Nat,r=x%y:=⟨_,rfl⟩
   rw [← hq,← hr] at hs1
   have f1:(x:Int).tdiv y=q:=by rw [hq,Int.tdiv_eq_ediv_of_nonneg (by omega),Int.natCast_ediv]
   have f2:(x:Int)/y=q:=by rw [hq,Int.natCast_ediv]
   have f3:(x:Int).tmod y=r:=by rw [hr,Int.tmod_eq_emod_of_nonneg (by omega),Int.natCast_emod]
   have f4:(x:Int)%y=r:=by rw [hr,Int.natCast_emod]
   have hry:r<y:=by rw [hr];exact Nat.mod_lt _ hy
   have hqx:q≤x:=by rw [hq];exact Nat.div_le_self _ _
   obtain ⟨oa2,hoa2⟩:∃ k:Nat,oa+q*na=k:=⟨_,rfl⟩
   obtain ⟨ob2,hob2⟩:∃ k:Nat,ob+q*nb=k:=⟨_,rfl⟩
   rw [hoa2,hob2] at hs1
   have l1:=hs1.na_le hy
   have l2:=hs1.nb_le hy
   have hy0x:=HK.out.2.2
   have cn:=aH (fun w=>xC oa ob na nb s q oa2 ob2 w hoa2 hob2 (by omega) (by omega) m4)
   have HS1:=aH (aI hs1 (aI l1 l2))
   have hxi:(x:Int)≤18446744073709551615:=by omega
   have hyn:¬ ((y:Int)=0):=by omega
   have hy' : (0:Int)<y:=by omega
   have hqi:(q:Int)≤18446744073709551615:=by omega
   have hri:(r:Int)≤18446744073709551615:=by omega
   have HM:=aH (aI m1 (aI m2 (aI m3 m4)))
   clear hs1 l1 l2 hq hr hoa2 hob2 hy m1 m2 m3 m4 hy0x d0 d1 d2 d3 d4 w0 w1 w2 w3 w4 z0 z1 z2 z3 z4 hqx
   go_wp2
   go_region_with ((go_at_call 233;refine (cn.out _).mono ?_;rintro e w5 ⟨rfl,hb5⟩;first|(have hk0:=iR hb5;obtain ⟨v0,v1,v2,v3,v4,x0',x1',x2',x3',x4'⟩:=bI hk0)|(have hk0:=kept_alloc hb5;obtain ⟨v0,v1,v2,v3,v4,x0',x1',x2',x3',x4'⟩:=bI hk0)|skip))
   all_goals first
    | (have hW:=Behind.fresh (W0:=w) (gr:=gr) (gs:=gs) (na:=na) (nb:=nb) (oa2:=oa2) (ob2:=ob2) (Below.refl _ _) hb5 HB.out.1 HB.out.2.1 HB.out.2.2
       have HW6:=aH hW
       generalize w5.alloc (.cells #[.int .u64 (na:Int),.int .u64 (nb:Int),.int .u64 (oa2:Int),.int .u64 (ob2:Int),.int .i64 ((s:Int)+1)] 222)=W6 at HW6 ⊢
       generalize w5.heap.size=gn at HW6 ⊢)
    | (have hW:=Behind.fresh (W0:=w) (gr:=gr) (gs:=gs) (na:=na) (nb:=nb) (oa2:=oa2) (ob2:=ob2) (Below.refl _ _).drew hb5 HB.out.1 HB.out.2.1 HB.out.2.2
       have HW6:=aH hW
       generalize w5.alloc (.cells #[.int .u64 (na:Int),.int .u64 (nb:Int),.int .u64 (oa2:Int),.int .u64 (ob2:Int),.int .i64 ((s:Int)+1)] 222)=W6 at HW6 ⊢
       generalize w5.heap.size=gn at HW6 ⊢)
    | (have hW:=Behind.laid (W0:=w) (gr:=gr) (gs:=gs) (na:=na) (nb:=nb) (oa2:=oa2) (ob2:=ob2) ((Below.refl _ _).alloc (Nat.le_refl _) _) hb5 hk0 HB.out.1 HB.out.2.1 HB.out.2.2
       have HW6:=aH hW
       generalize (((((w5.setCell ⟨wr.heap.size,0,none⟩ (.int .u64 (na:Int))).setCell ⟨wr.heap.size,1,none⟩ (.int .u64 (nb:Int))).setCell ⟨wr.heap.size,2,none⟩ (.int .u64 (oa2:Int))).setCell ⟨wr.heap.size,3,none⟩ (.int .u64 (ob2:Int))).setCell ⟨wr.heap.size,4,none⟩ (.int .i64 ((s:Int)+1)))=W6 at HW6 ⊢
       generalize wr.heap.size=gn at HW6 ⊢)
    | (have hW:=Behind.laid (W0:=w) (gr:=gr) (gs:=gs) (na:=na) (nb:=nb) (oa2:=oa2) (ob2:=ob2) ((Below.refl _ _).alloc (Nat.le_refl _) _).drew hb5 hk0 HB.out.1 HB.out.2.1 HB.out.2.2
       have HW6:=aH hW
       generalize (((((w5.setCell ⟨wr.heap.size,0,none⟩ (.int .u64 (na:Int))).setCell ⟨wr.heap.size,1,none⟩ (.int .u64 (nb:Int))).setCell ⟨wr.heap.size,2,none⟩ (.int .u64 (oa2:Int))).setCell ⟨wr.heap.size,3,none⟩ (.int .u64 (ob2:Int))).setCell ⟨wr.heap.size,4,none⟩ (.int .i64 ((s:Int)+1)))=W6 at HW6 ⊢
       generalize wr.heap.size=gn at HW6 ⊢)
   all_goals clear cn c0 c1 c2 c3 c4 hgsl hgrl hb5
   all_goals try clear hk0
   all_goals try clear v0 v1 v2 v3 v4 x0' x1' x2' x3' x4'
   all_goals
    go_wp2
    go_quiet (fail)
    have HW7:=aH (show Behind w (W6.drewN nq) gr gs gn oa ob na nb s oa2 ob2 na nb (s+1) from ⟨HW6.out.1,HW6.out.2.1,HW6.out.2.2.1,cI HW6.out.2.2.2.1 _,HW6.out.2.2.2.2⟩)
    clear HW6
    generalize W6.drewN nq=W7 at HW7 ⊢
    obtain ⟨n0,n1,n2,n3,n4,p0,p1,p2,p3,p4⟩:=bI HW7.out.1
    obtain ⟨c0,c1,c2,c3,c4,z0,z1,z2,z3,z4⟩:=bI HW7.out.2.1
    obtain ⟨d0,d1,d2,d3,d4,w0,w1,w2,w3,w4⟩:=bI (dK▸HW7.out.2.2.1)
    have q1:¬ gn=gs:=HW7.out.2.2.2.2.1
    have q2:¬ gn=gr:=HW7.out.2.2.2.2.2
    have q3:¬ gs=gn:=fun h=>q1 h.symm
    have q4:¬ gr=gn:=fun h=>q2 h.symm
    have hsum:(nb:Int)+ob2≤18446744073709551615∨r<ob2:=by
     rcases Nat.lt_or_ge r ob2 with h|h
     ·exact .inr h
     ·have hrp:0<r:=Nat.lt_of_lt_of_le HS1.out.1.nb1 h
      have:=HS1.out.1.sum_le hrp
      have:=HM.out.1
      have:=aJ
      exact .inl (by omega)
    have hyr:(0:Int)≤(y:Int)-r:=by omega
    have hwr:IntKind.u64.wrap ((y:Int)-r)=(y:Int)-r:=by rw [IntKind.wrap_u64];have:=HM.out;have:=aJ;omega
    by_cases t1:r<ob2
    ·have t1' : (r:Int)<ob2:=by omega
     clear hsum t1
     go_wp2
     exact bodyPost_ret (v:=nZ oa ob na nb s) (dR _ (fI (dK▸HW7.out.2.2.1)) rfl) rfl ⟨⟨oa,ob,na,nb,s,x,y,rfl,hst.out.1,hst.out.2⟩,by rw [← HGR.out];exact bM HW7.out.2.2.2.1 (Nat.le_refl _) _ _ _ _ _⟩
    ·have t1' : ¬ (r:Int)<ob2:=by omega
     have hsum' : (nb:Int)+ob2≤18446744073709551615:=by omega
     by_cases t2:(y:Int)-r<(nb:Int)+ob2
     ·clear hsum t1
      go_wp2
      exact bodyPost_ret (v:=nZ oa ob na nb s) (dR _ (fI (dK▸HW7.out.2.2.1)) rfl) rfl ⟨⟨oa,ob,na,nb,s,x,y,rfl,hst.out.1,hst.out.2⟩,by rw [← HGR.out];exact bM HW7.out.2.2.2.1 (Nat.le_refl _) _ _ _ _ _⟩
     ·have htk:uI y r nb ob2 (s+1):=fun _=>⟨by omega,by omega⟩
      have hsm:SimB x0 y r (s+1):=⟨HM.out.1,by have:=HM.out;omega,by omega,(SimOk.of_steps HS1.out.1 htk HM.out.1 HK.out.2.2 (K:=1) (α:=0) (β:=0) rfl rfl (by omega) (by omega)).1⟩
      have HT:=aH (aI htk hsm)
      have t3:decide ((y:Int)-r<(nb:Int)+ob2)=false:=by simp;omega
      have t4:(nb:Int)+ob2≤(y:Int)-r:=by omega
      clear hsum t1 htk hsm t2
      go_wp2
      go_roundw
      case rel=>exact ⟨y,r,na,nb,oa2,ob2,s+1,rfl,rfl,⟨HS1.out.1,HT.out.1⟩,HT.out.2,fI HW7.out.2.1,(fO hne' _ _ _ _ _).trans HW7.out.2.2.1,bM HW7.out.2.2.2.1 (Nat.le_of_lt hlt) _ _ _ _ _⟩
      case measure=>simp [intOf];omega
set_option maxHeartbeats 4000000 in
set_option maxRecDepth 100000 in
theorem yI (A:Option Addr) (n c:Nat) (xs:List Nat) (A' : Option Addr) (n' c' : Nat) (ys:List Nat) (sh x0 y0:Nat) (w:World) (h:Rd w A n c xs) (h' : Rd w A' n' c' ys)
 (hd:Dig aD xs) (hd' : Dig aD ys) (hn:2≤n) (hn' : 2≤n') (hle:n'≤n) (hnn:n'<n-1) (a1 a2 b1 b2 ah bh:Nat) (hs:sh≤63) (hbl:Hid ((64:Int)-Lib.bitLen a1=sh))
 (g1:xs[n-1]?=some a1) (g2:xs[n-2]?=some a2) (k1:n'=n→ys[n-1]?=some b1) (k2:n-1≤n'→ys[n-2]?=some b2)
 (e1:IntKind.u64.wrap ((a1:Int)*2^sh)=(ah:Int)) (e2:bits .or .u64 (ah:Int) ((a2:Int)/2^(64-sh))=(x0:Int))
 (e3:IntKind.u64.wrap ((b1:Int)*2^sh)=(bh:Int)) (e4:n'=n→bits .or .u64 (bh:Int) ((b2:Int)/2^(64-sh))=(y0:Int)) (e5:n'=n-1→(b2:Int)/2^(64-sh)=(y0:Int)) (e6:n'<n-1→y0=0)
 (hx0:x0<aD) (hy0:y0≤x0) :
 Calls Tryz.prog 179 #[.slice A n c,.slice A' n' c'] w fun e w' =>
  SimRes x0 y0 e∧Below w.heap.size w w':=by
 have hnc:n≤c:=h.cap
 have hcm:c≤9223372036854775807:=h.2.2.1
 have hnc' : n'≤c':=h'.cap
 have hcm' : c'≤9223372036854775807:=h'.2.2.1
 obtain ⟨ad,a1',hA,hal,ha1,hc1⟩:=h.at_ (k:=n-1) (by omega)
 obtain ⟨ad2,a2',hA2,_,ha2,hc2⟩:=h.at_ (k:=n-2) (by omega)
 obtain ⟨ad',hA',hal',hcb⟩:=h'.2.2.2 (by omega)
 subst hA
 injection hA2 with hA2
 subst hA2
 rw [g1] at ha1
 injection ha1 with ha1
 subst ha1
 rw [g2] at ha2
 injection ha2 with ha2
 subst ha2
 subst hA'
 have hab:a1≤18446744073709551615:=by have:=hd.at_ g1;have:=aJ;omega
 have cl:=aH (fun w=>Tryz.bits_LeadingZeros64 (a1:Int) w (by omega) (by omega))
 have HX:=aH (aI hd hd')
 have HC:=aH hcb
 have hx0' : (x0:Int)≤18446744073709551615:=by have:=aJ;omega
 have hq1:(ad.add (n-1)).block<w.heap.size:=by rw [bL];exact hal
 have hq2:(ad.add (n-2)).block<w.heap.size:=by rw [bL];exact hal
 have hq3:(ad'.add (n-1)).block<w.heap.size:=by rw [bL];exact hal'
 have hq4:(ad'.add (n-2)).block<w.heap.size:=by rw [bL];exact hal'
 clear h h' hd hd' hcb g1 g2 hab
 have hsw1:((n' : Int)==n)=false:=by simp;omega
 have hsw2:((n' : Int)==(n:Int)-1)=false:=by simp;omega
 have HY0:=aH (e6 hnn)
 have HK:=aH (aI e6 (aI hx0 hy0))
 clear e4 e5 e6 k1 k2 hx0 hy0 hnn
 go_enter Tryz.func179,Tryz.ntmps179
 go_wp2_with (go_at_call 232;refine (cl.out _).mono ?_;rintro e w' ⟨rfl,hw⟩;rw [hw];rw [Int.toNat_natCast,hbl.out])
 go_quiet (fail)
 have hbW:Below w.heap.size w ((w.alloc eV).drewN nq):=cI ((Below.refl _ _).alloc (Nat.le_refl _) _) _
 have hrW:((w.alloc eV).drewN nq).heap[w.heap.size]?=some eV:=heap_alloc_new w _
 unfold eV at hbW hrW
 have HW2:=aH (aI hbW hrW)
 clear hbW hrW hc1 hc2 hq1 hq2 hq3 hq4
 generalize (w.alloc (.cells #[.int .u64 0,.int .u64 0,.int .u64 0,.int .u64 0,.int .i64 0] 222)).drewN nq=W3 at *
 go_wp2
 obtain ⟨gr,hgr⟩:∃ gr,gr=w.heap.size:=⟨_,rfl⟩
 obtain ⟨gs,hgs⟩:∃ gs,gs=W3.heap.size:=⟨_,rfl⟩
 have hlt:gr<gs:=by rw [hgr,hgs];exact (Array.getElem?_eq_some_iff.1 HW2.out.2).1
 have hW4b:Below gr w (W3.alloc (.cells #[.int .u64 1,.int .u64 0,.int .u64 0,.int .u64 1,.int .i64 0] 222)):=by rw [hgr];exact HW2.out.1.alloc HW2.out.1.size _
 have hW4s:(W3.alloc (.cells #[.int .u64 1,.int .u64 0,.int .u64 0,.int .u64 1,.int .i64 0] 222)).heap[gs]?=some (.cells #[.int .u64 1,.int .u64 0,.int .u64 0,.int .u64 1,.int .i64 0] 222):=by rw [hgs];exact heap_alloc_new _ _
 have hW4r:(W3.alloc (.cells #[.int .u64 1,.int .u64 0,.int .u64 0,.int .u64 1,.int .i64 0] 222)).heap[gr]?=some eV:=by rw [hgr];exact (Below.heap_alloc W3 _ _ (by rw [← hgr,← hgs];exact hlt)).trans HW2.out.2
 have HW4:=aH (aI hW4b (aI hW4s hW4r))
 rw [← hgr,← hgs]
 clear hW4b hW4s hW4r HW2 hgs
 have HGR:=aH hgr
 clear hgr
 generalize W3.alloc (.cells #[.int .u64 1,.int .u64 0,.int .u64 0,.int .u64 1,.int .i64 0] 222)=W4 at *
 go_loopw [7,8] (fun p q wr => ∃ x y oa ob na nb s:Nat,p = .int .u64 (x:Int)∧q = .int .u64 (y:Int)∧Hid (Pl.Steps x0 y0 x y oa ob na nb s∧uI x y ob nb s)∧SimB x0 x y s∧wr.heap[gs]?=some (oA oa ob na nb s)∧wr.heap[gr]?=some eV∧Below gr w wr) (fun _ q _=>(intOf q).toNat)
 case atStart=>exact ⟨x0,y0,1,0,0,1,0,rfl,(by rw [HY0.out];rfl),⟨Pl.Steps.start _ _ HK.out.2.2,fun h=>absurd h (by omega)⟩,⟨HK.out.2.1,Nat.le_refl _,HK.out.2.2,by omega⟩,HW4.out.2.1,HW4.out.2.2,HW4.out.1⟩
 case round =>
  obtain ⟨x,y,oa,ob,na,nb,s,rfl,rfl,hst,hsb,hbs,hbr,hbe⟩:=hrel
  obtain ⟨m1,m2,m3,m4⟩:=hsb
  obtain ⟨c0,c1,c2,c3,c4,z0,z1,z2,z3,z4⟩:=bI hbs
  obtain ⟨d0,d1,d2,d3,d4,w0,w1,w2,w3,w4⟩:=bI (dK▸hbr)
  have hne:¬ gs=gr:=by omega
  have hne' : ¬ gr=gs:=by omega
  have hgsl:gs<wr.heap.size:=(Array.getElem?_eq_some_iff.1 hbs).1
  have hgrl:gr<wr.heap.size:=(Array.getElem?_eq_some_iff.1 hbr).1
  have HB:=aH (aI hbs (aI hbr hbe))
  clear hbs hbr hbe
  rcases Nat.eq_zero_or_pos y with rfl|hy
  ·simp only [Int.natCast_zero]
   go_wp2
   exact bodyPost_ret (v:=nZ oa ob na nb s) (dR _ (fI (dK▸HB.out.2.1)) rfl) rfl ⟨⟨oa,ob,na,nb,s,x,0,rfl,hst.out.1,hst.out.2⟩,by rw [← HGR.out];exact bM HB.out.2.2 (Nat.le_refl _) _ _ _ _ _⟩
  ·have hs1:=hst.out.1.next hy
   obtain ⟨q,hq⟩:∃ q:Nat,q=x/y:=⟨_,rfl⟩
   obtain ⟨r,hr⟩:∃ r:Nat,r=x%y:=⟨_,rfl⟩
   rw [← hq,← hr] at hs1
   have f1:(x:Int).tdiv y=q:=by rw [hq,Int.tdiv_eq_ediv_of_nonneg (by omega),Int.natCast_ediv]
   have f2:(x:Int)/y=q:=by rw [hq,Int.natCast_ediv]
   have f3:(x:Int).tmod y=r:=by rw [hr,Int.tmod_eq_emod_of_nonneg (by omega),Int.natCast_emod]
   have f4:(x:Int)%y=r:=by rw [hr,Int.natCast_emod]
   have hry:r<y:=by rw [hr];exact Nat.mod_lt _ hy
   have hqx:q≤x:=by rw [hq];exact Nat.div_le_self _ _
   obtain ⟨oa2,hoa2⟩:∃ k:Nat,oa+q*na=k:=⟨_,rfl⟩
   obtain ⟨ob2,hob2⟩:∃ k:Nat,ob+q*nb=k:=⟨_,rfl⟩
   rw [hoa2,hob2] at hs1
   have l1:=hs1.na_le hy
   have l2:=hs1.nb_le hy
   have hy0x:=HK.out.2.2
   have cn:=aH (fun w=>xC oa ob na nb s q oa2 ob2 w hoa2 hob2 (by omega) (by omega) m4)
   have HS1:=aH (aI hs1 (aI l1 l2))
   have hxi:(x:Int)≤18446744073709551615:=by omega
   have hyn:¬ ((y:Int)=0):=by omega
   have hy' : (0:Int)<y:=by omega
   have hqi:(q:Int)≤18446744073709551615:=by omega
   have hri:(r:Int)≤18446744073709551615:=by omega
   have HM:=aH (aI m1 (aI m2 (aI m3 m4)))
   clear hs1 l1 l2 hq hr hoa2 hob2 hy m1 m2 m3 m4 hy0x d0 d1 d2 d3 d4 w0 w1 w2 w3 w4 z0 z1 z2 z3 z4 hqx
   go_wp2
   go_region_with ((go_at_call 233;refine (cn.out _).mono ?_;rintro e w5 ⟨rfl,hb5⟩;first|(have hk0:=iR hb5;obtain ⟨v0,v1,v2,v3,v4,x0',x1',x2',x3',x4'⟩:=bI hk0)|(have hk0:=kept_alloc hb5;obtain ⟨v0,v1,v2,v3,v4,x0',x1',x2',x3',x4'⟩:=bI hk0)|skip))
   all_goals first
    | (have hW:=Behind.fresh (W0:=w) (gr:=gr) (gs:=gs) (na:=na) (nb:=nb) (oa2:=oa2) (ob2:=ob2) (Below.refl _ _) hb5 HB.out.1 HB.out.2.1 HB.out.2.2
       have HW6:=aH hW
       generalize w5.alloc (.cells #[.int .u64 (na:Int),.int .u64 (nb:Int),.int .u64 (oa2:Int),.int .u64 (ob2:Int),.int .i64 ((s:Int)+1)] 222)=W6 at HW6 ⊢
       generalize w5.heap.size=gn at HW6 ⊢)
    | (have hW:=Behind.fresh (W0:=w) (gr:=gr) (gs:=gs) (na:=na) (nb:=nb) (oa2:=oa2) (ob2:=ob2) (Below.refl _ _).drew hb5 HB.out.1 HB.out.2.1 HB.out.2.2
       have HW6:=aH hW
       generalize w5.alloc (.cells #[.int .u64 (na:Int),.int .u64 (nb:Int),.int .u64 (oa2:Int),.int .u64 (ob2:Int),.int .i64 ((s:Int)+1)] 222)=W6 at HW6 ⊢
       generalize w5.heap.size=gn at HW6 ⊢)
    | (have hW:=Behind.laid (W0:=w) (gr:=gr) (gs:=gs) (na:=na) (nb:=nb) (oa2:=oa2) (ob2:=ob2) ((Below.refl _ _).alloc (Nat.le_refl _) _) hb5 hk0 HB.out.1 HB.out.2.1 HB.out.2.2
       have HW6:=aH hW
       generalize (((((w5.setCell ⟨wr.heap.size,0,none⟩ (.int .u64 (na:Int))).setCell ⟨wr.heap.size,1,none⟩ (.int .u64 (nb:Int))).setCell ⟨wr.heap.size,2,none⟩ (.int .u64 (oa2:Int))).setCell ⟨wr.heap.size,3,none⟩ (.int .u64 (ob2:Int))).setCell ⟨wr.heap.size,4,none⟩ (.int .i64 ((s:Int)+1)))=W6 at HW6 ⊢
       generalize wr.heap.size=gn at HW6 ⊢)
    | (have hW:=Behind.laid (W0:=w) (gr:=gr) (gs:=gs) (na:=na) (nb:=nb) (oa2:=oa2) (ob2:=ob2) ((Below.refl _ _).alloc (Nat.le_refl _) _).drew hb5 hk0 HB.out.1 HB.out.2.1 HB.out.2.2
       have HW6:=aH hW
       generalize (((((w5.setCell ⟨wr.heap.size,0,none⟩ (.int .u64 (na:Int))).setCell ⟨wr.heap.size,1,none⟩ (.int .u64 (nb:Int))).setCell ⟨wr.heap.size,2,none⟩ (.int .u64 (oa2:Int))).setCell ⟨wr.heap.size,3,none⟩ (.int .u64 (ob2:Int))).setCell ⟨wr.heap.size,4,none⟩ (.int .i64 ((s:Int)+1)))=W6 at HW6 ⊢
       generalize wr.heap.size=gn at HW6 ⊢)
   all_goals clear cn c0 c1 c2 c3 c4 hgsl hgrl hb5
   all_goals try clear hk0
   all_goals try clear v0 v1 v2 v3 v4 x0' x1' x2' x3' x4'
   all_goals
    go_wp2
    go_quiet (fail)
    have HW7:=aH (show Behind w (W6.drewN nq) gr gs gn oa ob na nb s oa2 ob2 na nb (s+1) from ⟨HW6.out.1,HW6.out.2.1,HW6.out.2.2.1,cI HW6.out.2.2.2.1 _,HW6.out.2.2.2.2⟩)
    clear HW6
    generalize W6.drewN nq=W7 at HW7 ⊢
    obtain ⟨n0,n1,n2,n3,n4,p0,p1,p2,p3,p4⟩:=bI HW7.out.1
    obtain ⟨c0,c1,c2,c3,c4,z0,z1,z2,z3,z4⟩:=bI HW7.out.2.1
    obtain ⟨d0,d1,d2,d3,d4,w0,w1,w2,w3,w4⟩:=bI (dK▸HW7.out.2.2.1)
    have q1:¬ gn=gs:=HW7.out.2.2.2.2.1
    have q2:¬ gn=gr:=HW7.out.2.2.2.2.2
    have q3:¬ gs=gn:=fun h=>q1 h.symm
    have q4:¬ gr=gn:=fun h=>q2 h.symm
    have hsum:(nb:Int)+ob2≤18446744073709551615∨r<ob2:=by
     rcases Nat.lt_or_ge r ob2 with h|h
     ·exact .inr h
     ·have hrp:0<r:=Nat.lt_of_lt_of_le HS1.out.1.nb1 h
      have:=HS1.out.1.sum_le hrp
      have:=HM.out.1
      have:=aJ
      exact .inl (by omega)
    have hyr:(0:Int)≤(y:Int)-r:=by omega
    have hwr:IntKind.u64.wrap ((y:Int)-r)=(y:Int)-r:=by rw [IntKind.wrap_u64];have:=HM.out;have:=aJ;omega
    by_cases t1:r<ob2
    ·have t1' : (r:Int)<ob2:=by omega
     clear hsum t1
     go_wp2
     exact bodyPost_ret (v:=nZ oa ob na nb s) (dR _ (fI (dK▸HW7.out.2.2.1)) rfl) rfl ⟨⟨oa,ob,na,nb,s,x,y,rfl,hst.out.1,hst.out.2⟩,by rw [← HGR.out];exact bM HW7.out.2.2.2.1 (Nat.le_refl _) _ _ _ _ _⟩
    ·have t1' : ¬ (r:Int)<ob2:=by omega
     have hsum' : (nb:Int)+ob2≤18446744073709551615:=by omega
     by_cases t2:(y:Int)-r<(nb:Int)+ob2
     ·clear hsum t1
      go_wp2
      exact bodyPost_ret (v:=nZ oa ob na nb s) (dR _ (fI (dK▸HW7.out.2.2.1)) rfl) rfl ⟨⟨oa,ob,na,nb,s,x,y,rfl,hst.out.1,hst.out.2⟩,by rw [← HGR.out];exact bM HW7.out.2.2.2.1 (Nat.le_refl _) _ _ _ _ _⟩
     ·have htk:uI y r nb ob2 (s+1):=fun _=>⟨by omega,by omega⟩
      have hsm:SimB x0 y r (s+1):=⟨HM.out.1,by have:=HM.out;omega,by omega,(SimOk.of_steps HS1.out.1 htk HM.out.1 HK.out.2.2 (K:=1) (α:=0) (β:=0) rfl rfl (by omega) (by omega)).1⟩
      have HT:=aH (aI htk hsm)
      have t3:decide ((y:Int)-r<(nb:Int)+ob2)=false:=by simp;omega
      have t4:(nb:Int)+ob2≤(y:Int)-r:=by omega
      clear hsum t1 htk hsm t2
      go_wp2
      go_roundw
      case rel=>exact ⟨y,r,na,nb,oa2,ob2,s+1,rfl,rfl,⟨HS1.out.1,HT.out.1⟩,HT.out.2,fI HW7.out.2.1,(fO hne' _ _ _ _ _).trans HW7.out.2.2.1,bM HW7.out.2.2.2.1 (Nat.le_of_lt hlt) _ _ _ _ _⟩
      case measure=>simp [intOf];omega
def xE (a b:Nat) (w:World) (e:Ending) (w' : World):Prop := ∃ oa ob na nb s:Nat,e = .returned (nZ oa ob na nb s)∧SimOk a b oa ob na nb s∧Below w.heap.size w w'
theorem simulate_any (A:Option Addr) (n c:Nat) (xs:List Nat) (A' : Option Addr) (n' c' : Nat) (ys:List Nat) (w:World) (h:Rd w A n c xs) (h' : Rd w A' n' c' ys)
 (hd:Dig aD xs) (hd' : Dig aD ys) (hx:Norm xs) (hn' : 2≤n') (hle:n'≤n) (hge:val aD ys≤val aD xs) :
 Calls Tryz.prog 179 #[.slice A n c,.slice A' n' c'] w (xE (val aD xs) (val aD ys) w):=by
 have hW:=aJ
 have hlx:=h.len
 have hly:=h'.len
 obtain ⟨a1,g1⟩:∃ a1,xs[n-1]?=some a1:=⟨_,List.getElem?_eq_getElem (by omega)⟩
 obtain ⟨a2,g2⟩:∃ a2,xs[n-2]?=some a2:=⟨_,List.getElem?_eq_getElem (by omega)⟩
 have l1:=hd.at_ g1
 have l2:=hd.at_ g2
 have ha1:0<a1:=by
  have hne:xs≠[]:=by rintro rfl;simp at g1
  have:=hx hne
  rw [List.getLast_eq_getElem] at this
  obtain ⟨k,ey⟩:=List.getElem?_eq_some_iff.1 g1
  simp only [hlx,ey] at this
  omega
 obtain ⟨sh,hs,hbl,s1,s2⟩:=qB a1 ha1 l1
 obtain ⟨t1,t2,α,eα,lα⟩:=zG (a1:=a1) (a2:=a2) hd (n:=n) (by omega) (by omega) hs (by rw [List.getD,g1];rfl) (by rw [List.getD,g2];rfl) s2
 obtain ⟨b1,hb1⟩:∃ b1,ys.getD (n-1) 0=b1:=⟨_,rfl⟩
 obtain ⟨b2,hb2⟩:∃ b2,ys.getD (n-2) 0=b2:=⟨_,rfl⟩
 have hba:b1≤a1:=by
  rcases Nat.lt_or_ge a1 b1 with hlt|hge'
  ·exfalso
   have hk:n-1<ys.length:=by
    rcases Nat.lt_or_ge (n-1) ys.length with h|h
    ·exact h
    ·rw [List.getD,List.getElem?_eq_none h] at hb1
     have:(0:Nat)=b1:=hb1
     omega
   have e1:val aD xs=val aD (xs.take (n-1))+aD^(n-1)*a1:=by
    have:val aD xs=val aD (xs.take (n-1+1)):=by rw [List.take_of_length_le (by omega)]
    obtain ⟨k,ey⟩:=List.getElem?_eq_some_iff.1 g1
    rw [this,aF _ _ _ k,ey]
   have e2:val aD ys=val aD (ys.take (n-1))+aD^(n-1)*b1:=by
    have:val aD ys=val aD (ys.take (n-1+1)):=by rw [List.take_of_length_le (by omega)]
    rw [this,aF _ _ _ hk]
    rw [List.getD,List.getElem?_eq_getElem hk] at hb1
    have:ys[n-1]=b1:=hb1
    rw [this]
   have e3:=bV (hd.take (n-1))
   rw [List.length_take,Nat.min_eq_left (by omega)] at e3
   have e4:aD^(n-1)*(a1+1)≤aD^(n-1)*b1:=Nat.mul_le_mul_left _ hlt
   rw [Nat.mul_add,Nat.mul_one] at e4
   omega
  ·exact hge'
 have hb1s:b1*2^sh<aD:=Nat.lt_of_le_of_lt (Nat.mul_le_mul_right _ hba) s2
 obtain ⟨u1,u2,β,eβ,lβ⟩:=zG hd' (n:=n) (by omega) (by omega) hs hb1 hb2 hb1s
 obtain ⟨K,hK⟩:∃ K,K=2^(64-sh)*aD^(n-2):=⟨_,rfl⟩
 obtain ⟨x0,hx0⟩:∃ x0,x0=a1*2^sh+a2/2^(64-sh):=⟨_,rfl⟩
 obtain ⟨y0,hy0⟩:∃ y0,y0=b1*2^sh+b2/2^(64-sh):=⟨_,rfl⟩
 rw [← hx0,← hK] at eα
 rw [← hy0,← hK] at eβ
 rw [← hK] at lα lβ
 have hyx:y0≤x0:=by
  have:y0*K<(x0+1)*K:=by rw [Nat.add_mul,Nat.one_mul];omega
  have:=Nat.lt_of_mul_lt_mul_right this
  omega
 have e1:IntKind.u64.wrap ((a1:Int)*2^sh)=((a1*2^sh:Nat):Int):=by rw [show (a1:Int)*2^sh=((a1*2^sh:Nat):Int) from by simp,lJ _ (by omega)]
 have e2:bits .or .u64 ((a1*2^sh:Nat):Int) ((a2:Int)/2^(64-sh))=(x0:Int):=by
  rw [show (a2:Int)/2^(64-sh)=((a2/2^(64-sh):Nat):Int) from by simp,hx0]
  exact wX _ _ _ t1 (by omega)
 have e3:IntKind.u64.wrap ((b1:Int)*2^sh)=((b1*2^sh:Nat):Int):=by rw [show (b1:Int)*2^sh=((b1*2^sh:Nat):Int) from by simp,lJ _ (by omega)]
 have e4:bits .or .u64 ((b1*2^sh:Nat):Int) ((b2:Int)/2^(64-sh))=(y0:Int):=by
  rw [show (b2:Int)/2^(64-sh)=((b2/2^(64-sh):Nat):Int) from by simp,hy0]
  exact wX _ _ _ u1 (by omega)
 have e5:n'<n→(b2:Int)/2^(64-sh)=(y0:Int):=by
  intro hlt
  have:b1=0:=by rw [← hb1,List.getD,List.getElem?_eq_none (by omega)];rfl
  rw [hy0,this]
  simp
 have e6:n'<n-1→y0=0:=by
  intro hlt
  have q1:b1=0:=by rw [← hb1,List.getD,List.getElem?_eq_none (by omega)];rfl
  have q2:b2=0:=by rw [← hb2,List.getD,List.getElem?_eq_none (by omega)];rfl
  rw [hy0,q1,q2]
  simp
 have k1:n'=n→ys[n-1]?=some b1:=by
  intro hh
  rw [List.getD,List.getElem?_eq_getElem (by omega)] at hb1
  rw [List.getElem?_eq_getElem (by omega)]
  exact congrArg some hb1
 have k2:n-1≤n'→ys[n-2]?=some b2:=by
  intro hh
  rw [List.getD,List.getElem?_eq_getElem (by omega)] at hb2
  rw [List.getElem?_eq_getElem (by omega)]
  exact congrArg some hb2
 have fin:∀ e w',SimRes x0 y0 e∧Below w.heap.size w w'→xE (val aD xs) (val aD ys) w e w':=by
  rintro e w' ⟨⟨oa,ob,na,nb,s,x,y,he,hst,htk⟩,hb⟩
  exact ⟨oa,ob,na,nb,s,he,SimOk.of_steps hst htk (by omega) hyx eα eβ lα lβ,hb⟩
 have hcase:n'=n∨n'=n-1∨n'<n-1:=by omega
 rcases hcase with hh|hh|hh
 ·exact (simulate_eq A n c xs A' n' c' ys sh x0 y0 w h h' hd hd' (by omega) hn' hle hh a1 a2 b1 b2 _ _ hs hbl g1 g2 k1 k2 e1 e2 e3 (fun _=>e4) (fun _=>e5 (by omega)) e6 (by omega) hyx).mono fin
 ·exact (simulate_one A n c xs A' n' c' ys sh x0 y0 w h h' hd hd' (by omega) hn' hle hh a1 a2 b1 b2 _ _ hs hbl g1 g2 k1 k2 e1 e2 e3 (fun _=>e4) (fun _=>e5 (by omega)) e6 (by omega) hyx).mono fin
 ·exact (yI A n c xs A' n' c' ys sh x0 y0 w h h' hd hd' (by omega) hn' hle hh a1 a2 b1 b2 _ _ hs hbl g1 g2 k1 k2 e1 e2 e3 (fun _=>e4) (fun _=>e5 (by omega)) e6 (by omega) hyx).mono fin
def Ku:Value→Bool
 | .int .u64 _=>true
 | _=>false
theorem hot_of_cell {K:Value→Bool} {w:World} {p:Addr} {v:Value} (h:w.cell? p=some v) (hv:K v=true):∃ o,w.heap[p.block]?=some o∧hotObj K o=true:=by
 unfold World.cell? at h
 split at h
 ·rename_i c e f hb
  split at h
  ·cases h
  ·refine ⟨_,hb,?_⟩
   exact Array.any_eq_true'.2 ⟨v,Array.mem_of_getElem? h,hv⟩
 ·cases h
theorem Ext.cell {K:Value→Bool} {w w' : World} (h:Ext K w w') {p:Addr} {v:Value} (hc:w.cell? p=some v) (hv:K v=true):w'.cell? p=some v:=by
 obtain ⟨o,ho,hh⟩:=hot_of_cell hc hv
 have:=h.block _ _ ho hh
 exact (World.cell?_of_block (w:=w) (by rw [this,ho])).trans hc
theorem Rd.ext {K:Value→Bool} (hK:∀ x,K (.int .u64 x)=true) {w w' : World} {A:Option Addr} {n c:Nat} {xs:List Nat} (h:Rd w A n c xs) (hx:Ext K w w'):Rd w' A n c xs:=by
 refine ⟨h.1,h.2.1,h.2.2.1,fun hn=>?_⟩
 obtain ⟨ad,e,hl,hc⟩:=h.2.2.2 hn
 exact ⟨ad,e,Nat.lt_of_lt_of_le hl hx.size,fun j x hj=>hx.cell (hc j x hj) (hK _)⟩
theorem Nt.ext {K:Value→Bool} (hK:∀ x,K (.int .u64 x)=true) {w w' : World} {v:Value} {a:Nat} (h:Nt w v a) (hx:Ext K w w'):Nt w' v a:=by
 obtain ⟨A,n,c,xs,hv,hr,hd,hn,ha⟩:=h
 exact ⟨A,n,c,xs,hv,hr.ext hK hx,hd,hn,ha⟩
def jQ (a:Nat):Sp:=fun v w=>Nt w v a
theorem aL {K:Value→Bool} (hK:∀ x,K (.int .u64 x)=true) (a:Nat):Stable K (jQ a):=fun _ _ _ h hx=>Nt.ext hK h hx
theorem Ku_u (x:Int):Ku (.int .u64 x)=true:=rfl
theorem aA {w:World} {g:Nat} {cs:Array Value} {t:TypeId} {fr:Nat×Nat} (h:w.heap[g]?=some (.cells cs t fr)) (i:Nat):w.cell? ⟨g,i,none⟩=cs[i]?:=by
 unfold World.cell?
 rw [h]
 rfl
theorem Base.blk {T:List Nat} {w0 w:World} {g:Nat} {o:Obj} (h:Base T w0 w) (h0:w0.heap[g]?=some o) (hT:g∉T):w.heap[g]?=some o:=(h.block g (lt_of_block h0) hT).trans h0
theorem GivesNt.ty {P:Program} {f:FuncId} {args:Array Value} {w:World} {a:Nat} (h:Calls P f args w (GivesNt w a)):Calls P f args w (TyPost w (jQ a)) :=
 h.mono fun _ _ ⟨v,h1,h2,h3⟩=>⟨v,h1,h3,h2⟩
theorem Gives.ty {P:Program} {f:FuncId} {args:Array Value} {w:World} {u:Value} (h:Calls P f args w (Gives w u)):Calls P f args w (TyPost w (Sp.is u)) :=
 h.mono fun _ _ ⟨h1,h2⟩=>⟨u,h1,h2,rfl⟩
theorem Below.step_trans {w0 w w' : World} (h:Below w0.heap.size w0 w) (h' : Below w.heap.size w w'):Below w0.heap.size w0 w':=h.trans (h'.mono h.size)
/-! ### The functions on natural numbers, by values -/
theorem iE {x y a b:Nat} {v v' : Value} {w:World} (h:Nt w v a) (h' : Nt w v' b) (ha:Lv 40 a) (hb:Lv 40 b) (hx:x<aD) (hy:y<aD) (hge:y*b≤x*a) :
 Calls Tryz.prog 234 #[.int .u64 (x:Int),v,.int .u64 (y:Int),v'] w (GivesNt w (x*a-y*b)):=by
 obtain ⟨A,n,c,xs,rfl,hr,hd,hn,rfl⟩:=h
 obtain ⟨A',n',c',ys,rfl,hr',hd',hn',rfl⟩:=h'
 have h1:=ha.len40 hn
 have h2:=hb.len40 hn'
 rw [hr.len] at h1
 rw [hr'.len] at h2
 exact xD x A n c xs y A' n' c' ys w hr hr' hd hd' hx hy (by omega) (by omega) hge
theorem qC {a b:Nat} {v v' : Value} {w:World} (h:Nt w v a) (h' : Nt w v' b):Calls Tryz.prog 178 #[v,v'] w (Gives w (.int .i64 (bS a b))):=by
 obtain ⟨A,n,c,xs,rfl,hr,hd,hn,rfl⟩:=h
 obtain ⟨A',n',c',ys,rfl,hr',hd',hn',rfl⟩:=h'
 exact uG A n c xs A' n' c' ys w hr hr' hd hd' hn hn'
theorem nt_plus {a b:Nat} {v v' : Value} {w:World} (h:Nt w v a) (h' : Nt w v' b) (ha:Lv 40 a) (hb:Lv 40 b):Calls Tryz.prog 121 #[v,v'] w (GivesNt w (a+b)):=by
 obtain ⟨A,n,c,xs,rfl,hr,hd,hn,rfl⟩:=h
 obtain ⟨A',n',c',ys,rfl,hr',hd',hn',rfl⟩:=h'
 have h1:=ha.len40 hn
 have h2:=hb.len40 hn'
 rw [hr.len] at h1
 rw [hr'.len] at h2
 exact plus_any A n c xs A' n' c' ys w hr hr' hd hd' (by omega) (by omega)
theorem nt_minus {a b:Nat} {v v' : Value} {w:World} (h:Nt w v a) (h' : Nt w v' b) (ha:Lv 40 a) (hge:b≤a):Calls Tryz.prog 248 #[v,v'] w (GivesNt w (a-b)):=by
 obtain ⟨A,n,c,xs,rfl,hr,hd,hn,rfl⟩:=h
 obtain ⟨A',n',c',ys,rfl,hr',hd',hn',rfl⟩:=h'
 have h1:=ha.len40 hn
 rw [hr.len] at h1
 have h2:n'≤n:=by
  rcases Nat.lt_or_ge n n' with hlt|hge'
  ·have:=dF eH hd hn' (by rw [hr.len,hr'.len];exact hlt)
   omega
  ·exact hge'
 exact minus_any A n c xs A' n' c' ys w hr hr' hd hd' (by omega) h2 hge
theorem iJ {a b:Nat} {v v' : Value} {w:World} (h:Nt w v a) (h' : Nt w v' b) (ha:Lv 40 a) (hb:Lv 40 b):Calls Tryz.prog 119 #[v,v'] w (GivesNt w (a*b)):=by
 obtain ⟨A,n,c,xs,rfl,hr,hd,hn,rfl⟩:=h
 obtain ⟨A',n',c',ys,rfl,hr',hd',hn',rfl⟩:=h'
 have h1:=ha.len40 hn
 have h2:=hb.len40 hn'
 rw [hr.len] at h1
 rw [hr'.len] at h2
 exact times_any A n c xs A' n' c' ys w hr hr' hd hd' (by omega) (by omega)
theorem mT {a n c:Nat} {A:Option Addr} {xs:List Nat} {w:World} (hr:Rd w A n c xs) (hn:Norm xs) (ha:val aD xs=a):0<n↔0<a:=by
 constructor
 ·intro h
  rw [← ha]
  exact hn.pos bC (by rintro rfl;have:=hr.len;simp at this;omega)
 ·intro h
  rcases Nat.eq_zero_or_pos n with e|e
  ·subst e
   have:xs = []:=List.eq_nil_of_length_eq_zero hr.len
   subst this
   simp [val] at ha
   omega
  ·exact e
theorem fJ {a b:Nat} {v v' : Value} {w:World} (h:Nt w v a) (h' : Nt w v' b) (ha:Lv 40 a) (hb:0<b):Calls Tryz.prog 117 #[v,v'] w (lK w (a/b) (a%b)):=by
 obtain ⟨A,n,c,xs,rfl,hr,hd,hn,rfl⟩:=h
 obtain ⟨A',n',c',ys,rfl,hr',hd',hn',rfl⟩:=h'
 have h1:=ha.len40 hn
 rw [hr.len] at h1
 exact divide_any A n c xs A' n' c' ys w hr hr' hd hd' (by omega) hn hn' ((mT hr' hn' rfl).2 hb)
def GivesWord (w:World) (a b:Nat) (e:Ending) (w' : World):Prop := ∃ v,e = .returned (.tuple #[v,.int .u64 (b:Int)])∧Nt w' v a∧Below w.heap.size w w'
theorem pN {a d:Nat} {v:Value} {w:World} (h:Nt w v a) (ha:Lv 40 a) (hd0:0<d) (hd1:d<aD):Calls Tryz.prog 181 #[v,.int .u64 (d:Int)] w (GivesWord w (a/d) (a%d)):=by
 obtain ⟨A,n,c,xs,rfl,hr,hd,hn,rfl⟩:=h
 have h1:=ha.len40 hn
 rw [hr.len] at h1
 exact (nY A n c xs d w hr hd (by omega) hd0 hd1).mono fun e w' ⟨⟨v,h1,h2⟩,h3⟩=>⟨v,h1,h2,h3⟩
theorem rF {a d:Nat} {v:Value} {w:World} (h:Nt w v a) (ha:Lv 40 a) (hd0:0<d) (hd1:d<aD):Calls Tryz.prog 181 #[v,.int .u64 (d:Int)] w fun e w' =>
 ∃ v,e = .returned (.tuple #[v,.int .u64 ((a%d:Nat):Int)])∧Nt w' v (a/d)∧v.ownBlock=some w.heap.size∧Below w.heap.size w w':=by
 obtain ⟨A,n,c,xs,rfl,hr,hd,hn,rfl⟩:=h
 have h1:=ha.len40 hn
 rw [hr.len] at h1
 exact (nX A n c xs d w hr hd (by omega) hd0 hd1).mono fun e w' ⟨⟨v,h1,h2,h4⟩,h3⟩=>⟨v,h1,h2,h4,h3⟩
theorem dO {a:Nat} {v:Value} {w:World} (h:Nt w v a):Calls Tryz.prog 113 #[v] w fun e w'=>e = .returned (.bool (decide (a=0)))∧w=w':=by
 obtain ⟨A,n,c,xs,rfl,hr,hd,hn,ha⟩:=h
 have:decide (n=0)=decide (a=0):=by
  have:=mT hr hn ha
  rw [decide_eq_decide];omega
 rw [← this]
 exact pZ A n c w
theorem oB {a:Nat} {v:Value} {w:World} (h:Nt w v a):Calls Tryz.prog 115 #[v] w fun e w'=>e = .returned (.bool (decide (a=1)))∧w=w':=by
 obtain ⟨A,n,c,xs,rfl,hr,hd,hn,rfl⟩:=h
 exact isOne_any A n c xs w hr hd hn
theorem qD {a:Nat} {v:Value} {w:World} (h:Nt w v a):Calls Tryz.prog 123 #[v] w fun e w'=>e = .returned (.int .u64 ((a%aD:Nat):Int))∧w=w':=by
 obtain ⟨A,n,c,xs,rfl,hr,hd,hn,rfl⟩:=h
 exact low_any A n c xs w hr hd
set_option maxHeartbeats 1000000 in
theorem pO (oa ob na nb s:Nat) (v v' : Value) (a b x y:Nat) (w:World) (h:Nt w v a) (h' : Nt w v' b) (ha:Lv 40 a) (hb:Lv 40 b) (b1:oa<aD) (b2:ob<aD) (b3:na<aD) (b4:nb<aD)
 (hs:(s:Int).tmod 2=0) (e1:oa*a=x+ob*b) (e2:nb*b=y+na*a) :
 Calls Tryz.prog 180 #[nZ oa ob na nb s,v,v'] w (lK w x y):=by
 have H:=aH (aI h (aI h' (aI ha (aI hb (aI b1 (aI b2 (aI b3 (aI b4 (aI e1 e2)))))))))
 clear h h' ha hb b1 b2 b3 b4 e1 e2
 unfold nZ
 go_enter Tryz.func180,Tryz.ntmps180
 go_wp2
 have hblk:=heap_alloc_new w (.cells #[.int .u64 (oa:Int),.int .u64 (ob:Int),.int .u64 (na:Int),.int .u64 (nb:Int),.int .i64 (s:Int)] 222)
 have hbel:Below w.heap.size w (w.alloc (.cells #[.int .u64 (oa:Int),.int .u64 (ob:Int),.int .u64 (na:Int),.int .u64 (nb:Int),.int .i64 (s:Int)] 222)):=(Below.refl _ _).alloc (Nat.le_refl _) _
 generalize w.alloc (.cells #[.int .u64 (oa:Int),.int .u64 (ob:Int),.int .u64 (na:Int),.int .u64 (nb:Int),.int .i64 (s:Int)] 222)=w1 at *
 have q1:∀ w',Base [] w1 w'→Calls Tryz.prog 234 #[.int .u64 (oa:Int),v,.int .u64 (ob:Int),v'] w' (TyPost w' (jQ x)):=fun w' hB=>by
  obtain ⟨h,h',ha,hb,b1,b2,b3,b4,e1,e2⟩:=H.out
  have:=GivesNt.ty (iE (x:=oa) (y:=ob) (w:=w') (h.below (Below.step_trans hbel hB.below)) (h'.below (Below.step_trans hbel hB.below)) ha hb b1 b2 (by omega))
  rwa [show oa*a-ob*b=x from by omega] at this
 have q2:∀ w',Base [] w1 w'→Calls Tryz.prog 234 #[.int .u64 (nb:Int),v',.int .u64 (na:Int),v] w' (TyPost w' (jQ y)):=fun w' hB=>by
  obtain ⟨h,h',ha,hb,b1,b2,b3,b4,e1,e2⟩:=H.out
  have:=GivesNt.ty (iE (x:=nb) (y:=na) (w:=w') (h'.below (Below.step_trans hbel hB.below)) (h.below (Below.step_trans hbel hB.below)) hb ha b4 b3 (by omega))
  rwa [show nb*b-na*a=y from by omega] at this
 have Q1:=aH q1
 have Q2:=aH q2
 clear q1 q2
 refine wp_region_ty Ku [] (by kernel_rfl) (by kernel_rfl) ?_
 repeat (first|(apply bQ (hg:=rfl);case h=>(intro A w' hB hk;simp [known,specOf,Kd.spec,Sp.is,isVar,Oper.looksAt,Op.operands,Call.operands,Act.eval] at hk;have c_hblk:=aA (hB.blk hblk (by first|(simp;done)|(simp;omega)));first|(simp [go_sem,hk,c_hblk];done)|(simp [go_sem,hk,c_hblk];rfl)|(simp [go_sem,c_hblk];rfl)))|(refine aV _ ?_ (by first|exact .inl rfl|exact .inr rfl) (by rfl) (by simp [specOf,Kd.spec];rfl) ?_ rfl ?_;(first|exact Sp.is_stable _ _|exact aL (fun _=>rfl) _|exact spTwo_stable (fun _=>rfl) _ _|exact spFr_stable (fun _=>rfl) _|exact spSum_stable (fun _=>rfl) _|exact spSgn_stable _ _|exact spNb_stable (fun _=>rfl) (fun _=>rfl) _|exact spVc_stable (fun _=>rfl) (fun _=>rfl) _)))
 refine aO (jQ x) (aL Ku_u _) rfl (fun A w' hB hk=>?_) ?_;(simp [known,specOf,Kd.spec,Sp.is,isVar,Oper.looksAt,Op.operands,Call.operands,Act.eval] at hk;have c_hblk:=aA (hB.blk hblk (by first|(simp;done)|(simp;omega)));simp [go_sem,hk,c_hblk];refine aG ?_;exact Q1.out _ hB)
 repeat (first|(apply bQ (hg:=rfl);case h=>(intro A w' hB hk;simp [known,specOf,Kd.spec,Sp.is,isVar,Oper.looksAt,Op.operands,Call.operands,Act.eval] at hk;have c_hblk:=aA (hB.blk hblk (by first|(simp;done)|(simp;omega)));first|(simp [go_sem,hk,c_hblk];done)|(simp [go_sem,hk,c_hblk];rfl)|(simp [go_sem,c_hblk];rfl)))|(refine aV _ ?_ (by first|exact .inl rfl|exact .inr rfl) (by rfl) (by simp [specOf,Kd.spec];rfl) ?_ rfl ?_;(first|exact Sp.is_stable _ _|exact aL (fun _=>rfl) _|exact spTwo_stable (fun _=>rfl) _ _|exact spFr_stable (fun _=>rfl) _|exact spSum_stable (fun _=>rfl) _|exact spSgn_stable _ _|exact spNb_stable (fun _=>rfl) (fun _=>rfl) _|exact spVc_stable (fun _=>rfl) (fun _=>rfl) _)))
 refine aO (jQ y) (aL Ku_u _) rfl (fun A w' hB hk=>?_) ?_;(simp [known,specOf,Kd.spec,Sp.is,isVar,Oper.looksAt,Op.operands,Call.operands,Act.eval] at hk;have c_hblk:=aA (hB.blk hblk (by first|(simp;done)|(simp;omega)));simp [go_sem,hk,c_hblk];refine aG ?_;exact Q2.out _ hB)
 repeat (first|(apply bQ (hg:=rfl);case h=>(intro A w' hB hk;simp [known,specOf,Kd.spec,Sp.is,isVar,Oper.looksAt,Op.operands,Call.operands,Act.eval] at hk;have c_hblk:=aA (hB.blk hblk (by first|(simp;done)|(simp;omega)));first|(simp [go_sem,hk,c_hblk];done)|(simp [go_sem,hk,c_hblk];rfl)|(simp [go_sem,c_hblk];rfl)))|(refine aV _ ?_ (by first|exact .inl rfl|exact .inr rfl) (by rfl) (by simp [specOf,Kd.spec];rfl) ?_ rfl ?_;(first|exact Sp.is_stable _ _|exact aL (fun _=>rfl) _|exact spTwo_stable (fun _=>rfl) _ _|exact spFr_stable (fun _=>rfl) _|exact spSum_stable (fun _=>rfl) _|exact spSgn_stable _ _|exact spNb_stable (fun _=>rfl) (fun _=>rfl) _|exact spVc_stable (fun _=>rfl) (fun _=>rfl) _)))
 refine ⟨by first|rfl|decide,fun f w2 hB hF hAp=>?_⟩;simp [Final1,Sp.is,isVar] at hF;simp only [frameOf]
 go_wp2
 go_ret2
 exact ⟨f 6,f 7,rfl,hF.2.1,hF.1,Below.step_trans hbel hB.below⟩
set_option maxHeartbeats 1000000 in
theorem rG (oa ob na nb s:Nat) (v v' : Value) (a b x y:Nat) (w:World) (h:Nt w v a) (h' : Nt w v' b) (ha:Lv 40 a) (hb:Lv 40 b) (b1:oa<aD) (b2:ob<aD) (b3:na<aD) (b4:nb<aD)
 (hs:(s:Int).tmod 2=1) (e1:ob*b=x+oa*a) (e2:na*a=y+nb*b) :
 Calls Tryz.prog 180 #[nZ oa ob na nb s,v,v'] w (lK w x y):=by
 have H:=aH (aI h (aI h' (aI ha (aI hb (aI b1 (aI b2 (aI b3 (aI b4 (aI e1 e2)))))))))
 clear h h' ha hb b1 b2 b3 b4 e1 e2
 unfold nZ
 go_enter Tryz.func180,Tryz.ntmps180
 go_wp2
 have hblk:=heap_alloc_new w (.cells #[.int .u64 (oa:Int),.int .u64 (ob:Int),.int .u64 (na:Int),.int .u64 (nb:Int),.int .i64 (s:Int)] 222)
 have hbel:Below w.heap.size w (w.alloc (.cells #[.int .u64 (oa:Int),.int .u64 (ob:Int),.int .u64 (na:Int),.int .u64 (nb:Int),.int .i64 (s:Int)] 222)):=(Below.refl _ _).alloc (Nat.le_refl _) _
 generalize w.alloc (.cells #[.int .u64 (oa:Int),.int .u64 (ob:Int),.int .u64 (na:Int),.int .u64 (nb:Int),.int .i64 (s:Int)] 222)=w1 at *
 have q1:∀ w',Base [] w1 w'→Calls Tryz.prog 234 #[.int .u64 (ob:Int),v',.int .u64 (oa:Int),v] w' (TyPost w' (jQ x)):=fun w' hB=>by
  obtain ⟨h,h',ha,hb,b1,b2,b3,b4,e1,e2⟩:=H.out
  have:=GivesNt.ty (iE (x:=ob) (y:=oa) (w:=w') (h'.below (Below.step_trans hbel hB.below)) (h.below (Below.step_trans hbel hB.below)) hb ha b2 b1 (by omega))
  rwa [show ob*b-oa*a=x from by omega] at this
 have q2:∀ w',Base [] w1 w'→Calls Tryz.prog 234 #[.int .u64 (na:Int),v,.int .u64 (nb:Int),v'] w' (TyPost w' (jQ y)):=fun w' hB=>by
  obtain ⟨h,h',ha,hb,b1,b2,b3,b4,e1,e2⟩:=H.out
  have:=GivesNt.ty (iE (x:=na) (y:=nb) (w:=w') (h.below (Below.step_trans hbel hB.below)) (h'.below (Below.step_trans hbel hB.below)) ha hb b3 b4 (by omega))
  rwa [show na*a-nb*b=y from by omega] at this
 have Q1:=aH q1
 have Q2:=aH q2
 clear q1 q2
 refine wp_region_ty Ku [] (by kernel_rfl) (by kernel_rfl) ?_
 repeat (first|(apply bQ (hg:=rfl);case h=>(intro A w' hB hk;simp [known,specOf,Kd.spec,Sp.is,isVar,Oper.looksAt,Op.operands,Call.operands,Act.eval] at hk;have c_hblk:=aA (hB.blk hblk (by first|(simp;done)|(simp;omega)));first|(simp [go_sem,hk,c_hblk];done)|(simp [go_sem,hk,c_hblk];rfl)|(simp [go_sem,c_hblk];rfl)))|(refine aV _ ?_ (by first|exact .inl rfl|exact .inr rfl) (by rfl) (by simp [specOf,Kd.spec];rfl) ?_ rfl ?_;(first|exact Sp.is_stable _ _|exact aL (fun _=>rfl) _|exact spTwo_stable (fun _=>rfl) _ _|exact spFr_stable (fun _=>rfl) _|exact spSum_stable (fun _=>rfl) _|exact spSgn_stable _ _|exact spNb_stable (fun _=>rfl) (fun _=>rfl) _|exact spVc_stable (fun _=>rfl) (fun _=>rfl) _)))
 refine aO (jQ x) (aL Ku_u _) rfl (fun A w' hB hk=>?_) ?_;(simp [known,specOf,Kd.spec,Sp.is,isVar,Oper.looksAt,Op.operands,Call.operands,Act.eval] at hk;have c_hblk:=aA (hB.blk hblk (by first|(simp;done)|(simp;omega)));simp [go_sem,hk,c_hblk];refine aG ?_;exact Q1.out _ hB)
 repeat (first|(apply bQ (hg:=rfl);case h=>(intro A w' hB hk;simp [known,specOf,Kd.spec,Sp.is,isVar,Oper.looksAt,Op.operands,Call.operands,Act.eval] at hk;have c_hblk:=aA (hB.blk hblk (by first|(simp;done)|(simp;omega)));first|(simp [go_sem,hk,c_hblk];done)|(simp [go_sem,hk,c_hblk];rfl)|(simp [go_sem,c_hblk];rfl)))|(refine aV _ ?_ (by first|exact .inl rfl|exact .inr rfl) (by rfl) (by simp [specOf,Kd.spec];rfl) ?_ rfl ?_;(first|exact Sp.is_stable _ _|exact aL (fun _=>rfl) _|exact spTwo_stable (fun _=>rfl) _ _|exact spFr_stable (fun _=>rfl) _|exact spSum_stable (fun _=>rfl) _|exact spSgn_stable _ _|exact spNb_stable (fun _=>rfl) (fun _=>rfl) _|exact spVc_stable (fun _=>rfl) (fun _=>rfl) _)))
 refine aO (jQ y) (aL Ku_u _) rfl (fun A w' hB hk=>?_) ?_;(simp [known,specOf,Kd.spec,Sp.is,isVar,Oper.looksAt,Op.operands,Call.operands,Act.eval] at hk;have c_hblk:=aA (hB.blk hblk (by first|(simp;done)|(simp;omega)));simp [go_sem,hk,c_hblk];refine aG ?_;exact Q2.out _ hB)
 repeat (first|(apply bQ (hg:=rfl);case h=>(intro A w' hB hk;simp [known,specOf,Kd.spec,Sp.is,isVar,Oper.looksAt,Op.operands,Call.operands,Act.eval] at hk;have c_hblk:=aA (hB.blk hblk (by first|(simp;done)|(simp;omega)));first|(simp [go_sem,hk,c_hblk];done)|(simp [go_sem,hk,c_hblk];rfl)|(simp [go_sem,c_hblk];rfl)))|(refine aV _ ?_ (by first|exact .inl rfl|exact .inr rfl) (by rfl) (by simp [specOf,Kd.spec];rfl) ?_ rfl ?_;(first|exact Sp.is_stable _ _|exact aL (fun _=>rfl) _|exact spTwo_stable (fun _=>rfl) _ _|exact spFr_stable (fun _=>rfl) _|exact spSum_stable (fun _=>rfl) _|exact spSgn_stable _ _|exact spNb_stable (fun _=>rfl) (fun _=>rfl) _|exact spVc_stable (fun _=>rfl) (fun _=>rfl) _)))
 refine ⟨by first|rfl|decide,fun f w2 hB hF hAp=>?_⟩;simp [Final1,Sp.is,isVar] at hF;simp only [frameOf]
 go_wp2
 go_ret2
 exact ⟨f 6,f 7,rfl,hF.2.1,hF.1,Below.step_trans hbel hB.below⟩
end Go.Proofs.YtejbgingjeedaaaGreatDoor
