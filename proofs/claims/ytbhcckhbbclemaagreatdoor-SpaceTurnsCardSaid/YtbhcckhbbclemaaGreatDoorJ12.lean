/- Parts of the proof, joined. -/
import Derived.Test.YtbhcckhbbclemaaGreatDoorJ11
import Derived.Lib.SmallJoins
import Derived.Laws.ResultCell
import Derived.WalkLawsBesides
import Derived.Test.YtbhcckhbbclemaaGreatDoorJ8
set_option linter.unusedSimpArgs false
set_option linter.unusedVariables false
namespace Go.Proofs.YtbhcckhbbclemaaGreatDoor
open Go.RowKit Pl
def LongInv (V U0 n' L:Nat) (us qs:List Nat) (k:Nat):Prop :=
 Dig W64 us∧us.length=L+n'∧Dig W64 qs∧qs.length=L∧val W64 (us.drop k)<V∧val W64 (qs.drop k)*V*W64^k+val W64 us=U0
theorem LongInv.window {V U0 n' L m:Nat} {us qs:List Nat} (h:LongInv V U0 n' L us qs (m+1)) (hm:m<L) (hV:V≤W64^n') :
 val W64 ((us.drop m).take (n'+1))=val W64 (us.drop m)∧val W64 (us.drop (m+(n'+1)))=0∧val W64 (us.drop m)<V*W64:=by
 obtain ⟨h1,h2,h3,h4,h5,h6⟩:=h
 have e1:=val_drop W64 us m (by omega)
 have l1:=h1.get m (by omega)
 have hlt:val W64 (us.drop m)<V*W64:=by
  have:W64*(val W64 (us.drop (m+1))+1)≤W64*V:=Nat.mul_le_mul_left _ h5
  rw [Nat.mul_add,Nat.mul_one] at this
  rw [Nat.mul_comm V]
  omega
 have e2:=val_split W64 (us.drop m) (n'+1) (by simp;omega)
 rw [List.drop_drop] at e2
 have hz:val W64 (us.drop (m+(n'+1)))=0:=by
  rcases Nat.eq_zero_or_pos (val W64 (us.drop (m+(n'+1)))) with e|e
  ·exact e
  ·exfalso
   have a1:W64^(n'+1)*1≤W64^(n'+1)*val W64 (us.drop (m+(n'+1))):=Nat.mul_le_mul_left _ e
   have a2:V*W64≤W64^n'*W64:=Nat.mul_le_mul_right _ hV
   rw [← Nat.pow_succ] at a2
   have:n'.succ=n'+1:=rfl
   rw [this] at a2
   omega
 rw [hz] at e2
 exact ⟨by omega,hz,hlt⟩
theorem put_drop {ys zs:List Nat} {o:Nat} (h:o+zs.length≤ys.length):(put ys o zs).drop o=zs++ys.drop (o+zs.length):=by
 unfold put
 rw [List.drop_append_of_le_length (by simp;omega),List.drop_of_length_le (by simp;omega)]
 rfl
theorem put_take0 {ys zs:List Nat} {o:Nat} (h:o+zs.length≤ys.length):(put ys o zs).take o=ys.take o:=by
 unfold put
 rw [List.take_append_of_le_length (by simp;omega),List.take_take,Nat.min_self]
theorem long_alg (q Y V P B Z r X:Nat) (h:V*q+r=X):(q+B*Y)*V*P+(Z+P*r)=Y*V*(P*B)+(Z+P*X):=by subst h;grind
theorem LongInv.step {V U0 n' L m:Nat} {us qs zs:List Nat} (h:LongInv V U0 n' L us qs (m+1)) (hm:m<L) (hV:V≤W64^n') (hV0:0<V)
 (hz:zs.length=n'+1) (hzd:Dig W64 zs) (hzv:val W64 zs=val W64 ((us.drop m).take (n'+1))%V) :
 LongInv V U0 n' L (put us m zs) (qs.set m (val W64 ((us.drop m).take (n'+1))/V)) m:=by
 obtain ⟨w1,w2,w3⟩:=h.window hm hV
 obtain ⟨h1,h2,h3,h4,h5,h6⟩:=h
 rw [w1] at hzv ⊢
 have hq:val W64 (us.drop m)/V<W64:=by rw [Nat.div_lt_iff_lt_mul hV0,Nat.mul_comm];exact w3
 have hlen:m+zs.length≤us.length:=by omega
 have e1:val W64 ((put us m zs).drop m)=val W64 (us.drop m)%V:=by
  rw [put_drop hlen,val_append,hz,w2,hzv,Nat.mul_zero,Nat.add_zero]
 have e2:val W64 (put us m zs)=val W64 (us.take m)+W64^m*(val W64 (us.drop m)%V):=by
  rw [val_split W64 (put us m zs) m (by rw [put_length hlen];omega),put_take0 hlen,e1]
 have e3:=val_split W64 us m (by omega)
 have e4:(qs.set m (val W64 (us.drop m)/V)).drop m=val W64 (us.drop m)/V::qs.drop (m+1):=by
  rw [List.drop_eq_getElem_cons (by simp;omega),List.getElem_set_self,List.drop_set_of_lt (by omega)]
 have hdm:=Nat.div_add_mod (val W64 (us.drop m)) V
 refine ⟨put_dig h1 hzd,by rw [put_length hlen,h2],h3.set hq,by simp [h4],by rw [e1];exact Nat.mod_lt _ hV0,?_⟩
 rw [e4,e2,← h6,e3,Nat.pow_succ]
 exact long_alg _ _ _ _ _ _ _ _ hdm
theorem LongInv.finish {V n' L d s N:Nat} {us qs:List Nat} (h:LongInv V (N*2^s) n' L us qs 0) (hV:V=d*2^s) (hd:0<d) :
 val W64 qs=N/d∧val W64 us/2^s=N%d:=by
 obtain ⟨_,_,_,_,h5,h6⟩:=h
 have hp:0<2^s:=Nat.pow_pos (by omega)
 have hV0:0<V:=by rw [hV];exact Nat.mul_pos hd hp
 simp only [List.drop_zero,Nat.pow_zero,Nat.mul_one] at h5 h6
 have e1:N*2^s/V=val W64 qs:=by rw [← h6,Nat.add_comm,Nat.add_mul_div_right _ _ hV0,Nat.div_eq_of_lt h5];omega
 have e2:N*2^s%V=val W64 us:=by rw [← h6,Nat.add_comm,Nat.add_mul_mod_self_right,Nat.mod_eq_of_lt h5]
 constructor
 ·rw [← e1,hV,Nat.mul_div_mul_right _ _ hp]
 ·rw [← e2,hV,Nat.mul_mod_mul_right,Nat.mul_div_cancel _ hp]
theorem shifted_top {ys vs:List Nat} {s y:Nat} (hy:Dig W64 ys) (hl:0<ys.length) (htop:ys[ys.length-1]?=some y) (hs1:9223372036854775808≤y*2^s) (hs2:y*2^s<W64)
 (hv:Dig W64 vs) (hn:Norm vs) (e:val W64 vs=val W64 ys*2^s) (hy0:0<y):vs.length=ys.length∧∃ f,vs[ys.length-1]?=some f∧9223372036854775808≤f:=by
 obtain ⟨m,hm⟩:∃ m,ys.length=m+1:=⟨ys.length-1,by omega⟩
 rw [hm,show m+1-1=m from by omega] at htop ⊢
 obtain ⟨k,ey⟩:=List.getElem?_eq_some_iff.1 htop
 have hp:0<2^s:=Nat.pow_pos (by omega)
 have hval:val W64 ys=val W64 (ys.take m)+W64^m*y:=by
  have:val W64 ys=val W64 (ys.take (m+1)):=by rw [List.take_of_length_le (by omega)]
  rw [this,val_take_succ _ _ _ k,ey]
 have hlow:=val_lt (hy.take m)
 rw [List.length_take,Nat.min_eq_left (by omega)] at hlow
 have a1:val W64 vs=val W64 (ys.take m)*2^s+W64^m*(y*2^s):=by rw [e,hval,Nat.add_mul,Nat.mul_assoc]
 have a2:val W64 (ys.take m)*2^s<W64^m*2^s:=Nat.mul_lt_mul_of_pos_right hlow hp
 have hlt:val W64 vs<W64^(m+1):=by
  have b1:W64^m*(2^s+y*2^s)≤W64^m*W64:=by
   apply Nat.mul_le_mul_left
   have hs64:s≤63:=by
    rcases Nat.lt_or_ge 63 s with h|h
    ·exfalso
     have:2^64≤2^s:=Nat.pow_le_pow_right (by omega) h
     have:1*2^s≤y*2^s:=Nat.mul_le_mul_right _ hy0
     have:=W64_eq
     omega
    ·exact h
   have hW:=W64_pow (s:=s) (by omega)
   have c1:y*2^s<2^(64-s)*2^s:=by rw [← hW];exact hs2
   have c2:=Nat.lt_of_mul_lt_mul_right c1
   have c3:(y+1)*2^s≤2^(64-s)*2^s:=Nat.mul_le_mul_right _ c2
   rw [← hW,Nat.add_mul,Nat.one_mul] at c3
   omega
  rw [Nat.mul_add] at b1
  rw [Nat.pow_succ]
  omega
 have hge:W64^m≤val W64 vs:=by
  have:W64^m*1≤W64^m*(y*2^s):=Nat.mul_le_mul_left _ (by omega)
  omega
 have hlen:vs.length=m+1:=by
  have l1:=length_le_of_val W64_one hn hlt
  rcases Nat.lt_or_ge vs.length (m+1) with h|h
  ·exfalso
   have:=val_lt hv
   have:W64^vs.length≤W64^m:=Nat.pow_le_pow_right W64_pos (by omega)
   omega
  ·omega
 refine ⟨by omega,?_⟩
 refine ⟨vs[m],List.getElem?_eq_getElem (by omega),?_⟩
 have hv2:val W64 vs=val W64 (vs.take m)+W64^m*vs[m]:=by
  have:val W64 vs=val W64 (vs.take (m+1)):=by rw [List.take_of_length_le (by omega)]
  rw [this,val_take_succ _ _ _ (by omega)]
 have hvl:=val_lt (hv.take m)
 rw [List.length_take,Nat.min_eq_left (by omega)] at hvl
 have c1:W64^m*9223372036854775808≤W64^m*(y*2^s):=Nat.mul_le_mul_left _ hs1
 have c2:W64^m*9223372036854775808<W64^m*(vs[m]+1):=by
  rw [Nat.mul_add,Nat.mul_one]
  omega
 have:=Nat.lt_of_mul_lt_mul_left c2
 omega
theorem LongInv.start {V U0 n n' : Nat} {us:List Nat} {N d s:Nat} (hu:Dig W64 us) (hul:us.length=n+1) (hU:val W64 us=U0) (hU0:U0=N*2^s) (hN:N<W64^n) (hV:V=d*2^s) (hd:W64^(n'-1)≤d) (hn:n'≤n) (hn0:0<n') :
 LongInv V U0 n' (n-n'+1) us (List.replicate (n-n'+1) 0) (n-n'+1):=by
 refine ⟨hu,by omega,Dig.replicate W64_pos _,by simp,?_,?_⟩
 ·have e:=val_split W64 us (n-n'+1) (by omega)
  have hp:0<2^s:=Nat.pow_pos (by omega)
  have a1:N*2^s<W64^n*2^s:=Nat.mul_lt_mul_of_pos_right hN hp
  have a2:W64^n=W64^(n-n'+1)*W64^(n'-1):=by rw [← Nat.pow_add];congr 1;omega
  have a3:W64^(n-n'+1)*val W64 (us.drop (n-n'+1))<W64^(n-n'+1)*(W64^(n'-1)*2^s):=by
   rw [← Nat.mul_assoc,← a2];omega
  have a4:=Nat.lt_of_mul_lt_mul_left a3
  have a5:W64^(n'-1)*2^s≤d*2^s:=Nat.mul_le_mul_right _ hd
  rw [hV];omega
 ·rw [List.drop_of_length_le (by simp)]
  simp [val,hU]
theorem take_len_facts {ys vs:List Nat} {s y k n' : Nat} (hk1:k≤vs.length) (hk2:Norm (vs.take k)) (hk3:val W64 (vs.take k)=val W64 vs) (hv:val W64 vs=val W64 ys*2^s) (hd:Dig W64 vs) (hy:Dig W64 ys)
 (hl:ys.length=n') (hn:2≤n') (htop:ys[n'-1]?=some y) (hy0:0<y) (hs1:9223372036854775808≤y*2^s) (hs2:y*2^s<W64):n'=k∧∃ f,(vs.take k)[n'-1]?=some f∧9223372036854775808≤f:=by
 subst hl
 obtain ⟨h1,h2⟩:=shifted_top hy (by omega) htop hs1 hs2 (hd.take k) hk2 (hk3.trans hv) hy0
 rw [List.length_take,Nat.min_eq_left hk1] at h1
 exact ⟨h1.symm,h2⟩
set_option maxHeartbeats 4000000 in
theorem divideLong_any (A:Option Addr) (n c:Nat) (xs:List Nat) (A' : Option Addr) (n' c' : Nat) (ys:List Nat) (w:World) (h:Rd w A n c xs) (h' : Rd w A' n' c' ys)
 (hd:Dig W64 xs) (hd' : Dig W64 ys) (hn:n≤2199023255551) (hn2:2≤n') (hle:n'≤n) (hnorm:Norm ys) :
 Calls Tryz.prog 187 #[.slice A n c,.slice A' n' c'] w fun e w' =>
  Hid (∃ v v',e = .returned (.tuple #[v,v'])∧Nt w' v (val W64 xs/val W64 ys)∧Nt w' v' (val W64 xs%val W64 ys))∧Below w.heap.size w w':=by
 have hnc:n≤c:=h.cap
 have hcm:c≤9223372036854775807:=h.2.2.1
 have hnc' : n'≤c':=h'.cap
 have hcm' : c'≤9223372036854775807:=h'.2.2.1
 obtain ⟨ad',y,hA',_,hy,hcy⟩:=h'.at_ (k:=n'-1) (by omega)
 subst hA'
 have hyl:=hd'.at_ hy
 have hy0:0<y:=by
  have hne:ys≠[]:=by rintro rfl;simp at hy
  have:=hnorm hne
  rw [List.getLast_eq_getElem] at this
  obtain ⟨k,ey⟩:=List.getElem?_eq_some_iff.1 hy
  have hl:=h'.len
  simp only [hl,ey] at this
  omega
 obtain ⟨s,hs,hbl,s1,s2⟩:=norm_shift y hy0 hyl
 have hge:=hnorm.ge (B:=W64) (by rintro rfl;simp at hy)
 rw [h'.len] at hge
 have hdp:0<val W64 ys:=by
  have:0<W64^(n'-1):=Nat.pow_pos W64_pos
  omega
 have cl:=Lib.hid (Tryz.bits_LeadingZeros64 (y:Int) w (by omega) (by have:=W64_eq;omega))
 have HS:=Lib.hid hbl
 obtain ⟨i0,hi,hz0,hz1,hz2⟩:=info_parts info_word
 have HI:=Lib.hid (And.intro hi (And.intro hz0 (And.intro hz1 hz2)))
 have HX:=Lib.hid (And.intro h hd)
 have HY:=Lib.hid (And.intro h' (And.intro hd' (And.intro hy (And.intro hy0 (And.intro s1 (And.intro s2 (And.intro hge hdp)))))))
 clear h h' hd hd' hi hz0 hz1 hz2 hy hy0 hyl s1 s2 hge hdp hnorm hbl
 go_enter Tryz.func187,Tryz.ntmps187
 go_wp2_with (go_at_call 207;refine (cl.out).mono ?_;rintro e w' ⟨rfl,hw⟩;rw [hw];rw [Int.toNat_natCast,HS.out])
 refine (shiftedUp_any A n c xs s w HX.out.1 HX.out.2 (by omega) hs).mono ?_
 rintro e w1 ⟨⟨us,rfl,hb1,hl1,hd1,hv1⟩,hbe1⟩
 have H1:=Lib.hid (And.intro hb1 (And.intro hl1 (And.intro hd1 (And.intro hv1 hbe1))))
 clear hb1 hl1 hd1 hv1 hbe1 hcy
 go_wp2_with fail
 refine (shiftedUp_any (some ad') n' c' ys s w1 (HY.out.1.below H1.out.2.2.2.2) HY.out.2.1 (by omega) hs).mono ?_
 rintro e w2 ⟨⟨vs,rfl,hb2,hl2,hd2,hv2⟩,hbe2⟩
 have H2:=Lib.hid (And.intro hb2 (And.intro hl2 (And.intro hd2 (And.intro hv2 hbe2))))
 clear hb2 hl2 hd2 hv2 hbe2
 go_wp2_with fail
 refine (trimmed_raw _ _ _ vs w2 (by have:=H2.out.1.rd (by rw [H2.out.2.1];show n'+1≤9223372036854775807;omega);rwa [H2.out.2.1] at this)).mono ?_
 rintro e w3 ⟨⟨k,⟨hk1,hk2,hk3⟩,rfl⟩,rfl⟩
 have htk:=take_len_facts hk1 hk2 hk3 H2.out.2.2.2.1 H2.out.2.2.1 HY.out.2.1 HY.out.1.len (by omega) HY.out.2.2.1 HY.out.2.2.2.1 HY.out.2.2.2.2.1 HY.out.2.2.2.2.2.1
 obtain ⟨rfl,f,hf1,hf2⟩:=htk
 obtain ⟨ds,hds⟩:∃ ds,ds=vs.take n':=⟨_,rfl⟩
 have hrd:Rd w2 (some ⟨w1.heap.size,0,none⟩) n' (n'+1) ds:=by
  have:=H2.out.1.rd (by rw [H2.out.2.1];show n'+1≤9223372036854775807;omega)
  rw [H2.out.2.1] at this
  rw [hds]
  exact this.take (by omega)
 have hg12:w.heap.size<w1.heap.size:=H1.out.1.lt
 obtain ⟨g1,hg1⟩:∃ g1,g1=w.heap.size:=⟨_,rfl⟩
 obtain ⟨g2,hg2⟩:∃ g2,g2=w1.heap.size:=⟨_,rfl⟩
 have hbu:Blk w2 g1 175 us:=by rw [hg1];exact H1.out.1.below H2.out.2.2.2.2 hg12
 have hbe:Below w.heap.size w w2:=H1.out.2.2.2.2.trans (H2.out.2.2.2.2.mono (by omega))
 rw [← hg1] at hg12 hbe
 rw [← hg2] at hg12 hrd
 rw [← hds] at hf1 hk2 hk3
 have hdd:Dig W64 ds:=by rw [hds];exact H2.out.2.2.1.take _
 have hV:val W64 ds=val W64 ys*2^s:=by rw [hk3];exact H2.out.2.2.2.1
 have HD:=Lib.hid (And.intro hrd (And.intro hdd (And.intro hV (And.intro hf1 (And.intro hf2 (And.intro hbu hbe))))))
 rw [← hg1,← hg2]
 have HG:=Lib.hid (And.intro hg1 hg2)
 clear hrd hdd hV hf1 hf2 hbu hbe hds hk1 hk2 hk3 hg1 hg2
 have hnk:(0:Int)≤(n:Int)-n':=by omega
 go_wp2_with (at_make;refine wpList_make_full _ rfl _ _ 109 rfl w2.heap.size 175 i0 (.int .u64 0) 1 Tryz.underlying109 HI.out.1 HI.out.2.1 HI.out.2.2.1 _ _ _ _ (n-n'+1) rfl rfl ?b0 ?b1 ?b2 ?b3 (Nat.le_refl _) ?_)
 case b0=>omega
 case b1=>omega
 case b2=>rw [HI.out.2.2.2];omega
 case b3=>show n-n'+1≤9223372036854775807;omega
 intro w4 hown hgw
 have hb4:Below w2.heap.size w2 w4:=(Below.refl _ _).grown hgw (Nat.le_refl _) (fun _ h=>by cases h)
 have hblk:=blk_of_made hown
 obtain ⟨g3,hg3⟩:∃ g3,g3=w2.heap.size:=⟨_,rfl⟩
 rw [← hg3] at hblk ⊢
 have hg13:g1<g3:=by rw [hg3];exact HD.out.2.2.2.2.2.1.lt
 have hg23:g2<g3:=by rw [hg3,HG.out.2];exact H2.out.1.lt
 have hbu4:Blk w4 g1 175 us:=HD.out.2.2.2.2.2.1.below hb4 HD.out.2.2.2.2.2.1.lt
 have hrd4:Rd w4 (some ⟨g2,0,none⟩) n' (n'+1) ds:=HD.out.1.below hb4
 have hbe4:Below g1 w w4:=HD.out.2.2.2.2.2.2.trans (hb4.mono (by omega))
 have hst:LongInv (val W64 ds) (val W64 xs*2^s) n' (n-n'+1) us (List.replicate (n-n'+1) 0) (n-n'+1) :=
  LongInv.start H1.out.2.2.1 H1.out.2.1 H1.out.2.2.2.1 rfl (by have:=val_lt HX.out.2;rwa [HX.out.1.len] at this) HD.out.2.2.1 HY.out.2.2.2.2.2.2.1 hle (by omega)
 have HS0:=Lib.hid (And.intro hst (And.intro hblk (And.intro hbu4 (And.intro hrd4 hbe4))))
 have hVk:val W64 ds≤W64^n':=by
  have:=val_lt HD.out.2.1
  rw [HD.out.1.len] at this
  omega
 have hVp:0<val W64 ds:=by rw [HD.out.2.2.1];exact Nat.mul_pos HY.out.2.2.2.2.2.2.2 (Nat.pow_pos (by omega))
 have HV:=Lib.hid (And.intro hVk hVp)
 have hL:((n-n' : Nat):Int)=(n:Int)-n':=by omega
 have HL:=Lib.hid hL
 clear hst hblk hbu4 hrd4 hbe4 hown hgw hb4 hVk hVp hg3 hL
 obtain ⟨L,hLL⟩:∃ L,L=n-n'+1:=⟨_,rfl⟩
 have hLn:(L:Int)=(n:Int)-n'+1:=by omega
 have hLk:L+n'=n+1:=by omega
 have hL1:L≤2199023255553:=by omega
 have HLk:=Lib.hid (And.intro hLk hLn)
 rw [← hLL] at HS0 ⊢
 clear hLk hLn hLL
 go_wp2
 go_loopw [10] (fun i wr => ∃ (k:Nat) (us qs:List Nat),k≤L∧i = .int .i64 ((k:Int)-1)∧LongInv (val W64 ds) (val W64 xs*2^s) n' L us qs k∧Blk wr g3 175 qs∧Blk wr g1 175 us∧Rd wr (some ⟨g2,0,none⟩) n' (n'+1) ds∧Below g1 w wr) (fun i _=>(intOf i+1).toNat)
 case atStart=>exact ⟨L,us,_,Nat.le_refl _,rfl,HS0.out.1,HS0.out.2.1,HS0.out.2.2.1,HS0.out.2.2.2.1,HS0.out.2.2.2.2⟩
 case round =>
  clear H1 H2
  obtain ⟨k,us,qs,hk,rfl,hinv,hbq,hbu,hrd,hbe⟩:=hrel
  have hul:us.length=n+1:=by rw [hinv.2.1];exact HLk.out.1
  have hql:qs.length=L:=hinv.2.2.2.1
  rcases Nat.eq_zero_or_pos k with rfl|hk0
  ·obtain ⟨f1,f2⟩:=hinv.finish HD.out.2.2.1 HY.out.2.2.2.2.2.2.2
   have hrq:=hbq.rd (by rw [hql];show L≤9223372036854775807;omega)
   have hru:=hbu.rd (by rw [hul];show n+1≤9223372036854775807;omega)
   rw [hql] at hrq
   rw [hul] at hru
   have HF:=Lib.hid (And.intro f1 (And.intro f2 (And.intro hinv.1 (And.intro hinv.2.2.1 (And.intro hrq (And.intro hru hbe))))))
   clear f1 f2 hrq hru hinv hbq hbu hrd hbe hul hql
   simp only [show (((0:Nat):Int)-1) = -1 from rfl]
   go_wp2_with fail
   refine (trimmed_any _ _ _ qs wr HF.out.2.2.2.2.1 HF.out.2.2.2.1).mono ?_
   rintro e w5 ⟨⟨v,rfl,hv⟩,rfl⟩
   have HV1:=Lib.hid hv
   clear hv
   go_wp2_with fail
   refine (shiftedDown_any _ _ _ us s wr HF.out.2.2.2.2.2.1 HF.out.2.2.1 (by have:=HLk.out;omega) hs).mono ?_
   rintro e w6 ⟨v',rfl,hv',hb6⟩
   have HV2:=Lib.hid (And.intro hv' hb6)
   clear hv' hb6
   go_wp2
   go_ret2
   refine ⟨⟨v,v',rfl,?_,?_⟩,?_⟩
   ·rw [← HF.out.1];exact HV1.out.below HV2.out.2
   ·rw [← HF.out.2.1];exact HV2.out.1
   ·rw [← HG.out.1]
    exact HF.out.2.2.2.2.2.2.trans (HV2.out.2.mono (by
     have h1:=HF.out.2.2.2.2.2.2.size
     have h2:=HG.out.1
     omega))
  ·obtain ⟨m,rfl⟩:∃ m,k=m+1:=⟨k-1,by omega⟩
   have hwd:=hinv.window (by omega) HV.out.1
   have ct:=takeOut_any g1 m n' (n+1-m) 175 us (some ⟨g2,0,none⟩) (n'+1) ds wr hbu hinv.1 hn2 (by omega) (by have:=HLk.out;omega) (by have:=HLk.out;omega) (by omega) hrd HD.out.2.1 (fun _ ad h=>by injection h with h;rw [← h];show g2≠g1;omega) f HD.out.2.2.2.1 HD.out.2.2.2.2.1 (by rw [hwd.1];exact hwd.2.2)
   have CT:=Lib.hid ct
   have HE:=Lib.hid (And.intro hinv (And.intro hbq (And.intro hrd (And.intro hbe (And.intro hul (And.intro hql (by omega:m<L)))))))
   have hmn:(m:Int)+n'+1≤(n:Int)+1:=by have:=HLk.out;omega
   have hmne:¬ n+1=m:=by have:=HLk.out;omega
   have hbu_lt:=hbu.lt
   clear hwd ct hinv hbq hbu hrd hbe hk0 hul hql
   simp only [Int.natCast_add,Int.natCast_one,show ((m:Int)+1-1)=m from by omega]
   go_wp2_with fail
   rw [show m+n'+1-m=n'+1 from by omega]
   refine CT.out.mono ?_
   rintro e w5 ⟨zs,rfl,q1,q2,q3,_,q5,q6⟩
   obtain ⟨hinv,hbq,hrd,hbe,hul,hql,hmL⟩:=HE.out
   have hst:=hinv.step hmL HV.out.1 HV.out.2 q1 q2 q3
   obtain ⟨q,hq⟩:∃ q,q=val W64 ((us.drop m).take (n'+1))/val W64 ds:=⟨_,rfl⟩
   rw [← hq] at hst ⊢
   have hbq5:Blk w5 g3 175 qs:=(q6.block g3 hbq.lt (by intro e;injection e with e;omega)).trans hbq
   have hrd5:Rd w5 (some ⟨g2,0,none⟩) n' (n'+1) ds:=hrd.only (fun _ ad h=>by injection h with h;rw [← h];show g2≠g1;omega) q6
   have hbe5:Below g1 w w5:=hbe.grown q6 (Nat.le_of_lt hbu_lt) (fun _ h=>by injection h with h;omega)
   obtain ⟨z,hcz⟩:∃ z:Int,w5.cell? ⟨g3,m,none⟩=some (.int .u64 z):=⟨_,hbq5.cell_get (by omega)⟩
   have hfz:=hbq5.frozen m
   have HQ:=Lib.hid (And.intro hst (And.intro hbq5 (And.intro q5 (And.intro hrd5 hbe5))))
   have hmi:(m:Int)≤L:=by omega
   clear hst hbq5 q5 hrd5 hbe5 hinv hbq hrd hbe hul hql q1 q2 q3 q6 hq hmL
   go_wp2
   go_roundw
   case rel =>
    obtain ⟨hst,hbq5,q5,hrd5,hbe5⟩:=HQ.out
    exact ⟨m,put us m zs,qs.set m q,by omega,rfl,hst,hbq5.set_ _ _,q5.far (by show g1≠g3;omega) _,hrd5.only (fun _ ad h=>by injection h with h;rw [← h];show g2≠g3;omega) (only_set _ _ _ _),hbe5.setCell (by show g1≤g3;omega) _⟩
   case measure=>simp [intOf]
theorem Nt.zero (w:World):Nt w (.slice none 0 0) 0:=⟨none,0,0,[],rfl,Rd.nil,Dig.nil _,Norm.nil,rfl⟩
def GivesTwo (w:World) (a b:Nat) (e:Ending) (w' : World):Prop := ∃ v v',e = .returned (.tuple #[v,v'])∧Nt w' v a∧Nt w' v' b∧Below w.heap.size w w'
set_option maxHeartbeats 1000000 in
theorem divide_any (A:Option Addr) (n c:Nat) (xs:List Nat) (A' : Option Addr) (n' c' : Nat) (ys:List Nat) (w:World) (h:Rd w A n c xs) (h' : Rd w A' n' c' ys)
 (hd:Dig W64 xs) (hd' : Dig W64 ys) (hn:n≤2199023255551) (hx:Norm xs) (hy:Norm ys) (h0:0<n') :
 Calls Tryz.prog 130 #[.slice A n c,.slice A' n' c'] w (GivesTwo w (val W64 xs/val W64 ys) (val W64 xs%val W64 ys)):=by
 have hnc:n≤c:=h.cap
 have hcm:c≤9223372036854775807:=h.2.2.1
 have hnc' : n'≤c':=h'.cap
 have hcm' : c'≤9223372036854775807:=h'.2.2.1
 have hpos:0<val W64 ys:=hy.pos W64_pos (by rintro rfl;have:=h'.len;simp at this;omega)
 have cc:=Lib.hid (compare_any A n c xs A' n' c' ys w h h' hd hd' hx hy)
 have HX:=Lib.hid (And.intro h (And.intro hd hx))
 have HY:=Lib.hid (And.intro h' (And.intro hd' (And.intro hy hpos)))
 clear h h' hd hd' hx hy hpos
 by_cases hlt:val W64 xs<val W64 ys
 ·have hc:cmpI (val W64 xs) (val W64 ys) = -1:=by unfold cmpI;rw [if_pos (by omega)]
  rw [hc] at cc
  have HL:=Lib.hid hlt
  clear hc hlt
  go_enter Tryz.func130,Tryz.ntmps130
  go_wp2_with fail
  refine cc.out.mono ?_
  rintro e w1 ⟨rfl,hb⟩
  go_wp2
  go_ret2
  refine ⟨_,_,rfl,?_,?_,hb⟩
  ·rw [Nat.div_eq_of_lt HL.out];exact Nt.zero _
  ·rw [Nat.mod_eq_of_lt HL.out];exact ⟨A,n,c,xs,rfl,HX.out.1.below hb,HX.out.2.1,HX.out.2.2,rfl⟩
 ·obtain ⟨z,hz,hz0⟩:∃ z:Int,cmpI (val W64 xs) (val W64 ys)=z∧¬ z<0:=⟨_,rfl,by unfold cmpI;rw [if_neg (by omega)];split <;> omega⟩
  rw [hz] at cc
  have hle:n'≤n:=by
   rcases Nat.lt_or_ge n n' with h|h
   ·have:=lt_of_length W64_one HX.out.2.1 HY.out.2.2.1 (by rw [HX.out.1.len,HY.out.1.len];exact h)
    omega
   ·exact h
  clear hz hlt
  by_cases h1:n'=1
  ·subst h1
   obtain ⟨ad',y,hA',_,hy,hcy⟩:=HY.out.1.at_ (k:=0) (by omega)
   subst hA'
   have hyy:val W64 ys=y:=by
    have hl:=HY.out.1.len
    match ys,hl,hy with
    | [a],_,hy=>simp at hy;subst hy;simp [val]
   have hyl:y<W64:=HY.out.2.1.at_ hy
   have hy0:0<y:=by rw [← hyy];exact HY.out.2.2.2
   have cd:=Lib.hid (fun w1 (hb:Below w.heap.size w w1)=>divideWord_any A n c xs y w1 (HX.out.1.below hb) HX.out.2.1 (by omega) hy0 hyl)
   have HYY:=Lib.hid (And.intro hyy hyl)
   have hm0:val W64 xs%y<W64:=Nat.lt_trans (Nat.mod_lt _ hy0) hyl
   obtain ⟨r,hr⟩:∃ r,r=val W64 xs%y:=⟨_,rfl⟩
   rw [← hr] at cd hm0
   have HR:=Lib.hid (And.intro hr hm0)
   clear hy hyy hyl hy0 hr hm0
   go_enter Tryz.func130,Tryz.ntmps130
   go_wp2_with fail
   refine cc.out.mono ?_
   rintro e w1 ⟨rfl,hb⟩
   have hcy1:w1.cell? ad'=some (.int .u64 (y:Int)):=(hb.cell (p:=ad') (by omega)).trans (by simpa [Addr.add] using hcy)
   have HB:=Lib.hid hb
   clear hcy hb
   go_wp2_with fail
   refine (cd.out w1 HB.out).mono ?_
   rintro e w2 ⟨⟨v,rfl,hv⟩,hb2⟩
   have HV:=Lib.hid (And.intro hv hb2)
   clear hv hb2
   go_wp2_with fail
   refine (naturalOf_any r HR.out.2 w2).mono ?_
   rintro e w3 ⟨v',rfl,hv',hb3⟩
   have HV2:=Lib.hid (And.intro hv' hb3)
   clear hv' hb3
   go_wp2
   go_ret2
   refine ⟨v,v',rfl,?_,?_,HB.out.trans ((HV.out.2.mono HB.out.size).trans (HV2.out.2.mono (Nat.le_trans HB.out.size HV.out.2.size)))⟩
   ·rw [HYY.out.1];exact HV.out.1.below HV2.out.2
   ·rw [HYY.out.1,← HR.out.1];exact HV2.out.1
  ·have h2:2≤n':=by omega
   have hz1:((n' : Int)==1)=false:=by simp;omega
   have cd:=Lib.hid (fun w1 (hb:Below w.heap.size w w1)=>divideLong_any A n c xs A' n' c' ys w1 (HX.out.1.below hb) (HY.out.1.below hb) HX.out.2.1 HY.out.2.1 hn h2 hle HY.out.2.2.1)
   clear h1
   go_enter Tryz.func130,Tryz.ntmps130
   go_wp2_with fail
   refine cc.out.mono ?_
   rintro e w1 ⟨rfl,hb⟩
   have HB:=Lib.hid hb
   clear hb
   go_wp2_with fail
   refine (cd.out w1 HB.out).mono ?_
   rintro e w2 ⟨⟨v,v',rfl,hv,hv'⟩,hb2⟩
   have HV:=Lib.hid (And.intro hv (And.intro hv' hb2))
   clear hv hv' hb2
   go_wp2
   go_ret2
   exact ⟨v,v',rfl,HV.out.1,HV.out.2.1,HB.out.trans (HV.out.2.2.mono HB.out.size)⟩
set_option maxHeartbeats 1000000 in
theorem gcdWords_any (a b:Nat) (w:World) (ha:a<W64) (hb:b<W64) :
 Calls Tryz.prog 159 #[.int .u64 (a:Int),.int .u64 (b:Int)] w (Gives w (.int .u64 ((Nat.gcd a b:Nat):Int))):=by
 have HA:=Lib.hid (And.intro ha hb)
 clear ha hb
 go_enter Tryz.func159,Tryz.ntmps159
 go_wp2
 go_loopw [0,1] (fun x y wr => ∃ p q:Nat,x = .int .u64 (p:Int)∧y = .int .u64 (q:Int)∧Hid (Nat.gcd p q=Nat.gcd a b∧p<W64∧q<W64)∧Below w.heap.size w wr) (fun _ y _=>(intOf y).toNat)
 case atStart=>exact ⟨a,b,rfl,rfl,⟨rfl,HA.out.1,HA.out.2⟩,Below.refl _ _⟩
 case round =>
  obtain ⟨p,q,rfl,rfl,hpq,hbe⟩:=hrel
  rcases Nat.eq_zero_or_pos q with rfl|hq
  ·have ht:(((0:Nat):Int) != 0)=false:=by simp
   simp only [Int.natCast_zero] at ht ⊢
   go_wp2
   go_ret
   refine ⟨ret_int ?_,hbe⟩
   rw [← hpq.out.1,Nat.gcd_zero_right]
  ·have ht:((q:Int) != 0)=true:=by simp;omega
   obtain ⟨r,hr⟩:∃ r:Nat,r=p%q:=⟨_,rfl⟩
   have hrq:r<q:=by rw [hr];exact Nat.mod_lt _ hq
   have e2:(p:Int).tmod q=r:=by rw [hr,Int.tmod_eq_emod_of_nonneg (by omega),Int.natCast_emod]
   have e4:(p:Int)%q=r:=by rw [hr,Int.natCast_emod]
   have hbd:(r:Int)≤18446744073709551615:=by have:=hpq.out;have:=W64_eq;omega
   have hne:¬ ((q:Int)=0):=by omega
   have HH:Hid (Nat.gcd q r=Nat.gcd a b∧q<W64∧r<W64):=by
    have:=hpq.out
    refine ⟨?_,this.2.2,by omega⟩
    rw [← this.1,hr,Nat.gcd_comm p q,Nat.gcd_rec q p,Nat.gcd_comm]
   clear hr
   go_wp2
   go_quiet (fail)
   go_wp2
   go_roundw
   case rel=>exact ⟨q,r,rfl,rfl,HH,drewN0 hbe _⟩
   case measure=>simp [intOf];omega
def eucV (oa ob na nb s:Nat):Value := .agg #[.int .u64 (oa:Int),.int .u64 (ob:Int),.int .u64 (na:Int),.int .u64 (nb:Int),.int .i64 (s:Int)]
set_option maxHeartbeats 1000000 in
theorem next_any (oa ob na nb s q oa2 ob2:Nat) (w:World) (h1:oa+q*na=oa2) (h2:ob+q*nb=ob2) (b1:oa2<W64) (b2:ob2<W64) (hs:s<4294967296) :
 Calls Tryz.prog 208 #[.agg #[.int .u64 (oa:Int),.int .u64 (ob:Int),.int .u64 (na:Int),.int .u64 (nb:Int),.int .i64 (s:Int)],.int .u64 (q:Int)] w fun e w' =>
  e = .returned (.agg #[.int .u64 (na:Int),.int .u64 (nb:Int),.int .u64 (oa2:Int),.int .u64 (ob2:Int),.int .i64 ((s:Int)+1)])∧Below w.heap.size w w':=by
 obtain ⟨p1,hp1⟩:∃ p1:Nat,(q:Int)*na=p1:=⟨q*na,by simp⟩
 obtain ⟨p2,hp2⟩:∃ p2:Nat,(q:Int)*nb=p2:=⟨q*nb,by simp⟩
 have k1:(oa:Int)+p1=oa2:=by rw [← hp1,← h1];simp
 have k2:(ob:Int)+p2=ob2:=by rw [← hp2,← h2];simp
 have c1:(oa2:Int)≤18446744073709551615:=by have:=W64_eq;omega
 have c2:(ob2:Int)≤18446744073709551615:=by have:=W64_eq;omega
 have c3:(p1:Int)≤18446744073709551615:=by omega
 have c4:(p2:Int)≤18446744073709551615:=by omega
 clear h1 h2 b1 b2
 go_enter Tryz.func208,Tryz.ntmps208
 go_wp2
 exact bodyPost_ret (v := .agg #[.int .u64 (na:Int),.int .u64 (nb:Int),.int .u64 (oa2:Int),.int .u64 (ob2:Int),.int .i64 ((s:Int)+1)]) (by simp [results,Tryz.results208,go_sem]) rfl ⟨rfl,((Below.refl _ _).alloc (Nat.le_refl _) _).alloc (by simp) _⟩
def LowInv (us zs:List Nat) (Y i bw:Nat):Prop :=
 Dig W64 zs∧zs.length=us.length∧bw<W64∧val W64 (zs.take i)+Y=val W64 (us.take i)+W64^i*bw∧zs.drop i=us.drop i
theorem low_alg (A Y B P bw W r q u:Nat) (h:A+Y=B+P*bw) (h2:r+bw=u+W*q):A+P*r+Y=B+P*u+P*W*q:=by grind
theorem LowInv.step {us zs:List Nat} {Y i bw u:Nat} (h:LowInv us zs Y i bw) (hu:zs[i]?=some u) :
 LowInv us (zs.set i ((u+W64-bw-0)%W64)) Y (i+1) (if u<bw+0 then 1 else 0):=by
 obtain ⟨h1,h2,h3,h4,h5⟩:=h
 obtain ⟨hi,eu⟩:=List.getElem?_eq_some_iff.1 hu
 have ul:=h1.at_ hu
 have eus:us[i]'(by omega)=u:=by
  have e1:=List.drop_eq_getElem_cons hi
  have e2:=List.drop_eq_getElem_cons (l:=us) (i:=i) (by omega)
  rw [h5] at e1
  rw [e1] at e2
  injection e2 with e2
  rw [← e2,eu]
 have hr:(u+W64-bw-0)%W64<W64:=Nat.mod_lt _ W64_pos
 have hdm:(u+W64-bw-0)%W64+bw=u+W64*(if u<bw+0 then 1 else 0):=by
  have:=W64_eq
  rw [this] at ul h3 ⊢
  split <;> omega
 refine ⟨h1.set hr,by simp [h2],by split <;> (have:=W64_one;omega),?_,?_⟩
 ·rw [val_take_succ _ _ _ (by simp;omega),List.take_set_of_le (Nat.le_refl _),List.getElem_set_self,val_take_succ _ _ _ (by omega),eus,Nat.pow_succ]
  generalize (if u<bw+0 then 1 else 0)=q at *
  generalize (u+W64-bw-0)%W64=r at *
  exact low_alg _ _ _ _ _ _ _ _ _ h4 hdm
 ·rw [List.drop_set_of_lt (by omega)]
  have e1:=List.drop_eq_getElem_cons hi
  have e2:=List.drop_eq_getElem_cons (l:=us) (i:=i) (by omega)
  rw [h5,e2] at e1
  injection e1 with _ e1
  exact e1.symm
theorem LowInv.finish {us zs:List Nat} {Y bw:Nat} (h:LowInv us zs Y us.length bw) (hY:Y≤val W64 us):val W64 zs=val W64 us-Y:=by
 obtain ⟨h1,h2,h3,h4,h5⟩:=h
 rw [List.take_of_length_le (by omega),List.take_of_length_le (Nat.le_refl _)] at h4
 have hz:=val_lt h1
 rw [h2] at hz
 rcases Nat.eq_zero_or_pos bw with e|e
 ·subst e
  rw [Nat.mul_zero] at h4
  omega
 ·have:W64^us.length*1≤W64^us.length*bw:=Nat.mul_le_mul_left _ e
  omega
theorem first_part {zs:List Nat} {n L cy X:Nat} (hl:zs.length=n) (hd:Dig W64 zs) (hc:cy<W64) (hn:n<L) (hv:val W64 zs+W64^n*cy=val W64 (((List.replicate L 0).drop 0).take n)+X) :
 Dig W64 ((put (List.replicate L 0) 0 zs).set n cy)∧((put (List.replicate L 0) 0 zs).set n cy).length=L∧val W64 ((put (List.replicate L 0) 0 zs).set n cy)=X:=by
 subst hl
 have hlen:(put (List.replicate L 0) 0 zs).length=L:=by rw [put_length (by simp;omega)];simp
 have e1:(put (List.replicate L 0) 0 zs).set (0+zs.length) cy=put (List.replicate L 0) 0 (zs ++ [cy]):=put_set rfl (by simp;omega)
 rw [Nat.zero_add] at e1
 refine ⟨(put_dig (Dig.replicate W64_pos _) hd).set hc,by rw [List.length_set,hlen],?_⟩
 rw [e1]
 unfold put
 rw [List.take_zero,List.nil_append,val_append,val_snoc,List.drop_replicate,val_zeros,Nat.mul_zero,Nat.add_zero,hv]
 rw [List.drop_zero,List.take_replicate,val_zeros,Nat.zero_add]
theorem second_part {us zs:List Nat} {n' bor Y:Nat} (hl:zs.length=n') (hd:Dig W64 zs) (hu:Dig W64 us) (hc:bor<W64) (hn:n'≤us.length) (hv:val W64 zs+Y=val W64 ((us.drop 0).take n')+W64^n'*bor) :
 LowInv us (put us 0 zs) Y n' bor:=by
 subst hl
 have hlen:(put us 0 zs).length=us.length:=put_length (by omega)
 refine ⟨put_dig hu hd,hlen,hc,?_,?_⟩
 ·have e:(put us 0 zs).take zs.length=zs:=by
   unfold put
   rw [List.take_zero,List.nil_append,List.take_append_of_le_length (Nat.le_refl _),List.take_of_length_le (Nat.le_refl _)]
  rw [e,hv,List.drop_zero]
 ·unfold put
  rw [List.take_zero,List.nil_append,List.drop_append_of_le_length (Nat.le_refl _),List.drop_of_length_le (Nat.le_refl _),List.nil_append,Nat.zero_add]
set_option maxHeartbeats 2000000 in
theorem difference_any (x:Nat) (A:Option Addr) (n c:Nat) (xs:List Nat) (y:Nat) (A' : Option Addr) (n' c' : Nat) (ys:List Nat) (w:World) (h:Rd w A n c xs) (h' : Rd w A' n' c' ys)
 (hd:Dig W64 xs) (hd' : Dig W64 ys) (hx:x<W64) (hy:y<W64) (hn:n≤2199023255551) (hn' : n'≤2199023255551) (hge:y*val W64 ys≤x*val W64 xs) :
 Calls Tryz.prog 209 #[.int .u64 (x:Int),.slice A n c,.int .u64 (y:Int),.slice A' n' c'] w (GivesNt w (x*val W64 xs-y*val W64 ys)):=by
 have HX:=Lib.hid (And.intro h (And.intro hd hx))
 have HY:=Lib.hid (And.intro h' (And.intro hd' (And.intro hy hge)))
 have hnc:n≤c:=h.cap
 have hcm:c≤9223372036854775807:=h.2.2.1
 have hnc' : n'≤c':=h'.cap
 have hcm' : c'≤9223372036854775807:=h'.2.2.1
 obtain ⟨i0,hi,hz0,hz1,hz2⟩:=info_parts info_word
 have HI:=Lib.hid (And.intro hi (And.intro hz0 (And.intro hz1 hz2)))
 clear h h' hd hd' hi hz0 hz1 hz2 hx hy hge
 obtain ⟨M,hM,hM1,hM2,hM3⟩:∃ M:Nat,max (n:Int) n'=M∧n≤M∧n'≤M∧M≤2199023255551:=⟨max n n',by omega,by omega,by omega,by omega⟩
 go_enter Tryz.func209,Tryz.ntmps209
 go_wp2_with (at_make;refine wpList_make_full _ rfl _ _ 109 rfl w.heap.size 175 i0 (.int .u64 0) 1 Tryz.underlying109 HI.out.1 HI.out.2.1 HI.out.2.2.1 _ _ _ _ (M+1) rfl rfl ?b0 ?b1 ?b2 ?b3 (Nat.le_refl _) ?_)
 case b0=>omega
 case b1=>omega
 case b2=>rw [HI.out.2.2.2];omega
 case b3=>show M+1≤9223372036854775807;omega
 intro w1 hown hg1
 have hb1:Below w.heap.size w w1:=(Below.refl _ _).grown hg1 (Nat.le_refl _) (fun _ h=>by cases h)
 have hblk:=blk_of_made hown
 obtain ⟨g,hg⟩:∃ g,g=w.heap.size:=⟨_,rfl⟩
 rw [← hg] at hblk ⊢
 have HG:=Lib.hid hg
 have ca:=addMultiple_any g 0 n (M+1) 175 (List.replicate (M+1) 0) A n c xs x w1 hblk (Dig.replicate W64_pos _) (by simp;omega) (Nat.le_refl _) (by omega) (by omega) (HX.out.1.below hb1) HX.out.2.1 (HX.out.1.away (by omega)) HX.out.2.2
 have CA:=Lib.hid ca
 have HM:=Lib.hid hM
 obtain ⟨L,hL⟩:∃ L,L=M+1:=⟨_,rfl⟩
 have hLi:(M:Int)+1=L:=by omega
 rw [← hL] at CA ⊢
 have hL1:n<L:=by omega
 have hL2:n'<L:=by omega
 have hL3:L≤2199023255552:=by omega
 clear hown hg1 hblk ca hg hM hM1 hM2 hM3 hL
 go_wp2_with fail
 refine CA.out.mono ?_
 rintro e w2 ⟨zs,cy,rfl,q1,q2,q3,q4,q5,q6⟩
 obtain ⟨f1,f2,f3⟩:=first_part q1 q2 q3 hL1 q4
 have hb2:Below w.heap.size w w2:=hb1.grown q6 hb1.size (fun _ h=>by injection h with h;rw [← h,HG.out];exact Nat.le_refl _)
 obtain ⟨z,hcz⟩:∃ z:Int,w2.cell? ⟨g,n,none⟩=some (.int .u64 z):=⟨_,q5.cell_get (by rw [put_length (by simp;omega)];simp;omega)⟩
 have hfz:=q5.frozen n
 obtain ⟨us,hus⟩:∃ us,us=(put (List.replicate L 0) 0 zs).set n cy:=⟨_,rfl⟩
 rw [← hus] at f1 f2 f3
 have hblk3:Blk (w2.setCell ⟨g,n,none⟩ (.int .u64 (cy:Int))) g 175 us:=by rw [hus];exact q5.set_ _ _
 have hb3:Below w.heap.size w (w2.setCell ⟨g,n,none⟩ (.int .u64 (cy:Int))):=hb2.setCell (by rw [HG.out];exact Nat.le_refl _) _
 have hw3:=Lib.hid (And.intro hblk3 (And.intro hb3 (And.intro f1 (And.intro f2 f3))))
 clear hblk3 hb3 f1 f2 f3 hus q1 q2 q3 q4 q5 q6 hb2 hb1 CA
 go_wp2_with fail
 generalize w2.setCell ⟨g,n,none⟩ (.int .u64 (cy:Int))=w3 at *
 obtain ⟨hblk3,hb3,f1,f2,f3⟩:=hw3.out
 refine (takeMultiple_any g 0 n' L 175 us A' n' c' ys y w3 hblk3 f1 (by omega) (Nat.le_refl _) (by omega) (by omega) (HY.out.1.below hb3) HY.out.2.1 (HY.out.1.away (by rw [HG.out];exact Nat.le_refl _)) HY.out.2.2.1).mono ?_
 rintro e w4 ⟨zs2,bor,rfl,q1,q2,q3,q4,q5,q6⟩
 have hb4:Below w.heap.size w w4:=hb3.grown q6 hb3.size (fun _ h=>by injection h with h;rw [← h,HG.out];exact Nat.le_refl _)
 have hlow:=second_part q1 q2 f1 q3 (by omega) q4
 have H4:=Lib.hid (And.intro hlow (And.intro q5 (And.intro hb4 (And.intro f2 f3))))
 clear hblk3 hb3 f1 f2 f3 q1 q2 q3 q4 q5 q6 hb4 hlow hw3 hcz hfz
 go_wp2
 go_loopw [10,11] (fun b i wr => ∃ (k bw:Nat) (qs:List Nat),n'≤k∧k≤L∧i = .int .i64 (k:Int)∧b = .int .u64 (bw:Int)∧LowInv us qs (y*val W64 ys) k bw∧Blk wr g 175 qs∧Below w.heap.size w wr) (fun _ i _=>L-(intOf i).toNat)
 case atStart=>exact ⟨n',bor,_,Nat.le_refl _,by omega,rfl,rfl,H4.out.1,H4.out.2.1,H4.out.2.2.1⟩
 case round =>
  obtain ⟨k,bw,qs,hk1,hk2,rfl,rfl,hinv,hblk,hb⟩:=hrel
  have hql:qs.length=L:=by rw [hinv.2.1];exact H4.out.2.2.2.1
  by_cases hlt:k<L
  ·obtain ⟨u,hu⟩:∃ u,qs[k]?=some u:=⟨_,List.getElem?_eq_getElem (by omega)⟩
   have hcz:=hblk.cell hu
   have hfz:=hblk.frozen k
   have hst:=hinv.step hu
   obtain ⟨q,hq⟩:∃ q:Nat,q=if u<bw+0 then 1 else 0:=⟨_,rfl⟩
   obtain ⟨r,hr⟩:∃ r:Nat,r=(u+W64-bw-0)%W64:=⟨_,rfl⟩
   have hsub:∀ w,(callFunc 242 #[.int .u64 (u:Int),.int .u64 (bw:Int),.int .u64 0]).run Tryz.prog w = .ok (.value (.tuple #[.int .u64 (r:Int),.int .u64 (q:Int)])) w:=by
    intro w
    have:=run_sub64' u bw 0 (by omega) w
    rw [← hq,← hr] at this
    exact this
   rw [← hq,← hr] at hst
   have HE:=Lib.hid (And.intro hst hblk)
   clear hst hblk hinv hu hql hq hr
   go_wp2
   go_roundw
   case rel=>exact ⟨k+1,q,qs.set k r,by omega,by omega,by go_num,rfl,HE.out.1,HE.out.2.set_ _ _,hb.setCell (by rw [HG.out];exact Nat.le_refl _) _⟩
   case measure=>simp [intOf];omega
  ·obtain rfl:k=L:=by omega
   have hrd:=hblk.rd (by rw [hql];show k≤9223372036854775807;omega)
   rw [hql] at hrd
   have hfin:val W64 qs=x*val W64 xs-y*val W64 ys:=by
    have h2:=H4.out.2.2.2
    have hi2:=hinv
    rw [← h2.1] at hi2
    rw [hi2.finish (by rw [h2.2];exact HY.out.2.2.2),h2.2]
   have HF:=Lib.hid (And.intro hinv.1 (And.intro hfin hrd))
   clear hrd hfin hinv hblk hql hlt
   go_wp2_with (go_at_call 191;refine (trimmed_any _ _ _ qs _ HF.out.2.2 HF.out.1).mono ?_;rintro e w' ⟨⟨v,rfl,hv⟩,rfl⟩)
   go_ret
   exact ⟨v,rfl,by rw [← HF.out.2.1];exact hv,hb⟩
theorem lead_alg (Z P T S W a1 a2 q r:Nat) (hW:W=T*S) (h:T*q+r=a2):Z+P*a2+P*W*a1=(a1*S+q)*(T*P)+(r*P+Z):=by subst hW;subst h;grind
theorem lead_bits {xs:List Nat} {n s a1 a2:Nat} (hd:Dig W64 xs) (hl:xs.length≤n) (hn:2≤n) (hs:s≤63) (h1:xs.getD (n-1) 0=a1) (h2:xs.getD (n-2) 0=a2) (hb:a1*2^s<W64) :
 a2/2^(64-s)<2^s∧a1*2^s+a2/2^(64-s)<W64∧∃ α,val W64 xs=(a1*2^s+a2/2^(64-s))*(2^(64-s)*W64^(n-2))+α∧α<2^(64-s)*W64^(n-2):=by
 have l2:a2<W64:=by rw [← h2];exact hd.get0 W64_pos _
 have hlt:=hi_lt (s:=s) (by omega) l2
 have hW:=W64_pow (s:=s) (by omega)
 have hpT:0<2^(64-s):=Nat.pow_pos (by omega)
 have htop:a1*2^s+a2/2^(64-s)<W64:=by
  have c1:a1*2^s<2^(64-s)*2^s:=by rw [← hW];exact hb
  have c2:=Nat.lt_of_mul_lt_mul_right c1
  have c3:(a1+1)*2^s≤2^(64-s)*2^s:=Nat.mul_le_mul_right _ c2
  rw [← hW,Nat.add_mul,Nat.one_mul] at c3
  omega
 refine ⟨hlt,htop,?_⟩
 obtain ⟨m,rfl⟩:∃ m,n=m+2:=⟨n-2,by omega⟩
 rw [show m+2-1=m+1 from by omega] at h1
 rw [show m+2-2=m from by omega] at h2 ⊢
 have hval:val W64 xs=val W64 (xs.take m)+W64^m*a2+W64^(m+1)*a1:=by
  have e:∀ k,val W64 (xs.take (k+1))=val W64 (xs.take k)+W64^k*xs.getD k 0:=by
   intro k
   rcases Nat.lt_or_ge k xs.length with h|h
   ·rw [val_take_succ _ _ _ h,List.getD,List.getElem?_eq_getElem h];rfl
   ·rw [List.take_of_length_le (by omega),List.take_of_length_le h,List.getD,List.getElem?_eq_none h]
    show _=_+W64^k*0
    rw [Nat.mul_zero,Nat.add_zero]
  have:val W64 xs=val W64 (xs.take (m+1+1)):=by rw [List.take_of_length_le (by omega)]
  rw [this,e,e,h1,h2]
 have hlow:val W64 (xs.take m)<W64^m:=by
  have:=val_lt (hd.take m)
  have h3:W64^(xs.take m).length≤W64^m:=Nat.pow_le_pow_right W64_pos (by rw [List.length_take];omega)
  omega
 have hdm:=Nat.div_add_mod a2 (2^(64-s))
 have hmt:a2%2^(64-s)<2^(64-s):=Nat.mod_lt _ hpT
 refine ⟨a2%2^(64-s)*W64^m+val W64 (xs.take m),?_,?_⟩
 ·rw [hval,Nat.pow_succ]
  generalize val W64 (xs.take m)=Z at *
  generalize a2/2^(64-s)=q at *
  generalize a2%2^(64-s)=r at *
  generalize W64^m=P at *
  exact lead_alg _ _ _ _ _ _ _ _ _ hW hdm
 ·have:(a2%2^(64-s)+1)*W64^m≤2^(64-s)*W64^m:=Nat.mul_le_mul_right _ hmt
  rw [Nat.add_mul,Nat.one_mul] at this
  omega
def SimOk (a b oa ob na nb s:Nat):Prop :=
 s < 4294967296∧(0<s→oa<W64∧ob<W64∧na<W64∧nb<W64∧∃ a' b',a=nb*a'+ob*b'∧b=na*a'+oa*b'∧b'<a'∧b'<b ∧
   (s%2=0→oa*a=a'+ob*b∧nb*b=b'+na*a)∧(s%2=1→ob*b=a'+oa*a∧na*a=b'+nb*b))
theorem SimOk.zero (a b oa ob na nb:Nat):SimOk a b oa ob na nb 0:=⟨by omega,fun h=>absurd h (by omega)⟩
def Taken (x y ob nb s:Nat):Prop:=0<s→nb≤y∧ob+nb≤x-y
theorem SimOk.of_steps {x0 y0 x y oa ob na nb s K α β a b:Nat} (h:Pl.Steps x0 y0 x y oa ob na nb s) (ht:Taken x y ob nb s) (hx0:x0<W64) (hy0:y0≤x0)
 (ha:a=x0*K+α) (hb:b=y0*K+β) (hα:α<K) (hβ:β<K):SimOk a b oa ob na nb s:=by
 rcases Nat.eq_zero_or_pos s with rfl|hs
 ·exact SimOk.zero _ _ _ _ _ _
 ·obtain ⟨c1,c2⟩:=ht hs
  have hyp:0<y:=Nat.lt_of_lt_of_le h.nb1 c1
  have hxp:0<x:=Nat.lt_of_lt_of_le hyp h.lt
  have hnb:=h.nb_le hxp
  have hna:=h.na_le hxp
  have hsum:=h.sum_le hyp
  obtain ⟨o1,o2,o3,o4⟩:=h.ord hs
  have hsb:s<4294967296:=by
   rcases Nat.lt_or_ge s 4294967296 with e|e
   ·exact e
   ·exfalso
    have hsn:=h.sb
    have b1:4294967296≤nb:=Nat.le_trans e hsn
    have b2:4294967296≤x:=Nat.le_trans b1 (Nat.le_trans c1 h.lt)
    have b3:4294967296*4294967296≤nb*x:=Nat.mul_le_mul b1 b2
    have:=h.i1
    have:=W64_eq
    omega
  refine ⟨hsb,fun _=>⟨by omega,by omega,by omega,by omega,?_⟩⟩
  obtain ⟨a',b',e1,e2,e3,e4,e5⟩:=h.lift hs c1 c2 ha hb hα hβ
  refine ⟨a',b',e1,e2,e3,?_,e4,e5⟩
  have:1*a'≤na*a':=Nat.mul_le_mul_right _ o3
  rw [Nat.one_mul] at this
  omega
end Go.Proofs.YtbhcckhbbclemaaGreatDoor
