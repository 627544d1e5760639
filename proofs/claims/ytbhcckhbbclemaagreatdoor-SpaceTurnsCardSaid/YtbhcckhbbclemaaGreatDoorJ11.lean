/- Parts of the proof, joined. -/
import Derived.Test.YtbhcckhbbclemaaGreatDoorJ9
import Derived.Test.YtbhcckhbbclemaaGreatDoorJ10
import Derived.Deep.RegionWith
set_option linter.unusedSimpArgs false
set_option linter.unusedVariables false
namespace Go.Proofs.YtbhcckhbbclemaaGreatDoor
open Go.RowKit Pl
theorem ret_two {a b c d:Value} (h:a=c) (h' : b=d):Ending.returned (.tuple #[a,b]) = .returned (.tuple #[c,d]):=by rw [h,h']
theorem val_u64 {a b:Nat} (h:a=b):Value.int .u64 (a:Int) = .int .u64 (b:Int):=by rw [h]
theorem div64_q (hi lo y q r:Nat) (w:World) (h2:hi<y) (h3:y<W64) (h4:lo<W64) (hq:q=(hi*W64+lo)/y) (hr:r=(hi*W64+lo)%y) :
 Calls Tryz.prog 210 #[.int .u64 (hi:Int),.int .u64 (lo:Int),.int .u64 (y:Int)] w fun e w'=>e = .returned (.tuple #[.int .u64 (q:Int),.int .u64 (r:Int)])∧∃ k,w'=w.drewN k:=by
 rw [hq,hr]
 exact div64_any hi lo y w h2 h3 h4
def DivInv (xs zs:List Nat) (d k r:Nat):Prop :=
 Dig W64 zs∧zs.length=xs.length∧r<d∧val W64 (zs.drop k)*d+r=val W64 (xs.drop k)
theorem DivInv.step {xs zs:List Nat} {d k r x:Nat} (h:DivInv xs zs d (k+1) r) (hx:xs[k]?=some x) (hxs:Dig W64 xs) :
 DivInv xs (zs.set k ((r*W64+x)/d)) d k ((r*W64+x)%d)∧(r*W64+x)/d<W64:=by
 obtain ⟨h1,h2,h3,h4⟩:=h
 obtain ⟨hk,ex⟩:=List.getElem?_eq_some_iff.1 hx
 have hxl:=hxs.at_ hx
 have hq:(r*W64+x)/d<W64:=by
  rw [Nat.div_lt_iff_lt_mul (by omega)]
  have:(r+1)*W64≤d*W64:=Nat.mul_le_mul_right _ h3
  rw [Nat.add_mul,Nat.one_mul] at this
  rw [Nat.mul_comm W64 d]
  omega
 refine ⟨⟨h1.set hq,by simp [h2],Nat.mod_lt _ (by omega),?_⟩,hq⟩
 have e:(zs.set k ((r*W64+x)/d)).drop k=(r*W64+x)/d::zs.drop (k+1):=by
  rw [List.drop_eq_getElem_cons (by simp;omega),List.getElem_set_self,List.drop_set_of_lt (by omega)]
 rw [e,val_drop _ _ _ hk,ex]
 simp only [val]
 have:=Nat.div_add_mod (r*W64+x) d
 rw [← h4]
 generalize (r*W64+x)/d=q at *
 generalize (r*W64+x)%d=m at *
 clear hq h1 hxs hxl h3 e
 generalize W64=V at *
 grind
theorem DivInv.start (xs:List Nat) {d:Nat} (hd:0<d):DivInv xs (List.replicate xs.length 0) d xs.length 0 :=
 ⟨Dig.replicate W64_pos _,by simp,hd,by simp [val]⟩
theorem DivInv.finish {xs zs:List Nat} {d r:Nat} (h:DivInv xs zs d 0 r):val W64 zs=val W64 xs/d∧r=val W64 xs%d:=by
 obtain ⟨_,_,h3,h4⟩:=h
 simp only [List.drop_zero] at h4
 rw [← h4]
 constructor
 ·rw [Nat.add_comm,Nat.add_mul_div_right _ _ (by omega),Nat.div_eq_of_lt h3];omega
 ·rw [Nat.add_comm,Nat.add_mul_mod_self_right,Nat.mod_eq_of_lt h3]
theorem trimmed_own (ad:Addr) (n c:Nat) (xs:List Nat) (w:World) (h:Rd w (some ad) n c xs) (hd:Dig W64 xs) :
 Calls Tryz.prog 191 #[.slice (some ad) n c] w fun e w'=>(∃ v,e = .returned v∧Nt w v (val W64 xs)∧v.ownBlock=some ad.block)∧w=w':=by
 refine (trimmed_raw _ n c xs w h).mono ?_
 rintro e w' ⟨⟨k,⟨hk,hn,hv⟩,rfl⟩,rfl⟩
 exact ⟨⟨_,rfl,⟨_,k,c,xs.take k,rfl,h.take (by rw [← h.len];exact hk),hd.take k,hn,hv⟩,rfl⟩,rfl⟩
set_option maxHeartbeats 1000000 in
theorem divideWord_own (A:Option Addr) (n c:Nat) (xs:List Nat) (d:Nat) (w:World) (h:Rd w A n c xs) (hd:Dig W64 xs) (hn:n≤2199023255552) (hd0:0<d) (hd1:d<W64) :
 Calls Tryz.prog 158 #[.slice A n c,.int .u64 (d:Int)] w fun e w' =>
  Hid (∃ v,e = .returned (.tuple #[v,.int .u64 ((val W64 xs%d:Nat):Int)])∧Nt w' v (val W64 xs/d)∧v.ownBlock=some w.heap.size)∧Below w.heap.size w w':=by
 have HX:=Lib.hid (And.intro h (And.intro hd (And.intro hd0 hd1)))
 have hnc:n≤c:=h.cap
 have hcm:c≤9223372036854775807:=h.2.2.1
 obtain ⟨i0,hi,hz0,hz1,hz2⟩:=info_parts info_word
 have HI:=Lib.hid (And.intro hi (And.intro hz0 (And.intro hz1 hz2)))
 clear h hd hi hz0 hz1 hz2 hd0 hd1
 go_enter Tryz.func158,Tryz.ntmps158
 go_wp2_with (at_make;refine wpList_make_full _ rfl _ _ 109 rfl w.heap.size 175 i0 (.int .u64 0) 1 Tryz.underlying109 HI.out.1 HI.out.2.1 HI.out.2.2.1 _ _ _ _ n rfl rfl ?b0 ?b1 ?b2 ?b3 (Nat.le_refl _) ?_)
 case b0=>rfl
 case b1=>rfl
 case b2=>rw [HI.out.2.2.2];omega
 case b3=>show n≤9223372036854775807;omega
 intro w1 hown hg1
 have hb1:Below w.heap.size w w1:=(Below.refl _ _).grown hg1 (Nat.le_refl _) (fun k h=>by cases h)
 have hblk:=blk_of_made hown
 have e0:DivInv xs (List.replicate n 0) d n 0:=by
  have:=DivInv.start xs HX.out.2.2.1
  rwa [HX.out.1.len] at this
 have HB:=Lib.hid hblk
 have H0:=Lib.hid e0
 clear hown hg1 hblk e0
 obtain ⟨g,hg⟩:∃ g,g=w.heap.size:=⟨_,rfl⟩
 rw [← hg] at HB ⊢
 have HG:=Lib.hid hg
 clear hg
 go_wp2
 go_loopw [7,8] (fun rs i wr => ∃ (k r:Nat) (zs:List Nat),k≤n∧i = .int .i64 ((k:Int)-1)∧rs = .int .u64 (r:Int)∧DivInv xs zs d k r∧Blk wr g 175 zs∧Below w.heap.size w wr) (fun _ i _=>(intOf i+1).toNat)
 case atStart=>exact ⟨n,0,_,Nat.le_refl _,rfl,rfl,H0.out,HB.out,hb1⟩
 case round =>
  obtain ⟨k,r,zs,hk,rfl,rfl,hinv,hblk,hb⟩:=hrel
  have hzn:zs.length=n:=by rw [hinv.2.1,HX.out.1.len]
  rcases Nat.eq_zero_or_pos k with rfl|hk0
  ·have hrd:=hblk.rd (by rw [hzn];show n≤9223372036854775807;omega)
   rw [hzn] at hrd
   obtain ⟨f1,f2⟩:=hinv.finish
   have HF:=Lib.hid (And.intro hinv.1 (And.intro hrd (And.intro f1 f2)))
   clear hinv hblk hzn hrd f1 f2
   simp only [show (((0:Nat):Int)-1) = -1 from rfl]
   go_wp2_with (go_at_call 191;refine (trimmed_own _ _ _ zs _ HF.out.2.1 HF.out.1).mono ?_;rintro e w' ⟨⟨v,rfl,hv,hvo⟩,rfl⟩)
   go_ret2
   exact ⟨⟨v,ret_two rfl (val_u64 HF.out.2.2.2),by rw [← HF.out.2.2.1];exact hv,by rw [hvo,HG.out]⟩,hb⟩
  ·obtain ⟨m,rfl⟩:∃ m,k=m+1:=⟨k-1,by omega⟩
   obtain ⟨ad,x,hA,_,hx,hcx⟩:=(HX.out.1.below hb).at_ (k:=m) (by omega)
   subst hA
   obtain ⟨hst,hq⟩:=hinv.step hx HX.out.2.1
   obtain ⟨q,hqq⟩:∃ q,q=(r*W64+x)/d:=⟨_,rfl⟩
   obtain ⟨r',hr'⟩:∃ r',r'=(r*W64+x)%d:=⟨_,rfl⟩
   have hdiv:=Lib.hid (fun w=>div64_q r x d q r' w hinv.2.2.1 HX.out.2.2.2 (HX.out.2.1.at_ hx) hqq hr')
   rw [← hqq,← hr'] at hst
   have HE:=Lib.hid (And.intro hst (And.intro hblk hzn))
   clear hx hblk hinv hst hk0 hq hzn hqq hr'
   simp only [Int.natCast_add,Int.natCast_one,show ((m:Int)+1-1)=m from by omega]
   go_wp2_with fail
   refine (hdiv.out _).mono ?_
   rintro e w2 ⟨rfl,k2,hk2⟩
   have hb2:Below wr.heap.size wr w2:=by rw [hk2];exact drewN0 (Below.refl _ _) _
   clear hk2
   have hblk2:Blk w2 g 175 zs:=HE.out.2.1.below hb2 HE.out.2.1.lt
   have hb3:Below w.heap.size w w2:=hb.trans (hb2.mono hb.size)
   have hzn:=HE.out.2.2
   obtain ⟨z,hcz⟩:∃ z:Int,w2.cell? ⟨g,m,none⟩=some (.int .u64 z):=⟨_,hblk2.cell_get (by omega)⟩
   have hfz:=hblk2.frozen m
   have HE2:=Lib.hid hblk2
   clear hblk2 hzn hcx hdiv hb hb2
   go_wp2
   go_roundw
   case rel=>exact ⟨m,r',zs.set m q,by omega,rfl,rfl,HE.out.1,HE2.out.set_ _ _,hb3.setCell (by rw [HG.out];exact Nat.le_refl _) _⟩
   case measure=>simp [intOf]
theorem divideWord_any (A:Option Addr) (n c:Nat) (xs:List Nat) (d:Nat) (w:World) (h:Rd w A n c xs) (hd:Dig W64 xs) (hn:n≤2199023255552) (hd0:0<d) (hd1:d<W64) :
 Calls Tryz.prog 158 #[.slice A n c,.int .u64 (d:Int)] w fun e w' =>
  Hid (∃ v,e = .returned (.tuple #[v,.int .u64 ((val W64 xs%d:Nat):Int)])∧Nt w' v (val W64 xs/d))∧Below w.heap.size w w' :=
 (divideWord_own A n c xs d w h hd hn hd0 hd1).mono fun _ _ ⟨⟨v,h1,h2,_⟩,h3⟩=>⟨⟨v,h1,h2⟩,h3⟩
theorem or_low (a b s:Nat) (hb:b<2^s) (h:a*2^s+b<W64):bits .or .u64 (b:Int) ((a*2^s:Nat):Int)=((a*2^s+b:Nat):Int):=by
 have hW:=W64_eq
 rw [bits_or_nat _ _ (by omega) (by omega),Nat.or_comm,Nat.mul_comm,Nat.two_pow_add_eq_or_of_lt hb]
set_option maxHeartbeats 1000000 in
theorem shiftedUp_any (A:Option Addr) (n c:Nat) (xs:List Nat) (s:Nat) (w:World) (h:Rd w A n c xs) (hd:Dig W64 xs) (hn:n≤2199023255552) (hs:s≤63) :
 Calls Tryz.prog 224 #[.slice A n c,.int .u64 (s:Int)] w fun e w' =>
  Hid (∃ zs,e = .returned (.slice (some ⟨w.heap.size,0,none⟩) (n+1) (n+1))∧Blk w' w.heap.size 175 zs∧zs.length=n+1∧Dig W64 zs∧val W64 zs=val W64 xs*2^s)∧Below w.heap.size w w':=by
 have HX:=Lib.hid (And.intro h hd)
 have hnc:n≤c:=h.cap
 have hcm:c≤9223372036854775807:=h.2.2.1
 obtain ⟨i0,hi,hz0,hz1,hz2⟩:=info_parts info_word
 have HI:=Lib.hid (And.intro hi (And.intro hz0 (And.intro hz1 hz2)))
 clear h hd hi hz0 hz1 hz2
 obtain ⟨g,hg⟩:∃ g,g=w.heap.size:=⟨_,rfl⟩
 rw [← hg]
 have HG:=Lib.hid hg
 go_enter Tryz.func224,Tryz.ntmps224
 go_wp2_with (at_make;refine wpList_make_full _ rfl _ _ 109 rfl w.heap.size 175 i0 (.int .u64 0) 1 Tryz.underlying109 HI.out.1 HI.out.2.1 HI.out.2.2.1 _ _ _ _ (n+1) rfl rfl ?b0 ?b1 ?b2 ?b3 (Nat.le_refl _) ?_)
 case b0=>omega
 case b1=>omega
 case b2=>rw [HI.out.2.2.2];omega
 case b3=>show n+1≤9223372036854775807;omega
 intro w1 hown hg1
 have hb1:Below w.heap.size w w1:=(Below.refl _ _).grown hg1 (Nat.le_refl _) (fun k h=>by cases h)
 have hblk:=blk_of_made hown
 have e0:UpInv xs (List.replicate (n+1) 0) s 0:=by
  have:=UpInv.start xs s
  rwa [HX.out.1.len] at this
 have H0:=Lib.hid e0
 rw [← hg] at hblk hb1 ⊢
 have HB:=Lib.hid hblk
 clear hown hg1 hblk e0 hg
 go_wp2
 go_loopw [14] (fun i wr => ∃ (k:Nat) (zs:List Nat),k≤n∧i = .int .i64 (k:Int)∧UpInv xs zs s k∧Blk wr g 175 zs∧Below g w wr) (fun i _=>n-(intOf i).toNat)
 case atStart=>exact ⟨0,_,Nat.zero_le _,rfl,H0.out,HB.out,hb1⟩
 case round =>
  obtain ⟨k,zs,hk,rfl,hinv,hblk,hb⟩:=hrel
  have hzn:zs.length=n+1:=by rw [hinv.2.1,HX.out.1.len]
  have hgs:g<wr.heap.size:=hblk.lt
  by_cases hlt:k<n
  ·obtain ⟨ad,x,hA,hal,hx,hcx⟩:=(HX.out.1.below (by rw [← HG.out];exact hb)).at_ (k:=k) hlt
   subst hA
   obtain ⟨cc,hcc⟩:∃ cc,zs[k]?=some cc:=⟨_,List.getElem?_eq_getElem (by omega)⟩
   obtain ⟨hst,s1,s2,s3⟩:=hinv.step hs hx HX.out.2 hcc
   obtain ⟨p1,p2⟩:=shl_parts (x:=x) (s:=s) (by omega)
   have hcz:wr.cell? ⟨g,k,none⟩=some (.int .u64 (cc:Int)):=hblk.cell hcc
   have hfz:=hblk.frozen k
   have hfz1:=hblk.frozen (k+1)
   obtain ⟨z1,hcz1⟩:∃ z:Int,wr.cell? ⟨g,k+1,none⟩=some (.int .u64 z):=⟨_,hblk.cell_get (by omega)⟩
   obtain ⟨lo,hlo⟩:∃ lo,lo=x*2^s%W64:=⟨_,rfl⟩
   obtain ⟨hi,hhi⟩:∃ hi,hi=x/2^(64-s):=⟨_,rfl⟩
   have r1:IntKind.u64.wrap ((x:Int)*2^s)=(lo:Int):=by rw [show (x:Int)*2^s=((x*2^s:Nat):Int) from by simp,wrap_mod,hlo,W64_eq]
   have r2:bits .or .u64 (cc:Int) (lo:Int)=((lo+cc:Nat):Int):=by rw [hlo,p1];exact or_low _ _ _ s1 s2
   obtain ⟨z,hz⟩:∃ z,z=lo+cc:=⟨_,rfl⟩
   rw [← hz] at r2
   have r3:(x:Int)/2^(64-s)=(hi:Int):=by rw [hhi];simp
   rw [← hlo,← hz,← hhi] at hst
   have HE:=Lib.hid (And.intro hst hblk)
   clear hx hblk hinv hst hcc s1 s2 s3 p1 p2 hlo hhi hz hzn
   go_wp2
   go_roundw
   case rel=>exact ⟨k+1,(zs.set k z).set (k+1) hi,by omega,by go_num,HE.out.1,(HE.out.2.set_ _ _).set_ _ _,(hb.setCell (Nat.le_refl _) _).setCell (Nat.le_refl _) _⟩
   case measure=>simp [intOf];omega
  ·obtain rfl:k=n:=by omega
   have hfin:=hinv
   rw [← HX.out.1.len] at hfin
   have HF:=Lib.hid (And.intro hinv.1 (And.intro hfin.finish (And.intro hzn hblk)))
   clear hinv hblk hzn hfin hlt
   go_wp2
   go_ret
   exact ⟨⟨zs,rfl,HF.out.2.2.2,HF.out.2.2.1,HF.out.1,HF.out.2.1⟩,hb⟩
theorem or_high (a b s:Nat) (hb:b<2^s) (h:a*2^s+b<W64):bits .or .u64 (b:Int) ((a*2^s:Nat):Int)=((b+a*2^s:Nat):Int):=by
 rw [or_low a b s hb h,Nat.add_comm]
set_option maxHeartbeats 1000000 in
theorem shiftedDown_any (A:Option Addr) (n c:Nat) (xs:List Nat) (s:Nat) (w:World) (h:Rd w A n c xs) (hd:Dig W64 xs) (hn:n≤2199023255552) (hs:s≤63) :
 Calls Tryz.prog 226 #[.slice A n c,.int .u64 (s:Int)] w (GivesNt w (val W64 xs/2^s)):=by
 have HX:=Lib.hid (And.intro h hd)
 have hnc:n≤c:=h.cap
 have hcm:c≤9223372036854775807:=h.2.2.1
 obtain ⟨i0,hi,hz0,hz1,hz2⟩:=info_parts info_word
 have HI:=Lib.hid (And.intro hi (And.intro hz0 (And.intro hz1 hz2)))
 clear h hd hi hz0 hz1 hz2
 obtain ⟨g,hg⟩:∃ g,g=w.heap.size:=⟨_,rfl⟩
 have HG:=Lib.hid hg
 go_enter Tryz.func226,Tryz.ntmps226
 go_wp2_with (at_make;refine wpList_make_full _ rfl _ _ 109 rfl w.heap.size 175 i0 (.int .u64 0) 1 Tryz.underlying109 HI.out.1 HI.out.2.1 HI.out.2.2.1 _ _ _ _ n rfl rfl ?b0 ?b1 ?b2 ?b3 (Nat.le_refl _) ?_)
 case b0=>rfl
 case b1=>rfl
 case b2=>rw [HI.out.2.2.2];omega
 case b3=>show n≤9223372036854775807;omega
 intro w1 hown hg1
 have hb1:Below w.heap.size w w1:=(Below.refl _ _).grown hg1 (Nat.le_refl _) (fun k h=>by cases h)
 have hblk:=blk_of_made hown
 have e0:DownInv xs (List.replicate n 0) s 0:=by
  have:=DownInv.start xs s
  rwa [HX.out.1.len] at this
 have H0:=Lib.hid e0
 rw [← hg] at hblk hb1 ⊢
 have HB:=Lib.hid hblk
 clear hown hg1 hblk e0 hg
 go_wp2
 go_loopw [13] (fun i wr => ∃ (k:Nat) (zs:List Nat),k≤n∧i = .int .i64 (k:Int)∧DownInv xs zs s k∧Blk wr g 175 zs∧Below g w wr) (fun i _=>n-(intOf i).toNat)
 case atStart=>exact ⟨0,_,Nat.zero_le _,rfl,H0.out,HB.out,hb1⟩
 case round =>
  obtain ⟨k,zs,hk,rfl,hinv,hblk,hb⟩:=hrel
  have hzn:zs.length=n:=by rw [hinv.2.1,HX.out.1.len]
  have hgs:g<wr.heap.size:=hblk.lt
  by_cases hlt:k<n
  ·obtain ⟨ad,x,hA,hal,hx,hcx⟩:=(HX.out.1.below (by rw [← HG.out];exact hb)).at_ (k:=k) hlt
   subst hA
   have hfz:=hblk.frozen k
   obtain ⟨z1,hcz1⟩:∃ z:Int,wr.cell? ⟨g,k,none⟩=some (.int .u64 z):=⟨_,hblk.cell_get (by omega)⟩
   obtain ⟨hi,hhi⟩:∃ hi,hi=x/2^s:=⟨_,rfl⟩
   have r3:(x:Int)/2^s=(hi:Int):=by rw [hhi];simp
   by_cases hk0:0<k
   ·obtain ⟨cc,hcc⟩:∃ cc,zs[k-1]?=some cc:=⟨_,List.getElem?_eq_getElem (by omega)⟩
    have hk1:k-1+1=k:=by omega
    obtain ⟨hst,s1,s2⟩:=(hk1▸hinv:DownInv xs zs s (k-1+1)).step hs (by rw [hk1];exact hx) HX.out.2 hcc
    rw [show k-1+2=k+1 from by omega,hk1] at hst
    have hcz:wr.cell? ⟨g,k-1,none⟩=some (.int .u64 (cc:Int)):=hblk.cell hcc
    have hfz1:=hblk.frozen (k-1)
    have p1:x*2^(64-s)%W64=x%2^s*2^(64-s):=by
     have hW:W64=2^s*2^(64-s):=by rw [Nat.mul_comm];exact W64_pow (by omega)
     rw [hW,Nat.mul_mod_mul_right]
    obtain ⟨lo,hlo⟩:∃ lo,lo=x*2^(64-s)%W64:=⟨_,rfl⟩
    have r1:IntKind.u64.wrap ((x:Int)*2^(64-s))=(lo:Int):=by rw [show (x:Int)*2^(64-s)=((x*2^(64-s):Nat):Int) from by simp,wrap_mod,hlo,W64_eq]
    have r2:bits .or .u64 (cc:Int) (lo:Int)=((cc+lo:Nat):Int):=by rw [hlo,p1];exact or_high _ _ _ s1 s2
    obtain ⟨z,hz⟩:∃ z,z=cc+lo:=⟨_,rfl⟩
    rw [← hz] at r2
    rw [← hlo,← hz,← hhi] at hst
    have HE:=Lib.hid (And.intro hst hblk)
    have hne:¬ k=k-1:=by omega
    clear hx hblk hinv hst hcc s1 s2 p1 hlo hhi hz hzn hk1
    go_wp2
    go_roundw
    case rel=>exact ⟨k+1,(zs.set k hi).set (k-1) z,by omega,by go_num,HE.out.1,(HE.out.2.set_ _ _).set_ _ _,(hb.setCell (Nat.le_refl _) _).setCell (Nat.le_refl _) _⟩
    case measure=>simp [intOf];omega
   ·have hst:DownInv xs (zs.set k hi) s (k+1):=by
     have:k=0:=by omega
     subst this
     rw [hhi]
     exact hinv.first hs hx HX.out.2
    have hkz:¬ (0<(k:Int)):=by omega
    have HE:=Lib.hid (And.intro hst hblk)
    clear hx hblk hinv hst hhi hzn
    go_wp2
    go_roundw
    case rel=>exact ⟨k+1,zs.set k hi,by omega,by go_num,HE.out.1,HE.out.2.set_ _ _,hb.setCell (Nat.le_refl _) _⟩
    case measure=>simp [intOf];omega
  ·obtain rfl:k=n:=by omega
   have hrd:=hblk.rd (by rw [hzn];show k≤9223372036854775807;omega)
   rw [hzn] at hrd
   have hfin:=hinv.2.2.1
   rw [List.take_of_length_le (by omega),List.take_of_length_le (by rw [HX.out.1.len];omega)] at hfin
   have HF:=Lib.hid (And.intro hinv.1 (And.intro hfin hrd))
   clear hinv hblk hzn hrd hfin hlt
   go_wp2_with (go_at_call 191;refine (trimmed_any _ _ _ zs _ HF.out.2.2 HF.out.1).mono ?_;rintro e w' ⟨⟨v,rfl,hv⟩,rfl⟩)
   go_ret
   exact ⟨v,rfl,by rw [← HF.out.2.1];exact hv,by rw [← HG.out];exact hb⟩
def guessOf (high middle low first second:Nat):Nat:=if first≤high then W64-1 else ((high*W64+middle)*W64+low)/(first*W64+second)
theorem guess_le_iff {N2 low first second T word rest:Nat} (hf:0<first) (hT:T=(N2*W64+low)/(first*W64+second)) (h:word*first+rest=N2) :
 word≤T↔word*second≤rest*W64+low:=by
 have hp:0<first*W64:=Nat.mul_pos hf W64_pos
 rw [hT,Nat.le_div_iff_mul_le (by omega)]
 subst h
 have e1:word*(first*W64+second)=word*first*W64+word*second:=by rw [Nat.mul_add,Nat.mul_assoc]
 have e2:(word*first+rest)*W64=word*first*W64+rest*W64:=Nat.add_mul _ _ _
 rw [e1,e2]
 omega
theorem guess_first {high middle low first second:Nat} (hf:high<first) (hl:low<W64):((high*W64+middle)*W64+low)/(first*W64+second)≤(high*W64+middle)/first :=
 guess_ge rfl rfl hl (by omega)
theorem lex_iff {p r l:Nat} (hl:l<W64):p≤r*W64+l↔p/W64<r∨(p/W64=r∧p%W64≤l):=by
 have:=Nat.div_add_mod p W64
 have hm:p%W64<W64:=Nat.mod_lt _ W64_pos
 rw [Nat.mul_comm] at this
 constructor
 ·intro h
  rcases Nat.lt_trichotomy (p/W64) r with h1|h1|h1
  ·exact .inl h1
  ·exact .inr ⟨h1,by rw [h1] at this;omega⟩
  ·exfalso
   have:(r+1)*W64≤p/W64*W64:=Nat.mul_le_mul_right _ h1
   rw [Nat.add_mul,Nat.one_mul] at this
   omega
 ·rintro (h1|⟨h1,h2⟩)
  ·have:(p/W64+1)*W64≤r*W64:=Nat.mul_le_mul_right _ h1
   rw [Nat.add_mul,Nat.one_mul] at this
   omega
  ·rw [h1] at this;omega
set_option maxHeartbeats 1000000 in
theorem guess_top_any (high middle low first second:Nat) (w:World) (h:first≤high) :
 Calls Tryz.prog 247 #[.int .u64 (high:Int),.int .u64 (middle:Int),.int .u64 (low:Int),.int .u64 (first:Int),.int .u64 (second:Int)] w fun e w'=>e = .returned (.int .u64 ((W64-1:Nat):Int))∧∃ k,w'=w.drewN k:=by
 have h' : (first:Int)≤high:=by omega
 go_enter Tryz.func247,Tryz.ntmps247
 go_wp2
 go_ret
 exact ⟨rfl,0,rfl⟩
set_option maxHeartbeats 2000000 in
theorem guess_low_any (high middle low first second:Nat) (w:World) (h:high<first) (h0:middle<W64) (h1:low<W64) (h2:first<W64) (h3:second<W64) (T:Nat) (hT:T=((high*W64+middle)*W64+low)/(first*W64+second)) :
 Calls Tryz.prog 247 #[.int .u64 (high:Int),.int .u64 (middle:Int),.int .u64 (low:Int),.int .u64 (first:Int),.int .u64 (second:Int)] w fun e w'=>e = .returned (.int .u64 (T:Int))∧∃ k,w'=w.drewN k:=by
 have HW:=Lib.hid W64_eq
 have ht:¬ ((first:Int)≤high):=by omega
 have hfm:(high*W64+middle)/first<W64:=by
  rw [Nat.div_lt_iff_lt_mul (by omega)]
  have:(high+1)*W64≤first*W64:=Nat.mul_le_mul_right _ h
  rw [Nat.add_mul,Nat.one_mul] at this
  rw [Nat.mul_comm W64 first]
  omega
 have hTq:T≤(high*W64+middle)/first:=by rw [hT];exact guess_first h h1
 obtain ⟨N2,hN2⟩:∃ N2,N2=high*W64+middle:=⟨_,rfl⟩
 rw [← hN2] at hfm hTq hT
 obtain ⟨q,hq⟩:∃ q,q=N2/first:=⟨_,rfl⟩
 obtain ⟨r,hr⟩:∃ r,r=N2%first:=⟨_,rfl⟩
 have hdm:q*first+r=N2:=by rw [hq,hr,Nat.mul_comm];exact Nat.div_add_mod _ _
 have hrl:r<first:=by rw [hr];exact Nat.mod_lt _ (by omega)
 have cd:=Lib.hid (fun w=>div64_q high middle first q r w h h2 h0 (by rw [hq,hN2]) (by rw [hr,hN2]))
 rw [← hq] at hTq hfm
 have HS:=Lib.hid (And.intro hT (And.intro hdm (And.intro hrl (And.intro hTq (And.intro hfm (And.intro h1 (And.intro h2 h3)))))))
 have hf0:0<first:=by omega
 clear h0 h1 h2 h3 hT hN2 hfm hTq hq hr hdm hrl
 go_enter Tryz.func247,Tryz.ntmps247
 go_wp2_with fail
 refine (cd.out _).mono ?_
 rintro e w1 ⟨rfl,k1,hk1⟩
 have HK:=Lib.hid hk1
 clear hk1
 go_wp2
 go_loop [11,12] (fun a b => ∃ m rs:Nat,a = .int .u64 (m:Int)∧b = .int .u64 (rs:Int)∧Hid (m*first+rs=N2∧T≤m∧m<W64∧rs<W64)) (fun a _=>(intOf a).toNat)
 case atStart=>exact ⟨q,r,rfl,rfl,HS.out.2.1,HS.out.2.2.2.1,HS.out.2.2.2.2.1,by have:=HS.out;omega⟩
 case round =>
  obtain ⟨m,rs,rfl,rfl,hinv⟩:=hrel
  obtain ⟨i1,i2,i3,i4⟩:=hinv.out
  obtain ⟨hT,_,_,_,_,h1,h2,h3⟩:=HS.out
  have hiff:=guess_le_iff hf0 hT i1
  have hlex:=lex_iff (p:=m*second) (r:=rs) h1
  obtain ⟨ab,hab⟩:∃ ab,m*second/W64=ab:=⟨_,rfl⟩
  obtain ⟨bl,hbl⟩:∃ bl,m*second%W64=bl:=⟨_,rfl⟩
  have hmul:=Lib.hid (fun w=>(Tryz.bits_Mul64 m second i3 h3 w).mono (fun e w' h=>(show e = .returned (.tuple #[.int .u64 (ab:Int),.int .u64 (bl:Int)])∧w=w' from ⟨by rw [h.1,← hab,← hbl];rfl,h.2.symm⟩)))
  rw [hab,hbl] at hlex
  have hdone:(ab<rs∨(ab=rs∧bl≤low))→m=T:=by
   intro h
   have:=hiff.2 (hlex.2 h)
   omega
  have hnot:¬ (ab<rs∨(ab=rs∧bl≤low))→T<m:=by
   intro h
   rcases Nat.lt_or_ge T m with h'|h'
   ·exact h'
   ·exact absurd (hlex.1 (hiff.1 h')) h
  by_cases hex:ab<rs∨(ab=rs∧bl≤low)
  ·have HD:=Lib.hid (hdone hex)
   clear hiff hlex hdone hnot hab hbl i1 i2 i3 i4 h1 h2 h3 hT
   rcases hex with hx|⟨hx,hy⟩
   ·have hx' : (ab:Int)<rs:=by omega
    clear hx
    go_wp2_with (go_at_call 218;refine (hmul.out _).mono ?_;rintro e w' ⟨rfl,rfl⟩)
    go_ret
    exact ⟨by rw [← HD.out];rfl,_,HK.out⟩
   ·have hx' : ¬ (ab:Int)<rs:=by omega
    have hx2:((ab:Int)==rs)=true:=by simp;omega
    have hy' : (bl:Int)≤low:=by omega
    clear hx hy
    go_wp2_with (go_at_call 218;refine (hmul.out _).mono ?_;rintro e w' ⟨rfl,rfl⟩)
    go_ret
    exact ⟨by rw [← HD.out];rfl,_,HK.out⟩
  ·have hTm:=hnot hex
   obtain ⟨m,rfl⟩:∃ m',m=m'+1:=⟨m-1,by omega⟩
   have j1:m*first+(rs+first)=N2:=by rw [← i1,Nat.add_mul,Nat.one_mul];omega
   have hm1:(m:Int)+1-1=m:=by omega
   obtain ⟨r2,hr2⟩:∃ r2,(rs+first)%W64=r2:=⟨_,rfl⟩
   have hw:IntKind.u64.wrap ((rs:Int)+first)=(r2:Int):=by rw [show (rs:Int)+first=((rs+first:Nat):Int) from by simp,wrap_mod,← hr2,W64_eq]
   have HM:=Lib.hid hmul.out
   clear hmul hiff hlex hdone hnot hab hbl i1 i2
   have hx' : ¬ (ab:Int)<rs:=fun h=>hex (.inl (by omega))
   have hmb:(m:Int)≤18446744073709551614:=by have:=HW.out;omega
   simp only [Int.natCast_add,Int.natCast_one] at HM ⊢
   by_cases hov:r2<first
   ·have hge:W64≤rs+first:=by
     rcases Nat.lt_or_ge (rs+first) W64 with h|h
     ·rw [Nat.mod_eq_of_lt h] at hr2;omega
     ·exact h
    have HD:Hid (m=T):=by
     have a1:=(guess_le_iff hf0 hT j1).2 (by
      have:m*second≤W64*W64:=Nat.mul_le_mul (by omega) (by omega)
      have:W64*W64≤(rs+first)*W64:=Nat.mul_le_mul_right _ hge
      omega)
     unfold Hid
     omega
    have hov' : (r2:Int)<first:=by omega
    by_cases he:ab=rs
    ·have hx2:((ab:Int)==rs)=true:=by simp;omega
     have hy' : ¬ ((bl:Int)≤low):=fun h=>hex (.inr ⟨he,by omega⟩)
     clear he hex hge hov hr2 j1 hTm i3 i4 h1 h2 h3 hT
     go_wp2_with (go_at_call 218;refine (HM.out _).mono ?_;rintro e w' ⟨rfl,rfl⟩)
     go_ret
     exact ⟨by rw [← HD.out];rfl,_,HK.out⟩
    ·have hx2:((ab:Int)==rs)=false:=by simp;omega
     clear he hex hge hov hr2 j1 hTm i3 i4 h1 h2 h3 hT
     go_wp2_with (go_at_call 218;refine (HM.out _).mono ?_;rintro e w' ⟨rfl,rfl⟩)
     go_ret
     exact ⟨by rw [← HD.out];rfl,_,HK.out⟩
   ·have hlt:rs+first<W64:=by
     rcases Nat.lt_or_ge (rs+first) W64 with h|h
     ·exact h
     ·rw [Nat.mod_eq_sub_mod h,Nat.mod_eq_of_lt (by omega)] at hr2
      omega
    have HN:Hid (m*first+r2=N2∧T≤m∧m<W64∧r2<W64):=by
     rw [Nat.mod_eq_of_lt hlt] at hr2
     refine ⟨by omega,by omega,by omega,by omega⟩
    have hov' : ¬ (r2:Int)<first:=by omega
    by_cases he:ab=rs
    ·have hx2:((ab:Int)==rs)=true:=by simp;omega
     have hy' : ¬ ((bl:Int)≤low):=fun h=>hex (.inr ⟨he,by omega⟩)
     clear he hex hlt hov hr2 j1 hTm i3 i4 h1 h2 h3 hT
     go_wp2_with (go_at_call 218;refine (HM.out _).mono ?_;rintro e w' ⟨rfl,rfl⟩)
     go_round
     case rel=>exact ⟨m,r2,by go_num,rfl,HN⟩
     case measure=>simp [intOf]
    ·have hx2:((ab:Int)==rs)=false:=by simp;omega
     clear he hex hlt hov hr2 j1 hTm i3 i4 h1 h2 h3 hT
     go_wp2_with (go_at_call 218;refine (HM.out _).mono ?_;rintro e w' ⟨rfl,rfl⟩)
     go_round
     case rel=>exact ⟨m,r2,by go_num,rfl,HN⟩
     case measure=>simp [intOf]
theorem guess_any (high middle low first second:Nat) (w:World) (h0:middle<W64) (h1:low<W64) (h2:first<W64) (h3:second<W64) :
 Calls Tryz.prog 247 #[.int .u64 (high:Int),.int .u64 (middle:Int),.int .u64 (low:Int),.int .u64 (first:Int),.int .u64 (second:Int)] w fun e w'=>e = .returned (.int .u64 (guessOf high middle low first second:Int))∧∃ k,w'=w.drewN k:=by
 unfold guessOf
 by_cases h:first≤high
 ·rw [if_pos h]
  exact guess_top_any high middle low first second w h
 ·rw [if_neg h]
  exact guess_low_any high middle low first second w (by omega) h0 h1 h2 h3 _ rfl
theorem u3_alg (A P V low mid h:Nat):A+P*low+P*V*mid+P*V*V*h=((h*V+mid)*V+low)*P+A:=by grind
theorem v2_alg (A P V s f:Nat):A+P*s+P*V*f=(f*V+s)*P+A:=by grind
theorem guess_ok {us vs:List Nat} {n h mid low f s:Nat} (hn:2≤n) (hu:us.length=n+1) (hv:vs.length=n) (du:Dig W64 us) (dv:Dig W64 vs)
 (g0:us[n]?=some h) (g1:us[n-1]?=some mid) (g2:us[n-2]?=some low) (g3:vs[n-1]?=some f) (g4:vs[n-2]?=some s) (hf:9223372036854775808≤f) (hlt:val W64 us<val W64 vs*W64) :
 val W64 us/val W64 vs≤guessOf h mid low f s∧guessOf h mid low f s≤val W64 us/val W64 vs+1∧guessOf h mid low f s<W64:=by
 have hW:=W64_eq
 obtain ⟨m,rfl⟩:∃ m,n=m+2:=⟨n-2,by omega⟩
 simp only [show m+2-1=m+1 from by omega,show m+2-2=m from by omega] at g1 g2 g3 g4
 have l0:=du.at_ g0
 have l1:=du.at_ g1
 have l2:=du.at_ g2
 have l3:=dv.at_ g3
 have l4:=dv.at_ g4
 obtain ⟨k0,e0⟩:=List.getElem?_eq_some_iff.1 g0
 obtain ⟨k1,e1⟩:=List.getElem?_eq_some_iff.1 g1
 obtain ⟨k2,e2⟩:=List.getElem?_eq_some_iff.1 g2
 obtain ⟨k3,e3⟩:=List.getElem?_eq_some_iff.1 g3
 obtain ⟨k4,e4⟩:=List.getElem?_eq_some_iff.1 g4
 have hul:=val_lt (du.take m)
 have hvl:=val_lt (dv.take m)
 rw [List.length_take,Nat.min_eq_left (by omega)] at hul hvl
 have hU:val W64 us=val W64 (us.take m)+W64^m*low+W64^(m+1)*mid+W64^(m+2)*h:=by
  have:val W64 us=val W64 (us.take (m+2+1)):=by rw [List.take_of_length_le (by omega)]
  rw [this,val_take_succ _ _ _ k0,val_take_succ _ _ _ k1,val_take_succ _ _ _ k2,e0,e1,e2]
 have hV:val W64 vs=val W64 (vs.take m)+W64^m*s+W64^(m+1)*f:=by
  have:val W64 vs=val W64 (vs.take (m+1+1)):=by rw [List.take_of_length_le (by omega)]
  rw [this,val_take_succ _ _ _ k3,val_take_succ _ _ _ k4,e3,e4]
 have hVp:0<val W64 vs:=by
  have:0<W64^(m+1)*f:=Nat.mul_pos (Nat.pow_pos W64_pos) (by omega)
  omega
 have hqW:val W64 us/val W64 vs<W64:=by rw [Nat.div_lt_iff_lt_mul hVp,Nat.mul_comm];exact hlt
 have U3:val W64 us=((h*W64+mid)*W64+low)*W64^m+val W64 (us.take m):=by
  rw [hU,show W64^(m+2)=W64^m*W64*W64 from by rw [Nat.pow_succ,Nat.pow_succ],Nat.pow_succ]
  exact u3_alg _ _ _ _ _ _
 have V2:val W64 vs=(f*W64+s)*W64^m+val W64 (vs.take m):=by
  rw [hV,Nat.pow_succ]
  exact v2_alg _ _ _ _ _
 have hfW:W64≤f*W64+s:=by
  have:1*W64≤f*W64:=Nat.mul_le_mul_right _ (by omega)
  omega
 unfold guessOf
 by_cases hc:f≤h
 ·rw [if_pos hc]
  refine ⟨by omega,?_,by omega⟩
  have hV1:val W64 vs=f*W64^(m+1)+(val W64 (vs.take m)+W64^m*s):=by
   rw [hV]
   generalize W64^(m+1)=P
   rw [Nat.mul_comm f P];omega
  refine guess_top (v1:=f) (vl:=val W64 (vs.take m)+W64^m*s) (ul:=0) (M:=W64^(m+1)) (B:=W64) ?_ hV1 ?_ (by omega) (Nat.le_refl _)
  ·have:f*W64*W64^(m+1)≤W64^(m+2)*h:=by
    have e:W64^(m+2)*h=h*(W64*W64^(m+1)):=by rw [Nat.pow_succ W64 (m+1),Nat.mul_comm,Nat.mul_comm (W64^(m+1))]
    rw [e,Nat.mul_assoc]
    exact Nat.mul_le_mul_right _ hc
   omega
  ·have:W64^m*(s+1)≤W64^m*W64:=Nat.mul_le_mul_left _ l4
   rw [Nat.mul_add,Nat.mul_one,← Nat.pow_succ] at this
   have e:m.succ=m+1:=rfl
   rw [e] at this
   omega
 ·rw [if_neg hc]
  have hp2:0<f*W64+s:=by omega
  have hle:=Nat.div_mul_le_self ((h*W64+mid)*W64+low) (f*W64+s)
  have htW:((h*W64+mid)*W64+low)/(f*W64+s)<W64:=by
   rw [Nat.div_lt_iff_lt_mul hp2]
   have a1:(h*W64+mid+1)*W64≤(f*W64)*W64:=Nat.mul_le_mul_right _ (by
    have:(h+1)*W64≤f*W64:=Nat.mul_le_mul_right _ (by omega)
    rw [Nat.add_mul,Nat.one_mul] at this
    omega)
   rw [Nat.add_mul,Nat.one_mul] at a1
   have a2:W64*(f*W64+s)=f*W64*W64+W64*s:=by rw [Nat.mul_add,Nat.mul_comm W64 (f*W64)]
   omega
  refine ⟨?_,?_,htW⟩
  ·exact guess_ge (u2:=(h*W64+mid)*W64+low) (v1:=f*W64+s) U3 V2 hul hp2
  ·exact guess_le U3 V2 hvl hle (by omega) hfW
theorem put_put {ys zs ws:List Nat} {o:Nat} (h:o+zs.length≤ys.length) (hl:ws.length=zs.length):put (put ys o zs) o ws=put ys o ws:=by
 unfold put
 rw [List.take_append_of_le_length (by simp;omega),List.take_take,Nat.min_self,hl]
 congr 2
 rw [← List.append_assoc,List.drop_append_of_le_length (by simp;omega),List.drop_of_length_le (by simp;omega)]
 rfl
theorem put_window {ys zs:List Nat} {o:Nat} (h:o+zs.length≤ys.length):((put ys o zs).drop o).take zs.length=zs:=by
 unfold put
 rw [List.drop_append_of_le_length (by simp;omega),List.drop_of_length_le (by simp;omega),List.nil_append,List.take_append_of_le_length (Nat.le_refl _),List.take_of_length_le (Nat.le_refl _)]
theorem window_get {ys:List Nat} {o k n:Nat} (hk:k<n):((ys.drop o).take n)[k]?=ys[o+k]?:=by
 rw [List.getElem?_take,if_pos hk,List.getElem?_drop]
theorem only_drew {w w' : World} {g:Nat} (h:w.grownBy w' (some g)):w.grownBy w'.drew (some g):=⟨h.os,h.tape,h.output,h.size,h.block⟩
set_option maxHeartbeats 4000000 in
theorem takeOut_any (g o n cP:Nat) (t:TypeId) (ys:List Nat) (A:Option Addr) (c:Nat) (vs:List Nat) (w:World) (hb:Blk w g t ys) (hys:Dig W64 ys) (hn:2≤n) (hn2:n≤2199023255552) (hwin:o+n+1≤ys.length) (hcP:n+1≤cP)
 (hm63:cP≤9223372036854775807) (h:Rd w A n c vs) (hd:Dig W64 vs) (ha:Away A n g) (f:Nat) (hf:vs[n-1]?=some f) (hfb:9223372036854775808≤f) (hlt:val W64 ((ys.drop o).take (n+1))<val W64 vs*W64) :
 Calls Tryz.prog 225 #[.slice (some ⟨g,o,none⟩) (n+1) cP,.slice A n c] w fun e w' =>
  Hid (∃ zs:List Nat,e = .returned (.int .u64 ((val W64 ((ys.drop o).take (n+1))/val W64 vs:Nat):Int))∧zs.length=n+1∧Dig W64 zs∧val W64 zs=val W64 ((ys.drop o).take (n+1))%val W64 vs∧zs[n]?=some 0∧Blk w' g t (put ys o zs)∧w.grownBy w' (some g)):=by
 have hW:=W64_eq
 obtain ⟨U,hU⟩:∃ U,U=val W64 ((ys.drop o).take (n+1)):=⟨_,rfl⟩
 obtain ⟨V,hV⟩:∃ V,V=val W64 vs:=⟨_,rfl⟩
 have hwl:((ys.drop o).take (n+1)).length=n+1:=by simp;omega
 obtain ⟨y0,hy0⟩:∃ y,ys[o+n]?=some y:=⟨_,List.getElem?_eq_getElem (by omega)⟩
 obtain ⟨y1,hy1⟩:∃ y,ys[o+(n-1)]?=some y:=⟨_,List.getElem?_eq_getElem (by omega)⟩
 obtain ⟨y2,hy2⟩:∃ y,ys[o+(n-2)]?=some y:=⟨_,List.getElem?_eq_getElem (by omega)⟩
 obtain ⟨ad,f',hA,hal,hf',hcf⟩:=h.at_ (k:=n-1) (by omega)
 obtain ⟨ad',s,hA',_,hs',hcs⟩:=h.at_ (k:=n-2) (by omega)
 rw [hA] at hA'
 injection hA' with hA'
 subst hA'
 subst hA
 rw [hf] at hf'
 injection hf' with hf'
 subst hf'
 have hg:=guess_ok hn hwl h.len ((hys.drop o).take _) hd (by rw [window_get (by omega)];exact hy0) (by rw [window_get (by omega)];exact hy1) (by rw [window_get (by omega)];exact hy2) hf hs' hfb hlt
 rw [← hU,← hV] at hg
 have l1:=hys.at_ hy1
 have l2:=hys.at_ hy2
 have l3:=hd.at_ hf
 have l4:=hd.at_ hs'
 obtain ⟨q,hq⟩:∃ q,q=guessOf y0 y1 y2 f s:=⟨_,rfl⟩
 have cg:=Lib.hid (fun w=>guess_any y0 y1 y2 f s w l1 l2 l3 l4)
 rw [← hq] at hg cg
 obtain ⟨g1,g2,g3⟩:=hg
 have hVp:0<V:=by
  have hl:=h.len
  have:vs≠[]:=by rintro rfl;simp at hf
  rcases Nat.eq_zero_or_pos V with e|e
  ·rw [hV.symm.trans e,Nat.zero_mul] at hlt
   omega
  ·exact e
 have hVT:V≤W64^n:=by
  have:=val_lt hd
  rw [h.len,← hV] at this
  omega
 have hUs:U=val W64 ((ys.drop o).take n)+W64^n*y0:=by
  have hk:n<(ys.drop o).length:=by simp;omega
  rw [hU,val_take_succ _ _ _ hk]
  have:(ys.drop o)[n]=y0:=by
   have:=window_get (ys:=ys) (o:=o) (k:=n) (n:=n+1) (by omega)
   rw [hy0,List.getElem?_take,if_pos (by omega),List.getElem?_eq_getElem hk] at this
   injection this
  rw [this]
 have hcy0:w.cell? ⟨g,o+n,none⟩=some (.int .u64 (y0:Int)):=hb.cell hy0
 have hcy1:w.cell? ⟨g,o+(n-1),none⟩=some (.int .u64 (y1:Int)):=hb.cell hy1
 have hcy2:w.cell? ⟨g,o+(n-2),none⟩=some (.int .u64 (y2:Int)):=hb.cell hy2
 have hnc:n≤c:=h.cap
 have hcm:c≤9223372036854775807:=h.2.2.1
 have hn1:n≠0:=by omega
 have HF:=Lib.hid (And.intro hys (And.intro h (And.intro hd (And.intro ha (And.intro hb (And.intro hU (And.intro hV (And.intro g1 (And.intro g2 (And.intro g3 (And.intro hVp (And.intro hVT (And.intro hUs hy0)))))))))))))
 rw [← hU,← hV]
 clear hlt hU hV hwl hy0 hy1 hy2 hf hs' l1 l2 l3 l4 hq g1 g2 g3 hVp hVT hUs hys h hd ha hb hW hfb
 go_enter Tryz.func225,Tryz.ntmps225
 go_wp2
 go_quiet ((go_at_call 247;exact Calls.quiet_of (cg.out _)))
 have hcy0' : (w.drewN nq).cell? ⟨g,o+n,none⟩=some (.int .u64 (y0:Int)):=hcy0
 have HB:=Lib.hid (show Blk (w.drewN nq) g t ys∧Rd (w.drewN nq) (some ad) n c vs∧w.grownBy (w.drewN nq) (some g) from ⟨HF.out.2.2.2.2.1,HF.out.2.1,⟨rfl,rfl,rfl,Nat.le_refl _,fun _ _ _=>rfl⟩⟩)
 generalize w.drewN nq=w2 at *
 have ct:=Lib.hid (fun W hB hR=>takeMultiple_any g o n cP t ys (some ad) n c vs q W hB HF.out.1 (by omega) (Nat.le_refl _) (by omega) hm63 hR HF.out.2.2.1 HF.out.2.2.2.1 HF.out.2.2.2.2.2.2.2.2.2.1)
 clear hcy0 hcy1 hcy2 hcs hcf cg
 have hle:n≤n+1:=by omega
 go_wp2
 go_region_with ((go_at_call 241;refine (ct.out _ ?_ ?_).mono ?_;exact HB.out.1;exact HB.out.2.1;rintro e w3 ⟨zs,bor,rfl,hz⟩;have hcy3:w3.cell? ⟨g,o+n,none⟩=some (.int .u64 (y0:Int)):=hz.2.2.2.2.1.cell (by rw [put_get (by rw [hz.1];exact Nat.le_refl _) (by omega)];exact HF.out.2.2.2.2.2.2.2.2.2.2.2.2.2);have HZ:=Lib.hid hz;clear hz))
 all_goals
  obtain ⟨hys,h,hd,ha,hb,hU,hV,g1,g2,g3,hVp,hVT,hUs,hy0⟩:=HF.out
  obtain ⟨hz1,hz2,hz3,hz4,hz5,hz6⟩:=HZ.out
  have hxT:=val_lt hz2
  rw [hz1] at hxT
  have htk:=take_ok (u:=U) (v:=V) (h:=y0) (t:=q) (bor:=bor) hUs (by rw [hV];exact hz4) hxT hVT g1 g2 hVp
  have hg3:w.grownBy w3 (some g):=by first|exact only_trans HB.out.2.2 hz6|exact only_trans (only_drew HB.out.2.2) hz6
  have hpl:(put ys o zs).length=ys.length:=put_length (by omega)
  by_cases hbr:y0<bor
  ·have hbr' : (y0:Int)<bor:=by omega
   obtain ⟨k1,k2⟩:=htk.2 hbr
   have ca:=addMultiple_any g o n cP t (put ys o zs) (some ad) n c vs 1 w3 hz5 (put_dig hys hz2) (by rw [hpl];omega) (Nat.le_refl _) (by omega) hm63 (h.only ha hg3) hd ha W64_one
   simp only [Int.natCast_one] at ca
   have CA:=Lib.hid ca
   have hq0:1≤q:=by rw [k1];exact Nat.le_add_left 1 _
   have hq1:(1:Int)≤q:=by omega
   have hqW:(q:Int)≤18446744073709551615:=by have:=W64_eq;omega
   have HK:=Lib.hid (And.intro k1 (And.intro k2 (And.intro hg3 (And.intro hpl (And.intro hz1 hz2)))))
   clear htk k1 k2 ca hbr g1 g2 g3 hVp hVT hUs hU hV hys h hd ha hb hz1 hz2 hz3 hz4 hz5 hz6 hxT hg3 hpl hcy3 HZ hcy0' hq0
   go_wp2_with fail
   refine CA.out.mono ?_
   rintro e w4 ⟨zs2,cy,rfl,q1,q2,q3,q4,q5,q6⟩
   obtain ⟨k1,k2,hg3,hpl,hz1,hz2⟩:=HK.out
   rw [put_put (by omega) (by omega)] at q5
   obtain ⟨z,hcz⟩:∃ z:Int,w4.cell? ⟨g,o+n,none⟩=some (.int .u64 z):=⟨_,q5.cell_get (by rw [put_length (by omega)];omega)⟩
   have hfz:=q5.frozen (o+n)
   have HQ:=Lib.hid (And.intro q1 (And.intro q2 (And.intro q3 (And.intro q4 (And.intro q5 q6)))))
   clear q1 q2 q3 q4 q5 q6 k1 k2 hg3 hpl hz1 hz2
   go_wp2
   go_ret
   obtain ⟨k1,k2,hg3,hpl,hz1,hz2⟩:=HK.out
   obtain ⟨q1,q2,q3,q4,q5,q6⟩:=HQ.out
   have hwin2:=put_window (ys:=ys) (zs:=zs) (o:=o) (by omega)
   rw [hz1] at hwin2
   rw [hwin2,Nat.one_mul,← HF.out.2.2.2.2.2.2.1] at q4
   have hzv:=val_lt q2
   rw [q1] at hzv
   have hmod:val W64 zs2=U%V:=by
    have hm:U%V<V:=Nat.mod_lt _ HF.out.2.2.2.2.2.2.2.2.2.2.1
    have hVT:=HF.out.2.2.2.2.2.2.2.2.2.2.2.1
    rw [← k2] at q4
    rcases Nat.lt_or_ge cy 1 with e|e
    ·have:cy=0:=by omega
     subst this
     omega
    ·have:W64^n*1≤W64^n*cy:=Nat.mul_le_mul_left _ e
     rcases Nat.lt_or_ge cy 2 with e2|e2
     ·have:cy=1:=by omega
      subst this
      omega
     ·have:W64^n*2≤W64^n*cy:=Nat.mul_le_mul_left _ e2
      omega
   have P1:(q:Int)-1=((U/V:Nat):Int):=by omega
   have P2:(zs2 ++ [0]).length=n+1:=by simp [q1]
   have P3:Dig W64 (zs2 ++ [0]):=q2.app (Dig.cons W64_pos (Dig.nil _))
   have P4:val W64 (zs2 ++ [0])=U%V:=by rw [val_snoc,hmod];simp
   have P5:(zs2 ++ [0])[n]?=some 0:=by rw [List.getElem?_append_right (by omega)];simp [q1]
   have P6:Blk (w4.setCell ⟨g,o+n,none⟩ (.int .u64 0)) g t (put ys o (zs2 ++ [0])):=by rw [← put_set q1 (by omega)];exact q5.set_ _ 0
   have P7:=only_trans (only_trans hg3 q6) (only_set w4 g (o+n) (.int .u64 0))
   first
    | exact ⟨zs2 ++ [0],ret_int P1,P2,P3,P4,P5,P6,P7⟩
    | exact ⟨ret_int P1,zs2 ++ [0],P2,P3,P4,P5,P6,P7⟩
  ·have hbr' : ¬ (y0:Int)<bor:=by omega
   obtain ⟨k1,k2,k3⟩:=htk.1 (by omega)
   obtain ⟨z,hcz⟩:∃ z:Int,w3.cell? ⟨g,o+n,none⟩=some (.int .u64 z):=⟨_,hz5.cell_get (by rw [hpl];omega)⟩
   have hfz:=hz5.frozen (o+n)
   have HK:=Lib.hid (And.intro k1 (And.intro k2 hg3))
   clear htk k1 k2 k3 hbr g1 g2 g3 hVp hVT hUs hU hV hys h hd ha hb hz1 hz2 hz3 hz4 hz5 hz6 hxT hg3 hpl hcy3 hcy0'
   go_wp2
   go_ret
   obtain ⟨hz1,hz2,hz3,hz4,hz5,hz6⟩:=HZ.out
   have P1:(q:Int)=((U/V:Nat):Int):=by rw [HK.out.1]
   have P2:(zs ++ [0]).length=n+1:=by simp [hz1]
   have P3:Dig W64 (zs ++ [0]):=hz2.app (Dig.cons W64_pos (Dig.nil _))
   have P4:val W64 (zs ++ [0])=U%V:=by rw [val_snoc,HK.out.2.1];simp
   have P5:(zs ++ [0])[n]?=some 0:=by rw [List.getElem?_append_right (by omega)];simp [hz1]
   have P6:Blk (w3.setCell ⟨g,o+n,none⟩ (.int .u64 0)) g t (put ys o (zs ++ [0])):=by rw [← put_set hz1 (by omega)];exact hz5.set_ _ 0
   have P7:=only_trans HK.out.2.2 (only_set w3 g (o+n) (.int .u64 0))
   first
    | exact ⟨zs ++ [0],ret_int P1,P2,P3,P4,P5,P6,P7⟩
    | exact ⟨ret_int P1,zs ++ [0],P2,P3,P4,P5,P6,P7⟩
end Go.Proofs.YtbhcckhbbclemaaGreatDoor
