/- Parts of the proof, joined. -/
import Derived.Test.YtbkfbobdmojgnaaGreatDoorJ0
import Derived.OwnWalk
import Derived.Lib.ParseIntB
import Derived.Lib.ItoaNum
import Derived.Deep.Quiet
import Derived.Below
import Derived.Lib.Hide
set_option linter.unusedSimpArgs false
set_option linter.unusedVariables false
namespace Go.Proofs.YtbkfbobdmojgnaaGreatDoor
open Go.RowKit Pl
def SubInv (xs ys zs:List Nat) (k bw:Nat):Prop :=
 bw≤1∧Dig W64 zs∧zs.length=xs.length∧val W64 (zs.take k)+val W64 (ys.take k)=val W64 (xs.take k)+W64^k*bw
theorem SubInv.step {xs ys zs:List Nat} {k bw x y:Nat} (h:SubInv xs ys zs k bw) (hx:xs[k]?=some x) (hy:ys.getD k 0=y) (hdx:Dig W64 xs) (hdy:Dig W64 ys) :
 SubInv xs ys (zs.set k ((x+W64-y-bw)%W64)) (k+1) (if x<y+bw then 1 else 0):=by
 obtain ⟨h1,h2,h3,h4⟩:=h
 obtain ⟨hk,ex⟩:=List.getElem?_eq_some_iff.1 hx
 have bx:=hdx.at_ hx
 have by' : y<W64:=by rw [← hy];exact hdy.get0 W64_pos k
 have hr:(x+W64-y-bw)%W64<W64:=Nat.mod_lt _ W64_pos
 have hdm:(x+W64-y-bw)%W64+y+bw=x+W64*(if x<y+bw then 1 else 0):=by
  have:=W64_eq
  rw [this] at bx by' ⊢
  split <;> omega
 refine ⟨by split <;> omega,h2.set hr,by simp [h3],?_⟩
 have e1:val W64 ((zs.set k ((x+W64-y-bw)%W64)).take (k+1))=val W64 (zs.take k)+W64^k*((x+W64-y-bw)%W64):=by
  rw [val_take_succ _ _ _ (by simp;omega),List.take_set_of_le (Nat.le_refl _)]
  simp
 have e2:val W64 (ys.take (k+1))=val W64 (ys.take k)+W64^k*y:=by
  rcases Nat.lt_or_ge k ys.length with hl|hl
  ·rw [val_take_succ _ _ _ hl]
   simp [List.getD,List.getElem?_eq_getElem hl] at hy
   rw [hy]
  ·rw [List.take_of_length_le (by omega),List.take_of_length_le hl]
   simp [List.getD,List.getElem?_eq_none hl] at hy
   rw [← hy];simp
 rw [e1,e2,val_take_succ _ _ _ hk,ex,Nat.pow_succ]
 generalize (if x<y+bw then 1 else 0)=q at *
 generalize (x+W64-y-bw)%W64=r at *
 generalize W64^k=P at *
 generalize W64=V at *
 grind
theorem SubInv.start {xs ys:List Nat}:SubInv xs ys (List.replicate xs.length 0) 0 0 :=
 ⟨by omega,Dig.replicate W64_pos _,by simp,by simp [val]⟩
theorem SubInv.finish {xs ys zs:List Nat} {bw:Nat} (h:SubInv xs ys zs xs.length bw) (hl:ys.length≤xs.length) (hge:val W64 ys≤val W64 xs) (hd:Dig W64 xs) :
 Dig W64 zs∧val W64 zs=val W64 xs-val W64 ys:=by
 obtain ⟨h1,h2,h3,h4⟩:=h
 refine ⟨h2,?_⟩
 rw [List.take_of_length_le (l:=xs) (Nat.le_refl _),List.take_of_length_le (l:=ys) hl,List.take_of_length_le (l:=zs) (by omega)] at h4
 have hz:=val_lt h2
 have hx:=val_lt hd
 rw [h3] at hz
 have:bw=0:=by
  rcases Nat.eq_zero_or_pos bw with e|e
  ·exact e
  ·have:bw=1:=by omega
   subst this
   omega
 subst this
 omega
set_option maxHeartbeats 1000000 in
theorem minus_any (A:Option Addr) (n c:Nat) (xs:List Nat) (A' : Option Addr) (n' c' : Nat) (ys:List Nat) (w:World) (h:Rd w A n c xs) (h' : Rd w A' n' c' ys)
 (hd:Dig W64 xs) (hd' : Dig W64 ys) (hn:n≤2199023255552) (hle' : n'≤n) (hge:val W64 ys≤val W64 xs) :
 Calls Tryz.prog 242 #[.slice A n c,.slice A' n' c'] w (GivesNt w (val W64 xs-val W64 ys)):=by
 have HX:=Lib.hid (And.intro h hd)
 have HY:=Lib.hid (And.intro h' (And.intro hd' hge))
 have hnc:n≤c:=h.cap
 have hcm:c≤9223372036854775807:=h.2.2.1
 have hnc' : n'≤c':=h'.cap
 have hcm' : c'≤9223372036854775807:=h'.2.2.1
 obtain ⟨i0,hi,hz0,hz1,hz2⟩:=info_parts info_word
 have HI:=Lib.hid (And.intro hi (And.intro hz0 (And.intro hz1 hz2)))
 clear h h' hd hd' hi hz0 hz1 hz2 hge
 go_enter Tryz.func242,Tryz.ntmps242
 go_wp2_with (at_make;refine wpList_make_full _ rfl _ _ 160 rfl w.heap.size 193 i0 (.int .u64 0) 1 Tryz.underlying160 HI.out.1 HI.out.2.1 HI.out.2.2.1 _ _ _ _ n rfl rfl ?b0 ?b1 ?b2 ?b3 (Nat.le_refl _) ?_)
 case b0=>rfl
 case b1=>rfl
 case b2=>rw [HI.out.2.2.2];omega
 case b3=>show n≤9223372036854775807;omega
 intro w1 hown hg1
 have hb1:Below w.heap.size w w1:=(Below.refl _ _).grown hg1 (Nat.le_refl _) (fun k h=>by cases h)
 have hblk:=blk_of_made hown
 have e0:SubInv xs ys (List.replicate n 0) 0 0:=by
  have:=SubInv.start (xs:=xs) (ys:=ys)
  rwa [HX.out.1.len] at this
 have HB:=Lib.hid hblk
 have H0:=Lib.hid e0
 clear hown hg1 hblk e0
 obtain ⟨g,hg⟩:∃ g,g=w.heap.size:=⟨_,rfl⟩
 rw [← hg] at HB ⊢
 have HG:=Lib.hid hg
 clear hg
 go_wp2
 go_loopw [6,15] (fun cy i wr => ∃ (k cv:Nat) (zs:List Nat),k≤n'∧i = .int .i64 (k:Int)∧cy = .int .u64 (cv:Int)∧SubInv xs ys zs k cv∧Blk wr g 193 zs∧Below w.heap.size w wr) (fun _ i _=>n'-(intOf i).toNat)
 case atStart=>exact ⟨0,0,_,Nat.zero_le _,rfl,rfl,H0.out,HB.out,hb1⟩
 case round =>
  obtain ⟨k,cv,zs,hk,rfl,rfl,hinv,hblk,hb⟩:=hrel
  have hcv:cv≤1:=hinv.1
  have hzn:zs.length=n:=by rw [hinv.2.2.1,HX.out.1.len]
  have HV:=Lib.hid hinv
  by_cases hlt:k<n'
  ·obtain ⟨ad,x,hA,_,hx,hcx⟩:=(HX.out.1.below hb).at_ (k:=k) (by omega)
   obtain ⟨ad',y,hA',_,hy,hcy⟩:=(HY.out.1.below hb).at_ (k:=k) (by omega)
   subst hA
   subst hA'
   obtain ⟨z,hcz⟩:∃ z:Int,wr.cell? ⟨g,k,none⟩=some (.int .u64 z):=⟨_,hblk.cell_get (by omega)⟩
   have hfz:=hblk.frozen k
   have hsub:=fun w=>run_sub64' x y cv hcv w
   have HE:=Lib.hid (And.intro hx (And.intro hy hblk))
   obtain ⟨q,hq⟩:∃ q:Nat,q=if x<y+cv then 1 else 0:=⟨_,rfl⟩
   rw [← hq] at hsub
   have HQ:=Lib.hid hq
   clear hx hy hinv hblk hzn hq
   go_wp2
   go_roundw
   case rel=>exact ⟨k+1,q,zs.set k ((x+W64-y-cv)%W64),by omega,by go_num,rfl,by rw [HQ.out];exact HV.out.step HE.out.1 (by rw [List.getD,HE.out.2.1];rfl) HX.out.2 HY.out.2.1,HE.out.2.2.set_ _ _,hb.setCell (by rw [HG.out];exact Nat.le_refl _) _⟩
   case measure=>simp [intOf];omega
  ·obtain rfl:k=n':=by omega
   have HBl:=Lib.hid hblk
   clear hinv hblk hlt hzn
   go_wp2
   go_loopw [6,9] (fun cy i wr => ∃ (m cv:Nat) (zs:List Nat),m≤n∧k≤m∧i = .int .i64 (m:Int)∧cy = .int .u64 (cv:Int)∧SubInv xs ys zs m cv∧Blk wr g 193 zs∧Below w.heap.size w wr) (fun _ i _=>n-(intOf i).toNat)
   case atStart=>exact ⟨k,cv,zs,by omega,by omega,rfl,rfl,HV.out,HBl.out,hb⟩
   case round =>
    clear hb hcv
    obtain ⟨m,cv,zs,hm,hkm,rfl,rfl,hinv,hblk,hb⟩:=hrel
    have hcv:cv≤1:=hinv.1
    have hzn:zs.length=n:=by rw [hinv.2.2.1,HX.out.1.len]
    have HV:=Lib.hid hinv
    by_cases hlt:m<n
    ·obtain ⟨z,hcz⟩:∃ z:Int,wr.cell? ⟨g,m,none⟩=some (.int .u64 z):=⟨_,hblk.cell_get (by omega)⟩
     have hfz:=hblk.frozen m
     obtain ⟨ad,x,hA,_,hx,hcx⟩:=(HX.out.1.below hb).at_ (k:=m) (by omega)
     subst hA
     have hsub:=fun w=>run_sub64' x 0 cv hcv w
     simp only [Int.natCast_zero] at hsub
     have HE:=Lib.hid (And.intro hx hblk)
     obtain ⟨q,hq⟩:∃ q:Nat,q=if x<0+cv then 1 else 0:=⟨_,rfl⟩
     rw [← hq] at hsub
     have HQ:=Lib.hid hq
     clear hx hinv hblk hzn hq
     go_wp2
     go_roundw
     case rel=>exact ⟨m+1,q,zs.set m ((x+W64-0-cv)%W64),by omega,by omega,by go_num,rfl,by rw [HQ.out];exact HV.out.step HE.out.1 (by rw [List.getD,List.getElem?_eq_none (by rw [HY.out.1.len];omega)];rfl) HX.out.2 HY.out.2.1,HE.out.2.set_ _ _,hb.setCell (by rw [HG.out];exact Nat.le_refl _) _⟩
     case measure=>simp [intOf];omega
    ·obtain rfl:m=n:=by omega
     have hfin:=HV.out
     rw [← HX.out.1.len] at hfin
     have hfin2:=hfin.finish (by rw [HY.out.1.len,HX.out.1.len];omega) HY.out.2.2 HX.out.2
     have hrd:=hblk.rd (by rw [hzn];show m≤9223372036854775807;omega)
     rw [hzn] at hrd
     have HF:=Lib.hid (And.intro hfin2 hrd)
     clear hfin hfin2 hzn hrd hinv hblk hlt
     go_wp2_with (go_at_call 203;refine (trimmed_any _ _ _ zs _ HF.out.2 HF.out.1.1).mono ?_;rintro e w' ⟨⟨v,rfl,hv⟩,rfl⟩)
     go_ret
     exact ⟨v,rfl,by rw [← HF.out.1.2];exact hv,hb⟩
def B9:Nat:=1000000000
theorem B9_eq:B9=1000000000:=rfl
theorem B9_one:1<B9:=by unfold B9;omega
theorem B9_pos:0<B9:=by unfold B9;omega
def cellI (n:Nat):Value := .int .i64 (n:Int)
def Ri (w:World) (A:Option Addr) (n c:Nat) (xs:List Nat):Prop :=
 xs.length=n∧n≤c∧c≤maxLen∧(0<n→∃ ad,A=some ad∧ad.block<w.heap.size∧∀ (j x:Nat),xs[j]?=some x→w.cell? (ad.add j)=some (.int .i64 (x:Int)))
section
variable {w w' : World} {A:Option Addr} {n c:Nat} {xs:List Nat}
theorem Ri.len (h:Ri w A n c xs):xs.length=n:=h.1
theorem Ri.cap (h:Ri w A n c xs):n≤c:=h.2.1
theorem Ri.at_ (h:Ri w A n c xs) {k:Nat} (hk:k<n) :
 ∃ ad x,A=some ad∧ad.block<w.heap.size∧xs[k]?=some x∧w.cell? (ad.add k)=some (.int .i64 (x:Int)):=by
 obtain ⟨ad,e,hb,hc⟩:=h.2.2.2 (by omega)
 have hl:k<xs.length:=by have:=h.1;omega
 exact ⟨ad,xs[k],e,hb,List.getElem?_eq_getElem hl,hc k _ (List.getElem?_eq_getElem hl)⟩
theorem Ri.below (h:Ri w A n c xs) (hb:Below w.heap.size w w'):Ri w' A n c xs:=by
 refine ⟨h.1,h.2.1,h.2.2.1,fun hn=>?_⟩
 obtain ⟨ad,e,hl,hc⟩:=h.2.2.2 hn
 have:=hb.size
 exact ⟨ad,e,by omega,fun j x hx=>(hb.cell (p:=ad.add j) (by rw [block_add];exact hl)).trans (hc j x hx)⟩
theorem Ri.nil:Ri w none 0 0 []:=⟨rfl,Nat.le_refl _,Nat.zero_le _,fun h=>absurd h (by omega)⟩
theorem Ri.take (h:Ri w A n c xs) {k:Nat} (hk:k≤n):Ri w A k c (xs.take k):=by
 refine ⟨by rw [List.length_take,h.1];omega,Nat.le_trans hk h.2.1,h.2.2.1,fun hp=>?_⟩
 obtain ⟨ad,e,hl,hc⟩:=h.2.2.2 (by omega)
 refine ⟨ad,e,hl,fun j x hx=>hc j x ?_⟩
 rw [List.getElem?_take] at hx
 split at hx
 ·exact hx
 ·cases hx
end
def Bi (w:World) (g:Nat) (t:TypeId) (ys:List Nat):Prop:=w.heap[g]?=some (.cells (ys.map cellI).toArray t (0,0))
section
variable {w w' : World} {g:Nat} {t:TypeId} {ys:List Nat}
theorem Bi.lt (h:Bi w g t ys):g<w.heap.size:=by
 unfold Bi at h
 rcases Nat.lt_or_ge g w.heap.size with hlt|hge
 ·exact hlt
 ·rw [Array.getElem?_eq_none hge] at h;cases h
theorem Bi.cell (h:Bi w g t ys) {i x:Nat} (hx:ys[i]?=some x):w.cell? ⟨g,i,none⟩=some (.int .i64 (x:Int)):=by
 unfold Bi at h
 simp [World.cell?,h,hx,cellI]
theorem Bi.cell_get (h:Bi w g t ys) {i:Nat} (hi:i<ys.length):w.cell? ⟨g,i,none⟩=some (.int .i64 ((ys[i]:Nat):Int)):=h.cell (List.getElem?_eq_getElem hi)
theorem Bi.frozen (h:Bi w g t ys) (i:Nat):w.frozen? ⟨g,i,none⟩=false:=by
 unfold Bi at h
 simp [World.frozen?,h]
theorem Bi.set_ (h:Bi w g t ys) (i x:Nat):Bi (w.setCell ⟨g,i,none⟩ (.int .i64 (x:Int))) g t (ys.set i x):=by
 unfold Bi at h ⊢
 simp only [World.setCell,Array.getElem?_modify,h]
 simp [List.map_set,cellI]
theorem Bi.drew (h:Bi w g t ys):Bi w.drew g t ys:=h
theorem Bi.drewN (h:Bi w g t ys) (k:Nat):Bi (w.drewN k) g t ys:=h
theorem Bi.alloc (h:Bi w g t ys) (o:Obj):Bi (w.alloc o) g t ys:=(Below.heap_alloc w o g h.lt).trans h
theorem Bi.far (h:Bi w g t ys) {p:Addr} (hp:g≠p.block) (u:Value):Bi (w.setCell p u) g t ys:=(Below.heap_setCell w p u g hp).trans h
theorem Bi.below {B:Nat} (h:Bi w g t ys) (hb:Below B w w') (hg:g<B):Bi w' g t ys:=(hb.block g hg).trans h
theorem Bi.rd (h:Bi w g t ys) (hm:ys.length≤maxLen):Ri w (some ⟨g,0,none⟩) ys.length ys.length ys:=by
 refine ⟨rfl,Nat.le_refl _,hm,fun _=>⟨_,rfl,h.lt,fun j x hx=>?_⟩⟩
 have:(⟨g,0,none⟩:Addr).add j=⟨g,j,none⟩:=by unfold Addr.add;split <;> simp_all
 rw [this]
 exact h.cell hx
theorem Bi.of_own {base e n:Nat} {xs:List Value} (h:w.ownsRow base e 1 (.slice (some ⟨g,0,none⟩) n n) n xs) (hx:xs=ys.map cellI):Bi w g e ys:=by
 obtain ⟨h1,h2|⟨g',cap,cur,hv,_,hh,_,_,hs,ht⟩⟩:=h
 ·obtain ⟨hv,_⟩:=h2
  injection hv with hv
  cases hv
 ·injection hv with hv _ hc
  injection hv with hv
  injection hv with hv
  subst hc
  subst hv
  unfold Bi
  rw [hh]
  have:cur.toList=xs:=by
   rw [← ht,List.take_of_length_le]
   simp [hs]
  have e2:cur=(ys.map cellI).toArray:=by rw [← hx,← this]
  rw [e2]
end
def In (w:World) (v:Value) (z:Int):Prop :=
 ∃ A n c xs,v = .agg #[.bool (decide (z<0)),.slice A n c]∧Ri w A n c xs∧Dig B9 xs∧Norm xs∧val B9 xs=z.natAbs
def TrimI (xs:List Nat) (k:Nat):Prop:=k≤xs.length∧Norm (xs.take k)∧val B9 (xs.take k)=val B9 xs
set_option maxHeartbeats 400000 in
theorem trim_raw (A:Option Addr) (n c:Nat) (xs:List Nat) (w:World) (h:Ri w A n c xs) :
 Calls Tryz.prog 192 #[.slice A n c] w fun e w'=>Hid (∃ k,TrimI xs k∧e = .returned (.slice A k c))∧w=w':=by
 have HR:=Lib.hid h
 have hnc:n≤c:=h.cap
 have hcm:c≤9223372036854775807:=h.2.2.1
 clear h
 go_enter Tryz.func192,Tryz.ntmps192
 go_wp2
 go_loop [0] (fun v => ∃ k:Nat,k≤n∧val B9 (xs.take k)=val B9 xs∧v = .slice A k c) (fun v=>lenOf v)
 case atStart=>exact ⟨n,Nat.le_refl _,by rw [List.take_of_length_le (by rw [HR.out.len];omega)],rfl⟩
 case round =>
  obtain ⟨k,hk,hv,rfl⟩:=hrel
  have HV:=Lib.hid hv
  clear hv
  by_cases hk0:0<k
  ·obtain ⟨ad,x,rfl,_hb,hx,hcell⟩:=HR.out.at_ (k:=k-1) (by omega)
   have HX:=Lib.hid hx
   clear hx
   go_wp2
   ·have h0 : x = 0 := by have:((x:Int)==0)=true:=by assumption
                          simpa using this
    subst h0
    refine ⟨⟨k-1,by omega,?_,rfl⟩,by simp only [lenOf];omega⟩
    have hlt:k-1<xs.length:=by rw [HR.out.len];omega
    have hz:xs[k-1]=0:=by have:=HX.out;rw [List.getElem?_eq_getElem hlt] at this;injection this
    have:=val_take_pred B9 hlt hz
    rw [show k-1+1=k from by omega] at this
    rw [← this];exact HV.out
   ·have h0:((x:Int)==0)=false:=by assumption
    go_ret
    refine ⟨⟨k,⟨by rw [HR.out.len];exact hk,norm_take (by rw [HR.out.len];exact hk) (fun _=>?_),HV.out⟩,rfl⟩,rfl⟩
    rw [HX.out]
    intro e
    injection e with e
    subst e
    simp at h0
  ·have hz:decide (0<(k:Int))=false:=by simp;omega
   have hk00:k=0:=by omega
   have HK:=Lib.hid hk00
   clear hk00
   go_wp2
   go_ret
   refine ⟨⟨k,⟨by omega,?_,HV.out⟩,rfl⟩,rfl⟩
   rw [HK.out]
   simpa using Norm.nil
end Go.Proofs.YtbkfbobdmojgnaaGreatDoor
namespace Go.Proofs.YtbkfbobdmojgnaaGreatDoor.Pl
open Go
def AllDig (l:List UInt8):Prop := ∀ c∈l,48≤c.toNat∧c.toNat≤57
def digStep (a:Nat) (c:UInt8):Nat:=a*10+(c.toNat-48)
def natAcc (acc:Nat) (l:List UInt8):Nat:=l.foldl digStep acc
def natOf (l:List UInt8):Nat:=natAcc 0 l
theorem natAcc_nil (acc:Nat):natAcc acc []=acc:=by unfold natAcc;rw [List.foldl_nil]
theorem natAcc_cons (acc:Nat) (c:UInt8) (r:List UInt8):natAcc acc (c::r)=natAcc (acc*10+(c.toNat-48)) r:=by unfold natAcc;rw [List.foldl_cons,digStep]
theorem acc_alg (a d T n:Nat):(a*10+d)*T+n=a*(T*10)+(d*T+n):=by grind
theorem natAcc_eq (l:List UInt8):∀ acc,natAcc acc l=acc*10^l.length+natAcc 0 l:=by
 induction l with
 | nil=>intro acc;rw [natAcc_nil,natAcc_nil,List.length_nil,Nat.pow_zero,Nat.mul_one,Nat.add_zero]
 | cons c r ih =>
   intro acc
   rw [natAcc_cons,natAcc_cons,ih,ih (0*10+(c.toNat-48)),Nat.zero_mul,Nat.zero_add,List.length_cons,Nat.pow_succ]
   exact acc_alg _ _ _ _
theorem natOf_cons (c:UInt8) (r:List UInt8):natOf (c::r)=(c.toNat-48)*10^r.length+natOf r:=by
 unfold natOf
 rw [natAcc_cons,natAcc_eq,Nat.zero_mul,Nat.zero_add]
theorem natOf_append (l r:List UInt8):natOf (l++r)=natOf l*10^r.length+natOf r:=by
 have key:∀ acc,natAcc acc (l++r)=natAcc (natAcc acc l) r:=by
  induction l with
  | nil=>intro acc;rw [natAcc_nil,List.nil_append]
  | cons c l ih=>intro acc;rw [List.cons_append,natAcc_cons,natAcc_cons];exact ih _
 unfold natOf
 rw [key,natAcc_eq r (natAcc 0 l)]
theorem natOf_lt {l:List UInt8} (h:AllDig l):natOf l<10^l.length:=by
 induction l with
 | nil=>rw [natOf,natAcc_nil,List.length_nil,Nat.pow_zero];omega
 | cons c r ih =>
   have hc:=h c (by simp)
   have hr:=ih (fun x hx=>h x (by simp [hx]))
   rw [natOf_cons,List.length_cons,Nat.pow_succ]
   generalize natOf r=n at *
   generalize 10^r.length=T at *
   have:(c.toNat-48)*T≤9*T:=Nat.mul_le_mul_right _ (by omega)
   omega
theorem AllDig.take {l:List UInt8} (h:AllDig l) (n:Nat):AllDig (l.take n):=fun c hc=>h c (List.mem_of_mem_take hc)
theorem AllDig.drop {l:List UInt8} (h:AllDig l) (n:Nat):AllDig (l.drop n):=fun c hc=>h c (List.mem_of_mem_drop hc)
theorem parseUintM_ok:∀ (l:List UInt8) (acc:Nat),AllDig l→(acc+1)*10^l.length≤10000000000000000000→Lib.parseUintM (2^64-1) acc l = .ok (natAcc acc l)
 | [],acc,_,_=>by rw [natAcc_nil];rfl
 | c :: r,acc,h,hb=>by
   have hc:=h c (by simp)
   rw [List.length_cons,Nat.pow_succ] at hb
   have hp:1≤10^r.length:=Nat.one_le_pow _ _ (by omega)
   have h1:(acc+1)*10≤10000000000000000000:=by
    have:(acc+1)*10≤(acc+1)*(10^r.length*10):=Nat.mul_le_mul_left _ (by omega)
    omega
   have h2:(acc*10+(c.toNat-48)+1)*10^r.length≤10000000000000000000:=by
    have:(acc*10+(c.toNat-48)+1)*10^r.length≤(acc+1)*10*10^r.length:=Nat.mul_le_mul_right _ (by omega)
    have e:(acc+1)*10*10^r.length=(acc+1)*(10^r.length*10):=by rw [Nat.mul_assoc,Nat.mul_comm 10]
    omega
   unfold Lib.parseUintM
   rw [if_pos hc,if_neg (by omega),if_neg (by omega),natAcc_cons]
   exact parseUintM_ok r _ (fun x hx=>h x (by simp [hx])) h2
theorem parseUint_ok {l:List UInt8} (h:AllDig l) (h0:l≠[]) (hl:l.length≤19):Lib.parseUintB 64 l = .ok (natOf l):=by
 unfold Lib.parseUintB
 rw [if_neg h0]
 refine parseUintM_ok l 0 h ?_
 have:10^l.length≤10^19:=Nat.pow_le_pow_right (by omega) hl
 omega
theorem natOf_dec (n:Nat):natOf (Lib.decDigits n)=n∧AllDig (Lib.decDigits n)∧Lib.decDigits n≠[]:=by
 induction n using Nat.strongRecOn with
 | ind n ih =>
   rw [Lib.decDigits]
   have hd:∀ d:Nat,d<10→(UInt8.ofNat (48+d)).toNat=48+d:=fun d hd=>by
    rw [UInt8.toNat_ofNat'];omega
   split
   ·rename_i h
    refine ⟨?_,?_,by simp⟩
    ·rw [natOf,natAcc_cons,natAcc_nil,hd n h];omega
    ·intro c hc
     simp only [List.mem_singleton] at hc
     subst hc
     rw [hd n h];omega
   ·rename_i h
    obtain ⟨i1,i2,i3⟩:=ih (n/10) (by omega)
    refine ⟨?_,?_,by simp⟩
    ·rw [natOf_append,i1]
     rw [List.length_singleton,Nat.pow_one,natOf,natAcc_cons,natAcc_nil,hd _ (by omega)];omega
    ·intro c hc
     rcases List.mem_append.1 hc with hc|hc
     ·exact i2 c hc
     ·simp only [List.mem_singleton] at hc
      subst hc
      rw [hd _ (by omega)];omega
theorem head_app {l r:List UInt8} (h:l≠[]):(l++r).head?=l.head?:=by
 cases l with
 | nil=>exact absurd rfl h
 | cons c l=>rfl
theorem dec_small {n:Nat} (h:n<10):Lib.decDigits n = [UInt8.ofNat (48+n)]:=by rw [Lib.decDigits,dif_pos h]
theorem dec_large {n:Nat} (h:¬ n<10):Lib.decDigits n=Lib.decDigits (n/10) ++ [UInt8.ofNat (48+n%10)]:=by rw [Lib.decDigits,dif_neg h]
theorem digit_back {c:UInt8} (h:48≤c.toNat∧c.toNat≤57) {d:Nat} (hd:d=c.toNat-48):UInt8.ofNat (48+d)=c:=by
 apply UInt8.toNat_inj.1
 rw [UInt8.toNat_ofNat']
 omega
theorem natOf_snoc (l:List UInt8) (c:UInt8):natOf (l ++ [c])=natOf l*10+(c.toNat-48):=by
 rw [natOf_append,List.length_singleton,Nat.pow_one,natOf_cons,List.length_nil,Nat.pow_zero,Nat.mul_one,natOf,natOf,natAcc_nil,Nat.add_zero]
theorem natOf_nil:natOf []=0:=natAcc_nil 0
theorem natOf_pos {l:List UInt8} (h:AllDig l) (h0:l≠[]) (hh:l.head?≠some 48):0<natOf l:=by
 match l,h0 with
 | c :: r,_ =>
   rw [natOf_cons]
   have hc:=h c (by simp)
   have hne:c.toNat≠48:=fun e=>hh (by
    rw [List.head?_cons]
    exact congrArg some (UInt8.toNat_inj.1 (by rw [e];rfl)))
   have:1*1≤(c.toNat-48)*10^r.length:=Nat.mul_le_mul (by omega) (Nat.pow_pos (by omega))
   omega
theorem dec_natOf (n:Nat):∀ l:List UInt8,l.length=n→AllDig l→l≠[]→(l.length=1∨l.head?≠some 48)→Lib.decDigits (natOf l)=l:=by
 induction n with
 | zero=>intro l hl _ h0;exact absurd (List.eq_nil_of_length_eq_zero hl) h0
 | succ n ih =>
   intro l hl hd h0 hh
   obtain ⟨r,c,rfl⟩:∃ r c,l=r ++ [c]:=⟨l.dropLast,l.getLast h0,(List.dropLast_concat_getLast h0).symm⟩
   have hc:=hd c (by simp)
   rw [natOf_snoc]
   by_cases hr:r = []
   ·subst hr
    rw [natOf_nil,Nat.zero_mul,Nat.zero_add,dec_small (by omega),digit_back hc rfl,List.nil_append]
   ·have hr1:AllDig r:=fun x hx=>hd x (by simp [hx])
    have hlen:r.length=n:=by simpa using hl
    have hh2:r.head?≠some 48:=by
     rcases hh with hh|hh
     ·rw [List.length_append,List.length_singleton] at hh
      exact absurd (List.eq_nil_of_length_eq_zero (by omega)) hr
     ·rwa [head_app hr] at hh
    have hp:=natOf_pos hr1 hr hh2
    rw [dec_large (by omega),show (natOf r*10+(c.toNat-48))/10=natOf r from by omega,show (natOf r*10+(c.toNat-48))%10=c.toNat-48 from by omega,
     ih r hlen hr1 hr (.inr hh2),digit_back hc rfl]
theorem dec_head {n:Nat} (h:0<n):(Lib.decDigits n).head?≠some 48:=by
 induction n using Nat.strongRecOn with
 | ind n ih =>
   by_cases hn:n<10
   ·rw [dec_small hn,List.head?_cons]
    intro e
    injection e with e
    have:=congrArg UInt8.toNat e
    rw [UInt8.toNat_ofNat'] at this
    have h48:(48:UInt8).toNat=48:=rfl
    omega
   ·rw [dec_large hn,head_app (natOf_dec _).2.2]
    exact ih _ (by omega) (by omega)
theorem dec_length_le (k:Nat):∀ w,w<10^(k+1)→(Lib.decDigits w).length≤k+1:=by
 induction k with
 | zero=>intro w h;rw [dec_small (by omega)];simp
 | succ k ih =>
   intro w h
   by_cases hw:w<10
   ·rw [dec_small hw,List.length_singleton];omega
   ·rw [dec_large hw,List.length_append,List.length_singleton]
    have:=ih (w/10) (by rw [Nat.pow_succ] at h;omega)
    omega
theorem natOf_zeros (k:Nat) (l:List UInt8):natOf (List.replicate k 48++l)=natOf l:=by
 induction k with
 | zero=>simp
 | succ k ih =>
   rw [List.replicate_succ,List.cons_append,natOf_cons,ih]
   have:((48:UInt8).toNat-48)=0:=rfl
   rw [this,Nat.zero_mul,Nat.zero_add]
theorem dec_chunk {q w:Nat} (hq:0<q) (hw:w<10000000000000000000):(Lib.decDigits w).length≤19 ∧
 Lib.decDigits (q*10000000000000000000+w)=Lib.decDigits q++(List.replicate (19-(Lib.decDigits w).length) 48++Lib.decDigits w):=by
 have hl:(Lib.decDigits w).length≤19:=dec_length_le 18 w hw
 obtain ⟨q1,q2,q3⟩:=natOf_dec q
 obtain ⟨w1,w2,w3⟩:=natOf_dec w
 refine ⟨hl,?_⟩
 have hlen:(List.replicate (19-(Lib.decDigits w).length) (48:UInt8)++Lib.decDigits w).length=19:=by rw [List.length_append,List.length_replicate];omega
 have hval:natOf (Lib.decDigits q++(List.replicate (19-(Lib.decDigits w).length) 48++Lib.decDigits w))=q*10000000000000000000+w:=by
  rw [natOf_append,hlen,natOf_zeros,q1,w1]
 rw [← hval]
 refine dec_natOf _ _ rfl ?_ (by simp [q3]) (.inr ?_)
 ·intro c hc
  rcases List.mem_append.1 hc with hc|hc
  ·exact q2 c hc
  ·rcases List.mem_append.1 hc with hc|hc
   ·rw [List.mem_replicate] at hc
    rw [hc.2]
    exact ⟨by decide,by decide⟩
   ·exact w2 c hc
 ·rw [head_app q3]
  exact dec_head hq
theorem dec_length_pow {a k:Nat} (h:a<10^(k+1)):(Lib.decDigits a).length≤k+1:=dec_length_le k a h
end Go.Proofs.YtbkfbobdmojgnaaGreatDoor.Pl
namespace Go.Proofs.YtbkfbobdmojgnaaGreatDoor.Ab
open Go.RowKit
def hotObj (K:Obj→Bool) (o:Obj):Bool:=K o
structure Ext (K:Obj→Bool) (w w' : World):Prop where
 size:w.heap.size≤w'.heap.size
 block:∀ (g:Nat) (o:Obj),w.heap[g]?=some o→hotObj K o=true→w'.heap[g]?=some o
theorem lt_of_block {w:World} {g:Nat} {o:Obj} (h:w.heap[g]?=some o):g<w.heap.size:=by
 rcases Nat.lt_or_ge g w.heap.size with hlt|hge
 ·exact hlt
 ·rw [Array.getElem?_eq_none hge] at h;cases h
theorem Ext.trans {K:Obj→Bool} {a b c:World} (h:Ext K a b) (h' : Ext K b c):Ext K a c:=⟨Nat.le_trans h.size h'.size,fun g o hg ho=>h'.block g o (h.block g o hg ho) ho⟩
theorem Ext.of_below {K:Obj→Bool} {w w' : World} (h:Below w.heap.size w w'):Ext K w w':=⟨h.size,fun g _ hg _=>(h.block g (lt_of_block hg)).trans hg⟩
abbrev Sp:=Value→World→Prop
def Stable (K:Obj→Bool) (S:Sp):Prop := ∀ v w w',S v w→Ext K w w'→S v w'
def StableO (K:Obj→Bool) (S:Obj→World→Prop):Prop := ∀ v w w',S v w→Ext K w w'→S v w'
def Sp.is (u:Value):Sp:=fun v _=>v=u
theorem Sp.is_stable (K:Obj→Bool) (u:Value):Stable K (Sp.is u):=fun _ _ _ h _=>h
inductive Kd where
 | val (S:Sp)
 | new (o:Obj)
 | put (d:Tmp) (S:Obj→World→Prop)
 | old (g:Nat) (S:Obj→World→Prop)
structure Ent where
 dst:Option Tmp
 kd:Kd
def isVar (B:Nat):Sp:=fun v w => ∃ g,v = .pointer (some ⟨g,0,none⟩)∧B≤g∧g<w.heap.size
def Kd.spec (B:Nat):Kd→Sp
 | .val S=>S
 | .new _=>isVar B
 | _=>fun _ _=>True
def specOf (a0:Act) (B:Nat) (t:Tmp):List Ent→Sp
 | []=>fun v _=>v=a0.eval (.tmp t)
 | e::g=>if e.dst=some t then e.kd.spec B else specOf a0 B t g
def known (a0:Act) (B:Nat) (g:List Ent) (A:Act) (w:World):List Tmp→Prop
 | []=>True
 | t::l=>specOf a0 B t g (A.eval (.tmp t)) w∧known a0 B g A w l
theorem known_iff {a0:Act} {B:Nat} {g:List Ent} {A:Act} {w:World} {l:List Tmp}:known a0 B g A w l↔∀ t∈l,specOf a0 B t g (A.eval (.tmp t)) w:=by
 induction l with
 | nil=>simp [known]
 | cons t l ih=>simp [known,ih]
structure Base (T:List Nat) (w0 w:World):Prop where
 os:w.os=w0.os
 tape:w.tape=w0.tape
 output:w.output=w0.output
 size:w0.heap.size≤w.heap.size
 block:∀ k,k<w0.heap.size→k∉T→w.heap[k]?=w0.heap[k]?
theorem Base.below {w0 w:World} (h:Base [] w0 w):Below w0.heap.size w0 w:=⟨h.os,h.tape,h.output,h.size,fun k hk=>h.block k hk (by simp)⟩
theorem Base.step {T:List Nat} {w0 w w' : World} (h:Base T w0 w) (h' : Below w.heap.size w w'):Base T w0 w' :=
 ⟨h'.os.trans h.os,h'.tape.trans h.tape,h'.output.trans h.output,Nat.le_trans h.size h'.size,fun k hk hT=>(h'.block k (Nat.lt_of_lt_of_le hk h.size)).trans (h.block k hk hT)⟩
structure Turned (g:Nat) (o:Obj) (w w' : World):Prop where
 os:w'.os=w.os
 tape:w'.tape=w.tape
 output:w'.output=w.output
 size:w'.heap.size=w.heap.size
 at_:w'.heap[g]?=some o
 block:∀ k,k≠g→w'.heap[k]?=w.heap[k]?
theorem Turned.ext {K:Obj→Bool} {g:Nat} {o o0:Obj} {w w' : World} (h:Turned g o w w') (h0:w.heap[g]?=some o0) (hc:hotObj K o0=false):Ext K w w':=by
 refine ⟨by rw [h.size];exact Nat.le_refl _,fun k o' hk ho=>?_⟩
 by_cases e:k=g
 ·subst e
  rw [h0] at hk
  injection hk with hk
  subst hk
  rw [hc] at ho
  cases ho
 ·rw [h.block k e];exact hk
def TyPost (w:World) (S:Sp) (e:Ending) (w'' : World):Prop := ∃ v,e = .returned v∧Below w.heap.size w w''∧S v w''
def tyUpon (P:Program) (w:World) (S:Sp):Result Next→Prop
 | .ok (.value u) w'=>Below w.heap.size w w'∧S u w'
 | .ok .skip w'=>Below w.heap.size w w'∧S undef w'
 | .ok (.enter f args) w'=>w'=w∧Calls P f args w (TyPost w S)
 | _=>False
def putUpon (g:Nat) (w:World) (S:Obj→World→Prop):Result Next→Prop
 | .ok (.value _) w' => ∃ o,Turned g o w w'∧S o w
 | .ok .skip w' => ∃ o,Turned g o w w'∧S o w
 | _=>False
def putOf (e:Ent):Option Tmp:=match e.dst,e.kd with|none,.put d _=>some d|_,_=>none
def oldOf (e:Ent):Option Nat:=match e.dst,e.kd with|none,.old k _=>some k|_,_=>none
def onceB (G:List Ent):Bool:=decide ((G.filterMap putOf).Nodup)&&decide ((G.filterMap oldOf).Nodup)
structure View (K:Obj→Bool) (T:List Nat) (E:Nat→Nat→Bool) (w0:World) (i:Nat) (w:World):Prop where
 base:Base T w0 w
 ext:Ext K w0 w
 early:∀ (k b:Nat),E i k=true→T[k]?=some b→w.heap[b]?=w0.heap[b]?
def earlyB (md:Region.Mode) (ops:Array Oper) (E:Nat→Nat→Bool) (G:List Ent):Bool :=
 (List.range ops.size).all fun j=>match (G[j]?).bind oldOf with
  | some k=>(List.range ops.size).all fun i => !E i k || i==j || (ops[j]?).any fun o=>o.after.any fun e=>Region.binds md e&&e.on==i
  | none=>true
section
variable (P:Program) (ops:Array Oper) (K:Obj→Bool) (T:List Nat) (E:Nat→Nat→Bool) (w0:World) (a0:Act)
def Oblig (g:List Ent) (o:Oper):Kd→Prop
 | .val S=>Stable K S∧∀ (A:Act) (w:World),View K T E w0 g.length w→known a0 w0.heap.size g A w (o.looksAt ops) →
  (Region.wanted o (yielded ops A.tmps)=true∧tyUpon P w S ((execOp A.eval o).run P w))∨(Region.wanted o (yielded ops A.tmps)=false∧S undef w)
 | .new o0=>hotObj K o0=false∧o.guard=none∧o.dst.isSome=true∧∀ (A:Act) (w:World),(execOp A.eval o).run P w = .ok (.value (.pointer (some ⟨w.heap.size,0,none⟩))) (w.alloc o0)
 | .put d S=>o.dst=none∧o.guard=none∧d∈o.looksAt ops∧StableO K S∧∃ o0,(⟨some d,.new o0⟩:Ent)∈g ∧
  ∀ (A:Act) (w:World) (b:Nat),View K T E w0 g.length w→known a0 w0.heap.size g A w (o.looksAt ops)→A.eval (.tmp d) = .pointer (some ⟨b,0,none⟩)→w.heap[b]?=some o0→putUpon b w S ((execOp A.eval o).run P w)
 | .old k S=>o.dst=none∧o.guard=none∧StableO K S∧∃ b o0,T[k]?=some b∧w0.heap[b]?=some o0∧hotObj K o0=false ∧
  ∀ (A:Act) (w:World),View K T E w0 g.length w→known a0 w0.heap.size g A w (o.looksAt ops)→w.heap[b]?=some o0→putUpon b w S ((execOp A.eval o).run P w)
def frameOf:List Ent→(Tmp→Value)→Act
 | [],_=>a0
 | e::g,f=>match e.dst with
   | some d=>(frameOf g f).put (some d) (f d)
   | none=>frameOf g f
def Final1 (G:List Ent) (f:Tmp→Value) (w:World) (e:Ent):Prop :=
 match e.dst,e.kd with
 | some d,.val S=>S (f d) w
 | some d,.new o0 => ∃ b,f d = .pointer (some ⟨b,0,none⟩)∧w0.heap.size≤b∧b<w.heap.size∧((∀ S,(⟨none,.put d S⟩:Ent)∉G)→w.heap[b]?=some o0)∧(∀ S,(⟨none,.put d S⟩:Ent)∈G→∃ o,S o w∧w.heap[b]?=some o)
 | _,.old k S => ∃ b o,T[k]?=some b∧S o w∧w.heap[b]?=some o
 | _,_=>True
def Still (G:List Ent) (w:World):Prop := ∀ (k b:Nat),T[k]?=some b→(∀ S,(⟨none,.old k S⟩:Ent)∉G)→w.heap[b]?=w0.heap[b]?
def Apart (G:List Ent) (f:Tmp→Value):Prop := ∀ d d' o o',(⟨some d,.new o⟩:Ent)∈G→(⟨some d',.new o'⟩:Ent)∈G→d≠d'→f d≠f d'
def wpTy (Q:Act→World→Prop):List Oper→List Ent→Prop
 | [],g=>onceB g=true∧earlyB .any ops E g.reverse=true∧∀ (f:Tmp→Value) (w:World),Base T w0 w→Ext K w0 w→(∀ e∈g,Final1 T w0 g f w e)→Still T w0 g w→Apart g f→Q (frameOf a0 g f) w
 | o::rest,g => ∃ k,Oblig P ops K T E w0 a0 g o k∧wpTy Q rest (⟨o.dst,k⟩::g)
end
def Region.tyB (md:Region.Mode) (ops:Array Oper) (n:Nat):Bool :=
 Region.noSelect ops&&(List.range ops.size).all fun i=>(ops[i]?).all fun o =>
  (o.after.all fun e => !Region.binds md e || decide (e.on<i)) &&
  (match o.dst with|some d=>decide (d<n)&&(List.range ops.size).all (fun j=>j==i || (ops[j]?).all fun o'=>o'.dst != some d)|none=>true) &&
  (o.looksAt ops).all fun t=>(List.range ops.size).all fun j=>(ops[j]?).all fun o'=>o'.dst != some t || (decide (j<i)&&o.after.any fun e=>Region.binds md e&&e.on==j)
section
variable {P:Program} {ops:Array Oper} {K:Obj→Bool} {T:List Nat} {E:Nat→Nat→Bool} {w0:World} {a0:Act} {md:Region.Mode}
theorem specOf_of {B:Nat} {t:Tmp} {v:Value} {w:World} {g:List Ent} (h1:∀ e∈g,e.dst=some t→e.kd.spec B v w) (h2:(∀ e∈g,e.dst≠some t)→v=a0.eval (.tmp t)):specOf a0 B t g v w:=by
 induction g with
 | nil=>exact h2 (fun _ h=>by cases h)
 | cons e g ih =>
   simp only [specOf]
   split
   ·rename_i he
    exact h1 e (by simp) he
   ·rename_i he
    refine ih (fun e' he'=>h1 e' (by simp [he'])) (fun hn=>h2 (fun e' he'=>?_))
    rcases List.mem_cons.1 he' with rfl|he'
    ·exact he
    ·exact hn e' he'
def lst (listed:Array Bool) (i:Nat):Prop:=listed.getD i true=true
theorem lst_set {listed:Array Bool} {i j:Nat} (hi:i<listed.size):lst (listed.setIfInBounds i true) j↔(j=i∨lst listed j):=by
 unfold lst
 simp only [Array.getD_eq_getD_getElem?,Array.getElem?_setIfInBounds]
 by_cases h:i=j
 ·subst h;simp [hi]
 ·simp only [h,if_false]
  constructor
  ·intro h';exact .inr h'
  ·rintro (rfl|h')
   ·exact absurd rfl h
   ·exact h'
structure Inv (ops:Array Oper) (K:Obj→Bool) (T:List Nat) (w0:World) (a0:Act) (md:Region.Mode) (G:List Ent) (listed:Array Bool) (f:Tmp→Value) (a:Act) (w:World):Prop where
 lsize:listed.size=ops.size
 defers:a.defers=a0.defers
 tsize:a.tmps.size=a0.tmps.size
 hit:∀ (i:Nat) (o:Oper) d,ops[i]?=some o→lst listed i→o.dst=some d→a.eval (.tmp d)=f d
 miss:∀ t,(∀ (i:Nat) (o:Oper),ops[i]?=some o→o.dst≠some t)→a.eval (.tmp t)=a0.eval (.tmp t)
 closed:∀ (i:Nat) (o:Oper),ops[i]?=some o→lst listed i→∀ e∈o.after,Region.binds md e=true→lst listed e.on
 base:Base T w0 w
 ext:Ext K w0 w
 vals:∀ (i:Nat) d S,G[i]?=some ⟨some d,.val S⟩→lst listed i→S (f d) w
 news:∀ (i:Nat) d o0,G[i]?=some ⟨some d,.new o0⟩→lst listed i→∃ b,f d = .pointer (some ⟨b,0,none⟩)∧w0.heap.size≤b∧b<w.heap.size ∧
  ((∀ (j:Nat) S,G[j]?=some ⟨none,.put d S⟩→¬ lst listed j)→w.heap[b]?=some o0)∧(∀ (j:Nat) S,G[j]?=some ⟨none,.put d S⟩→lst listed j→∃ o,S o w∧w.heap[b]?=some o)
 olds:∀ (j k b:Nat) S,G[j]?=some ⟨none,.old k S⟩→T[k]?=some b→lst listed j→∃ o,S o w∧w.heap[b]?=some o
 still:∀ (k b:Nat),T[k]?=some b→(∀ (j:Nat) S,G[j]?=some ⟨none,.old k S⟩→¬ lst listed j)→w.heap[b]?=w0.heap[b]?
 apart:∀ (i i' : Nat) d d' o o',G[i]?=some ⟨some d,.new o⟩→G[i']?=some ⟨some d',.new o'⟩→lst listed i→lst listed i'→d≠d'→f d≠f d'
structure Walked (P:Program) (ops:Array Oper) (K:Obj→Bool) (T:List Nat) (E:Nat→Nat→Bool) (w0:World) (a0:Act) (md:Region.Mode) (G:List Ent):Prop where
 len:G.length=ops.size
 each:∀ (i:Nat) (o:Oper),ops[i]?=some o→∃ k,G[i]?=some ⟨o.dst,k⟩∧Oblig P ops K T E w0 a0 (G.take i).reverse o k
 form:Region.tyB md ops a0.tmps.size=true
 once:onceB G=true
 early:earlyB md ops E G=true
 tnd:T.Nodup
 tlt:∀ b∈T,b<w0.heap.size
theorem tyB_spec {n:Nat} (h:Region.tyB md ops n=true) {i:Nat} {o:Oper} (ho:ops[i]?=some o) :
 (∀ e∈o.after,Region.binds md e=true→e.on<i)∧(∀ d,o.dst=some d→d<n∧∀ (j:Nat) (o' : Oper),ops[j]?=some o'→o'.dst=some d→j=i) ∧
 (∀ t∈o.looksAt ops,∀ (j:Nat) (o' : Oper),ops[j]?=some o'→o'.dst=some t→j<i∧∃ e∈o.after,Region.binds md e=true∧e.on=j):=by
 have lt:∀ {j:Nat} {o' : Oper},ops[j]?=some o'→j<ops.size:=fun h=>by
  rcases Nat.lt_or_ge _ ops.size with h'|h'
  ·exact h'
  ·rw [Array.getElem?_eq_none h'] at h;cases h
 simp only [Region.tyB,Bool.and_eq_true,List.all_eq_true,List.mem_range] at h
 have h2:=h.2 i (lt ho)
 simp only [ho,Option.all_some,Bool.and_eq_true] at h2
 obtain ⟨⟨h3,h4⟩,h5⟩:=h2
 refine ⟨fun e he hb=>?_,fun d hd=>?_,fun t ht j o' hj hdt=>?_⟩
 ·have:=Array.all_eq_true'.1 h3 e he
  simp only [hb,Bool.not_true,Bool.false_or,decide_eq_true_eq] at this
  exact this
 ·rw [hd] at h4
  simp only [Bool.and_eq_true,decide_eq_true_eq,List.all_eq_true,List.mem_range] at h4
  refine ⟨h4.1,fun j o' hj hd'=>?_⟩
  have:=h4.2 j (lt hj)
  simp only [hj,Option.all_some,Bool.or_eq_true,beq_iff_eq,bne_iff_ne] at this
  rcases this with h|h
  ·exact h
  ·exact absurd hd' h
 ·have:=List.all_eq_true.1 h5 t ht
  have:=List.all_eq_true.1 this j (List.mem_range.2 (lt hj))
  simp only [hj,Option.all_some,Bool.or_eq_true,bne_iff_ne,Bool.and_eq_true,decide_eq_true_eq] at this
  rcases this with h|⟨h,h'⟩
  ·exact absurd hdt h
  ·obtain ⟨e,he,hb⟩:=Array.any_eq_true'.1 h'
   simp only [Bool.and_eq_true,beq_iff_eq] at hb
   exact ⟨h,e,he,hb.1,hb.2⟩
end
end Go.Proofs.YtbkfbobdmojgnaaGreatDoor.Ab
