/- Parts of the proof, joined. -/
import Derived.OwnWalk
import Derived.Laws.Externs
import Derived.Shelf.Spec.BitsCarry
import Derived.Test.YtbhcckhbbclemaaGreatDoorJ8
import Derived.Test.YtbhcckhbbclemaaGreatDoorShelf
set_option linter.unusedSimpArgs false
set_option linter.unusedVariables false
namespace Go.Proofs.YtbhcckhbbclemaaGreatDoor
open Go.RowKit Pl
theorem run_add64' (x y c:Nat) (hc:c≤1) (w:World) :
 (callFunc 192 #[.int .u64 (x:Int),.int .u64 (y:Int),.int .u64 (c:Int)]).run Tryz.prog w =
  .ok (.value (.tuple #[.int .u64 (((x+y+c)%W64:Nat):Int),.int .u64 (((x+y+c)/W64:Nat):Int)])) w:=by
 rw [run_callFunc_extern Tryz.func192 (by kernel_rfl) (by kernel_rfl) (by kernel_rfl) (e:=add64Entry) (by kernel_rfl),run_add64 x y c (by omega) (by omega) (by omega) (by omega)]
 simp only [Result.andThen,W64]
 congr 5 <;> omega
theorem run_sub64' (x y b:Nat) (hb:b≤1) (w:World) :
 (callFunc 242 #[.int .u64 (x:Int),.int .u64 (y:Int),.int .u64 (b:Int)]).run Tryz.prog w =
  .ok (.value (.tuple #[.int .u64 (((x+W64-y-b)%W64:Nat):Int),.int .u64 ((if x<y+b then 1 else 0:Nat):Int)])) w:=by
 rw [run_callFunc_extern Tryz.func242 (by kernel_rfl) (by kernel_rfl) (by kernel_rfl) (e:=sub64Entry) (by kernel_rfl),run_sub64 x y b hb]
 rfl
theorem info_word:(Tryz.prog.info? 175).map (fun i=>(i.zero,i.size,i.bytes))=some (some (.int .u64 0),1,8):=by kernel_rfl
theorem blk_of_made {w:World} {g base n:Nat} (h:w.ownsRow base 175 1 (.slice (some ⟨g,0,none⟩) n n) n (madeCells #[Value.int .u64 0] n).toList):Blk w g 175 (List.replicate n 0):=by
 refine Blk.of_own h ?_
 rw [toList_madeCells_one]
 simp [cellU]
def AddInv (xs ys zs:List Nat) (k cy:Nat):Prop :=
 cy≤1∧Dig W64 zs∧zs.length=xs.length+1∧val W64 (zs.take k)+W64^k*cy=val W64 (xs.take k)+val W64 (ys.take k)∧(∀ j,k≤j→j<zs.length→zs[j]?=some 0)
theorem AddInv.step {xs ys zs:List Nat} {k cy x y:Nat} (h:AddInv xs ys zs k cy) (hx:xs[k]?=some x) (hy:ys.getD k 0=y) (hdx:Dig W64 xs) (hdy:Dig W64 ys) :
 AddInv xs ys (zs.set k ((x+y+cy)%W64)) (k+1) ((x+y+cy)/W64):=by
 obtain ⟨h1,h2,h3,h4,h5⟩:=h
 obtain ⟨hk,ex⟩:=List.getElem?_eq_some_iff.1 hx
 have bx:=hdx.at_ hx
 have by' : y<W64:=by rw [← hy];exact hdy.get0 W64_pos k
 have hq:(x+y+cy)/W64≤1:=by
  have:=W64_eq
  rw [this] at bx by' ⊢
  omega
 have hr:(x+y+cy)%W64<W64:=Nat.mod_lt _ W64_pos
 have hdm:=Nat.div_add_mod (x+y+cy) W64
 refine ⟨hq,h2.set hr,by simp [h3],?_,?_⟩
 ·have e1:val W64 ((zs.set k ((x+y+cy)%W64)).take (k+1))=val W64 (zs.take k)+W64^k*((x+y+cy)%W64):=by
   rw [val_take_succ _ _ _ (by simp;omega),List.take_set_of_le (Nat.le_refl _)]
   simp
  have e2:val W64 (ys.take (k+1))=val W64 (ys.take k)+W64^k*y:=by
   rcases Nat.lt_or_ge k ys.length with hl|hl
   ·rw [val_take_succ _ _ _ hl]
    simp [List.getD,List.getElem?_eq_getElem hl] at hy
    rw [hy]
   ·rw [List.take_of_length_le (by omega),List.take_of_length_le hl]
    simp [List.getD,List.getElem?_eq_none hl] at hy
    rw [← hy];simp
  rw [e1,e2,val_take_succ _ _ _ hk,ex,Nat.pow_succ]
  generalize (x+y+cy)/W64=q at *
  generalize (x+y+cy)%W64=r at *
  generalize W64^k=P at *
  generalize W64=V at *
  grind
 ·intro j hj hl
  rw [List.getElem?_set_ne (by omega)]
  exact h5 j (by omega) (by simpa using hl)
theorem AddInv.start {xs ys:List Nat}:AddInv xs ys (List.replicate (xs.length+1) 0) 0 0 :=
 ⟨by omega,Dig.replicate W64_pos _,by simp,by simp [val],by intro j _ h;simp at h;simp [h]⟩
theorem AddInv.finish {xs ys zs:List Nat} {cy:Nat} (h:AddInv xs ys zs xs.length cy) (hl:ys.length≤xs.length) :
 Dig W64 (zs.set xs.length cy)∧val W64 (zs.set xs.length cy)=val W64 xs+val W64 ys:=by
 obtain ⟨h1,h2,h3,h4,h5⟩:=h
 refine ⟨h2.set (by have:=W64_one;omega),?_⟩
 rw [List.take_of_length_le (Nat.le_refl _),List.take_of_length_le (l:=ys) hl] at h4
 rw [← h4,← List.take_of_length_le (l:=zs.set xs.length cy) (i:=xs.length+1) (by simp;omega),val_take_succ _ _ _ (by simp;omega),List.take_set_of_le (Nat.le_refl _)]
 simp
set_option maxHeartbeats 1000000 in
theorem plus_ge (A:Option Addr) (n c:Nat) (xs:List Nat) (A' : Option Addr) (n' c' : Nat) (ys:List Nat) (w:World) (h:Rd w A n c xs) (h' : Rd w A' n' c' ys)
 (hd:Dig W64 xs) (hd' : Dig W64 ys) (hn:n≤2199023255552) (hle:¬ n<n') :
 Calls Tryz.prog 134 #[.slice A n c,.slice A' n' c'] w (GivesNt w (val W64 xs+val W64 ys)):=by
 have HX:=Lib.hid (And.intro h hd)
 have HY:=Lib.hid (And.intro h' hd')
 have hnc:n≤c:=h.cap
 have hcm:c≤9223372036854775807:=h.2.2.1
 have hnc' : n'≤c':=h'.cap
 have hcm' : c'≤9223372036854775807:=h'.2.2.1
 have hle' : n'≤n:=by omega
 obtain ⟨i0,hi,hz0,hz1,hz2⟩:=info_parts info_word
 have HI:=Lib.hid (And.intro hi (And.intro hz0 (And.intro hz1 hz2)))
 clear h h' hd hd' hi hz0 hz1 hz2
 go_enter Tryz.func134,Tryz.ntmps134
 go_wp2_with (at_make;refine wpList_make_full _ rfl _ _ 109 rfl w.heap.size 175 i0 (.int .u64 0) 1 Tryz.underlying109 HI.out.1 HI.out.2.1 HI.out.2.2.1 _ _ _ _ (n+1) rfl rfl ?b0 ?b1 ?b2 ?b3 (Nat.le_refl _) ?_)
 case b0=>omega
 case b1=>omega
 case b2=>rw [HI.out.2.2.2];omega
 case b3=>show n+1≤9223372036854775807;omega
 intro w1 hown hg1
 have hb1:Below w.heap.size w w1:=(Below.refl _ _).grown hg1 (Nat.le_refl _) (fun k h=>by cases h)
 have hblk:=blk_of_made hown
 have e0:AddInv xs ys (List.replicate (n+1) 0) 0 0:=by
  have:=AddInv.start (xs:=xs) (ys:=ys)
  rwa [HX.out.1.len] at this
 have HB:=Lib.hid hblk
 have H0:=Lib.hid e0
 clear hown hg1 hblk e0
 obtain ⟨g,hg⟩:∃ g,g=w.heap.size:=⟨_,rfl⟩
 rw [← hg] at HB ⊢
 have HG:=Lib.hid hg
 clear hg
 go_wp2
 go_loopw [6,23] (fun cy i wr => ∃ (k cv:Nat) (zs:List Nat),k≤n'∧i = .int .i64 (k:Int)∧cy = .int .u64 (cv:Int)∧AddInv xs ys zs k cv∧Blk wr g 175 zs∧Below w.heap.size w wr) (fun _ i _=>n'-(intOf i).toNat)
 case atStart=>exact ⟨0,0,_,Nat.zero_le _,rfl,rfl,H0.out,HB.out,hb1⟩
 case round =>
  obtain ⟨k,cv,zs,hk,rfl,rfl,hinv,hblk,hb⟩:=hrel
  have hcv:cv≤1:=hinv.1
  have hzl:k<zs.length:=by rw [hinv.2.2.1,HX.out.1.len];omega
  have HV:=Lib.hid hinv
  by_cases hlt:k<n'
  ·obtain ⟨ad,x,hA,_,hx,hcx⟩:=(HX.out.1.below hb).at_ (k:=k) (by omega)
   obtain ⟨ad',y,hA',_,hy,hcy⟩:=(HY.out.1.below hb).at_ (k:=k) (by omega)
   subst hA
   subst hA'
   obtain ⟨z,hcz⟩:∃ z:Int,wr.cell? ⟨g,k,none⟩=some (.int .u64 z):=⟨_,hblk.cell_get hzl⟩
   have hfz:=hblk.frozen k
   have hadd:=fun w=>run_add64' x y cv hcv w
   have HE:=Lib.hid (And.intro hx (And.intro hy hblk))
   clear hx hy hinv hblk hzl
   go_wp2
   go_roundw
   case rel=>exact ⟨k+1,(x+y+cv)/W64,zs.set k ((x+y+cv)%W64),by omega,by go_num,rfl,HV.out.step HE.out.1 (by rw [List.getD,HE.out.2.1];rfl) HX.out.2 HY.out.2,HE.out.2.2.set_ _ _,hb.setCell (by rw [HG.out];exact Nat.le_refl _) _⟩
   case measure=>simp [intOf];omega
  ·obtain rfl:k=n':=by omega
   have HBl:=Lib.hid hblk
   clear hinv hblk hlt hzl
   go_wp2
   go_loopw [6,9] (fun cy i wr => ∃ (m cv:Nat) (zs:List Nat),m≤n∧k≤m∧i = .int .i64 (m:Int)∧cy = .int .u64 (cv:Int)∧AddInv xs ys zs m cv∧Blk wr g 175 zs∧Below w.heap.size w wr) (fun _ i _=>n-(intOf i).toNat)
   case atStart=>exact ⟨k,cv,zs,by omega,by omega,rfl,rfl,HV.out,HBl.out,hb⟩
   case round =>
    clear hb hcv
    obtain ⟨m,cv,zs,hm,hkm,rfl,rfl,hinv,hblk,hb⟩:=hrel
    have hcv:cv≤1:=hinv.1
    have hzl:m<zs.length:=by rw [hinv.2.2.1,HX.out.1.len];omega
    obtain ⟨z,hcz⟩:∃ z:Int,wr.cell? ⟨g,m,none⟩=some (.int .u64 z):=⟨_,hblk.cell_get hzl⟩
    have hfz:=hblk.frozen m
    have HV:=Lib.hid hinv
    by_cases hlt:m<n
    ·obtain ⟨ad,x,hA,_,hx,hcx⟩:=(HX.out.1.below hb).at_ (k:=m) (by omega)
     subst hA
     have hadd:=fun w=>run_add64' x 0 cv hcv w
     simp only [Int.natCast_zero] at hadd
     have HE:=Lib.hid (And.intro hx hblk)
     clear hx hinv hblk hzl
     go_wp2
     go_roundw
     case rel=>exact ⟨m+1,(x+0+cv)/W64,zs.set m ((x+0+cv)%W64),by omega,by omega,by go_num,rfl,HV.out.step HE.out.1 (by rw [List.getD,List.getElem?_eq_none (by rw [HY.out.1.len];omega)];rfl) HX.out.2 HY.out.2,HE.out.2.set_ _ _,hb.setCell (by rw [HG.out];exact Nat.le_refl _) _⟩
     case measure=>simp [intOf];omega
    ·obtain rfl:m=n:=by omega
     have hfin:=HV.out
     rw [← HX.out.1.len] at hfin
     have hfin2:=hfin.finish (by rw [HY.out.1.len,HX.out.1.len];omega)
     rw [HX.out.1.len] at hfin2
     have hb2:=hblk.set_ m cv
     have hl2:(zs.set m cv).length=m+1:=by rw [List.length_set,hinv.2.2.1,HX.out.1.len]
     have hrd:=hb2.rd (by rw [hl2];show m+1≤9223372036854775807;omega)
     rw [hl2] at hrd
     have HF:=Lib.hid (And.intro hfin2 (And.intro hrd hb2))
     clear hfin hfin2 hb2 hl2 hrd hinv hblk hlt hzl
     go_wp2_with (go_at_call 191;refine (trimmed_any _ _ _ (zs.set m cv) _ HF.out.2.1 HF.out.1.1).mono ?_;rintro e w' ⟨⟨v,rfl,hv⟩,rfl⟩)
     go_ret
     exact ⟨v,rfl,by rw [← HF.out.1.2];exact hv,hb.setCell (by rw [HG.out];exact Nat.le_refl _) _⟩
set_option maxHeartbeats 1000000 in
theorem plus_lt (A:Option Addr) (n c:Nat) (xs:List Nat) (A' : Option Addr) (n' c' : Nat) (ys:List Nat) (w:World) (h:Rd w A n c xs) (h' : Rd w A' n' c' ys)
 (hd:Dig W64 xs) (hd' : Dig W64 ys) (hn:n≤2199023255552) (hle:n'<n) :
 Calls Tryz.prog 134 #[.slice A' n' c',.slice A n c] w (GivesNt w (val W64 xs+val W64 ys)):=by
 have HX:=Lib.hid (And.intro h hd)
 have HY:=Lib.hid (And.intro h' hd')
 have hnc:n≤c:=h.cap
 have hcm:c≤9223372036854775807:=h.2.2.1
 have hnc' : n'≤c':=h'.cap
 have hcm' : c'≤9223372036854775807:=h'.2.2.1
 have hle' : n'≤n:=by omega
 obtain ⟨i0,hi,hz0,hz1,hz2⟩:=info_parts info_word
 have HI:=Lib.hid (And.intro hi (And.intro hz0 (And.intro hz1 hz2)))
 clear h h' hd hd' hi hz0 hz1 hz2
 go_enter Tryz.func134,Tryz.ntmps134
 go_wp2_with (at_make;refine wpList_make_full _ rfl _ _ 109 rfl w.heap.size 175 i0 (.int .u64 0) 1 Tryz.underlying109 HI.out.1 HI.out.2.1 HI.out.2.2.1 _ _ _ _ (n+1) rfl rfl ?b0 ?b1 ?b2 ?b3 (Nat.le_refl _) ?_)
 case b0=>omega
 case b1=>omega
 case b2=>rw [HI.out.2.2.2];omega
 case b3=>show n+1≤9223372036854775807;omega
 intro w1 hown hg1
 have hb1:Below w.heap.size w w1:=(Below.refl _ _).grown hg1 (Nat.le_refl _) (fun k h=>by cases h)
 have hblk:=blk_of_made hown
 have e0:AddInv xs ys (List.replicate (n+1) 0) 0 0:=by
  have:=AddInv.start (xs:=xs) (ys:=ys)
  rwa [HX.out.1.len] at this
 have HB:=Lib.hid hblk
 have H0:=Lib.hid e0
 clear hown hg1 hblk e0
 obtain ⟨g,hg⟩:∃ g,g=w.heap.size:=⟨_,rfl⟩
 rw [← hg] at HB ⊢
 have HG:=Lib.hid hg
 clear hg
 go_wp2
 go_loopw [6,23] (fun cy i wr => ∃ (k cv:Nat) (zs:List Nat),k≤n'∧i = .int .i64 (k:Int)∧cy = .int .u64 (cv:Int)∧AddInv xs ys zs k cv∧Blk wr g 175 zs∧Below w.heap.size w wr) (fun _ i _=>n'-(intOf i).toNat)
 case atStart=>exact ⟨0,0,_,Nat.zero_le _,rfl,rfl,H0.out,HB.out,hb1⟩
 case round =>
  obtain ⟨k,cv,zs,hk,rfl,rfl,hinv,hblk,hb⟩:=hrel
  have hcv:cv≤1:=hinv.1
  have hzl:k<zs.length:=by rw [hinv.2.2.1,HX.out.1.len];omega
  have HV:=Lib.hid hinv
  by_cases hlt:k<n'
  ·obtain ⟨ad,x,hA,_,hx,hcx⟩:=(HX.out.1.below hb).at_ (k:=k) (by omega)
   obtain ⟨ad',y,hA',_,hy,hcy⟩:=(HY.out.1.below hb).at_ (k:=k) (by omega)
   subst hA
   subst hA'
   obtain ⟨z,hcz⟩:∃ z:Int,wr.cell? ⟨g,k,none⟩=some (.int .u64 z):=⟨_,hblk.cell_get hzl⟩
   have hfz:=hblk.frozen k
   have hadd:=fun w=>run_add64' x y cv hcv w
   have HE:=Lib.hid (And.intro hx (And.intro hy hblk))
   clear hx hy hinv hblk hzl
   go_wp2
   go_roundw
   case rel=>exact ⟨k+1,(x+y+cv)/W64,zs.set k ((x+y+cv)%W64),by omega,by go_num,rfl,HV.out.step HE.out.1 (by rw [List.getD,HE.out.2.1];rfl) HX.out.2 HY.out.2,HE.out.2.2.set_ _ _,hb.setCell (by rw [HG.out];exact Nat.le_refl _) _⟩
   case measure=>simp [intOf];omega
  ·obtain rfl:k=n':=by omega
   have HBl:=Lib.hid hblk
   clear hinv hblk hlt hzl
   go_wp2
   go_loopw [6,9] (fun cy i wr => ∃ (m cv:Nat) (zs:List Nat),m≤n∧k≤m∧i = .int .i64 (m:Int)∧cy = .int .u64 (cv:Int)∧AddInv xs ys zs m cv∧Blk wr g 175 zs∧Below w.heap.size w wr) (fun _ i _=>n-(intOf i).toNat)
   case atStart=>exact ⟨k,cv,zs,by omega,by omega,rfl,rfl,HV.out,HBl.out,hb⟩
   case round =>
    clear hb hcv
    obtain ⟨m,cv,zs,hm,hkm,rfl,rfl,hinv,hblk,hb⟩:=hrel
    have hcv:cv≤1:=hinv.1
    have hzl:m<zs.length:=by rw [hinv.2.2.1,HX.out.1.len];omega
    obtain ⟨z,hcz⟩:∃ z:Int,wr.cell? ⟨g,m,none⟩=some (.int .u64 z):=⟨_,hblk.cell_get hzl⟩
    have hfz:=hblk.frozen m
    have HV:=Lib.hid hinv
    by_cases hlt:m<n
    ·obtain ⟨ad,x,hA,_,hx,hcx⟩:=(HX.out.1.below hb).at_ (k:=m) (by omega)
     subst hA
     have hadd:=fun w=>run_add64' x 0 cv hcv w
     simp only [Int.natCast_zero] at hadd
     have HE:=Lib.hid (And.intro hx hblk)
     clear hx hinv hblk hzl
     go_wp2
     go_roundw
     case rel=>exact ⟨m+1,(x+0+cv)/W64,zs.set m ((x+0+cv)%W64),by omega,by omega,by go_num,rfl,HV.out.step HE.out.1 (by rw [List.getD,List.getElem?_eq_none (by rw [HY.out.1.len];omega)];rfl) HX.out.2 HY.out.2,HE.out.2.set_ _ _,hb.setCell (by rw [HG.out];exact Nat.le_refl _) _⟩
     case measure=>simp [intOf];omega
    ·obtain rfl:m=n:=by omega
     have hfin:=HV.out
     rw [← HX.out.1.len] at hfin
     have hfin2:=hfin.finish (by rw [HY.out.1.len,HX.out.1.len];omega)
     rw [HX.out.1.len] at hfin2
     have hb2:=hblk.set_ m cv
     have hl2:(zs.set m cv).length=m+1:=by rw [List.length_set,hinv.2.2.1,HX.out.1.len]
     have hrd:=hb2.rd (by rw [hl2];show m+1≤9223372036854775807;omega)
     rw [hl2] at hrd
     have HF:=Lib.hid (And.intro hfin2 (And.intro hrd hb2))
     clear hfin hfin2 hb2 hl2 hrd hinv hblk hlt hzl
     go_wp2_with (go_at_call 191;refine (trimmed_any _ _ _ (zs.set m cv) _ HF.out.2.1 HF.out.1.1).mono ?_;rintro e w' ⟨⟨v,rfl,hv⟩,rfl⟩)
     go_ret
     exact ⟨v,rfl,by rw [← HF.out.1.2];exact hv,hb.setCell (by rw [HG.out];exact Nat.le_refl _) _⟩
theorem plus_any (A:Option Addr) (n c:Nat) (xs:List Nat) (A' : Option Addr) (n' c' : Nat) (ys:List Nat) (w:World) (h:Rd w A n c xs) (h' : Rd w A' n' c' ys)
 (hd:Dig W64 xs) (hd' : Dig W64 ys) (hn:n≤2199023255552) (hn' : n'≤2199023255552) :
 Calls Tryz.prog 134 #[.slice A n c,.slice A' n' c'] w (GivesNt w (val W64 xs+val W64 ys)):=by
 rcases Nat.lt_or_ge n n' with hl|hl
 ·rw [Nat.add_comm]
  exact plus_lt A' n' c' ys A n c xs w h' h hd' hd hn' hl
 ·exact plus_ge A n c xs A' n' c' ys w h h' hd hd' hn (by omega)
def SubInv (xs ys zs:List Nat) (k bw:Nat):Prop :=
 bw≤1∧Dig W64 zs∧zs.length=xs.length∧val W64 (zs.take k)+val W64 (ys.take k)=val W64 (xs.take k)+W64^k*bw
theorem SubInv.step {xs ys zs:List Nat} {k bw x y:Nat} (h:SubInv xs ys zs k bw) (hx:xs[k]?=some x) (hy:ys.getD k 0=y) (hdx:Dig W64 xs) (hdy:Dig W64 ys) :
 SubInv xs ys (zs.set k ((x+W64-y-bw)%W64)) (k+1) (if x<y+bw then 1 else 0):=by
 obtain ⟨h1,h2,h3,h4⟩:=h
 obtain ⟨hk,ex⟩:=List.getElem?_eq_some_iff.1 hx
 have bx:=hdx.at_ hx
 have by' : y<W64:=by rw [← hy];exact hdy.get0 W64_pos k
 have hr:(x+W64-y-bw)%W64<W64:=Nat.mod_lt _ W64_pos
 have hdm:(x+W64-y-bw)%W64+y+bw=x+W64*(if x<y+bw then 1 else 0):=by
  have:=W64_eq
  rw [this] at bx by' ⊢
  split <;> omega
 refine ⟨by split <;> omega,h2.set hr,by simp [h3],?_⟩
 have e1:val W64 ((zs.set k ((x+W64-y-bw)%W64)).take (k+1))=val W64 (zs.take k)+W64^k*((x+W64-y-bw)%W64):=by
  rw [val_take_succ _ _ _ (by simp;omega),List.take_set_of_le (Nat.le_refl _)]
  simp
 have e2:val W64 (ys.take (k+1))=val W64 (ys.take k)+W64^k*y:=by
  rcases Nat.lt_or_ge k ys.length with hl|hl
  ·rw [val_take_succ _ _ _ hl]
   simp [List.getD,List.getElem?_eq_getElem hl] at hy
   rw [hy]
  ·rw [List.take_of_length_le (by omega),List.take_of_length_le hl]
   simp [List.getD,List.getElem?_eq_none hl] at hy
   rw [← hy];simp
 rw [e1,e2,val_take_succ _ _ _ hk,ex,Nat.pow_succ]
 generalize (if x<y+bw then 1 else 0)=q at *
 generalize (x+W64-y-bw)%W64=r at *
 generalize W64^k=P at *
 generalize W64=V at *
 grind
theorem SubInv.start {xs ys:List Nat}:SubInv xs ys (List.replicate xs.length 0) 0 0 :=
 ⟨by omega,Dig.replicate W64_pos _,by simp,by simp [val]⟩
theorem SubInv.finish {xs ys zs:List Nat} {bw:Nat} (h:SubInv xs ys zs xs.length bw) (hl:ys.length≤xs.length) (hge:val W64 ys≤val W64 xs) (hd:Dig W64 xs) :
 Dig W64 zs∧val W64 zs=val W64 xs-val W64 ys:=by
 obtain ⟨h1,h2,h3,h4⟩:=h
 refine ⟨h2,?_⟩
 rw [List.take_of_length_le (l:=xs) (Nat.le_refl _),List.take_of_length_le (l:=ys) hl,List.take_of_length_le (l:=zs) (by omega)] at h4
 have hz:=val_lt h2
 have hx:=val_lt hd
 rw [h3] at hz
 have:bw=0:=by
  rcases Nat.eq_zero_or_pos bw with e|e
  ·exact e
  ·have:bw=1:=by omega
   subst this
   omega
 subst this
 omega
set_option maxHeartbeats 1000000 in
theorem minus_any (A:Option Addr) (n c:Nat) (xs:List Nat) (A' : Option Addr) (n' c' : Nat) (ys:List Nat) (w:World) (h:Rd w A n c xs) (h' : Rd w A' n' c' ys)
 (hd:Dig W64 xs) (hd' : Dig W64 ys) (hn:n≤2199023255552) (hle' : n'≤n) (hge:val W64 ys≤val W64 xs) :
 Calls Tryz.prog 235 #[.slice A n c,.slice A' n' c'] w (GivesNt w (val W64 xs-val W64 ys)):=by
 have HX:=Lib.hid (And.intro h hd)
 have HY:=Lib.hid (And.intro h' (And.intro hd' hge))
 have hnc:n≤c:=h.cap
 have hcm:c≤9223372036854775807:=h.2.2.1
 have hnc' : n'≤c':=h'.cap
 have hcm' : c'≤9223372036854775807:=h'.2.2.1
 obtain ⟨i0,hi,hz0,hz1,hz2⟩:=info_parts info_word
 have HI:=Lib.hid (And.intro hi (And.intro hz0 (And.intro hz1 hz2)))
 clear h h' hd hd' hi hz0 hz1 hz2 hge
 go_enter Tryz.func235,Tryz.ntmps235
 go_wp2_with (at_make;refine wpList_make_full _ rfl _ _ 109 rfl w.heap.size 175 i0 (.int .u64 0) 1 Tryz.underlying109 HI.out.1 HI.out.2.1 HI.out.2.2.1 _ _ _ _ n rfl rfl ?b0 ?b1 ?b2 ?b3 (Nat.le_refl _) ?_)
 case b0=>rfl
 case b1=>rfl
 case b2=>rw [HI.out.2.2.2];omega
 case b3=>show n≤9223372036854775807;omega
 intro w1 hown hg1
 have hb1:Below w.heap.size w w1:=(Below.refl _ _).grown hg1 (Nat.le_refl _) (fun k h=>by cases h)
 have hblk:=blk_of_made hown
 have e0:SubInv xs ys (List.replicate n 0) 0 0:=by
  have:=SubInv.start (xs:=xs) (ys:=ys)
  rwa [HX.out.1.len] at this
 have HB:=Lib.hid hblk
 have H0:=Lib.hid e0
 clear hown hg1 hblk e0
 obtain ⟨g,hg⟩:∃ g,g=w.heap.size:=⟨_,rfl⟩
 rw [← hg] at HB ⊢
 have HG:=Lib.hid hg
 clear hg
 go_wp2
 go_loopw [6,15] (fun cy i wr => ∃ (k cv:Nat) (zs:List Nat),k≤n'∧i = .int .i64 (k:Int)∧cy = .int .u64 (cv:Int)∧SubInv xs ys zs k cv∧Blk wr g 175 zs∧Below w.heap.size w wr) (fun _ i _=>n'-(intOf i).toNat)
 case atStart=>exact ⟨0,0,_,Nat.zero_le _,rfl,rfl,H0.out,HB.out,hb1⟩
 case round =>
  obtain ⟨k,cv,zs,hk,rfl,rfl,hinv,hblk,hb⟩:=hrel
  have hcv:cv≤1:=hinv.1
  have hzn:zs.length=n:=by rw [hinv.2.2.1,HX.out.1.len]
  have HV:=Lib.hid hinv
  by_cases hlt:k<n'
  ·obtain ⟨ad,x,hA,_,hx,hcx⟩:=(HX.out.1.below hb).at_ (k:=k) (by omega)
   obtain ⟨ad',y,hA',_,hy,hcy⟩:=(HY.out.1.below hb).at_ (k:=k) (by omega)
   subst hA
   subst hA'
   obtain ⟨z,hcz⟩:∃ z:Int,wr.cell? ⟨g,k,none⟩=some (.int .u64 z):=⟨_,hblk.cell_get (by omega)⟩
   have hfz:=hblk.frozen k
   have hsub:=fun w=>run_sub64' x y cv hcv w
   have HE:=Lib.hid (And.intro hx (And.intro hy hblk))
   obtain ⟨q,hq⟩:∃ q:Nat,q=if x<y+cv then 1 else 0:=⟨_,rfl⟩
   rw [← hq] at hsub
   have HQ:=Lib.hid hq
   clear hx hy hinv hblk hzn hq
   go_wp2
   go_roundw
   case rel=>exact ⟨k+1,q,zs.set k ((x+W64-y-cv)%W64),by omega,by go_num,rfl,by rw [HQ.out];exact HV.out.step HE.out.1 (by rw [List.getD,HE.out.2.1];rfl) HX.out.2 HY.out.2.1,HE.out.2.2.set_ _ _,hb.setCell (by rw [HG.out];exact Nat.le_refl _) _⟩
   case measure=>simp [intOf];omega
  ·obtain rfl:k=n':=by omega
   have HBl:=Lib.hid hblk
   clear hinv hblk hlt hzn
   go_wp2
   go_loopw [6,9] (fun cy i wr => ∃ (m cv:Nat) (zs:List Nat),m≤n∧k≤m∧i = .int .i64 (m:Int)∧cy = .int .u64 (cv:Int)∧SubInv xs ys zs m cv∧Blk wr g 175 zs∧Below w.heap.size w wr) (fun _ i _=>n-(intOf i).toNat)
   case atStart=>exact ⟨k,cv,zs,by omega,by omega,rfl,rfl,HV.out,HBl.out,hb⟩
   case round =>
    clear hb hcv
    obtain ⟨m,cv,zs,hm,hkm,rfl,rfl,hinv,hblk,hb⟩:=hrel
    have hcv:cv≤1:=hinv.1
    have hzn:zs.length=n:=by rw [hinv.2.2.1,HX.out.1.len]
    have HV:=Lib.hid hinv
    by_cases hlt:m<n
    ·obtain ⟨z,hcz⟩:∃ z:Int,wr.cell? ⟨g,m,none⟩=some (.int .u64 z):=⟨_,hblk.cell_get (by omega)⟩
     have hfz:=hblk.frozen m
     obtain ⟨ad,x,hA,_,hx,hcx⟩:=(HX.out.1.below hb).at_ (k:=m) (by omega)
     subst hA
     have hsub:=fun w=>run_sub64' x 0 cv hcv w
     simp only [Int.natCast_zero] at hsub
     have HE:=Lib.hid (And.intro hx hblk)
     obtain ⟨q,hq⟩:∃ q:Nat,q=if x<0+cv then 1 else 0:=⟨_,rfl⟩
     rw [← hq] at hsub
     have HQ:=Lib.hid hq
     clear hx hinv hblk hzn hq
     go_wp2
     go_roundw
     case rel=>exact ⟨m+1,q,zs.set m ((x+W64-0-cv)%W64),by omega,by omega,by go_num,rfl,by rw [HQ.out];exact HV.out.step HE.out.1 (by rw [List.getD,List.getElem?_eq_none (by rw [HY.out.1.len];omega)];rfl) HX.out.2 HY.out.2.1,HE.out.2.set_ _ _,hb.setCell (by rw [HG.out];exact Nat.le_refl _) _⟩
     case measure=>simp [intOf];omega
    ·obtain rfl:m=n:=by omega
     have hfin:=HV.out
     rw [← HX.out.1.len] at hfin
     have hfin2:=hfin.finish (by rw [HY.out.1.len,HX.out.1.len];omega) HY.out.2.2 HX.out.2
     have hrd:=hblk.rd (by rw [hzn];show m≤9223372036854775807;omega)
     rw [hzn] at hrd
     have HF:=Lib.hid (And.intro hfin2 hrd)
     clear hfin hfin2 hzn hrd hinv hblk hlt
     go_wp2_with (go_at_call 191;refine (trimmed_any _ _ _ zs _ HF.out.2 HF.out.1.1).mono ?_;rintro e w' ⟨⟨v,rfl,hv⟩,rfl⟩)
     go_ret
     exact ⟨v,rfl,by rw [← HF.out.1.2];exact hv,hb⟩
def Away (A:Option Addr) (n g:Nat):Prop:=0<n→∀ ad,A=some ad→ad.block≠g
theorem Rd.away {w:World} {A:Option Addr} {n c:Nat} {xs:List Nat} (h:Rd w A n c xs) {g:Nat} (hg:w.heap.size≤g):Away A n g:=by
 intro hn ad hA
 obtain ⟨ad',hA',hl,_⟩:=h.2.2.2 hn
 rw [hA] at hA'
 injection hA' with e
 subst e
 omega
theorem Rd.only {w w' : World} {A:Option Addr} {n c g:Nat} {xs:List Nat} (h:Rd w A n c xs) (ha:Away A n g) (hg:w.grownBy w' (some g)):Rd w' A n c xs:=by
 refine ⟨h.1,h.2.1,h.2.2.1,fun hn=>?_⟩
 obtain ⟨ad,e,hl,hc⟩:=h.2.2.2 hn
 have hne:=ha hn ad e
 have:=hg.size
 exact ⟨ad,e,by omega,fun j x hx=>hg.cell (hc j x hx) (by rw [block_add];intro e2;injection e2 with e2;exact hne e2)⟩
theorem only_refl (w:World) (g:Nat):w.grownBy w (some g):=⟨rfl,rfl,rfl,Nat.le_refl _,fun _ _ _=>rfl⟩
theorem only_trans {w w' w'' : World} {g:Nat} (h:w.grownBy w' (some g)) (h' : w'.grownBy w'' (some g)):w.grownBy w'' (some g) :=
 ⟨h'.os.trans h.os,h'.tape.trans h.tape,h'.output.trans h.output,Nat.le_trans h.size h'.size,fun k hk hne=>(h'.block k (Nat.lt_of_lt_of_le hk h.size) hne).trans (h.block k hk hne)⟩
theorem only_set (w:World) (g i:Nat) (u:Value):w.grownBy (w.setCell ⟨g,i,none⟩ u) (some g) :=
 ⟨rfl,rfl,rfl,by simp [World.setCell],fun k _ hne=>Below.heap_setCell w _ u k (fun e=>hne (by rw [e]))⟩
def put (ys:List Nat) (o:Nat) (zs:List Nat):List Nat:=ys.take o++(zs++ys.drop (o+zs.length))
theorem put_nil (ys:List Nat) (o:Nat):put ys o []=ys:=by simp [put]
theorem put_length {ys:List Nat} {o:Nat} {zs:List Nat} (h:o+zs.length≤ys.length):(put ys o zs).length=ys.length:=by
 simp only [put,List.length_append,List.length_take,List.length_drop];omega
theorem put_get {ys:List Nat} {o k:Nat} {zs:List Nat} (hz:zs.length≤k) (h:o+k<ys.length):(put ys o zs)[o+k]?=ys[o+k]?:=by
 unfold put
 rw [List.getElem?_append_right (by simp;omega),List.getElem?_append_right (by simp;omega),List.getElem?_drop]
 congr 1
 simp only [List.length_take]
 omega
theorem put_set {ys:List Nat} {o k:Nat} {zs:List Nat} {z:Nat} (hz:zs.length=k) (h:o+k<ys.length):(put ys o zs).set (o+k) z=put ys o (zs ++ [z]):=by
 subst hz
 unfold put
 rw [List.set_append_right _ _ (by simp;omega),List.set_append_right _ _ (by simp;omega)]
 have e:o+zs.length-(ys.take o).length-zs.length=0:=by simp;omega
 rw [e,List.drop_eq_getElem_cons h]
 simp [Nat.add_assoc]
theorem mul_step {x m cv y:Nat} (hx:x<W64) (hm:m<W64) (hc:cv<W64) (hy:y<W64) :
 ∃ hi lo s1 c1 r c2:Nat,x*m/W64=hi∧x*m%W64=lo∧(lo+cv+0)%W64=s1∧(lo+cv+0)/W64=c1∧(y+s1+0)%W64=r∧(y+s1+0)/W64=c2 ∧
   hi+c1<W64∧hi+c1+c2<W64∧r<W64∧r+W64*(hi+c1+c2)=y+x*m+cv:=by
 refine ⟨_,_,_,_,_,_,rfl,rfl,rfl,rfl,rfl,rfl,?_⟩
 have h1:=Nat.div_add_mod (x*m) W64
 have hp:x*m≤18446744073709551615*18446744073709551615:=Nat.mul_le_mul (by have:=W64_eq;omega) (by have:=W64_eq;omega)
 generalize x*m=p at *
 simp only [W64_eq] at *
 omega
set_option maxHeartbeats 1000000 in
theorem addMultiple_any (g o n cS:Nat) (t:TypeId) (ys:List Nat) (A:Option Addr) (n' c:Nat) (xs:List Nat) (m:Nat) (w:World) (hb:Blk w g t ys) (hys:Dig W64 ys) (hwin:o+n'≤ys.length) (hn:n'≤n) (hcS:n≤cS)
 (hm63:cS≤9223372036854775807) (h:Rd w A n' c xs) (hd:Dig W64 xs) (ha:Away A n' g) (hm:m<W64) :
 Calls Tryz.prog 190 #[.slice (some ⟨g,o,none⟩) n cS,.slice A n' c,.int .u64 (m:Int)] w fun e w' =>
  Hid (∃ (zs:List Nat) (cy:Nat),e = .returned (.int .u64 (cy:Int))∧zs.length=n'∧Dig W64 zs∧cy<W64∧val W64 zs+W64^n'*cy=val W64 ((ys.drop o).take n')+m*val W64 xs∧Blk w' g t (put ys o zs)∧w.grownBy w' (some g)):=by
 have HX:=Lib.hid (And.intro h (And.intro hd (And.intro hys ha)))
 have HB:=Lib.hid hb
 have hnc:n'≤c:=h.cap
 have hcm:c≤9223372036854775807:=h.2.2.1
 clear h hd hys ha hb
 go_enter Tryz.func190,Tryz.ntmps190
 go_wp2
 go_loopw [7,14] (fun cy i wr => ∃ (k cv:Nat) (zs:List Nat),k≤n'∧i = .int .i64 (k:Int)∧cy = .int .u64 (cv:Int)∧cv<W64∧zs.length=k∧Dig W64 zs ∧
  val W64 zs+W64^k*cv=val W64 ((ys.drop o).take k)+m*val W64 (xs.take k)∧Blk wr g t (put ys o zs)∧w.grownBy wr (some g)) (fun _ i _=>n'-(intOf i).toNat)
 case atStart=>exact ⟨0,0,[],Nat.zero_le _,rfl,rfl,W64_pos,rfl,Dig.nil _,by simp [val],by rw [put_nil];exact HB.out,only_refl _ _⟩
 case round =>
  obtain ⟨k,cv,zs,hk,rfl,rfl,hcv,hzl,hzd,hval,hblk,hg⟩:=hrel
  by_cases hlt:k<n'
  ·obtain ⟨ad,x,hA,_,hx,hcx⟩:=(HX.out.1.only HX.out.2.2.2 hg).at_ (k:=k) hlt
   subst hA
   obtain ⟨y,hy⟩:∃ y,ys[o+k]?=some y:=⟨_,List.getElem?_eq_getElem (by omega)⟩
   have hcy:wr.cell? ⟨g,o+k,none⟩=some (.int .u64 (y:Int)):=hblk.cell (by rw [put_get (by omega) (by omega)];exact hy)
   have hfz:=hblk.frozen (o+k)
   obtain ⟨hi,lo,s1,c1,r,c2,e1,e2,e3,e4,e5,e6,b1,b2,b3,e7⟩:=mul_step (HX.out.2.1.at_ hx) hm hcv (HX.out.2.2.1.at_ hy)
   have hmul:=Lib.hid (fun w=>(Tryz.bits_Mul64 x m (HX.out.2.1.at_ hx) hm w).mono (fun e w' h=>(show e = .returned (.tuple #[.int .u64 (hi:Int),.int .u64 (lo:Int)])∧w=w' from ⟨by rw [h.1,← e1,← e2];rfl,h.2.symm⟩)))
   have ha1:=fun w=>run_add64' lo cv 0 (by omega) w
   have ha2:=fun w=>run_add64' y s1 0 (by omega) w
   rw [e3,e4] at ha1
   rw [e5,e6] at ha2
   simp only [Int.natCast_zero] at ha1 ha2
   have HE:=Lib.hid (And.intro hx (And.intro hy (And.intro hblk (And.intro e7 (And.intro hval (And.intro hzl hzd))))))
   have B1:(hi:Int)+c1≤18446744073709551615:=by have:=W64_eq;omega
   have B2:(hi:Int)+c1+c2≤18446744073709551615:=by have:=W64_eq;omega
   have HB3:=Lib.hid (And.intro b2 b3)
   clear hx hy hblk e1 e2 e3 e4 e5 e6 e7 hval hzl hzd b1 b2 b3 hcv
   go_wp2_with (go_at_call 218;refine (hmul.out _).mono ?_;rintro e w' ⟨rfl,rfl⟩)
   go_roundw
   case rel =>
    obtain ⟨hx,hy,hblk,e7,hval,hzl,hzd⟩:=HE.out
    refine ⟨k+1,hi+c1+c2,zs ++ [r],by omega,by go_num,by go_num,HB3.out.1,by simp [hzl],hzd.app (Dig.cons HB3.out.2 (Dig.nil _)),?_,?_,only_trans hg (only_set _ _ _ _)⟩
    ·obtain ⟨h1,ex⟩:=List.getElem?_eq_some_iff.1 hx
     have hyd:(ys.drop o)[k]?=some y:=by rw [List.getElem?_drop];exact hy
     obtain ⟨h2,ey⟩:=List.getElem?_eq_some_iff.1 hyd
     rw [val_snoc,val_take_succ _ _ _ h1,val_take_succ _ _ _ h2,ex,ey,hzl,Nat.pow_succ]
     generalize W64^k=P at *
     generalize W64=V at *
     grind
    ·rw [← put_set hzl (by omega)]
     exact hblk.set_ _ _
   case measure=>simp [intOf];omega
  ·obtain rfl:k=n':=by omega
   have HE:=Lib.hid (And.intro hblk (And.intro hval (And.intro hzl (And.intro hzd hcv))))
   clear hblk hval hzl hzd hcv
   go_wp2
   go_ret
   refine ⟨zs,cv,rfl,HE.out.2.2.1,HE.out.2.2.2.1,HE.out.2.2.2.2,?_,HE.out.1,hg⟩
   have:=HE.out.2.1
   rwa [List.take_of_length_le (l:=xs) (by rw [HX.out.1.len];omega)] at this
theorem mul_take {x m cv y:Nat} (hx:x<W64) (hm:m<W64) (hc:cv<W64) (hy:y<W64) :
 ∃ hi lo s1 c1 r c2:Nat,x*m/W64=hi∧x*m%W64=lo∧(lo+cv+0)%W64=s1∧(lo+cv+0)/W64=c1∧(y+W64-s1-0)%W64=r∧(if y<s1+0 then 1 else 0)=c2 ∧
   hi+c1<W64∧hi+c1+c2<W64∧r<W64∧r+x*m+cv=y+W64*(hi+c1+c2):=by
 refine ⟨_,_,_,_,_,_,rfl,rfl,rfl,rfl,rfl,rfl,?_⟩
 have h1:=Nat.div_add_mod (x*m) W64
 have hp:x*m≤18446744073709551615*18446744073709551615:=Nat.mul_le_mul (by have:=W64_eq;omega) (by have:=W64_eq;omega)
 generalize x*m=p at *
 have hA:=Nat.div_add_mod (p%W64+cv+0) W64
 have hA2:(p%W64+cv+0)%W64<W64:=Nat.mod_lt _ W64_pos
 generalize (p%W64+cv+0)%W64=s1 at *
 generalize (p%W64+cv+0)/W64=c1 at *
 rcases Nat.lt_or_ge y s1 with hlt|hlt
 ·rw [if_pos (by omega)]
  simp only [W64_eq] at *
  omega
 ·rw [if_neg (by omega)]
  simp only [W64_eq] at *
  omega
set_option maxHeartbeats 1000000 in
theorem takeMultiple_any (g o n cS:Nat) (t:TypeId) (ys:List Nat) (A:Option Addr) (n' c:Nat) (xs:List Nat) (m:Nat) (w:World) (hb:Blk w g t ys) (hys:Dig W64 ys) (hwin:o+n'≤ys.length) (hn:n'≤n) (hcS:n≤cS)
 (hm63:cS≤9223372036854775807) (h:Rd w A n' c xs) (hd:Dig W64 xs) (ha:Away A n' g) (hm:m<W64) :
 Calls Tryz.prog 241 #[.slice (some ⟨g,o,none⟩) n cS,.slice A n' c,.int .u64 (m:Int)] w fun e w' =>
  Hid (∃ (zs:List Nat) (cy:Nat),e = .returned (.int .u64 (cy:Int))∧zs.length=n'∧Dig W64 zs∧cy<W64∧val W64 zs+m*val W64 xs=val W64 ((ys.drop o).take n')+W64^n'*cy∧Blk w' g t (put ys o zs)∧w.grownBy w' (some g)):=by
 have HX:=Lib.hid (And.intro h (And.intro hd (And.intro hys ha)))
 have HB:=Lib.hid hb
 have hnc:n'≤c:=h.cap
 have hcm:c≤9223372036854775807:=h.2.2.1
 clear h hd hys ha hb
 go_enter Tryz.func241,Tryz.ntmps241
 go_wp2
 go_loopw [7,14] (fun cy i wr => ∃ (k cv:Nat) (zs:List Nat),k≤n'∧i = .int .i64 (k:Int)∧cy = .int .u64 (cv:Int)∧cv<W64∧zs.length=k∧Dig W64 zs ∧
  val W64 zs+m*val W64 (xs.take k)=val W64 ((ys.drop o).take k)+W64^k*cv∧Blk wr g t (put ys o zs)∧w.grownBy wr (some g)) (fun _ i _=>n'-(intOf i).toNat)
 case atStart=>exact ⟨0,0,[],Nat.zero_le _,rfl,rfl,W64_pos,rfl,Dig.nil _,by simp [val],by rw [put_nil];exact HB.out,only_refl _ _⟩
 case round =>
  obtain ⟨k,cv,zs,hk,rfl,rfl,hcv,hzl,hzd,hval,hblk,hg⟩:=hrel
  by_cases hlt:k<n'
  ·obtain ⟨ad,x,hA,_,hx,hcx⟩:=(HX.out.1.only HX.out.2.2.2 hg).at_ (k:=k) hlt
   subst hA
   obtain ⟨y,hy⟩:∃ y,ys[o+k]?=some y:=⟨_,List.getElem?_eq_getElem (by omega)⟩
   have hcy:wr.cell? ⟨g,o+k,none⟩=some (.int .u64 (y:Int)):=hblk.cell (by rw [put_get (by omega) (by omega)];exact hy)
   have hfz:=hblk.frozen (o+k)
   obtain ⟨hi,lo,s1,c1,r,c2,e1,e2,e3,e4,e5,e6,b1,b2,b3,e7⟩:=mul_take (HX.out.2.1.at_ hx) hm hcv (HX.out.2.2.1.at_ hy)
   have hmul:=Lib.hid (fun w=>(Tryz.bits_Mul64 x m (HX.out.2.1.at_ hx) hm w).mono (fun e w' h=>(show e = .returned (.tuple #[.int .u64 (hi:Int),.int .u64 (lo:Int)])∧w=w' from ⟨by rw [h.1,← e1,← e2];rfl,h.2.symm⟩)))
   have ha1:=fun w=>run_add64' lo cv 0 (by omega) w
   have ha2:=fun w=>run_sub64' y s1 0 (by omega) w
   rw [e3,e4] at ha1
   rw [e5,e6] at ha2
   simp only [Int.natCast_zero] at ha1 ha2
   have HE:=Lib.hid (And.intro hx (And.intro hy (And.intro hblk (And.intro e7 (And.intro hval (And.intro hzl hzd))))))
   have B1:(hi:Int)+c1≤18446744073709551615:=by have:=W64_eq;omega
   have B2:(hi:Int)+c1+c2≤18446744073709551615:=by have:=W64_eq;omega
   have HB3:=Lib.hid (And.intro b2 b3)
   clear hx hy hblk e1 e2 e3 e4 e5 e6 e7 hval hzl hzd b1 b2 b3 hcv
   go_wp2_with (go_at_call 218;refine (hmul.out _).mono ?_;rintro e w' ⟨rfl,rfl⟩)
   go_roundw
   case rel =>
    obtain ⟨hx,hy,hblk,e7,hval,hzl,hzd⟩:=HE.out
    refine ⟨k+1,hi+c1+c2,zs ++ [r],by omega,by go_num,by go_num,HB3.out.1,by simp [hzl],hzd.app (Dig.cons HB3.out.2 (Dig.nil _)),?_,?_,only_trans hg (only_set _ _ _ _)⟩
    ·obtain ⟨h1,ex⟩:=List.getElem?_eq_some_iff.1 hx
     have hyd:(ys.drop o)[k]?=some y:=by rw [List.getElem?_drop];exact hy
     obtain ⟨h2,ey⟩:=List.getElem?_eq_some_iff.1 hyd
     rw [val_snoc,val_take_succ _ _ _ h1,val_take_succ _ _ _ h2,ex,ey,hzl,Nat.pow_succ]
     generalize W64^k=P at *
     generalize W64=V at *
     grind
    ·rw [← put_set hzl (by omega)]
     exact hblk.set_ _ _
   case measure=>simp [intOf];omega
  ·obtain rfl:k=n':=by omega
   have HE:=Lib.hid (And.intro hblk (And.intro hval (And.intro hzl (And.intro hzd hcv))))
   clear hblk hval hzl hzd hcv
   go_wp2
   go_ret
   refine ⟨zs,cv,rfl,HE.out.2.2.1,HE.out.2.2.2.1,HE.out.2.2.2.2,?_,HE.out.1,hg⟩
   have:=HE.out.2.1
   rwa [List.take_of_length_le (l:=xs) (by rw [HX.out.1.len];omega)] at this
def MulInv (xs ys zs:List Nat) (k:Nat):Prop :=
 Dig W64 zs∧zs.length=xs.length+ys.length∧val W64 (zs.take (k+xs.length))=val W64 xs*val W64 (ys.take k)
theorem MulInv.start (xs ys:List Nat):MulInv xs ys (List.replicate (xs.length+ys.length) 0) 0:=by
 refine ⟨Dig.replicate W64_pos _,by simp,?_⟩
 rw [List.take_replicate,val_zeros]
 simp [val]
theorem put_take {ys zs:List Nat} {o:Nat} (h:o+zs.length≤ys.length):val W64 ((put ys o zs).take (o+zs.length))=val W64 (ys.take o)+W64^o*val W64 zs:=by
 have e:(put ys o zs).take (o+zs.length)=ys.take o++zs:=by
  unfold put
  rw [← List.append_assoc,List.take_append_of_le_length (by simp;omega),List.take_of_length_le (by simp;omega)]
 rw [e,val_append,List.length_take,Nat.min_eq_left (by omega)]
theorem put_dig {ys zs:List Nat} {o:Nat} (hy:Dig W64 ys) (hz:Dig W64 zs):Dig W64 (put ys o zs):=(hy.take _).app (hz.app (hy.drop _))
theorem take_window (zs:List Nat) (o n:Nat) (h:o+n≤zs.length):val W64 (zs.take (o+n))=val W64 (zs.take o)+W64^o*val W64 ((zs.drop o).take n):=by
 rw [List.take_add,val_append,List.length_take,Nat.min_eq_left (by omega)]
theorem MulInv.step {xs ys zs ws:List Nat} {k m cy:Nat} (h:MulInv xs ys zs k) (hm:ys[k]?=some m) (hw:ws.length=xs.length) (hwd:Dig W64 ws) (hcy:cy<W64)
 (hv:val W64 ws+W64^xs.length*cy=val W64 ((zs.drop k).take xs.length)+m*val W64 xs):MulInv xs ys ((put zs k ws).set (k+xs.length) cy) (k+1):=by
 obtain ⟨h1,h2,h3⟩:=h
 obtain ⟨hk,em⟩:=List.getElem?_eq_some_iff.1 hm
 have hl:(put zs k ws).length=zs.length:=put_length (by omega)
 refine ⟨(put_dig h1 hwd).set hcy,by rw [List.length_set,hl,h2],?_⟩
 rw [show k+1+xs.length=k+xs.length+1 from by omega,val_take_succ _ _ _ (by rw [List.length_set,hl];omega),List.take_set_of_le (Nat.le_refl _),List.getElem_set_self,
  show k+xs.length=k+ws.length from by omega,put_take (by omega),val_take_succ _ _ _ hk,em]
 rw [take_window zs k _ (by omega)] at h3
 rw [hw,Nat.pow_add]
 generalize W64^k=P at *
 generalize W64^xs.length=R at *
 grind
theorem MulInv.finish {xs ys zs:List Nat} (h:MulInv xs ys zs ys.length):val W64 zs=val W64 xs*val W64 ys:=by
 obtain ⟨_,h2,h3⟩:=h
 rwa [List.take_of_length_le (by omega),List.take_of_length_le (Nat.le_refl _)] at h3
set_option maxHeartbeats 1000000 in
theorem times_any (A:Option Addr) (n c:Nat) (xs:List Nat) (A' : Option Addr) (n' c' : Nat) (ys:List Nat) (w:World) (h:Rd w A n c xs) (h' : Rd w A' n' c' ys)
 (hd:Dig W64 xs) (hd' : Dig W64 ys) (hn:n≤2199023255552) (hn' : n'≤2199023255552) :
 Calls Tryz.prog 132 #[.slice A n c,.slice A' n' c'] w (GivesNt w (val W64 xs*val W64 ys)):=by
 have HX:=Lib.hid (And.intro h hd)
 have HY:=Lib.hid (And.intro h' hd')
 have hnc:n≤c:=h.cap
 have hcm:c≤9223372036854775807:=h.2.2.1
 have hnc' : n'≤c':=h'.cap
 have hcm' : c'≤9223372036854775807:=h'.2.2.1
 obtain ⟨i0,hi,hz0,hz1,hz2⟩:=info_parts info_word
 have HI:=Lib.hid (And.intro hi (And.intro hz0 (And.intro hz1 hz2)))
 clear h h' hd hd' hi hz0 hz1 hz2
 go_enter Tryz.func132,Tryz.ntmps132
 go_wp2_with (at_make;refine wpList_make_full _ rfl _ _ 109 rfl w.heap.size 175 i0 (.int .u64 0) 1 Tryz.underlying109 HI.out.1 HI.out.2.1 HI.out.2.2.1 _ _ _ _ (n+n') rfl rfl ?b0 ?b1 ?b2 ?b3 (Nat.le_refl _) ?_)
 case b0=>omega
 case b1=>omega
 case b2=>rw [HI.out.2.2.2];omega
 case b3=>show n+n'≤9223372036854775807;omega
 intro w1 hown hg1
 have hb1:Below w.heap.size w w1:=(Below.refl _ _).grown hg1 (Nat.le_refl _) (fun k h=>by cases h)
 have hblk:=blk_of_made hown
 have e0:MulInv xs ys (List.replicate (n+n') 0) 0:=by
  have:=MulInv.start xs ys
  rwa [HX.out.1.len,HY.out.1.len] at this
 have HB:=Lib.hid hblk
 have H0:=Lib.hid e0
 clear hown hg1 hblk e0
 obtain ⟨g,hg⟩:∃ g,g=w.heap.size:=⟨_,rfl⟩
 rw [← hg] at HB ⊢
 have HG:=Lib.hid hg
 clear hg
 go_wp2
 go_loopw [16] (fun i wr => ∃ (k:Nat) (zs:List Nat),k≤n'∧i = .int .i64 (k:Int)∧MulInv xs ys zs k∧Blk wr g 175 zs∧Below w.heap.size w wr) (fun i _=>n'-(intOf i).toNat)
 case atStart=>exact ⟨0,_,Nat.zero_le _,rfl,H0.out,HB.out,hb1⟩
 case round =>
  obtain ⟨k,zs,hk,rfl,hinv,hblk,hb⟩:=hrel
  have hzn:zs.length=n+n':=by rw [hinv.2.1,HX.out.1.len,HY.out.1.len]
  have HV:=Lib.hid hinv
  by_cases hlt:k<n'
  ·obtain ⟨ad',y,hA',_,hy,hcy⟩:=(HY.out.1.below hb).at_ (k:=k) hlt
   subst hA'
   have hncap:¬ n+n'=k:=by omega
   have hadd:=Lib.hid (addMultiple_any g k n (n+n'-k) 175 zs A n c xs y wr hblk hinv.1 (by omega) (Nat.le_refl _) (by omega) (by omega) (HX.out.1.below hb) HX.out.2 (HX.out.1.away (by rw [HG.out];exact Nat.le_refl _)) (HY.out.2.at_ hy))
   have HE:=Lib.hid (And.intro hy hzn)
   clear hy hblk hinv hzn
   go_wp2_with fail
   refine (hadd.out).mono ?_
   rintro e w2 ⟨ws,cy,rfl,hwl,hwd,hcyb,hwv,hblk2,hg2⟩
   have hb2:Below w.heap.size w w2:=hb.grown hg2 hb.size (fun k h=>by injection h with h;rw [← h,HG.out];exact Nat.le_refl _)
   have hzn:=HE.out.2
   obtain ⟨z,hcz⟩:∃ z:Int,w2.cell? ⟨g,k+n,none⟩=some (.int .u64 z):=⟨_,hblk2.cell_get (by rw [put_length (by omega)];omega)⟩
   have hfz:=hblk2.frozen (k+n)
   have HE2:=Lib.hid (And.intro hwl (And.intro hwd (And.intro hcyb (And.intro hwv hblk2))))
   clear hwl hwd hcyb hwv hblk2 hzn hcy hadd hb
   go_wp2
   go_roundw
   case rel =>
    obtain ⟨hwl,hwd,hcyb,hwv,hblk2⟩:=HE2.out
    have hs:=HV.out.step HE.out.1 (by rw [hwl,HX.out.1.len]) hwd hcyb (by rw [HX.out.1.len];exact hwv)
    rw [HX.out.1.len] at hs
    exact ⟨k+1,(put zs k ws).set (k+n) cy,by omega,by go_num,hs,hblk2.set_ _ _,hb2.setCell (by rw [HG.out];exact Nat.le_refl _) _⟩
   case measure=>simp [intOf];omega
  ·obtain rfl:k=n':=by omega
   have hrd:=hblk.rd (by rw [hzn];show n+k≤9223372036854775807;omega)
   rw [hzn] at hrd
   have hfin:=hinv
   rw [← HY.out.1.len] at hfin
   have HF:=Lib.hid (And.intro hinv.1 (And.intro hfin.finish hrd))
   clear hinv hblk hzn hrd hfin hlt
   go_wp2_with (go_at_call 191;refine (trimmed_any _ _ _ zs _ HF.out.2.2 HF.out.1).mono ?_;rintro e w' ⟨⟨v,rfl,hv⟩,rfl⟩)
   go_ret
   exact ⟨v,rfl,by rw [← HF.out.2.1];exact hv,hb⟩
end Go.Proofs.YtbhcckhbbclemaaGreatDoor
