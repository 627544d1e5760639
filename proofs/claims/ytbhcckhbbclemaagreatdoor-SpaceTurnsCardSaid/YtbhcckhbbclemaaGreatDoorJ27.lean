/- Parts of the proof, joined. -/
import Derived.Test.YtbhcckhbbclemaaGreatDoorJ21
import Derived.Test.YtbhcckhbbclemaaGreatDoorJ8
import Derived.Test.YtbhcckhbbclemaaGreatDoorJ10
import Derived.Test.YtbhcckhbbclemaaGreatDoorJ12
set_option linter.unusedSimpArgs false
set_option linter.unusedVariables false
namespace Go.Proofs.YtbhcckhbbclemaaGreatDoor
open Go.RowKit Pl
theorem cmpI_lt {a b:Nat} (h:a<b):cmpI a b = -1:=by unfold cmpI;rw [if_pos (by omega)]
theorem cmpI_gt {a b:Nat} (h:b<a):cmpI a b=1:=by unfold cmpI;rw [if_neg (by omega),if_pos (by omega)]
set_option maxHeartbeats 1000000 in
theorem compareDigits_any (A:Option Addr) (n c:Nat) (xs:List Nat) (A' : Option Addr) (n' c' : Nat) (ys:List Nat) (w:World) (h:Ri w A n c xs) (h' : Ri w A' n' c' ys)
 (hd:Dig B9 xs) (hd' : Dig B9 ys) (hn:Norm xs) (hn' : Norm ys) :
 Calls Tryz.prog 164 #[.slice A n c,.slice A' n' c'] w (Gives w (.int .i64 (cmpI (val B9 xs) (val B9 ys)))):=by
 have HX:=Lib.hid (And.intro h (And.intro hd hn))
 have HY:=Lib.hid (And.intro h' (And.intro hd' hn'))
 have hnc:n≤c:=h.cap
 have hcm:c≤9223372036854775807:=h.2.2.1
 have hnc' : n'≤c':=h'.cap
 have hcm' : c'≤9223372036854775807:=h'.2.2.1
 clear h h' hd hd' hn hn'
 rcases Nat.lt_trichotomy n n' with hl|hl|hl
 ·have ht:((n:Int) != n')=true:=by simp;omega
  have ht2:(n:Int)<n':=by omega
  have HL:=Lib.hid hl
  clear hl
  go_enter Tryz.func164,Tryz.ntmps164
  go_wp2
  go_ret
  refine ⟨ret_int ?_,Below.refl _ _⟩
  rw [cmpI_lt]
  exact lt_of_length B9_one HX.out.2.1 HY.out.2.2 (by rw [HX.out.1.len,HY.out.1.len];exact HL.out)
 ·subst hl
  have ht:((n:Int) != n)=false:=by simp
  go_enter Tryz.func164,Tryz.ntmps164
  go_wp2
  go_loopw [5] (fun i wr => ∃ k:Nat,k≤n∧Agree xs ys k∧i = .int .i64 ((k:Int)-1)∧Below w.heap.size w wr) (fun i _=>(intOf i+1).toNat)
  case atStart=>exact ⟨n,Nat.le_refl _,by unfold Agree;rw [List.drop_eq_nil_of_le (by rw [HX.out.1.len];omega),List.drop_eq_nil_of_le (by rw [HY.out.1.len];omega)],rfl,Below.refl _ _⟩
  case round =>
   obtain ⟨k,hk,hag,rfl,hb⟩:=hrel
   have HA:=Lib.hid hag
   clear hag
   rcases Nat.eq_zero_or_pos k with rfl|hk0
   ·go_wp2
    go_ret
    refine ⟨ret_int ?_,hb⟩
    have:=HA.out
    unfold Agree at this
    simp at this
    rw [this]
    unfold cmpI
    simp
   ·obtain ⟨m,rfl⟩:∃ m,k=m+1:=⟨k-1,by omega⟩
    obtain ⟨ad,x,hA,_,hx,hcx⟩:=(HX.out.1.below hb).at_ (k:=m) (by omega)
    obtain ⟨ad',y,hA',_,hy,hcy⟩:=(HY.out.1.below hb).at_ (k:=m) (by omega)
    subst hA
    subst hA'
    have HE:=Lib.hid (And.intro hx hy)
    clear hx hy hk0
    have hidx:((m:Int)+1-1)=m:=by omega
    simp only [Int.natCast_add,Int.natCast_one,hidx]
    clear hidx
    rcases Nat.lt_trichotomy x y with he|he|he
    ·have ht:(x:Int)<y:=by omega
     have HE2:=Lib.hid he
     clear he
     go_wp2
     go_quiet (fail)
     go_wp2
     go_ret
     refine ⟨ret_int ?_,drewN0 hb _⟩
     rw [← cmpI_lt HE2.out]
     exact cmpI_top (by rw [HX.out.1.len,HY.out.1.len]) HX.out.2.1 HY.out.2.1 (by rw [HX.out.1.len];omega) HA.out HE.out.1 HE.out.2 (by have:=HE2.out;omega)
    ·subst he
     have ht:¬ (x:Int)<x:=by omega
     go_wp2
     go_quiet (fail)
     have hcx2:(wr.drewN nq).cell? (ad.add m)=some (.int .i64 (x:Int)):=hcx
     have hcy2:(wr.drewN nq).cell? (ad'.add m)=some (.int .i64 (x:Int)):=hcy
     have hb2:=drewN0 hb nq
     clear hb hcx hcy
     generalize wr.drewN nq=w2 at *
     go_wp2
     go_quiet (fail)
     go_wp2
     go_roundw
     case rel=>exact ⟨m,by omega,HA.out.step HE.out.1 HE.out.2 rfl,rfl,drewN0 hb2 _⟩
     case measure=>simp [intOf]
    ·have ht:¬ (x:Int)<y:=by omega
     have ht2:(y:Int)<x:=by omega
     have HE2:=Lib.hid he
     clear he
     go_wp2
     go_quiet (fail)
     have hcx2:(wr.drewN nq).cell? (ad.add m)=some (.int .i64 (x:Int)):=hcx
     have hcy2:(wr.drewN nq).cell? (ad'.add m)=some (.int .i64 (y:Int)):=hcy
     have hb2:=drewN0 hb nq
     clear hb hcx hcy
     generalize wr.drewN nq=w2 at *
     go_wp2
     go_quiet (fail)
     go_wp2
     go_ret
     refine ⟨ret_int ?_,drewN0 hb2 _⟩
     rw [← cmpI_gt HE2.out]
     exact cmpI_top (by rw [HX.out.1.len,HY.out.1.len]) HX.out.2.1 HY.out.2.1 (by rw [HX.out.1.len];omega) HA.out HE.out.1 HE.out.2 (by have:=HE2.out;omega)
 ·have ht:((n:Int) != n')=true:=by simp;omega
  have ht2:¬ (n:Int)<n':=by omega
  have HL:=Lib.hid hl
  clear hl
  go_enter Tryz.func164,Tryz.ntmps164
  go_wp2
  go_ret
  refine ⟨ret_int ?_,Below.refl _ _⟩
  rw [cmpI_gt]
  exact lt_of_length B9_one HY.out.2.1 HX.out.2.2 (by rw [HX.out.1.len,HY.out.1.len];exact HL.out)
theorem digit_any (A:Option Addr) (n c:Nat) (xs:List Nat) (i:Nat) (w:World) (h:Ri w A n c xs) :
 Calls Tryz.prog 212 #[.slice A n c,.int .i64 (i:Int)] w fun e w'=>e = .returned (.int .i64 ((xs.getD i 0:Nat):Int))∧w=w':=by
 have hnc:n≤c:=h.cap
 have hcm:c≤9223372036854775807:=h.2.2.1
 by_cases hi:i<n
 ·obtain ⟨ad,x,rfl,_,hx,hcx⟩:=h.at_ hi
  have e:xs.getD i 0=x:=by simp [List.getD,hx]
  rw [e]
  clear hx e h
  go_enter Tryz.func212,Tryz.ntmps212
  go_wp2
  go_ret
  exact ⟨rfl,rfl⟩
 ·have e:xs.getD i 0=0:=by
   have:=h.len
   simp [List.getD,List.getElem?_eq_none (show xs.length≤i by omega)]
  rw [e]
  have hi2:¬ (i:Int)<n:=by omega
  clear e h hi
  go_enter Tryz.func212,Tryz.ntmps212
  go_wp2
  go_ret
  exact ⟨rfl,rfl⟩
theorem wrapI' {q:Nat} (h:q<9223372036854775808):wrap64 (q:Int)=q:=by unfold wrap64;omega
theorem cell_of_blk {w:World} {g:Nat} {cs:Array Value} {t:TypeId} {fr:Nat×Nat} (h:w.heap[g]?=some (.cells cs t fr)) (i:Nat):w.cell? ⟨g,i,none⟩=cs[i]?:=by
 unfold World.cell?
 rw [h]
 rfl
theorem info_int3:(Tryz.prog.info? 3).map (fun i=>(i.zero,i.size,i.bytes))=some (some (.int .i64 0),1,8):=by kernel_rfl
theorem row_ri' {w:World} {base m:Nat} {e:TypeId} {v:Value} {ws:List Nat} (h:w.ownsRow base e 1 v m (ws.map cellI)):∃ A c,v = .slice A m c∧Ri w A m c ws:=by
 obtain ⟨h1,h2⟩:=h
 have hl:ws.length=m:=by simpa using h1
 rcases h2 with ⟨rfl,rfl⟩|⟨g,cap,cur,rfl,e2,e3,e4,e5,e6,e7⟩
 ·have:ws = []:=List.eq_nil_of_length_eq_zero hl
  subst this
  exact ⟨none,0,rfl,Ri.nil⟩
 ·refine ⟨_,cap,rfl,hl,e4,e5,fun _=>⟨_,rfl,(Array.getElem?_eq_some_iff.1 e3).1,fun j x hx=>?_⟩⟩
  have ha:(⟨g,0,none⟩:Addr).add j=⟨g,j,none⟩:=by unfold Addr.add;split <;> simp_all
  have hc:w.cell? ⟨g,j,none⟩=cur[j]?:=by unfold World.cell?;rw [e3];rfl
  rw [ha,hc,← Array.getElem?_toList]
  have hj:(cur.toList.take (m*1))[0+j]?=some (.int .i64 (x:Int)):=by rw [e7,Nat.zero_add,List.getElem?_map,hx];rfl
  rw [List.getElem?_take,Nat.zero_add] at hj
  split at hj
  ·exact hj
  ·cases hj
theorem row_own' {w:World} {base m:Nat} {e:TypeId} {v:Value} {xs:List Value} (h:w.ownsRow base e 1 v m xs):∀ b,v.ownBlock=some b→base≤b:=by
 intro b hb
 obtain ⟨_,h2⟩:=h
 rcases h2 with ⟨rfl,_⟩|⟨g,cap,cur,rfl,e2,_⟩
 ·cases hb
 ·simp [Value.ownBlock] at hb;omega
def GivesRi (w:World) (a:Nat) (e:Ending) (w' : World):Prop := ∃ A n c xs,e = .returned (.slice A n c)∧Ri w' A n c xs∧Dig B9 xs∧val B9 xs=a∧Below w.heap.size w w'
theorem getD_over {l:List Nat} {k:Nat} (h:l.length≤k):l.getD k 0=0:=by simp [List.getD,List.getElem?_eq_none h]
theorem val_take_getD (B:Nat) (l:List Nat) (k:Nat):val B (l.take (k+1))=val B (l.take k)+B^k*l.getD k 0:=by
 rcases Nat.lt_or_ge k l.length with hl|hl
 ·rw [val_take_succ _ _ _ hl]
  simp [List.getD,List.getElem?_eq_getElem hl]
 ·rw [List.take_of_length_le (by omega),List.take_of_length_le hl]
  simp [List.getD,List.getElem?_eq_none hl]
def AddI (xs ys zs:List Nat) (k cy:Nat):Prop:=cy≤1∧Dig B9 zs∧zs.length=k∧val B9 zs+B9^k*cy=val B9 (xs.take k)+val B9 (ys.take k)
theorem AddI.step {xs ys zs:List Nat} {k cy s:Nat} (h:AddI xs ys zs k cy) (hx:Dig B9 xs) (hy:Dig B9 ys) (hs:s=xs.getD k 0+ys.getD k 0+cy):AddI xs ys (zs ++ [s%B9]) (k+1) (s/B9):=by
 obtain ⟨h1,h2,h3,h4⟩:=h
 have bx:=hx.get0 B9_pos k
 have by':=hy.get0 B9_pos k
 have hq:s/B9≤1:=by
  generalize xs.getD k 0=x at *
  generalize ys.getD k 0=y at *
  subst hs
  rw [B9_eq] at *
  clear hx hy h2 h4
  omega
 refine ⟨hq,h2.app (Dig.cons (Nat.mod_lt _ B9_pos) (Dig.nil _)),by simp [h3],?_⟩
 rw [val_snoc,h3,val_take_getD,val_take_getD,Nat.pow_succ]
 have hdm:=Nat.div_add_mod s B9
 generalize s/B9=q at *
 generalize s%B9=r at *
 generalize xs.getD k 0=x at *
 generalize ys.getD k 0=y at *
 clear bx by' hq hx hy h2
 generalize B9=V at *
 grind
theorem AddI.finish {xs ys zs:List Nat} {k:Nat} (h:AddI xs ys zs k 0) (h1:xs.length≤k) (h2:ys.length≤k):val B9 zs=val B9 xs+val B9 ys:=by
 obtain ⟨_,_,_,h4⟩:=h
 rw [List.take_of_length_le h1,List.take_of_length_le h2,Nat.mul_zero,Nat.add_zero] at h4
 exact h4
theorem AddI.nil (xs ys:List Nat):AddI xs ys [] 0 0:=⟨by omega,Dig.nil _,rfl,by simp [val]⟩
theorem addFacts {x y cy:Nat} (bx:x<1000000000) (by' : y<1000000000) (bc:cy≤1):∃ p s r q:Nat,(x:Int)+(y:Int)=(p:Int)∧(p:Int)+(cy:Int)=(s:Int)∧wrap64 (p:Int)=p∧wrap64 (s:Int)=s ∧
 (s:Int).tmod 1000000000=(r:Int)∧(s:Int)%1000000000=(r:Int)∧(s:Int).tdiv 1000000000=(q:Int)∧(s:Int)/1000000000=(q:Int)∧wrap64 (q:Int)=q∧s=x+y+cy∧r=s%1000000000∧q=s/1000000000∧(x=0→y=0→q=0):=by
 refine ⟨x+y,x+y+cy,(x+y+cy)%1000000000,(x+y+cy)/1000000000,by omega,by omega,wrapI' (by omega),wrapI' (by omega),?_,by omega,?_,by omega,wrapI' (by omega),rfl,rfl,rfl,by omega⟩
 ·rw [Int.tmod_eq_emod_of_nonneg (by omega)];omega
 ·rw [Int.tdiv_eq_ediv_of_nonneg (by omega)];omega
set_option maxHeartbeats 1000000 in
set_option maxRecDepth 100000 in
theorem addDigits_any (A:Option Addr) (n c:Nat) (xs:List Nat) (A' : Option Addr) (n' c' : Nat) (ys:List Nat) (w:World) (h:Ri w A n c xs) (h' : Ri w A' n' c' ys)
 (hd:Dig B9 xs) (hd' : Dig B9 ys) (hn:n≤2199023255552) (hn' : n'≤2199023255552) :
 Calls Tryz.prog 168 #[.slice A n c,.slice A' n' c'] w (GivesRi w (val B9 xs+val B9 ys)):=by
 have HX:=Lib.hid (And.intro h hd)
 have HY:=Lib.hid (And.intro h' hd')
 have HN:=Lib.hid (And.intro hn hn')
 have hnc:n≤c:=h.cap
 have hcm:c≤9223372036854775807:=h.2.2.1
 have hnc' : n'≤c':=h'.cap
 have hcm' : c'≤9223372036854775807:=h'.2.2.1
 obtain ⟨i0,hi,hz0,hz1,hz2⟩:=info_parts info_int3
 have HI:=Lib.hid (And.intro hi (And.intro hz0 (And.intro hz1 hz2)))
 clear h h' hd hd' hi hz0 hz1 hz2
 go_enter Tryz.func168,Tryz.ntmps168
 go_wp2
 go_loopw [5,6,7] (fun ov cv iv wr => ∃ (k cy:Nat) (zs:List Nat),iv = .int .i64 (k:Int)∧cv = .int .i64 (cy:Int)∧AddI xs ys zs k cy∧wr.ownsRow w.heap.size 3 1 ov k (zs.map cellI)∧Below w.heap.size w wr∧(k≤max n n'∨(cy=0∧k≤max n n'+1))) (fun _ _ iv _=>max n n'+1-(intOf iv).toNat)
 case atStart=>exact ⟨0,0,[],rfl,rfl,AddI.nil _ _,⟨rfl,.inl ⟨rfl,rfl⟩⟩,Below.refl _ _,.inl (Nat.zero_le _)⟩
 case round =>
  obtain ⟨k,cy,zs,rfl,rfl,hinv,hrow,hb,hk⟩:=hrel
  by_cases hgo:k<n∨k<n'∨0<cy
  ·have tri:(k:Int)<n∨(¬ (k:Int)<n∧(k:Int)<n')∨(¬ (k:Int)<n∧¬ (k:Int)<n'∧cy=1):=by
    have bc:=hinv.1
    clear hrow hinv hb
    omega
   have hkm:k≤max n n':=by omega
   have hkB:k≤2199023255552:=by have:=HN.out;omega
   obtain ⟨x,hx⟩:∃ x,x=xs.getD k 0:=⟨_,rfl⟩
   obtain ⟨y,hy⟩:∃ y,y=ys.getD k 0:=⟨_,rfl⟩
   have bx:x<1000000000:=by rw [hx];exact HX.out.2.get0 B9_pos k
   have by' : y<1000000000:=by rw [hy];exact HY.out.2.get0 B9_pos k
   have bc:cy≤1:=hinv.1
   obtain ⟨p,s,r,q,e1,e2,e3,e4,t1,t2,t3,t4,t5,hs,hr,hq,hq0⟩:=addFacts bx by' bc
   have hst:AddI xs ys (zs ++ [r]) (k+1) q:=by
    have:=hinv.step HX.out.2 HY.out.2 (s:=s) (by rw [hs,hx,hy])
    rw [B9_eq,← hr,← hq] at this
    exact this
   have cd:=Lib.hid (fun w' (hb' : Below w.heap.size w w')=>digit_any A n c xs k w' (HX.out.1.below hb'))
   have cd':=Lib.hid (fun w' (hb' : Below w.heap.size w w')=>digit_any A' n' c' ys k w' (HY.out.1.below hb'))
   rw [← hx] at cd
   rw [← hy] at cd'
   have hk' : k<max n n'∨q=0∧k≤max n n':=by
    rcases Nat.lt_or_ge k (max n n') with hlt|hge
    ·exact .inl hlt
    ·right
     have hl1:=HX.out.1.len
     have hl2:=HY.out.1.len
     have z1:x=0:=by rw [hx];exact getD_over (by rw [hl1];exact Nat.le_trans (Nat.le_max_left n n') hge)
     have z2:y=0:=by rw [hy];exact getD_over (by rw [hl2];exact Nat.le_trans (Nat.le_max_right n n') hge)
     exact ⟨hq0 z1 z2,hkm⟩
   have HS:=Lib.hid (And.intro hst (And.intro hrow (And.intro hb (And.intro hk' (And.intro hkm hinv.2.2.1)))))
   clear hst hrow hb hk hkm hk' hinv hx hy hs hr hq bx by' bc hq0 hgo
   rcases tri with b1|⟨b1,b2⟩|⟨b1,b2,b3⟩
   all_goals
    try subst b3
    try simp only [Int.natCast_one] at e2
    go_wp2_with fail
    refine (cd.out _ HS.out.2.2.1).mono ?_
    rintro e w' ⟨rfl,rfl⟩
    go_wp2_with fail
    refine (cd'.out _ HS.out.2.2.1).mono ?_
    rintro e w' ⟨rfl,rfl⟩
    go_wp2_with (at_builtin;refine wpList_append_own _ rfl _ _ 92 rfl w.heap.size 3 i0 (.int .i64 0) 1 8 Tryz.underlying92 HI.out.1 HI.out.2.1 HI.out.2.2.1 HI.out.2.2.2 rfl (by decide) _ _ _ rfl (HS.out.2.1.alloc _) ⟨wr.heap.size,0,none⟩ 1 1 [.int .i64 (r:Int)] rfl rfl ?k1 ?k2 ?k3 ?k4 ?k5 ?_)
    try (case k1 =>
     intro j u hj
     match j with
     | 0 =>
       simp only [List.getElem?_cons_zero,Option.some.injEq] at hj
       subst hj
       exact cell_of_blk (heap_alloc_new wr _) 0
     | j+1=>simp at hj)
    case k2=>first|rfl|(intro u hu;simp at hu;subst hu;rfl)
    case k3=>show k+1≤9223372036854775807;omega
    case k4=>omega
    case k5=>have:=HS.out.2.2.1.size;simp;omega
    intro v' w3 hr3 hg3 _
    obtain ⟨hst,hrow,hb,hk',hkm,hzl⟩:=HS.out
    have hbw:Below w.heap.size w w3:=Below.grown (hb.alloc hb.size _) hg3 (by have:=hb.size;simp;omega) (fun b hb'=>row_own' hrow b hb')
    have HX3:=Lib.hid (And.intro hst (And.intro hr3 (And.intro hbw (And.intro hk' hkm))))
    clear hst hrow hb hk' hkm hzl hr3 hg3 hbw
    go_wp2
    go_roundw
    case rel =>
     obtain ⟨hst,hr3,hbw,hk',hkm⟩:=HX3.out
     refine ⟨k+1,q,zs ++ [r],by first|rfl|go_num|simp,by first|rfl|rw [t5]|simp,hst,?_,hbw,?_⟩
     ·rw [List.map_append];exact hr3
     ·exact hk'.imp (fun h=>h) (fun h=>⟨h.1,Nat.succ_le_succ h.2⟩)
    case measure =>
     have hkm:=HX3.out.2.2.2.2
     clear e1 e2 e3 e4 t1 t2 t3 t4 t5 HX3
     simp [intOf];omega
  ·have hc0:cy=0:=by omega
   subst hc0
   obtain ⟨A2,c2,rfl,hri⟩:=row_ri' hrow
   have hv:=hinv.finish (by rw [HX.out.1.len];omega) (by rw [HY.out.1.len];omega)
   have HF:=Lib.hid (And.intro hri (And.intro hinv.2.1 (And.intro hv hb)))
   have b1:¬ (k:Int)<n:=by omega
   have b2:¬ (k:Int)<n':=by omega
   clear hri hinv hv hb hk hgo hrow
   go_wp2
   go_ret
   exact ⟨A2,k,c2,zs,rfl,HF.out⟩
def Di (w:World) (v:Value) (a:Nat):Prop := ∃ A n c xs,v = .slice A n c∧Ri w A n c xs∧Dig B9 xs∧Norm xs∧val B9 xs=a
theorem Di.below {w w' : World} {v:Value} {a:Nat} (h:Di w v a) (hb:Below w.heap.size w w'):Di w' v a:=by
 obtain ⟨A,n,c,xs,hv,hr,hd,hn,ha⟩:=h
 exact ⟨A,n,c,xs,hv,hr.below hb,hd,hn,ha⟩
def GivesDi (w:World) (a:Nat) (e:Ending) (w' : World):Prop := ∃ v,e = .returned v∧Di w' v a∧Below w.heap.size w w'
def GivesDi2 (w:World) (a b:Nat) (e:Ending) (w' : World):Prop := ∃ v v',e = .returned (.tuple #[v,v'])∧Di w' v a∧Di w' v' b∧Below w.heap.size w w'
theorem trim_any (A:Option Addr) (n c:Nat) (xs:List Nat) (w:World) (h:Ri w A n c xs) (hd:Dig B9 xs) :
 Calls Tryz.prog 166 #[.slice A n c] w fun e w'=>(∃ v,e = .returned v∧Di w v (val B9 xs))∧w=w':=by
 refine (trim_raw A n c xs w h).mono ?_
 rintro e w' ⟨⟨k,⟨hk,hn,hv⟩,rfl⟩,rfl⟩
 exact ⟨⟨_,rfl,A,k,c,xs.take k,rfl,h.take (by rw [← h.len];exact hk),hd.take k,hn,hv⟩,rfl⟩
theorem val_set (B:Nat):∀ (l:List Nat) (p d:Nat) (h:p<l.length),val B (l.set p d)+B^p*l[p]=val B l+B^p*d
 | x::l,0,d,_=>by simp [val];omega
 | x::l,p+1,d,h=>by
   have:=val_set B l p d (by simpa using h)
   simp only [List.set_cons_succ,val,List.getElem_cons_succ,Nat.pow_succ]
   have e:B*(val B (l.set p d)+B^p*l[p]'(by simpa using h))=B*(val B l+B^p*d):=by rw [this]
   rw [Nat.mul_add,Nat.mul_add] at e
   have e1:B^p*B*l[p]'(by simpa using h)=B*(B^p*l[p]'(by simpa using h)):=by rw [Nat.mul_comm (B^p) B,Nat.mul_assoc]
   have e2:B^p*B*d=B*(B^p*d):=by rw [Nat.mul_comm (B^p) B,Nat.mul_assoc]
   rw [e1,e2]
   omega
theorem bi_of_made {w:World} {g base n:Nat} (h:w.ownsRow base 3 1 (.slice (some ⟨g,0,none⟩) n n) n (madeCells #[Value.int .i64 0] n).toList):Bi w g 3 (List.replicate n 0):=by
 refine Bi.of_own h ?_
 rw [toList_madeCells_one]
 simp [cellI]
theorem getD_get {l:List Nat} {k x:Nat} (h:l[k]?=some x):l.getD k 0=x:=by simp [List.getD,h]
theorem subFacts {x y cy:Nat} (bx:x<1000000000) (by' : y<1000000000) (bc:cy≤1):∃ (d s:Int) (r q:Nat),(x:Int)-(y:Int)=d∧d-(cy:Int)=s∧wrap64 d=d∧wrap64 s=s∧r<1000000000∧q≤1 ∧
 (s=(r:Int)∧q=0∨(s<0∧s+1000000000=(r:Int)∧wrap64 (r:Int)=r∧q=1))∧r+y+cy=x+1000000000*q:=by
 by_cases h:y+cy≤x
 ·refine ⟨x-y,x-y-cy,x-y-cy,0,rfl,rfl,?_,?_,by omega,by omega,.inl ⟨by omega,rfl⟩,by omega⟩ <;> unfold wrap64 <;> omega
 ·refine ⟨x-y,x-y-cy,x+1000000000-y-cy,1,rfl,rfl,?_,?_,by omega,by omega,.inr ⟨by omega,by omega,wrapI' (by omega),rfl⟩,by omega⟩ <;> unfold wrap64 <;> omega
theorem mulFacts {o x y cy:Nat} (bo:o<1000000000) (bx:x≤1000000000) (by' : y<1000000000) (bc:cy<1000000000):∃ u p s r q:Nat,(x:Int)*(y:Int)=(u:Int)∧(o:Int)+(u:Int)=(p:Int)∧(p:Int)+(cy:Int)=(s:Int) ∧
 wrap64 (u:Int)=u∧wrap64 (p:Int)=p∧wrap64 (s:Int)=s∧(s:Int).tmod 1000000000=(r:Int)∧(s:Int)%1000000000=(r:Int)∧(s:Int).tdiv 1000000000=(q:Int)∧(s:Int)/1000000000=(q:Int)∧wrap64 (q:Int)=q ∧
 s=o+x*y+cy∧r=s%1000000000∧q=s/1000000000∧(x<1000000000→q<1000000000)∧q≤1000000000:=by
 have h1:x*y≤1000000000*999999999:=Nat.mul_le_mul bx (by omega)
 have h2:x<1000000000→x*y≤999999999*999999999:=fun h=>Nat.mul_le_mul (by omega) (by omega)
 have h3:(x:Int)*(y:Int)=((x*y:Nat):Int):=by simp
 generalize x*y=u at *
 refine ⟨u,o+u,o+u+cy,(o+u+cy)%1000000000,(o+u+cy)/1000000000,h3,by omega,by omega,wrapI' (by omega),wrapI' (by omega),wrapI' (by omega),?_,by omega,?_,by omega,wrapI' (by omega),rfl,rfl,rfl,fun h=>?_,by omega⟩
 ·rw [Int.tmod_eq_emod_of_nonneg (by omega)];omega
 ·rw [Int.tdiv_eq_ediv_of_nonneg (by omega)];omega
 ·have:=h2 h;omega
theorem divFacts {rs x d:Nat} (hd:0<d) (hd1:d<1000000000) (hr:rs<d) (hx:x<1000000000):∃ u s q r:Nat,(rs:Int)*1000000000=(u:Int)∧(u:Int)+(x:Int)=(s:Int)∧wrap64 (u:Int)=u∧wrap64 (s:Int)=s ∧
 (s:Int).tdiv d=(q:Int)∧(s:Int)/d=(q:Int)∧(s:Int).tmod d=(r:Int)∧(s:Int)%d=(r:Int)∧wrap64 (q:Int)=q∧s=rs*1000000000+x∧q=s/d∧r=s%d∧r<d∧q<1000000000:=by
 have hq:(rs*1000000000+x)/d<1000000000:=by
  rw [Nat.div_lt_iff_lt_mul hd]
  have:(rs+1)*1000000000≤d*1000000000:=Nat.mul_le_mul_right _ hr
  omega
 refine ⟨rs*1000000000,rs*1000000000+x,(rs*1000000000+x)/d,(rs*1000000000+x)%d,by omega,by omega,wrapI' (by omega),wrapI' (by omega),?_,?_,?_,?_,wrapI' (by omega),rfl,rfl,rfl,Nat.mod_lt _ hd,hq⟩
 ·rw [Int.tdiv_eq_ediv_of_nonneg (by omega)];simp
 ·simp
 ·rw [Int.tmod_eq_emod_of_nonneg (by omega)];simp
 ·simp
theorem not_neg (r:Nat):¬ (r:Int)<0:=Int.not_lt.2 (Int.natCast_nonneg r)
theorem wpList_app {ops:Array Oper} {rest:List Oper} {o:Oper} {a:Act} {Q:Exit→Act→World→Prop} (hgd:o.guard=none) (s x:Operand)
 (ho:o.op = .call { callee := .builtin .append,args := #[s,x],argTypes := #[92,92] }) {B base k r:Nat} {v:Value} {zs:List Nat} {w w2:World} (hs:a.eval s=v) (hown:w2.ownsRow base 3 1 v k (zs.map cellI))
 (hx:a.eval x = .slice (some ⟨w2.heap.size,0,none⟩) 1 1) (hk:k≤2199023255999) (hb:Below B w w2) (hB:B≤base) (hbase:base≤w2.heap.size)
 (h:∀ v' w',w'.ownsRow base 3 1 v' (k+1) ((zs ++ [r]).map cellI)→Below B w w'→(w2.alloc (.cells #[.int .i64 (r:Int)] 3)).grownBy w' v.ownBlock→wpList Tryz.prog ops Q rest (a.put o.dst v') w') :
 wpList Tryz.prog ops Q (o::rest) a (w2.alloc (.cells #[.int .i64 (r:Int)] 3)):=by
 obtain ⟨i0,hi,hz0,hz1,hz2⟩:=info_parts info_int3
 refine wpList_append_own _ hgd s x 92 ho base 3 i0 (.int .i64 0) 1 8 Tryz.underlying92 hi hz0 hz1 hz2 rfl (by decide) v k (zs.map cellI) hs (hown.alloc _) ⟨w2.heap.size,0,none⟩ 1 1 [.int .i64 (r:Int)] hx rfl ?_ ?_ ?_ ?_ ?_ ?_
 ·intro j u hj
  match j with
  | 0 =>
    simp only [List.getElem?_cons_zero,Option.some.injEq] at hj
    subst hj
    exact cell_of_blk (heap_alloc_new w2 _) 0
  | j+1=>simp at hj
 ·intro u hu;simp at hu;subst hu;rfl
 ·show k+1≤9223372036854775807;omega
 ·omega
 ·simp;omega
 ·intro v' w' h1 h2 _
  have hsz:=hb.size
  refine h v' w' (by rw [List.map_append];exact h1) ((hb.alloc (Nat.le_trans hB hbase) _).grown h2 (by simp;omega) (fun b hb'=>?_)) h2
  have:=row_own' hown b hb'
  omega
def DivJ (xs zs:List Nat) (d k r:Nat):Prop :=
 Dig B9 zs∧zs.length=xs.length∧r<d∧val B9 (zs.drop k)*d+r=val B9 (xs.drop k)
theorem DivJ.step {xs zs:List Nat} {d k r x:Nat} (h:DivJ xs zs d (k+1) r) (hx:xs[k]?=some x) (hq:(r*B9+x)/d<B9) :
 DivJ xs (zs.set k ((r*B9+x)/d)) d k ((r*B9+x)%d):=by
 obtain ⟨h1,h2,h3,h4⟩:=h
 obtain ⟨hk,ex⟩:=List.getElem?_eq_some_iff.1 hx
 refine ⟨h1.set hq,by simp [h2],Nat.mod_lt _ (by omega),?_⟩
 have e:(zs.set k ((r*B9+x)/d)).drop k=(r*B9+x)/d::zs.drop (k+1):=by
  rw [List.drop_eq_getElem_cons (by simp;omega),List.getElem_set_self,List.drop_set_of_lt (by omega)]
 rw [e,val_drop _ _ _ hk,ex]
 simp only [val]
 have:=Nat.div_add_mod (r*B9+x) d
 rw [← h4]
 generalize (r*B9+x)/d=q at *
 generalize (r*B9+x)%d=m at *
 clear hq h1 h3 e
 generalize B9=V at *
 grind
theorem DivJ.start (xs:List Nat) {d:Nat} (hd:0<d):DivJ xs (List.replicate xs.length 0) d xs.length 0:=⟨Dig.replicate B9_pos _,by simp,hd,by simp [val]⟩
theorem DivJ.finish {xs zs:List Nat} {d r:Nat} (h:DivJ xs zs d 0 r):val B9 zs=val B9 xs/d∧r=val B9 xs%d:=by
 obtain ⟨_,_,h3,h4⟩:=h
 simp only [List.drop_zero] at h4
 rw [← h4]
 constructor
 ·rw [Nat.add_comm,Nat.add_mul_div_right _ _ (by omega),Nat.div_eq_of_lt h3];omega
 ·rw [Nat.add_comm,Nat.add_mul_mod_self_right,Nat.mod_eq_of_lt h3]
theorem ret_two' {a b c d:Value} (h:a=c) (h' : b=d):Ending.returned (.tuple #[a,b]) = .returned (.tuple #[c,d]):=by rw [h,h']
theorem val_i64 {a b:Nat} (h:a=b):Value.int .i64 (a:Int) = .int .i64 (b:Int):=by rw [h]
def GivesDiI (w:World) (a b:Nat) (e:Ending) (w' : World):Prop := ∃ v,e = .returned (.tuple #[v,.int .i64 (b:Int)])∧Di w' v a∧Below w.heap.size w w'
set_option maxHeartbeats 1000000 in
set_option maxRecDepth 100000 in
theorem divDigit_any (A:Option Addr) (n c:Nat) (xs:List Nat) (d:Nat) (w:World) (h:Ri w A n c xs) (hd:Dig B9 xs) (hn:n≤2199023255552) (hd0:0<d) (hd1:d<1000000000) :
 Calls Tryz.prog 165 #[.slice A n c,.int .i64 (d:Int)] w (GivesDiI w (val B9 xs/d) (val B9 xs%d)):=by
 have HX:=Lib.hid (And.intro h (And.intro hd (And.intro hd0 hd1)))
 have hnc:n≤c:=h.cap
 have hcm:c≤9223372036854775807:=h.2.2.1
 have hdz:((d:Int)==0)=false:=by simp;omega
 have hdz1:¬ (d:Int)=0:=by omega
 have hdz2:¬ (d:Int) = -1:=by omega
 have hdz3:((d:Int) == -1)=false:=by simp
 obtain ⟨i0,hi,hz0,hz1,hz2⟩:=info_parts info_int3
 have HI:=Lib.hid (And.intro hi (And.intro hz0 (And.intro hz1 hz2)))
 clear h hd hi hz0 hz1 hz2 hd0 hd1
 go_enter Tryz.func165,Tryz.ntmps165
 go_wp2_with (at_make;refine wpList_make_full _ rfl _ _ 92 rfl w.heap.size 3 i0 (.int .i64 0) 1 Tryz.underlying92 HI.out.1 HI.out.2.1 HI.out.2.2.1 _ _ _ _ n rfl rfl ?b0 ?b1 ?b2 ?b3 (Nat.le_refl _) ?_)
 case b0=>rfl
 case b1=>rfl
 case b2=>rw [HI.out.2.2.2];omega
 case b3=>show n≤9223372036854775807;omega
 intro w1 hown hg1
 have hb1:Below w.heap.size w w1:=(Below.refl _ _).grown hg1 (Nat.le_refl _) (fun k h=>by cases h)
 have hblk:=bi_of_made hown
 have e0:DivJ xs (List.replicate n 0) d n 0:=by
  have:=DivJ.start xs HX.out.2.2.1
  rwa [HX.out.1.len] at this
 have HB:=Lib.hid hblk
 have H0:=Lib.hid e0
 clear hown hg1 hblk e0
 obtain ⟨g,hg⟩:∃ g,g=w.heap.size:=⟨_,rfl⟩
 rw [← hg] at HB ⊢
 have HG:=Lib.hid hg
 clear hg
 go_wp2
 go_loopw [7,8] (fun rs i wr => ∃ (k r:Nat) (zs:List Nat),k≤n∧i = .int .i64 ((k:Int)-1)∧rs = .int .i64 (r:Int)∧DivJ xs zs d k r∧Bi wr g 3 zs∧Below w.heap.size w wr) (fun _ i _=>(intOf i+1).toNat)
 case atStart=>exact ⟨n,0,_,Nat.le_refl _,rfl,rfl,H0.out,HB.out,hb1⟩
 case round =>
  clear HB H0 hb1
  obtain ⟨k,r,zs,hk,rfl,rfl,hinv,hblk,hb⟩:=hrel
  have hzn:zs.length=n:=by rw [hinv.2.1,HX.out.1.len]
  rcases Nat.eq_zero_or_pos k with rfl|hk0
  ·have hrd:=hblk.rd (by rw [hzn];show n≤9223372036854775807;omega)
   rw [hzn] at hrd
   obtain ⟨f1,f2⟩:=hinv.finish
   have HF:=Lib.hid (And.intro hinv.1 (And.intro hrd (And.intro f1 (And.intro f2 hb))))
   clear hinv hblk hzn hrd f1 f2 hb
   simp only [show (((0:Nat):Int)-1) = -1 from rfl]
   go_wp2_with (go_at_call 166;refine (trim_any _ _ _ zs _ HF.out.2.1 HF.out.1).mono ?_;rintro e w' ⟨⟨v,rfl,hv⟩,rfl⟩)
   go_ret2
   exact ⟨v,ret_two' rfl (val_i64 HF.out.2.2.2.1),by rw [← HF.out.2.2.1];exact hv,HF.out.2.2.2.2⟩
  ·obtain ⟨m,rfl⟩:∃ m,k=m+1:=⟨k-1,by omega⟩
   obtain ⟨ad,x,rfl,_,hx,hcx⟩:=(HX.out.1.below hb).at_ (k:=m) (by omega)
   obtain ⟨u,s,q,r',e1,e2,e3,e4,t1,t2,t3,t4,t5,hs,hq,hr,hrd,hqb⟩:=divFacts HX.out.2.2.1 HX.out.2.2.2 hinv.2.2.1 (HX.out.2.1.at_ hx)
   have hst:=hinv.step hx (by rw [B9_eq,← hs,← hq];exact hqb)
   rw [B9_eq,← hs,← hq,← hr] at hst
   obtain ⟨z,hcz⟩:∃ z:Int,wr.cell? ⟨g,m,none⟩=some (.int .i64 z):=⟨_,hblk.cell_get (by omega)⟩
   have hfz:=hblk.frozen m
   have HE:=Lib.hid (And.intro hst (And.intro hblk (And.intro hb (by omega:m≤n))))
   have hidx:((m:Int)+1-1)=m:=by omega
   clear hx hblk hinv hst hk0 hzn hs hq hr hrd hqb hb
   simp only [Int.natCast_add,Int.natCast_one,hidx]
   clear hidx
   go_wp2
   go_roundw
   case rel=>exact ⟨m,r',zs.set m q,HE.out.2.2.2,by first|rfl|go_num|simp,by first|rfl|simp,HE.out.1,HE.out.2.1.set_ _ _,HE.out.2.2.1.setCell (by rw [HG.out];exact Nat.le_refl _) _⟩
   case measure =>
    clear e1 e2 e3 e4 t1 t2 t3 t4 t5 HE
    simp [intOf]
def gD (N2 low f s:Nat):Nat:=min ((N2*B9+low)/(f*B9+s)) (B9-1)
theorem gd_iff {N2 low f s m rs:Nat} (hf:0<f) (h:m*f+rs=N2):m≤(N2*B9+low)/(f*B9+s)↔m*s≤rs*B9+low:=by
 have hp:0<f*B9:=Nat.mul_pos hf B9_pos
 rw [Nat.le_div_iff_mul_le (by omega)]
 subst h
 have e1:m*(f*B9+s)=m*f*B9+m*s:=by rw [Nat.mul_add,Nat.mul_assoc]
 have e2:(m*f+rs)*B9=m*f*B9+rs*B9:=Nat.add_mul _ _ _
 rw [e1,e2]
 omega
theorem gd_start {N2 low f s:Nat} (hf:0<f) (hl:low<B9):gD N2 low f s≤N2/f:=Nat.le_trans (Nat.min_le_left _ _) (guess_ge rfl rfl hl hf)
theorem gd_exit {N2 low f s m rs:Nat} (hf:0<f) (h:m*f+rs=N2) (hm:m<B9) (hle:m*s≤rs*B9+low) (hg:gD N2 low f s≤m):gD N2 low f s=m:=by
 refine Nat.le_antisymm hg ?_
 have:=(gd_iff (s:=s) (low:=low) hf h).2 hle
 exact Nat.le_min.2 ⟨this,by omega⟩
theorem gd_cont1 {N2 low f s m:Nat} (hm:B9≤m+1):gD N2 low f s≤m:=Nat.le_trans (Nat.min_le_right _ _) (by omega)
theorem gd_cont2 {N2 low f s m rs:Nat} (hf:0<f) (h:(m+1)*f+rs=N2) (hle:¬ (m+1)*s≤rs*B9+low):gD N2 low f s≤m:=by
 have:=mt (gd_iff (s:=s) (low:=low) hf h).1 hle
 exact Nat.le_trans (Nat.min_le_left _ _) (by omega)
theorem gd_over {high mid low f s m rs:Nat} (hf:0<f) (h:m*f+rs=high*B9+mid) (hh:high≤f) (hmid:mid<B9) (hs:s<B9) (hr:B9≤rs) (hg:gD (high*B9+mid) low f s≤m):gD (high*B9+mid) low f s=m:=by
 have hm:m<B9:=by
  rcases Nat.lt_or_ge m B9 with e|e
  ·exact e
  ·exfalso
   have h1:B9*f≤m*f:=Nat.mul_le_mul_right _ e
   have h2:high*B9≤f*B9:=Nat.mul_le_mul_right _ hh
   rw [Nat.mul_comm] at h1
   omega
 refine gd_exit hf h hm ?_ hg
 have h1:m*s≤B9*B9:=Nat.mul_le_mul (Nat.le_of_lt hm) (Nat.le_of_lt hs)
 have h2:B9*B9≤rs*B9:=Nat.mul_le_mul_right _ hr
 omega
theorem gd_lt {N2 low f s:Nat}:gD N2 low f s<B9:=Nat.lt_of_le_of_lt (Nat.min_le_right _ _) (by have:=B9_pos;omega)
theorem gd3 {N2 low f s:Nat} (hf:0<f):gD N2 low f s*(f*B9+s)≤N2*B9+low :=
 Nat.le_trans (Nat.mul_le_mul_right _ (Nat.min_le_left _ _)) (Nat.div_mul_le_self _ _)
theorem u3_alg' (A P V low mid h:Nat):A+P*low+P*V*mid+P*V*V*h=((h*V+mid)*V+low)*P+A:=by grind
theorem v2_alg' (A P V s f:Nat):A+P*s+P*V*f=(f*V+s)*P+A:=by grind
theorem gd_ok {us vs:List Nat} {m h mid low f s:Nat} (hu:us.length=m+3) (hv:vs.length=m+2) (du:Dig B9 us) (dv:Dig B9 vs)
 (g0:us[m+2]?=some h) (g1:us[m+1]?=some mid) (g2:us[m]?=some low) (g3:vs[m+1]?=some f) (g4:vs[m]?=some s) (hf:0<f) (hlt:val B9 us<val B9 vs*B9) :
 val B9 us/val B9 vs≤gD (h*B9+mid) low f s∧gD (h*B9+mid) low f s≤val B9 us/val B9 vs+1∧h≤f:=by
 obtain ⟨k0,e0⟩:=List.getElem?_eq_some_iff.1 g0
 obtain ⟨k1,e1⟩:=List.getElem?_eq_some_iff.1 g1
 obtain ⟨k2,e2⟩:=List.getElem?_eq_some_iff.1 g2
 obtain ⟨k3,e3⟩:=List.getElem?_eq_some_iff.1 g3
 obtain ⟨k4,e4⟩:=List.getElem?_eq_some_iff.1 g4
 have l4:=dv.at_ g4
 have hul:=val_lt (du.take m)
 have hvl:=val_lt (dv.take m)
 rw [List.length_take,Nat.min_eq_left (by omega)] at hul hvl
 have hU:val B9 us=val B9 (us.take m)+B9^m*low+B9^(m+1)*mid+B9^(m+2)*h:=by
  have:val B9 us=val B9 (us.take (m+2+1)):=by rw [List.take_of_length_le (by omega)]
  rw [this,val_take_succ _ _ _ k0,val_take_succ _ _ _ k1,val_take_succ _ _ _ k2,e0,e1,e2]
 have hV:val B9 vs=val B9 (vs.take m)+B9^m*s+B9^(m+1)*f:=by
  have:val B9 vs=val B9 (vs.take (m+1+1)):=by rw [List.take_of_length_le (by omega)]
  rw [this,val_take_succ _ _ _ k3,val_take_succ _ _ _ k4,e3,e4]
 have U3:val B9 us=((h*B9+mid)*B9+low)*B9^m+val B9 (us.take m):=by
  rw [hU,show B9^(m+2)=B9^m*B9*B9 from by rw [Nat.pow_succ,Nat.pow_succ],Nat.pow_succ]
  exact u3_alg' _ _ _ _ _ _
 have V2:val B9 vs=(f*B9+s)*B9^m+val B9 (vs.take m):=by
  rw [hV,Nat.pow_succ]
  exact v2_alg' _ _ _ _ _
 have hfB:B9≤f*B9+s:=by
  have:1*B9≤f*B9:=Nat.mul_le_mul_right _ hf
  omega
 have hVp:0<val B9 vs:=by
  have:0<B9^(m+1)*f:=Nat.mul_pos (Nat.pow_pos B9_pos) hf
  omega
 have hq:val B9 us/val B9 vs<B9:=by rw [Nat.div_lt_iff_lt_mul hVp,Nat.mul_comm];exact hlt
 refine ⟨Nat.le_min.2 ⟨guess_ge (u2:=(h*B9+mid)*B9+low) (v1:=f*B9+s) U3 V2 hul (by have:=B9_pos;omega),by omega⟩,guess_le U3 V2 hvl (gd3 hf) (Nat.le_of_lt gd_lt) hfB,?_⟩
 rcases Nat.lt_or_ge f h with e|e
 ·exfalso
  have h1:B9^(m+2)*(f+1)≤B9^(m+2)*h:=Nat.mul_le_mul_left _ e
  have h2:val B9 vs<B9^(m+1)*(f+1):=by
   have h3:B9^m*(s+1)≤B9^m*B9:=Nat.mul_le_mul_left _ l4
   rw [Nat.mul_add,Nat.mul_one,← Nat.pow_succ] at h3
   rw [Nat.mul_add,Nat.mul_one]
   have h4:m.succ=m+1:=rfl
   rw [h4] at h3
   omega
  have h5:val B9 vs*B9<B9^(m+1)*(f+1)*B9:=Nat.mul_lt_mul_of_pos_right h2 B9_pos
  have h6:B9^(m+1)*(f+1)*B9=B9^(m+2)*(f+1):=by rw [Nat.pow_succ B9 (m+1),Nat.mul_right_comm]
  omega
 ·exact e
theorem guessFacts {m s rs low:Nat} (hm:m<1000000000) (hs:s<1000000000) (hr:rs<1000000000) (hl:low<1000000000):∃ P R S:Nat,(m:Int)*(s:Int)=(P:Int)∧(rs:Int)*1000000000=(R:Int)∧(R:Int)+(low:Int)=(S:Int) ∧
 wrap64 (P:Int)=P∧wrap64 (R:Int)=R∧wrap64 (S:Int)=S∧P=m*s∧S=rs*1000000000+low:=by
 have h1:m*s≤999999999*999999999:=Nat.mul_le_mul (by omega) (by omega)
 have h2:(m:Int)*(s:Int)=((m*s:Nat):Int):=by simp
 generalize m*s=P at *
 exact ⟨P,rs*1000000000,rs*1000000000+low,h2,by omega,by omega,wrapI' (by omega),wrapI' (by omega),wrapI' (by omega),rfl,rfl⟩
theorem guessTop {h mid f:Nat} (hh:h<1000000000) (hmid:mid<1000000000) (hf0:0<f) (hf:f<1000000000) (hle:h≤f):∃ u N q r:Nat,(h:Int)*1000000000=(u:Int)∧(u:Int)+(mid:Int)=(N:Int)∧wrap64 (u:Int)=u∧wrap64 (N:Int)=N ∧
 (N:Int).tdiv f=(q:Int)∧(N:Int)/f=(q:Int)∧(N:Int).tmod f=(r:Int)∧(N:Int)%f=(r:Int)∧wrap64 (q:Int)=q∧N=h*1000000000+mid∧q*f+r=N∧r<f∧q=N/f∧q≤2000000000:=by
 have hq:(h*1000000000+mid)/f≤2000000000:=by
  refine Nat.le_of_lt ((Nat.div_lt_iff_lt_mul hf0).2 ?_)
  omega
 refine ⟨h*1000000000,h*1000000000+mid,(h*1000000000+mid)/f,(h*1000000000+mid)%f,by omega,by omega,wrapI' (by omega),wrapI' (by omega),?_,?_,?_,?_,wrapI' (by omega),rfl,?_,Nat.mod_lt _ hf0,rfl,hq⟩
 ·rw [Int.tdiv_eq_ediv_of_nonneg (by omega)];simp
 ·simp
 ·rw [Int.tmod_eq_emod_of_nonneg (by omega)];simp
 ·simp
 ·rw [Nat.mul_comm];exact Nat.div_add_mod _ _
theorem put_dig9 {ys zs:List Nat} {o:Nat} (hy:Dig B9 ys) (hz:Dig B9 zs):Dig B9 (put ys o zs):=(hy.take _).app (hz.app (hy.drop _))
def LongJ (V U0 n' L:Nat) (us qs:List Nat) (k:Nat):Prop :=
 Dig B9 us∧us.length=L+n'∧Dig B9 qs∧qs.length=L∧val B9 (us.drop k)<V∧val B9 (qs.drop k)*V*B9^k+val B9 us=U0
theorem LongJ.window {V U0 n' L m:Nat} {us qs:List Nat} (h:LongJ V U0 n' L us qs (m+1)) (hm:m<L) (hV:V≤B9^n') :
 val B9 ((us.drop m).take (n'+1))=val B9 (us.drop m)∧val B9 (us.drop (m+(n'+1)))=0∧val B9 (us.drop m)<V*B9:=by
 obtain ⟨h1,h2,h3,h4,h5,h6⟩:=h
 have e1:=val_drop B9 us m (by omega)
 have l1:=h1.get m (by omega)
 have hlt:val B9 (us.drop m)<V*B9:=by
  have:B9*(val B9 (us.drop (m+1))+1)≤B9*V:=Nat.mul_le_mul_left _ h5
  rw [Nat.mul_add,Nat.mul_one] at this
  rw [Nat.mul_comm V]
  omega
 have e2:=val_split B9 (us.drop m) (n'+1) (by simp;omega)
 rw [List.drop_drop] at e2
 have hz:val B9 (us.drop (m+(n'+1)))=0:=by
  rcases Nat.eq_zero_or_pos (val B9 (us.drop (m+(n'+1)))) with e|e
  ·exact e
  ·exfalso
   have a1:B9^(n'+1)*1≤B9^(n'+1)*val B9 (us.drop (m+(n'+1))):=Nat.mul_le_mul_left _ e
   have a2:V*B9≤B9^n'*B9:=Nat.mul_le_mul_right _ hV
   rw [← Nat.pow_succ] at a2
   have:n'.succ=n'+1:=rfl
   rw [this] at a2
   omega
 rw [hz] at e2
 exact ⟨by omega,hz,hlt⟩
theorem LongJ.step {V U0 n' L m:Nat} {us qs zs:List Nat} (h:LongJ V U0 n' L us qs (m+1)) (hm:m<L) (hV:V≤B9^n') (hV0:0<V)
 (hz:zs.length=n'+1) (hzd:Dig B9 zs) (hzv:val B9 zs=val B9 ((us.drop m).take (n'+1))%V) :
 LongJ V U0 n' L (put us m zs) (qs.set m (val B9 ((us.drop m).take (n'+1))/V)) m:=by
 obtain ⟨w1,w2,w3⟩:=h.window hm hV
 obtain ⟨h1,h2,h3,h4,h5,h6⟩:=h
 rw [w1] at hzv ⊢
 have hq:val B9 (us.drop m)/V<B9:=by rw [Nat.div_lt_iff_lt_mul hV0,Nat.mul_comm];exact w3
 have hlen:m+zs.length≤us.length:=by omega
 have e1:val B9 ((put us m zs).drop m)=val B9 (us.drop m)%V:=by
  rw [put_drop hlen,val_append,hz,w2,hzv,Nat.mul_zero,Nat.add_zero]
 have e2:val B9 (put us m zs)=val B9 (us.take m)+B9^m*(val B9 (us.drop m)%V):=by
  rw [val_split B9 (put us m zs) m (by rw [put_length hlen];omega),put_take0 hlen,e1]
 have e3:=val_split B9 us m (by omega)
 have e4:(qs.set m (val B9 (us.drop m)/V)).drop m=val B9 (us.drop m)/V::qs.drop (m+1):=by
  rw [List.drop_eq_getElem_cons (by simp;omega),List.getElem_set_self,List.drop_set_of_lt (by omega)]
 have hdm:=Nat.div_add_mod (val B9 (us.drop m)) V
 refine ⟨put_dig9 h1 hzd,by rw [put_length hlen,h2],h3.set hq,by simp [h4],by rw [e1];exact Nat.mod_lt _ hV0,?_⟩
 rw [e4,e2,← h6,e3,Nat.pow_succ]
 exact long_alg _ _ _ _ _ _ _ _ hdm
theorem LongJ.finish {V n' L d f N:Nat} {us qs:List Nat} (h:LongJ V (N*f) n' L us qs 0) (hV:V=d*f) (hd:0<d) (hf:0<f) :
 val B9 qs=N/d∧val B9 us=N%d*f∧val B9 us<V:=by
 obtain ⟨_,_,_,_,h5,h6⟩:=h
 have hV0:0<V:=by rw [hV];exact Nat.mul_pos hd hf
 simp only [List.drop_zero,Nat.pow_zero,Nat.mul_one] at h5 h6
 have e1:N*f/V=val B9 qs:=by rw [← h6,Nat.add_comm,Nat.add_mul_div_right _ _ hV0,Nat.div_eq_of_lt h5];omega
 have e2:N*f%V=val B9 us:=by rw [← h6,Nat.add_comm,Nat.add_mul_mod_self_right,Nat.mod_eq_of_lt h5]
 refine ⟨?_,?_,h5⟩
 ·rw [← e1,hV,Nat.mul_div_mul_right _ _ hf]
 ·rw [← e2,hV,Nat.mul_mod_mul_right]
theorem LongJ.start {V U0 n n' : Nat} {us:List Nat} {N d f:Nat} (hu:Dig B9 us) (hul:us.length=n+1) (hU:val B9 us=U0) (hU0:U0=N*f) (hN:N<B9^n) (hV:V=d*f) (hf:0<f) (hd:B9^(n'-1)≤d) (hn:n'≤n) (hn0:0<n') :
 LongJ V U0 n' (n-n'+1) us (List.replicate (n-n'+1) 0) (n-n'+1):=by
 refine ⟨hu,by omega,Dig.replicate B9_pos _,by simp,?_,?_⟩
 ·have e:=val_split B9 us (n-n'+1) (by omega)
  have a1:N*f<B9^n*f:=Nat.mul_lt_mul_of_pos_right hN hf
  have a2:B9^n=B9^(n-n'+1)*B9^(n'-1):=by rw [← Nat.pow_add];congr 1;omega
  have a3:B9^(n-n'+1)*val B9 (us.drop (n-n'+1))<B9^(n-n'+1)*(B9^(n'-1)*f):=by
   rw [← Nat.mul_assoc,← a2];omega
  have a4:=Nat.lt_of_mul_lt_mul_left a3
  have a5:B9^(n'-1)*f≤d*f:=Nat.mul_le_mul_right _ hd
  rw [hV];omega
 ·rw [List.drop_of_length_le (by simp)]
  simp [val,hU]
theorem scaled_len {ys vs:List Nat} {y f:Nat} (hy:Dig B9 ys) (hl:0<ys.length) (htop:ys[ys.length-1]?=some y) (hv:Dig B9 vs) (hn:Norm vs) (ny:Norm ys) (e:val B9 vs=val B9 ys*f) (hf0:0<f) (hf:f*(y+1)≤B9):vs.length=ys.length:=by
 obtain ⟨m,hm⟩:∃ m,ys.length=m+1:=⟨ys.length-1,by omega⟩
 rw [hm,show m+1-1=m from by omega] at htop
 obtain ⟨k,ey⟩:=List.getElem?_eq_some_iff.1 htop
 have hval:val B9 ys=val B9 (ys.take m)+B9^m*y:=by
  have:val B9 ys=val B9 (ys.take (m+1)):=by rw [List.take_of_length_le (by omega)]
  rw [this,val_take_succ _ _ _ k,ey]
 have hlow:=val_lt (hy.take m)
 rw [List.length_take,Nat.min_eq_left (by omega)] at hlow
 have h1:val B9 ys+1≤B9^m*(y+1):=by rw [hval,Nat.mul_add,Nat.mul_one];omega
 have h2:val B9 vs<B9^(m+1):=by
  have h3:(val B9 ys+1)*f≤B9^m*(y+1)*f:=Nat.mul_le_mul_right _ h1
  have h4:B9^m*(y+1)*f≤B9^m*B9:=by rw [Nat.mul_assoc,Nat.mul_comm (y+1)];exact Nat.mul_le_mul_left _ hf
  rw [Nat.add_mul,Nat.one_mul,← e] at h3
  rw [Nat.pow_succ]
  omega
 have h5:=length_le_of_val B9_one hn h2
 have hne:ys≠[]:=by rintro rfl;simp at hl
 have h6:=ny.ge (B:=B9) hne
 rw [hm,Nat.add_sub_cancel] at h6
 have h7:val B9 ys*1≤val B9 ys*f:=Nat.mul_le_mul_left _ hf0
 have h8:=val_lt hv
 rcases Nat.lt_or_ge vs.length (m+1) with h|h
 ·exfalso
  have:B9^vs.length≤B9^m:=Nat.pow_le_pow_right B9_pos (by omega)
  omega
 ·omega
def TakeK (ys vs zs:List Nat) (o t k bo:Nat):Prop:=zs.length=k∧Dig B9 zs∧bo≤B9∧val B9 zs+t*val B9 (vs.take k)=val B9 ((ys.drop o).take k)+B9^k*bo
theorem TakeK.step {ys vs zs:List Nat} {o t k bo x v p e r:Nat} (h:TakeK ys vs zs o t k bo) (hx:ys[o+k]?=some x) (hv:vs[k]?=some v) (hp:p=t*v+bo) (hr:r<B9) (he:p/B9+e≤B9) (hx2:r+p%B9=x+B9*e) :
 TakeK ys vs (zs ++ [r]) o t (k+1) (p/B9+e):=by
 obtain ⟨h1,h2,h3,h4⟩:=h
 have hxd:(ys.drop o)[k]?=some x:=by rw [List.getElem?_drop];exact hx
 obtain ⟨k1,ex⟩:=List.getElem?_eq_some_iff.1 hxd
 obtain ⟨k2,ev⟩:=List.getElem?_eq_some_iff.1 hv
 refine ⟨by simp [h1],h2.app (Dig.cons hr (Dig.nil _)),he,?_⟩
 rw [val_snoc,val_take_succ _ _ _ k1,val_take_succ _ _ _ k2,ex,ev,h1,Nat.pow_succ]
 have hdm:=Nat.div_add_mod p B9
 generalize p/B9=q at *
 generalize p%B9=s at *
 clear h2 h3 hr he ex ev k1 k2 hxd hx hv
 generalize B9^k=P at *
 generalize B9=V at *
 subst hp
 grind
def BackK (ys vs zs:List Nat) (o k cy:Nat):Prop:=zs.length=k∧Dig B9 zs∧cy≤1∧val B9 zs+B9^k*cy=val B9 ((ys.drop o).take k)+val B9 (vs.take k)
theorem BackK.step {ys vs zs:List Nat} {o k cy x v s:Nat} (h:BackK ys vs zs o k cy) (hx:ys[o+k]?=some x) (hv:vs[k]?=some v) (hs:s=x+v+cy) (bx:x<B9) (bv:v<B9):BackK ys vs (zs ++ [s%B9]) o (k+1) (s/B9):=by
 obtain ⟨h1,h2,h3,h4⟩:=h
 have hxd:(ys.drop o)[k]?=some x:=by rw [List.getElem?_drop];exact hx
 obtain ⟨k1,ex⟩:=List.getElem?_eq_some_iff.1 hxd
 obtain ⟨k2,ev⟩:=List.getElem?_eq_some_iff.1 hv
 have hq:s/B9≤1:=by subst hs;rw [B9_eq] at *;clear h4 hx hv hxd;omega
 refine ⟨by simp [h1],h2.app (Dig.cons (Nat.mod_lt _ B9_pos) (Dig.nil _)),hq,?_⟩
 rw [val_snoc,val_take_succ _ _ _ k1,val_take_succ _ _ _ k2,ex,ev,h1,Nat.pow_succ]
 have hdm:=Nat.div_add_mod s B9
 generalize s/B9=q at *
 generalize s%B9=r at *
 clear h2 h3 ex ev k1 k2 hxd hx hv bx bv hq
 generalize B9^k=P at *
 generalize B9=V at *
 subst hs
 grind
end Go.Proofs.YtbhcckhbbclemaaGreatDoor
