/- Parts of the proof, joined. -/
import Derived.Test.YtbhgaclbijocmaaGreatDoorJ3
import Derived.Test.YtbhgaclbijocmaaGreatDoorJ7
set_option linter.unusedSimpArgs false
set_option linter.unusedVariables false
namespace Go.Proofs.YtbhgaclbijocmaaGreatDoor
open Go.RowKit Pl
def Fr (w:World) (v:Value) (q:Rat):Prop := ∃ s1 s2,v = .agg #[.bool (decide (q.num<0)),s1,s2]∧Nt w s1 q.num.natAbs∧Nt w s2 q.den
theorem Fr.of {w:World} {neg:Bool} {n d:Nat} {s1 s2:Value} {q:Rat} (h:Parts q neg n d) (h1:Nt w s1 n) (h2:Nt w s2 d):Fr w (.agg #[.bool neg,s1,s2]) q:=by
 obtain ⟨rfl,rfl,rfl⟩:=h
 exact ⟨s1,s2,rfl,h1,h2⟩
theorem Fr.ext {K:Value→Bool} (hK:∀ x,K (.int .u64 x)=true) {w w' : World} {v:Value} {q:Rat} (h:Fr w v q) (hx:Ext K w w'):Fr w' v q:=by
 obtain ⟨s1,s2,e,h1,h2⟩:=h
 exact ⟨s1,s2,e,h1.ext hK hx,h2.ext hK hx⟩
theorem Fr.below {w w' : World} {v:Value} {q:Rat} (h:Fr w v q) (hb:Below w.heap.size w w'):Fr w' v q:=by
 obtain ⟨s1,s2,e,h1,h2⟩:=h
 exact ⟨s1,s2,e,h1.below hb,h2.below hb⟩
def dM (q:Rat):Sp:=fun v w=>Fr w v q
theorem spFr_stable {K:Value→Bool} (hK:∀ x,K (.int .u64 x)=true) (q:Rat):Stable K (dM q):=fun _ _ _ h hx=>Fr.ext hK h hx
def GivesFr (w:World) (q:Rat) (e:Ending) (w' : World):Prop := ∃ v,e = .returned v∧Fr w' v q∧Below w.heap.size w w'
theorem GivesFr.ty {P:Program} {f:FuncId} {args:Array Value} {w:World} {q:Rat} (h:Calls P f args w (GivesFr w q)):Calls P f args w (TyPost w (dM q)) :=
 h.mono fun _ _ ⟨v,h1,h2,h3⟩=>⟨v,h1,h3,h2⟩
def Lf (k:Nat) (q:Rat):Prop:=Lv k q.num.natAbs∧Lv k q.den
theorem Nt.form {w:World} {v:Value} {a:Nat} (h:Nt w v a):∃ A n c,v = .slice A n c:=by
 obtain ⟨A,n,c,_,rfl,_⟩:=h
 exact ⟨A,n,c,rfl⟩
theorem cV {w:World} {g:Nat} {a b c:Value} {t:TypeId} (h:w.heap[g]?=some (.cells #[a,b,c] t (0,0))) :
 (w.cell? ⟨g,0,none⟩=some a∧w.cell? ⟨g,1,none⟩=some b∧w.cell? ⟨g,2,none⟩=some c)∧(w.frozen? ⟨g,0,none⟩=false∧w.frozen? ⟨g,1,none⟩=false∧w.frozen? ⟨g,2,none⟩=false):=by
 refine ⟨⟨aA h 0,aA h 1,aA h 2⟩,?_,?_,?_⟩ <;> simp [World.frozen?,h]
theorem aL {w w' : World} {g:Nat} {o:Obj} (hb:Below w.heap.size w w') (h:w.heap[g]?=some o):w'.heap[g]?=some o:=(hb.block g (lt_of_block h)).trans h
theorem Ext.only {K:Value→Bool} {w w' : World} {g:Nat} {o:Obj} (hg:w.grownBy w' (some g)) (h0:w.heap[g]?=some o) (hc:hotObj K o=false):Ext K w w':=by
 refine ⟨hg.size,fun k o' hk ho=>?_⟩
 by_cases e:k=g
 ·subst e
  rw [h0] at hk
  injection hk with hk
  subst hk
  rw [hc] at ho
  cases ho
 ·rw [hg.block k (lt_of_block hk) (fun h=>e (by injection h))];exact hk
theorem nP (w:World) (g:Nat) (a b c:Value):w.grownBy (((w.setCell ⟨g,0,none⟩ a).setCell ⟨g,1,none⟩ b).setCell ⟨g,2,none⟩ c) (some g) :=
 dA (dA (eM _ _ _ _) (eM _ _ _ _)) (eM _ _ _ _)
set_option maxHeartbeats 1000000 in
theorem qQ (w:World):Calls Tryz.prog 177 #[] w (GivesFr w 0):=by
 go_enter Tryz.func177,Tryz.ntmps177
 go_wp2_with fail
 refine (bK 1 (by rw [aG];omega) _).mono ?_
 rintro e w2 ⟨v1,rfl,q1,b1⟩
 obtain ⟨A1,n1,c1,rfl⟩:=q1.form
 obtain ⟨⟨h0,h1,h2⟩,f0,f1,f2⟩:=cV (aL b1 (heap_alloc_new w _))
 have B:=aH (aL b1 (heap_alloc_new w _))
 have Q:=aH (aI q1 b1)
 clear q1 b1
 go_wp2
 refine bodyPost_ret (v := .agg #[.bool false,.slice none 0 0,.slice A1 n1 c1]) (by simp [results,Tryz.results177,go_sem,h0,h1,h2]) rfl ⟨_,rfl,?_,?_⟩
 ·exact ((Fr.of Parts.zero (Nt.zero w2) Q.out.1).ext (K:=Ku) (fun _=>rfl) (Ext.only (nP _ _ _ _ _) B.out (by simp [hotObj,Ku])))
 ·repeat (first|exact (Below.step_trans ((Below.refl _ _).alloc (Nat.le_refl _) _) Q.out.2)|(refine Below.setCell ?_ (by first|omega|(simp;done)|(simp;omega)) _)|(refine Below.alloc ?_ (by first|omega|(simp;done)|(simp;omega)) _)|(refine Below.drew ?_)|exact Below.refl _ _)
set_option maxHeartbeats 2000000 in
theorem ratio_zero (neg:Bool) (d:Nat) (v v' : Value) (w:World) (h:Nt w v 0) (h' : Nt w v' d):Calls Tryz.prog 99 #[.bool neg,v,v'] w (GivesFr w 0):=by
 have H:=aH (aI h h')
 obtain ⟨A,n,c,rfl⟩:=h.form
 obtain ⟨A',n',c',rfl⟩:=h'.form
 clear h h'
 go_enter Tryz.func99,Tryz.ntmps99
 go_wp2_with fail
 refine (dE (H.out.1.below ((Below.refl _ _).alloc (Nat.le_refl _) _))).mono ?_
 rintro e w1 ⟨rfl,rfl⟩
 go_wp2_with fail
 refine (qQ _).mono ?_
 rintro e w2 ⟨v1,rfl,⟨s1,s2,rfl,q1,q2⟩,b1⟩
 obtain ⟨A1,n1,c1,rfl⟩:=q1.form
 obtain ⟨A2,n2,c2,rfl⟩:=q2.form
 obtain ⟨⟨h0,h1,h2⟩,f0,f1,f2⟩:=cV (aL b1 (heap_alloc_new w _))
 have B:=aH (aL b1 (heap_alloc_new w _))
 have Q:=aH (aI q1 (aI q2 b1))
 clear q1 q2 b1
 go_wp2
 refine bodyPost_ret (v := .agg #[.bool (decide ((0:Rat).num<0)),.slice A1 n1 c1,.slice A2 n2 c2]) (by simp [results,Tryz.results99,go_sem,h0,h1,h2]) rfl ⟨_,rfl,?_,?_⟩
 ·exact (Fr.ext (K:=Ku) (fun _=>rfl) ⟨_,_,rfl,Q.out.1,Q.out.2.1⟩ (Ext.only (nP _ _ _ _ _) B.out (by simp [hotObj,Ku])))
 ·repeat (first|exact (Below.step_trans ((Below.refl _ _).alloc (Nat.le_refl _) _) Q.out.2.2)|(refine Below.setCell ?_ (by first|omega|(simp;done)|(simp;omega)) _)|(refine Below.alloc ?_ (by first|omega|(simp;done)|(simp;omega)) _)|(refine Below.drew ?_)|exact Below.refl _ _)
theorem uA (a b:Bool) (x y:Nat) (v v' : Value) (w:World) (h:Nt w v x) (h' : Nt w v' y) (hx:Lv 40 x) (hy:Lv 40 y) :
 Calls Tryz.prog 197 #[.bool a,v,.bool b,v'] w fun e w' => ∃ neg u,e = .returned (.tuple #[.bool neg,u])∧sg neg (sg a x+sg b y).natAbs=sg a x+sg b y∧Nt w' u (sg a x+sg b y).natAbs∧Below w.heap.size w w':=by
 have H:=aH (aI h (aI h' (aI hx hy)))
 obtain ⟨A,n,c,rfl⟩:=h.form
 obtain ⟨A',n',c',rfl⟩:=h'.form
 clear h h' hx hy
 by_cases hab:a=b
 ·subst hab
  have hz:(a==a)=true:=by simp
  go_enter Tryz.func197,Tryz.ntmps197
  go_wp2_with fail
  refine (zM H.out.1 H.out.2.1 H.out.2.2.1 H.out.2.2.2).mono ?_
  rintro e w2 ⟨v1,rfl,q1,b1⟩
  have Q:=aH (aI q1 b1)
  clear q1 b1
  go_wp2
  go_ret2
  have hs:(sg a x+sg a y).natAbs=x+y:=by unfold sg;split <;> omega
  refine ⟨a,v1,rfl,?_,by rw [hs];exact Q.out.1,Q.out.2⟩
  rw [hs];unfold sg;split <;> omega
 ·have hz:(a==b)=false:=by simpa using hab
  have hba:sg b y = -(sg a y):=by cases a <;> cases b <;> simp_all [sg]
  have HA:=aH (aI hab hba)
  clear hab hba
  by_cases hlt:x<y
  ·have hc:=mD H.out.1 H.out.2.1
   rw [show bF x y = -1 from by unfold bF;rw [if_pos (by omega)]] at hc
   have HL:=aH (aI hlt hc)
   clear hlt hc
   go_enter Tryz.func197,Tryz.ntmps197
   go_wp2_with fail
   refine HL.out.2.mono ?_
   rintro e w1 ⟨rfl,b0⟩
   have B0:=aH b0
   clear b0
   go_wp2_with fail
   refine (nt_minus (H.out.2.1.below B0.out) (H.out.1.below B0.out) H.out.2.2.2 (Nat.le_of_lt HL.out.1)).mono ?_
   rintro e w2 ⟨v1,rfl,q1,b1⟩
   have Q:=aH (aI q1 b1)
   clear q1 b1
   go_wp2
   go_ret2
   obtain ⟨hab,hba⟩:=HA.out
   have hl:=HL.out.1
   have hs:(sg a x+sg b y).natAbs=y-x:=by rw [hba];unfold sg;split <;> omega
   refine ⟨b,v1,rfl,?_,by rw [hs];exact Q.out.1,Below.step_trans B0.out Q.out.2⟩
   rw [hs]
   unfold sg
   cases a <;> cases b <;> simp_all <;> omega
  ·have hc:=mD H.out.1 H.out.2.1
   have hcc:¬ bF x y<0:=by unfold bF;rw [if_neg (by omega)];split <;> omega
   generalize bF (x:Int) y=cz at hc hcc
   have HL:=aH (aI hlt hc)
   clear hlt hc
   go_enter Tryz.func197,Tryz.ntmps197
   go_wp2_with fail
   refine HL.out.2.mono ?_
   rintro e w1 ⟨rfl,b0⟩
   have B0:=aH b0
   clear b0
   go_wp2_with fail
   refine (nt_minus (H.out.1.below B0.out) (H.out.2.1.below B0.out) H.out.2.2.1 (Nat.le_of_not_lt HL.out.1)).mono ?_
   rintro e w2 ⟨v1,rfl,q1,b1⟩
   have Q:=aH (aI q1 b1)
   clear q1 b1
   go_wp2
   go_ret2
   obtain ⟨hab,hba⟩:=HA.out
   have hl:=HL.out.1
   have hs:(sg a x+sg b y).natAbs=x-y:=by rw [hba];unfold sg;split <;> omega
   refine ⟨a,v1,rfl,?_,by rw [hs];exact Q.out.1,Below.step_trans B0.out Q.out.2⟩
   rw [hs]
   unfold sg
   cases a <;> cases b <;> simp_all <;> omega
set_option maxHeartbeats 4000000 in
theorem jK (neg:Bool) (n d:Nat) (v v' : Value) (w:World) (h:Nt w v n) (h' : Nt w v' d) (hn:Lv 40 n) (hd:Lv 40 d) (hd0:0<d):Calls Tryz.prog 99 #[.bool neg,v,v'] w (GivesFr w (mkRat (sg neg n) d)):=by
 by_cases h0:n=0
 ·subst h0
  rw [sg_zero,Rat.zero_mkRat]
  exact ratio_zero neg d v v' w h h'
 have H:=aH (aI h (aI h' (aI hn (aI hd (aI hd0 h0)))))
 have hnz:decide (n=0)=false:=by simpa using h0
 obtain ⟨A,k,c,rfl⟩:=h.form
 obtain ⟨A',k',c',rfl⟩:=h'.form
 clear h h' hn hd hd0 h0
 have b0:Below w.heap.size w (w.alloc (.cells #[.bool false,.slice none 0 0,.slice none 0 0] 130)):=(Below.refl _ _).alloc (Nat.le_refl _) _
 have B0:=aH b0
 have hblk:=aH (heap_alloc_new w (.cells #[.bool false,.slice none 0 0,.slice none 0 0] 130))
 clear b0
 by_cases h1:d=1
 ·have hz1:decide (d=1)=true:=by simpa using h1
  have H1:=aH h1
  clear h1
  go_enter Tryz.func99,Tryz.ntmps99
  go_wp2_with fail
  refine (dE (H.out.1.below B0.out)).mono ?_
  rintro e w1 ⟨rfl,rfl⟩
  go_wp2_with fail
  refine (nO (H.out.2.1.below B0.out)).mono ?_
  rintro e w1 ⟨rfl,rfl⟩
  obtain ⟨⟨h0,h1,h2⟩,f0,f1,f2⟩:=cV hblk.out
  go_wp2
  refine bodyPost_ret (v := .agg #[.bool neg,.slice A k c,.slice A' k' c']) (by simp [results,Tryz.results99,go_sem,h0,h1,h2]) rfl ⟨_,rfl,?_,(Below.refl _ _).alloc (Nat.le_refl _) _⟩
  exact Fr.of (Parts.reduced H.out.2.2.2.2.2 (by rw [H1.out];omega) (by rw [H1.out,Nat.gcd_one_right])) (H.out.1.below ((Below.refl _ _).alloc (Nat.le_refl _) _)) (H.out.2.1.below ((Below.refl _ _).alloc (Nat.le_refl _) _))
 ·have hz1:decide (d=1)=false:=by simpa using h1
  clear h1
  go_enter Tryz.func99,Tryz.ntmps99
  go_wp2_with fail
  refine (dE (H.out.1.below B0.out)).mono ?_
  rintro e w1 ⟨rfl,rfl⟩
  go_wp2_with fail
  refine (nO (H.out.2.1.below B0.out)).mono ?_
  rintro e w1 ⟨rfl,rfl⟩
  go_wp2_with fail
  refine (uG _ _ n d _ (H.out.1.below B0.out) (H.out.2.1.below B0.out) H.out.2.2.1 H.out.2.2.2.1 (.inr H.out.2.2.2.2.1)).mono ?_
  rintro e w2 ⟨vg,rfl,qg,b2⟩
  obtain ⟨Ag,kg,cg,rfl⟩:=qg.form
  have hb2:Below w.heap.size w w2:=Below.step_trans B0.out b2
  have hk2:=aL b2 hblk.out
  have hg0:0<Nat.gcd n d:=Nat.gcd_pos_of_pos_right _ H.out.2.2.2.2.1
  have hgl:Lv 40 (Nat.gcd n d):=H.out.2.2.2.1.le (Nat.gcd_le_right _ H.out.2.2.2.2.1)
  have HG:=aH (aI qg (aI hb2 (aI hk2 (aI hg0 hgl))))
  clear qg b2 hb2 hk2 hg0 hgl
  by_cases hg1:Nat.gcd n d=1
  ·have hzg:decide (Nat.gcd n d=1)=true:=by simpa using hg1
   have HG1:=aH hg1
   clear hg1
   obtain ⟨⟨h0,h1,h2⟩,f0,f1,f2⟩:=cV HG.out.2.2.1
   go_wp2_with (go_at_call 139;refine (nO HG.out.1).mono ?_;rintro e w1 ⟨rfl,rfl⟩)
   refine bodyPost_ret (v := .agg #[.bool neg,.slice A k c,.slice A' k' c']) (by simp [results,Tryz.results99,go_sem,h0,h1,h2]) rfl ⟨_,rfl,?_,?_⟩
   ·exact Fr.ext (K:=Ku) (fun _=>rfl) (Fr.of (Parts.reduced H.out.2.2.2.2.2 (Nat.ne_of_gt H.out.2.2.2.2.1) HG1.out) (H.out.1.below HG.out.2.1) (H.out.2.1.below HG.out.2.1)) (Ext.only (nP _ _ _ _ _) HG.out.2.2.1 (by simp [hotObj,Ku]))
   ·repeat (first|exact HG.out.2.1|(refine Below.setCell ?_ (by first|omega|(simp;done)|(simp;omega)) _)|(refine Below.alloc ?_ (by first|omega|(simp;done)|(simp;omega)) _)|(refine Below.drew ?_)|exact Below.refl _ _)
  ·have hzg:decide (Nat.gcd n d=1)=false:=by simpa using hg1
   clear hg1
   go_wp2_with (go_at_call 139;refine (nO HG.out.1).mono ?_;rintro e w1 ⟨rfl,rfl⟩)
   refine (eT (H.out.1.below HG.out.2.1) HG.out.1 H.out.2.2.1 HG.out.2.2.2.1).mono ?_
   rintro e w3 ⟨v1,u1,rfl,q1,_,b3⟩
   obtain ⟨A1,k1,c1,rfl⟩:=q1.form
   have Q3:=aH (aI q1 (aI b3 (aI (Below.step_trans HG.out.2.1 b3) (aL b3 HG.out.2.2.1))))
   clear q1 b3
   go_wp2_with fail
   refine (eT (H.out.2.1.below Q3.out.2.2.1) (HG.out.1.below Q3.out.2.1) H.out.2.2.2.1 HG.out.2.2.2.1).mono ?_
   rintro e w4 ⟨v2,u2,rfl,q2,_,b4⟩
   obtain ⟨A2,k2,c2,rfl⟩:=q2.form
   have Q4:=aH (aI q2 (aI b4 (aI (Below.step_trans Q3.out.2.2.1 b4) (aL b4 Q3.out.2.2.2))))
   clear q2 b4
   obtain ⟨⟨h0,h1,h2⟩,f0,f1,f2⟩:=cV Q4.out.2.2.2
   go_wp2
   refine bodyPost_ret (v := .agg #[.bool neg,.slice A1 k1 c1,.slice A2 k2 c2]) (by simp [results,Tryz.results99,go_sem,h0,h1,h2]) rfl ⟨_,rfl,?_,?_⟩
   ·exact Fr.ext (K:=Ku) (fun _=>rfl) (Fr.of (Parts.reduce H.out.2.2.2.2.2 (Nat.ne_of_gt H.out.2.2.2.2.1)) (Q3.out.1.below Q4.out.2.1) Q4.out.1) (Ext.only (nP _ _ _ _ _) Q4.out.2.2.2 (by simp [hotObj,Ku]))
   ·repeat (first|exact Q4.out.2.2.1|(refine Below.setCell ?_ (by first|omega|(simp;done)|(simp;omega)) _)|(refine Below.alloc ?_ (by first|omega|(simp;done)|(simp;omega)) _)|(refine Below.drew ?_)|exact Below.refl _ _)
def Kn:Value→Bool
 | .int .u64 _=>true
 | .bool _=>true
 | _=>false
theorem aY {w:World} {g:Nat} {cs:Array Value} {t:TypeId} (h:w.heap[g]?=some (.cells cs t (0,0))) (i:Nat):w.frozen? ⟨g,i,none⟩=false:=by
 simp [World.frozen?,h]
theorem dC {w:World} {b i:Nat} {cs:Array Value} {t:TypeId} {fr:Nat×Nat} (h:w.heap[b]?=some (.cells cs t fr)) (u:Value):Turned b (.cells (cs.setIfInBounds i u) t fr) w (w.setCell ⟨b,i,none⟩ u):=by
 refine ⟨rfl,rfl,rfl,by simp [World.setCell],?_,fun k hk=>Below.heap_setCell w _ u k hk⟩
 simp only [World.setCell,Array.getElem?_modify,h]
 simp
theorem Turned.trans {b:Nat} {o o' : Obj} {w w' w'' : World} (h:Turned b o w w') (h' : Turned b o' w' w''):Turned b o' w w'' :=
 ⟨h'.os.trans h.os,h'.tape.trans h.tape,h'.output.trans h.output,h'.size.trans h.size,h'.at_,fun k hk=>(h'.block k hk).trans (h.block k hk)⟩
theorem dP {w:World} {b:Nat} {x y z:Value} {t:TypeId} (h:w.heap[b]?=some (.cells #[x,y,z] t (0,0))) (u0 u1 u2:Value) :
 Turned b (.cells #[u0,u1,u2] t (0,0)) w (((w.setCell ⟨b,0,none⟩ u0).setCell ⟨b,1,none⟩ u1).setCell ⟨b,2,none⟩ u2):=by
 have h1:=dC (i:=0) h u0
 have h2:=dC (i:=1) h1.at_ u1
 have h3:=dC (i:=2) h2.at_ u2
 exact (h1.trans h2).trans h3
theorem Turned.below {b:Nat} {o:Obj} {w0 w w' : World} (h:Turned b o w w') (hb:Below w0.heap.size w0 w) (hlt:w0.heap.size≤b):Below w0.heap.size w0 w' :=
 hb.trans ⟨h.os,h.tape,h.output,by rw [h.size];exact Nat.le_refl _,fun k hk=>h.block k (by omega)⟩
def coFr (q:Rat):Obj→World→Prop:=fun o w => ∃ s1 s2,o = .cells #[.bool (decide (q.num<0)),s1,s2] 130 (0,0)∧Nt w s1 q.num.natAbs∧Nt w s2 q.den
theorem fD {K:Value→Bool} (hK:∀ x,K (.int .u64 x)=true) (q:Rat):StableO K (coFr q):=fun _ _ _ ⟨s1,s2,e,h1,h2⟩ hx=>⟨s1,s2,e,h1.ext hK hx,h2.ext hK hx⟩
set_option maxHeartbeats 1000000 in
theorem nQ (v:Value) (q:Rat) (w:World) (h:Fr w v q) (h0:q≠0):Calls Tryz.prog 198 #[v] w (GivesFr w (-q)):=by
 obtain ⟨s1,s2,rfl,h1,h2⟩:=h
 obtain ⟨A1,n1,c1,rfl⟩:=h1.form
 obtain ⟨A2,n2,c2,rfl⟩:=h2.form
 have H:=aH (aI h1 (aI h2 h0))
 clear h1 h2 h0
 generalize hneg:decide (q.num<0)=neg
 have HN:=aH hneg
 clear hneg
 go_enter Tryz.func198,Tryz.ntmps198
 go_wp2
 refine bodyPost_ret (v := .agg #[.bool (!neg),.slice A1 n1 c1,.slice A2 n2 c2]) (by simp [results,Tryz.results198,go_sem]) rfl ⟨_,rfl,?_,?_⟩
 ·have hb:∀ o o',Below w.heap.size w ((w.alloc o).alloc o'):=fun o o'=>((Below.refl _ _).alloc (Nat.le_refl _) _).alloc (by simp) _
  refine Fr.of (Parts.neg ?_ H.out.2.2) (H.out.1.below (hb _ _)) (H.out.2.1.below (hb _ _))
  rw [← HN.out]
  exact Parts.self q
 ·repeat (first|exact Below.refl _ _|(refine Below.setCell ?_ (by first|omega|(simp;done)|(simp;omega)) _)|(refine Below.alloc ?_ (by first|omega|(simp;done)|(simp;omega)) _)|(refine Below.drew ?_)|exact Below.refl _ _)
set_option maxHeartbeats 1000000 in
theorem inverse_any (v:Value) (q:Rat) (w:World) (h:Fr w v q) (h0:q≠0):Calls Tryz.prog 140 #[v] w (GivesFr w q⁻¹):=by
 obtain ⟨s1,s2,rfl,h1,h2⟩:=h
 obtain ⟨A1,n1,c1,rfl⟩:=h1.form
 obtain ⟨A2,n2,c2,rfl⟩:=h2.form
 have H:=aH (aI h1 (aI h2 h0))
 clear h1 h2 h0
 generalize hneg:decide (q.num<0)=neg
 have HN:=aH hneg
 clear hneg
 go_enter Tryz.func140,Tryz.ntmps140
 go_wp2
 refine bodyPost_ret (v := .agg #[.bool neg,.slice A2 n2 c2,.slice A1 n1 c1]) (by simp [results,Tryz.results140,go_sem]) rfl ⟨_,rfl,?_,?_⟩
 ·have hb:∀ o o',Below w.heap.size w ((w.alloc o).alloc o'):=fun o o'=>((Below.refl _ _).alloc (Nat.le_refl _) _).alloc (by simp) _
  refine Fr.of (Parts.inv ?_ H.out.2.2) (H.out.2.1.below (hb _ _)) (H.out.1.below (hb _ _))
  rw [← HN.out]
  exact Parts.self q
 ·repeat (first|exact Below.refl _ _|(refine Below.setCell ?_ (by first|omega|(simp;done)|(simp;omega)) _)|(refine Below.alloc ?_ (by first|omega|(simp;done)|(simp;omega)) _)|(refine Below.drew ?_)|exact Below.refl _ _)
theorem jY (q:Rat) (neg:Bool) (hneg:decide (q.num<0)=neg):q.floor=sg neg (if neg=true∧q.num.natAbs%q.den≠0 then q.num.natAbs/q.den+1 else q.num.natAbs/q.den):=by
 have hd:=q.den_pos
 rw [Rat.floor_def]
 have e1:=Nat.div_add_mod q.num.natAbs q.den
 have e2:=Nat.mod_lt q.num.natAbs hd
 generalize hn:q.num.natAbs=n at *
 generalize q.den=d at *
 unfold sg
 cases neg
 ·have hp:0≤q.num:=by simpa using hneg
  have:q.num=n:=by omega
  rw [this]
  simp
 ·have hp:q.num<0:=by simpa using hneg
  have hq:q.num = -(n:Int):=by omega
  rw [hq]
  generalize n/d=a at *
  generalize n%d=r at *
  have hz:(n:Int)=d*a+r:=by rw [← e1];simp
  simp only [if_true,true_and]
  by_cases hr:r=0
  ·rw [if_neg (by simpa using hr),hz,hr]
   have:(-((d:Int)*a+((0:Nat):Int))) = -(a:Int)*d:=by grind
   rw [this,Int.mul_ediv_cancel _ (by omega)]
  ·rw [if_pos hr,hz]
   have:(-((d:Int)*a+(r:Int)))=((d:Int)-r)+(d:Int)*(-(a:Int)-1):=by grind
   rw [this,Int.add_mul_ediv_left _ _ (by omega),Int.ediv_eq_zero_of_lt (by omega) (by omega)]
   omega
theorem Base.extT {K:Value→Bool} {b:Nat} {w0 w:World} {o:Obj} (h:Base [b] w0 w) (h0:w0.heap[b]?=some o) (hc:hotObj K o=false):Ext K w0 w:=by
 refine ⟨h.size,fun g o' hg ho=>?_⟩
 by_cases e:g=b
 ·subst e
  rw [h0] at hg
  injection hg with hg
  subst hg
  rw [hc] at ho
  cases ho
 ·rw [h.block g (lt_of_block hg) (by simpa using e)];exact hg
theorem Base.belowT {b:Nat} {w w1 w2:World} (h:Base [b] w1 w2) (hb:Below w.heap.size w w1) (hlt:w.heap.size≤b):Below w.heap.size w w2 :=
 hb.trans ⟨h.os,h.tape,h.output,h.size,fun k hk=>h.block k (Nat.lt_of_lt_of_le hk hb.size) (by simp;omega)⟩
theorem vY (q:Rat) (neg:Bool) (n:Nat) (hneg:decide (q.num<0)=neg) (hn:n=if neg=true∧q.num.natAbs%q.den≠0 then q.num.natAbs/q.den+1 else q.num.natAbs/q.den):mkRat (sg neg n) 1=((q.floor:Int):Rat):=by
 rw [jY q neg hneg,← hn]
 exact (Rat.mk_eq_mkRat (sg neg n) 1 (by omega) (by simp)).symm
set_option maxHeartbeats 4000000 in
theorem floor_any (v:Value) (q:Rat) (w:World) (h:Fr w v q) (hl:Lf 38 q):Calls Tryz.prog 151 #[v] w (GivesFr w ((q.floor:Int):Rat)):=by
 obtain ⟨s1,s2,rfl,h1,h2⟩:=h
 obtain ⟨A1,n1,c1,rfl⟩:=h1.form
 obtain ⟨A2,n2,c2,rfl⟩:=h2.form
 generalize hneg:decide (q.num<0)=neg
 have hb1:Below w.heap.size w ((w.alloc (.cells #[.bool neg,.slice A1 n1 c1,.slice A2 n2 c2] 130)).alloc (.cells #[.bool false,.slice none 0 0,.slice none 0 0] 130)):=((Below.refl _ _).alloc (Nat.le_refl _) _).alloc (by simp) _
 have hk1:((w.alloc (.cells #[.bool neg,.slice A1 n1 c1,.slice A2 n2 c2] 130)).alloc (.cells #[.bool false,.slice none 0 0,.slice none 0 0] 130)).heap[w.heap.size]?=some (.cells #[.bool neg,.slice A1 n1 c1,.slice A2 n2 c2] 130 (0,0)) :=
  aL ((Below.refl _ _).alloc (Nat.le_refl _) _) (heap_alloc_new w _)
 have hk2:((w.alloc (.cells #[.bool neg,.slice A1 n1 c1,.slice A2 n2 c2] 130)).alloc (.cells #[.bool false,.slice none 0 0,.slice none 0 0] 130)).heap[w.heap.size+1]?=some (.cells #[.bool false,.slice none 0 0,.slice none 0 0] 130 (0,0)):=by
  have:=heap_alloc_new (w.alloc (.cells #[.bool neg,.slice A1 n1 c1,.slice A2 n2 c2] 130)) (.cells #[.bool false,.slice none 0 0,.slice none 0 0] 130)
  simpa using this
 have H:=aH (aI (h1.below hb1) (aI (h2.below hb1) (aI hl (aI hb1 (aI hk1 (aI hk2 hneg))))))
 clear h1 h2 hl hb1 hk1 hk2 hneg
 go_enter Tryz.func151,Tryz.ntmps151
 go_wp2_with fail
 generalize (w.alloc (.cells #[.bool neg,.slice A1 n1 c1,.slice A2 n2 c2] 130)).alloc (.cells #[.bool false,.slice none 0 0,.slice none 0 0] 130)=w1 at *
 refine (eT H.out.1 H.out.2.1 (H.out.2.2.1.1.mono (by omega)) q.den_pos).mono ?_
 rintro e w2 ⟨vq,vr,rfl,q1,q2,b2⟩
 obtain ⟨Aq,nq,cq,rfl⟩:=q1.form
 obtain ⟨Ar,nr,cr,rfl⟩:=q2.form
 have hk2:=aL b2 H.out.2.2.2.2.1
 obtain ⟨⟨g0,g1,g2⟩,_⟩:=cV hk2
 have H2:=aH (aI q1 (aI q2 (aI (Below.step_trans H.out.2.2.2.1 b2) (aI hk2 (aL b2 H.out.2.2.2.2.2.1)))))
 clear q1 q2 b2 hk2
 cases neg
 ·go_wp2_with fail
  have hA:=H2.out.2.2.2.1
  have hR:=H2.out.2.2.2.2
  have t1:∀ w',Calls Tryz.prog 181 #[.int .u64 1] w' (TyPost w' (fB 1)):=fun w'=>GivesNt.ty (bK 1 (by rw [aG];omega) w')
  have t2:∀ w' v1,Base [w.heap.size+1] w2 w'→Nt w' v1 1→Calls Tryz.prog 99 #[.bool false,.slice Aq nq cq,v1] w' (TyPost w' (dM ((q.floor:Int):Rat))):=fun w' v1 hB h1=>by
   have:=GivesFr.ty (jK false (q.num.natAbs/q.den) 1 _ _ w' (Nt.ext (K:=Ku) (fun _=>rfl) H2.out.1 (hB.extT hR (by simp [hotObj,Ku]))) h1 ((H.out.2.2.1.1.le (Nat.div_le_self _ _)).mono (by omega)) (Lv.one _ (by rw [aG];omega)) (by omega))
   rwa [vY q false _ H.out.2.2.2.2.2.2 (by simp)] at this
  have T1:=aH t1
  have T2:=aH t2
  clear t1 t2
  refine wp_region_ty Ku [w.heap.size+1] (by kernel_rfl) (by kernel_rfl) ?_
  repeat (first|(apply bB (hg:=rfl);case h=>(intro A w' hB hk;simp [known,specOf,Kd.spec,Sp.is,isVar,Oper.looksAt,Op.operands,Call.operands,Act.eval] at hk;have c_hA:=aA (hB.blk hA (by first|(simp;done)|(simp;omega)));first|(simp [go_sem,hk,c_hA];done)|(simp [go_sem,hk,c_hA];rfl)|(simp [go_sem,c_hA];rfl)))|(refine aQ _ ?_ (by first|exact .inl rfl|exact .inr rfl) (by rfl) (by simp [specOf,Kd.spec];rfl) ?_ rfl ?_;(first|exact Sp.is_stable _ _|exact aF (fun _=>rfl) _|exact spTwo_stable (fun _=>rfl) _ _|exact spFr_stable (fun _=>rfl) _|exact spSum_stable (fun _=>rfl) _|exact spSgn_stable _ _|exact spNb_stable (fun _=>rfl) (fun _=>rfl) _|exact spVc_stable (fun _=>rfl) (fun _=>rfl) _)))
  refine aP (fB 1) (aF (fun _=>rfl) _) rfl (fun A w' hB hk=>?_) ?_;(simp [known,specOf,Kd.spec,Sp.is,isVar,Oper.looksAt,Op.operands,Call.operands,Act.eval] at hk;have c_hA:=aA (hB.blk hA (by first|(simp;done)|(simp;omega)));simp [go_sem,hk,c_hA];refine aE ?_;exact T1.out _)
  repeat (first|(apply bB (hg:=rfl);case h=>(intro A w' hB hk;simp [known,specOf,Kd.spec,Sp.is,isVar,Oper.looksAt,Op.operands,Call.operands,Act.eval] at hk;have c_hA:=aA (hB.blk hA (by first|(simp;done)|(simp;omega)));first|(simp [go_sem,hk,c_hA];done)|(simp [go_sem,hk,c_hA];rfl)|(simp [go_sem,c_hA];rfl)))|(refine aQ _ ?_ (by first|exact .inl rfl|exact .inr rfl) (by rfl) (by simp [specOf,Kd.spec];rfl) ?_ rfl ?_;(first|exact Sp.is_stable _ _|exact aF (fun _=>rfl) _|exact spTwo_stable (fun _=>rfl) _ _|exact spFr_stable (fun _=>rfl) _|exact spSum_stable (fun _=>rfl) _|exact spSgn_stable _ _|exact spNb_stable (fun _=>rfl) (fun _=>rfl) _|exact spVc_stable (fun _=>rfl) (fun _=>rfl) _)))
  refine aP (dM ((q.floor:Int):Rat)) (spFr_stable (fun _=>rfl) _) rfl (fun A w' hB hk=>?_) ?_;(simp [known,specOf,Kd.spec,Sp.is,isVar,Oper.looksAt,Op.operands,Call.operands,Act.eval] at hk;have c_hA:=aA (hB.blk hA (by first|(simp;done)|(simp;omega)));simp [go_sem,hk,c_hA];refine aE ?_;exact T2.out _ _ hB (by simpa [fB] using hk.2.2))
  refine gC (w.heap.size+1) (_) (coFr ((q.floor:Int):Rat)) (fD (fun _=>rfl) _) rfl rfl (by simp) (by assumption) (by simp [hotObj,Ku,Kn]) (fun A w' hB hk h0=>?_) ?_;(simp [known,specOf,Kd.spec,Sp.is,isVar,Oper.looksAt,Op.operands,Call.operands,Act.eval] at hk;have c_hA:=aA (hB.blk hA (by first|(simp;done)|(simp;omega)));have c0:=aA h0;have f0:=aY h0;obtain ⟨k1,z1,z2,k2,k3,k4⟩:=hk;obtain ⟨B1,m1,e1,rfl⟩:=k3.form;obtain ⟨B2,m2,e2,rfl⟩:=k4.form;simp [go_sem,k1,k2,c0,f0];exact ⟨_,dP h0 _ _ _,_,_,rfl,k3,k4⟩)
  refine ⟨by first|rfl|decide,fun f w2 hB hF hAp=>?_⟩;simp [Final1,Sp.is,isVar] at hF;simp only [frameOf]
  obtain ⟨o,⟨s1,s2,rfl,k3,k4⟩,ho⟩:=hF.1
  obtain ⟨B1,m1,e1,rfl⟩:=k3.form
  obtain ⟨B2,m2,e2,rfl⟩:=k4.form
  obtain ⟨⟨r0,r1,r2⟩,_⟩:=cV ho
  have K:=aH (aI k3 (aI k4 hB))
  clear k3 k4 hB ho hA
  go_wp2
  refine bodyPost_ret (v := .agg #[.bool (decide ((((q.floor:Int):Rat)).num<0)),.slice B1 m1 e1,.slice B2 m2 e2]) (by simp [results,Tryz.results151,go_sem,r0,r1,r2]) rfl ⟨_,rfl,⟨_,_,rfl,K.out.1,K.out.2.1⟩,?_⟩
  exact Base.belowT K.out.2.2 H2.out.2.2.1 (by omega)
 ·by_cases hr0:q.num.natAbs%q.den=0
  ·have hz:decide (q.num.natAbs%q.den=0)=true:=by rw [decide_eq_true_eq];exact hr0
   have HR:=aH hr0
   clear hr0
   go_wp2_with (go_at_call 176;refine (dE H2.out.2.1).mono ?_;rintro e w' ⟨rfl,rfl⟩)
   have hA:=H2.out.2.2.2.1
   have hR:=H2.out.2.2.2.2
   have t1:∀ w',Calls Tryz.prog 181 #[.int .u64 1] w' (TyPost w' (fB 1)):=fun w'=>GivesNt.ty (bK 1 (by rw [aG];omega) w')
   have t2:∀ w' v1,Base [w.heap.size+1] w2 w'→Nt w' v1 1→Calls Tryz.prog 99 #[.bool true,.slice Aq nq cq,v1] w' (TyPost w' (dM ((q.floor:Int):Rat))):=fun w' v1 hB h1=>by
    have:=GivesFr.ty (jK true (q.num.natAbs/q.den) 1 _ _ w' (Nt.ext (K:=Ku) (fun _=>rfl) H2.out.1 (hB.extT hR (by simp [hotObj,Ku]))) h1 ((H.out.2.2.1.1.le (Nat.div_le_self _ _)).mono (by omega)) (Lv.one _ (by rw [aG];omega)) (by omega))
    rwa [vY q true _ H.out.2.2.2.2.2.2 (by rw [if_neg (by simp [HR.out])])] at this
   have T1:=aH t1
   have T2:=aH t2
   clear t1 t2
   refine wp_region_ty Ku [w.heap.size+1] (by kernel_rfl) (by kernel_rfl) ?_
   repeat (first|(apply bB (hg:=rfl);case h=>(intro A w' hB hk;simp [known,specOf,Kd.spec,Sp.is,isVar,Oper.looksAt,Op.operands,Call.operands,Act.eval] at hk;have c_hA:=aA (hB.blk hA (by first|(simp;done)|(simp;omega)));first|(simp [go_sem,hk,c_hA];done)|(simp [go_sem,hk,c_hA];rfl)|(simp [go_sem,c_hA];rfl)))|(refine aQ _ ?_ (by first|exact .inl rfl|exact .inr rfl) (by rfl) (by simp [specOf,Kd.spec];rfl) ?_ rfl ?_;(first|exact Sp.is_stable _ _|exact aF (fun _=>rfl) _|exact spTwo_stable (fun _=>rfl) _ _|exact spFr_stable (fun _=>rfl) _|exact spSum_stable (fun _=>rfl) _|exact spSgn_stable _ _|exact spNb_stable (fun _=>rfl) (fun _=>rfl) _|exact spVc_stable (fun _=>rfl) (fun _=>rfl) _)))
   refine aP (fB 1) (aF (fun _=>rfl) _) rfl (fun A w' hB hk=>?_) ?_;(simp [known,specOf,Kd.spec,Sp.is,isVar,Oper.looksAt,Op.operands,Call.operands,Act.eval] at hk;have c_hA:=aA (hB.blk hA (by first|(simp;done)|(simp;omega)));simp [go_sem,hk,c_hA];refine aE ?_;exact T1.out _)
   repeat (first|(apply bB (hg:=rfl);case h=>(intro A w' hB hk;simp [known,specOf,Kd.spec,Sp.is,isVar,Oper.looksAt,Op.operands,Call.operands,Act.eval] at hk;have c_hA:=aA (hB.blk hA (by first|(simp;done)|(simp;omega)));first|(simp [go_sem,hk,c_hA];done)|(simp [go_sem,hk,c_hA];rfl)|(simp [go_sem,c_hA];rfl)))|(refine aQ _ ?_ (by first|exact .inl rfl|exact .inr rfl) (by rfl) (by simp [specOf,Kd.spec];rfl) ?_ rfl ?_;(first|exact Sp.is_stable _ _|exact aF (fun _=>rfl) _|exact spTwo_stable (fun _=>rfl) _ _|exact spFr_stable (fun _=>rfl) _|exact spSum_stable (fun _=>rfl) _|exact spSgn_stable _ _|exact spNb_stable (fun _=>rfl) (fun _=>rfl) _|exact spVc_stable (fun _=>rfl) (fun _=>rfl) _)))
   refine aP (dM ((q.floor:Int):Rat)) (spFr_stable (fun _=>rfl) _) rfl (fun A w' hB hk=>?_) ?_;(simp [known,specOf,Kd.spec,Sp.is,isVar,Oper.looksAt,Op.operands,Call.operands,Act.eval] at hk;have c_hA:=aA (hB.blk hA (by first|(simp;done)|(simp;omega)));simp [go_sem,hk,c_hA];refine aE ?_;exact T2.out _ _ hB (by simpa [fB] using hk.2.2))
   refine gC (w.heap.size+1) (_) (coFr ((q.floor:Int):Rat)) (fD (fun _=>rfl) _) rfl rfl (by simp) (by assumption) (by simp [hotObj,Ku,Kn]) (fun A w' hB hk h0=>?_) ?_;(simp [known,specOf,Kd.spec,Sp.is,isVar,Oper.looksAt,Op.operands,Call.operands,Act.eval] at hk;have c_hA:=aA (hB.blk hA (by first|(simp;done)|(simp;omega)));have c0:=aA h0;have f0:=aY h0;obtain ⟨k1,z1,z2,k2,k3,k4⟩:=hk;obtain ⟨B1,m1,e1,rfl⟩:=k3.form;obtain ⟨B2,m2,e2,rfl⟩:=k4.form;simp [go_sem,k1,k2,c0,f0];exact ⟨_,dP h0 _ _ _,_,_,rfl,k3,k4⟩)
   refine ⟨by first|rfl|decide,fun f w2 hB hF hAp=>?_⟩;simp [Final1,Sp.is,isVar] at hF;simp only [frameOf]
   obtain ⟨o,⟨s1,s2,rfl,k3,k4⟩,ho⟩:=hF.1
   obtain ⟨B1,m1,e1,rfl⟩:=k3.form
   obtain ⟨B2,m2,e2,rfl⟩:=k4.form
   obtain ⟨⟨r0,r1,r2⟩,_⟩:=cV ho
   have K:=aH (aI k3 (aI k4 hB))
   clear k3 k4 hB ho hA
   go_wp2
   refine bodyPost_ret (v := .agg #[.bool (decide ((((q.floor:Int):Rat)).num<0)),.slice B1 m1 e1,.slice B2 m2 e2]) (by simp [results,Tryz.results151,go_sem,r0,r1,r2]) rfl ⟨_,rfl,⟨_,_,rfl,K.out.1,K.out.2.1⟩,?_⟩
   exact Base.belowT K.out.2.2 H2.out.2.2.1 (by omega)
  ·have hz:decide (q.num.natAbs%q.den=0)=false:=by rw [decide_eq_false_iff_not];exact hr0
   have HR:=aH hr0
   clear hr0
   go_wp2_with (go_at_call 176;refine (dE H2.out.2.1).mono ?_;rintro e w' ⟨rfl,rfl⟩)
   refine (bK 1 (by rw [aG];omega) _).mono ?_
   rintro e w3 ⟨v3,rfl,q3,b3⟩
   have Q3:=aH (aI q3 b3)
   clear q3 b3
   go_wp2_with fail
   refine (zM (H2.out.1.below Q3.out.2) Q3.out.1 ((H.out.2.2.1.1.le (Nat.div_le_self _ _)).mono (by omega)) (Lv.one _ (by rw [aG];omega))).mono ?_
   rintro e w4 ⟨v4,rfl,q4,b4⟩
   obtain ⟨Aw,nw,cw,rfl⟩:=q4.form
   have hb4:Below w2.heap.size w2 w4:=Below.step_trans Q3.out.2 b4
   have hk4:=aL hb4 H2.out.2.2.2.1
   obtain ⟨⟨g0,g1,g2⟩,_⟩:=cV hk4
   have H3:=aH (aI q4 (aI (Below.step_trans H2.out.2.2.1 hb4) (aI hk4 (aL hb4 H2.out.2.2.2.2))))
   clear q4 b4 hb4 hk4
   go_wp2_with fail
   have hA:=H3.out.2.2.1
   have hR:=H3.out.2.2.2
   have t1:∀ w',Calls Tryz.prog 181 #[.int .u64 1] w' (TyPost w' (fB 1)):=fun w'=>GivesNt.ty (bK 1 (by rw [aG];omega) w')
   have t2:∀ w' v1,Base [w.heap.size+1] w4 w'→Nt w' v1 1→Calls Tryz.prog 99 #[.bool true,.slice Aw nw cw,v1] w' (TyPost w' (dM ((q.floor:Int):Rat))):=fun w' v1 hB h1=>by
    have:=GivesFr.ty (jK true (q.num.natAbs/q.den+1) 1 _ _ w' (Nt.ext (K:=Ku) (fun _=>rfl) H3.out.1 (hB.extT hR (by simp [hotObj,Ku]))) h1 (((H.out.2.2.1.1.le (Nat.div_le_self _ _)).add (Lv.one 1 (by rw [aG];omega))).mono (by omega)) (Lv.one _ (by rw [aG];omega)) (by omega))
    rwa [vY q true _ H.out.2.2.2.2.2.2 (by rw [if_pos ⟨rfl,HR.out⟩])] at this
   have T1:=aH t1
   have T2:=aH t2
   clear t1 t2
   refine wp_region_ty Ku [w.heap.size+1] (by kernel_rfl) (by kernel_rfl) ?_
   repeat (first|(apply bB (hg:=rfl);case h=>(intro A w' hB hk;simp [known,specOf,Kd.spec,Sp.is,isVar,Oper.looksAt,Op.operands,Call.operands,Act.eval] at hk;have c_hA:=aA (hB.blk hA (by first|(simp;done)|(simp;omega)));first|(simp [go_sem,hk,c_hA];done)|(simp [go_sem,hk,c_hA];rfl)|(simp [go_sem,c_hA];rfl)))|(refine aQ _ ?_ (by first|exact .inl rfl|exact .inr rfl) (by rfl) (by simp [specOf,Kd.spec];rfl) ?_ rfl ?_;(first|exact Sp.is_stable _ _|exact aF (fun _=>rfl) _|exact spTwo_stable (fun _=>rfl) _ _|exact spFr_stable (fun _=>rfl) _|exact spSum_stable (fun _=>rfl) _|exact spSgn_stable _ _|exact spNb_stable (fun _=>rfl) (fun _=>rfl) _|exact spVc_stable (fun _=>rfl) (fun _=>rfl) _)))
   refine aP (fB 1) (aF (fun _=>rfl) _) rfl (fun A w' hB hk=>?_) ?_;(simp [known,specOf,Kd.spec,Sp.is,isVar,Oper.looksAt,Op.operands,Call.operands,Act.eval] at hk;have c_hA:=aA (hB.blk hA (by first|(simp;done)|(simp;omega)));simp [go_sem,hk,c_hA];refine aE ?_;exact T1.out _)
   repeat (first|(apply bB (hg:=rfl);case h=>(intro A w' hB hk;simp [known,specOf,Kd.spec,Sp.is,isVar,Oper.looksAt,Op.operands,Call.operands,Act.eval] at hk;have c_hA:=aA (hB.blk hA (by first|(simp;done)|(simp;omega)));first|(simp [go_sem,hk,c_hA];done)|(simp [go_sem,hk,c_hA];rfl)|(simp [go_sem,c_hA];rfl)))|(refine aQ _ ?_ (by first|exact .inl rfl|exact .inr rfl) (by rfl) (by simp [specOf,Kd.spec];rfl) ?_ rfl ?_;(first|exact Sp.is_stable _ _|exact aF (fun _=>rfl) _|exact spTwo_stable (fun _=>rfl) _ _|exact spFr_stable (fun _=>rfl) _|exact spSum_stable (fun _=>rfl) _|exact spSgn_stable _ _|exact spNb_stable (fun _=>rfl) (fun _=>rfl) _|exact spVc_stable (fun _=>rfl) (fun _=>rfl) _)))
   refine aP (dM ((q.floor:Int):Rat)) (spFr_stable (fun _=>rfl) _) rfl (fun A w' hB hk=>?_) ?_;(simp [known,specOf,Kd.spec,Sp.is,isVar,Oper.looksAt,Op.operands,Call.operands,Act.eval] at hk;have c_hA:=aA (hB.blk hA (by first|(simp;done)|(simp;omega)));simp [go_sem,hk,c_hA];refine aE ?_;exact T2.out _ _ hB (by simpa [fB] using hk.2.2))
   refine gC (w.heap.size+1) (_) (coFr ((q.floor:Int):Rat)) (fD (fun _=>rfl) _) rfl rfl (by simp) (by assumption) (by simp [hotObj,Ku,Kn]) (fun A w' hB hk h0=>?_) ?_;(simp [known,specOf,Kd.spec,Sp.is,isVar,Oper.looksAt,Op.operands,Call.operands,Act.eval] at hk;have c_hA:=aA (hB.blk hA (by first|(simp;done)|(simp;omega)));have c0:=aA h0;have f0:=aY h0;obtain ⟨k1,z1,z2,k2,k3,k4⟩:=hk;obtain ⟨B1,m1,e1,rfl⟩:=k3.form;obtain ⟨B2,m2,e2,rfl⟩:=k4.form;simp [go_sem,k1,k2,c0,f0];exact ⟨_,dP h0 _ _ _,_,_,rfl,k3,k4⟩)
   refine ⟨by first|rfl|decide,fun f w2 hB hF hAp=>?_⟩;simp [Final1,Sp.is,isVar] at hF;simp only [frameOf]
   obtain ⟨o,⟨s1,s2,rfl,k3,k4⟩,ho⟩:=hF.1
   obtain ⟨B1,m1,e1,rfl⟩:=k3.form
   obtain ⟨B2,m2,e2,rfl⟩:=k4.form
   obtain ⟨⟨r0,r1,r2⟩,_⟩:=cV ho
   have K:=aH (aI k3 (aI k4 hB))
   clear k3 k4 hB ho hA
   go_wp2
   refine bodyPost_ret (v := .agg #[.bool (decide ((((q.floor:Int):Rat)).num<0)),.slice B1 m1 e1,.slice B2 m2 e2]) (by simp [results,Tryz.results151,go_sem,r0,r1,r2]) rfl ⟨_,rfl,⟨_,_,rfl,K.out.1,K.out.2.1⟩,?_⟩
   exact Base.belowT K.out.2.2 H3.out.2.1 (by omega)
theorem dV (z:Int) {d:Nat} (hd:d≠0):(mkRat z d).num.natAbs≤z.natAbs∧(mkRat z d).den≤d:=by
 obtain ⟨h1,h2⟩:=sC z hd
 refine ⟨?_,Nat.le_of_dvd (by omega) h2⟩
 rcases Nat.eq_zero_or_pos z.natAbs with h|h
 ·have:z=0:=by omega
  subst this
  rw [Rat.zero_mkRat]
  exact Nat.le_refl _
 ·exact Nat.le_of_dvd h h1
theorem Lf.mono {k l:Nat} {q:Rat} (h:Lf k q) (hk:k≤l):Lf l q:=⟨h.1.mono hk,h.2.mono hk⟩
theorem Lf.mul {k:Nat} {p q:Rat} (hp:Lf k p) (hq:Lf k q):Lf (k+1) (p*q):=by
 rw [Rat.mul_def']
 obtain ⟨h1,h2⟩:=dV (p.num*q.num) (Nat.ne_of_gt (Nat.mul_pos p.den_pos q.den_pos))
 rw [Int.natAbs_mul] at h1
 exact ⟨(hp.1.mul hq.1).le h1,(hp.2.mul hq.2).le h2⟩
theorem Lf.add {k:Nat} {p q:Rat} (hp:Lf k p) (hq:Lf k q):Lf (k+2) (p+q):=by
 rw [Rat.add_def']
 obtain ⟨h1,h2⟩:=dV (p.num*q.den+q.num*p.den) (Nat.ne_of_gt (Nat.mul_pos p.den_pos q.den_pos))
 refine ⟨(Lv.add (hp.1.mul hq.2) (hq.1.mul hp.2)).le ?_,((hp.2.mul hq.2).le h2).mono (by omega)⟩
 refine Nat.le_trans h1 (Nat.le_trans (Int.natAbs_add_le _ _) ?_)
 rw [Int.natAbs_mul,Int.natAbs_mul,Int.natAbs_natCast,Int.natAbs_natCast]
 exact Nat.le_refl _
theorem Lf.neg {k:Nat} {p:Rat} (hp:Lf k p):Lf k (-p):=by
 refine ⟨?_,hp.2⟩
 rw [Rat.neg_num,Int.natAbs_neg];exact hp.1
theorem Lf.inv {k:Nat} {p:Rat} (hp:Lf k p):Lf k p⁻¹:=by
 by_cases h0:p=0
 ·subst h0;rw [Rat.inv_zero];exact hp
 ·obtain ⟨_,e1,e2⟩:=Parts.inv (Parts.self p) h0
  exact ⟨by rw [← e1];exact hp.2,by rw [← e2];exact hp.1⟩
theorem Lf.zero (k:Nat):Lf k 0:=⟨Lv.one _ bI,Lv.one _ eI⟩
theorem Lf.int {k:Nat} {z:Int} (h:Lv k z.natAbs):Lf k (z:Rat):=by
 refine ⟨?_,?_⟩
 ·rw [Rat.num_intCast];exact h
 ·rw [Rat.den_intCast];exact Lv.one _ eI
theorem eJ (w:World) (a b c:Obj):(((w.alloc a).alloc b).alloc c).heap[w.heap.size]?=some a∧(((w.alloc a).alloc b).alloc c).heap[w.heap.size+1]?=some b∧(((w.alloc a).alloc b).alloc c).heap[w.heap.size+1+1]?=some c∧Below w.heap.size w (((w.alloc a).alloc b).alloc c):=by
 have h1:Below (w.alloc a).heap.size (w.alloc a) (((w.alloc a).alloc b).alloc c):=((Below.refl _ _).alloc (Nat.le_refl _) _).alloc (by simp) _
 have h2:Below ((w.alloc a).alloc b).heap.size ((w.alloc a).alloc b) (((w.alloc a).alloc b).alloc c):=(Below.refl _ _).alloc (Nat.le_refl _) _
 refine ⟨aL h1 (heap_alloc_new w a),aL h2 ?_,?_,(((Below.refl _ _).alloc (Nat.le_refl _) _).alloc (by simp) _).alloc (by simp;omega) _⟩
 ·have:=heap_alloc_new (w.alloc a) b;simpa using this
 ·have:=heap_alloc_new ((w.alloc a).alloc b) c;simpa using this
set_option maxRecDepth 100000 in
set_option maxHeartbeats 8000000 in
theorem qR (v v' : Value) (p q:Rat) (w:World) (h:Fr w v p) (h' : Fr w v' q) (hp:Lf 38 p) (hq:Lf 38 q):Calls Tryz.prog 135 #[v,v'] w (GivesFr w (p*q)):=by
 obtain ⟨s1,s2,rfl,h1,h2⟩:=h
 obtain ⟨s3,s4,rfl,h3,h4⟩:=h'
 obtain ⟨A1,n1,c1,rfl⟩:=h1.form
 obtain ⟨A2,n2,c2,rfl⟩:=h2.form
 obtain ⟨A3,n3,c3,rfl⟩:=h3.form
 obtain ⟨A4,n4,c4,rfl⟩:=h4.form
 obtain ⟨hk1,hk2,hk3,hb1⟩:=eJ w (.cells #[.bool (decide (p.num<0)),.slice A1 n1 c1,.slice A2 n2 c2] 130) (.cells #[.bool (decide (q.num<0)),.slice A3 n3 c3,.slice A4 n4 c4] 130) (.cells #[.bool false,.slice none 0 0,.slice none 0 0] 130)
 have H:=aH (aI (h1.below hb1) (aI (h2.below hb1) (aI (h3.below hb1) (aI (h4.below hb1) (aI hp (aI hq (aI hb1 (aI hk1 (aI hk2 hk3)))))))))
 clear h1 h2 h3 h4 hp hq hb1 hk1 hk2 hk3
 go_enter Tryz.func135,Tryz.ntmps135
 go_wp2
 generalize ((w.alloc (.cells #[.bool (decide (p.num<0)),.slice A1 n1 c1,.slice A2 n2 c2] 130)).alloc (.cells #[.bool (decide (q.num<0)),.slice A3 n3 c3,.slice A4 n4 c4] 130)).alloc (.cells #[.bool false,.slice none 0 0,.slice none 0 0] 130)=w1 at *
 have hA:=H.out.2.2.2.2.2.2.2.1
 have hC:=H.out.2.2.2.2.2.2.2.2.1
 obtain ⟨L,hL⟩:∃ L,L=mkRat p.num q.den:=⟨_,rfl⟩
 obtain ⟨R,hR⟩:∃ R,R=mkRat q.num p.den:=⟨_,rfl⟩
 have HLR:=aH (aI hL hR)
 have t1:∀ w',Base [] w1 w'→Calls Tryz.prog 99 #[.bool (decide (p.num<0)),.slice A1 n1 c1,.slice A4 n4 c4] w' (TyPost w' (dM L)):=fun w' hB=>by
  have:=GivesFr.ty (jK (decide (p.num<0)) p.num.natAbs q.den _ _ w' (H.out.1.below hB.below) (H.out.2.2.2.1.below hB.below) (H.out.2.2.2.2.1.1.mono (by omega)) (H.out.2.2.2.2.2.1.2.mono (by omega)) q.den_pos)
  rwa [vJ,← hL] at this
 have t2:∀ w',Base [] w1 w'→Calls Tryz.prog 99 #[.bool (decide (q.num<0)),.slice A3 n3 c3,.slice A2 n2 c2] w' (TyPost w' (dM R)):=fun w' hB=>by
  have:=GivesFr.ty (jK (decide (q.num<0)) q.num.natAbs p.den _ _ w' (H.out.2.2.1.below hB.below) (H.out.2.1.below hB.below) (H.out.2.2.2.2.2.1.1.mono (by omega)) (H.out.2.2.2.2.1.2.mono (by omega)) p.den_pos)
  rwa [vJ,← hR] at this
 have T1:=aH t1
 have T2:=aH t2
 clear t1 t2 hL hR
 refine wp_region_ty Ku [] (by kernel_rfl) (by kernel_rfl) ?_
 repeat (first|(apply bB (hg:=rfl);case h=>(intro A w' hB hk;simp [known,specOf,Kd.spec,Sp.is,isVar,Oper.looksAt,Op.operands,Call.operands,Act.eval] at hk;have c_hA:=aA (hB.blk hA (by first|(simp;done)|(simp;omega)));have c_hC:=aA (hB.blk hC (by first|(simp;done)|(simp;omega)));first|(simp [go_sem,hk,c_hA,c_hC];done)|(simp [go_sem,hk,c_hA,c_hC];rfl)|(simp [go_sem,c_hA,c_hC];rfl)))|(refine aQ _ ?_ (by first|exact .inl rfl|exact .inr rfl) (by rfl) (by simp [specOf,Kd.spec];rfl) ?_ rfl ?_;(first|exact Sp.is_stable _ _|exact aF (fun _=>rfl) _|exact spTwo_stable (fun _=>rfl) _ _|exact spFr_stable (fun _=>rfl) _|exact spSum_stable (fun _=>rfl) _|exact spSgn_stable _ _|exact spNb_stable (fun _=>rfl) (fun _=>rfl) _|exact spVc_stable (fun _=>rfl) (fun _=>rfl) _)))
 refine aP (dM L) (spFr_stable (fun _=>rfl) _) rfl (fun A w' hB hk=>?_) ?_;(simp [known,specOf,Kd.spec,Sp.is,isVar,Oper.looksAt,Op.operands,Call.operands,Act.eval] at hk;have c_hA:=aA (hB.blk hA (by first|(simp;done)|(simp;omega)));simp [go_sem,hk,c_hA];refine aE ?_;exact T1.out _ hB)
 repeat (first|(apply bB (hg:=rfl);case h=>(intro A w' hB hk;simp [known,specOf,Kd.spec,Sp.is,isVar,Oper.looksAt,Op.operands,Call.operands,Act.eval] at hk;have c_hA:=aA (hB.blk hA (by first|(simp;done)|(simp;omega)));have c_hC:=aA (hB.blk hC (by first|(simp;done)|(simp;omega)));first|(simp [go_sem,hk,c_hA,c_hC];done)|(simp [go_sem,hk,c_hA,c_hC];rfl)|(simp [go_sem,c_hA,c_hC];rfl)))|(refine aQ _ ?_ (by first|exact .inl rfl|exact .inr rfl) (by rfl) (by simp [specOf,Kd.spec];rfl) ?_ rfl ?_;(first|exact Sp.is_stable _ _|exact aF (fun _=>rfl) _|exact spTwo_stable (fun _=>rfl) _ _|exact spFr_stable (fun _=>rfl) _|exact spSum_stable (fun _=>rfl) _|exact spSgn_stable _ _|exact spNb_stable (fun _=>rfl) (fun _=>rfl) _|exact spVc_stable (fun _=>rfl) (fun _=>rfl) _)))
 refine aP (dM R) (spFr_stable (fun _=>rfl) _) rfl (fun A w' hB hk=>?_) ?_;(simp [known,specOf,Kd.spec,Sp.is,isVar,Oper.looksAt,Op.operands,Call.operands,Act.eval] at hk;have c_hA:=aA (hB.blk hA (by first|(simp;done)|(simp;omega)));simp [go_sem,hk,c_hA];refine aE ?_;exact T2.out _ hB)
 (apply zD (hg:=rfl) (hd:=rfl);(case h=>(intro A w';simp [go_sem];rfl));(case hc=>simp [hotObj,Ku,Kn]))
 (apply zD (hg:=rfl) (hd:=rfl);(case h=>(intro A w';simp [go_sem];rfl));(case hc=>simp [hotObj,Ku,Kn]))
 refine zE 5 ((.cells #[.bool false,.slice none 0 0,.slice none 0 0] 130 (0,0))) (coFr L) (fD (fun _=>rfl) _) rfl rfl (by simp [Oper.looksAt,Op.operands]) (by simp) (fun A w' b hB hk hd h0=>?_) ?_;(simp [known,specOf,Kd.spec,Sp.is,isVar,Oper.looksAt,Op.operands,Call.operands,Act.eval] at hk;simp [Act.eval] at hd;have c_hA:=aA (hB.blk hA (by first|(simp;done)|(simp;omega)));have c0:=aA h0;have f0:=aY h0;obtain ⟨k1,z1,z2,k2,k3,k4⟩:=hk;obtain ⟨B1,m1,e1,rfl⟩:=k3.form;obtain ⟨B2,m2,e2,rfl⟩:=k4.form;simp [go_sem,hd,k2,c0,f0];exact ⟨_,dP h0 _ _ _,_,_,rfl,k3,k4⟩)
 refine zE 6 ((.cells #[.bool false,.slice none 0 0,.slice none 0 0] 130 (0,0))) (coFr R) (fD (fun _=>rfl) _) rfl rfl (by simp [Oper.looksAt,Op.operands]) (by simp) (fun A w' b hB hk hd h0=>?_) ?_;(simp [known,specOf,Kd.spec,Sp.is,isVar,Oper.looksAt,Op.operands,Call.operands,Act.eval] at hk;simp [Act.eval] at hd;have c_hA:=aA (hB.blk hA (by first|(simp;done)|(simp;omega)));have c0:=aA h0;have f0:=aY h0;obtain ⟨k1,z1,z2,k2,k3,k4⟩:=hk;obtain ⟨B1,m1,e1,rfl⟩:=k3.form;obtain ⟨B2,m2,e2,rfl⟩:=k4.form;simp [go_sem,hd,k2,c0,f0];exact ⟨_,dP h0 _ _ _,_,_,rfl,k3,k4⟩)
 refine ⟨by first|rfl|decide,fun f w2 hB hF hAp=>?_⟩;simp [Final1,Sp.is,isVar] at hF;simp only [frameOf]
 have h56:=hAp 5 6 (.cells #[.bool false,.slice none 0 0,.slice none 0 0] 130 (0,0)) (.cells #[.bool false,.slice none 0 0,.slice none 0 0] 130 (0,0)) (by simp) (by simp) (by decide)
 obtain ⟨b6,e6,l6,_,o6,⟨x1,x2,rfl,y1,y2⟩,ho6⟩:=hF.1
 obtain ⟨b5,e5,l5,_,o5,⟨x3,x4,rfl,y3,y4⟩,ho5⟩:=hF.2.1
 have hF2:=hF.2.2
 have hb56:b5≠b6:=fun e=>h56 (by rw [e5,e6,e])
 obtain ⟨X1,g1,d1,rfl⟩:=y1.form
 obtain ⟨X2,g2,d2,rfl⟩:=y2.form
 obtain ⟨X3,g3,d3,rfl⟩:=y3.form
 obtain ⟨X4,g4,d4,rfl⟩:=y4.form
 clear hF hAp h56
 obtain ⟨⟨r50,r51,r52⟩,_⟩:=cV ho5
 obtain ⟨⟨r60,r61,r62⟩,_⟩:=cV ho6
 have hres:=hB.blk H.out.2.2.2.2.2.2.2.2.2 (by simp)
 have hb2:Below w.heap.size w w2:=Below.step_trans H.out.2.2.2.2.2.2.1 hB.below
 have M:=aH (aI y1 (aI y2 (aI y3 (aI y4 (aI ho5 (aI ho6 (aI hres (aI hb2 (aI l5 (aI l6 hb56))))))))))
 have HE:=aH (aI e5 e6)
 clear y1 y2 y3 y4 ho5 ho6 hres hb2 hB l5 l6 hb56
 have hlv:Lf 38 L∧Lf 38 R:=by
  obtain ⟨hL,hR⟩:=HLR.out
  obtain ⟨m1,m2⟩:=dV p.num q.den_nz
  obtain ⟨m3,m4⟩:=dV q.num p.den_nz
  rw [hL,hR]
  exact ⟨⟨H.out.2.2.2.2.1.1.le m1,H.out.2.2.2.2.2.1.2.le m2⟩,⟨H.out.2.2.2.2.2.1.1.le m3,H.out.2.2.2.2.1.2.le m4⟩⟩
 have HLV:=aH hlv
 clear hlv
 have zeroOut:∀ (v:Value) (w3:World),p*q=0→Fr w3 v 0→Fr w3 v (p*q):=fun v w3 h hf=>by rw [h];exact hf
 have ZO:=aH zeroOut
 clear zeroOut
 by_cases z5:L.num.natAbs=0
 ·have hpq:p*q=0:=by
   have:=Parts.self L
   rw [z5] at this
   rw [HLR.out.1] at this
   exact oZ this
  have hz:decide (L.num.natAbs=0)=true:=by rw [decide_eq_true_eq];exact z5
  clear z5
  go_wp2_with fail
  refine (dE M.out.2.2.1).mono ?_
  rintro e w' ⟨rfl,rfl⟩
  rw [hz]
  clear hz
  have HZ:=aH hpq
  clear hpq
  go_wp2_with fail
  refine (qQ _).mono ?_
  rintro e w3 ⟨v1,rfl,⟨s1,s2,rfl,q1,q2⟩,b1⟩
  obtain ⟨E1,k1,m1,rfl⟩:=q1.form
  obtain ⟨E2,k2,m2,rfl⟩:=q2.form
  have hk:=aL b1 M.out.2.2.2.2.2.2.1
  obtain ⟨⟨h0,h1,h2⟩,f0,f1,f2⟩:=cV hk
  have Q:=aH (aI q1 (aI q2 (aI b1 hk)))
  clear q1 q2 b1 hk
  go_wp2
  refine bodyPost_ret (v := .agg #[.bool (decide ((0:Rat).num<0)),.slice E1 k1 m1,.slice E2 k2 m2]) (by simp [results,Tryz.results135,go_sem,h0,h1,h2]) rfl ⟨_,rfl,?_,?_⟩
  ·exact ZO.out _ _ HZ.out (Fr.ext (K:=Ku) (fun _=>rfl) ⟨_,_,rfl,Q.out.1,Q.out.2.1⟩ (Ext.only (nP _ _ _ _ _) Q.out.2.2.2 (by simp [hotObj,Ku])))
  ·repeat (first|exact (Below.step_trans M.out.2.2.2.2.2.2.2.1 Q.out.2.2.1)|(refine Below.setCell ?_ (by first|omega|(simp;done)|(simp;omega)) _)|(refine Below.alloc ?_ (by first|omega|(simp;done)|(simp;omega)) _)|(refine Below.drew ?_)|exact Below.refl _ _)
 ·have hz:decide (L.num.natAbs=0)=false:=by rw [decide_eq_false_iff_not];exact z5
  have HZ5:=aH z5
  clear z5
  go_wp2_with fail
  refine (dE M.out.2.2.1).mono ?_
  rintro e w' ⟨rfl,rfl⟩
  rw [hz]
  clear hz
  go_wp2_with fail
  refine (dE M.out.1).mono ?_
  rintro e w' ⟨rfl,rfl⟩
  by_cases z6:R.num.natAbs=0
  ·have hpq:p*q=0:=by
    have:=Parts.self R
    rw [z6] at this
    rw [HLR.out.2] at this
    exact vL this
   have hz:decide (R.num.natAbs=0)=true:=by rw [decide_eq_true_eq];exact z6
   rw [hz]
   clear hz z6
   have HZ:=aH hpq
   clear hpq
   go_wp2_with fail
   refine (qQ _).mono ?_
   rintro e w3 ⟨v1,rfl,⟨s1,s2,rfl,q1,q2⟩,b1⟩
   obtain ⟨E1,k1,m1,rfl⟩:=q1.form
   obtain ⟨E2,k2,m2,rfl⟩:=q2.form
   have hk:=aL b1 M.out.2.2.2.2.2.2.1
   obtain ⟨⟨h0,h1,h2⟩,f0,f1,f2⟩:=cV hk
   have Q:=aH (aI q1 (aI q2 (aI b1 hk)))
   clear q1 q2 b1 hk
   go_wp2
   refine bodyPost_ret (v := .agg #[.bool (decide ((0:Rat).num<0)),.slice E1 k1 m1,.slice E2 k2 m2]) (by simp [results,Tryz.results135,go_sem,h0,h1,h2]) rfl ⟨_,rfl,?_,?_⟩
   ·exact ZO.out _ _ HZ.out (Fr.ext (K:=Ku) (fun _=>rfl) ⟨_,_,rfl,Q.out.1,Q.out.2.1⟩ (Ext.only (nP _ _ _ _ _) Q.out.2.2.2 (by simp [hotObj,Ku])))
   ·repeat (first|exact (Below.step_trans M.out.2.2.2.2.2.2.2.1 Q.out.2.2.1)|(refine Below.setCell ?_ (by first|omega|(simp;done)|(simp;omega)) _)|(refine Below.alloc ?_ (by first|omega|(simp;done)|(simp;omega)) _)|(refine Below.drew ?_)|exact Below.refl _ _)
  ·have hz:decide (R.num.natAbs=0)=false:=by rw [decide_eq_false_iff_not];exact z6
   rw [hz]
   have HZ6:=aH z6
   clear hz z6
   have hpar:Parts (p*q) (decide (L.num<0) != decide (R.num<0)) (L.num.natAbs*R.num.natAbs) (L.den*R.den):=by
    have h1:=HLR.out.1
    have h2:=HLR.out.2
    have h3:=HZ5.out
    have h4:=HZ6.out
    rw [h1,h2] at *
    exact Parts.mul (Parts.self _) (Parts.self _) h3 h4
   have HP:=aH hpar
   generalize decide (L.num<0)=nl at *
   generalize decide (R.num<0)=nr at *
   have hA5:=M.out.2.2.2.2.1
   have hA6:=M.out.2.2.2.2.2.1
   have hR0:=M.out.2.2.2.2.2.2.1
   have t1:∀ w',Base [w.heap.size+1+1] w2 w'→Calls Tryz.prog 180 #[.slice X3 g3 d3,.slice X1 g1 d1] w' (TyPost w' (fB (L.num.natAbs*R.num.natAbs))):=fun w' hB =>
    GivesNt.ty (fT (Nt.ext (K:=Ku) (fun _=>rfl) M.out.2.2.1 (hB.extT M.out.2.2.2.2.2.2.1 (by simp [hotObj,Ku]))) (Nt.ext (K:=Ku) (fun _=>rfl) M.out.1 (hB.extT M.out.2.2.2.2.2.2.1 (by simp [hotObj,Ku]))) (HLV.out.1.1.mono (by omega)) (HLV.out.2.1.mono (by omega)))
   have t2:∀ w',Base [w.heap.size+1+1] w2 w'→Calls Tryz.prog 180 #[.slice X4 g4 d4,.slice X2 g2 d2] w' (TyPost w' (fB (L.den*R.den))):=fun w' hB =>
    GivesNt.ty (fT (Nt.ext (K:=Ku) (fun _=>rfl) M.out.2.2.2.1 (hB.extT M.out.2.2.2.2.2.2.1 (by simp [hotObj,Ku]))) (Nt.ext (K:=Ku) (fun _=>rfl) M.out.2.1 (hB.extT M.out.2.2.2.2.2.2.1 (by simp [hotObj,Ku]))) (HLV.out.1.2.mono (by omega)) (HLV.out.2.2.mono (by omega)))
   have T3:=aH t1
   have T4:=aH t2
   clear t1 t2 hpar
   have hne5:b5≠w.heap.size+1+1:=by
    have:=M.out.2.2.2.2.2.2.2.2.1
    have:=lt_of_block H.out.2.2.2.2.2.2.2.2.2
    omega
   have hne6:b6≠w.heap.size+1+1:=by
    have:=M.out.2.2.2.2.2.2.2.2.2.1
    have:=lt_of_block H.out.2.2.2.2.2.2.2.2.2
    omega
   go_wp2_with fail
   refine wp_region_ty Ku [w.heap.size+1+1] (by kernel_rfl) (by kernel_rfl) ?_
   repeat (first|(apply bB (hg:=rfl);case h=>(intro A w' hB hk;simp [known,specOf,Kd.spec,Sp.is,isVar,Oper.looksAt,Op.operands,Call.operands,Act.eval] at hk;have c_hA5:=aA (hB.blk hA5 (by first|(simp;done)|(simp;omega)));have c_hA6:=aA (hB.blk hA6 (by first|(simp;done)|(simp;omega)));first|(simp [go_sem,hk,c_hA5,c_hA6];done)|(simp [go_sem,hk,c_hA5,c_hA6];rfl)|(simp [go_sem,c_hA5,c_hA6];rfl)))|(refine aQ _ ?_ (by first|exact .inl rfl|exact .inr rfl) (by rfl) (by simp [specOf,Kd.spec];rfl) ?_ rfl ?_;(first|exact Sp.is_stable _ _|exact aF (fun _=>rfl) _|exact spTwo_stable (fun _=>rfl) _ _|exact spFr_stable (fun _=>rfl) _|exact spSum_stable (fun _=>rfl) _|exact spSgn_stable _ _|exact spNb_stable (fun _=>rfl) (fun _=>rfl) _|exact spVc_stable (fun _=>rfl) (fun _=>rfl) _)))
   refine aP (fB (L.num.natAbs*R.num.natAbs)) (aF (fun _=>rfl) _) rfl (fun A w' hB hk=>?_) ?_;(simp [known,specOf,Kd.spec,Sp.is,isVar,Oper.looksAt,Op.operands,Call.operands,Act.eval] at hk;have c_hA5:=aA (hB.blk hA5 (by first|(simp;done)|(simp;omega)));have c_hA6:=aA (hB.blk hA6 (by first|(simp;done)|(simp;omega)));simp [go_sem,hk,c_hA5,c_hA6];refine aE ?_;exact T3.out _ hB)
   repeat (first|(apply bB (hg:=rfl);case h=>(intro A w' hB hk;simp [known,specOf,Kd.spec,Sp.is,isVar,Oper.looksAt,Op.operands,Call.operands,Act.eval] at hk;have c_hA5:=aA (hB.blk hA5 (by first|(simp;done)|(simp;omega)));have c_hA6:=aA (hB.blk hA6 (by first|(simp;done)|(simp;omega)));first|(simp [go_sem,hk,c_hA5,c_hA6];done)|(simp [go_sem,hk,c_hA5,c_hA6];rfl)|(simp [go_sem,c_hA5,c_hA6];rfl)))|(refine aQ _ ?_ (by first|exact .inl rfl|exact .inr rfl) (by rfl) (by simp [specOf,Kd.spec];rfl) ?_ rfl ?_;(first|exact Sp.is_stable _ _|exact aF (fun _=>rfl) _|exact spTwo_stable (fun _=>rfl) _ _|exact spFr_stable (fun _=>rfl) _|exact spSum_stable (fun _=>rfl) _|exact spSgn_stable _ _|exact spNb_stable (fun _=>rfl) (fun _=>rfl) _|exact spVc_stable (fun _=>rfl) (fun _=>rfl) _)))
   refine aP (fB (L.den*R.den)) (aF (fun _=>rfl) _) rfl (fun A w' hB hk=>?_) ?_;(simp [known,specOf,Kd.spec,Sp.is,isVar,Oper.looksAt,Op.operands,Call.operands,Act.eval] at hk;have c_hA5:=aA (hB.blk hA5 (by first|(simp;done)|(simp;omega)));have c_hA6:=aA (hB.blk hA6 (by first|(simp;done)|(simp;omega)));simp [go_sem,hk,c_hA5,c_hA6];refine aE ?_;exact T4.out _ hB)
   refine aP (dM (p*q)) (spFr_stable (fun _=>rfl) _) rfl (fun A w' hB hk=>?_) ?_;(simp [known,specOf,Kd.spec,Sp.is,isVar,Oper.looksAt,Op.operands,Call.operands,Act.eval] at hk;have c_hA5:=aA (hB.blk hA5 (by first|(simp;done)|(simp;omega)));obtain ⟨k1,k2,k3⟩:=hk;obtain ⟨B1,m1,u1,e1⟩:=(show Nt _ _ _ from k2).form;obtain ⟨B2,m2,u2,e2⟩:=(show Nt _ _ _ from k3).form;rw [e1] at k2;rw [e2] at k3;simp [go_sem,k1,e1,e2];refine jB ?_;exact Fr.of HP.out k2 k3)
   refine gC (w.heap.size+1+1) (_) (coFr (p*q)) (fD (fun _=>rfl) _) rfl rfl (by simp) (by assumption) (by simp [hotObj,Ku,Kn]) (fun A w' hB hk h0=>?_) ?_;(simp [known,specOf,Kd.spec,Sp.is,isVar,Oper.looksAt,Op.operands,Call.operands,Act.eval] at hk;have c_hA5:=aA (hB.blk hA5 (by first|(simp;done)|(simp;omega)));have c0:=aA h0;have f0:=aY h0;obtain ⟨k1,z1,z2,k2,k3,k4⟩:=hk;obtain ⟨B1,m1,e1,rfl⟩:=k3.form;obtain ⟨B2,m2,e2,rfl⟩:=k4.form;simp [go_sem,k1,k2,c0,f0];exact ⟨_,dP h0 _ _ _,_,_,rfl,k3,k4⟩)
   refine ⟨by first|rfl|decide,fun f w2 hB hF hAp=>?_⟩;simp [Final1,Sp.is,isVar] at hF;simp only [frameOf]
   obtain ⟨o,⟨s1,s2,rfl,k3,k4⟩,ho⟩:=hF.1
   obtain ⟨B1,m1,u1,rfl⟩:=k3.form
   obtain ⟨B2,m2,u2,rfl⟩:=k4.form
   obtain ⟨⟨r0,r1,r2⟩,_⟩:=cV ho
   have K:=aH (aI k3 (aI k4 hB))
   clear k3 k4 hB ho hA5 hA6 hAp
   go_wp2
   refine bodyPost_ret (v := .agg #[.bool (decide ((p*q).num<0)),.slice B1 m1 u1,.slice B2 m2 u2]) (by simp [results,Tryz.results135,go_sem,r0,r1,r2]) rfl ⟨_,rfl,⟨_,_,rfl,K.out.1,K.out.2.1⟩,?_⟩
   exact Base.belowT K.out.2.2 M.out.2.2.2.2.2.2.2.1 (by omega)
def spSum (S:Int):Sp:=fun v w => ∃ neg u,v = .tuple #[.bool neg,u]∧sg neg S.natAbs=S∧Nt w u S.natAbs
def spSgn (S:Int):Sp:=fun v _ => ∃ neg,v = .bool neg∧sg neg S.natAbs=S
theorem spSum_stable {K:Value→Bool} (hK:∀ x,K (.int .u64 x)=true) (S:Int):Stable K (spSum S):=fun _ _ _ ⟨n,u,e,h1,h2⟩ hx=>⟨n,u,e,h1,h2.ext hK hx⟩
theorem spSgn_stable (K:Value→Bool) (S:Int):Stable K (spSgn S):=fun _ _ _ h _=>h
set_option maxRecDepth 100000 in
set_option maxHeartbeats 8000000 in
theorem tN (v v' : Value) (p q:Rat) (w:World) (h:Fr w v p) (h' : Fr w v' q) (hp:Lf 36 p) (hq:Lf 36 q):Calls Tryz.prog 132 #[v,v'] w (GivesFr w (p+q)):=by
 obtain ⟨s1,s2,rfl,h1,h2⟩:=h
 obtain ⟨s3,s4,rfl,h3,h4⟩:=h'
 obtain ⟨A1,n1,c1,rfl⟩:=h1.form
 obtain ⟨A2,n2,c2,rfl⟩:=h2.form
 obtain ⟨A3,n3,c3,rfl⟩:=h3.form
 obtain ⟨A4,n4,c4,rfl⟩:=h4.form
 obtain ⟨hk1,hk2,hk3,hb1⟩:=eJ w (.cells #[.bool (decide (p.num<0)),.slice A1 n1 c1,.slice A2 n2 c2] 130) (.cells #[.bool (decide (q.num<0)),.slice A3 n3 c3,.slice A4 n4 c4] 130) (.cells #[.bool false,.slice none 0 0,.slice none 0 0] 130)
 have H:=aH (aI (h1.below hb1) (aI (h2.below hb1) (aI (h3.below hb1) (aI (h4.below hb1) (aI hp (aI hq (aI hb1 (aI hk1 (aI hk2 hk3)))))))))
 clear h1 h2 h3 h4 hp hq hb1 hk1 hk2 hk3
 obtain ⟨g,hg⟩:∃ g,g=p.den.gcd q.den:=⟨_,rfl⟩
 obtain ⟨ma,hma⟩:∃ ma,ma=p.den/g:=⟨_,rfl⟩
 obtain ⟨mb,hmb⟩:∃ mb,mb=q.den/g:=⟨_,rfl⟩
 obtain ⟨S,hS⟩:∃ S,S=p.num*mb+q.num*ma:=⟨_,rfl⟩
 obtain ⟨g0,ma0,mb0,ed1,ed2,hpq,hgcd⟩:=sB p q hg hma hmb hS
 have hgl:Lv 36 g:=H.out.2.2.2.2.1.2.le (by rw [hg];exact Nat.gcd_le_left _ p.den_pos)
 have hmal:Lv 36 ma:=H.out.2.2.2.2.1.2.le (by rw [hma];exact Nat.div_le_self _ _)
 have hmbl:Lv 36 mb:=H.out.2.2.2.2.2.1.2.le (by rw [hmb];exact Nat.div_le_self _ _)
 have hSl:Lv 38 S.natAbs:=by
  refine (Lv.add (H.out.2.2.2.2.1.1.mul hmbl) (H.out.2.2.2.2.2.1.1.mul hmal)).le ?_
  rw [hS]
  refine Nat.le_trans (Int.natAbs_add_le _ _) ?_
  rw [Int.natAbs_mul,Int.natAbs_mul,Int.natAbs_natCast,Int.natAbs_natCast]
  exact Nat.le_refl _
 have G:=aH (aI hg (aI hma (aI hmb (aI hS (aI g0 (aI hgl (aI hmal (aI hmbl hSl))))))))
 clear hg hma hmb hS g0 ma0 mb0 ed1 ed2 hpq hgcd hgl hmal hmbl hSl
 have hgn:=G.out.1
 go_enter Tryz.func132,Tryz.ntmps132
 go_wp2_with fail
 generalize ((w.alloc (.cells #[.bool (decide (p.num<0)),.slice A1 n1 c1,.slice A2 n2 c2] 130)).alloc (.cells #[.bool (decide (q.num<0)),.slice A3 n3 c3,.slice A4 n4 c4] 130)).alloc (.cells #[.bool false,.slice none 0 0,.slice none 0 0] 130)=w1 at *
 refine (uG _ _ p.den q.den _ H.out.2.1 H.out.2.2.2.1 (H.out.2.2.2.2.1.2.mono (by omega)) (H.out.2.2.2.2.2.1.2.mono (by omega)) (.inl p.den_pos)).mono ?_
 rw [← hgn]
 clear hgn
 rintro e w2 ⟨vg,rfl,qg,b2⟩
 obtain ⟨Ag,kg,cg,rfl⟩:=qg.form
 have hA:=aL b2 H.out.2.2.2.2.2.2.2.1
 have hC:=aL b2 H.out.2.2.2.2.2.2.2.2.1
 obtain ⟨⟨u0,u1,u2⟩,_⟩:=cV hA
 obtain ⟨⟨u3,u4,u5⟩,_⟩:=cV hC
 have Q2:=aH (aI qg (aI b2 (aI hA hC)))
 clear qg b2 hA hC
 go_wp2_with fail
 refine (eT (H.out.2.1.below Q2.out.2.1) Q2.out.1 (H.out.2.2.2.2.1.2.mono (by omega)) G.out.2.2.2.2.1).mono ?_
 rw [← G.out.2.1]
 rintro e w3 ⟨vm,x1,rfl,qm,qx,b3⟩
 obtain ⟨Am,km,cm,rfl⟩:=qm.form
 have hb3:=Below.step_trans Q2.out.2.1 b3
 have hA:=aL b3 Q2.out.2.2.1
 have hC:=aL b3 Q2.out.2.2.2
 clear u0 u1 u2 u3 u4 u5
 obtain ⟨⟨u0,u1,u2⟩,_⟩:=cV hA
 obtain ⟨⟨u3,u4,u5⟩,_⟩:=cV hC
 have Q3:=aH (aI qm (aI b3 (aI hb3 (aI hA hC))))
 obtain ⟨Ax1,kx1,cx1,rfl⟩:=qx.form
 clear qm b3 hb3 hA hC qx
 go_wp2_with fail
 refine (eT (H.out.2.2.2.1.below Q3.out.2.2.1) (Q2.out.1.below Q3.out.2.1) (H.out.2.2.2.2.2.1.2.mono (by omega)) G.out.2.2.2.2.1).mono ?_
 rw [← G.out.2.2.1]
 rintro e w4 ⟨vn,x2,rfl,qn,qx,b4⟩
 obtain ⟨An,kn,cn,rfl⟩:=qn.form
 obtain ⟨Ax2,kx2,cx2,rfl⟩:=qx.form
 have hb4:=Below.step_trans Q3.out.2.2.1 b4
 have hA:=aL b4 Q3.out.2.2.2.1
 have hC:=aL b4 Q3.out.2.2.2.2
 have hR:=aL hb4 H.out.2.2.2.2.2.2.2.2.2
 clear u0 u1 u2 u3 u4 u5
 have Q4:=aH (aI qn (aI b4 (aI hb4 (aI (Q3.out.1.below b4) (aI hR (aI (Q2.out.1.below (Below.step_trans Q3.out.2.1 b4)) (Below.step_trans H.out.2.2.2.2.2.2.1 hb4)))))))
 clear qn b4 hb4 hR qx
 go_wp2_with fail
 have t1:∀ w',Base [] w4 w'→Calls Tryz.prog 180 #[.slice A1 n1 c1,.slice An kn cn] w' (TyPost w' (fB (p.num.natAbs*mb))):=fun w' hB =>
  GivesNt.ty (fT (H.out.1.below (Below.step_trans Q4.out.2.2.1 hB.below)) (Q4.out.1.below hB.below) (H.out.2.2.2.2.1.1.mono (by omega)) (G.out.2.2.2.2.2.2.2.1.mono (by omega)))
 have t2:∀ w',Base [] w4 w'→Calls Tryz.prog 180 #[.slice A3 n3 c3,.slice Am km cm] w' (TyPost w' (fB (q.num.natAbs*ma))):=fun w' hB =>
  GivesNt.ty (fT (H.out.2.2.1.below (Below.step_trans Q4.out.2.2.1 hB.below)) (Q4.out.2.2.2.1.below hB.below) (H.out.2.2.2.2.2.1.1.mono (by omega)) (G.out.2.2.2.2.2.2.1.mono (by omega)))
 have t3:∀ w' x y,Base [] w4 w'→Nt w' x (p.num.natAbs*mb)→Nt w' y (q.num.natAbs*ma)→Calls Tryz.prog 197 #[.bool (decide (p.num<0)),x,.bool (decide (q.num<0)),y] w' (TyPost w' (spSum S)):=fun w' x y hB hx hy=>by
  have:=uA (decide (p.num<0)) (decide (q.num<0)) _ _ x y w' hx hy (((H.out.2.2.2.2.1.1).mul G.out.2.2.2.2.2.2.2.1).mono (by omega)) (((H.out.2.2.2.2.2.1.1).mul G.out.2.2.2.2.2.2.1).mono (by omega))
  rw [sg_mul,sg_mul,vJ,vJ,← G.out.2.2.2.1] at this
  exact this.mono fun e w'' ⟨neg,u,h1,h2,h3,h4⟩=>⟨_,h1,h4,neg,u,rfl,h2,h3⟩
 have T1:=aH t1
 have T2:=aH t2
 have T3:=aH t3
 clear t1 t2 t3
 refine wp_region_ty Ku [] (by kernel_rfl) (by kernel_rfl) ?_
 repeat (first|(apply bB (hg:=rfl);case h=>(intro A w' hB hk;simp [known,specOf,Kd.spec,Sp.is,isVar,Oper.looksAt,Op.operands,Call.operands,Act.eval] at hk;have c_hA:=aA (hB.blk hA (by first|(simp;done)|(simp;omega)));have c_hC:=aA (hB.blk hC (by first|(simp;done)|(simp;omega)));first|(simp [go_sem,hk,c_hA,c_hC];done)|(simp [go_sem,hk,c_hA,c_hC];rfl)|(simp [go_sem,c_hA,c_hC];rfl)))|(refine aQ _ ?_ (by first|exact .inl rfl|exact .inr rfl) (by rfl) (by simp [specOf,Kd.spec];rfl) ?_ rfl ?_;(first|exact Sp.is_stable _ _|exact aF (fun _=>rfl) _|exact spTwo_stable (fun _=>rfl) _ _|exact spFr_stable (fun _=>rfl) _|exact spSum_stable (fun _=>rfl) _|exact spSgn_stable _ _|exact spNb_stable (fun _=>rfl) (fun _=>rfl) _|exact spVc_stable (fun _=>rfl) (fun _=>rfl) _)))
 refine aP (fB (p.num.natAbs*mb)) (aF (fun _=>rfl) _) rfl (fun A w' hB hk=>?_) ?_;(simp [known,specOf,Kd.spec,Sp.is,isVar,Oper.looksAt,Op.operands,Call.operands,Act.eval] at hk;have c_hA:=aA (hB.blk hA (by first|(simp;done)|(simp;omega)));simp [go_sem,hk,c_hA];refine aE ?_;exact T1.out _ hB)
 repeat (first|(apply bB (hg:=rfl);case h=>(intro A w' hB hk;simp [known,specOf,Kd.spec,Sp.is,isVar,Oper.looksAt,Op.operands,Call.operands,Act.eval] at hk;have c_hA:=aA (hB.blk hA (by first|(simp;done)|(simp;omega)));have c_hC:=aA (hB.blk hC (by first|(simp;done)|(simp;omega)));first|(simp [go_sem,hk,c_hA,c_hC];done)|(simp [go_sem,hk,c_hA,c_hC];rfl)|(simp [go_sem,c_hA,c_hC];rfl)))|(refine aQ _ ?_ (by first|exact .inl rfl|exact .inr rfl) (by rfl) (by simp [specOf,Kd.spec];rfl) ?_ rfl ?_;(first|exact Sp.is_stable _ _|exact aF (fun _=>rfl) _|exact spTwo_stable (fun _=>rfl) _ _|exact spFr_stable (fun _=>rfl) _|exact spSum_stable (fun _=>rfl) _|exact spSgn_stable _ _|exact spNb_stable (fun _=>rfl) (fun _=>rfl) _|exact spVc_stable (fun _=>rfl) (fun _=>rfl) _)))
 refine aP (fB (q.num.natAbs*ma)) (aF (fun _=>rfl) _) rfl (fun A w' hB hk=>?_) ?_;(simp [known,specOf,Kd.spec,Sp.is,isVar,Oper.looksAt,Op.operands,Call.operands,Act.eval] at hk;have c_hA:=aA (hB.blk hA (by first|(simp;done)|(simp;omega)));simp [go_sem,hk,c_hA];refine aE ?_;exact T2.out _ hB)
 refine aP (spSum S) (spSum_stable (fun _=>rfl) _) rfl (fun A w' hB hk=>?_) ?_;(simp [known,specOf,Kd.spec,Sp.is,isVar,Oper.looksAt,Op.operands,Call.operands,Act.eval] at hk;have c_hA:=aA (hB.blk hA (by first|(simp;done)|(simp;omega)));simp [go_sem,hk,c_hA];refine aE ?_;exact T3.out _ _ _ hB hk.2.1 hk.2.2.2)
 repeat (first|(apply bB (hg:=rfl);case h=>(intro A w' hB hk;simp [known,specOf,Kd.spec,Sp.is,isVar,Oper.looksAt,Op.operands,Call.operands,Act.eval] at hk;have c_hA:=aA (hB.blk hA (by first|(simp;done)|(simp;omega)));first|(simp [go_sem,hk,c_hA];done)|(simp [go_sem,hk,c_hA];rfl)|(simp [go_sem,c_hA];rfl)))|(refine aQ _ ?_ (by first|exact .inl rfl|exact .inr rfl) (by rfl) (by simp [specOf,Kd.spec];rfl) ?_ rfl ?_;(first|exact Sp.is_stable _ _|exact aF (fun _=>rfl) _|exact spTwo_stable (fun _=>rfl) _ _|exact spFr_stable (fun _=>rfl) _|exact spSum_stable (fun _=>rfl) _|exact spSgn_stable _ _|exact spNb_stable (fun _=>rfl) (fun _=>rfl) _|exact spVc_stable (fun _=>rfl) (fun _=>rfl) _)))
 refine aP (spSgn S) (spSgn_stable _ _) rfl (fun A w' hB hk=>?_) ?_;(simp [known,specOf,Kd.spec,Sp.is,isVar,Oper.looksAt,Op.operands,Call.operands,Act.eval] at hk;have c_hA:=aA (hB.blk hA (by first|(simp;done)|(simp;omega)));obtain ⟨neg,u,k1,k2,k3⟩:=hk;simp [go_sem,k1];exact jB ⟨neg,rfl,k2⟩)
 refine aP (fB S.natAbs) (aF (fun _=>rfl) _) rfl (fun A w' hB hk=>?_) ?_;(simp [known,specOf,Kd.spec,Sp.is,isVar,Oper.looksAt,Op.operands,Call.operands,Act.eval] at hk;have c_hA:=aA (hB.blk hA (by first|(simp;done)|(simp;omega)));obtain ⟨neg,u,k1,k2,k3⟩:=hk;simp [go_sem,k1];exact jB k3)
 repeat (first|(apply bB (hg:=rfl);case h=>(intro A w' hB hk;simp [known,specOf,Kd.spec,Sp.is,isVar,Oper.looksAt,Op.operands,Call.operands,Act.eval] at hk;have c_hA:=aA (hB.blk hA (by first|(simp;done)|(simp;omega)));first|(simp [go_sem,hk,c_hA];done)|(simp [go_sem,hk,c_hA];rfl)|(simp [go_sem,c_hA];rfl)))|(refine aQ _ ?_ (by first|exact .inl rfl|exact .inr rfl) (by rfl) (by simp [specOf,Kd.spec];rfl) ?_ rfl ?_;(first|exact Sp.is_stable _ _|exact aF (fun _=>rfl) _|exact spTwo_stable (fun _=>rfl) _ _|exact spFr_stable (fun _=>rfl) _|exact spSum_stable (fun _=>rfl) _|exact spSgn_stable _ _|exact spNb_stable (fun _=>rfl) (fun _=>rfl) _|exact spVc_stable (fun _=>rfl) (fun _=>rfl) _)))
 refine ⟨by first|rfl|decide,fun f w2 hB hF hAp=>?_⟩;simp [Final1,Sp.is,isVar] at hF;simp only [frameOf]
 obtain ⟨y1,⟨neg,e10,hneg⟩,hF2⟩:=hF
 obtain ⟨As,ks,cs,e11⟩:=(show Nt _ _ _ from y1).form
 rw [e11] at y1
 have hA2:=hB.blk hA (by simp)
 have hC2:=hB.blk hC (by simp)
 have hR2:=hB.blk Q4.out.2.2.2.2.1 (by simp)
 have Y:=aH (aI (show Nt w2 _ _ from y1) (aI hneg (aI (Below.step_trans Q4.out.2.2.2.2.2.2 hB.below) (aI hR2 hB.below))))
 clear y1 hneg hA hC hA2 hC2 hR2 hB hAp
 by_cases z0:S.natAbs=0
 ·have hpq:p+q=0:=vK G.out.1 G.out.2.1 G.out.2.2.1 G.out.2.2.2.1 z0
  have hz:decide (S.natAbs=0)=true:=by rw [decide_eq_true_eq];exact z0
  have HZ:=aH hpq
  clear hpq z0
  go_wp2_with fail
  refine (dE Y.out.1).mono ?_
  rintro e w' ⟨rfl,rfl⟩
  rw [hz]
  clear hz
  go_wp2_with fail
  refine (qQ _).mono ?_
  rintro e w5 ⟨v1,rfl,⟨s1,s2,rfl,q1,q2⟩,b1⟩
  obtain ⟨E1,k1,m1,rfl⟩:=q1.form
  obtain ⟨E2,k2,m2,rfl⟩:=q2.form
  have hk:=aL b1 Y.out.2.2.2.1
  obtain ⟨⟨h0,h1,h2⟩,f0,f1,f2⟩:=cV hk
  have Q:=aH (aI q1 (aI q2 (aI b1 hk)))
  clear q1 q2 b1 hk
  go_wp2
  refine bodyPost_ret (v := .agg #[.bool (decide ((0:Rat).num<0)),.slice E1 k1 m1,.slice E2 k2 m2]) (by simp [results,Tryz.results132,go_sem,h0,h1,h2]) rfl ⟨_,rfl,?_,?_⟩
  ·rw [HZ.out]
   exact Fr.ext (K:=Ku) (fun _=>rfl) ⟨_,_,rfl,Q.out.1,Q.out.2.1⟩ (Ext.only (nP _ _ _ _ _) Q.out.2.2.2 (by simp [hotObj,Ku]))
  ·repeat (first|exact (Below.step_trans Y.out.2.2.1 Q.out.2.2.1)|(refine Below.setCell ?_ (by first|omega|(simp;done)|(simp;omega)) _)|(refine Below.alloc ?_ (by first|omega|(simp;done)|(simp;omega)) _)|(refine Below.drew ?_)|exact Below.refl _ _)
 ·have hpar:=Parts.add G.out.1 G.out.2.1 G.out.2.2.1 G.out.2.2.2.1 Y.out.2.1 z0
  have hz:decide (S.natAbs=0)=false:=by rw [decide_eq_false_iff_not];exact z0
  obtain ⟨r,hr⟩:∃ r,r=S.natAbs.gcd g:=⟨_,rfl⟩
  rw [← hr] at hpar
  have hr0:0<r:=by rw [hr];exact Nat.gcd_pos_of_pos_right _ G.out.2.2.2.2.1
  have hrg:r≤g:=by rw [hr];exact Nat.gcd_le_right _ G.out.2.2.2.2.1
  have HZ:=aH (aI hpar (aI hr0 (aI hrg z0)))
  have HR:=aH hr
  clear hpar z0 hr0 hrg hr
  go_wp2_with fail
  refine (dE Y.out.1).mono ?_
  rintro e w' ⟨rfl,rfl⟩
  rw [hz]
  clear hz
  go_wp2_with fail
  refine (uG _ _ S.natAbs g _ Y.out.1 (Q4.out.2.2.2.2.2.1.below Y.out.2.2.2.2) (G.out.2.2.2.2.2.2.2.2.mono (by omega)) (G.out.2.2.2.2.2.1.mono (by omega)) (.inr G.out.2.2.2.2.1)).mono ?_
  rw [← HR.out]
  rintro e w5 ⟨v5,rfl,q5,b5⟩
  obtain ⟨A5,k5,c5,rfl⟩:=q5.form
  have Q5:=aH (aI q5 b5)
  clear q5 b5
  go_wp2_with fail
  refine (eT (Y.out.1.below Q5.out.2) Q5.out.1 (G.out.2.2.2.2.2.2.2.2.mono (by omega)) HZ.out.2.1).mono ?_
  rintro e w6 ⟨v6,x6,rfl,q6,qx,b6⟩
  obtain ⟨A6,k6,c6,rfl⟩:=q6.form
  obtain ⟨Ax6,kx6,cx6,rfl⟩:=qx.form
  have Q6:=aH (aI q6 b6)
  clear q6 b6 qx
  go_wp2_with fail
  refine (eT (Q4.out.2.2.2.2.2.1.below (Below.step_trans Y.out.2.2.2.2 (Below.step_trans Q5.out.2 Q6.out.2))) (Q5.out.1.below Q6.out.2) (G.out.2.2.2.2.2.1.mono (by omega)) HZ.out.2.1).mono ?_
  rintro e w7 ⟨v7,x7,rfl,q7,qx,b7⟩
  obtain ⟨A7,k7,c7,rfl⟩:=q7.form
  obtain ⟨Ax7,kx7,cx7,rfl⟩:=qx.form
  have hb7:Below w4.heap.size w4 w7:=Below.step_trans Y.out.2.2.2.2 (Below.step_trans Q5.out.2 (Below.step_trans Q6.out.2 b7))
  have Q7:=aH (aI q7 (aI b7 hb7))
  clear q7 b7 qx hb7
  go_wp2_with fail
  refine (fT (Q4.out.2.2.2.1.below Q7.out.2.2) (Q4.out.1.below Q7.out.2.2) (G.out.2.2.2.2.2.2.1.mono (by omega)) (G.out.2.2.2.2.2.2.2.1.mono (by omega))).mono ?_
  rintro e w8 ⟨v8,rfl,q8,b8⟩
  obtain ⟨A8,k8,c8,rfl⟩:=q8.form
  have Q8:=aH (aI q8 b8)
  clear q8 b8
  go_wp2_with fail
  refine (fT Q8.out.1 (Q7.out.1.below Q8.out.2) ((G.out.2.2.2.2.2.2.1.mul G.out.2.2.2.2.2.2.2.1).mono (by omega)) ((G.out.2.2.2.2.2.1.le (Nat.div_le_self _ _)).mono (by omega))).mono ?_
  rintro e w9 ⟨v9,rfl,q9,b9⟩
  obtain ⟨A9,k9,c9,rfl⟩:=q9.form
  have hb9:Below w7.heap.size w7 w9:=Below.step_trans Q8.out.2 b9
  have hk:=aL (Below.step_trans Q7.out.2.2 hb9) Q4.out.2.2.2.2.1
  obtain ⟨⟨h0,h1,h2⟩,f0,f1,f2⟩:=cV hk
  have Q9:=aH (aI q9 (aI hb9 hk))
  clear q9 b9 hb9 hk
  go_wp2
  refine bodyPost_ret (v := .agg #[.bool neg,.slice A6 k6 c6,.slice A9 k9 c9]) (by simp [results,Tryz.results132,go_sem,h0,h1,h2]) rfl ⟨_,rfl,?_,?_⟩
  ·exact Fr.ext (K:=Ku) (fun _=>rfl) (Fr.of HZ.out.1 (Q6.out.1.below (Below.step_trans Q7.out.2.1 Q9.out.2.1)) Q9.out.1) (Ext.only (nP _ _ _ _ _) Q9.out.2.2 (by simp [hotObj,Ku]))
  ·repeat (first|exact (Below.step_trans Q4.out.2.2.2.2.2.2 (Below.step_trans Q7.out.2.2 Q9.out.2.1))|(refine Below.setCell ?_ (by first|omega|(simp;done)|(simp;omega)) _)|(refine Below.alloc ?_ (by first|omega|(simp;done)|(simp;omega)) _)|(refine Below.drew ?_)|exact Below.refl _ _)
theorem jS (w:World) (a b:Obj):((w.alloc a).alloc b).heap[w.heap.size]?=some a∧((w.alloc a).alloc b).heap[w.heap.size+1]?=some b∧Below w.heap.size w ((w.alloc a).alloc b):=by
 have h2:Below (w.alloc a).heap.size (w.alloc a) ((w.alloc a).alloc b):=(Below.refl _ _).alloc (Nat.le_refl _) _
 refine ⟨aL h2 (heap_alloc_new w a),?_,((Below.refl _ _).alloc (Nat.le_refl _) _).alloc (by simp) _⟩
 have:=heap_alloc_new (w.alloc a) b;simpa using this
set_option maxRecDepth 100000 in
set_option maxHeartbeats 8000000 in
theorem vZ (v v' : Value) (p q:Rat) (w:World) (h:Fr w v p) (h' : Fr w v' q) (hp:Lf 38 p) (hq:Lf 38 q) (h0:decide (p.num<0)=false) (h0' : decide (q.num<0)=false) :
 Calls Tryz.prog 145 #[v,v'] w (Gives w (.int .i64 (eD p q))):=by
 obtain ⟨s1,s2,rfl,h1,h2⟩:=h
 obtain ⟨s3,s4,rfl,h3,h4⟩:=h'
 obtain ⟨A1,n1,c1,rfl⟩:=h1.form
 obtain ⟨A2,n2,c2,rfl⟩:=h2.form
 obtain ⟨A3,n3,c3,rfl⟩:=h3.form
 obtain ⟨A4,n4,c4,rfl⟩:=h4.form
 rw [h0,h0']
 have hcmp:bF ((p.num.natAbs*q.den:Nat):Int) ((q.num.natAbs*p.den:Nat):Int)=eD p q:=(vM (by simpa using h0) (by simpa using h0')).symm
 obtain ⟨hk1,hk2,hb1⟩:=jS w (.cells #[.bool false,.slice A1 n1 c1,.slice A2 n2 c2] 130) (.cells #[.bool false,.slice A3 n3 c3,.slice A4 n4 c4] 130)
 have H:=aH (aI (h1.below hb1) (aI (h2.below hb1) (aI (h3.below hb1) (aI (h4.below hb1) (aI hp (aI hq (aI hb1 hcmp)))))))
 have HK:=aH (aI hk1 hk2)
 clear h1 h2 h3 h4 hp hq hb1 hk1 hk2 h0 h0' hcmp
 go_enter Tryz.func145,Tryz.ntmps145
 go_wp2
 generalize (w.alloc (.cells #[.bool false,.slice A1 n1 c1,.slice A2 n2 c2] 130)).alloc (.cells #[.bool false,.slice A3 n3 c3,.slice A4 n4 c4] 130)=w1 at *
 have hA:=HK.out.1
 have hC:=HK.out.2
 have t1:∀ w',Base [] w1 w'→Calls Tryz.prog 180 #[.slice A1 n1 c1,.slice A4 n4 c4] w' (TyPost w' (fB (p.num.natAbs*q.den))):=fun w' hB =>
  GivesNt.ty (fT (H.out.1.below hB.below) (H.out.2.2.2.1.below hB.below) (H.out.2.2.2.2.1.1.mono (by omega)) (H.out.2.2.2.2.2.1.2.mono (by omega)))
 have t2:∀ w',Base [] w1 w'→Calls Tryz.prog 180 #[.slice A3 n3 c3,.slice A2 n2 c2] w' (TyPost w' (fB (q.num.natAbs*p.den))):=fun w' hB =>
  GivesNt.ty (fT (H.out.2.2.1.below hB.below) (H.out.2.1.below hB.below) (H.out.2.2.2.2.2.1.1.mono (by omega)) (H.out.2.2.2.2.1.2.mono (by omega)))
 have t3:∀ w' x y,Nt w' x (p.num.natAbs*q.den)→Nt w' y (q.num.natAbs*p.den)→Calls Tryz.prog 200 #[x,y] w' (TyPost w' (Sp.is (.int .i64 (eD p q)))):=fun w' x y hx hy=>by
  have:=Gives.ty (mD hx hy)
  rwa [H.out.2.2.2.2.2.2.2] at this
 have T1:=aH t1
 have T2:=aH t2
 have T3:=aH t3
 clear t1 t2 t3
 refine wp_region_ty Ku [] (by kernel_rfl) (by kernel_rfl) ?_
 repeat (first|(apply bB (hg:=rfl);case h=>(intro A w' hB hk;simp [known,specOf,Kd.spec,Sp.is,isVar,Oper.looksAt,Op.operands,Call.operands,Act.eval] at hk;have c_hA:=aA (hB.blk hA (by first|(simp;done)|(simp;omega)));have c_hC:=aA (hB.blk hC (by first|(simp;done)|(simp;omega)));first|(simp [go_sem,hk,c_hA,c_hC];done)|(simp [go_sem,hk,c_hA,c_hC];rfl)|(simp [go_sem,c_hA,c_hC];rfl)))|(refine aQ _ ?_ (by first|exact .inl rfl|exact .inr rfl) (by rfl) (by simp [specOf,Kd.spec];rfl) ?_ rfl ?_;(first|exact Sp.is_stable _ _|exact aF (fun _=>rfl) _|exact spTwo_stable (fun _=>rfl) _ _|exact spFr_stable (fun _=>rfl) _|exact spSum_stable (fun _=>rfl) _|exact spSgn_stable _ _|exact spNb_stable (fun _=>rfl) (fun _=>rfl) _|exact spVc_stable (fun _=>rfl) (fun _=>rfl) _)))
 refine aP (fB (p.num.natAbs*q.den)) (aF (fun _=>rfl) _) rfl (fun A w' hB hk=>?_) ?_;(simp [known,specOf,Kd.spec,Sp.is,isVar,Oper.looksAt,Op.operands,Call.operands,Act.eval] at hk;have c_hA:=aA (hB.blk hA (by first|(simp;done)|(simp;omega)));simp [go_sem,hk,c_hA];refine aE ?_;exact T1.out _ hB)
 repeat (first|(apply bB (hg:=rfl);case h=>(intro A w' hB hk;simp [known,specOf,Kd.spec,Sp.is,isVar,Oper.looksAt,Op.operands,Call.operands,Act.eval] at hk;have c_hA:=aA (hB.blk hA (by first|(simp;done)|(simp;omega)));have c_hC:=aA (hB.blk hC (by first|(simp;done)|(simp;omega)));first|(simp [go_sem,hk,c_hA,c_hC];done)|(simp [go_sem,hk,c_hA,c_hC];rfl)|(simp [go_sem,c_hA,c_hC];rfl)))|(refine aQ _ ?_ (by first|exact .inl rfl|exact .inr rfl) (by rfl) (by simp [specOf,Kd.spec];rfl) ?_ rfl ?_;(first|exact Sp.is_stable _ _|exact aF (fun _=>rfl) _|exact spTwo_stable (fun _=>rfl) _ _|exact spFr_stable (fun _=>rfl) _|exact spSum_stable (fun _=>rfl) _|exact spSgn_stable _ _|exact spNb_stable (fun _=>rfl) (fun _=>rfl) _|exact spVc_stable (fun _=>rfl) (fun _=>rfl) _)))
 refine aP (fB (q.num.natAbs*p.den)) (aF (fun _=>rfl) _) rfl (fun A w' hB hk=>?_) ?_;(simp [known,specOf,Kd.spec,Sp.is,isVar,Oper.looksAt,Op.operands,Call.operands,Act.eval] at hk;have c_hA:=aA (hB.blk hA (by first|(simp;done)|(simp;omega)));simp [go_sem,hk,c_hA];refine aE ?_;exact T2.out _ hB)
 refine aP (Sp.is (.int .i64 (eD p q))) (Sp.is_stable _ _) rfl (fun A w' hB hk=>?_) ?_;(simp [known,specOf,Kd.spec,Sp.is,isVar,Oper.looksAt,Op.operands,Call.operands,Act.eval] at hk;have c_hA:=aA (hB.blk hA (by first|(simp;done)|(simp;omega)));simp [go_sem,hk,c_hA];refine aE ?_;exact T3.out _ _ _ hk.1 hk.2)
 repeat (first|(apply bB (hg:=rfl);case h=>(intro A w' hB hk;simp [known,specOf,Kd.spec,Sp.is,isVar,Oper.looksAt,Op.operands,Call.operands,Act.eval] at hk;have c_hA:=aA (hB.blk hA (by first|(simp;done)|(simp;omega)));first|(simp [go_sem,hk,c_hA];done)|(simp [go_sem,hk,c_hA];rfl)|(simp [go_sem,c_hA];rfl)))|(refine aQ _ ?_ (by first|exact .inl rfl|exact .inr rfl) (by rfl) (by simp [specOf,Kd.spec];rfl) ?_ rfl ?_;(first|exact Sp.is_stable _ _|exact aF (fun _=>rfl) _|exact spTwo_stable (fun _=>rfl) _ _|exact spFr_stable (fun _=>rfl) _|exact spSum_stable (fun _=>rfl) _|exact spSgn_stable _ _|exact spNb_stable (fun _=>rfl) (fun _=>rfl) _|exact spVc_stable (fun _=>rfl) (fun _=>rfl) _)))
 refine ⟨by first|rfl|decide,fun f w2 hB hF hAp=>?_⟩;simp [Final1,Sp.is,isVar] at hF;simp only [frameOf]
 have HB:=aH (Below.step_trans H.out.2.2.2.2.2.2.1 hB.below)
 have e4:=hF.1
 clear hB hAp hA hC hF
 go_wp2
 go_ret
 refine ⟨?_,HB.out⟩
 simp [Act.put,e4]
set_option maxRecDepth 100000 in
set_option maxHeartbeats 8000000 in
theorem fraCmp_any (v v' : Value) (p q:Rat) (w:World) (h:Fr w v p) (h' : Fr w v' q) (hp:Lf 38 p) (hq:Lf 38 q):Calls Tryz.prog 145 #[v,v'] w (Gives w (.int .i64 (eD p q))):=by
 rcases Bool.eq_false_or_eq_true (decide (p.num<0)) with h0|h0 <;> rcases Bool.eq_false_or_eq_true (decide (q.num<0)) with h0'|h0'
 ·-- both below 0
  have hp0:p.num<0:=by simpa using h0
  have hq0:q.num<0:=by simpa using h0'
  have hpn:p≠0:=fun e=>by rw [e,show (0:Rat).num=0 from rfl] at hp0;omega
  have hqn:q≠0:=fun e=>by rw [e,show (0:Rat).num=0 from rfl] at hq0;omega
  have hp1:decide ((-p).num<0)=false:=by rw [Rat.neg_num];simp;omega
  have hq1:decide ((-q).num<0)=false:=by rw [Rat.neg_num];simp;omega
  obtain ⟨s1,s2,rfl,h1,h2⟩:=h
  obtain ⟨s3,s4,rfl,h3,h4⟩:=h'
  obtain ⟨A1,n1,c1,rfl⟩:=h1.form
  obtain ⟨A2,n2,c2,rfl⟩:=h2.form
  obtain ⟨A3,n3,c3,rfl⟩:=h3.form
  obtain ⟨A4,n4,c4,rfl⟩:=h4.form
  have hf1:∀ w',Below w.heap.size w w'→Fr w' (.agg #[.bool true,.slice A1 n1 c1,.slice A2 n2 c2]) p:=fun w' hb=>⟨_,_,by rw [h0],h1.below hb,h2.below hb⟩
  have hf2:∀ w',Below w.heap.size w w'→Fr w' (.agg #[.bool true,.slice A3 n3 c3,.slice A4 n4 c4]) q:=fun w' hb=>⟨_,_,by rw [h0'],h3.below hb,h4.below hb⟩
  rw [h0,h0']
  obtain ⟨hk1,hk2,hb1⟩:=jS w (.cells #[.bool true,.slice A1 n1 c1,.slice A2 n2 c2] 130) (.cells #[.bool true,.slice A3 n3 c3,.slice A4 n4 c4] 130)
  have H:=aH (aI hf1 (aI hf2 (aI hpn (aI hqn (aI hp1 (aI hq1 (aI hp (aI hq hb1))))))))
  have HK:=aH (aI hk1 hk2)
  clear h1 h2 h3 h4 hp hq hb1 hk1 hk2 h0 h0' hf1 hf2 hpn hqn hp1 hq1 hp0 hq0
  go_enter Tryz.func145,Tryz.ntmps145
  go_wp2
  generalize (w.alloc (.cells #[.bool true,.slice A1 n1 c1,.slice A2 n2 c2] 130)).alloc (.cells #[.bool true,.slice A3 n3 c3,.slice A4 n4 c4] 130)=w1 at *
  have hA:=HK.out.1
  have hC:=HK.out.2
  have t1:∀ w',Base [] w1 w'→Calls Tryz.prog 198 #[.agg #[.bool true,.slice A3 n3 c3,.slice A4 n4 c4]] w' (TyPost w' (dM (-q))):=fun w' hB =>
   GivesFr.ty (nQ _ _ _ (H.out.2.1 _ (Below.step_trans H.out.2.2.2.2.2.2.2.2 hB.below)) H.out.2.2.2.1)
  have t2:∀ w',Base [] w1 w'→Calls Tryz.prog 198 #[.agg #[.bool true,.slice A1 n1 c1,.slice A2 n2 c2]] w' (TyPost w' (dM (-p))):=fun w' hB =>
   GivesFr.ty (nQ _ _ _ (H.out.1 _ (Below.step_trans H.out.2.2.2.2.2.2.2.2 hB.below)) H.out.2.2.1)
  have t3:∀ w' x y,Fr w' x (-q)→Fr w' y (-p)→Calls Tryz.prog 145 #[x,y] w' (TyPost w' (Sp.is (.int .i64 (eD p q)))):=fun w' x y hx hy=>by
   have:=Gives.ty (vZ x y (-q) (-p) w' hx hy H.out.2.2.2.2.2.2.2.1.neg H.out.2.2.2.2.2.2.1.neg H.out.2.2.2.2.2.1 H.out.2.2.2.2.1)
   rwa [cmpR_neg] at this
  have T1:=aH t1
  have T2:=aH t2
  have T3:=aH t3
  clear t1 t2 t3
  refine wp_region_ty Ku [] (by kernel_rfl) (by kernel_rfl) ?_
  repeat (first|(apply bB (hg:=rfl);case h=>(intro A w' hB hk;simp [known,specOf,Kd.spec,Sp.is,isVar,Oper.looksAt,Op.operands,Call.operands,Act.eval] at hk;have c_hA:=aA (hB.blk hA (by first|(simp;done)|(simp;omega)));have c_hC:=aA (hB.blk hC (by first|(simp;done)|(simp;omega)));first|(simp [go_sem,hk,c_hA,c_hC];done)|(simp [go_sem,hk,c_hA,c_hC];rfl)|(simp [go_sem,c_hA,c_hC];rfl)))|(refine aQ _ ?_ (by first|exact .inl rfl|exact .inr rfl) (by rfl) (by simp [specOf,Kd.spec];rfl) ?_ rfl ?_;(first|exact Sp.is_stable _ _|exact aF (fun _=>rfl) _|exact spTwo_stable (fun _=>rfl) _ _|exact spFr_stable (fun _=>rfl) _|exact spSum_stable (fun _=>rfl) _|exact spSgn_stable _ _|exact spNb_stable (fun _=>rfl) (fun _=>rfl) _|exact spVc_stable (fun _=>rfl) (fun _=>rfl) _)))
  refine aP (dM (-q)) (spFr_stable (fun _=>rfl) _) rfl (fun A w' hB hk=>?_) ?_;(simp [known,specOf,Kd.spec,Sp.is,isVar,Oper.looksAt,Op.operands,Call.operands,Act.eval] at hk;have c_hA:=aA (hB.blk hA (by first|(simp;done)|(simp;omega)));simp [go_sem,hk,c_hA];refine aE ?_;exact T1.out _ hB)
  repeat (first|(apply bB (hg:=rfl);case h=>(intro A w' hB hk;simp [known,specOf,Kd.spec,Sp.is,isVar,Oper.looksAt,Op.operands,Call.operands,Act.eval] at hk;have c_hA:=aA (hB.blk hA (by first|(simp;done)|(simp;omega)));have c_hC:=aA (hB.blk hC (by first|(simp;done)|(simp;omega)));first|(simp [go_sem,hk,c_hA,c_hC];done)|(simp [go_sem,hk,c_hA,c_hC];rfl)|(simp [go_sem,c_hA,c_hC];rfl)))|(refine aQ _ ?_ (by first|exact .inl rfl|exact .inr rfl) (by rfl) (by simp [specOf,Kd.spec];rfl) ?_ rfl ?_;(first|exact Sp.is_stable _ _|exact aF (fun _=>rfl) _|exact spTwo_stable (fun _=>rfl) _ _|exact spFr_stable (fun _=>rfl) _|exact spSum_stable (fun _=>rfl) _|exact spSgn_stable _ _|exact spNb_stable (fun _=>rfl) (fun _=>rfl) _|exact spVc_stable (fun _=>rfl) (fun _=>rfl) _)))
  refine aP (dM (-p)) (spFr_stable (fun _=>rfl) _) rfl (fun A w' hB hk=>?_) ?_;(simp [known,specOf,Kd.spec,Sp.is,isVar,Oper.looksAt,Op.operands,Call.operands,Act.eval] at hk;have c_hA:=aA (hB.blk hA (by first|(simp;done)|(simp;omega)));simp [go_sem,hk,c_hA];refine aE ?_;exact T2.out _ hB)
  refine aP (Sp.is (.int .i64 (eD p q))) (Sp.is_stable _ _) rfl (fun A w' hB hk=>?_) ?_;(simp [known,specOf,Kd.spec,Sp.is,isVar,Oper.looksAt,Op.operands,Call.operands,Act.eval] at hk;have c_hA:=aA (hB.blk hA (by first|(simp;done)|(simp;omega)));simp [go_sem,hk,c_hA];refine aE ?_;exact T3.out _ _ _ hk.1 hk.2)
  repeat (first|(apply bB (hg:=rfl);case h=>(intro A w' hB hk;simp [known,specOf,Kd.spec,Sp.is,isVar,Oper.looksAt,Op.operands,Call.operands,Act.eval] at hk;have c_hA:=aA (hB.blk hA (by first|(simp;done)|(simp;omega)));first|(simp [go_sem,hk,c_hA];done)|(simp [go_sem,hk,c_hA];rfl)|(simp [go_sem,c_hA];rfl)))|(refine aQ _ ?_ (by first|exact .inl rfl|exact .inr rfl) (by rfl) (by simp [specOf,Kd.spec];rfl) ?_ rfl ?_;(first|exact Sp.is_stable _ _|exact aF (fun _=>rfl) _|exact spTwo_stable (fun _=>rfl) _ _|exact spFr_stable (fun _=>rfl) _|exact spSum_stable (fun _=>rfl) _|exact spSgn_stable _ _|exact spNb_stable (fun _=>rfl) (fun _=>rfl) _|exact spVc_stable (fun _=>rfl) (fun _=>rfl) _)))
  refine ⟨by first|rfl|decide,fun f w2 hB hF hAp=>?_⟩;simp [Final1,Sp.is,isVar] at hF;simp only [frameOf]
  have HB:=aH (Below.step_trans H.out.2.2.2.2.2.2.2.2 hB.below)
  have e4:=hF.1
  clear hB hAp hA hC hF
  go_wp2
  go_ret
  refine ⟨?_,HB.out⟩
  simp [Act.put,e4]
 ·have hc:eD p q = -1:=by
   have h1:p.num<0:=by simpa using h0
   have h2 : 0 ≤ q.num := by have:¬ q.num<0:=by simpa using h0'
                             omega
   have e1:=Int.mul_neg_of_neg_of_pos h1 (show (0:Int)<q.den by have:=q.den_pos;omega)
   have e2:=Int.mul_nonneg h2 (show (0:Int)≤p.den by omega)
   unfold eD
   rw [if_pos (by rw [Rat.lt_iff];omega)]
  obtain ⟨s1,s2,rfl,h1,h2⟩:=h
  obtain ⟨s3,s4,rfl,h3,h4⟩:=h'
  obtain ⟨A1,n1,c1,rfl⟩:=h1.form
  obtain ⟨A2,n2,c2,rfl⟩:=h2.form
  obtain ⟨A3,n3,c3,rfl⟩:=h3.form
  obtain ⟨A4,n4,c4,rfl⟩:=h4.form
  rw [h0,h0',hc]
  clear h1 h2 h3 h4 hp hq h0 h0' hc
  go_enter Tryz.func145,Tryz.ntmps145
  go_wp2
  go_ret
  refine ⟨rfl,?_⟩
  repeat (first|exact Below.refl _ _|(refine Below.setCell ?_ (by first|omega|(simp;done)|(simp;omega)) _)|(refine Below.alloc ?_ (by first|omega|(simp;done)|(simp;omega)) _)|(refine Below.drew ?_)|exact Below.refl _ _)
 ·have hc:eD p q=1:=by
   have h2:q.num<0:=by simpa using h0'
   have h1 : 0 ≤ p.num := by have:¬ p.num<0:=by simpa using h0
                             omega
   have e1:=Int.mul_neg_of_neg_of_pos h2 (show (0:Int)<p.den by have:=p.den_pos;omega)
   have e2:=Int.mul_nonneg h1 (show (0:Int)≤q.den by omega)
   unfold eD
   rw [if_neg (by rw [Rat.lt_iff];omega),if_pos (by rw [Rat.lt_iff];omega)]
  obtain ⟨s1,s2,rfl,h1,h2⟩:=h
  obtain ⟨s3,s4,rfl,h3,h4⟩:=h'
  obtain ⟨A1,n1,c1,rfl⟩:=h1.form
  obtain ⟨A2,n2,c2,rfl⟩:=h2.form
  obtain ⟨A3,n3,c3,rfl⟩:=h3.form
  obtain ⟨A4,n4,c4,rfl⟩:=h4.form
  rw [h0,h0',hc]
  clear h1 h2 h3 h4 hp hq h0 h0' hc
  go_enter Tryz.func145,Tryz.ntmps145
  go_wp2
  go_ret
  refine ⟨rfl,?_⟩
  repeat (first|exact Below.refl _ _|(refine Below.setCell ?_ (by first|omega|(simp;done)|(simp;omega)) _)|(refine Below.alloc ?_ (by first|omega|(simp;done)|(simp;omega)) _)|(refine Below.drew ?_)|exact Below.refl _ _)
 ·exact vZ v v' p q w h h' hp hq h0 h0'
end Go.Proofs.YtbhgaclbijocmaaGreatDoor
