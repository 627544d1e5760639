/- Parts of the proof, joined. -/
import Derived.Test.YtofcdondmgojiaaGreatDoorJ3
import Derived.Test.YtofcdondmgojiaaGreatDoorJ7
set_option linter.unusedSimpArgs false
set_option linter.unusedVariables false
namespace Go.Proofs.YtofcdondmgojiaaGreatDoor
open Go.RowKit Pl
def Fr (w:World) (v:Value) (q:Rat):Prop := ∃ s1 s2,v = .agg #[.bool (decide (q.num<0)),s1,s2]∧Nt w s1 q.num.natAbs∧Nt w s2 q.den
theorem Fr.of {w:World} {neg:Bool} {n d:Nat} {s1 s2:Value} {q:Rat} (h:Parts q neg n d) (h1:Nt w s1 n) (h2:Nt w s2 d):Fr w (.agg #[.bool neg,s1,s2]) q:=by
 obtain ⟨rfl,rfl,rfl⟩:=h
 exact ⟨s1,s2,rfl,h1,h2⟩
theorem Fr.ext {K:Value→Bool} (hK:∀ x,K (.int .u64 x)=true) {w w' : World} {v:Value} {q:Rat} (h:Fr w v q) (hx:Ext K w w'):Fr w' v q:=by
 obtain ⟨s1,s2,e,h1,h2⟩:=h
 exact ⟨s1,s2,e,h1.ext hK hx,h2.ext hK hx⟩
theorem Fr.below {w w' : World} {v:Value} {q:Rat} (h:Fr w v q) (hb:Below w.heap.size w w'):Fr w' v q:=by
 obtain ⟨s1,s2,e,h1,h2⟩:=h
 exact ⟨s1,s2,e,h1.below hb,h2.below hb⟩
def fR (q:Rat):Sp:=fun v w=>Fr w v q
theorem spFr_stable {K:Value→Bool} (hK:∀ x,K (.int .u64 x)=true) (q:Rat):Stable K (fR q):=fun _ _ _ h hx=>Fr.ext hK h hx
def GivesFr (w:World) (q:Rat) (e:Ending) (w' : World):Prop := ∃ v,e = .returned v∧Fr w' v q∧Below w.heap.size w w'
theorem GivesFr.ty {P:Program} {f:FuncId} {args:Array Value} {w:World} {q:Rat} (h:Calls P f args w (GivesFr w q)):Calls P f args w (TyPost w (fR q)) :=
 h.mono fun _ _ ⟨v,h1,h2,h3⟩=>⟨v,h1,h3,h2⟩
def Lf (k:Nat) (q:Rat):Prop:=Lv k q.num.natAbs∧Lv k q.den
theorem Nt.form {w:World} {v:Value} {a:Nat} (h:Nt w v a):∃ A n c,v = .slice A n c:=by
 obtain ⟨A,n,c,_,rfl,_⟩:=h
 exact ⟨A,n,c,rfl⟩
theorem dR {w:World} {g:Nat} {a b c:Value} {t:TypeId} (h:w.heap[g]?=some (.cells #[a,b,c] t (0,0))) :
 (w.cell? ⟨g,0,none⟩=some a∧w.cell? ⟨g,1,none⟩=some b∧w.cell? ⟨g,2,none⟩=some c)∧(w.frozen? ⟨g,0,none⟩=false∧w.frozen? ⟨g,1,none⟩=false∧w.frozen? ⟨g,2,none⟩=false):=by
 refine ⟨⟨aA h 0,aA h 1,aA h 2⟩,?_,?_,?_⟩ <;> simp [World.frozen?,h]
theorem aL {w w' : World} {g:Nat} {o:Obj} (hb:Below w.heap.size w w') (h:w.heap[g]?=some o):w'.heap[g]?=some o:=(hb.block g (lt_of_block h)).trans h
theorem Ext.only {K:Value→Bool} {w w' : World} {g:Nat} {o:Obj} (hg:w.grownBy w' (some g)) (h0:w.heap[g]?=some o) (hc:hotObj K o=false):Ext K w w':=by
 refine ⟨hg.size,fun k o' hk ho=>?_⟩
 by_cases e:k=g
 ·subst e
  rw [h0] at hk
  injection hk with hk
  subst hk
  rw [hc] at ho
  cases ho
 ·rw [hg.block k (lt_of_block hk) (fun h=>e (by injection h))];exact hk
theorem only3 (w:World) (g:Nat) (a b c:Value):w.grownBy (((w.setCell ⟨g,0,none⟩ a).setCell ⟨g,1,none⟩ b).setCell ⟨g,2,none⟩ c) (some g) :=
 dB (dB (eV _ _ _ _) (eV _ _ _ _)) (eV _ _ _ _)
set_option maxHeartbeats 1000000 in
theorem zero_any (w:World):Calls Tryz.prog 126 #[] w (GivesFr w 0):=by
 go_enter Tryz.func126,Tryz.ntmps126
 go_wp2_with fail
 refine (cB 1 (by rw [aH];omega) _).mono ?_
 rintro e w2 ⟨v1,rfl,q1,b1⟩
 obtain ⟨A1,n1,c1,rfl⟩:=q1.form
 obtain ⟨⟨h0,h1,h2⟩,f0,f1,f2⟩:=dR (aL b1 (heap_alloc_new w _))
 have B:=Lib.hid (aL b1 (heap_alloc_new w _))
 have Q:=Lib.hid (And.intro q1 b1)
 clear q1 b1
 go_wp2
 refine bodyPost_ret (v := .agg #[.bool false,.slice none 0 0,.slice A1 n1 c1]) (by simp [results,Tryz.results126,go_sem,h0,h1,h2]) rfl ⟨_,rfl,?_,?_⟩
 ·exact ((Fr.of Parts.zero (Nt.zero w2) Q.out.1).ext (K:=Ku) (fun _=>rfl) (Ext.only (only3 _ _ _ _ _) B.out (by simp [hotObj,Ku])))
 ·repeat (first|exact (Below.step_trans ((Below.refl _ _).alloc (Nat.le_refl _) _) Q.out.2)|(refine Below.setCell ?_ (by first|omega|(simp;done)|(simp;omega)) _)|(refine Below.alloc ?_ (by first|omega|(simp;done)|(simp;omega)) _)|(refine Below.drew ?_)|exact Below.refl _ _)
set_option maxHeartbeats 2000000 in
theorem ratio_zero (neg:Bool) (d:Nat) (v v' : Value) (w:World) (h:Nt w v 0) (h' : Nt w v' d):Calls Tryz.prog 63 #[.bool neg,v,v'] w (GivesFr w 0):=by
 have H:=Lib.hid (And.intro h h')
 obtain ⟨A,n,c,rfl⟩:=h.form
 obtain ⟨A',n',c',rfl⟩:=h'.form
 clear h h'
 go_enter Tryz.func63,Tryz.ntmps63
 go_wp2_with fail
 refine (dT (H.out.1.below ((Below.refl _ _).alloc (Nat.le_refl _) _))).mono ?_
 rintro e w1 ⟨rfl,rfl⟩
 go_wp2_with fail
 refine (zero_any _).mono ?_
 rintro e w2 ⟨v1,rfl,⟨s1,s2,rfl,q1,q2⟩,b1⟩
 obtain ⟨A1,n1,c1,rfl⟩:=q1.form
 obtain ⟨A2,n2,c2,rfl⟩:=q2.form
 obtain ⟨⟨h0,h1,h2⟩,f0,f1,f2⟩:=dR (aL b1 (heap_alloc_new w _))
 have B:=Lib.hid (aL b1 (heap_alloc_new w _))
 have Q:=Lib.hid (And.intro q1 (And.intro q2 b1))
 clear q1 q2 b1
 go_wp2
 refine bodyPost_ret (v := .agg #[.bool (decide ((0:Rat).num<0)),.slice A1 n1 c1,.slice A2 n2 c2]) (by simp [results,Tryz.results63,go_sem,h0,h1,h2]) rfl ⟨_,rfl,?_,?_⟩
 ·exact (Fr.ext (K:=Ku) (fun _=>rfl) ⟨_,_,rfl,Q.out.1,Q.out.2.1⟩ (Ext.only (only3 _ _ _ _ _) B.out (by simp [hotObj,Ku])))
 ·repeat (first|exact (Below.step_trans ((Below.refl _ _).alloc (Nat.le_refl _) _) Q.out.2.2)|(refine Below.setCell ?_ (by first|omega|(simp;done)|(simp;omega)) _)|(refine Below.alloc ?_ (by first|omega|(simp;done)|(simp;omega)) _)|(refine Below.drew ?_)|exact Below.refl _ _)
theorem sumOfSigned_any (a b:Bool) (x y:Nat) (v v' : Value) (w:World) (h:Nt w v x) (h' : Nt w v' y) (hx:Lv 40 x) (hy:Lv 40 y) :
 Calls Tryz.prog 205 #[.bool a,v,.bool b,v'] w fun e w' => ∃ neg u,e = .returned (.tuple #[.bool neg,u])∧sg neg (sg a x+sg b y).natAbs=sg a x+sg b y∧Nt w' u (sg a x+sg b y).natAbs∧Below w.heap.size w w':=by
 have H:=Lib.hid (And.intro h (And.intro h' (And.intro hx hy)))
 obtain ⟨A,n,c,rfl⟩:=h.form
 obtain ⟨A',n',c',rfl⟩:=h'.form
 clear h h' hx hy
 by_cases hab:a=b
 ·subst hab
  have hz:(a==a)=true:=by simp
  go_enter Tryz.func205,Tryz.ntmps205
  go_wp2_with fail
  refine (nt_plus H.out.1 H.out.2.1 H.out.2.2.1 H.out.2.2.2).mono ?_
  rintro e w2 ⟨v1,rfl,q1,b1⟩
  have Q:=Lib.hid (And.intro q1 b1)
  clear q1 b1
  go_wp2
  go_ret2
  have hs:(sg a x+sg a y).natAbs=x+y:=by unfold sg;split <;> omega
  refine ⟨a,v1,rfl,?_,by rw [hs];exact Q.out.1,Q.out.2⟩
  rw [hs];unfold sg;split <;> omega
 ·have hz:(a==b)=false:=by simpa using hab
  have hba:sg b y = -(sg a y):=by cases a <;> cases b <;> simp_all [sg]
  have HA:=Lib.hid (And.intro hab hba)
  clear hab hba
  by_cases hlt:x<y
  ·have hc:=nt_compare H.out.1 H.out.2.1
   rw [show bZ x y = -1 from by unfold bZ;rw [if_pos (by omega)]] at hc
   have HL:=Lib.hid (And.intro hlt hc)
   clear hlt hc
   go_enter Tryz.func205,Tryz.ntmps205
   go_wp2_with fail
   refine HL.out.2.mono ?_
   rintro e w1 ⟨rfl,b0⟩
   have B0:=Lib.hid b0
   clear b0
   go_wp2_with fail
   refine (nt_minus (H.out.2.1.below B0.out) (H.out.1.below B0.out) H.out.2.2.2 (Nat.le_of_lt HL.out.1)).mono ?_
   rintro e w2 ⟨v1,rfl,q1,b1⟩
   have Q:=Lib.hid (And.intro q1 b1)
   clear q1 b1
   go_wp2
   go_ret2
   obtain ⟨hab,hba⟩:=HA.out
   have hl:=HL.out.1
   have hs:(sg a x+sg b y).natAbs=y-x:=by rw [hba];unfold sg;split <;> omega
   refine ⟨b,v1,rfl,?_,by rw [hs];exact Q.out.1,Below.step_trans B0.out Q.out.2⟩
   rw [hs]
   unfold sg
   cases a <;> cases b <;> simp_all <;> omega
  ·have hc:=nt_compare H.out.1 H.out.2.1
   have hcc:¬ bZ x y<0:=by unfold bZ;rw [if_neg (by omega)];split <;> omega
   generalize bZ (x:Int) y=cz at hc hcc
   have HL:=Lib.hid (And.intro hlt hc)
   clear hlt hc
   go_enter Tryz.func205,Tryz.ntmps205
   go_wp2_with fail
   refine HL.out.2.mono ?_
   rintro e w1 ⟨rfl,b0⟩
   have B0:=Lib.hid b0
   clear b0
   go_wp2_with fail
   refine (nt_minus (H.out.1.below B0.out) (H.out.2.1.below B0.out) H.out.2.2.1 (Nat.le_of_not_lt HL.out.1)).mono ?_
   rintro e w2 ⟨v1,rfl,q1,b1⟩
   have Q:=Lib.hid (And.intro q1 b1)
   clear q1 b1
   go_wp2
   go_ret2
   obtain ⟨hab,hba⟩:=HA.out
   have hl:=HL.out.1
   have hs:(sg a x+sg b y).natAbs=x-y:=by rw [hba];unfold sg;split <;> omega
   refine ⟨a,v1,rfl,?_,by rw [hs];exact Q.out.1,Below.step_trans B0.out Q.out.2⟩
   rw [hs]
   unfold sg
   cases a <;> cases b <;> simp_all <;> omega
set_option maxHeartbeats 4000000 in
theorem ratio_any (neg:Bool) (n d:Nat) (v v' : Value) (w:World) (h:Nt w v n) (h' : Nt w v' d) (hn:Lv 40 n) (hd:Lv 40 d) (hd0:0<d):Calls Tryz.prog 63 #[.bool neg,v,v'] w (GivesFr w (mkRat (sg neg n) d)):=by
 by_cases h0:n=0
 ·subst h0
  rw [sg_zero,Rat.zero_mkRat]
  exact ratio_zero neg d v v' w h h'
 have H:=Lib.hid (And.intro h (And.intro h' (And.intro hn (And.intro hd (And.intro hd0 h0)))))
 have hnz:decide (n=0)=false:=by simpa using h0
 obtain ⟨A,k,c,rfl⟩:=h.form
 obtain ⟨A',k',c',rfl⟩:=h'.form
 clear h h' hn hd hd0 h0
 have b0:Below w.heap.size w (w.alloc (.cells #[.bool false,.slice none 0 0,.slice none 0 0] 105)):=(Below.refl _ _).alloc (Nat.le_refl _) _
 have B0:=Lib.hid b0
 have hblk:=Lib.hid (heap_alloc_new w (.cells #[.bool false,.slice none 0 0,.slice none 0 0] 105))
 clear b0
 by_cases h1:d=1
 ·have hz1:decide (d=1)=true:=by simpa using h1
  have H1:=Lib.hid h1
  clear h1
  go_enter Tryz.func63,Tryz.ntmps63
  go_wp2_with fail
  refine (dT (H.out.1.below B0.out)).mono ?_
  rintro e w1 ⟨rfl,rfl⟩
  go_wp2_with fail
  refine (nt_isOne (H.out.2.1.below B0.out)).mono ?_
  rintro e w1 ⟨rfl,rfl⟩
  obtain ⟨⟨h0,h1,h2⟩,f0,f1,f2⟩:=dR hblk.out
  go_wp2
  refine bodyPost_ret (v := .agg #[.bool neg,.slice A k c,.slice A' k' c']) (by simp [results,Tryz.results63,go_sem,h0,h1,h2]) rfl ⟨_,rfl,?_,(Below.refl _ _).alloc (Nat.le_refl _) _⟩
  exact Fr.of (Parts.reduced H.out.2.2.2.2.2 (by rw [H1.out];omega) (by rw [H1.out,Nat.gcd_one_right])) (H.out.1.below ((Below.refl _ _).alloc (Nat.le_refl _) _)) (H.out.2.1.below ((Below.refl _ _).alloc (Nat.le_refl _) _))
 ·have hz1:decide (d=1)=false:=by simpa using h1
  clear h1
  go_enter Tryz.func63,Tryz.ntmps63
  go_wp2_with fail
  refine (dT (H.out.1.below B0.out)).mono ?_
  rintro e w1 ⟨rfl,rfl⟩
  go_wp2_with fail
  refine (nt_isOne (H.out.2.1.below B0.out)).mono ?_
  rintro e w1 ⟨rfl,rfl⟩
  go_wp2_with fail
  refine (gcd_any _ _ n d _ (H.out.1.below B0.out) (H.out.2.1.below B0.out) H.out.2.2.1 H.out.2.2.2.1 (.inr H.out.2.2.2.2.1)).mono ?_
  rintro e w2 ⟨vg,rfl,qg,b2⟩
  obtain ⟨Ag,kg,cg,rfl⟩:=qg.form
  have hb2:Below w.heap.size w w2:=Below.step_trans B0.out b2
  have hk2:=aL b2 hblk.out
  have hg0:0<Nat.gcd n d:=Nat.gcd_pos_of_pos_right _ H.out.2.2.2.2.1
  have hgl:Lv 40 (Nat.gcd n d):=H.out.2.2.2.1.le (Nat.gcd_le_right _ H.out.2.2.2.2.1)
  have HG:=Lib.hid (And.intro qg (And.intro hb2 (And.intro hk2 (And.intro hg0 hgl))))
  clear qg b2 hb2 hk2 hg0 hgl
  by_cases hg1:Nat.gcd n d=1
  ·have hzg:decide (Nat.gcd n d=1)=true:=by simpa using hg1
   have HG1:=Lib.hid hg1
   clear hg1
   obtain ⟨⟨h0,h1,h2⟩,f0,f1,f2⟩:=dR HG.out.2.2.1
   go_wp2_with (go_at_call 127;refine (nt_isOne HG.out.1).mono ?_;rintro e w1 ⟨rfl,rfl⟩)
   refine bodyPost_ret (v := .agg #[.bool neg,.slice A k c,.slice A' k' c']) (by simp [results,Tryz.results63,go_sem,h0,h1,h2]) rfl ⟨_,rfl,?_,?_⟩
   ·exact Fr.ext (K:=Ku) (fun _=>rfl) (Fr.of (Parts.reduced H.out.2.2.2.2.2 (Nat.ne_of_gt H.out.2.2.2.2.1) HG1.out) (H.out.1.below HG.out.2.1) (H.out.2.1.below HG.out.2.1)) (Ext.only (only3 _ _ _ _ _) HG.out.2.2.1 (by simp [hotObj,Ku]))
   ·repeat (first|exact HG.out.2.1|(refine Below.setCell ?_ (by first|omega|(simp;done)|(simp;omega)) _)|(refine Below.alloc ?_ (by first|omega|(simp;done)|(simp;omega)) _)|(refine Below.drew ?_)|exact Below.refl _ _)
  ·have hzg:decide (Nat.gcd n d=1)=false:=by simpa using hg1
   clear hg1
   go_wp2_with (go_at_call 127;refine (nt_isOne HG.out.1).mono ?_;rintro e w1 ⟨rfl,rfl⟩)
   refine (fQ (H.out.1.below HG.out.2.1) HG.out.1 H.out.2.2.1 HG.out.2.2.2.1).mono ?_
   rintro e w3 ⟨v1,u1,rfl,q1,_,b3⟩
   obtain ⟨A1,k1,c1,rfl⟩:=q1.form
   have Q3:=Lib.hid (And.intro q1 (And.intro b3 (And.intro (Below.step_trans HG.out.2.1 b3) (aL b3 HG.out.2.2.1))))
   clear q1 b3
   go_wp2_with fail
   refine (fQ (H.out.2.1.below Q3.out.2.2.1) (HG.out.1.below Q3.out.2.1) H.out.2.2.2.1 HG.out.2.2.2.1).mono ?_
   rintro e w4 ⟨v2,u2,rfl,q2,_,b4⟩
   obtain ⟨A2,k2,c2,rfl⟩:=q2.form
   have Q4:=Lib.hid (And.intro q2 (And.intro b4 (And.intro (Below.step_trans Q3.out.2.2.1 b4) (aL b4 Q3.out.2.2.2))))
   clear q2 b4
   obtain ⟨⟨h0,h1,h2⟩,f0,f1,f2⟩:=dR Q4.out.2.2.2
   go_wp2
   refine bodyPost_ret (v := .agg #[.bool neg,.slice A1 k1 c1,.slice A2 k2 c2]) (by simp [results,Tryz.results63,go_sem,h0,h1,h2]) rfl ⟨_,rfl,?_,?_⟩
   ·exact Fr.ext (K:=Ku) (fun _=>rfl) (Fr.of (Parts.reduce H.out.2.2.2.2.2 (Nat.ne_of_gt H.out.2.2.2.2.1)) (Q3.out.1.below Q4.out.2.1) Q4.out.1) (Ext.only (only3 _ _ _ _ _) Q4.out.2.2.2 (by simp [hotObj,Ku]))
   ·repeat (first|exact Q4.out.2.2.1|(refine Below.setCell ?_ (by first|omega|(simp;done)|(simp;omega)) _)|(refine Below.alloc ?_ (by first|omega|(simp;done)|(simp;omega)) _)|(refine Below.drew ?_)|exact Below.refl _ _)
def Kn:Value→Bool
 | .int .u64 _=>true
 | .bool _=>true
 | _=>false
theorem aY {w:World} {g:Nat} {cs:Array Value} {t:TypeId} (h:w.heap[g]?=some (.cells cs t (0,0))) (i:Nat):w.frozen? ⟨g,i,none⟩=false:=by
 simp [World.frozen?,h]
theorem dD {w:World} {b i:Nat} {cs:Array Value} {t:TypeId} {fr:Nat×Nat} (h:w.heap[b]?=some (.cells cs t fr)) (u:Value):Turned b (.cells (cs.setIfInBounds i u) t fr) w (w.setCell ⟨b,i,none⟩ u):=by
 refine ⟨rfl,rfl,rfl,by simp [World.setCell],?_,fun k hk=>Below.heap_setCell w _ u k hk⟩
 simp only [World.setCell,Array.getElem?_modify,h]
 simp
theorem Turned.trans {b:Nat} {o o' : Obj} {w w' w'' : World} (h:Turned b o w w') (h' : Turned b o' w' w''):Turned b o' w w'' :=
 ⟨h'.os.trans h.os,h'.tape.trans h.tape,h'.output.trans h.output,h'.size.trans h.size,h'.at_,fun k hk=>(h'.block k hk).trans (h.block k hk)⟩
theorem eQ {w:World} {b:Nat} {x y z:Value} {t:TypeId} (h:w.heap[b]?=some (.cells #[x,y,z] t (0,0))) (u0 u1 u2:Value) :
 Turned b (.cells #[u0,u1,u2] t (0,0)) w (((w.setCell ⟨b,0,none⟩ u0).setCell ⟨b,1,none⟩ u1).setCell ⟨b,2,none⟩ u2):=by
 have h1:=dD (i:=0) h u0
 have h2:=dD (i:=1) h1.at_ u1
 have h3:=dD (i:=2) h2.at_ u2
 exact (h1.trans h2).trans h3
theorem Turned.below {b:Nat} {o:Obj} {w0 w w' : World} (h:Turned b o w w') (hb:Below w0.heap.size w0 w) (hlt:w0.heap.size≤b):Below w0.heap.size w0 w' :=
 hb.trans ⟨h.os,h.tape,h.output,by rw [h.size];exact Nat.le_refl _,fun k hk=>h.block k (by omega)⟩
def coFr (q:Rat):Obj→World→Prop:=fun o w => ∃ s1 s2,o = .cells #[.bool (decide (q.num<0)),s1,s2] 105 (0,0)∧Nt w s1 q.num.natAbs∧Nt w s2 q.den
theorem coFr_stable {K:Value→Bool} (hK:∀ x,K (.int .u64 x)=true) (q:Rat):StableO K (coFr q):=fun _ _ _ ⟨s1,s2,e,h1,h2⟩ hx=>⟨s1,s2,e,h1.ext hK hx,h2.ext hK hx⟩
set_option maxHeartbeats 1000000 in
theorem negated_any (v:Value) (q:Rat) (w:World) (h:Fr w v q) (h0:q≠0):Calls Tryz.prog 154 #[v] w (GivesFr w (-q)):=by
 obtain ⟨s1,s2,rfl,h1,h2⟩:=h
 obtain ⟨A1,n1,c1,rfl⟩:=h1.form
 obtain ⟨A2,n2,c2,rfl⟩:=h2.form
 have H:=Lib.hid (And.intro h1 (And.intro h2 h0))
 clear h1 h2 h0
 generalize hneg:decide (q.num<0)=neg
 have HN:=Lib.hid hneg
 clear hneg
 go_enter Tryz.func154,Tryz.ntmps154
 go_wp2
 refine bodyPost_ret (v := .agg #[.bool (!neg),.slice A1 n1 c1,.slice A2 n2 c2]) (by simp [results,Tryz.results154,go_sem]) rfl ⟨_,rfl,?_,?_⟩
 ·have hb:∀ o o',Below w.heap.size w ((w.alloc o).alloc o'):=fun o o'=>((Below.refl _ _).alloc (Nat.le_refl _) _).alloc (by simp) _
  refine Fr.of (Parts.neg ?_ H.out.2.2) (H.out.1.below (hb _ _)) (H.out.2.1.below (hb _ _))
  rw [← HN.out]
  exact Parts.self q
 ·repeat (first|exact Below.refl _ _|(refine Below.setCell ?_ (by first|omega|(simp;done)|(simp;omega)) _)|(refine Below.alloc ?_ (by first|omega|(simp;done)|(simp;omega)) _)|(refine Below.drew ?_)|exact Below.refl _ _)
set_option maxHeartbeats 1000000 in
theorem inverse_any (v:Value) (q:Rat) (w:World) (h:Fr w v q) (h0:q≠0):Calls Tryz.prog 98 #[v] w (GivesFr w q⁻¹):=by
 obtain ⟨s1,s2,rfl,h1,h2⟩:=h
 obtain ⟨A1,n1,c1,rfl⟩:=h1.form
 obtain ⟨A2,n2,c2,rfl⟩:=h2.form
 have H:=Lib.hid (And.intro h1 (And.intro h2 h0))
 clear h1 h2 h0
 generalize hneg:decide (q.num<0)=neg
 have HN:=Lib.hid hneg
 clear hneg
 go_enter Tryz.func98,Tryz.ntmps98
 go_wp2
 refine bodyPost_ret (v := .agg #[.bool neg,.slice A2 n2 c2,.slice A1 n1 c1]) (by simp [results,Tryz.results98,go_sem]) rfl ⟨_,rfl,?_,?_⟩
 ·have hb:∀ o o',Below w.heap.size w ((w.alloc o).alloc o'):=fun o o'=>((Below.refl _ _).alloc (Nat.le_refl _) _).alloc (by simp) _
  refine Fr.of (Parts.inv ?_ H.out.2.2) (H.out.2.1.below (hb _ _)) (H.out.1.below (hb _ _))
  rw [← HN.out]
  exact Parts.self q
 ·repeat (first|exact Below.refl _ _|(refine Below.setCell ?_ (by first|omega|(simp;done)|(simp;omega)) _)|(refine Below.alloc ?_ (by first|omega|(simp;done)|(simp;omega)) _)|(refine Below.drew ?_)|exact Below.refl _ _)
theorem Base.extT {K:Value→Bool} {b:Nat} {w0 w:World} {o:Obj} (h:Base [b] w0 w) (h0:w0.heap[b]?=some o) (hc:hotObj K o=false):Ext K w0 w:=by
 refine ⟨h.size,fun g o' hg ho=>?_⟩
 by_cases e:g=b
 ·subst e
  rw [h0] at hg
  injection hg with hg
  subst hg
  rw [hc] at ho
  cases ho
 ·rw [h.block g (lt_of_block hg) (by simpa using e)];exact hg
theorem Base.belowT {b:Nat} {w w1 w2:World} (h:Base [b] w1 w2) (hb:Below w.heap.size w w1) (hlt:w.heap.size≤b):Below w.heap.size w w2 :=
 hb.trans ⟨h.os,h.tape,h.output,h.size,fun k hk=>h.block k (Nat.lt_of_lt_of_le hk hb.size) (by simp;omega)⟩
theorem dX (z:Int) {d:Nat} (hd:d≠0):(mkRat z d).num.natAbs≤z.natAbs∧(mkRat z d).den≤d:=by
 obtain ⟨h1,h2⟩:=mkRat_dvd z hd
 refine ⟨?_,Nat.le_of_dvd (by omega) h2⟩
 rcases Nat.eq_zero_or_pos z.natAbs with h|h
 ·have:z=0:=by omega
  subst this
  rw [Rat.zero_mkRat]
  exact Nat.le_refl _
 ·exact Nat.le_of_dvd h h1
theorem Lf.mono {k l:Nat} {q:Rat} (h:Lf k q) (hk:k≤l):Lf l q:=⟨h.1.mono hk,h.2.mono hk⟩
theorem Lf.mul {k:Nat} {p q:Rat} (hp:Lf k p) (hq:Lf k q):Lf (k+1) (p*q):=by
 rw [Rat.mul_def']
 obtain ⟨h1,h2⟩:=dX (p.num*q.num) (Nat.ne_of_gt (Nat.mul_pos p.den_pos q.den_pos))
 rw [Int.natAbs_mul] at h1
 exact ⟨(hp.1.mul hq.1).le h1,(hp.2.mul hq.2).le h2⟩
theorem Lf.add {k:Nat} {p q:Rat} (hp:Lf k p) (hq:Lf k q):Lf (k+2) (p+q):=by
 rw [Rat.add_def']
 obtain ⟨h1,h2⟩:=dX (p.num*q.den+q.num*p.den) (Nat.ne_of_gt (Nat.mul_pos p.den_pos q.den_pos))
 refine ⟨(Lv.add (hp.1.mul hq.2) (hq.1.mul hp.2)).le ?_,((hp.2.mul hq.2).le h2).mono (by omega)⟩
 refine Nat.le_trans h1 (Nat.le_trans (Int.natAbs_add_le _ _) ?_)
 rw [Int.natAbs_mul,Int.natAbs_mul,Int.natAbs_natCast,Int.natAbs_natCast]
 exact Nat.le_refl _
theorem Lf.neg {k:Nat} {p:Rat} (hp:Lf k p):Lf k (-p):=by
 refine ⟨?_,hp.2⟩
 rw [Rat.neg_num,Int.natAbs_neg];exact hp.1
theorem Lf.inv {k:Nat} {p:Rat} (hp:Lf k p):Lf k p⁻¹:=by
 by_cases h0:p=0
 ·subst h0;rw [Rat.inv_zero];exact hp
 ·obtain ⟨_,e1,e2⟩:=Parts.inv (Parts.self p) h0
  exact ⟨by rw [← e1];exact hp.2,by rw [← e2];exact hp.1⟩
theorem Lf.zero (k:Nat):Lf k 0:=⟨Lv.one _ bD,Lv.one _ eO⟩
theorem Lf.int {k:Nat} {z:Int} (h:Lv k z.natAbs):Lf k (z:Rat):=by
 refine ⟨?_,?_⟩
 ·rw [Rat.num_intCast];exact h
 ·rw [Rat.den_intCast];exact Lv.one _ eO
theorem eR (w:World) (a b c:Obj):(((w.alloc a).alloc b).alloc c).heap[w.heap.size]?=some a∧(((w.alloc a).alloc b).alloc c).heap[w.heap.size+1]?=some b∧(((w.alloc a).alloc b).alloc c).heap[w.heap.size+1+1]?=some c∧Below w.heap.size w (((w.alloc a).alloc b).alloc c):=by
 have h1:Below (w.alloc a).heap.size (w.alloc a) (((w.alloc a).alloc b).alloc c):=((Below.refl _ _).alloc (Nat.le_refl _) _).alloc (by simp) _
 have h2:Below ((w.alloc a).alloc b).heap.size ((w.alloc a).alloc b) (((w.alloc a).alloc b).alloc c):=(Below.refl _ _).alloc (Nat.le_refl _) _
 refine ⟨aL h1 (heap_alloc_new w a),aL h2 ?_,?_,(((Below.refl _ _).alloc (Nat.le_refl _) _).alloc (by simp) _).alloc (by simp;omega) _⟩
 ·have:=heap_alloc_new (w.alloc a) b;simpa using this
 ·have:=heap_alloc_new ((w.alloc a).alloc b) c;simpa using this
set_option maxRecDepth 100000 in
set_option maxHeartbeats 8000000 in
theorem fraTimes_any (v v' : Value) (p q:Rat) (w:World) (h:Fr w v p) (h' : Fr w v' q) (hp:Lf 38 p) (hq:Lf 38 q):Calls Tryz.prog 153 #[v,v'] w (GivesFr w (p*q)):=by
 obtain ⟨s1,s2,rfl,h1,h2⟩:=h
 obtain ⟨s3,s4,rfl,h3,h4⟩:=h'
 obtain ⟨A1,n1,c1,rfl⟩:=h1.form
 obtain ⟨A2,n2,c2,rfl⟩:=h2.form
 obtain ⟨A3,n3,c3,rfl⟩:=h3.form
 obtain ⟨A4,n4,c4,rfl⟩:=h4.form
 obtain ⟨hk1,hk2,hk3,hb1⟩:=eR w (.cells #[.bool (decide (p.num<0)),.slice A1 n1 c1,.slice A2 n2 c2] 105) (.cells #[.bool (decide (q.num<0)),.slice A3 n3 c3,.slice A4 n4 c4] 105) (.cells #[.bool false,.slice none 0 0,.slice none 0 0] 105)
 have H:=Lib.hid (And.intro (h1.below hb1) (And.intro (h2.below hb1) (And.intro (h3.below hb1) (And.intro (h4.below hb1) (And.intro hp (And.intro hq (And.intro hb1 (And.intro hk1 (And.intro hk2 hk3)))))))))
 clear h1 h2 h3 h4 hp hq hb1 hk1 hk2 hk3
 go_enter Tryz.func153,Tryz.ntmps153
 go_wp2
 generalize ((w.alloc (.cells #[.bool (decide (p.num<0)),.slice A1 n1 c1,.slice A2 n2 c2] 105)).alloc (.cells #[.bool (decide (q.num<0)),.slice A3 n3 c3,.slice A4 n4 c4] 105)).alloc (.cells #[.bool false,.slice none 0 0,.slice none 0 0] 105)=w1 at *
 have hA:=H.out.2.2.2.2.2.2.2.1
 have hC:=H.out.2.2.2.2.2.2.2.2.1
 obtain ⟨L,hL⟩:∃ L,L=mkRat p.num q.den:=⟨_,rfl⟩
 obtain ⟨R,hR⟩:∃ R,R=mkRat q.num p.den:=⟨_,rfl⟩
 have HLR:=Lib.hid (And.intro hL hR)
 have t1:∀ w',Base [] w1 w'→Calls Tryz.prog 63 #[.bool (decide (p.num<0)),.slice A1 n1 c1,.slice A4 n4 c4] w' (TyPost w' (fR L)):=fun w' hB=>by
  have:=GivesFr.ty (ratio_any (decide (p.num<0)) p.num.natAbs q.den _ _ w' (H.out.1.below hB.below) (H.out.2.2.2.1.below hB.below) (H.out.2.2.2.2.1.1.mono (by omega)) (H.out.2.2.2.2.2.1.2.mono (by omega)) q.den_pos)
  rwa [sg_of,← hL] at this
 have t2:∀ w',Base [] w1 w'→Calls Tryz.prog 63 #[.bool (decide (q.num<0)),.slice A3 n3 c3,.slice A2 n2 c2] w' (TyPost w' (fR R)):=fun w' hB=>by
  have:=GivesFr.ty (ratio_any (decide (q.num<0)) q.num.natAbs p.den _ _ w' (H.out.2.2.1.below hB.below) (H.out.2.1.below hB.below) (H.out.2.2.2.2.2.1.1.mono (by omega)) (H.out.2.2.2.2.1.2.mono (by omega)) p.den_pos)
  rwa [sg_of,← hR] at this
 have T1:=Lib.hid t1
 have T2:=Lib.hid t2
 clear t1 t2 hL hR
 refine wp_region_ty Ku [] (by kernel_rfl) (by kernel_rfl) ?_
 repeat (first|(apply bT (hg:=rfl);case h=>(intro A w' hB hk;simp [known,specOf,Kd.spec,Sp.is,isVar,Oper.looksAt,Op.operands,Call.operands,Act.eval] at hk;have c_hA:=aA (hB.blk hA (by first|(simp;done)|(simp;omega)));have c_hC:=aA (hB.blk hC (by first|(simp;done)|(simp;omega)));first|(simp [go_sem,hk,c_hA,c_hC];done)|(simp [go_sem,hk,c_hA,c_hC];rfl)|(simp [go_sem,c_hA,c_hC];rfl)))|(refine aW _ ?_ (by first|exact .inl rfl|exact .inr rfl) (by rfl) (by simp [specOf,Kd.spec];rfl) ?_ rfl ?_;(first|exact Sp.is_stable _ _|exact aK (fun _=>rfl) _|exact spTwo_stable (fun _=>rfl) _ _|exact spFr_stable (fun _=>rfl) _|exact spSum_stable (fun _=>rfl) _|exact spSgn_stable _ _|exact spNb_stable (fun _=>rfl) (fun _=>rfl) _|exact spVc_stable (fun _=>rfl) (fun _=>rfl) _)))
 refine aQ (fR L) (spFr_stable (fun _=>rfl) _) rfl (fun A w' hB hk=>?_) ?_;(simp [known,specOf,Kd.spec,Sp.is,isVar,Oper.looksAt,Op.operands,Call.operands,Act.eval] at hk;have c_hA:=aA (hB.blk hA (by first|(simp;done)|(simp;omega)));simp [go_sem,hk,c_hA];refine aG ?_;exact T1.out _ hB)
 repeat (first|(apply bT (hg:=rfl);case h=>(intro A w' hB hk;simp [known,specOf,Kd.spec,Sp.is,isVar,Oper.looksAt,Op.operands,Call.operands,Act.eval] at hk;have c_hA:=aA (hB.blk hA (by first|(simp;done)|(simp;omega)));have c_hC:=aA (hB.blk hC (by first|(simp;done)|(simp;omega)));first|(simp [go_sem,hk,c_hA,c_hC];done)|(simp [go_sem,hk,c_hA,c_hC];rfl)|(simp [go_sem,c_hA,c_hC];rfl)))|(refine aW _ ?_ (by first|exact .inl rfl|exact .inr rfl) (by rfl) (by simp [specOf,Kd.spec];rfl) ?_ rfl ?_;(first|exact Sp.is_stable _ _|exact aK (fun _=>rfl) _|exact spTwo_stable (fun _=>rfl) _ _|exact spFr_stable (fun _=>rfl) _|exact spSum_stable (fun _=>rfl) _|exact spSgn_stable _ _|exact spNb_stable (fun _=>rfl) (fun _=>rfl) _|exact spVc_stable (fun _=>rfl) (fun _=>rfl) _)))
 refine aQ (fR R) (spFr_stable (fun _=>rfl) _) rfl (fun A w' hB hk=>?_) ?_;(simp [known,specOf,Kd.spec,Sp.is,isVar,Oper.looksAt,Op.operands,Call.operands,Act.eval] at hk;have c_hA:=aA (hB.blk hA (by first|(simp;done)|(simp;omega)));simp [go_sem,hk,c_hA];refine aG ?_;exact T2.out _ hB)
 (apply ty_new (hg:=rfl) (hd:=rfl);(case h=>(intro A w';simp [go_sem];rfl));(case hc=>simp [hotObj,Ku,Kn]))
 (apply ty_new (hg:=rfl) (hd:=rfl);(case h=>(intro A w';simp [go_sem];rfl));(case hc=>simp [hotObj,Ku,Kn]))
 refine ty_put 5 ((.cells #[.bool false,.slice none 0 0,.slice none 0 0] 105 (0,0))) (coFr L) (coFr_stable (fun _=>rfl) _) rfl rfl (by simp [Oper.looksAt,Op.operands]) (by simp) (fun A w' b hB hk hd h0=>?_) ?_;(simp [known,specOf,Kd.spec,Sp.is,isVar,Oper.looksAt,Op.operands,Call.operands,Act.eval] at hk;simp [Act.eval] at hd;have c_hA:=aA (hB.blk hA (by first|(simp;done)|(simp;omega)));have c0:=aA h0;have f0:=aY h0;obtain ⟨k1,z1,z2,k2,k3,k4⟩:=hk;obtain ⟨B1,m1,e1,rfl⟩:=k3.form;obtain ⟨B2,m2,e2,rfl⟩:=k4.form;simp [go_sem,hd,k2,c0,f0];exact ⟨_,eQ h0 _ _ _,_,_,rfl,k3,k4⟩)
 refine ty_put 6 ((.cells #[.bool false,.slice none 0 0,.slice none 0 0] 105 (0,0))) (coFr R) (coFr_stable (fun _=>rfl) _) rfl rfl (by simp [Oper.looksAt,Op.operands]) (by simp) (fun A w' b hB hk hd h0=>?_) ?_;(simp [known,specOf,Kd.spec,Sp.is,isVar,Oper.looksAt,Op.operands,Call.operands,Act.eval] at hk;simp [Act.eval] at hd;have c_hA:=aA (hB.blk hA (by first|(simp;done)|(simp;omega)));have c0:=aA h0;have f0:=aY h0;obtain ⟨k1,z1,z2,k2,k3,k4⟩:=hk;obtain ⟨B1,m1,e1,rfl⟩:=k3.form;obtain ⟨B2,m2,e2,rfl⟩:=k4.form;simp [go_sem,hd,k2,c0,f0];exact ⟨_,eQ h0 _ _ _,_,_,rfl,k3,k4⟩)
 refine ⟨by first|rfl|decide,fun f w2 hB hF hAp=>?_⟩;simp [Final1,Sp.is,isVar] at hF;simp only [frameOf]
 have h56:=hAp 5 6 (.cells #[.bool false,.slice none 0 0,.slice none 0 0] 105 (0,0)) (.cells #[.bool false,.slice none 0 0,.slice none 0 0] 105 (0,0)) (by simp) (by simp) (by decide)
 obtain ⟨b6,e6,l6,_,o6,⟨x1,x2,rfl,y1,y2⟩,ho6⟩:=hF.1
 obtain ⟨b5,e5,l5,_,o5,⟨x3,x4,rfl,y3,y4⟩,ho5⟩:=hF.2.1
 have hF2:=hF.2.2
 have hb56:b5≠b6:=fun e=>h56 (by rw [e5,e6,e])
 obtain ⟨X1,g1,d1,rfl⟩:=y1.form
 obtain ⟨X2,g2,d2,rfl⟩:=y2.form
 obtain ⟨X3,g3,d3,rfl⟩:=y3.form
 obtain ⟨X4,g4,d4,rfl⟩:=y4.form
 clear hF hAp h56
 obtain ⟨⟨r50,r51,r52⟩,_⟩:=dR ho5
 obtain ⟨⟨r60,r61,r62⟩,_⟩:=dR ho6
 have hres:=hB.blk H.out.2.2.2.2.2.2.2.2.2 (by simp)
 have hb2:Below w.heap.size w w2:=Below.step_trans H.out.2.2.2.2.2.2.1 hB.below
 have M:=Lib.hid (And.intro y1 (And.intro y2 (And.intro y3 (And.intro y4 (And.intro ho5 (And.intro ho6 (And.intro hres (And.intro hb2 (And.intro l5 (And.intro l6 hb56))))))))))
 have HE:=Lib.hid (And.intro e5 e6)
 clear y1 y2 y3 y4 ho5 ho6 hres hb2 hB l5 l6 hb56
 have hlv:Lf 38 L∧Lf 38 R:=by
  obtain ⟨hL,hR⟩:=HLR.out
  obtain ⟨m1,m2⟩:=dX p.num q.den_nz
  obtain ⟨m3,m4⟩:=dX q.num p.den_nz
  rw [hL,hR]
  exact ⟨⟨H.out.2.2.2.2.1.1.le m1,H.out.2.2.2.2.2.1.2.le m2⟩,⟨H.out.2.2.2.2.2.1.1.le m3,H.out.2.2.2.2.1.2.le m4⟩⟩
 have HLV:=Lib.hid hlv
 clear hlv
 have zeroOut:∀ (v:Value) (w3:World),p*q=0→Fr w3 v 0→Fr w3 v (p*q):=fun v w3 h hf=>by rw [h];exact hf
 have ZO:=Lib.hid zeroOut
 clear zeroOut
 by_cases z5:L.num.natAbs=0
 ·have hpq:p*q=0:=by
   have:=Parts.self L
   rw [z5] at this
   rw [HLR.out.1] at this
   exact mul_zero_left this
  have hz:decide (L.num.natAbs=0)=true:=by rw [decide_eq_true_eq];exact z5
  clear z5
  go_wp2_with fail
  refine (dT M.out.2.2.1).mono ?_
  rintro e w' ⟨rfl,rfl⟩
  rw [hz]
  clear hz
  have HZ:=Lib.hid hpq
  clear hpq
  go_wp2_with fail
  refine (zero_any _).mono ?_
  rintro e w3 ⟨v1,rfl,⟨s1,s2,rfl,q1,q2⟩,b1⟩
  obtain ⟨E1,k1,m1,rfl⟩:=q1.form
  obtain ⟨E2,k2,m2,rfl⟩:=q2.form
  have hk:=aL b1 M.out.2.2.2.2.2.2.1
  obtain ⟨⟨h0,h1,h2⟩,f0,f1,f2⟩:=dR hk
  have Q:=Lib.hid (And.intro q1 (And.intro q2 (And.intro b1 hk)))
  clear q1 q2 b1 hk
  go_wp2
  refine bodyPost_ret (v := .agg #[.bool (decide ((0:Rat).num<0)),.slice E1 k1 m1,.slice E2 k2 m2]) (by simp [results,Tryz.results153,go_sem,h0,h1,h2]) rfl ⟨_,rfl,?_,?_⟩
  ·exact ZO.out _ _ HZ.out (Fr.ext (K:=Ku) (fun _=>rfl) ⟨_,_,rfl,Q.out.1,Q.out.2.1⟩ (Ext.only (only3 _ _ _ _ _) Q.out.2.2.2 (by simp [hotObj,Ku])))
  ·repeat (first|exact (Below.step_trans M.out.2.2.2.2.2.2.2.1 Q.out.2.2.1)|(refine Below.setCell ?_ (by first|omega|(simp;done)|(simp;omega)) _)|(refine Below.alloc ?_ (by first|omega|(simp;done)|(simp;omega)) _)|(refine Below.drew ?_)|exact Below.refl _ _)
 ·have hz:decide (L.num.natAbs=0)=false:=by rw [decide_eq_false_iff_not];exact z5
  have HZ5:=Lib.hid z5
  clear z5
  go_wp2_with fail
  refine (dT M.out.2.2.1).mono ?_
  rintro e w' ⟨rfl,rfl⟩
  rw [hz]
  clear hz
  go_wp2_with fail
  refine (dT M.out.1).mono ?_
  rintro e w' ⟨rfl,rfl⟩
  by_cases z6:R.num.natAbs=0
  ·have hpq:p*q=0:=by
    have:=Parts.self R
    rw [z6] at this
    rw [HLR.out.2] at this
    exact mul_zero_right this
   have hz:decide (R.num.natAbs=0)=true:=by rw [decide_eq_true_eq];exact z6
   rw [hz]
   clear hz z6
   have HZ:=Lib.hid hpq
   clear hpq
   go_wp2_with fail
   refine (zero_any _).mono ?_
   rintro e w3 ⟨v1,rfl,⟨s1,s2,rfl,q1,q2⟩,b1⟩
   obtain ⟨E1,k1,m1,rfl⟩:=q1.form
   obtain ⟨E2,k2,m2,rfl⟩:=q2.form
   have hk:=aL b1 M.out.2.2.2.2.2.2.1
   obtain ⟨⟨h0,h1,h2⟩,f0,f1,f2⟩:=dR hk
   have Q:=Lib.hid (And.intro q1 (And.intro q2 (And.intro b1 hk)))
   clear q1 q2 b1 hk
   go_wp2
   refine bodyPost_ret (v := .agg #[.bool (decide ((0:Rat).num<0)),.slice E1 k1 m1,.slice E2 k2 m2]) (by simp [results,Tryz.results153,go_sem,h0,h1,h2]) rfl ⟨_,rfl,?_,?_⟩
   ·exact ZO.out _ _ HZ.out (Fr.ext (K:=Ku) (fun _=>rfl) ⟨_,_,rfl,Q.out.1,Q.out.2.1⟩ (Ext.only (only3 _ _ _ _ _) Q.out.2.2.2 (by simp [hotObj,Ku])))
   ·repeat (first|exact (Below.step_trans M.out.2.2.2.2.2.2.2.1 Q.out.2.2.1)|(refine Below.setCell ?_ (by first|omega|(simp;done)|(simp;omega)) _)|(refine Below.alloc ?_ (by first|omega|(simp;done)|(simp;omega)) _)|(refine Below.drew ?_)|exact Below.refl _ _)
  ·have hz:decide (R.num.natAbs=0)=false:=by rw [decide_eq_false_iff_not];exact z6
   rw [hz]
   have HZ6:=Lib.hid z6
   clear hz z6
   have hpar:Parts (p*q) (decide (L.num<0) != decide (R.num<0)) (L.num.natAbs*R.num.natAbs) (L.den*R.den):=by
    have h1:=HLR.out.1
    have h2:=HLR.out.2
    have h3:=HZ5.out
    have h4:=HZ6.out
    rw [h1,h2] at *
    exact Parts.mul (Parts.self _) (Parts.self _) h3 h4
   have HP:=Lib.hid hpar
   generalize decide (L.num<0)=nl at *
   generalize decide (R.num<0)=nr at *
   have hA5:=M.out.2.2.2.2.1
   have hA6:=M.out.2.2.2.2.2.1
   have hR0:=M.out.2.2.2.2.2.2.1
   have t1:∀ w',Base [w.heap.size+1+1] w2 w'→Calls Tryz.prog 131 #[.slice X3 g3 d3,.slice X1 g1 d1] w' (TyPost w' (spNt (L.num.natAbs*R.num.natAbs))):=fun w' hB =>
    GivesNt.ty (nt_times (Nt.ext (K:=Ku) (fun _=>rfl) M.out.2.2.1 (hB.extT M.out.2.2.2.2.2.2.1 (by simp [hotObj,Ku]))) (Nt.ext (K:=Ku) (fun _=>rfl) M.out.1 (hB.extT M.out.2.2.2.2.2.2.1 (by simp [hotObj,Ku]))) (HLV.out.1.1.mono (by omega)) (HLV.out.2.1.mono (by omega)))
   have t2:∀ w',Base [w.heap.size+1+1] w2 w'→Calls Tryz.prog 131 #[.slice X4 g4 d4,.slice X2 g2 d2] w' (TyPost w' (spNt (L.den*R.den))):=fun w' hB =>
    GivesNt.ty (nt_times (Nt.ext (K:=Ku) (fun _=>rfl) M.out.2.2.2.1 (hB.extT M.out.2.2.2.2.2.2.1 (by simp [hotObj,Ku]))) (Nt.ext (K:=Ku) (fun _=>rfl) M.out.2.1 (hB.extT M.out.2.2.2.2.2.2.1 (by simp [hotObj,Ku]))) (HLV.out.1.2.mono (by omega)) (HLV.out.2.2.mono (by omega)))
   have T3:=Lib.hid t1
   have T4:=Lib.hid t2
   clear t1 t2 hpar
   have hne5:b5≠w.heap.size+1+1:=by
    have:=M.out.2.2.2.2.2.2.2.2.1
    have:=lt_of_block H.out.2.2.2.2.2.2.2.2.2
    omega
   have hne6:b6≠w.heap.size+1+1:=by
    have:=M.out.2.2.2.2.2.2.2.2.2.1
    have:=lt_of_block H.out.2.2.2.2.2.2.2.2.2
    omega
   go_wp2_with fail
   refine wp_region_ty Ku [w.heap.size+1+1] (by kernel_rfl) (by kernel_rfl) ?_
   repeat (first|(apply bT (hg:=rfl);case h=>(intro A w' hB hk;simp [known,specOf,Kd.spec,Sp.is,isVar,Oper.looksAt,Op.operands,Call.operands,Act.eval] at hk;have c_hA5:=aA (hB.blk hA5 (by first|(simp;done)|(simp;omega)));have c_hA6:=aA (hB.blk hA6 (by first|(simp;done)|(simp;omega)));first|(simp [go_sem,hk,c_hA5,c_hA6];done)|(simp [go_sem,hk,c_hA5,c_hA6];rfl)|(simp [go_sem,c_hA5,c_hA6];rfl)))|(refine aW _ ?_ (by first|exact .inl rfl|exact .inr rfl) (by rfl) (by simp [specOf,Kd.spec];rfl) ?_ rfl ?_;(first|exact Sp.is_stable _ _|exact aK (fun _=>rfl) _|exact spTwo_stable (fun _=>rfl) _ _|exact spFr_stable (fun _=>rfl) _|exact spSum_stable (fun _=>rfl) _|exact spSgn_stable _ _|exact spNb_stable (fun _=>rfl) (fun _=>rfl) _|exact spVc_stable (fun _=>rfl) (fun _=>rfl) _)))
   refine aQ (spNt (L.num.natAbs*R.num.natAbs)) (aK (fun _=>rfl) _) rfl (fun A w' hB hk=>?_) ?_;(simp [known,specOf,Kd.spec,Sp.is,isVar,Oper.looksAt,Op.operands,Call.operands,Act.eval] at hk;have c_hA5:=aA (hB.blk hA5 (by first|(simp;done)|(simp;omega)));have c_hA6:=aA (hB.blk hA6 (by first|(simp;done)|(simp;omega)));simp [go_sem,hk,c_hA5,c_hA6];refine aG ?_;exact T3.out _ hB)
   repeat (first|(apply bT (hg:=rfl);case h=>(intro A w' hB hk;simp [known,specOf,Kd.spec,Sp.is,isVar,Oper.looksAt,Op.operands,Call.operands,Act.eval] at hk;have c_hA5:=aA (hB.blk hA5 (by first|(simp;done)|(simp;omega)));have c_hA6:=aA (hB.blk hA6 (by first|(simp;done)|(simp;omega)));first|(simp [go_sem,hk,c_hA5,c_hA6];done)|(simp [go_sem,hk,c_hA5,c_hA6];rfl)|(simp [go_sem,c_hA5,c_hA6];rfl)))|(refine aW _ ?_ (by first|exact .inl rfl|exact .inr rfl) (by rfl) (by simp [specOf,Kd.spec];rfl) ?_ rfl ?_;(first|exact Sp.is_stable _ _|exact aK (fun _=>rfl) _|exact spTwo_stable (fun _=>rfl) _ _|exact spFr_stable (fun _=>rfl) _|exact spSum_stable (fun _=>rfl) _|exact spSgn_stable _ _|exact spNb_stable (fun _=>rfl) (fun _=>rfl) _|exact spVc_stable (fun _=>rfl) (fun _=>rfl) _)))
   refine aQ (spNt (L.den*R.den)) (aK (fun _=>rfl) _) rfl (fun A w' hB hk=>?_) ?_;(simp [known,specOf,Kd.spec,Sp.is,isVar,Oper.looksAt,Op.operands,Call.operands,Act.eval] at hk;have c_hA5:=aA (hB.blk hA5 (by first|(simp;done)|(simp;omega)));have c_hA6:=aA (hB.blk hA6 (by first|(simp;done)|(simp;omega)));simp [go_sem,hk,c_hA5,c_hA6];refine aG ?_;exact T4.out _ hB)
   refine aQ (fR (p*q)) (spFr_stable (fun _=>rfl) _) rfl (fun A w' hB hk=>?_) ?_;(simp [known,specOf,Kd.spec,Sp.is,isVar,Oper.looksAt,Op.operands,Call.operands,Act.eval] at hk;have c_hA5:=aA (hB.blk hA5 (by first|(simp;done)|(simp;omega)));obtain ⟨k1,k2,k3⟩:=hk;obtain ⟨B1,m1,u1,e1⟩:=(show Nt _ _ _ from k2).form;obtain ⟨B2,m2,u2,e2⟩:=(show Nt _ _ _ from k3).form;rw [e1] at k2;rw [e2] at k3;simp [go_sem,k1,e1,e2];refine tyUpon_value ?_;exact Fr.of HP.out k2 k3)
   refine ty_old (w.heap.size+1+1) (_) (coFr (p*q)) (coFr_stable (fun _=>rfl) _) rfl rfl (by simp) (by assumption) (by simp [hotObj,Ku,Kn]) (fun A w' hB hk h0=>?_) ?_;(simp [known,specOf,Kd.spec,Sp.is,isVar,Oper.looksAt,Op.operands,Call.operands,Act.eval] at hk;have c_hA5:=aA (hB.blk hA5 (by first|(simp;done)|(simp;omega)));have c0:=aA h0;have f0:=aY h0;obtain ⟨k1,z1,z2,k2,k3,k4⟩:=hk;obtain ⟨B1,m1,e1,rfl⟩:=k3.form;obtain ⟨B2,m2,e2,rfl⟩:=k4.form;simp [go_sem,k1,k2,c0,f0];exact ⟨_,eQ h0 _ _ _,_,_,rfl,k3,k4⟩)
   refine ⟨by first|rfl|decide,fun f w2 hB hF hAp=>?_⟩;simp [Final1,Sp.is,isVar] at hF;simp only [frameOf]
   obtain ⟨o,⟨s1,s2,rfl,k3,k4⟩,ho⟩:=hF.1
   obtain ⟨B1,m1,u1,rfl⟩:=k3.form
   obtain ⟨B2,m2,u2,rfl⟩:=k4.form
   obtain ⟨⟨r0,r1,r2⟩,_⟩:=dR ho
   have K:=Lib.hid (And.intro k3 (And.intro k4 hB))
   clear k3 k4 hB ho hA5 hA6 hAp
   go_wp2
   refine bodyPost_ret (v := .agg #[.bool (decide ((p*q).num<0)),.slice B1 m1 u1,.slice B2 m2 u2]) (by simp [results,Tryz.results153,go_sem,r0,r1,r2]) rfl ⟨_,rfl,⟨_,_,rfl,K.out.1,K.out.2.1⟩,?_⟩
   exact Base.belowT K.out.2.2 M.out.2.2.2.2.2.2.2.1 (by omega)
def spSum (S:Int):Sp:=fun v w => ∃ neg u,v = .tuple #[.bool neg,u]∧sg neg S.natAbs=S∧Nt w u S.natAbs
def spSgn (S:Int):Sp:=fun v _ => ∃ neg,v = .bool neg∧sg neg S.natAbs=S
theorem spSum_stable {K:Value→Bool} (hK:∀ x,K (.int .u64 x)=true) (S:Int):Stable K (spSum S):=fun _ _ _ ⟨n,u,e,h1,h2⟩ hx=>⟨n,u,e,h1,h2.ext hK hx⟩
theorem spSgn_stable (K:Value→Bool) (S:Int):Stable K (spSgn S):=fun _ _ _ h _=>h
set_option maxRecDepth 100000 in
set_option maxHeartbeats 8000000 in
theorem fraPlus_any (v v' : Value) (p q:Rat) (w:World) (h:Fr w v p) (h' : Fr w v' q) (hp:Lf 36 p) (hq:Lf 36 q):Calls Tryz.prog 146 #[v,v'] w (GivesFr w (p+q)):=by
 obtain ⟨s1,s2,rfl,h1,h2⟩:=h
 obtain ⟨s3,s4,rfl,h3,h4⟩:=h'
 obtain ⟨A1,n1,c1,rfl⟩:=h1.form
 obtain ⟨A2,n2,c2,rfl⟩:=h2.form
 obtain ⟨A3,n3,c3,rfl⟩:=h3.form
 obtain ⟨A4,n4,c4,rfl⟩:=h4.form
 obtain ⟨hk1,hk2,hk3,hb1⟩:=eR w (.cells #[.bool (decide (p.num<0)),.slice A1 n1 c1,.slice A2 n2 c2] 105) (.cells #[.bool (decide (q.num<0)),.slice A3 n3 c3,.slice A4 n4 c4] 105) (.cells #[.bool false,.slice none 0 0,.slice none 0 0] 105)
 have H:=Lib.hid (And.intro (h1.below hb1) (And.intro (h2.below hb1) (And.intro (h3.below hb1) (And.intro (h4.below hb1) (And.intro hp (And.intro hq (And.intro hb1 (And.intro hk1 (And.intro hk2 hk3)))))))))
 clear h1 h2 h3 h4 hp hq hb1 hk1 hk2 hk3
 obtain ⟨g,hg⟩:∃ g,g=p.den.gcd q.den:=⟨_,rfl⟩
 obtain ⟨ma,hma⟩:∃ ma,ma=p.den/g:=⟨_,rfl⟩
 obtain ⟨mb,hmb⟩:∃ mb,mb=q.den/g:=⟨_,rfl⟩
 obtain ⟨S,hS⟩:∃ S,S=p.num*mb+q.num*ma:=⟨_,rfl⟩
 obtain ⟨g0,ma0,mb0,ed1,ed2,hpq,hgcd⟩:=add_parts p q hg hma hmb hS
 have hgl:Lv 36 g:=H.out.2.2.2.2.1.2.le (by rw [hg];exact Nat.gcd_le_left _ p.den_pos)
 have hmal:Lv 36 ma:=H.out.2.2.2.2.1.2.le (by rw [hma];exact Nat.div_le_self _ _)
 have hmbl:Lv 36 mb:=H.out.2.2.2.2.2.1.2.le (by rw [hmb];exact Nat.div_le_self _ _)
 have hSl:Lv 38 S.natAbs:=by
  refine (Lv.add (H.out.2.2.2.2.1.1.mul hmbl) (H.out.2.2.2.2.2.1.1.mul hmal)).le ?_
  rw [hS]
  refine Nat.le_trans (Int.natAbs_add_le _ _) ?_
  rw [Int.natAbs_mul,Int.natAbs_mul,Int.natAbs_natCast,Int.natAbs_natCast]
  exact Nat.le_refl _
 have G:=Lib.hid (And.intro hg (And.intro hma (And.intro hmb (And.intro hS (And.intro g0 (And.intro hgl (And.intro hmal (And.intro hmbl hSl))))))))
 clear hg hma hmb hS g0 ma0 mb0 ed1 ed2 hpq hgcd hgl hmal hmbl hSl
 have hgn:=G.out.1
 go_enter Tryz.func146,Tryz.ntmps146
 go_wp2_with fail
 generalize ((w.alloc (.cells #[.bool (decide (p.num<0)),.slice A1 n1 c1,.slice A2 n2 c2] 105)).alloc (.cells #[.bool (decide (q.num<0)),.slice A3 n3 c3,.slice A4 n4 c4] 105)).alloc (.cells #[.bool false,.slice none 0 0,.slice none 0 0] 105)=w1 at *
 refine (gcd_any _ _ p.den q.den _ H.out.2.1 H.out.2.2.2.1 (H.out.2.2.2.2.1.2.mono (by omega)) (H.out.2.2.2.2.2.1.2.mono (by omega)) (.inl p.den_pos)).mono ?_
 rw [← hgn]
 clear hgn
 rintro e w2 ⟨vg,rfl,qg,b2⟩
 obtain ⟨Ag,kg,cg,rfl⟩:=qg.form
 have hA:=aL b2 H.out.2.2.2.2.2.2.2.1
 have hC:=aL b2 H.out.2.2.2.2.2.2.2.2.1
 obtain ⟨⟨u0,u1,u2⟩,_⟩:=dR hA
 obtain ⟨⟨u3,u4,u5⟩,_⟩:=dR hC
 have Q2:=Lib.hid (And.intro qg (And.intro b2 (And.intro hA hC)))
 clear qg b2 hA hC
 go_wp2_with fail
 refine (fQ (H.out.2.1.below Q2.out.2.1) Q2.out.1 (H.out.2.2.2.2.1.2.mono (by omega)) G.out.2.2.2.2.1).mono ?_
 rw [← G.out.2.1]
 rintro e w3 ⟨vm,x1,rfl,qm,qx,b3⟩
 obtain ⟨Am,km,cm,rfl⟩:=qm.form
 have hb3:=Below.step_trans Q2.out.2.1 b3
 have hA:=aL b3 Q2.out.2.2.1
 have hC:=aL b3 Q2.out.2.2.2
 clear u0 u1 u2 u3 u4 u5
 obtain ⟨⟨u0,u1,u2⟩,_⟩:=dR hA
 obtain ⟨⟨u3,u4,u5⟩,_⟩:=dR hC
 have Q3:=Lib.hid (And.intro qm (And.intro b3 (And.intro hb3 (And.intro hA hC))))
 obtain ⟨Ax1,kx1,cx1,rfl⟩:=qx.form
 clear qm b3 hb3 hA hC qx
 go_wp2_with fail
 refine (fQ (H.out.2.2.2.1.below Q3.out.2.2.1) (Q2.out.1.below Q3.out.2.1) (H.out.2.2.2.2.2.1.2.mono (by omega)) G.out.2.2.2.2.1).mono ?_
 rw [← G.out.2.2.1]
 rintro e w4 ⟨vn,x2,rfl,qn,qx,b4⟩
 obtain ⟨An,kn,cn,rfl⟩:=qn.form
 obtain ⟨Ax2,kx2,cx2,rfl⟩:=qx.form
 have hb4:=Below.step_trans Q3.out.2.2.1 b4
 have hA:=aL b4 Q3.out.2.2.2.1
 have hC:=aL b4 Q3.out.2.2.2.2
 have hR:=aL hb4 H.out.2.2.2.2.2.2.2.2.2
 clear u0 u1 u2 u3 u4 u5
 have Q4:=Lib.hid (And.intro qn (And.intro b4 (And.intro hb4 (And.intro (Q3.out.1.below b4) (And.intro hR (And.intro (Q2.out.1.below (Below.step_trans Q3.out.2.1 b4)) (Below.step_trans H.out.2.2.2.2.2.2.1 hb4)))))))
 clear qn b4 hb4 hR qx
 go_wp2_with fail
 have t1:∀ w',Base [] w4 w'→Calls Tryz.prog 131 #[.slice A1 n1 c1,.slice An kn cn] w' (TyPost w' (spNt (p.num.natAbs*mb))):=fun w' hB =>
  GivesNt.ty (nt_times (H.out.1.below (Below.step_trans Q4.out.2.2.1 hB.below)) (Q4.out.1.below hB.below) (H.out.2.2.2.2.1.1.mono (by omega)) (G.out.2.2.2.2.2.2.2.1.mono (by omega)))
 have t2:∀ w',Base [] w4 w'→Calls Tryz.prog 131 #[.slice A3 n3 c3,.slice Am km cm] w' (TyPost w' (spNt (q.num.natAbs*ma))):=fun w' hB =>
  GivesNt.ty (nt_times (H.out.2.2.1.below (Below.step_trans Q4.out.2.2.1 hB.below)) (Q4.out.2.2.2.1.below hB.below) (H.out.2.2.2.2.2.1.1.mono (by omega)) (G.out.2.2.2.2.2.2.1.mono (by omega)))
 have t3:∀ w' x y,Base [] w4 w'→Nt w' x (p.num.natAbs*mb)→Nt w' y (q.num.natAbs*ma)→Calls Tryz.prog 205 #[.bool (decide (p.num<0)),x,.bool (decide (q.num<0)),y] w' (TyPost w' (spSum S)):=fun w' x y hB hx hy=>by
  have:=sumOfSigned_any (decide (p.num<0)) (decide (q.num<0)) _ _ x y w' hx hy (((H.out.2.2.2.2.1.1).mul G.out.2.2.2.2.2.2.2.1).mono (by omega)) (((H.out.2.2.2.2.2.1.1).mul G.out.2.2.2.2.2.2.1).mono (by omega))
  rw [sg_mul,sg_mul,sg_of,sg_of,← G.out.2.2.2.1] at this
  exact this.mono fun e w'' ⟨neg,u,h1,h2,h3,h4⟩=>⟨_,h1,h4,neg,u,rfl,h2,h3⟩
 have T1:=Lib.hid t1
 have T2:=Lib.hid t2
 have T3:=Lib.hid t3
 clear t1 t2 t3
 refine wp_region_ty Ku [] (by kernel_rfl) (by kernel_rfl) ?_
 repeat (first|(apply bT (hg:=rfl);case h=>(intro A w' hB hk;simp [known,specOf,Kd.spec,Sp.is,isVar,Oper.looksAt,Op.operands,Call.operands,Act.eval] at hk;have c_hA:=aA (hB.blk hA (by first|(simp;done)|(simp;omega)));have c_hC:=aA (hB.blk hC (by first|(simp;done)|(simp;omega)));first|(simp [go_sem,hk,c_hA,c_hC];done)|(simp [go_sem,hk,c_hA,c_hC];rfl)|(simp [go_sem,c_hA,c_hC];rfl)))|(refine aW _ ?_ (by first|exact .inl rfl|exact .inr rfl) (by rfl) (by simp [specOf,Kd.spec];rfl) ?_ rfl ?_;(first|exact Sp.is_stable _ _|exact aK (fun _=>rfl) _|exact spTwo_stable (fun _=>rfl) _ _|exact spFr_stable (fun _=>rfl) _|exact spSum_stable (fun _=>rfl) _|exact spSgn_stable _ _|exact spNb_stable (fun _=>rfl) (fun _=>rfl) _|exact spVc_stable (fun _=>rfl) (fun _=>rfl) _)))
 refine aQ (spNt (p.num.natAbs*mb)) (aK (fun _=>rfl) _) rfl (fun A w' hB hk=>?_) ?_;(simp [known,specOf,Kd.spec,Sp.is,isVar,Oper.looksAt,Op.operands,Call.operands,Act.eval] at hk;have c_hA:=aA (hB.blk hA (by first|(simp;done)|(simp;omega)));simp [go_sem,hk,c_hA];refine aG ?_;exact T1.out _ hB)
 repeat (first|(apply bT (hg:=rfl);case h=>(intro A w' hB hk;simp [known,specOf,Kd.spec,Sp.is,isVar,Oper.looksAt,Op.operands,Call.operands,Act.eval] at hk;have c_hA:=aA (hB.blk hA (by first|(simp;done)|(simp;omega)));have c_hC:=aA (hB.blk hC (by first|(simp;done)|(simp;omega)));first|(simp [go_sem,hk,c_hA,c_hC];done)|(simp [go_sem,hk,c_hA,c_hC];rfl)|(simp [go_sem,c_hA,c_hC];rfl)))|(refine aW _ ?_ (by first|exact .inl rfl|exact .inr rfl) (by rfl) (by simp [specOf,Kd.spec];rfl) ?_ rfl ?_;(first|exact Sp.is_stable _ _|exact aK (fun _=>rfl) _|exact spTwo_stable (fun _=>rfl) _ _|exact spFr_stable (fun _=>rfl) _|exact spSum_stable (fun _=>rfl) _|exact spSgn_stable _ _|exact spNb_stable (fun _=>rfl) (fun _=>rfl) _|exact spVc_stable (fun _=>rfl) (fun _=>rfl) _)))
 refine aQ (spNt (q.num.natAbs*ma)) (aK (fun _=>rfl) _) rfl (fun A w' hB hk=>?_) ?_;(simp [known,specOf,Kd.spec,Sp.is,isVar,Oper.looksAt,Op.operands,Call.operands,Act.eval] at hk;have c_hA:=aA (hB.blk hA (by first|(simp;done)|(simp;omega)));simp [go_sem,hk,c_hA];refine aG ?_;exact T2.out _ hB)
 refine aQ (spSum S) (spSum_stable (fun _=>rfl) _) rfl (fun A w' hB hk=>?_) ?_;(simp [known,specOf,Kd.spec,Sp.is,isVar,Oper.looksAt,Op.operands,Call.operands,Act.eval] at hk;have c_hA:=aA (hB.blk hA (by first|(simp;done)|(simp;omega)));simp [go_sem,hk,c_hA];refine aG ?_;exact T3.out _ _ _ hB hk.2.1 hk.2.2.2)
 repeat (first|(apply bT (hg:=rfl);case h=>(intro A w' hB hk;simp [known,specOf,Kd.spec,Sp.is,isVar,Oper.looksAt,Op.operands,Call.operands,Act.eval] at hk;have c_hA:=aA (hB.blk hA (by first|(simp;done)|(simp;omega)));first|(simp [go_sem,hk,c_hA];done)|(simp [go_sem,hk,c_hA];rfl)|(simp [go_sem,c_hA];rfl)))|(refine aW _ ?_ (by first|exact .inl rfl|exact .inr rfl) (by rfl) (by simp [specOf,Kd.spec];rfl) ?_ rfl ?_;(first|exact Sp.is_stable _ _|exact aK (fun _=>rfl) _|exact spTwo_stable (fun _=>rfl) _ _|exact spFr_stable (fun _=>rfl) _|exact spSum_stable (fun _=>rfl) _|exact spSgn_stable _ _|exact spNb_stable (fun _=>rfl) (fun _=>rfl) _|exact spVc_stable (fun _=>rfl) (fun _=>rfl) _)))
 refine aQ (spSgn S) (spSgn_stable _ _) rfl (fun A w' hB hk=>?_) ?_;(simp [known,specOf,Kd.spec,Sp.is,isVar,Oper.looksAt,Op.operands,Call.operands,Act.eval] at hk;have c_hA:=aA (hB.blk hA (by first|(simp;done)|(simp;omega)));obtain ⟨neg,u,k1,k2,k3⟩:=hk;simp [go_sem,k1];exact tyUpon_value ⟨neg,rfl,k2⟩)
 refine aQ (spNt S.natAbs) (aK (fun _=>rfl) _) rfl (fun A w' hB hk=>?_) ?_;(simp [known,specOf,Kd.spec,Sp.is,isVar,Oper.looksAt,Op.operands,Call.operands,Act.eval] at hk;have c_hA:=aA (hB.blk hA (by first|(simp;done)|(simp;omega)));obtain ⟨neg,u,k1,k2,k3⟩:=hk;simp [go_sem,k1];exact tyUpon_value k3)
 repeat (first|(apply bT (hg:=rfl);case h=>(intro A w' hB hk;simp [known,specOf,Kd.spec,Sp.is,isVar,Oper.looksAt,Op.operands,Call.operands,Act.eval] at hk;have c_hA:=aA (hB.blk hA (by first|(simp;done)|(simp;omega)));first|(simp [go_sem,hk,c_hA];done)|(simp [go_sem,hk,c_hA];rfl)|(simp [go_sem,c_hA];rfl)))|(refine aW _ ?_ (by first|exact .inl rfl|exact .inr rfl) (by rfl) (by simp [specOf,Kd.spec];rfl) ?_ rfl ?_;(first|exact Sp.is_stable _ _|exact aK (fun _=>rfl) _|exact spTwo_stable (fun _=>rfl) _ _|exact spFr_stable (fun _=>rfl) _|exact spSum_stable (fun _=>rfl) _|exact spSgn_stable _ _|exact spNb_stable (fun _=>rfl) (fun _=>rfl) _|exact spVc_stable (fun _=>rfl) (fun _=>rfl) _)))
 refine ⟨by first|rfl|decide,fun f w2 hB hF hAp=>?_⟩;simp [Final1,Sp.is,isVar] at hF;simp only [frameOf]
 obtain ⟨y1,⟨neg,e10,hneg⟩,hF2⟩:=hF
 obtain ⟨As,ks,cs,e11⟩:=(show Nt _ _ _ from y1).form
 rw [e11] at y1
 have hA2:=hB.blk hA (by simp)
 have hC2:=hB.blk hC (by simp)
 have hR2:=hB.blk Q4.out.2.2.2.2.1 (by simp)
 have Y:=Lib.hid (And.intro (show Nt w2 _ _ from y1) (And.intro hneg (And.intro (Below.step_trans Q4.out.2.2.2.2.2.2 hB.below) (And.intro hR2 hB.below))))
 clear y1 hneg hA hC hA2 hC2 hR2 hB hAp
 by_cases z0:S.natAbs=0
 ·have hpq:p+q=0:=add_zero_parts G.out.1 G.out.2.1 G.out.2.2.1 G.out.2.2.2.1 z0
  have hz:decide (S.natAbs=0)=true:=by rw [decide_eq_true_eq];exact z0
  have HZ:=Lib.hid hpq
  clear hpq z0
  go_wp2_with fail
  refine (dT Y.out.1).mono ?_
  rintro e w' ⟨rfl,rfl⟩
  rw [hz]
  clear hz
  go_wp2_with fail
  refine (zero_any _).mono ?_
  rintro e w5 ⟨v1,rfl,⟨s1,s2,rfl,q1,q2⟩,b1⟩
  obtain ⟨E1,k1,m1,rfl⟩:=q1.form
  obtain ⟨E2,k2,m2,rfl⟩:=q2.form
  have hk:=aL b1 Y.out.2.2.2.1
  obtain ⟨⟨h0,h1,h2⟩,f0,f1,f2⟩:=dR hk
  have Q:=Lib.hid (And.intro q1 (And.intro q2 (And.intro b1 hk)))
  clear q1 q2 b1 hk
  go_wp2
  refine bodyPost_ret (v := .agg #[.bool (decide ((0:Rat).num<0)),.slice E1 k1 m1,.slice E2 k2 m2]) (by simp [results,Tryz.results146,go_sem,h0,h1,h2]) rfl ⟨_,rfl,?_,?_⟩
  ·rw [HZ.out]
   exact Fr.ext (K:=Ku) (fun _=>rfl) ⟨_,_,rfl,Q.out.1,Q.out.2.1⟩ (Ext.only (only3 _ _ _ _ _) Q.out.2.2.2 (by simp [hotObj,Ku]))
  ·repeat (first|exact (Below.step_trans Y.out.2.2.1 Q.out.2.2.1)|(refine Below.setCell ?_ (by first|omega|(simp;done)|(simp;omega)) _)|(refine Below.alloc ?_ (by first|omega|(simp;done)|(simp;omega)) _)|(refine Below.drew ?_)|exact Below.refl _ _)
 ·have hpar:=Parts.add G.out.1 G.out.2.1 G.out.2.2.1 G.out.2.2.2.1 Y.out.2.1 z0
  have hz:decide (S.natAbs=0)=false:=by rw [decide_eq_false_iff_not];exact z0
  obtain ⟨r,hr⟩:∃ r,r=S.natAbs.gcd g:=⟨_,rfl⟩
  rw [← hr] at hpar
  have hr0:0<r:=by rw [hr];exact Nat.gcd_pos_of_pos_right _ G.out.2.2.2.2.1
  have hrg:r≤g:=by rw [hr];exact Nat.gcd_le_right _ G.out.2.2.2.2.1
  have HZ:=Lib.hid (And.intro hpar (And.intro hr0 (And.intro hrg z0)))
  have HR:=Lib.hid hr
  clear hpar z0 hr0 hrg hr
  go_wp2_with fail
  refine (dT Y.out.1).mono ?_
  rintro e w' ⟨rfl,rfl⟩
  rw [hz]
  clear hz
  go_wp2_with fail
  refine (gcd_any _ _ S.natAbs g _ Y.out.1 (Q4.out.2.2.2.2.2.1.below Y.out.2.2.2.2) (G.out.2.2.2.2.2.2.2.2.mono (by omega)) (G.out.2.2.2.2.2.1.mono (by omega)) (.inr G.out.2.2.2.2.1)).mono ?_
  rw [← HR.out]
  rintro e w5 ⟨v5,rfl,q5,b5⟩
  obtain ⟨A5,k5,c5,rfl⟩:=q5.form
  have Q5:=Lib.hid (And.intro q5 b5)
  clear q5 b5
  go_wp2_with fail
  refine (fQ (Y.out.1.below Q5.out.2) Q5.out.1 (G.out.2.2.2.2.2.2.2.2.mono (by omega)) HZ.out.2.1).mono ?_
  rintro e w6 ⟨v6,x6,rfl,q6,qx,b6⟩
  obtain ⟨A6,k6,c6,rfl⟩:=q6.form
  obtain ⟨Ax6,kx6,cx6,rfl⟩:=qx.form
  have Q6:=Lib.hid (And.intro q6 b6)
  clear q6 b6 qx
  go_wp2_with fail
  refine (fQ (Q4.out.2.2.2.2.2.1.below (Below.step_trans Y.out.2.2.2.2 (Below.step_trans Q5.out.2 Q6.out.2))) (Q5.out.1.below Q6.out.2) (G.out.2.2.2.2.2.1.mono (by omega)) HZ.out.2.1).mono ?_
  rintro e w7 ⟨v7,x7,rfl,q7,qx,b7⟩
  obtain ⟨A7,k7,c7,rfl⟩:=q7.form
  obtain ⟨Ax7,kx7,cx7,rfl⟩:=qx.form
  have hb7:Below w4.heap.size w4 w7:=Below.step_trans Y.out.2.2.2.2 (Below.step_trans Q5.out.2 (Below.step_trans Q6.out.2 b7))
  have Q7:=Lib.hid (And.intro q7 (And.intro b7 hb7))
  clear q7 b7 qx hb7
  go_wp2_with fail
  refine (nt_times (Q4.out.2.2.2.1.below Q7.out.2.2) (Q4.out.1.below Q7.out.2.2) (G.out.2.2.2.2.2.2.1.mono (by omega)) (G.out.2.2.2.2.2.2.2.1.mono (by omega))).mono ?_
  rintro e w8 ⟨v8,rfl,q8,b8⟩
  obtain ⟨A8,k8,c8,rfl⟩:=q8.form
  have Q8:=Lib.hid (And.intro q8 b8)
  clear q8 b8
  go_wp2_with fail
  refine (nt_times Q8.out.1 (Q7.out.1.below Q8.out.2) ((G.out.2.2.2.2.2.2.1.mul G.out.2.2.2.2.2.2.2.1).mono (by omega)) ((G.out.2.2.2.2.2.1.le (Nat.div_le_self _ _)).mono (by omega))).mono ?_
  rintro e w9 ⟨v9,rfl,q9,b9⟩
  obtain ⟨A9,k9,c9,rfl⟩:=q9.form
  have hb9:Below w7.heap.size w7 w9:=Below.step_trans Q8.out.2 b9
  have hk:=aL (Below.step_trans Q7.out.2.2 hb9) Q4.out.2.2.2.2.1
  obtain ⟨⟨h0,h1,h2⟩,f0,f1,f2⟩:=dR hk
  have Q9:=Lib.hid (And.intro q9 (And.intro hb9 hk))
  clear q9 b9 hb9 hk
  go_wp2
  refine bodyPost_ret (v := .agg #[.bool neg,.slice A6 k6 c6,.slice A9 k9 c9]) (by simp [results,Tryz.results146,go_sem,h0,h1,h2]) rfl ⟨_,rfl,?_,?_⟩
  ·exact Fr.ext (K:=Ku) (fun _=>rfl) (Fr.of HZ.out.1 (Q6.out.1.below (Below.step_trans Q7.out.2.1 Q9.out.2.1)) Q9.out.1) (Ext.only (only3 _ _ _ _ _) Q9.out.2.2 (by simp [hotObj,Ku]))
  ·repeat (first|exact (Below.step_trans Q4.out.2.2.2.2.2.2 (Below.step_trans Q7.out.2.2 Q9.out.2.1))|(refine Below.setCell ?_ (by first|omega|(simp;done)|(simp;omega)) _)|(refine Below.alloc ?_ (by first|omega|(simp;done)|(simp;omega)) _)|(refine Below.drew ?_)|exact Below.refl _ _)
theorem alloc2 (w:World) (a b:Obj):((w.alloc a).alloc b).heap[w.heap.size]?=some a∧((w.alloc a).alloc b).heap[w.heap.size+1]?=some b∧Below w.heap.size w ((w.alloc a).alloc b):=by
 have h2:Below (w.alloc a).heap.size (w.alloc a) ((w.alloc a).alloc b):=(Below.refl _ _).alloc (Nat.le_refl _) _
 refine ⟨aL h2 (heap_alloc_new w a),?_,((Below.refl _ _).alloc (Nat.le_refl _) _).alloc (by simp) _⟩
 have:=heap_alloc_new (w.alloc a) b;simpa using this
def Mach (a:Int):Prop := -9223372036854775807≤a∧a≤9223372036854775807
def M63:Nat:=9223372036854775807
theorem eS:M63=9223372036854775807:=rfl
theorem fB (a:Int) (w:World) (h1:-9223372036854775808≤a) (h2:a≤9223372036854775807):Calls Tryz.prog 139 #[.int .i64 a] w fun e w'=>e = .returned (.int .u64 ((a.natAbs:Nat):Int))∧w=w':=by
 by_cases hn:a<0
 ·have e1:IntKind.u64.wrap (-IntKind.u64.wrap a)=((a.natAbs:Nat):Int):=by rw [IntKind.wrap_u64,IntKind.wrap_u64];omega
  have H:=Lib.hid hn
  go_enter Tryz.func139,Tryz.ntmps139
  go_wp2
  go_ret
  exact ⟨rfl,rfl⟩
 ·have e1:((a.natAbs:Nat):Int)=a:=by omega
  have h0:0≤a:=by omega
  rw [e1]
  clear e1
  go_enter Tryz.func139,Tryz.ntmps139
  go_wp2
  go_ret
  exact ⟨rfl,rfl⟩
def GivesOk (w:World) (z bad:Int) (e:Ending) (w' : World):Prop := ∃ (r:Int) (ok:Bool),e = .returned (.tuple #[.int .i64 r,.bool ok])∧(ok=true→r=z∧Mach z)∧(ok=false→r=bad∧¬ Mach z)∧Below w.heap.size w w'
theorem GivesOk.yes {P:Program} {f:FuncId} {args:Array Value} {w:World} {z bad:Int} (h:Calls P f args w (GivesOk w z bad)) (hm:Mach z):Calls P f args w (Gives w (.tuple #[.int .i64 z,.bool true])):=h.mono fun e w' ⟨r,ok,h1,h2,h3,h4⟩=>by
 cases ok
 ·exact absurd hm (h3 rfl).2
 ·exact ⟨by rw [h1,(h2 rfl).1],h4⟩
theorem GivesOk.no {P:Program} {f:FuncId} {args:Array Value} {w:World} {z bad:Int} (h:Calls P f args w (GivesOk w z bad)) (hm:¬ Mach z):Calls P f args w (Gives w (.tuple #[.int .i64 bad,.bool false])):=h.mono fun e w' ⟨r,ok,h1,h2,h3,h4⟩=>by
 cases ok
 ·exact ⟨by rw [h1,(h3 rfl).1],h4⟩
 ·exact absurd (h2 rfl).2 hm
theorem small_any (n d:Int) (w:World) (h1:1≤d) (h2:d≤9223372036854775807):Calls Tryz.prog 99 #[.int .i64 n,.int .i64 d] w (Gives w (.agg #[.int .i64 n,.int .i64 (d-1),.pointer none])):=by
 go_enter Tryz.func99,Tryz.ntmps99
 go_wp2
 refine bodyPost_ret (v := .agg #[.int .i64 n,.int .i64 (d-1),.pointer none]) (by simp [results,Tryz.results99,go_sem]) rfl ⟨rfl,?_⟩
 repeat (first|exact Below.refl _ _|(refine Below.setCell ?_ (by first|omega|(simp;done)|(simp;omega)) _)|(refine Below.alloc ?_ (by first|omega|(simp;done)|(simp;omega)) _)|(refine Below.drew ?_)|exact Below.refl _ _)
theorem den_any (n d:Int) (p:Option Addr) (w:World) (h1:0≤d) (h2:d≤9223372036854775806):Calls Tryz.prog 100 #[.agg #[.int .i64 n,.int .i64 d,.pointer p]] w (Gives w (.int .i64 (d+1))):=by
 go_enter Tryz.func100,Tryz.ntmps100
 go_wp2
 go_ret
 refine ⟨rfl,?_⟩
 repeat (first|exact Below.refl _ _|(refine Below.setCell ?_ (by first|omega|(simp;done)|(simp;omega)) _)|(refine Below.alloc ?_ (by first|omega|(simp;done)|(simp;omega)) _)|(refine Below.drew ?_)|exact Below.refl _ _)
set_option maxHeartbeats 1000000 in
theorem isMachine_any (v:Value) (a:Nat) (w:World) (h:Nt w v a):Calls Tryz.prog 133 #[v] w fun e w'=>e = .returned (.bool (decide (a≤M63)))∧w=w':=by
 have H:=Lib.hid h
 obtain ⟨A,n,c,xs,rfl,hr,hd,hno,hval⟩:=h
 have hnc:n≤c:=hr.cap
 have hcm:c≤9223372036854775807:=hr.2.2.1
 by_cases h1:n≤1
 ·have hsmall:a<aD:=by
   rw [← hval]
   have:=bV hd
   rw [hr.len] at this
   exact Nat.lt_of_lt_of_le this (Nat.le_trans (Nat.pow_le_pow_right bD h1) (by rw [Nat.pow_one];exact Nat.le_refl _))
  clear hr hd hno hval
  by_cases hm:a≤M63
  ·have hi:(a:Int)≤9223372036854775807:=by rw [eS] at hm;omega
   have hz:decide (a≤M63)=true:=by rw [decide_eq_true_eq];exact hm
   rw [hz]
   have HS:=Lib.hid hsmall
   clear hm hz hsmall
   go_enter Tryz.func133,Tryz.ntmps133
   go_wp2_with (go_at_call 134;refine (nt_low H.out).mono ?_;rw [Nat.mod_eq_of_lt HS.out];rintro e w' ⟨rfl,rfl⟩)
   go_ret
   exact ⟨rfl,rfl⟩
  ·have hi:¬ (a:Int)≤9223372036854775807:=by rw [eS] at hm;omega
   have hz:decide (a≤M63)=false:=by rw [decide_eq_false_iff_not];exact hm
   rw [hz]
   have HS:=Lib.hid hsmall
   clear hm hz hsmall
   go_enter Tryz.func133,Tryz.ntmps133
   go_wp2_with (go_at_call 134;refine (nt_low H.out).mono ?_;rw [Nat.mod_eq_of_lt HS.out];rintro e w' ⟨rfl,rfl⟩)
   go_ret
   exact ⟨ret_bool (by simpa using hi),rfl⟩
 ·have hz:decide (a≤M63)=false:=by
   rw [decide_eq_false_iff_not]
   intro hm
   have:=aV eO hno (L:=1) (by rw [hval,Nat.pow_one,aH];rw [eS] at hm;omega)
   rw [hr.len] at this
   omega
  rw [hz]
  clear hr hd hno hval hz
  go_enter Tryz.func133,Tryz.ntmps133
  go_wp2
  go_ret
  exact ⟨rfl,rfl⟩
set_option maxHeartbeats 2000000 in
theorem productOf_any (a b:Int) (w:World) (ha:Mach a) (hb:Mach b):Calls Tryz.prog 204 #[.int .i64 a,.int .i64 b] w (GivesOk w (a*b) 0):=by
 obtain ⟨ha1,ha2⟩:=ha
 obtain ⟨hb1,hb2⟩:=hb
 have hal:a.natAbs<aD:=by rw [aH];omega
 have hbl:b.natAbs<aD:=by rw [aH];omega
 obtain ⟨hi,hhi⟩:∃ hi:Nat,hi=a.natAbs*b.natAbs/aD:=⟨_,rfl⟩
 obtain ⟨lo,hlo⟩:∃ lo:Nat,lo=a.natAbs*b.natAbs%aD:=⟨_,rfl⟩
 have hmul:=Lib.hid (fun w=>(Tryz.bits_Mul64 a.natAbs b.natAbs hal hbl w).mono (fun e w' h=>(show e = .returned (.tuple #[.int .u64 (hi:Int),.int .u64 (lo:Int)])∧w=w' from ⟨by rw [h.1,hhi,hlo];rfl,h.2.symm⟩)))
 have hdm:=Nat.div_add_mod (a.natAbs*b.natAbs) aD
 rw [← hhi,← hlo] at hdm
 have hll:lo<aD:=by rw [hlo];exact Nat.mod_lt _ bD
 have HH:=Lib.hid (And.intro hdm hll)
 have hlob:(lo:Int)≤18446744073709551615:=by rw [aH] at hll;omega
 have hhib:(0:Int)≤hi:=by omega
 have hab:∀ r:Nat,hi=0→a.natAbs*b.natAbs=lo:=fun _ h=>by
  have:=HH.out.1
  rw [h,Nat.mul_zero,Nat.zero_add] at this
  exact this.symm
 have HAB:=Lib.hid hab
 have hnm:(hi≠0∨¬ (lo:Int)≤9223372036854775807)→¬ Mach (a*b):=fun h hm=>by
  have e1:=Int.natAbs_mul a b
  have e2:=HH.out.1
  rw [← e1] at e2
  obtain ⟨m1,m2⟩:=hm
  have h3:(a*b).natAbs≤9223372036854775807:=by omega
  generalize (a*b).natAbs=X at *
  rw [aH] at e2
  omega
 have HNM:=Lib.hid hnm
 clear hal hbl hhi hlo hdm hll hab hnm
 by_cases hi0:hi=0
 ·have hal:a.natAbs*b.natAbs=lo:=HAB.out 0 hi0
  subst hi0
  have hz0:(((0:Nat):Int) != 0)=false:=by simp
  by_cases hl:(lo:Int)≤9223372036854775807
  ·have e1:IntKind.i64.wrap (lo:Int)=lo:=by rw [IntKind.wrap_i64];omega
   have hpr:(a<0∧b<0→a*b=lo)∧(¬ a<0∧¬ b<0→a*b=lo)∧(a<0∧¬ b<0→a*b = -(lo:Int))∧(¬ a<0∧b<0→a*b = -(lo:Int)):=by
    rw [← hal]
    push_cast
    refine ⟨fun ⟨h1,h2⟩=>?_,fun ⟨h1,h2⟩=>?_,fun ⟨h1,h2⟩=>?_,fun ⟨h1,h2⟩=>?_⟩
    ·rw [show ((a.natAbs:Nat):Int) = -a from by omega,show ((b.natAbs:Nat):Int) = -b from by omega,Int.neg_mul_neg]
    ·rw [show ((a.natAbs:Nat):Int)=a from by omega,show ((b.natAbs:Nat):Int)=b from by omega]
    ·rw [show ((a.natAbs:Nat):Int) = -a from by omega,show ((b.natAbs:Nat):Int)=b from by omega,Int.neg_mul,Int.neg_neg]
    ·rw [show ((a.natAbs:Nat):Int)=a from by omega,show ((b.natAbs:Nat):Int) = -b from by omega,Int.mul_neg,Int.neg_neg]
   have HP:=Lib.hid hpr
   clear hpr hal
   have hout:∀ r:Int,r=a*b→(r=lo∨r = -(lo:Int))→GivesOk w (a*b) 0 (.returned (.tuple #[.int .i64 r,.bool true])) w:=fun r h1 h2 =>
    ⟨r,true,rfl,fun _=>⟨h1,by unfold Mach;rw [← h1];omega⟩,fun h=>by (cases h),Below.refl _ _⟩
   have HO:=Lib.hid hout
   clear hout
   obtain ⟨s1,hs1⟩:∃ s,decide (a<0)=s:=⟨_,rfl⟩
   obtain ⟨s2,hs2⟩:∃ s,decide (b<0)=s:=⟨_,rfl⟩
   have hn1:=Lib.hid hs1
   have hn2:=Lib.hid hs2
   cases s1 <;> cases s2
   all_goals
    go_enter Tryz.func204,Tryz.ntmps204
    go_wp2_with (first
     | (go_at_call 139;refine (fB _ _ (by omega) (by omega)).mono ?_;rintro e w' ⟨rfl,rfl⟩)
     | (go_at_call 220;refine (hmul.out _).mono ?_;rintro e w' ⟨rfl,rfl⟩))
    go_ret2
    first
     | exact HO.out _ (HP.out.1 ⟨by have:=hn1.out;simpa using this,by have:=hn2.out;simpa using this⟩).symm (.inl rfl)
     | exact HO.out _ (HP.out.2.1 ⟨by have:=hn1.out;simpa using this,by have:=hn2.out;simpa using this⟩).symm (.inl rfl)
     | exact HO.out _ (HP.out.2.2.1 ⟨by have:=hn1.out;simpa using this,by have:=hn2.out;simpa using this⟩).symm (.inr rfl)
     | exact HO.out _ (HP.out.2.2.2 ⟨by have:=hn1.out;simpa using this,by have:=hn2.out;simpa using this⟩).symm (.inr rfl)
  ·clear hal
   go_enter Tryz.func204,Tryz.ntmps204
   go_wp2_with (first
    | (go_at_call 139;refine (fB _ _ (by omega) (by omega)).mono ?_;rintro e w' ⟨rfl,rfl⟩)
    | (go_at_call 220;refine (hmul.out _).mono ?_;rintro e w' ⟨rfl,rfl⟩))
   go_ret2
   exact ⟨0,false,rfl,fun h=>by (cases h),fun _=>⟨rfl,HNM.out (by omega)⟩,Below.refl _ _⟩
 ·have hz1:((hi:Int) != 0)=true:=by simp;omega
  go_enter Tryz.func204,Tryz.ntmps204
  go_wp2_with (first
   | (go_at_call 139;refine (fB _ _ (by omega) (by omega)).mono ?_;rintro e w' ⟨rfl,rfl⟩)
   | (go_at_call 220;refine (hmul.out _).mono ?_;rintro e w' ⟨rfl,rfl⟩))
  go_ret2
  exact ⟨0,false,rfl,fun h=>by (cases h),fun _=>⟨rfl,HNM.out (by omega)⟩,Below.refl _ _⟩
set_option maxHeartbeats 4000000 in
theorem sumOf_any (a b:Int) (w:World) (ha:Mach a) (hb:Mach b):Calls Tryz.prog 202 #[.int .i64 a,.int .i64 b] w (GivesOk w (a+b) (IntKind.i64.wrap (a+b))):=by
 obtain ⟨s,hs⟩:∃ s,IntKind.i64.wrap (a+b)=s:=⟨_,rfl⟩
 have hsv:s=(a+b+9223372036854775808)%18446744073709551616-9223372036854775808:=by rw [← hs,IntKind.wrap_i64]
 obtain ⟨s1,hs1⟩:∃ s1,decide (a<0)=s1:=⟨_,rfl⟩
 obtain ⟨s2,hs2⟩:∃ s2,decide (b<0)=s2:=⟨_,rfl⟩
 obtain ⟨s3,hs3⟩:∃ s3,decide (s<0)=s3:=⟨_,rfl⟩
 obtain ⟨s4,hs4⟩:∃ s4,(s != -9223372036854775808)=s4:=⟨_,rfl⟩
 have H:=Lib.hid (And.intro ha (And.intro hb (And.intro hsv (And.intro hs1 (And.intro hs2 (And.intro hs3 hs4))))))
 rw [hs]
 have hout:∀ ok:Bool,ok=((s1 != s2 || s3==s1)&&s4)→GivesOk w (a+b) s (.returned (.tuple #[.int .i64 s,.bool ok])) w:=fun ok hok=>by
  obtain ⟨⟨a1,a2⟩,⟨b1,b2⟩,hsv,hs1,hs2,hs3,hs4⟩:=H.out
  have key:((s1 != s2 || s3==s1)&&s4)=true↔s=a+b∧Mach (a+b):=by
   unfold Mach
   cases s4
   ·have h4:s = -9223372036854775808:=by simpa using hs4
    simp
    omega
   ·have h4:s≠-9223372036854775808:=by simpa using hs4
    cases s1 <;> cases s2 <;> cases s3 <;> simp at hs1 hs2 hs3 ⊢ <;> omega
  refine ⟨s,ok,rfl,fun h=>key.1 (by rw [← hok,h]),fun h=>⟨rfl,fun hm=>?_⟩,Below.refl _ _⟩
  have hsm:s=a+b:=by obtain ⟨m1,m2⟩:=hm;omega
  have:=key.2 ⟨hsm,hm⟩
  rw [← hok,h] at this
  cases this
 have HO:=Lib.hid hout
 clear ha hb hsv hout
 cases s1 <;> cases s2 <;> cases s3 <;> cases s4
 all_goals
  go_enter Tryz.func202,Tryz.ntmps202
  go_wp2
  go_ret2
  exact HO.out _ (by decide)
def coIs (o:Obj):Obj→World→Prop:=fun o' _=>o'=o
theorem coIs_stable (K:Value→Bool) (o:Obj):StableO K (coIs o):=fun _ _ _ h _=>h
def smV (n d:Int):Value := .agg #[.int .i64 n,.int .i64 (d-1),.pointer none]
set_option maxRecDepth 100000 in
set_option maxHeartbeats 4000000 in
theorem lowest_raw (n d:Int) (g:Nat) (w:World) (hn1:-9223372036854775808≤n) (hn2:n≤9223372036854775807) (hd1:1≤d) (hd2:d≤9223372036854775807) (hg:g=Nat.gcd d.natAbs n.natAbs) :
 Calls Tryz.prog 203 #[.int .i64 n,.int .i64 d] w (Gives w (smV (n/g) (d/g))):=by
 by_cases h1:d=1
 ·subst h1
  have:g=1:=by rw [hg];simp
  subst this
  unfold smV
  rw [show ((1:Nat):Int)=1 from rfl,Int.ediv_one,Int.ediv_one,Int.sub_self]
  clear hg
  go_enter Tryz.func203,Tryz.ntmps203
  go_wp2
  refine bodyPost_ret (v := .agg #[.int .i64 n,.int .i64 0,.pointer none]) (by simp [results,Tryz.results203,go_sem]) rfl ⟨rfl,?_⟩
  repeat (first|exact Below.refl _ _|(refine Below.setCell ?_ (by first|omega|(simp;done)|(simp;omega)) _)|(refine Below.alloc ?_ (by first|omega|(simp;done)|(simp;omega)) _)|(refine Below.drew ?_)|exact Below.refl _ _)
 ·have hz:(d==1)=false:=by simpa using h1
  have hg0:0<g:=by rw [hg];exact Nat.gcd_pos_of_pos_left _ (by omega)
  have hgd:g ∣ d.natAbs:=by rw [hg];exact Nat.gcd_dvd_left _ _
  have hgn:g ∣ n.natAbs:=by rw [hg];exact Nat.gcd_dvd_right _ _
  have hgle:g≤d.natAbs:=Nat.le_of_dvd (by omega) hgd
  have hcw:(d.natAbs:Int)=d:=by omega
  have hw1:IntKind.u64.wrap d=((d.natAbs:Nat):Int):=by rw [IntKind.wrap_u64];omega
  have hw2:IntKind.i64.wrap (g:Int)=g:=by rw [IntKind.wrap_i64];omega
  have hgz:¬ (g=0):=by omega
  obtain ⟨q1,hq1⟩:∃ q1,q1=n/(g:Int):=⟨_,rfl⟩
  obtain ⟨q2,hq2⟩:∃ q2,q2=d/(g:Int):=⟨_,rfl⟩
  have dn:(g:Int) ∣ n:=Int.ofNat_dvd_left.2 hgn
  have dd:(g:Int) ∣ d:=Int.ofNat_dvd_left.2 hgd
  have ht1:n.tdiv (g:Int)=q1:=by rw [hq1];exact Int.tdiv_eq_ediv_of_dvd dn
  have ht2:d.tdiv (g:Int)=q2:=by rw [hq2];exact Int.tdiv_eq_ediv_of_dvd dd
  have m1:q1*g=n:=by rw [hq1];exact Int.ediv_mul_cancel dn
  have m2:q2*g=d:=by rw [hq2];exact Int.ediv_mul_cancel dd
  have r2:1≤q2∧q2≤9223372036854775807:=by
   have:q2≤d:=by rw [hq2];exact Int.ediv_le_self _ (by omega)
   refine ⟨?_,by omega⟩
   rw [hq2]
   exact (Int.le_ediv_iff_mul_le (by omega)).2 (by omega)
  have r1:-9223372036854775808≤q1∧q1≤9223372036854775807:=by
   have h1:q1.natAbs≤n.natAbs:=by
    rw [← m1,Int.natAbs_mul]
    exact Nat.le_mul_of_pos_right _ (by simpa using hg0)
   have h2:n<0→q1<0:=fun h=>by
    apply Int.not_le.1
    intro h3
    have:=Int.mul_nonneg h3 (show (0:Int)≤g by omega)
    omega
   have h3:0≤n→0≤q1:=fun h=>by rw [hq1];exact Int.ediv_nonneg h (by omega)
   omega
  have w1:IntKind.i64.wrap q1=q1:=by rw [IntKind.wrap_i64];omega
  have w2:IntKind.i64.wrap q2=q2:=by rw [IntKind.wrap_i64];omega
  rw [← hq1,← hq2]
  have hgl:d.natAbs<aD:=by rw [aH];omega
  have hnl:n.natAbs<aD:=by rw [aH];omega
  have hgc:=fun w=>gcdWords_any d.natAbs n.natAbs w hgl hnl
  rw [← hg] at hgc
  have HG:=Lib.hid hgc
  have HQ:=Lib.hid (And.intro ht1 (And.intro ht2 (And.intro r1 (And.intro r2 (And.intro w1 w2)))))
  clear hg0 hgd hgn hgle hq1 hq2 dn dd ht1 ht2 m1 m2 r1 r2 w1 w2 hgl hnl hgc hg hcw h1
  go_enter Tryz.func203,Tryz.ntmps203
  go_wp2_with fail
  refine (fB n _ hn1 hn2).mono ?_
  rintro e w' ⟨rfl,rfl⟩
  go_wp2_with fail
  refine (HG.out _).mono ?_
  rintro e w3 ⟨rfl,b3⟩
  have hR:=aL b3 (heap_alloc_new w _)
  have B3:=Lib.hid (Below.step_trans ((Below.refl w.heap.size w).alloc (Nat.le_refl _) _) b3)
  clear b3
  have t1:∀ w',Calls Tryz.prog 99 #[.int .i64 q1,.int .i64 q2] w' (TyPost w' (Sp.is (smV q1 q2))):=fun w'=>Gives.ty (small_any q1 q2 w' HQ.out.2.2.2.1.1 HQ.out.2.2.2.1.2)
  have T1:=Lib.hid t1
  clear t1
  go_wp2_with fail
  have k1:=HQ.out.1
  have k2:=HQ.out.2.1
  have k3:=HQ.out.2.2.2.2.1
  have k4:=HQ.out.2.2.2.2.2
  refine wp_region_ty Kn [w.heap.size] (by kernel_rfl) (by kernel_rfl) ?_
  repeat (first|(apply bT (hg:=rfl);case h=>(intro A w' hB hk;simp [known,specOf,Kd.spec,Sp.is,isVar,Oper.looksAt,Op.operands,Call.operands,Act.eval] at hk;first|(simp [go_sem,hk,hgz,k1,k2,k3,k4];done)|(simp [go_sem,hk,hgz,k1,k2,k3,k4];rfl)|(simp [go_sem,hgz,k1,k2,k3,k4];rfl)))|(refine aW _ ?_ (by first|exact .inl rfl|exact .inr rfl) (by rfl) (by simp [specOf,Kd.spec];rfl) ?_ rfl ?_;(first|exact Sp.is_stable _ _|exact aK (fun _=>rfl) _|exact spTwo_stable (fun _=>rfl) _ _|exact spFr_stable (fun _=>rfl) _|exact spSum_stable (fun _=>rfl) _|exact spSgn_stable _ _|exact spNb_stable (fun _=>rfl) (fun _=>rfl) _|exact spVc_stable (fun _=>rfl) (fun _=>rfl) _)))
  refine aQ (Sp.is (smV q1 q2)) (Sp.is_stable _ _) rfl (fun A w' hB hk=>?_) ?_;(simp [known,specOf,Kd.spec,Sp.is,isVar,Oper.looksAt,Op.operands,Call.operands,Act.eval] at hk;simp [go_sem,hk];refine aG ?_;exact T1.out _)
  refine ty_old (w.heap.size) (_) (coIs (.cells #[.int .i64 q1,.int .i64 (q2-1),.pointer none] 67 (0,0))) (coIs_stable _ _) rfl rfl (by simp) (by assumption) (by simp [hotObj,Ku,Kn]) (fun A w' hB hk h0=>?_) ?_;(simp [known,specOf,Kd.spec,Sp.is,isVar,Oper.looksAt,Op.operands,Call.operands,Act.eval] at hk;have c0:=aA h0;have f0:=aY h0;rw [smV] at hk;simp [go_sem,hk,c0,f0];exact ⟨_,eQ h0 _ _ _,rfl⟩)
  refine ⟨by first|rfl|decide,fun f w2 hB hF hAp=>?_⟩;simp [Final1,Sp.is,isVar] at hF;simp only [frameOf]
  obtain ⟨o,rfl,ho⟩:=hF.1
  obtain ⟨⟨r0,r1,r2⟩,_⟩:=dR ho
  have K:=Lib.hid hB
  clear hB ho hAp hF
  go_wp2
  refine bodyPost_ret (v := .agg #[.int .i64 q1,.int .i64 (q2-1),.pointer none]) (by simp [results,Tryz.results203,go_sem,r0,r1,r2,Act.put]) rfl ⟨rfl,?_⟩
  exact Base.belowT K.out B3.out (Nat.le_refl _)
def Sm (q:Rat):Prop:=q.num.natAbs≤M63∧q.den≤M63
def Nb (w:World) (v:Value) (q:Rat):Prop :=
 (Sm q∧v=smV q.num q.den) ∨
 (¬ Sm q∧∃ g s1 s2,v = .agg #[.int .i64 0,.int .i64 0,.pointer (some ⟨g,0,none⟩)]∧w.heap[g]?=some (.cells #[.bool (decide (q.num<0)),s1,s2] 105 (0,0))∧Nt w s1 q.num.natAbs∧Nt w s2 q.den)
theorem Nb.below {w w' : World} {v:Value} {q:Rat} (h:Nb w v q) (hb:Below w.heap.size w w'):Nb w' v q:=by
 rcases h with h|⟨h,g,s1,s2,e,hk,h1,h2⟩
 ·exact .inl h
 ·exact .inr ⟨h,g,s1,s2,e,aL hb hk,h1.below hb,h2.below hb⟩
theorem Nb.ext {K:Value→Bool} (hK:∀ x,K (.int .u64 x)=true) (hK2:∀ b,K (.bool b)=true) {w w' : World} {v:Value} {q:Rat} (h:Nb w v q) (hx:Ext K w w'):Nb w' v q:=by
 rcases h with h|⟨h,g,s1,s2,e,hk,h1,h2⟩
 ·exact .inl h
 ·exact .inr ⟨h,g,s1,s2,e,hx.block g _ hk (by simp [hotObj,hK2]),h1.ext hK hx,h2.ext hK hx⟩
def spNb (q:Rat):Sp:=fun v w=>Nb w v q
theorem spNb_stable {K:Value→Bool} (hK:∀ x,K (.int .u64 x)=true) (hK2:∀ b,K (.bool b)=true) (q:Rat):Stable K (spNb q):=fun _ _ _ h hx=>Nb.ext hK hK2 h hx
def GivesNb (w:World) (q:Rat) (e:Ending) (w' : World):Prop := ∃ v,e = .returned v∧Nb w' v q∧Below w.heap.size w w'
theorem GivesNb.ty {P:Program} {f:FuncId} {args:Array Value} {w:World} {q:Rat} (h:Calls P f args w (GivesNb w q)):Calls P f args w (TyPost w (spNb q)) :=
 h.mono fun _ _ ⟨v,h1,h2,h3⟩=>⟨v,h1,h3,h2⟩
theorem Nb.form {w:World} {v:Value} {q:Rat} (h:Nb w v q):∃ n d p,v = .agg #[.int .i64 n,.int .i64 d,.pointer p]:=by
 rcases h with ⟨_,rfl⟩|⟨_,g,s1,s2,rfl,_⟩
 ·exact ⟨_,_,_,rfl⟩
 ·exact ⟨_,_,_,rfl⟩
def coNb (q:Rat):Obj→World→Prop:=fun o w => ∃ n d p,o = .cells #[.int .i64 n,.int .i64 d,.pointer p] 67 (0,0)∧Nb w (.agg #[.int .i64 n,.int .i64 d,.pointer p]) q
theorem eL {K:Value→Bool} (hK:∀ x,K (.int .u64 x)=true) (hK2:∀ b,K (.bool b)=true) (q:Rat):StableO K (coNb q):=fun _ _ _ ⟨n,d,p,e,h⟩ hx=>⟨n,d,p,e,h.ext hK hK2 hx⟩
theorem sm_den {q:Rat} (h:Sm q):1≤(q.den:Int)∧(q.den:Int)≤9223372036854775807:=by
 have:=q.den_pos
 have h2:=h.2
 rw [eS] at h2
 omega
theorem sm_num {q:Rat} (h:Sm q):Mach q.num:=by
 have h2:=h.1
 rw [eS] at h2
 unfold Mach
 omega
set_option maxRecDepth 100000 in
set_option maxHeartbeats 8000000 in
theorem fH (v:Value) (q:Rat) (w:World) (h:Fr w v q):Calls Tryz.prog 65 #[v] w (GivesNb w q):=by
 obtain ⟨s1,s2,rfl,h1,h2⟩:=h
 obtain ⟨A1,n1,c1,rfl⟩:=h1.form
 obtain ⟨A2,n2,c2,rfl⟩:=h2.form
 obtain ⟨neg,hneg⟩:∃ neg,decide (q.num<0)=neg:=⟨_,rfl⟩
 rw [hneg]
 obtain ⟨hk1,hk2,hb1⟩:=alloc2 w (.cells #[.bool neg,.slice A1 n1 c1,.slice A2 n2 c2] 105) (.cells #[.int .i64 0,.int .i64 0,.pointer none] 67)
 have H:=Lib.hid (And.intro (h1.below hb1) (And.intro (h2.below hb1) (And.intro hb1 (And.intro hk1 (And.intro hk2 hneg)))))
 have HW:=Lib.hid (And.intro h1 h2)
 have hm1:∀ w',Below w.heap.size w w'→Calls Tryz.prog 133 #[.slice A1 n1 c1] w' fun e w''=>e = .returned (.bool (decide (q.num.natAbs≤M63)))∧w'=w'':=fun w' hb=>isMachine_any _ _ _ (h1.below hb)
 have hm2:∀ w',Below w.heap.size w w'→Calls Tryz.prog 133 #[.slice A2 n2 c2] w' fun e w''=>e = .returned (.bool (decide (q.den≤M63)))∧w'=w'':=fun w' hb=>isMachine_any _ _ _ (h2.below hb)
 have HM:=Lib.hid (And.intro hm1 hm2)
 clear h1 h2 hb1 hk1 hk2 hneg hm1 hm2
 by_cases hs:Sm q
 ·have z1:decide (q.num.natAbs≤M63)=true:=by rw [decide_eq_true_eq];exact hs.1
  have z2:decide (q.den≤M63)=true:=by rw [decide_eq_true_eq];exact hs.2
  rw [z1,z2] at HM
  have l1:q.num.natAbs%aD=q.num.natAbs:=Nat.mod_eq_of_lt (by have:=hs.1;rw [eS] at this;rw [aH];omega)
  have l2:q.den%aD=q.den:=Nat.mod_eq_of_lt (by have:=hs.2;rw [eS] at this;rw [aH];omega)
  have w1:IntKind.i64.wrap ((q.num.natAbs:Nat):Int)=((q.num.natAbs:Nat):Int):=by have:=hs.1;rw [eS] at this;rw [IntKind.wrap_i64];omega
  have w2:IntKind.i64.wrap ((q.den:Nat):Int)=(q.den:Int):=by have:=hs.2;rw [eS] at this;rw [IntKind.wrap_i64];omega
  have hd:=sm_den hs
  have hbn:((q.num.natAbs:Nat):Int)≤9223372036854775807:=by have:=hs.1;rw [eS] at this;omega
  have HS:=Lib.hid (And.intro hs (And.intro l1 (And.intro l2 hd)))
  obtain ⟨N,hN⟩:∃ N:Nat,N=q.num.natAbs:=⟨_,rfl⟩
  obtain ⟨D,hD⟩:∃ D:Nat,D=q.den:=⟨_,rfl⟩
  rw [← hN] at w1 hbn
  rw [← hD] at w2
  have hd2:(D:Int)≤9223372036854775807:=by rw [hD];exact hd.2
  have hd1:(1:Int)≤D:=by rw [hD];exact hd.1
  have HND:=Lib.hid (And.intro hN hD)
  clear z1 z2 hs l1 l2 hd hN hD
  cases neg
  ·go_enter Tryz.func65,Tryz.ntmps65
   go_wp2_with fail
   refine (HM.out.1 _ H.out.2.2.1).mono ?_
   rintro e w' ⟨rfl,rfl⟩
   go_wp2_with fail
   refine (HM.out.2 _ H.out.2.2.1).mono ?_
   rintro e w' ⟨rfl,rfl⟩
   go_wp2_with fail
   refine (nt_low H.out.1).mono ?_
   rw [HS.out.2.1,← HND.out.1]
   rintro e w' ⟨rfl,rfl⟩
   go_wp2_with fail
   refine (nt_low H.out.2.1).mono ?_
   rw [HS.out.2.2.1,← HND.out.2]
   rintro e w' ⟨rfl,rfl⟩
   go_wp2_with fail
   refine (small_any _ _ _ hd1 hd2).mono ?_
   rintro e w3 ⟨rfl,b3⟩
   have hk:=aL b3 H.out.2.2.2.2.1
   obtain ⟨⟨h0,h1,h2⟩,f0,f1,f2⟩:=dR hk
   have B3:=Lib.hid (Below.step_trans H.out.2.2.1 b3)
   clear b3 hk
   go_wp2
   refine bodyPost_ret (v := .agg #[.int .i64 (N:Int),.int .i64 ((D:Int)-1),.pointer none]) (by simp [results,Tryz.results65,go_sem,h0,h1,h2]) rfl ⟨_,rfl,.inl ⟨HS.out.1,?_⟩,?_⟩
   ·have e:=H.out.2.2.2.2.2
    have e2:q.num=(N:Int):=by
     have:=HND.out.1
     have:¬ q.num<0:=by simpa using e
     omega
    have e3:(q.den:Int)=D:=by rw [HND.out.2]
    rw [smV,e2,e3]
   ·repeat (first|exact B3.out|(refine Below.setCell ?_ (by first|omega|(simp;done)|(simp;omega)) _)|(refine Below.alloc ?_ (by first|omega|(simp;done)|(simp;omega)) _)|(refine Below.drew ?_)|exact Below.refl _ _)
  ·go_enter Tryz.func65,Tryz.ntmps65
   go_wp2_with fail
   refine (HM.out.1 _ H.out.2.2.1).mono ?_
   rintro e w' ⟨rfl,rfl⟩
   go_wp2_with fail
   refine (HM.out.2 _ H.out.2.2.1).mono ?_
   rintro e w' ⟨rfl,rfl⟩
   go_wp2_with fail
   refine (nt_low H.out.1).mono ?_
   rw [HS.out.2.1,← HND.out.1]
   rintro e w' ⟨rfl,rfl⟩
   go_wp2_with fail
   refine (nt_low H.out.2.1).mono ?_
   rw [HS.out.2.2.1,← HND.out.2]
   rintro e w' ⟨rfl,rfl⟩
   go_wp2_with fail
   refine (small_any _ _ _ hd1 hd2).mono ?_
   rintro e w3 ⟨rfl,b3⟩
   have hk:=aL b3 H.out.2.2.2.2.1
   obtain ⟨⟨h0,h1,h2⟩,f0,f1,f2⟩:=dR hk
   have B3:=Lib.hid (Below.step_trans H.out.2.2.1 b3)
   clear b3 hk
   go_wp2
   refine bodyPost_ret (v := .agg #[.int .i64 (-(N:Int)),.int .i64 ((D:Int)-1),.pointer none]) (by simp [results,Tryz.results65,go_sem,h0,h1,h2]) rfl ⟨_,rfl,.inl ⟨HS.out.1,?_⟩,?_⟩
   ·have e:=H.out.2.2.2.2.2
    have e2:q.num=(-(N:Int)):=by
     have:=HND.out.1
     have:q.num<0:=by simpa using e
     omega
    have e3:(q.den:Int)=D:=by rw [HND.out.2]
    rw [smV,e2,e3]
   ·repeat (first|exact B3.out|(refine Below.setCell ?_ (by first|omega|(simp;done)|(simp;omega)) _)|(refine Below.alloc ?_ (by first|omega|(simp;done)|(simp;omega)) _)|(refine Below.drew ?_)|exact Below.refl _ _)
 ·have z12:decide (q.num.natAbs≤M63)=false∨(decide (q.num.natAbs≤M63)=true∧decide (q.den≤M63)=false):=by
   rcases Bool.eq_false_or_eq_true (decide (q.num.natAbs≤M63)) with h|h
   ·rcases Bool.eq_false_or_eq_true (decide (q.den≤M63)) with h'|h'
    ·exact absurd ⟨by simpa using h,by simpa using h'⟩ hs
    ·exact .inr ⟨h,h'⟩
   ·exact .inl h
  have HS:=Lib.hid hs
  clear hs
  have hfin:∀ w2,Below w.heap.size w w2→∀ g,w2.heap[g]?=some (.cells #[.bool neg,.slice A1 n1 c1,.slice A2 n2 c2] 105 (0,0))→Nt w2 (.slice A1 n1 c1) q.num.natAbs→Nt w2 (.slice A2 n2 c2) q.den →
   GivesNb w q (.returned (.agg #[.int .i64 0,.int .i64 0,.pointer (some ⟨g,0,none⟩)])) w2:=fun w2 hb g hg hn hd =>
   ⟨_,rfl,.inr ⟨HS.out,g,_,_,rfl,by rw [H.out.2.2.2.2.2];exact hg,hn,hd⟩,hb⟩
  have HF:=Lib.hid hfin
  clear hfin
  rcases z12 with z1|⟨z1,z2⟩
  ·rw [z1] at HM
   clear z1
   go_enter Tryz.func65,Tryz.ntmps65
   go_wp2_with fail
   refine (HM.out.1 _ H.out.2.2.1).mono ?_
   rintro e w' ⟨rfl,rfl⟩
   go_wp2
   refine bodyPost_ret (v := .agg #[.int .i64 0,.int .i64 0,.pointer (some ⟨w.heap.size+1+1,0,none⟩)]) (by simp [results,Tryz.results65,go_sem]) rfl (HF.out _ (eR w _ _ _).2.2.2 _ (eR w _ _ _).2.2.1 (HW.out.1.below (eR w _ _ _).2.2.2) (HW.out.2.below (eR w _ _ _).2.2.2))
  ·rw [z1,z2] at HM
   clear z1 z2
   go_enter Tryz.func65,Tryz.ntmps65
   go_wp2_with fail
   refine (HM.out.1 _ H.out.2.2.1).mono ?_
   rintro e w' ⟨rfl,rfl⟩
   go_wp2_with fail
   refine (HM.out.2 _ H.out.2.2.1).mono ?_
   rintro e w' ⟨rfl,rfl⟩
   go_wp2
   refine bodyPost_ret (v := .agg #[.int .i64 0,.int .i64 0,.pointer (some ⟨w.heap.size+1+1,0,none⟩)]) (by simp [results,Tryz.results65,go_sem]) rfl (HF.out _ (eR w _ _ _).2.2.2 _ (eR w _ _ _).2.2.1 (HW.out.1.below (eR w _ _ _).2.2.2) (HW.out.2.below (eR w _ _ _).2.2.2))
theorem Fr.of_machine {w:World} {q:Rat} {s1 s2:Value} (h1:Nt w s1 q.num.natAbs) (h2:Nt w s2 q.den):Fr w (.agg #[.bool (decide (q.num<0)),s1,s2]) q:=⟨s1,s2,rfl,h1,h2⟩
set_option maxRecDepth 100000 in
set_option maxHeartbeats 8000000 in
theorem cE (v:Value) (q:Rat) (w:World) (h:Nb w v q):Calls Tryz.prog 145 #[v] w (GivesFr w q):=by
 rcases h with ⟨hs,rfl⟩|⟨hs,g,s1,s2,rfl,hk,h1,h2⟩
 ·obtain ⟨n,hn⟩:∃ n,n=q.num:=⟨_,rfl⟩
  obtain ⟨d,hd⟩:∃ d:Nat,d=q.den:=⟨_,rfl⟩
  unfold smV
  have hmn:=sm_num hs
  have hmd:=sm_den hs
  rw [← hn] at hmn
  rw [← hd] at hmd
  rw [← hn,← hd]
  obtain ⟨hk1,hk2,hb1⟩:=alloc2 w (.cells #[.int .i64 n,.int .i64 ((d:Int)-1),.pointer none] 67) (.cells #[.bool false,.slice none 0 0,.slice none 0 0] 105)
  have H:=Lib.hid (And.intro hn (And.intro hd (And.intro hmn (And.intro hmd (And.intro hb1 (And.intro hk1 hk2))))))
  clear hn hd hmn hmd hb1 hk1 hk2
  go_enter Tryz.func145,Tryz.ntmps145
  go_wp2
  generalize (w.alloc (.cells #[.int .i64 n,.int .i64 ((d:Int)-1),.pointer none] 67)).alloc (.cells #[.bool false,.slice none 0 0,.slice none 0 0] 105)=w1 at *
  have hA:=H.out.2.2.2.2.2.1
  have hR:=H.out.2.2.2.2.2.2
  have t1:∀ w',Calls Tryz.prog 139 #[.int .i64 n] w' (TyPost w' (Sp.is (.int .u64 ((n.natAbs:Nat):Int)))):=fun w'=>by
   obtain ⟨a1,a2⟩:=H.out.2.2.1
   exact (fB n w' (by omega) a2).mono fun _ w'' ⟨h1,h2⟩=>⟨_,h1,by rw [← h2];exact Below.refl _ _,rfl⟩
  have t2:∀ w',Calls Tryz.prog 104 #[.int .u64 ((n.natAbs:Nat):Int)] w' (TyPost w' (spNt n.natAbs)):=fun w'=>GivesNt.ty (cB _ (by obtain ⟨a1,a2⟩:=H.out.2.2.1;rw [aH];omega) w')
  have t3:∀ w',Calls Tryz.prog 100 #[.agg #[.int .i64 n,.int .i64 ((d:Int)-1),.pointer none]] w' (TyPost w' (Sp.is (.int .i64 (d:Int)))):=fun w'=>by
   obtain ⟨a1,a2⟩:=H.out.2.2.2.1
   have:=Gives.ty (den_any n ((d:Int)-1) none w' (by omega) (by omega))
   rwa [Int.sub_add_cancel] at this
  have t4:∀ w',Calls Tryz.prog 104 #[.int .u64 (d:Int)] w' (TyPost w' (spNt d)):=fun w'=>GivesNt.ty (cB _ (by obtain ⟨a1,a2⟩:=H.out.2.2.2.1;rw [aH];omega) w')
  have T:=Lib.hid (And.intro t1 (And.intro t2 (And.intro t3 t4)))
  clear t1 t2 t3 t4
  have k1:IntKind.u64.wrap (d:Int)=d:=by obtain ⟨a1,a2⟩:=H.out.2.2.2.1;rw [IntKind.wrap_u64];omega
  obtain ⟨neg,hneg⟩:∃ neg,decide (n<0)=neg:=⟨_,rfl⟩
  have HN:=Lib.hid hneg
  refine wp_region_ty Ku [w.heap.size+1] (by kernel_rfl) (by kernel_rfl) ?_
  repeat (first|(apply bT (hg:=rfl);case h=>(intro A w' hB hk;simp [known,specOf,Kd.spec,Sp.is,isVar,Oper.looksAt,Op.operands,Call.operands,Act.eval] at hk;have c_hA:=aA (hB.blk hA (by first|(simp;done)|(simp;omega)));first|(simp [go_sem,hk,c_hA,hneg];done)|(simp [go_sem,hk,c_hA,hneg];rfl)|(simp [go_sem,c_hA,hneg];rfl)))|(refine aW _ ?_ (by first|exact .inl rfl|exact .inr rfl) (by rfl) (by simp [specOf,Kd.spec];rfl) ?_ rfl ?_;(first|exact Sp.is_stable _ _|exact aK (fun _=>rfl) _|exact spTwo_stable (fun _=>rfl) _ _|exact spFr_stable (fun _=>rfl) _|exact spSum_stable (fun _=>rfl) _|exact spSgn_stable _ _|exact spNb_stable (fun _=>rfl) (fun _=>rfl) _|exact spVc_stable (fun _=>rfl) (fun _=>rfl) _)))
  refine aQ (Sp.is (.int .u64 ((n.natAbs:Nat):Int))) (Sp.is_stable _ _) rfl (fun A w' hB hk=>?_) ?_;(simp [known,specOf,Kd.spec,Sp.is,isVar,Oper.looksAt,Op.operands,Call.operands,Act.eval] at hk;have c_hA:=aA (hB.blk hA (by first|(simp;done)|(simp;omega)));simp [go_sem,hk,c_hA];refine aG ?_;exact T.out.1 _)
  refine aQ (spNt n.natAbs) (aK (fun _=>rfl) _) rfl (fun A w' hB hk=>?_) ?_;(simp [known,specOf,Kd.spec,Sp.is,isVar,Oper.looksAt,Op.operands,Call.operands,Act.eval] at hk;have c_hA:=aA (hB.blk hA (by first|(simp;done)|(simp;omega)));simp [go_sem,hk,c_hA];refine aG ?_;exact T.out.2.1 _)
  repeat (first|(apply bT (hg:=rfl);case h=>(intro A w' hB hk;simp [known,specOf,Kd.spec,Sp.is,isVar,Oper.looksAt,Op.operands,Call.operands,Act.eval] at hk;have c_hA:=aA (hB.blk hA (by first|(simp;done)|(simp;omega)));first|(simp [go_sem,hk,c_hA];done)|(simp [go_sem,hk,c_hA];rfl)|(simp [go_sem,c_hA];rfl)))|(refine aW _ ?_ (by first|exact .inl rfl|exact .inr rfl) (by rfl) (by simp [specOf,Kd.spec];rfl) ?_ rfl ?_;(first|exact Sp.is_stable _ _|exact aK (fun _=>rfl) _|exact spTwo_stable (fun _=>rfl) _ _|exact spFr_stable (fun _=>rfl) _|exact spSum_stable (fun _=>rfl) _|exact spSgn_stable _ _|exact spNb_stable (fun _=>rfl) (fun _=>rfl) _|exact spVc_stable (fun _=>rfl) (fun _=>rfl) _)))
  refine aQ (Sp.is (.int .i64 (d:Int))) (Sp.is_stable _ _) rfl (fun A w' hB hk=>?_) ?_;(simp [known,specOf,Kd.spec,Sp.is,isVar,Oper.looksAt,Op.operands,Call.operands,Act.eval] at hk;have c_hA:=aA (hB.blk hA (by first|(simp;done)|(simp;omega)));simp [go_sem,hk,c_hA];refine aG ?_;exact T.out.2.2.1 _)
  repeat (first|(apply bT (hg:=rfl);case h=>(intro A w' hB hk;simp [known,specOf,Kd.spec,Sp.is,isVar,Oper.looksAt,Op.operands,Call.operands,Act.eval] at hk;have c_hA:=aA (hB.blk hA (by first|(simp;done)|(simp;omega)));first|(simp [go_sem,hk,c_hA,k1];done)|(simp [go_sem,hk,c_hA,k1];rfl)|(simp [go_sem,c_hA,k1];rfl)))|(refine aW _ ?_ (by first|exact .inl rfl|exact .inr rfl) (by rfl) (by simp [specOf,Kd.spec];rfl) ?_ rfl ?_;(first|exact Sp.is_stable _ _|exact aK (fun _=>rfl) _|exact spTwo_stable (fun _=>rfl) _ _|exact spFr_stable (fun _=>rfl) _|exact spSum_stable (fun _=>rfl) _|exact spSgn_stable _ _|exact spNb_stable (fun _=>rfl) (fun _=>rfl) _|exact spVc_stable (fun _=>rfl) (fun _=>rfl) _)))
  refine aQ (spNt d) (aK (fun _=>rfl) _) rfl (fun A w' hB hk=>?_) ?_;(simp [known,specOf,Kd.spec,Sp.is,isVar,Oper.looksAt,Op.operands,Call.operands,Act.eval] at hk;have c_hA:=aA (hB.blk hA (by first|(simp;done)|(simp;omega)));simp [go_sem,hk,c_hA];refine aG ?_;exact T.out.2.2.2 _)
  refine aQ (fR q) (spFr_stable (fun _=>rfl) _) rfl (fun A w' hB hk=>?_) ?_;(simp [known,specOf,Kd.spec,Sp.is,isVar,Oper.looksAt,Op.operands,Call.operands,Act.eval] at hk;have c_hA:=aA (hB.blk hA (by first|(simp;done)|(simp;omega)));obtain ⟨k1,k2,k3⟩:=hk;obtain ⟨B1,m1,u1,e1⟩:=(show Nt _ _ _ from k2).form;obtain ⟨B2,m2,u2,e2⟩:=(show Nt _ _ _ from k3).form;rw [e1] at k2;rw [e2] at k3;simp [go_sem,k1,e1,e2];refine tyUpon_value ?_;have e3:=H.out.1;have e4:=H.out.2.1;rw [e3] at k2;rw [e4] at k3;rw [← HN.out,e3];exact Fr.of_machine k2 k3)
  refine ty_old (w.heap.size+1) (_) (coFr q) (coFr_stable (fun _=>rfl) _) rfl rfl (by simp) (by assumption) (by simp [hotObj,Ku,Kn]) (fun A w' hB hk h0=>?_) ?_;(simp [known,specOf,Kd.spec,Sp.is,isVar,Oper.looksAt,Op.operands,Call.operands,Act.eval] at hk;have c_hA:=aA (hB.blk hA (by first|(simp;done)|(simp;omega)));have c0:=aA h0;have f0:=aY h0;obtain ⟨k1,z1,z2,k2,k3,k4⟩:=hk;obtain ⟨B1,m1,e1,rfl⟩:=k3.form;obtain ⟨B2,m2,e2,rfl⟩:=k4.form;simp [go_sem,k1,k2,c0,f0];exact ⟨_,eQ h0 _ _ _,_,_,rfl,k3,k4⟩)
  refine ⟨by first|rfl|decide,fun f w2 hB hF hAp=>?_⟩;simp [Final1,Sp.is,isVar] at hF;simp only [frameOf]
  obtain ⟨o,⟨s1,s2,rfl,k3,k4⟩,ho⟩:=hF.1
  obtain ⟨B1,m1,u1,rfl⟩:=k3.form
  obtain ⟨B2,m2,u2,rfl⟩:=k4.form
  obtain ⟨⟨r0,r1,r2⟩,_⟩:=dR ho
  have K:=Lib.hid (And.intro k3 (And.intro k4 hB))
  clear k3 k4 hB ho hA hAp hF
  go_wp2
  refine bodyPost_ret (v := .agg #[.bool (decide (q.num<0)),.slice B1 m1 u1,.slice B2 m2 u2]) (by simp [results,Tryz.results145,go_sem,r0,r1,r2,Act.put]) rfl ⟨_,rfl,⟨_,_,rfl,K.out.1,K.out.2.1⟩,?_⟩
  exact Base.belowT K.out.2.2 H.out.2.2.2.2.1 (by omega)
 ·obtain ⟨A1,n1,c1,rfl⟩:=h1.form
  obtain ⟨A2,n2,c2,rfl⟩:=h2.form
  obtain ⟨hk1,hk2,hb1⟩:=alloc2 w (.cells #[.int .i64 0,.int .i64 0,.pointer (some ⟨g,0,none⟩)] 67) (.cells #[.bool false,.slice none 0 0,.slice none 0 0] 105)
  have hg:=aL hb1 hk
  obtain ⟨⟨g0,g1,g2⟩,_⟩:=dR hg
  have hlt:=lt_of_block hk
  have HW:=Lib.hid (And.intro h1 h2)
  clear h1 h2 hk hb1 hs hk1 hk2 hg
  go_enter Tryz.func145,Tryz.ntmps145
  go_wp2
  refine bodyPost_ret (v := .agg #[.bool (decide (q.num<0)),.slice A1 n1 c1,.slice A2 n2 c2]) (by simp [results,Tryz.results145,go_sem]) rfl ⟨_,rfl,⟨_,_,rfl,HW.out.1.below ?_,HW.out.2.below ?_⟩,?_⟩ <;> repeat (first|exact Below.refl _ _|(refine Below.setCell ?_ (by first|omega|(simp;done)|(simp;omega)) _)|(refine Below.alloc ?_ (by first|omega|(simp;done)|(simp;omega)) _)|(refine Below.drew ?_)|exact Below.refl _ _)
end Go.Proofs.YtofcdondmgojiaaGreatDoor
