/- Parts of the proof, joined. -/
import Derived.Test.YtnghdaemmlagpaaGreatDoorJ0
import Derived.Test.YtnghdaemmlagpaaGreatDoorJ3
import Derived.Deep.LoopGhost
import Derived.Lib.SmallJoins
import Derived.Test.YtnghdaemmlagpaaGreatDoorJ1
set_option maxHeartbeats 4000000
set_option linter.unusedSimpArgs false
set_option linter.unusedVariables false
set_option linter.constructorNameAsVariable false
namespace Go.Proofs.YtnghdaemmlagpaaGreatDoor
section
open Go.RowKit Pl
def Ku:Value→Bool
 | .int .u64 _=>true
 | _=>false
theorem hot_of_cell {K:Value→Bool} {w:World} {p:Addr} {v:Value} (h:w.cell? p=some v) (hv:K v=true):∃ o,w.heap[p.block]?=some o∧hotObj K o=true:=by
 unfold World.cell? at h
 split at h
 ·rename_i c e f hb
  split at h
  ·cases h
  ·refine ⟨_,hb,?_⟩
   exact Array.any_eq_true'.2 ⟨v,Array.mem_of_getElem? h,hv⟩
 ·cases h
theorem Ext.cell {K:Value→Bool} {w w' : World} (h:Ext K w w') {p:Addr} {v:Value} (hc:w.cell? p=some v) (hv:K v=true):w'.cell? p=some v:=by
 obtain ⟨o,ho,hh⟩:=hot_of_cell hc hv
 have:=h.block _ _ ho hh
 exact (World.cell?_of_block (w:=w) (by rw [this,ho])).trans hc
theorem Rd.ext {K:Value→Bool} (hK:∀ x,K (.int .u64 x)=true) {w w' : World} {A:Option Addr} {n c:Nat} {xs:List Nat} (h:Rd w A n c xs) (hx:Ext K w w'):Rd w' A n c xs:=by
 refine ⟨h.1,h.2.1,h.2.2.1,fun hn=>?_⟩
 obtain ⟨ad,e,hl,hc⟩:=h.2.2.2 hn
 exact ⟨ad,e,Nat.lt_of_lt_of_le hl hx.size,fun j x hj=>hx.cell (hc j x hj) (hK _)⟩
theorem Nt.ext {K:Value→Bool} (hK:∀ x,K (.int .u64 x)=true) {w w' : World} {v:Value} {a:Nat} (h:Nt w v a) (hx:Ext K w w'):Nt w' v a:=by
 obtain ⟨A,n,c,xs,hv,hr,hd,hn,ha⟩:=h
 exact ⟨A,n,c,xs,hv,hr.ext hK hx,hd,hn,ha⟩
def kZ (a:Nat):Sp:=fun v w=>Nt w v a
theorem aT {K:Value→Bool} (hK:∀ x,K (.int .u64 x)=true) (a:Nat):Stable K (kZ a):=fun _ _ _ h hx=>Nt.ext hK h hx
theorem Ku_u (x:Int):Ku (.int .u64 x)=true:=rfl
theorem aA {w:World} {g:Nat} {cs:Array Value} {t:TypeId} {fr:Nat×Nat} (h:w.heap[g]?=some (.cells cs t fr)) (i:Nat):w.cell? ⟨g,i,none⟩=cs[i]?:=by
 unfold World.cell?
 rw [h]
 rfl
theorem Base.blk {T:List Nat} {w0 w:World} {g:Nat} {o:Obj} (h:Base T w0 w) (h0:w0.heap[g]?=some o) (hT:g∉T):w.heap[g]?=some o:=(h.block g (lt_of_block h0) hT).trans h0
theorem GivesNt.ty {P:Program} {f:FuncId} {args:Array Value} {w:World} {a:Nat} (h:Calls P f args w (GivesNt w a)):Calls P f args w (TyPost w (kZ a)) :=
 h.mono fun _ _ ⟨v,h1,h2,h3⟩=>⟨v,h1,h3,h2⟩
theorem Gives.ty {P:Program} {f:FuncId} {args:Array Value} {w:World} {u:Value} (h:Calls P f args w (Gives w u)):Calls P f args w (TyPost w (Sp.is u)) :=
 h.mono fun _ _ ⟨h1,h2⟩=>⟨u,h1,h2,rfl⟩
theorem Below.step_trans {w0 w w' : World} (h:Below w0.heap.size w0 w) (h' : Below w.heap.size w w'):Below w0.heap.size w0 w':=h.trans (h'.mono h.size)
/-! ### The functions on natural numbers, by values -/
theorem iO {x y a b:Nat} {v v' : Value} {w:World} (h:Nt w v a) (h' : Nt w v' b) (ha:Lv 40 a) (hb:Lv 40 b) (hx:x<aD) (hy:y<aD) (hge:y*b≤x*a) :
 Calls Tryz.prog 220 #[.int .u64 (x:Int),v,.int .u64 (y:Int),v'] w (GivesNt w (x*a-y*b)):=by
 obtain ⟨A,n,c,xs,rfl,hr,hd,hn,rfl⟩:=h
 obtain ⟨A',n',c',ys,rfl,hr',hd',hn',rfl⟩:=h'
 have h1:=ha.len40 hn
 have h2:=hb.len40 hn'
 rw [hr.len] at h1
 rw [hr'.len] at h2
 exact yV x A n c xs y A' n' c' ys w hr hr' hd hd' hx hy (by omega) (by omega) hge
theorem rR {a b:Nat} {v v' : Value} {w:World} (h:Nt w v a) (h' : Nt w v' b):Calls Tryz.prog 160 #[v,v'] w (Gives w (.int .i64 (bW a b))):=by
 obtain ⟨A,n,c,xs,rfl,hr,hd,hn,rfl⟩:=h
 obtain ⟨A',n',c',ys,rfl,hr',hd',hn',rfl⟩:=h'
 exact vR A n c xs A' n' c' ys w hr hr' hd hd' hn hn'
theorem nt_plus {a b:Nat} {v v' : Value} {w:World} (h:Nt w v a) (h' : Nt w v' b) (ha:Lv 40 a) (hb:Lv 40 b):Calls Tryz.prog 138 #[v,v'] w (GivesNt w (a+b)):=by
 obtain ⟨A,n,c,xs,rfl,hr,hd,hn,rfl⟩:=h
 obtain ⟨A',n',c',ys,rfl,hr',hd',hn',rfl⟩:=h'
 have h1:=ha.len40 hn
 have h2:=hb.len40 hn'
 rw [hr.len] at h1
 rw [hr'.len] at h2
 exact plus_any A n c xs A' n' c' ys w hr hr' hd hd' (by omega) (by omega)
theorem nt_minus {a b:Nat} {v v' : Value} {w:World} (h:Nt w v a) (h' : Nt w v' b) (ha:Lv 40 a) (hge:b≤a):Calls Tryz.prog 249 #[v,v'] w (GivesNt w (a-b)):=by
 obtain ⟨A,n,c,xs,rfl,hr,hd,hn,rfl⟩:=h
 obtain ⟨A',n',c',ys,rfl,hr',hd',hn',rfl⟩:=h'
 have h1:=ha.len40 hn
 rw [hr.len] at h1
 have h2:n'≤n:=by
  rcases Nat.lt_or_ge n n' with hlt|hge'
  ·have:=dG eH hd hn' (by rw [hr.len,hr'.len];exact hlt)
   omega
  ·exact hge'
 exact minus_any A n c xs A' n' c' ys w hr hr' hd hd' (by omega) h2 hge
theorem iV {a b:Nat} {v v' : Value} {w:World} (h:Nt w v a) (h' : Nt w v' b) (ha:Lv 40 a) (hb:Lv 40 b):Calls Tryz.prog 136 #[v,v'] w (GivesNt w (a*b)):=by
 obtain ⟨A,n,c,xs,rfl,hr,hd,hn,rfl⟩:=h
 obtain ⟨A',n',c',ys,rfl,hr',hd',hn',rfl⟩:=h'
 have h1:=ha.len40 hn
 have h2:=hb.len40 hn'
 rw [hr.len] at h1
 rw [hr'.len] at h2
 exact times_any A n c xs A' n' c' ys w hr hr' hd hd' (by omega) (by omega)
theorem nT {a n c:Nat} {A:Option Addr} {xs:List Nat} {w:World} (hr:Rd w A n c xs) (hn:Norm xs) (ha:val aD xs=a):0<n↔0<a:=by
 constructor
 ·intro h
  rw [← ha]
  exact hn.pos bE (by rintro rfl;have:=hr.len;simp at this;omega)
 ·intro h
  rcases Nat.eq_zero_or_pos n with e|e
  ·subst e
   have:xs = []:=List.eq_nil_of_length_eq_zero hr.len
   subst this
   simp [val] at ha
   omega
  ·exact e
theorem fL {a b:Nat} {v v' : Value} {w:World} (h:Nt w v a) (h' : Nt w v' b) (ha:Lv 40 a) (hb:0<b):Calls Tryz.prog 134 #[v,v'] w (mO w (a/b) (a%b)):=by
 obtain ⟨A,n,c,xs,rfl,hr,hd,hn,rfl⟩:=h
 obtain ⟨A',n',c',ys,rfl,hr',hd',hn',rfl⟩:=h'
 have h1:=ha.len40 hn
 rw [hr.len] at h1
 exact divide_any A n c xs A' n' c' ys w hr hr' hd hd' (by omega) hn hn' ((nT hr' hn' rfl).2 hb)
def GivesWord (w:World) (a b:Nat) (e:Ending) (w' : World):Prop := ∃ v,e = .returned (.tuple #[v,.int .u64 (b:Int)])∧Nt w' v a∧Below w.heap.size w w'
theorem rA {a d:Nat} {v:Value} {w:World} (h:Nt w v a) (ha:Lv 40 a) (hd0:0<d) (hd1:d<aD):Calls Tryz.prog 163 #[v,.int .u64 (d:Int)] w (GivesWord w (a/d) (a%d)):=by
 obtain ⟨A,n,c,xs,rfl,hr,hd,hn,rfl⟩:=h
 have h1:=ha.len40 hn
 rw [hr.len] at h1
 exact (pD A n c xs d w hr hd (by omega) hd0 hd1).mono fun e w' ⟨⟨v,h1,h2⟩,h3⟩=>⟨v,h1,h2,h3⟩
theorem sU {a d:Nat} {v:Value} {w:World} (h:Nt w v a) (ha:Lv 40 a) (hd0:0<d) (hd1:d<aD):Calls Tryz.prog 163 #[v,.int .u64 (d:Int)] w fun e w' =>
 ∃ v,e = .returned (.tuple #[v,.int .u64 ((a%d:Nat):Int)])∧Nt w' v (a/d)∧v.ownBlock=some w.heap.size∧Below w.heap.size w w':=by
 obtain ⟨A,n,c,xs,rfl,hr,hd,hn,rfl⟩:=h
 have h1:=ha.len40 hn
 rw [hr.len] at h1
 exact (pC A n c xs d w hr hd (by omega) hd0 hd1).mono fun e w' ⟨⟨v,h1,h2,h4⟩,h3⟩=>⟨v,h1,h2,h4,h3⟩
theorem dN {a:Nat} {v:Value} {w:World} (h:Nt w v a):Calls Tryz.prog 132 #[v] w fun e w'=>e = .returned (.bool (decide (a=0)))∧w=w':=by
 obtain ⟨A,n,c,xs,rfl,hr,hd,hn,ha⟩:=h
 have:decide (n=0)=decide (a=0):=by
  have:=nT hr hn ha
  rw [decide_eq_decide];omega
 rw [← this]
 exact rK A n c w
theorem pH {a:Nat} {v:Value} {w:World} (h:Nt w v a):Calls Tryz.prog 110 #[v] w fun e w'=>e = .returned (.bool (decide (a=1)))∧w=w':=by
 obtain ⟨A,n,c,xs,rfl,hr,hd,hn,rfl⟩:=h
 exact isOne_any A n c xs w hr hd hn
theorem rV {a:Nat} {v:Value} {w:World} (h:Nt w v a):Calls Tryz.prog 140 #[v] w fun e w'=>e = .returned (.int .u64 ((a%aD:Nat):Int))∧w=w':=by
 obtain ⟨A,n,c,xs,rfl,hr,hd,hn,rfl⟩:=h
 exact low_any A n c xs w hr hd
attribute [local simp] known specOf Kd.spec Sp.is isVar Oper.looksAt Op.operands Call.operands Act.eval
theorem rD (oa ob na nb s:Nat) (v v' : Value) (a b x y:Nat) (w:World) (h:Nt w v a) (h' : Nt w v' b) (ha:Lv 40 a) (hb:Lv 40 b) (b1:oa<aD) (b2:ob<aD) (b3:na<aD) (b4:nb<aD)
 (hs:(s:Int).tmod 2=0) (e1:oa*a=x+ob*b) (e2:nb*b=y+na*a) :
 Calls Tryz.prog 162 #[pE oa ob na nb s,v,v'] w (mO w x y):=by
 have H:=aH (aI h (aI h' (aI ha (aI hb (aI b1 (aI b2 (aI b3 (aI b4 (aI e1 e2)))))))))
 clear h h' ha hb b1 b2 b3 b4 e1 e2
 unfold pE
 go_enter Tryz.func162,Tryz.ntmps162
 go_wp2
 have hblk:=heap_alloc_new w (.cells #[.int .u64 (oa:Int),.int .u64 (ob:Int),.int .u64 (na:Int),.int .u64 (nb:Int),.int .i64 (s:Int)] 200)
 have hbel:Below w.heap.size w (w.alloc (.cells #[.int .u64 (oa:Int),.int .u64 (ob:Int),.int .u64 (na:Int),.int .u64 (nb:Int),.int .i64 (s:Int)] 200)):=(aB _ _).alloc (aR _) _
 generalize w.alloc (.cells #[.int .u64 (oa:Int),.int .u64 (ob:Int),.int .u64 (na:Int),.int .u64 (nb:Int),.int .i64 (s:Int)] 200)=w1 at *
 have q1:∀ w',Base [] w1 w'→Calls Tryz.prog 220 #[.int .u64 (oa:Int),v,.int .u64 (ob:Int),v'] w' (TyPost w' (kZ x)):=fun w' hB=>by
  obtain ⟨h,h',ha,hb,b1,b2,b3,b4,e1,e2⟩:=H.out
  have:=GivesNt.ty (iO (x:=oa) (y:=ob) (w:=w') (h.below (Below.step_trans hbel hB.below)) (h'.below (Below.step_trans hbel hB.below)) ha hb b1 b2 (by omega))
  rwa [show oa*a-ob*b=x from by omega] at this
 have q2:∀ w',Base [] w1 w'→Calls Tryz.prog 220 #[.int .u64 (nb:Int),v',.int .u64 (na:Int),v] w' (TyPost w' (kZ y)):=fun w' hB=>by
  obtain ⟨h,h',ha,hb,b1,b2,b3,b4,e1,e2⟩:=H.out
  have:=GivesNt.ty (iO (x:=nb) (y:=na) (w:=w') (h'.below (Below.step_trans hbel hB.below)) (h.below (Below.step_trans hbel hB.below)) hb ha b4 b3 (by omega))
  rwa [show nb*b-na*a=y from by omega] at this
 have Q1:=aH q1
 have Q2:=aH q2
 clear q1 q2
 refine wp_region_ty Ku [] (by kernel_rfl) (by kernel_rfl) ?_
 repeat (first|(apply bV (hg:=rfl);case h=>(intro A w' hB hk;simp at hk;have c_hblk:=aA (hB.blk hblk (by simp <;> omega));first|(simp [go_sem,hk,c_hblk] <;> rfl)|(simp [go_sem,c_hblk];rfl)))|(refine aX _ ?_ (by first|exact .inl rfl|exact .inr rfl) (by rfl) (by simp [specOf,Kd.spec];rfl) ?_ rfl ?_;(first|exact Sp.is_stable _ _|exact aT (fun _=>rfl) _)))
 refine aO (kZ x) (aT Ku_u _) rfl (fun A w' hB hk=>?_) ?_;(simp at hk;have c_hblk:=aA (hB.blk hblk (by simp <;> omega));simp [go_sem,hk,c_hblk];refine aG ?_;exact Q1.out _ hB)
 repeat (first|(apply bV (hg:=rfl);case h=>(intro A w' hB hk;simp at hk;have c_hblk:=aA (hB.blk hblk (by simp <;> omega));first|(simp [go_sem,hk,c_hblk] <;> rfl)|(simp [go_sem,c_hblk];rfl)))|(refine aX _ ?_ (by first|exact .inl rfl|exact .inr rfl) (by rfl) (by simp [specOf,Kd.spec];rfl) ?_ rfl ?_;(first|exact Sp.is_stable _ _|exact aT (fun _=>rfl) _)))
 refine aO (kZ y) (aT Ku_u _) rfl (fun A w' hB hk=>?_) ?_;(simp at hk;have c_hblk:=aA (hB.blk hblk (by simp <;> omega));simp [go_sem,hk,c_hblk];refine aG ?_;exact Q2.out _ hB)
 repeat (first|(apply bV (hg:=rfl);case h=>(intro A w' hB hk;simp at hk;have c_hblk:=aA (hB.blk hblk (by simp <;> omega));first|(simp [go_sem,hk,c_hblk] <;> rfl)|(simp [go_sem,c_hblk];rfl)))|(refine aX _ ?_ (by first|exact .inl rfl|exact .inr rfl) (by rfl) (by simp [specOf,Kd.spec];rfl) ?_ rfl ?_;(first|exact Sp.is_stable _ _|exact aT (fun _=>rfl) _)))
 refine ⟨by first|rfl|decide,fun f w2 hB hF hAp=>?_⟩;simp [Final1,Sp.is,isVar] at hF;simp only [frameOf]
 go_wp2
 go_ret2
 exact ⟨f 6,f 7,rfl,hF.2.1,hF.1,Below.step_trans hbel hB.below⟩
theorem sV (oa ob na nb s:Nat) (v v' : Value) (a b x y:Nat) (w:World) (h:Nt w v a) (h' : Nt w v' b) (ha:Lv 40 a) (hb:Lv 40 b) (b1:oa<aD) (b2:ob<aD) (b3:na<aD) (b4:nb<aD)
 (hs:(s:Int).tmod 2=1) (e1:ob*b=x+oa*a) (e2:na*a=y+nb*b) :
 Calls Tryz.prog 162 #[pE oa ob na nb s,v,v'] w (mO w x y):=by
 have H:=aH (aI h (aI h' (aI ha (aI hb (aI b1 (aI b2 (aI b3 (aI b4 (aI e1 e2)))))))))
 clear h h' ha hb b1 b2 b3 b4 e1 e2
 unfold pE
 go_enter Tryz.func162,Tryz.ntmps162
 go_wp2
 have hblk:=heap_alloc_new w (.cells #[.int .u64 (oa:Int),.int .u64 (ob:Int),.int .u64 (na:Int),.int .u64 (nb:Int),.int .i64 (s:Int)] 200)
 have hbel:Below w.heap.size w (w.alloc (.cells #[.int .u64 (oa:Int),.int .u64 (ob:Int),.int .u64 (na:Int),.int .u64 (nb:Int),.int .i64 (s:Int)] 200)):=(aB _ _).alloc (aR _) _
 generalize w.alloc (.cells #[.int .u64 (oa:Int),.int .u64 (ob:Int),.int .u64 (na:Int),.int .u64 (nb:Int),.int .i64 (s:Int)] 200)=w1 at *
 have q1:∀ w',Base [] w1 w'→Calls Tryz.prog 220 #[.int .u64 (ob:Int),v',.int .u64 (oa:Int),v] w' (TyPost w' (kZ x)):=fun w' hB=>by
  obtain ⟨h,h',ha,hb,b1,b2,b3,b4,e1,e2⟩:=H.out
  have:=GivesNt.ty (iO (x:=ob) (y:=oa) (w:=w') (h'.below (Below.step_trans hbel hB.below)) (h.below (Below.step_trans hbel hB.below)) hb ha b2 b1 (by omega))
  rwa [show ob*b-oa*a=x from by omega] at this
 have q2:∀ w',Base [] w1 w'→Calls Tryz.prog 220 #[.int .u64 (na:Int),v,.int .u64 (nb:Int),v'] w' (TyPost w' (kZ y)):=fun w' hB=>by
  obtain ⟨h,h',ha,hb,b1,b2,b3,b4,e1,e2⟩:=H.out
  have:=GivesNt.ty (iO (x:=na) (y:=nb) (w:=w') (h.below (Below.step_trans hbel hB.below)) (h'.below (Below.step_trans hbel hB.below)) ha hb b3 b4 (by omega))
  rwa [show na*a-nb*b=y from by omega] at this
 have Q1:=aH q1
 have Q2:=aH q2
 clear q1 q2
 refine wp_region_ty Ku [] (by kernel_rfl) (by kernel_rfl) ?_
 repeat (first|(apply bV (hg:=rfl);case h=>(intro A w' hB hk;simp at hk;have c_hblk:=aA (hB.blk hblk (by simp <;> omega));first|(simp [go_sem,hk,c_hblk] <;> rfl)|(simp [go_sem,c_hblk];rfl)))|(refine aX _ ?_ (by first|exact .inl rfl|exact .inr rfl) (by rfl) (by simp [specOf,Kd.spec];rfl) ?_ rfl ?_;(first|exact Sp.is_stable _ _|exact aT (fun _=>rfl) _)))
 refine aO (kZ x) (aT Ku_u _) rfl (fun A w' hB hk=>?_) ?_;(simp at hk;have c_hblk:=aA (hB.blk hblk (by simp <;> omega));simp [go_sem,hk,c_hblk];refine aG ?_;exact Q1.out _ hB)
 repeat (first|(apply bV (hg:=rfl);case h=>(intro A w' hB hk;simp at hk;have c_hblk:=aA (hB.blk hblk (by simp <;> omega));first|(simp [go_sem,hk,c_hblk] <;> rfl)|(simp [go_sem,c_hblk];rfl)))|(refine aX _ ?_ (by first|exact .inl rfl|exact .inr rfl) (by rfl) (by simp [specOf,Kd.spec];rfl) ?_ rfl ?_;(first|exact Sp.is_stable _ _|exact aT (fun _=>rfl) _)))
 refine aO (kZ y) (aT Ku_u _) rfl (fun A w' hB hk=>?_) ?_;(simp at hk;have c_hblk:=aA (hB.blk hblk (by simp <;> omega));simp [go_sem,hk,c_hblk];refine aG ?_;exact Q2.out _ hB)
 repeat (first|(apply bV (hg:=rfl);case h=>(intro A w' hB hk;simp at hk;have c_hblk:=aA (hB.blk hblk (by simp <;> omega));first|(simp [go_sem,hk,c_hblk] <;> rfl)|(simp [go_sem,c_hblk];rfl)))|(refine aX _ ?_ (by first|exact .inl rfl|exact .inr rfl) (by rfl) (by simp [specOf,Kd.spec];rfl) ?_ rfl ?_;(first|exact Sp.is_stable _ _|exact aT (fun _=>rfl) _)))
 refine ⟨by first|rfl|decide,fun f w2 hB hF hAp=>?_⟩;simp [Final1,Sp.is,isVar] at hF;simp only [frameOf]
 go_wp2
 go_ret2
 exact ⟨f 6,f 7,rfl,hF.2.1,hF.1,Below.step_trans hbel hB.below⟩
end
section
open Go.RowKit Pl
def GcdAt (w:World) (a b k:Nat) (v v' : Value) (wr:World):Prop := ∃ x:Nat,Nt wr v x∧Nt wr v' k∧k≤x∧0<x∧Nat.gcd x k=Nat.gcd a b∧Lv 40 x∧Below w.heap.size w wr
theorem vZ {a b:Nat} {v:Value} {A' : Option Addr} {n' c' : Nat} {w:World} (h:Nt w v a) (h' : Nt w (.slice A' n' c') b) (hn' : 2≤n') (hge:b≤a) :
 Calls Tryz.prog 161 #[v,.slice A' n' c'] w (yW a b w):=by
 obtain ⟨A,n,c,xs,rfl,hr,hd,hn,rfl⟩:=h
 obtain ⟨A2,n2,c2,ys,e,hr',hd',hn2,rfl⟩:=h'
 injection e with e1 e2 e3
 subst e1;subst e2;subst e3
 have hle:n'≤n:=by
  rcases Nat.lt_or_ge n n' with hlt|hge'
  ·have:=dG eH hd hn2 (by rw [hr.len,hr'.len];exact hlt)
   omega
  ·exact hge'
 exact simulate_any A n c xs A' n' c' ys w hr hr' hd hd' hn hn' hle hge
theorem lift_pos {x k a' b' oa ob na nb s:Nat} (hx:0<x) (hk:k≤x) (f1:x=nb*a'+ob*b') (f4:b'<k) (f5:s%2=0→oa*x=a'+ob*k∧nb*k=b'+na*x)
 (f6:s%2=1→ob*k=a'+oa*x∧na*x=b'+nb*k):1≤nb:=by
 rcases Nat.eq_zero_or_pos nb with e|e
 ·exfalso
  subst e
  have hb:b'=0:=by
   rcases Nat.mod_two_eq_zero_or_one s with e|e
   ·have:=(f5 e).2
    omega
   ·have:=(f6 e).2
    rcases Nat.eq_zero_or_pos na with e|e
    ·subst e;omega
    ·have:=Nat.mul_le_mul_right x e
     omega
  subst hb
  omega
 ·exact e
theorem nt_one {n c:Nat} {A:Option Addr} {b:Nat} {w:World} (h:Nt w (.slice A n c) b) (h1:n=1):∃ ad,A=some ad∧0<b∧b<aD∧w.cell? ad=some (.int .u64 (b:Int)):=by
 obtain ⟨A2,n2,c2,ys,e,hr,hd,hn,hv⟩:=h
 injection e with e1 e2 e3
 subst e1;subst e2;subst e3;subst h1
 obtain ⟨ad,x,hA,_,hx,hc⟩:=hr.at_ Nat.zero_lt_one
 have hl:=hr.len
 match ys,hl,hx with
 | [y],_,hx =>
   simp at hx
   subst hx
   simp [val] at hv
   subst hv
   have hp:0<y:=by simpa [val] using hn.pos bE (by simp)
   exact ⟨ad,hA,hp,hd y (by simp),by simpa [Addr.add] using hc⟩
theorem xH (v v' : Value) (a b:Nat) (w:World) (h:Nt w v a) (h' : Nt w v' b) (ha:Lv 40 a) (hb:Lv 40 b) (h0:0<a∨0<b):Calls Tryz.prog 109 #[v,v'] w (GivesNt w (Nat.gcd a b)):=by
 have H:=aH (aI h (aI h' (aI ha (aI hb h0))))
 have hc:=rR h h'
 have start:∀ w1,Below w.heap.size w w1→(a<b→GcdAt w a b a v' v w1)∧(b≤a→GcdAt w a b b v v' w1):=fun w1 hb1=>by
  obtain ⟨h,h',ha,hb,h0⟩:=H.out
  exact ⟨fun hl=>⟨b,h'.below hb1,h.below hb1,by omega,by omega,Nat.gcd_comm _ _,hb,hb1⟩,fun hl=>⟨a,h.below hb1,h'.below hb1,hl,by omega,rfl,ha,hb1⟩⟩
 have START:=aH start
 clear h h' ha hb h0 start
 obtain ⟨n0,hn0⟩:∃ n0,n0=min a b:=⟨_,rfl⟩
 by_cases hlt:a<b
 ·rw [show bW a b = -1 from by unfold bW;rw [if_pos (by omega)]] at hc
  have HC:=aH hc
  have HL:=aH hlt
  obtain rfl:n0=a:=by omega
  clear hc hlt hn0
  go_enter Tryz.func109,Tryz.ntmps109
  go_wp2_with (go_at_call 160;refine HC.out.mono ?_;rintro e w1 ⟨rfl,hb1⟩)
  go_loopg [0,1] n0 (fun k va vb wr=>GcdAt w n0 b k va vb wr)
  case atStart=>exact (START.out w1 hb1).1 HL.out
  case round =>
   obtain ⟨x,hx,hy,hyx,hx0,hg,hlv,hbe⟩:=hrel
   have hy0:=hy
   obtain ⟨A',n',c',ys,rfl,hr',hd',hn',hv'⟩:=hy0
   have hnc' : n'≤c':=hr'.cap
   have hcm' : c'≤9223372036854775807:=hr'.2.2.1
   have hpos:=nT hr' hn' hv'
   have HR:=aH (aI hx (aI hy (aI hyx (aI hx0 (aI hg (aI hlv hbe))))))
   by_cases h1:1<n'
   ·have hs:Calls Tryz.prog 161 #[u0,.slice A' n' c'] wr (fun e w' => ∃ oa ob na nb s:Nat,e = .returned (.agg #[.int .u64 (oa:Int),.int .u64 (ob:Int),.int .u64 (na:Int),.int .u64 (nb:Int),.int .i64 (s:Int)])∧SimOk x gk oa ob na nb s∧Below wr.heap.size wr w'):=vZ hx hy (by omega) hyx
    have HS:=aH hs
    have HP:=aH hpos
    clear hs hx hy hyx hx0 hg hlv hbe hr' hd' hn' hv' hpos
    go_wp2_with fail
    refine HS.out.mono ?_
    rintro e w2 ⟨oa,ob,na,nb,s,rfl,hsim,hb2⟩
    have HB2:=aH (aI hsim hb2)
    clear hsim hb2
    have hz2:wr.heap.size≤w2.heap.size:=HB2.out.2.size
    rcases Nat.eq_zero_or_pos s with rfl|hs0
    ·go_wp2_with fail
     refine (fL (HR.out.1.below ?_) (HR.out.2.1.below ?_) HR.out.2.2.2.2.2.1 (by have:=HP.out;omega)).mono ?_
     ·repeat (first|exact HB2.out.2|(refine Below.setCell ?_ (by first|omega|(simp <;> omega)) _)|(refine Below.alloc ?_ (by first|omega|(simp <;> omega)) _)|(refine Below.drew ?_)|exact aB _ _)
     ·repeat (first|exact HB2.out.2|(refine Below.setCell ?_ (by first|omega|(simp <;> omega)) _)|(refine Below.alloc ?_ (by first|omega|(simp <;> omega)) _)|(refine Below.drew ?_)|exact aB _ _)
     rintro e w3 ⟨v1,v2,rfl,q1,q2,q3⟩
     have Q:=aH (aI q1 q2)
     have q4:Below wr.heap.size wr w3:=by
      refine Below.trans ?_ (q3.mono ?_)
      ·repeat (first|exact HB2.out.2|(refine Below.setCell ?_ (by first|omega|(simp <;> omega)) _)|(refine Below.alloc ?_ (by first|omega|(simp <;> omega)) _)|(refine Below.drew ?_)|exact aB _ _)
      ·simp;omega
     have Q4:=aH q4
     clear q1 q2 q3 q4
     go_wp2
     go_roundg (x%gk)
     case measure=>exact Nat.mod_lt _ (by have:=HP.out;omega)
     case rel =>
      obtain ⟨hx,hy,hyx,hx0,hg,hlv,hbe⟩:=HR.out
      have hp:=HP.out
      exact ⟨gk,hy.below Q4.out,Q.out.2,Nat.le_of_lt (Nat.mod_lt _ (by omega)),by omega,by rw [← hg,Nat.gcd_comm gk,Nat.gcd_comm x,Nat.gcd_rec gk x],hlv.le hyx,Below.step_trans hbe Q4.out⟩
    ·obtain ⟨hsb,hso⟩:=HB2.out.1
     obtain ⟨l1,l2,l3,l4,a',b',f1,f2,f3,f4,f5,f6⟩:=hso hs0
     have HF:=aH (aI l1 (aI l2 (aI l3 (aI l4 (aI f1 (aI f2 (aI f3 (aI f4 (aI f5 f6)))))))))
     clear hso l1 l2 l3 l4 f1 f2 f3 f4 f5 f6
     go_wp2_with fail
     have hco:∀ W,Below wr.heap.size wr W→Calls Tryz.prog 162 #[.agg #[.int .u64 (oa:Int),.int .u64 (ob:Int),.int .u64 (na:Int),.int .u64 (nb:Int),.int .i64 (s:Int)],u0,.slice A' n' c'] W (mO W a' b'):=fun W hW=>by
      obtain ⟨l1,l2,l3,l4,f1,f2,f3,f4,f5,f6⟩:=HF.out
      obtain ⟨hx,hy,hyx,hx0,hg,hlv,hbe⟩:=HR.out
      rcases Nat.mod_two_eq_zero_or_one s with e|e
      ·exact rD oa ob na nb s _ _ x gk a' b' W (hx.below hW) (hy.below hW) hlv (hlv.le hyx) l1 l2 l3 l4 (by rw [Int.tmod_eq_emod_of_nonneg (by omega)];omega) (f5 e).1 (f5 e).2
      ·exact sV oa ob na nb s _ _ x gk a' b' W (hx.below hW) (hy.below hW) hlv (hlv.le hyx) l1 l2 l3 l4 (by rw [Int.tmod_eq_emod_of_nonneg (by omega)];omega) (f6 e).1 (f6 e).2
     refine (hco _ ?_).mono ?_
     ·repeat (first|exact HB2.out.2|(refine Below.setCell ?_ (by first|omega|(simp <;> omega)) _)|(refine Below.alloc ?_ (by first|omega|(simp <;> omega)) _)|(refine Below.drew ?_)|exact aB _ _)
     rintro e w3 ⟨v1,v2,rfl,q1,q2,q3⟩
     have Q:=aH (aI q1 q2)
     have q4:Below wr.heap.size wr w3:=by
      refine Below.trans ?_ (q3.mono ?_)
      ·repeat (first|exact HB2.out.2|(refine Below.setCell ?_ (by first|omega|(simp <;> omega)) _)|(refine Below.alloc ?_ (by first|omega|(simp <;> omega)) _)|(refine Below.drew ?_)|exact aB _ _)
      ·simp;omega
     have Q4:=aH q4
     clear q1 q2 q3 q4 hco
     go_wp2
     go_roundg b'
     case measure=>exact HF.out.2.2.2.2.2.2.2.1
     case rel =>
      obtain ⟨l1,l2,l3,l4,f1,f2,f3,f4,f5,f6⟩:=HF.out
      obtain ⟨hx,hy,hyx,hx0,hg,hlv,hbe⟩:=HR.out
      have hle:a'≤x:=by
       have:=Nat.mul_le_mul_right a' (lift_pos hx0 hyx f1 f4 f5 f6)
       omega
      exact ⟨a',Q.out.1,Q.out.2,Nat.le_of_lt f3,by omega,by rw [← hg];exact vW f1 f2 f5 f6,hlv.le hle,Below.step_trans hbe Q4.out⟩
   ·have hz:n'=0∨n'=1:=by omega
    rcases hz with rfl|rfl
    ·obtain rfl:gk=0:=by omega
     have HI:=aH hy
     clear hpos hr' hd' hn' hv' hx hy hyx hx0 hg hlv hbe
     go_wp2_with (go_at_call 132;refine (dN HI.out).mono ?_;rintro e w' ⟨rfl,rfl⟩)
     go_ret
     obtain ⟨hx,hy,hyx,hx0,hg,hlv,hbe⟩:=HR.out
     exact ⟨u0,rfl,by rw [← hg,Nat.gcd_zero_right];exact hx,hbe⟩
    ·obtain ⟨ad,rfl,hk0,hkW,hcell⟩:=nt_one hy rfl
     have hz:decide (gk=0)=false:=by simp;omega
     have HI:=aH (aI hk0 hkW)
     clear hpos hr' hd' hn' hv' hx hy hyx hx0 hg hlv hbe hk0 hkW
     go_wp2_with (go_at_call 132;refine (dN HR.out.2.1).mono ?_;rintro e w' ⟨rfl,rfl⟩)
     refine (rA HR.out.1 HR.out.2.2.2.2.2.1 HI.out.1 HI.out.2).mono ?_
     rintro e w2 ⟨v1,rfl,q1,q2⟩
     have hcell2:w2.cell? ad=some (.int .u64 (gk:Int)):=(q2.cell (p:=ad) (by
      rcases Nat.lt_or_ge ad.block wr.heap.size with h|h
      ·exact h
      ·rw [World.cell?,Array.getElem?_eq_none h] at hcell;cases hcell)).trans hcell
     obtain ⟨r,hr⟩:∃ r,r=x%gk:=⟨_,rfl⟩
     have hrl:r<aD:=by have:=Nat.mod_lt x HI.out.1;have:=HI.out.2;omega
     rw [← hr]
     have Q2:=aH (aI q2 (aI hr hrl))
     clear q1 q2 hcell hr hrl
     go_wp2_with fail
     refine (kJ gk r _ HI.out.2 Q2.out.2.2).mono ?_
     rintro e w3 ⟨rfl,q3⟩
     have Q3:=aH q3
     clear q3
     go_wp2_with fail
     refine (cE (Nat.gcd gk r) (Nat.lt_of_le_of_lt (Nat.gcd_le_left _ HI.out.1) HI.out.2) _).mono ?_
     rintro e w4 ⟨v4,rfl,q4,q5⟩
     have Q4:=aH (aI q4 q5)
     clear q4 q5
     go_wp2
     go_ret
     obtain ⟨hx,hy,hyx,hx0,hg,hlv,hbe⟩:=HR.out
     refine ⟨v4,rfl,?_,Below.step_trans hbe (Below.step_trans Q2.out.1 (Below.step_trans Q3.out Q4.out.2))⟩
     have:=Q4.out.1
     rwa [Q2.out.2.1,Nat.gcd_comm,← Nat.gcd_rec,Nat.gcd_comm,hg] at this
 ·have hcc:¬ bW a b<0:=by unfold bW;rw [if_neg (by omega)];split <;> omega
  generalize bW a b=cz at hc hcc
  have HC:=aH hc
  have HL:=aH hlt
  obtain rfl:n0=b:=by omega
  clear hc hlt hn0
  go_enter Tryz.func109,Tryz.ntmps109
  go_wp2_with (go_at_call 160;refine HC.out.mono ?_;rintro e w1 ⟨rfl,hb1⟩)
  go_loopg [0,1] n0 (fun k va vb wr=>GcdAt w a n0 k va vb wr)
  case atStart=>exact (START.out w1 hb1).2 (Nat.le_of_not_lt HL.out)
  case round =>
   obtain ⟨x,hx,hy,hyx,hx0,hg,hlv,hbe⟩:=hrel
   have hy0:=hy
   obtain ⟨A',n',c',ys,rfl,hr',hd',hn',hv'⟩:=hy0
   have hnc' : n'≤c':=hr'.cap
   have hcm' : c'≤9223372036854775807:=hr'.2.2.1
   have hpos:=nT hr' hn' hv'
   have HR:=aH (aI hx (aI hy (aI hyx (aI hx0 (aI hg (aI hlv hbe))))))
   by_cases h1:1<n'
   ·have hs:Calls Tryz.prog 161 #[u0,.slice A' n' c'] wr (fun e w' => ∃ oa ob na nb s:Nat,e = .returned (.agg #[.int .u64 (oa:Int),.int .u64 (ob:Int),.int .u64 (na:Int),.int .u64 (nb:Int),.int .i64 (s:Int)])∧SimOk x gk oa ob na nb s∧Below wr.heap.size wr w'):=vZ hx hy (by omega) hyx
    have HS:=aH hs
    have HP:=aH hpos
    clear hs hx hy hyx hx0 hg hlv hbe hr' hd' hn' hv' hpos
    go_wp2_with fail
    refine HS.out.mono ?_
    rintro e w2 ⟨oa,ob,na,nb,s,rfl,hsim,hb2⟩
    have HB2:=aH (aI hsim hb2)
    clear hsim hb2
    have hz2:wr.heap.size≤w2.heap.size:=HB2.out.2.size
    rcases Nat.eq_zero_or_pos s with rfl|hs0
    ·go_wp2_with fail
     refine (fL (HR.out.1.below ?_) (HR.out.2.1.below ?_) HR.out.2.2.2.2.2.1 (by have:=HP.out;omega)).mono ?_
     ·repeat (first|exact HB2.out.2|(refine Below.setCell ?_ (by first|omega|(simp <;> omega)) _)|(refine Below.alloc ?_ (by first|omega|(simp <;> omega)) _)|(refine Below.drew ?_)|exact aB _ _)
     ·repeat (first|exact HB2.out.2|(refine Below.setCell ?_ (by first|omega|(simp <;> omega)) _)|(refine Below.alloc ?_ (by first|omega|(simp <;> omega)) _)|(refine Below.drew ?_)|exact aB _ _)
     rintro e w3 ⟨v1,v2,rfl,q1,q2,q3⟩
     have Q:=aH (aI q1 q2)
     have q4:Below wr.heap.size wr w3:=by
      refine Below.trans ?_ (q3.mono ?_)
      ·repeat (first|exact HB2.out.2|(refine Below.setCell ?_ (by first|omega|(simp <;> omega)) _)|(refine Below.alloc ?_ (by first|omega|(simp <;> omega)) _)|(refine Below.drew ?_)|exact aB _ _)
      ·simp;omega
     have Q4:=aH q4
     clear q1 q2 q3 q4
     go_wp2
     go_roundg (x%gk)
     case measure=>exact Nat.mod_lt _ (by have:=HP.out;omega)
     case rel =>
      obtain ⟨hx,hy,hyx,hx0,hg,hlv,hbe⟩:=HR.out
      have hp:=HP.out
      exact ⟨gk,hy.below Q4.out,Q.out.2,Nat.le_of_lt (Nat.mod_lt _ (by omega)),by omega,by rw [← hg,Nat.gcd_comm gk,Nat.gcd_comm x,Nat.gcd_rec gk x],hlv.le hyx,Below.step_trans hbe Q4.out⟩
    ·obtain ⟨hsb,hso⟩:=HB2.out.1
     obtain ⟨l1,l2,l3,l4,a',b',f1,f2,f3,f4,f5,f6⟩:=hso hs0
     have HF:=aH (aI l1 (aI l2 (aI l3 (aI l4 (aI f1 (aI f2 (aI f3 (aI f4 (aI f5 f6)))))))))
     clear hso l1 l2 l3 l4 f1 f2 f3 f4 f5 f6
     go_wp2_with fail
     have hco:∀ W,Below wr.heap.size wr W→Calls Tryz.prog 162 #[.agg #[.int .u64 (oa:Int),.int .u64 (ob:Int),.int .u64 (na:Int),.int .u64 (nb:Int),.int .i64 (s:Int)],u0,.slice A' n' c'] W (mO W a' b'):=fun W hW=>by
      obtain ⟨l1,l2,l3,l4,f1,f2,f3,f4,f5,f6⟩:=HF.out
      obtain ⟨hx,hy,hyx,hx0,hg,hlv,hbe⟩:=HR.out
      rcases Nat.mod_two_eq_zero_or_one s with e|e
      ·exact rD oa ob na nb s _ _ x gk a' b' W (hx.below hW) (hy.below hW) hlv (hlv.le hyx) l1 l2 l3 l4 (by rw [Int.tmod_eq_emod_of_nonneg (by omega)];omega) (f5 e).1 (f5 e).2
      ·exact sV oa ob na nb s _ _ x gk a' b' W (hx.below hW) (hy.below hW) hlv (hlv.le hyx) l1 l2 l3 l4 (by rw [Int.tmod_eq_emod_of_nonneg (by omega)];omega) (f6 e).1 (f6 e).2
     refine (hco _ ?_).mono ?_
     ·repeat (first|exact HB2.out.2|(refine Below.setCell ?_ (by first|omega|(simp <;> omega)) _)|(refine Below.alloc ?_ (by first|omega|(simp <;> omega)) _)|(refine Below.drew ?_)|exact aB _ _)
     rintro e w3 ⟨v1,v2,rfl,q1,q2,q3⟩
     have Q:=aH (aI q1 q2)
     have q4:Below wr.heap.size wr w3:=by
      refine Below.trans ?_ (q3.mono ?_)
      ·repeat (first|exact HB2.out.2|(refine Below.setCell ?_ (by first|omega|(simp <;> omega)) _)|(refine Below.alloc ?_ (by first|omega|(simp <;> omega)) _)|(refine Below.drew ?_)|exact aB _ _)
      ·simp;omega
     have Q4:=aH q4
     clear q1 q2 q3 q4 hco
     go_wp2
     go_roundg b'
     case measure=>exact HF.out.2.2.2.2.2.2.2.1
     case rel =>
      obtain ⟨l1,l2,l3,l4,f1,f2,f3,f4,f5,f6⟩:=HF.out
      obtain ⟨hx,hy,hyx,hx0,hg,hlv,hbe⟩:=HR.out
      have hle:a'≤x:=by
       have:=Nat.mul_le_mul_right a' (lift_pos hx0 hyx f1 f4 f5 f6)
       omega
      exact ⟨a',Q.out.1,Q.out.2,Nat.le_of_lt f3,by omega,by rw [← hg];exact vW f1 f2 f5 f6,hlv.le hle,Below.step_trans hbe Q4.out⟩
   ·have hz:n'=0∨n'=1:=by omega
    rcases hz with rfl|rfl
    ·obtain rfl:gk=0:=by omega
     have HI:=aH hy
     clear hpos hr' hd' hn' hv' hx hy hyx hx0 hg hlv hbe
     go_wp2_with (go_at_call 132;refine (dN HI.out).mono ?_;rintro e w' ⟨rfl,rfl⟩)
     go_ret
     obtain ⟨hx,hy,hyx,hx0,hg,hlv,hbe⟩:=HR.out
     exact ⟨u0,rfl,by rw [← hg,Nat.gcd_zero_right];exact hx,hbe⟩
    ·obtain ⟨ad,rfl,hk0,hkW,hcell⟩:=nt_one hy rfl
     have hz:decide (gk=0)=false:=by simp;omega
     have HI:=aH (aI hk0 hkW)
     clear hpos hr' hd' hn' hv' hx hy hyx hx0 hg hlv hbe hk0 hkW
     go_wp2_with (go_at_call 132;refine (dN HR.out.2.1).mono ?_;rintro e w' ⟨rfl,rfl⟩)
     refine (rA HR.out.1 HR.out.2.2.2.2.2.1 HI.out.1 HI.out.2).mono ?_
     rintro e w2 ⟨v1,rfl,q1,q2⟩
     have hcell2:w2.cell? ad=some (.int .u64 (gk:Int)):=(q2.cell (p:=ad) (by
      rcases Nat.lt_or_ge ad.block wr.heap.size with h|h
      ·exact h
      ·rw [World.cell?,Array.getElem?_eq_none h] at hcell;cases hcell)).trans hcell
     obtain ⟨r,hr⟩:∃ r,r=x%gk:=⟨_,rfl⟩
     have hrl:r<aD:=by have:=Nat.mod_lt x HI.out.1;have:=HI.out.2;omega
     rw [← hr]
     have Q2:=aH (aI q2 (aI hr hrl))
     clear q1 q2 hcell hr hrl
     go_wp2_with fail
     refine (kJ gk r _ HI.out.2 Q2.out.2.2).mono ?_
     rintro e w3 ⟨rfl,q3⟩
     have Q3:=aH q3
     clear q3
     go_wp2_with fail
     refine (cE (Nat.gcd gk r) (Nat.lt_of_le_of_lt (Nat.gcd_le_left _ HI.out.1) HI.out.2) _).mono ?_
     rintro e w4 ⟨v4,rfl,q4,q5⟩
     have Q4:=aH (aI q4 q5)
     clear q4 q5
     go_wp2
     go_ret
     obtain ⟨hx,hy,hyx,hx0,hg,hlv,hbe⟩:=HR.out
     refine ⟨v4,rfl,?_,Below.step_trans hbe (Below.step_trans Q2.out.1 (Below.step_trans Q3.out Q4.out.2))⟩
     have:=Q4.out.1
     rwa [Q2.out.2.1,Nat.gcd_comm,← Nat.gcd_rec,Nat.gcd_comm,hg] at this
def aC (s:ByteArray):List UInt8:=s.data.toList
theorem aE (s:ByteArray):(aC s).length=s.size:=by simp [aC]
theorem aS (s:ByteArray) (i j:Nat):aC (s.extract i j)=((aC s).take j).drop i:=by
 unfold aC
 rw [ByteArray.data_extract,Array.toList_extract,List.extract_eq_take_drop]
 rw [List.drop_take]
def nU:Value→Nat | .string s=>s.size|_=>0
def TextAt (s:ByteArray) (w:World) (d n:Value) (wr:World):Prop :=
 ∃ (r:ByteArray) (a:Nat),d = .string r∧Nt wr n a∧r.size≤s.size∧AllDig (aC r)∧a*10^r.size+aU (aC r)=aU (aC s)∧(a=0∨r.size%19=0)∧Below w.heap.size w wr
theorem lv_pow (k n:Nat) (h:n≤19*2^k) {a:Nat} (ha:a<10^n):Lv k a:=by
 unfold Lv
 have h1:10^n≤10^(19*2^k):=Nat.pow_le_pow_right (by omega) h
 rw [Nat.pow_mul] at h1
 have h2:(10^19)^2^k≤aD^2^k:=Nat.pow_le_pow_left (by rw [aL];omega) _
 omega
theorem text_step {s r:ByteArray} {a e:Nat} (hd:AllDig (aC r)) (h:a*10^r.size+aU (aC r)=aU (aC s)) (h19:a=0∨r.size%19=0) (he:e=(r.size-1)%19+1) (hr:0<r.size) :
 aC (r.extract 0 e)≠[]∧(aC (r.extract 0 e)).length=e∧AllDig (aC (r.extract 0 e))∧AllDig (aC (r.extract e r.size))∧(r.extract e r.size).size=r.size-e∧(r.size-e)%19=0 ∧
 (a*10000000000000000000+aU (aC (r.extract 0 e)))*10^(r.size-e)+aU (aC (r.extract e r.size))=aU (aC s):=by
 have hl:=aE r
 have hle:e≤r.size:=by have:=Nat.mod_le (r.size-1) 19;omega
 have e1:aC (r.extract 0 e)=(aC r).take e:=by rw [aS,List.drop_zero]
 have e2:aC (r.extract e r.size)=(aC r).drop e:=by rw [aS,List.take_of_length_le (by omega)]
 have l1:((aC r).take e).length=e:=by rw [List.length_take];omega
 refine ⟨by rw [e1];intro h0;rw [h0] at l1;simp at l1;omega,by rw [e1];exact l1,by rw [e1];exact hd.take _,by rw [e2];exact hd.drop _,by simp,by omega,?_⟩
 rw [e1,e2,← h]
 have hap:=fJ ((aC r).take e) ((aC r).drop e)
 rw [List.take_append_drop,List.length_drop,hl] at hap
 rw [hap,Nat.add_mul]
 have hm:a*10000000000000000000*10^(r.size-e)=a*10^r.size:=by
  rcases h19 with h0|h0
  ·subst h0;rw [Nat.zero_mul,Nat.zero_mul]
  ·have:e=19:=by omega
   subst this
   have hp:r.size=19+(r.size-19):=by omega
   have hp2:10^r.size=10^19*10^(r.size-19):=by
    rw [← Nat.pow_add,← hp]
   rw [hp2,Nat.mul_assoc]
 rw [hm,Nat.add_assoc]
theorem wW (s:ByteArray) (w:World) (hs:s.size≤100000) (hd:AllDig (aC s)):Calls Tryz.prog 73 #[.string s] w (GivesNt w (aU (aC s))):=by
 have H:=aH (aI hs hd)
 clear hs hd
 go_enter Tryz.func73,Tryz.ntmps73
 go_wp2
 go_loopw [0,3] (fun d n wr=>TextAt s w d n wr) (fun d _ _=>nU d)
 case atStart=>exact ⟨s,0,rfl,Nt.zero w,aR _,H.out.2,by rw [Nat.zero_mul,Nat.zero_add],.inl rfl,aB _ _⟩
 case round =>
  obtain ⟨r,a,rfl,hn,hrs,hdig,hval,h19,hb⟩:=hrel
  have hr1:(r.size:Int)≤100000:=by have:=H.out.1;omega
  rcases Nat.eq_zero_or_pos r.size with h0|h0
  ·have hz:decide (0<r.size)=false:=by rw [decide_eq_false_iff_not];omega
   have H0:=aH (aI h0 (aI hn (aI hval hb)))
   clear h0 hn hrs hdig hval h19 hb hr1
   go_wp2
   go_ret
   obtain ⟨h0,hn,hval,hb⟩:=H0.out
   refine ⟨_,rfl,?_,hb⟩
   have:aC r = []:=List.eq_nil_of_length_eq_zero (by rw [aE];exact h0)
   rw [this,h0,aU,dW,Nat.pow_zero,Nat.mul_one,Nat.add_zero] at hval
   rw [← hval]
   exact hn
  ·obtain ⟨e,he⟩:∃ e,e=(r.size-1)%19+1:=⟨_,rfl⟩
   obtain ⟨t1,t2,t3,t4,t5,t6,t7⟩:=text_step hdig hval h19 he h0
   have hle:e≤r.size:=by have:=Nat.mod_le (r.size-1) 19;omega
   have hl19:e≤19:=by have:=Nat.mod_lt (r.size-1) (y:=19) (by omega);omega
   have hei:((r.size:Int)-1).tmod 19+1=e:=by rw [Int.tmod_eq_emod_of_nonneg (by omega)];omega
   have hei2:((r.size:Int)-1)%19+1=e:=by omega
   have hp0:(0:Int)<(r.size:Int):=by omega
   have hle' : (e:Int)≤(r.size:Int):=by omega
   have HT:=aH (aI hn (aI hrs (aI hdig (aI hval (aI h19 (aI hb (aI he (aI t1 (aI t2 (aI t3 (aI t4 (aI t5 (aI t6 t7)))))))))))))
   clear hn hrs hdig hval h19 hb he t1 t2 t3 t4 t5 t6 t7 h0
   go_wp2_with fail
   have hp:=Tryz.strconv_ParseUint_10_at64_ok (r.extract 0 e) (by simp;omega) (aU (aC (r.extract 0 e))) (by
    obtain ⟨_,_,_,_,_,_,_,t1,t2,t3,_⟩:=HT.out
    exact parseUint_ok t3 t1 (Nat.le_trans (Nat.le_of_eq t2) hl19)) wr
   refine hp.mono ?_
   rintro e1 w2 ⟨rfl,hw2⟩
   have hb2:Below wr.heap.size wr w2:=by
    rcases hw2 with rfl|rfl
    ·exact aB _ _
    ·exact Go.Joins.below_bytesWorld _ _ _ _ (aR _)
   have B2:=aH hb2
   clear hp hw2 hb2
   obtain ⟨u,hu⟩:∃ u,u=aU (aC (r.extract 0 e)):=⟨_,rfl⟩
   rw [← hu]
   have hul:u<aD:=by
    obtain ⟨_,_,_,_,_,_,_,t1,t2,t3,_⟩:=HT.out
    have:=gH t3
    rw [t2] at this
    have h2:10^e≤10^19:=Nat.pow_le_pow_right (by omega) hl19
    rw [hu]
    rw [aL]
    omega
   have HU:=aH (aI hu hul)
   clear hu hul
   have hv:Lv 13 a:=by
    obtain ⟨hn,hrs,hdig,hval,_⟩:=HT.out
    refine lv_pow 13 s.size (by have:=H.out.1;omega) (Nat.lt_of_le_of_lt ?_ (by rw [← aE];exact gH H.out.2))
    rw [← hval]
    exact Nat.le_trans (Nat.le_mul_of_pos_right _ (Nat.pow_pos (by omega))) (Nat.le_add_right _ _)
   have HV:=aH hv
   clear hv
   go_wp2_with fail
   refine (cE 10000000000000000000 (by rw [aL];omega) _).mono ?_
   rintro e3 w3 ⟨v3,rfl,q3,b3⟩
   have Q3:=aH (aI q3 b3)
   clear q3 b3
   go_wp2_with fail
   refine (iV (HT.out.1.below (Below.step_trans B2.out Q3.out.2)) Q3.out.1 (HV.out.mono (by omega)) (Lv.one _ (by rw [aL];omega))).mono ?_
   rintro e4 w4 ⟨v4,rfl,q4,b4⟩
   have Q4:=aH (aI q4 b4)
   clear q4 b4
   go_wp2_with fail
   refine (cE u HU.out.2 _).mono ?_
   rintro e5 w5 ⟨v5,rfl,q5,b5⟩
   have Q5:=aH (aI q5 b5)
   clear q5 b5
   go_wp2_with fail
   refine (nt_plus (Q4.out.1.below Q5.out.2) Q5.out.1 ((HV.out.mul (Lv.one (k:=13) _ (by rw [aL];omega))).mono (by omega)) (Lv.one _ HU.out.2)).mono ?_
   rintro e6 w6 ⟨v6,rfl,q6,b6⟩
   have Q6:=aH (aI q6 b6)
   clear q6 b6
   go_wp2
   go_roundw
   case rel =>
    obtain ⟨hn,hrs,hdig,hval,h19,hb,he,t1,t2,t3,t4,t5,t6,t7⟩:=HT.out
    refine ⟨r.extract e r.size,_,rfl,Q6.out.1,by rw [t5];omega,t4,?_,.inr (by rw [t5];exact t6),Below.step_trans hb (Below.step_trans B2.out (Below.step_trans Q3.out.2 (Below.step_trans Q4.out.2 (Below.step_trans Q5.out.2 Q6.out.2))))⟩
    rw [t5,HU.out.1]
    exact t7
   case measure =>
    have:=HT.out.2.2.2.2.2.2.1
    simp [nU]
    omega
def lZ:Nat:=10000000000000000000
theorem jI:lZ=10000000000000000000:=rfl
theorem uR {B:Nat} {e:TypeId} {k:Nat} {v:Value} {n:Nat} {xs:List Value} {w w' : World} (h:w.ownsRow B e k v n xs) (hb:Below w.heap.size w w'):w'.ownsRow B e k v n xs:=by
 obtain ⟨h1,h2⟩:=h
 refine ⟨h1,?_⟩
 rcases h2 with h2|⟨g,cap,cur,e1,e2,e3,e4⟩
 ·exact .inl h2
 ·exact .inr ⟨g,cap,cur,e1,e2,(hb.block g (lt_of_block e3)).trans e3,e4⟩
theorem mA {T e:TypeId} {B b:Nat} {bs:List Value} {w w' : World} (h:Lib.IsBuilder T e B b bs w) (hb:Below w.heap.size w w'):Lib.IsBuilder T e B b bs w':=by
 unfold Lib.IsBuilder Lib.BuilderAt at *
 rcases h with ⟨h1,v,h2,h3,h4⟩|⟨h1,v,h2,h3,h4⟩
 ·exact .inl ⟨h1,v,(hb.block b (lt_of_block h2)).trans h2,uR h3 hb,h4⟩
 ·exact .inr ⟨h1,v,(hb.block b (lt_of_block h2)).trans h2,uR h3 hb,h4⟩
def ChunkAt (w:World) (a k:Nat) (va vs:Value) (wr:World):Prop :=
 ∃ (m:Nat) (ws:List Nat),Nt wr va k∧k=a/lZ^m∧wr.ownsRow w.heap.size 173 1 vs m (ws.map sM)∧(∀ i,i<m→ws[i]?=some (a/lZ^i%lZ))∧(m=0∨0<k)∧Below w.heap.size w wr
theorem chunk_bound {a k m:Nat} (ha:Lv 20 a) (hk:k=a/lZ^m) (h0:m=0∨0<k):m≤2097152:=by
 rcases Nat.lt_or_ge 2097152 m with h|h
 ·exfalso
  have hk0:0<k:=by omega
  rw [hk] at hk0
  have h1:lZ^m≤a:=by
   rcases Nat.lt_or_ge a (lZ^m) with h'|h'
   ·rw [Nat.div_eq_of_lt h'] at hk0;omega
   ·exact h'
  unfold Lv at ha
  obtain ⟨e,he⟩:∃ e,e=2^20:=⟨_,rfl⟩
  rw [← he] at ha
  have h5:(2*e:Nat)=2097152:=by rw [he]
  have h2:lZ^(2*e)≤lZ^m:=Nat.pow_le_pow_right (by rw [jI];omega) (by omega)
  have h3:lZ^(2*e)=(lZ^2)^e:=Nat.pow_mul _ _ _
  have h4:aD^e≤(lZ^2)^e:=Nat.pow_le_pow_left (by rw [aL,jI];omega) _
  rw [← h3] at h4
  exact absurd (Nat.lt_of_lt_of_le ha (Nat.le_trans h4 (Nat.le_trans h2 h1))) (Nat.lt_irrefl _)
 ·exact h
theorem chunk_next {w w2:World} {a k:Nat} {v1 vs' : Value} {m:Nat} {ws:List Nat} (hk:k=a/lZ^m) (hw:∀ i,i<m→ws[i]?=some (a/lZ^i%lZ)) (hl:ws.length=m) (hn:Nt w2 v1 (k/lZ)) (hk0:aD≤k)
 (ho:w2.ownsRow w.heap.size 173 1 vs' (m+1) (ws.map sM ++ [.int .u64 ((k%lZ:Nat):Int)])) (hb:Below w.heap.size w w2):ChunkAt w a (k/lZ) v1 vs' w2:=by
 refine ⟨m+1,ws ++ [k%lZ],hn,?_,?_,?_,.inr ?_,hb⟩
 ·rw [Nat.pow_succ,← Nat.div_div_eq_div_mul,← hk]
 ·rw [List.map_append];exact ho
 ·intro i hi
  rcases Nat.lt_or_ge i m with h|h
  ·rw [List.getElem?_append_left (by omega)];exact hw i h
  ·have:i=m:=by omega
   subst this
   rw [List.getElem?_append_right (by omega),hl,Nat.sub_self,← hk]
   rfl
 ·have:lZ≤aD:=by rw [jI,aL];omega
  exact Nat.div_pos (by omega) (by rw [jI];omega)
theorem sW {w:World} {base:Nat} {e:TypeId} {k:Nat} {v:Value} {n:Nat} {xs:List Value} (h:w.ownsRow base e k v n xs):∀ b,v.ownBlock=some b→base≤b:=by
 rintro b hb
 rcases h.2 with ⟨rfl,_⟩|⟨g,cap,cur,rfl,e2,_⟩
 ·cases hb
 ·injection hb with hb
  rw [← hb];exact e2
theorem row_ne {w:World} {base:Nat} {e:TypeId} {k:Nat} {v:Value} {n:Nat} {xs:List Value} (h:w.ownsRow base e k v n xs):some w.heap.size≠v.ownBlock:=by
 rcases h.2 with ⟨rfl,_⟩|⟨g,cap,cur,rfl,e2,e3,_⟩
 ·intro h;cases h
 ·intro h
  injection h with h
  have h2:w.heap.size=g:=h
  have:=lt_of_block e3
  omega
theorem nt_grown {w w' : World} {v:Value} {a:Nat} {row:Option Nat} (h:Nt w v a) (hg:w.grownBy w' row) (hne:v.ownBlock≠row):Nt w' v a:=by
 obtain ⟨A,n,c,xs,rfl,hr,hd,hn,ha⟩:=h
 refine ⟨A,n,c,xs,rfl,⟨hr.1,hr.2.1,hr.2.2.1,fun hp=>?_⟩,hd,hn,ha⟩
 obtain ⟨ad,e,hl,hc⟩:=hr.2.2.2 hp
 subst e
 exact ⟨ad,rfl,Nat.lt_of_lt_of_le hl hg.size,fun j x hj=>hg.cell (hc j x hj) (by rw [bT];exact hne)⟩
theorem yX (b o j:Nat):(⟨b,o,none⟩:Addr).add j=⟨b,o+j,none⟩:=Lib.add_plain b o j
theorem row_rd {w:World} {base m:Nat} {e:TypeId} {v:Value} {ws:List Nat} (h:w.ownsRow base e 1 v m (ws.map sM)):∃ A c,v = .slice A m c∧Rd w A m c ws:=by
 obtain ⟨h1,h2⟩:=h
 have hl:ws.length=m:=by simpa using h1
 rcases h2 with ⟨rfl,rfl⟩|⟨g,cap,cur,rfl,e2,e3,e4,e5,e6,e7⟩
 ·have:ws = []:=List.eq_nil_of_length_eq_zero hl
  subst this
  exact ⟨none,0,rfl,Rd.nil⟩
 ·refine ⟨_,cap,rfl,hl,e4,e5,fun _=>⟨_,rfl,lt_of_block e3,fun j x hx=>?_⟩⟩
  rw [yX,aA e3,← Array.getElem?_toList]
  have hj:(cur.toList.take (m*1))[0+j]?=some (.int .u64 (x:Int)):=by rw [e7,Nat.zero_add,List.getElem?_map,hx];rfl
  rw [List.getElem?_take] at hj
  split at hj
  ·exact hj
  ·cases hj
theorem new_builder (w:World) (T e:TypeId):Lib.IsBuilder T e w.heap.size w.heap.size [] (w.alloc (.cells #[.pointer none,.slice none 0 0] T)) :=
 .inl ⟨aR _,_,heap_alloc_new w _,⟨rfl,.inl ⟨rfl,rfl⟩⟩,by simp [Value.ownBlock]⟩
theorem dsize (l:List UInt8):(⟨l.toArray⟩:ByteArray).size=l.length:=by simp [ByteArray.size]
theorem rep_one (n:Nat):Lib.repeatL [48] n=List.replicate n 48:=by
 induction n with
 | zero=>rfl
 | succ n ih=>rw [Lib.repeatL,ih,List.replicate_succ];rfl
theorem dec_len20 {a:Nat} (ha:Lv 20 a):(Lib.decDigits a).length≤20971520:=by
 unfold Lv at ha
 obtain ⟨e,he⟩:∃ e,e=2^20:=⟨_,rfl⟩
 rw [← he] at ha
 have h4:aD^e≤(10^20)^e:=Nat.pow_le_pow_left (by rw [aL];omega) _
 rw [← Nat.pow_mul] at h4
 have:(20*e:Nat)=20971519+1:=by rw [he]
 rw [this] at h4
 exact lY 20971519 a (Nat.lt_of_lt_of_le ha h4)
theorem chunk_text {a j x:Nat} (hx:x=a/lZ^j%lZ) (hp:0<a/lZ^(j+1)):(Lib.decDigits x).length≤19 ∧
 Lib.decDigits (a/lZ^(j+1))++(List.replicate (19-(Lib.decDigits x).length) 48++Lib.decDigits x)=Lib.decDigits (a/lZ^j):=by
 have hxl:x<10000000000000000000:=by rw [hx];exact Nat.mod_lt _ (by rw [jI];omega)
 obtain ⟨h1,h2⟩:=dec_chunk hp hxl
 refine ⟨h1,?_⟩
 rw [← h2]
 congr 1
 rw [hx,Nat.pow_succ,← Nat.div_div_eq_div_mul,← jI]
 have:=Nat.div_add_mod (a/lZ^j) lZ
 rw [Nat.mul_comm] at this
 exact this
theorem text_any (v:Value) (a:Nat) (w:World) (h:Nt w v a) (ha:Lv 20 a) (hlaid:Laid w):Calls Tryz.prog 247 #[v] w fun e w'=>e = .returned (.string ⟨(Lib.decDigits a).toArray⟩)∧Below w.heap.size w w':=by
 have H:=aH (aI h (aI ha hlaid))
 clear h ha hlaid
 obtain ⟨i0,hi,hz0,hz1,hz2⟩:=info_parts eR
 have HI:=aH (aI hi (aI hz0 (aI hz1 hz2)))
 clear hi hz0 hz1 hz2
 go_enter Tryz.func247,Tryz.ntmps247
 go_wp2
 go_loopg [0,3] a (fun k va vs wr=>ChunkAt w a k va vs wr)
 case atStart=>exact ⟨0,[],H.out.1,by simp,⟨rfl,.inl ⟨rfl,rfl⟩⟩,fun i hi=>absurd hi (by omega),.inl rfl,aB _ _⟩
 case round =>
  obtain ⟨m,ws,hn,hk,hrow,hws,hk0,hb⟩:=hrel
  have HM:=aH (chunk_bound H.out.2.1 hk hk0)
  have hlen:ws.length=m:=by have:=hrow.1;simpa using this
  have hlvk:Lv 20 gk:=H.out.2.1.le (by rw [hk];exact Nat.div_le_self _ _)
  obtain ⟨A,n,c,xs,rfl,hr,hd,hno,hval⟩:=id hn
  have hnc:n≤c:=hr.cap
  have hcm:c≤9223372036854775807:=hr.2.2.1
  by_cases h1:1<n
  ·have hbig:aD≤gk:=by
    rcases Nat.lt_or_ge gk aD with hlt|hge
    ·exfalso
     have:=aW eH hno (L:=1) (by rw [hval,Nat.pow_one];exact hlt)
     rw [hr.len] at this
     omega
    ·exact hge
   have HC:=aH (aI hn (aI hk (aI hrow (aI hws (aI hlen (aI hlvk (aI hbig hb)))))))
   clear hr hd hno hval hn hk hrow hws hk0 hb hlen hlvk hbig
   go_wp2_with fail
   refine (sU (d:=10000000000000000000) HC.out.1 (HC.out.2.2.2.2.2.1.mono (by omega)) (by omega) (by rw [aL];omega)).mono ?_
   rintro e w2 ⟨v1,rfl,q1,q0,q2⟩
   obtain ⟨r,hr⟩:∃ r,r=gk%10000000000000000000:=⟨_,rfl⟩
   rw [← hr]
   have Q:=aH (aI q1 (aI q2 (aI hr q0)))
   have hz2:wr.heap.size≤w2.heap.size:=q2.size
   have hown2:=aH (uR HC.out.2.2.1 q2)
   clear q1 q2 hr q0
   go_wp2_with (at_builtin;refine wpList_append_own _ rfl _ _ 105 rfl w.heap.size 173 i0 (.int .u64 0) 1 8 Tryz.underlying105 HI.out.1 HI.out.2.1 HI.out.2.2.1 HI.out.2.2.2 rfl (by decide) _ _ _ rfl (hown2.out.alloc _) ⟨w2.heap.size,0,none⟩ 1 1 [.int .u64 (r:Int)] rfl rfl ?c1 ?c2 ?c3 ?c4 ?c5 ?_)
   case c1 =>
    intro j u hj
    match j with
    | 0 =>
      simp only [List.getElem?_cons_zero,Option.some.injEq] at hj
      subst hj
      exact aA (heap_alloc_new w2 _) 0
    | j+1=>simp at hj
   case c2=>intro u hu;simp at hu;subst hu;rfl
   case c3=>have:=HM.out;show m+1≤9223372036854775807;omega
   case c4=>have:=HM.out;omega
   case c5=>have:=HC.out.2.2.2.2.2.2.2.size;simp;omega
   intro v' w3 hr3 hg3 _
   have hbx:Below w.heap.size w w3:=by
    refine Below.grown ((HC.out.2.2.2.2.2.2.2.trans (Q.out.2.1.mono HC.out.2.2.2.2.2.2.2.size)).alloc (by have:=HC.out.2.2.2.2.2.2.2.size;omega) _) hg3 (by have:=HC.out.2.2.2.2.2.2.2.size;simp;omega) (sW HC.out.2.2.1)
   have hnx:Nt w3 v1 (gk/lZ):=by
    refine nt_grown (Nt.below Q.out.1 ((aB _ _).alloc (aR _) _)) hg3 ?_
    rw [Q.out.2.2.2]
    exact row_ne HC.out.2.2.1
   have HX:=aH (chunk_next HC.out.2.1 HC.out.2.2.2.1 HC.out.2.2.2.2.1 hnx HC.out.2.2.2.2.2.2.1 (by have:=Q.out.2.2.1;rw [jI,← this];exact hr3) hbx)
   clear hr3 hg3 hbx hnx
   go_wp2
   go_roundg (gk/lZ)
   case measure=>have:=HC.out.2.2.2.2.2.2.1;exact Nat.div_lt_self (by rw [aL] at this;omega) (by rw [jI];omega)
   case rel=>exact HX.out
  ·obtain ⟨W0,rfl⟩:∃ W0,W0=wr:=⟨_,rfl⟩
   have hsmall:gk<aD:=by
    rw [← hval]
    have:=cA hd
    rw [hr.len] at this
    exact Nat.lt_of_lt_of_le this (by rw [show aD=aD^1 from (Nat.pow_one _).symm];rw [← Nat.pow_mul,Nat.one_mul];exact Nat.pow_le_pow_right bE (by omega))
   obtain ⟨A3,c3,rfl,hrd⟩:=row_rd hrow
   have hc3:m≤c3:=hrd.cap
   have hc3m:c3≤9223372036854775807:=hrd.2.2.1
   have hlw:Laid W0:=H.out.2.2.below hb
   have HC:=aH (aI hn (aI hk (aI hrd (aI hws (aI hk0 (aI hsmall (aI hlw hb)))))))
   clear hr hd hno hval hn hk hrow hws hk0 hb hlen hlvk hsmall hrd hlw
   go_wp2_with fail
   refine (rV (HC.out.1.below ((aB _ _).alloc (aR _) _))).mono ?_
   rintro e w' ⟨rfl,rfl⟩
   rw [Nat.mod_eq_of_lt HC.out.2.2.2.2.2.1]
   go_wp2_with fail
   refine (oZ gk (by have:=HC.out.2.2.2.2.2.1;rw [aL] at this;exact this) _ (HC.out.2.2.2.2.2.2.1.below ((aB _ _).alloc (aR _) _))).mono ?_
   rintro e w3 ⟨rfl,q3⟩
   have hB3:Lib.IsBuilder 230 5 W0.heap.size W0.heap.size [] w3:=mA (new_builder W0 _ _) q3
   have hb3:Below W0.heap.size W0 w3:=((aB _ _).alloc (aR _) _).trans (q3.mono (by simp))
   have Q3:=aH (aI hB3 hb3)
   clear q3 hB3 hb3
   go_wp2_with fail
   refine (nR W0.heap.size W0.heap.size [] _ w3 Q3.out.1 (by have:=dec_len20 (HC.out.2.1▸H.out.2.1.le (Nat.div_le_self a (lZ^m)):Lv 20 gk);rw [dsize];simp;omega) Q3.out.2.size).mono ?_
   rintro e w4 ⟨rfl,q4,b4⟩
   have q4' : Lib.IsBuilder 230 5 W0.heap.size W0.heap.size (Lib.byteCells (Lib.decDigits (a/lZ^m))) w4:=by
    rw [← HC.out.2.1]
    exact .inr q4
   have Q4:=aH (aI q4' (Q3.out.2.trans b4))
   clear q4 q4' b4
   go_wp2
   go_loopw [7] (fun i w5 => ∃ j:Nat,j≤m∧i = .int .i64 ((j:Int)-1)∧Lib.IsBuilder 230 5 W0.heap.size W0.heap.size (Lib.byteCells (Lib.decDigits (a/lZ^j))) w5∧Below W0.heap.size W0 w5) (fun i _=>(intOf i+1).toNat)
   case atStart=>exact ⟨m,aR _,rfl,Q4.out.1,Q4.out.2⟩
   case round =>
    obtain ⟨j,hj,rfl,hbu,hb5⟩:=hrel
    have HJ:=aH (aI hj (aI hbu hb5))
    rcases Nat.eq_zero_or_pos j with rfl|hj0
    ·simp only [show (((0:Nat):Int)-1) = -1 from rfl]
     clear hj hbu hb5
     go_wp2_with fail
     refine (Tryz.Builder_String_any _ _ _ _ HJ.out.2.1 HJ.out.2.2.size).mono ?_
     rintro e w6 ⟨rfl,b6⟩
     have B6:=aH b6
     clear b6
     go_wp2
     go_ret
     exact ⟨rfl,HC.out.2.2.2.2.2.2.2.trans ((HJ.out.2.2.trans B6.out).mono HC.out.2.2.2.2.2.2.2.size)⟩
    ·obtain ⟨t,rfl⟩:∃ t,j=t+1:=⟨j-1,by omega⟩
     obtain ⟨ad,x,hA,hadl,hx,hcx⟩:=(HC.out.2.2.1.below hb5).at_ (k:=t) (by omega)
     subst hA
     have hx2:x=a/lZ^t%lZ:=by
      have:=HC.out.2.2.2.1 t (by omega)
      rw [hx] at this
      injection this
     have hq0:0<a/lZ^(t+1):=by
      have hk:=HC.out.2.2.2.2.1
      have h1:=HC.out.2.1
      have h2:0<a/lZ^m:=by rw [← h1];omega
      have h3:lZ^(t+1)≤lZ^m:=Nat.pow_le_pow_right (by rw [jI];omega) hj
      have h4:a/lZ^m≤a/lZ^(t+1):=Nat.div_le_div_left h3 (Nat.pow_pos (by rw [jI];omega))
      omega
     obtain ⟨hl19,hcat⟩:=chunk_text hx2 hq0
     have hxl:x<18446744073709551616:=by
      have:=Nat.mod_lt (a/lZ^t) (show 0<lZ by rw [jI];omega)
      rw [← hx2,jI] at this
      omega
     have hL19:((Lib.decDigits x).length:Int)≤19:=by omega
     have hL:True:=trivial
     have hidx:(((t+1:Nat):Int)-1)=t:=by omega
     have ht:(t:Int)<m:=by omega
     have HT:=aH (aI hcat (aI hxl (aI hL (aI hl19 (HC.out.2.2.2.2.2.2.1.below hb5)))))
     simp only [hidx]
     clear hidx hx hx2 hq0 hl19 hcat hxl hj hbu hb5 hj0
     go_wp2_with fail
     refine (oZ x HT.out.2.1 _ HT.out.2.2.2.2).mono ?_
     rintro e w6 ⟨rfl,b6⟩
     have B6:=aH b6
     clear b6
     have hc19:(19:Int)-(Lib.decDigits x).length=((19-(Lib.decDigits x).length:Nat):Int):=by omega
     have hb6:Below W0.heap.size W0 w6:=HJ.out.2.2.trans (B6.out.mono HJ.out.2.2.size)
     have hB6:=mA HJ.out.2.1 B6.out
     have Q6:=aH (aI hB6 hb6)
     have hlen0:(Lib.decDigits (a/lZ^(t+1))).length≤20971520:=dec_len20 (H.out.2.1.le (Nat.div_le_self _ _))
     have HL0:=aH hlen0
     clear hb6 hB6 hlen0
     go_wp2_with fail
     refine (Tryz.strings_Repeat ⟨#[48]⟩ (19-(Lib.decDigits x).length) w6 (by omega) (by simp [ByteArray.size];omega)).mono ?_
     rintro e w7 ⟨rfl,b7⟩
     have B7:=aH b7
     clear b7
     go_wp2_with fail
     have hrep:Lib.repeatL (⟨#[48]⟩:ByteArray).data.toList (19-(Lib.decDigits x).length)=List.replicate (19-(Lib.decDigits x).length) 48:=rep_one _
     rw [hrep]
     refine (nR W0.heap.size W0.heap.size _ _ w7 (mA Q6.out.1 B7.out) (by rw [dsize,Lib.byteCells_length,List.length_replicate];have:=HL0.out;omega) (Nat.le_trans Q6.out.2.size B7.out.size)).mono ?_
     rintro e w8 ⟨rfl,q8,b8⟩
     have Q8:=aH (aI (show Lib.IsBuilder 230 5 W0.heap.size W0.heap.size _ w8 from .inr q8) (Q6.out.2.trans ((B7.out.mono Q6.out.2.size).trans b8)))
     clear q8 b8 hrep
     go_wp2_with fail
     refine (nR W0.heap.size W0.heap.size _ _ w8 Q8.out.1 (by
      rw [dsize,List.length_append,Lib.byteCells_length,Lib.strCells_length,dsize,List.length_replicate]
      have:=HL0.out
      have:=HT.out.2.2.2.1
      omega) Q8.out.2.size).mono ?_
     rintro e w9 ⟨rfl,q9,b9⟩
     have Q9:=aH (aI q9 (Q8.out.2.trans b9))
     clear q9 b9
     go_wp2
     go_roundw
     case rel =>
      refine ⟨t,by have:=HJ.out.1;omega,rfl,.inr ?_,Q9.out.2⟩
      have:=Q9.out.1
      rw [Lib.strCells_eq,Lib.strCells_eq,← Lib.byteCells_append,← Lib.byteCells_append,List.append_assoc] at this
      simp only [List.toList_toArray] at this
      rw [HT.out.1] at this
      exact this
     case measure=>simp [intOf]
def Fr (w:World) (v:Value) (q:Rat):Prop := ∃ s1 s2,v = .agg #[.bool (decide (q.num<0)),s1,s2]∧Nt w s1 q.num.natAbs∧Nt w s2 q.den
theorem Fr.of {w:World} {neg:Bool} {n d:Nat} {s1 s2:Value} {q:Rat} (h:Parts q neg n d) (h1:Nt w s1 n) (h2:Nt w s2 d):Fr w (.agg #[.bool neg,s1,s2]) q:=by
 obtain ⟨rfl,rfl,rfl⟩:=h
 exact ⟨s1,s2,rfl,h1,h2⟩
theorem Fr.ext {K:Value→Bool} (hK:∀ x,K (.int .u64 x)=true) {w w' : World} {v:Value} {q:Rat} (h:Fr w v q) (hx:Ext K w w'):Fr w' v q:=by
 obtain ⟨s1,s2,e,h1,h2⟩:=h
 exact ⟨s1,s2,e,h1.ext hK hx,h2.ext hK hx⟩
theorem Fr.below {w w' : World} {v:Value} {q:Rat} (h:Fr w v q) (hb:Below w.heap.size w w'):Fr w' v q:=by
 obtain ⟨s1,s2,e,h1,h2⟩:=h
 exact ⟨s1,s2,e,h1.below hb,h2.below hb⟩
def fM (q:Rat):Sp:=fun v w=>Fr w v q
theorem aM {K:Value→Bool} (hK:∀ x,K (.int .u64 x)=true) (q:Rat):Stable K (fM q):=fun _ _ _ h hx=>Fr.ext hK h hx
def GivesFr (w:World) (q:Rat) (e:Ending) (w' : World):Prop := ∃ v,e = .returned v∧Fr w' v q∧Below w.heap.size w w'
theorem GivesFr.ty {P:Program} {f:FuncId} {args:Array Value} {w:World} {q:Rat} (h:Calls P f args w (GivesFr w q)):Calls P f args w (TyPost w (fM q)) :=
 h.mono fun _ _ ⟨v,h1,h2,h3⟩=>⟨v,h1,h3,h2⟩
def Lf (k:Nat) (q:Rat):Prop:=Lv k q.num.natAbs∧Lv k q.den
theorem Nt.form {w:World} {v:Value} {a:Nat} (h:Nt w v a):∃ A n c,v = .slice A n c:=by
 obtain ⟨A,n,c,_,rfl,_⟩:=h
 exact ⟨A,n,c,rfl⟩
theorem dM {w:World} {g:Nat} {a b c:Value} {t:TypeId} (h:w.heap[g]?=some (.cells #[a,b,c] t (0,0))) :
 (w.cell? ⟨g,0,none⟩=some a∧w.cell? ⟨g,1,none⟩=some b∧w.cell? ⟨g,2,none⟩=some c)∧(w.frozen? ⟨g,0,none⟩=false∧w.frozen? ⟨g,1,none⟩=false∧w.frozen? ⟨g,2,none⟩=false):=by
 refine ⟨⟨aA h 0,aA h 1,aA h 2⟩,?_,?_,?_⟩ <;> simp [World.frozen?,h]
theorem aK {w w' : World} {g:Nat} {o:Obj} (hb:Below w.heap.size w w') (h:w.heap[g]?=some o):w'.heap[g]?=some o:=(hb.block g (lt_of_block h)).trans h
theorem Ext.only {K:Value→Bool} {w w' : World} {g:Nat} {o:Obj} (hg:w.grownBy w' (some g)) (h0:w.heap[g]?=some o) (hc:hotObj K o=false):Ext K w w':=by
 refine ⟨hg.size,fun k o' hk ho=>?_⟩
 by_cases e:k=g
 ·subst e
  rw [h0] at hk
  injection hk with hk
  subst hk
  rw [hc] at ho
  cases ho
 ·rw [hg.block k (lt_of_block hk) (fun h=>e (by injection h))];exact hk
theorem rE (w:World) (g:Nat) (a b c:Value):w.grownBy (((w.setCell ⟨g,0,none⟩ a).setCell ⟨g,1,none⟩ b).setCell ⟨g,2,none⟩ c) (some g) :=
 dA (dA (eO _ _ _ _) (eO _ _ _ _)) (eO _ _ _ _)
theorem sX (w:World):Calls Tryz.prog 133 #[] w (GivesFr w 0):=by
 go_enter Tryz.func133,Tryz.ntmps133
 go_wp2_with fail
 refine (cE 1 (by rw [aL];omega) _).mono ?_
 rintro e w2 ⟨v1,rfl,q1,b1⟩
 obtain ⟨A1,n1,c1,rfl⟩:=q1.form
 obtain ⟨⟨h0,h1,h2⟩,f0,f1,f2⟩:=dM (aK b1 (heap_alloc_new w _))
 have B:=aH (aK b1 (heap_alloc_new w _))
 have Q:=aH (aI q1 b1)
 clear q1 b1
 go_wp2
 refine bodyPost_ret (v := .agg #[.bool false,.slice none 0 0,.slice A1 n1 c1]) (by simp [results,Tryz.results133,go_sem,h0,h1,h2]) rfl ⟨_,rfl,?_,?_⟩
 ·exact ((Fr.of Parts.zero (Nt.zero w2) Q.out.1).ext (K:=Ku) (fun _=>rfl) (Ext.only (rE _ _ _ _ _) B.out (by simp [hotObj,Ku])))
 ·repeat (first|exact (Below.step_trans ((aB _ _).alloc (aR _) _) Q.out.2)|(refine Below.setCell ?_ (by first|omega|(simp <;> omega)) _)|(refine Below.alloc ?_ (by first|omega|(simp <;> omega)) _)|(refine Below.drew ?_)|exact aB _ _)
theorem ratio_zero (neg:Bool) (d:Nat) (v v' : Value) (w:World) (h:Nt w v 0) (h' : Nt w v' d):Calls Tryz.prog 72 #[.bool neg,v,v'] w (GivesFr w 0):=by
 have H:=aH (aI h h')
 obtain ⟨A,n,c,rfl⟩:=h.form
 obtain ⟨A',n',c',rfl⟩:=h'.form
 clear h h'
 go_enter Tryz.func72,Tryz.ntmps72
 go_wp2_with fail
 refine (dN (H.out.1.below ((aB _ _).alloc (aR _) _))).mono ?_
 rintro e w1 ⟨rfl,rfl⟩
 go_wp2_with fail
 refine (sX _).mono ?_
 rintro e w2 ⟨v1,rfl,⟨s1,s2,rfl,q1,q2⟩,b1⟩
 obtain ⟨A1,n1,c1,rfl⟩:=q1.form
 obtain ⟨A2,n2,c2,rfl⟩:=q2.form
 obtain ⟨⟨h0,h1,h2⟩,f0,f1,f2⟩:=dM (aK b1 (heap_alloc_new w _))
 have B:=aH (aK b1 (heap_alloc_new w _))
 have Q:=aH (aI q1 (aI q2 b1))
 clear q1 q2 b1
 go_wp2
 refine bodyPost_ret (v := .agg #[.bool (decide ((0:Rat).num<0)),.slice A1 n1 c1,.slice A2 n2 c2]) (by simp [results,Tryz.results72,go_sem,h0,h1,h2]) rfl ⟨_,rfl,?_,?_⟩
 ·exact (Fr.ext (K:=Ku) (fun _=>rfl) ⟨_,_,rfl,Q.out.1,Q.out.2.1⟩ (Ext.only (rE _ _ _ _ _) B.out (by simp [hotObj,Ku])))
 ·repeat (first|exact (Below.step_trans ((aB _ _).alloc (aR _) _) Q.out.2.2)|(refine Below.setCell ?_ (by first|omega|(simp <;> omega)) _)|(refine Below.alloc ?_ (by first|omega|(simp <;> omega)) _)|(refine Below.drew ?_)|exact aB _ _)
theorem wX (a b:Bool) (x y:Nat) (v v' : Value) (w:World) (h:Nt w v x) (h' : Nt w v' y) (hx:Lv 40 x) (hy:Lv 40 y) :
 Calls Tryz.prog 213 #[.bool a,v,.bool b,v'] w fun e w' => ∃ neg u,e = .returned (.tuple #[.bool neg,u])∧sg neg (sg a x+sg b y).natAbs=sg a x+sg b y∧Nt w' u (sg a x+sg b y).natAbs∧Below w.heap.size w w':=by
 have H:=aH (aI h (aI h' (aI hx hy)))
 obtain ⟨A,n,c,rfl⟩:=h.form
 obtain ⟨A',n',c',rfl⟩:=h'.form
 clear h h' hx hy
 by_cases hab:a=b
 ·subst hab
  have hz:(a==a)=true:=by simp
  go_enter Tryz.func213,Tryz.ntmps213
  go_wp2_with fail
  refine (nt_plus H.out.1 H.out.2.1 H.out.2.2.1 H.out.2.2.2).mono ?_
  rintro e w2 ⟨v1,rfl,q1,b1⟩
  have Q:=aH (aI q1 b1)
  clear q1 b1
  go_wp2
  go_ret2
  have hs:(sg a x+sg a y).natAbs=x+y:=by unfold sg;split <;> omega
  refine ⟨a,v1,rfl,?_,by rw [hs];exact Q.out.1,Q.out.2⟩
  rw [hs];unfold sg;split <;> omega
 ·have hz:(a==b)=false:=by simpa using hab
  have hba:sg b y = -(sg a y):=by cases a <;> cases b <;> simp_all [sg]
  have HA:=aH (aI hab hba)
  clear hab hba
  by_cases hlt:x<y
  ·have hc:=rR H.out.1 H.out.2.1
   rw [show bW x y = -1 from by unfold bW;rw [if_pos (by omega)]] at hc
   have HL:=aH (aI hlt hc)
   clear hlt hc
   go_enter Tryz.func213,Tryz.ntmps213
   go_wp2_with fail
   refine HL.out.2.mono ?_
   rintro e w1 ⟨rfl,b0⟩
   have B0:=aH b0
   clear b0
   go_wp2_with fail
   refine (nt_minus (H.out.2.1.below B0.out) (H.out.1.below B0.out) H.out.2.2.2 (Nat.le_of_lt HL.out.1)).mono ?_
   rintro e w2 ⟨v1,rfl,q1,b1⟩
   have Q:=aH (aI q1 b1)
   clear q1 b1
   go_wp2
   go_ret2
   obtain ⟨hab,hba⟩:=HA.out
   have hl:=HL.out.1
   have hs:(sg a x+sg b y).natAbs=y-x:=by rw [hba];unfold sg;split <;> omega
   refine ⟨b,v1,rfl,?_,by rw [hs];exact Q.out.1,Below.step_trans B0.out Q.out.2⟩
   rw [hs]
   unfold sg
   cases a <;> cases b <;> simp_all <;> omega
  ·have hc:=rR H.out.1 H.out.2.1
   have hcc:¬ bW x y<0:=by unfold bW;rw [if_neg (by omega)];split <;> omega
   generalize bW (x:Int) y=cz at hc hcc
   have HL:=aH (aI hlt hc)
   clear hlt hc
   go_enter Tryz.func213,Tryz.ntmps213
   go_wp2_with fail
   refine HL.out.2.mono ?_
   rintro e w1 ⟨rfl,b0⟩
   have B0:=aH b0
   clear b0
   go_wp2_with fail
   refine (nt_minus (H.out.1.below B0.out) (H.out.2.1.below B0.out) H.out.2.2.1 (Nat.le_of_not_lt HL.out.1)).mono ?_
   rintro e w2 ⟨v1,rfl,q1,b1⟩
   have Q:=aH (aI q1 b1)
   clear q1 b1
   go_wp2
   go_ret2
   obtain ⟨hab,hba⟩:=HA.out
   have hl:=HL.out.1
   have hs:(sg a x+sg b y).natAbs=x-y:=by rw [hba];unfold sg;split <;> omega
   refine ⟨a,v1,rfl,?_,by rw [hs];exact Q.out.1,Below.step_trans B0.out Q.out.2⟩
   rw [hs]
   unfold sg
   cases a <;> cases b <;> simp_all <;> omega
theorem uS (neg:Bool) (n d:Nat) (v v' : Value) (w:World) (h:Nt w v n) (h' : Nt w v' d) (hn:Lv 40 n) (hd:Lv 40 d) (hd0:0<d):Calls Tryz.prog 72 #[.bool neg,v,v'] w (GivesFr w (mkRat (sg neg n) d)):=by
 by_cases h0:n=0
 ·subst h0
  rw [sg_zero,Rat.zero_mkRat]
  exact ratio_zero neg d v v' w h h'
 have H:=aH (aI h (aI h' (aI hn (aI hd (aI hd0 h0)))))
 have hnz:decide (n=0)=false:=by simpa using h0
 obtain ⟨A,k,c,rfl⟩:=h.form
 obtain ⟨A',k',c',rfl⟩:=h'.form
 clear h h' hn hd hd0 h0
 have b0:Below w.heap.size w (w.alloc (.cells #[.bool false,.slice none 0 0,.slice none 0 0] 108)):=(aB _ _).alloc (aR _) _
 have B0:=aH b0
 have hblk:=aH (heap_alloc_new w (.cells #[.bool false,.slice none 0 0,.slice none 0 0] 108))
 clear b0
 by_cases h1:d=1
 ·have hz1:decide (d=1)=true:=by simpa using h1
  have H1:=aH h1
  clear h1
  go_enter Tryz.func72,Tryz.ntmps72
  go_wp2_with fail
  refine (dN (H.out.1.below B0.out)).mono ?_
  rintro e w1 ⟨rfl,rfl⟩
  go_wp2_with fail
  refine (pH (H.out.2.1.below B0.out)).mono ?_
  rintro e w1 ⟨rfl,rfl⟩
  obtain ⟨⟨h0,h1,h2⟩,f0,f1,f2⟩:=dM hblk.out
  go_wp2
  refine bodyPost_ret (v := .agg #[.bool neg,.slice A k c,.slice A' k' c']) (by simp [results,Tryz.results72,go_sem,h0,h1,h2]) rfl ⟨_,rfl,?_,(aB _ _).alloc (aR _) _⟩
  exact Fr.of (Parts.reduced H.out.2.2.2.2.2 (by rw [H1.out];omega) (by rw [H1.out,Nat.gcd_one_right])) (H.out.1.below ((aB _ _).alloc (aR _) _)) (H.out.2.1.below ((aB _ _).alloc (aR _) _))
 ·have hz1:decide (d=1)=false:=by simpa using h1
  clear h1
  go_enter Tryz.func72,Tryz.ntmps72
  go_wp2_with fail
  refine (dN (H.out.1.below B0.out)).mono ?_
  rintro e w1 ⟨rfl,rfl⟩
  go_wp2_with fail
  refine (pH (H.out.2.1.below B0.out)).mono ?_
  rintro e w1 ⟨rfl,rfl⟩
  go_wp2_with fail
  refine (xH _ _ n d _ (H.out.1.below B0.out) (H.out.2.1.below B0.out) H.out.2.2.1 H.out.2.2.2.1 (.inr H.out.2.2.2.2.1)).mono ?_
  rintro e w2 ⟨vg,rfl,qg,b2⟩
  obtain ⟨Ag,kg,cg,rfl⟩:=qg.form
  have hb2:Below w.heap.size w w2:=Below.step_trans B0.out b2
  have hk2:=aK b2 hblk.out
  have hg0:0<Nat.gcd n d:=Nat.gcd_pos_of_pos_right _ H.out.2.2.2.2.1
  have hgl:Lv 40 (Nat.gcd n d):=H.out.2.2.2.1.le (Nat.gcd_le_right _ H.out.2.2.2.2.1)
  have HG:=aH (aI qg (aI hb2 (aI hk2 (aI hg0 hgl))))
  clear qg b2 hb2 hk2 hg0 hgl
  by_cases hg1:Nat.gcd n d=1
  ·have hzg:decide (Nat.gcd n d=1)=true:=by simpa using hg1
   have HG1:=aH hg1
   clear hg1
   obtain ⟨⟨h0,h1,h2⟩,f0,f1,f2⟩:=dM HG.out.2.2.1
   go_wp2_with (go_at_call 110;refine (pH HG.out.1).mono ?_;rintro e w1 ⟨rfl,rfl⟩)
   refine bodyPost_ret (v := .agg #[.bool neg,.slice A k c,.slice A' k' c']) (by simp [results,Tryz.results72,go_sem,h0,h1,h2]) rfl ⟨_,rfl,?_,?_⟩
   ·exact Fr.ext (K:=Ku) (fun _=>rfl) (Fr.of (Parts.reduced H.out.2.2.2.2.2 (Nat.ne_of_gt H.out.2.2.2.2.1) HG1.out) (H.out.1.below HG.out.2.1) (H.out.2.1.below HG.out.2.1)) (Ext.only (rE _ _ _ _ _) HG.out.2.2.1 (by simp [hotObj,Ku]))
   ·repeat (first|exact HG.out.2.1|(refine Below.setCell ?_ (by first|omega|(simp <;> omega)) _)|(refine Below.alloc ?_ (by first|omega|(simp <;> omega)) _)|(refine Below.drew ?_)|exact aB _ _)
  ·have hzg:decide (Nat.gcd n d=1)=false:=by simpa using hg1
   clear hg1
   go_wp2_with (go_at_call 110;refine (pH HG.out.1).mono ?_;rintro e w1 ⟨rfl,rfl⟩)
   refine (fL (H.out.1.below HG.out.2.1) HG.out.1 H.out.2.2.1 HG.out.2.2.2.1).mono ?_
   rintro e w3 ⟨v1,u1,rfl,q1,_,b3⟩
   obtain ⟨A1,k1,c1,rfl⟩:=q1.form
   have Q3:=aH (aI q1 (aI b3 (aI (Below.step_trans HG.out.2.1 b3) (aK b3 HG.out.2.2.1))))
   clear q1 b3
   go_wp2_with fail
   refine (fL (H.out.2.1.below Q3.out.2.2.1) (HG.out.1.below Q3.out.2.1) H.out.2.2.2.1 HG.out.2.2.2.1).mono ?_
   rintro e w4 ⟨v2,u2,rfl,q2,_,b4⟩
   obtain ⟨A2,k2,c2,rfl⟩:=q2.form
   have Q4:=aH (aI q2 (aI b4 (aI (Below.step_trans Q3.out.2.2.1 b4) (aK b4 Q3.out.2.2.2))))
   clear q2 b4
   obtain ⟨⟨h0,h1,h2⟩,f0,f1,f2⟩:=dM Q4.out.2.2.2
   go_wp2
   refine bodyPost_ret (v := .agg #[.bool neg,.slice A1 k1 c1,.slice A2 k2 c2]) (by simp [results,Tryz.results72,go_sem,h0,h1,h2]) rfl ⟨_,rfl,?_,?_⟩
   ·exact Fr.ext (K:=Ku) (fun _=>rfl) (Fr.of (Parts.reduce H.out.2.2.2.2.2 (Nat.ne_of_gt H.out.2.2.2.2.1)) (Q3.out.1.below Q4.out.2.1) Q4.out.1) (Ext.only (rE _ _ _ _ _) Q4.out.2.2.2 (by simp [hotObj,Ku]))
   ·repeat (first|exact Q4.out.2.2.1|(refine Below.setCell ?_ (by first|omega|(simp <;> omega)) _)|(refine Below.alloc ?_ (by first|omega|(simp <;> omega)) _)|(refine Below.drew ?_)|exact aB _ _)
attribute [local simp] known specOf Kd.spec Sp.is isVar Oper.looksAt Op.operands Call.operands Act.eval
def Kn:Value→Bool
 | .int .u64 _=>true
 | .bool _=>true
 | _=>false
theorem aZ {w:World} {g:Nat} {cs:Array Value} {t:TypeId} (h:w.heap[g]?=some (.cells cs t (0,0))) (i:Nat):w.frozen? ⟨g,i,none⟩=false:=by
 simp [World.frozen?,h]
theorem dC {w:World} {b i:Nat} {cs:Array Value} {t:TypeId} {fr:Nat×Nat} (h:w.heap[b]?=some (.cells cs t fr)) (u:Value):Turned b (.cells (cs.setIfInBounds i u) t fr) w (w.setCell ⟨b,i,none⟩ u):=by
 refine ⟨rfl,rfl,rfl,by simp [World.setCell],?_,fun k hk=>Below.heap_setCell w _ u k hk⟩
 simp only [World.setCell,Array.getElem?_modify,h]
 simp
theorem Turned.trans {b:Nat} {o o' : Obj} {w w' w'' : World} (h:Turned b o w w') (h' : Turned b o' w' w''):Turned b o' w w'' :=
 ⟨h'.os.trans h.os,h'.tape.trans h.tape,h'.output.trans h.output,h'.size.trans h.size,h'.at_,fun k hk=>(h'.block k hk).trans (h.block k hk)⟩
theorem eJ {w:World} {b:Nat} {x y z:Value} {t:TypeId} (h:w.heap[b]?=some (.cells #[x,y,z] t (0,0))) (u0 u1 u2:Value) :
 Turned b (.cells #[u0,u1,u2] t (0,0)) w (((w.setCell ⟨b,0,none⟩ u0).setCell ⟨b,1,none⟩ u1).setCell ⟨b,2,none⟩ u2):=by
 have h1:=dC (i:=0) h u0
 have h2:=dC (i:=1) h1.at_ u1
 have h3:=dC (i:=2) h2.at_ u2
 exact (h1.trans h2).trans h3
theorem Turned.below {b:Nat} {o:Obj} {w0 w w' : World} (h:Turned b o w w') (hb:Below w0.heap.size w0 w) (hlt:w0.heap.size≤b):Below w0.heap.size w0 w' :=
 hb.trans ⟨h.os,h.tape,h.output,by rw [h.size];exact aR _,fun k hk=>h.block k (by omega)⟩
def coFr (q:Rat):Obj→World→Prop:=fun o w => ∃ s1 s2,o = .cells #[.bool (decide (q.num<0)),s1,s2] 108 (0,0)∧Nt w s1 q.num.natAbs∧Nt w s2 q.den
theorem lO {K:Value→Bool} (hK:∀ x,K (.int .u64 x)=true) (q:Rat):StableO K (coFr q):=fun _ _ _ ⟨s1,s2,e,h1,h2⟩ hx=>⟨s1,s2,e,h1.ext hK hx,h2.ext hK hx⟩
theorem negated_any (v:Value) (q:Rat) (w:World) (h:Fr w v q) (h0:q≠0):Calls Tryz.prog 209 #[v] w (GivesFr w (-q)):=by
 obtain ⟨s1,s2,rfl,h1,h2⟩:=h
 obtain ⟨A1,n1,c1,rfl⟩:=h1.form
 obtain ⟨A2,n2,c2,rfl⟩:=h2.form
 have H:=aH (aI h1 (aI h2 h0))
 clear h1 h2 h0
 generalize hneg:decide (q.num<0)=neg
 have HN:=aH hneg
 clear hneg
 go_enter Tryz.func209,Tryz.ntmps209
 go_wp2
 refine bodyPost_ret (v := .agg #[.bool (!neg),.slice A1 n1 c1,.slice A2 n2 c2]) (by simp [results,Tryz.results209,go_sem]) rfl ⟨_,rfl,?_,?_⟩
 ·have hb:∀ o o',Below w.heap.size w ((w.alloc o).alloc o'):=fun o o'=>((aB _ _).alloc (aR _) _).alloc (by simp) _
  refine Fr.of (Parts.neg ?_ H.out.2.2) (H.out.1.below (hb _ _)) (H.out.2.1.below (hb _ _))
  rw [← HN.out]
  exact Parts.self q
 ·repeat (first|exact aB _ _|(refine Below.setCell ?_ (by first|omega|(simp <;> omega)) _)|(refine Below.alloc ?_ (by first|omega|(simp <;> omega)) _)|(refine Below.drew ?_)|exact aB _ _)
theorem inverse_any (v:Value) (q:Rat) (w:World) (h:Fr w v q) (h0:q≠0):Calls Tryz.prog 146 #[v] w (GivesFr w q⁻¹):=by
 obtain ⟨s1,s2,rfl,h1,h2⟩:=h
 obtain ⟨A1,n1,c1,rfl⟩:=h1.form
 obtain ⟨A2,n2,c2,rfl⟩:=h2.form
 have H:=aH (aI h1 (aI h2 h0))
 clear h1 h2 h0
 generalize hneg:decide (q.num<0)=neg
 have HN:=aH hneg
 clear hneg
 go_enter Tryz.func146,Tryz.ntmps146
 go_wp2
 refine bodyPost_ret (v := .agg #[.bool neg,.slice A2 n2 c2,.slice A1 n1 c1]) (by simp [results,Tryz.results146,go_sem]) rfl ⟨_,rfl,?_,?_⟩
 ·have hb:∀ o o',Below w.heap.size w ((w.alloc o).alloc o'):=fun o o'=>((aB _ _).alloc (aR _) _).alloc (by simp) _
  refine Fr.of (Parts.inv ?_ H.out.2.2) (H.out.2.1.below (hb _ _)) (H.out.1.below (hb _ _))
  rw [← HN.out]
  exact Parts.self q
 ·repeat (first|exact aB _ _|(refine Below.setCell ?_ (by first|omega|(simp <;> omega)) _)|(refine Below.alloc ?_ (by first|omega|(simp <;> omega)) _)|(refine Below.drew ?_)|exact aB _ _)
theorem Base.extT {K:Value→Bool} {b:Nat} {w0 w:World} {o:Obj} (h:Base [b] w0 w) (h0:w0.heap[b]?=some o) (hc:hotObj K o=false):Ext K w0 w:=by
 refine ⟨h.size,fun g o' hg ho=>?_⟩
 by_cases e:g=b
 ·subst e
  rw [h0] at hg
  injection hg with hg
  subst hg
  rw [hc] at ho
  cases ho
 ·rw [h.block g (lt_of_block hg) (by simpa using e)];exact hg
theorem Base.belowT {b:Nat} {w w1 w2:World} (h:Base [b] w1 w2) (hb:Below w.heap.size w w1) (hlt:w.heap.size≤b):Below w.heap.size w w2 :=
 hb.trans ⟨h.os,h.tape,h.output,h.size,fun k hk=>h.block k (Nat.lt_of_lt_of_le hk hb.size) (by simp;omega)⟩
end
section
open Go.RowKit Pl
theorem dR (z:Int) {d:Nat} (hd:d≠0):(mkRat z d).num.natAbs≤z.natAbs∧(mkRat z d).den≤d:=by
 obtain ⟨h1,h2⟩:=uM z hd
 refine ⟨?_,Nat.le_of_dvd (by omega) h2⟩
 rcases Nat.eq_zero_or_pos z.natAbs with h|h
 ·have:z=0:=by omega
  subst this
  rw [Rat.zero_mkRat]
  exact aR _
 ·exact Nat.le_of_dvd h h1
theorem Lf.mono {k l:Nat} {q:Rat} (h:Lf k q) (hk:k≤l):Lf l q:=⟨h.1.mono hk,h.2.mono hk⟩
theorem Lf.mul {k:Nat} {p q:Rat} (hp:Lf k p) (hq:Lf k q):Lf (k+1) (p*q):=by
 rw [Rat.mul_def']
 obtain ⟨h1,h2⟩:=dR (p.num*q.num) (Nat.ne_of_gt (Nat.mul_pos p.den_pos q.den_pos))
 rw [Int.natAbs_mul] at h1
 exact ⟨(hp.1.mul hq.1).le h1,(hp.2.mul hq.2).le h2⟩
theorem Lf.add {k:Nat} {p q:Rat} (hp:Lf k p) (hq:Lf k q):Lf (k+2) (p+q):=by
 rw [Rat.add_def']
 obtain ⟨h1,h2⟩:=dR (p.num*q.den+q.num*p.den) (Nat.ne_of_gt (Nat.mul_pos p.den_pos q.den_pos))
 refine ⟨(Lv.add (hp.1.mul hq.2) (hq.1.mul hp.2)).le ?_,((hp.2.mul hq.2).le h2).mono (by omega)⟩
 refine Nat.le_trans h1 (Nat.le_trans (Int.natAbs_add_le _ _) ?_)
 rw [Int.natAbs_mul,Int.natAbs_mul,Int.natAbs_natCast,Int.natAbs_natCast]
 exact aR _
theorem Lf.neg {k:Nat} {p:Rat} (hp:Lf k p):Lf k (-p):=by
 refine ⟨?_,hp.2⟩
 rw [Rat.neg_num,Int.natAbs_neg];exact hp.1
theorem Lf.inv {k:Nat} {p:Rat} (hp:Lf k p):Lf k p⁻¹:=by
 by_cases h0:p=0
 ·subst h0;rw [Rat.inv_zero];exact hp
 ·obtain ⟨_,e1,e2⟩:=Parts.inv (Parts.self p) h0
  exact ⟨by rw [← e1];exact hp.2,by rw [← e2];exact hp.1⟩
theorem Lf.zero (k:Nat):Lf k 0:=⟨Lv.one _ bE,Lv.one _ eH⟩
theorem Lf.int {k:Nat} {z:Int} (h:Lv k z.natAbs):Lf k (z:Rat):=by
 refine ⟨?_,?_⟩
 ·rw [Rat.num_intCast];exact h
 ·rw [Rat.den_intCast];exact Lv.one _ eH
attribute [local simp] known specOf Kd.spec Sp.is isVar Oper.looksAt Op.operands Call.operands Act.eval
theorem eK (w:World) (a b c:Obj):(((w.alloc a).alloc b).alloc c).heap[w.heap.size]?=some a∧(((w.alloc a).alloc b).alloc c).heap[w.heap.size+1]?=some b∧(((w.alloc a).alloc b).alloc c).heap[w.heap.size+1+1]?=some c∧Below w.heap.size w (((w.alloc a).alloc b).alloc c):=by
 have h1:Below (w.alloc a).heap.size (w.alloc a) (((w.alloc a).alloc b).alloc c):=((aB _ _).alloc (aR _) _).alloc (by simp) _
 have h2:Below ((w.alloc a).alloc b).heap.size ((w.alloc a).alloc b) (((w.alloc a).alloc b).alloc c):=(aB _ _).alloc (aR _) _
 refine ⟨aK h1 (heap_alloc_new w a),aK h2 ?_,?_,(((aB _ _).alloc (aR _) _).alloc (by simp) _).alloc (by simp;omega) _⟩
 ·have:=heap_alloc_new (w.alloc a) b;simpa using this
 ·have:=heap_alloc_new ((w.alloc a).alloc b) c;simpa using this
set_option maxRecDepth 100000 in
set_option maxHeartbeats 8000000 in
theorem sY (v v' : Value) (p q:Rat) (w:World) (h:Fr w v p) (h' : Fr w v' q) (hp:Lf 38 p) (hq:Lf 38 q):Calls Tryz.prog 166 #[v,v'] w (GivesFr w (p*q)):=by
 obtain ⟨s1,s2,rfl,h1,h2⟩:=h
 obtain ⟨s3,s4,rfl,h3,h4⟩:=h'
 obtain ⟨A1,n1,c1,rfl⟩:=h1.form
 obtain ⟨A2,n2,c2,rfl⟩:=h2.form
 obtain ⟨A3,n3,c3,rfl⟩:=h3.form
 obtain ⟨A4,n4,c4,rfl⟩:=h4.form
 obtain ⟨hk1,hk2,hk3,hb1⟩:=eK w (.cells #[.bool (decide (p.num<0)),.slice A1 n1 c1,.slice A2 n2 c2] 108) (.cells #[.bool (decide (q.num<0)),.slice A3 n3 c3,.slice A4 n4 c4] 108) (.cells #[.bool false,.slice none 0 0,.slice none 0 0] 108)
 have H:=aH (aI (h1.below hb1) (aI (h2.below hb1) (aI (h3.below hb1) (aI (h4.below hb1) (aI hp (aI hq (aI hb1 (aI hk1 (aI hk2 hk3)))))))))
 clear h1 h2 h3 h4 hp hq hb1 hk1 hk2 hk3
 go_enter Tryz.func166,Tryz.ntmps166
 go_wp2
 generalize ((w.alloc (.cells #[.bool (decide (p.num<0)),.slice A1 n1 c1,.slice A2 n2 c2] 108)).alloc (.cells #[.bool (decide (q.num<0)),.slice A3 n3 c3,.slice A4 n4 c4] 108)).alloc (.cells #[.bool false,.slice none 0 0,.slice none 0 0] 108)=w1 at *
 have hA:=H.out.2.2.2.2.2.2.2.1
 have hC:=H.out.2.2.2.2.2.2.2.2.1
 obtain ⟨L,hL⟩:∃ L,L=mkRat p.num q.den:=⟨_,rfl⟩
 obtain ⟨R,hR⟩:∃ R,R=mkRat q.num p.den:=⟨_,rfl⟩
 have HLR:=aH (aI hL hR)
 have t1:∀ w',Base [] w1 w'→Calls Tryz.prog 72 #[.bool (decide (p.num<0)),.slice A1 n1 c1,.slice A4 n4 c4] w' (TyPost w' (fM L)):=fun w' hB=>by
  have:=GivesFr.ty (uS (decide (p.num<0)) p.num.natAbs q.den _ _ w' (H.out.1.below hB.below) (H.out.2.2.2.1.below hB.below) (H.out.2.2.2.2.1.1.mono (by omega)) (H.out.2.2.2.2.2.1.2.mono (by omega)) q.den_pos)
  rwa [yL,← hL] at this
 have t2:∀ w',Base [] w1 w'→Calls Tryz.prog 72 #[.bool (decide (q.num<0)),.slice A3 n3 c3,.slice A2 n2 c2] w' (TyPost w' (fM R)):=fun w' hB=>by
  have:=GivesFr.ty (uS (decide (q.num<0)) q.num.natAbs p.den _ _ w' (H.out.2.2.1.below hB.below) (H.out.2.1.below hB.below) (H.out.2.2.2.2.2.1.1.mono (by omega)) (H.out.2.2.2.2.1.2.mono (by omega)) p.den_pos)
  rwa [yL,← hR] at this
 have T1:=aH t1
 have T2:=aH t2
 clear t1 t2 hL hR
 refine wp_region_ty Ku [] (by kernel_rfl) (by kernel_rfl) ?_
 repeat (first|(apply bV (hg:=rfl);case h=>(intro A w' hB hk;simp at hk;have c_hA:=aA (hB.blk hA (by simp <;> omega));have c_hC:=aA (hB.blk hC (by simp <;> omega));first|(simp [go_sem,hk,c_hA,c_hC] <;> rfl)|(simp [go_sem,c_hA,c_hC];rfl)))|(refine aX _ ?_ (by first|exact .inl rfl|exact .inr rfl) (by rfl) (by simp [specOf,Kd.spec];rfl) ?_ rfl ?_;(first|exact Sp.is_stable _ _|exact aT (fun _=>rfl) _|exact aM (fun _=>rfl) _)))
 refine aO (fM L) (aM (fun _=>rfl) _) rfl (fun A w' hB hk=>?_) ?_;(simp at hk;have c_hA:=aA (hB.blk hA (by simp <;> omega));simp [go_sem,hk,c_hA];refine aG ?_;exact T1.out _ hB)
 repeat (first|(apply bV (hg:=rfl);case h=>(intro A w' hB hk;simp at hk;have c_hA:=aA (hB.blk hA (by simp <;> omega));have c_hC:=aA (hB.blk hC (by simp <;> omega));first|(simp [go_sem,hk,c_hA,c_hC] <;> rfl)|(simp [go_sem,c_hA,c_hC];rfl)))|(refine aX _ ?_ (by first|exact .inl rfl|exact .inr rfl) (by rfl) (by simp [specOf,Kd.spec];rfl) ?_ rfl ?_;(first|exact Sp.is_stable _ _|exact aT (fun _=>rfl) _|exact aM (fun _=>rfl) _)))
 refine aO (fM R) (aM (fun _=>rfl) _) rfl (fun A w' hB hk=>?_) ?_;(simp at hk;have c_hA:=aA (hB.blk hA (by simp <;> omega));simp [go_sem,hk,c_hA];refine aG ?_;exact T2.out _ hB)
 (apply ty_new (hg:=rfl) (hd:=rfl);(case h=>(intro A w';simp [go_sem];rfl));(case hc=>simp [hotObj,Ku,Kn]))
 (apply ty_new (hg:=rfl) (hd:=rfl);(case h=>(intro A w';simp [go_sem];rfl));(case hc=>simp [hotObj,Ku,Kn]))
 refine ty_put 5 ((.cells #[.bool false,.slice none 0 0,.slice none 0 0] 108 (0,0))) (coFr L) (lO (fun _=>rfl) _) rfl rfl (by simp [Oper.looksAt,Op.operands]) (by simp) (fun A w' b hB hk hd h0=>?_) ?_;(simp at hk;simp [Act.eval] at hd;have c_hA:=aA (hB.blk hA (by simp <;> omega));have c0:=aA h0;have f0:=aZ h0;obtain ⟨k1,z1,z2,k2,k3,k4⟩:=hk;obtain ⟨B1,m1,e1,rfl⟩:=k3.form;obtain ⟨B2,m2,e2,rfl⟩:=k4.form;simp [go_sem,hd,k2,c0,f0];exact ⟨_,eJ h0 _ _ _,_,_,rfl,k3,k4⟩)
 refine ty_put 6 ((.cells #[.bool false,.slice none 0 0,.slice none 0 0] 108 (0,0))) (coFr R) (lO (fun _=>rfl) _) rfl rfl (by simp [Oper.looksAt,Op.operands]) (by simp) (fun A w' b hB hk hd h0=>?_) ?_;(simp at hk;simp [Act.eval] at hd;have c_hA:=aA (hB.blk hA (by simp <;> omega));have c0:=aA h0;have f0:=aZ h0;obtain ⟨k1,z1,z2,k2,k3,k4⟩:=hk;obtain ⟨B1,m1,e1,rfl⟩:=k3.form;obtain ⟨B2,m2,e2,rfl⟩:=k4.form;simp [go_sem,hd,k2,c0,f0];exact ⟨_,eJ h0 _ _ _,_,_,rfl,k3,k4⟩)
 refine ⟨by first|rfl|decide,fun f w2 hB hF hAp=>?_⟩;simp [Final1,Sp.is,isVar] at hF;simp only [frameOf]
 have h56:=hAp 5 6 (.cells #[.bool false,.slice none 0 0,.slice none 0 0] 108 (0,0)) (.cells #[.bool false,.slice none 0 0,.slice none 0 0] 108 (0,0)) (by simp) (by simp) (by decide)
 obtain ⟨b6,e6,l6,_,o6,⟨x1,x2,rfl,y1,y2⟩,ho6⟩:=hF.1
 obtain ⟨b5,e5,l5,_,o5,⟨x3,x4,rfl,y3,y4⟩,ho5⟩:=hF.2.1
 have hF2:=hF.2.2
 have hb56:b5≠b6:=fun e=>h56 (by rw [e5,e6,e])
 obtain ⟨X1,g1,d1,rfl⟩:=y1.form
 obtain ⟨X2,g2,d2,rfl⟩:=y2.form
 obtain ⟨X3,g3,d3,rfl⟩:=y3.form
 obtain ⟨X4,g4,d4,rfl⟩:=y4.form
 clear hF hAp h56
 obtain ⟨⟨r50,r51,r52⟩,_⟩:=dM ho5
 obtain ⟨⟨r60,r61,r62⟩,_⟩:=dM ho6
 have hres:=hB.blk H.out.2.2.2.2.2.2.2.2.2 (by simp)
 have hb2:Below w.heap.size w w2:=Below.step_trans H.out.2.2.2.2.2.2.1 hB.below
 have M:=aH (aI y1 (aI y2 (aI y3 (aI y4 (aI ho5 (aI ho6 (aI hres (aI hb2 (aI l5 (aI l6 hb56))))))))))
 have HE:=aH (aI e5 e6)
 clear y1 y2 y3 y4 ho5 ho6 hres hb2 hB l5 l6 hb56
 have hlv:Lf 38 L∧Lf 38 R:=by
  obtain ⟨hL,hR⟩:=HLR.out
  obtain ⟨m1,m2⟩:=dR p.num q.den_nz
  obtain ⟨m3,m4⟩:=dR q.num p.den_nz
  rw [hL,hR]
  exact ⟨⟨H.out.2.2.2.2.1.1.le m1,H.out.2.2.2.2.2.1.2.le m2⟩,⟨H.out.2.2.2.2.2.1.1.le m3,H.out.2.2.2.2.1.2.le m4⟩⟩
 have HLV:=aH hlv
 clear hlv
 have zeroOut:∀ (v:Value) (w3:World),p*q=0→Fr w3 v 0→Fr w3 v (p*q):=fun v w3 h hf=>by rw [h];exact hf
 have ZO:=aH zeroOut
 clear zeroOut
 by_cases z5:L.num.natAbs=0
 ·have hpq:p*q=0:=by
   have:=Parts.self L
   rw [z5] at this
   rw [HLR.out.1] at this
   exact qY this
  have hz:decide (L.num.natAbs=0)=true:=by rw [decide_eq_true_eq];exact z5
  clear z5
  go_wp2_with fail
  refine (dN M.out.2.2.1).mono ?_
  rintro e w' ⟨rfl,rfl⟩
  rw [hz]
  clear hz
  have HZ:=aH hpq
  clear hpq
  go_wp2_with fail
  refine (sX _).mono ?_
  rintro e w3 ⟨v1,rfl,⟨s1,s2,rfl,q1,q2⟩,b1⟩
  obtain ⟨E1,k1,m1,rfl⟩:=q1.form
  obtain ⟨E2,k2,m2,rfl⟩:=q2.form
  have hk:=aK b1 M.out.2.2.2.2.2.2.1
  obtain ⟨⟨h0,h1,h2⟩,f0,f1,f2⟩:=dM hk
  have Q:=aH (aI q1 (aI q2 (aI b1 hk)))
  clear q1 q2 b1 hk
  go_wp2
  refine bodyPost_ret (v := .agg #[.bool (decide ((0:Rat).num<0)),.slice E1 k1 m1,.slice E2 k2 m2]) (by simp [results,Tryz.results166,go_sem,h0,h1,h2]) rfl ⟨_,rfl,?_,?_⟩
  ·exact ZO.out _ _ HZ.out (Fr.ext (K:=Ku) (fun _=>rfl) ⟨_,_,rfl,Q.out.1,Q.out.2.1⟩ (Ext.only (rE _ _ _ _ _) Q.out.2.2.2 (by simp [hotObj,Ku])))
  ·repeat (first|exact (Below.step_trans M.out.2.2.2.2.2.2.2.1 Q.out.2.2.1)|(refine Below.setCell ?_ (by first|omega|(simp <;> omega)) _)|(refine Below.alloc ?_ (by first|omega|(simp <;> omega)) _)|(refine Below.drew ?_)|exact aB _ _)
 ·have hz:decide (L.num.natAbs=0)=false:=by rw [decide_eq_false_iff_not];exact z5
  have HZ5:=aH z5
  clear z5
  go_wp2_with fail
  refine (dN M.out.2.2.1).mono ?_
  rintro e w' ⟨rfl,rfl⟩
  rw [hz]
  clear hz
  go_wp2_with fail
  refine (dN M.out.1).mono ?_
  rintro e w' ⟨rfl,rfl⟩
  by_cases z6:R.num.natAbs=0
  ·have hpq:p*q=0:=by
    have:=Parts.self R
    rw [z6] at this
    rw [HLR.out.2] at this
    exact yN this
   have hz:decide (R.num.natAbs=0)=true:=by rw [decide_eq_true_eq];exact z6
   rw [hz]
   clear hz z6
   have HZ:=aH hpq
   clear hpq
   go_wp2_with fail
   refine (sX _).mono ?_
   rintro e w3 ⟨v1,rfl,⟨s1,s2,rfl,q1,q2⟩,b1⟩
   obtain ⟨E1,k1,m1,rfl⟩:=q1.form
   obtain ⟨E2,k2,m2,rfl⟩:=q2.form
   have hk:=aK b1 M.out.2.2.2.2.2.2.1
   obtain ⟨⟨h0,h1,h2⟩,f0,f1,f2⟩:=dM hk
   have Q:=aH (aI q1 (aI q2 (aI b1 hk)))
   clear q1 q2 b1 hk
   go_wp2
   refine bodyPost_ret (v := .agg #[.bool (decide ((0:Rat).num<0)),.slice E1 k1 m1,.slice E2 k2 m2]) (by simp [results,Tryz.results166,go_sem,h0,h1,h2]) rfl ⟨_,rfl,?_,?_⟩
   ·exact ZO.out _ _ HZ.out (Fr.ext (K:=Ku) (fun _=>rfl) ⟨_,_,rfl,Q.out.1,Q.out.2.1⟩ (Ext.only (rE _ _ _ _ _) Q.out.2.2.2 (by simp [hotObj,Ku])))
   ·repeat (first|exact (Below.step_trans M.out.2.2.2.2.2.2.2.1 Q.out.2.2.1)|(refine Below.setCell ?_ (by first|omega|(simp <;> omega)) _)|(refine Below.alloc ?_ (by first|omega|(simp <;> omega)) _)|(refine Below.drew ?_)|exact aB _ _)
  ·have hz:decide (R.num.natAbs=0)=false:=by rw [decide_eq_false_iff_not];exact z6
   rw [hz]
   have HZ6:=aH z6
   clear hz z6
   have hpar:Parts (p*q) (decide (L.num<0) != decide (R.num<0)) (L.num.natAbs*R.num.natAbs) (L.den*R.den):=by
    have h1:=HLR.out.1
    have h2:=HLR.out.2
    have h3:=HZ5.out
    have h4:=HZ6.out
    rw [h1,h2] at *
    exact Parts.mul (Parts.self _) (Parts.self _) h3 h4
   have HP:=aH hpar
   generalize decide (L.num<0)=nl at *
   generalize decide (R.num<0)=nr at *
   have hA5:=M.out.2.2.2.2.1
   have hA6:=M.out.2.2.2.2.2.1
   have hR0:=M.out.2.2.2.2.2.2.1
   have t1:∀ w',Base [w.heap.size+1+1] w2 w'→Calls Tryz.prog 136 #[.slice X3 g3 d3,.slice X1 g1 d1] w' (TyPost w' (kZ (L.num.natAbs*R.num.natAbs))):=fun w' hB =>
    GivesNt.ty (iV (Nt.ext (K:=Ku) (fun _=>rfl) M.out.2.2.1 (hB.extT M.out.2.2.2.2.2.2.1 (by simp [hotObj,Ku]))) (Nt.ext (K:=Ku) (fun _=>rfl) M.out.1 (hB.extT M.out.2.2.2.2.2.2.1 (by simp [hotObj,Ku]))) (HLV.out.1.1.mono (by omega)) (HLV.out.2.1.mono (by omega)))
   have t2:∀ w',Base [w.heap.size+1+1] w2 w'→Calls Tryz.prog 136 #[.slice X4 g4 d4,.slice X2 g2 d2] w' (TyPost w' (kZ (L.den*R.den))):=fun w' hB =>
    GivesNt.ty (iV (Nt.ext (K:=Ku) (fun _=>rfl) M.out.2.2.2.1 (hB.extT M.out.2.2.2.2.2.2.1 (by simp [hotObj,Ku]))) (Nt.ext (K:=Ku) (fun _=>rfl) M.out.2.1 (hB.extT M.out.2.2.2.2.2.2.1 (by simp [hotObj,Ku]))) (HLV.out.1.2.mono (by omega)) (HLV.out.2.2.mono (by omega)))
   have T3:=aH t1
   have T4:=aH t2
   clear t1 t2 hpar
   have hne5:b5≠w.heap.size+1+1:=by
    have:=M.out.2.2.2.2.2.2.2.2.1
    have:=lt_of_block H.out.2.2.2.2.2.2.2.2.2
    omega
   have hne6:b6≠w.heap.size+1+1:=by
    have:=M.out.2.2.2.2.2.2.2.2.2.1
    have:=lt_of_block H.out.2.2.2.2.2.2.2.2.2
    omega
   go_wp2_with fail
   refine wp_region_ty Ku [w.heap.size+1+1] (by kernel_rfl) (by kernel_rfl) ?_
   repeat (first|(apply bV (hg:=rfl);case h=>(intro A w' hB hk;simp at hk;have c_hA5:=aA (hB.blk hA5 (by simp <;> omega));have c_hA6:=aA (hB.blk hA6 (by simp <;> omega));first|(simp [go_sem,hk,c_hA5,c_hA6] <;> rfl)|(simp [go_sem,c_hA5,c_hA6];rfl)))|(refine aX _ ?_ (by first|exact .inl rfl|exact .inr rfl) (by rfl) (by simp [specOf,Kd.spec];rfl) ?_ rfl ?_;(first|exact Sp.is_stable _ _|exact aT (fun _=>rfl) _|exact aM (fun _=>rfl) _)))
   refine aO (kZ (L.num.natAbs*R.num.natAbs)) (aT (fun _=>rfl) _) rfl (fun A w' hB hk=>?_) ?_;(simp at hk;have c_hA5:=aA (hB.blk hA5 (by simp <;> omega));have c_hA6:=aA (hB.blk hA6 (by simp <;> omega));simp [go_sem,hk,c_hA5,c_hA6];refine aG ?_;exact T3.out _ hB)
   repeat (first|(apply bV (hg:=rfl);case h=>(intro A w' hB hk;simp at hk;have c_hA5:=aA (hB.blk hA5 (by simp <;> omega));have c_hA6:=aA (hB.blk hA6 (by simp <;> omega));first|(simp [go_sem,hk,c_hA5,c_hA6] <;> rfl)|(simp [go_sem,c_hA5,c_hA6];rfl)))|(refine aX _ ?_ (by first|exact .inl rfl|exact .inr rfl) (by rfl) (by simp [specOf,Kd.spec];rfl) ?_ rfl ?_;(first|exact Sp.is_stable _ _|exact aT (fun _=>rfl) _|exact aM (fun _=>rfl) _)))
   refine aO (kZ (L.den*R.den)) (aT (fun _=>rfl) _) rfl (fun A w' hB hk=>?_) ?_;(simp at hk;have c_hA5:=aA (hB.blk hA5 (by simp <;> omega));have c_hA6:=aA (hB.blk hA6 (by simp <;> omega));simp [go_sem,hk,c_hA5,c_hA6];refine aG ?_;exact T4.out _ hB)
   refine aO (fM (p*q)) (aM (fun _=>rfl) _) rfl (fun A w' hB hk=>?_) ?_;(simp at hk;have c_hA5:=aA (hB.blk hA5 (by simp <;> omega));obtain ⟨k1,k2,k3⟩:=hk;obtain ⟨B1,m1,u1,e1⟩:=(show Nt _ _ _ from k2).form;obtain ⟨B2,m2,u2,e2⟩:=(show Nt _ _ _ from k3).form;rw [e1] at k2;rw [e2] at k3;simp [go_sem,k1,e1,e2];refine kB ?_;exact Fr.of HP.out k2 k3)
   refine iB (w.heap.size+1+1) (_) (coFr (p*q)) (lO (fun _=>rfl) _) rfl rfl (by simp) (by assumption) (by simp [hotObj,Ku,Kn]) (fun A w' hB hk h0=>?_) ?_;(simp at hk;have c_hA5:=aA (hB.blk hA5 (by simp <;> omega));have c0:=aA h0;have f0:=aZ h0;obtain ⟨k1,z1,z2,k2,k3,k4⟩:=hk;obtain ⟨B1,m1,e1,rfl⟩:=k3.form;obtain ⟨B2,m2,e2,rfl⟩:=k4.form;simp [go_sem,k1,k2,c0,f0];exact ⟨_,eJ h0 _ _ _,_,_,rfl,k3,k4⟩)
   refine ⟨by first|rfl|decide,fun f w2 hB hF hAp=>?_⟩;simp [Final1,Sp.is,isVar] at hF;simp only [frameOf]
   obtain ⟨o,⟨s1,s2,rfl,k3,k4⟩,ho⟩:=hF.1
   obtain ⟨B1,m1,u1,rfl⟩:=k3.form
   obtain ⟨B2,m2,u2,rfl⟩:=k4.form
   obtain ⟨⟨r0,r1,r2⟩,_⟩:=dM ho
   have K:=aH (aI k3 (aI k4 hB))
   clear k3 k4 hB ho hA5 hA6 hAp
   go_wp2
   refine bodyPost_ret (v := .agg #[.bool (decide ((p*q).num<0)),.slice B1 m1 u1,.slice B2 m2 u2]) (by simp [results,Tryz.results166,go_sem,r0,r1,r2]) rfl ⟨_,rfl,⟨_,_,rfl,K.out.1,K.out.2.1⟩,?_⟩
   exact Base.belowT K.out.2.2 M.out.2.2.2.2.2.2.2.1 (by omega)
end
section
open Go.RowKit Pl
attribute [local simp] known specOf Kd.spec Sp.is isVar Oper.looksAt Op.operands Call.operands Act.eval
def spSum (S:Int):Sp:=fun v w => ∃ neg u,v = .tuple #[.bool neg,u]∧sg neg S.natAbs=S∧Nt w u S.natAbs
def spSgn (S:Int):Sp:=fun v _ => ∃ neg,v = .bool neg∧sg neg S.natAbs=S
theorem gL {K:Value→Bool} (hK:∀ x,K (.int .u64 x)=true) (S:Int):Stable K (spSum S):=fun _ _ _ ⟨n,u,e,h1,h2⟩ hx=>⟨n,u,e,h1,h2.ext hK hx⟩
theorem gM (K:Value→Bool) (S:Int):Stable K (spSgn S):=fun _ _ _ h _=>h
set_option maxRecDepth 100000 in
set_option maxHeartbeats 8000000 in
theorem wB (v v' : Value) (p q:Rat) (w:World) (h:Fr w v p) (h' : Fr w v' q) (hp:Lf 36 p) (hq:Lf 36 q):Calls Tryz.prog 156 #[v,v'] w (GivesFr w (p+q)):=by
 obtain ⟨s1,s2,rfl,h1,h2⟩:=h
 obtain ⟨s3,s4,rfl,h3,h4⟩:=h'
 obtain ⟨A1,n1,c1,rfl⟩:=h1.form
 obtain ⟨A2,n2,c2,rfl⟩:=h2.form
 obtain ⟨A3,n3,c3,rfl⟩:=h3.form
 obtain ⟨A4,n4,c4,rfl⟩:=h4.form
 obtain ⟨hk1,hk2,hk3,hb1⟩:=eK w (.cells #[.bool (decide (p.num<0)),.slice A1 n1 c1,.slice A2 n2 c2] 108) (.cells #[.bool (decide (q.num<0)),.slice A3 n3 c3,.slice A4 n4 c4] 108) (.cells #[.bool false,.slice none 0 0,.slice none 0 0] 108)
 have H:=aH (aI (h1.below hb1) (aI (h2.below hb1) (aI (h3.below hb1) (aI (h4.below hb1) (aI hp (aI hq (aI hb1 (aI hk1 (aI hk2 hk3)))))))))
 clear h1 h2 h3 h4 hp hq hb1 hk1 hk2 hk3
 obtain ⟨g,hg⟩:∃ g,g=p.den.gcd q.den:=⟨_,rfl⟩
 obtain ⟨ma,hma⟩:∃ ma,ma=p.den/g:=⟨_,rfl⟩
 obtain ⟨mb,hmb⟩:∃ mb,mb=q.den/g:=⟨_,rfl⟩
 obtain ⟨S,hS⟩:∃ S,S=p.num*mb+q.num*ma:=⟨_,rfl⟩
 obtain ⟨g0,ma0,mb0,ed1,ed2,hpq,hgcd⟩:=uL p q hg hma hmb hS
 have hgl:Lv 36 g:=H.out.2.2.2.2.1.2.le (by rw [hg];exact Nat.gcd_le_left _ p.den_pos)
 have hmal:Lv 36 ma:=H.out.2.2.2.2.1.2.le (by rw [hma];exact Nat.div_le_self _ _)
 have hmbl:Lv 36 mb:=H.out.2.2.2.2.2.1.2.le (by rw [hmb];exact Nat.div_le_self _ _)
 have hSl:Lv 38 S.natAbs:=by
  refine (Lv.add (H.out.2.2.2.2.1.1.mul hmbl) (H.out.2.2.2.2.2.1.1.mul hmal)).le ?_
  rw [hS]
  refine Nat.le_trans (Int.natAbs_add_le _ _) ?_
  rw [Int.natAbs_mul,Int.natAbs_mul,Int.natAbs_natCast,Int.natAbs_natCast]
  exact aR _
 have G:=aH (aI hg (aI hma (aI hmb (aI hS (aI g0 (aI hgl (aI hmal (aI hmbl hSl))))))))
 clear hg hma hmb hS g0 ma0 mb0 ed1 ed2 hpq hgcd hgl hmal hmbl hSl
 have hgn:=G.out.1
 go_enter Tryz.func156,Tryz.ntmps156
 go_wp2_with fail
 generalize ((w.alloc (.cells #[.bool (decide (p.num<0)),.slice A1 n1 c1,.slice A2 n2 c2] 108)).alloc (.cells #[.bool (decide (q.num<0)),.slice A3 n3 c3,.slice A4 n4 c4] 108)).alloc (.cells #[.bool false,.slice none 0 0,.slice none 0 0] 108)=w1 at *
 refine (xH _ _ p.den q.den _ H.out.2.1 H.out.2.2.2.1 (H.out.2.2.2.2.1.2.mono (by omega)) (H.out.2.2.2.2.2.1.2.mono (by omega)) (.inl p.den_pos)).mono ?_
 rw [← hgn]
 clear hgn
 rintro e w2 ⟨vg,rfl,qg,b2⟩
 obtain ⟨Ag,kg,cg,rfl⟩:=qg.form
 have hA:=aK b2 H.out.2.2.2.2.2.2.2.1
 have hC:=aK b2 H.out.2.2.2.2.2.2.2.2.1
 obtain ⟨⟨u0,u1,u2⟩,_⟩:=dM hA
 obtain ⟨⟨u3,u4,u5⟩,_⟩:=dM hC
 have Q2:=aH (aI qg (aI b2 (aI hA hC)))
 clear qg b2 hA hC
 go_wp2_with fail
 refine (fL (H.out.2.1.below Q2.out.2.1) Q2.out.1 (H.out.2.2.2.2.1.2.mono (by omega)) G.out.2.2.2.2.1).mono ?_
 rw [← G.out.2.1]
 rintro e w3 ⟨vm,x1,rfl,qm,qx,b3⟩
 obtain ⟨Am,km,cm,rfl⟩:=qm.form
 have hb3:=Below.step_trans Q2.out.2.1 b3
 have hA:=aK b3 Q2.out.2.2.1
 have hC:=aK b3 Q2.out.2.2.2
 clear u0 u1 u2 u3 u4 u5
 obtain ⟨⟨u0,u1,u2⟩,_⟩:=dM hA
 obtain ⟨⟨u3,u4,u5⟩,_⟩:=dM hC
 have Q3:=aH (aI qm (aI b3 (aI hb3 (aI hA hC))))
 obtain ⟨Ax1,kx1,cx1,rfl⟩:=qx.form
 clear qm b3 hb3 hA hC qx
 go_wp2_with fail
 refine (fL (H.out.2.2.2.1.below Q3.out.2.2.1) (Q2.out.1.below Q3.out.2.1) (H.out.2.2.2.2.2.1.2.mono (by omega)) G.out.2.2.2.2.1).mono ?_
 rw [← G.out.2.2.1]
 rintro e w4 ⟨vn,x2,rfl,qn,qx,b4⟩
 obtain ⟨An,kn,cn,rfl⟩:=qn.form
 obtain ⟨Ax2,kx2,cx2,rfl⟩:=qx.form
 have hb4:=Below.step_trans Q3.out.2.2.1 b4
 have hA:=aK b4 Q3.out.2.2.2.1
 have hC:=aK b4 Q3.out.2.2.2.2
 have hR:=aK hb4 H.out.2.2.2.2.2.2.2.2.2
 clear u0 u1 u2 u3 u4 u5
 have Q4:=aH (aI qn (aI b4 (aI hb4 (aI (Q3.out.1.below b4) (aI hR (aI (Q2.out.1.below (Below.step_trans Q3.out.2.1 b4)) (Below.step_trans H.out.2.2.2.2.2.2.1 hb4)))))))
 clear qn b4 hb4 hR qx
 go_wp2_with fail
 have t1:∀ w',Base [] w4 w'→Calls Tryz.prog 136 #[.slice A1 n1 c1,.slice An kn cn] w' (TyPost w' (kZ (p.num.natAbs*mb))):=fun w' hB =>
  GivesNt.ty (iV (H.out.1.below (Below.step_trans Q4.out.2.2.1 hB.below)) (Q4.out.1.below hB.below) (H.out.2.2.2.2.1.1.mono (by omega)) (G.out.2.2.2.2.2.2.2.1.mono (by omega)))
 have t2:∀ w',Base [] w4 w'→Calls Tryz.prog 136 #[.slice A3 n3 c3,.slice Am km cm] w' (TyPost w' (kZ (q.num.natAbs*ma))):=fun w' hB =>
  GivesNt.ty (iV (H.out.2.2.1.below (Below.step_trans Q4.out.2.2.1 hB.below)) (Q4.out.2.2.2.1.below hB.below) (H.out.2.2.2.2.2.1.1.mono (by omega)) (G.out.2.2.2.2.2.2.1.mono (by omega)))
 have t3:∀ w' x y,Base [] w4 w'→Nt w' x (p.num.natAbs*mb)→Nt w' y (q.num.natAbs*ma)→Calls Tryz.prog 213 #[.bool (decide (p.num<0)),x,.bool (decide (q.num<0)),y] w' (TyPost w' (spSum S)):=fun w' x y hB hx hy=>by
  have:=wX (decide (p.num<0)) (decide (q.num<0)) _ _ x y w' hx hy (((H.out.2.2.2.2.1.1).mul G.out.2.2.2.2.2.2.2.1).mono (by omega)) (((H.out.2.2.2.2.2.1.1).mul G.out.2.2.2.2.2.2.1).mono (by omega))
  rw [sg_mul,sg_mul,yL,yL,← G.out.2.2.2.1] at this
  exact this.mono fun e w'' ⟨neg,u,h1,h2,h3,h4⟩=>⟨_,h1,h4,neg,u,rfl,h2,h3⟩
 have T1:=aH t1
 have T2:=aH t2
 have T3:=aH t3
 clear t1 t2 t3
 refine wp_region_ty Ku [] (by kernel_rfl) (by kernel_rfl) ?_
 repeat (first|(apply bV (hg:=rfl);case h=>(intro A w' hB hk;simp at hk;have c_hA:=aA (hB.blk hA (by simp <;> omega));have c_hC:=aA (hB.blk hC (by simp <;> omega));first|(simp [go_sem,hk,c_hA,c_hC] <;> rfl)|(simp [go_sem,c_hA,c_hC];rfl)))|(refine aX _ ?_ (by first|exact .inl rfl|exact .inr rfl) (by rfl) (by simp [specOf,Kd.spec];rfl) ?_ rfl ?_;(first|exact Sp.is_stable _ _|exact aT (fun _=>rfl) _|exact gL (fun _=>rfl) _|exact gM _ _)))
 refine aO (kZ (p.num.natAbs*mb)) (aT (fun _=>rfl) _) rfl (fun A w' hB hk=>?_) ?_;(simp at hk;have c_hA:=aA (hB.blk hA (by simp <;> omega));simp [go_sem,hk,c_hA];refine aG ?_;exact T1.out _ hB)
 repeat (first|(apply bV (hg:=rfl);case h=>(intro A w' hB hk;simp at hk;have c_hA:=aA (hB.blk hA (by simp <;> omega));have c_hC:=aA (hB.blk hC (by simp <;> omega));first|(simp [go_sem,hk,c_hA,c_hC] <;> rfl)|(simp [go_sem,c_hA,c_hC];rfl)))|(refine aX _ ?_ (by first|exact .inl rfl|exact .inr rfl) (by rfl) (by simp [specOf,Kd.spec];rfl) ?_ rfl ?_;(first|exact Sp.is_stable _ _|exact aT (fun _=>rfl) _|exact gL (fun _=>rfl) _|exact gM _ _)))
 refine aO (kZ (q.num.natAbs*ma)) (aT (fun _=>rfl) _) rfl (fun A w' hB hk=>?_) ?_;(simp at hk;have c_hA:=aA (hB.blk hA (by simp <;> omega));simp [go_sem,hk,c_hA];refine aG ?_;exact T2.out _ hB)
 refine aO (spSum S) (gL (fun _=>rfl) _) rfl (fun A w' hB hk=>?_) ?_;(simp at hk;have c_hA:=aA (hB.blk hA (by simp <;> omega));simp [go_sem,hk,c_hA];refine aG ?_;exact T3.out _ _ _ hB hk.2.1 hk.2.2.2)
 repeat (first|(apply bV (hg:=rfl);case h=>(intro A w' hB hk;simp at hk;have c_hA:=aA (hB.blk hA (by simp <;> omega));first|(simp [go_sem,hk,c_hA] <;> rfl)|(simp [go_sem,c_hA];rfl)))|(refine aX _ ?_ (by first|exact .inl rfl|exact .inr rfl) (by rfl) (by simp [specOf,Kd.spec];rfl) ?_ rfl ?_;(first|exact Sp.is_stable _ _|exact aT (fun _=>rfl) _|exact gL (fun _=>rfl) _|exact gM _ _)))
 refine aO (spSgn S) (gM _ _) rfl (fun A w' hB hk=>?_) ?_;(simp at hk;have c_hA:=aA (hB.blk hA (by simp <;> omega));obtain ⟨neg,u,k1,k2,k3⟩:=hk;simp [go_sem,k1];exact kB ⟨neg,rfl,k2⟩)
 refine aO (kZ S.natAbs) (aT (fun _=>rfl) _) rfl (fun A w' hB hk=>?_) ?_;(simp at hk;have c_hA:=aA (hB.blk hA (by simp <;> omega));obtain ⟨neg,u,k1,k2,k3⟩:=hk;simp [go_sem,k1];exact kB k3)
 repeat (first|(apply bV (hg:=rfl);case h=>(intro A w' hB hk;simp at hk;have c_hA:=aA (hB.blk hA (by simp <;> omega));first|(simp [go_sem,hk,c_hA] <;> rfl)|(simp [go_sem,c_hA];rfl)))|(refine aX _ ?_ (by first|exact .inl rfl|exact .inr rfl) (by rfl) (by simp [specOf,Kd.spec];rfl) ?_ rfl ?_;(first|exact Sp.is_stable _ _|exact aT (fun _=>rfl) _|exact gL (fun _=>rfl) _|exact gM _ _)))
 refine ⟨by first|rfl|decide,fun f w2 hB hF hAp=>?_⟩;simp [Final1,Sp.is,isVar] at hF;simp only [frameOf]
 obtain ⟨y1,⟨neg,e10,hneg⟩,hF2⟩:=hF
 obtain ⟨As,ks,cs,e11⟩:=(show Nt _ _ _ from y1).form
 rw [e11] at y1
 have hA2:=hB.blk hA (by simp)
 have hC2:=hB.blk hC (by simp)
 have hR2:=hB.blk Q4.out.2.2.2.2.1 (by simp)
 have Y:=aH (aI (show Nt w2 _ _ from y1) (aI hneg (aI (Below.step_trans Q4.out.2.2.2.2.2.2 hB.below) (aI hR2 hB.below))))
 clear y1 hneg hA hC hA2 hC2 hR2 hB hAp
 by_cases z0:S.natAbs=0
 ·have hpq:p+q=0:=yM G.out.1 G.out.2.1 G.out.2.2.1 G.out.2.2.2.1 z0
  have hz:decide (S.natAbs=0)=true:=by rw [decide_eq_true_eq];exact z0
  have HZ:=aH hpq
  clear hpq z0
  go_wp2_with fail
  refine (dN Y.out.1).mono ?_
  rintro e w' ⟨rfl,rfl⟩
  rw [hz]
  clear hz
  go_wp2_with fail
  refine (sX _).mono ?_
  rintro e w5 ⟨v1,rfl,⟨s1,s2,rfl,q1,q2⟩,b1⟩
  obtain ⟨E1,k1,m1,rfl⟩:=q1.form
  obtain ⟨E2,k2,m2,rfl⟩:=q2.form
  have hk:=aK b1 Y.out.2.2.2.1
  obtain ⟨⟨h0,h1,h2⟩,f0,f1,f2⟩:=dM hk
  have Q:=aH (aI q1 (aI q2 (aI b1 hk)))
  clear q1 q2 b1 hk
  go_wp2
  refine bodyPost_ret (v := .agg #[.bool (decide ((0:Rat).num<0)),.slice E1 k1 m1,.slice E2 k2 m2]) (by simp [results,Tryz.results156,go_sem,h0,h1,h2]) rfl ⟨_,rfl,?_,?_⟩
  ·rw [HZ.out]
   exact Fr.ext (K:=Ku) (fun _=>rfl) ⟨_,_,rfl,Q.out.1,Q.out.2.1⟩ (Ext.only (rE _ _ _ _ _) Q.out.2.2.2 (by simp [hotObj,Ku]))
  ·repeat (first|exact (Below.step_trans Y.out.2.2.1 Q.out.2.2.1)|(refine Below.setCell ?_ (by first|omega|(simp <;> omega)) _)|(refine Below.alloc ?_ (by first|omega|(simp <;> omega)) _)|(refine Below.drew ?_)|exact aB _ _)
 ·have hpar:=Parts.add G.out.1 G.out.2.1 G.out.2.2.1 G.out.2.2.2.1 Y.out.2.1 z0
  have hz:decide (S.natAbs=0)=false:=by rw [decide_eq_false_iff_not];exact z0
  obtain ⟨r,hr⟩:∃ r,r=S.natAbs.gcd g:=⟨_,rfl⟩
  rw [← hr] at hpar
  have hr0:0<r:=by rw [hr];exact Nat.gcd_pos_of_pos_right _ G.out.2.2.2.2.1
  have hrg:r≤g:=by rw [hr];exact Nat.gcd_le_right _ G.out.2.2.2.2.1
  have HZ:=aH (aI hpar (aI hr0 (aI hrg z0)))
  have HR:=aH hr
  clear hpar z0 hr0 hrg hr
  go_wp2_with fail
  refine (dN Y.out.1).mono ?_
  rintro e w' ⟨rfl,rfl⟩
  rw [hz]
  clear hz
  go_wp2_with fail
  refine (xH _ _ S.natAbs g _ Y.out.1 (Q4.out.2.2.2.2.2.1.below Y.out.2.2.2.2) (G.out.2.2.2.2.2.2.2.2.mono (by omega)) (G.out.2.2.2.2.2.1.mono (by omega)) (.inr G.out.2.2.2.2.1)).mono ?_
  rw [← HR.out]
  rintro e w5 ⟨v5,rfl,q5,b5⟩
  obtain ⟨A5,k5,c5,rfl⟩:=q5.form
  have Q5:=aH (aI q5 b5)
  clear q5 b5
  go_wp2_with fail
  refine (fL (Y.out.1.below Q5.out.2) Q5.out.1 (G.out.2.2.2.2.2.2.2.2.mono (by omega)) HZ.out.2.1).mono ?_
  rintro e w6 ⟨v6,x6,rfl,q6,qx,b6⟩
  obtain ⟨A6,k6,c6,rfl⟩:=q6.form
  obtain ⟨Ax6,kx6,cx6,rfl⟩:=qx.form
  have Q6:=aH (aI q6 b6)
  clear q6 b6 qx
  go_wp2_with fail
  refine (fL (Q4.out.2.2.2.2.2.1.below (Below.step_trans Y.out.2.2.2.2 (Below.step_trans Q5.out.2 Q6.out.2))) (Q5.out.1.below Q6.out.2) (G.out.2.2.2.2.2.1.mono (by omega)) HZ.out.2.1).mono ?_
  rintro e w7 ⟨v7,x7,rfl,q7,qx,b7⟩
  obtain ⟨A7,k7,c7,rfl⟩:=q7.form
  obtain ⟨Ax7,kx7,cx7,rfl⟩:=qx.form
  have hb7:Below w4.heap.size w4 w7:=Below.step_trans Y.out.2.2.2.2 (Below.step_trans Q5.out.2 (Below.step_trans Q6.out.2 b7))
  have Q7:=aH (aI q7 (aI b7 hb7))
  clear q7 b7 qx hb7
  go_wp2_with fail
  refine (iV (Q4.out.2.2.2.1.below Q7.out.2.2) (Q4.out.1.below Q7.out.2.2) (G.out.2.2.2.2.2.2.1.mono (by omega)) (G.out.2.2.2.2.2.2.2.1.mono (by omega))).mono ?_
  rintro e w8 ⟨v8,rfl,q8,b8⟩
  obtain ⟨A8,k8,c8,rfl⟩:=q8.form
  have Q8:=aH (aI q8 b8)
  clear q8 b8
  go_wp2_with fail
  refine (iV Q8.out.1 (Q7.out.1.below Q8.out.2) ((G.out.2.2.2.2.2.2.1.mul G.out.2.2.2.2.2.2.2.1).mono (by omega)) ((G.out.2.2.2.2.2.1.le (Nat.div_le_self _ _)).mono (by omega))).mono ?_
  rintro e w9 ⟨v9,rfl,q9,b9⟩
  obtain ⟨A9,k9,c9,rfl⟩:=q9.form
  have hb9:Below w7.heap.size w7 w9:=Below.step_trans Q8.out.2 b9
  have hk:=aK (Below.step_trans Q7.out.2.2 hb9) Q4.out.2.2.2.2.1
  obtain ⟨⟨h0,h1,h2⟩,f0,f1,f2⟩:=dM hk
  have Q9:=aH (aI q9 (aI hb9 hk))
  clear q9 b9 hb9 hk
  go_wp2
  refine bodyPost_ret (v := .agg #[.bool neg,.slice A6 k6 c6,.slice A9 k9 c9]) (by simp [results,Tryz.results156,go_sem,h0,h1,h2]) rfl ⟨_,rfl,?_,?_⟩
  ·exact Fr.ext (K:=Ku) (fun _=>rfl) (Fr.of HZ.out.1 (Q6.out.1.below (Below.step_trans Q7.out.2.1 Q9.out.2.1)) Q9.out.1) (Ext.only (rE _ _ _ _ _) Q9.out.2.2 (by simp [hotObj,Ku]))
  ·repeat (first|exact (Below.step_trans Q4.out.2.2.2.2.2.2 (Below.step_trans Q7.out.2.2 Q9.out.2.1))|(refine Below.setCell ?_ (by first|omega|(simp <;> omega)) _)|(refine Below.alloc ?_ (by first|omega|(simp <;> omega)) _)|(refine Below.drew ?_)|exact aB _ _)
end
section
open Go.RowKit Pl
theorem alloc2 (w:World) (a b:Obj):((w.alloc a).alloc b).heap[w.heap.size]?=some a∧((w.alloc a).alloc b).heap[w.heap.size+1]?=some b∧Below w.heap.size w ((w.alloc a).alloc b):=by
 have h2:Below (w.alloc a).heap.size (w.alloc a) ((w.alloc a).alloc b):=(aB _ _).alloc (aR _) _
 refine ⟨aK h2 (heap_alloc_new w a),?_,((aB _ _).alloc (aR _) _).alloc (by simp) _⟩
 have:=heap_alloc_new (w.alloc a) b;simpa using this
def gN (a:Int):Prop := -9223372036854775807≤a∧a≤9223372036854775807
def M63:Nat:=9223372036854775807
theorem eL:M63=9223372036854775807:=rfl
theorem eV (a:Int) (w:World) (h1:-9223372036854775808≤a) (h2:a≤9223372036854775807):Calls Tryz.prog 149 #[.int .i64 a] w fun e w'=>e = .returned (.int .u64 ((a.natAbs:Nat):Int))∧w=w':=by
 by_cases hn:a<0
 ·have e1:IntKind.u64.wrap (-IntKind.u64.wrap a)=((a.natAbs:Nat):Int):=by rw [IntKind.wrap_u64,IntKind.wrap_u64];omega
  have H:=aH hn
  go_enter Tryz.func149,Tryz.ntmps149
  go_wp2
  go_ret
  exact ⟨rfl,rfl⟩
 ·have e1:((a.natAbs:Nat):Int)=a:=by omega
  have h0:0≤a:=by omega
  rw [e1]
  clear e1
  go_enter Tryz.func149,Tryz.ntmps149
  go_wp2
  go_ret
  exact ⟨rfl,rfl⟩
def GivesOk (w:World) (z bad:Int) (e:Ending) (w' : World):Prop := ∃ (r:Int) (ok:Bool),e = .returned (.tuple #[.int .i64 r,.bool ok])∧(ok=true→r=z∧gN z)∧(ok=false→r=bad∧¬ gN z)∧Below w.heap.size w w'
theorem GivesOk.yes {P:Program} {f:FuncId} {args:Array Value} {w:World} {z bad:Int} (h:Calls P f args w (GivesOk w z bad)) (hm:gN z):Calls P f args w (Gives w (.tuple #[.int .i64 z,.bool true])):=h.mono fun e w' ⟨r,ok,h1,h2,h3,h4⟩=>by
 cases ok
 ·exact absurd hm (h3 rfl).2
 ·exact ⟨by rw [h1,(h2 rfl).1],h4⟩
theorem GivesOk.no {P:Program} {f:FuncId} {args:Array Value} {w:World} {z bad:Int} (h:Calls P f args w (GivesOk w z bad)) (hm:¬ gN z):Calls P f args w (Gives w (.tuple #[.int .i64 bad,.bool false])):=h.mono fun e w' ⟨r,ok,h1,h2,h3,h4⟩=>by
 cases ok
 ·exact ⟨by rw [h1,(h3 rfl).1],h4⟩
 ·exact absurd (h2 rfl).2 hm
theorem uT (n d:Int) (w:World) (h1:1≤d) (h2:d≤9223372036854775807):Calls Tryz.prog 141 #[.int .i64 n,.int .i64 d] w (Gives w (.agg #[.int .i64 n,.int .i64 (d-1),.pointer none])):=by
 go_enter Tryz.func141,Tryz.ntmps141
 go_wp2
 refine bodyPost_ret (v := .agg #[.int .i64 n,.int .i64 (d-1),.pointer none]) (by simp [results,Tryz.results141,go_sem]) rfl ⟨rfl,?_⟩
 repeat (first|exact aB _ _|(refine Below.setCell ?_ (by first|omega|(simp <;> omega)) _)|(refine Below.alloc ?_ (by first|omega|(simp <;> omega)) _)|(refine Below.drew ?_)|exact aB _ _)
theorem nV (n d:Int) (p:Option Addr) (w:World) (h1:0≤d) (h2:d≤9223372036854775806):Calls Tryz.prog 147 #[.agg #[.int .i64 n,.int .i64 d,.pointer p]] w (Gives w (.int .i64 (d+1))):=by
 go_enter Tryz.func147,Tryz.ntmps147
 go_wp2
 go_ret
 refine ⟨rfl,?_⟩
 repeat (first|exact aB _ _|(refine Below.setCell ?_ (by first|omega|(simp <;> omega)) _)|(refine Below.alloc ?_ (by first|omega|(simp <;> omega)) _)|(refine Below.drew ?_)|exact aB _ _)
theorem rF (v:Value) (a:Nat) (w:World) (h:Nt w v a):Calls Tryz.prog 139 #[v] w fun e w'=>e = .returned (.bool (decide (a≤M63)))∧w=w':=by
 have H:=aH h
 obtain ⟨A,n,c,xs,rfl,hr,hd,hno,hval⟩:=h
 have hnc:n≤c:=hr.cap
 have hcm:c≤9223372036854775807:=hr.2.2.1
 by_cases h1:n≤1
 ·have hsmall:a<aD:=by
   rw [← hval]
   have:=cA hd
   rw [hr.len] at this
   exact Nat.lt_of_lt_of_le this (Nat.le_trans (Nat.pow_le_pow_right bE h1) (by rw [Nat.pow_one];exact aR _))
  clear hr hd hno hval
  by_cases hm:a≤M63
  ·have hi:(a:Int)≤9223372036854775807:=by rw [eL] at hm;omega
   have hz:decide (a≤M63)=true:=by rw [decide_eq_true_eq];exact hm
   rw [hz]
   have HS:=aH hsmall
   clear hm hz hsmall
   go_enter Tryz.func139,Tryz.ntmps139
   go_wp2_with (go_at_call 140;refine (rV H.out).mono ?_;rw [Nat.mod_eq_of_lt HS.out];rintro e w' ⟨rfl,rfl⟩)
   go_ret
   exact ⟨rfl,rfl⟩
  ·have hi:¬ (a:Int)≤9223372036854775807:=by rw [eL] at hm;omega
   have hz:decide (a≤M63)=false:=by rw [decide_eq_false_iff_not];exact hm
   rw [hz]
   have HS:=aH hsmall
   clear hm hz hsmall
   go_enter Tryz.func139,Tryz.ntmps139
   go_wp2_with (go_at_call 140;refine (rV H.out).mono ?_;rw [Nat.mod_eq_of_lt HS.out];rintro e w' ⟨rfl,rfl⟩)
   go_ret
   exact ⟨sN (by simpa using hi),rfl⟩
 ·have hz:decide (a≤M63)=false:=by
   rw [decide_eq_false_iff_not]
   intro hm
   have:=aW eH hno (L:=1) (by rw [hval,Nat.pow_one,aL];rw [eL] at hm;omega)
   rw [hr.len] at this
   omega
  rw [hz]
  clear hr hd hno hval hz
  go_enter Tryz.func139,Tryz.ntmps139
  go_wp2
  go_ret
  exact ⟨rfl,rfl⟩
theorem rG (a b:Int) (w:World) (ha:gN a) (hb:gN b):Calls Tryz.prog 212 #[.int .i64 a,.int .i64 b] w (GivesOk w (a*b) 0):=by
 obtain ⟨ha1,ha2⟩:=ha
 obtain ⟨hb1,hb2⟩:=hb
 have hal:a.natAbs<aD:=by rw [aL];omega
 have hbl:b.natAbs<aD:=by rw [aL];omega
 obtain ⟨hi,hhi⟩:∃ hi:Nat,hi=a.natAbs*b.natAbs/aD:=⟨_,rfl⟩
 obtain ⟨lo,hlo⟩:∃ lo:Nat,lo=a.natAbs*b.natAbs%aD:=⟨_,rfl⟩
 have hmul:=aH (fun w=>(Tryz.bits_Mul64 a.natAbs b.natAbs hal hbl w).mono (fun e w' h=>(show e = .returned (.tuple #[.int .u64 (hi:Int),.int .u64 (lo:Int)])∧w=w' from ⟨by rw [h.1,hhi,hlo];rfl,h.2.symm⟩)))
 have hdm:=Nat.div_add_mod (a.natAbs*b.natAbs) aD
 rw [← hhi,← hlo] at hdm
 have hll:lo<aD:=by rw [hlo];exact Nat.mod_lt _ bE
 have HH:=aH (aI hdm hll)
 have hlob:(lo:Int)≤18446744073709551615:=by rw [aL] at hll;omega
 have hhib:(0:Int)≤hi:=by omega
 have hab:∀ r:Nat,hi=0→a.natAbs*b.natAbs=lo:=fun _ h=>by
  have:=HH.out.1
  rw [h,Nat.mul_zero,Nat.zero_add] at this
  exact this.symm
 have HAB:=aH hab
 have hnm:(hi≠0∨¬ (lo:Int)≤9223372036854775807)→¬ gN (a*b):=fun h hm=>by
  have e1:=Int.natAbs_mul a b
  have e2:=HH.out.1
  rw [← e1] at e2
  obtain ⟨m1,m2⟩:=hm
  have h3:(a*b).natAbs≤9223372036854775807:=by omega
  generalize (a*b).natAbs=X at *
  rw [aL] at e2
  omega
 have HNM:=aH hnm
 clear hal hbl hhi hlo hdm hll hab hnm
 by_cases hi0:hi=0
 ·have hal:a.natAbs*b.natAbs=lo:=HAB.out 0 hi0
  subst hi0
  have hz0:(((0:Nat):Int) != 0)=false:=by simp
  by_cases hl:(lo:Int)≤9223372036854775807
  ·have e1:IntKind.i64.wrap (lo:Int)=lo:=by rw [IntKind.wrap_i64];omega
   have hpr:(a<0∧b<0→a*b=lo)∧(¬ a<0∧¬ b<0→a*b=lo)∧(a<0∧¬ b<0→a*b = -(lo:Int))∧(¬ a<0∧b<0→a*b = -(lo:Int)):=by
    rw [← hal]
    push_cast
    refine ⟨fun ⟨h1,h2⟩=>?_,fun ⟨h1,h2⟩=>?_,fun ⟨h1,h2⟩=>?_,fun ⟨h1,h2⟩=>?_⟩
    ·rw [show ((a.natAbs:Nat):Int) = -a from by omega,show ((b.natAbs:Nat):Int) = -b from by omega,Int.neg_mul_neg]
    ·rw [show ((a.natAbs:Nat):Int)=a from by omega,show ((b.natAbs:Nat):Int)=b from by omega]
    ·rw [show ((a.natAbs:Nat):Int) = -a from by omega,show ((b.natAbs:Nat):Int)=b from by omega,Int.neg_mul,Int.neg_neg]
    ·rw [show ((a.natAbs:Nat):Int)=a from by omega,show ((b.natAbs:Nat):Int) = -b from by omega,Int.mul_neg,Int.neg_neg]
   have HP:=aH hpr
   clear hpr hal
   have hout:∀ r:Int,r=a*b→(r=lo∨r = -(lo:Int))→GivesOk w (a*b) 0 (.returned (.tuple #[.int .i64 r,.bool true])) w:=fun r h1 h2 =>
    ⟨r,true,rfl,fun _=>⟨h1,by unfold gN;rw [← h1];omega⟩,fun h=>by (cases h),aB _ _⟩
   have HO:=aH hout
   clear hout
   obtain ⟨s1,hs1⟩:∃ s,decide (a<0)=s:=⟨_,rfl⟩
   obtain ⟨s2,hs2⟩:∃ s,decide (b<0)=s:=⟨_,rfl⟩
   have hn1:=aH hs1
   have hn2:=aH hs2
   cases s1 <;> cases s2
   all_goals
    go_enter Tryz.func212,Tryz.ntmps212
    go_wp2_with (first
     | (go_at_call 149;refine (eV _ _ (by omega) (by omega)).mono ?_;rintro e w' ⟨rfl,rfl⟩)
     | (go_at_call 232;refine (hmul.out _).mono ?_;rintro e w' ⟨rfl,rfl⟩))
    go_ret2
    first
     | exact HO.out _ (HP.out.1 ⟨by have:=hn1.out;simpa using this,by have:=hn2.out;simpa using this⟩).symm (.inl rfl)
     | exact HO.out _ (HP.out.2.1 ⟨by have:=hn1.out;simpa using this,by have:=hn2.out;simpa using this⟩).symm (.inl rfl)
     | exact HO.out _ (HP.out.2.2.1 ⟨by have:=hn1.out;simpa using this,by have:=hn2.out;simpa using this⟩).symm (.inr rfl)
     | exact HO.out _ (HP.out.2.2.2 ⟨by have:=hn1.out;simpa using this,by have:=hn2.out;simpa using this⟩).symm (.inr rfl)
  ·clear hal
   go_enter Tryz.func212,Tryz.ntmps212
   go_wp2_with (first
    | (go_at_call 149;refine (eV _ _ (by omega) (by omega)).mono ?_;rintro e w' ⟨rfl,rfl⟩)
    | (go_at_call 232;refine (hmul.out _).mono ?_;rintro e w' ⟨rfl,rfl⟩))
   go_ret2
   exact ⟨0,false,rfl,fun h=>by (cases h),fun _=>⟨rfl,HNM.out (by omega)⟩,aB _ _⟩
 ·have hz1:((hi:Int) != 0)=true:=by simp;omega
  go_enter Tryz.func212,Tryz.ntmps212
  go_wp2_with (first
   | (go_at_call 149;refine (eV _ _ (by omega) (by omega)).mono ?_;rintro e w' ⟨rfl,rfl⟩)
   | (go_at_call 232;refine (hmul.out _).mono ?_;rintro e w' ⟨rfl,rfl⟩))
  go_ret2
  exact ⟨0,false,rfl,fun h=>by (cases h),fun _=>⟨rfl,HNM.out (by omega)⟩,aB _ _⟩
attribute [local simp] known specOf Kd.spec Sp.is isVar Oper.looksAt Op.operands Call.operands Act.eval
theorem sumOf_any (a b:Int) (w:World) (ha:gN a) (hb:gN b):Calls Tryz.prog 210 #[.int .i64 a,.int .i64 b] w (GivesOk w (a+b) (IntKind.i64.wrap (a+b))):=by
 obtain ⟨s,hs⟩:∃ s,IntKind.i64.wrap (a+b)=s:=⟨_,rfl⟩
 have hsv:s=(a+b+9223372036854775808)%18446744073709551616-9223372036854775808:=by rw [← hs,IntKind.wrap_i64]
 obtain ⟨s1,hs1⟩:∃ s1,decide (a<0)=s1:=⟨_,rfl⟩
 obtain ⟨s2,hs2⟩:∃ s2,decide (b<0)=s2:=⟨_,rfl⟩
 obtain ⟨s3,hs3⟩:∃ s3,decide (s<0)=s3:=⟨_,rfl⟩
 obtain ⟨s4,hs4⟩:∃ s4,(s != -9223372036854775808)=s4:=⟨_,rfl⟩
 have H:=aH (aI ha (aI hb (aI hsv (aI hs1 (aI hs2 (aI hs3 hs4))))))
 rw [hs]
 have hout:∀ ok:Bool,ok=((s1 != s2 || s3==s1)&&s4)→GivesOk w (a+b) s (.returned (.tuple #[.int .i64 s,.bool ok])) w:=fun ok hok=>by
  obtain ⟨⟨a1,a2⟩,⟨b1,b2⟩,hsv,hs1,hs2,hs3,hs4⟩:=H.out
  have key:((s1 != s2 || s3==s1)&&s4)=true↔s=a+b∧gN (a+b):=by
   unfold gN
   cases s4
   ·have h4:s = -9223372036854775808:=by simpa using hs4
    simp
    omega
   ·have h4:s≠-9223372036854775808:=by simpa using hs4
    cases s1 <;> cases s2 <;> cases s3 <;> simp at hs1 hs2 hs3 ⊢ <;> omega
  refine ⟨s,ok,rfl,fun h=>key.1 (by rw [← hok,h]),fun h=>⟨rfl,fun hm=>?_⟩,aB _ _⟩
  have hsm:s=a+b:=by obtain ⟨m1,m2⟩:=hm;omega
  have:=key.2 ⟨hsm,hm⟩
  rw [← hok,h] at this
  cases this
 have HO:=aH hout
 clear ha hb hsv hout
 cases s1 <;> cases s2 <;> cases s3 <;> cases s4
 all_goals
  go_enter Tryz.func210,Tryz.ntmps210
  go_wp2
  go_ret2
  exact HO.out _ (by decide)
def coIs (o:Obj):Obj→World→Prop:=fun o' _=>o'=o
theorem pI (K:Value→Bool) (o:Obj):StableO K (coIs o):=fun _ _ _ h _=>h
def lP (n d:Int):Value := .agg #[.int .i64 n,.int .i64 (d-1),.pointer none]
set_option maxRecDepth 100000 in
theorem lowest_raw (n d:Int) (g:Nat) (w:World) (hn1:-9223372036854775808≤n) (hn2:n≤9223372036854775807) (hd1:1≤d) (hd2:d≤9223372036854775807) (hg:g=Nat.gcd d.natAbs n.natAbs) :
 Calls Tryz.prog 211 #[.int .i64 n,.int .i64 d] w (Gives w (lP (n/g) (d/g))):=by
 by_cases h1:d=1
 ·subst h1
  have:g=1:=by rw [hg];simp
  subst this
  unfold lP
  rw [show ((1:Nat):Int)=1 from rfl,Int.ediv_one,Int.ediv_one,Int.sub_self]
  clear hg
  go_enter Tryz.func211,Tryz.ntmps211
  go_wp2
  refine bodyPost_ret (v := .agg #[.int .i64 n,.int .i64 0,.pointer none]) (by simp [results,Tryz.results211,go_sem]) rfl ⟨rfl,?_⟩
  repeat (first|exact aB _ _|(refine Below.setCell ?_ (by first|omega|(simp <;> omega)) _)|(refine Below.alloc ?_ (by first|omega|(simp <;> omega)) _)|(refine Below.drew ?_)|exact aB _ _)
 ·have hz:(d==1)=false:=by simpa using h1
  have hg0:0<g:=by rw [hg];exact Nat.gcd_pos_of_pos_left _ (by omega)
  have hgd:g ∣ d.natAbs:=by rw [hg];exact Nat.gcd_dvd_left _ _
  have hgn:g ∣ n.natAbs:=by rw [hg];exact Nat.gcd_dvd_right _ _
  have hgle:g≤d.natAbs:=Nat.le_of_dvd (by omega) hgd
  have hcw:(d.natAbs:Int)=d:=by omega
  have hw1:IntKind.u64.wrap d=((d.natAbs:Nat):Int):=by rw [IntKind.wrap_u64];omega
  have hw2:IntKind.i64.wrap (g:Int)=g:=by rw [IntKind.wrap_i64];omega
  have hgz:¬ (g=0):=by omega
  obtain ⟨q1,hq1⟩:∃ q1,q1=n/(g:Int):=⟨_,rfl⟩
  obtain ⟨q2,hq2⟩:∃ q2,q2=d/(g:Int):=⟨_,rfl⟩
  have dn:(g:Int) ∣ n:=Int.ofNat_dvd_left.2 hgn
  have dd:(g:Int) ∣ d:=Int.ofNat_dvd_left.2 hgd
  have ht1:n.tdiv (g:Int)=q1:=by rw [hq1];exact Int.tdiv_eq_ediv_of_dvd dn
  have ht2:d.tdiv (g:Int)=q2:=by rw [hq2];exact Int.tdiv_eq_ediv_of_dvd dd
  have m1:q1*g=n:=by rw [hq1];exact Int.ediv_mul_cancel dn
  have m2:q2*g=d:=by rw [hq2];exact Int.ediv_mul_cancel dd
  have r2:1≤q2∧q2≤9223372036854775807:=by
   have:q2≤d:=by rw [hq2];exact Int.ediv_le_self _ (by omega)
   refine ⟨?_,by omega⟩
   rw [hq2]
   exact (Int.le_ediv_iff_mul_le (by omega)).2 (by omega)
  have r1:-9223372036854775808≤q1∧q1≤9223372036854775807:=by
   have h1:q1.natAbs≤n.natAbs:=by
    rw [← m1,Int.natAbs_mul]
    exact Nat.le_mul_of_pos_right _ (by simpa using hg0)
   have h2:n<0→q1<0:=fun h=>by
    apply Int.not_le.1
    intro h3
    have:=Int.mul_nonneg h3 (show (0:Int)≤g by omega)
    omega
   have h3:0≤n→0≤q1:=fun h=>by rw [hq1];exact Int.ediv_nonneg h (by omega)
   omega
  have w1:IntKind.i64.wrap q1=q1:=by rw [IntKind.wrap_i64];omega
  have w2:IntKind.i64.wrap q2=q2:=by rw [IntKind.wrap_i64];omega
  rw [← hq1,← hq2]
  have hgl:d.natAbs<aD:=by rw [aL];omega
  have hnl:n.natAbs<aD:=by rw [aL];omega
  have hgc:=fun w=>kJ d.natAbs n.natAbs w hgl hnl
  rw [← hg] at hgc
  have HG:=aH hgc
  have HQ:=aH (aI ht1 (aI ht2 (aI r1 (aI r2 (aI w1 w2)))))
  clear hg0 hgd hgn hgle hq1 hq2 dn dd ht1 ht2 m1 m2 r1 r2 w1 w2 hgl hnl hgc hg hcw h1
  go_enter Tryz.func211,Tryz.ntmps211
  go_wp2_with fail
  refine (eV n _ hn1 hn2).mono ?_
  rintro e w' ⟨rfl,rfl⟩
  go_wp2_with fail
  refine (HG.out _).mono ?_
  rintro e w3 ⟨rfl,b3⟩
  have hR:=aK b3 (heap_alloc_new w _)
  have B3:=aH (Below.step_trans ((aB w.heap.size w).alloc (aR _) _) b3)
  clear b3
  have t1:∀ w',Calls Tryz.prog 141 #[.int .i64 q1,.int .i64 q2] w' (TyPost w' (Sp.is (lP q1 q2))):=fun w'=>Gives.ty (uT q1 q2 w' HQ.out.2.2.2.1.1 HQ.out.2.2.2.1.2)
  have T1:=aH t1
  clear t1
  go_wp2_with fail
  have k1:=HQ.out.1
  have k2:=HQ.out.2.1
  have k3:=HQ.out.2.2.2.2.1
  have k4:=HQ.out.2.2.2.2.2
  refine wp_region_ty Kn [w.heap.size] (by kernel_rfl) (by kernel_rfl) ?_
  repeat (first|(apply bV (hg:=rfl);case h=>(intro A w' hB hk;simp at hk;first|(simp [go_sem,hk,hgz,k1,k2,k3,k4] <;> rfl)|(simp [go_sem,hgz,k1,k2,k3,k4];rfl)))|(refine aX _ ?_ (by first|exact .inl rfl|exact .inr rfl) (by rfl) (by simp [specOf,Kd.spec];rfl) ?_ rfl ?_;(exact Sp.is_stable _ _)))
  refine aO (Sp.is (lP q1 q2)) (Sp.is_stable _ _) rfl (fun A w' hB hk=>?_) ?_;(simp at hk;simp [go_sem,hk];refine aG ?_;exact T1.out _)
  refine iB (w.heap.size) (_) (coIs (.cells #[.int .i64 q1,.int .i64 (q2-1),.pointer none] 66 (0,0))) (pI _ _) rfl rfl (by simp) (by assumption) (by simp [hotObj,Ku,Kn]) (fun A w' hB hk h0=>?_) ?_;(simp at hk;have c0:=aA h0;have f0:=aZ h0;rw [lP] at hk;simp [go_sem,hk,c0,f0];exact ⟨_,eJ h0 _ _ _,rfl⟩)
  refine ⟨by first|rfl|decide,fun f w2 hB hF hAp=>?_⟩;simp [Final1,Sp.is,isVar] at hF;simp only [frameOf]
  obtain ⟨o,rfl,ho⟩:=hF.1
  obtain ⟨⟨r0,r1,r2⟩,_⟩:=dM ho
  have K:=aH hB
  clear hB ho hAp hF
  go_wp2
  refine bodyPost_ret (v := .agg #[.int .i64 q1,.int .i64 (q2-1),.pointer none]) (by simp [results,Tryz.results211,go_sem,r0,r1,r2,Act.put]) rfl ⟨rfl,?_⟩
  exact Base.belowT K.out B3.out (aR _)
end
section
open Go.RowKit Pl
def Sm (q:Rat):Prop:=q.num.natAbs≤M63∧q.den≤M63
def Nb (w:World) (v:Value) (q:Rat):Prop :=
 (Sm q∧v=lP q.num q.den) ∨
 (¬ Sm q∧∃ g s1 s2,v = .agg #[.int .i64 0,.int .i64 0,.pointer (some ⟨g,0,none⟩)]∧w.heap[g]?=some (.cells #[.bool (decide (q.num<0)),s1,s2] 108 (0,0))∧Nt w s1 q.num.natAbs∧Nt w s2 q.den)
theorem Nb.below {w w' : World} {v:Value} {q:Rat} (h:Nb w v q) (hb:Below w.heap.size w w'):Nb w' v q:=by
 rcases h with h|⟨h,g,s1,s2,e,hk,h1,h2⟩
 ·exact .inl h
 ·exact .inr ⟨h,g,s1,s2,e,aK hb hk,h1.below hb,h2.below hb⟩
theorem Nb.ext {K:Value→Bool} (hK:∀ x,K (.int .u64 x)=true) (hK2:∀ b,K (.bool b)=true) {w w' : World} {v:Value} {q:Rat} (h:Nb w v q) (hx:Ext K w w'):Nb w' v q:=by
 rcases h with h|⟨h,g,s1,s2,e,hk,h1,h2⟩
 ·exact .inl h
 ·exact .inr ⟨h,g,s1,s2,e,hx.block g _ hk (by simp [hotObj,hK2]),h1.ext hK hx,h2.ext hK hx⟩
def kK (q:Rat):Sp:=fun v w=>Nb w v q
theorem aV {K:Value→Bool} (hK:∀ x,K (.int .u64 x)=true) (hK2:∀ b,K (.bool b)=true) (q:Rat):Stable K (kK q):=fun _ _ _ h hx=>Nb.ext hK hK2 h hx
def GivesNb (w:World) (q:Rat) (e:Ending) (w' : World):Prop := ∃ v,e = .returned v∧Nb w' v q∧Below w.heap.size w w'
theorem GivesNb.ty {P:Program} {f:FuncId} {args:Array Value} {w:World} {q:Rat} (h:Calls P f args w (GivesNb w q)):Calls P f args w (TyPost w (kK q)) :=
 h.mono fun _ _ ⟨v,h1,h2,h3⟩=>⟨v,h1,h3,h2⟩
theorem Nb.form {w:World} {v:Value} {q:Rat} (h:Nb w v q):∃ n d p,v = .agg #[.int .i64 n,.int .i64 d,.pointer p]:=by
 rcases h with ⟨_,rfl⟩|⟨_,g,s1,s2,rfl,_⟩
 ·exact ⟨_,_,_,rfl⟩
 ·exact ⟨_,_,_,rfl⟩
def coNb (q:Rat):Obj→World→Prop:=fun o w => ∃ n d p,o = .cells #[.int .i64 n,.int .i64 d,.pointer p] 66 (0,0)∧Nb w (.agg #[.int .i64 n,.int .i64 d,.pointer p]) q
theorem eG {K:Value→Bool} (hK:∀ x,K (.int .u64 x)=true) (hK2:∀ b,K (.bool b)=true) (q:Rat):StableO K (coNb q):=fun _ _ _ ⟨n,d,p,e,h⟩ hx=>⟨n,d,p,e,h.ext hK hK2 hx⟩
theorem jJ {q:Rat} (h:Sm q):1≤(q.den:Int)∧(q.den:Int)≤9223372036854775807:=by
 have:=q.den_pos
 have h2:=h.2
 rw [eL] at h2
 omega
theorem jU {q:Rat} (h:Sm q):gN q.num:=by
 have h2:=h.1
 rw [eL] at h2
 unfold gN
 omega
set_option maxRecDepth 100000 in
set_option maxHeartbeats 8000000 in
theorem fB (v:Value) (q:Rat) (w:World) (h:Fr w v q):Calls Tryz.prog 74 #[v] w (GivesNb w q):=by
 obtain ⟨s1,s2,rfl,h1,h2⟩:=h
 obtain ⟨A1,n1,c1,rfl⟩:=h1.form
 obtain ⟨A2,n2,c2,rfl⟩:=h2.form
 obtain ⟨neg,hneg⟩:∃ neg,decide (q.num<0)=neg:=⟨_,rfl⟩
 rw [hneg]
 obtain ⟨hk1,hk2,hb1⟩:=alloc2 w (.cells #[.bool neg,.slice A1 n1 c1,.slice A2 n2 c2] 108) (.cells #[.int .i64 0,.int .i64 0,.pointer none] 66)
 have H:=aH (aI (h1.below hb1) (aI (h2.below hb1) (aI hb1 (aI hk1 (aI hk2 hneg)))))
 have HW:=aH (aI h1 h2)
 have hm1:∀ w',Below w.heap.size w w'→Calls Tryz.prog 139 #[.slice A1 n1 c1] w' fun e w''=>e = .returned (.bool (decide (q.num.natAbs≤M63)))∧w'=w'':=fun w' hb=>rF _ _ _ (h1.below hb)
 have hm2:∀ w',Below w.heap.size w w'→Calls Tryz.prog 139 #[.slice A2 n2 c2] w' fun e w''=>e = .returned (.bool (decide (q.den≤M63)))∧w'=w'':=fun w' hb=>rF _ _ _ (h2.below hb)
 have HM:=aH (aI hm1 hm2)
 clear h1 h2 hb1 hk1 hk2 hneg hm1 hm2
 by_cases hs:Sm q
 ·have z1:decide (q.num.natAbs≤M63)=true:=by rw [decide_eq_true_eq];exact hs.1
  have z2:decide (q.den≤M63)=true:=by rw [decide_eq_true_eq];exact hs.2
  rw [z1,z2] at HM
  have l1:q.num.natAbs%aD=q.num.natAbs:=Nat.mod_eq_of_lt (by have:=hs.1;rw [eL] at this;rw [aL];omega)
  have l2:q.den%aD=q.den:=Nat.mod_eq_of_lt (by have:=hs.2;rw [eL] at this;rw [aL];omega)
  have w1:IntKind.i64.wrap ((q.num.natAbs:Nat):Int)=((q.num.natAbs:Nat):Int):=by have:=hs.1;rw [eL] at this;rw [IntKind.wrap_i64];omega
  have w2:IntKind.i64.wrap ((q.den:Nat):Int)=(q.den:Int):=by have:=hs.2;rw [eL] at this;rw [IntKind.wrap_i64];omega
  have hd:=jJ hs
  have hbn:((q.num.natAbs:Nat):Int)≤9223372036854775807:=by have:=hs.1;rw [eL] at this;omega
  have HS:=aH (aI hs (aI l1 (aI l2 hd)))
  obtain ⟨N,hN⟩:∃ N:Nat,N=q.num.natAbs:=⟨_,rfl⟩
  obtain ⟨D,hD⟩:∃ D:Nat,D=q.den:=⟨_,rfl⟩
  rw [← hN] at w1 hbn
  rw [← hD] at w2
  have hd2:(D:Int)≤9223372036854775807:=by rw [hD];exact hd.2
  have hd1:(1:Int)≤D:=by rw [hD];exact hd.1
  have HND:=aH (aI hN hD)
  clear z1 z2 hs l1 l2 hd hN hD
  cases neg
  ·go_enter Tryz.func74,Tryz.ntmps74
   go_wp2_with fail
   refine (HM.out.1 _ H.out.2.2.1).mono ?_
   rintro e w' ⟨rfl,rfl⟩
   go_wp2_with fail
   refine (HM.out.2 _ H.out.2.2.1).mono ?_
   rintro e w' ⟨rfl,rfl⟩
   go_wp2_with fail
   refine (rV H.out.1).mono ?_
   rw [HS.out.2.1,← HND.out.1]
   rintro e w' ⟨rfl,rfl⟩
   go_wp2_with fail
   refine (rV H.out.2.1).mono ?_
   rw [HS.out.2.2.1,← HND.out.2]
   rintro e w' ⟨rfl,rfl⟩
   go_wp2_with fail
   refine (uT _ _ _ hd1 hd2).mono ?_
   rintro e w3 ⟨rfl,b3⟩
   have hk:=aK b3 H.out.2.2.2.2.1
   obtain ⟨⟨h0,h1,h2⟩,f0,f1,f2⟩:=dM hk
   have B3:=aH (Below.step_trans H.out.2.2.1 b3)
   clear b3 hk
   go_wp2
   refine bodyPost_ret (v := .agg #[.int .i64 (N:Int),.int .i64 ((D:Int)-1),.pointer none]) (by simp [results,Tryz.results74,go_sem,h0,h1,h2]) rfl ⟨_,rfl,.inl ⟨HS.out.1,?_⟩,?_⟩
   ·have e:=H.out.2.2.2.2.2
    have e2:q.num=(N:Int):=by
     have:=HND.out.1
     have:¬ q.num<0:=by simpa using e
     omega
    have e3:(q.den:Int)=D:=by rw [HND.out.2]
    rw [lP,e2,e3]
   ·repeat (first|exact B3.out|(refine Below.setCell ?_ (by first|omega|(simp <;> omega)) _)|(refine Below.alloc ?_ (by first|omega|(simp <;> omega)) _)|(refine Below.drew ?_)|exact aB _ _)
  ·go_enter Tryz.func74,Tryz.ntmps74
   go_wp2_with fail
   refine (HM.out.1 _ H.out.2.2.1).mono ?_
   rintro e w' ⟨rfl,rfl⟩
   go_wp2_with fail
   refine (HM.out.2 _ H.out.2.2.1).mono ?_
   rintro e w' ⟨rfl,rfl⟩
   go_wp2_with fail
   refine (rV H.out.1).mono ?_
   rw [HS.out.2.1,← HND.out.1]
   rintro e w' ⟨rfl,rfl⟩
   go_wp2_with fail
   refine (rV H.out.2.1).mono ?_
   rw [HS.out.2.2.1,← HND.out.2]
   rintro e w' ⟨rfl,rfl⟩
   go_wp2_with fail
   refine (uT _ _ _ hd1 hd2).mono ?_
   rintro e w3 ⟨rfl,b3⟩
   have hk:=aK b3 H.out.2.2.2.2.1
   obtain ⟨⟨h0,h1,h2⟩,f0,f1,f2⟩:=dM hk
   have B3:=aH (Below.step_trans H.out.2.2.1 b3)
   clear b3 hk
   go_wp2
   refine bodyPost_ret (v := .agg #[.int .i64 (-(N:Int)),.int .i64 ((D:Int)-1),.pointer none]) (by simp [results,Tryz.results74,go_sem,h0,h1,h2]) rfl ⟨_,rfl,.inl ⟨HS.out.1,?_⟩,?_⟩
   ·have e:=H.out.2.2.2.2.2
    have e2:q.num=(-(N:Int)):=by
     have:=HND.out.1
     have:q.num<0:=by simpa using e
     omega
    have e3:(q.den:Int)=D:=by rw [HND.out.2]
    rw [lP,e2,e3]
   ·repeat (first|exact B3.out|(refine Below.setCell ?_ (by first|omega|(simp <;> omega)) _)|(refine Below.alloc ?_ (by first|omega|(simp <;> omega)) _)|(refine Below.drew ?_)|exact aB _ _)
 ·have z12:decide (q.num.natAbs≤M63)=false∨(decide (q.num.natAbs≤M63)=true∧decide (q.den≤M63)=false):=by
   rcases Bool.eq_false_or_eq_true (decide (q.num.natAbs≤M63)) with h|h
   ·rcases Bool.eq_false_or_eq_true (decide (q.den≤M63)) with h'|h'
    ·exact absurd ⟨by simpa using h,by simpa using h'⟩ hs
    ·exact .inr ⟨h,h'⟩
   ·exact .inl h
  have HS:=aH hs
  clear hs
  have hfin:∀ w2,Below w.heap.size w w2→∀ g,w2.heap[g]?=some (.cells #[.bool neg,.slice A1 n1 c1,.slice A2 n2 c2] 108 (0,0))→Nt w2 (.slice A1 n1 c1) q.num.natAbs→Nt w2 (.slice A2 n2 c2) q.den →
   GivesNb w q (.returned (.agg #[.int .i64 0,.int .i64 0,.pointer (some ⟨g,0,none⟩)])) w2:=fun w2 hb g hg hn hd =>
   ⟨_,rfl,.inr ⟨HS.out,g,_,_,rfl,by rw [H.out.2.2.2.2.2];exact hg,hn,hd⟩,hb⟩
  have HF:=aH hfin
  clear hfin
  rcases z12 with z1|⟨z1,z2⟩
  ·rw [z1] at HM
   clear z1
   go_enter Tryz.func74,Tryz.ntmps74
   go_wp2_with fail
   refine (HM.out.1 _ H.out.2.2.1).mono ?_
   rintro e w' ⟨rfl,rfl⟩
   go_wp2
   refine bodyPost_ret (v := .agg #[.int .i64 0,.int .i64 0,.pointer (some ⟨w.heap.size+1+1,0,none⟩)]) (by simp [results,Tryz.results74,go_sem]) rfl (HF.out _ (eK w _ _ _).2.2.2 _ (eK w _ _ _).2.2.1 (HW.out.1.below (eK w _ _ _).2.2.2) (HW.out.2.below (eK w _ _ _).2.2.2))
  ·rw [z1,z2] at HM
   clear z1 z2
   go_enter Tryz.func74,Tryz.ntmps74
   go_wp2_with fail
   refine (HM.out.1 _ H.out.2.2.1).mono ?_
   rintro e w' ⟨rfl,rfl⟩
   go_wp2_with fail
   refine (HM.out.2 _ H.out.2.2.1).mono ?_
   rintro e w' ⟨rfl,rfl⟩
   go_wp2
   refine bodyPost_ret (v := .agg #[.int .i64 0,.int .i64 0,.pointer (some ⟨w.heap.size+1+1,0,none⟩)]) (by simp [results,Tryz.results74,go_sem]) rfl (HF.out _ (eK w _ _ _).2.2.2 _ (eK w _ _ _).2.2.1 (HW.out.1.below (eK w _ _ _).2.2.2) (HW.out.2.below (eK w _ _ _).2.2.2))
attribute [local simp] known specOf Kd.spec Sp.is isVar Oper.looksAt Op.operands Call.operands Act.eval
theorem Fr.of_machine {w:World} {q:Rat} {s1 s2:Value} (h1:Nt w s1 q.num.natAbs) (h2:Nt w s2 q.den):Fr w (.agg #[.bool (decide (q.num<0)),s1,s2]) q:=⟨s1,s2,rfl,h1,h2⟩
set_option maxRecDepth 100000 in
set_option maxHeartbeats 8000000 in
theorem cF (v:Value) (q:Rat) (w:World) (h:Nb w v q):Calls Tryz.prog 155 #[v] w (GivesFr w q):=by
 rcases h with ⟨hs,rfl⟩|⟨hs,g,s1,s2,rfl,hk,h1,h2⟩
 ·obtain ⟨n,hn⟩:∃ n,n=q.num:=⟨_,rfl⟩
  obtain ⟨d,hd⟩:∃ d:Nat,d=q.den:=⟨_,rfl⟩
  unfold lP
  have hmn:=jU hs
  have hmd:=jJ hs
  rw [← hn] at hmn
  rw [← hd] at hmd
  rw [← hn,← hd]
  obtain ⟨hk1,hk2,hb1⟩:=alloc2 w (.cells #[.int .i64 n,.int .i64 ((d:Int)-1),.pointer none] 66) (.cells #[.bool false,.slice none 0 0,.slice none 0 0] 108)
  have H:=aH (aI hn (aI hd (aI hmn (aI hmd (aI hb1 (aI hk1 hk2))))))
  clear hn hd hmn hmd hb1 hk1 hk2
  go_enter Tryz.func155,Tryz.ntmps155
  go_wp2
  generalize (w.alloc (.cells #[.int .i64 n,.int .i64 ((d:Int)-1),.pointer none] 66)).alloc (.cells #[.bool false,.slice none 0 0,.slice none 0 0] 108)=w1 at *
  have hA:=H.out.2.2.2.2.2.1
  have hR:=H.out.2.2.2.2.2.2
  have t1:∀ w',Calls Tryz.prog 149 #[.int .i64 n] w' (TyPost w' (Sp.is (.int .u64 ((n.natAbs:Nat):Int)))):=fun w'=>by
   obtain ⟨a1,a2⟩:=H.out.2.2.1
   exact (eV n w' (by omega) a2).mono fun _ w'' ⟨h1,h2⟩=>⟨_,h1,by rw [← h2];exact aB _ _,rfl⟩
  have t2:∀ w',Calls Tryz.prog 137 #[.int .u64 ((n.natAbs:Nat):Int)] w' (TyPost w' (kZ n.natAbs)):=fun w'=>GivesNt.ty (cE _ (by obtain ⟨a1,a2⟩:=H.out.2.2.1;rw [aL];omega) w')
  have t3:∀ w',Calls Tryz.prog 147 #[.agg #[.int .i64 n,.int .i64 ((d:Int)-1),.pointer none]] w' (TyPost w' (Sp.is (.int .i64 (d:Int)))):=fun w'=>by
   obtain ⟨a1,a2⟩:=H.out.2.2.2.1
   have:=Gives.ty (nV n ((d:Int)-1) none w' (by omega) (by omega))
   rwa [Int.sub_add_cancel] at this
  have t4:∀ w',Calls Tryz.prog 137 #[.int .u64 (d:Int)] w' (TyPost w' (kZ d)):=fun w'=>GivesNt.ty (cE _ (by obtain ⟨a1,a2⟩:=H.out.2.2.2.1;rw [aL];omega) w')
  have T:=aH (aI t1 (aI t2 (aI t3 t4)))
  clear t1 t2 t3 t4
  have k1:IntKind.u64.wrap (d:Int)=d:=by obtain ⟨a1,a2⟩:=H.out.2.2.2.1;rw [IntKind.wrap_u64];omega
  obtain ⟨neg,hneg⟩:∃ neg,decide (n<0)=neg:=⟨_,rfl⟩
  have HN:=aH hneg
  refine wp_region_ty Ku [w.heap.size+1] (by kernel_rfl) (by kernel_rfl) ?_
  repeat (first|(apply bV (hg:=rfl);case h=>(intro A w' hB hk;simp at hk;have c_hA:=aA (hB.blk hA (by simp <;> omega));first|(simp [go_sem,hk,c_hA,hneg] <;> rfl)|(simp [go_sem,c_hA,hneg];rfl)))|(refine aX _ ?_ (by first|exact .inl rfl|exact .inr rfl) (by rfl) (by simp [specOf,Kd.spec];rfl) ?_ rfl ?_;(first|exact Sp.is_stable _ _|exact aT (fun _=>rfl) _|exact aM (fun _=>rfl) _)))
  refine aO (Sp.is (.int .u64 ((n.natAbs:Nat):Int))) (Sp.is_stable _ _) rfl (fun A w' hB hk=>?_) ?_;(simp at hk;have c_hA:=aA (hB.blk hA (by simp <;> omega));simp [go_sem,hk,c_hA];refine aG ?_;exact T.out.1 _)
  refine aO (kZ n.natAbs) (aT (fun _=>rfl) _) rfl (fun A w' hB hk=>?_) ?_;(simp at hk;have c_hA:=aA (hB.blk hA (by simp <;> omega));simp [go_sem,hk,c_hA];refine aG ?_;exact T.out.2.1 _)
  repeat (first|(apply bV (hg:=rfl);case h=>(intro A w' hB hk;simp at hk;have c_hA:=aA (hB.blk hA (by simp <;> omega));first|(simp [go_sem,hk,c_hA] <;> rfl)|(simp [go_sem,c_hA];rfl)))|(refine aX _ ?_ (by first|exact .inl rfl|exact .inr rfl) (by rfl) (by simp [specOf,Kd.spec];rfl) ?_ rfl ?_;(first|exact Sp.is_stable _ _|exact aT (fun _=>rfl) _|exact aM (fun _=>rfl) _)))
  refine aO (Sp.is (.int .i64 (d:Int))) (Sp.is_stable _ _) rfl (fun A w' hB hk=>?_) ?_;(simp at hk;have c_hA:=aA (hB.blk hA (by simp <;> omega));simp [go_sem,hk,c_hA];refine aG ?_;exact T.out.2.2.1 _)
  repeat (first|(apply bV (hg:=rfl);case h=>(intro A w' hB hk;simp at hk;have c_hA:=aA (hB.blk hA (by simp <;> omega));first|(simp [go_sem,hk,c_hA,k1] <;> rfl)|(simp [go_sem,c_hA,k1];rfl)))|(refine aX _ ?_ (by first|exact .inl rfl|exact .inr rfl) (by rfl) (by simp [specOf,Kd.spec];rfl) ?_ rfl ?_;(first|exact Sp.is_stable _ _|exact aT (fun _=>rfl) _|exact aM (fun _=>rfl) _)))
  refine aO (kZ d) (aT (fun _=>rfl) _) rfl (fun A w' hB hk=>?_) ?_;(simp at hk;have c_hA:=aA (hB.blk hA (by simp <;> omega));simp [go_sem,hk,c_hA];refine aG ?_;exact T.out.2.2.2 _)
  refine aO (fM q) (aM (fun _=>rfl) _) rfl (fun A w' hB hk=>?_) ?_;(simp at hk;have c_hA:=aA (hB.blk hA (by simp <;> omega));obtain ⟨k1,k2,k3⟩:=hk;obtain ⟨B1,m1,u1,e1⟩:=(show Nt _ _ _ from k2).form;obtain ⟨B2,m2,u2,e2⟩:=(show Nt _ _ _ from k3).form;rw [e1] at k2;rw [e2] at k3;simp [go_sem,k1,e1,e2];refine kB ?_;have e3:=H.out.1;have e4:=H.out.2.1;rw [e3] at k2;rw [e4] at k3;rw [← HN.out,e3];exact Fr.of_machine k2 k3)
  refine iB (w.heap.size+1) (_) (coFr q) (lO (fun _=>rfl) _) rfl rfl (by simp) (by assumption) (by simp [hotObj,Ku,Kn]) (fun A w' hB hk h0=>?_) ?_;(simp at hk;have c_hA:=aA (hB.blk hA (by simp <;> omega));have c0:=aA h0;have f0:=aZ h0;obtain ⟨k1,z1,z2,k2,k3,k4⟩:=hk;obtain ⟨B1,m1,e1,rfl⟩:=k3.form;obtain ⟨B2,m2,e2,rfl⟩:=k4.form;simp [go_sem,k1,k2,c0,f0];exact ⟨_,eJ h0 _ _ _,_,_,rfl,k3,k4⟩)
  refine ⟨by first|rfl|decide,fun f w2 hB hF hAp=>?_⟩;simp [Final1,Sp.is,isVar] at hF;simp only [frameOf]
  obtain ⟨o,⟨s1,s2,rfl,k3,k4⟩,ho⟩:=hF.1
  obtain ⟨B1,m1,u1,rfl⟩:=k3.form
  obtain ⟨B2,m2,u2,rfl⟩:=k4.form
  obtain ⟨⟨r0,r1,r2⟩,_⟩:=dM ho
  have K:=aH (aI k3 (aI k4 hB))
  clear k3 k4 hB ho hA hAp hF
  go_wp2
  refine bodyPost_ret (v := .agg #[.bool (decide (q.num<0)),.slice B1 m1 u1,.slice B2 m2 u2]) (by simp [results,Tryz.results155,go_sem,r0,r1,r2,Act.put]) rfl ⟨_,rfl,⟨_,_,rfl,K.out.1,K.out.2.1⟩,?_⟩
  exact Base.belowT K.out.2.2 H.out.2.2.2.2.1 (by omega)
 ·obtain ⟨A1,n1,c1,rfl⟩:=h1.form
  obtain ⟨A2,n2,c2,rfl⟩:=h2.form
  obtain ⟨hk1,hk2,hb1⟩:=alloc2 w (.cells #[.int .i64 0,.int .i64 0,.pointer (some ⟨g,0,none⟩)] 66) (.cells #[.bool false,.slice none 0 0,.slice none 0 0] 108)
  have hg:=aK hb1 hk
  obtain ⟨⟨g0,g1,g2⟩,_⟩:=dM hg
  have hlt:=lt_of_block hk
  have HW:=aH (aI h1 h2)
  clear h1 h2 hk hb1 hs hk1 hk2 hg
  go_enter Tryz.func155,Tryz.ntmps155
  go_wp2
  refine bodyPost_ret (v := .agg #[.bool (decide (q.num<0)),.slice A1 n1 c1,.slice A2 n2 c2]) (by simp [results,Tryz.results155,go_sem]) rfl ⟨_,rfl,⟨_,_,rfl,HW.out.1.below ?_,HW.out.2.below ?_⟩,?_⟩ <;> repeat (first|exact aB _ _|(refine Below.setCell ?_ (by first|omega|(simp <;> omega)) _)|(refine Below.alloc ?_ (by first|omega|(simp <;> omega)) _)|(refine Below.drew ?_)|exact aB _ _)
end
section
open Go.RowKit Pl
theorem nW (a:Int) (w:World):Calls Tryz.prog 214 #[.int .i64 a] w fun e w'=>e = .returned (.bool false)∧w=w':=by
 have h:(a != a)=false:=by simp
 go_enter Tryz.func214,Tryz.ntmps214
 go_wp2
 go_ret
 exact ⟨sN (by simp),rfl⟩
theorem cmpInt64_any (a b:Int) (w:World):Calls Tryz.prog 157 #[.int .i64 a,.int .i64 b] w fun e w'=>e = .returned (.int .i64 (bW a b))∧w=w':=by
 rcases Int.lt_trichotomy a b with h|h|h
 ·have hp:=aH (show bW a b = -1 by unfold bW;rw [if_pos h])
  go_enter Tryz.func157,Tryz.ntmps157
  go_wp2_with (go_at_call 214;refine (nW _ _).mono ?_;rintro e w' ⟨rfl,rfl⟩)
  go_ret
  exact ⟨cB hp.out.symm,rfl⟩
 ·subst h
  have hp:=aH (show bW a a=0 by unfold bW;rw [if_neg (by omega),if_neg (by omega)])
  go_enter Tryz.func157,Tryz.ntmps157
  go_wp2_with (go_at_call 214;refine (nW _ _).mono ?_;rintro e w' ⟨rfl,rfl⟩)
  go_ret
  exact ⟨cB hp.out.symm,rfl⟩
 ·have hp:=aH (show bW a b=1 by unfold bW;rw [if_neg (by omega),if_pos h])
  go_enter Tryz.func157,Tryz.ntmps157
  go_wp2_with (go_at_call 214;refine (nW _ _).mono ?_;rintro e w' ⟨rfl,rfl⟩)
  go_ret
  exact ⟨cB hp.out.symm,rfl⟩
theorem xJ:Sm 0:=⟨Nat.zero_le _,by show 1≤M63;rw [eL];omega⟩
theorem qG (v:Value) (q:Rat) (w:World) (h:Nb w v q):Calls Tryz.prog 43 #[v] w (Gives w (.bool (decide (q=0)))):=by
 rcases h with ⟨hs,rfl⟩|⟨hs,g,s1,s2,rfl,_⟩
 ·obtain ⟨z,hz⟩:∃ z,(q.num==0)=z:=⟨_,rfl⟩
  have hq:decide (q=0)=z:=by
   rw [← hz,Bool.eq_iff_iff]
   simp [Rat.num_eq_zero]
  rw [hq]
  clear hq hs
  unfold lP
  generalize q.num=n at *
  cases z
  all_goals
   go_enter Tryz.func43,Tryz.ntmps43
   go_wp2
   go_ret
   refine ⟨rfl,?_⟩
   repeat (first|exact aB _ _|(refine Below.setCell ?_ (by first|omega|(simp <;> omega)) _)|(refine Below.alloc ?_ (by first|omega|(simp <;> omega)) _)|(refine Below.drew ?_)|exact aB _ _)
 ·have hq:decide (q=0)=false:=by
   rw [decide_eq_false_iff_not]
   intro h
   rw [h] at hs
   exact hs xJ
  rw [hq]
  clear hq hs
  go_enter Tryz.func43,Tryz.ntmps43
  go_wp2
  go_ret
  refine ⟨rfl,?_⟩
  repeat (first|exact aB _ _|(refine Below.setCell ?_ (by first|omega|(simp <;> omega)) _)|(refine Below.alloc ?_ (by first|omega|(simp <;> omega)) _)|(refine Below.drew ?_)|exact aB _ _)
def lK (q:Rat):Int:=bW q.num 0
theorem sign_nb (v:Value) (q:Rat) (w:World) (h:Nb w v q):Calls Tryz.prog 98 #[v] w (Gives w (.int .i64 (lK q))):=by
 unfold lK
 rcases h with ⟨hs,rfl⟩|⟨hs,g,s1,s2,rfl,hk,h1,h2⟩
 ·unfold lP
  clear hs
  generalize q.num=n at *
  go_enter Tryz.func98,Tryz.ntmps98
  go_wp2_with (go_at_call 157;refine (cmpInt64_any _ _ _).mono ?_;rintro e w' ⟨rfl,rfl⟩)
  go_ret
  refine ⟨rfl,?_⟩
  repeat (first|exact aB _ _|(refine Below.setCell ?_ (by first|omega|(simp <;> omega)) _)|(refine Below.alloc ?_ (by first|omega|(simp <;> omega)) _)|(refine Below.drew ?_)|exact aB _ _)
 ·obtain ⟨A1,n1,c1,rfl⟩:=h1.form
  obtain ⟨A2,n2,c2,rfl⟩:=h2.form
  have hb1:Below w.heap.size w (w.alloc (.cells #[.int .i64 0,.int .i64 0,.pointer (some ⟨g,0,none⟩)] 66)):=(aB _ _).alloc (aR _) _
  obtain ⟨⟨g0,g1,g2⟩,_⟩:=dM (aK hb1 hk)
  obtain ⟨neg,hneg⟩:∃ neg,decide (q.num<0)=neg:=⟨_,rfl⟩
  have hq:q.num≠0:=fun e=>hs (by rw [Rat.num_eq_zero.1 e];exact xJ)
  have hlt:=lt_of_block hk
  have hc:bW q.num 0=if neg=true then -1 else 1:=by
   rw [← hneg]
   unfold bW
   by_cases h:q.num<0
   ·rw [if_pos h,if_pos (by simpa using h)]
   ·rw [if_neg h,if_pos (by omega),if_neg (by simpa using h)]
  rw [hc]
  rw [hneg] at g0
  clear hc hq hs h1 h2 hk hb1 hneg
  cases neg
  all_goals
   go_enter Tryz.func98,Tryz.ntmps98
   go_wp2
   go_ret
   refine ⟨rfl,?_⟩
   repeat (first|exact aB _ _|(refine Below.setCell ?_ (by first|omega|(simp <;> omega)) _)|(refine Below.alloc ?_ (by first|omega|(simp <;> omega)) _)|(refine Below.drew ?_)|exact aB _ _)
theorem sZ (v v' : Value) (p q:Rat) (w:World) (hp:Sm p) (hq:Sm q) (h:v=lP p.num p.den) (h' : v'=lP q.num q.den):Calls Tryz.prog 153 #[v,v'] w (Gives w (.bool true)):=by
 subst h;subst h'
 unfold lP
 clear hp hq
 go_enter Tryz.func153,Tryz.ntmps153
 go_wp2
 go_ret
 refine ⟨rfl,?_⟩
 repeat (first|exact aB _ _|(refine Below.setCell ?_ (by first|omega|(simp <;> omega)) _)|(refine Below.alloc ?_ (by first|omega|(simp <;> omega)) _)|(refine Below.drew ?_)|exact aB _ _)
theorem wC (v v' : Value) (p q:Rat) (w:World) (h:Nb w v p) (h' : Nb w v' q) (hn:¬ (Sm p∧Sm q)):Calls Tryz.prog 153 #[v,v'] w (Gives w (.bool false)):=by
 rcases h with ⟨hs,rfl⟩|⟨hs,g,s1,s2,rfl,hk,h1,h2⟩
 ·rcases h' with ⟨hs',rfl⟩|⟨hs',g',s1',s2',rfl,hk',h1',h2'⟩
  ·exact absurd ⟨hs,hs'⟩ hn
  ·unfold lP
   clear hs hs' hk' h1' h2' hn
   go_enter Tryz.func153,Tryz.ntmps153
   go_wp2
   go_ret
   refine ⟨rfl,?_⟩
   repeat (first|exact aB _ _|(refine Below.setCell ?_ (by first|omega|(simp <;> omega)) _)|(refine Below.alloc ?_ (by first|omega|(simp <;> omega)) _)|(refine Below.drew ?_)|exact aB _ _)
 ·obtain ⟨n,d,pp,rfl⟩:=h'.form
  clear hs h' hk h1 h2 hn
  go_enter Tryz.func153,Tryz.ntmps153
  go_wp2
  go_ret
  refine ⟨rfl,?_⟩
  repeat (first|exact aB _ _|(refine Below.setCell ?_ (by first|omega|(simp <;> omega)) _)|(refine Below.alloc ?_ (by first|omega|(simp <;> omega)) _)|(refine Below.drew ?_)|exact aB _ _)
set_option maxRecDepth 100000 in
theorem yY (v:Value) (q:Rat) (w:World) (h:Nb w v q):Calls Tryz.prog 151 #[v] w (GivesNb w (-q)):=by
 rcases h with ⟨hs,rfl⟩|⟨hs,g,s1,s2,rfl,hk,h1,h2⟩
 ·have hm:=jU hs
  have hs' : Sm (-q):=⟨by rw [Rat.neg_num,Int.natAbs_neg];exact hs.1,hs.2⟩
  have hv:lP (-q).num (-q).den = .agg #[.int .i64 (-q.num),.int .i64 ((q.den:Int)-1),.pointer none]:=rfl
  obtain ⟨m1,m2⟩:=hm
  have H:=aH (aI hs' hv)
  unfold lP
  clear hs hs' hv
  have hw:IntKind.i64.wrap (-q.num) = -q.num:=by rw [IntKind.wrap_i64];omega
  generalize q.num=n at *
  generalize ((q.den:Int)-1)=d at *
  go_enter Tryz.func151,Tryz.ntmps151
  go_wp2
  refine bodyPost_ret (v := .agg #[.int .i64 (-n),.int .i64 d,.pointer none]) (by simp [results,Tryz.results151,go_sem]) rfl ⟨_,rfl,.inl ⟨H.out.1,H.out.2.symm⟩,?_⟩
  repeat (first|exact aB _ _|(refine Below.setCell ?_ (by first|omega|(simp <;> omega)) _)|(refine Below.alloc ?_ (by first|omega|(simp <;> omega)) _)|(refine Below.drew ?_)|exact aB _ _)
 ·obtain ⟨A1,n1,c1,rfl⟩:=h1.form
  obtain ⟨A2,n2,c2,rfl⟩:=h2.form
  obtain ⟨hk1,hk2,hb1⟩:=alloc2 w (.cells #[.int .i64 0,.int .i64 0,.pointer (some ⟨g,0,none⟩)] 66) (.cells #[.int .i64 0,.int .i64 0,.pointer none] 66)
  obtain ⟨⟨g0,g1,g2⟩,_⟩:=dM (aK hb1 hk)
  have hq:q≠0:=fun e=>hs (by rw [e];exact xJ)
  have hlt:=lt_of_block hk
  have hfr:Fr w (.agg #[.bool (decide (q.num<0)),.slice A1 n1 c1,.slice A2 n2 c2]) q:=⟨_,_,rfl,h1,h2⟩
  have H:=aH (aI hfr (aI hq (aI hb1 (aI hk1 hk2))))
  clear h1 h2 hk hb1 hk1 hk2 hs hq hfr
  go_enter Tryz.func151,Tryz.ntmps151
  go_wp2_with fail
  refine (negated_any _ q _ (H.out.1.below H.out.2.2.1) H.out.2.1).mono ?_
  rintro e w2 ⟨v2,rfl,q2,b2⟩
  have Q2:=aH (aI q2 b2)
  clear q2 b2
  go_wp2_with fail
  refine (fB _ _ _ Q2.out.1).mono ?_
  rintro e w3 ⟨v3,rfl,q3,b3⟩
  obtain ⟨n,d,p,rfl⟩:=q3.form
  have hk:=aK (Below.step_trans Q2.out.2 b3) H.out.2.2.2.2
  obtain ⟨⟨h0,h1,h2⟩,f0,f1,f2⟩:=dM hk
  have Q3:=aH (aI q3 (aI b3 hk))
  clear q3 b3 hk
  go_wp2
  refine bodyPost_ret (v := .agg #[.int .i64 n,.int .i64 d,.pointer p]) (by simp [results,Tryz.results151,go_sem,h0,h1,h2]) rfl ⟨_,rfl,?_,?_⟩
  ·exact Nb.ext (K:=Kn) (fun _=>rfl) (fun _=>rfl) Q3.out.1 (Ext.only (rE _ _ _ _ _) Q3.out.2.2 (by simp [hotObj,Kn]))
  ·repeat (first|exact (Below.step_trans H.out.2.2.1 (Below.step_trans Q2.out.2 Q3.out.2.1))|(refine Below.setCell ?_ (by first|omega|(simp <;> omega)) _)|(refine Below.alloc ?_ (by first|omega|(simp <;> omega)) _)|(refine Below.drew ?_)|exact aB _ _)
theorem gO (a b:Int) (ha:gN a) (hb:gN b):∃ (r:Int) (ok:Bool),(∀ w,Calls Tryz.prog 212 #[.int .i64 a,.int .i64 b] w (Gives w (.tuple #[.int .i64 r,.bool ok])))∧(ok=true→r=a*b∧gN (a*b))∧gN r:=by
 by_cases h:gN (a*b)
 ·exact ⟨_,true,fun w=>GivesOk.yes (rG a b w ha hb) h,fun _=>⟨rfl,h⟩,h⟩
 ·exact ⟨0,false,fun w=>GivesOk.no (rG a b w ha hb) h,fun h=>(by cases h),by unfold gN;omega⟩
theorem sumOf_ex (a b:Int) (ha:gN a) (hb:gN b):∃ (r:Int) (ok:Bool),(∀ w,Calls Tryz.prog 210 #[.int .i64 a,.int .i64 b] w (Gives w (.tuple #[.int .i64 r,.bool ok])))∧(ok=true→r=a+b∧gN (a+b))∧-9223372036854775808≤r∧r≤9223372036854775807:=by
 by_cases h:gN (a+b)
 ·exact ⟨_,true,fun w=>GivesOk.yes (sumOf_any a b w ha hb) h,fun _=>⟨rfl,h⟩,by obtain ⟨h1,h2⟩:=h;omega,h.2⟩
 ·exact ⟨IntKind.i64.wrap (a+b),false,fun w=>GivesOk.no (sumOf_any a b w ha hb) h,fun h=>(by cases h),by rw [IntKind.wrap_i64];omega,by rw [IntKind.wrap_i64];omega⟩
theorem qH (n:Int) (d:Nat) (hn1:-9223372036854775808≤n) (hn2:n≤9223372036854775807) (hd1:1≤d) (hd2:(d:Int)≤9223372036854775807) :
 (∀ w,Calls Tryz.prog 211 #[.int .i64 n,.int .i64 (d:Int)] w (Gives w (lP (mkRat n d).num (mkRat n d).den)))∧(gN n→Sm (mkRat n d)):=by
 have e1:(mkRat n d).num=n/((Nat.gcd d n.natAbs:Nat):Int):=by rw [Rat.num_mkRat,if_neg (by omega)]
 have e2:(((mkRat n d).den:Nat):Int)=(d:Int)/((Nat.gcd d n.natAbs:Nat):Int):=by rw [Rat.den_mkRat,if_neg (by omega),Int.natCast_ediv]
 refine ⟨fun w=>?_,fun hm=>?_⟩
 ·rw [e1,e2]
  exact lowest_raw n d _ w hn1 hn2 (by omega) hd2 rfl
 ·obtain ⟨h1,h2⟩:=dR n (d:=d) (by omega)
  obtain ⟨m1,m2⟩:=hm
  exact ⟨Nat.le_trans h1 (by rw [eL];omega),Nat.le_trans h2 (by rw [eL];omega)⟩
def iD (w:World) (q:Rat) (e:Ending) (w' : World):Prop := ∃ (n d:Int) (ok:Bool),e = .returned (.tuple #[.agg #[.int .i64 n,.int .i64 d,.pointer none],.bool ok])∧(ok=true→Sm q∧.agg #[.int .i64 n,.int .i64 d,.pointer none]=lP q.num q.den)∧Below w.heap.size w w'
set_option maxRecDepth 100000 in
set_option maxHeartbeats 8000000 in
theorem yZ (p q:Rat) (w:World) (hp:Sm p) (hq:Sm q) (hd:p.den=q.den):Calls Tryz.prog 154 #[lP p.num p.den,lP q.num q.den] w (iD w (p+q)):=by
 have hpq:p+q=mkRat (p.num+q.num) p.den:=by
  rw [Rat.add_def',← hd]
  have := @Rat.mkRat_mul_right (p.num+q.num) p.den p.den p.den_nz
  rw [← this,Int.add_mul]
 have md:=jJ hp
 obtain ⟨s,ok,hs1,hs2,hs3,hs4⟩:=sumOf_ex p.num q.num (jU hp) (jU hq)
 obtain ⟨hl1,hl2⟩:=qH s p.den hs3 hs4 p.den_pos md.2
 rw [← hd]
 unfold lP
 obtain ⟨n,hn⟩:∃ n,n=p.num:=⟨_,rfl⟩
 obtain ⟨m,hm⟩:∃ m,m=q.num:=⟨_,rfl⟩
 obtain ⟨d,hdd⟩:∃ d:Nat,d=p.den:=⟨_,rfl⟩
 rw [← hn,← hm] at hs1
 rw [← hdd] at hl1 md
 rw [← hn,← hm,← hdd]
 have hout:ok=true→Sm (p+q)∧lP (mkRat s d).num (mkRat s d).den=lP (p+q).num (p+q).den:=fun h=>by
  obtain ⟨h1,h2⟩:=hs2 h
  rw [hpq,← h1,hdd]
  exact ⟨hl2 (by rw [h1];exact h2),rfl⟩
 obtain ⟨rn,hrn⟩:∃ rn,rn=(mkRat s d).num:=⟨_,rfl⟩
 obtain ⟨rd,hrd⟩:∃ rd:Int,rd=(((mkRat s d).den:Nat):Int):=⟨_,rfl⟩
 rw [← hrn,← hrd] at hl1 hout
 unfold lP at hl1
 obtain ⟨hk1,hk2,hk3,hb1⟩:=eK w (.cells #[.int .i64 n,.int .i64 ((d:Int)-1),.pointer none] 66) (.cells #[.int .i64 m,.int .i64 ((d:Int)-1),.pointer none] 66) (.cells #[.int .i64 0,.int .i64 0,.pointer none] 66)
 have hden:∀ w',Calls Tryz.prog 147 #[.agg #[.int .i64 n,.int .i64 ((d:Int)-1),.pointer none]] w' (Gives w' (.int .i64 (d:Int))):=fun w'=>by
  have:=nV n ((d:Int)-1) none w' (by omega) (by omega)
  rwa [Int.sub_add_cancel] at this
 have H:=aH (aI hs1 (aI hl1 (aI hden (aI hout (aI hb1 hk3)))))
 have hz:((d:Int)-1==(d:Int)-1)=true:=by simp
 clear hpq hs1 hs2 hs3 hs4 hl1 hl2 hn hm hdd hp hq hd hout hk1 hk2 hk3 hb1 hden hrn hrd md
 go_enter Tryz.func154,Tryz.ntmps154
 go_wp2_with fail
 refine (H.out.1 _).mono ?_
 rintro e w2 ⟨rfl,b2⟩
 have hA2:=aK b2 (eK w (.cells #[.int .i64 n,.int .i64 ((d:Int)-1),.pointer none] 66) (.cells #[.int .i64 m,.int .i64 ((d:Int)-1),.pointer none] 66) (.cells #[.int .i64 0,.int .i64 0,.pointer none] 66)).1
 obtain ⟨⟨u0,u1,u2⟩,_⟩:=dM hA2
 have B2:=aH b2
 clear b2 hA2
 go_wp2_with fail
 refine (H.out.2.2.1 _).mono ?_
 rintro e w3 ⟨rfl,b3⟩
 have B3:=aH b3
 clear b3
 go_wp2_with fail
 refine (H.out.2.1 _).mono ?_
 rintro e w4 ⟨rfl,b4⟩
 have hb:=Below.step_trans B2.out (Below.step_trans B3.out b4)
 obtain ⟨⟨r0,r1,r2⟩,f0,f1,f2⟩:=dM (aK hb H.out.2.2.2.2.2)
 have B4:=aH (Below.step_trans H.out.2.2.2.2.1 hb)
 clear b4 hb
 go_wp2
 refine bodyPost_ret (v := .tuple #[.agg #[.int .i64 rn,.int .i64 (rd-1),.pointer none],.bool ok]) (by simp [results,Tryz.results154,go_sem,r0,r1,r2]) rfl ⟨_,_,_,rfl,H.out.2.2.2.1,?_⟩
 repeat (first|exact B4.out|(refine Below.setCell ?_ (by first|omega|(simp <;> omega)) _)|(refine Below.alloc ?_ (by first|omega|(simp <;> omega)) _)|(refine Below.drew ?_)|exact aB _ _)
attribute [local simp] known specOf Kd.spec Sp.is isVar Oper.looksAt Op.operands Call.operands Act.eval
set_option maxRecDepth 100000 in
set_option maxHeartbeats 8000000 in
theorem wY (p q:Rat) (w:World) (hp:Sm p) (hq:Sm q) (hd:p.den≠q.den):Calls Tryz.prog 154 #[lP p.num p.den,lP q.num q.den] w (iD w (p+q)):=by
 have hpq:p+q=mkRat (p.num*q.den+q.num*p.den) (p.den*q.den):=Rat.add_def' p q
 have mp:=jJ hp
 have mq:=jJ hq
 have np:=jU hp
 have nq:=jU hq
 unfold lP
 obtain ⟨n,hn⟩:∃ n,n=p.num:=⟨_,rfl⟩
 obtain ⟨m,hm⟩:∃ m,m=q.num:=⟨_,rfl⟩
 obtain ⟨d,hdd⟩:∃ d:Nat,d=p.den:=⟨_,rfl⟩
 obtain ⟨k,hkk⟩:∃ k:Nat,k=q.den:=⟨_,rfl⟩
 rw [← hn,← hm,← hdd,← hkk] at hpq
 rw [← hn] at np ⊢
 rw [← hm] at nq ⊢
 rw [← hdd] at mp hd ⊢
 rw [← hkk] at mq hd ⊢
 have md:gN d:=by unfold gN;omega
 have mk:gN k:=by unfold gN;omega
 obtain ⟨r1,o1,c1,e1,x1⟩:=gO n k np mk
 obtain ⟨r2,o2,c2,e2,x2⟩:=gO m d nq md
 obtain ⟨r3,o3,c3,e3,x3⟩:=gO d k md mk
 obtain ⟨s,o4,c4,e4,x4,x5⟩:=sumOf_ex r1 r2 x1 x2
 obtain ⟨hk1,hk2,hk3,hb1⟩:=eK w (.cells #[.int .i64 n,.int .i64 ((d:Int)-1),.pointer none] 66) (.cells #[.int .i64 m,.int .i64 ((k:Int)-1),.pointer none] 66) (.cells #[.int .i64 0,.int .i64 0,.pointer none] 66)
 have hden1:∀ w',Calls Tryz.prog 147 #[.agg #[.int .i64 n,.int .i64 ((d:Int)-1),.pointer none]] w' (Gives w' (.int .i64 (d:Int))):=fun w'=>by
  have:=nV n ((d:Int)-1) none w' (by omega) (by omega)
  rwa [Int.sub_add_cancel] at this
 have hden2:∀ w',Calls Tryz.prog 147 #[.agg #[.int .i64 m,.int .i64 ((k:Int)-1),.pointer none]] w' (Gives w' (.int .i64 (k:Int))):=fun w'=>by
  have:=nV m ((k:Int)-1) none w' (by omega) (by omega)
  rwa [Int.sub_add_cancel] at this
 have hlow:o1=true→o2=true→o3=true→∃ rn rd:Int,(∀ w',Calls Tryz.prog 211 #[.int .i64 s,.int .i64 r3] w' (Gives w' (.agg #[.int .i64 rn,.int .i64 (rd-1),.pointer none])))∧(o4=true→Sm (p+q)∧.agg #[.int .i64 rn,.int .i64 (rd-1),.pointer none]=lP (p+q).num (p+q).den):=fun h1 h2 h3=>by
  obtain ⟨y1,z1⟩:=e1 h1
  obtain ⟨y2,z2⟩:=e2 h2
  obtain ⟨y3,z3⟩:=e3 h3
  have hr3:r3=((d*k:Nat):Int):=by rw [y3];simp
  have hdk:1≤d*k:=Nat.mul_pos (by omega) (by omega)
  obtain ⟨l1,l2⟩:=qH s (d*k) x4 x5 hdk (by rw [← hr3];exact x3.2)
  rw [← hr3] at l1
  refine ⟨_,_,l1,fun h4=>?_⟩
  obtain ⟨y4,z4⟩:=e4 h4
  rw [hpq,← y1,← y2,← y4]
  exact ⟨l2 (by rw [y4];exact z4),rfl⟩
 have H:=aH (aI c1 (aI c2 (aI c3 (aI c4 (aI hlow (aI hb1 (aI hk3 (aI hden1 hden2))))))))
 have HK:=aH (aI hk1 hk2)
 have hz:((d:Int)-1==(k:Int)-1)=false:=by simp;omega
 clear hpq hp hq mp mq np nq hn hm hdd hkk hd md mk c1 e1 x1 c2 e2 x2 c3 e3 x3 c4 e4 x4 x5 hk1 hk2 hk3 hb1 hden1 hden2 hlow
 go_enter Tryz.func154,Tryz.ntmps154
 go_wp2
 generalize ((w.alloc (.cells #[.int .i64 n,.int .i64 ((d:Int)-1),.pointer none] 66)).alloc (.cells #[.int .i64 m,.int .i64 ((k:Int)-1),.pointer none] 66)).alloc (.cells #[.int .i64 0,.int .i64 0,.pointer none] 66)=w1 at *
 have hA:=HK.out.1
 have hC:=HK.out.2
 have hR:=H.out.2.2.2.2.2.2.1
 have hW:=H.out.2.2.2.2.2.1
 refine wp_region_ty Kn [] (by kernel_rfl) (by kernel_rfl) ?_
 repeat (first|(apply bV (hg:=rfl);case h=>(intro A w' hB hk;simp at hk;have c_hA:=aA (hB.blk hA (by simp <;> omega));have c_hC:=aA (hB.blk hC (by simp <;> omega));first|(simp [go_sem,hk,c_hA,c_hC] <;> rfl)|(simp [go_sem,c_hA,c_hC];rfl)))|(refine aX _ ?_ (by first|exact .inl rfl|exact .inr rfl) (by rfl) (by simp [specOf,Kd.spec];rfl) ?_ rfl ?_;(exact Sp.is_stable _ _)))
 refine aO (Sp.is (.int .i64 (k:Int))) (Sp.is_stable _ _) rfl (fun A w' hB hk=>?_) ?_;(simp at hk;have c_hA:=aA (hB.blk hA (by simp <;> omega));simp [go_sem,hk,c_hA];refine aG ?_;exact Gives.ty (H.out.2.2.2.2.2.2.2.2 _))
 refine aO (Sp.is (.tuple #[.int .i64 r1,.bool o1])) (Sp.is_stable _ _) rfl (fun A w' hB hk=>?_) ?_;(simp at hk;have c_hA:=aA (hB.blk hA (by simp <;> omega));simp [go_sem,hk,c_hA];refine aG ?_;exact Gives.ty (H.out.1 _))
 repeat (first|(apply bV (hg:=rfl);case h=>(intro A w' hB hk;simp at hk;have c_hA:=aA (hB.blk hA (by simp <;> omega));have c_hC:=aA (hB.blk hC (by simp <;> omega));first|(simp [go_sem,hk,c_hA,c_hC] <;> rfl)|(simp [go_sem,c_hA,c_hC];rfl)))|(refine aX _ ?_ (by first|exact .inl rfl|exact .inr rfl) (by rfl) (by simp [specOf,Kd.spec];rfl) ?_ rfl ?_;(exact Sp.is_stable _ _)))
 refine ⟨by first|rfl|decide,fun f w2 hB hF hAp=>?_⟩;simp [Final1,Sp.is,isVar] at hF;simp only [frameOf,Act.put,List.setIfInBounds_toArray,List.set_cons_succ,List.set_cons_zero,hF]
 have hA:=hB.blk hA (by simp)
 have hC:=hB.blk hC (by simp)
 have hR:=hB.blk hR (by simp)
 have hW:=Below.step_trans hW hB.below
 clear hB hAp hF
 go_wp2
 refine wp_region_ty Kn [] (by kernel_rfl) (by kernel_rfl) ?_
 repeat (first|(apply bV (hg:=rfl);case h=>(intro A w' hB hk;simp at hk;have c_hA:=aA (hB.blk hA (by simp <;> omega));have c_hC:=aA (hB.blk hC (by simp <;> omega));first|(simp [go_sem,hk,c_hA,c_hC] <;> rfl)|(simp [go_sem,c_hA,c_hC];rfl)))|(refine aX _ ?_ (by first|exact .inl rfl|exact .inr rfl) (by rfl) (by simp [specOf,Kd.spec];rfl) ?_ rfl ?_;(exact Sp.is_stable _ _)))
 refine aO (Sp.is (.int .i64 (d:Int))) (Sp.is_stable _ _) rfl (fun A w' hB hk=>?_) ?_;(simp at hk;have c_hA:=aA (hB.blk hA (by simp <;> omega));simp [go_sem,hk,c_hA];refine aG ?_;exact Gives.ty (H.out.2.2.2.2.2.2.2.1 _))
 refine aO (Sp.is (.tuple #[.int .i64 r2,.bool o2])) (Sp.is_stable _ _) rfl (fun A w' hB hk=>?_) ?_;(simp at hk;have c_hA:=aA (hB.blk hA (by simp <;> omega));simp [go_sem,hk,c_hA];refine aG ?_;exact Gives.ty (H.out.2.1 _))
 repeat (first|(apply bV (hg:=rfl);case h=>(intro A w' hB hk;simp at hk;have c_hA:=aA (hB.blk hA (by simp <;> omega));have c_hC:=aA (hB.blk hC (by simp <;> omega));first|(simp [go_sem,hk,c_hA,c_hC] <;> rfl)|(simp [go_sem,c_hA,c_hC];rfl)))|(refine aX _ ?_ (by first|exact .inl rfl|exact .inr rfl) (by rfl) (by simp [specOf,Kd.spec];rfl) ?_ rfl ?_;(exact Sp.is_stable _ _)))
 refine ⟨by first|rfl|decide,fun f w2 hB hF hAp=>?_⟩;simp [Final1,Sp.is,isVar] at hF;simp only [frameOf,Act.put,List.setIfInBounds_toArray,List.set_cons_succ,List.set_cons_zero,hF]
 have hA:=hB.blk hA (by simp)
 have hC:=hB.blk hC (by simp)
 have hR:=hB.blk hR (by simp)
 have hW:=Below.step_trans hW hB.below
 clear hB hAp hF
 go_wp2
 refine wp_region_ty Kn [] (by kernel_rfl) (by kernel_rfl) ?_
 repeat (first|(apply bV (hg:=rfl);case h=>(intro A w' hB hk;simp at hk;have c_hA:=aA (hB.blk hA (by simp <;> omega));have c_hC:=aA (hB.blk hC (by simp <;> omega));first|(simp [go_sem,hk,c_hA,c_hC] <;> rfl)|(simp [go_sem,c_hA,c_hC];rfl)))|(refine aX _ ?_ (by first|exact .inl rfl|exact .inr rfl) (by rfl) (by simp [specOf,Kd.spec];rfl) ?_ rfl ?_;(exact Sp.is_stable _ _)))
 refine aO (Sp.is (.int .i64 (d:Int))) (Sp.is_stable _ _) rfl (fun A w' hB hk=>?_) ?_;(simp at hk;have c_hA:=aA (hB.blk hA (by simp <;> omega));simp [go_sem,hk,c_hA];refine aG ?_;exact Gives.ty (H.out.2.2.2.2.2.2.2.1 _))
 repeat (first|(apply bV (hg:=rfl);case h=>(intro A w' hB hk;simp at hk;have c_hA:=aA (hB.blk hA (by simp <;> omega));have c_hC:=aA (hB.blk hC (by simp <;> omega));first|(simp [go_sem,hk,c_hA,c_hC] <;> rfl)|(simp [go_sem,c_hA,c_hC];rfl)))|(refine aX _ ?_ (by first|exact .inl rfl|exact .inr rfl) (by rfl) (by simp [specOf,Kd.spec];rfl) ?_ rfl ?_;(exact Sp.is_stable _ _)))
 refine aO (Sp.is (.int .i64 (k:Int))) (Sp.is_stable _ _) rfl (fun A w' hB hk=>?_) ?_;(simp at hk;have c_hA:=aA (hB.blk hA (by simp <;> omega));simp [go_sem,hk,c_hA];refine aG ?_;exact Gives.ty (H.out.2.2.2.2.2.2.2.2 _))
 refine aO (Sp.is (.tuple #[.int .i64 r3,.bool o3])) (Sp.is_stable _ _) rfl (fun A w' hB hk=>?_) ?_;(simp at hk;have c_hA:=aA (hB.blk hA (by simp <;> omega));simp [go_sem,hk,c_hA];refine aG ?_;exact Gives.ty (H.out.2.2.1 _))
 repeat (first|(apply bV (hg:=rfl);case h=>(intro A w' hB hk;simp at hk;have c_hA:=aA (hB.blk hA (by simp <;> omega));have c_hC:=aA (hB.blk hC (by simp <;> omega));first|(simp [go_sem,hk,c_hA,c_hC] <;> rfl)|(simp [go_sem,c_hA,c_hC];rfl)))|(refine aX _ ?_ (by first|exact .inl rfl|exact .inr rfl) (by rfl) (by simp [specOf,Kd.spec];rfl) ?_ rfl ?_;(exact Sp.is_stable _ _)))
 refine ⟨by first|rfl|decide,fun f w2 hB hF hAp=>?_⟩;simp [Final1,Sp.is,isVar] at hF;simp only [frameOf,Act.put,List.setIfInBounds_toArray,List.set_cons_succ,List.set_cons_zero,hF]
 have hR:=hB.blk hR (by simp)
 have hW:=Below.step_trans hW hB.below
 obtain ⟨⟨r0,ra,rb⟩,f0,f1,f2⟩:=dM hR
 have HR:=aH (aI hR hW)
 clear hB hAp hF hA hC hR hW
 by_cases hall:o1=true∧o2=true∧o3=true
 ·obtain ⟨rfl,rfl,rfl⟩:=hall
  obtain ⟨rn,rd,hl1,hl2⟩:=H.out.2.2.2.2.1 rfl rfl rfl
  have HL:=aH (aI hl1 hl2)
  clear hl1 hl2 r0 ra rb f0 f1 f2
  go_wp2_with fail
  refine (H.out.2.2.2.1 _).mono ?_
  rintro e w5 ⟨rfl,b5⟩
  have B5:=aH b5
  clear b5
  go_wp2_with fail
  refine (HL.out.1 _).mono ?_
  rintro e w6 ⟨rfl,b6⟩
  have hb:=Below.step_trans B5.out b6
  obtain ⟨⟨r0,ra,rb⟩,f0,f1,f2⟩:=dM (aK hb HR.out.1)
  have B6:=aH (Below.step_trans HR.out.2 hb)
  clear b6 hb
  go_wp2
  refine bodyPost_ret (v := .tuple #[.agg #[.int .i64 rn,.int .i64 (rd-1),.pointer none],.bool o4]) (by simp [results,Tryz.results154,go_sem,r0,ra,rb]) rfl ⟨_,_,_,rfl,HL.out.2,?_⟩
  repeat (first|exact B6.out|(refine Below.setCell ?_ (by first|omega|(simp <;> omega)) _)|(refine Below.alloc ?_ (by first|omega|(simp <;> omega)) _)|(refine Below.drew ?_)|exact aB _ _)
 ·cases o1 <;> cases o2 <;> cases o3
  case neg.true.true.true=>exact absurd ⟨rfl,rfl,rfl⟩ hall
  all_goals
   clear hall
   go_wp2
   refine bodyPost_ret (v := .tuple #[.agg #[.int .i64 0,.int .i64 0,.pointer none],.bool false]) (by simp [results,Tryz.results154,go_sem,r0,ra,rb]) rfl ⟨_,_,_,rfl,fun h=>by (cases h),?_⟩
   repeat (first|exact HR.out.2|(refine Below.setCell ?_ (by first|omega|(simp <;> omega)) _)|(refine Below.alloc ?_ (by first|omega|(simp <;> omega)) _)|(refine Below.drew ?_)|exact aB _ _)
end
section
open Go.RowKit Pl
attribute [local simp] known specOf Kd.spec Sp.is isVar Oper.looksAt Op.operands Call.operands Act.eval
theorem aAb (p q:Rat) (w:World) (hp:Sm p) (hq:Sm q):Calls Tryz.prog 154 #[lP p.num p.den,lP q.num q.den] w (iD w (p+q)):=by
 by_cases hd:p.den=q.den
 ·exact yZ p q w hp hq hd
 ·exact wY p q w hp hq hd
set_option maxRecDepth 100000 in
set_option maxHeartbeats 8000000 in
theorem plus_nb (v v' : Value) (p q:Rat) (w:World) (h:Nb w v p) (h' : Nb w v' q) (hp:Lf 36 p) (hq:Lf 36 q):Calls Tryz.prog 96 #[v,v'] w (GivesNb w (p+q)):=by
 obtain ⟨n1,d1,a1,rfl⟩:=h.form
 obtain ⟨n2,d2,a2,rfl⟩:=h'.form
 obtain ⟨hk1,hk2,hk3,hb1⟩:=eK w (.cells #[.int .i64 n1,.int .i64 d1,.pointer a1] 66) (.cells #[.int .i64 n2,.int .i64 d2,.pointer a2] 66) (.cells #[.int .i64 0,.int .i64 0,.pointer none] 66)
 have H:=aH (aI (h.below hb1) (aI (h'.below hb1) (aI hp (aI hq (aI hb1 (aI hk1 (aI hk2 hk3)))))))
 by_cases hs:Sm p∧Sm q
 ·have e1:Value.agg #[.int .i64 n1,.int .i64 d1,.pointer a1]=lP p.num p.den:=by
   rcases h with ⟨_,e⟩|⟨hn,_⟩
   ·exact e
   ·exact absurd hs.1 hn
  have e2:Value.agg #[.int .i64 n2,.int .i64 d2,.pointer a2]=lP q.num q.den:=by
   rcases h' with ⟨_,e⟩|⟨hn,_⟩
   ·exact e
   ·exact absurd hs.2 hn
  have ha:∀ w',Calls Tryz.prog 153 #[.agg #[.int .i64 n1,.int .i64 d1,.pointer a1],.agg #[.int .i64 n2,.int .i64 d2,.pointer a2]] w' (Gives w' (.bool true)):=fun w'=>sZ _ _ p q w' hs.1 hs.2 e1 e2
  have hc:∀ w',Calls Tryz.prog 154 #[.agg #[.int .i64 n1,.int .i64 d1,.pointer a1],.agg #[.int .i64 n2,.int .i64 d2,.pointer a2]] w' (iD w' (p+q)):=fun w'=>by
   rw [e1,e2]
   exact aAb p q w' hs.1 hs.2
  have HS:=aH (aI ha hc)
  clear ha hc e1 e2 hs h h' hp hq hb1 hk1 hk2 hk3
  go_enter Tryz.func96,Tryz.ntmps96
  go_wp2_with fail
  refine (HS.out.1 _).mono ?_
  rintro e w2 ⟨rfl,b2⟩
  have B2:=aH (aI (Below.step_trans H.out.2.2.2.2.1 b2) (aI b2 (aI (aK b2 H.out.2.2.2.2.2.1) (aI (aK b2 H.out.2.2.2.2.2.2.1) (aK b2 H.out.2.2.2.2.2.2.2)))))
  obtain ⟨⟨u0,u1,u2⟩,_⟩:=dM (aK b2 H.out.2.2.2.2.2.1)
  obtain ⟨⟨u3,u4,u5⟩,_⟩:=dM (aK b2 H.out.2.2.2.2.2.2.1)
  clear b2
  go_wp2_with fail
  refine (HS.out.2 _).mono ?_
  rintro e w3 ⟨rn,rd,ok,rfl,hok,b3⟩
  have hA3:=aK b3 B2.out.2.2.1
  have hC3:=aK b3 B2.out.2.2.2.1
  have hR3:=aK b3 B2.out.2.2.2.2
  have B3:=aH (aI hok (aI (Below.step_trans B2.out.1 b3) (aI (Below.step_trans B2.out.2.1 b3) (aI hA3 (aI hC3 hR3)))))
  clear u0 u1 u2 u3 u4 u5 b3 hok hA3 hC3 hR3
  have hlt3:=lt_of_block B3.out.2.2.2.2.2
  cases ok
  ·go_wp2
   have hb4:Below w3.heap.size w3 (w3.alloc (.cells #[.int .i64 rn,.int .i64 rd,.pointer none] 66)):=(aB _ _).alloc (aR _) _
   have B4:=aH (aI (Below.step_trans B3.out.2.1 hb4) (aI (Below.step_trans B3.out.2.2.1 hb4) (aI (aK hb4 B3.out.2.2.2.1) (aI (aK hb4 B3.out.2.2.2.2.1) (aK hb4 B3.out.2.2.2.2.2)))))
   clear hb4
   generalize w3.alloc (.cells #[.int .i64 rn,.int .i64 rd,.pointer none] 66)=w4 at *
   have hA:=B4.out.2.2.1
   have hC:=B4.out.2.2.2.1
   have hR:=B4.out.2.2.2.2
   have t1:∀ w',Base [w.heap.size+1+1] w4 w'→Calls Tryz.prog 155 #[.agg #[.int .i64 n1,.int .i64 d1,.pointer a1]] w' (TyPost w' (fM p)):=fun w' hB =>
    GivesFr.ty (cF _ _ _ (Nb.ext (K:=Kn) (fun _=>rfl) (fun _=>rfl) (H.out.1.below B4.out.2.1) (hB.extT B4.out.2.2.2.2 (by simp [hotObj,Kn]))))
   have t2:∀ w',Base [w.heap.size+1+1] w4 w'→Calls Tryz.prog 155 #[.agg #[.int .i64 n2,.int .i64 d2,.pointer a2]] w' (TyPost w' (fM q)):=fun w' hB =>
    GivesFr.ty (cF _ _ _ (Nb.ext (K:=Kn) (fun _=>rfl) (fun _=>rfl) (H.out.2.1.below B4.out.2.1) (hB.extT B4.out.2.2.2.2 (by simp [hotObj,Kn]))))
   have t3:∀ w' x y,Fr w' x p→Fr w' y q→Calls Tryz.prog 156 #[x,y] w' (TyPost w' (fM (p+q))):=fun w' x y hx hy=>GivesFr.ty (wB x y p q w' hx hy H.out.2.2.1 H.out.2.2.2.1)
   have t4:∀ w' x,Fr w' x (p+q)→Calls Tryz.prog 74 #[x] w' (TyPost w' (kK (p+q))):=fun w' x hx=>GivesNb.ty (fB x _ w' hx)
   have T:=aH (aI t1 (aI t2 (aI t3 t4)))
   clear t1 t2 t3 t4
   refine wp_region_ty Kn [w.heap.size+1+1] (by kernel_rfl) (by kernel_rfl) ?_
   repeat (first|(apply bV (hg:=rfl);case h=>(intro A w' hB hk;simp at hk;have c_hA:=aA (hB.blk hA (by simp <;> omega));have c_hC:=aA (hB.blk hC (by simp <;> omega));first|(simp [go_sem,hk,c_hA,c_hC] <;> rfl)|(simp [go_sem,c_hA,c_hC];rfl)))|(refine aX _ ?_ (by first|exact .inl rfl|exact .inr rfl) (by rfl) (by simp [specOf,Kd.spec];rfl) ?_ rfl ?_;(first|exact Sp.is_stable _ _|exact aM (fun _=>rfl) _|exact aV (fun _=>rfl) (fun _=>rfl) _)))
   refine aO (fM p) (aM (fun _=>rfl) _) rfl (fun A w' hB hk=>?_) ?_;(simp at hk;have c_hA:=aA (hB.blk hA (by simp <;> omega));simp [go_sem,hk,c_hA];refine aG ?_;exact T.out.1 _ hB)
   repeat (first|(apply bV (hg:=rfl);case h=>(intro A w' hB hk;simp at hk;have c_hA:=aA (hB.blk hA (by simp <;> omega));have c_hC:=aA (hB.blk hC (by simp <;> omega));first|(simp [go_sem,hk,c_hA,c_hC] <;> rfl)|(simp [go_sem,c_hA,c_hC];rfl)))|(refine aX _ ?_ (by first|exact .inl rfl|exact .inr rfl) (by rfl) (by simp [specOf,Kd.spec];rfl) ?_ rfl ?_;(first|exact Sp.is_stable _ _|exact aM (fun _=>rfl) _|exact aV (fun _=>rfl) (fun _=>rfl) _)))
   refine aO (fM q) (aM (fun _=>rfl) _) rfl (fun A w' hB hk=>?_) ?_;(simp at hk;have c_hA:=aA (hB.blk hA (by simp <;> omega));simp [go_sem,hk,c_hA];refine aG ?_;exact T.out.2.1 _ hB)
   refine aO (fM (p+q)) (aM (fun _=>rfl) _) rfl (fun A w' hB hk=>?_) ?_;(simp at hk;have c_hA:=aA (hB.blk hA (by simp <;> omega));simp [go_sem,hk,c_hA];refine aG ?_;exact T.out.2.2.1 _ _ _ hk.1 hk.2)
   refine aO (kK (p+q)) (aV (fun _=>rfl) (fun _=>rfl) _) rfl (fun A w' hB hk=>?_) ?_;(simp at hk;have c_hA:=aA (hB.blk hA (by simp <;> omega));simp [go_sem,hk,c_hA];refine aG ?_;exact T.out.2.2.2 _ _ hk)
   refine iB (w.heap.size+1+1) (_) (coNb (p+q)) (eG (fun _=>rfl) (fun _=>rfl) _) rfl rfl (by simp) (by assumption) (by simp [hotObj,Ku,Kn]) (fun A w' hB hk h0=>?_) ?_;(simp at hk;have c_hA:=aA (hB.blk hA (by simp <;> omega));have c0:=aA h0;have f0:=aZ h0;obtain ⟨k1,k2⟩:=hk;obtain ⟨y1,y2,y3,e1⟩:=(show Nb _ _ _ from k2).form;rw [e1] at k2;simp [go_sem,k1,e1,c0,f0];exact ⟨_,eJ h0 _ _ _,_,_,_,rfl,k2⟩)
   refine ⟨by first|rfl|decide,fun f w2 hB hF hAp=>?_⟩;simp [Final1,Sp.is,isVar] at hF;simp only [frameOf]
   obtain ⟨o,⟨y1,y2,y3,rfl,k3⟩,ho⟩:=hF.1
   obtain ⟨⟨r0,r1,r2⟩,_⟩:=dM ho
   have K:=aH (aI k3 hB)
   clear k3 hB ho hA hC hR hAp hF
   go_wp2
   refine bodyPost_ret (v := .agg #[.int .i64 y1,.int .i64 y2,.pointer y3]) (by simp [results,Tryz.results96,go_sem,r0,r1,r2,Act.put]) rfl ⟨_,rfl,K.out.1,?_⟩
   exact Base.belowT K.out.2 B4.out.1 (by omega)
  ·obtain ⟨hsm,hv⟩:=B3.out.1 rfl
   obtain ⟨⟨g0,g1,g2⟩,f0,f1,f2⟩:=dM B3.out.2.2.2.2.2
   have HV:=aH (aI hsm hv)
   clear hsm hv
   have hpast:∀ (W:World) (o:Obj) (i:Nat),W.heap.size=w3.heap.size→(W.alloc o).cell? ⟨w.heap.size+1+1,i,none⟩=W.cell? ⟨w.heap.size+1+1,i,none⟩:=fun W o i h=>World.cell?_alloc_past _ _ _ (by show w.heap.size+1+1<W.heap.size;omega)
   have HP:=aH hpast
   clear hpast
   go_wp2
   refine bodyPost_ret (v := .agg #[.int .i64 rn,.int .i64 rd,.pointer none]) (by simp [results,Tryz.results96,go_sem,g0,g1,g2,HP.out]) rfl ⟨_,rfl,.inl HV.out,?_⟩
   repeat (first|exact B3.out.2.1|(refine Below.setCell ?_ (by first|omega|(simp <;> omega)) _)|(refine Below.alloc ?_ (by first|omega|(simp <;> omega)) _)|(refine Below.drew ?_)|exact aB _ _)
 ·have ha:∀ w',Below w.heap.size w w'→Calls Tryz.prog 153 #[.agg #[.int .i64 n1,.int .i64 d1,.pointer a1],.agg #[.int .i64 n2,.int .i64 d2,.pointer a2]] w' (Gives w' (.bool false)):=fun w' hb=>wC _ _ p q w' (h.below hb) (h'.below hb) hs
  have HS:=aH ha
  clear ha hs h h' hp hq hb1 hk1 hk2 hk3
  go_enter Tryz.func96,Tryz.ntmps96
  go_wp2_with fail
  refine (HS.out _ H.out.2.2.2.2.1).mono ?_
  rintro e w2 ⟨rfl,b2⟩
  have B2:=aH (aI (Below.step_trans H.out.2.2.2.2.1 b2) (aI b2 (aI (aK b2 H.out.2.2.2.2.2.1) (aI (aK b2 H.out.2.2.2.2.2.2.1) (aK b2 H.out.2.2.2.2.2.2.2)))))
  clear b2
  go_wp2
  have hA:=B2.out.2.2.1
  have hC:=B2.out.2.2.2.1
  have hR:=B2.out.2.2.2.2
  have t1:∀ w',Base [w.heap.size+1+1] w2 w'→Calls Tryz.prog 155 #[.agg #[.int .i64 n1,.int .i64 d1,.pointer a1]] w' (TyPost w' (fM p)):=fun w' hB =>
   GivesFr.ty (cF _ _ _ (Nb.ext (K:=Kn) (fun _=>rfl) (fun _=>rfl) (H.out.1.below B2.out.2.1) (hB.extT B2.out.2.2.2.2 (by simp [hotObj,Kn]))))
  have t2:∀ w',Base [w.heap.size+1+1] w2 w'→Calls Tryz.prog 155 #[.agg #[.int .i64 n2,.int .i64 d2,.pointer a2]] w' (TyPost w' (fM q)):=fun w' hB =>
   GivesFr.ty (cF _ _ _ (Nb.ext (K:=Kn) (fun _=>rfl) (fun _=>rfl) (H.out.2.1.below B2.out.2.1) (hB.extT B2.out.2.2.2.2 (by simp [hotObj,Kn]))))
  have t3:∀ w' x y,Fr w' x p→Fr w' y q→Calls Tryz.prog 156 #[x,y] w' (TyPost w' (fM (p+q))):=fun w' x y hx hy=>GivesFr.ty (wB x y p q w' hx hy H.out.2.2.1 H.out.2.2.2.1)
  have t4:∀ w' x,Fr w' x (p+q)→Calls Tryz.prog 74 #[x] w' (TyPost w' (kK (p+q))):=fun w' x hx=>GivesNb.ty (fB x _ w' hx)
  have T:=aH (aI t1 (aI t2 (aI t3 t4)))
  clear t1 t2 t3 t4
  refine wp_region_ty Kn [w.heap.size+1+1] (by kernel_rfl) (by kernel_rfl) ?_
  repeat (first|(apply bV (hg:=rfl);case h=>(intro A w' hB hk;simp at hk;have c_hA:=aA (hB.blk hA (by simp <;> omega));have c_hC:=aA (hB.blk hC (by simp <;> omega));first|(simp [go_sem,hk,c_hA,c_hC] <;> rfl)|(simp [go_sem,c_hA,c_hC];rfl)))|(refine aX _ ?_ (by first|exact .inl rfl|exact .inr rfl) (by rfl) (by simp [specOf,Kd.spec];rfl) ?_ rfl ?_;(first|exact Sp.is_stable _ _|exact aM (fun _=>rfl) _|exact aV (fun _=>rfl) (fun _=>rfl) _)))
  refine aO (fM p) (aM (fun _=>rfl) _) rfl (fun A w' hB hk=>?_) ?_;(simp at hk;have c_hA:=aA (hB.blk hA (by simp <;> omega));simp [go_sem,hk,c_hA];refine aG ?_;exact T.out.1 _ hB)
  repeat (first|(apply bV (hg:=rfl);case h=>(intro A w' hB hk;simp at hk;have c_hA:=aA (hB.blk hA (by simp <;> omega));have c_hC:=aA (hB.blk hC (by simp <;> omega));first|(simp [go_sem,hk,c_hA,c_hC] <;> rfl)|(simp [go_sem,c_hA,c_hC];rfl)))|(refine aX _ ?_ (by first|exact .inl rfl|exact .inr rfl) (by rfl) (by simp [specOf,Kd.spec];rfl) ?_ rfl ?_;(first|exact Sp.is_stable _ _|exact aM (fun _=>rfl) _|exact aV (fun _=>rfl) (fun _=>rfl) _)))
  refine aO (fM q) (aM (fun _=>rfl) _) rfl (fun A w' hB hk=>?_) ?_;(simp at hk;have c_hA:=aA (hB.blk hA (by simp <;> omega));simp [go_sem,hk,c_hA];refine aG ?_;exact T.out.2.1 _ hB)
  refine aO (fM (p+q)) (aM (fun _=>rfl) _) rfl (fun A w' hB hk=>?_) ?_;(simp at hk;have c_hA:=aA (hB.blk hA (by simp <;> omega));simp [go_sem,hk,c_hA];refine aG ?_;exact T.out.2.2.1 _ _ _ hk.1 hk.2)
  refine aO (kK (p+q)) (aV (fun _=>rfl) (fun _=>rfl) _) rfl (fun A w' hB hk=>?_) ?_;(simp at hk;have c_hA:=aA (hB.blk hA (by simp <;> omega));simp [go_sem,hk,c_hA];refine aG ?_;exact T.out.2.2.2 _ _ hk)
  refine iB (w.heap.size+1+1) (_) (coNb (p+q)) (eG (fun _=>rfl) (fun _=>rfl) _) rfl rfl (by simp) (by assumption) (by simp [hotObj,Ku,Kn]) (fun A w' hB hk h0=>?_) ?_;(simp at hk;have c_hA:=aA (hB.blk hA (by simp <;> omega));have c0:=aA h0;have f0:=aZ h0;obtain ⟨k1,k2⟩:=hk;obtain ⟨y1,y2,y3,e1⟩:=(show Nb _ _ _ from k2).form;rw [e1] at k2;simp [go_sem,k1,e1,c0,f0];exact ⟨_,eJ h0 _ _ _,_,_,_,rfl,k2⟩)
  refine ⟨by first|rfl|decide,fun f w2 hB hF hAp=>?_⟩;simp [Final1,Sp.is,isVar] at hF;simp only [frameOf]
  obtain ⟨o,⟨y1,y2,y3,rfl,k3⟩,ho⟩:=hF.1
  obtain ⟨⟨r0,r1,r2⟩,_⟩:=dM ho
  have K:=aH (aI k3 hB)
  clear k3 hB ho hA hC hR hAp hF
  go_wp2
  refine bodyPost_ret (v := .agg #[.int .i64 y1,.int .i64 y2,.pointer y3]) (by simp [results,Tryz.results96,go_sem,r0,r1,r2,Act.put]) rfl ⟨_,rfl,K.out.1,?_⟩
  exact Base.belowT K.out.2 B2.out.1 (by omega)
end
section
open Go.RowKit Pl
attribute [local simp] known specOf Kd.spec Sp.is isVar Oper.looksAt Op.operands Call.operands Act.eval
theorem uU (n d:Int) (w:World) (h1:-9223372036854775807≤d) (h2:d≤9223372036854775807):Calls Tryz.prog 141 #[.int .i64 n,.int .i64 d] w (Gives w (.agg #[.int .i64 n,.int .i64 (d-1),.pointer none])):=by
 go_enter Tryz.func141,Tryz.ntmps141
 go_wp2
 refine bodyPost_ret (v := .agg #[.int .i64 n,.int .i64 (d-1),.pointer none]) (by simp [results,Tryz.results141,go_sem]) rfl ⟨rfl,?_⟩
 repeat (first|exact aB _ _|(refine Below.setCell ?_ (by first|omega|(simp <;> omega)) _)|(refine Below.alloc ?_ (by first|omega|(simp <;> omega)) _)|(refine Below.drew ?_)|exact aB _ _)
theorem mul_lr (p q:Rat):(p*q).num=(mkRat p.num q.den).num*(mkRat q.num p.den).num∧(p*q).den=(mkRat p.num q.den).den*(mkRat q.num p.den).den:=by
 by_cases hp:p=0
 ·subst hp
  rw [Rat.zero_mul,show (0:Rat).num=0 from rfl,Rat.zero_mkRat,show (0:Rat).den=1 from rfl,show (0:Rat).num=0 from rfl,Int.zero_mul]
  refine ⟨rfl,?_⟩
  rw [Rat.den_mkRat,if_neg (by omega),Nat.gcd_one_left]
 ·by_cases hq:q=0
  ·subst hq
   rw [Rat.mul_zero,show (0:Rat).num=0 from rfl,Rat.zero_mkRat,show (0:Rat).den=1 from rfl,show (0:Rat).num=0 from rfl,Int.mul_zero]
   refine ⟨rfl,?_⟩
   rw [Rat.den_mkRat,if_neg (by omega),Nat.gcd_one_left]
  ·have h1:(mkRat p.num q.den).num.natAbs≠0:=fun h=>by
    have:(mkRat p.num q.den)=0:=Rat.num_eq_zero.1 (by omega)
    rw [Rat.mkRat_eq_zero q.den_nz] at this
    exact hp (Rat.num_eq_zero.1 this)
   have h2:(mkRat q.num p.den).num.natAbs≠0:=fun h=>by
    have:(mkRat q.num p.den)=0:=Rat.num_eq_zero.1 (by omega)
    rw [Rat.mkRat_eq_zero p.den_nz] at this
    exact hq (Rat.num_eq_zero.1 this)
   have h3:=Parts.mul (Parts.self (mkRat p.num q.den)) (Parts.self (mkRat q.num p.den)) h1 h2
   refine ⟨?_,h3.2.2.symm⟩
   rw [h3.num_eq,← sg_sg,yL,yL]
theorem sm_lr {p q:Rat} (hp:Sm p) (hq:Sm q):Sm (mkRat p.num q.den):=by
 obtain ⟨h1,h2⟩:=dR p.num q.den_nz
 exact ⟨Nat.le_trans h1 hp.1,Nat.le_trans h2 hq.2⟩
set_option maxRecDepth 100000 in
set_option maxHeartbeats 8000000 in
theorem zA (p q:Rat) (w:World) (hp:Sm p) (hq:Sm q):Calls Tryz.prog 165 #[lP p.num p.den,lP q.num q.den] w (iD w (p*q)):=by
 obtain ⟨hmn,hmd⟩:=mul_lr p q
 have hL:=sm_lr hp hq
 have hR:=sm_lr hq hp
 have mp:=jJ hp
 have mq:=jJ hq
 have np:=jU hp
 have nq:=jU hq
 obtain ⟨l1,_⟩:=qH p.num q.den (by have:=np.1;omega) np.2 q.den_pos mq.2
 obtain ⟨l2,_⟩:=qH q.num p.den (by have:=nq.1;omega) nq.2 p.den_pos mp.2
 have mL:=jJ hL
 have mR:=jJ hR
 obtain ⟨r1,o1,c1,e1,x1⟩:=gO _ _ (jU hL) (jU hR)
 obtain ⟨r2,o2,c2,e2,x2⟩:=gO ((mkRat p.num q.den).den:Int) ((mkRat q.num p.den).den:Int) ⟨by omega,mL.2⟩ ⟨by omega,mR.2⟩
 have hout:(o1&&o2)=true→Sm (p*q)∧.agg #[.int .i64 r1,.int .i64 (r2-1),.pointer none]=lP (p*q).num (p*q).den:=fun h=>by
  rw [Bool.and_eq_true] at h
  obtain ⟨y1,z1⟩:=e1 h.1
  obtain ⟨y2,z2⟩:=e2 h.2
  have hn:(p*q).num=r1:=by rw [hmn,y1]
  have hd:(((p*q).den:Nat):Int)=r2:=by rw [hmd,y2];simp
  refine ⟨⟨?_,?_⟩,by rw [lP,hn,hd]⟩
  ·rw [hn,eL];obtain ⟨a,b⟩:=x1;omega
  ·rw [eL];obtain ⟨a,b⟩:=x2;omega
 unfold lP at l1 l2 ⊢
 obtain ⟨n,hn⟩:∃ n,n=p.num:=⟨_,rfl⟩
 obtain ⟨m,hm⟩:∃ m,m=q.num:=⟨_,rfl⟩
 obtain ⟨d,hd⟩:∃ d:Int,d=(p.den:Int):=⟨_,rfl⟩
 obtain ⟨k,hk⟩:∃ k:Int,k=(q.den:Int):=⟨_,rfl⟩
 obtain ⟨ln,hln⟩:∃ ln,ln=(mkRat p.num q.den).num:=⟨_,rfl⟩
 obtain ⟨ld,hld⟩:∃ ld:Int,ld=((mkRat p.num q.den).den:Int):=⟨_,rfl⟩
 obtain ⟨rn,hrn⟩:∃ rn,rn=(mkRat q.num p.den).num:=⟨_,rfl⟩
 obtain ⟨rd,hrd⟩:∃ rd:Int,rd=((mkRat q.num p.den).den:Int):=⟨_,rfl⟩
 rw [← hln,← hld] at l1
 rw [← hrn,← hrd] at l2
 rw [← hln,← hrn] at c1
 rw [← hld,← hrd] at c2
 rw [← hld] at mL
 rw [← hrd] at mR
 rw [← hn,← hk] at l1
 rw [← hm,← hd] at l2
 rw [← hd] at mp ⊢
 rw [← hk] at mq ⊢
 rw [← hn,← hm]
 have hden:∀ (a b:Int) (w' : World),1≤b→b≤9223372036854775807→Calls Tryz.prog 147 #[.agg #[.int .i64 a,.int .i64 (b-1),.pointer none]] w' (TyPost w' (Sp.is (.int .i64 b))):=fun a b w' h1 h2=>by
  have:=Gives.ty (nV a (b-1) none w' (by omega) (by omega))
  rwa [Int.sub_add_cancel] at this
 obtain ⟨hk1,hk2,hk3,hb1⟩:=eK w (.cells #[.int .i64 n,.int .i64 (d-1),.pointer none] 66) (.cells #[.int .i64 m,.int .i64 (k-1),.pointer none] 66) (.cells #[.int .i64 0,.int .i64 0,.pointer none] 66)
 have H:=aH (aI l1 (aI l2 (aI c1 (aI c2 (aI hout (aI hb1 (aI hk3 (aI hden (aI mp (aI mq (aI mL (aI mR x2))))))))))))
 have HK:=aH (aI hk1 hk2)
 clear hmn hmd hL hR hp hq mp mq np nq l1 l2 mL mR c1 e1 x1 c2 e2 x2 hout hden hk1 hk2 hk3 hb1 hn hm hd hk hln hld hrn hrd
 go_enter Tryz.func165,Tryz.ntmps165
 go_wp2
 generalize ((w.alloc (.cells #[.int .i64 n,.int .i64 (d-1),.pointer none] 66)).alloc (.cells #[.int .i64 m,.int .i64 (k-1),.pointer none] 66)).alloc (.cells #[.int .i64 0,.int .i64 0,.pointer none] 66)=w1 at *
 have hA:=HK.out.1
 have hC:=HK.out.2
 have hR:=H.out.2.2.2.2.2.2.1
 have hW:=H.out.2.2.2.2.2.1
 refine wp_region_ty Kn [] (by kernel_rfl) (by kernel_rfl) ?_
 repeat (first|(apply bV (hg:=rfl);case h=>(intro A w' hB hk;simp at hk;have c_hA:=aA (hB.blk hA (by simp <;> omega));have c_hC:=aA (hB.blk hC (by simp <;> omega));first|(simp [go_sem,hk,c_hA,c_hC] <;> rfl)|(simp [go_sem,c_hA,c_hC];rfl)))|(refine aX _ ?_ (by first|exact .inl rfl|exact .inr rfl) (by rfl) (by simp [specOf,Kd.spec];rfl) ?_ rfl ?_;(exact Sp.is_stable _ _)))
 refine aO (Sp.is (.int .i64 k)) (Sp.is_stable _ _) rfl (fun A w' hB hk=>?_) ?_;(simp at hk;have c_hA:=aA (hB.blk hA (by simp <;> omega));simp [go_sem,hk,c_hA];refine aG ?_;exact H.out.2.2.2.2.2.2.2.1 _ _ _ H.out.2.2.2.2.2.2.2.2.2.1.1 H.out.2.2.2.2.2.2.2.2.2.1.2)
 refine aO (Sp.is (.agg #[.int .i64 ln,.int .i64 (ld-1),.pointer none])) (Sp.is_stable _ _) rfl (fun A w' hB hk=>?_) ?_;(simp at hk;have c_hA:=aA (hB.blk hA (by simp <;> omega));simp [go_sem,hk,c_hA];refine aG ?_;exact Gives.ty (H.out.1 _))
 repeat (first|(apply bV (hg:=rfl);case h=>(intro A w' hB hk;simp at hk;have c_hA:=aA (hB.blk hA (by simp <;> omega));have c_hC:=aA (hB.blk hC (by simp <;> omega));first|(simp [go_sem,hk,c_hA,c_hC] <;> rfl)|(simp [go_sem,c_hA,c_hC];rfl)))|(refine aX _ ?_ (by first|exact .inl rfl|exact .inr rfl) (by rfl) (by simp [specOf,Kd.spec];rfl) ?_ rfl ?_;(exact Sp.is_stable _ _)))
 refine aO (Sp.is (.int .i64 d)) (Sp.is_stable _ _) rfl (fun A w' hB hk=>?_) ?_;(simp at hk;have c_hA:=aA (hB.blk hA (by simp <;> omega));simp [go_sem,hk,c_hA];refine aG ?_;exact H.out.2.2.2.2.2.2.2.1 _ _ _ H.out.2.2.2.2.2.2.2.2.1.1 H.out.2.2.2.2.2.2.2.2.1.2)
 refine aO (Sp.is (.agg #[.int .i64 rn,.int .i64 (rd-1),.pointer none])) (Sp.is_stable _ _) rfl (fun A w' hB hk=>?_) ?_;(simp at hk;have c_hA:=aA (hB.blk hA (by simp <;> omega));simp [go_sem,hk,c_hA];refine aG ?_;exact Gives.ty (H.out.2.1 _))
 (apply ty_new (hg:=rfl) (hd:=rfl);(case h=>(intro A w';simp [go_sem];rfl));(case hc=>simp [hotObj,Ku,Kn]))
 (apply ty_new (hg:=rfl) (hd:=rfl);(case h=>(intro A w';simp [go_sem];rfl));(case hc=>simp [hotObj,Ku,Kn]))
 refine ty_put 6 ((.cells #[.int .i64 0,.int .i64 0,.pointer none] 66 (0,0))) (coIs (.cells #[.int .i64 ln,.int .i64 (ld-1),.pointer none] 66 (0,0))) (pI _ _) rfl rfl (by simp [Oper.looksAt,Op.operands]) (by simp) (fun A w' b hB hk hd h0=>?_) ?_;(simp at hk;simp [Act.eval] at hd;have c_hA:=aA (hB.blk hA (by simp <;> omega));have c0:=aA h0;have f0:=aZ h0;simp [go_sem,hd,hk,c0,f0];exact ⟨_,eJ h0 _ _ _,rfl⟩)
 refine ty_put 7 ((.cells #[.int .i64 0,.int .i64 0,.pointer none] 66 (0,0))) (coIs (.cells #[.int .i64 rn,.int .i64 (rd-1),.pointer none] 66 (0,0))) (pI _ _) rfl rfl (by simp [Oper.looksAt,Op.operands]) (by simp) (fun A w' b hB hk hd h0=>?_) ?_;(simp at hk;simp [Act.eval] at hd;have c_hA:=aA (hB.blk hA (by simp <;> omega));have c0:=aA h0;have f0:=aZ h0;simp [go_sem,hd,hk,c0,f0];exact ⟨_,eJ h0 _ _ _,rfl⟩)
 refine ⟨by first|rfl|decide,fun f w2 hB hF hAp=>?_⟩;simp [Final1,Sp.is,isVar] at hF;simp only [frameOf]
 obtain ⟨b7,e7,l7,_,o7,rfl,ho7⟩:=hF.1
 obtain ⟨b6,e6,l6,_,o6,rfl,ho6⟩:=hF.2.1
 have hR:=hB.blk hR (by simp)
 have hW:=Below.step_trans hW hB.below
 obtain ⟨⟨g60,g61,g62⟩,_⟩:=dM ho6
 obtain ⟨⟨g70,g71,g72⟩,_⟩:=dM ho7
 have M:=aH (aI ho6 (aI ho7 (aI hR hW)))
 clear hB hAp hA hC hR hW ho6 ho7
 go_wp2_with fail
 refine (H.out.2.2.1 _).mono ?_
 rintro e w3 ⟨rfl,b3⟩
 have hA:=aK b3 M.out.1
 have hC:=aK b3 M.out.2.1
 have hR:=aK b3 M.out.2.2.1
 have hW:=Below.step_trans M.out.2.2.2 b3
 clear g60 g61 g62 g70 g71 g72 b3
 go_wp2
 refine wp_region_ty Kn [] (by kernel_rfl) (by kernel_rfl) ?_
 repeat (first|(apply bV (hg:=rfl);case h=>(intro A w' hB hk;simp at hk;have c_hA:=aA (hB.blk hA (by simp <;> omega));have c_hC:=aA (hB.blk hC (by simp <;> omega));first|(simp [go_sem,hk,c_hA,c_hC] <;> rfl)|(simp [go_sem,c_hA,c_hC];rfl)))|(refine aX _ ?_ (by first|exact .inl rfl|exact .inr rfl) (by rfl) (by simp [specOf,Kd.spec];rfl) ?_ rfl ?_;(exact Sp.is_stable _ _)))
 refine aO (Sp.is (.int .i64 ld)) (Sp.is_stable _ _) rfl (fun A w' hB hk=>?_) ?_;(simp at hk;have c_hA:=aA (hB.blk hA (by simp <;> omega));simp [go_sem,hk,c_hA];refine aG ?_;exact H.out.2.2.2.2.2.2.2.1 _ _ _ H.out.2.2.2.2.2.2.2.2.2.2.1.1 H.out.2.2.2.2.2.2.2.2.2.2.1.2)
 repeat (first|(apply bV (hg:=rfl);case h=>(intro A w' hB hk;simp at hk;have c_hA:=aA (hB.blk hA (by simp <;> omega));have c_hC:=aA (hB.blk hC (by simp <;> omega));first|(simp [go_sem,hk,c_hA,c_hC] <;> rfl)|(simp [go_sem,c_hA,c_hC];rfl)))|(refine aX _ ?_ (by first|exact .inl rfl|exact .inr rfl) (by rfl) (by simp [specOf,Kd.spec];rfl) ?_ rfl ?_;(exact Sp.is_stable _ _)))
 refine aO (Sp.is (.int .i64 rd)) (Sp.is_stable _ _) rfl (fun A w' hB hk=>?_) ?_;(simp at hk;have c_hA:=aA (hB.blk hA (by simp <;> omega));simp [go_sem,hk,c_hA];refine aG ?_;exact H.out.2.2.2.2.2.2.2.1 _ _ _ H.out.2.2.2.2.2.2.2.2.2.2.2.1.1 H.out.2.2.2.2.2.2.2.2.2.2.2.1.2)
 refine aO (Sp.is (.tuple #[.int .i64 r2,.bool o2])) (Sp.is_stable _ _) rfl (fun A w' hB hk=>?_) ?_;(simp at hk;have c_hA:=aA (hB.blk hA (by simp <;> omega));simp [go_sem,hk,c_hA];refine aG ?_;exact Gives.ty (H.out.2.2.2.1 _))
 repeat (first|(apply bV (hg:=rfl);case h=>(intro A w' hB hk;simp at hk;have c_hA:=aA (hB.blk hA (by simp <;> omega));have c_hC:=aA (hB.blk hC (by simp <;> omega));first|(simp [go_sem,hk,c_hA,c_hC] <;> rfl)|(simp [go_sem,c_hA,c_hC];rfl)))|(refine aX _ ?_ (by first|exact .inl rfl|exact .inr rfl) (by rfl) (by simp [specOf,Kd.spec];rfl) ?_ rfl ?_;(exact Sp.is_stable _ _)))
 refine ⟨by first|rfl|decide,fun f w2 hB hF hAp=>?_⟩;simp [Final1,Sp.is,isVar] at hF;simp only [frameOf,Act.put,List.setIfInBounds_toArray,List.set_cons_succ,List.set_cons_zero,hF]
 have hR:=hB.blk hR (by simp)
 have hW:=Below.step_trans hW hB.below
 clear hB hAp hA hC hF
 go_wp2_with fail
 refine (uU r1 r2 _ H.out.2.2.2.2.2.2.2.2.2.2.2.2.1 H.out.2.2.2.2.2.2.2.2.2.2.2.2.2).mono ?_
 rintro e w6 ⟨rfl,b6⟩
 obtain ⟨⟨r0,ra,rb⟩,f0,f1,f2⟩:=dM (aK b6 hR)
 have B6:=aH (Below.step_trans hW b6)
 clear b6 hR hW
 have hout:=H.out.2.2.2.2.1
 have HO:=aH hout
 clear hout
 cases o1 <;> cases o2
 all_goals
  go_wp2
  first
   | (refine bodyPost_ret (v := .tuple #[.agg #[.int .i64 r1,.int .i64 (r2-1),.pointer none],.bool true]) (by simp [results,Tryz.results165,go_sem,r0,ra,rb]) rfl ⟨_,_,_,rfl,fun _=>HO.out rfl,?_⟩
      repeat (first|exact B6.out|(refine Below.setCell ?_ (by first|omega|(simp <;> omega)) _)|(refine Below.alloc ?_ (by first|omega|(simp <;> omega)) _)|(refine Below.drew ?_)|exact aB _ _))
   | (refine bodyPost_ret (v := .tuple #[.agg #[.int .i64 r1,.int .i64 (r2-1),.pointer none],.bool false]) (by simp [results,Tryz.results165,go_sem,r0,ra,rb]) rfl ⟨_,_,_,rfl,fun h=>by (cases h),?_⟩
      repeat (first|exact B6.out|(refine Below.setCell ?_ (by first|omega|(simp <;> omega)) _)|(refine Below.alloc ?_ (by first|omega|(simp <;> omega)) _)|(refine Below.drew ?_)|exact aB _ _))
end
end Go.Proofs.YtnghdaemmlagpaaGreatDoor
