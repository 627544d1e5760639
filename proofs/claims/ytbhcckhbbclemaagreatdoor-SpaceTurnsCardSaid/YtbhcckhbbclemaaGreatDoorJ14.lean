/- Parts of the proof, joined. -/
import Derived.Test.YtbhcckhbbclemaaGreatDoorJ13
import Derived.Test.YtbhcckhbbclemaaGreatDoorJ2
import Derived.Deep.LoopGhost
set_option linter.unusedSimpArgs false
set_option linter.unusedVariables false
namespace Go.Proofs.YtbhcckhbbclemaaGreatDoor
open Go.RowKit Pl
def SimGives (a b:Nat) (w:World) (e:Ending) (w' : World):Prop := ∃ oa ob na nb s:Nat,e = .returned (eucV oa ob na nb s)∧SimOk a b oa ob na nb s∧Below w.heap.size w w'
theorem simulate_any (A:Option Addr) (n c:Nat) (xs:List Nat) (A' : Option Addr) (n' c' : Nat) (ys:List Nat) (w:World) (h:Rd w A n c xs) (h' : Rd w A' n' c' ys)
 (hd:Dig W64 xs) (hd' : Dig W64 ys) (hx:Norm xs) (hn' : 2≤n') (hle:n'≤n) (hge:val W64 ys≤val W64 xs) :
 Calls Tryz.prog 156 #[.slice A n c,.slice A' n' c'] w (SimGives (val W64 xs) (val W64 ys) w):=by
 have hW:=W64_eq
 have hlx:=h.len
 have hly:=h'.len
 obtain ⟨a1,g1⟩:∃ a1,xs[n-1]?=some a1:=⟨_,List.getElem?_eq_getElem (by omega)⟩
 obtain ⟨a2,g2⟩:∃ a2,xs[n-2]?=some a2:=⟨_,List.getElem?_eq_getElem (by omega)⟩
 have l1:=hd.at_ g1
 have l2:=hd.at_ g2
 have ha1:0<a1:=by
  have hne:xs≠[]:=by rintro rfl;simp at g1
  have:=hx hne
  rw [List.getLast_eq_getElem] at this
  obtain ⟨k,ey⟩:=List.getElem?_eq_some_iff.1 g1
  simp only [hlx,ey] at this
  omega
 obtain ⟨sh,hs,hbl,s1,s2⟩:=norm_shift a1 ha1 l1
 obtain ⟨t1,t2,α,eα,lα⟩:=lead_bits (a1:=a1) (a2:=a2) hd (n:=n) (by omega) (by omega) hs (by rw [List.getD,g1];rfl) (by rw [List.getD,g2];rfl) s2
 obtain ⟨b1,hb1⟩:∃ b1,ys.getD (n-1) 0=b1:=⟨_,rfl⟩
 obtain ⟨b2,hb2⟩:∃ b2,ys.getD (n-2) 0=b2:=⟨_,rfl⟩
 have hba:b1≤a1:=by
  rcases Nat.lt_or_ge a1 b1 with hlt|hge'
  ·exfalso
   have hk:n-1<ys.length:=by
    rcases Nat.lt_or_ge (n-1) ys.length with h|h
    ·exact h
    ·rw [List.getD,List.getElem?_eq_none h] at hb1
     have:(0:Nat)=b1:=hb1
     omega
   have e1:val W64 xs=val W64 (xs.take (n-1))+W64^(n-1)*a1:=by
    have:val W64 xs=val W64 (xs.take (n-1+1)):=by rw [List.take_of_length_le (by omega)]
    obtain ⟨k,ey⟩:=List.getElem?_eq_some_iff.1 g1
    rw [this,val_take_succ _ _ _ k,ey]
   have e2:val W64 ys=val W64 (ys.take (n-1))+W64^(n-1)*b1:=by
    have:val W64 ys=val W64 (ys.take (n-1+1)):=by rw [List.take_of_length_le (by omega)]
    rw [this,val_take_succ _ _ _ hk]
    rw [List.getD,List.getElem?_eq_getElem hk] at hb1
    have:ys[n-1]=b1:=hb1
    rw [this]
   have e3:=val_lt (hd.take (n-1))
   rw [List.length_take,Nat.min_eq_left (by omega)] at e3
   have e4:W64^(n-1)*(a1+1)≤W64^(n-1)*b1:=Nat.mul_le_mul_left _ hlt
   rw [Nat.mul_add,Nat.mul_one] at e4
   omega
  ·exact hge'
 have hb1s:b1*2^sh<W64:=Nat.lt_of_le_of_lt (Nat.mul_le_mul_right _ hba) s2
 obtain ⟨u1,u2,β,eβ,lβ⟩:=lead_bits hd' (n:=n) (by omega) (by omega) hs hb1 hb2 hb1s
 obtain ⟨K,hK⟩:∃ K,K=2^(64-sh)*W64^(n-2):=⟨_,rfl⟩
 obtain ⟨x0,hx0⟩:∃ x0,x0=a1*2^sh+a2/2^(64-sh):=⟨_,rfl⟩
 obtain ⟨y0,hy0⟩:∃ y0,y0=b1*2^sh+b2/2^(64-sh):=⟨_,rfl⟩
 rw [← hx0,← hK] at eα
 rw [← hy0,← hK] at eβ
 rw [← hK] at lα lβ
 have hyx:y0≤x0:=by
  have:y0*K<(x0+1)*K:=by rw [Nat.add_mul,Nat.one_mul];omega
  have:=Nat.lt_of_mul_lt_mul_right this
  omega
 have e1:IntKind.u64.wrap ((a1:Int)*2^sh)=((a1*2^sh:Nat):Int):=by rw [show (a1:Int)*2^sh=((a1*2^sh:Nat):Int) from by simp,wrap_nat _ (by omega)]
 have e2:bits .or .u64 ((a1*2^sh:Nat):Int) ((a2:Int)/2^(64-sh))=(x0:Int):=by
  rw [show (a2:Int)/2^(64-sh)=((a2/2^(64-sh):Nat):Int) from by simp,hx0]
  exact or_shift _ _ _ t1 (by omega)
 have e3:IntKind.u64.wrap ((b1:Int)*2^sh)=((b1*2^sh:Nat):Int):=by rw [show (b1:Int)*2^sh=((b1*2^sh:Nat):Int) from by simp,wrap_nat _ (by omega)]
 have e4:bits .or .u64 ((b1*2^sh:Nat):Int) ((b2:Int)/2^(64-sh))=(y0:Int):=by
  rw [show (b2:Int)/2^(64-sh)=((b2/2^(64-sh):Nat):Int) from by simp,hy0]
  exact or_shift _ _ _ u1 (by omega)
 have e5:n'<n→(b2:Int)/2^(64-sh)=(y0:Int):=by
  intro hlt
  have:b1=0:=by rw [← hb1,List.getD,List.getElem?_eq_none (by omega)];rfl
  rw [hy0,this]
  simp
 have e6:n'<n-1→y0=0:=by
  intro hlt
  have q1:b1=0:=by rw [← hb1,List.getD,List.getElem?_eq_none (by omega)];rfl
  have q2:b2=0:=by rw [← hb2,List.getD,List.getElem?_eq_none (by omega)];rfl
  rw [hy0,q1,q2]
  simp
 have k1:n'=n→ys[n-1]?=some b1:=by
  intro hh
  rw [List.getD,List.getElem?_eq_getElem (by omega)] at hb1
  rw [List.getElem?_eq_getElem (by omega)]
  exact congrArg some hb1
 have k2:n-1≤n'→ys[n-2]?=some b2:=by
  intro hh
  rw [List.getD,List.getElem?_eq_getElem (by omega)] at hb2
  rw [List.getElem?_eq_getElem (by omega)]
  exact congrArg some hb2
 have fin:∀ e w',SimRes x0 y0 e∧Below w.heap.size w w'→SimGives (val W64 xs) (val W64 ys) w e w':=by
  rintro e w' ⟨⟨oa,ob,na,nb,s,x,y,he,hst,htk⟩,hb⟩
  exact ⟨oa,ob,na,nb,s,he,SimOk.of_steps hst htk (by omega) hyx eα eβ lα lβ,hb⟩
 have hcase:n'=n∨n'=n-1∨n'<n-1:=by omega
 rcases hcase with hh|hh|hh
 ·exact (simulate_eq A n c xs A' n' c' ys sh x0 y0 w h h' hd hd' (by omega) hn' hle hh a1 a2 b1 b2 _ _ hs hbl g1 g2 k1 k2 e1 e2 e3 (fun _=>e4) (fun _=>e5 (by omega)) e6 (by omega) hyx).mono fin
 ·exact (simulate_one A n c xs A' n' c' ys sh x0 y0 w h h' hd hd' (by omega) hn' hle hh a1 a2 b1 b2 _ _ hs hbl g1 g2 k1 k2 e1 e2 e3 (fun _=>e4) (fun _=>e5 (by omega)) e6 (by omega) hyx).mono fin
 ·exact (simulate_none A n c xs A' n' c' ys sh x0 y0 w h h' hd hd' (by omega) hn' hle hh a1 a2 b1 b2 _ _ hs hbl g1 g2 k1 k2 e1 e2 e3 (fun _=>e4) (fun _=>e5 (by omega)) e6 (by omega) hyx).mono fin
def Ku:Value→Bool
 | .int .u64 _=>true
 | _=>false
theorem hot_of_cell {K:Value→Bool} {w:World} {p:Addr} {v:Value} (h:w.cell? p=some v) (hv:K v=true):∃ o,w.heap[p.block]?=some o∧hotObj K o=true:=by
 unfold World.cell? at h
 split at h
 ·rename_i c e f hb
  split at h
  ·cases h
  ·refine ⟨_,hb,?_⟩
   exact Array.any_eq_true'.2 ⟨v,Array.mem_of_getElem? h,hv⟩
 ·cases h
theorem Ext.cell {K:Value→Bool} {w w' : World} (h:Ext K w w') {p:Addr} {v:Value} (hc:w.cell? p=some v) (hv:K v=true):w'.cell? p=some v:=by
 obtain ⟨o,ho,hh⟩:=hot_of_cell hc hv
 have:=h.block _ _ ho hh
 exact (World.cell?_of_block (w:=w) (by rw [this,ho])).trans hc
theorem Rd.ext {K:Value→Bool} (hK:∀ x,K (.int .u64 x)=true) {w w' : World} {A:Option Addr} {n c:Nat} {xs:List Nat} (h:Rd w A n c xs) (hx:Ext K w w'):Rd w' A n c xs:=by
 refine ⟨h.1,h.2.1,h.2.2.1,fun hn=>?_⟩
 obtain ⟨ad,e,hl,hc⟩:=h.2.2.2 hn
 exact ⟨ad,e,Nat.lt_of_lt_of_le hl hx.size,fun j x hj=>hx.cell (hc j x hj) (hK _)⟩
theorem Nt.ext {K:Value→Bool} (hK:∀ x,K (.int .u64 x)=true) {w w' : World} {v:Value} {a:Nat} (h:Nt w v a) (hx:Ext K w w'):Nt w' v a:=by
 obtain ⟨A,n,c,xs,hv,hr,hd,hn,ha⟩:=h
 exact ⟨A,n,c,xs,hv,hr.ext hK hx,hd,hn,ha⟩
def spNt (a:Nat):Sp:=fun v w=>Nt w v a
theorem spNt_stable {K:Value→Bool} (hK:∀ x,K (.int .u64 x)=true) (a:Nat):Stable K (spNt a):=fun _ _ _ h hx=>Nt.ext hK h hx
theorem Ku_u (x:Int):Ku (.int .u64 x)=true:=rfl
theorem cells_of_blk {w:World} {g:Nat} {cs:Array Value} {t:TypeId} {fr:Nat×Nat} (h:w.heap[g]?=some (.cells cs t fr)) (i:Nat):w.cell? ⟨g,i,none⟩=cs[i]?:=by
 unfold World.cell?
 rw [h]
 rfl
theorem Base.blk {T:List Nat} {w0 w:World} {g:Nat} {o:Obj} (h:Base T w0 w) (h0:w0.heap[g]?=some o) (hT:g∉T):w.heap[g]?=some o:=(h.block g (lt_of_block h0) hT).trans h0
theorem GivesNt.ty {P:Program} {f:FuncId} {args:Array Value} {w:World} {a:Nat} (h:Calls P f args w (GivesNt w a)):Calls P f args w (TyPost w (spNt a)) :=
 h.mono fun _ _ ⟨v,h1,h2,h3⟩=>⟨v,h1,h3,h2⟩
theorem Gives.ty {P:Program} {f:FuncId} {args:Array Value} {w:World} {u:Value} (h:Calls P f args w (Gives w u)):Calls P f args w (TyPost w (Sp.is u)) :=
 h.mono fun _ _ ⟨h1,h2⟩=>⟨u,h1,h2,rfl⟩
theorem Below.step_trans {w0 w w' : World} (h:Below w0.heap.size w0 w) (h' : Below w.heap.size w w'):Below w0.heap.size w0 w':=h.trans (h'.mono h.size)
/-! ### The functions on natural numbers, by values -/
theorem nt_difference {x y a b:Nat} {v v' : Value} {w:World} (h:Nt w v a) (h' : Nt w v' b) (ha:Lv 40 a) (hb:Lv 40 b) (hx:x<W64) (hy:y<W64) (hge:y*b≤x*a) :
 Calls Tryz.prog 209 #[.int .u64 (x:Int),v,.int .u64 (y:Int),v'] w (GivesNt w (x*a-y*b)):=by
 obtain ⟨A,n,c,xs,rfl,hr,hd,hn,rfl⟩:=h
 obtain ⟨A',n',c',ys,rfl,hr',hd',hn',rfl⟩:=h'
 have h1:=ha.len40 hn
 have h2:=hb.len40 hn'
 rw [hr.len] at h1
 rw [hr'.len] at h2
 exact difference_any x A n c xs y A' n' c' ys w hr hr' hd hd' hx hy (by omega) (by omega) hge
theorem nt_compare {a b:Nat} {v v' : Value} {w:World} (h:Nt w v a) (h' : Nt w v' b):Calls Tryz.prog 155 #[v,v'] w (Gives w (.int .i64 (cmpI a b))):=by
 obtain ⟨A,n,c,xs,rfl,hr,hd,hn,rfl⟩:=h
 obtain ⟨A',n',c',ys,rfl,hr',hd',hn',rfl⟩:=h'
 exact compare_any A n c xs A' n' c' ys w hr hr' hd hd' hn hn'
theorem nt_plus {a b:Nat} {v v' : Value} {w:World} (h:Nt w v a) (h' : Nt w v' b) (ha:Lv 40 a) (hb:Lv 40 b):Calls Tryz.prog 134 #[v,v'] w (GivesNt w (a+b)):=by
 obtain ⟨A,n,c,xs,rfl,hr,hd,hn,rfl⟩:=h
 obtain ⟨A',n',c',ys,rfl,hr',hd',hn',rfl⟩:=h'
 have h1:=ha.len40 hn
 have h2:=hb.len40 hn'
 rw [hr.len] at h1
 rw [hr'.len] at h2
 exact plus_any A n c xs A' n' c' ys w hr hr' hd hd' (by omega) (by omega)
theorem nt_minus {a b:Nat} {v v' : Value} {w:World} (h:Nt w v a) (h' : Nt w v' b) (ha:Lv 40 a) (hge:b≤a):Calls Tryz.prog 235 #[v,v'] w (GivesNt w (a-b)):=by
 obtain ⟨A,n,c,xs,rfl,hr,hd,hn,rfl⟩:=h
 obtain ⟨A',n',c',ys,rfl,hr',hd',hn',rfl⟩:=h'
 have h1:=ha.len40 hn
 rw [hr.len] at h1
 have h2:n'≤n:=by
  rcases Nat.lt_or_ge n n' with hlt|hge'
  ·have:=lt_of_length W64_one hd hn' (by rw [hr.len,hr'.len];exact hlt)
   omega
  ·exact hge'
 exact minus_any A n c xs A' n' c' ys w hr hr' hd hd' (by omega) h2 hge
theorem nt_times {a b:Nat} {v v' : Value} {w:World} (h:Nt w v a) (h' : Nt w v' b) (ha:Lv 40 a) (hb:Lv 40 b):Calls Tryz.prog 132 #[v,v'] w (GivesNt w (a*b)):=by
 obtain ⟨A,n,c,xs,rfl,hr,hd,hn,rfl⟩:=h
 obtain ⟨A',n',c',ys,rfl,hr',hd',hn',rfl⟩:=h'
 have h1:=ha.len40 hn
 have h2:=hb.len40 hn'
 rw [hr.len] at h1
 rw [hr'.len] at h2
 exact times_any A n c xs A' n' c' ys w hr hr' hd hd' (by omega) (by omega)
theorem nt_len_pos {a n c:Nat} {A:Option Addr} {xs:List Nat} {w:World} (hr:Rd w A n c xs) (hn:Norm xs) (ha:val W64 xs=a):0<n↔0<a:=by
 constructor
 ·intro h
  rw [← ha]
  exact hn.pos W64_pos (by rintro rfl;have:=hr.len;simp at this;omega)
 ·intro h
  rcases Nat.eq_zero_or_pos n with e|e
  ·subst e
   have:xs = []:=List.eq_nil_of_length_eq_zero hr.len
   subst this
   simp [val] at ha
   omega
  ·exact e
theorem nt_divide {a b:Nat} {v v' : Value} {w:World} (h:Nt w v a) (h' : Nt w v' b) (ha:Lv 40 a) (hb:0<b):Calls Tryz.prog 130 #[v,v'] w (GivesTwo w (a/b) (a%b)):=by
 obtain ⟨A,n,c,xs,rfl,hr,hd,hn,rfl⟩:=h
 obtain ⟨A',n',c',ys,rfl,hr',hd',hn',rfl⟩:=h'
 have h1:=ha.len40 hn
 rw [hr.len] at h1
 exact divide_any A n c xs A' n' c' ys w hr hr' hd hd' (by omega) hn hn' ((nt_len_pos hr' hn' rfl).2 hb)
def GivesWord (w:World) (a b:Nat) (e:Ending) (w' : World):Prop := ∃ v,e = .returned (.tuple #[v,.int .u64 (b:Int)])∧Nt w' v a∧Below w.heap.size w w'
theorem nt_divideWord {a d:Nat} {v:Value} {w:World} (h:Nt w v a) (ha:Lv 40 a) (hd0:0<d) (hd1:d<W64):Calls Tryz.prog 158 #[v,.int .u64 (d:Int)] w (GivesWord w (a/d) (a%d)):=by
 obtain ⟨A,n,c,xs,rfl,hr,hd,hn,rfl⟩:=h
 have h1:=ha.len40 hn
 rw [hr.len] at h1
 exact (divideWord_any A n c xs d w hr hd (by omega) hd0 hd1).mono fun e w' ⟨⟨v,h1,h2⟩,h3⟩=>⟨v,h1,h2,h3⟩
theorem nt_divideWord_own {a d:Nat} {v:Value} {w:World} (h:Nt w v a) (ha:Lv 40 a) (hd0:0<d) (hd1:d<W64):Calls Tryz.prog 158 #[v,.int .u64 (d:Int)] w fun e w' =>
 ∃ v,e = .returned (.tuple #[v,.int .u64 ((a%d:Nat):Int)])∧Nt w' v (a/d)∧v.ownBlock=some w.heap.size∧Below w.heap.size w w':=by
 obtain ⟨A,n,c,xs,rfl,hr,hd,hn,rfl⟩:=h
 have h1:=ha.len40 hn
 rw [hr.len] at h1
 exact (divideWord_own A n c xs d w hr hd (by omega) hd0 hd1).mono fun e w' ⟨⟨v,h1,h2,h4⟩,h3⟩=>⟨v,h1,h2,h4,h3⟩
theorem nt_isZero {a:Nat} {v:Value} {w:World} (h:Nt w v a):Calls Tryz.prog 128 #[v] w fun e w'=>e = .returned (.bool (decide (a=0)))∧w=w':=by
 obtain ⟨A,n,c,xs,rfl,hr,hd,hn,ha⟩:=h
 have:decide (n=0)=decide (a=0):=by
  have:=nt_len_pos hr hn ha
  rw [decide_eq_decide];omega
 rw [← this]
 exact isZero_any A n c w
theorem nt_isOne {a:Nat} {v:Value} {w:World} (h:Nt w v a):Calls Tryz.prog 97 #[v] w fun e w'=>e = .returned (.bool (decide (a=1)))∧w=w':=by
 obtain ⟨A,n,c,xs,rfl,hr,hd,hn,rfl⟩:=h
 exact isOne_any A n c xs w hr hd hn
theorem nt_low {a:Nat} {v:Value} {w:World} (h:Nt w v a):Calls Tryz.prog 136 #[v] w fun e w'=>e = .returned (.int .u64 ((a%W64:Nat):Int))∧w=w':=by
 obtain ⟨A,n,c,xs,rfl,hr,hd,hn,rfl⟩:=h
 exact low_any A n c xs w hr hd
set_option maxHeartbeats 1000000 in
theorem carryOut_even (oa ob na nb s:Nat) (v v' : Value) (a b x y:Nat) (w:World) (h:Nt w v a) (h' : Nt w v' b) (ha:Lv 40 a) (hb:Lv 40 b) (b1:oa<W64) (b2:ob<W64) (b3:na<W64) (b4:nb<W64)
 (hs:(s:Int).tmod 2=0) (e1:oa*a=x+ob*b) (e2:nb*b=y+na*a) :
 Calls Tryz.prog 157 #[eucV oa ob na nb s,v,v'] w (GivesTwo w x y):=by
 have H:=Lib.hid (And.intro h (And.intro h' (And.intro ha (And.intro hb (And.intro b1 (And.intro b2 (And.intro b3 (And.intro b4 (And.intro e1 e2)))))))))
 clear h h' ha hb b1 b2 b3 b4 e1 e2
 unfold eucV
 go_enter Tryz.func157,Tryz.ntmps157
 go_wp2
 have hblk:=heap_alloc_new w (.cells #[.int .u64 (oa:Int),.int .u64 (ob:Int),.int .u64 (na:Int),.int .u64 (nb:Int),.int .i64 (s:Int)] 201)
 have hbel:Below w.heap.size w (w.alloc (.cells #[.int .u64 (oa:Int),.int .u64 (ob:Int),.int .u64 (na:Int),.int .u64 (nb:Int),.int .i64 (s:Int)] 201)):=(Below.refl _ _).alloc (Nat.le_refl _) _
 generalize w.alloc (.cells #[.int .u64 (oa:Int),.int .u64 (ob:Int),.int .u64 (na:Int),.int .u64 (nb:Int),.int .i64 (s:Int)] 201)=w1 at *
 have q1:∀ w',Base [] w1 w'→Calls Tryz.prog 209 #[.int .u64 (oa:Int),v,.int .u64 (ob:Int),v'] w' (TyPost w' (spNt x)):=fun w' hB=>by
  obtain ⟨h,h',ha,hb,b1,b2,b3,b4,e1,e2⟩:=H.out
  have:=GivesNt.ty (nt_difference (x:=oa) (y:=ob) (w:=w') (h.below (Below.step_trans hbel hB.below)) (h'.below (Below.step_trans hbel hB.below)) ha hb b1 b2 (by omega))
  rwa [show oa*a-ob*b=x from by omega] at this
 have q2:∀ w',Base [] w1 w'→Calls Tryz.prog 209 #[.int .u64 (nb:Int),v',.int .u64 (na:Int),v] w' (TyPost w' (spNt y)):=fun w' hB=>by
  obtain ⟨h,h',ha,hb,b1,b2,b3,b4,e1,e2⟩:=H.out
  have:=GivesNt.ty (nt_difference (x:=nb) (y:=na) (w:=w') (h'.below (Below.step_trans hbel hB.below)) (h.below (Below.step_trans hbel hB.below)) hb ha b4 b3 (by omega))
  rwa [show nb*b-na*a=y from by omega] at this
 have Q1:=Lib.hid q1
 have Q2:=Lib.hid q2
 clear q1 q2
 refine wp_region_ty Ku [] (by kernel_rfl) (by kernel_rfl) ?_
 repeat (first|(apply ty_is (hg:=rfl);case h=>(intro A w' hB hk;simp [known,specOf,Kd.spec,Sp.is,isVar,Oper.looksAt,Op.operands,Call.operands,Act.eval] at hk;have c_hblk:=cells_of_blk (hB.blk hblk (by first|(simp;done)|(simp;omega)));first|(simp [go_sem,hk,c_hblk];done)|(simp [go_sem,hk,c_hblk];rfl)|(simp [go_sem,c_hblk];rfl)))|(refine ty_move _ ?_ (by first|exact .inl rfl|exact .inr rfl) (by rfl) (by simp [specOf,Kd.spec];rfl) ?_ rfl ?_;(first|exact Sp.is_stable _ _|exact spNt_stable (fun _=>rfl) _|exact spTwo_stable (fun _=>rfl) _ _|exact spFr_stable (fun _=>rfl) _|exact spSum_stable (fun _=>rfl) _|exact spSgn_stable _ _|exact spNb_stable (fun _=>rfl) (fun _=>rfl) _|exact spVc_stable (fun _=>rfl) (fun _=>rfl) _)))
 refine ty_call (spNt x) (spNt_stable Ku_u _) rfl (fun A w' hB hk=>?_) ?_;(simp [known,specOf,Kd.spec,Sp.is,isVar,Oper.looksAt,Op.operands,Call.operands,Act.eval] at hk;have c_hblk:=cells_of_blk (hB.blk hblk (by first|(simp;done)|(simp;omega)));simp [go_sem,hk,c_hblk];refine tyUpon_enter ?_;exact Q1.out _ hB)
 repeat (first|(apply ty_is (hg:=rfl);case h=>(intro A w' hB hk;simp [known,specOf,Kd.spec,Sp.is,isVar,Oper.looksAt,Op.operands,Call.operands,Act.eval] at hk;have c_hblk:=cells_of_blk (hB.blk hblk (by first|(simp;done)|(simp;omega)));first|(simp [go_sem,hk,c_hblk];done)|(simp [go_sem,hk,c_hblk];rfl)|(simp [go_sem,c_hblk];rfl)))|(refine ty_move _ ?_ (by first|exact .inl rfl|exact .inr rfl) (by rfl) (by simp [specOf,Kd.spec];rfl) ?_ rfl ?_;(first|exact Sp.is_stable _ _|exact spNt_stable (fun _=>rfl) _|exact spTwo_stable (fun _=>rfl) _ _|exact spFr_stable (fun _=>rfl) _|exact spSum_stable (fun _=>rfl) _|exact spSgn_stable _ _|exact spNb_stable (fun _=>rfl) (fun _=>rfl) _|exact spVc_stable (fun _=>rfl) (fun _=>rfl) _)))
 refine ty_call (spNt y) (spNt_stable Ku_u _) rfl (fun A w' hB hk=>?_) ?_;(simp [known,specOf,Kd.spec,Sp.is,isVar,Oper.looksAt,Op.operands,Call.operands,Act.eval] at hk;have c_hblk:=cells_of_blk (hB.blk hblk (by first|(simp;done)|(simp;omega)));simp [go_sem,hk,c_hblk];refine tyUpon_enter ?_;exact Q2.out _ hB)
 repeat (first|(apply ty_is (hg:=rfl);case h=>(intro A w' hB hk;simp [known,specOf,Kd.spec,Sp.is,isVar,Oper.looksAt,Op.operands,Call.operands,Act.eval] at hk;have c_hblk:=cells_of_blk (hB.blk hblk (by first|(simp;done)|(simp;omega)));first|(simp [go_sem,hk,c_hblk];done)|(simp [go_sem,hk,c_hblk];rfl)|(simp [go_sem,c_hblk];rfl)))|(refine ty_move _ ?_ (by first|exact .inl rfl|exact .inr rfl) (by rfl) (by simp [specOf,Kd.spec];rfl) ?_ rfl ?_;(first|exact Sp.is_stable _ _|exact spNt_stable (fun _=>rfl) _|exact spTwo_stable (fun _=>rfl) _ _|exact spFr_stable (fun _=>rfl) _|exact spSum_stable (fun _=>rfl) _|exact spSgn_stable _ _|exact spNb_stable (fun _=>rfl) (fun _=>rfl) _|exact spVc_stable (fun _=>rfl) (fun _=>rfl) _)))
 refine ⟨by first|rfl|decide,fun f w2 hB hF hAp=>?_⟩;simp [Final1,Sp.is,isVar] at hF;simp only [frameOf]
 go_wp2
 go_ret2
 exact ⟨f 6,f 7,rfl,hF.2.1,hF.1,Below.step_trans hbel hB.below⟩
set_option maxHeartbeats 1000000 in
theorem carryOut_odd (oa ob na nb s:Nat) (v v' : Value) (a b x y:Nat) (w:World) (h:Nt w v a) (h' : Nt w v' b) (ha:Lv 40 a) (hb:Lv 40 b) (b1:oa<W64) (b2:ob<W64) (b3:na<W64) (b4:nb<W64)
 (hs:(s:Int).tmod 2=1) (e1:ob*b=x+oa*a) (e2:na*a=y+nb*b) :
 Calls Tryz.prog 157 #[eucV oa ob na nb s,v,v'] w (GivesTwo w x y):=by
 have H:=Lib.hid (And.intro h (And.intro h' (And.intro ha (And.intro hb (And.intro b1 (And.intro b2 (And.intro b3 (And.intro b4 (And.intro e1 e2)))))))))
 clear h h' ha hb b1 b2 b3 b4 e1 e2
 unfold eucV
 go_enter Tryz.func157,Tryz.ntmps157
 go_wp2
 have hblk:=heap_alloc_new w (.cells #[.int .u64 (oa:Int),.int .u64 (ob:Int),.int .u64 (na:Int),.int .u64 (nb:Int),.int .i64 (s:Int)] 201)
 have hbel:Below w.heap.size w (w.alloc (.cells #[.int .u64 (oa:Int),.int .u64 (ob:Int),.int .u64 (na:Int),.int .u64 (nb:Int),.int .i64 (s:Int)] 201)):=(Below.refl _ _).alloc (Nat.le_refl _) _
 generalize w.alloc (.cells #[.int .u64 (oa:Int),.int .u64 (ob:Int),.int .u64 (na:Int),.int .u64 (nb:Int),.int .i64 (s:Int)] 201)=w1 at *
 have q1:∀ w',Base [] w1 w'→Calls Tryz.prog 209 #[.int .u64 (ob:Int),v',.int .u64 (oa:Int),v] w' (TyPost w' (spNt x)):=fun w' hB=>by
  obtain ⟨h,h',ha,hb,b1,b2,b3,b4,e1,e2⟩:=H.out
  have:=GivesNt.ty (nt_difference (x:=ob) (y:=oa) (w:=w') (h'.below (Below.step_trans hbel hB.below)) (h.below (Below.step_trans hbel hB.below)) hb ha b2 b1 (by omega))
  rwa [show ob*b-oa*a=x from by omega] at this
 have q2:∀ w',Base [] w1 w'→Calls Tryz.prog 209 #[.int .u64 (na:Int),v,.int .u64 (nb:Int),v'] w' (TyPost w' (spNt y)):=fun w' hB=>by
  obtain ⟨h,h',ha,hb,b1,b2,b3,b4,e1,e2⟩:=H.out
  have:=GivesNt.ty (nt_difference (x:=na) (y:=nb) (w:=w') (h.below (Below.step_trans hbel hB.below)) (h'.below (Below.step_trans hbel hB.below)) ha hb b3 b4 (by omega))
  rwa [show na*a-nb*b=y from by omega] at this
 have Q1:=Lib.hid q1
 have Q2:=Lib.hid q2
 clear q1 q2
 refine wp_region_ty Ku [] (by kernel_rfl) (by kernel_rfl) ?_
 repeat (first|(apply ty_is (hg:=rfl);case h=>(intro A w' hB hk;simp [known,specOf,Kd.spec,Sp.is,isVar,Oper.looksAt,Op.operands,Call.operands,Act.eval] at hk;have c_hblk:=cells_of_blk (hB.blk hblk (by first|(simp;done)|(simp;omega)));first|(simp [go_sem,hk,c_hblk];done)|(simp [go_sem,hk,c_hblk];rfl)|(simp [go_sem,c_hblk];rfl)))|(refine ty_move _ ?_ (by first|exact .inl rfl|exact .inr rfl) (by rfl) (by simp [specOf,Kd.spec];rfl) ?_ rfl ?_;(first|exact Sp.is_stable _ _|exact spNt_stable (fun _=>rfl) _|exact spTwo_stable (fun _=>rfl) _ _|exact spFr_stable (fun _=>rfl) _|exact spSum_stable (fun _=>rfl) _|exact spSgn_stable _ _|exact spNb_stable (fun _=>rfl) (fun _=>rfl) _|exact spVc_stable (fun _=>rfl) (fun _=>rfl) _)))
 refine ty_call (spNt x) (spNt_stable Ku_u _) rfl (fun A w' hB hk=>?_) ?_;(simp [known,specOf,Kd.spec,Sp.is,isVar,Oper.looksAt,Op.operands,Call.operands,Act.eval] at hk;have c_hblk:=cells_of_blk (hB.blk hblk (by first|(simp;done)|(simp;omega)));simp [go_sem,hk,c_hblk];refine tyUpon_enter ?_;exact Q1.out _ hB)
 repeat (first|(apply ty_is (hg:=rfl);case h=>(intro A w' hB hk;simp [known,specOf,Kd.spec,Sp.is,isVar,Oper.looksAt,Op.operands,Call.operands,Act.eval] at hk;have c_hblk:=cells_of_blk (hB.blk hblk (by first|(simp;done)|(simp;omega)));first|(simp [go_sem,hk,c_hblk];done)|(simp [go_sem,hk,c_hblk];rfl)|(simp [go_sem,c_hblk];rfl)))|(refine ty_move _ ?_ (by first|exact .inl rfl|exact .inr rfl) (by rfl) (by simp [specOf,Kd.spec];rfl) ?_ rfl ?_;(first|exact Sp.is_stable _ _|exact spNt_stable (fun _=>rfl) _|exact spTwo_stable (fun _=>rfl) _ _|exact spFr_stable (fun _=>rfl) _|exact spSum_stable (fun _=>rfl) _|exact spSgn_stable _ _|exact spNb_stable (fun _=>rfl) (fun _=>rfl) _|exact spVc_stable (fun _=>rfl) (fun _=>rfl) _)))
 refine ty_call (spNt y) (spNt_stable Ku_u _) rfl (fun A w' hB hk=>?_) ?_;(simp [known,specOf,Kd.spec,Sp.is,isVar,Oper.looksAt,Op.operands,Call.operands,Act.eval] at hk;have c_hblk:=cells_of_blk (hB.blk hblk (by first|(simp;done)|(simp;omega)));simp [go_sem,hk,c_hblk];refine tyUpon_enter ?_;exact Q2.out _ hB)
 repeat (first|(apply ty_is (hg:=rfl);case h=>(intro A w' hB hk;simp [known,specOf,Kd.spec,Sp.is,isVar,Oper.looksAt,Op.operands,Call.operands,Act.eval] at hk;have c_hblk:=cells_of_blk (hB.blk hblk (by first|(simp;done)|(simp;omega)));first|(simp [go_sem,hk,c_hblk];done)|(simp [go_sem,hk,c_hblk];rfl)|(simp [go_sem,c_hblk];rfl)))|(refine ty_move _ ?_ (by first|exact .inl rfl|exact .inr rfl) (by rfl) (by simp [specOf,Kd.spec];rfl) ?_ rfl ?_;(first|exact Sp.is_stable _ _|exact spNt_stable (fun _=>rfl) _|exact spTwo_stable (fun _=>rfl) _ _|exact spFr_stable (fun _=>rfl) _|exact spSum_stable (fun _=>rfl) _|exact spSgn_stable _ _|exact spNb_stable (fun _=>rfl) (fun _=>rfl) _|exact spVc_stable (fun _=>rfl) (fun _=>rfl) _)))
 refine ⟨by first|rfl|decide,fun f w2 hB hF hAp=>?_⟩;simp [Final1,Sp.is,isVar] at hF;simp only [frameOf]
 go_wp2
 go_ret2
 exact ⟨f 6,f 7,rfl,hF.2.1,hF.1,Below.step_trans hbel hB.below⟩
def GcdAt (w:World) (a b k:Nat) (v v' : Value) (wr:World):Prop := ∃ x:Nat,Nt wr v x∧Nt wr v' k∧k≤x∧0<x∧Nat.gcd x k=Nat.gcd a b∧Lv 40 x∧Below w.heap.size w wr
theorem nt_simulate {a b:Nat} {v:Value} {A' : Option Addr} {n' c' : Nat} {w:World} (h:Nt w v a) (h' : Nt w (.slice A' n' c') b) (hn' : 2≤n') (hge:b≤a) :
 Calls Tryz.prog 156 #[v,.slice A' n' c'] w (SimGives a b w):=by
 obtain ⟨A,n,c,xs,rfl,hr,hd,hn,rfl⟩:=h
 obtain ⟨A2,n2,c2,ys,e,hr',hd',hn2,rfl⟩:=h'
 injection e with e1 e2 e3
 subst e1;subst e2;subst e3
 have hle:n'≤n:=by
  rcases Nat.lt_or_ge n n' with hlt|hge'
  ·have:=lt_of_length W64_one hd hn2 (by rw [hr.len,hr'.len];exact hlt)
   omega
  ·exact hge'
 exact simulate_any A n c xs A' n' c' ys w hr hr' hd hd' hn hn' hle hge
theorem lift_pos {x k a' b' oa ob na nb s:Nat} (hx:0<x) (hk:k≤x) (f1:x=nb*a'+ob*b') (f4:b'<k) (f5:s%2=0→oa*x=a'+ob*k∧nb*k=b'+na*x)
 (f6:s%2=1→ob*k=a'+oa*x∧na*x=b'+nb*k):1≤nb:=by
 rcases Nat.eq_zero_or_pos nb with e|e
 ·exfalso
  subst e
  have hb:b'=0:=by
   rcases Nat.mod_two_eq_zero_or_one s with e|e
   ·have:=(f5 e).2
    omega
   ·have:=(f6 e).2
    rcases Nat.eq_zero_or_pos na with e|e
    ·subst e;omega
    ·have:=Nat.mul_le_mul_right x e
     omega
  subst hb
  omega
 ·exact e
theorem nt_one {n c:Nat} {A:Option Addr} {b:Nat} {w:World} (h:Nt w (.slice A n c) b) (h1:n=1):∃ ad,A=some ad∧0<b∧b<W64∧w.cell? ad=some (.int .u64 (b:Int)):=by
 obtain ⟨A2,n2,c2,ys,e,hr,hd,hn,hv⟩:=h
 injection e with e1 e2 e3
 subst e1;subst e2;subst e3;subst h1
 obtain ⟨ad,x,hA,_,hx,hc⟩:=hr.at_ Nat.zero_lt_one
 have hl:=hr.len
 match ys,hl,hx with
 | [y],_,hx =>
   simp at hx
   subst hx
   simp [val] at hv
   subst hv
   have hp:0<y:=by simpa [val] using hn.pos W64_pos (by simp)
   exact ⟨ad,hA,hp,hd y (by simp),by simpa [Addr.add] using hc⟩
set_option maxHeartbeats 2000000 in
theorem gcd_any (v v' : Value) (a b:Nat) (w:World) (h:Nt w v a) (h' : Nt w v' b) (ha:Lv 40 a) (hb:Lv 40 b) (h0:0<a∨0<b):Calls Tryz.prog 96 #[v,v'] w (GivesNt w (Nat.gcd a b)):=by
 have H:=Lib.hid (And.intro h (And.intro h' (And.intro ha (And.intro hb h0))))
 have hc:=nt_compare h h'
 have start:∀ w1,Below w.heap.size w w1→(a<b→GcdAt w a b a v' v w1)∧(b≤a→GcdAt w a b b v v' w1):=fun w1 hb1=>by
  obtain ⟨h,h',ha,hb,h0⟩:=H.out
  exact ⟨fun hl=>⟨b,h'.below hb1,h.below hb1,by omega,by omega,Nat.gcd_comm _ _,hb,hb1⟩,fun hl=>⟨a,h.below hb1,h'.below hb1,hl,by omega,rfl,ha,hb1⟩⟩
 have START:=Lib.hid start
 clear h h' ha hb h0 start
 obtain ⟨n0,hn0⟩:∃ n0,n0=min a b:=⟨_,rfl⟩
 by_cases hlt:a<b
 ·rw [show cmpI a b = -1 from by unfold cmpI;rw [if_pos (by omega)]] at hc
  have HC:=Lib.hid hc
  have HL:=Lib.hid hlt
  obtain rfl:n0=a:=by omega
  clear hc hlt hn0
  go_enter Tryz.func96,Tryz.ntmps96
  go_wp2_with (go_at_call 155;refine HC.out.mono ?_;rintro e w1 ⟨rfl,hb1⟩)
  go_loopg [0,1] n0 (fun k va vb wr=>GcdAt w n0 b k va vb wr)
  case atStart=>exact (START.out w1 hb1).1 HL.out
  case round =>
   obtain ⟨x,hx,hy,hyx,hx0,hg,hlv,hbe⟩:=hrel
   have hy0:=hy
   obtain ⟨A',n',c',ys,rfl,hr',hd',hn',hv'⟩:=hy0
   have hnc' : n'≤c':=hr'.cap
   have hcm' : c'≤9223372036854775807:=hr'.2.2.1
   have hpos:=nt_len_pos hr' hn' hv'
   have HR:=Lib.hid (And.intro hx (And.intro hy (And.intro hyx (And.intro hx0 (And.intro hg (And.intro hlv hbe))))))
   by_cases h1:1<n'
   ·have hs:Calls Tryz.prog 156 #[u0,.slice A' n' c'] wr (fun e w' => ∃ oa ob na nb s:Nat,e = .returned (.agg #[.int .u64 (oa:Int),.int .u64 (ob:Int),.int .u64 (na:Int),.int .u64 (nb:Int),.int .i64 (s:Int)])∧SimOk x gk oa ob na nb s∧Below wr.heap.size wr w'):=nt_simulate hx hy (by omega) hyx
    have HS:=Lib.hid hs
    have HP:=Lib.hid hpos
    clear hs hx hy hyx hx0 hg hlv hbe hr' hd' hn' hv' hpos
    go_wp2_with fail
    refine HS.out.mono ?_
    rintro e w2 ⟨oa,ob,na,nb,s,rfl,hsim,hb2⟩
    have HB2:=Lib.hid (And.intro hsim hb2)
    clear hsim hb2
    have hz2:wr.heap.size≤w2.heap.size:=HB2.out.2.size
    rcases Nat.eq_zero_or_pos s with rfl|hs0
    ·go_wp2_with fail
     refine (nt_divide (HR.out.1.below ?_) (HR.out.2.1.below ?_) HR.out.2.2.2.2.2.1 (by have:=HP.out;omega)).mono ?_
     ·repeat (first|exact HB2.out.2|(refine Below.setCell ?_ (by first|omega|(simp;done)|(simp;omega)) _)|(refine Below.alloc ?_ (by first|omega|(simp;done)|(simp;omega)) _)|(refine Below.drew ?_)|exact Below.refl _ _)
     ·repeat (first|exact HB2.out.2|(refine Below.setCell ?_ (by first|omega|(simp;done)|(simp;omega)) _)|(refine Below.alloc ?_ (by first|omega|(simp;done)|(simp;omega)) _)|(refine Below.drew ?_)|exact Below.refl _ _)
     rintro e w3 ⟨v1,v2,rfl,q1,q2,q3⟩
     have Q:=Lib.hid (And.intro q1 q2)
     have q4:Below wr.heap.size wr w3:=by
      refine Below.trans ?_ (q3.mono ?_)
      ·repeat (first|exact HB2.out.2|(refine Below.setCell ?_ (by first|omega|(simp;done)|(simp;omega)) _)|(refine Below.alloc ?_ (by first|omega|(simp;done)|(simp;omega)) _)|(refine Below.drew ?_)|exact Below.refl _ _)
      ·simp;omega
     have Q4:=Lib.hid q4
     clear q1 q2 q3 q4
     go_wp2
     go_roundg (x%gk)
     case measure=>exact Nat.mod_lt _ (by have:=HP.out;omega)
     case rel =>
      obtain ⟨hx,hy,hyx,hx0,hg,hlv,hbe⟩:=HR.out
      have hp:=HP.out
      exact ⟨gk,hy.below Q4.out,Q.out.2,Nat.le_of_lt (Nat.mod_lt _ (by omega)),by omega,by rw [← hg,Nat.gcd_comm gk,Nat.gcd_comm x,Nat.gcd_rec gk x],hlv.le hyx,Below.step_trans hbe Q4.out⟩
    ·obtain ⟨hsb,hso⟩:=HB2.out.1
     obtain ⟨l1,l2,l3,l4,a',b',f1,f2,f3,f4,f5,f6⟩:=hso hs0
     have HF:=Lib.hid (And.intro l1 (And.intro l2 (And.intro l3 (And.intro l4 (And.intro f1 (And.intro f2 (And.intro f3 (And.intro f4 (And.intro f5 f6)))))))))
     clear hso l1 l2 l3 l4 f1 f2 f3 f4 f5 f6
     go_wp2_with fail
     have hco:∀ W,Below wr.heap.size wr W→Calls Tryz.prog 157 #[.agg #[.int .u64 (oa:Int),.int .u64 (ob:Int),.int .u64 (na:Int),.int .u64 (nb:Int),.int .i64 (s:Int)],u0,.slice A' n' c'] W (GivesTwo W a' b'):=fun W hW=>by
      obtain ⟨l1,l2,l3,l4,f1,f2,f3,f4,f5,f6⟩:=HF.out
      obtain ⟨hx,hy,hyx,hx0,hg,hlv,hbe⟩:=HR.out
      rcases Nat.mod_two_eq_zero_or_one s with e|e
      ·exact carryOut_even oa ob na nb s _ _ x gk a' b' W (hx.below hW) (hy.below hW) hlv (hlv.le hyx) l1 l2 l3 l4 (by rw [Int.tmod_eq_emod_of_nonneg (by omega)];omega) (f5 e).1 (f5 e).2
      ·exact carryOut_odd oa ob na nb s _ _ x gk a' b' W (hx.below hW) (hy.below hW) hlv (hlv.le hyx) l1 l2 l3 l4 (by rw [Int.tmod_eq_emod_of_nonneg (by omega)];omega) (f6 e).1 (f6 e).2
     refine (hco _ ?_).mono ?_
     ·repeat (first|exact HB2.out.2|(refine Below.setCell ?_ (by first|omega|(simp;done)|(simp;omega)) _)|(refine Below.alloc ?_ (by first|omega|(simp;done)|(simp;omega)) _)|(refine Below.drew ?_)|exact Below.refl _ _)
     rintro e w3 ⟨v1,v2,rfl,q1,q2,q3⟩
     have Q:=Lib.hid (And.intro q1 q2)
     have q4:Below wr.heap.size wr w3:=by
      refine Below.trans ?_ (q3.mono ?_)
      ·repeat (first|exact HB2.out.2|(refine Below.setCell ?_ (by first|omega|(simp;done)|(simp;omega)) _)|(refine Below.alloc ?_ (by first|omega|(simp;done)|(simp;omega)) _)|(refine Below.drew ?_)|exact Below.refl _ _)
      ·simp;omega
     have Q4:=Lib.hid q4
     clear q1 q2 q3 q4 hco
     go_wp2
     go_roundg b'
     case measure=>exact HF.out.2.2.2.2.2.2.2.1
     case rel =>
      obtain ⟨l1,l2,l3,l4,f1,f2,f3,f4,f5,f6⟩:=HF.out
      obtain ⟨hx,hy,hyx,hx0,hg,hlv,hbe⟩:=HR.out
      have hle:a'≤x:=by
       have:=Nat.mul_le_mul_right a' (lift_pos hx0 hyx f1 f4 f5 f6)
       omega
      exact ⟨a',Q.out.1,Q.out.2,Nat.le_of_lt f3,by omega,by rw [← hg];exact gcd_of_lift f1 f2 f5 f6,hlv.le hle,Below.step_trans hbe Q4.out⟩
   ·have hz:n'=0∨n'=1:=by omega
    rcases hz with rfl|rfl
    ·obtain rfl:gk=0:=by omega
     have HI:=Lib.hid hy
     clear hpos hr' hd' hn' hv' hx hy hyx hx0 hg hlv hbe
     go_wp2_with (go_at_call 128;refine (nt_isZero HI.out).mono ?_;rintro e w' ⟨rfl,rfl⟩)
     go_ret
     obtain ⟨hx,hy,hyx,hx0,hg,hlv,hbe⟩:=HR.out
     exact ⟨u0,rfl,by rw [← hg,Nat.gcd_zero_right];exact hx,hbe⟩
    ·obtain ⟨ad,rfl,hk0,hkW,hcell⟩:=nt_one hy rfl
     have hz:decide (gk=0)=false:=by simp;omega
     have HI:=Lib.hid (And.intro hk0 hkW)
     clear hpos hr' hd' hn' hv' hx hy hyx hx0 hg hlv hbe hk0 hkW
     go_wp2_with (go_at_call 128;refine (nt_isZero HR.out.2.1).mono ?_;rintro e w' ⟨rfl,rfl⟩)
     refine (nt_divideWord HR.out.1 HR.out.2.2.2.2.2.1 HI.out.1 HI.out.2).mono ?_
     rintro e w2 ⟨v1,rfl,q1,q2⟩
     have hcell2:w2.cell? ad=some (.int .u64 (gk:Int)):=(q2.cell (p:=ad) (by
      rcases Nat.lt_or_ge ad.block wr.heap.size with h|h
      ·exact h
      ·rw [World.cell?,Array.getElem?_eq_none h] at hcell;cases hcell)).trans hcell
     obtain ⟨r,hr⟩:∃ r,r=x%gk:=⟨_,rfl⟩
     have hrl:r<W64:=by have:=Nat.mod_lt x HI.out.1;have:=HI.out.2;omega
     rw [← hr]
     have Q2:=Lib.hid (And.intro q2 (And.intro hr hrl))
     clear q1 q2 hcell hr hrl
     go_wp2_with fail
     refine (gcdWords_any gk r _ HI.out.2 Q2.out.2.2).mono ?_
     rintro e w3 ⟨rfl,q3⟩
     have Q3:=Lib.hid q3
     clear q3
     go_wp2_with fail
     refine (naturalOf_any (Nat.gcd gk r) (Nat.lt_of_le_of_lt (Nat.gcd_le_left _ HI.out.1) HI.out.2) _).mono ?_
     rintro e w4 ⟨v4,rfl,q4,q5⟩
     have Q4:=Lib.hid (And.intro q4 q5)
     clear q4 q5
     go_wp2
     go_ret
     obtain ⟨hx,hy,hyx,hx0,hg,hlv,hbe⟩:=HR.out
     refine ⟨v4,rfl,?_,Below.step_trans hbe (Below.step_trans Q2.out.1 (Below.step_trans Q3.out Q4.out.2))⟩
     have:=Q4.out.1
     rwa [Q2.out.2.1,Nat.gcd_comm,← Nat.gcd_rec,Nat.gcd_comm,hg] at this
 ·have hcc:¬ cmpI a b<0:=by unfold cmpI;rw [if_neg (by omega)];split <;> omega
  generalize cmpI a b=cz at hc hcc
  have HC:=Lib.hid hc
  have HL:=Lib.hid hlt
  obtain rfl:n0=b:=by omega
  clear hc hlt hn0
  go_enter Tryz.func96,Tryz.ntmps96
  go_wp2_with (go_at_call 155;refine HC.out.mono ?_;rintro e w1 ⟨rfl,hb1⟩)
  go_loopg [0,1] n0 (fun k va vb wr=>GcdAt w a n0 k va vb wr)
  case atStart=>exact (START.out w1 hb1).2 (Nat.le_of_not_lt HL.out)
  case round =>
   obtain ⟨x,hx,hy,hyx,hx0,hg,hlv,hbe⟩:=hrel
   have hy0:=hy
   obtain ⟨A',n',c',ys,rfl,hr',hd',hn',hv'⟩:=hy0
   have hnc' : n'≤c':=hr'.cap
   have hcm' : c'≤9223372036854775807:=hr'.2.2.1
   have hpos:=nt_len_pos hr' hn' hv'
   have HR:=Lib.hid (And.intro hx (And.intro hy (And.intro hyx (And.intro hx0 (And.intro hg (And.intro hlv hbe))))))
   by_cases h1:1<n'
   ·have hs:Calls Tryz.prog 156 #[u0,.slice A' n' c'] wr (fun e w' => ∃ oa ob na nb s:Nat,e = .returned (.agg #[.int .u64 (oa:Int),.int .u64 (ob:Int),.int .u64 (na:Int),.int .u64 (nb:Int),.int .i64 (s:Int)])∧SimOk x gk oa ob na nb s∧Below wr.heap.size wr w'):=nt_simulate hx hy (by omega) hyx
    have HS:=Lib.hid hs
    have HP:=Lib.hid hpos
    clear hs hx hy hyx hx0 hg hlv hbe hr' hd' hn' hv' hpos
    go_wp2_with fail
    refine HS.out.mono ?_
    rintro e w2 ⟨oa,ob,na,nb,s,rfl,hsim,hb2⟩
    have HB2:=Lib.hid (And.intro hsim hb2)
    clear hsim hb2
    have hz2:wr.heap.size≤w2.heap.size:=HB2.out.2.size
    rcases Nat.eq_zero_or_pos s with rfl|hs0
    ·go_wp2_with fail
     refine (nt_divide (HR.out.1.below ?_) (HR.out.2.1.below ?_) HR.out.2.2.2.2.2.1 (by have:=HP.out;omega)).mono ?_
     ·repeat (first|exact HB2.out.2|(refine Below.setCell ?_ (by first|omega|(simp;done)|(simp;omega)) _)|(refine Below.alloc ?_ (by first|omega|(simp;done)|(simp;omega)) _)|(refine Below.drew ?_)|exact Below.refl _ _)
     ·repeat (first|exact HB2.out.2|(refine Below.setCell ?_ (by first|omega|(simp;done)|(simp;omega)) _)|(refine Below.alloc ?_ (by first|omega|(simp;done)|(simp;omega)) _)|(refine Below.drew ?_)|exact Below.refl _ _)
     rintro e w3 ⟨v1,v2,rfl,q1,q2,q3⟩
     have Q:=Lib.hid (And.intro q1 q2)
     have q4:Below wr.heap.size wr w3:=by
      refine Below.trans ?_ (q3.mono ?_)
      ·repeat (first|exact HB2.out.2|(refine Below.setCell ?_ (by first|omega|(simp;done)|(simp;omega)) _)|(refine Below.alloc ?_ (by first|omega|(simp;done)|(simp;omega)) _)|(refine Below.drew ?_)|exact Below.refl _ _)
      ·simp;omega
     have Q4:=Lib.hid q4
     clear q1 q2 q3 q4
     go_wp2
     go_roundg (x%gk)
     case measure=>exact Nat.mod_lt _ (by have:=HP.out;omega)
     case rel =>
      obtain ⟨hx,hy,hyx,hx0,hg,hlv,hbe⟩:=HR.out
      have hp:=HP.out
      exact ⟨gk,hy.below Q4.out,Q.out.2,Nat.le_of_lt (Nat.mod_lt _ (by omega)),by omega,by rw [← hg,Nat.gcd_comm gk,Nat.gcd_comm x,Nat.gcd_rec gk x],hlv.le hyx,Below.step_trans hbe Q4.out⟩
    ·obtain ⟨hsb,hso⟩:=HB2.out.1
     obtain ⟨l1,l2,l3,l4,a',b',f1,f2,f3,f4,f5,f6⟩:=hso hs0
     have HF:=Lib.hid (And.intro l1 (And.intro l2 (And.intro l3 (And.intro l4 (And.intro f1 (And.intro f2 (And.intro f3 (And.intro f4 (And.intro f5 f6)))))))))
     clear hso l1 l2 l3 l4 f1 f2 f3 f4 f5 f6
     go_wp2_with fail
     have hco:∀ W,Below wr.heap.size wr W→Calls Tryz.prog 157 #[.agg #[.int .u64 (oa:Int),.int .u64 (ob:Int),.int .u64 (na:Int),.int .u64 (nb:Int),.int .i64 (s:Int)],u0,.slice A' n' c'] W (GivesTwo W a' b'):=fun W hW=>by
      obtain ⟨l1,l2,l3,l4,f1,f2,f3,f4,f5,f6⟩:=HF.out
      obtain ⟨hx,hy,hyx,hx0,hg,hlv,hbe⟩:=HR.out
      rcases Nat.mod_two_eq_zero_or_one s with e|e
      ·exact carryOut_even oa ob na nb s _ _ x gk a' b' W (hx.below hW) (hy.below hW) hlv (hlv.le hyx) l1 l2 l3 l4 (by rw [Int.tmod_eq_emod_of_nonneg (by omega)];omega) (f5 e).1 (f5 e).2
      ·exact carryOut_odd oa ob na nb s _ _ x gk a' b' W (hx.below hW) (hy.below hW) hlv (hlv.le hyx) l1 l2 l3 l4 (by rw [Int.tmod_eq_emod_of_nonneg (by omega)];omega) (f6 e).1 (f6 e).2
     refine (hco _ ?_).mono ?_
     ·repeat (first|exact HB2.out.2|(refine Below.setCell ?_ (by first|omega|(simp;done)|(simp;omega)) _)|(refine Below.alloc ?_ (by first|omega|(simp;done)|(simp;omega)) _)|(refine Below.drew ?_)|exact Below.refl _ _)
     rintro e w3 ⟨v1,v2,rfl,q1,q2,q3⟩
     have Q:=Lib.hid (And.intro q1 q2)
     have q4:Below wr.heap.size wr w3:=by
      refine Below.trans ?_ (q3.mono ?_)
      ·repeat (first|exact HB2.out.2|(refine Below.setCell ?_ (by first|omega|(simp;done)|(simp;omega)) _)|(refine Below.alloc ?_ (by first|omega|(simp;done)|(simp;omega)) _)|(refine Below.drew ?_)|exact Below.refl _ _)
      ·simp;omega
     have Q4:=Lib.hid q4
     clear q1 q2 q3 q4 hco
     go_wp2
     go_roundg b'
     case measure=>exact HF.out.2.2.2.2.2.2.2.1
     case rel =>
      obtain ⟨l1,l2,l3,l4,f1,f2,f3,f4,f5,f6⟩:=HF.out
      obtain ⟨hx,hy,hyx,hx0,hg,hlv,hbe⟩:=HR.out
      have hle:a'≤x:=by
       have:=Nat.mul_le_mul_right a' (lift_pos hx0 hyx f1 f4 f5 f6)
       omega
      exact ⟨a',Q.out.1,Q.out.2,Nat.le_of_lt f3,by omega,by rw [← hg];exact gcd_of_lift f1 f2 f5 f6,hlv.le hle,Below.step_trans hbe Q4.out⟩
   ·have hz:n'=0∨n'=1:=by omega
    rcases hz with rfl|rfl
    ·obtain rfl:gk=0:=by omega
     have HI:=Lib.hid hy
     clear hpos hr' hd' hn' hv' hx hy hyx hx0 hg hlv hbe
     go_wp2_with (go_at_call 128;refine (nt_isZero HI.out).mono ?_;rintro e w' ⟨rfl,rfl⟩)
     go_ret
     obtain ⟨hx,hy,hyx,hx0,hg,hlv,hbe⟩:=HR.out
     exact ⟨u0,rfl,by rw [← hg,Nat.gcd_zero_right];exact hx,hbe⟩
    ·obtain ⟨ad,rfl,hk0,hkW,hcell⟩:=nt_one hy rfl
     have hz:decide (gk=0)=false:=by simp;omega
     have HI:=Lib.hid (And.intro hk0 hkW)
     clear hpos hr' hd' hn' hv' hx hy hyx hx0 hg hlv hbe hk0 hkW
     go_wp2_with (go_at_call 128;refine (nt_isZero HR.out.2.1).mono ?_;rintro e w' ⟨rfl,rfl⟩)
     refine (nt_divideWord HR.out.1 HR.out.2.2.2.2.2.1 HI.out.1 HI.out.2).mono ?_
     rintro e w2 ⟨v1,rfl,q1,q2⟩
     have hcell2:w2.cell? ad=some (.int .u64 (gk:Int)):=(q2.cell (p:=ad) (by
      rcases Nat.lt_or_ge ad.block wr.heap.size with h|h
      ·exact h
      ·rw [World.cell?,Array.getElem?_eq_none h] at hcell;cases hcell)).trans hcell
     obtain ⟨r,hr⟩:∃ r,r=x%gk:=⟨_,rfl⟩
     have hrl:r<W64:=by have:=Nat.mod_lt x HI.out.1;have:=HI.out.2;omega
     rw [← hr]
     have Q2:=Lib.hid (And.intro q2 (And.intro hr hrl))
     clear q1 q2 hcell hr hrl
     go_wp2_with fail
     refine (gcdWords_any gk r _ HI.out.2 Q2.out.2.2).mono ?_
     rintro e w3 ⟨rfl,q3⟩
     have Q3:=Lib.hid q3
     clear q3
     go_wp2_with fail
     refine (naturalOf_any (Nat.gcd gk r) (Nat.lt_of_le_of_lt (Nat.gcd_le_left _ HI.out.1) HI.out.2) _).mono ?_
     rintro e w4 ⟨v4,rfl,q4,q5⟩
     have Q4:=Lib.hid (And.intro q4 q5)
     clear q4 q5
     go_wp2
     go_ret
     obtain ⟨hx,hy,hyx,hx0,hg,hlv,hbe⟩:=HR.out
     refine ⟨v4,rfl,?_,Below.step_trans hbe (Below.step_trans Q2.out.1 (Below.step_trans Q3.out Q4.out.2))⟩
     have:=Q4.out.1
     rwa [Q2.out.2.1,Nat.gcd_comm,← Nat.gcd_rec,Nat.gcd_comm,hg] at this
end Go.Proofs.YtbhcckhbbclemaaGreatDoor
