/- Parts of the proof, joined. -/
import Derived.BigRegion
import Derived.Test.YtbhcckhbbclemaaGreatDoorJ12
set_option linter.unusedSimpArgs false
set_option linter.unusedVariables false
namespace Go.Proofs.YtbhcckhbbclemaaGreatDoor
open Go.RowKit Pl
def zeroE:Obj := .cells #[.int .u64 0,.int .u64 0,.int .u64 0,.int .u64 0,.int .i64 0] 201
def eucO (oa ob na nb s:Nat):Obj := .cells #[.int .u64 (oa:Int),.int .u64 (ob:Int),.int .u64 (na:Int),.int .u64 (nb:Int),.int .i64 (s:Int)] 201
theorem euc_cells {W:World} {g oa ob na nb s:Nat} (h:W.heap[g]?=some (eucO oa ob na nb s)) :
 W.cell? ⟨g,0,none⟩=some (.int .u64 (oa:Int))∧W.cell? ⟨g,1,none⟩=some (.int .u64 (ob:Int))∧W.cell? ⟨g,2,none⟩=some (.int .u64 (na:Int))∧W.cell? ⟨g,3,none⟩=some (.int .u64 (nb:Int))∧W.cell? ⟨g,4,none⟩=some (.int .i64 (s:Int)) ∧
  W.frozen? ⟨g,0,none⟩=false∧W.frozen? ⟨g,1,none⟩=false∧W.frozen? ⟨g,2,none⟩=false∧W.frozen? ⟨g,3,none⟩=false∧W.frozen? ⟨g,4,none⟩=false:=by
 unfold eucO at h
 simp [World.cell?,World.frozen?,h]
theorem zeroE_eq:zeroE=eucO 0 0 0 0 0:=rfl
theorem euc_set {W:World} {g oa ob na nb s oa' ob' na' nb' s' : Nat} (h:W.heap[g]?=some (eucO oa ob na nb s)) :
 (((((W.setCell ⟨g,0,none⟩ (.int .u64 (oa' : Int))).setCell ⟨g,1,none⟩ (.int .u64 (ob' : Int))).setCell ⟨g,2,none⟩ (.int .u64 (na' : Int))).setCell ⟨g,3,none⟩ (.int .u64 (nb' : Int))).setCell ⟨g,4,none⟩ (.int .i64 (s' : Int))).heap[g]?=some (eucO oa' ob' na' nb' s'):=by
 unfold eucO at h ⊢
 simp [World.setCell,Array.getElem?_modify,h]
theorem euc_set_other {W:World} {g k:Nat} (hk:k≠g) (a b c d e:Value) :
 (((((W.setCell ⟨g,0,none⟩ a).setCell ⟨g,1,none⟩ b).setCell ⟨g,2,none⟩ c).setCell ⟨g,3,none⟩ d).setCell ⟨g,4,none⟩ e).heap[k]?=W.heap[k]?:=by
 rw [Below.heap_setCell _ _ _ _ hk,Below.heap_setCell _ _ _ _ hk,Below.heap_setCell _ _ _ _ hk,Below.heap_setCell _ _ _ _ hk,Below.heap_setCell _ _ _ _ hk]
theorem euc_set_below {W0 W:World} {B g:Nat} (h:Below B W0 W) (hg:B≤g) (a b c d e:Value) :
 Below B W0 (((((W.setCell ⟨g,0,none⟩ a).setCell ⟨g,1,none⟩ b).setCell ⟨g,2,none⟩ c).setCell ⟨g,3,none⟩ d).setCell ⟨g,4,none⟩ e) :=
 ((((h.setCell hg _).setCell hg _).setCell hg _).setCell hg _).setCell hg _
theorem euc_results {W:World} {g oa ob na nb s:Nat} (fr:Array Value) (h:W.heap[g]?=some (eucO oa ob na nb s)) (hf:fr.getD 4 undef = .pointer (some ⟨g,0,none⟩)) :
 (results Tryz.f156 fr).run Tryz.prog W = .ok (eucV oa ob na nb s) W:=by
 obtain ⟨c0,c1,c2,c3,c4,z0,z1,z2,z3,z4⟩:=euc_cells h
 rw [Array.getD_eq_getD_getElem?] at hf
 simp [results,Tryz.results156,hf,go_sem,c0,c1,c2,c3,c4,eucV]
theorem kept_alloc_drew {W W5:World} (h:Below (W.alloc zeroE).drew.heap.size (W.alloc zeroE).drew W5):W5.heap[W.heap.size]?=some (eucO 0 0 0 0 0):=(h.block W.heap.size (by simp [World.drew])).trans (heap_alloc_new W _)
def Behind (W0 W:World) (gr gs gn oa ob na nb s na2 nb2 oa2 ob2 s2:Nat):Prop :=
 W.heap[gn]?=some (eucO oa2 ob2 na2 nb2 s2)∧W.heap[gs]?=some (eucO oa ob na nb s)∧W.heap[gr]?=some zeroE∧Below gr W0 W∧gn≠gs∧gn≠gr
theorem Behind.fresh {W0 wr X w5:World} {gr gs oa ob na nb s oa2 ob2:Nat} (hX:Below wr.heap.size wr X) (hb5:Below X.heap.size X w5) (hs:wr.heap[gs]?=some (eucO oa ob na nb s)) (hr:wr.heap[gr]?=some zeroE) (hb:Below gr W0 wr) :
 Behind W0 (w5.alloc (.cells #[.int .u64 (na:Int),.int .u64 (nb:Int),.int .u64 (oa2:Int),.int .u64 (ob2:Int),.int .i64 ((s:Int)+1)] 201)) gr gs w5.heap.size oa ob na nb s oa2 ob2 na nb (s+1):=by
 have h1:gs<wr.heap.size:=(Array.getElem?_eq_some_iff.1 hs).1
 have h2:gr<wr.heap.size:=(Array.getElem?_eq_some_iff.1 hr).1
 have h3:=hX.size
 have h4:=hb5.size
 refine ⟨?_,?_,?_,?_,by omega,by omega⟩
 ·have:=heap_alloc_new w5 (.cells #[.int .u64 (na:Int),.int .u64 (nb:Int),.int .u64 (oa2:Int),.int .u64 (ob2:Int),.int .i64 ((s:Int)+1)] 201)
  unfold eucO
  rw [Int.natCast_add,Int.natCast_one]
  exact this
 ·rw [Below.heap_alloc _ _ _ (by omega),hb5.block _ (by omega),hX.block _ h1];exact hs
 ·rw [Below.heap_alloc _ _ _ (by omega),hb5.block _ (by omega),hX.block _ h2];exact hr
 ·exact (hb.trans ((hX.mono (by omega)).trans (hb5.mono (by omega)))).alloc (by omega) _
theorem Behind.laid {W0 wr X w5:World} {gr gs oa ob na nb s oa2 ob2:Nat} (hX:Below wr.heap.size wr X) (hb5:Below X.heap.size X w5) (hk:w5.heap[wr.heap.size]?=some (eucO 0 0 0 0 0)) (hs:wr.heap[gs]?=some (eucO oa ob na nb s)) (hr:wr.heap[gr]?=some zeroE) (hb:Below gr W0 wr) :
 Behind W0 (((((w5.setCell ⟨wr.heap.size,0,none⟩ (.int .u64 (na:Int))).setCell ⟨wr.heap.size,1,none⟩ (.int .u64 (nb:Int))).setCell ⟨wr.heap.size,2,none⟩ (.int .u64 (oa2:Int))).setCell ⟨wr.heap.size,3,none⟩ (.int .u64 (ob2:Int))).setCell ⟨wr.heap.size,4,none⟩ (.int .i64 ((s:Int)+1)))
  gr gs wr.heap.size oa ob na nb s oa2 ob2 na nb (s+1):=by
 have h1:gs<wr.heap.size:=(Array.getElem?_eq_some_iff.1 hs).1
 have h2:gr<wr.heap.size:=(Array.getElem?_eq_some_iff.1 hr).1
 have h3:=hX.size
 have h4:=hb5.size
 refine ⟨?_,?_,?_,?_,by omega,by omega⟩
 ·have:=euc_set (oa':=na) (ob':=nb) (na':=oa2) (nb':=ob2) (s':=s+1) hk
  rw [Int.natCast_add,Int.natCast_one] at this
  exact this
 ·rw [euc_set_other (by omega),hb5.block _ (by omega),hX.block _ h1];exact hs
 ·rw [euc_set_other (by omega),hb5.block _ (by omega),hX.block _ h2];exact hr
 ·exact euc_set_below (hb.trans ((hX.mono (by omega)).trans (hb5.mono (by omega)))) (by omega) _ _ _ _ _
def SimRes (x0 y0:Nat) (e:Ending):Prop := ∃ oa ob na nb s x y:Nat,e = .returned (eucV oa ob na nb s)∧Pl.Steps x0 y0 x y oa ob na nb s∧Taken x y ob nb s
def SimB (x0 x y s:Nat):Prop:=x0<W64∧x≤x0∧y≤x∧s<4294967296
set_option maxHeartbeats 4000000 in
set_option maxRecDepth 100000 in
theorem simulate_eq (A:Option Addr) (n c:Nat) (xs:List Nat) (A' : Option Addr) (n' c' : Nat) (ys:List Nat) (sh x0 y0:Nat) (w:World) (h:Rd w A n c xs) (h' : Rd w A' n' c' ys)
 (hd:Dig W64 xs) (hd' : Dig W64 ys) (hn:2≤n) (hn' : 2≤n') (hle:n'≤n) (hnn:n'=n) (a1 a2 b1 b2 ah bh:Nat) (hs:sh≤63) (hbl:Hid ((64:Int)-Lib.bitLen a1=sh))
 (g1:xs[n-1]?=some a1) (g2:xs[n-2]?=some a2) (k1:n'=n→ys[n-1]?=some b1) (k2:n-1≤n'→ys[n-2]?=some b2)
 (e1:IntKind.u64.wrap ((a1:Int)*2^sh)=(ah:Int)) (e2:bits .or .u64 (ah:Int) ((a2:Int)/2^(64-sh))=(x0:Int))
 (e3:IntKind.u64.wrap ((b1:Int)*2^sh)=(bh:Int)) (e4:n'=n→bits .or .u64 (bh:Int) ((b2:Int)/2^(64-sh))=(y0:Int)) (e5:n'=n-1→(b2:Int)/2^(64-sh)=(y0:Int)) (e6:n'<n-1→y0=0)
 (hx0:x0<W64) (hy0:y0≤x0) :
 Calls Tryz.prog 156 #[.slice A n c,.slice A' n' c'] w fun e w' =>
  SimRes x0 y0 e∧Below w.heap.size w w':=by
 have hnc:n≤c:=h.cap
 have hcm:c≤9223372036854775807:=h.2.2.1
 have hnc' : n'≤c':=h'.cap
 have hcm' : c'≤9223372036854775807:=h'.2.2.1
 obtain ⟨ad,a1',hA,hal,ha1,hc1⟩:=h.at_ (k:=n-1) (by omega)
 obtain ⟨ad2,a2',hA2,_,ha2,hc2⟩:=h.at_ (k:=n-2) (by omega)
 obtain ⟨ad',hA',hal',hcb⟩:=h'.2.2.2 (by omega)
 subst hA
 injection hA2 with hA2
 subst hA2
 rw [g1] at ha1
 injection ha1 with ha1
 subst ha1
 rw [g2] at ha2
 injection ha2 with ha2
 subst ha2
 subst hA'
 have hab:a1≤18446744073709551615:=by have:=hd.at_ g1;have:=W64_eq;omega
 have cl:=Lib.hid (fun w=>Tryz.bits_LeadingZeros64 (a1:Int) w (by omega) (by omega))
 have HX:=Lib.hid (And.intro hd hd')
 have HC:=Lib.hid hcb
 have hx0' : (x0:Int)≤18446744073709551615:=by have:=W64_eq;omega
 have hq1:(ad.add (n-1)).block<w.heap.size:=by rw [block_add];exact hal
 have hq2:(ad.add (n-2)).block<w.heap.size:=by rw [block_add];exact hal
 have hq3:(ad'.add (n-1)).block<w.heap.size:=by rw [block_add];exact hal'
 have hq4:(ad'.add (n-2)).block<w.heap.size:=by rw [block_add];exact hal'
 clear h h' hd hd' hcb g1 g2 hab
 subst hnn
 have e4':=e4 rfl
 have hc3:=HC.out (n'-1) b1 (k1 rfl)
 have hc4:=HC.out (n'-2) b2 (k2 (by omega))
 have hb:y0≤x0:=hy0
 have HK:=Lib.hid (And.intro e6 (And.intro hx0 hy0))
 clear e4 e5 e6 k1 k2 hx0 hb hy0
 go_enter Tryz.func156,Tryz.ntmps156
 go_wp2_with (go_at_call 207;refine (cl.out _).mono ?_;rintro e w' ⟨rfl,hw⟩;rw [hw];rw [Int.toNat_natCast,hbl.out])
 go_quiet (fail)
 have hbW:Below w.heap.size w ((w.alloc zeroE).drewN nq):=drewN0 ((Below.refl _ _).alloc (Nat.le_refl _) _) _
 have hrW:((w.alloc zeroE).drewN nq).heap[w.heap.size]?=some zeroE:=heap_alloc_new w _
 unfold zeroE at hbW hrW
 have hc3':=(hbW.cell (p:=ad'.add (n'-1)) hq3).trans hc3
 have hc4':=(hbW.cell (p:=ad'.add (n'-2)) hq4).trans hc4
 have HW:=Lib.hid (And.intro hbW hrW)
 clear hbW hrW hc1 hc2 hc3 hc4 hq1 hq2 hq3 hq4
 generalize (w.alloc (.cells #[.int .u64 0,.int .u64 0,.int .u64 0,.int .u64 0,.int .i64 0] 201)).drewN nq=W2 at *
 go_wp2
 go_quiet (fail)
 have HW2:=Lib.hid (show Below w.heap.size w (W2.drewN nq)∧(W2.drewN nq).heap[w.heap.size]?=_ from ⟨drewN0 HW.out.1 _,HW.out.2⟩)
 clear HW hc3' hc4'
 generalize W2.drewN nq=W3 at *
 go_wp2
 obtain ⟨gr,hgr⟩:∃ gr,gr=w.heap.size:=⟨_,rfl⟩
 obtain ⟨gs,hgs⟩:∃ gs,gs=W3.heap.size:=⟨_,rfl⟩
 have hlt:gr<gs:=by rw [hgr,hgs];exact (Array.getElem?_eq_some_iff.1 HW2.out.2).1
 have hW4b:Below gr w (W3.alloc (.cells #[.int .u64 1,.int .u64 0,.int .u64 0,.int .u64 1,.int .i64 0] 201)):=by rw [hgr];exact HW2.out.1.alloc HW2.out.1.size _
 have hW4s:(W3.alloc (.cells #[.int .u64 1,.int .u64 0,.int .u64 0,.int .u64 1,.int .i64 0] 201)).heap[gs]?=some (.cells #[.int .u64 1,.int .u64 0,.int .u64 0,.int .u64 1,.int .i64 0] 201):=by rw [hgs];exact heap_alloc_new _ _
 have hW4r:(W3.alloc (.cells #[.int .u64 1,.int .u64 0,.int .u64 0,.int .u64 1,.int .i64 0] 201)).heap[gr]?=some zeroE:=by rw [hgr];exact (Below.heap_alloc W3 _ _ (by rw [← hgr,← hgs];exact hlt)).trans HW2.out.2
 have HW4:=Lib.hid (And.intro hW4b (And.intro hW4s hW4r))
 rw [← hgr,← hgs]
 clear hW4b hW4s hW4r HW2 hgs
 have HGR:=Lib.hid hgr
 clear hgr
 generalize W3.alloc (.cells #[.int .u64 1,.int .u64 0,.int .u64 0,.int .u64 1,.int .i64 0] 201)=W4 at *
 go_loopw [7,8] (fun p q wr => ∃ x y oa ob na nb s:Nat,p = .int .u64 (x:Int)∧q = .int .u64 (y:Int)∧Hid (Pl.Steps x0 y0 x y oa ob na nb s∧Taken x y ob nb s)∧SimB x0 x y s∧wr.heap[gs]?=some (eucO oa ob na nb s)∧wr.heap[gr]?=some zeroE∧Below gr w wr) (fun _ q _=>(intOf q).toNat)
 case atStart=>exact ⟨x0,y0,1,0,0,1,0,rfl,rfl,⟨Pl.Steps.start _ _ HK.out.2.2,fun h=>absurd h (by omega)⟩,⟨HK.out.2.1,Nat.le_refl _,HK.out.2.2,by omega⟩,HW4.out.2.1,HW4.out.2.2,HW4.out.1⟩
 case round =>
  obtain ⟨x,y,oa,ob,na,nb,s,rfl,rfl,hst,hsb,hbs,hbr,hbe⟩:=hrel
  obtain ⟨m1,m2,m3,m4⟩:=hsb
  obtain ⟨c0,c1,c2,c3,c4,z0,z1,z2,z3,z4⟩:=euc_cells hbs
  obtain ⟨d0,d1,d2,d3,d4,w0,w1,w2,w3,w4⟩:=euc_cells (zeroE_eq▸hbr)
  have hne:¬ gs=gr:=by omega
  have hne' : ¬ gr=gs:=by omega
  have hgsl:gs<wr.heap.size:=(Array.getElem?_eq_some_iff.1 hbs).1
  have hgrl:gr<wr.heap.size:=(Array.getElem?_eq_some_iff.1 hbr).1
  have HB:=Lib.hid (And.intro hbs (And.intro hbr hbe))
  clear hbs hbr hbe
  rcases Nat.eq_zero_or_pos y with rfl|hy
  ·simp only [Int.natCast_zero]
   go_wp2
   exact bodyPost_ret (v:=eucV oa ob na nb s) (euc_results _ (euc_set (zeroE_eq▸HB.out.2.1)) rfl) rfl ⟨⟨oa,ob,na,nb,s,x,0,rfl,hst.out.1,hst.out.2⟩,by rw [← HGR.out];exact euc_set_below HB.out.2.2 (Nat.le_refl _) _ _ _ _ _⟩
  ·have hs1:=hst.out.1.next hy
   obtain ⟨q,hq⟩:∃ q:Nat,q=x/y:=⟨_,rfl⟩
   obtain ⟨r,hr⟩:∃ r:Nat,r=x%y:=⟨_,rfl⟩
   rw [← hq,← hr] at hs1
   have f1:(x:Int).tdiv y=q:=by rw [hq,Int.tdiv_eq_ediv_of_nonneg (by omega),Int.natCast_ediv]
   have f2:(x:Int)/y=q:=by rw [hq,Int.natCast_ediv]
   have f3:(x:Int).tmod y=r:=by rw [hr,Int.tmod_eq_emod_of_nonneg (by omega),Int.natCast_emod]
   have f4:(x:Int)%y=r:=by rw [hr,Int.natCast_emod]
   have hry:r<y:=by rw [hr];exact Nat.mod_lt _ hy
   have hqx:q≤x:=by rw [hq];exact Nat.div_le_self _ _
   obtain ⟨oa2,hoa2⟩:∃ k:Nat,oa+q*na=k:=⟨_,rfl⟩
   obtain ⟨ob2,hob2⟩:∃ k:Nat,ob+q*nb=k:=⟨_,rfl⟩
   rw [hoa2,hob2] at hs1
   have l1:=hs1.na_le hy
   have l2:=hs1.nb_le hy
   have hy0x:=HK.out.2.2
   have cn:=Lib.hid (fun w=>next_any oa ob na nb s q oa2 ob2 w hoa2 hob2 (by omega) (by omega) m4)
   have HS1:=Lib.hid (And.intro hs1 (And.intro l1 l2))
   have hxi:(x:Int)≤18446744073709551615:=by omega
   have hyn:¬ ((y:Int)=0):=by omega
   have hy' : (0:Int)<y:=by omega
   have hqi:(q:Int)≤18446744073709551615:=by omega
   have hri:(r:Int)≤18446744073709551615:=by omega
   have HM:=Lib.hid (And.intro m1 (And.intro m2 (And.intro m3 m4)))
   clear hs1 l1 l2 hq hr hoa2 hob2 hy m1 m2 m3 m4 hy0x d0 d1 d2 d3 d4 w0 w1 w2 w3 w4 z0 z1 z2 z3 z4 hqx
   go_wp2
   go_region_with ((go_at_call 208;refine (cn.out _).mono ?_;rintro e w5 ⟨rfl,hb5⟩;first|(have hk0:=kept_alloc_drew hb5;obtain ⟨v0,v1,v2,v3,v4,x0',x1',x2',x3',x4'⟩:=euc_cells hk0)|(have hk0:=kept_alloc hb5;obtain ⟨v0,v1,v2,v3,v4,x0',x1',x2',x3',x4'⟩:=euc_cells hk0)|skip))
   all_goals first
    | (have hW:=Behind.fresh (W0:=w) (gr:=gr) (gs:=gs) (na:=na) (nb:=nb) (oa2:=oa2) (ob2:=ob2) (Below.refl _ _) hb5 HB.out.1 HB.out.2.1 HB.out.2.2
       have HW6:=Lib.hid hW
       generalize w5.alloc (.cells #[.int .u64 (na:Int),.int .u64 (nb:Int),.int .u64 (oa2:Int),.int .u64 (ob2:Int),.int .i64 ((s:Int)+1)] 201)=W6 at HW6 ⊢
       generalize w5.heap.size=gn at HW6 ⊢)
    | (have hW:=Behind.fresh (W0:=w) (gr:=gr) (gs:=gs) (na:=na) (nb:=nb) (oa2:=oa2) (ob2:=ob2) (Below.refl _ _).drew hb5 HB.out.1 HB.out.2.1 HB.out.2.2
       have HW6:=Lib.hid hW
       generalize w5.alloc (.cells #[.int .u64 (na:Int),.int .u64 (nb:Int),.int .u64 (oa2:Int),.int .u64 (ob2:Int),.int .i64 ((s:Int)+1)] 201)=W6 at HW6 ⊢
       generalize w5.heap.size=gn at HW6 ⊢)
    | (have hW:=Behind.laid (W0:=w) (gr:=gr) (gs:=gs) (na:=na) (nb:=nb) (oa2:=oa2) (ob2:=ob2) ((Below.refl _ _).alloc (Nat.le_refl _) _) hb5 hk0 HB.out.1 HB.out.2.1 HB.out.2.2
       have HW6:=Lib.hid hW
       generalize (((((w5.setCell ⟨wr.heap.size,0,none⟩ (.int .u64 (na:Int))).setCell ⟨wr.heap.size,1,none⟩ (.int .u64 (nb:Int))).setCell ⟨wr.heap.size,2,none⟩ (.int .u64 (oa2:Int))).setCell ⟨wr.heap.size,3,none⟩ (.int .u64 (ob2:Int))).setCell ⟨wr.heap.size,4,none⟩ (.int .i64 ((s:Int)+1)))=W6 at HW6 ⊢
       generalize wr.heap.size=gn at HW6 ⊢)
    | (have hW:=Behind.laid (W0:=w) (gr:=gr) (gs:=gs) (na:=na) (nb:=nb) (oa2:=oa2) (ob2:=ob2) ((Below.refl _ _).alloc (Nat.le_refl _) _).drew hb5 hk0 HB.out.1 HB.out.2.1 HB.out.2.2
       have HW6:=Lib.hid hW
       generalize (((((w5.setCell ⟨wr.heap.size,0,none⟩ (.int .u64 (na:Int))).setCell ⟨wr.heap.size,1,none⟩ (.int .u64 (nb:Int))).setCell ⟨wr.heap.size,2,none⟩ (.int .u64 (oa2:Int))).setCell ⟨wr.heap.size,3,none⟩ (.int .u64 (ob2:Int))).setCell ⟨wr.heap.size,4,none⟩ (.int .i64 ((s:Int)+1)))=W6 at HW6 ⊢
       generalize wr.heap.size=gn at HW6 ⊢)
   all_goals clear cn c0 c1 c2 c3 c4 hgsl hgrl hb5
   all_goals try clear hk0
   all_goals try clear v0 v1 v2 v3 v4 x0' x1' x2' x3' x4'
   all_goals
    go_wp2
    go_quiet (fail)
    have HW7:=Lib.hid (show Behind w (W6.drewN nq) gr gs gn oa ob na nb s oa2 ob2 na nb (s+1) from ⟨HW6.out.1,HW6.out.2.1,HW6.out.2.2.1,drewN0 HW6.out.2.2.2.1 _,HW6.out.2.2.2.2⟩)
    clear HW6
    generalize W6.drewN nq=W7 at HW7 ⊢
    obtain ⟨n0,n1,n2,n3,n4,p0,p1,p2,p3,p4⟩:=euc_cells HW7.out.1
    obtain ⟨c0,c1,c2,c3,c4,z0,z1,z2,z3,z4⟩:=euc_cells HW7.out.2.1
    obtain ⟨d0,d1,d2,d3,d4,w0,w1,w2,w3,w4⟩:=euc_cells (zeroE_eq▸HW7.out.2.2.1)
    have q1:¬ gn=gs:=HW7.out.2.2.2.2.1
    have q2:¬ gn=gr:=HW7.out.2.2.2.2.2
    have q3:¬ gs=gn:=fun h=>q1 h.symm
    have q4:¬ gr=gn:=fun h=>q2 h.symm
    have hsum:(nb:Int)+ob2≤18446744073709551615∨r<ob2:=by
     rcases Nat.lt_or_ge r ob2 with h|h
     ·exact .inr h
     ·have hrp:0<r:=Nat.lt_of_lt_of_le HS1.out.1.nb1 h
      have:=HS1.out.1.sum_le hrp
      have:=HM.out.1
      have:=W64_eq
      exact .inl (by omega)
    have hyr:(0:Int)≤(y:Int)-r:=by omega
    have hwr:IntKind.u64.wrap ((y:Int)-r)=(y:Int)-r:=by rw [IntKind.wrap_u64];have:=HM.out;have:=W64_eq;omega
    by_cases t1:r<ob2
    ·have t1' : (r:Int)<ob2:=by omega
     clear hsum t1
     go_wp2
     exact bodyPost_ret (v:=eucV oa ob na nb s) (euc_results _ (euc_set (zeroE_eq▸HW7.out.2.2.1)) rfl) rfl ⟨⟨oa,ob,na,nb,s,x,y,rfl,hst.out.1,hst.out.2⟩,by rw [← HGR.out];exact euc_set_below HW7.out.2.2.2.1 (Nat.le_refl _) _ _ _ _ _⟩
    ·have t1' : ¬ (r:Int)<ob2:=by omega
     have hsum' : (nb:Int)+ob2≤18446744073709551615:=by omega
     by_cases t2:(y:Int)-r<(nb:Int)+ob2
     ·clear hsum t1
      go_wp2
      exact bodyPost_ret (v:=eucV oa ob na nb s) (euc_results _ (euc_set (zeroE_eq▸HW7.out.2.2.1)) rfl) rfl ⟨⟨oa,ob,na,nb,s,x,y,rfl,hst.out.1,hst.out.2⟩,by rw [← HGR.out];exact euc_set_below HW7.out.2.2.2.1 (Nat.le_refl _) _ _ _ _ _⟩
     ·have htk:Taken y r nb ob2 (s+1):=fun _=>⟨by omega,by omega⟩
      have hsm:SimB x0 y r (s+1):=⟨HM.out.1,by have:=HM.out;omega,by omega,(SimOk.of_steps HS1.out.1 htk HM.out.1 HK.out.2.2 (K:=1) (α:=0) (β:=0) rfl rfl (by omega) (by omega)).1⟩
      have HT:=Lib.hid (And.intro htk hsm)
      have t3:decide ((y:Int)-r<(nb:Int)+ob2)=false:=by simp;omega
      have t4:(nb:Int)+ob2≤(y:Int)-r:=by omega
      clear hsum t1 htk hsm t2
      go_wp2
      go_roundw
      case rel=>exact ⟨y,r,na,nb,oa2,ob2,s+1,rfl,rfl,⟨HS1.out.1,HT.out.1⟩,HT.out.2,euc_set HW7.out.2.1,(euc_set_other hne' _ _ _ _ _).trans HW7.out.2.2.1,euc_set_below HW7.out.2.2.2.1 (Nat.le_of_lt hlt) _ _ _ _ _⟩
      case measure=>simp [intOf];omega
set_option maxHeartbeats 4000000 in
set_option maxRecDepth 100000 in
theorem simulate_one (A:Option Addr) (n c:Nat) (xs:List Nat) (A' : Option Addr) (n' c' : Nat) (ys:List Nat) (sh x0 y0:Nat) (w:World) (h:Rd w A n c xs) (h' : Rd w A' n' c' ys)
 (hd:Dig W64 xs) (hd' : Dig W64 ys) (hn:2≤n) (hn' : 2≤n') (hle:n'≤n) (hnn:n'=n-1) (a1 a2 b1 b2 ah bh:Nat) (hs:sh≤63) (hbl:Hid ((64:Int)-Lib.bitLen a1=sh))
 (g1:xs[n-1]?=some a1) (g2:xs[n-2]?=some a2) (k1:n'=n→ys[n-1]?=some b1) (k2:n-1≤n'→ys[n-2]?=some b2)
 (e1:IntKind.u64.wrap ((a1:Int)*2^sh)=(ah:Int)) (e2:bits .or .u64 (ah:Int) ((a2:Int)/2^(64-sh))=(x0:Int))
 (e3:IntKind.u64.wrap ((b1:Int)*2^sh)=(bh:Int)) (e4:n'=n→bits .or .u64 (bh:Int) ((b2:Int)/2^(64-sh))=(y0:Int)) (e5:n'=n-1→(b2:Int)/2^(64-sh)=(y0:Int)) (e6:n'<n-1→y0=0)
 (hx0:x0<W64) (hy0:y0≤x0) :
 Calls Tryz.prog 156 #[.slice A n c,.slice A' n' c'] w fun e w' =>
  SimRes x0 y0 e∧Below w.heap.size w w':=by
 have hnc:n≤c:=h.cap
 have hcm:c≤9223372036854775807:=h.2.2.1
 have hnc' : n'≤c':=h'.cap
 have hcm' : c'≤9223372036854775807:=h'.2.2.1
 obtain ⟨ad,a1',hA,hal,ha1,hc1⟩:=h.at_ (k:=n-1) (by omega)
 obtain ⟨ad2,a2',hA2,_,ha2,hc2⟩:=h.at_ (k:=n-2) (by omega)
 obtain ⟨ad',hA',hal',hcb⟩:=h'.2.2.2 (by omega)
 subst hA
 injection hA2 with hA2
 subst hA2
 rw [g1] at ha1
 injection ha1 with ha1
 subst ha1
 rw [g2] at ha2
 injection ha2 with ha2
 subst ha2
 subst hA'
 have hab:a1≤18446744073709551615:=by have:=hd.at_ g1;have:=W64_eq;omega
 have cl:=Lib.hid (fun w=>Tryz.bits_LeadingZeros64 (a1:Int) w (by omega) (by omega))
 have HX:=Lib.hid (And.intro hd hd')
 have HC:=Lib.hid hcb
 have hx0' : (x0:Int)≤18446744073709551615:=by have:=W64_eq;omega
 have hq1:(ad.add (n-1)).block<w.heap.size:=by rw [block_add];exact hal
 have hq2:(ad.add (n-2)).block<w.heap.size:=by rw [block_add];exact hal
 have hq3:(ad'.add (n-1)).block<w.heap.size:=by rw [block_add];exact hal'
 have hq4:(ad'.add (n-2)).block<w.heap.size:=by rw [block_add];exact hal'
 clear h h' hd hd' hcb g1 g2 hab
 have hnn2:¬ n'=n:=by omega
 have e5':=e5 hnn
 have hc4:=HC.out (n-2) b2 (k2 (by omega))
 have hsw1:((n' : Int)==n)=false:=by simp;omega
 have hsw2:((n' : Int)==(n:Int)-1)=true:=by simp;omega
 have HK:=Lib.hid (And.intro e6 (And.intro hx0 hy0))
 have hidx:n-2<n':=by omega
 clear e4 e5 e6 k1 k2 hx0 hy0 hnn hnn2
 go_enter Tryz.func156,Tryz.ntmps156
 go_wp2_with (go_at_call 207;refine (cl.out _).mono ?_;rintro e w' ⟨rfl,hw⟩;rw [hw];rw [Int.toNat_natCast,hbl.out])
 go_quiet (fail)
 have hbW:Below w.heap.size w ((w.alloc zeroE).drewN nq):=drewN0 ((Below.refl _ _).alloc (Nat.le_refl _) _) _
 have hrW:((w.alloc zeroE).drewN nq).heap[w.heap.size]?=some zeroE:=heap_alloc_new w _
 have hc4':=(hbW.cell (p:=ad'.add (n-2)) hq4).trans hc4
 unfold zeroE at hbW hrW hc4'
 have HW2:=Lib.hid (And.intro hbW hrW)
 clear hbW hrW hc1 hc2 hc4 hq1 hq2 hq3 hq4
 generalize (w.alloc (.cells #[.int .u64 0,.int .u64 0,.int .u64 0,.int .u64 0,.int .i64 0] 201)).drewN nq=W3 at *
 go_wp2
 obtain ⟨gr,hgr⟩:∃ gr,gr=w.heap.size:=⟨_,rfl⟩
 obtain ⟨gs,hgs⟩:∃ gs,gs=W3.heap.size:=⟨_,rfl⟩
 have hlt:gr<gs:=by rw [hgr,hgs];exact (Array.getElem?_eq_some_iff.1 HW2.out.2).1
 have hW4b:Below gr w (W3.alloc (.cells #[.int .u64 1,.int .u64 0,.int .u64 0,.int .u64 1,.int .i64 0] 201)):=by rw [hgr];exact HW2.out.1.alloc HW2.out.1.size _
 have hW4s:(W3.alloc (.cells #[.int .u64 1,.int .u64 0,.int .u64 0,.int .u64 1,.int .i64 0] 201)).heap[gs]?=some (.cells #[.int .u64 1,.int .u64 0,.int .u64 0,.int .u64 1,.int .i64 0] 201):=by rw [hgs];exact heap_alloc_new _ _
 have hW4r:(W3.alloc (.cells #[.int .u64 1,.int .u64 0,.int .u64 0,.int .u64 1,.int .i64 0] 201)).heap[gr]?=some zeroE:=by rw [hgr];exact (Below.heap_alloc W3 _ _ (by rw [← hgr,← hgs];exact hlt)).trans HW2.out.2
 have HW4:=Lib.hid (And.intro hW4b (And.intro hW4s hW4r))
 rw [← hgr,← hgs]
 clear hW4b hW4s hW4r HW2 hgs
 have HGR:=Lib.hid hgr
 clear hgr
 generalize W3.alloc (.cells #[.int .u64 1,.int .u64 0,.int .u64 0,.int .u64 1,.int .i64 0] 201)=W4 at *
 go_loopw [7,8] (fun p q wr => ∃ x y oa ob na nb s:Nat,p = .int .u64 (x:Int)∧q = .int .u64 (y:Int)∧Hid (Pl.Steps x0 y0 x y oa ob na nb s∧Taken x y ob nb s)∧SimB x0 x y s∧wr.heap[gs]?=some (eucO oa ob na nb s)∧wr.heap[gr]?=some zeroE∧Below gr w wr) (fun _ q _=>(intOf q).toNat)
 case atStart=>exact ⟨x0,y0,1,0,0,1,0,rfl,rfl,⟨Pl.Steps.start _ _ HK.out.2.2,fun h=>absurd h (by omega)⟩,⟨HK.out.2.1,Nat.le_refl _,HK.out.2.2,by omega⟩,HW4.out.2.1,HW4.out.2.2,HW4.out.1⟩
 case round =>
  obtain ⟨x,y,oa,ob,na,nb,s,rfl,rfl,hst,hsb,hbs,hbr,hbe⟩:=hrel
  obtain ⟨m1,m2,m3,m4⟩:=hsb
  obtain ⟨c0,c1,c2,c3,c4,z0,z1,z2,z3,z4⟩:=euc_cells hbs
  obtain ⟨d0,d1,d2,d3,d4,w0,w1,w2,w3,w4⟩:=euc_cells (zeroE_eq▸hbr)
  have hne:¬ gs=gr:=by omega
  have hne' : ¬ gr=gs:=by omega
  have hgsl:gs<wr.heap.size:=(Array.getElem?_eq_some_iff.1 hbs).1
  have hgrl:gr<wr.heap.size:=(Array.getElem?_eq_some_iff.1 hbr).1
  have HB:=Lib.hid (And.intro hbs (And.intro hbr hbe))
  clear hbs hbr hbe
  rcases Nat.eq_zero_or_pos y with rfl|hy
  ·simp only [Int.natCast_zero]
   go_wp2
   exact bodyPost_ret (v:=eucV oa ob na nb s) (euc_results _ (euc_set (zeroE_eq▸HB.out.2.1)) rfl) rfl ⟨⟨oa,ob,na,nb,s,x,0,rfl,hst.out.1,hst.out.2⟩,by rw [← HGR.out];exact euc_set_below HB.out.2.2 (Nat.le_refl _) _ _ _ _ _⟩
  ·have hs1:=hst.out.1.next hy
   obtain ⟨q,hq⟩:∃ q:Nat,q=x/y:=⟨_,rfl⟩
   obtain ⟨r,hr⟩:∃ r:Nat,r=x%y:=⟨_,rfl⟩
   rw [← hq,← hr] at hs1
   have f1:(x:Int).tdiv y=q:=by rw [hq,Int.tdiv_eq_ediv_of_nonneg (by omega),Int.natCast_ediv]
   have f2:(x:Int)/y=q:=by rw [hq,Int.natCast_ediv]
   have f3:(x:Int).tmod y=r:=by rw [hr,Int.tmod_eq_emod_of_nonneg (by omega),Int.natCast_emod]
   have f4:(x:Int)%y=r:=by rw [hr,Int.natCast_emod]
   have hry:r<y:=by rw [hr];exact Nat.mod_lt _ hy
   have hqx:q≤x:=by rw [hq];exact Nat.div_le_self _ _
   obtain ⟨oa2,hoa2⟩:∃ k:Nat,oa+q*na=k:=⟨_,rfl⟩
   obtain ⟨ob2,hob2⟩:∃ k:Nat,ob+q*nb=k:=⟨_,rfl⟩
   rw [hoa2,hob2] at hs1
   have l1:=hs1.na_le hy
   have l2:=hs1.nb_le hy
   have hy0x:=HK.out.2.2
   have cn:=Lib.hid (fun w=>next_any oa ob na nb s q oa2 ob2 w hoa2 hob2 (by omega) (by omega) m4)
   have HS1:=Lib.hid (And.intro hs1 (And.intro l1 l2))
   have hxi:(x:Int)≤18446744073709551615:=by omega
   have hyn:¬ ((y:Int)=0):=by omega
   have hy' : (0:Int)<y:=by omega
   have hqi:(q:Int)≤18446744073709551615:=by omega
   have hri:(r:Int)≤18446744073709551615:=by omega
   have HM:=Lib.hid (And.intro m1 (And.intro m2 (And.intro m3 m4)))
   clear hs1 l1 l2 hq hr hoa2 hob2 hy m1 m2 m3 m4 hy0x d0 d1 d2 d3 d4 w0 w1 w2 w3 w4 z0 z1 z2 z3 z4 hqx
   go_wp2
   go_region_with ((go_at_call 208;refine (cn.out _).mono ?_;rintro e w5 ⟨rfl,hb5⟩;first|(have hk0:=kept_alloc_drew hb5;obtain ⟨v0,v1,v2,v3,v4,x0',x1',x2',x3',x4'⟩:=euc_cells hk0)|(have hk0:=kept_alloc hb5;obtain ⟨v0,v1,v2,v3,v4,x0',x1',x2',x3',x4'⟩:=euc_cells hk0)|skip))
   all_goals first
    | (have hW:=Behind.fresh (W0:=w) (gr:=gr) (gs:=gs) (na:=na) (nb:=nb) (oa2:=oa2) (ob2:=ob2) (Below.refl _ _) hb5 HB.out.1 HB.out.2.1 HB.out.2.2
       have HW6:=Lib.hid hW
       generalize w5.alloc (.cells #[.int .u64 (na:Int),.int .u64 (nb:Int),.int .u64 (oa2:Int),.int .u64 (ob2:Int),.int .i64 ((s:Int)+1)] 201)=W6 at HW6 ⊢
       generalize w5.heap.size=gn at HW6 ⊢)
    | (have hW:=Behind.fresh (W0:=w) (gr:=gr) (gs:=gs) (na:=na) (nb:=nb) (oa2:=oa2) (ob2:=ob2) (Below.refl _ _).drew hb5 HB.out.1 HB.out.2.1 HB.out.2.2
       have HW6:=Lib.hid hW
       generalize w5.alloc (.cells #[.int .u64 (na:Int),.int .u64 (nb:Int),.int .u64 (oa2:Int),.int .u64 (ob2:Int),.int .i64 ((s:Int)+1)] 201)=W6 at HW6 ⊢
       generalize w5.heap.size=gn at HW6 ⊢)
    | (have hW:=Behind.laid (W0:=w) (gr:=gr) (gs:=gs) (na:=na) (nb:=nb) (oa2:=oa2) (ob2:=ob2) ((Below.refl _ _).alloc (Nat.le_refl _) _) hb5 hk0 HB.out.1 HB.out.2.1 HB.out.2.2
       have HW6:=Lib.hid hW
       generalize (((((w5.setCell ⟨wr.heap.size,0,none⟩ (.int .u64 (na:Int))).setCell ⟨wr.heap.size,1,none⟩ (.int .u64 (nb:Int))).setCell ⟨wr.heap.size,2,none⟩ (.int .u64 (oa2:Int))).setCell ⟨wr.heap.size,3,none⟩ (.int .u64 (ob2:Int))).setCell ⟨wr.heap.size,4,none⟩ (.int .i64 ((s:Int)+1)))=W6 at HW6 ⊢
       generalize wr.heap.size=gn at HW6 ⊢)
    | (have hW:=Behind.laid (W0:=w) (gr:=gr) (gs:=gs) (na:=na) (nb:=nb) (oa2:=oa2) (ob2:=ob2) ((Below.refl _ _).alloc (Nat.le_refl _) _).drew hb5 hk0 HB.out.1 HB.out.2.1 HB.out.2.2
       have HW6:=Lib.hid hW
       generalize (((((w5.setCell ⟨wr.heap.size,0,none⟩ (.int .u64 (na:Int))).setCell ⟨wr.heap.size,1,none⟩ (.int .u64 (nb:Int))).setCell ⟨wr.heap.size,2,none⟩ (.int .u64 (oa2:Int))).setCell ⟨wr.heap.size,3,none⟩ (.int .u64 (ob2:Int))).setCell ⟨wr.heap.size,4,none⟩ (.int .i64 ((s:Int)+1)))=W6 at HW6 ⊢
       generalize wr.heap.size=gn at HW6 ⊢)
   all_goals clear cn c0 c1 c2 c3 c4 hgsl hgrl hb5
   all_goals try clear hk0
   all_goals try clear v0 v1 v2 v3 v4 x0' x1' x2' x3' x4'
   all_goals
    go_wp2
    go_quiet (fail)
    have HW7:=Lib.hid (show Behind w (W6.drewN nq) gr gs gn oa ob na nb s oa2 ob2 na nb (s+1) from ⟨HW6.out.1,HW6.out.2.1,HW6.out.2.2.1,drewN0 HW6.out.2.2.2.1 _,HW6.out.2.2.2.2⟩)
    clear HW6
    generalize W6.drewN nq=W7 at HW7 ⊢
    obtain ⟨n0,n1,n2,n3,n4,p0,p1,p2,p3,p4⟩:=euc_cells HW7.out.1
    obtain ⟨c0,c1,c2,c3,c4,z0,z1,z2,z3,z4⟩:=euc_cells HW7.out.2.1
    obtain ⟨d0,d1,d2,d3,d4,w0,w1,w2,w3,w4⟩:=euc_cells (zeroE_eq▸HW7.out.2.2.1)
    have q1:¬ gn=gs:=HW7.out.2.2.2.2.1
    have q2:¬ gn=gr:=HW7.out.2.2.2.2.2
    have q3:¬ gs=gn:=fun h=>q1 h.symm
    have q4:¬ gr=gn:=fun h=>q2 h.symm
    have hsum:(nb:Int)+ob2≤18446744073709551615∨r<ob2:=by
     rcases Nat.lt_or_ge r ob2 with h|h
     ·exact .inr h
     ·have hrp:0<r:=Nat.lt_of_lt_of_le HS1.out.1.nb1 h
      have:=HS1.out.1.sum_le hrp
      have:=HM.out.1
      have:=W64_eq
      exact .inl (by omega)
    have hyr:(0:Int)≤(y:Int)-r:=by omega
    have hwr:IntKind.u64.wrap ((y:Int)-r)=(y:Int)-r:=by rw [IntKind.wrap_u64];have:=HM.out;have:=W64_eq;omega
    by_cases t1:r<ob2
    ·have t1' : (r:Int)<ob2:=by omega
     clear hsum t1
     go_wp2
     exact bodyPost_ret (v:=eucV oa ob na nb s) (euc_results _ (euc_set (zeroE_eq▸HW7.out.2.2.1)) rfl) rfl ⟨⟨oa,ob,na,nb,s,x,y,rfl,hst.out.1,hst.out.2⟩,by rw [← HGR.out];exact euc_set_below HW7.out.2.2.2.1 (Nat.le_refl _) _ _ _ _ _⟩
    ·have t1' : ¬ (r:Int)<ob2:=by omega
     have hsum' : (nb:Int)+ob2≤18446744073709551615:=by omega
     by_cases t2:(y:Int)-r<(nb:Int)+ob2
     ·clear hsum t1
      go_wp2
      exact bodyPost_ret (v:=eucV oa ob na nb s) (euc_results _ (euc_set (zeroE_eq▸HW7.out.2.2.1)) rfl) rfl ⟨⟨oa,ob,na,nb,s,x,y,rfl,hst.out.1,hst.out.2⟩,by rw [← HGR.out];exact euc_set_below HW7.out.2.2.2.1 (Nat.le_refl _) _ _ _ _ _⟩
     ·have htk:Taken y r nb ob2 (s+1):=fun _=>⟨by omega,by omega⟩
      have hsm:SimB x0 y r (s+1):=⟨HM.out.1,by have:=HM.out;omega,by omega,(SimOk.of_steps HS1.out.1 htk HM.out.1 HK.out.2.2 (K:=1) (α:=0) (β:=0) rfl rfl (by omega) (by omega)).1⟩
      have HT:=Lib.hid (And.intro htk hsm)
      have t3:decide ((y:Int)-r<(nb:Int)+ob2)=false:=by simp;omega
      have t4:(nb:Int)+ob2≤(y:Int)-r:=by omega
      clear hsum t1 htk hsm t2
      go_wp2
      go_roundw
      case rel=>exact ⟨y,r,na,nb,oa2,ob2,s+1,rfl,rfl,⟨HS1.out.1,HT.out.1⟩,HT.out.2,euc_set HW7.out.2.1,(euc_set_other hne' _ _ _ _ _).trans HW7.out.2.2.1,euc_set_below HW7.out.2.2.2.1 (Nat.le_of_lt hlt) _ _ _ _ _⟩
      case measure=>simp [intOf];omega
set_option maxHeartbeats 4000000 in
set_option maxRecDepth 100000 in
theorem simulate_none (A:Option Addr) (n c:Nat) (xs:List Nat) (A' : Option Addr) (n' c' : Nat) (ys:List Nat) (sh x0 y0:Nat) (w:World) (h:Rd w A n c xs) (h' : Rd w A' n' c' ys)
 (hd:Dig W64 xs) (hd' : Dig W64 ys) (hn:2≤n) (hn' : 2≤n') (hle:n'≤n) (hnn:n'<n-1) (a1 a2 b1 b2 ah bh:Nat) (hs:sh≤63) (hbl:Hid ((64:Int)-Lib.bitLen a1=sh))
 (g1:xs[n-1]?=some a1) (g2:xs[n-2]?=some a2) (k1:n'=n→ys[n-1]?=some b1) (k2:n-1≤n'→ys[n-2]?=some b2)
 (e1:IntKind.u64.wrap ((a1:Int)*2^sh)=(ah:Int)) (e2:bits .or .u64 (ah:Int) ((a2:Int)/2^(64-sh))=(x0:Int))
 (e3:IntKind.u64.wrap ((b1:Int)*2^sh)=(bh:Int)) (e4:n'=n→bits .or .u64 (bh:Int) ((b2:Int)/2^(64-sh))=(y0:Int)) (e5:n'=n-1→(b2:Int)/2^(64-sh)=(y0:Int)) (e6:n'<n-1→y0=0)
 (hx0:x0<W64) (hy0:y0≤x0) :
 Calls Tryz.prog 156 #[.slice A n c,.slice A' n' c'] w fun e w' =>
  SimRes x0 y0 e∧Below w.heap.size w w':=by
 have hnc:n≤c:=h.cap
 have hcm:c≤9223372036854775807:=h.2.2.1
 have hnc' : n'≤c':=h'.cap
 have hcm' : c'≤9223372036854775807:=h'.2.2.1
 obtain ⟨ad,a1',hA,hal,ha1,hc1⟩:=h.at_ (k:=n-1) (by omega)
 obtain ⟨ad2,a2',hA2,_,ha2,hc2⟩:=h.at_ (k:=n-2) (by omega)
 obtain ⟨ad',hA',hal',hcb⟩:=h'.2.2.2 (by omega)
 subst hA
 injection hA2 with hA2
 subst hA2
 rw [g1] at ha1
 injection ha1 with ha1
 subst ha1
 rw [g2] at ha2
 injection ha2 with ha2
 subst ha2
 subst hA'
 have hab:a1≤18446744073709551615:=by have:=hd.at_ g1;have:=W64_eq;omega
 have cl:=Lib.hid (fun w=>Tryz.bits_LeadingZeros64 (a1:Int) w (by omega) (by omega))
 have HX:=Lib.hid (And.intro hd hd')
 have HC:=Lib.hid hcb
 have hx0' : (x0:Int)≤18446744073709551615:=by have:=W64_eq;omega
 have hq1:(ad.add (n-1)).block<w.heap.size:=by rw [block_add];exact hal
 have hq2:(ad.add (n-2)).block<w.heap.size:=by rw [block_add];exact hal
 have hq3:(ad'.add (n-1)).block<w.heap.size:=by rw [block_add];exact hal'
 have hq4:(ad'.add (n-2)).block<w.heap.size:=by rw [block_add];exact hal'
 clear h h' hd hd' hcb g1 g2 hab
 have hsw1:((n' : Int)==n)=false:=by simp;omega
 have hsw2:((n' : Int)==(n:Int)-1)=false:=by simp;omega
 have HY0:=Lib.hid (e6 hnn)
 have HK:=Lib.hid (And.intro e6 (And.intro hx0 hy0))
 clear e4 e5 e6 k1 k2 hx0 hy0 hnn
 go_enter Tryz.func156,Tryz.ntmps156
 go_wp2_with (go_at_call 207;refine (cl.out _).mono ?_;rintro e w' ⟨rfl,hw⟩;rw [hw];rw [Int.toNat_natCast,hbl.out])
 go_quiet (fail)
 have hbW:Below w.heap.size w ((w.alloc zeroE).drewN nq):=drewN0 ((Below.refl _ _).alloc (Nat.le_refl _) _) _
 have hrW:((w.alloc zeroE).drewN nq).heap[w.heap.size]?=some zeroE:=heap_alloc_new w _
 unfold zeroE at hbW hrW
 have HW2:=Lib.hid (And.intro hbW hrW)
 clear hbW hrW hc1 hc2 hq1 hq2 hq3 hq4
 generalize (w.alloc (.cells #[.int .u64 0,.int .u64 0,.int .u64 0,.int .u64 0,.int .i64 0] 201)).drewN nq=W3 at *
 go_wp2
 obtain ⟨gr,hgr⟩:∃ gr,gr=w.heap.size:=⟨_,rfl⟩
 obtain ⟨gs,hgs⟩:∃ gs,gs=W3.heap.size:=⟨_,rfl⟩
 have hlt:gr<gs:=by rw [hgr,hgs];exact (Array.getElem?_eq_some_iff.1 HW2.out.2).1
 have hW4b:Below gr w (W3.alloc (.cells #[.int .u64 1,.int .u64 0,.int .u64 0,.int .u64 1,.int .i64 0] 201)):=by rw [hgr];exact HW2.out.1.alloc HW2.out.1.size _
 have hW4s:(W3.alloc (.cells #[.int .u64 1,.int .u64 0,.int .u64 0,.int .u64 1,.int .i64 0] 201)).heap[gs]?=some (.cells #[.int .u64 1,.int .u64 0,.int .u64 0,.int .u64 1,.int .i64 0] 201):=by rw [hgs];exact heap_alloc_new _ _
 have hW4r:(W3.alloc (.cells #[.int .u64 1,.int .u64 0,.int .u64 0,.int .u64 1,.int .i64 0] 201)).heap[gr]?=some zeroE:=by rw [hgr];exact (Below.heap_alloc W3 _ _ (by rw [← hgr,← hgs];exact hlt)).trans HW2.out.2
 have HW4:=Lib.hid (And.intro hW4b (And.intro hW4s hW4r))
 rw [← hgr,← hgs]
 clear hW4b hW4s hW4r HW2 hgs
 have HGR:=Lib.hid hgr
 clear hgr
 generalize W3.alloc (.cells #[.int .u64 1,.int .u64 0,.int .u64 0,.int .u64 1,.int .i64 0] 201)=W4 at *
 go_loopw [7,8] (fun p q wr => ∃ x y oa ob na nb s:Nat,p = .int .u64 (x:Int)∧q = .int .u64 (y:Int)∧Hid (Pl.Steps x0 y0 x y oa ob na nb s∧Taken x y ob nb s)∧SimB x0 x y s∧wr.heap[gs]?=some (eucO oa ob na nb s)∧wr.heap[gr]?=some zeroE∧Below gr w wr) (fun _ q _=>(intOf q).toNat)
 case atStart=>exact ⟨x0,y0,1,0,0,1,0,rfl,(by rw [HY0.out];rfl),⟨Pl.Steps.start _ _ HK.out.2.2,fun h=>absurd h (by omega)⟩,⟨HK.out.2.1,Nat.le_refl _,HK.out.2.2,by omega⟩,HW4.out.2.1,HW4.out.2.2,HW4.out.1⟩
 case round =>
  obtain ⟨x,y,oa,ob,na,nb,s,rfl,rfl,hst,hsb,hbs,hbr,hbe⟩:=hrel
  obtain ⟨m1,m2,m3,m4⟩:=hsb
  obtain ⟨c0,c1,c2,c3,c4,z0,z1,z2,z3,z4⟩:=euc_cells hbs
  obtain ⟨d0,d1,d2,d3,d4,w0,w1,w2,w3,w4⟩:=euc_cells (zeroE_eq▸hbr)
  have hne:¬ gs=gr:=by omega
  have hne' : ¬ gr=gs:=by omega
  have hgsl:gs<wr.heap.size:=(Array.getElem?_eq_some_iff.1 hbs).1
  have hgrl:gr<wr.heap.size:=(Array.getElem?_eq_some_iff.1 hbr).1
  have HB:=Lib.hid (And.intro hbs (And.intro hbr hbe))
  clear hbs hbr hbe
  rcases Nat.eq_zero_or_pos y with rfl|hy
  ·simp only [Int.natCast_zero]
   go_wp2
   exact bodyPost_ret (v:=eucV oa ob na nb s) (euc_results _ (euc_set (zeroE_eq▸HB.out.2.1)) rfl) rfl ⟨⟨oa,ob,na,nb,s,x,0,rfl,hst.out.1,hst.out.2⟩,by rw [← HGR.out];exact euc_set_below HB.out.2.2 (Nat.le_refl _) _ _ _ _ _⟩
  ·have hs1:=hst.out.1.next hy
   obtain ⟨q,hq⟩:∃ q:Nat,q=x/y:=⟨_,rfl⟩
   obtain ⟨r,hr⟩:∃ r:Nat,r=x%y:=⟨_,rfl⟩
   rw [← hq,← hr] at hs1
   have f1:(x:Int).tdiv y=q:=by rw [hq,Int.tdiv_eq_ediv_of_nonneg (by omega),Int.natCast_ediv]
   have f2:(x:Int)/y=q:=by rw [hq,Int.natCast_ediv]
   have f3:(x:Int).tmod y=r:=by rw [hr,Int.tmod_eq_emod_of_nonneg (by omega),Int.natCast_emod]
   have f4:(x:Int)%y=r:=by rw [hr,Int.natCast_emod]
   have hry:r<y:=by rw [hr];exact Nat.mod_lt _ hy
   have hqx:q≤x:=by rw [hq];exact Nat.div_le_self _ _
   obtain ⟨oa2,hoa2⟩:∃ k:Nat,oa+q*na=k:=⟨_,rfl⟩
   obtain ⟨ob2,hob2⟩:∃ k:Nat,ob+q*nb=k:=⟨_,rfl⟩
   rw [hoa2,hob2] at hs1
   have l1:=hs1.na_le hy
   have l2:=hs1.nb_le hy
   have hy0x:=HK.out.2.2
   have cn:=Lib.hid (fun w=>next_any oa ob na nb s q oa2 ob2 w hoa2 hob2 (by omega) (by omega) m4)
   have HS1:=Lib.hid (And.intro hs1 (And.intro l1 l2))
   have hxi:(x:Int)≤18446744073709551615:=by omega
   have hyn:¬ ((y:Int)=0):=by omega
   have hy' : (0:Int)<y:=by omega
   have hqi:(q:Int)≤18446744073709551615:=by omega
   have hri:(r:Int)≤18446744073709551615:=by omega
   have HM:=Lib.hid (And.intro m1 (And.intro m2 (And.intro m3 m4)))
   clear hs1 l1 l2 hq hr hoa2 hob2 hy m1 m2 m3 m4 hy0x d0 d1 d2 d3 d4 w0 w1 w2 w3 w4 z0 z1 z2 z3 z4 hqx
   go_wp2
   go_region_with ((go_at_call 208;refine (cn.out _).mono ?_;rintro e w5 ⟨rfl,hb5⟩;first|(have hk0:=kept_alloc_drew hb5;obtain ⟨v0,v1,v2,v3,v4,x0',x1',x2',x3',x4'⟩:=euc_cells hk0)|(have hk0:=kept_alloc hb5;obtain ⟨v0,v1,v2,v3,v4,x0',x1',x2',x3',x4'⟩:=euc_cells hk0)|skip))
   all_goals first
    | (have hW:=Behind.fresh (W0:=w) (gr:=gr) (gs:=gs) (na:=na) (nb:=nb) (oa2:=oa2) (ob2:=ob2) (Below.refl _ _) hb5 HB.out.1 HB.out.2.1 HB.out.2.2
       have HW6:=Lib.hid hW
       generalize w5.alloc (.cells #[.int .u64 (na:Int),.int .u64 (nb:Int),.int .u64 (oa2:Int),.int .u64 (ob2:Int),.int .i64 ((s:Int)+1)] 201)=W6 at HW6 ⊢
       generalize w5.heap.size=gn at HW6 ⊢)
    | (have hW:=Behind.fresh (W0:=w) (gr:=gr) (gs:=gs) (na:=na) (nb:=nb) (oa2:=oa2) (ob2:=ob2) (Below.refl _ _).drew hb5 HB.out.1 HB.out.2.1 HB.out.2.2
       have HW6:=Lib.hid hW
       generalize w5.alloc (.cells #[.int .u64 (na:Int),.int .u64 (nb:Int),.int .u64 (oa2:Int),.int .u64 (ob2:Int),.int .i64 ((s:Int)+1)] 201)=W6 at HW6 ⊢
       generalize w5.heap.size=gn at HW6 ⊢)
    | (have hW:=Behind.laid (W0:=w) (gr:=gr) (gs:=gs) (na:=na) (nb:=nb) (oa2:=oa2) (ob2:=ob2) ((Below.refl _ _).alloc (Nat.le_refl _) _) hb5 hk0 HB.out.1 HB.out.2.1 HB.out.2.2
       have HW6:=Lib.hid hW
       generalize (((((w5.setCell ⟨wr.heap.size,0,none⟩ (.int .u64 (na:Int))).setCell ⟨wr.heap.size,1,none⟩ (.int .u64 (nb:Int))).setCell ⟨wr.heap.size,2,none⟩ (.int .u64 (oa2:Int))).setCell ⟨wr.heap.size,3,none⟩ (.int .u64 (ob2:Int))).setCell ⟨wr.heap.size,4,none⟩ (.int .i64 ((s:Int)+1)))=W6 at HW6 ⊢
       generalize wr.heap.size=gn at HW6 ⊢)
    | (have hW:=Behind.laid (W0:=w) (gr:=gr) (gs:=gs) (na:=na) (nb:=nb) (oa2:=oa2) (ob2:=ob2) ((Below.refl _ _).alloc (Nat.le_refl _) _).drew hb5 hk0 HB.out.1 HB.out.2.1 HB.out.2.2
       have HW6:=Lib.hid hW
       generalize (((((w5.setCell ⟨wr.heap.size,0,none⟩ (.int .u64 (na:Int))).setCell ⟨wr.heap.size,1,none⟩ (.int .u64 (nb:Int))).setCell ⟨wr.heap.size,2,none⟩ (.int .u64 (oa2:Int))).setCell ⟨wr.heap.size,3,none⟩ (.int .u64 (ob2:Int))).setCell ⟨wr.heap.size,4,none⟩ (.int .i64 ((s:Int)+1)))=W6 at HW6 ⊢
       generalize wr.heap.size=gn at HW6 ⊢)
   all_goals clear cn c0 c1 c2 c3 c4 hgsl hgrl hb5
   all_goals try clear hk0
   all_goals try clear v0 v1 v2 v3 v4 x0' x1' x2' x3' x4'
   all_goals
    go_wp2
    go_quiet (fail)
    have HW7:=Lib.hid (show Behind w (W6.drewN nq) gr gs gn oa ob na nb s oa2 ob2 na nb (s+1) from ⟨HW6.out.1,HW6.out.2.1,HW6.out.2.2.1,drewN0 HW6.out.2.2.2.1 _,HW6.out.2.2.2.2⟩)
    clear HW6
    generalize W6.drewN nq=W7 at HW7 ⊢
    obtain ⟨n0,n1,n2,n3,n4,p0,p1,p2,p3,p4⟩:=euc_cells HW7.out.1
    obtain ⟨c0,c1,c2,c3,c4,z0,z1,z2,z3,z4⟩:=euc_cells HW7.out.2.1
    obtain ⟨d0,d1,d2,d3,d4,w0,w1,w2,w3,w4⟩:=euc_cells (zeroE_eq▸HW7.out.2.2.1)
    have q1:¬ gn=gs:=HW7.out.2.2.2.2.1
    have q2:¬ gn=gr:=HW7.out.2.2.2.2.2
    have q3:¬ gs=gn:=fun h=>q1 h.symm
    have q4:¬ gr=gn:=fun h=>q2 h.symm
    have hsum:(nb:Int)+ob2≤18446744073709551615∨r<ob2:=by
     rcases Nat.lt_or_ge r ob2 with h|h
     ·exact .inr h
     ·have hrp:0<r:=Nat.lt_of_lt_of_le HS1.out.1.nb1 h
      have:=HS1.out.1.sum_le hrp
      have:=HM.out.1
      have:=W64_eq
      exact .inl (by omega)
    have hyr:(0:Int)≤(y:Int)-r:=by omega
    have hwr:IntKind.u64.wrap ((y:Int)-r)=(y:Int)-r:=by rw [IntKind.wrap_u64];have:=HM.out;have:=W64_eq;omega
    by_cases t1:r<ob2
    ·have t1' : (r:Int)<ob2:=by omega
     clear hsum t1
     go_wp2
     exact bodyPost_ret (v:=eucV oa ob na nb s) (euc_results _ (euc_set (zeroE_eq▸HW7.out.2.2.1)) rfl) rfl ⟨⟨oa,ob,na,nb,s,x,y,rfl,hst.out.1,hst.out.2⟩,by rw [← HGR.out];exact euc_set_below HW7.out.2.2.2.1 (Nat.le_refl _) _ _ _ _ _⟩
    ·have t1' : ¬ (r:Int)<ob2:=by omega
     have hsum' : (nb:Int)+ob2≤18446744073709551615:=by omega
     by_cases t2:(y:Int)-r<(nb:Int)+ob2
     ·clear hsum t1
      go_wp2
      exact bodyPost_ret (v:=eucV oa ob na nb s) (euc_results _ (euc_set (zeroE_eq▸HW7.out.2.2.1)) rfl) rfl ⟨⟨oa,ob,na,nb,s,x,y,rfl,hst.out.1,hst.out.2⟩,by rw [← HGR.out];exact euc_set_below HW7.out.2.2.2.1 (Nat.le_refl _) _ _ _ _ _⟩
     ·have htk:Taken y r nb ob2 (s+1):=fun _=>⟨by omega,by omega⟩
      have hsm:SimB x0 y r (s+1):=⟨HM.out.1,by have:=HM.out;omega,by omega,(SimOk.of_steps HS1.out.1 htk HM.out.1 HK.out.2.2 (K:=1) (α:=0) (β:=0) rfl rfl (by omega) (by omega)).1⟩
      have HT:=Lib.hid (And.intro htk hsm)
      have t3:decide ((y:Int)-r<(nb:Int)+ob2)=false:=by simp;omega
      have t4:(nb:Int)+ob2≤(y:Int)-r:=by omega
      clear hsum t1 htk hsm t2
      go_wp2
      go_roundw
      case rel=>exact ⟨y,r,na,nb,oa2,ob2,s+1,rfl,rfl,⟨HS1.out.1,HT.out.1⟩,HT.out.2,euc_set HW7.out.2.1,(euc_set_other hne' _ _ _ _ _).trans HW7.out.2.2.1,euc_set_below HW7.out.2.2.2.1 (Nat.le_of_lt hlt) _ _ _ _ _⟩
      case measure=>simp [intOf];omega
end Go.Proofs.YtbhcckhbbclemaaGreatDoor
