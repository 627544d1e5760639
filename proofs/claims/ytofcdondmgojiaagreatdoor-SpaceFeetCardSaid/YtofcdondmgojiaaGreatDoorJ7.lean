/- Parts of the proof, joined. -/
import Derived.Test.YtofcdondmgojiaaGreatDoorJ6
import Derived.Test.YtofcdondmgojiaaGreatDoorJ1
import Derived.Deep.LoopGhost
import Derived.Test.YtofcdondmgojiaaGreatDoorJ0
import Derived.Lib.SmallJoins
import Derived.Test.YtofcdondmgojiaaGreatDoorJ5
set_option linter.unusedSimpArgs false
set_option linter.unusedVariables false
namespace Go.Proofs.YtofcdondmgojiaaGreatDoor
open Go.RowKit Pl
set_option maxHeartbeats 4000000 in
set_option maxRecDepth 100000 in
theorem simulate_one (A:Option Addr) (n c:Nat) (xs:List Nat) (A' : Option Addr) (n' c' : Nat) (ys:List Nat) (sh x0 y0:Nat) (w:World) (h:Rd w A n c xs) (h' : Rd w A' n' c' ys)
 (hd:Dig aD xs) (hd' : Dig aD ys) (hn:2≤n) (hn' : 2≤n') (hle:n'≤n) (hnn:n'=n-1) (a1 a2 b1 b2 ah bh:Nat) (hs:sh≤63) (hbl:Hid ((64:Int)-Lib.bitLen a1=sh))
 (g1:xs[n-1]?=some a1) (g2:xs[n-2]?=some a2) (k1:n'=n→ys[n-1]?=some b1) (k2:n-1≤n'→ys[n-2]?=some b2)
 (e1:IntKind.u64.wrap ((a1:Int)*2^sh)=(ah:Int)) (e2:bits .or .u64 (ah:Int) ((a2:Int)/2^(64-sh))=(x0:Int))
 (e3:IntKind.u64.wrap ((b1:Int)*2^sh)=(bh:Int)) (e4:n'=n→bits .or .u64 (bh:Int) ((b2:Int)/2^(64-sh))=(y0:Int)) (e5:n'=n-1→(b2:Int)/2^(64-sh)=(y0:Int)) (e6:n'<n-1→y0=0)
 (hx0:x0<aD) (hy0:y0≤x0) :
 Calls Tryz.prog 191 #[.slice A n c,.slice A' n' c'] w fun e w' =>
  SimRes x0 y0 e∧Below w.heap.size w w':=by
 have hnc:n≤c:=h.cap
 have hcm:c≤9223372036854775807:=h.2.2.1
 have hnc' : n'≤c':=h'.cap
 have hcm' : c'≤9223372036854775807:=h'.2.2.1
 obtain ⟨ad,a1',hA,hal,ha1,hc1⟩:=h.at_ (k:=n-1) (by omega)
 obtain ⟨ad2,a2',hA2,_,ha2,hc2⟩:=h.at_ (k:=n-2) (by omega)
 obtain ⟨ad',hA',hal',hcb⟩:=h'.2.2.2 (by omega)
 subst hA
 injection hA2 with hA2
 subst hA2
 rw [g1] at ha1
 injection ha1 with ha1
 subst ha1
 rw [g2] at ha2
 injection ha2 with ha2
 subst ha2
 subst hA'
 have hab:a1≤18446744073709551615:=by have:=hd.at_ g1;have:=aH;omega
 have cl:=Lib.hid (fun w=>Tryz.bits_LeadingZeros64 (a1:Int) w (by omega) (by omega))
 have HX:=Lib.hid (And.intro hd hd')
 have HC:=Lib.hid hcb
 have hx0' : (x0:Int)≤18446744073709551615:=by have:=aH;omega
 have hq1:(ad.add (n-1)).block<w.heap.size:=by rw [bN];exact hal
 have hq2:(ad.add (n-2)).block<w.heap.size:=by rw [bN];exact hal
 have hq3:(ad'.add (n-1)).block<w.heap.size:=by rw [bN];exact hal'
 have hq4:(ad'.add (n-2)).block<w.heap.size:=by rw [bN];exact hal'
 clear h h' hd hd' hcb g1 g2 hab
 have hnn2:¬ n'=n:=by omega
 have e5':=e5 hnn
 have hc4:=HC.out (n-2) b2 (k2 (by omega))
 have hsw1:((n' : Int)==n)=false:=by simp;omega
 have hsw2:((n' : Int)==(n:Int)-1)=true:=by simp;omega
 have HK:=Lib.hid (And.intro e6 (And.intro hx0 hy0))
 have hidx:n-2<n':=by omega
 clear e4 e5 e6 k1 k2 hx0 hy0 hnn hnn2
 go_enter Tryz.func191,Tryz.ntmps191
 go_wp2_with (go_at_call 228;refine (cl.out _).mono ?_;rintro e w' ⟨rfl,hw⟩;rw [hw];rw [Int.toNat_natCast,hbl.out])
 go_quiet (fail)
 have hbW:Below w.heap.size w ((w.alloc fD).drewN nq):=cA ((Below.refl _ _).alloc (Nat.le_refl _) _) _
 have hrW:((w.alloc fD).drewN nq).heap[w.heap.size]?=some fD:=heap_alloc_new w _
 have hc4':=(hbW.cell (p:=ad'.add (n-2)) hq4).trans hc4
 unfold fD at hbW hrW hc4'
 have HW2:=Lib.hid (And.intro hbW hrW)
 clear hbW hrW hc1 hc2 hc4 hq1 hq2 hq3 hq4
 generalize (w.alloc (.cells #[.int .u64 0,.int .u64 0,.int .u64 0,.int .u64 0,.int .i64 0] 229)).drewN nq=W3 at *
 go_wp2
 obtain ⟨gr,hgr⟩:∃ gr,gr=w.heap.size:=⟨_,rfl⟩
 obtain ⟨gs,hgs⟩:∃ gs,gs=W3.heap.size:=⟨_,rfl⟩
 have hlt:gr<gs:=by rw [hgr,hgs];exact (Array.getElem?_eq_some_iff.1 HW2.out.2).1
 have hW4b:Below gr w (W3.alloc (.cells #[.int .u64 1,.int .u64 0,.int .u64 0,.int .u64 1,.int .i64 0] 229)):=by rw [hgr];exact HW2.out.1.alloc HW2.out.1.size _
 have hW4s:(W3.alloc (.cells #[.int .u64 1,.int .u64 0,.int .u64 0,.int .u64 1,.int .i64 0] 229)).heap[gs]?=some (.cells #[.int .u64 1,.int .u64 0,.int .u64 0,.int .u64 1,.int .i64 0] 229):=by rw [hgs];exact heap_alloc_new _ _
 have hW4r:(W3.alloc (.cells #[.int .u64 1,.int .u64 0,.int .u64 0,.int .u64 1,.int .i64 0] 229)).heap[gr]?=some fD:=by rw [hgr];exact (Below.heap_alloc W3 _ _ (by rw [← hgr,← hgs];exact hlt)).trans HW2.out.2
 have HW4:=Lib.hid (And.intro hW4b (And.intro hW4s hW4r))
 rw [← hgr,← hgs]
 clear hW4b hW4s hW4r HW2 hgs
 have HGR:=Lib.hid hgr
 clear hgr
 generalize W3.alloc (.cells #[.int .u64 1,.int .u64 0,.int .u64 0,.int .u64 1,.int .i64 0] 229)=W4 at *
 go_loopw [7,8] (fun p q wr => ∃ x y oa ob na nb s:Nat,p = .int .u64 (x:Int)∧q = .int .u64 (y:Int)∧Hid (Pl.Steps x0 y0 x y oa ob na nb s∧Taken x y ob nb s)∧SimB x0 x y s∧wr.heap[gs]?=some (eucO oa ob na nb s)∧wr.heap[gr]?=some fD∧Below gr w wr) (fun _ q _=>(intOf q).toNat)
 case atStart=>exact ⟨x0,y0,1,0,0,1,0,rfl,rfl,⟨Pl.Steps.start _ _ HK.out.2.2,fun h=>absurd h (by omega)⟩,⟨HK.out.2.1,Nat.le_refl _,HK.out.2.2,by omega⟩,HW4.out.2.1,HW4.out.2.2,HW4.out.1⟩
 case round =>
  obtain ⟨x,y,oa,ob,na,nb,s,rfl,rfl,hst,hsb,hbs,hbr,hbe⟩:=hrel
  obtain ⟨m1,m2,m3,m4⟩:=hsb
  obtain ⟨c0,c1,c2,c3,c4,z0,z1,z2,z3,z4⟩:=bL hbs
  obtain ⟨d0,d1,d2,d3,d4,w0,w1,w2,w3,w4⟩:=bL (dM▸hbr)
  have hne:¬ gs=gr:=by omega
  have hne' : ¬ gr=gs:=by omega
  have hgsl:gs<wr.heap.size:=(Array.getElem?_eq_some_iff.1 hbs).1
  have hgrl:gr<wr.heap.size:=(Array.getElem?_eq_some_iff.1 hbr).1
  have HB:=Lib.hid (And.intro hbs (And.intro hbr hbe))
  clear hbs hbr hbe
  rcases Nat.eq_zero_or_pos y with rfl|hy
  ·simp only [Int.natCast_zero]
   go_wp2
   exact bodyPost_ret (v:=eucV oa ob na nb s) (dW _ (fP (dM▸HB.out.2.1)) rfl) rfl ⟨⟨oa,ob,na,nb,s,x,0,rfl,hst.out.1,hst.out.2⟩,by rw [← HGR.out];exact bO HB.out.2.2 (Nat.le_refl _) _ _ _ _ _⟩
  ·have hs1:=hst.out.1.next hy
   obtain ⟨q,hq⟩:∃ q:Nat,q=x/y:=⟨_,rfl⟩
   obtain ⟨r,hr⟩:∃ r:Nat,r=x%y:=⟨_,rfl⟩
   rw [← hq,← hr] at hs1
   have f1:(x:Int).tdiv y=q:=by rw [hq,Int.tdiv_eq_ediv_of_nonneg (by omega),Int.natCast_ediv]
   have f2:(x:Int)/y=q:=by rw [hq,Int.natCast_ediv]
   have f3:(x:Int).tmod y=r:=by rw [hr,Int.tmod_eq_emod_of_nonneg (by omega),Int.natCast_emod]
   have f4:(x:Int)%y=r:=by rw [hr,Int.natCast_emod]
   have hry:r<y:=by rw [hr];exact Nat.mod_lt _ hy
   have hqx:q≤x:=by rw [hq];exact Nat.div_le_self _ _
   obtain ⟨oa2,hoa2⟩:∃ k:Nat,oa+q*na=k:=⟨_,rfl⟩
   obtain ⟨ob2,hob2⟩:∃ k:Nat,ob+q*nb=k:=⟨_,rfl⟩
   rw [hoa2,hob2] at hs1
   have l1:=hs1.na_le hy
   have l2:=hs1.nb_le hy
   have hy0x:=HK.out.2.2
   have cn:=Lib.hid (fun w=>next_any oa ob na nb s q oa2 ob2 w hoa2 hob2 (by omega) (by omega) m4)
   have HS1:=Lib.hid (And.intro hs1 (And.intro l1 l2))
   have hxi:(x:Int)≤18446744073709551615:=by omega
   have hyn:¬ ((y:Int)=0):=by omega
   have hy' : (0:Int)<y:=by omega
   have hqi:(q:Int)≤18446744073709551615:=by omega
   have hri:(r:Int)≤18446744073709551615:=by omega
   have HM:=Lib.hid (And.intro m1 (And.intro m2 (And.intro m3 m4)))
   clear hs1 l1 l2 hq hr hoa2 hob2 hy m1 m2 m3 m4 hy0x d0 d1 d2 d3 d4 w0 w1 w2 w3 w4 z0 z1 z2 z3 z4 hqx
   go_wp2
   go_region_with ((go_at_call 229;refine (cn.out _).mono ?_;rintro e w5 ⟨rfl,hb5⟩;first|(have hk0:=kept_alloc_drew hb5;obtain ⟨v0,v1,v2,v3,v4,x0',x1',x2',x3',x4'⟩:=bL hk0)|(have hk0:=kept_alloc hb5;obtain ⟨v0,v1,v2,v3,v4,x0',x1',x2',x3',x4'⟩:=bL hk0)|skip))
   all_goals first
    | (have hW:=Behind.fresh (W0:=w) (gr:=gr) (gs:=gs) (na:=na) (nb:=nb) (oa2:=oa2) (ob2:=ob2) (Below.refl _ _) hb5 HB.out.1 HB.out.2.1 HB.out.2.2
       have HW6:=Lib.hid hW
       generalize w5.alloc (.cells #[.int .u64 (na:Int),.int .u64 (nb:Int),.int .u64 (oa2:Int),.int .u64 (ob2:Int),.int .i64 ((s:Int)+1)] 229)=W6 at HW6 ⊢
       generalize w5.heap.size=gn at HW6 ⊢)
    | (have hW:=Behind.fresh (W0:=w) (gr:=gr) (gs:=gs) (na:=na) (nb:=nb) (oa2:=oa2) (ob2:=ob2) (Below.refl _ _).drew hb5 HB.out.1 HB.out.2.1 HB.out.2.2
       have HW6:=Lib.hid hW
       generalize w5.alloc (.cells #[.int .u64 (na:Int),.int .u64 (nb:Int),.int .u64 (oa2:Int),.int .u64 (ob2:Int),.int .i64 ((s:Int)+1)] 229)=W6 at HW6 ⊢
       generalize w5.heap.size=gn at HW6 ⊢)
    | (have hW:=Behind.laid (W0:=w) (gr:=gr) (gs:=gs) (na:=na) (nb:=nb) (oa2:=oa2) (ob2:=ob2) ((Below.refl _ _).alloc (Nat.le_refl _) _) hb5 hk0 HB.out.1 HB.out.2.1 HB.out.2.2
       have HW6:=Lib.hid hW
       generalize (((((w5.setCell ⟨wr.heap.size,0,none⟩ (.int .u64 (na:Int))).setCell ⟨wr.heap.size,1,none⟩ (.int .u64 (nb:Int))).setCell ⟨wr.heap.size,2,none⟩ (.int .u64 (oa2:Int))).setCell ⟨wr.heap.size,3,none⟩ (.int .u64 (ob2:Int))).setCell ⟨wr.heap.size,4,none⟩ (.int .i64 ((s:Int)+1)))=W6 at HW6 ⊢
       generalize wr.heap.size=gn at HW6 ⊢)
    | (have hW:=Behind.laid (W0:=w) (gr:=gr) (gs:=gs) (na:=na) (nb:=nb) (oa2:=oa2) (ob2:=ob2) ((Below.refl _ _).alloc (Nat.le_refl _) _).drew hb5 hk0 HB.out.1 HB.out.2.1 HB.out.2.2
       have HW6:=Lib.hid hW
       generalize (((((w5.setCell ⟨wr.heap.size,0,none⟩ (.int .u64 (na:Int))).setCell ⟨wr.heap.size,1,none⟩ (.int .u64 (nb:Int))).setCell ⟨wr.heap.size,2,none⟩ (.int .u64 (oa2:Int))).setCell ⟨wr.heap.size,3,none⟩ (.int .u64 (ob2:Int))).setCell ⟨wr.heap.size,4,none⟩ (.int .i64 ((s:Int)+1)))=W6 at HW6 ⊢
       generalize wr.heap.size=gn at HW6 ⊢)
   all_goals clear cn c0 c1 c2 c3 c4 hgsl hgrl hb5
   all_goals try clear hk0
   all_goals try clear v0 v1 v2 v3 v4 x0' x1' x2' x3' x4'
   all_goals
    go_wp2
    go_quiet (fail)
    have HW7:=Lib.hid (show Behind w (W6.drewN nq) gr gs gn oa ob na nb s oa2 ob2 na nb (s+1) from ⟨HW6.out.1,HW6.out.2.1,HW6.out.2.2.1,cA HW6.out.2.2.2.1 _,HW6.out.2.2.2.2⟩)
    clear HW6
    generalize W6.drewN nq=W7 at HW7 ⊢
    obtain ⟨n0,n1,n2,n3,n4,p0,p1,p2,p3,p4⟩:=bL HW7.out.1
    obtain ⟨c0,c1,c2,c3,c4,z0,z1,z2,z3,z4⟩:=bL HW7.out.2.1
    obtain ⟨d0,d1,d2,d3,d4,w0,w1,w2,w3,w4⟩:=bL (dM▸HW7.out.2.2.1)
    have q1:¬ gn=gs:=HW7.out.2.2.2.2.1
    have q2:¬ gn=gr:=HW7.out.2.2.2.2.2
    have q3:¬ gs=gn:=fun h=>q1 h.symm
    have q4:¬ gr=gn:=fun h=>q2 h.symm
    have hsum:(nb:Int)+ob2≤18446744073709551615∨r<ob2:=by
     rcases Nat.lt_or_ge r ob2 with h|h
     ·exact .inr h
     ·have hrp:0<r:=Nat.lt_of_lt_of_le HS1.out.1.nb1 h
      have:=HS1.out.1.sum_le hrp
      have:=HM.out.1
      have:=aH
      exact .inl (by omega)
    have hyr:(0:Int)≤(y:Int)-r:=by omega
    have hwr:IntKind.u64.wrap ((y:Int)-r)=(y:Int)-r:=by rw [IntKind.wrap_u64];have:=HM.out;have:=aH;omega
    by_cases t1:r<ob2
    ·have t1' : (r:Int)<ob2:=by omega
     clear hsum t1
     go_wp2
     exact bodyPost_ret (v:=eucV oa ob na nb s) (dW _ (fP (dM▸HW7.out.2.2.1)) rfl) rfl ⟨⟨oa,ob,na,nb,s,x,y,rfl,hst.out.1,hst.out.2⟩,by rw [← HGR.out];exact bO HW7.out.2.2.2.1 (Nat.le_refl _) _ _ _ _ _⟩
    ·have t1' : ¬ (r:Int)<ob2:=by omega
     have hsum' : (nb:Int)+ob2≤18446744073709551615:=by omega
     by_cases t2:(y:Int)-r<(nb:Int)+ob2
     ·clear hsum t1
      go_wp2
      exact bodyPost_ret (v:=eucV oa ob na nb s) (dW _ (fP (dM▸HW7.out.2.2.1)) rfl) rfl ⟨⟨oa,ob,na,nb,s,x,y,rfl,hst.out.1,hst.out.2⟩,by rw [← HGR.out];exact bO HW7.out.2.2.2.1 (Nat.le_refl _) _ _ _ _ _⟩
     ·have htk:Taken y r nb ob2 (s+1):=fun _=>⟨by omega,by omega⟩
      have hsm:SimB x0 y r (s+1):=⟨HM.out.1,by have:=HM.out;omega,by omega,(SimOk.of_steps HS1.out.1 htk HM.out.1 HK.out.2.2 (K:=1) (α:=0) (β:=0) rfl rfl (by omega) (by omega)).1⟩
      have HT:=Lib.hid (And.intro htk hsm)
      have t3:decide ((y:Int)-r<(nb:Int)+ob2)=false:=by simp;omega
      have t4:(nb:Int)+ob2≤(y:Int)-r:=by omega
      clear hsum t1 htk hsm t2
      go_wp2
      go_roundw
      case rel=>exact ⟨y,r,na,nb,oa2,ob2,s+1,rfl,rfl,⟨HS1.out.1,HT.out.1⟩,HT.out.2,fP HW7.out.2.1,(fU hne' _ _ _ _ _).trans HW7.out.2.2.1,bO HW7.out.2.2.2.1 (Nat.le_of_lt hlt) _ _ _ _ _⟩
      case measure=>simp [intOf];omega
set_option maxHeartbeats 4000000 in
set_option maxRecDepth 100000 in
theorem simulate_none (A:Option Addr) (n c:Nat) (xs:List Nat) (A' : Option Addr) (n' c' : Nat) (ys:List Nat) (sh x0 y0:Nat) (w:World) (h:Rd w A n c xs) (h' : Rd w A' n' c' ys)
 (hd:Dig aD xs) (hd' : Dig aD ys) (hn:2≤n) (hn' : 2≤n') (hle:n'≤n) (hnn:n'<n-1) (a1 a2 b1 b2 ah bh:Nat) (hs:sh≤63) (hbl:Hid ((64:Int)-Lib.bitLen a1=sh))
 (g1:xs[n-1]?=some a1) (g2:xs[n-2]?=some a2) (k1:n'=n→ys[n-1]?=some b1) (k2:n-1≤n'→ys[n-2]?=some b2)
 (e1:IntKind.u64.wrap ((a1:Int)*2^sh)=(ah:Int)) (e2:bits .or .u64 (ah:Int) ((a2:Int)/2^(64-sh))=(x0:Int))
 (e3:IntKind.u64.wrap ((b1:Int)*2^sh)=(bh:Int)) (e4:n'=n→bits .or .u64 (bh:Int) ((b2:Int)/2^(64-sh))=(y0:Int)) (e5:n'=n-1→(b2:Int)/2^(64-sh)=(y0:Int)) (e6:n'<n-1→y0=0)
 (hx0:x0<aD) (hy0:y0≤x0) :
 Calls Tryz.prog 191 #[.slice A n c,.slice A' n' c'] w fun e w' =>
  SimRes x0 y0 e∧Below w.heap.size w w':=by
 have hnc:n≤c:=h.cap
 have hcm:c≤9223372036854775807:=h.2.2.1
 have hnc' : n'≤c':=h'.cap
 have hcm' : c'≤9223372036854775807:=h'.2.2.1
 obtain ⟨ad,a1',hA,hal,ha1,hc1⟩:=h.at_ (k:=n-1) (by omega)
 obtain ⟨ad2,a2',hA2,_,ha2,hc2⟩:=h.at_ (k:=n-2) (by omega)
 obtain ⟨ad',hA',hal',hcb⟩:=h'.2.2.2 (by omega)
 subst hA
 injection hA2 with hA2
 subst hA2
 rw [g1] at ha1
 injection ha1 with ha1
 subst ha1
 rw [g2] at ha2
 injection ha2 with ha2
 subst ha2
 subst hA'
 have hab:a1≤18446744073709551615:=by have:=hd.at_ g1;have:=aH;omega
 have cl:=Lib.hid (fun w=>Tryz.bits_LeadingZeros64 (a1:Int) w (by omega) (by omega))
 have HX:=Lib.hid (And.intro hd hd')
 have HC:=Lib.hid hcb
 have hx0' : (x0:Int)≤18446744073709551615:=by have:=aH;omega
 have hq1:(ad.add (n-1)).block<w.heap.size:=by rw [bN];exact hal
 have hq2:(ad.add (n-2)).block<w.heap.size:=by rw [bN];exact hal
 have hq3:(ad'.add (n-1)).block<w.heap.size:=by rw [bN];exact hal'
 have hq4:(ad'.add (n-2)).block<w.heap.size:=by rw [bN];exact hal'
 clear h h' hd hd' hcb g1 g2 hab
 have hsw1:((n' : Int)==n)=false:=by simp;omega
 have hsw2:((n' : Int)==(n:Int)-1)=false:=by simp;omega
 have HY0:=Lib.hid (e6 hnn)
 have HK:=Lib.hid (And.intro e6 (And.intro hx0 hy0))
 clear e4 e5 e6 k1 k2 hx0 hy0 hnn
 go_enter Tryz.func191,Tryz.ntmps191
 go_wp2_with (go_at_call 228;refine (cl.out _).mono ?_;rintro e w' ⟨rfl,hw⟩;rw [hw];rw [Int.toNat_natCast,hbl.out])
 go_quiet (fail)
 have hbW:Below w.heap.size w ((w.alloc fD).drewN nq):=cA ((Below.refl _ _).alloc (Nat.le_refl _) _) _
 have hrW:((w.alloc fD).drewN nq).heap[w.heap.size]?=some fD:=heap_alloc_new w _
 unfold fD at hbW hrW
 have HW2:=Lib.hid (And.intro hbW hrW)
 clear hbW hrW hc1 hc2 hq1 hq2 hq3 hq4
 generalize (w.alloc (.cells #[.int .u64 0,.int .u64 0,.int .u64 0,.int .u64 0,.int .i64 0] 229)).drewN nq=W3 at *
 go_wp2
 obtain ⟨gr,hgr⟩:∃ gr,gr=w.heap.size:=⟨_,rfl⟩
 obtain ⟨gs,hgs⟩:∃ gs,gs=W3.heap.size:=⟨_,rfl⟩
 have hlt:gr<gs:=by rw [hgr,hgs];exact (Array.getElem?_eq_some_iff.1 HW2.out.2).1
 have hW4b:Below gr w (W3.alloc (.cells #[.int .u64 1,.int .u64 0,.int .u64 0,.int .u64 1,.int .i64 0] 229)):=by rw [hgr];exact HW2.out.1.alloc HW2.out.1.size _
 have hW4s:(W3.alloc (.cells #[.int .u64 1,.int .u64 0,.int .u64 0,.int .u64 1,.int .i64 0] 229)).heap[gs]?=some (.cells #[.int .u64 1,.int .u64 0,.int .u64 0,.int .u64 1,.int .i64 0] 229):=by rw [hgs];exact heap_alloc_new _ _
 have hW4r:(W3.alloc (.cells #[.int .u64 1,.int .u64 0,.int .u64 0,.int .u64 1,.int .i64 0] 229)).heap[gr]?=some fD:=by rw [hgr];exact (Below.heap_alloc W3 _ _ (by rw [← hgr,← hgs];exact hlt)).trans HW2.out.2
 have HW4:=Lib.hid (And.intro hW4b (And.intro hW4s hW4r))
 rw [← hgr,← hgs]
 clear hW4b hW4s hW4r HW2 hgs
 have HGR:=Lib.hid hgr
 clear hgr
 generalize W3.alloc (.cells #[.int .u64 1,.int .u64 0,.int .u64 0,.int .u64 1,.int .i64 0] 229)=W4 at *
 go_loopw [7,8] (fun p q wr => ∃ x y oa ob na nb s:Nat,p = .int .u64 (x:Int)∧q = .int .u64 (y:Int)∧Hid (Pl.Steps x0 y0 x y oa ob na nb s∧Taken x y ob nb s)∧SimB x0 x y s∧wr.heap[gs]?=some (eucO oa ob na nb s)∧wr.heap[gr]?=some fD∧Below gr w wr) (fun _ q _=>(intOf q).toNat)
 case atStart=>exact ⟨x0,y0,1,0,0,1,0,rfl,(by rw [HY0.out];rfl),⟨Pl.Steps.start _ _ HK.out.2.2,fun h=>absurd h (by omega)⟩,⟨HK.out.2.1,Nat.le_refl _,HK.out.2.2,by omega⟩,HW4.out.2.1,HW4.out.2.2,HW4.out.1⟩
 case round =>
  obtain ⟨x,y,oa,ob,na,nb,s,rfl,rfl,hst,hsb,hbs,hbr,hbe⟩:=hrel
  obtain ⟨m1,m2,m3,m4⟩:=hsb
  obtain ⟨c0,c1,c2,c3,c4,z0,z1,z2,z3,z4⟩:=bL hbs
  obtain ⟨d0,d1,d2,d3,d4,w0,w1,w2,w3,w4⟩:=bL (dM▸hbr)
  have hne:¬ gs=gr:=by omega
  have hne' : ¬ gr=gs:=by omega
  have hgsl:gs<wr.heap.size:=(Array.getElem?_eq_some_iff.1 hbs).1
  have hgrl:gr<wr.heap.size:=(Array.getElem?_eq_some_iff.1 hbr).1
  have HB:=Lib.hid (And.intro hbs (And.intro hbr hbe))
  clear hbs hbr hbe
  rcases Nat.eq_zero_or_pos y with rfl|hy
  ·simp only [Int.natCast_zero]
   go_wp2
   exact bodyPost_ret (v:=eucV oa ob na nb s) (dW _ (fP (dM▸HB.out.2.1)) rfl) rfl ⟨⟨oa,ob,na,nb,s,x,0,rfl,hst.out.1,hst.out.2⟩,by rw [← HGR.out];exact bO HB.out.2.2 (Nat.le_refl _) _ _ _ _ _⟩
  ·have hs1:=hst.out.1.next hy
   obtain ⟨q,hq⟩:∃ q:Nat,q=x/y:=⟨_,rfl⟩
   obtain ⟨r,hr⟩:∃ r:Nat,r=x%y:=⟨_,rfl⟩
   rw [← hq,← hr] at hs1
   have f1:(x:Int).tdiv y=q:=by rw [hq,Int.tdiv_eq_ediv_of_nonneg (by omega),Int.natCast_ediv]
   have f2:(x:Int)/y=q:=by rw [hq,Int.natCast_ediv]
   have f3:(x:Int).tmod y=r:=by rw [hr,Int.tmod_eq_emod_of_nonneg (by omega),Int.natCast_emod]
   have f4:(x:Int)%y=r:=by rw [hr,Int.natCast_emod]
   have hry:r<y:=by rw [hr];exact Nat.mod_lt _ hy
   have hqx:q≤x:=by rw [hq];exact Nat.div_le_self _ _
   obtain ⟨oa2,hoa2⟩:∃ k:Nat,oa+q*na=k:=⟨_,rfl⟩
   obtain ⟨ob2,hob2⟩:∃ k:Nat,ob+q*nb=k:=⟨_,rfl⟩
   rw [hoa2,hob2] at hs1
   have l1:=hs1.na_le hy
   have l2:=hs1.nb_le hy
   have hy0x:=HK.out.2.2
   have cn:=Lib.hid (fun w=>next_any oa ob na nb s q oa2 ob2 w hoa2 hob2 (by omega) (by omega) m4)
   have HS1:=Lib.hid (And.intro hs1 (And.intro l1 l2))
   have hxi:(x:Int)≤18446744073709551615:=by omega
   have hyn:¬ ((y:Int)=0):=by omega
   have hy' : (0:Int)<y:=by omega
   have hqi:(q:Int)≤18446744073709551615:=by omega
   have hri:(r:Int)≤18446744073709551615:=by omega
   have HM:=Lib.hid (And.intro m1 (And.intro m2 (And.intro m3 m4)))
   clear hs1 l1 l2 hq hr hoa2 hob2 hy m1 m2 m3 m4 hy0x d0 d1 d2 d3 d4 w0 w1 w2 w3 w4 z0 z1 z2 z3 z4 hqx
   go_wp2
   go_region_with ((go_at_call 229;refine (cn.out _).mono ?_;rintro e w5 ⟨rfl,hb5⟩;first|(have hk0:=kept_alloc_drew hb5;obtain ⟨v0,v1,v2,v3,v4,x0',x1',x2',x3',x4'⟩:=bL hk0)|(have hk0:=kept_alloc hb5;obtain ⟨v0,v1,v2,v3,v4,x0',x1',x2',x3',x4'⟩:=bL hk0)|skip))
   all_goals first
    | (have hW:=Behind.fresh (W0:=w) (gr:=gr) (gs:=gs) (na:=na) (nb:=nb) (oa2:=oa2) (ob2:=ob2) (Below.refl _ _) hb5 HB.out.1 HB.out.2.1 HB.out.2.2
       have HW6:=Lib.hid hW
       generalize w5.alloc (.cells #[.int .u64 (na:Int),.int .u64 (nb:Int),.int .u64 (oa2:Int),.int .u64 (ob2:Int),.int .i64 ((s:Int)+1)] 229)=W6 at HW6 ⊢
       generalize w5.heap.size=gn at HW6 ⊢)
    | (have hW:=Behind.fresh (W0:=w) (gr:=gr) (gs:=gs) (na:=na) (nb:=nb) (oa2:=oa2) (ob2:=ob2) (Below.refl _ _).drew hb5 HB.out.1 HB.out.2.1 HB.out.2.2
       have HW6:=Lib.hid hW
       generalize w5.alloc (.cells #[.int .u64 (na:Int),.int .u64 (nb:Int),.int .u64 (oa2:Int),.int .u64 (ob2:Int),.int .i64 ((s:Int)+1)] 229)=W6 at HW6 ⊢
       generalize w5.heap.size=gn at HW6 ⊢)
    | (have hW:=Behind.laid (W0:=w) (gr:=gr) (gs:=gs) (na:=na) (nb:=nb) (oa2:=oa2) (ob2:=ob2) ((Below.refl _ _).alloc (Nat.le_refl _) _) hb5 hk0 HB.out.1 HB.out.2.1 HB.out.2.2
       have HW6:=Lib.hid hW
       generalize (((((w5.setCell ⟨wr.heap.size,0,none⟩ (.int .u64 (na:Int))).setCell ⟨wr.heap.size,1,none⟩ (.int .u64 (nb:Int))).setCell ⟨wr.heap.size,2,none⟩ (.int .u64 (oa2:Int))).setCell ⟨wr.heap.size,3,none⟩ (.int .u64 (ob2:Int))).setCell ⟨wr.heap.size,4,none⟩ (.int .i64 ((s:Int)+1)))=W6 at HW6 ⊢
       generalize wr.heap.size=gn at HW6 ⊢)
    | (have hW:=Behind.laid (W0:=w) (gr:=gr) (gs:=gs) (na:=na) (nb:=nb) (oa2:=oa2) (ob2:=ob2) ((Below.refl _ _).alloc (Nat.le_refl _) _).drew hb5 hk0 HB.out.1 HB.out.2.1 HB.out.2.2
       have HW6:=Lib.hid hW
       generalize (((((w5.setCell ⟨wr.heap.size,0,none⟩ (.int .u64 (na:Int))).setCell ⟨wr.heap.size,1,none⟩ (.int .u64 (nb:Int))).setCell ⟨wr.heap.size,2,none⟩ (.int .u64 (oa2:Int))).setCell ⟨wr.heap.size,3,none⟩ (.int .u64 (ob2:Int))).setCell ⟨wr.heap.size,4,none⟩ (.int .i64 ((s:Int)+1)))=W6 at HW6 ⊢
       generalize wr.heap.size=gn at HW6 ⊢)
   all_goals clear cn c0 c1 c2 c3 c4 hgsl hgrl hb5
   all_goals try clear hk0
   all_goals try clear v0 v1 v2 v3 v4 x0' x1' x2' x3' x4'
   all_goals
    go_wp2
    go_quiet (fail)
    have HW7:=Lib.hid (show Behind w (W6.drewN nq) gr gs gn oa ob na nb s oa2 ob2 na nb (s+1) from ⟨HW6.out.1,HW6.out.2.1,HW6.out.2.2.1,cA HW6.out.2.2.2.1 _,HW6.out.2.2.2.2⟩)
    clear HW6
    generalize W6.drewN nq=W7 at HW7 ⊢
    obtain ⟨n0,n1,n2,n3,n4,p0,p1,p2,p3,p4⟩:=bL HW7.out.1
    obtain ⟨c0,c1,c2,c3,c4,z0,z1,z2,z3,z4⟩:=bL HW7.out.2.1
    obtain ⟨d0,d1,d2,d3,d4,w0,w1,w2,w3,w4⟩:=bL (dM▸HW7.out.2.2.1)
    have q1:¬ gn=gs:=HW7.out.2.2.2.2.1
    have q2:¬ gn=gr:=HW7.out.2.2.2.2.2
    have q3:¬ gs=gn:=fun h=>q1 h.symm
    have q4:¬ gr=gn:=fun h=>q2 h.symm
    have hsum:(nb:Int)+ob2≤18446744073709551615∨r<ob2:=by
     rcases Nat.lt_or_ge r ob2 with h|h
     ·exact .inr h
     ·have hrp:0<r:=Nat.lt_of_lt_of_le HS1.out.1.nb1 h
      have:=HS1.out.1.sum_le hrp
      have:=HM.out.1
      have:=aH
      exact .inl (by omega)
    have hyr:(0:Int)≤(y:Int)-r:=by omega
    have hwr:IntKind.u64.wrap ((y:Int)-r)=(y:Int)-r:=by rw [IntKind.wrap_u64];have:=HM.out;have:=aH;omega
    by_cases t1:r<ob2
    ·have t1' : (r:Int)<ob2:=by omega
     clear hsum t1
     go_wp2
     exact bodyPost_ret (v:=eucV oa ob na nb s) (dW _ (fP (dM▸HW7.out.2.2.1)) rfl) rfl ⟨⟨oa,ob,na,nb,s,x,y,rfl,hst.out.1,hst.out.2⟩,by rw [← HGR.out];exact bO HW7.out.2.2.2.1 (Nat.le_refl _) _ _ _ _ _⟩
    ·have t1' : ¬ (r:Int)<ob2:=by omega
     have hsum' : (nb:Int)+ob2≤18446744073709551615:=by omega
     by_cases t2:(y:Int)-r<(nb:Int)+ob2
     ·clear hsum t1
      go_wp2
      exact bodyPost_ret (v:=eucV oa ob na nb s) (dW _ (fP (dM▸HW7.out.2.2.1)) rfl) rfl ⟨⟨oa,ob,na,nb,s,x,y,rfl,hst.out.1,hst.out.2⟩,by rw [← HGR.out];exact bO HW7.out.2.2.2.1 (Nat.le_refl _) _ _ _ _ _⟩
     ·have htk:Taken y r nb ob2 (s+1):=fun _=>⟨by omega,by omega⟩
      have hsm:SimB x0 y r (s+1):=⟨HM.out.1,by have:=HM.out;omega,by omega,(SimOk.of_steps HS1.out.1 htk HM.out.1 HK.out.2.2 (K:=1) (α:=0) (β:=0) rfl rfl (by omega) (by omega)).1⟩
      have HT:=Lib.hid (And.intro htk hsm)
      have t3:decide ((y:Int)-r<(nb:Int)+ob2)=false:=by simp;omega
      have t4:(nb:Int)+ob2≤(y:Int)-r:=by omega
      clear hsum t1 htk hsm t2
      go_wp2
      go_roundw
      case rel=>exact ⟨y,r,na,nb,oa2,ob2,s+1,rfl,rfl,⟨HS1.out.1,HT.out.1⟩,HT.out.2,fP HW7.out.2.1,(fU hne' _ _ _ _ _).trans HW7.out.2.2.1,bO HW7.out.2.2.2.1 (Nat.le_of_lt hlt) _ _ _ _ _⟩
      case measure=>simp [intOf];omega
def SimGives (a b:Nat) (w:World) (e:Ending) (w' : World):Prop := ∃ oa ob na nb s:Nat,e = .returned (eucV oa ob na nb s)∧SimOk a b oa ob na nb s∧Below w.heap.size w w'
theorem simulate_any (A:Option Addr) (n c:Nat) (xs:List Nat) (A' : Option Addr) (n' c' : Nat) (ys:List Nat) (w:World) (h:Rd w A n c xs) (h' : Rd w A' n' c' ys)
 (hd:Dig aD xs) (hd' : Dig aD ys) (hx:Norm xs) (hn' : 2≤n') (hle:n'≤n) (hge:val aD ys≤val aD xs) :
 Calls Tryz.prog 191 #[.slice A n c,.slice A' n' c'] w (SimGives (val aD xs) (val aD ys) w):=by
 have hW:=aH
 have hlx:=h.len
 have hly:=h'.len
 obtain ⟨a1,g1⟩:∃ a1,xs[n-1]?=some a1:=⟨_,List.getElem?_eq_getElem (by omega)⟩
 obtain ⟨a2,g2⟩:∃ a2,xs[n-2]?=some a2:=⟨_,List.getElem?_eq_getElem (by omega)⟩
 have l1:=hd.at_ g1
 have l2:=hd.at_ g2
 have ha1:0<a1:=by
  have hne:xs≠[]:=by rintro rfl;simp at g1
  have:=hx hne
  rw [List.getLast_eq_getElem] at this
  obtain ⟨k,ey⟩:=List.getElem?_eq_some_iff.1 g1
  simp only [hlx,ey] at this
  omega
 obtain ⟨sh,hs,hbl,s1,s2⟩:=norm_shift a1 ha1 l1
 obtain ⟨t1,t2,α,eα,lα⟩:=lead_bits (a1:=a1) (a2:=a2) hd (n:=n) (by omega) (by omega) hs (by rw [List.getD,g1];rfl) (by rw [List.getD,g2];rfl) s2
 obtain ⟨b1,hb1⟩:∃ b1,ys.getD (n-1) 0=b1:=⟨_,rfl⟩
 obtain ⟨b2,hb2⟩:∃ b2,ys.getD (n-2) 0=b2:=⟨_,rfl⟩
 have hba:b1≤a1:=by
  rcases Nat.lt_or_ge a1 b1 with hlt|hge'
  ·exfalso
   have hk:n-1<ys.length:=by
    rcases Nat.lt_or_ge (n-1) ys.length with h|h
    ·exact h
    ·rw [List.getD,List.getElem?_eq_none h] at hb1
     have:(0:Nat)=b1:=hb1
     omega
   have e1:val aD xs=val aD (xs.take (n-1))+aD^(n-1)*a1:=by
    have:val aD xs=val aD (xs.take (n-1+1)):=by rw [List.take_of_length_le (by omega)]
    obtain ⟨k,ey⟩:=List.getElem?_eq_some_iff.1 g1
    rw [this,aF _ _ _ k,ey]
   have e2:val aD ys=val aD (ys.take (n-1))+aD^(n-1)*b1:=by
    have:val aD ys=val aD (ys.take (n-1+1)):=by rw [List.take_of_length_le (by omega)]
    rw [this,aF _ _ _ hk]
    rw [List.getD,List.getElem?_eq_getElem hk] at hb1
    have:ys[n-1]=b1:=hb1
    rw [this]
   have e3:=bV (hd.take (n-1))
   rw [List.length_take,Nat.min_eq_left (by omega)] at e3
   have e4:aD^(n-1)*(a1+1)≤aD^(n-1)*b1:=Nat.mul_le_mul_left _ hlt
   rw [Nat.mul_add,Nat.mul_one] at e4
   omega
  ·exact hge'
 have hb1s:b1*2^sh<aD:=Nat.lt_of_le_of_lt (Nat.mul_le_mul_right _ hba) s2
 obtain ⟨u1,u2,β,eβ,lβ⟩:=lead_bits hd' (n:=n) (by omega) (by omega) hs hb1 hb2 hb1s
 obtain ⟨K,hK⟩:∃ K,K=2^(64-sh)*aD^(n-2):=⟨_,rfl⟩
 obtain ⟨x0,hx0⟩:∃ x0,x0=a1*2^sh+a2/2^(64-sh):=⟨_,rfl⟩
 obtain ⟨y0,hy0⟩:∃ y0,y0=b1*2^sh+b2/2^(64-sh):=⟨_,rfl⟩
 rw [← hx0,← hK] at eα
 rw [← hy0,← hK] at eβ
 rw [← hK] at lα lβ
 have hyx:y0≤x0:=by
  have:y0*K<(x0+1)*K:=by rw [Nat.add_mul,Nat.one_mul];omega
  have:=Nat.lt_of_mul_lt_mul_right this
  omega
 have e1:IntKind.u64.wrap ((a1:Int)*2^sh)=((a1*2^sh:Nat):Int):=by rw [show (a1:Int)*2^sh=((a1*2^sh:Nat):Int) from by simp,wrap_nat _ (by omega)]
 have e2:bits .or .u64 ((a1*2^sh:Nat):Int) ((a2:Int)/2^(64-sh))=(x0:Int):=by
  rw [show (a2:Int)/2^(64-sh)=((a2/2^(64-sh):Nat):Int) from by simp,hx0]
  exact or_shift _ _ _ t1 (by omega)
 have e3:IntKind.u64.wrap ((b1:Int)*2^sh)=((b1*2^sh:Nat):Int):=by rw [show (b1:Int)*2^sh=((b1*2^sh:Nat):Int) from by simp,wrap_nat _ (by omega)]
 have e4:bits .or .u64 ((b1*2^sh:Nat):Int) ((b2:Int)/2^(64-sh))=(y0:Int):=by
  rw [show (b2:Int)/2^(64-sh)=((b2/2^(64-sh):Nat):Int) from by simp,hy0]
  exact or_shift _ _ _ u1 (by omega)
 have e5:n'<n→(b2:Int)/2^(64-sh)=(y0:Int):=by
  intro hlt
  have:b1=0:=by rw [← hb1,List.getD,List.getElem?_eq_none (by omega)];rfl
  rw [hy0,this]
  simp
 have e6:n'<n-1→y0=0:=by
  intro hlt
  have q1:b1=0:=by rw [← hb1,List.getD,List.getElem?_eq_none (by omega)];rfl
  have q2:b2=0:=by rw [← hb2,List.getD,List.getElem?_eq_none (by omega)];rfl
  rw [hy0,q1,q2]
  simp
 have k1:n'=n→ys[n-1]?=some b1:=by
  intro hh
  rw [List.getD,List.getElem?_eq_getElem (by omega)] at hb1
  rw [List.getElem?_eq_getElem (by omega)]
  exact congrArg some hb1
 have k2:n-1≤n'→ys[n-2]?=some b2:=by
  intro hh
  rw [List.getD,List.getElem?_eq_getElem (by omega)] at hb2
  rw [List.getElem?_eq_getElem (by omega)]
  exact congrArg some hb2
 have fin:∀ e w',SimRes x0 y0 e∧Below w.heap.size w w'→SimGives (val aD xs) (val aD ys) w e w':=by
  rintro e w' ⟨⟨oa,ob,na,nb,s,x,y,he,hst,htk⟩,hb⟩
  exact ⟨oa,ob,na,nb,s,he,SimOk.of_steps hst htk (by omega) hyx eα eβ lα lβ,hb⟩
 have hcase:n'=n∨n'=n-1∨n'<n-1:=by omega
 rcases hcase with hh|hh|hh
 ·exact (simulate_eq A n c xs A' n' c' ys sh x0 y0 w h h' hd hd' (by omega) hn' hle hh a1 a2 b1 b2 _ _ hs hbl g1 g2 k1 k2 e1 e2 e3 (fun _=>e4) (fun _=>e5 (by omega)) e6 (by omega) hyx).mono fin
 ·exact (simulate_one A n c xs A' n' c' ys sh x0 y0 w h h' hd hd' (by omega) hn' hle hh a1 a2 b1 b2 _ _ hs hbl g1 g2 k1 k2 e1 e2 e3 (fun _=>e4) (fun _=>e5 (by omega)) e6 (by omega) hyx).mono fin
 ·exact (simulate_none A n c xs A' n' c' ys sh x0 y0 w h h' hd hd' (by omega) hn' hle hh a1 a2 b1 b2 _ _ hs hbl g1 g2 k1 k2 e1 e2 e3 (fun _=>e4) (fun _=>e5 (by omega)) e6 (by omega) hyx).mono fin
def Ku:Value→Bool
 | .int .u64 _=>true
 | _=>false
theorem hot_of_cell {K:Value→Bool} {w:World} {p:Addr} {v:Value} (h:w.cell? p=some v) (hv:K v=true):∃ o,w.heap[p.block]?=some o∧hotObj K o=true:=by
 unfold World.cell? at h
 split at h
 ·rename_i c e f hb
  split at h
  ·cases h
  ·refine ⟨_,hb,?_⟩
   exact Array.any_eq_true'.2 ⟨v,Array.mem_of_getElem? h,hv⟩
 ·cases h
theorem Ext.cell {K:Value→Bool} {w w' : World} (h:Ext K w w') {p:Addr} {v:Value} (hc:w.cell? p=some v) (hv:K v=true):w'.cell? p=some v:=by
 obtain ⟨o,ho,hh⟩:=hot_of_cell hc hv
 have:=h.block _ _ ho hh
 exact (World.cell?_of_block (w:=w) (by rw [this,ho])).trans hc
theorem Rd.ext {K:Value→Bool} (hK:∀ x,K (.int .u64 x)=true) {w w' : World} {A:Option Addr} {n c:Nat} {xs:List Nat} (h:Rd w A n c xs) (hx:Ext K w w'):Rd w' A n c xs:=by
 refine ⟨h.1,h.2.1,h.2.2.1,fun hn=>?_⟩
 obtain ⟨ad,e,hl,hc⟩:=h.2.2.2 hn
 exact ⟨ad,e,Nat.lt_of_lt_of_le hl hx.size,fun j x hj=>hx.cell (hc j x hj) (hK _)⟩
theorem Nt.ext {K:Value→Bool} (hK:∀ x,K (.int .u64 x)=true) {w w' : World} {v:Value} {a:Nat} (h:Nt w v a) (hx:Ext K w w'):Nt w' v a:=by
 obtain ⟨A,n,c,xs,hv,hr,hd,hn,ha⟩:=h
 exact ⟨A,n,c,xs,hv,hr.ext hK hx,hd,hn,ha⟩
def spNt (a:Nat):Sp:=fun v w=>Nt w v a
theorem aK {K:Value→Bool} (hK:∀ x,K (.int .u64 x)=true) (a:Nat):Stable K (spNt a):=fun _ _ _ h hx=>Nt.ext hK h hx
theorem Ku_u (x:Int):Ku (.int .u64 x)=true:=rfl
theorem aA {w:World} {g:Nat} {cs:Array Value} {t:TypeId} {fr:Nat×Nat} (h:w.heap[g]?=some (.cells cs t fr)) (i:Nat):w.cell? ⟨g,i,none⟩=cs[i]?:=by
 unfold World.cell?
 rw [h]
 rfl
theorem Base.blk {T:List Nat} {w0 w:World} {g:Nat} {o:Obj} (h:Base T w0 w) (h0:w0.heap[g]?=some o) (hT:g∉T):w.heap[g]?=some o:=(h.block g (lt_of_block h0) hT).trans h0
theorem GivesNt.ty {P:Program} {f:FuncId} {args:Array Value} {w:World} {a:Nat} (h:Calls P f args w (GivesNt w a)):Calls P f args w (TyPost w (spNt a)) :=
 h.mono fun _ _ ⟨v,h1,h2,h3⟩=>⟨v,h1,h3,h2⟩
theorem Gives.ty {P:Program} {f:FuncId} {args:Array Value} {w:World} {u:Value} (h:Calls P f args w (Gives w u)):Calls P f args w (TyPost w (Sp.is u)) :=
 h.mono fun _ _ ⟨h1,h2⟩=>⟨u,h1,h2,rfl⟩
theorem Below.step_trans {w0 w w' : World} (h:Below w0.heap.size w0 w) (h' : Below w.heap.size w w'):Below w0.heap.size w0 w':=h.trans (h'.mono h.size)
/-! ### The functions on natural numbers, by values -/
theorem nt_difference {x y a b:Nat} {v v' : Value} {w:World} (h:Nt w v a) (h' : Nt w v' b) (ha:Lv 40 a) (hb:Lv 40 b) (hx:x<aD) (hy:y<aD) (hge:y*b≤x*a) :
 Calls Tryz.prog 230 #[.int .u64 (x:Int),v,.int .u64 (y:Int),v'] w (GivesNt w (x*a-y*b)):=by
 obtain ⟨A,n,c,xs,rfl,hr,hd,hn,rfl⟩:=h
 obtain ⟨A',n',c',ys,rfl,hr',hd',hn',rfl⟩:=h'
 have h1:=ha.len40 hn
 have h2:=hb.len40 hn'
 rw [hr.len] at h1
 rw [hr'.len] at h2
 exact difference_any x A n c xs y A' n' c' ys w hr hr' hd hd' hx hy (by omega) (by omega) hge
theorem nt_compare {a b:Nat} {v v' : Value} {w:World} (h:Nt w v a) (h' : Nt w v' b):Calls Tryz.prog 190 #[v,v'] w (Gives w (.int .i64 (bZ a b))):=by
 obtain ⟨A,n,c,xs,rfl,hr,hd,hn,rfl⟩:=h
 obtain ⟨A',n',c',ys,rfl,hr',hd',hn',rfl⟩:=h'
 exact compare_any A n c xs A' n' c' ys w hr hr' hd hd' hn hn'
theorem nt_plus {a b:Nat} {v v' : Value} {w:World} (h:Nt w v a) (h' : Nt w v' b) (ha:Lv 40 a) (hb:Lv 40 b):Calls Tryz.prog 132 #[v,v'] w (GivesNt w (a+b)):=by
 obtain ⟨A,n,c,xs,rfl,hr,hd,hn,rfl⟩:=h
 obtain ⟨A',n',c',ys,rfl,hr',hd',hn',rfl⟩:=h'
 have h1:=ha.len40 hn
 have h2:=hb.len40 hn'
 rw [hr.len] at h1
 rw [hr'.len] at h2
 exact plus_any A n c xs A' n' c' ys w hr hr' hd hd' (by omega) (by omega)
theorem nt_minus {a b:Nat} {v v' : Value} {w:World} (h:Nt w v a) (h' : Nt w v' b) (ha:Lv 40 a) (hge:b≤a):Calls Tryz.prog 242 #[v,v'] w (GivesNt w (a-b)):=by
 obtain ⟨A,n,c,xs,rfl,hr,hd,hn,rfl⟩:=h
 obtain ⟨A',n',c',ys,rfl,hr',hd',hn',rfl⟩:=h'
 have h1:=ha.len40 hn
 rw [hr.len] at h1
 have h2:n'≤n:=by
  rcases Nat.lt_or_ge n n' with hlt|hge'
  ·have:=dI eO hd hn' (by rw [hr.len,hr'.len];exact hlt)
   omega
  ·exact hge'
 exact minus_any A n c xs A' n' c' ys w hr hr' hd hd' (by omega) h2 hge
theorem nt_times {a b:Nat} {v v' : Value} {w:World} (h:Nt w v a) (h' : Nt w v' b) (ha:Lv 40 a) (hb:Lv 40 b):Calls Tryz.prog 131 #[v,v'] w (GivesNt w (a*b)):=by
 obtain ⟨A,n,c,xs,rfl,hr,hd,hn,rfl⟩:=h
 obtain ⟨A',n',c',ys,rfl,hr',hd',hn',rfl⟩:=h'
 have h1:=ha.len40 hn
 have h2:=hb.len40 hn'
 rw [hr.len] at h1
 rw [hr'.len] at h2
 exact times_any A n c xs A' n' c' ys w hr hr' hd hd' (by omega) (by omega)
theorem nt_len_pos {a n c:Nat} {A:Option Addr} {xs:List Nat} {w:World} (hr:Rd w A n c xs) (hn:Norm xs) (ha:val aD xs=a):0<n↔0<a:=by
 constructor
 ·intro h
  rw [← ha]
  exact hn.pos bD (by rintro rfl;have:=hr.len;simp at this;omega)
 ·intro h
  rcases Nat.eq_zero_or_pos n with e|e
  ·subst e
   have:xs = []:=List.eq_nil_of_length_eq_zero hr.len
   subst this
   simp [val] at ha
   omega
  ·exact e
theorem fQ {a b:Nat} {v v' : Value} {w:World} (h:Nt w v a) (h' : Nt w v' b) (ha:Lv 40 a) (hb:0<b):Calls Tryz.prog 129 #[v,v'] w (GivesTwo w (a/b) (a%b)):=by
 obtain ⟨A,n,c,xs,rfl,hr,hd,hn,rfl⟩:=h
 obtain ⟨A',n',c',ys,rfl,hr',hd',hn',rfl⟩:=h'
 have h1:=ha.len40 hn
 rw [hr.len] at h1
 exact divide_any A n c xs A' n' c' ys w hr hr' hd hd' (by omega) hn hn' ((nt_len_pos hr' hn' rfl).2 hb)
def GivesWord (w:World) (a b:Nat) (e:Ending) (w' : World):Prop := ∃ v,e = .returned (.tuple #[v,.int .u64 (b:Int)])∧Nt w' v a∧Below w.heap.size w w'
theorem nt_divideWord {a d:Nat} {v:Value} {w:World} (h:Nt w v a) (ha:Lv 40 a) (hd0:0<d) (hd1:d<aD):Calls Tryz.prog 193 #[v,.int .u64 (d:Int)] w (GivesWord w (a/d) (a%d)):=by
 obtain ⟨A,n,c,xs,rfl,hr,hd,hn,rfl⟩:=h
 have h1:=ha.len40 hn
 rw [hr.len] at h1
 exact (divideWord_any A n c xs d w hr hd (by omega) hd0 hd1).mono fun e w' ⟨⟨v,h1,h2⟩,h3⟩=>⟨v,h1,h2,h3⟩
theorem nt_divideWord_own {a d:Nat} {v:Value} {w:World} (h:Nt w v a) (ha:Lv 40 a) (hd0:0<d) (hd1:d<aD):Calls Tryz.prog 193 #[v,.int .u64 (d:Int)] w fun e w' =>
 ∃ v,e = .returned (.tuple #[v,.int .u64 ((a%d:Nat):Int)])∧Nt w' v (a/d)∧v.ownBlock=some w.heap.size∧Below w.heap.size w w':=by
 obtain ⟨A,n,c,xs,rfl,hr,hd,hn,rfl⟩:=h
 have h1:=ha.len40 hn
 rw [hr.len] at h1
 exact (divideWord_own A n c xs d w hr hd (by omega) hd0 hd1).mono fun e w' ⟨⟨v,h1,h2,h4⟩,h3⟩=>⟨v,h1,h2,h4,h3⟩
theorem dT {a:Nat} {v:Value} {w:World} (h:Nt w v a):Calls Tryz.prog 125 #[v] w fun e w'=>e = .returned (.bool (decide (a=0)))∧w=w':=by
 obtain ⟨A,n,c,xs,rfl,hr,hd,hn,ha⟩:=h
 have:decide (n=0)=decide (a=0):=by
  have:=nt_len_pos hr hn ha
  rw [decide_eq_decide];omega
 rw [← this]
 exact isZero_any A n c w
theorem nt_isOne {a:Nat} {v:Value} {w:World} (h:Nt w v a):Calls Tryz.prog 127 #[v] w fun e w'=>e = .returned (.bool (decide (a=1)))∧w=w':=by
 obtain ⟨A,n,c,xs,rfl,hr,hd,hn,rfl⟩:=h
 exact isOne_any A n c xs w hr hd hn
theorem nt_low {a:Nat} {v:Value} {w:World} (h:Nt w v a):Calls Tryz.prog 134 #[v] w fun e w'=>e = .returned (.int .u64 ((a%aD:Nat):Int))∧w=w':=by
 obtain ⟨A,n,c,xs,rfl,hr,hd,hn,rfl⟩:=h
 exact low_any A n c xs w hr hd
set_option maxHeartbeats 1000000 in
theorem carryOut_even (oa ob na nb s:Nat) (v v' : Value) (a b x y:Nat) (w:World) (h:Nt w v a) (h' : Nt w v' b) (ha:Lv 40 a) (hb:Lv 40 b) (b1:oa<aD) (b2:ob<aD) (b3:na<aD) (b4:nb<aD)
 (hs:(s:Int).tmod 2=0) (e1:oa*a=x+ob*b) (e2:nb*b=y+na*a) :
 Calls Tryz.prog 192 #[eucV oa ob na nb s,v,v'] w (GivesTwo w x y):=by
 have H:=Lib.hid (And.intro h (And.intro h' (And.intro ha (And.intro hb (And.intro b1 (And.intro b2 (And.intro b3 (And.intro b4 (And.intro e1 e2)))))))))
 clear h h' ha hb b1 b2 b3 b4 e1 e2
 unfold eucV
 go_enter Tryz.func192,Tryz.ntmps192
 go_wp2
 have hblk:=heap_alloc_new w (.cells #[.int .u64 (oa:Int),.int .u64 (ob:Int),.int .u64 (na:Int),.int .u64 (nb:Int),.int .i64 (s:Int)] 229)
 have hbel:Below w.heap.size w (w.alloc (.cells #[.int .u64 (oa:Int),.int .u64 (ob:Int),.int .u64 (na:Int),.int .u64 (nb:Int),.int .i64 (s:Int)] 229)):=(Below.refl _ _).alloc (Nat.le_refl _) _
 generalize w.alloc (.cells #[.int .u64 (oa:Int),.int .u64 (ob:Int),.int .u64 (na:Int),.int .u64 (nb:Int),.int .i64 (s:Int)] 229)=w1 at *
 have q1:∀ w',Base [] w1 w'→Calls Tryz.prog 230 #[.int .u64 (oa:Int),v,.int .u64 (ob:Int),v'] w' (TyPost w' (spNt x)):=fun w' hB=>by
  obtain ⟨h,h',ha,hb,b1,b2,b3,b4,e1,e2⟩:=H.out
  have:=GivesNt.ty (nt_difference (x:=oa) (y:=ob) (w:=w') (h.below (Below.step_trans hbel hB.below)) (h'.below (Below.step_trans hbel hB.below)) ha hb b1 b2 (by omega))
  rwa [show oa*a-ob*b=x from by omega] at this
 have q2:∀ w',Base [] w1 w'→Calls Tryz.prog 230 #[.int .u64 (nb:Int),v',.int .u64 (na:Int),v] w' (TyPost w' (spNt y)):=fun w' hB=>by
  obtain ⟨h,h',ha,hb,b1,b2,b3,b4,e1,e2⟩:=H.out
  have:=GivesNt.ty (nt_difference (x:=nb) (y:=na) (w:=w') (h'.below (Below.step_trans hbel hB.below)) (h.below (Below.step_trans hbel hB.below)) hb ha b4 b3 (by omega))
  rwa [show nb*b-na*a=y from by omega] at this
 have Q1:=Lib.hid q1
 have Q2:=Lib.hid q2
 clear q1 q2
 refine wp_region_ty Ku [] (by kernel_rfl) (by kernel_rfl) ?_
 repeat (first|(apply bT (hg:=rfl);case h=>(intro A w' hB hk;simp [known,specOf,Kd.spec,Sp.is,isVar,Oper.looksAt,Op.operands,Call.operands,Act.eval] at hk;have c_hblk:=aA (hB.blk hblk (by first|(simp;done)|(simp;omega)));first|(simp [go_sem,hk,c_hblk];done)|(simp [go_sem,hk,c_hblk];rfl)|(simp [go_sem,c_hblk];rfl)))|(refine aW _ ?_ (by first|exact .inl rfl|exact .inr rfl) (by rfl) (by simp [specOf,Kd.spec];rfl) ?_ rfl ?_;(first|exact Sp.is_stable _ _|exact aK (fun _=>rfl) _|exact spTwo_stable (fun _=>rfl) _ _|exact spFr_stable (fun _=>rfl) _|exact spSum_stable (fun _=>rfl) _|exact spSgn_stable _ _|exact spNb_stable (fun _=>rfl) (fun _=>rfl) _|exact spVc_stable (fun _=>rfl) (fun _=>rfl) _)))
 refine aQ (spNt x) (aK Ku_u _) rfl (fun A w' hB hk=>?_) ?_;(simp [known,specOf,Kd.spec,Sp.is,isVar,Oper.looksAt,Op.operands,Call.operands,Act.eval] at hk;have c_hblk:=aA (hB.blk hblk (by first|(simp;done)|(simp;omega)));simp [go_sem,hk,c_hblk];refine aG ?_;exact Q1.out _ hB)
 repeat (first|(apply bT (hg:=rfl);case h=>(intro A w' hB hk;simp [known,specOf,Kd.spec,Sp.is,isVar,Oper.looksAt,Op.operands,Call.operands,Act.eval] at hk;have c_hblk:=aA (hB.blk hblk (by first|(simp;done)|(simp;omega)));first|(simp [go_sem,hk,c_hblk];done)|(simp [go_sem,hk,c_hblk];rfl)|(simp [go_sem,c_hblk];rfl)))|(refine aW _ ?_ (by first|exact .inl rfl|exact .inr rfl) (by rfl) (by simp [specOf,Kd.spec];rfl) ?_ rfl ?_;(first|exact Sp.is_stable _ _|exact aK (fun _=>rfl) _|exact spTwo_stable (fun _=>rfl) _ _|exact spFr_stable (fun _=>rfl) _|exact spSum_stable (fun _=>rfl) _|exact spSgn_stable _ _|exact spNb_stable (fun _=>rfl) (fun _=>rfl) _|exact spVc_stable (fun _=>rfl) (fun _=>rfl) _)))
 refine aQ (spNt y) (aK Ku_u _) rfl (fun A w' hB hk=>?_) ?_;(simp [known,specOf,Kd.spec,Sp.is,isVar,Oper.looksAt,Op.operands,Call.operands,Act.eval] at hk;have c_hblk:=aA (hB.blk hblk (by first|(simp;done)|(simp;omega)));simp [go_sem,hk,c_hblk];refine aG ?_;exact Q2.out _ hB)
 repeat (first|(apply bT (hg:=rfl);case h=>(intro A w' hB hk;simp [known,specOf,Kd.spec,Sp.is,isVar,Oper.looksAt,Op.operands,Call.operands,Act.eval] at hk;have c_hblk:=aA (hB.blk hblk (by first|(simp;done)|(simp;omega)));first|(simp [go_sem,hk,c_hblk];done)|(simp [go_sem,hk,c_hblk];rfl)|(simp [go_sem,c_hblk];rfl)))|(refine aW _ ?_ (by first|exact .inl rfl|exact .inr rfl) (by rfl) (by simp [specOf,Kd.spec];rfl) ?_ rfl ?_;(first|exact Sp.is_stable _ _|exact aK (fun _=>rfl) _|exact spTwo_stable (fun _=>rfl) _ _|exact spFr_stable (fun _=>rfl) _|exact spSum_stable (fun _=>rfl) _|exact spSgn_stable _ _|exact spNb_stable (fun _=>rfl) (fun _=>rfl) _|exact spVc_stable (fun _=>rfl) (fun _=>rfl) _)))
 refine ⟨by first|rfl|decide,fun f w2 hB hF hAp=>?_⟩;simp [Final1,Sp.is,isVar] at hF;simp only [frameOf]
 go_wp2
 go_ret2
 exact ⟨f 6,f 7,rfl,hF.2.1,hF.1,Below.step_trans hbel hB.below⟩
set_option maxHeartbeats 1000000 in
theorem carryOut_odd (oa ob na nb s:Nat) (v v' : Value) (a b x y:Nat) (w:World) (h:Nt w v a) (h' : Nt w v' b) (ha:Lv 40 a) (hb:Lv 40 b) (b1:oa<aD) (b2:ob<aD) (b3:na<aD) (b4:nb<aD)
 (hs:(s:Int).tmod 2=1) (e1:ob*b=x+oa*a) (e2:na*a=y+nb*b) :
 Calls Tryz.prog 192 #[eucV oa ob na nb s,v,v'] w (GivesTwo w x y):=by
 have H:=Lib.hid (And.intro h (And.intro h' (And.intro ha (And.intro hb (And.intro b1 (And.intro b2 (And.intro b3 (And.intro b4 (And.intro e1 e2)))))))))
 clear h h' ha hb b1 b2 b3 b4 e1 e2
 unfold eucV
 go_enter Tryz.func192,Tryz.ntmps192
 go_wp2
 have hblk:=heap_alloc_new w (.cells #[.int .u64 (oa:Int),.int .u64 (ob:Int),.int .u64 (na:Int),.int .u64 (nb:Int),.int .i64 (s:Int)] 229)
 have hbel:Below w.heap.size w (w.alloc (.cells #[.int .u64 (oa:Int),.int .u64 (ob:Int),.int .u64 (na:Int),.int .u64 (nb:Int),.int .i64 (s:Int)] 229)):=(Below.refl _ _).alloc (Nat.le_refl _) _
 generalize w.alloc (.cells #[.int .u64 (oa:Int),.int .u64 (ob:Int),.int .u64 (na:Int),.int .u64 (nb:Int),.int .i64 (s:Int)] 229)=w1 at *
 have q1:∀ w',Base [] w1 w'→Calls Tryz.prog 230 #[.int .u64 (ob:Int),v',.int .u64 (oa:Int),v] w' (TyPost w' (spNt x)):=fun w' hB=>by
  obtain ⟨h,h',ha,hb,b1,b2,b3,b4,e1,e2⟩:=H.out
  have:=GivesNt.ty (nt_difference (x:=ob) (y:=oa) (w:=w') (h'.below (Below.step_trans hbel hB.below)) (h.below (Below.step_trans hbel hB.below)) hb ha b2 b1 (by omega))
  rwa [show ob*b-oa*a=x from by omega] at this
 have q2:∀ w',Base [] w1 w'→Calls Tryz.prog 230 #[.int .u64 (na:Int),v,.int .u64 (nb:Int),v'] w' (TyPost w' (spNt y)):=fun w' hB=>by
  obtain ⟨h,h',ha,hb,b1,b2,b3,b4,e1,e2⟩:=H.out
  have:=GivesNt.ty (nt_difference (x:=na) (y:=nb) (w:=w') (h.below (Below.step_trans hbel hB.below)) (h'.below (Below.step_trans hbel hB.below)) ha hb b3 b4 (by omega))
  rwa [show na*a-nb*b=y from by omega] at this
 have Q1:=Lib.hid q1
 have Q2:=Lib.hid q2
 clear q1 q2
 refine wp_region_ty Ku [] (by kernel_rfl) (by kernel_rfl) ?_
 repeat (first|(apply bT (hg:=rfl);case h=>(intro A w' hB hk;simp [known,specOf,Kd.spec,Sp.is,isVar,Oper.looksAt,Op.operands,Call.operands,Act.eval] at hk;have c_hblk:=aA (hB.blk hblk (by first|(simp;done)|(simp;omega)));first|(simp [go_sem,hk,c_hblk];done)|(simp [go_sem,hk,c_hblk];rfl)|(simp [go_sem,c_hblk];rfl)))|(refine aW _ ?_ (by first|exact .inl rfl|exact .inr rfl) (by rfl) (by simp [specOf,Kd.spec];rfl) ?_ rfl ?_;(first|exact Sp.is_stable _ _|exact aK (fun _=>rfl) _|exact spTwo_stable (fun _=>rfl) _ _|exact spFr_stable (fun _=>rfl) _|exact spSum_stable (fun _=>rfl) _|exact spSgn_stable _ _|exact spNb_stable (fun _=>rfl) (fun _=>rfl) _|exact spVc_stable (fun _=>rfl) (fun _=>rfl) _)))
 refine aQ (spNt x) (aK Ku_u _) rfl (fun A w' hB hk=>?_) ?_;(simp [known,specOf,Kd.spec,Sp.is,isVar,Oper.looksAt,Op.operands,Call.operands,Act.eval] at hk;have c_hblk:=aA (hB.blk hblk (by first|(simp;done)|(simp;omega)));simp [go_sem,hk,c_hblk];refine aG ?_;exact Q1.out _ hB)
 repeat (first|(apply bT (hg:=rfl);case h=>(intro A w' hB hk;simp [known,specOf,Kd.spec,Sp.is,isVar,Oper.looksAt,Op.operands,Call.operands,Act.eval] at hk;have c_hblk:=aA (hB.blk hblk (by first|(simp;done)|(simp;omega)));first|(simp [go_sem,hk,c_hblk];done)|(simp [go_sem,hk,c_hblk];rfl)|(simp [go_sem,c_hblk];rfl)))|(refine aW _ ?_ (by first|exact .inl rfl|exact .inr rfl) (by rfl) (by simp [specOf,Kd.spec];rfl) ?_ rfl ?_;(first|exact Sp.is_stable _ _|exact aK (fun _=>rfl) _|exact spTwo_stable (fun _=>rfl) _ _|exact spFr_stable (fun _=>rfl) _|exact spSum_stable (fun _=>rfl) _|exact spSgn_stable _ _|exact spNb_stable (fun _=>rfl) (fun _=>rfl) _|exact spVc_stable (fun _=>rfl) (fun _=>rfl) _)))
 refine aQ (spNt y) (aK Ku_u _) rfl (fun A w' hB hk=>?_) ?_;(simp [known,specOf,Kd.spec,Sp.is,isVar,Oper.looksAt,Op.operands,Call.operands,Act.eval] at hk;have c_hblk:=aA (hB.blk hblk (by first|(simp;done)|(simp;omega)));simp [go_sem,hk,c_hblk];refine aG ?_;exact Q2.out _ hB)
 repeat (first|(apply bT (hg:=rfl);case h=>(intro A w' hB hk;simp [known,specOf,Kd.spec,Sp.is,isVar,Oper.looksAt,Op.operands,Call.operands,Act.eval] at hk;have c_hblk:=aA (hB.blk hblk (by first|(simp;done)|(simp;omega)));first|(simp [go_sem,hk,c_hblk];done)|(simp [go_sem,hk,c_hblk];rfl)|(simp [go_sem,c_hblk];rfl)))|(refine aW _ ?_ (by first|exact .inl rfl|exact .inr rfl) (by rfl) (by simp [specOf,Kd.spec];rfl) ?_ rfl ?_;(first|exact Sp.is_stable _ _|exact aK (fun _=>rfl) _|exact spTwo_stable (fun _=>rfl) _ _|exact spFr_stable (fun _=>rfl) _|exact spSum_stable (fun _=>rfl) _|exact spSgn_stable _ _|exact spNb_stable (fun _=>rfl) (fun _=>rfl) _|exact spVc_stable (fun _=>rfl) (fun _=>rfl) _)))
 refine ⟨by first|rfl|decide,fun f w2 hB hF hAp=>?_⟩;simp [Final1,Sp.is,isVar] at hF;simp only [frameOf]
 go_wp2
 go_ret2
 exact ⟨f 6,f 7,rfl,hF.2.1,hF.1,Below.step_trans hbel hB.below⟩
def GcdAt (w:World) (a b k:Nat) (v v' : Value) (wr:World):Prop := ∃ x:Nat,Nt wr v x∧Nt wr v' k∧k≤x∧0<x∧Nat.gcd x k=Nat.gcd a b∧Lv 40 x∧Below w.heap.size w wr
theorem nt_simulate {a b:Nat} {v:Value} {A' : Option Addr} {n' c' : Nat} {w:World} (h:Nt w v a) (h' : Nt w (.slice A' n' c') b) (hn' : 2≤n') (hge:b≤a) :
 Calls Tryz.prog 191 #[v,.slice A' n' c'] w (SimGives a b w):=by
 obtain ⟨A,n,c,xs,rfl,hr,hd,hn,rfl⟩:=h
 obtain ⟨A2,n2,c2,ys,e,hr',hd',hn2,rfl⟩:=h'
 injection e with e1 e2 e3
 subst e1;subst e2;subst e3
 have hle:n'≤n:=by
  rcases Nat.lt_or_ge n n' with hlt|hge'
  ·have:=dI eO hd hn2 (by rw [hr.len,hr'.len];exact hlt)
   omega
  ·exact hge'
 exact simulate_any A n c xs A' n' c' ys w hr hr' hd hd' hn hn' hle hge
theorem lift_pos {x k a' b' oa ob na nb s:Nat} (hx:0<x) (hk:k≤x) (f1:x=nb*a'+ob*b') (f4:b'<k) (f5:s%2=0→oa*x=a'+ob*k∧nb*k=b'+na*x)
 (f6:s%2=1→ob*k=a'+oa*x∧na*x=b'+nb*k):1≤nb:=by
 rcases Nat.eq_zero_or_pos nb with e|e
 ·exfalso
  subst e
  have hb:b'=0:=by
   rcases Nat.mod_two_eq_zero_or_one s with e|e
   ·have:=(f5 e).2
    omega
   ·have:=(f6 e).2
    rcases Nat.eq_zero_or_pos na with e|e
    ·subst e;omega
    ·have:=Nat.mul_le_mul_right x e
     omega
  subst hb
  omega
 ·exact e
theorem nt_one {n c:Nat} {A:Option Addr} {b:Nat} {w:World} (h:Nt w (.slice A n c) b) (h1:n=1):∃ ad,A=some ad∧0<b∧b<aD∧w.cell? ad=some (.int .u64 (b:Int)):=by
 obtain ⟨A2,n2,c2,ys,e,hr,hd,hn,hv⟩:=h
 injection e with e1 e2 e3
 subst e1;subst e2;subst e3;subst h1
 obtain ⟨ad,x,hA,_,hx,hc⟩:=hr.at_ Nat.zero_lt_one
 have hl:=hr.len
 match ys,hl,hx with
 | [y],_,hx =>
   simp at hx
   subst hx
   simp [val] at hv
   subst hv
   have hp:0<y:=by simpa [val] using hn.pos bD (by simp)
   exact ⟨ad,hA,hp,hd y (by simp),by simpa [Addr.add] using hc⟩
set_option maxHeartbeats 2000000 in
theorem gcd_any (v v' : Value) (a b:Nat) (w:World) (h:Nt w v a) (h' : Nt w v' b) (ha:Lv 40 a) (hb:Lv 40 b) (h0:0<a∨0<b):Calls Tryz.prog 128 #[v,v'] w (GivesNt w (Nat.gcd a b)):=by
 have H:=Lib.hid (And.intro h (And.intro h' (And.intro ha (And.intro hb h0))))
 have hc:=nt_compare h h'
 have start:∀ w1,Below w.heap.size w w1→(a<b→GcdAt w a b a v' v w1)∧(b≤a→GcdAt w a b b v v' w1):=fun w1 hb1=>by
  obtain ⟨h,h',ha,hb,h0⟩:=H.out
  exact ⟨fun hl=>⟨b,h'.below hb1,h.below hb1,by omega,by omega,Nat.gcd_comm _ _,hb,hb1⟩,fun hl=>⟨a,h.below hb1,h'.below hb1,hl,by omega,rfl,ha,hb1⟩⟩
 have START:=Lib.hid start
 clear h h' ha hb h0 start
 obtain ⟨n0,hn0⟩:∃ n0,n0=min a b:=⟨_,rfl⟩
 by_cases hlt:a<b
 ·rw [show bZ a b = -1 from by unfold bZ;rw [if_pos (by omega)]] at hc
  have HC:=Lib.hid hc
  have HL:=Lib.hid hlt
  obtain rfl:n0=a:=by omega
  clear hc hlt hn0
  go_enter Tryz.func128,Tryz.ntmps128
  go_wp2_with (go_at_call 190;refine HC.out.mono ?_;rintro e w1 ⟨rfl,hb1⟩)
  go_loopg [0,1] n0 (fun k va vb wr=>GcdAt w n0 b k va vb wr)
  case atStart=>exact (START.out w1 hb1).1 HL.out
  case round =>
   obtain ⟨x,hx,hy,hyx,hx0,hg,hlv,hbe⟩:=hrel
   have hy0:=hy
   obtain ⟨A',n',c',ys,rfl,hr',hd',hn',hv'⟩:=hy0
   have hnc' : n'≤c':=hr'.cap
   have hcm' : c'≤9223372036854775807:=hr'.2.2.1
   have hpos:=nt_len_pos hr' hn' hv'
   have HR:=Lib.hid (And.intro hx (And.intro hy (And.intro hyx (And.intro hx0 (And.intro hg (And.intro hlv hbe))))))
   by_cases h1:1<n'
   ·have hs:Calls Tryz.prog 191 #[u0,.slice A' n' c'] wr (fun e w' => ∃ oa ob na nb s:Nat,e = .returned (.agg #[.int .u64 (oa:Int),.int .u64 (ob:Int),.int .u64 (na:Int),.int .u64 (nb:Int),.int .i64 (s:Int)])∧SimOk x gk oa ob na nb s∧Below wr.heap.size wr w'):=nt_simulate hx hy (by omega) hyx
    have HS:=Lib.hid hs
    have HP:=Lib.hid hpos
    clear hs hx hy hyx hx0 hg hlv hbe hr' hd' hn' hv' hpos
    go_wp2_with fail
    refine HS.out.mono ?_
    rintro e w2 ⟨oa,ob,na,nb,s,rfl,hsim,hb2⟩
    have HB2:=Lib.hid (And.intro hsim hb2)
    clear hsim hb2
    have hz2:wr.heap.size≤w2.heap.size:=HB2.out.2.size
    rcases Nat.eq_zero_or_pos s with rfl|hs0
    ·go_wp2_with fail
     refine (fQ (HR.out.1.below ?_) (HR.out.2.1.below ?_) HR.out.2.2.2.2.2.1 (by have:=HP.out;omega)).mono ?_
     ·repeat (first|exact HB2.out.2|(refine Below.setCell ?_ (by first|omega|(simp;done)|(simp;omega)) _)|(refine Below.alloc ?_ (by first|omega|(simp;done)|(simp;omega)) _)|(refine Below.drew ?_)|exact Below.refl _ _)
     ·repeat (first|exact HB2.out.2|(refine Below.setCell ?_ (by first|omega|(simp;done)|(simp;omega)) _)|(refine Below.alloc ?_ (by first|omega|(simp;done)|(simp;omega)) _)|(refine Below.drew ?_)|exact Below.refl _ _)
     rintro e w3 ⟨v1,v2,rfl,q1,q2,q3⟩
     have Q:=Lib.hid (And.intro q1 q2)
     have q4:Below wr.heap.size wr w3:=by
      refine Below.trans ?_ (q3.mono ?_)
      ·repeat (first|exact HB2.out.2|(refine Below.setCell ?_ (by first|omega|(simp;done)|(simp;omega)) _)|(refine Below.alloc ?_ (by first|omega|(simp;done)|(simp;omega)) _)|(refine Below.drew ?_)|exact Below.refl _ _)
      ·simp;omega
     have Q4:=Lib.hid q4
     clear q1 q2 q3 q4
     go_wp2
     go_roundg (x%gk)
     case measure=>exact Nat.mod_lt _ (by have:=HP.out;omega)
     case rel =>
      obtain ⟨hx,hy,hyx,hx0,hg,hlv,hbe⟩:=HR.out
      have hp:=HP.out
      exact ⟨gk,hy.below Q4.out,Q.out.2,Nat.le_of_lt (Nat.mod_lt _ (by omega)),by omega,by rw [← hg,Nat.gcd_comm gk,Nat.gcd_comm x,Nat.gcd_rec gk x],hlv.le hyx,Below.step_trans hbe Q4.out⟩
    ·obtain ⟨hsb,hso⟩:=HB2.out.1
     obtain ⟨l1,l2,l3,l4,a',b',f1,f2,f3,f4,f5,f6⟩:=hso hs0
     have HF:=Lib.hid (And.intro l1 (And.intro l2 (And.intro l3 (And.intro l4 (And.intro f1 (And.intro f2 (And.intro f3 (And.intro f4 (And.intro f5 f6)))))))))
     clear hso l1 l2 l3 l4 f1 f2 f3 f4 f5 f6
     go_wp2_with fail
     have hco:∀ W,Below wr.heap.size wr W→Calls Tryz.prog 192 #[.agg #[.int .u64 (oa:Int),.int .u64 (ob:Int),.int .u64 (na:Int),.int .u64 (nb:Int),.int .i64 (s:Int)],u0,.slice A' n' c'] W (GivesTwo W a' b'):=fun W hW=>by
      obtain ⟨l1,l2,l3,l4,f1,f2,f3,f4,f5,f6⟩:=HF.out
      obtain ⟨hx,hy,hyx,hx0,hg,hlv,hbe⟩:=HR.out
      rcases Nat.mod_two_eq_zero_or_one s with e|e
      ·exact carryOut_even oa ob na nb s _ _ x gk a' b' W (hx.below hW) (hy.below hW) hlv (hlv.le hyx) l1 l2 l3 l4 (by rw [Int.tmod_eq_emod_of_nonneg (by omega)];omega) (f5 e).1 (f5 e).2
      ·exact carryOut_odd oa ob na nb s _ _ x gk a' b' W (hx.below hW) (hy.below hW) hlv (hlv.le hyx) l1 l2 l3 l4 (by rw [Int.tmod_eq_emod_of_nonneg (by omega)];omega) (f6 e).1 (f6 e).2
     refine (hco _ ?_).mono ?_
     ·repeat (first|exact HB2.out.2|(refine Below.setCell ?_ (by first|omega|(simp;done)|(simp;omega)) _)|(refine Below.alloc ?_ (by first|omega|(simp;done)|(simp;omega)) _)|(refine Below.drew ?_)|exact Below.refl _ _)
     rintro e w3 ⟨v1,v2,rfl,q1,q2,q3⟩
     have Q:=Lib.hid (And.intro q1 q2)
     have q4:Below wr.heap.size wr w3:=by
      refine Below.trans ?_ (q3.mono ?_)
      ·repeat (first|exact HB2.out.2|(refine Below.setCell ?_ (by first|omega|(simp;done)|(simp;omega)) _)|(refine Below.alloc ?_ (by first|omega|(simp;done)|(simp;omega)) _)|(refine Below.drew ?_)|exact Below.refl _ _)
      ·simp;omega
     have Q4:=Lib.hid q4
     clear q1 q2 q3 q4 hco
     go_wp2
     go_roundg b'
     case measure=>exact HF.out.2.2.2.2.2.2.2.1
     case rel =>
      obtain ⟨l1,l2,l3,l4,f1,f2,f3,f4,f5,f6⟩:=HF.out
      obtain ⟨hx,hy,hyx,hx0,hg,hlv,hbe⟩:=HR.out
      have hle:a'≤x:=by
       have:=Nat.mul_le_mul_right a' (lift_pos hx0 hyx f1 f4 f5 f6)
       omega
      exact ⟨a',Q.out.1,Q.out.2,Nat.le_of_lt f3,by omega,by rw [← hg];exact gcd_of_lift f1 f2 f5 f6,hlv.le hle,Below.step_trans hbe Q4.out⟩
   ·have hz:n'=0∨n'=1:=by omega
    rcases hz with rfl|rfl
    ·obtain rfl:gk=0:=by omega
     have HI:=Lib.hid hy
     clear hpos hr' hd' hn' hv' hx hy hyx hx0 hg hlv hbe
     go_wp2_with (go_at_call 125;refine (dT HI.out).mono ?_;rintro e w' ⟨rfl,rfl⟩)
     go_ret
     obtain ⟨hx,hy,hyx,hx0,hg,hlv,hbe⟩:=HR.out
     exact ⟨u0,rfl,by rw [← hg,Nat.gcd_zero_right];exact hx,hbe⟩
    ·obtain ⟨ad,rfl,hk0,hkW,hcell⟩:=nt_one hy rfl
     have hz:decide (gk=0)=false:=by simp;omega
     have HI:=Lib.hid (And.intro hk0 hkW)
     clear hpos hr' hd' hn' hv' hx hy hyx hx0 hg hlv hbe hk0 hkW
     go_wp2_with (go_at_call 125;refine (dT HR.out.2.1).mono ?_;rintro e w' ⟨rfl,rfl⟩)
     refine (nt_divideWord HR.out.1 HR.out.2.2.2.2.2.1 HI.out.1 HI.out.2).mono ?_
     rintro e w2 ⟨v1,rfl,q1,q2⟩
     have hcell2:w2.cell? ad=some (.int .u64 (gk:Int)):=(q2.cell (p:=ad) (by
      rcases Nat.lt_or_ge ad.block wr.heap.size with h|h
      ·exact h
      ·rw [World.cell?,Array.getElem?_eq_none h] at hcell;cases hcell)).trans hcell
     obtain ⟨r,hr⟩:∃ r,r=x%gk:=⟨_,rfl⟩
     have hrl:r<aD:=by have:=Nat.mod_lt x HI.out.1;have:=HI.out.2;omega
     rw [← hr]
     have Q2:=Lib.hid (And.intro q2 (And.intro hr hrl))
     clear q1 q2 hcell hr hrl
     go_wp2_with fail
     refine (gcdWords_any gk r _ HI.out.2 Q2.out.2.2).mono ?_
     rintro e w3 ⟨rfl,q3⟩
     have Q3:=Lib.hid q3
     clear q3
     go_wp2_with fail
     refine (cB (Nat.gcd gk r) (Nat.lt_of_le_of_lt (Nat.gcd_le_left _ HI.out.1) HI.out.2) _).mono ?_
     rintro e w4 ⟨v4,rfl,q4,q5⟩
     have Q4:=Lib.hid (And.intro q4 q5)
     clear q4 q5
     go_wp2
     go_ret
     obtain ⟨hx,hy,hyx,hx0,hg,hlv,hbe⟩:=HR.out
     refine ⟨v4,rfl,?_,Below.step_trans hbe (Below.step_trans Q2.out.1 (Below.step_trans Q3.out Q4.out.2))⟩
     have:=Q4.out.1
     rwa [Q2.out.2.1,Nat.gcd_comm,← Nat.gcd_rec,Nat.gcd_comm,hg] at this
 ·have hcc:¬ bZ a b<0:=by unfold bZ;rw [if_neg (by omega)];split <;> omega
  generalize bZ a b=cz at hc hcc
  have HC:=Lib.hid hc
  have HL:=Lib.hid hlt
  obtain rfl:n0=b:=by omega
  clear hc hlt hn0
  go_enter Tryz.func128,Tryz.ntmps128
  go_wp2_with (go_at_call 190;refine HC.out.mono ?_;rintro e w1 ⟨rfl,hb1⟩)
  go_loopg [0,1] n0 (fun k va vb wr=>GcdAt w a n0 k va vb wr)
  case atStart=>exact (START.out w1 hb1).2 (Nat.le_of_not_lt HL.out)
  case round =>
   obtain ⟨x,hx,hy,hyx,hx0,hg,hlv,hbe⟩:=hrel
   have hy0:=hy
   obtain ⟨A',n',c',ys,rfl,hr',hd',hn',hv'⟩:=hy0
   have hnc' : n'≤c':=hr'.cap
   have hcm' : c'≤9223372036854775807:=hr'.2.2.1
   have hpos:=nt_len_pos hr' hn' hv'
   have HR:=Lib.hid (And.intro hx (And.intro hy (And.intro hyx (And.intro hx0 (And.intro hg (And.intro hlv hbe))))))
   by_cases h1:1<n'
   ·have hs:Calls Tryz.prog 191 #[u0,.slice A' n' c'] wr (fun e w' => ∃ oa ob na nb s:Nat,e = .returned (.agg #[.int .u64 (oa:Int),.int .u64 (ob:Int),.int .u64 (na:Int),.int .u64 (nb:Int),.int .i64 (s:Int)])∧SimOk x gk oa ob na nb s∧Below wr.heap.size wr w'):=nt_simulate hx hy (by omega) hyx
    have HS:=Lib.hid hs
    have HP:=Lib.hid hpos
    clear hs hx hy hyx hx0 hg hlv hbe hr' hd' hn' hv' hpos
    go_wp2_with fail
    refine HS.out.mono ?_
    rintro e w2 ⟨oa,ob,na,nb,s,rfl,hsim,hb2⟩
    have HB2:=Lib.hid (And.intro hsim hb2)
    clear hsim hb2
    have hz2:wr.heap.size≤w2.heap.size:=HB2.out.2.size
    rcases Nat.eq_zero_or_pos s with rfl|hs0
    ·go_wp2_with fail
     refine (fQ (HR.out.1.below ?_) (HR.out.2.1.below ?_) HR.out.2.2.2.2.2.1 (by have:=HP.out;omega)).mono ?_
     ·repeat (first|exact HB2.out.2|(refine Below.setCell ?_ (by first|omega|(simp;done)|(simp;omega)) _)|(refine Below.alloc ?_ (by first|omega|(simp;done)|(simp;omega)) _)|(refine Below.drew ?_)|exact Below.refl _ _)
     ·repeat (first|exact HB2.out.2|(refine Below.setCell ?_ (by first|omega|(simp;done)|(simp;omega)) _)|(refine Below.alloc ?_ (by first|omega|(simp;done)|(simp;omega)) _)|(refine Below.drew ?_)|exact Below.refl _ _)
     rintro e w3 ⟨v1,v2,rfl,q1,q2,q3⟩
     have Q:=Lib.hid (And.intro q1 q2)
     have q4:Below wr.heap.size wr w3:=by
      refine Below.trans ?_ (q3.mono ?_)
      ·repeat (first|exact HB2.out.2|(refine Below.setCell ?_ (by first|omega|(simp;done)|(simp;omega)) _)|(refine Below.alloc ?_ (by first|omega|(simp;done)|(simp;omega)) _)|(refine Below.drew ?_)|exact Below.refl _ _)
      ·simp;omega
     have Q4:=Lib.hid q4
     clear q1 q2 q3 q4
     go_wp2
     go_roundg (x%gk)
     case measure=>exact Nat.mod_lt _ (by have:=HP.out;omega)
     case rel =>
      obtain ⟨hx,hy,hyx,hx0,hg,hlv,hbe⟩:=HR.out
      have hp:=HP.out
      exact ⟨gk,hy.below Q4.out,Q.out.2,Nat.le_of_lt (Nat.mod_lt _ (by omega)),by omega,by rw [← hg,Nat.gcd_comm gk,Nat.gcd_comm x,Nat.gcd_rec gk x],hlv.le hyx,Below.step_trans hbe Q4.out⟩
    ·obtain ⟨hsb,hso⟩:=HB2.out.1
     obtain ⟨l1,l2,l3,l4,a',b',f1,f2,f3,f4,f5,f6⟩:=hso hs0
     have HF:=Lib.hid (And.intro l1 (And.intro l2 (And.intro l3 (And.intro l4 (And.intro f1 (And.intro f2 (And.intro f3 (And.intro f4 (And.intro f5 f6)))))))))
     clear hso l1 l2 l3 l4 f1 f2 f3 f4 f5 f6
     go_wp2_with fail
     have hco:∀ W,Below wr.heap.size wr W→Calls Tryz.prog 192 #[.agg #[.int .u64 (oa:Int),.int .u64 (ob:Int),.int .u64 (na:Int),.int .u64 (nb:Int),.int .i64 (s:Int)],u0,.slice A' n' c'] W (GivesTwo W a' b'):=fun W hW=>by
      obtain ⟨l1,l2,l3,l4,f1,f2,f3,f4,f5,f6⟩:=HF.out
      obtain ⟨hx,hy,hyx,hx0,hg,hlv,hbe⟩:=HR.out
      rcases Nat.mod_two_eq_zero_or_one s with e|e
      ·exact carryOut_even oa ob na nb s _ _ x gk a' b' W (hx.below hW) (hy.below hW) hlv (hlv.le hyx) l1 l2 l3 l4 (by rw [Int.tmod_eq_emod_of_nonneg (by omega)];omega) (f5 e).1 (f5 e).2
      ·exact carryOut_odd oa ob na nb s _ _ x gk a' b' W (hx.below hW) (hy.below hW) hlv (hlv.le hyx) l1 l2 l3 l4 (by rw [Int.tmod_eq_emod_of_nonneg (by omega)];omega) (f6 e).1 (f6 e).2
     refine (hco _ ?_).mono ?_
     ·repeat (first|exact HB2.out.2|(refine Below.setCell ?_ (by first|omega|(simp;done)|(simp;omega)) _)|(refine Below.alloc ?_ (by first|omega|(simp;done)|(simp;omega)) _)|(refine Below.drew ?_)|exact Below.refl _ _)
     rintro e w3 ⟨v1,v2,rfl,q1,q2,q3⟩
     have Q:=Lib.hid (And.intro q1 q2)
     have q4:Below wr.heap.size wr w3:=by
      refine Below.trans ?_ (q3.mono ?_)
      ·repeat (first|exact HB2.out.2|(refine Below.setCell ?_ (by first|omega|(simp;done)|(simp;omega)) _)|(refine Below.alloc ?_ (by first|omega|(simp;done)|(simp;omega)) _)|(refine Below.drew ?_)|exact Below.refl _ _)
      ·simp;omega
     have Q4:=Lib.hid q4
     clear q1 q2 q3 q4 hco
     go_wp2
     go_roundg b'
     case measure=>exact HF.out.2.2.2.2.2.2.2.1
     case rel =>
      obtain ⟨l1,l2,l3,l4,f1,f2,f3,f4,f5,f6⟩:=HF.out
      obtain ⟨hx,hy,hyx,hx0,hg,hlv,hbe⟩:=HR.out
      have hle:a'≤x:=by
       have:=Nat.mul_le_mul_right a' (lift_pos hx0 hyx f1 f4 f5 f6)
       omega
      exact ⟨a',Q.out.1,Q.out.2,Nat.le_of_lt f3,by omega,by rw [← hg];exact gcd_of_lift f1 f2 f5 f6,hlv.le hle,Below.step_trans hbe Q4.out⟩
   ·have hz:n'=0∨n'=1:=by omega
    rcases hz with rfl|rfl
    ·obtain rfl:gk=0:=by omega
     have HI:=Lib.hid hy
     clear hpos hr' hd' hn' hv' hx hy hyx hx0 hg hlv hbe
     go_wp2_with (go_at_call 125;refine (dT HI.out).mono ?_;rintro e w' ⟨rfl,rfl⟩)
     go_ret
     obtain ⟨hx,hy,hyx,hx0,hg,hlv,hbe⟩:=HR.out
     exact ⟨u0,rfl,by rw [← hg,Nat.gcd_zero_right];exact hx,hbe⟩
    ·obtain ⟨ad,rfl,hk0,hkW,hcell⟩:=nt_one hy rfl
     have hz:decide (gk=0)=false:=by simp;omega
     have HI:=Lib.hid (And.intro hk0 hkW)
     clear hpos hr' hd' hn' hv' hx hy hyx hx0 hg hlv hbe hk0 hkW
     go_wp2_with (go_at_call 125;refine (dT HR.out.2.1).mono ?_;rintro e w' ⟨rfl,rfl⟩)
     refine (nt_divideWord HR.out.1 HR.out.2.2.2.2.2.1 HI.out.1 HI.out.2).mono ?_
     rintro e w2 ⟨v1,rfl,q1,q2⟩
     have hcell2:w2.cell? ad=some (.int .u64 (gk:Int)):=(q2.cell (p:=ad) (by
      rcases Nat.lt_or_ge ad.block wr.heap.size with h|h
      ·exact h
      ·rw [World.cell?,Array.getElem?_eq_none h] at hcell;cases hcell)).trans hcell
     obtain ⟨r,hr⟩:∃ r,r=x%gk:=⟨_,rfl⟩
     have hrl:r<aD:=by have:=Nat.mod_lt x HI.out.1;have:=HI.out.2;omega
     rw [← hr]
     have Q2:=Lib.hid (And.intro q2 (And.intro hr hrl))
     clear q1 q2 hcell hr hrl
     go_wp2_with fail
     refine (gcdWords_any gk r _ HI.out.2 Q2.out.2.2).mono ?_
     rintro e w3 ⟨rfl,q3⟩
     have Q3:=Lib.hid q3
     clear q3
     go_wp2_with fail
     refine (cB (Nat.gcd gk r) (Nat.lt_of_le_of_lt (Nat.gcd_le_left _ HI.out.1) HI.out.2) _).mono ?_
     rintro e w4 ⟨v4,rfl,q4,q5⟩
     have Q4:=Lib.hid (And.intro q4 q5)
     clear q4 q5
     go_wp2
     go_ret
     obtain ⟨hx,hy,hyx,hx0,hg,hlv,hbe⟩:=HR.out
     refine ⟨v4,rfl,?_,Below.step_trans hbe (Below.step_trans Q2.out.1 (Below.step_trans Q3.out Q4.out.2))⟩
     have:=Q4.out.1
     rwa [Q2.out.2.1,Nat.gcd_comm,← Nat.gcd_rec,Nat.gcd_comm,hg] at this
def aC (s:ByteArray):List UInt8:=s.data.toList
theorem aE (s:ByteArray):(aC s).length=s.size:=by simp [aC]
theorem aS (s:ByteArray) (i j:Nat):aC (s.extract i j)=((aC s).take j).drop i:=by
 unfold aC
 rw [ByteArray.data_extract,Array.toList_extract,List.extract_eq_take_drop]
 rw [List.drop_take]
def sizeOfS:Value→Nat | .string s=>s.size|_=>0
def TextAt (s:ByteArray) (w:World) (d n:Value) (wr:World):Prop :=
 ∃ (r:ByteArray) (a:Nat),d = .string r∧Nt wr n a∧r.size≤s.size∧AllDig (aC r)∧a*10^r.size+aT (aC r)=aT (aC s)∧(a=0∨r.size%19=0)∧Below w.heap.size w wr
theorem lv_pow (k n:Nat) (h:n≤19*2^k) {a:Nat} (ha:a<10^n):Lv k a:=by
 unfold Lv
 have h1:10^n≤10^(19*2^k):=Nat.pow_le_pow_right (by omega) h
 rw [Nat.pow_mul] at h1
 have h2:(10^19)^2^k≤aD^2^k:=Nat.pow_le_pow_left (by rw [aH];omega) _
 omega
theorem text_step {s r:ByteArray} {a e:Nat} (hd:AllDig (aC r)) (h:a*10^r.size+aT (aC r)=aT (aC s)) (h19:a=0∨r.size%19=0) (he:e=(r.size-1)%19+1) (hr:0<r.size) :
 aC (r.extract 0 e)≠[]∧(aC (r.extract 0 e)).length=e∧AllDig (aC (r.extract 0 e))∧AllDig (aC (r.extract e r.size))∧(r.extract e r.size).size=r.size-e∧(r.size-e)%19=0 ∧
 (a*10000000000000000000+aT (aC (r.extract 0 e)))*10^(r.size-e)+aT (aC (r.extract e r.size))=aT (aC s):=by
 have hl:=aE r
 have hle:e≤r.size:=by have:=Nat.mod_le (r.size-1) 19;omega
 have e1:aC (r.extract 0 e)=(aC r).take e:=by rw [aS,List.drop_zero]
 have e2:aC (r.extract e r.size)=(aC r).drop e:=by rw [aS,List.take_of_length_le (by omega)]
 have l1:((aC r).take e).length=e:=by rw [List.length_take];omega
 refine ⟨by rw [e1];intro h0;rw [h0] at l1;simp at l1;omega,by rw [e1];exact l1,by rw [e1];exact hd.take _,by rw [e2];exact hd.drop _,by simp,by omega,?_⟩
 rw [e1,e2,← h]
 have hap:=fO ((aC r).take e) ((aC r).drop e)
 rw [List.take_append_drop,List.length_drop,hl] at hap
 rw [hap,Nat.add_mul]
 have hm:a*10000000000000000000*10^(r.size-e)=a*10^r.size:=by
  rcases h19 with h0|h0
  ·subst h0;rw [Nat.zero_mul,Nat.zero_mul]
  ·have:e=19:=by omega
   subst this
   have hp:r.size=19+(r.size-19):=by omega
   have hp2:10^r.size=10^19*10^(r.size-19):=by
    rw [← Nat.pow_add,← hp]
   rw [hp2,Nat.mul_assoc]
 rw [hm,Nat.add_assoc]
set_option maxHeartbeats 2000000 in
theorem naturalText_any (s:ByteArray) (w:World) (hs:s.size≤100000) (hd:AllDig (aC s)):Calls Tryz.prog 64 #[.string s] w (GivesNt w (aT (aC s))):=by
 have H:=Lib.hid (And.intro hs hd)
 clear hs hd
 go_enter Tryz.func64,Tryz.ntmps64
 go_wp2
 go_loopw [0,3] (fun d n wr=>TextAt s w d n wr) (fun d _ _=>sizeOfS d)
 case atStart=>exact ⟨s,0,rfl,Nt.zero w,Nat.le_refl _,H.out.2,by rw [Nat.zero_mul,Nat.zero_add],.inl rfl,Below.refl _ _⟩
 case round =>
  obtain ⟨r,a,rfl,hn,hrs,hdig,hval,h19,hb⟩:=hrel
  have hr1:(r.size:Int)≤100000:=by have:=H.out.1;omega
  rcases Nat.eq_zero_or_pos r.size with h0|h0
  ·have hz:decide (0<r.size)=false:=by rw [decide_eq_false_iff_not];omega
   have H0:=Lib.hid (And.intro h0 (And.intro hn (And.intro hval hb)))
   clear h0 hn hrs hdig hval h19 hb hr1
   go_wp2
   go_ret
   obtain ⟨h0,hn,hval,hb⟩:=H0.out
   refine ⟨_,rfl,?_,hb⟩
   have:aC r = []:=List.eq_nil_of_length_eq_zero (by rw [aE];exact h0)
   rw [this,h0,aT,eC,Nat.pow_zero,Nat.mul_one,Nat.add_zero] at hval
   rw [← hval]
   exact hn
  ·obtain ⟨e,he⟩:∃ e,e=(r.size-1)%19+1:=⟨_,rfl⟩
   obtain ⟨t1,t2,t3,t4,t5,t6,t7⟩:=text_step hdig hval h19 he h0
   have hle:e≤r.size:=by have:=Nat.mod_le (r.size-1) 19;omega
   have hl19:e≤19:=by have:=Nat.mod_lt (r.size-1) (y:=19) (by omega);omega
   have hei:((r.size:Int)-1).tmod 19+1=e:=by rw [Int.tmod_eq_emod_of_nonneg (by omega)];omega
   have hei2:((r.size:Int)-1)%19+1=e:=by omega
   have hp0:(0:Int)<(r.size:Int):=by omega
   have hle' : (e:Int)≤(r.size:Int):=by omega
   have HT:=Lib.hid (And.intro hn (And.intro hrs (And.intro hdig (And.intro hval (And.intro h19 (And.intro hb (And.intro he (And.intro t1 (And.intro t2 (And.intro t3 (And.intro t4 (And.intro t5 (And.intro t6 t7)))))))))))))
   clear hn hrs hdig hval h19 hb he t1 t2 t3 t4 t5 t6 t7 h0
   go_wp2_with fail
   have hp:=Tryz.strconv_ParseUint_10_at64_ok (r.extract 0 e) (by simp;omega) (aT (aC (r.extract 0 e))) (by
    obtain ⟨_,_,_,_,_,_,_,t1,t2,t3,_⟩:=HT.out
    exact parseUint_ok t3 t1 (Nat.le_trans (Nat.le_of_eq t2) hl19)) wr
   refine hp.mono ?_
   rintro e1 w2 ⟨rfl,hw2⟩
   have hb2:Below wr.heap.size wr w2:=by
    rcases hw2 with rfl|rfl
    ·exact Below.refl _ _
    ·exact Go.Joins.below_bytesWorld _ _ _ _ (Nat.le_refl _)
   have B2:=Lib.hid hb2
   clear hp hw2 hb2
   obtain ⟨u,hu⟩:∃ u,u=aT (aC (r.extract 0 e)):=⟨_,rfl⟩
   rw [← hu]
   have hul:u<aD:=by
    obtain ⟨_,_,_,_,_,_,_,t1,t2,t3,_⟩:=HT.out
    have:=natOf_lt t3
    rw [t2] at this
    have h2:10^e≤10^19:=Nat.pow_le_pow_right (by omega) hl19
    rw [hu]
    rw [aH]
    omega
   have HU:=Lib.hid (And.intro hu hul)
   clear hu hul
   have hv:Lv 13 a:=by
    obtain ⟨hn,hrs,hdig,hval,_⟩:=HT.out
    refine lv_pow 13 s.size (by have:=H.out.1;omega) (Nat.lt_of_le_of_lt ?_ (by rw [← aE];exact natOf_lt H.out.2))
    rw [← hval]
    exact Nat.le_trans (Nat.le_mul_of_pos_right _ (Nat.pow_pos (by omega))) (Nat.le_add_right _ _)
   have HV:=Lib.hid hv
   clear hv
   go_wp2_with fail
   refine (cB 10000000000000000000 (by rw [aH];omega) _).mono ?_
   rintro e3 w3 ⟨v3,rfl,q3,b3⟩
   have Q3:=Lib.hid (And.intro q3 b3)
   clear q3 b3
   go_wp2_with fail
   refine (nt_times (HT.out.1.below (Below.step_trans B2.out Q3.out.2)) Q3.out.1 (HV.out.mono (by omega)) (Lv.one _ (by rw [aH];omega))).mono ?_
   rintro e4 w4 ⟨v4,rfl,q4,b4⟩
   have Q4:=Lib.hid (And.intro q4 b4)
   clear q4 b4
   go_wp2_with fail
   refine (cB u HU.out.2 _).mono ?_
   rintro e5 w5 ⟨v5,rfl,q5,b5⟩
   have Q5:=Lib.hid (And.intro q5 b5)
   clear q5 b5
   go_wp2_with fail
   refine (nt_plus (Q4.out.1.below Q5.out.2) Q5.out.1 ((HV.out.mul (Lv.one (k:=13) _ (by rw [aH];omega))).mono (by omega)) (Lv.one _ HU.out.2)).mono ?_
   rintro e6 w6 ⟨v6,rfl,q6,b6⟩
   have Q6:=Lib.hid (And.intro q6 b6)
   clear q6 b6
   go_wp2
   go_roundw
   case rel =>
    obtain ⟨hn,hrs,hdig,hval,h19,hb,he,t1,t2,t3,t4,t5,t6,t7⟩:=HT.out
    refine ⟨r.extract e r.size,_,rfl,Q6.out.1,by rw [t5];omega,t4,?_,.inr (by rw [t5];exact t6),Below.step_trans hb (Below.step_trans B2.out (Below.step_trans Q3.out.2 (Below.step_trans Q4.out.2 (Below.step_trans Q5.out.2 Q6.out.2))))⟩
    rw [t5,HU.out.1]
    exact t7
   case measure =>
    have:=HT.out.2.2.2.2.2.2.1
    simp [sizeOfS]
    omega
def D19:Nat:=10000000000000000000
theorem D19_eq:D19=10000000000000000000:=rfl
theorem row_below {B:Nat} {e:TypeId} {k:Nat} {v:Value} {n:Nat} {xs:List Value} {w w' : World} (h:w.ownsRow B e k v n xs) (hb:Below w.heap.size w w'):w'.ownsRow B e k v n xs:=by
 obtain ⟨h1,h2⟩:=h
 refine ⟨h1,?_⟩
 rcases h2 with h2|⟨g,cap,cur,e1,e2,e3,e4⟩
 ·exact .inl h2
 ·exact .inr ⟨g,cap,cur,e1,e2,(hb.block g (lt_of_block e3)).trans e3,e4⟩
theorem builder_below {T e:TypeId} {B b:Nat} {bs:List Value} {w w' : World} (h:Lib.IsBuilder T e B b bs w) (hb:Below w.heap.size w w'):Lib.IsBuilder T e B b bs w':=by
 unfold Lib.IsBuilder Lib.BuilderAt at *
 rcases h with ⟨h1,v,h2,h3,h4⟩|⟨h1,v,h2,h3,h4⟩
 ·exact .inl ⟨h1,v,(hb.block b (lt_of_block h2)).trans h2,row_below h3 hb,h4⟩
 ·exact .inr ⟨h1,v,(hb.block b (lt_of_block h2)).trans h2,row_below h3 hb,h4⟩
def ChunkAt (w:World) (a k:Nat) (va vs:Value) (wr:World):Prop :=
 ∃ (m:Nat) (ws:List Nat),Nt wr va k∧k=a/D19^m∧wr.ownsRow w.heap.size 151 1 vs m (ws.map cellU)∧(∀ i,i<m→ws[i]?=some (a/D19^i%D19))∧(m=0∨0<k)∧Below w.heap.size w wr
theorem chunk_bound {a k m:Nat} (ha:Lv 20 a) (hk:k=a/D19^m) (h0:m=0∨0<k):m≤2097152:=by
 rcases Nat.lt_or_ge 2097152 m with h|h
 ·exfalso
  have hk0:0<k:=by omega
  rw [hk] at hk0
  have h1:D19^m≤a:=by
   rcases Nat.lt_or_ge a (D19^m) with h'|h'
   ·rw [Nat.div_eq_of_lt h'] at hk0;omega
   ·exact h'
  unfold Lv at ha
  obtain ⟨e,he⟩:∃ e,e=2^20:=⟨_,rfl⟩
  rw [← he] at ha
  have h5:(2*e:Nat)=2097152:=by rw [he]
  have h2:D19^(2*e)≤D19^m:=Nat.pow_le_pow_right (by rw [D19_eq];omega) (by omega)
  have h3:D19^(2*e)=(D19^2)^e:=Nat.pow_mul _ _ _
  have h4:aD^e≤(D19^2)^e:=Nat.pow_le_pow_left (by rw [aH,D19_eq];omega) _
  rw [← h3] at h4
  exact absurd (Nat.lt_of_lt_of_le ha (Nat.le_trans h4 (Nat.le_trans h2 h1))) (Nat.lt_irrefl _)
 ·exact h
theorem chunk_next {w w2:World} {a k:Nat} {v1 vs' : Value} {m:Nat} {ws:List Nat} (hk:k=a/D19^m) (hw:∀ i,i<m→ws[i]?=some (a/D19^i%D19)) (hl:ws.length=m) (hn:Nt w2 v1 (k/D19)) (hk0:aD≤k)
 (ho:w2.ownsRow w.heap.size 151 1 vs' (m+1) (ws.map cellU ++ [.int .u64 ((k%D19:Nat):Int)])) (hb:Below w.heap.size w w2):ChunkAt w a (k/D19) v1 vs' w2:=by
 refine ⟨m+1,ws ++ [k%D19],hn,?_,?_,?_,.inr ?_,hb⟩
 ·rw [Nat.pow_succ,← Nat.div_div_eq_div_mul,← hk]
 ·rw [List.map_append];exact ho
 ·intro i hi
  rcases Nat.lt_or_ge i m with h|h
  ·rw [List.getElem?_append_left (by omega)];exact hw i h
  ·have:i=m:=by omega
   subst this
   rw [List.getElem?_append_right (by omega),hl,Nat.sub_self,← hk]
   rfl
 ·have:D19≤aD:=by rw [D19_eq,aH];omega
  exact Nat.div_pos (by omega) (by rw [D19_eq];omega)
theorem row_own {w:World} {base:Nat} {e:TypeId} {k:Nat} {v:Value} {n:Nat} {xs:List Value} (h:w.ownsRow base e k v n xs):∀ b,v.ownBlock=some b→base≤b:=by
 rintro b hb
 rcases h.2 with ⟨rfl,_⟩|⟨g,cap,cur,rfl,e2,_⟩
 ·cases hb
 ·injection hb with hb
  rw [← hb];exact e2
theorem row_ne {w:World} {base:Nat} {e:TypeId} {k:Nat} {v:Value} {n:Nat} {xs:List Value} (h:w.ownsRow base e k v n xs):some w.heap.size≠v.ownBlock:=by
 rcases h.2 with ⟨rfl,_⟩|⟨g,cap,cur,rfl,e2,e3,_⟩
 ·intro h;cases h
 ·intro h
  injection h with h
  have h2:w.heap.size=g:=h
  have:=lt_of_block e3
  omega
theorem nt_grown {w w' : World} {v:Value} {a:Nat} {row:Option Nat} (h:Nt w v a) (hg:w.grownBy w' row) (hne:v.ownBlock≠row):Nt w' v a:=by
 obtain ⟨A,n,c,xs,rfl,hr,hd,hn,ha⟩:=h
 refine ⟨A,n,c,xs,rfl,⟨hr.1,hr.2.1,hr.2.2.1,fun hp=>?_⟩,hd,hn,ha⟩
 obtain ⟨ad,e,hl,hc⟩:=hr.2.2.2 hp
 subst e
 exact ⟨ad,rfl,Nat.lt_of_lt_of_le hl hg.size,fun j x hj=>hg.cell (hc j x hj) (by rw [bN];exact hne)⟩
theorem add_plain' (b o j:Nat):(⟨b,o,none⟩:Addr).add j=⟨b,o+j,none⟩:=Lib.add_plain b o j
theorem row_rd {w:World} {base m:Nat} {e:TypeId} {v:Value} {ws:List Nat} (h:w.ownsRow base e 1 v m (ws.map cellU)):∃ A c,v = .slice A m c∧Rd w A m c ws:=by
 obtain ⟨h1,h2⟩:=h
 have hl:ws.length=m:=by simpa using h1
 rcases h2 with ⟨rfl,rfl⟩|⟨g,cap,cur,rfl,e2,e3,e4,e5,e6,e7⟩
 ·have:ws = []:=List.eq_nil_of_length_eq_zero hl
  subst this
  exact ⟨none,0,rfl,Rd.nil⟩
 ·refine ⟨_,cap,rfl,hl,e4,e5,fun _=>⟨_,rfl,lt_of_block e3,fun j x hx=>?_⟩⟩
  rw [add_plain',aA e3,← Array.getElem?_toList]
  have hj:(cur.toList.take (m*1))[0+j]?=some (.int .u64 (x:Int)):=by rw [e7,Nat.zero_add,List.getElem?_map,hx];rfl
  rw [List.getElem?_take] at hj
  split at hj
  ·exact hj
  ·cases hj
theorem new_builder (w:World) (T e:TypeId):Lib.IsBuilder T e w.heap.size w.heap.size [] (w.alloc (.cells #[.pointer none,.slice none 0 0] T)) :=
 .inl ⟨Nat.le_refl _,_,heap_alloc_new w _,⟨rfl,.inl ⟨rfl,rfl⟩⟩,by simp [Value.ownBlock]⟩
theorem dsize (l:List UInt8):(⟨l.toArray⟩:ByteArray).size=l.length:=by simp [ByteArray.size]
theorem rep_one (n:Nat):Lib.repeatL [48] n=List.replicate n 48:=by
 induction n with
 | zero=>rfl
 | succ n ih=>rw [Lib.repeatL,ih,List.replicate_succ];rfl
theorem dec_len20 {a:Nat} (ha:Lv 20 a):(Lib.decDigits a).length≤20971520:=by
 unfold Lv at ha
 obtain ⟨e,he⟩:∃ e,e=2^20:=⟨_,rfl⟩
 rw [← he] at ha
 have h4:aD^e≤(10^20)^e:=Nat.pow_le_pow_left (by rw [aH];omega) _
 rw [← Nat.pow_mul] at h4
 have:(20*e:Nat)=20971519+1:=by rw [he]
 rw [this] at h4
 exact dec_length_le 20971519 a (Nat.lt_of_lt_of_le ha h4)
theorem chunk_text {a j x:Nat} (hx:x=a/D19^j%D19) (hp:0<a/D19^(j+1)):(Lib.decDigits x).length≤19 ∧
 Lib.decDigits (a/D19^(j+1))++(List.replicate (19-(Lib.decDigits x).length) 48++Lib.decDigits x)=Lib.decDigits (a/D19^j):=by
 have hxl:x<10000000000000000000:=by rw [hx];exact Nat.mod_lt _ (by rw [D19_eq];omega)
 obtain ⟨h1,h2⟩:=dec_chunk hp hxl
 refine ⟨h1,?_⟩
 rw [← h2]
 congr 1
 rw [hx,Nat.pow_succ,← Nat.div_div_eq_div_mul,← D19_eq]
 have:=Nat.div_add_mod (a/D19^j) D19
 rw [Nat.mul_comm] at this
 exact this
set_option maxHeartbeats 2000000 in
theorem text_any (v:Value) (a:Nat) (w:World) (h:Nt w v a) (ha:Lv 20 a) (hlaid:Laid w):Calls Tryz.prog 207 #[v] w fun e w'=>e = .returned (.string ⟨(Lib.decDigits a).toArray⟩)∧Below w.heap.size w w':=by
 have H:=Lib.hid (And.intro h (And.intro ha hlaid))
 clear h ha hlaid
 obtain ⟨i0,hi,hz0,hz1,hz2⟩:=info_parts eY
 have HI:=Lib.hid (And.intro hi (And.intro hz0 (And.intro hz1 hz2)))
 clear hi hz0 hz1 hz2
 go_enter Tryz.func207,Tryz.ntmps207
 go_wp2
 go_loopg [0,3] a (fun k va vs wr=>ChunkAt w a k va vs wr)
 case atStart=>exact ⟨0,[],H.out.1,by simp,⟨rfl,.inl ⟨rfl,rfl⟩⟩,fun i hi=>absurd hi (by omega),.inl rfl,Below.refl _ _⟩
 case round =>
  obtain ⟨m,ws,hn,hk,hrow,hws,hk0,hb⟩:=hrel
  have HM:=Lib.hid (chunk_bound H.out.2.1 hk hk0)
  have hlen:ws.length=m:=by have:=hrow.1;simpa using this
  have hlvk:Lv 20 gk:=H.out.2.1.le (by rw [hk];exact Nat.div_le_self _ _)
  obtain ⟨A,n,c,xs,rfl,hr,hd,hno,hval⟩:=id hn
  have hnc:n≤c:=hr.cap
  have hcm:c≤9223372036854775807:=hr.2.2.1
  by_cases h1:1<n
  ·have hbig:aD≤gk:=by
    rcases Nat.lt_or_ge gk aD with hlt|hge
    ·exfalso
     have:=aV eO hno (L:=1) (by rw [hval,Nat.pow_one];exact hlt)
     rw [hr.len] at this
     omega
    ·exact hge
   have HC:=Lib.hid (And.intro hn (And.intro hk (And.intro hrow (And.intro hws (And.intro hlen (And.intro hlvk (And.intro hbig hb)))))))
   clear hr hd hno hval hn hk hrow hws hk0 hb hlen hlvk hbig
   go_wp2_with fail
   refine (nt_divideWord_own (d:=10000000000000000000) HC.out.1 (HC.out.2.2.2.2.2.1.mono (by omega)) (by omega) (by rw [aH];omega)).mono ?_
   rintro e w2 ⟨v1,rfl,q1,q0,q2⟩
   obtain ⟨r,hr⟩:∃ r,r=gk%10000000000000000000:=⟨_,rfl⟩
   rw [← hr]
   have Q:=Lib.hid (And.intro q1 (And.intro q2 (And.intro hr q0)))
   have hz2:wr.heap.size≤w2.heap.size:=q2.size
   have hown2:=Lib.hid (row_below HC.out.2.2.1 q2)
   clear q1 q2 hr q0
   go_wp2_with (at_builtin;refine wpList_append_own _ rfl _ _ 102 rfl w.heap.size 151 i0 (.int .u64 0) 1 8 Tryz.underlying102 HI.out.1 HI.out.2.1 HI.out.2.2.1 HI.out.2.2.2 rfl (by decide) _ _ _ rfl (hown2.out.alloc _) ⟨w2.heap.size,0,none⟩ 1 1 [.int .u64 (r:Int)] rfl rfl ?c1 ?c2 ?c3 ?c4 ?c5 ?_)
   case c1 =>
    intro j u hj
    match j with
    | 0 =>
      simp only [List.getElem?_cons_zero,Option.some.injEq] at hj
      subst hj
      exact aA (heap_alloc_new w2 _) 0
    | j+1=>simp at hj
   case c2=>intro u hu;simp at hu;subst hu;rfl
   case c3=>have:=HM.out;show m+1≤9223372036854775807;omega
   case c4=>have:=HM.out;omega
   case c5=>have:=HC.out.2.2.2.2.2.2.2.size;simp;omega
   intro v' w3 hr3 hg3 _
   have hbx:Below w.heap.size w w3:=by
    refine Below.grown ((HC.out.2.2.2.2.2.2.2.trans (Q.out.2.1.mono HC.out.2.2.2.2.2.2.2.size)).alloc (by have:=HC.out.2.2.2.2.2.2.2.size;omega) _) hg3 (by have:=HC.out.2.2.2.2.2.2.2.size;simp;omega) (row_own HC.out.2.2.1)
   have hnx:Nt w3 v1 (gk/D19):=by
    refine nt_grown (Nt.below Q.out.1 ((Below.refl _ _).alloc (Nat.le_refl _) _)) hg3 ?_
    rw [Q.out.2.2.2]
    exact row_ne HC.out.2.2.1
   have HX:=Lib.hid (chunk_next HC.out.2.1 HC.out.2.2.2.1 HC.out.2.2.2.2.1 hnx HC.out.2.2.2.2.2.2.1 (by have:=Q.out.2.2.1;rw [D19_eq,← this];exact hr3) hbx)
   clear hr3 hg3 hbx hnx
   go_wp2
   go_roundg (gk/D19)
   case measure=>have:=HC.out.2.2.2.2.2.2.1;exact Nat.div_lt_self (by rw [aH] at this;omega) (by rw [D19_eq];omega)
   case rel=>exact HX.out
  ·obtain ⟨W0,rfl⟩:∃ W0,W0=wr:=⟨_,rfl⟩
   have hsmall:gk<aD:=by
    rw [← hval]
    have:=bV hd
    rw [hr.len] at this
    exact Nat.lt_of_lt_of_le this (by rw [show aD=aD^1 from (Nat.pow_one _).symm];rw [← Nat.pow_mul,Nat.one_mul];exact Nat.pow_le_pow_right bD (by omega))
   obtain ⟨A3,c3,rfl,hrd⟩:=row_rd hrow
   have hc3:m≤c3:=hrd.cap
   have hc3m:c3≤9223372036854775807:=hrd.2.2.1
   have hlw:Laid W0:=H.out.2.2.below hb
   have HC:=Lib.hid (And.intro hn (And.intro hk (And.intro hrd (And.intro hws (And.intro hk0 (And.intro hsmall (And.intro hlw hb)))))))
   clear hr hd hno hval hn hk hrow hws hk0 hb hlen hlvk hsmall hrd hlw
   go_wp2_with fail
   refine (nt_low (HC.out.1.below ((Below.refl _ _).alloc (Nat.le_refl _) _))).mono ?_
   rintro e w' ⟨rfl,rfl⟩
   rw [Nat.mod_eq_of_lt HC.out.2.2.2.2.2.1]
   go_wp2_with fail
   refine (formatUint_any gk (by have:=HC.out.2.2.2.2.2.1;rw [aH] at this;exact this) _ (HC.out.2.2.2.2.2.2.1.below ((Below.refl _ _).alloc (Nat.le_refl _) _))).mono ?_
   rintro e w3 ⟨rfl,q3⟩
   have hB3:Lib.IsBuilder 219 5 W0.heap.size W0.heap.size [] w3:=builder_below (new_builder W0 _ _) q3
   have hb3:Below W0.heap.size W0 w3:=((Below.refl _ _).alloc (Nat.le_refl _) _).trans (q3.mono (by simp))
   have Q3:=Lib.hid (And.intro hB3 hb3)
   clear q3 hB3 hb3
   go_wp2_with fail
   refine (write_string W0.heap.size W0.heap.size [] _ w3 Q3.out.1 (by have:=dec_len20 (HC.out.2.1▸H.out.2.1.le (Nat.div_le_self a (D19^m)):Lv 20 gk);rw [dsize];simp;omega) Q3.out.2.size).mono ?_
   rintro e w4 ⟨rfl,q4,b4⟩
   have q4' : Lib.IsBuilder 219 5 W0.heap.size W0.heap.size (Lib.byteCells (Lib.decDigits (a/D19^m))) w4:=by
    rw [← HC.out.2.1]
    exact .inr q4
   have Q4:=Lib.hid (And.intro q4' (Q3.out.2.trans b4))
   clear q4 q4' b4
   go_wp2
   go_loopw [7] (fun i w5 => ∃ j:Nat,j≤m∧i = .int .i64 ((j:Int)-1)∧Lib.IsBuilder 219 5 W0.heap.size W0.heap.size (Lib.byteCells (Lib.decDigits (a/D19^j))) w5∧Below W0.heap.size W0 w5) (fun i _=>(intOf i+1).toNat)
   case atStart=>exact ⟨m,Nat.le_refl _,rfl,Q4.out.1,Q4.out.2⟩
   case round =>
    obtain ⟨j,hj,rfl,hbu,hb5⟩:=hrel
    have HJ:=Lib.hid (And.intro hj (And.intro hbu hb5))
    rcases Nat.eq_zero_or_pos j with rfl|hj0
    ·simp only [show (((0:Nat):Int)-1) = -1 from rfl]
     clear hj hbu hb5
     go_wp2_with fail
     refine (Tryz.Builder_String_any _ _ _ _ HJ.out.2.1 HJ.out.2.2.size).mono ?_
     rintro e w6 ⟨rfl,b6⟩
     have B6:=Lib.hid b6
     clear b6
     go_wp2
     go_ret
     exact ⟨rfl,HC.out.2.2.2.2.2.2.2.trans ((HJ.out.2.2.trans B6.out).mono HC.out.2.2.2.2.2.2.2.size)⟩
    ·obtain ⟨t,rfl⟩:∃ t,j=t+1:=⟨j-1,by omega⟩
     obtain ⟨ad,x,hA,hadl,hx,hcx⟩:=(HC.out.2.2.1.below hb5).at_ (k:=t) (by omega)
     subst hA
     have hx2:x=a/D19^t%D19:=by
      have:=HC.out.2.2.2.1 t (by omega)
      rw [hx] at this
      injection this
     have hq0:0<a/D19^(t+1):=by
      have hk:=HC.out.2.2.2.2.1
      have h1:=HC.out.2.1
      have h2:0<a/D19^m:=by rw [← h1];omega
      have h3:D19^(t+1)≤D19^m:=Nat.pow_le_pow_right (by rw [D19_eq];omega) hj
      have h4:a/D19^m≤a/D19^(t+1):=Nat.div_le_div_left h3 (Nat.pow_pos (by rw [D19_eq];omega))
      omega
     obtain ⟨hl19,hcat⟩:=chunk_text hx2 hq0
     have hxl:x<18446744073709551616:=by
      have:=Nat.mod_lt (a/D19^t) (show 0<D19 by rw [D19_eq];omega)
      rw [← hx2,D19_eq] at this
      omega
     have hL19:((Lib.decDigits x).length:Int)≤19:=by omega
     have hL:True:=trivial
     have hidx:(((t+1:Nat):Int)-1)=t:=by omega
     have ht:(t:Int)<m:=by omega
     have HT:=Lib.hid (And.intro hcat (And.intro hxl (And.intro hL (And.intro hl19 (HC.out.2.2.2.2.2.2.1.below hb5)))))
     simp only [hidx]
     clear hidx hx hx2 hq0 hl19 hcat hxl hj hbu hb5 hj0
     go_wp2_with fail
     refine (formatUint_any x HT.out.2.1 _ HT.out.2.2.2.2).mono ?_
     rintro e w6 ⟨rfl,b6⟩
     have B6:=Lib.hid b6
     clear b6
     have hc19:(19:Int)-(Lib.decDigits x).length=((19-(Lib.decDigits x).length:Nat):Int):=by omega
     have hb6:Below W0.heap.size W0 w6:=HJ.out.2.2.trans (B6.out.mono HJ.out.2.2.size)
     have hB6:=builder_below HJ.out.2.1 B6.out
     have Q6:=Lib.hid (And.intro hB6 hb6)
     have hlen0:(Lib.decDigits (a/D19^(t+1))).length≤20971520:=dec_len20 (H.out.2.1.le (Nat.div_le_self _ _))
     have HL0:=Lib.hid hlen0
     clear hb6 hB6 hlen0
     go_wp2_with fail
     refine (Tryz.strings_Repeat ⟨#[48]⟩ (19-(Lib.decDigits x).length) w6 (by omega) (by simp [ByteArray.size];omega)).mono ?_
     rintro e w7 ⟨rfl,b7⟩
     have B7:=Lib.hid b7
     clear b7
     go_wp2_with fail
     have hrep:Lib.repeatL (⟨#[48]⟩:ByteArray).data.toList (19-(Lib.decDigits x).length)=List.replicate (19-(Lib.decDigits x).length) 48:=rep_one _
     rw [hrep]
     refine (write_string W0.heap.size W0.heap.size _ _ w7 (builder_below Q6.out.1 B7.out) (by rw [dsize,Lib.byteCells_length,List.length_replicate];have:=HL0.out;omega) (Nat.le_trans Q6.out.2.size B7.out.size)).mono ?_
     rintro e w8 ⟨rfl,q8,b8⟩
     have Q8:=Lib.hid (And.intro (show Lib.IsBuilder 219 5 W0.heap.size W0.heap.size _ w8 from .inr q8) (Q6.out.2.trans ((B7.out.mono Q6.out.2.size).trans b8)))
     clear q8 b8 hrep
     go_wp2_with fail
     refine (write_string W0.heap.size W0.heap.size _ _ w8 Q8.out.1 (by
      rw [dsize,List.length_append,Lib.byteCells_length,Lib.strCells_length,dsize,List.length_replicate]
      have:=HL0.out
      have:=HT.out.2.2.2.1
      omega) Q8.out.2.size).mono ?_
     rintro e w9 ⟨rfl,q9,b9⟩
     have Q9:=Lib.hid (And.intro q9 (Q8.out.2.trans b9))
     clear q9 b9
     go_wp2
     go_roundw
     case rel =>
      refine ⟨t,by have:=HJ.out.1;omega,rfl,.inr ?_,Q9.out.2⟩
      have:=Q9.out.1
      rw [Lib.strCells_eq,Lib.strCells_eq,← Lib.byteCells_append,← Lib.byteCells_append,List.append_assoc] at this
      simp only [List.toList_toArray] at this
      rw [HT.out.1] at this
      exact this
     case measure=>simp [intOf]
end Go.Proofs.YtofcdondmgojiaaGreatDoor
