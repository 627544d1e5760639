/- Parts of the proof, joined. -/
import Derived.Test.YtejbgingjeedaaaGreatDoorJ12
import Derived.Deep.LoopGhost
import Derived.Test.YtejbgingjeedaaaGreatDoorJ11
set_option linter.unusedSimpArgs false
set_option linter.unusedVariables false
namespace Go.Proofs.YtejbgingjeedaaaGreatDoor
open Go.RowKit Pl
def GInv (f N G m1 rs:Nat):Prop:=m1*f+rs=N∧G≤m1∧m1≤2000000000∧rs<1000000000
def gMu (v:Value):Nat:=(intOf v).toNat
set_option maxHeartbeats 2000000 in
set_option maxRecDepth 100000 in
theorem rguess_any (A:Option Addr) (n c:Nat) (xs:List Nat) (A' : Option Addr) (m n' c' : Nat) (ys:List Nat) (j:Nat) (w:World) (h:Ri w A n c xs) (hm2:n'=m+2) (h' : Ri w A' n' c' ys) (hd:Dig B9 xs) (hd' : Dig B9 ys)
 (hn:n≤2199023255999) (hj:j+(m+2)<n) (hi mid low f s:Nat) (g0:xs[j+(m+2)]?=some hi) (g1:xs[j+(m+1)]?=some mid) (g2:xs[j+m]?=some low) (g3:ys[m+1]?=some f) (g4:ys[m]?=some s) (hf0:0<f) (hle:hi≤f) :
 Calls Tryz.prog 251 #[.slice A n c,.slice A' n' c',.int .i64 (j:Int)] w (Gives w (.int .i64 ((gD (hi*B9+mid) low f s:Nat):Int))):=by
 have hnc:n≤c:=h.cap
 have hcm:c≤9223372036854775807:=h.2.2.1
 have hnc' : n'≤c':=h'.cap
 have hcm' : c'≤9223372036854775807:=h'.2.2.1
 have b0:=hd.at_ g0
 have b1:=hd.at_ g1
 have b2:=hd.at_ g2
 have b3:=hd'.at_ g3
 have b4:=hd'.at_ g4
 rw [cQ] at b0 b1 b2 b3 b4
 obtain ⟨ad,q0,rfl,hblk,e0,c0⟩:=h.at_ hj
 rw [g0] at e0;injection e0 with e0;subst e0
 obtain ⟨ad1,q1,hA1,_,e1,c1⟩:=h.at_ (k:=j+(m+1)) (by omega)
 rw [g1] at e1;injection e1 with e1;subst e1
 injection hA1 with hA1;subst hA1
 obtain ⟨ad1,q1,hA1,_,e1,c2⟩:=h.at_ (k:=j+m) (by omega)
 rw [g2] at e1;injection e1 with e1;subst e1
 injection hA1 with hA1;subst hA1
 obtain ⟨ad',q1,rfl,hblk',e1,c3⟩:=h'.at_ (k:=m+1) (by omega)
 rw [g3] at e1;injection e1 with e1;subst e1
 obtain ⟨ad1,q1,hA1,_,e1,c4⟩:=h'.at_ (k:=m) (by omega)
 rw [g4] at e1;injection e1 with e1;subst e1
 injection hA1 with hA1;subst hA1
 obtain ⟨a0,ha0⟩:∃ a,a=j+(m+2):=⟨_,rfl⟩
 obtain ⟨a1,ha1⟩:∃ a,a=j+(m+1):=⟨_,rfl⟩
 obtain ⟨a2,ha2⟩:∃ a,a=j+m:=⟨_,rfl⟩
 obtain ⟨p1,hp1⟩:∃ a,a=m+1:=⟨_,rfl⟩
 rw [← ha0] at c0
 rw [← ha1] at c1
 rw [← ha2] at c2
 rw [← hp1] at c3
 rw [← ha0] at hj
 have x0:(j:Int)+(n' : Int)=(a0:Int):=by omega
 have x1:(a0:Int)-1=(a1:Int):=by omega
 have x2:(a0:Int)-2=(a2:Int):=by omega
 have x3:(n' : Int)-1=(p1:Int):=by omega
 have x4:(n' : Int)-2=(m:Int):=by omega
 have y0:(a0:Int)≤2199023255999:=by omega
 have y1:(a1:Int)≤2199023255999:=by omega
 have y2:(a2:Int)≤2199023255999:=by omega
 have y3:(p1:Int)≤2199023255999:=by omega
 have y4:(m:Int)≤2199023255999:=by omega
 have i0:(a0:Int)<n:=by omega
 have i1:(a1:Int)<n:=by omega
 have i2:(a2:Int)<n:=by omega
 have i3:(p1:Int)<n':=by omega
 have i4:(m:Int)<n':=by omega
 have n0:(0:Int)≤a0:=Int.natCast_nonneg _
 have n1:(0:Int)≤a1:=Int.natCast_nonneg _
 have n2:(0:Int)≤a2:=Int.natCast_nonneg _
 have n3:(0:Int)≤p1:=Int.natCast_nonneg _
 have n4:(0:Int)≤m:=Int.natCast_nonneg _
 clear ha0 ha1 ha2 hp1 hm2 hj hn
 obtain ⟨u,N,q,r,e1,e2,e3,e4,t1,t2,t3,t4,t5,hN,hdm,hrf,hq,hq2⟩:=guessTop b0 b1 hf0 b3 hle
 have E:=aH (aI e3 (aI e4 (aI t1 (aI t2 (aI t3 (aI t4 t5))))))
 clear e3 e4 t1 t2 t3 t4 t5
 have e3:(u:Int)≤1000000000000000000:=by omega
 have e4:(N:Int)≤1000000001000000000:=by omega
 have hst:gD (hi*B9+mid) low f s≤q:=by rw [hq,hN,← cQ];exact gd_start hf0 b2
 have hNB:N=hi*B9+mid:=hN
 have hz0:((f:Int)==0)=false:=by simp;omega
 have hz1:¬ (f:Int)=0:=by omega
 have hz2:¬ (f:Int) = -1:=by omega
 have hz3:((f:Int) == -1)=false:=by simp
 obtain ⟨G,hG⟩:∃ G,G=gD (hi*B9+mid) low f s:=⟨_,rfl⟩
 rw [← hG] at hst ⊢
 have HS:=aH (aI hst (aI hNB (aI hdm (aI hrf (aI hq2 (aI b0 (aI b1 (aI b2 (aI b3 (aI b4 (aI hf0 (aI hle hG))))))))))))
 clear hst hNB hdm hrf hq2 b0 b1 b2 b3 b4 hf0 hle hG hN hq h h' hd hd' g0 g1 g2 g3 g4
 have CW:=aH (aI c0 (aI c1 (aI c2 (aI c3 (aI c4 (aI hblk hblk'))))))
 have hbs:(s:Int)≤999999999:=by have:=HS.out.2.2.2.2.2.2.2.2.2.1;omega
 have hbl:(low:Int)≤999999999:=by have:=HS.out.2.2.2.2.2.2.2.1;omega
 have hbf:(f:Int)≤999999999:=by have:=HS.out.2.2.2.2.2.2.2.2.1;omega
 go_enter Tryz.func251,Tryz.ntmps251
 go_wp2
 go_quiet (fail)
 have HC:=aH (show (w.drewN nq).cell? (ad'.add p1)=some (.int .i64 (f:Int))∧Below w.heap.size w (w.drewN nq) from ⟨c3,cI (Below.refl _ _) _⟩)
 clear c0 c1 c2 c3 c4 hblk hblk'
 generalize w.drewN nq=w2 at *
 obtain ⟨c3,hb2⟩:=HC.out
 go_wp2
 go_quiet (fail)
 have hb3:=cI hb2 nq
 clear c3 hb2 HC
 generalize w2.drewN nq=w3 at *
 go_wp2
 go_loopw [9,10] (fun tv rv wr => ∃ m1 rs:Nat,tv = .int .i64 (m1:Int)∧rv = .int .i64 (rs:Int)∧GInv f N G m1 rs∧Below w.heap.size w wr) (fun tv _ _=>gMu tv)
 case atStart =>
  obtain ⟨_,_,t1,t2,t3,t4,t5⟩:=E.out
  refine ⟨q,r,?_,?_,⟨HS.out.2.2.1,HS.out.1,HS.out.2.2.2.2.1,by have:=HS.out.2.2.2.1;have:=HS.out.2.2.2.2.2.2.2.2.1;omega⟩,hb3⟩
  ·first|rfl|rw [t1,t5]|rw [t2,t5]|(simp only [t1,t2,t5];done)
  ·first|rfl|rw [t3]|rw [t4]|(simp only [t3,t4];done)
 case round =>
  obtain ⟨m1,rs,rfl,rfl,hinv,hb⟩:=hrel
  have c2:=(hb.cell (p:=ad.add a2) (by rw [bL];exact CW.out.2.2.2.2.2.1)).trans CW.out.2.2.1
  have c3:=(hb.cell (p:=ad'.add p1) (by rw [bL];exact CW.out.2.2.2.2.2.2)).trans CW.out.2.2.2.1
  have c4:=(hb.cell (p:=ad'.add m) (by rw [bL];exact CW.out.2.2.2.2.2.2)).trans CW.out.2.2.2.2.1
  clear hb3 e1 e2 e3 e4
  by_cases hm:1000000000≤m1
  ·have k1:(1000000000:Int)≤m1:=by omega
   have hI:=hinv
   obtain ⟨j0,_,j3,j4⟩:=hinv
   have d1:(1:Int)≤m1:=by omega
   have d3:(m1:Int)≤2000000000:=by omega
   have d4:(rs:Int)≤999999999:=by omega
   have hG0:G≤m1-1:=by rw [HS.out.2.2.2.2.2.2.2.2.2.2.2.2];exact gd_cont1 (by rw [cQ];omega)
   have hj:(m1-1)*f+(rs+f)=N:=by
    obtain ⟨m0,rfl⟩:∃ m0,m1=m0+1:=⟨m1-1,by omega⟩
    rw [Nat.add_mul,Nat.one_mul] at j0
    rw [Nat.add_sub_cancel];omega
   by_cases hr:1000000000≤rs+f
   ·have k3:(1000000000:Int)≤(rs:Int)+f:=by omega
    have hfin:G=m1-1:=by
     rw [HS.out.2.2.2.2.2.2.2.2.2.2.2.2]
     refine gd_over HS.out.2.2.2.2.2.2.2.2.2.2.1 (by rw [← HS.out.2.1];exact hj) HS.out.2.2.2.2.2.2.2.2.2.2.2.1 (by rw [cQ];exact HS.out.2.2.2.2.2.2.1) (by rw [cQ];exact HS.out.2.2.2.2.2.2.2.2.2.1) (by rw [cQ];exact hr) (by rw [← HS.out.2.2.2.2.2.2.2.2.2.2.2.2];exact hG0)
    have HF:=aH hfin
    clear hfin hr hj hG0 j0 j3 j4 hI
    go_wp2
    go_quiet (fail)
    have c3' : (wr.drewN nq).cell? (ad'.add p1)=some (.int .i64 (f:Int)):=c3
    have hb4:=cI hb nq
    clear c2 c3 c4 hb
    generalize wr.drewN nq=w4 at *
    go_wp2
    go_ret
    exact ⟨bX (by rw [HF.out];omega),hb4⟩
   ·have k3:decide ((1000000000:Int)≤(rs:Int)+f)=false:=by rw [decide_eq_false_iff_not];omega
    have HF:=aH (show GInv f N G (m1-1) (rs+f) from ⟨hj,hG0,by omega,by omega⟩)
    clear hr hj hG0 j0 j3 j4 hI
    go_wp2
    go_quiet (fail)
    have c3' : (wr.drewN nq).cell? (ad'.add p1)=some (.int .i64 (f:Int)):=c3
    have hb4:=cI hb nq
    clear c2 c3 c4 hb
    generalize wr.drewN nq=w4 at *
    go_wp2
    go_roundw
    case rel=>exact ⟨m1-1,rs+f,by go_num,by go_num,HF.out,hb4⟩
    case measure=>show (intOf _).toNat<(intOf _).toNat;simp only [intOf];omega
  ·have k1:(m1:Int)<1000000000:=by omega
   obtain ⟨P,R,S,e1,e2,e3,f1,f2,f3,hP,hS⟩:=guessFacts (m:=m1) (s:=s) (rs:=rs) (low:=low) (by omega) (by omega) (by have:=hinv.2.2.2;omega) (by omega)
   have bP:(P:Int)≤1000000000000000000:=by
    have h1:m1*s≤999999999*999999999:=Nat.mul_le_mul (by omega) (by omega)
    clear f1 f2 f3
    omega
   have bR:(rs:Int)≤999999999:=by have:=hinv.2.2.2;clear f1 f2 f3;omega
   have hSI:(S:Int)=(rs:Int)*1000000000+low:=by clear f1 f2 f3;omega
   clear e2 e3 f2 f3
   by_cases hle:P≤S
   ·have hfin:G=m1:=by
     rw [HS.out.2.2.2.2.2.2.2.2.2.2.2.2]
     refine gd_exit HS.out.2.2.2.2.2.2.2.2.2.2.1 (by rw [← HS.out.2.1];exact hinv.1) (by rw [cQ];clear f1;omega) (by rw [cQ,← hP,← hS];exact hle) (by rw [← HS.out.2.2.2.2.2.2.2.2.2.2.2.2];exact hinv.2.1)
    have k2:(P:Int)≤(rs:Int)*1000000000+low:=by clear f1;omega
    have HF:=aH hfin
    have k4:decide ((1000000000:Int)≤m1)=false:=by rw [decide_eq_false_iff_not];clear f1;omega
    clear hfin hP hS hle hinv hSI f1 k1
    have bP2:(m1:Int)*(s:Int)≤1000000000000000000:=by rw [e1];exact bP
    have bP0:0≤(m1:Int)*(s:Int):=by rw [e1];exact Int.natCast_nonneg _
    have k6:decide ((rs:Int)*1000000000+low<(m1:Int)*(s:Int))=false:=by rw [decide_eq_false_iff_not,e1];exact Int.not_lt.2 k2
    clear e1 k2 bP
    go_wp2
    go_quiet (fail)
    clear x0 x1 x2 x3 x4 y0 y1 y2 y3 y4 i0 i1 i2 i3 i4 n0 n1 n2 n3 n4 hbl hbf hbs bR bP2 bP0 k4
    go_wp2
    go_ret
    exact ⟨bX (by rw [HF.out]),cI hb _⟩
   ·have k2:(rs:Int)*1000000000+low<P:=by clear f1;omega
    have hm1:m1≠0:=fun e=>by rw [e,Nat.zero_mul] at hP;clear f1;omega
    have HG0:G≤m1-1:=by
     rw [HS.out.2.2.2.2.2.2.2.2.2.2.2.2]
     obtain ⟨m0,rfl⟩:∃ m0,m1=m0+1:=⟨m1-1,by clear f1;omega⟩
     exact gd_cont2 HS.out.2.2.2.2.2.2.2.2.2.2.1 (by rw [← HS.out.2.1];exact hinv.1) (by rw [cQ,← hS,Nat.add_sub_cancel,← hP];exact hle)
    have k4:decide ((1000000000:Int)≤m1)=false:=by rw [decide_eq_false_iff_not];clear f1;omega
    clear hP hS hle hSI f1 k1
    have bP2:(m1:Int)*(s:Int)≤1000000000000000000:=by rw [e1];exact bP
    have bP0:0≤(m1:Int)*(s:Int):=by rw [e1];exact Int.natCast_nonneg _
    have k6:(rs:Int)*1000000000+low<(m1:Int)*(s:Int):=by rw [e1];exact k2
    clear e1 k2 bP
    have hI:=hinv
    obtain ⟨j0,_,j3,j4⟩:=hinv
    have d1:(1:Int)≤m1:=by omega
    have d3:(m1:Int)≤2000000000:=by omega
    have d4:(rs:Int)≤999999999:=by omega
    have hG0:G≤m1-1:=HG0
    have hj:(m1-1)*f+(rs+f)=N:=by
     obtain ⟨m0,rfl⟩:∃ m0,m1=m0+1:=⟨m1-1,by omega⟩
     rw [Nat.add_mul,Nat.one_mul] at j0
     rw [Nat.add_sub_cancel];omega
    by_cases hr:1000000000≤rs+f
    ·have k3:(1000000000:Int)≤(rs:Int)+f:=by omega
     have hfin:G=m1-1:=by
      rw [HS.out.2.2.2.2.2.2.2.2.2.2.2.2]
      refine gd_over HS.out.2.2.2.2.2.2.2.2.2.2.1 (by rw [← HS.out.2.1];exact hj) HS.out.2.2.2.2.2.2.2.2.2.2.2.1 (by rw [cQ];exact HS.out.2.2.2.2.2.2.1) (by rw [cQ];exact HS.out.2.2.2.2.2.2.2.2.2.1) (by rw [cQ];exact hr) (by rw [← HS.out.2.2.2.2.2.2.2.2.2.2.2.2];exact hG0)
     have HF:=aH hfin
     clear hfin hr hj hG0 j0 j3 j4 hI HG0 hm1
     go_wp2
     go_quiet (fail)
     have c3' : (wr.drewN nq).cell? (ad'.add p1)=some (.int .i64 (f:Int)):=c3
     have hb4:=cI hb nq
     clear c2 c3 c4 hb
     generalize wr.drewN nq=w4 at *
     go_wp2
     go_ret
     exact ⟨bX (by rw [HF.out];omega),hb4⟩
    ·have k3:decide ((1000000000:Int)≤(rs:Int)+f)=false:=by rw [decide_eq_false_iff_not];omega
     have HF:=aH (show GInv f N G (m1-1) (rs+f) from ⟨hj,hG0,by omega,by omega⟩)
     clear hr hj hG0 j0 j3 j4 hI HG0 hm1
     go_wp2
     go_quiet (fail)
     have c3' : (wr.drewN nq).cell? (ad'.add p1)=some (.int .i64 (f:Int)):=c3
     have hb4:=cI hb nq
     clear c2 c3 c4 hb
     generalize wr.drewN nq=w4 at *
     go_wp2
     go_roundw
     case rel=>exact ⟨m1-1,rs+f,by go_num,by go_num,HF.out,hb4⟩
     case measure=>show (intOf _).toNat<(intOf _).toNat;simp only [intOf];omega
def MulO (xs ys zs:List Nat) (i:Nat):Prop :=
 Dig B9 zs∧zs.length=xs.length+ys.length∧val B9 (zs.take (i+ys.length))=val B9 (xs.take i)*val B9 ys∧∀ j,i+ys.length≤j→j<zs.length→zs[j]?=some 0
def MulK (xs ys zs ws:List Nat) (i k cy x:Nat):Prop :=
 Dig B9 ws∧ws.length=xs.length+ys.length∧cy<B9∧val B9 (ws.take (i+ys.length))+B9^(i+k)*cy=val B9 (zs.take (i+ys.length))+B9^i*(x*val B9 (ys.take k))∧∀ j,i+ys.length≤j→j<ws.length→ws[j]?=some 0
theorem MulO.start (xs ys:List Nat):MulO xs ys (List.replicate (xs.length+ys.length) 0) 0:=by
 refine ⟨Dig.replicate cJ _,by simp,?_,fun j _ h=>?_⟩
 ·rw [List.take_replicate,lG];simp [val]
 ·simp at h;simp [List.getElem?_replicate,h]
theorem MulK.start {xs ys zs:List Nat} {i:Nat} (h:MulO xs ys zs i) (x:Nat):MulK xs ys zs zs i 0 0 x:=⟨h.1,h.2.1,cJ,by simp [val],h.2.2.2⟩
theorem mulk_alg {V P v w o r s q cy y x m:Nat} (h:v+P*o=w+P*r) (e:w+P*cy=m) (hs:s=o+x*y+cy) (hdm:V*q+r=s):v+P*V*q=m+P*(x*y):=by subst hs;grind
theorem MulK.step {xs ys zs ws:List Nat} {i k cy x y o s:Nat} (h:MulK xs ys zs ws i k cy x) (hy:ys[k]?=some y) (ho:ws[i+k]?=some o) (hi:i<xs.length) (hs:s=o+x*y+cy) (hq:s/B9<B9) :
 MulK xs ys zs (ws.set (i+k) (s%B9)) i (k+1) (s/B9) x:=by
 obtain ⟨h1,h2,h3,h4,h5⟩:=h
 obtain ⟨hk,ey⟩:=List.getElem?_eq_some_iff.1 hy
 obtain ⟨hp,eo⟩:=List.getElem?_eq_some_iff.1 ho
 refine ⟨h1.set (Nat.mod_lt _ cJ),by rw [List.length_set,h2],hq,?_,fun j hj hl=>?_⟩
 ·have e:=val_set B9 (ws.take (i+ys.length)) (i+k) (s%B9) (by rw [List.length_take];omega)
  rw [List.getElem_take,eo] at e
  rw [List.take_set,aF _ _ _ hk,ey]
  have hdm:=Nat.div_add_mod s B9
  rw [Nat.mul_add x,Nat.mul_add (B9^i),show x*(B9^k*y)=B9^k*(x*y) by rw [Nat.mul_left_comm],← Nat.mul_assoc (B9^i) (B9^k),← Nat.pow_add,← Nat.add_assoc (val B9 _)]
  rw [show i+(k+1)=i+k+1 from rfl,Nat.pow_succ]
  have e2:val B9 ((ws.take (i+ys.length)).set (i+k) (s%B9))+B9^(i+k)*o=val B9 (ws.take (i+ys.length))+B9^(i+k)*(s%B9):=e
  generalize B9^(i+k)=P at *
  generalize s/B9=q at *
  generalize s%B9=r at *
  exact mulk_alg e2 h4 hs hdm
 ·rw [List.getElem?_set_ne (by omega)]
  exact h5 j hj (by simpa using hl)
theorem mulo_alg {a v x y P Q c:Nat} (h4:v+Q*c=a*y+P*(x*y)):v+Q*c=(a+P*x)*y:=by grind
theorem MulK.finish {xs ys zs ws:List Nat} {i cy x:Nat} (h:MulK xs ys zs ws i ys.length cy x) (hz:MulO xs ys zs i) (hx:xs[i]?=some x):MulO xs ys (ws.set (i+ys.length) cy) (i+1):=by
 obtain ⟨h1,h2,h3,h4,h5⟩:=h
 obtain ⟨hi,ex⟩:=List.getElem?_eq_some_iff.1 hx
 refine ⟨h1.set h3,by rw [List.length_set,h2],?_,fun j hj hl=>?_⟩
 ·rw [show i+1+ys.length=i+ys.length+1 by omega,aF _ _ _ (by rw [List.length_set];omega),List.take_set_of_le (Nat.le_refl _),List.getElem_set_self,aF _ _ _ hi,ex]
  rw [List.take_of_length_le (Nat.le_refl _),hz.2.2.1] at h4
  exact mulo_alg h4
 ·rw [List.getElem?_set_ne (by omega)]
  exact h5 j (by omega) (by simpa using hl)
theorem MulO.finish {xs ys zs:List Nat} (h:MulO xs ys zs xs.length):val B9 zs=val B9 xs*val B9 ys:=by
 obtain ⟨_,h2,h3,_⟩:=h
 rwa [List.take_of_length_le (by omega),List.take_of_length_le (Nat.le_refl _)] at h3
set_option maxHeartbeats 2000000 in
set_option maxRecDepth 100000 in
theorem kS (A:Option Addr) (n c:Nat) (xs:List Nat) (A' : Option Addr) (n' c' : Nat) (ys:List Nat) (w:World) (h:Ri w A n c xs) (h' : Ri w A' n' c' ys)
 (hd:Dig B9 xs) (hd' : Dig B9 ys) (hn:n≤2199023255552) (hn' : n'≤2199023255552) :
 Calls Tryz.prog 218 #[.slice A n c,.slice A' n' c'] w (GivesDi w (val B9 xs*val B9 ys)):=by
 have HX:=aH (aI h hd)
 have HY:=aH (aI h' hd')
 have hnc:n≤c:=h.cap
 have hcm:c≤9223372036854775807:=h.2.2.1
 have hnc' : n'≤c':=h'.cap
 have hcm' : c'≤9223372036854775807:=h'.2.2.1
 obtain ⟨i0,hi,hz0,hz1,hz2⟩:=info_parts gY
 have HI:=aH (aI hi (aI hz0 (aI hz1 hz2)))
 clear h h' hd hd' hi hz0 hz1 hz2
 go_enter Tryz.func218,Tryz.ntmps218
 go_wp2_with (at_make;refine wpList_make_full _ rfl _ _ 187 rfl w.heap.size 3 i0 (.int .i64 0) 1 Tryz.underlying187 HI.out.1 HI.out.2.1 HI.out.2.2.1 _ _ _ _ (n+n') rfl rfl ?b0 ?b1 ?b2 ?b3 (Nat.le_refl _) ?_)
 case b0=>omega
 case b1=>omega
 case b2=>rw [HI.out.2.2.2];omega
 case b3=>show n+n'≤9223372036854775807;omega
 intro w1 hown hg1
 have hb1:Below w.heap.size w w1:=(Below.refl _ _).grown hg1 (Nat.le_refl _) (fun k h=>by cases h)
 have hblk:=qM hown
 have e0:MulO xs ys (List.replicate (n+n') 0) 0:=by
  have:=MulO.start xs ys
  rwa [HX.out.1.len,HY.out.1.len] at this
 have HB:=aH hblk
 have H0:=aH e0
 clear hown hg1 hblk e0
 obtain ⟨g,hg⟩:∃ g,g=w.heap.size:=⟨_,rfl⟩
 rw [← hg] at HB ⊢
 have HG:=aH hg
 clear hg
 go_wp2
 go_loopw [6] (fun iv wr => ∃ (i:Nat) (zs:List Nat),i≤n∧iv = .int .i64 (i:Int)∧MulO xs ys zs i∧Bi wr g 3 zs∧Below w.heap.size w wr) (fun iv _=>n-(intOf iv).toNat)
 case atStart=>exact ⟨0,_,Nat.zero_le _,rfl,H0.out,HB.out,hb1⟩
 case round =>
  clear HB H0 hb1
  obtain ⟨i,zs,hk,rfl,hinv,hblk,hb⟩:=hrel
  by_cases hlt:i<n
  ·have a1:(i:Int)<n:=by omega
   obtain ⟨ad,x,hA,_,hx,_⟩:=(HX.out.1.below hb).at_ (k:=i) hlt
   have bx:x<1000000000:=HX.out.2.at_ hx
   have HO:=aH (aI hinv (aI hx (aI hlt bx)))
   have HB:=aH (aI hblk hb)
   clear hinv hx hblk hb bx hlt
   go_wp2
   go_loopw [7,8] (fun cv kv wr => ∃ (k cy:Nat) (ws:List Nat),k≤n'∧kv = .int .i64 (k:Int)∧cv = .int .i64 (cy:Int)∧MulK xs ys zs ws i k cy x∧Bi wr g 3 ws∧Below w.heap.size w wr) (fun _ kv _=>n'-(intOf kv).toNat)
   case atStart=>exact ⟨0,0,zs,Nat.zero_le _,rfl,rfl,MulK.start HO.out.1 x,HB.out.1,HB.out.2⟩
   case round =>
    clear HB
    obtain ⟨k,cy,ws,hk',rfl,rfl,hinv,hblk,hb⟩:=hrel
    have hwn:ws.length=n+n':=by rw [hinv.2.1,HX.out.1.len,HY.out.1.len]
    by_cases hkl:k<n'
    ·have a2:(k:Int)<n':=by omega
     have a3:i+k<n+n':=by omega
     obtain ⟨ad2,x2,hA2,_,hx2,hcx⟩:=(HX.out.1.below hb).at_ (k:=i) HO.out.2.2.1
     rw [HO.out.2.1] at hx2
     injection hx2 with hx2
     subst hx2
     subst hA2
     obtain ⟨ad',y,rfl,_,hy,hcy⟩:=(HY.out.1.below hb).at_ (k:=k) hkl
     obtain ⟨o,ho⟩:∃ o,ws[i+k]?=some o:=⟨_,List.getElem?_eq_getElem (by omega)⟩
     have hco:=hblk.cell ho
     have hfo:=hblk.frozen (i+k)
     obtain ⟨u,p,s,r,q,e1,e2,e3,e4,e5,e6,t1,t2,t3,t4,t5,hs,hr,hq,hqb,_⟩:=mulFacts (hinv.1.at_ ho) (Nat.le_of_lt HO.out.2.2.2) (HY.out.2.at_ hy) hinv.2.2.1
     have hst:=hinv.step hy ho (by rw [HX.out.1.len];exact HO.out.2.2.1) hs (by rw [cQ,← hq];exact hqb HO.out.2.2.2)
     rw [cQ,← hr,← hq] at hst
     have HS:=aH (aI hst (aI hblk (aI hb hkl)))
     have HT:=aH (aI t1 (aI t2 (aI t3 (aI t4 t5))))
     clear t1 t2 t3 t4 t5
     clear hst hb hblk hinv hs hr hq hqb hy ho hkl hwn hA
     go_wp2
     go_quiet (fail)
     have HS2:=aH (aI (HS.out.2.1.drewN nq) (cI HS.out.2.2.1 nq))
     have hcz:(wr.drewN nq).cell? ⟨g,i+k,none⟩=some (.int .i64 (o:Int)):=hco
     have hfz:(wr.drewN nq).frozen? ⟨g,i+k,none⟩=false:=hfo
     clear hco hfo hcx hcy
     generalize wr.drewN nq=w2 at *
     simp only [e6]
     clear e1 e2 e3 e4 e5 e6
     go_wp2
     go_roundw
     case rel =>
      obtain ⟨_,t2,_,t4,t5⟩:=HT.out
      exact ⟨k+1,q,ws.set (i+k) r,HS.out.2.2.2,rfl,by rw [t4,t5],HS.out.1,by rw [t2];exact HS2.out.1.set_ _ _,HS2.out.2.setCell (by rw [HG.out];exact Nat.le_refl _) _⟩
     case measure =>
      have:=HS.out.2.2.2
      clear HT HS HS2 HO hcz hfz
      simp [intOf];omega
    ·obtain rfl:k=n':=by omega
     have a3:i+k<n+k:=by have:=HO.out.2.2.1;omega
     have ho:ws[i+k]?=some 0:=by
      have:=hinv.2.2.2.2 (i+k) (by rw [HY.out.1.len];exact Nat.le_refl _) (by omega)
      exact this
     have hco:=hblk.cell ho
     have hfo:=hblk.frozen (i+k)
     have hst:=hinv
     rw [← HY.out.1.len] at hst
     have hst:=hst.finish HO.out.1 HO.out.2.1
     rw [HY.out.1.len] at hst
     have hcb:cy<1000000000:=hinv.2.2.1
     have t5:wrap64 (cy:Int)=cy:=eU (by omega)
     have HS:=aH (aI hst (aI hblk hb))
     clear hst hblk hb hinv ho hwn hkl hcb hA
     simp only [Int.natCast_zero] at hco
     go_wp2
     go_roundw
     case rel=>exact ⟨i+1,ws.set (i+k) cy,HO.out.2.2.1,by first|rfl|go_num|simp,HS.out.1,HS.out.2.1.set_ _ _,HS.out.2.2.setCell (by rw [HG.out];exact Nat.le_refl _) _⟩
     case measure =>
      have:=HO.out.2.2.1
      clear HS HO hco hfo
      simp [intOf];omega
  ·obtain rfl:i=n:=by omega
   have hzn:zs.length=i+n':=by rw [hinv.2.1,HX.out.1.len,HY.out.1.len]
   have hrd:=hblk.rd (by rw [hzn];show i+n'≤9223372036854775807;omega)
   rw [hzn] at hrd
   have hfin:=hinv
   rw [← HX.out.1.len] at hfin
   have HF:=aH (aI hinv.1 (aI hfin.finish (aI hrd hb)))
   clear hinv hblk hzn hrd hfin hlt hb
   go_wp2_with (go_at_call 250;refine (mA _ _ _ zs _ HF.out.2.2.1 HF.out.1).mono ?_;rintro e w' ⟨⟨v,rfl,hv⟩,rfl⟩)
   go_ret
   exact ⟨v,rfl,by rw [← HF.out.2.1];exact hv,HF.out.2.2.2⟩
theorem Below.step_trans' {w0 w w' : World} (h:Below w0.heap.size w0 w) (h' : Below w.heap.size w w'):Below w0.heap.size w0 w':=h.trans (h'.mono h.size)
theorem fac_facts {y:Nat} (hy:y<1000000000) (hy0:0<y):∃ f:Nat,(1000000000:Int)/((y:Int)+1)=(f:Int)∧(f:Int)≤999999999∧0<f∧f<1000000000∧f*(y+1)≤B9:=by
 refine ⟨1000000000/(y+1),?_,?_,?_,?_,?_⟩
 ·simp
 ·have:1000000000/(y+1)<1000000000:=(Nat.div_lt_iff_lt_mul (by omega)).2 (by omega)
  omega
 ·exact Nat.div_pos (by omega) (by omega)
 ·exact (Nat.div_lt_iff_lt_mul (by omega)).2 (by omega)
 ·exact Nat.div_mul_le_self _ _
theorem takeFacts {x v t bo:Nat} (bx:x<1000000000) (bv:v<1000000000) (bt:t<1000000000) (bb:bo≤1000000000):∃ P p r e:Nat,(t:Int)*(v:Int)=(P:Int)∧0≤(t:Int)*(v:Int)∧(t:Int)*(v:Int)≤1000000000000000000 ∧
 (p:Int)=(t:Int)*(v:Int)+bo∧p=t*v+bo∧r<B9∧p/B9+e≤B9∧r+p%B9=x+B9*e ∧
 ((((t:Int)*(v:Int)+bo)%1000000000≤x∧(x:Int)-((t:Int)*(v:Int)+bo)%1000000000=(r:Int)∧e=0)∨((x:Int)<((t:Int)*(v:Int)+bo)%1000000000∧(x:Int)-((t:Int)*(v:Int)+bo)%1000000000+1000000000=(r:Int)∧e=1)):=by
 have h1:t*v≤999999999*999999999:=Nat.mul_le_mul (by omega) (by omega)
 have h2:(t:Int)*(v:Int)=((t*v:Nat):Int):=by simp
 rw [h2,cQ]
 generalize t*v=P at *
 by_cases hc:(P+bo)%1000000000≤x
 ·exact ⟨P,P+bo,x-(P+bo)%1000000000,0,by omega,by omega,by omega,by omega,rfl,by omega,by omega,by omega,.inl ⟨by omega,by omega,rfl⟩⟩
 ·exact ⟨P,P+bo,x+1000000000-(P+bo)%1000000000,1,by omega,by omega,by omega,by omega,rfl,by omega,by omega,by omega,.inr ⟨by omega,by omega,rfl⟩⟩
theorem zW (xs:List Nat) (i:Nat):(tO xs).set i 0=tO (xs.set i 0):=by simp [List.map_set]
theorem back_ok {u v ul T h t x bor cy wv:Nat} (hu:u=ul+T*h) (hx:x+t*v=ul+T*bor) (k1:t=u/v+1) (k2:u%v+T=x+v) (hb:wv+T*cy=x+v) (hw:wv<T) (hvT:v≤T) (hv:0<v) (hcy:cy≤1):wv=u%v∧cy=1∧bor=h+1:=by
 have hdm:=Nat.div_add_mod u v
 have hm:=Nat.mod_lt u hv
 generalize u/v=q at *
 generalize u%v=r at *
 have hc:cy=1:=by
  rcases Nat.eq_zero_or_pos cy with e|e
  ·subst e;omega
  ·omega
 subst hc
 refine ⟨by omega,rfl,?_⟩
 subst k1
 have e1:(q+1)*v=v*q+v:=by grind
 have e2:T*bor=T*(h+1):=by rw [Nat.mul_add,Nat.mul_one];omega
 exact Nat.eq_of_mul_eq_mul_left (by omega) e2
theorem put_put9 {ys zs ws:List Nat} {o:Nat} (h:o+ws.length≤ys.length) (hl:zs.length≤ws.length):put (put ys o zs) o ws=put ys o ws:=by
 have e1:(put ys o zs).take o=ys.take o:=tE (by omega)
 have e2:(put ys o zs).drop o=zs++ys.drop (o+zs.length):=wZ (by omega)
 have e3:(put ys o zs).drop (o+ws.length)=ys.drop (o+ws.length):=by
  rw [← List.drop_drop,e2,List.drop_append,List.drop_of_length_le (by omega),List.nil_append,List.drop_drop]
  congr 1
  omega
 show (put ys o zs).take o++(ws++(put ys o zs).drop (o+ws.length))=_
 rw [e1,e3]
 rfl
set_option maxHeartbeats 4000000 in
set_option maxRecDepth 1000000 in
theorem divLong_any (A:Option Addr) (n c:Nat) (xs:List Nat) (A' : Option Addr) (n' c' : Nat) (ys:List Nat) (w:World) (h:Ri w A n c xs) (h' : Ri w A' n' c' ys)
 (hd:Dig B9 xs) (hd' : Dig B9 ys) (hx:Norm xs) (hy:Norm ys) (hn:n≤1099511627776) (hn2:2≤n') (hge:val B9 ys≤val B9 xs) :
 Calls Tryz.prog 209 #[.slice A n c,.slice A' n' c'] w (xR w (val B9 xs/val B9 ys) (val B9 xs%val B9 ys)):=by
 have hnc:n≤c:=h.cap
 have hcm:c≤9223372036854775807:=h.2.2.1
 have hnc' : n'≤c':=h'.cap
 have hcm' : c'≤9223372036854775807:=h'.2.2.1
 have hle:n'≤n:=by
  rcases Nat.lt_or_ge n n' with e|e
  ·have:=dF dX hd hy (by rw [h.len,h'.len];exact e)
   omega
  ·exact e
 obtain ⟨ad',y,hA',hblk',hyt,hcy⟩:=h'.at_ (k:=n'-1) (by omega)
 subst hA'
 have hyl:y<1000000000:=hd'.at_ hyt
 have hy0:0<y:=by
  have hne:ys≠[]:=by rintro rfl;simp at hyt
  have:=hy hne
  rw [List.getLast_eq_getElem] at this
  obtain ⟨k,ey⟩:=List.getElem?_eq_some_iff.1 hyt
  have hl:=h'.len
  simp only [hl,ey] at this
  omega
 obtain ⟨f,hf,hfb,hf0,hf1,hfy⟩:=fac_facts hyl hy0
 have hyb:(y:Int)≤999999999:=by omega
 have hc1:¬ bS (val B9 xs) (val B9 ys)<0:=by unfold bS;rw [if_neg (by omega)];split <;> omega
 obtain ⟨z,hz⟩:∃ z:Int,bS (val B9 xs) (val B9 ys)=z:=⟨_,rfl⟩
 have cc:=aH (eX A n c xs (some ad') n' c' ys w h h' hd hd' hx hy)
 rw [hz] at cc hc1
 have hz0:decide (z<0)=false:=decide_eq_false hc1
 have hz1:((n' : Int)==1)=false:=by simp;omega
 have HX:=aH (aI h (aI hd (aI hx (aI hn (aI hn2 (aI hge hle))))))
 have HY:=aH (aI h' (aI hd' (aI hy (aI hyt (aI hf0 (aI hf1 hfy))))))
 have i1:(2:Int)≤n':=by omega
 have i2:(n:Int)≤1099511627776:=by omega
 have i3:(n' : Int)≤n:=by omega
 clear h h' hd hd' hx hy hn hn2 hge hle hyt hf0 hf1 hfy hyl hy0 hc1 hz
 go_enter Tryz.func209,Tryz.ntmps209
 go_wp2_with fail
 refine cc.out.mono ?_
 rintro e w0 ⟨rfl,hb0⟩
 have hcy0:=(hb0.cell (p:=ad'.add (n'-1)) (by rw [bL];exact hblk')).trans hcy
 clear hcy
 go_wp2_with fail
 have hbF:Bi (w0.alloc (.cells #[.int .i64 (f:Int)] 3)) w0.heap.size 3 [f]:=heap_alloc_new w0 _
 have hbA:Below w.heap.size w (w0.alloc (.cells #[.int .i64 (f:Int)] 3)):=hb0.alloc hb0.size _
 have hgw:w.heap.size≤w0.heap.size:=hb0.size
 generalize (w0.alloc (.cells #[.int .i64 (f:Int)] 3))=wA at *
 generalize w0.heap.size=g0 at *
 have hdF:Dig B9 [f]:=Dig.cons (by rw [cQ];exact HY.out.2.2.2.2.2.1) (Dig.nil _)
 have HF:=aH (aI hbF (aI hbA (aI hgw hdF)))
 clear hbF hbA hgw hdF hb0 hcy0 hz0 hz1
 refine (kS (some ad') n' c' ys (some ⟨g0,0,none⟩) 1 1 [f] wA (HY.out.1.below HF.out.2.1) (HF.out.1.rd (by show 1≤9223372036854775807;omega)) HY.out.2.1 HF.out.2.2.2 (by omega) (by omega)).mono ?_
 rintro e w1 ⟨v,rfl,⟨Av,nv,cv,vs,rfl,hrv,hdv,hnv,hvv⟩,hb1⟩
 have hvv:val B9 vs=val B9 ys*f:=by rw [hvv];simp [val]
 obtain rfl:nv=n':=by
  have:=scaled_len HY.out.2.1 (by rw [HY.out.1.len];omega) (by rw [HY.out.1.len];exact HY.out.2.2.2.1) hdv hnv HY.out.2.2.1 hvv HY.out.2.2.2.2.1 HY.out.2.2.2.2.2.2
  rw [hrv.len,HY.out.1.len] at this
  exact this
 have hbF1:Bi w1 g0 3 [f]:=HF.out.1.below hb1 HF.out.1.lt
 have hbA1:Below w.heap.size w w1:=Below.step_trans' HF.out.2.1 hb1
 have hg01:g0<w1.heap.size:=hbF1.lt
 have hcv:cv≤9223372036854775807:=hrv.2.2.1
 have hncv:nv≤cv:=hrv.cap
 have HV:=aH (aI hrv (aI hdv (aI hnv (aI hvv (aI hbF1 (aI hbA1 hg01))))))
 clear hrv hdv hnv hvv hbF1 hbA1 hg01 hb1 hf hfb hyb cc
 go_wp2_with fail
 obtain ⟨B1,hB1⟩:∃ b,b=w1.heap.size:=⟨_,rfl⟩
 have hnil:(w1.alloc (.cells #[] 3)).heap[w1.heap.size]?=some (.cells #[] 3 (0,0)):=heap_alloc_new w1 _
 have hbN:Below w1.heap.size w1 (w1.alloc (.cells #[] 3)):=(Below.refl _ _).alloc (Nat.le_refl _) _
 generalize (w1.alloc (.cells #[] 3))=wN at *
 rw [← hB1] at hnil hbN ⊢
 have HN:=aH (aI hnil (aI hbN hB1))
 clear hnil hbN hB1
 refine (kS A n c xs (some ⟨g0,0,none⟩) 1 1 [f] wN ((HX.out.1.below HV.out.2.2.2.2.2.1).below (by rw [← HN.out.2.2];exact HN.out.2.1)) ((HV.out.2.2.2.2.1.below HN.out.2.1 (by rw [HN.out.2.2];exact HV.out.2.2.2.2.2.2)).rd (by show 1≤9223372036854775807;omega)) HX.out.2.1 HF.out.2.2.2 (by omega) (by omega)).mono ?_
 rintro e w2 ⟨v2,rfl,⟨A2,m2,c2,us0,rfl,hr2,hd2,hn2,hv2⟩,hb2⟩
 have hv2:val B9 us0=val B9 xs*f:=by rw [hv2];simp [val]
 have hpos:0<val B9 xs:=by
  have h1:=HY.out.2.2.1.pos cJ (l:=ys) (by rintro rfl;have:=HY.out.1.len;simp at this;omega)
  have h2:=HX.out.2.2.2.2.2.1
  omega
 have hm2:m2≤n+1:=by
  rw [← hr2.len]
  refine aU dX hn2 ?_
  rw [hv2,Nat.pow_succ]
  have h1:=bV HX.out.2.1
  rw [HX.out.1.len] at h1
  exact Nat.mul_lt_mul'' h1 (by rw [cQ];exact HY.out.2.2.2.2.2.1)
 have hm0:0<m2:=by
  rcases Nat.eq_zero_or_pos m2 with e|e
  ·exfalso
   subst e
   have:us0 = []:=List.eq_nil_of_length_eq_zero hr2.len
   subst this
   have h1:0<val B9 xs*f:=Nat.mul_pos hpos HY.out.2.2.2.2.1
   rw [← hv2] at h1
   simp [val] at h1
  ·exact e
 have hNlt:B1<wN.heap.size:=(Array.getElem?_eq_some_iff.1 HN.out.1).1
 have hown:w2.ownsRow B1 3 1 (.slice (some ⟨B1,0,none⟩) 0 0) 0 ([]:List Value):=row_nil ((hb2.block B1 hNlt).trans HN.out.1) (Nat.le_refl _)
 have hb12:Below B1 w1 w2:=HN.out.2.1.trans (hb2.mono (Nat.le_of_lt hNlt))
 have hs2:B1≤w2.heap.size:=Nat.le_trans (Nat.le_of_lt hNlt) hb2.size
 have HU:=aH (aI hr2 (aI hd2 (aI hv2 (aI hpos (aI hm2 (aI hm0 (aI hown (aI hb12 hs2))))))))
 clear hr2 hd2 hn2 hv2 hpos hm2 hm0 hown hb12 hs2 hb2 hNlt
 go_wp2_with (at_builtin;refine wpList_src rfl _ _ rfl rfl HU.out.2.2.2.2.2.2.1 rfl HU.out.1 HU.out.2.2.2.2.2.1 (by have:=HU.out.2.2.2.2.1;omega) HU.out.2.2.2.2.2.2.2.2 ?_)
 intro v3 w3 hr3 hg3
 have hb3:Below B1 w1 w3:=HU.out.2.2.2.2.2.2.2.1.grown hg3 HU.out.2.2.2.2.2.2.2.2 (fun b hb=>by simp [Value.ownBlock] at hb;omega)
 have HR:=aH (aI hr3 hb3)
 clear hr3 hb3 hg3
 go_wp2
 go_loopw [11] (fun uv wr => ∃ (m:Nat) (zs:List Nat),wr.ownsRow B1 3 1 uv m (zs.map eC)∧0<m∧m≤n+1∧Dig B9 zs∧val B9 zs=val B9 xs*f∧Below B1 w1 wr) (fun uv _=>n+1-lenOf uv)
 case atStart=>exact ⟨m2,us0,HR.out.1,HU.out.2.2.2.2.2.1,HU.out.2.2.2.2.1,HU.out.2.1,HU.out.2.2.1,HR.out.2⟩
 case round =>
  clear HR
  obtain ⟨m,zs,hrow,hm0,hmn,hdz,hvz,hb⟩:=hrel
  have hrow':=hrow
  obtain ⟨gu,cu,rfl,hgu,hcu,how,hzl⟩:=zV hrow hm0
  by_cases hlt:m<n+1
  ·have k1:(m:Int)<(n:Int)+1:=by omega
   have HM:=aH (aI hrow' (aI hdz (aI hvz (aI hb (aI hzl hlt)))))
   have hs:B1≤wr.heap.size:=Nat.le_trans hgu (Nat.le_of_lt how.lt)
   clear hrow hrow' hdz hvz hb hlt how hgu hzl
   go_wp2_with (at_builtin;refine fY (r:=0) (B:=B1) rfl _ _ rfl rfl HM.out.1 rfl (by omega) HM.out.2.2.2.1 (Nat.le_refl _) hs ?_)
   intro v4 w4 hr4 hb4 _
   have hr4' : w4.ownsRow B1 3 1 v4 (m+1) ((zs ++ [0]).map eC):=by rw [List.map_append];exact hr4
   obtain ⟨g4,c4,rfl,_,_,_,_⟩:=zV hr4' (Nat.succ_pos _)
   have HQ:=aH (aI hr4' hb4)
   clear hr4'
   clear hr4 hb4
   go_wp2
   go_roundw
   case rel =>
    refine ⟨m+1,zs ++ [0],HQ.out.1,by omega,by have:=HM.out.2.2.2.2.2;omega,HM.out.2.1.app (Dig.cons cJ (Dig.nil _)),?_,HQ.out.2⟩
    rw [cL,Nat.mul_zero,Nat.add_zero];exact HM.out.2.2.1
   case measure =>
    have:=HM.out.2.2.2.2.2
    clear HQ HM
    simp [lenOf];omega
  ·obtain rfl:m=n+1:=by omega
   have hst:LongJ (val B9 vs) (val B9 xs*f) nv (n-nv+1) zs (List.replicate (n-nv+1) 0) (n-nv+1) :=
    LongJ.start hdz hzl hvz rfl (by have:=bV HX.out.2.1;rwa [HX.out.1.len] at this) HV.out.2.2.2.1 HY.out.2.2.2.2.1
     (by have:=HY.out.2.2.1.ge (B:=B9) (l:=ys) (by rintro rfl;have:=HY.out.1.len;simp at this;omega);rwa [HY.out.1.len] at this) HX.out.2.2.2.2.2.2 (by omega)
   have k1:¬ ((n+1:Nat):Int)<(n:Int)+1:=by omega
   have HM:=aH (aI hst (aI how (aI hb (aI hgu hcu))))
   clear hst how hb hgu hrow hrow' hdz hvz hzl hlt hmn hm0
   obtain ⟨i0,hi,hz0,hz1,hz2⟩:=info_parts gY
   have HI:=aH (aI hi (aI hz0 (aI hz1 hz2)))
   clear hi hz0 hz1 hz2
   go_wp2_with (at_make;refine wpList_make_full _ rfl _ _ 187 rfl wr.heap.size 3 i0 (.int .i64 0) 1 Tryz.underlying187 HI.out.1 HI.out.2.1 HI.out.2.2.1 _ _ _ _ (n-nv+1) rfl rfl ?b0 ?b1 ?b2 ?b3 (Nat.le_refl _) ?_)
   case b0=>omega
   case b1=>omega
   case b2=>rw [HI.out.2.2.2];omega
   case b3=>show n-nv+1≤9223372036854775807;omega
   intro w5 hown5 hg5
   have hblk:=qM hown5
   have hb5:Below B1 w1 w5:=HM.out.2.2.1.grown hg5 (Nat.le_trans HM.out.2.2.2.1 (Nat.le_of_lt HM.out.2.1.lt)) (fun b hb=>by cases hb)
   have how5:Ow w5 gu cu (tO zs):=HM.out.2.1.grown hg5 (by simp)
   have hguq:gu<wr.heap.size:=HM.out.2.1.lt
   obtain ⟨gq,hgq⟩:∃ g,g=wr.heap.size:=⟨_,rfl⟩
   rw [← hgq] at hblk hguq ⊢
   obtain ⟨L,hL⟩:∃ L,L=n-nv+1:=⟨_,rfl⟩
   have hLi:(L:Int)=(n:Int)-nv+1:=by omega
   have hLn:L+nv=n+1:=by omega
   have hgu1:=HM.out.2.2.2.1
   have hcu:=HM.out.2.2.2.2
   rw [← hL] at hblk ⊢
   have hst:=HM.out.1
   rw [← hL] at hst
   have HS:=aH (aI hst (aI hblk (aI how5 (aI hb5 (aI hguq (aI hgu1 (aI hLn hcu)))))))
   clear hst hblk how5 hb5 hguq hgu1 hgq hown5 hg5 hL HM k1 hLn
   clear HU
   go_wp2
   go_loopw [13] (fun jv wr => ∃ (k:Nat) (us qs:List Nat),k≤L∧jv = .int .i64 ((k:Int)-1)∧LongJ (val B9 vs) (val B9 xs*f) nv L us qs k∧Bi wr gq 3 qs∧Ow wr gu cu (tO us)∧Below B1 w1 wr) (fun jv _=>(intOf jv+1).toNat)
   case atStart=>exact ⟨L,zs,_,Nat.le_refl _,by go_num,HS.out.1,HS.out.2.1,HS.out.2.2.1,HS.out.2.2.2.1⟩
   case round =>
    obtain ⟨k,us,qs,hk,rfl,hinv,hbq,hou,hbw⟩:=hrel
    rcases Nat.eq_zero_or_pos k with rfl|hk0
    ·obtain ⟨f1,f2,f3⟩:=hinv.finish HV.out.2.2.2.1 (HY.out.2.2.1.pos cJ (l:=ys) (by rintro rfl;have:=HY.out.1.len;simp at this;omega)) HY.out.2.2.2.2.1
     have hul:us.length=n+1:=by rw [hinv.2.1];exact HS.out.2.2.2.2.2.2.1
     have hql:qs.length=L:=hinv.2.2.2.1
     have hru:Ri wr (some ⟨gu,0,none⟩) (n+1) cu us:=by have:=hou.rd HS.out.2.2.2.2.2.2.2;rwa [hul] at this
     have hrq:Ri wr (some ⟨gq,0,none⟩) L L qs:=by have:=hbq.rd (by rw [hql];show L≤9223372036854775807;omega);rwa [hql] at this
     have hcap:n+1≤cu:=hru.cap
     have hcap2:nv≤cu:=by omega
     have hVle:val B9 vs≤B9^nv:=by have:=bV HV.out.2.1;rw [HV.out.1.len] at this;exact Nat.le_of_lt this
     have htk:val B9 (us.take nv)=val B9 us:=by
      have e:=eA B9 us nv (by omega)
      rcases Nat.eq_zero_or_pos (val B9 (us.drop nv)) with e2|e2
      ·rw [e2] at e;omega
      ·exfalso
       have:B9^nv*1≤B9^nv*val B9 (us.drop nv):=Nat.mul_le_mul_left _ e2
       omega
     have hbF:Bi wr g0 3 [f]:=HV.out.2.2.2.2.1.below (by rw [← HN.out.2.2];exact hbw) HV.out.2.2.2.2.2.2
     have hcf:wr.cell? ⟨g0,0,none⟩=some (.int .i64 (f:Int)):=hbF.cell rfl
     have hbw0:Below w.heap.size w wr:=Below.step_trans' HV.out.2.2.2.2.2.1 (by rw [← HN.out.2.2];exact hbw)
     have HZ:=aH (aI f1 (aI f2 (aI hinv.1 (aI hinv.2.2.1 (aI (hru.take (k:=nv) (by omega)) (aI hrq (aI htk (aI hbF hbw0))))))))
     have HZ2:=aH (show val B9 us<B9^(n+1) by have:=bV hinv.1;rwa [hul] at this)
     clear f1 f2 f3 hinv hul hql hru hrq hVle htk hbF hbw0 hbq hou hbw hk
     simp only [show (((0:Nat):Int)-1) = -1 from rfl]
     have ct:=aH (fun W (hB:Below wr.heap.size wr W)=>mA (some ⟨gu,0,none⟩) nv cu (us.take nv) W (HZ.out.2.2.2.2.1.below hB) (HZ.out.2.2.1.take nv))
     have cd:=aH (fun W A3 k3 c3 ys3 (hr:Ri W A3 k3 c3 ys3) (hd:Dig B9 ys3) (hk:k3≤2199023255552)=>rY A3 k3 c3 ys3 f W hr hd hk HY.out.2.2.2.2.1 HY.out.2.2.2.2.2.1)
     go_wp2
     go_region_with (first|(go_at_call 250;refine (ct.out _ (by repeat (first|exact Below.refl _ _|refine Below.drew ?_))).mono ?_;rintro e w9 ⟨⟨v9,rfl,A3,k3,c3,ys3,rfl,hr3,hd3,hn3,hv3⟩,rfl⟩;have H3:=aH (aI hr3 (aI hd3 (aI hn3 hv3)));clear hr3 hd3 hn3 hv3)|(go_at_call 249;refine (cd.out _ _ _ _ _ H3.out.1 H3.out.2.1 (by have h1:=aU dX H3.out.2.2.1 (L:=n+1) (by rw [H3.out.2.2.2,HZ.out.2.2.2.2.2.2.1];exact HZ2.out);rw [H3.out.1.len] at h1;omega)).mono ?_;rintro e w10 ⟨v10,rfl,hv10,hb10⟩;have H10:=aH (aI hv10 hb10);clear hv10 hb10))
     all_goals
      have hbd:Below wr.heap.size wr w10:=Below.step_trans' (w:=wr.drew) (Below.drew (Below.refl _ _)) H10.out.2
      have hvm:val B9 ys3/f=val B9 xs%val B9 ys:=by
       rw [H3.out.2.2.2,HZ.out.2.2.2.2.2.2.1,HZ.out.2.1]
       exact Nat.mul_div_cancel _ HY.out.2.2.2.2.1
      have hq10:Ri w10 (some ⟨gq,0,none⟩) L L qs:=HZ.out.2.2.2.2.2.1.below hbd
      have HL:=aH (aI hbd (aI hvm hq10))
      clear hbd hvm hq10
      go_wp2_with (go_at_call 250;refine (mA _ _ _ qs _ HL.out.2.2 HZ.out.2.2.2.1).mono ?_;rintro e w11 ⟨⟨v11,rfl,hv11⟩,rfl⟩)
      go_ret2
      exact ⟨v11,v10,rfl,by rw [← HZ.out.1];exact hv11,by rw [← HL.out.2.1];exact H10.out.1,Below.step_trans' HZ.out.2.2.2.2.2.2.2.2 HL.out.1⟩
    ·obtain ⟨j,rfl⟩:∃ m,k=m+1:=⟨k-1,by omega⟩
     have hul:us.length=n+1:=by rw [hinv.2.1];exact HS.out.2.2.2.2.2.2.1
     have hVle:val B9 vs≤B9^nv:=by have:=bV HV.out.2.1;rw [HV.out.1.len] at this;exact Nat.le_of_lt this
     have hwin:=hinv.window (by omega) hVle
     have hrv:Ri wr Av nv cv vs:=HV.out.1.below (by rw [← HN.out.2.2];exact hbw)
     have hru:Ri wr (some ⟨gu,0,none⟩) (n+1) cu us:=by have:=hou.rd HS.out.2.2.2.2.2.2.2;rwa [hul] at this
     have hjn:j+nv<n+1:=by have:=HS.out.2.2.2.2.2.2.1;omega
     obtain ⟨p2,hp2⟩:∃ p,nv=p+2:=⟨nv-2,by omega⟩
     obtain ⟨d0,hd0⟩:∃ y,us[j+(p2+2)]?=some y:=⟨_,List.getElem?_eq_getElem (by omega)⟩
     obtain ⟨d1,hd1⟩:∃ y,us[j+(p2+1)]?=some y:=⟨_,List.getElem?_eq_getElem (by omega)⟩
     obtain ⟨d2,hd2⟩:∃ y,us[j+p2]?=some y:=⟨_,List.getElem?_eq_getElem (by omega)⟩
     obtain ⟨fv,hfv⟩:∃ y,vs[p2+1]?=some y:=⟨_,List.getElem?_eq_getElem (by rw [hrv.len];omega)⟩
     obtain ⟨sv,hsv⟩:∃ y,vs[p2]?=some y:=⟨_,List.getElem?_eq_getElem (by rw [hrv.len];omega)⟩
     have hfv0:0<fv:=by
      have hne:vs≠[]:=by rintro rfl;simp at hfv
      have h1:=HV.out.2.2.1 hne
      rw [List.getLast_eq_getElem] at h1
      obtain ⟨k,ey⟩:=List.getElem?_eq_some_iff.1 hfv
      have hl:=hrv.len
      simp only [hl,hp2,show p2+2-1=p2+1 by omega,ey] at h1
      omega
     have hwl:((us.drop j).take (nv+1)).length=p2+3:=by simp;omega
     have hgd:=gd_ok (us:=(us.drop j).take (nv+1)) (vs:=vs) (m:=p2) hwl (by rw [hrv.len];exact hp2) ((hinv.1.drop _).take _) HV.out.2.1 (by rw [fV (by omega)];exact hd0) (by rw [fV (by omega)];exact hd1) (by rw [fV (by omega)];exact hd2) hfv hsv hfv0 (by rw [hwin.1];exact hwin.2.2)
     obtain ⟨t,ht⟩:∃ t,t=gD (d0*B9+d1) d2 fv sv:=⟨_,rfl⟩
     have htb:t<1000000000:=by rw [ht,← cQ];exact gd_lt
     have cg:=aH (rguess_any (some ⟨gu,0,none⟩) (n+1) cu us Av p2 nv cv vs j wr hru hp2 hrv hinv.1 HV.out.2.1 (by omega) (by omega) d0 d1 d2 fv sv hd0 hd1 hd2 hfv hsv hfv0 hgd.2.2)
     rw [← ht] at cg hgd
     have hd0' : us[j+nv]?=some d0:=by rw [hp2];exact hd0
     have HE:=aH (aI hinv (aI hbq (aI hou (aI hbw (aI hul (aI hVle (aI hwin (aI hrv (aI hgd (aI htb (aI hd0' hjn)))))))))))
     have j1:(j:Int)+nv≤n:=by omega
     have j2:(t:Int)≤999999999:=by omega
     have hidx:((j:Int)+1-1)=j:=by omega
     clear hinv hbq hou hbw hul hVle hwin hrv hru hjn hp2 hd0 hd1 hd2 hfv hsv hfv0 hwl hgd ht htb hd0' hk hk0
     simp only [Int.natCast_add,Int.natCast_one,hidx]
     clear hidx
     go_wp2_with fail
     refine cg.out.mono ?_
     rintro e w6 ⟨rfl,hb6⟩
     have HB6:=aH hb6
     clear hb6 cg
     go_wp2
     go_loopw [15,16] (fun bv iv wr => ∃ (i bo:Nat) (zs:List Nat),i≤nv∧iv = .int .i64 (i:Int)∧bv = .int .i64 (bo:Int)∧TakeK us vs zs j t i bo∧Ow wr gu cu (tO (put us j zs))∧w6.grownBy wr (some gu)) (fun _ iv _=>nv-(intOf iv).toNat)
     case atStart=>exact ⟨0,0,[],Nat.zero_le _,rfl,rfl,⟨rfl,Dig.nil _,Nat.zero_le _,by simp [val]⟩,by rw [vJ];exact HE.out.2.2.1.below HB6.out HE.out.2.2.1.lt,tC _ _⟩
     case round =>
      obtain ⟨i,bo,zs,hi,rfl,rfl,htk,how,hg⟩:=hrel
      have hgu1:=HS.out.2.2.2.2.2.1
      have hb6:Below B1 w1 w6:=HE.out.2.2.2.1.trans (HB6.out.mono (Nat.le_trans hgu1 (Nat.le_of_lt HE.out.2.2.1.lt)))
      have hs6:B1≤w6.heap.size:=Nat.le_trans hgu1 (Nat.le_trans (Nat.le_of_lt HE.out.2.2.1.lt) HB6.out.size)
      have hbk:Below B1 w1 wr:=hb6.grown hg hs6 (fun b hb=>by injection hb with hb;omega)
      have hul:=HE.out.2.2.2.2.1
      have hjn:=HE.out.2.2.2.2.2.2.2.2.2.2.2
      by_cases hlt:i<nv
      ·obtain ⟨adv,v,rfl,_,hv,hcv'⟩:=(HV.out.1.below (by rw [← HN.out.2.2];exact hbk)).at_ (k:=i) hlt
       obtain ⟨x,hx⟩:∃ x,us[j+i]?=some x:=⟨_,List.getElem?_eq_getElem (by omega)⟩
       have hcx:=how.cell (i:=i+j) (xS (by rw [Nat.add_comm i j,oV (by rw [htk.1];exact Nat.le_refl _) (by omega)];exact hx))
       have hfx:=how.frozen (i+j)
       have bx:x<1000000000:=HE.out.1.1.at_ hx
       have bv:v<1000000000:=HV.out.2.1.at_ hv
       have bt:t<1000000000:=HE.out.2.2.2.2.2.2.2.2.2.1
       have bb:bo≤1000000000:=htk.2.2.1
       obtain ⟨P,p,r,e,eP,bP0,bP2,hpI,hp,hr,he,hre,hcase⟩:=takeFacts bx bv bt bb
       have hst:=htk.step hx hv hp hr he hre
       have b1:(x:Int)≤999999999:=by omega
       have b2:(bo:Int)≤1000000000:=by omega
       have a1:(i:Int)<nv:=by omega
       have a2:(i:Int)+j<(n:Int)+1:=by omega
       have HT:=aH (aI hst (aI how (aI hg (aI hlt (aI hpI (aI hcase (aI htk.1 hul)))))))
       clear hst how hg hlt htk hx hv hp hr he hre bx bv bt bb hb6 hs6 hbk hul hjn hgu1 hi eP hpI
       rcases hcase with ⟨q1,q2,rfl⟩|⟨q1,q2,rfl⟩
       ·have c1:decide ((x:Int)-((t:Int)*(v:Int)+bo)%1000000000<0)=false:=by rw [decide_eq_false_iff_not];omega
        clear q1
        go_wp2
        go_roundw
        case rel =>
         obtain ⟨hst,how,hg,hlt,hpI,_,hzl,hul⟩:=HT.out
         refine ⟨i+1,p/B9+0,zs ++ [r],hlt,by go_num,?_,hst,?_,cU hg (eL _ _ _ _)⟩
         ·rw [Nat.add_zero];refine congrArg _ ?_;rw [cQ];omega
         ·rw [Nat.add_comm i j,← iC hzl (by omega),← xT]
          exact how.set_ _ _
        case measure =>
         have:=HT.out.2.2.2.1
         clear HT q2 c1
         simp [intOf];omega
       ·have c1:(x:Int)-((t:Int)*(v:Int)+bo)%1000000000<0:=by omega
        clear q1
        go_wp2
        go_roundw
        case rel =>
         obtain ⟨hst,how,hg,hlt,hpI,_,hzl,hul⟩:=HT.out
         refine ⟨i+1,p/B9+1,zs ++ [r],hlt,by go_num,?_,hst,?_,cU hg (eL _ _ _ _)⟩
         ·refine congrArg _ ?_;rw [cQ];omega
         ·rw [Nat.add_comm i j,← iC hzl (by omega),← xT]
          exact how.set_ _ _
        case measure =>
         have:=HT.out.2.2.2.1
         clear HT q2 c1
         simp [intOf];omega
      ·obtain rfl:nv=i:=by omega
       have hd0:=HE.out.2.2.2.2.2.2.2.2.2.2.1
       have hc0:=how.cell (i:=j+nv) (xS (by rw [oV (by rw [htk.1];exact Nat.le_refl _) (by omega)];exact hd0))
       have hf0:=how.frozen (j+nv)
       have hne:¬ gq=gu:=by have:=HS.out.2.2.2.2.1;omega
       have hne2:¬ gu=gq:=by omega
       have hbq6:=HE.out.2.1.below HB6.out HE.out.2.1.lt
       have hbq:Bi wr gq 3 qs:=(hg.block gq hbq6.lt (by intro e;injection e with e;exact hne e)).trans hbq6
       have hqlen:qs.length=L:=HE.out.1.2.2.2.1
       have hjL:j<L:=by have:=HS.out.2.2.2.2.2.2.1;omega
       obtain ⟨zq,hcq⟩:∃ z:Int,wr.cell? ⟨gq,j,none⟩=some (.int .i64 z):=⟨_,hbq.cell_get (by omega)⟩
       have hfq:=hbq.frozen j
       have htv:=htk.2.2.2
       rw [List.take_of_length_le (l:=vs) (by rw [HV.out.1.len];exact Nat.le_refl _)] at htv
       have hU:val B9 ((us.drop j).take (nv+1))=val B9 ((us.drop j).take nv)+B9^nv*d0:=by
        have hk:nv<(us.drop j).length:=by simp;omega
        rw [aF _ _ _ hk]
        have:(us.drop j)[nv]=d0:=by
         have h1:(us.drop j)[nv]?=some d0:=by rw [List.getElem?_drop];exact hd0
         rw [List.getElem?_eq_getElem hk] at h1
         injection h1
        rw [this]
       have hxT:=bV htk.2.1
       rw [htk.1] at hxT
       have hVle:=HE.out.2.2.2.2.2.1
       have hV0:0<val B9 vs:=by
        rcases Nat.eq_zero_or_pos (val B9 vs) with e|e
        ·exfalso
         have:=HE.out.2.2.2.2.2.2.1.2.2
         rw [e,Nat.zero_mul] at this
         omega
        ·exact e
       have hgd:=HE.out.2.2.2.2.2.2.2.2.1
       have htake:=take_ok (u:=val B9 ((us.drop j).take (nv+1))) (v:=val B9 vs) (h:=d0) (t:=t) (bor:=bo) hU htv hxT hVle hgd.1 hgd.2.1 hV0
       have hstep:=fun (ws:List Nat) (h1:ws.length=nv+1) (h2:Dig B9 ws) (h3:val B9 ws=val B9 ((us.drop j).take (nv+1))%val B9 vs)=>HE.out.1.step hjL hVle hV0 h1 h2 h3
       have bd : (d0 : Int) ≤ 999999999 := by have:d0<1000000000:=HE.out.1.1.at_ hd0
                                              omega
       have bb : (bo : Int) ≤ 1000000000 := by have:bo≤1000000000:=htk.2.2.1
                                               omega
       have a1:(j:Int)<L:=by omega
       have a2:(j:Int)+nv<(n:Int)+1:=by omega
       by_cases hbr:d0<bo
       ·obtain ⟨k1,k2⟩:=htake.2 hbr
        have ht0:0<t:=by rw [k1];exact Nat.succ_pos _
        have ht1:(1:Int)≤t:=by omega
        have c1:(d0:Int)-bo<0:=by omega
        have HC:=aH (aI htk (aI how (aI hg (aI hbq (aI hstep (aI hU (aI htv (aI k1 (aI k2 (aI hxT (aI hVle (aI hV0 (aI hbk (aI hul (aI hqlen hjL)))))))))))))))
        have HCq:=aH (aI hcq hfq)
        clear htk how hg hbq hstep hU htv k1 k2 hxT hVle hV0 hbk hul hqlen hjL htake hgd hd0 hbq6 hbr hjn hb6 hs6 hgu1 hi hlt hcq hfq
        have htT:t<1000000000:=HE.out.2.2.2.2.2.2.2.2.2.1
        clear ht0
        go_wp2
        go_loopw [19,20] (fun cv iv wr => ∃ (i cy:Nat) (ws:List Nat),i≤nv∧iv = .int .i64 (i:Int)∧cv = .int .i64 (cy:Int)∧BackK (put us j zs) vs ws j i cy∧Ow wr gu cu ((tO (put (put us j zs) j ws)).set (j+nv) ((d0:Int)-bo))∧w6.grownBy wr (some gu)) (fun _ iv _=>nv-(intOf iv).toNat)
        case atStart=>exact ⟨0,0,[],Nat.zero_le _,rfl,rfl,⟨rfl,Dig.nil _,by omega,by simp [val]⟩,by rw [vJ];exact HC.out.2.1.set_ _ _,cU HC.out.2.2.1 (eL _ _ _ _)⟩
        case round =>
         obtain ⟨i,cy,ws,hi,rfl,rfl,hbk4,how,hg⟩:=hrel
         have hgu1:=HS.out.2.2.2.2.2.1
         have hb6:Below B1 w1 w6:=HE.out.2.2.2.1.trans (HB6.out.mono (Nat.le_trans hgu1 (Nat.le_of_lt HE.out.2.2.1.lt)))
         have hs6:B1≤w6.heap.size:=Nat.le_trans hgu1 (Nat.le_trans (Nat.le_of_lt HE.out.2.2.1.lt) HB6.out.size)
         have hbk:Below B1 w1 wr:=hb6.grown hg hs6 (fun b hb=>by injection hb with hb;omega)
         have hul:=HE.out.2.2.2.2.1
         have hzl:=HC.out.1.1
         have hpl:(put us j zs).length=us.length:=cV (by omega)
         have hpd:Dig B9 (put us j zs):=put_dig9 HE.out.1.1 HC.out.1.2.1
         by_cases hlt:i<nv
         ·obtain ⟨adv,v,rfl,_,hv,hcv'⟩:=(HV.out.1.below (by rw [← HN.out.2.2];exact hbk)).at_ (k:=i) hlt
          obtain ⟨x,hx⟩:∃ x,(put us j zs)[j+i]?=some x:=⟨_,List.getElem?_eq_getElem (by omega)⟩
          have hcx:=how.cell (i:=i+j) (z:=(x:Int)) (by rw [List.getElem?_set_ne (by omega)];exact xS (by rw [Nat.add_comm i j,oV (by rw [hbk4.1];exact Nat.le_refl _) (by omega)];exact hx))
          have hfx:=how.frozen (i+j)
          have bx:x<1000000000:=hpd.at_ hx
          have bv:v<1000000000:=HV.out.2.1.at_ hv
          have bc:cy≤1:=hbk4.2.2.1
          have hst:=hbk4.step hx hv rfl (by rw [cQ];exact bx) (by rw [cQ];exact bv)
          have b1:(x:Int)≤999999999:=by omega
          have b2:(v:Int)≤999999999:=by omega
          have b3:(cy:Int)≤1:=by omega
          have a1:(i:Int)<nv:=by omega
          have a2:(i:Int)+j<(n:Int)+1:=by omega
          have HT:=aH (aI hst (aI how (aI hg (aI hlt (aI hbk4.1 (aI hul hpl))))))
          clear hst hlt hbk4 hx hv bx bv bc hb6 hs6 hbk hul hgu1 hi hzl hpl hpd
          go_wp2
          go_quiet (fail)
          have HW:=aH (show Ow (wr.drewN nq) gu cu ((tO (put (put us j zs) j ws)).set (j+nv) ((d0:Int)-bo))∧w6.grownBy (wr.drewN nq) (some gu) from ⟨how,⟨hg.os,hg.tape,hg.output,hg.size,hg.block⟩⟩)
          have hcx2:(wr.drewN nq).cell? ⟨gu,i+j,none⟩=some (.int .i64 (x:Int)):=hcx
          have hfx2:(wr.drewN nq).frozen? ⟨gu,i+j,none⟩=false:=hfx
          clear how hg hcx hfx hcv'
          generalize wr.drewN nq=w8 at *
          go_wp2
          go_roundw
          case rel =>
           obtain ⟨hst,_,_,hlt,hwl,hul,hpl⟩:=HT.out
           obtain ⟨how,hg⟩:=HW.out
           have er:((x:Int)+v+cy)%1000000000=(((x+v+cy)%B9:Nat):Int):=by rw [cQ];omega
           have eq' : ((x:Int)+v+cy)/1000000000=(((x+v+cy)/B9:Nat):Int):=by rw [cQ];omega
           refine ⟨i+1,(x+v+cy)/B9,ws ++ [(x+v+cy)%B9],hlt,by go_num,by rw [← eq'],hst,?_,cU hg (eL _ _ _ _)⟩
           rw [er,Nat.add_comm i j,← iC hwl (by omega),← xT,List.set_comm _ _ (by omega)]
           exact how.set_ _ _
          case measure =>
           have:=HT.out.2.2.2.1
           clear HT HW hcx2 hfx2
           simp [intOf];omega
         ·obtain rfl:nv=i:=by omega
          obtain ⟨htk,_,_,_,hstep,hU,htv,k1,k2,hxT,hVle,hV0,_,_,hqlen,hjL⟩:=HC.out
          have hb4:=hbk4.2.2.2
          have hzw:((put us j zs).drop j).take nv=zs:=by
           have h1:=wY (ys:=us) (zs:=zs) (o:=j) (by rw [hzl];omega)
           rw [hzl] at h1
           exact h1
          rw [hzw,List.take_of_length_le (l:=vs) (by rw [HV.out.1.len];exact Nat.le_refl _)] at hb4
          have hwT:=bV hbk4.2.1
          rw [hbk4.1] at hwT
          obtain ⟨r1,r2,r3⟩:=back_ok hU htv k1 k2 hb4 hwT hVle hV0 hbk4.2.2.1
          have hc0:=how.cell (i:=j+nv) (z:=(d0:Int)-bo) (List.getElem?_set_self (by rw [List.length_map,cV (by rw [hbk4.1,hpl];omega),hpl];omega))
          have hf0:=how.frozen (j+nv)
          have hbq6:=HE.out.2.1.below HB6.out HE.out.2.1.lt
          have hbq:Bi wr gq 3 qs:=(hg.block gq hbq6.lt (by intro e;injection e with e;exact hne e)).trans hbq6
          obtain ⟨zq,hcq⟩:∃ z:Int,wr.cell? ⟨gq,j,none⟩=some (.int .i64 z):=⟨_,hbq.cell_get (by omega)⟩
          have hfq:=hbq.frozen j
          have ez:(d0:Int)-bo+cy=0:=by omega
          have h1:=hstep (ws ++ [0]) (by simp [hbk4.1]) (hbk4.2.1.app (Dig.cons cJ (Dig.nil _))) (by rw [cL,Nat.mul_zero,Nat.add_zero];exact r1)
          have hq1:val B9 ((us.drop j).take (nv+1))/val B9 vs=t-1:=by rw [k1,Nat.add_sub_cancel]
          rw [hq1] at h1
          have b3:(cy:Int)≤1:=by omega
          have HD:=aH (aI h1 (aI how (aI hbq (aI hbk (aI hbk4.1 (aI hul (aI hzl (aI hpl hjL))))))))
          clear h1 how hbq hbk hul hzl hpl hjL hstep hU htv k1 k2 hxT hVle hV0 hqlen htk hb4 hzw hwT r1 r2 r3 hbq6 hq1 hbk4 hg hb6 hs6 hgu1 hi hpd hlt
          go_wp2
          go_roundw
          case rel =>
           obtain ⟨h1,how,hbq,hbk,hwl,hul,hzl,hpl,hjL⟩:=HD.out
           refine ⟨j,put us j (ws ++ [0]),qs.set j (t-1),Nat.le_of_lt hjL,by go_num,h1,?_,?_,(hbk.setCell (by show B1≤gu;exact HS.out.2.2.2.2.2.1) _).setCell (by show B1≤gq;have:=HS.out.2.2.2.2.1;have:=HS.out.2.2.2.2.2.1;omega) _⟩
           ·have e1:(t:Int)-1=((t-1:Nat):Int):=by omega
            rw [e1]
            exact (hbq.far (by show gq≠gu;exact hne) _).set_ _ _
           ·refine Ow.far ?_ (by show gu≠gq;exact hne2) _
            have h2:=how.set_ (j+nv) 0
            rw [List.set_set,zW,iC hwl (by rw [hpl,hul];have:=HS.out.2.2.2.2.2.2.1;omega),put_put9 (by simp only [List.length_append,List.length_singleton,hwl];have:=HS.out.2.2.2.2.2.2.1;omega) (by simp only [List.length_append,List.length_singleton,hwl,hzl];omega)] at h2
            exact h2
          case measure =>
           clear HD
           simp [intOf]
       ·obtain ⟨k1,k2,k3⟩:=htake.1 (by omega)
        have ez:(d0:Int)-bo=0:=by omega
        have HC:=aH (aI htk (aI how (aI hg (aI hbq (aI hstep (aI k1 (aI k2 (aI hbk (aI hul hjL)))))))))
        clear htk how hg hbq hstep hU htv k1 k2 k3 hxT hVle hV0 hbk hul hqlen hjL htake hgd hd0 hbq6 hbr hjn hb6 hs6 hgu1 hi hlt
        go_wp2
        go_roundw
        case rel =>
         obtain ⟨htk,how,hg,hbq,hstep,k1,k2,hbk,hul,hjL⟩:=HC.out
         have h1:=hstep (zs ++ [0]) (by simp [htk.1]) (htk.2.1.app (Dig.cons cJ (Dig.nil _))) (by rw [cL,Nat.mul_zero,Nat.add_zero];exact k2)
         rw [← k1] at h1
         refine ⟨j,put us j (zs ++ [0]),qs.set j t,Nat.le_of_lt hjL,by go_num,h1,(hbq.far (by show gq≠gu;exact hne) _).set_ _ _,?_,(hbk.setCell (by show B1≤gu;exact HS.out.2.2.2.2.2.1) _).setCell (by show B1≤gq;have:=HS.out.2.2.2.2.1;have:=HS.out.2.2.2.2.2.1;omega) _⟩
         refine Ow.far ?_ (by show gu≠gq;exact hne2) _
         rw [← iC htk.1 (by have:=HC.out.2.2.2.2.2.2.2.2.2;have:=HS.out.2.2.2.2.2.2.1;omega),← zW]
         exact how.set_ _ _
        case measure =>
         clear HC
         simp [intOf]
def SubI (xs ys zs:List Nat) (k bo:Nat):Prop:=bo≤1∧Dig B9 zs∧zs.length=k∧val B9 zs+val B9 (ys.take k)=val B9 (xs.take k)+B9^k*bo
theorem SubI.nil (xs ys:List Nat):SubI xs ys [] 0 0:=⟨by omega,Dig.nil _,rfl,by simp [val]⟩
theorem SubI.step {xs ys zs:List Nat} {k bo r q:Nat} (h:SubI xs ys zs k bo) (hr:r<1000000000) (hq:q≤1) (e:r+ys.getD k 0+bo=xs.getD k 0+1000000000*q):SubI xs ys (zs ++ [r]) (k+1) q:=by
 obtain ⟨h1,h2,h3,h4⟩:=h
 refine ⟨hq,h2.app (Dig.cons (by rw [cQ];exact hr) (Dig.nil _)),by simp [h3],?_⟩
 rw [cL,h3,iG,iG,Nat.pow_succ]
 rw [← cQ] at e
 generalize xs.getD k 0=x at *
 generalize ys.getD k 0=y at *
 clear hr hq h2 h3 h1
 generalize B9=V at *
 grind
theorem SubI.finish {xs ys zs:List Nat} {k bo:Nat} (h:SubI xs ys zs k bo) (h1:xs.length=k) (h2:ys.length≤k) (hle:val B9 ys≤val B9 xs):val B9 zs=val B9 xs-val B9 ys:=by
 obtain ⟨_,hd,hl,h4⟩:=h
 rw [List.take_of_length_le h2,List.take_of_length_le (by omega)] at h4
 have hz:=bV hd
 rw [hl] at hz
 have hb:bo=0:=by
  rcases Nat.eq_zero_or_pos bo with e|e
  ·exact e
  ·exfalso
   have:B9^k*1≤B9^k*bo:=Nat.mul_le_mul_left _ e
   omega
 rw [hb] at h4
 omega
set_option maxHeartbeats 1000000 in
set_option maxRecDepth 100000 in
theorem yO (A:Option Addr) (n c:Nat) (xs:List Nat) (A' : Option Addr) (n' c' : Nat) (ys:List Nat) (w:World) (h:Ri w A n c xs) (h' : Ri w A' n' c' ys)
 (hd:Dig B9 xs) (hd' : Dig B9 ys) (hn:n≤2199023255552) (hn' : n'≤n) (hle:val B9 ys≤val B9 xs) :
 Calls Tryz.prog 217 #[.slice A n c,.slice A' n' c'] w (GivesDi w (val B9 xs-val B9 ys)):=by
 have HX:=aH (aI h hd)
 have HY:=aH (aI h' hd')
 have HN:=aH (aI hn (aI hn' hle))
 have hnc:n≤c:=h.cap
 have hcm:c≤9223372036854775807:=h.2.2.1
 have hnc' : n'≤c':=h'.cap
 have hcm' : c'≤9223372036854775807:=h'.2.2.1
 obtain ⟨i0,hi,hz0,hz1,hz2⟩:=info_parts gY
 have HI:=aH (aI hi (aI hz0 (aI hz1 hz2)))
 clear h h' hd hd' hi hz0 hz1 hz2 hle
 go_enter Tryz.func217,Tryz.ntmps217
 go_wp2
 go_loopw [5,6,7] (fun ov cv iv wr => ∃ (k cy:Nat) (zs:List Nat),k≤n∧iv = .int .i64 (k:Int)∧cv = .int .i64 (cy:Int)∧SubI xs ys zs k cy∧wr.ownsRow w.heap.size 3 1 ov k (zs.map eC)∧Below w.heap.size w wr) (fun _ _ iv _=>n-(intOf iv).toNat)
 case atStart=>exact ⟨0,0,[],Nat.zero_le _,rfl,rfl,SubI.nil _ _,⟨rfl,.inl ⟨rfl,rfl⟩⟩,Below.refl _ _⟩
 case round =>
  obtain ⟨k,cy,zs,hk,rfl,rfl,hinv,hrow,hb⟩:=hrel
  by_cases hgo:k<n
  ·have b1:(k:Int)<n:=by omega
   have hk1:(k:Int)+1≤2199023255552:=by have:=HN.out;omega
   have hkB:k≤2199023255999:=by have:=HN.out;omega
   obtain ⟨ad,x,rfl,_,hx,hcx⟩:=(HX.out.1.below hb).at_ (k:=k) hgo
   obtain ⟨y,hy⟩:∃ y,y=ys.getD k 0:=⟨_,rfl⟩
   have bx:x<1000000000:=HX.out.2.at_ hx
   have by' : y<1000000000:=by rw [hy];exact HY.out.2.get0 cJ k
   have bc:cy≤1:=hinv.1
   obtain ⟨d,s,r,q,e1,e2,e3,e4,hr,hq,hs,he⟩:=subFacts bx by' bc
   have hst:SubI xs ys (zs ++ [r]) (k+1) q:=hinv.step hr hq (by rw [← hy,getD_get hx];exact he)
   have cd':=aH (fun w' (hb' : Below w.heap.size w w')=>tN A' n' c' ys k w' (HY.out.1.below hb'))
   rw [← hy] at cd'
   have HS:=aH (aI hst (aI hrow (aI hb (aI hgo (aI hinv.2.2.1 hkB)))))
   clear hst hrow hk hinv hx hy hr hq bx by' bc hgo he
   go_wp2
   go_quiet ((go_at_call 252;exact Calls.quiet_of_same ((cd'.out _ (by first|exact hb|exact cI hb _)).mono fun _ _ h=>⟨h.1,h.2.symm⟩)))
   have hb2:=cI hb nq
   have hrow2:(wr.drewN nq).ownsRow w.heap.size 3 1 _ k (zs.map eC):=HS.out.2.1
   have HB:=aH (aI hrow2 hb2)
   clear hb hcx hb2 hrow2
   generalize wr.drewN nq=w2 at *
   rcases hs with ⟨rfl,rfl⟩|⟨hs1,hs2,hs3,rfl⟩
   ·have c1:¬ (r:Int)<0:=vQ r
    go_wp2_with (at_builtin;refine fY (r:=r) rfl _ _ rfl rfl HB.out.1 rfl HS.out.2.2.2.2.2 HB.out.2 (Nat.le_refl _) HB.out.2.size ?_)
    intro v' w3 hr3 hbw _
    have HX3:=aH (aI hr3 hbw)
    clear hr3 hbw
    go_wp2
    go_roundw
    case rel=>exact ⟨k+1,0,zs ++ [r],HS.out.2.2.2.1,by first|rfl|go_num|simp,rfl,HS.out.1,by rw [List.map_append];exact HX3.out.1,HX3.out.2⟩
    case measure =>
     have:=HS.out.2.2.2.1
     clear e1 e2 e3 e4 HX3 HS HB
     simp [intOf];omega
   ·have hs4:decide (s<0)=true:=decide_eq_true hs1
    clear hs1
    go_wp2_with (at_builtin;refine fY (r:=r) rfl _ _ rfl rfl HB.out.1 rfl HS.out.2.2.2.2.2 HB.out.2 (Nat.le_refl _) HB.out.2.size ?_)
    intro v' w3 hr3 hbw _
    have HX3:=aH (aI hr3 hbw)
    clear hr3 hbw
    go_wp2
    go_roundw
    case rel=>exact ⟨k+1,1,zs ++ [r],HS.out.2.2.2.1,by first|rfl|go_num|simp,rfl,HS.out.1,by rw [List.map_append];exact HX3.out.1,HX3.out.2⟩
    case measure =>
     have:=HS.out.2.2.2.1
     clear e1 e2 e3 e4 HX3 HS HB hs2 hs3 hs4
     simp [intOf];omega
  ·obtain ⟨A2,c2,rfl,hri⟩:=vP hrow
   have hkn:n=k:=by omega
   have hv:=hinv.finish (by rw [HX.out.1.len];exact hkn) (by rw [HY.out.1.len];omega) HN.out.2.2
   have HF:=aH (aI hri (aI hinv.2.1 (aI hv hb)))
   have b1:¬ (k:Int)<n:=by omega
   clear hri hinv hv hb hk hgo hrow
   go_wp2_with (go_at_call 250;refine (mA _ _ _ _ _ HF.out.1 HF.out.2.1).mono ?_;rintro e w' ⟨⟨v,rfl,hv⟩,rfl⟩)
   go_ret
   exact ⟨v,rfl,by rw [← HF.out.2.2.1];exact hv,HF.out.2.2.2⟩
theorem Di.nil (w:World):Di w (.slice none 0 0) 0:=⟨none,0,0,[],rfl,Ri.nil,Dig.nil _,Norm.nil,rfl⟩
theorem ri_one {w:World} {g:Nat} {f:Nat} (h:w.heap[g]?=some (.cells #[.int .i64 (f:Int)] 3 (0,0))):Ri w (some ⟨g,0,none⟩) 1 1 [f]:=Bi.rd (ys := [f]) h (by show 1≤9223372036854775807;omega)
set_option maxHeartbeats 1000000 in
set_option maxRecDepth 100000 in
theorem yP (A:Option Addr) (n c:Nat) (xs:List Nat) (A' : Option Addr) (n' c' : Nat) (ys:List Nat) (w:World) (h:Ri w A n c xs) (h' : Ri w A' n' c' ys)
 (hd:Dig B9 xs) (hd' : Dig B9 ys) (hx:Norm xs) (hy:Norm ys) (hn:n≤1099511627776) (h0:0<n') :
 Calls Tryz.prog 209 #[.slice A n c,.slice A' n' c'] w (xR w (val B9 xs/val B9 ys) (val B9 xs%val B9 ys)):=by
 have hnc:n≤c:=h.cap
 have hcm:c≤9223372036854775807:=h.2.2.1
 have hnc' : n'≤c':=h'.cap
 have hcm' : c'≤9223372036854775807:=h'.2.2.1
 rcases Nat.lt_or_ge (val B9 xs) (val B9 ys) with hlt|hge
 ·have cc:=aH (eX A n c xs A' n' c' ys w h h' hd hd' hx hy)
  rw [cmpI_lt hlt] at cc
  have HX:=aH (aI h (aI hd (aI hx hlt)))
  clear h h' hd hd' hx hy hlt
  go_enter Tryz.func209,Tryz.ntmps209
  go_wp2_with fail
  refine cc.out.mono ?_
  rintro e w0 ⟨rfl,hb0⟩
  go_wp2
  go_ret2
  refine ⟨_,_,rfl,?_,?_,hb0⟩
  ·rw [Nat.div_eq_of_lt HX.out.2.2.2];exact Di.nil _
  ·rw [Nat.mod_eq_of_lt HX.out.2.2.2];exact ⟨A,n,c,xs,rfl,HX.out.1.below hb0,HX.out.2.1,HX.out.2.2.1,rfl⟩
 ·rcases Nat.lt_or_ge 1 n' with h1|h1
  ·exact divLong_any A n c xs A' n' c' ys w h h' hd hd' hx hy hn h1 hge
  ·obtain rfl:n'=1:=by omega
   obtain ⟨ad',y,rfl,hblk',hyt,hcy⟩:=h'.at_ (k:=0) (by omega)
   have hyy:ys = [y]:=by
    have hl:=h'.len
    match ys,hl,hyt with
    | [a],_,hy=>simp at hy;rw [hy]
   subst hyy
   have hyv:val B9 [y]=y:=by simp [val]
   have hyl:y<1000000000:=hd'.at_ hyt
   have hy0:0<y:=by
    rcases Nat.eq_zero_or_pos y with e|e
    ·exfalso;subst e;exact hy (by simp) rfl
    ·exact e
   have hc1:¬ bS (val B9 xs) (val B9 [y])<0:=by unfold bS;rw [if_neg (by omega)];split <;> omega
   obtain ⟨z,hz⟩:∃ z:Int,bS (val B9 xs) (val B9 [y])=z:=⟨_,rfl⟩
   have cc:=aH (eX A n c xs (some ad') 1 c' [y] w h h' hd hd' hx hy)
   have cd:=aH (fun W (hb:Below w.heap.size w W)=>rY A n c xs y W (h.below hb) hd (by omega) hy0 hyl)
   rw [hz] at cc hc1
   rw [hyv]
   have hz0:decide (z<0)=false:=decide_eq_false hc1
   have HY:=aH (aI hyl hy0)
   obtain ⟨r,hr⟩:∃ r,r=val B9 xs%y:=⟨_,rfl⟩
   have hrl:r<1000000000:=by rw [hr];exact Nat.lt_trans (Nat.mod_lt _ hy0) hyl
   rw [← hr] at cd ⊢
   have HR:=aH hrl
   clear h h' hd hd' hx hy hc1 hz hyl hy0 hyv hyt hge hr hrl
   go_enter Tryz.func209,Tryz.ntmps209
   go_wp2_with fail
   refine cc.out.mono ?_
   rintro e w0 ⟨rfl,hb0⟩
   have hcy0:=(hb0.cell (p:=ad'.add 0) (by rw [bL];exact hblk')).trans hcy
   have hcy1:w0.cell? ad'=some (.int .i64 (y:Int)):=by simpa [Addr.add] using hcy0
   clear hcy hcy0
   go_wp2_with fail
   refine (cd.out _ hb0).mono ?_
   rintro e w1 ⟨v,rfl,hv,hb1⟩
   have HV:=aH (aI hv (Below.step_trans' hb0 hb1))
   clear hv hb1 hb0
   have hbN:Below w1.heap.size w1 (w1.alloc (.cells #[.int .i64 (r:Int)] 3)):=(Below.refl _ _).alloc (Nat.le_refl _) _
   have HN:=aH hbN
   clear hbN
   go_wp2_with (go_at_call 250;refine (mA _ _ _ [r] _ (ri_one (heap_alloc_new w1 _)) (Dig.cons HR.out (Dig.nil _))).mono ?_;rintro e w11 ⟨⟨v11,rfl,hv11⟩,rfl⟩)
   go_ret2
   exact ⟨v,v11,rfl,HV.out.1.below HN.out,by simpa [val] using hv11,Below.step_trans' HV.out.2 HN.out⟩
theorem rZ {v v' : Value} {a b:Nat} {w:World} (h:Di w v a) (h' : Di w v' b) (ha:a<B9^1099511627776) (hb:0<b):Calls Tryz.prog 209 #[v,v'] w (xR w (a/b) (a%b)):=by
 obtain ⟨A,n,c,xs,rfl,hr,hd,hn,rfl⟩:=h
 obtain ⟨A',n',c',ys,rfl,hr',hd',hn',rfl⟩:=h'
 refine yP A n c xs A' n' c' ys w hr hr' hd hd' hn hn' ?_ ?_
 ·rw [← hr.len];exact aU dX hn ha
 ·rw [← hr'.len]
  exact List.length_pos_iff.2 (by rintro rfl;simp [val] at hb)
def CommAt (w:World) (T a b k:Nat) (va vb:Value) (wr:World):Prop := ∃ x,Di wr va x∧Di wr vb k∧Nat.gcd x k=Nat.gcd a b∧x<T∧k<T∧Below w.heap.size w wr
set_option maxHeartbeats 1000000 in
set_option maxRecDepth 100000 in
theorem common_any (v v' : Value) (a b:Nat) (w:World) (h:Di w v a) (h' : Di w v' b) (ha:a<B9^1099511627776) (hb:b<B9^1099511627776) :
 Calls Tryz.prog 154 #[v,v'] w (GivesDi w (Nat.gcd a b)):=by
 obtain ⟨T,hT⟩:∃ T,T=B9^1099511627776:=⟨_,rfl⟩
 have HB:=aH (fun (x y:Nat) (u u' : Value) (W:World) (k:Di W u x) (k' : Di W u' y) (kx:x<T) (ky:0<y)=>rZ k k' (by rw [← hT];exact kx) ky)
 rw [← hT] at ha hb
 clear hT
 have HA:=aH (aI h (aI h' (aI ha hb)))
 obtain ⟨A,n,c,xs,rfl,hr,hd,hn,rfl⟩:=h
 obtain ⟨A',n',c',ys,rfl,hr',hd',hn',rfl⟩:=h'
 generalize val B9 xs=a at *
 generalize val B9 ys=b at *
 clear hr hd hn hr' hd' hn' ha hb
 go_enter Tryz.func154,Tryz.ntmps154
 go_wp2
 go_loopg [0,1] b (fun k va vb wr=>CommAt w T a b k va vb wr)
 case atStart=>exact ⟨a,HA.out.1,HA.out.2.1,rfl,HA.out.2.2.1,HA.out.2.2.2,Below.refl _ _⟩
 case round =>
  obtain ⟨x,hx,hy,hg,hxT,hyT,hbe⟩:=hrel
  have HR:=aH (aI hx (aI hy (aI hg (aI hxT (aI hyT hbe)))))
  obtain ⟨A',n',c',ys,rfl,hr',hd',hn',hv'⟩:=hy
  rcases Nat.eq_zero_or_pos n' with h0|h0
  ·subst h0
   have hk:gk=0:=by
    rw [← hv',List.eq_nil_of_length_eq_zero hr'.len];rfl
   obtain ⟨A2,n2,c2,zs,rfl,hr2,hd2,hn2,hv2⟩:=hx
   have HK:=aH hk
   clear hg hxT hyT hbe hr' hd' hn' hv' hk hr2 hd2 hn2 hv2
   go_wp2
   go_ret
   obtain ⟨hx,hy,hg,hxT,hyT,hbe⟩:=HR.out
   refine ⟨_,rfl,?_,hbe⟩
   rw [← hg,HK.out,Nat.gcd_zero_right]
   exact hx
  ·have k1:(0:Int)<n':=by omega
   have hkp:0<gk:=by
    rw [← hv']
    exact hn'.pos cJ (by rintro rfl;have:=hr'.len;simp at this;omega)
   have HK:=aH hkp
   obtain ⟨A2,n2,c2,zs,rfl,hr2,hd2,hn2,hv2⟩:=hx
   clear hg hxT hyT hbe hr' hd' hn' hv' hkp hr2 hd2 hn2 hv2 h0
   go_wp2_with fail
   refine (HB.out x gk _ _ _ HR.out.1 HR.out.2.1 HR.out.2.2.2.1 HK.out).mono ?_
   rintro e w3 ⟨v1,v2,rfl,q1,q2,q3⟩
   obtain ⟨A1,n1,c1,zs1,rfl,_⟩:=id q1
   obtain ⟨A3,n3,c3,zs3,rfl,_⟩:=id q2
   have Q:=aH (aI q2 q3)
   clear q1 q2 q3
   go_wp2
   go_roundg (x%gk)
   case measure=>exact Nat.mod_lt _ HK.out
   case rel =>
    obtain ⟨hx,hy,hg,hxT,hyT,hbe⟩:=HR.out
    exact ⟨gk,hy.below Q.out.2,Q.out.1,by rw [← hg,Nat.gcd_comm gk,Nat.gcd_comm x,Nat.gcd_rec gk x],hyT,Nat.lt_trans (Nat.mod_lt _ HK.out) hyT,Below.step_trans' hbe Q.out.2⟩
def gZ (neg:Bool) (a:Nat):Int:=if neg then -(a:Int) else a
theorem sA (neg:Bool) (a:Nat):(gZ neg a).natAbs=a:=by cases neg <;> simp [gZ]
theorem sgz_neg (neg:Bool) (a:Nat):decide (gZ neg a<0)=(neg&&decide (0<a)):=by
 cases neg
 ·simp [gZ]
 ·simp [gZ]
theorem jV (neg:Bool) (A:Option Addr) (n c:Nat) (xs:List Nat) (w:World) (h:Ri w A n c xs) (hd:Dig B9 xs) :
 Calls Tryz.prog 214 #[.bool neg,.slice A n c] w fun e w' => ∃ v,e = .returned v∧In w' v (gZ neg (val B9 xs))∧Below w.heap.size w w':=by
 have HR:=aH (aI h hd)
 clear h hd
 go_enter Tryz.func214,Tryz.ntmps214
 go_wp2_with fail
 refine (trim_raw A n c xs _ (HR.out.1.below ((Below.refl _ _).alloc (Nat.le_refl _) _))).mono ?_
 rintro e w' ⟨⟨k,⟨hk,hn,hv⟩,rfl⟩,rfl⟩
 have HK:=aH (aI hk (aI hn hv))
 clear hk hn hv
 have res:∀ (b:Bool),b=(neg&&decide (0<k))→∀ w' : World,Below w.heap.size w w'→In w' (.agg #[.bool b,.slice A k c]) (gZ neg (val B9 xs)):=by
  intro b hb w' hbel
  obtain ⟨hk,hn,hv⟩:=HK.out
  refine ⟨A,k,c,xs.take k,?_,(HR.out.1.below hbel).take (by rw [← HR.out.1.len];exact hk),HR.out.2.take k,hn,by rw [sA];exact hv⟩
  rw [sgz_neg,hb]
  have:decide (0<k)=decide (0<val B9 xs):=by
   rw [decide_eq_decide,← hv]
   constructor
   ·intro h0
    refine Nat.pos_of_ne_zero fun he=>?_
    have:=(Norm.zero_iff cJ hn).1 he
    have h2:=congrArg List.length this
    rw [List.length_take,List.length_nil] at h2
    omega
   ·intro h0
    refine Nat.pos_of_ne_zero fun he=>?_
    subst he
    simp [val] at h0
  rw [this]
 cases neg
 ·go_wp2
  refine bodyPost_ret (v := .agg #[.bool false,.slice A k c]) (by simp [results,Tryz.results214,go_sem]) rfl ⟨_,rfl,res false (by simp) _ ((Below.refl _ _).alloc (Nat.le_refl _) _),(Below.refl _ _).alloc (Nat.le_refl _) _⟩
 ·by_cases h0:0<k
  ·have c0:(0:Int)<k:=by omega
   go_wp2
   refine bodyPost_ret (v := .agg #[.bool true,.slice A k c]) (by simp [results,Tryz.results214,go_sem]) rfl ⟨_,rfl,res true (by simp [h0]) _ ((Below.refl _ _).alloc (Nat.le_refl _) _),(Below.refl _ _).alloc (Nat.le_refl _) _⟩
  ·have c0:¬ (0:Int)<k:=by omega
   go_wp2
   refine bodyPost_ret (v := .agg #[.bool false,.slice A k c]) (by simp [results,Tryz.results214,go_sem]) rfl ⟨_,rfl,res false (by simp [h0]) _ ((Below.refl _ _).alloc (Nat.le_refl _) _),(Below.refl _ _).alloc (Nat.le_refl _) _⟩
def lo (n:Nat):Nat→List UInt8
 | 0 => []
 | k+1=>UInt8.ofNat (48+n/10^k%10)::lo n k
def zX (n k:Nat):ByteArray:=⟨(lo n k).toArray⟩
theorem lo_length (n k:Nat):(lo n k).length=k:=by induction k with|zero=>rfl|succ k ih=>simp [lo,ih]
theorem iL (n k:Nat):(zX n k).size=k:=by simp [zX,ByteArray.size,lo_length]
abbrev digs:ByteArray:=⟨#[48,49,50,51,52,53,54,55,56,57]⟩
theorem digs_at {d:Nat} (h:d<10):digs.extract d (d+1)=⟨#[UInt8.ofNat (48+d)]⟩:=by
 match d,h with
 | 0,_|1,_|2,_|3,_|4,_|5,_|6,_|7,_|8,_|9,_=>rfl
theorem loB_succ (n k:Nat):(⟨#[UInt8.ofNat (48+n/10^k%10)]⟩:ByteArray)++zX n k=zX n (k+1):=by
 apply Ab.ba_ext
 simp [zX,lo]
theorem meas1 {q m least k a b:Nat} (hq:q=m/10) (h0:0<m) (ha:a=k+1) (hb:b=k):q+(least-a)<m+(least-b):=by omega
theorem meas2 {q m least k a b:Nat} (hq:q=m/10) (h0:m=0) (hk:k<least) (ha:a=k+1) (hb:b=k):q+(least-a)<m+(least-b):=by omega
theorem wrapI {q:Nat} (h:q<9223372036854775808):wrap64 (q:Int)=q:=by unfold wrap64;omega
theorem k18 {n k:Nat} (hn:n<9223372036854775808) (hp:10^k≤n):k≤18:=by
 refine Nat.le_of_not_lt fun hlt=>?_
 have h1:10^19≤10^k:=Nat.pow_le_pow_right (by omega) hlt
 have h2:(10:Nat)^19=10000000000000000000:=rfl
 rw [h2] at h1
 omega
set_option maxHeartbeats 1000000 in
set_option maxRecDepth 100000 in
theorem uS (n least:Nat) (w:World) (hn:n<9223372036854775808) (hl:least≤100):Calls Tryz.prog 212 #[.int .i64 (n:Int),.int .i64 (least:Int)] w fun e w' =>
 w'=w∧∃ K,e = .returned (.string (zX n K))∧n<10^K∧least≤K∧(K=least∨10^(K-1)≤n):=by
 have H:=aH (aI hn hl)
 clear hn hl
 go_enter Tryz.func212,Tryz.ntmps212
 go_wp2
 go_loopw [0,5] (fun a s wr => ∃ k m:Nat,a = .int .i64 (m:Int)∧s = .string (zX n k)∧m=n/10^k∧wr=w∧(k=0∨k≤least∨10^(k-1)≤n)∧k≤100) (fun a s _=>(match a with | .int _ z=>z.toNat|_=>0)+(least-mU s))
 case atStart=>exact ⟨0,n,rfl,by simp [zX,lo],by simp,rfl,.inl rfl,by omega⟩
 case round =>
  obtain ⟨k,m,rfl,rfl,hm,rfl,hk,hk100⟩:=hrel
  obtain ⟨d,hd⟩:∃ d,d=m%10:=⟨_,rfl⟩
  obtain ⟨q,hq⟩:∃ q,q=m/10:=⟨_,rfl⟩
  have hd10:d<10:=by omega
  have hm63:m≤n:=by rw [hm];exact Nat.div_le_self _ _
  have t1:((m:Int).tmod 10)=(d:Int):=by rw [Int.tmod_eq_emod_of_nonneg (by omega)];omega
  have t2:((m:Int)%10)=(d:Int):=by omega
  have t3:((m:Int).tdiv 10)=(q:Int):=by rw [Int.tdiv_eq_ediv_of_nonneg (by omega)];omega
  have t4:((m:Int)/10)=(q:Int):=by omega
  have d0:(0:Int)≤d:=by omega
  have d1:(d:Int)+1≤10:=by omega
  have d2:(d:Int)≤d+1:=by omega
  have hsz:((zX n k).size:Int)=(k:Int):=by rw [iL]
  have hext:digs.extract d (d+1)++zX n k=zX n (k+1):=by
   rw [digs_at hd10,hd,hm]
   exact loB_succ n k
  have HH:=aH (aI hd (aI hq (aI hm (aI hk (aI hk100 (aI hm63 hext))))))
  clear hd hq hm hk hk100 hm63 hext
  by_cases h0:0<m
  ·have c0:(0:Int)<m:=by omega
   have HP:=aH h0
   clear h0
   go_wp2
   ·exfalso
    have:=iL n k
    have:=HH.out.2.2.2.2.1
    omega
   have h0':=HP.out
   obtain ⟨hd,hq,hm,hk,hk100,hm63,hext⟩:=HH.out
   obtain ⟨hn,hl⟩:=H.out
   have hq2:q=n/10^(k+1):=by rw [hq,hm,Nat.div_div_eq_div_mul,Nat.pow_succ]
   have hp:10^k≤n:=by
    rw [hm] at h0'
    exact (Nat.div_pos_iff.1 h0').2
   have hk18:=k18 hn hp
   rw [wrapI (show q<9223372036854775808 by omega)]
   refine ⟨⟨k+1,q,rfl,by rw [hext],hq2,trivial,.inr (.inr hp),by omega⟩,?_⟩
   rw [hext]
   show q+(least-(zX n (k+1)).size)<m+(least-(zX n k).size)
   exact meas1 hq h0' (iL _ _) (iL _ _)
  ·have c0:¬ (0:Int)<m:=by omega
   by_cases h1:k<least
   ·have c1:(k:Int)<least:=by omega
    go_wp2
    ·exfalso
     have:=iL n k
     have:=HH.out.2.2.2.2.1
     omega
    obtain ⟨hd,hq,hm,hk,hk100,hm63,hext⟩:=HH.out
    obtain ⟨hn,hl⟩:=H.out
    have hq2:q=n/10^(k+1):=by rw [hq,hm,Nat.div_div_eq_div_mul,Nat.pow_succ]
    have hz:m=0:=by omega
    refine ⟨⟨k+1,q,rfl,by rw [hext],hq2,trivial,.inr (.inl h1),by omega⟩,?_⟩
    rw [hext]
    show q+(least-(zX n (k+1)).size)<m+(least-(zX n k).size)
    exact meas2 hq hz h1 (iL _ _) (iL _ _)
   ·have c1:¬ (k:Int)<least:=by omega
    go_wp2
    go_ret
    obtain ⟨hd,hq,hm,hk,hk100,hm63,hext⟩:=HH.out
    have hz:n/10^k=0:=by omega
    refine ⟨rfl,k,rfl,?_,by omega,?_⟩
    ·rcases Nat.div_eq_zero_iff.1 hz with h|h
     ·have:=Nat.pow_pos (n:=k) (show 0<10 by omega);omega
     ·exact h
    ·rcases hk with h|h|h
     ·left;omega
     ·left;omega
     ·right;exact h
theorem lo_add (x c k:Nat):∀ j,j≤k→lo (x+c*10^k) j=lo x j:=by
 intro j
 induction j with
 | zero=>intro _;rfl
 | succ j ih =>
   intro hj
   simp only [lo]
   rw [ih (by omega)]
   congr 3
   have hk:10^k=10*10^(k-1-j)*10^j:=by
    rw [Nat.mul_assoc,← Nat.pow_add,← Nat.pow_succ']
    congr 1
    omega
   rw [hk,← Nat.mul_assoc,Nat.add_mul_div_right _ _ (Nat.pow_pos (by omega)),← Nat.mul_assoc,Nat.mul_comm c 10,Nat.mul_assoc,Nat.add_mul_mod_self_left]
theorem lo_mod (x k:Nat):lo (x%10^k) k=lo x k:=by
 have h:x=x%10^k+x/10^k*10^k:=by rw [Nat.mul_comm];exact (Nat.mod_add_div x (10^k)).symm
 have h2:=lo_add (x%10^k) (x/10^k) k k (Nat.le_refl _)
 rw [← h] at h2
 exact h2.symm
theorem dec_app:∀ (k a x:Nat),0<a→x<10^k→Lib.decDigits (a*10^k+x)=Lib.decDigits a++lo x k:=by
 intro k
 induction k with
 | zero=>intro a x ha hx;simp at hx;subst hx;simp [lo]
 | succ k ih =>
   intro a x ha hx
   have hd:x/10^k<10:=by rw [Nat.div_lt_iff_lt_mul (Nat.pow_pos (by omega))];rw [Nat.pow_succ,Nat.mul_comm] at hx;exact hx
   have he:a*10^(k+1)+x=(a*10+x/10^k)*10^k+x%10^k:=by
    have:=Nat.mod_add_div x (10^k)
    rw [Nat.add_mul,Nat.pow_succ,Nat.mul_assoc a 10,Nat.mul_comm 10 (10^k),Nat.mul_comm (x/10^k)]
    omega
   have hlo:lo x (k+1)=UInt8.ofNat (48+x/10^k%10)::lo x k:=rfl
   rw [he,hlo]
   generalize x/10^k=d at hd
   rw [ih _ _ (by omega) (Nat.mod_lt _ (Nat.pow_pos (by omega))),lo_mod,eQ (by omega),show (a*10+d)/10=a by omega,show (a*10+d)%10=d by omega]
   rw [List.append_assoc,Nat.mod_eq_of_lt hd]
   rfl
theorem dec_lo {n K:Nat} (h1:n<10^(K+1)) (h2:K=0∨10^K≤n):lo n (K+1)=Lib.decDigits n:=by
 have hp:0<10^K:=Nat.pow_pos (by omega)
 have hd:n/10^K<10:=by rw [Nat.div_lt_iff_lt_mul hp];rw [Nat.pow_succ,Nat.mul_comm] at h1;exact h1
 rcases h2 with h2|h2
 ·subst h2
  simp at h1
  rw [cT h1]
  simp [lo,Nat.mod_eq_of_lt h1]
 ·have ha:0<n/10^K:=Nat.div_pos h2 hp
  have he:n=n/10^K*10^K+n%10^K:=by have:=Nat.mod_add_div n (10^K);rw [Nat.mul_comm] at this;omega
  have h3:=dec_app K _ _ ha (Nat.mod_lt n hp)
  rw [← he,cT hd,lo_mod] at h3
  rw [h3]
  simp [lo,Nat.mod_eq_of_lt hd]
theorem loB_dec {n K:Nat} (h1:n<10^K) (hK:1≤K) (h2:K=1∨10^(K-1)≤n):zX n K=Ab.decB n:=by
 obtain ⟨k,rfl⟩:∃ k,K=k+1:=⟨K-1,by omega⟩
 unfold zX Ab.decB
 rw [dec_lo h1 ?_]
 rcases h2 with h|h
 ·left;omega
 ·right;simpa using h
theorem decB_app {a x:Nat} (ha:0<a) (hx:x<B9):Ab.decB a++zX x 9=Ab.decB (x+B9*a):=by
 apply Ab.ba_ext
 have:=dec_app 9 a x ha (by rw [cQ] at hx;omega)
 simp only [Ab.decB,zX]
 rw [show x+B9*a=a*10^9+x by rw [cQ];omega,this]
 simp
theorem oG (n:Nat) (w:World) (hn:n<9223372036854775808):Calls Tryz.prog 212 #[.int .i64 (n:Int),.int .i64 1] w fun e w'=>w'=w∧e = .returned (.string (Ab.decB n)) :=
 (uS n 1 w hn (by omega)).mono fun e w' ⟨e1,K,e2,h1,h2,h3⟩=>⟨e1,by rw [e2,loB_dec h1 h2 h3]⟩
theorem decimal9 (n:Nat) (w:World) (hn:n<B9):Calls Tryz.prog 212 #[.int .i64 (n:Int),.int .i64 9] w fun e w'=>w'=w∧e = .returned (.string (zX n 9)) :=
 (uS n 9 w (by rw [cQ] at hn;omega) (by omega)).mono fun e w' ⟨e1,K,e2,h1,h2,h3⟩=>⟨e1,by
  have:K=9:=by
   rcases h3 with h|h
   ·exact h
   ·refine Nat.le_antisymm (Nat.le_of_not_lt fun hlt=>?_) h2
    have h4:10^9≤10^(K-1):=Nat.pow_le_pow_right (by omega) (by omega)
    rw [show (10:Nat)^9=1000000000 from rfl] at h4
    rw [cQ] at hn
    omega
  rw [e2,this]⟩
def aQ (z:Int):ByteArray:=if z<0 then ⟨#[45]⟩++Ab.decB z.natAbs else Ab.decB z.natAbs
theorem size_val {xs:List Nat} (hd:Dig B9 xs) (h0:xs≠[]):(Ab.decB (val B9 xs)).size≤9*xs.length:=by
 have h1:=bV hd
 have h2:B9^xs.length=10^(9*xs.length):=by rw [Nat.pow_mul];rfl
 have hl:0<xs.length:=List.length_pos_iff.2 h0
 rw [h2,show 9*xs.length=9*xs.length-1+1 by omega] at h1
 have:=Ab.decB_size h1
 omega
set_option maxHeartbeats 2000000 in
set_option maxRecDepth 100000 in
theorem text_raw (neg:Bool) (A:Option Addr) (n c:Nat) (xs:List Nat) (w:World) (h:Ri w A n c xs) (hd:Dig B9 xs) (hn:Norm xs) (hlen:n≤100000000) :
 Calls Tryz.prog 194 #[.agg #[.bool neg,.slice A n c]] w fun e w'=>e = .returned (.string (if neg&&decide (0<n) then ⟨#[45]⟩++Ab.decB (val B9 xs) else Ab.decB (val B9 xs)))∧Below w.heap.size w w':=by
 have hB:Below w.heap.size w (w.alloc (.cells #[.bool neg,.slice A n c] 189)):=(Below.refl _ _).alloc (Nat.le_refl _) _
 have HR:=aH (aI (h.below hB) (aI hd (aI hn (aI hlen (aI h.len hB)))))
 clear h hd hn hlen hB
 go_enter Tryz.func194,Tryz.ntmps194
 rcases Nat.eq_zero_or_pos n with h0|h0
 ·subst h0
  have h0:xs = []:=List.eq_nil_of_length_eq_zero HR.out.2.2.2.2.1
  have he:Ab.decB (val B9 xs)=⟨#[48]⟩:=by rw [h0];exact Ab.dec0
  have hb:=HR.out.2.2.2.2.2
  clear HR h0
  cases neg <;> (go_wp2;go_ret;exact ⟨rfl,hb⟩)
 ·have c0:((n:Int)==0)=false:=by simp;omega
  obtain ⟨m,hm⟩:∃ m,m=n-1:=⟨_,rfl⟩
  obtain ⟨ad,x,rfl,_hb,hx,hcell⟩:=HR.out.1.at_ (k:=m) (by omega)
  have c1:((n:Int)-1)=(m:Int):=by omega
  have c3:((n:Int)-2)=(m:Int)-1:=by omega
  have c2:(m:Int)<n:=by omega
  have c4:wrap64 (m:Int)=m:=wrapI (by have:=HR.out.2.2.2.1;omega)
  have c5:wrap64 ((m:Int)-1)=(m:Int)-1:=by unfold wrap64;have:=HR.out.2.2.2.1;omega
  have hlx:m<xs.length:=by rw [HR.out.2.2.2.2.1];omega
  have hx9:x<B9:=HR.out.2.1.at_ hx
  have hx63:x<9223372036854775808:=by rw [cQ] at hx9;omega
  have hdrop:val B9 (xs.drop m)=x:=by
   rw [List.getElem?_eq_getElem hlx] at hx
   injection hx with hx
   rw [lH B9 xs _ hlx,List.drop_of_length_le (by rw [HR.out.2.2.2.2.1];omega)]
   simp [val,hx]
  have HX:=aH (aI hx (aI hdrop hm))
  clear hx hdrop hlx hx9 hm
  go_wp2_with fail
  refine (oG x _ hx63).mono ?_
  rintro e w' ⟨rfl,rfl⟩
  go_wp2_with fail
  go_loopw [3,4] (fun s i wr => ∃ k:Nat,i = .int .i64 ((k:Int)-1)∧k≤m∧s = .string (Ab.decB (val B9 (xs.drop k)))∧wr=w.alloc (.cells #[.bool neg,.slice (some ad) n c] 189)) (fun _ i _=>(intOf i+1).toNat)
  case atStart=>exact ⟨m,by rw [c5],Nat.le_refl _,by rw [HX.out.2.1],rfl⟩
  case round =>
   obtain ⟨k,rfl,hk,rfl,rfl⟩:=hrel
   have hpos:0<val B9 (xs.drop k):=by
    obtain ⟨hx,_,hm⟩:=HX.out
    obtain ⟨_,hd,hn,_,hl,_⟩:=HR.out
    have hne:xs.drop k≠[]:=fun e=>by have:=congrArg List.length e;rw [List.length_drop,List.length_nil] at this;omega
    refine Norm.pos cJ (fun h=>?_) hne
    rw [List.getLast_drop]
    exact hn _
   have hsz:(Ab.decB (val B9 (xs.drop k))).size≤900000000:=by
    obtain ⟨_,hd,hn,hlen,hl,_⟩:=HR.out
    have hne:xs.drop k≠[]:=fun e=>by have:=congrArg List.length e;rw [List.length_drop,List.length_nil] at this;have:=HX.out.2.2;omega
    have:=size_val (hd.drop k) hne
    rw [List.length_drop] at this
    omega
   rcases Nat.eq_zero_or_pos k with h0|h0
   ·subst h0
    rw [List.drop_zero] at hpos hsz ⊢
    have HF:=aH (aI hpos hsz)
    clear hpos hsz hk
    have hb:=HR.out.2.2.2.2.2
    cases neg
    ·go_wp2
     all_goals first|(exfalso;have:=HF.out.2;simp at *;omega)|(go_ret;exact ⟨rfl,hb⟩)
    ·go_wp2
     all_goals first|(go_ret;exact ⟨rfl,hb⟩)|(exfalso;have:=HF.out.2;simp at *;omega)
   ·obtain ⟨j,hj⟩:∃ j,j=k-1:=⟨_,rfl⟩
    have d1:((k:Int)-1)=(j:Int):=by omega
    have d2:(j:Int)<n:=by have:=HX.out.2.2;omega
    have d3:(0:Int)≤j:=by omega
    have d4:wrap64 ((j:Int)-1)=(j:Int)-1:=by unfold wrap64;have:=HR.out.2.2.2.1;have:=HX.out.2.2;omega
    obtain ⟨ad',y,e,_hb',hy,hcy⟩:=HR.out.1.at_ (k:=j) (by have:=HX.out.2.2;omega)
    injection e with e
    subst e
    have hy9:y<B9:=HR.out.2.1.at_ hy
    have HY:=aH (aI hy (aI hj (aI hpos (aI hsz (aI hk h0)))))
    clear hy hj hpos hsz hk h0 hcell
    rw [d1]
    go_wp2_with fail
    refine (decimal9 y _ hy9).mono ?_
    rintro e w' ⟨rfl,rfl⟩
    go_wp2
    ·exfalso
     have h9:=iL y 9
     obtain ⟨_,_,_,h8,_⟩:=HY.out
     omega
    go_roundw
    case rel =>
     obtain ⟨hy,hj,hpos,hsz,hk,h0⟩:=HY.out
     have hl:=HR.out.2.2.2.2.1
     have hjl:j<xs.length:=by have:=HX.out.2.2;omega
     rw [c5]
     refine ⟨_,_,_,_,_,_,_,_,_,_,_,_,_,_,⟨j,?_,by omega,?_,trivial⟩,rfl⟩
     ·rw [d4]
     congr 1
     rw [decB_app hpos hy9,lH B9 xs j hjl]
     rw [List.getElem?_eq_getElem hjl] at hy
     injection hy with hy
     rw [hy,show j+1=k by omega]
    case measure =>
     have:=HY.out.2.1
     have:=HY.out.2.2.2.2.2
     simp [intOf]
     omega
end Go.Proofs.YtejbgingjeedaaaGreatDoor
