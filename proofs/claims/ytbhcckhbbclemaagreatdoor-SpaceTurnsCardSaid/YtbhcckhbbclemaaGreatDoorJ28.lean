/- Parts of the proof, joined. -/
import Derived.Test.YtbhcckhbbclemaaGreatDoorJ27
set_option linter.unusedSimpArgs false
set_option linter.unusedVariables false
namespace Go.Proofs.YtbhcckhbbclemaaGreatDoor
open Go.RowKit Pl
def Ow (w:World) (g c:Nat) (zs:List Int):Prop := ∃ cur:Array Value,w.heap[g]?=some (.cells cur 3 (0,0))∧cur.size=c∧zs.length≤c∧cur.toList.take zs.length=zs.map (Value.int .i64)
section
variable {w w' : World} {g c:Nat} {zs:List Int}
theorem Ow.lt (h:Ow w g c zs):g<w.heap.size:=by obtain ⟨cur,h1,_⟩:=h;exact (Array.getElem?_eq_some_iff.1 h1).1
theorem Ow.cell (h:Ow w g c zs) {i:Nat} {z:Int} (hz:zs[i]?=some z):w.cell? ⟨g,i,none⟩=some (.int .i64 z):=by
 obtain ⟨cur,h1,h2,h3,h4⟩:=h
 rw [cell_of_blk h1,← Array.getElem?_toList]
 have hi:=(List.getElem?_eq_some_iff.1 hz).1
 have:(cur.toList.take zs.length)[i]?=some (.int .i64 z):=by rw [h4,List.getElem?_map,hz];rfl
 rw [List.getElem?_take,if_pos hi] at this
 exact this
theorem Ow.frozen (h:Ow w g c zs) (i:Nat):w.frozen? ⟨g,i,none⟩=false:=by
 obtain ⟨cur,h1,_⟩:=h
 simp [World.frozen?,h1]
theorem Ow.set_ (h:Ow w g c zs) (i:Nat) (z:Int):Ow (w.setCell ⟨g,i,none⟩ (.int .i64 z)) g c (zs.set i z):=by
 obtain ⟨cur,h1,h2,h3,h4⟩:=h
 refine ⟨cur.setIfInBounds i (.int .i64 z),?_,by simp [h2],by simpa using h3,?_⟩
 ·simp only [World.setCell,Array.getElem?_modify,h1];simp
 ·rw [List.length_set,Array.toList_setIfInBounds,List.take_set,h4,List.map_set]
theorem Ow.far (h:Ow w g c zs) {p:Addr} (hp:g≠p.block) (u:Value):Ow (w.setCell p u) g c zs:=by
 obtain ⟨cur,h1,h2⟩:=h
 exact ⟨cur,(Below.heap_setCell w p u g hp).trans h1,h2⟩
theorem Ow.below {B:Nat} (h:Ow w g c zs) (hb:Below B w w') (hg:g<B):Ow w' g c zs:=by
 obtain ⟨cur,h1,h2⟩:=h
 exact ⟨cur,(hb.block g hg).trans h1,h2⟩
theorem Ow.grown {row:Option Nat} (h:Ow w g c zs) (hg:w.grownBy w' row) (hr:some g≠row):Ow w' g c zs:=by
 obtain ⟨cur,h1,h2⟩:=h
 exact ⟨cur,(hg.block g (Array.getElem?_eq_some_iff.1 h1).1 hr).trans h1,h2⟩
end
abbrev ints (xs:List Nat):List Int:=xs.map (fun (x:Nat)=>(x:Int))
theorem Ow.rd {w:World} {g c:Nat} {xs:List Nat} (h:Ow w g c (ints xs)) (hc:c≤maxLen):Ri w (some ⟨g,0,none⟩) xs.length c xs:=by
 have hl:=h.lt
 refine ⟨rfl,?_,hc,fun _=>⟨_,rfl,hl,fun j x hx=>?_⟩⟩
 ·obtain ⟨cur,_,_,h3,_⟩:=h;simpa using h3
 ·have:(⟨g,0,none⟩:Addr).add j=⟨g,j,none⟩:=by unfold Addr.add;split <;> simp_all
  rw [this]
  exact h.cell (by rw [List.getElem?_map,hx];rfl)
theorem ow_of_row {w:World} {base n:Nat} {v:Value} {xs:List Nat} (h:w.ownsRow base 3 1 v n (xs.map cellI)) (hn:0<n):∃ g c,v = .slice (some ⟨g,0,none⟩) n c∧base≤g∧c≤maxLen∧Ow w g c (ints xs)∧xs.length=n:=by
 obtain ⟨h1,h2⟩:=h
 have hl:xs.length=n:=by simpa using h1
 rcases h2 with ⟨rfl,rfl⟩|⟨g,cap,cur,rfl,e2,e3,e4,e5,e6,e7⟩
 ·omega
 ·refine ⟨g,cap,rfl,e2,e5,⟨cur,e3,by simpa using e6,by simp;omega,?_⟩,hl⟩
  have:(ints xs).length=n*1:=by simp [hl]
  rw [this,e7]
  simp [cellI]
theorem ints_get {xs:List Nat} {i x:Nat} (h:xs[i]?=some x):(ints xs)[i]?=some (x:Int):=by rw [List.getElem?_map,h];rfl
theorem ints_set (xs:List Nat) (i x:Nat):(ints xs).set i (x:Int)=ints (xs.set i x):=by simp [List.map_set]
theorem row_nil {w:World} {base g:Nat} (h:w.heap[g]?=some (.cells #[] 3 (0,0))) (hb:base≤g):w.ownsRow base 3 1 (.slice (some ⟨g,0,none⟩) 0 0) 0 ([]:List Value) :=
 ⟨rfl,.inr ⟨g,0,#[],rfl,hb,h,Nat.le_refl _,Nat.zero_le _,rfl,rfl⟩⟩
theorem wpList_src {ops:Array Oper} {rest:List Oper} {o:Oper} {a:Act} {Q:Exit→Act→World→Prop} (hgd:o.guard=none) (s x:Operand)
 (ho:o.op = .call { callee := .builtin .append,args := #[s,x],argTypes := #[92,92] }) {base m c:Nat} {v:Value} {A:Option Addr} {xs:List Nat} {w:World} (hs:a.eval s=v) (hown:w.ownsRow base 3 1 v 0 ([]:List Value))
 (hx:a.eval x = .slice A m c) (hr:Ri w A m c xs) (h0:0<m) (hm:m≤2199023255999) (hbase:base≤w.heap.size)
 (h:∀ v' w',w'.ownsRow base 3 1 v' m (xs.map cellI)→w.grownBy w' v.ownBlock→wpList Tryz.prog ops Q rest (a.put o.dst v') w') :
 wpList Tryz.prog ops Q (o::rest) a w:=by
 obtain ⟨i0,hi,hz0,hz1,hz2⟩:=info_parts info_int3
 obtain ⟨ad,rfl,_,hc⟩:=hr.2.2.2 h0
 refine wpList_append_own _ hgd s x 92 ho base 3 i0 (.int .i64 0) 1 8 Tryz.underlying92 hi hz0 hz1 hz2 rfl (by decide) v 0 [] hs hown ad m c (xs.map cellI) hx (by simp [hr.len]) ?_ ?_ ?_ ?_ hbase ?_
 ·intro j u hj
  rw [List.getElem?_map,Option.map_eq_some_iff] at hj
  obtain ⟨x,hx,rfl⟩:=hj
  exact hc j x hx
 ·intro u hu
  rw [List.mem_map] at hu
  obtain ⟨x,_,rfl⟩:=hu
  rfl
 ·show 0+m≤9223372036854775807;omega
 ·omega
 ·intro v' w' h1 h2 _
  rw [Nat.zero_add,List.nil_append] at h1
  exact h v' w' h1 h2
def GInv (f N G m1 rs:Nat):Prop:=m1*f+rs=N∧G≤m1∧m1≤2000000000∧rs<1000000000
def gMu (v:Value):Nat:=(intOf v).toNat
set_option maxHeartbeats 2000000 in
set_option maxRecDepth 100000 in
theorem rguess_any (A:Option Addr) (n c:Nat) (xs:List Nat) (A' : Option Addr) (m n' c' : Nat) (ys:List Nat) (j:Nat) (w:World) (h:Ri w A n c xs) (hm2:n'=m+2) (h' : Ri w A' n' c' ys) (hd:Dig B9 xs) (hd' : Dig B9 ys)
 (hn:n≤2199023255999) (hj:j+(m+2)<n) (hi mid low f s:Nat) (g0:xs[j+(m+2)]?=some hi) (g1:xs[j+(m+1)]?=some mid) (g2:xs[j+m]?=some low) (g3:ys[m+1]?=some f) (g4:ys[m]?=some s) (hf0:0<f) (hle:hi≤f) :
 Calls Tryz.prog 167 #[.slice A n c,.slice A' n' c',.int .i64 (j:Int)] w (Gives w (.int .i64 ((gD (hi*B9+mid) low f s:Nat):Int))):=by
 have hnc:n≤c:=h.cap
 have hcm:c≤9223372036854775807:=h.2.2.1
 have hnc' : n'≤c':=h'.cap
 have hcm' : c'≤9223372036854775807:=h'.2.2.1
 have b0:=hd.at_ g0
 have b1:=hd.at_ g1
 have b2:=hd.at_ g2
 have b3:=hd'.at_ g3
 have b4:=hd'.at_ g4
 rw [B9_eq] at b0 b1 b2 b3 b4
 obtain ⟨ad,q0,rfl,hblk,e0,c0⟩:=h.at_ hj
 rw [g0] at e0;injection e0 with e0;subst e0
 obtain ⟨ad1,q1,hA1,_,e1,c1⟩:=h.at_ (k:=j+(m+1)) (by omega)
 rw [g1] at e1;injection e1 with e1;subst e1
 injection hA1 with hA1;subst hA1
 obtain ⟨ad1,q1,hA1,_,e1,c2⟩:=h.at_ (k:=j+m) (by omega)
 rw [g2] at e1;injection e1 with e1;subst e1
 injection hA1 with hA1;subst hA1
 obtain ⟨ad',q1,rfl,hblk',e1,c3⟩:=h'.at_ (k:=m+1) (by omega)
 rw [g3] at e1;injection e1 with e1;subst e1
 obtain ⟨ad1,q1,hA1,_,e1,c4⟩:=h'.at_ (k:=m) (by omega)
 rw [g4] at e1;injection e1 with e1;subst e1
 injection hA1 with hA1;subst hA1
 obtain ⟨a0,ha0⟩:∃ a,a=j+(m+2):=⟨_,rfl⟩
 obtain ⟨a1,ha1⟩:∃ a,a=j+(m+1):=⟨_,rfl⟩
 obtain ⟨a2,ha2⟩:∃ a,a=j+m:=⟨_,rfl⟩
 obtain ⟨p1,hp1⟩:∃ a,a=m+1:=⟨_,rfl⟩
 rw [← ha0] at c0
 rw [← ha1] at c1
 rw [← ha2] at c2
 rw [← hp1] at c3
 rw [← ha0] at hj
 have x0:(j:Int)+(n' : Int)=(a0:Int):=by omega
 have x1:(a0:Int)-1=(a1:Int):=by omega
 have x2:(a0:Int)-2=(a2:Int):=by omega
 have x3:(n' : Int)-1=(p1:Int):=by omega
 have x4:(n' : Int)-2=(m:Int):=by omega
 have y0:(a0:Int)≤2199023255999:=by omega
 have y1:(a1:Int)≤2199023255999:=by omega
 have y2:(a2:Int)≤2199023255999:=by omega
 have y3:(p1:Int)≤2199023255999:=by omega
 have y4:(m:Int)≤2199023255999:=by omega
 have i0:(a0:Int)<n:=by omega
 have i1:(a1:Int)<n:=by omega
 have i2:(a2:Int)<n:=by omega
 have i3:(p1:Int)<n':=by omega
 have i4:(m:Int)<n':=by omega
 have n0:(0:Int)≤a0:=Int.natCast_nonneg _
 have n1:(0:Int)≤a1:=Int.natCast_nonneg _
 have n2:(0:Int)≤a2:=Int.natCast_nonneg _
 have n3:(0:Int)≤p1:=Int.natCast_nonneg _
 have n4:(0:Int)≤m:=Int.natCast_nonneg _
 clear ha0 ha1 ha2 hp1 hm2 hj hn
 obtain ⟨u,N,q,r,e1,e2,e3,e4,t1,t2,t3,t4,t5,hN,hdm,hrf,hq,hq2⟩:=guessTop b0 b1 hf0 b3 hle
 have E:=Lib.hid (And.intro e3 (And.intro e4 (And.intro t1 (And.intro t2 (And.intro t3 (And.intro t4 t5))))))
 clear e3 e4 t1 t2 t3 t4 t5
 have e3:(u:Int)≤1000000000000000000:=by omega
 have e4:(N:Int)≤1000000001000000000:=by omega
 have hst:gD (hi*B9+mid) low f s≤q:=by rw [hq,hN,← B9_eq];exact gd_start hf0 b2
 have hNB:N=hi*B9+mid:=hN
 have hz0:((f:Int)==0)=false:=by simp;omega
 have hz1:¬ (f:Int)=0:=by omega
 have hz2:¬ (f:Int) = -1:=by omega
 have hz3:((f:Int) == -1)=false:=by simp
 obtain ⟨G,hG⟩:∃ G,G=gD (hi*B9+mid) low f s:=⟨_,rfl⟩
 rw [← hG] at hst ⊢
 have HS:=Lib.hid (And.intro hst (And.intro hNB (And.intro hdm (And.intro hrf (And.intro hq2 (And.intro b0 (And.intro b1 (And.intro b2 (And.intro b3 (And.intro b4 (And.intro hf0 (And.intro hle hG))))))))))))
 clear hst hNB hdm hrf hq2 b0 b1 b2 b3 b4 hf0 hle hG hN hq h h' hd hd' g0 g1 g2 g3 g4
 have CW:=Lib.hid (And.intro c0 (And.intro c1 (And.intro c2 (And.intro c3 (And.intro c4 (And.intro hblk hblk'))))))
 have hbs:(s:Int)≤999999999:=by have:=HS.out.2.2.2.2.2.2.2.2.2.1;omega
 have hbl:(low:Int)≤999999999:=by have:=HS.out.2.2.2.2.2.2.2.1;omega
 have hbf:(f:Int)≤999999999:=by have:=HS.out.2.2.2.2.2.2.2.2.1;omega
 go_enter Tryz.func167,Tryz.ntmps167
 go_wp2
 go_quiet (fail)
 have HC:=Lib.hid (show (w.drewN nq).cell? (ad'.add p1)=some (.int .i64 (f:Int))∧Below w.heap.size w (w.drewN nq) from ⟨c3,drewN0 (Below.refl _ _) _⟩)
 clear c0 c1 c2 c3 c4 hblk hblk'
 generalize w.drewN nq=w2 at *
 obtain ⟨c3,hb2⟩:=HC.out
 go_wp2
 go_quiet (fail)
 have hb3:=drewN0 hb2 nq
 clear c3 hb2 HC
 generalize w2.drewN nq=w3 at *
 go_wp2
 go_loopw [9,10] (fun tv rv wr => ∃ m1 rs:Nat,tv = .int .i64 (m1:Int)∧rv = .int .i64 (rs:Int)∧GInv f N G m1 rs∧Below w.heap.size w wr) (fun tv _ _=>gMu tv)
 case atStart =>
  obtain ⟨_,_,t1,t2,t3,t4,t5⟩:=E.out
  refine ⟨q,r,?_,?_,⟨HS.out.2.2.1,HS.out.1,HS.out.2.2.2.2.1,by have:=HS.out.2.2.2.1;have:=HS.out.2.2.2.2.2.2.2.2.1;omega⟩,hb3⟩
  ·first|rfl|rw [t1,t5]|rw [t2,t5]|(simp only [t1,t2,t5];done)
  ·first|rfl|rw [t3]|rw [t4]|(simp only [t3,t4];done)
 case round =>
  obtain ⟨m1,rs,rfl,rfl,hinv,hb⟩:=hrel
  have c2:=(hb.cell (p:=ad.add a2) (by rw [block_add];exact CW.out.2.2.2.2.2.1)).trans CW.out.2.2.1
  have c3:=(hb.cell (p:=ad'.add p1) (by rw [block_add];exact CW.out.2.2.2.2.2.2)).trans CW.out.2.2.2.1
  have c4:=(hb.cell (p:=ad'.add m) (by rw [block_add];exact CW.out.2.2.2.2.2.2)).trans CW.out.2.2.2.2.1
  clear hb3 e1 e2 e3 e4
  by_cases hm:1000000000≤m1
  ·have k1:(1000000000:Int)≤m1:=by omega
   have hI:=hinv
   obtain ⟨j0,_,j3,j4⟩:=hinv
   have d1:(1:Int)≤m1:=by omega
   have d3:(m1:Int)≤2000000000:=by omega
   have d4:(rs:Int)≤999999999:=by omega
   have hG0:G≤m1-1:=by rw [HS.out.2.2.2.2.2.2.2.2.2.2.2.2];exact gd_cont1 (by rw [B9_eq];omega)
   have hj:(m1-1)*f+(rs+f)=N:=by
    obtain ⟨m0,rfl⟩:∃ m0,m1=m0+1:=⟨m1-1,by omega⟩
    rw [Nat.add_mul,Nat.one_mul] at j0
    rw [Nat.add_sub_cancel];omega
   by_cases hr:1000000000≤rs+f
   ·have k3:(1000000000:Int)≤(rs:Int)+f:=by omega
    have hfin:G=m1-1:=by
     rw [HS.out.2.2.2.2.2.2.2.2.2.2.2.2]
     refine gd_over HS.out.2.2.2.2.2.2.2.2.2.2.1 (by rw [← HS.out.2.1];exact hj) HS.out.2.2.2.2.2.2.2.2.2.2.2.1 (by rw [B9_eq];exact HS.out.2.2.2.2.2.2.1) (by rw [B9_eq];exact HS.out.2.2.2.2.2.2.2.2.2.1) (by rw [B9_eq];exact hr) (by rw [← HS.out.2.2.2.2.2.2.2.2.2.2.2.2];exact hG0)
    have HF:=Lib.hid hfin
    clear hfin hr hj hG0 j0 j3 j4 hI
    go_wp2
    go_quiet (fail)
    have c3' : (wr.drewN nq).cell? (ad'.add p1)=some (.int .i64 (f:Int)):=c3
    have hb4:=drewN0 hb nq
    clear c2 c3 c4 hb
    generalize wr.drewN nq=w4 at *
    go_wp2
    go_ret
    exact ⟨ret_int (by rw [HF.out];omega),hb4⟩
   ·have k3:decide ((1000000000:Int)≤(rs:Int)+f)=false:=by rw [decide_eq_false_iff_not];omega
    have HF:=Lib.hid (show GInv f N G (m1-1) (rs+f) from ⟨hj,hG0,by omega,by omega⟩)
    clear hr hj hG0 j0 j3 j4 hI
    go_wp2
    go_quiet (fail)
    have c3' : (wr.drewN nq).cell? (ad'.add p1)=some (.int .i64 (f:Int)):=c3
    have hb4:=drewN0 hb nq
    clear c2 c3 c4 hb
    generalize wr.drewN nq=w4 at *
    go_wp2
    go_roundw
    case rel=>exact ⟨m1-1,rs+f,by go_num,by go_num,HF.out,hb4⟩
    case measure=>show (intOf _).toNat<(intOf _).toNat;simp only [intOf];omega
  ·have k1:(m1:Int)<1000000000:=by omega
   obtain ⟨P,R,S,e1,e2,e3,f1,f2,f3,hP,hS⟩:=guessFacts (m:=m1) (s:=s) (rs:=rs) (low:=low) (by omega) (by omega) (by have:=hinv.2.2.2;omega) (by omega)
   have bP:(P:Int)≤1000000000000000000:=by
    have h1:m1*s≤999999999*999999999:=Nat.mul_le_mul (by omega) (by omega)
    clear f1 f2 f3
    omega
   have bR:(rs:Int)≤999999999:=by have:=hinv.2.2.2;clear f1 f2 f3;omega
   have hSI:(S:Int)=(rs:Int)*1000000000+low:=by clear f1 f2 f3;omega
   clear e2 e3 f2 f3
   by_cases hle:P≤S
   ·have hfin:G=m1:=by
     rw [HS.out.2.2.2.2.2.2.2.2.2.2.2.2]
     refine gd_exit HS.out.2.2.2.2.2.2.2.2.2.2.1 (by rw [← HS.out.2.1];exact hinv.1) (by rw [B9_eq];clear f1;omega) (by rw [B9_eq,← hP,← hS];exact hle) (by rw [← HS.out.2.2.2.2.2.2.2.2.2.2.2.2];exact hinv.2.1)
    have k2:(P:Int)≤(rs:Int)*1000000000+low:=by clear f1;omega
    have HF:=Lib.hid hfin
    have k4:decide ((1000000000:Int)≤m1)=false:=by rw [decide_eq_false_iff_not];clear f1;omega
    clear hfin hP hS hle hinv hSI f1 k1
    have bP2:(m1:Int)*(s:Int)≤1000000000000000000:=by rw [e1];exact bP
    have bP0:0≤(m1:Int)*(s:Int):=by rw [e1];exact Int.natCast_nonneg _
    have k6:decide ((rs:Int)*1000000000+low<(m1:Int)*(s:Int))=false:=by rw [decide_eq_false_iff_not,e1];exact Int.not_lt.2 k2
    clear e1 k2 bP
    go_wp2
    go_quiet (fail)
    clear x0 x1 x2 x3 x4 y0 y1 y2 y3 y4 i0 i1 i2 i3 i4 n0 n1 n2 n3 n4 hbl hbf hbs bR bP2 bP0 k4
    go_wp2
    go_ret
    exact ⟨ret_int (by rw [HF.out]),drewN0 hb _⟩
   ·have k2:(rs:Int)*1000000000+low<P:=by clear f1;omega
    have hm1:m1≠0:=fun e=>by rw [e,Nat.zero_mul] at hP;clear f1;omega
    have HG0:G≤m1-1:=by
     rw [HS.out.2.2.2.2.2.2.2.2.2.2.2.2]
     obtain ⟨m0,rfl⟩:∃ m0,m1=m0+1:=⟨m1-1,by clear f1;omega⟩
     exact gd_cont2 HS.out.2.2.2.2.2.2.2.2.2.2.1 (by rw [← HS.out.2.1];exact hinv.1) (by rw [B9_eq,← hS,Nat.add_sub_cancel,← hP];exact hle)
    have k4:decide ((1000000000:Int)≤m1)=false:=by rw [decide_eq_false_iff_not];clear f1;omega
    clear hP hS hle hSI f1 k1
    have bP2:(m1:Int)*(s:Int)≤1000000000000000000:=by rw [e1];exact bP
    have bP0:0≤(m1:Int)*(s:Int):=by rw [e1];exact Int.natCast_nonneg _
    have k6:(rs:Int)*1000000000+low<(m1:Int)*(s:Int):=by rw [e1];exact k2
    clear e1 k2 bP
    have hI:=hinv
    obtain ⟨j0,_,j3,j4⟩:=hinv
    have d1:(1:Int)≤m1:=by omega
    have d3:(m1:Int)≤2000000000:=by omega
    have d4:(rs:Int)≤999999999:=by omega
    have hG0:G≤m1-1:=HG0
    have hj:(m1-1)*f+(rs+f)=N:=by
     obtain ⟨m0,rfl⟩:∃ m0,m1=m0+1:=⟨m1-1,by omega⟩
     rw [Nat.add_mul,Nat.one_mul] at j0
     rw [Nat.add_sub_cancel];omega
    by_cases hr:1000000000≤rs+f
    ·have k3:(1000000000:Int)≤(rs:Int)+f:=by omega
     have hfin:G=m1-1:=by
      rw [HS.out.2.2.2.2.2.2.2.2.2.2.2.2]
      refine gd_over HS.out.2.2.2.2.2.2.2.2.2.2.1 (by rw [← HS.out.2.1];exact hj) HS.out.2.2.2.2.2.2.2.2.2.2.2.1 (by rw [B9_eq];exact HS.out.2.2.2.2.2.2.1) (by rw [B9_eq];exact HS.out.2.2.2.2.2.2.2.2.2.1) (by rw [B9_eq];exact hr) (by rw [← HS.out.2.2.2.2.2.2.2.2.2.2.2.2];exact hG0)
     have HF:=Lib.hid hfin
     clear hfin hr hj hG0 j0 j3 j4 hI HG0 hm1
     go_wp2
     go_quiet (fail)
     have c3' : (wr.drewN nq).cell? (ad'.add p1)=some (.int .i64 (f:Int)):=c3
     have hb4:=drewN0 hb nq
     clear c2 c3 c4 hb
     generalize wr.drewN nq=w4 at *
     go_wp2
     go_ret
     exact ⟨ret_int (by rw [HF.out];omega),hb4⟩
    ·have k3:decide ((1000000000:Int)≤(rs:Int)+f)=false:=by rw [decide_eq_false_iff_not];omega
     have HF:=Lib.hid (show GInv f N G (m1-1) (rs+f) from ⟨hj,hG0,by omega,by omega⟩)
     clear hr hj hG0 j0 j3 j4 hI HG0 hm1
     go_wp2
     go_quiet (fail)
     have c3' : (wr.drewN nq).cell? (ad'.add p1)=some (.int .i64 (f:Int)):=c3
     have hb4:=drewN0 hb nq
     clear c2 c3 c4 hb
     generalize wr.drewN nq=w4 at *
     go_wp2
     go_roundw
     case rel=>exact ⟨m1-1,rs+f,by go_num,by go_num,HF.out,hb4⟩
     case measure=>show (intOf _).toNat<(intOf _).toNat;simp only [intOf];omega
def MulO (xs ys zs:List Nat) (i:Nat):Prop :=
 Dig B9 zs∧zs.length=xs.length+ys.length∧val B9 (zs.take (i+ys.length))=val B9 (xs.take i)*val B9 ys∧∀ j,i+ys.length≤j→j<zs.length→zs[j]?=some 0
def MulK (xs ys zs ws:List Nat) (i k cy x:Nat):Prop :=
 Dig B9 ws∧ws.length=xs.length+ys.length∧cy<B9∧val B9 (ws.take (i+ys.length))+B9^(i+k)*cy=val B9 (zs.take (i+ys.length))+B9^i*(x*val B9 (ys.take k))∧∀ j,i+ys.length≤j→j<ws.length→ws[j]?=some 0
theorem MulO.start (xs ys:List Nat):MulO xs ys (List.replicate (xs.length+ys.length) 0) 0:=by
 refine ⟨Dig.replicate B9_pos _,by simp,?_,fun j _ h=>?_⟩
 ·rw [List.take_replicate,val_zeros];simp [val]
 ·simp at h;simp [List.getElem?_replicate,h]
theorem MulK.start {xs ys zs:List Nat} {i:Nat} (h:MulO xs ys zs i) (x:Nat):MulK xs ys zs zs i 0 0 x:=⟨h.1,h.2.1,B9_pos,by simp [val],h.2.2.2⟩
theorem mulk_alg {V P v w o r s q cy y x m:Nat} (h:v+P*o=w+P*r) (e:w+P*cy=m) (hs:s=o+x*y+cy) (hdm:V*q+r=s):v+P*V*q=m+P*(x*y):=by subst hs;grind
theorem MulK.step {xs ys zs ws:List Nat} {i k cy x y o s:Nat} (h:MulK xs ys zs ws i k cy x) (hy:ys[k]?=some y) (ho:ws[i+k]?=some o) (hi:i<xs.length) (hs:s=o+x*y+cy) (hq:s/B9<B9) :
 MulK xs ys zs (ws.set (i+k) (s%B9)) i (k+1) (s/B9) x:=by
 obtain ⟨h1,h2,h3,h4,h5⟩:=h
 obtain ⟨hk,ey⟩:=List.getElem?_eq_some_iff.1 hy
 obtain ⟨hp,eo⟩:=List.getElem?_eq_some_iff.1 ho
 refine ⟨h1.set (Nat.mod_lt _ B9_pos),by rw [List.length_set,h2],hq,?_,fun j hj hl=>?_⟩
 ·have e:=val_set B9 (ws.take (i+ys.length)) (i+k) (s%B9) (by rw [List.length_take];omega)
  rw [List.getElem_take,eo] at e
  rw [List.take_set,val_take_succ _ _ _ hk,ey]
  have hdm:=Nat.div_add_mod s B9
  rw [Nat.mul_add x,Nat.mul_add (B9^i),show x*(B9^k*y)=B9^k*(x*y) by rw [Nat.mul_left_comm],← Nat.mul_assoc (B9^i) (B9^k),← Nat.pow_add,← Nat.add_assoc (val B9 _)]
  rw [show i+(k+1)=i+k+1 from rfl,Nat.pow_succ]
  have e2:val B9 ((ws.take (i+ys.length)).set (i+k) (s%B9))+B9^(i+k)*o=val B9 (ws.take (i+ys.length))+B9^(i+k)*(s%B9):=e
  generalize B9^(i+k)=P at *
  generalize s/B9=q at *
  generalize s%B9=r at *
  exact mulk_alg e2 h4 hs hdm
 ·rw [List.getElem?_set_ne (by omega)]
  exact h5 j hj (by simpa using hl)
theorem mulo_alg {a v x y P Q c:Nat} (h4:v+Q*c=a*y+P*(x*y)):v+Q*c=(a+P*x)*y:=by grind
theorem MulK.finish {xs ys zs ws:List Nat} {i cy x:Nat} (h:MulK xs ys zs ws i ys.length cy x) (hz:MulO xs ys zs i) (hx:xs[i]?=some x):MulO xs ys (ws.set (i+ys.length) cy) (i+1):=by
 obtain ⟨h1,h2,h3,h4,h5⟩:=h
 obtain ⟨hi,ex⟩:=List.getElem?_eq_some_iff.1 hx
 refine ⟨h1.set h3,by rw [List.length_set,h2],?_,fun j hj hl=>?_⟩
 ·rw [show i+1+ys.length=i+ys.length+1 by omega,val_take_succ _ _ _ (by rw [List.length_set];omega),List.take_set_of_le (Nat.le_refl _),List.getElem_set_self,val_take_succ _ _ _ hi,ex]
  rw [List.take_of_length_le (Nat.le_refl _),hz.2.2.1] at h4
  exact mulo_alg h4
 ·rw [List.getElem?_set_ne (by omega)]
  exact h5 j (by omega) (by simpa using hl)
theorem MulO.finish {xs ys zs:List Nat} (h:MulO xs ys zs xs.length):val B9 zs=val B9 xs*val B9 ys:=by
 obtain ⟨_,h2,h3,_⟩:=h
 rwa [List.take_of_length_le (by omega),List.take_of_length_le (Nat.le_refl _)] at h3
set_option maxHeartbeats 2000000 in
set_option maxRecDepth 100000 in
theorem mulDigits_any (A:Option Addr) (n c:Nat) (xs:List Nat) (A' : Option Addr) (n' c' : Nat) (ys:List Nat) (w:World) (h:Ri w A n c xs) (h' : Ri w A' n' c' ys)
 (hd:Dig B9 xs) (hd' : Dig B9 ys) (hn:n≤2199023255552) (hn' : n'≤2199023255552) :
 Calls Tryz.prog 121 #[.slice A n c,.slice A' n' c'] w (GivesDi w (val B9 xs*val B9 ys)):=by
 have HX:=Lib.hid (And.intro h hd)
 have HY:=Lib.hid (And.intro h' hd')
 have hnc:n≤c:=h.cap
 have hcm:c≤9223372036854775807:=h.2.2.1
 have hnc' : n'≤c':=h'.cap
 have hcm' : c'≤9223372036854775807:=h'.2.2.1
 obtain ⟨i0,hi,hz0,hz1,hz2⟩:=info_parts info_int3
 have HI:=Lib.hid (And.intro hi (And.intro hz0 (And.intro hz1 hz2)))
 clear h h' hd hd' hi hz0 hz1 hz2
 go_enter Tryz.func121,Tryz.ntmps121
 go_wp2_with (at_make;refine wpList_make_full _ rfl _ _ 92 rfl w.heap.size 3 i0 (.int .i64 0) 1 Tryz.underlying92 HI.out.1 HI.out.2.1 HI.out.2.2.1 _ _ _ _ (n+n') rfl rfl ?b0 ?b1 ?b2 ?b3 (Nat.le_refl _) ?_)
 case b0=>omega
 case b1=>omega
 case b2=>rw [HI.out.2.2.2];omega
 case b3=>show n+n'≤9223372036854775807;omega
 intro w1 hown hg1
 have hb1:Below w.heap.size w w1:=(Below.refl _ _).grown hg1 (Nat.le_refl _) (fun k h=>by cases h)
 have hblk:=bi_of_made hown
 have e0:MulO xs ys (List.replicate (n+n') 0) 0:=by
  have:=MulO.start xs ys
  rwa [HX.out.1.len,HY.out.1.len] at this
 have HB:=Lib.hid hblk
 have H0:=Lib.hid e0
 clear hown hg1 hblk e0
 obtain ⟨g,hg⟩:∃ g,g=w.heap.size:=⟨_,rfl⟩
 rw [← hg] at HB ⊢
 have HG:=Lib.hid hg
 clear hg
 go_wp2
 go_loopw [6] (fun iv wr => ∃ (i:Nat) (zs:List Nat),i≤n∧iv = .int .i64 (i:Int)∧MulO xs ys zs i∧Bi wr g 3 zs∧Below w.heap.size w wr) (fun iv _=>n-(intOf iv).toNat)
 case atStart=>exact ⟨0,_,Nat.zero_le _,rfl,H0.out,HB.out,hb1⟩
 case round =>
  clear HB H0 hb1
  obtain ⟨i,zs,hk,rfl,hinv,hblk,hb⟩:=hrel
  by_cases hlt:i<n
  ·have a1:(i:Int)<n:=by omega
   obtain ⟨ad,x,hA,_,hx,_⟩:=(HX.out.1.below hb).at_ (k:=i) hlt
   have bx:x<1000000000:=HX.out.2.at_ hx
   have HO:=Lib.hid (And.intro hinv (And.intro hx (And.intro hlt bx)))
   have HB:=Lib.hid (And.intro hblk hb)
   clear hinv hx hblk hb bx hlt
   go_wp2
   go_loopw [7,8] (fun cv kv wr => ∃ (k cy:Nat) (ws:List Nat),k≤n'∧kv = .int .i64 (k:Int)∧cv = .int .i64 (cy:Int)∧MulK xs ys zs ws i k cy x∧Bi wr g 3 ws∧Below w.heap.size w wr) (fun _ kv _=>n'-(intOf kv).toNat)
   case atStart=>exact ⟨0,0,zs,Nat.zero_le _,rfl,rfl,MulK.start HO.out.1 x,HB.out.1,HB.out.2⟩
   case round =>
    clear HB
    obtain ⟨k,cy,ws,hk',rfl,rfl,hinv,hblk,hb⟩:=hrel
    have hwn:ws.length=n+n':=by rw [hinv.2.1,HX.out.1.len,HY.out.1.len]
    by_cases hkl:k<n'
    ·have a2:(k:Int)<n':=by omega
     have a3:i+k<n+n':=by omega
     obtain ⟨ad2,x2,hA2,_,hx2,hcx⟩:=(HX.out.1.below hb).at_ (k:=i) HO.out.2.2.1
     rw [HO.out.2.1] at hx2
     injection hx2 with hx2
     subst hx2
     subst hA2
     obtain ⟨ad',y,rfl,_,hy,hcy⟩:=(HY.out.1.below hb).at_ (k:=k) hkl
     obtain ⟨o,ho⟩:∃ o,ws[i+k]?=some o:=⟨_,List.getElem?_eq_getElem (by omega)⟩
     have hco:=hblk.cell ho
     have hfo:=hblk.frozen (i+k)
     obtain ⟨u,p,s,r,q,e1,e2,e3,e4,e5,e6,t1,t2,t3,t4,t5,hs,hr,hq,hqb,_⟩:=mulFacts (hinv.1.at_ ho) (Nat.le_of_lt HO.out.2.2.2) (HY.out.2.at_ hy) hinv.2.2.1
     have hst:=hinv.step hy ho (by rw [HX.out.1.len];exact HO.out.2.2.1) hs (by rw [B9_eq,← hq];exact hqb HO.out.2.2.2)
     rw [B9_eq,← hr,← hq] at hst
     have HS:=Lib.hid (And.intro hst (And.intro hblk (And.intro hb hkl)))
     have HT:=Lib.hid (And.intro t1 (And.intro t2 (And.intro t3 (And.intro t4 t5))))
     clear t1 t2 t3 t4 t5
     clear hst hb hblk hinv hs hr hq hqb hy ho hkl hwn hA
     go_wp2
     go_quiet (fail)
     have HS2:=Lib.hid (And.intro (HS.out.2.1.drewN nq) (drewN0 HS.out.2.2.1 nq))
     have hcz:(wr.drewN nq).cell? ⟨g,i+k,none⟩=some (.int .i64 (o:Int)):=hco
     have hfz:(wr.drewN nq).frozen? ⟨g,i+k,none⟩=false:=hfo
     clear hco hfo hcx hcy
     generalize wr.drewN nq=w2 at *
     simp only [e6]
     clear e1 e2 e3 e4 e5 e6
     go_wp2
     go_roundw
     case rel =>
      obtain ⟨_,t2,_,t4,t5⟩:=HT.out
      exact ⟨k+1,q,ws.set (i+k) r,HS.out.2.2.2,rfl,by rw [t4,t5],HS.out.1,by rw [t2];exact HS2.out.1.set_ _ _,HS2.out.2.setCell (by rw [HG.out];exact Nat.le_refl _) _⟩
     case measure =>
      have:=HS.out.2.2.2
      clear HT HS HS2 HO hcz hfz
      simp [intOf];omega
    ·obtain rfl:k=n':=by omega
     have a3:i+k<n+k:=by have:=HO.out.2.2.1;omega
     have ho:ws[i+k]?=some 0:=by
      have:=hinv.2.2.2.2 (i+k) (by rw [HY.out.1.len];exact Nat.le_refl _) (by omega)
      exact this
     have hco:=hblk.cell ho
     have hfo:=hblk.frozen (i+k)
     have hst:=hinv
     rw [← HY.out.1.len] at hst
     have hst:=hst.finish HO.out.1 HO.out.2.1
     rw [HY.out.1.len] at hst
     have hcb:cy<1000000000:=hinv.2.2.1
     have t5:wrap64 (cy:Int)=cy:=wrapI' (by omega)
     have HS:=Lib.hid (And.intro hst (And.intro hblk hb))
     clear hst hblk hb hinv ho hwn hkl hcb hA
     simp only [Int.natCast_zero] at hco
     go_wp2
     go_roundw
     case rel=>exact ⟨i+1,ws.set (i+k) cy,HO.out.2.2.1,by first|rfl|go_num|simp,HS.out.1,HS.out.2.1.set_ _ _,HS.out.2.2.setCell (by rw [HG.out];exact Nat.le_refl _) _⟩
     case measure =>
      have:=HO.out.2.2.1
      clear HS HO hco hfo
      simp [intOf];omega
  ·obtain rfl:i=n:=by omega
   have hzn:zs.length=i+n':=by rw [hinv.2.1,HX.out.1.len,HY.out.1.len]
   have hrd:=hblk.rd (by rw [hzn];show i+n'≤9223372036854775807;omega)
   rw [hzn] at hrd
   have hfin:=hinv
   rw [← HX.out.1.len] at hfin
   have HF:=Lib.hid (And.intro hinv.1 (And.intro hfin.finish (And.intro hrd hb)))
   clear hinv hblk hzn hrd hfin hlt hb
   go_wp2_with (go_at_call 166;refine (trim_any _ _ _ zs _ HF.out.2.2.1 HF.out.1).mono ?_;rintro e w' ⟨⟨v,rfl,hv⟩,rfl⟩)
   go_ret
   exact ⟨v,rfl,by rw [← HF.out.2.1];exact hv,HF.out.2.2.2⟩
end Go.Proofs.YtbhcckhbbclemaaGreatDoor
