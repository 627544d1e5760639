/- Parts of the proof, joined. -/
import Derived.Test.YtghlkblebhhahaaGreatDoorJ6
import Derived.Test.YtghlkblebhhahaaGreatDoorJ4
set_option maxHeartbeats 4000000
set_option linter.unusedSimpArgs false
set_option linter.unusedVariables false
set_option linter.constructorNameAsVariable false
namespace Go.Proofs.YtghlkblebhhahaaGreatDoor
section
open Go.RowKit Pl
def lo (n:Nat):Nat→List UInt8
 | 0 => []
 | k+1=>UInt8.ofNat (48+n/10^k%10)::lo n k
def zO (n k:Nat):ByteArray:=⟨(lo n k).toArray⟩
theorem lo_length (n k:Nat):(lo n k).length=k:=by induction k with|zero=>rfl|succ k ih=>simp [lo,ih]
theorem gY (n k:Nat):(zO n k).size=k:=by simp [zO,ByteArray.size,lo_length]
abbrev digs:ByteArray:=⟨#[48,49,50,51,52,53,54,55,56,57]⟩
theorem digs_at {d:Nat} (h:d<10):digs.extract d (d+1)=⟨#[UInt8.ofNat (48+d)]⟩:=by
 match d,h with
 | 0,_|1,_|2,_|3,_|4,_|5,_|6,_|7,_|8,_|9,_=>rfl
theorem loB_succ (n k:Nat):(⟨#[UInt8.ofNat (48+n/10^k%10)]⟩:ByteArray)++zO n k=zO n (k+1):=by
 apply Ab.ba_ext
 simp [zO,lo]
theorem meas1 {q m least k a b:Nat} (hq:q=m/10) (h0:0<m) (ha:a=k+1) (hb:b=k):q+(least-a)<m+(least-b):=by omega
theorem meas2 {q m least k a b:Nat} (hq:q=m/10) (h0:m=0) (hk:k<least) (ha:a=k+1) (hb:b=k):q+(least-a)<m+(least-b):=by omega
theorem wrapI {q:Nat} (h:q<9223372036854775808):wrap64 (q:Int)=q:=by unfold wrap64;omega
theorem k18 {n k:Nat} (hn:n<9223372036854775808) (hp:10^k≤n):k≤18:=by
 refine Nat.le_of_not_lt fun hlt=>?_
 have h1:10^19≤10^k:=Nat.pow_le_pow_right (by omega) hlt
 have h2:(10:Nat)^19=10000000000000000000:=rfl
 rw [h2] at h1
 omega
set_option maxRecDepth 100000 in
theorem uK (n least:Nat) (w:World) (hn:n<9223372036854775808) (hl:least≤100):Calls Tryz.prog 152 #[.int .i64 (n:Int),.int .i64 (least:Int)] w fun e w' =>
 w'=w∧∃ K,e = .returned (.string (zO n K))∧n<10^K∧least≤K∧(K=least∨10^(K-1)≤n):=by
 have H:=aH (aI hn hl)
 clear hn hl
 go_enter Tryz.func152,Tryz.ntmps152
 go_wp2
 go_loopw [0,5] (fun a s wr => ∃ k m:Nat,a = .int .i64 (m:Int)∧s = .string (zO n k)∧m=n/10^k∧wr=w∧(k=0∨k≤least∨10^(k-1)≤n)∧k≤100) (fun a s _=>(match a with | .int _ z=>z.toNat|_=>0)+(least-mO s))
 case atStart=>exact ⟨0,n,rfl,by simp [zO,lo],by simp,rfl,.inl rfl,by omega⟩
 case round =>
  obtain ⟨k,m,rfl,rfl,hm,rfl,hk,hk100⟩:=hrel
  obtain ⟨d,hd⟩:∃ d,d=m%10:=⟨_,rfl⟩
  obtain ⟨q,hq⟩:∃ q,q=m/10:=⟨_,rfl⟩
  have hd10:d<10:=by omega
  have hm63:m≤n:=by rw [hm];exact Nat.div_le_self _ _
  have t1:((m:Int).tmod 10)=(d:Int):=by rw [Int.tmod_eq_emod_of_nonneg (by omega)];omega
  have t2:((m:Int)%10)=(d:Int):=by omega
  have t3:((m:Int).tdiv 10)=(q:Int):=by rw [Int.tdiv_eq_ediv_of_nonneg (by omega)];omega
  have t4:((m:Int)/10)=(q:Int):=by omega
  have d0:(0:Int)≤d:=by omega
  have d1:(d:Int)+1≤10:=by omega
  have d2:(d:Int)≤d+1:=by omega
  have hsz:((zO n k).size:Int)=(k:Int):=by rw [gY]
  have hext:digs.extract d (d+1)++zO n k=zO n (k+1):=by
   rw [digs_at hd10,hd,hm]
   exact loB_succ n k
  have HH:=aH (aI hd (aI hq (aI hm (aI hk (aI hk100 (aI hm63 hext))))))
  clear hd hq hm hk hk100 hm63 hext
  by_cases h0:0<m
  ·have c0:(0:Int)<m:=by omega
   have HP:=aH h0
   clear h0
   go_wp2
   ·exfalso
    have:=gY n k
    have:=HH.out.2.2.2.2.1
    omega
   have h0':=HP.out
   obtain ⟨hd,hq,hm,hk,hk100,hm63,hext⟩:=HH.out
   obtain ⟨hn,hl⟩:=H.out
   have hq2:q=n/10^(k+1):=by rw [hq,hm,Nat.div_div_eq_div_mul,Nat.pow_succ]
   have hp:10^k≤n:=by
    rw [hm] at h0'
    exact (Nat.div_pos_iff.1 h0').2
   have hk18:=k18 hn hp
   rw [wrapI (show q<9223372036854775808 by omega)]
   refine ⟨⟨k+1,q,rfl,by rw [hext],hq2,trivial,.inr (.inr hp),by omega⟩,?_⟩
   rw [hext]
   show q+(least-(zO n (k+1)).size)<m+(least-(zO n k).size)
   exact meas1 hq h0' (gY _ _) (gY _ _)
  ·have c0:¬ (0:Int)<m:=by omega
   by_cases h1:k<least
   ·have c1:(k:Int)<least:=by omega
    go_wp2
    ·exfalso
     have:=gY n k
     have:=HH.out.2.2.2.2.1
     omega
    obtain ⟨hd,hq,hm,hk,hk100,hm63,hext⟩:=HH.out
    obtain ⟨hn,hl⟩:=H.out
    have hq2:q=n/10^(k+1):=by rw [hq,hm,Nat.div_div_eq_div_mul,Nat.pow_succ]
    have hz:m=0:=by omega
    refine ⟨⟨k+1,q,rfl,by rw [hext],hq2,trivial,.inr (.inl h1),by omega⟩,?_⟩
    rw [hext]
    show q+(least-(zO n (k+1)).size)<m+(least-(zO n k).size)
    exact meas2 hq hz h1 (gY _ _) (gY _ _)
   ·have c1:¬ (k:Int)<least:=by omega
    go_wp2
    go_ret
    obtain ⟨hd,hq,hm,hk,hk100,hm63,hext⟩:=HH.out
    have hz:n/10^k=0:=by omega
    refine ⟨rfl,k,rfl,?_,by omega,?_⟩
    ·rcases Nat.div_eq_zero_iff.1 hz with h|h
     ·have:=Nat.pow_pos (n:=k) (show 0<10 by omega);omega
     ·exact h
    ·rcases hk with h|h|h
     ·left;omega
     ·left;omega
     ·right;exact h
theorem lo_add (x c k:Nat):∀ j,j≤k→lo (x+c*10^k) j=lo x j:=by
 intro j
 induction j with
 | zero=>intro _;rfl
 | succ j ih =>
   intro hj
   simp only [lo]
   rw [ih (by omega)]
   congr 3
   have hk:10^k=10*10^(k-1-j)*10^j:=by
    rw [Nat.mul_assoc,← Nat.pow_add,← Nat.pow_succ']
    congr 1
    omega
   rw [hk,← Nat.mul_assoc,Nat.add_mul_div_right _ _ (Nat.pow_pos (by omega)),← Nat.mul_assoc,Nat.mul_comm c 10,Nat.mul_assoc,Nat.add_mul_mod_self_left]
theorem lo_mod (x k:Nat):lo (x%10^k) k=lo x k:=by
 have h:x=x%10^k+x/10^k*10^k:=by rw [Nat.mul_comm];exact (Nat.mod_add_div x (10^k)).symm
 have h2:=lo_add (x%10^k) (x/10^k) k k (aR _)
 rw [← h] at h2
 exact h2.symm
theorem dec_app:∀ (k a x:Nat),0<a→x<10^k→Lib.decDigits (a*10^k+x)=Lib.decDigits a++lo x k:=by
 intro k
 induction k with
 | zero=>intro a x ha hx;simp at hx;subst hx;simp [lo]
 | succ k ih =>
   intro a x ha hx
   have hd:x/10^k<10:=by rw [Nat.div_lt_iff_lt_mul (Nat.pow_pos (by omega))];rw [Nat.pow_succ,Nat.mul_comm] at hx;exact hx
   have he:a*10^(k+1)+x=(a*10+x/10^k)*10^k+x%10^k:=by
    have:=Nat.mod_add_div x (10^k)
    rw [Nat.add_mul,Nat.pow_succ,Nat.mul_assoc a 10,Nat.mul_comm 10 (10^k),Nat.mul_comm (x/10^k)]
    omega
   have hlo:lo x (k+1)=UInt8.ofNat (48+x/10^k%10)::lo x k:=rfl
   rw [he,hlo]
   generalize x/10^k=d at hd
   rw [ih _ _ (by omega) (Nat.mod_lt _ (Nat.pow_pos (by omega))),lo_mod,eG (by omega),show (a*10+d)/10=a by omega,show (a*10+d)%10=d by omega]
   rw [List.append_assoc,Nat.mod_eq_of_lt hd]
   rfl
theorem dec_lo {n K:Nat} (h1:n<10^(K+1)) (h2:K=0∨10^K≤n):lo n (K+1)=Lib.decDigits n:=by
 have hp:0<10^K:=Nat.pow_pos (by omega)
 have hd:n/10^K<10:=by rw [Nat.div_lt_iff_lt_mul hp];rw [Nat.pow_succ,Nat.mul_comm] at h1;exact h1
 rcases h2 with h2|h2
 ·subst h2
  simp at h1
  rw [cN h1]
  simp [lo,Nat.mod_eq_of_lt h1]
 ·have ha:0<n/10^K:=Nat.div_pos h2 hp
  have he:n=n/10^K*10^K+n%10^K:=by have:=Nat.mod_add_div n (10^K);rw [Nat.mul_comm] at this;omega
  have h3:=dec_app K _ _ ha (Nat.mod_lt n hp)
  rw [← he,cN hd,lo_mod] at h3
  rw [h3]
  simp [lo,Nat.mod_eq_of_lt hd]
theorem loB_dec {n K:Nat} (h1:n<10^K) (hK:1≤K) (h2:K=1∨10^(K-1)≤n):zO n K=Ab.decB n:=by
 obtain ⟨k,rfl⟩:∃ k,K=k+1:=⟨K-1,by omega⟩
 unfold zO Ab.decB
 rw [dec_lo h1 ?_]
 rcases h2 with h|h
 ·left;omega
 ·right;simpa using h
theorem decB_app {a x:Nat} (ha:0<a) (hx:x<B9):Ab.decB a++zO x 9=Ab.decB (x+B9*a):=by
 apply Ab.ba_ext
 have:=dec_app 9 a x ha (by rw [cM] at hx;omega)
 simp only [Ab.decB,zO]
 rw [show x+B9*a=a*10^9+x by rw [cM];omega,this]
 simp
theorem oA (n:Nat) (w:World) (hn:n<9223372036854775808):Calls Tryz.prog 152 #[.int .i64 (n:Int),.int .i64 1] w fun e w'=>w'=w∧e = .returned (.string (Ab.decB n)) :=
 (uK n 1 w hn (by omega)).mono fun e w' ⟨e1,K,e2,h1,h2,h3⟩=>⟨e1,by rw [e2,loB_dec h1 h2 h3]⟩
theorem decimal9 (n:Nat) (w:World) (hn:n<B9):Calls Tryz.prog 152 #[.int .i64 (n:Int),.int .i64 9] w fun e w'=>w'=w∧e = .returned (.string (zO n 9)) :=
 (uK n 9 w (by rw [cM] at hn;omega) (by omega)).mono fun e w' ⟨e1,K,e2,h1,h2,h3⟩=>⟨e1,by
  have:K=9:=by
   rcases h3 with h|h
   ·exact h
   ·refine Nat.le_antisymm (Nat.le_of_not_lt fun hlt=>?_) h2
    have h4:10^9≤10^(K-1):=Nat.pow_le_pow_right (by omega) (by omega)
    rw [show (10:Nat)^9=1000000000 from rfl] at h4
    rw [cM] at hn
    omega
  rw [e2,this]⟩
def aZ (z:Int):ByteArray:=if z<0 then ⟨#[45]⟩++Ab.decB z.natAbs else Ab.decB z.natAbs
theorem size_val {xs:List Nat} (hd:Dig B9 xs) (h0:xs≠[]):(Ab.decB (val B9 xs)).size≤9*xs.length:=by
 have h1:=bU hd
 have h2:B9^xs.length=10^(9*xs.length):=by rw [Nat.pow_mul];rfl
 have hl:0<xs.length:=List.length_pos_iff.2 h0
 rw [h2,show 9*xs.length=9*xs.length-1+1 by omega] at h1
 have:=Ab.decB_size h1
 omega
set_option maxRecDepth 100000 in
theorem text_raw (neg:Bool) (A:Option Addr) (n c:Nat) (xs:List Nat) (w:World) (h:Ri w A n c xs) (hd:Dig B9 xs) (hn:Norm xs) (hlen:n≤100000000) :
 Calls Tryz.prog 148 #[.agg #[.bool neg,.slice A n c]] w fun e w'=>e = .returned (.string (if neg&&decide (0<n) then ⟨#[45]⟩++Ab.decB (val B9 xs) else Ab.decB (val B9 xs)))∧Below w.heap.size w w':=by
 have hB:Below w.heap.size w (w.alloc (.cells #[.bool neg,.slice A n c] 143)):=(aB _ _).alloc (aR _) _
 have HR:=aH (aI (h.below hB) (aI hd (aI hn (aI hlen (aI h.len hB)))))
 clear h hd hn hlen hB
 go_enter Tryz.func148,Tryz.ntmps148
 rcases Nat.eq_zero_or_pos n with h0|h0
 ·subst h0
  have h0:xs = []:=List.eq_nil_of_length_eq_zero HR.out.2.2.2.2.1
  have he:Ab.decB (val B9 xs)=⟨#[48]⟩:=by rw [h0];exact Ab.dec0
  have hb:=HR.out.2.2.2.2.2
  clear HR h0
  cases neg <;> (go_wp2;go_ret;exact ⟨rfl,hb⟩)
 ·have c0:((n:Int)==0)=false:=by simp;omega
  obtain ⟨m,hm⟩:∃ m,m=n-1:=⟨_,rfl⟩
  obtain ⟨ad,x,rfl,_hb,hx,hcell⟩:=HR.out.1.at_ (k:=m) (by omega)
  have c1:((n:Int)-1)=(m:Int):=by omega
  have c3:((n:Int)-2)=(m:Int)-1:=by omega
  have c2:(m:Int)<n:=by omega
  have c4:wrap64 (m:Int)=m:=wrapI (by have:=HR.out.2.2.2.1;omega)
  have c5:wrap64 ((m:Int)-1)=(m:Int)-1:=by unfold wrap64;have:=HR.out.2.2.2.1;omega
  have hlx:m<xs.length:=by rw [HR.out.2.2.2.2.1];omega
  have hx9:x<B9:=HR.out.2.1.at_ hx
  have hx63:x<9223372036854775808:=by rw [cM] at hx9;omega
  have hdrop:val B9 (xs.drop m)=x:=by
   rw [List.getElem?_eq_getElem hlx] at hx
   injection hx with hx
   rw [lC B9 xs _ hlx,List.drop_of_length_le (by rw [HR.out.2.2.2.2.1];omega)]
   simp [val,hx]
  have HX:=aH (aI hx (aI hdrop hm))
  clear hx hdrop hlx hx9 hm
  go_wp2_with fail
  refine (oA x _ hx63).mono ?_
  rintro e w' ⟨rfl,rfl⟩
  go_wp2_with fail
  go_loopw [3,4] (fun s i wr => ∃ k:Nat,i = .int .i64 ((k:Int)-1)∧k≤m∧s = .string (Ab.decB (val B9 (xs.drop k)))∧wr=w.alloc (.cells #[.bool neg,.slice (some ad) n c] 143)) (fun _ i _=>(intOf i+1).toNat)
  case atStart=>exact ⟨m,by rw [c5],aR _,by rw [HX.out.2.1],rfl⟩
  case round =>
   obtain ⟨k,rfl,hk,rfl,rfl⟩:=hrel
   have hpos:0<val B9 (xs.drop k):=by
    obtain ⟨hx,_,hm⟩:=HX.out
    obtain ⟨_,hd,hn,_,hl,_⟩:=HR.out
    have hne:xs.drop k≠[]:=fun e=>by have:=congrArg List.length e;rw [List.length_drop,List.length_nil] at this;omega
    refine Norm.pos cJ (fun h=>?_) hne
    rw [List.getLast_drop]
    exact hn _
   have hsz:(Ab.decB (val B9 (xs.drop k))).size≤900000000:=by
    obtain ⟨_,hd,hn,hlen,hl,_⟩:=HR.out
    have hne:xs.drop k≠[]:=fun e=>by have:=congrArg List.length e;rw [List.length_drop,List.length_nil] at this;have:=HX.out.2.2;omega
    have:=size_val (hd.drop k) hne
    rw [List.length_drop] at this
    omega
   rcases Nat.eq_zero_or_pos k with h0|h0
   ·subst h0
    rw [List.drop_zero] at hpos hsz ⊢
    have HF:=aH (aI hpos hsz)
    clear hpos hsz hk
    have hb:=HR.out.2.2.2.2.2
    cases neg
    ·go_wp2
     all_goals first|(exfalso;have:=HF.out.2;simp at *;omega)|(go_ret;exact ⟨rfl,hb⟩)
    ·go_wp2
     all_goals first|(go_ret;exact ⟨rfl,hb⟩)|(exfalso;have:=HF.out.2;simp at *;omega)
   ·obtain ⟨j,hj⟩:∃ j,j=k-1:=⟨_,rfl⟩
    have d1:((k:Int)-1)=(j:Int):=by omega
    have d2:(j:Int)<n:=by have:=HX.out.2.2;omega
    have d3:(0:Int)≤j:=by omega
    have d4:wrap64 ((j:Int)-1)=(j:Int)-1:=by unfold wrap64;have:=HR.out.2.2.2.1;have:=HX.out.2.2;omega
    obtain ⟨ad',y,e,_hb',hy,hcy⟩:=HR.out.1.at_ (k:=j) (by have:=HX.out.2.2;omega)
    injection e with e
    subst e
    have hy9:y<B9:=HR.out.2.1.at_ hy
    have HY:=aH (aI hy (aI hj (aI hpos (aI hsz (aI hk h0)))))
    clear hy hj hpos hsz hk h0 hcell
    rw [d1]
    go_wp2_with fail
    refine (decimal9 y _ hy9).mono ?_
    rintro e w' ⟨rfl,rfl⟩
    go_wp2
    ·exfalso
     have h9:=gY y 9
     obtain ⟨_,_,_,h8,_⟩:=HY.out
     omega
    go_roundw
    case rel =>
     obtain ⟨hy,hj,hpos,hsz,hk,h0⟩:=HY.out
     have hl:=HR.out.2.2.2.2.1
     have hjl:j<xs.length:=by have:=HX.out.2.2;omega
     rw [c5]
     refine ⟨_,_,_,_,_,_,_,_,_,_,_,_,_,_,⟨j,?_,by omega,?_,trivial⟩,rfl⟩
     ·rw [d4]
     congr 1
     rw [decB_app hpos hy9,lC B9 xs j hjl]
     rw [List.getElem?_eq_getElem hjl] at hy
     injection hy with hy
     rw [hy,show j+1=k by omega]
    case measure =>
     have:=HY.out.2.1
     have:=HY.out.2.2.2.2.2
     simp [intOf]
     omega
theorem row_ri {w:World} {base m:Nat} {e:TypeId} {v:Value} {ws:List Nat} (h:w.ownsRow base e 1 v m (ws.map dV)):∃ A c,v = .slice A m c∧Ri w A m c ws:=by
 obtain ⟨h1,h2⟩:=h
 have hl:ws.length=m:=by simpa using h1
 rcases h2 with ⟨rfl,rfl⟩|⟨g,cap,cur,rfl,e2,e3,e4,e5,e6,e7⟩
 ·have:ws = []:=List.eq_nil_of_length_eq_zero hl
  subst this
  exact ⟨none,0,rfl,Ri.nil⟩
 ·refine ⟨_,cap,rfl,hl,e4,e5,fun _=>⟨_,rfl,lt_of_block e3,fun j x hx=>?_⟩⟩
  rw [wS,aA e3,← Array.getElem?_toList]
  have hj:(cur.toList.take (m*1))[0+j]?=some (.int .i64 (x:Int)):=by rw [e7,Nat.zero_add,List.getElem?_map,hx];rfl
  rw [List.getElem?_take] at hj
  split at hj
  ·exact hj
  ·cases hj
def WholeAt (w:World) (z:Int) (nv wv:Value) (wr:World):Prop :=
 ∃ (m:Int) (ds:List Nat),nv = .int .i64 m∧wr.ownsRow (w.heap.size+1) 3 1 wv ds.length (ds.map dV)∧Dig B9 ds∧z.natAbs=val B9 ds+B9^ds.length*m.natAbs∧(m<0→z<0)∧(0<m→0<z) ∧
   Below w.heap.size w wr∧wr.heap[w.heap.size]?=some (.cells #[.bool false,.slice none 0 0] 143 (0,0))∧w.heap.size<wr.heap.size
theorem whole_len {z m:Int} {ds:List Nat} (hz:-9223372036854775808≤z∧z≤9223372036854775807) (h:z.natAbs=val B9 ds+B9^ds.length*m.natAbs) (hm:m≠0):ds.length≤2∧-9223372036854775808≤m∧m≤9223372036854775808:=by
 have h1:1≤m.natAbs:=by omega
 have h2:B9^ds.length*1≤B9^ds.length*m.natAbs:=Nat.mul_le_mul_left _ h1
 have hp:0<B9^ds.length:=Nat.pow_pos cJ
 have h4:1*m.natAbs≤B9^ds.length*m.natAbs:=Nat.mul_le_mul_right _ hp
 refine ⟨Nat.le_of_not_lt fun hlt=>?_,by omega,by omega⟩
 have h3:B9^3≤B9^ds.length:=Nat.pow_le_pow_right cJ hlt
 have h5:B9^3=1000000000000000000000000000:=rfl
 rw [h5] at h3
 omega
theorem xL {w w2:World} {z m m2:Int} {ds:List Nat} {r:Nat} {v' : Value} (hd:Dig B9 ds) (h:z.natAbs=val B9 ds+B9^ds.length*m.natAbs) (hn:m<0→z<0) (hp:0<m→0<z)
 (e:m.natAbs=r+1000000000*m2.natAbs) (hr:r<1000000000) (s1:m2<0→m<0) (s2:0<m2→0<m) (ho:w2.ownsRow (w.heap.size+1) 3 1 v' (ds.length+1) (ds.map dV ++ [.int .i64 (r:Int)]))
 (hb:Below w.heap.size w w2) (hh:w2.heap[w.heap.size]?=some (.cells #[.bool false,.slice none 0 0] 143 (0,0))) (hs:w.heap.size<w2.heap.size):WholeAt w z (.int .i64 m2) v' w2:=by
 refine ⟨m2,ds ++ [r],rfl,?_,hd.app (Dig.cons (by rw [cM];exact hr) (Dig.nil _)),?_,fun h1=>hn (s1 h1),fun h1=>hp (s2 h1),hb,hh,hs⟩
 ·rw [List.length_append,List.length_singleton,List.map_append];exact ho
 ·rw [cK,List.length_append,List.length_singleton,Nat.pow_succ,h,e,Nat.mul_add,Nat.mul_assoc,cM,Nat.add_assoc]
theorem fM {w w' : World} {row:Option Nat} {g:Nat} {o:Obj} (hg:w.grownBy w' row) (h:w.heap[g]?=some o) (hr:some g≠row):w'.heap[g]?=some o :=
 (hg.block g (lt_of_block h) hr).trans h
theorem zP {w:World} {g:Nat} {T:TypeId} {a b:Value} (h:w.heap[g]?=some (.cells #[a,b] T (0,0))):(w.cell? ⟨g,0,none⟩=some a∧w.cell? ⟨g,1,none⟩=some b)∧w.frozen? ⟨g,0,none⟩=false∧w.frozen? ⟨g,1,none⟩=false:=by
 simp [World.cell?,World.frozen?,h]
theorem tH {w:World} {g:Nat} {T:TypeId} {a b x y:Value} (h:w.heap[g]?=some (.cells #[a,b] T (0,0))):((w.setCell ⟨g,0,none⟩ x).setCell ⟨g,1,none⟩ y).heap[g]?=some (.cells #[x,y] T (0,0)):=by
 simp [World.setCell,Array.getElem?_modify,h]
theorem In.set2 {w:World} {v:Value} {z:Int} {g:Nat} {T:TypeId} {a b x y:Value} (h:In w v z) (hg:w.heap[g]?=some (.cells #[a,b] T (0,0))) (ha:∀ n,a≠.int .i64 n) (hb:∀ n,b≠.int .i64 n):In ((w.setCell ⟨g,0,none⟩ x).setCell ⟨g,1,none⟩ y) v z:=by
 obtain ⟨A,n,c,xs,hv,hr,hd,hn,hz⟩:=h
 refine ⟨A,n,c,xs,hv,⟨hr.1,hr.2.1,hr.2.2.1,fun hp=>?_⟩,hd,hn,hz⟩
 obtain ⟨ad,e,hl,hc⟩:=hr.2.2.2 hp
 refine ⟨ad,e,by simpa [World.setCell] using hl,fun j u hu=>?_⟩
 have h1:=hc j u hu
 have hne:(ad.add j).block≠g:=fun he=>by
  unfold World.cell? at h1
  rw [he,hg] at h1
  simp only at h1
  match ho:(ad.add j).off with
  | 0=>rw [ho] at h1;simp at h1;exact ha _ h1.2
  | 1=>rw [ho] at h1;simp at h1;exact hb _ h1.2
  | k+2=>rw [ho] at h1;simp at h1
 rw [World.cell?_of_block (w:=w),h1]
 rw [Below.heap_setCell _ _ _ _ (show (ad.add j).block≠(⟨g,1,none⟩:Addr).block from hne),Below.heap_setCell _ _ _ _ (show (ad.add j).block≠(⟨g,0,none⟩:Addr).block from hne)]
theorem info_int:(Tryz.prog.info? 3).map (fun i=>(i.zero,i.size,i.bytes))=some (some (.int .i64 0),1,8):=by kernel_rfl
set_option maxRecDepth 100000 in
theorem zQ (z:Int) (w:World) (hz:-9223372036854775808≤z∧z≤9223372036854775807):Calls Tryz.prog 149 #[.int .i64 z] w fun e w' => ∃ v,e = .returned v∧In w' v z∧Below w.heap.size w w':=by
 have HZ:=aH hz
 clear hz
 obtain ⟨i0,hi,hz0,hz1,hz2⟩:=info_parts info_int
 have HI:=aH (aI hi (aI hz0 (aI hz1 hz2)))
 clear hi hz0 hz1 hz2
 go_enter Tryz.func149,Tryz.ntmps149
 go_wp2
 go_loopw [0,3] (fun nv wv wr=>WholeAt w z nv wv wr) (fun nv _ _=>(intOf nv).natAbs)
 case atStart=>exact ⟨z,[],rfl,⟨rfl,.inl ⟨rfl,rfl⟩⟩,Dig.nil _,by simp [val],fun h=>h,fun h=>h,(aB _ _).alloc (aR _) _,heap_alloc_new w _,by simp⟩
 case round =>
  obtain ⟨m,ds,rfl,hrow,hd,hzm,hn,hp,hb,hh,hs⟩:=hrel
  by_cases c0:m=0
  ·subst c0
   obtain ⟨A,c,rfl,hri⟩:=row_ri hrow
   have hv:iV (decide (z<0)) (val B9 ds)=z:=by
    simp only [Int.natAbs_zero,Nat.mul_zero,Nat.add_zero] at hzm
    rw [← hzm]
    unfold iV
    split <;> simp_all <;> omega
   have HC:=aH (aI hri (aI hd (aI hv (aI hb (aI hh hs)))))
   clear hrow hri hd hzm hn hp hb hh hs hv
   go_wp2_with fail
   refine (jJ _ A _ c ds _ HC.out.1 HC.out.2.1).mono ?_
   rintro e w2 ⟨v,rfl,q,b⟩
   rw [HC.out.2.2.1] at q
   have hh2:w2.heap[w.heap.size]?=some (.cells #[.bool false,.slice none 0 0] 143 (0,0)):=(b.block _ HC.out.2.2.2.2.2).trans HC.out.2.2.2.2.1
   have hs2:w.heap.size<w2.heap.size:=Nat.lt_of_lt_of_le HC.out.2.2.2.2.2 b.size
   have hb2:Below w.heap.size w w2:=HC.out.2.2.2.1.trans (b.mono HC.out.2.2.2.1.size)
   obtain ⟨A',n',c',xs',rfl,q'⟩:=id q
   have Q:=aH (aI q (aI hh2 (aI hs2 hb2)))
   clear q q' b hh2 hs2 hb2
   obtain ⟨⟨b0,b1⟩,f0,f1⟩:=zP Q.out.2.1
   go_wp2
   obtain ⟨q,hh2,hs2,hb2⟩:=Q.out
   obtain ⟨⟨g0,g1⟩,_⟩:=zP (tH hh2 (x := .bool (decide (z<0))) (y := .slice A' n' c'))
   refine bodyPost_ret (v := .agg #[.bool (decide (z<0)),.slice A' n' c']) (by simp [results,Tryz.results149,go_sem,g0,g1]) rfl ⟨_,rfl,q.set2 hh2 (fun n h=>by cases h) (fun n h=>by cases h),?_⟩
   exact (hb2.setCell (p:=⟨w.heap.size,0,none⟩) (aR _) _).setCell (p:=⟨w.heap.size,1,none⟩) (aR _) _
  ·obtain ⟨hl2,hm1,hm2⟩:=whole_len HZ.out hzm c0
   obtain ⟨r,hr⟩:∃ r,r=m.natAbs%1000000000:=⟨_,rfl⟩
   obtain ⟨r',hr'⟩:∃ r' : Int,r'=if m<0 then -(r:Int) else r:=⟨_,rfl⟩
   obtain ⟨q',hq'⟩:∃ q' : Int,q'=if m<0 then -((m.natAbs/1000000000:Nat):Int) else ((m.natAbs/1000000000:Nat):Int):=⟨_,rfl⟩
   have t1:m.tmod 1000000000=r':=by
    rcases Int.lt_or_le m 0 with h|h
    ·rw [hr',if_pos h,show m = -((m.natAbs:Nat):Int) by omega,Int.neg_tmod,Int.tmod_eq_emod_of_nonneg (by omega)]
     omega
    ·rw [hr',if_neg (by omega),Int.tmod_eq_emod_of_nonneg h]
     omega
   have t3:m.tdiv 1000000000=q':=by
    rcases Int.lt_or_le m 0 with h|h
    ·rw [hq',if_pos h,show m = -((m.natAbs:Nat):Int) by omega,Int.neg_tdiv,Int.tdiv_eq_ediv_of_nonneg (by omega)]
     omega
    ·rw [hq',if_neg (by omega),Int.tdiv_eq_ediv_of_nonneg h]
     omega
   have hq:m.natAbs=r+1000000000*q'.natAbs:=by split at hq' <;> omega
   have hqs:(q'<0→m<0)∧(0<q'→0<m):=by split at hq' <;> omega
   have t4:wrap64 q'=q':=by unfold wrap64;split at hq' <;> omega
   have hrr:r<1000000000:=by omega
   have hrs:r'=(r:Int)∨(r'<0∧r' = -(r:Int)):=by split at hr' <;> omega
   have HC:=aH (aI hrow (aI hd (aI hzm (aI hn (aI hp (aI hb (aI hh (aI hs (aI hl2 (aI hq (aI hqs hrr)))))))))))
   clear hrow hd hzm hn hp hb hh hs hl2 hr hq hq' hr' hqs
   rcases hrs with h1|⟨h1,h2⟩
   ·subst h1
    have hneg:¬ (r:Int)<0:=by omega
    clear hrr
    go_wp2_with (at_builtin;refine wpList_append_own _ rfl _ _ 141 rfl (w.heap.size+1) 3 i0 (.int .i64 0) 1 8 Tryz.underlying141 HI.out.1 HI.out.2.1 HI.out.2.2.1 HI.out.2.2.2 rfl (by decide) _ _ _ rfl (HC.out.1.alloc _) ⟨wr.heap.size,0,none⟩ 1 1 [.int .i64 (r:Int)] rfl rfl ?k1 ?k2 ?k3 ?k4 ?k5 ?_)
    try (case k1 =>
     intro j u hj
     match j with
     | 0 =>
       simp only [List.getElem?_cons_zero,Option.some.injEq] at hj
       subst hj
       exact aA (heap_alloc_new wr _) 0
     | j+1=>simp at hj)
    case k2=>first|rfl|(intro u hu;simp at hu;subst hu;rfl)
    case k3=>have:=HC.out.2.2.2.2.2.2.2.2.1;show ds.length+1≤9223372036854775807;omega
    case k4=>have:=HC.out.2.2.2.2.2.2.2.2.1;omega
    case k5=>have:=HC.out.2.2.2.2.2.2.2.1;simp;omega
    intro v' w3 hr3 hg3 _
    obtain ⟨hrow,hd,hzm,hn,hp,hb,hh,hs,hl2,hq,hqs,hrr⟩:=HC.out
    have hbw:Below w.heap.size w w3:=Below.grown (hb.alloc hb.size _) hg3 (by have:=hb.size;simp;omega) (fun b hb'=>by have:=rA hrow b hb';omega)
    have hh3:w3.heap[w.heap.size]?=some (.cells #[.bool false,.slice none 0 0] 143 (0,0)):=by
     have h2:=(Below.heap_alloc wr (.cells #[.int .i64 (r:Int)] 3) _ hs).trans hh
     refine fM hg3 h2 ?_
     intro he
     have:=rA hrow _ he.symm
     omega
    have HX:=aH (aI (xL hd hzm hn hp hq hrr hqs.1 hqs.2 hr3 hbw hh3 (by have:=hg3.size;simp at this;omega)) hq)
    clear hr3 hg3 hrow hd hzm hn hp hb hh hs hl2 hq hqs hrr hbw hh3
    go_wp2
    go_roundw
    case rel=>first|exact HX.out.1|(rw [t4];exact HX.out.1)
    case measure=>have:=HX.out.2;simp only [intOf,t4];omega
   ·have t5:wrap64 (0-r')=(r:Int):=by unfold wrap64;omega
    have t6:wrap64 (-r')=(r:Int):=by unfold wrap64;omega
    clear hrr h2
    go_wp2_with (at_builtin;refine wpList_append_own _ rfl _ _ 141 rfl (w.heap.size+1) 3 i0 (.int .i64 0) 1 8 Tryz.underlying141 HI.out.1 HI.out.2.1 HI.out.2.2.1 HI.out.2.2.2 rfl (by decide) _ _ _ rfl (HC.out.1.alloc _) ⟨wr.heap.size,0,none⟩ 1 1 [.int .i64 (r:Int)] rfl rfl ?k1 ?k2 ?k3 ?k4 ?k5 ?_)
    try (case k1 =>
     intro j u hj
     match j with
     | 0 =>
       simp only [List.getElem?_cons_zero,Option.some.injEq] at hj
       subst hj
       exact aA (heap_alloc_new wr _) 0
     | j+1=>simp at hj)
    case k2=>first|rfl|(intro u hu;simp at hu;subst hu;rfl)
    case k3=>have:=HC.out.2.2.2.2.2.2.2.2.1;show ds.length+1≤9223372036854775807;omega
    case k4=>have:=HC.out.2.2.2.2.2.2.2.2.1;omega
    case k5=>have:=HC.out.2.2.2.2.2.2.2.1;simp;omega
    intro v' w3 hr3 hg3 _
    obtain ⟨hrow,hd,hzm,hn,hp,hb,hh,hs,hl2,hq,hqs,hrr⟩:=HC.out
    have hbw:Below w.heap.size w w3:=Below.grown (hb.alloc hb.size _) hg3 (by have:=hb.size;simp;omega) (fun b hb'=>by have:=rA hrow b hb';omega)
    have hh3:w3.heap[w.heap.size]?=some (.cells #[.bool false,.slice none 0 0] 143 (0,0)):=by
     have h2:=(Below.heap_alloc wr (.cells #[.int .i64 (r:Int)] 3) _ hs).trans hh
     refine fM hg3 h2 ?_
     intro he
     have:=rA hrow _ he.symm
     omega
    have HX:=aH (aI (xL hd hzm hn hp hq hrr hqs.1 hqs.2 hr3 hbw hh3 (by have:=hg3.size;simp at this;omega)) hq)
    clear hr3 hg3 hrow hd hzm hn hp hb hh hs hl2 hq hqs hrr hbw hh3
    go_wp2
    go_roundw
    case rel=>first|exact HX.out.1|(rw [t4];exact HX.out.1)
    case measure=>have:=HX.out.2;simp only [intOf,t4];omega
end
section
open Go.RowKit Pl
def Kr:Value→Bool
 | .int .i64 _=>true
 | _=>false
theorem Ri.ext {K:Value→Bool} (hK:∀ x,K (.int .i64 x)=true) {w w' : World} {A:Option Addr} {n c:Nat} {xs:List Nat} (h:Ri w A n c xs) (hx:Ext K w w'):Ri w' A n c xs:=by
 refine ⟨h.1,h.2.1,h.2.2.1,fun hn=>?_⟩
 obtain ⟨ad,e,hl,hc⟩:=h.2.2.2 hn
 exact ⟨ad,e,Nat.lt_of_lt_of_le hl hx.size,fun j x hj=>hx.cell (hc j x hj) (hK _)⟩
theorem Di.ext {w w' : World} {v:Value} {a:Nat} (h:Di w v a) (hx:Ext Kr w w'):Di w' v a:=by
 obtain ⟨A,n,c,xs,hv,hr,hd,hn,ha⟩:=h
 exact ⟨A,n,c,xs,hv,hr.ext (fun _=>rfl) hx,hd,hn,ha⟩
def Ru (w:World) (v:Value) (a:Nat):Prop := ∃ A n c xs,v = .slice A n c∧Ri w A n c xs∧Dig B9 xs∧val B9 xs=a
theorem Ru.ext {w w' : World} {v:Value} {a:Nat} (h:Ru w v a) (hx:Ext Kr w w'):Ru w' v a:=by
 obtain ⟨A,n,c,xs,hv,hr,hd,ha⟩:=h
 exact ⟨A,n,c,xs,hv,hr.ext (fun _=>rfl) hx,hd,ha⟩
end
namespace Ab
open Go.RowKit Pl
theorem kr_ok:KOk Kr:=⟨fun _=>rfl,fun _ _ _=>rfl⟩
def xM (a:Nat):CS Kr where
 size:=1
 cold:=true
 pred cs w := ∃ v,cs = [v]∧Di w v a
 stable cs w w' h hx:=by obtain ⟨v,e,h⟩:=h;exact ⟨v,e,h.ext hx⟩
 len cs w h:=by obtain ⟨v,e,_⟩:=h;rw [e];rfl
 one cs w h:=by
  obtain ⟨v,e,A,n,c,xs,hv,_⟩:=h
  rw [e];intro d hd;rw [List.mem_singleton] at hd;rw [hd,hv];rfl
 iscold _ cs w h:=by
  obtain ⟨v,e,A,n,c,xs,hv,_⟩:=h
  rw [e];intro d hd;rw [List.mem_singleton] at hd;rw [hd,hv];rfl
def csRu (a:Nat):CS Kr where
 size:=1
 cold:=true
 pred cs w := ∃ v,cs = [v]∧Ru w v a
 stable cs w w' h hx:=by obtain ⟨v,e,h⟩:=h;exact ⟨v,e,h.ext hx⟩
 len cs w h:=by obtain ⟨v,e,_⟩:=h;rw [e];rfl
 one cs w h:=by
  obtain ⟨v,e,A,n,c,xs,hv,_⟩:=h
  rw [e];intro d hd;rw [List.mem_singleton] at hd;rw [hd,hv];rfl
 iscold _ cs w h:=by
  obtain ⟨v,e,A,n,c,xs,hv,_⟩:=h
  rw [e];intro d hd;rw [List.mem_singleton] at hd;rw [hd,hv];rfl
def gZ (v:Value) (h:v.oneCell'=true) (c:Bool) (hc:c=true→Kr v=false):CS Kr where
 size:=1
 cold:=c
 pred cs _:=cs = [v]
 stable _ _ _ h _:=h
 len _ _ h:=by rw [h];rfl
 one _ _ hp:=by rw [hp];intro c hc;rw [List.mem_singleton] at hc;rw [hc];exact h
 iscold hb _ _ hp:=by rw [hp];intro d hd;rw [List.mem_singleton] at hd;rw [hd];exact hc hb
abbrev di (a:Nat):AV Kr := .fv (.sc (.sp (xM a)))
abbrev ru (a:Nat):AV Kr := .fv (.sc (.sp (csRu a)))
abbrev rB (b:Bool):Seg Kr := .sp (gZ (.bool b) rfl true (fun _=>rfl))
abbrev rb (b:Bool):AV Kr := .fv (.sc (rB b))
abbrev rS (s:ByteArray):AV Kr := .fv (.sc (.sp (gZ (.string s) rfl true (fun _=>rfl))))
abbrev iz (z:Int):AV Kr := .fv (.ag [rB (decide (z<0)),.sp (xM z.natAbs)])
theorem bI {β:List Nat} {v:Value} {w:World} {a:Nat}:(di a).holds β v w↔Di w v a:=by
 constructor
 ·rintro ⟨u,e,h⟩
  injection e with e
  rw [e];exact h
 ·intro h;exact ⟨v,rfl,h⟩
theorem ru_holds {β:List Nat} {v:Value} {w:World} {a:Nat}:(ru a).holds β v w↔Ru w v a:=by
 constructor
 ·rintro ⟨u,e,h⟩
  injection e with e
  rw [e];exact h
 ·intro h;exact ⟨v,rfl,h⟩
theorem bD {v u:Value} {h:v.oneCell'=true} {c:Bool} {hc:c=true→Kr v=false} {β:List Nat} {w:World} (k:(AV.fv (.sc (.sp (gZ v h c hc))):AV Kr).holds β u w):u=v:=by
 have:[u] = [v]:=k
 injection this
theorem dC {v:Value} {h:v.oneCell'=true} {c:Bool} {hc:c=true→Kr v=false} {β:List Nat} {w:World}:(AV.fv (.sc (.sp (gZ v h c hc))):AV Kr).holds β v w:=rfl
theorem lX {β:List Nat} {v:Value} {w:World} {z:Int}:(iz z).holds β v w↔In w v z:=by
 constructor
 ·rintro ⟨cs,rfl,a,r,rfl,h1,b,r2,rfl,⟨u,e,A,n,c,xs,rfl,hr,hd,hn,hv⟩,h3⟩
  have h1:a = [.bool (decide (z<0))]:=h1
  rw [show r2 = [] from h3,h1,e]
  exact ⟨A,n,c,xs,rfl,hr,hd,hn,hv⟩
 ·rintro ⟨A,n,c,xs,rfl,hr,hd,hn,hv⟩
  exact ⟨[.bool (decide (z<0)),.slice A n c],rfl,[.bool (decide (z<0))],_,rfl,rfl,[.slice A n c],[],rfl,⟨_,rfl,A,n,c,xs,rfl,hr,hd,hn,hv⟩,rfl⟩
theorem rgo {f:FuncId} {fn:Func} {args:List (AV Kr)} {x:AV Kr} (hfn:Tryz.prog.funcs[f]?=some fn) (hc:(fn.body.isSome,decide (args.length≤fn.ntmps),x.noPtr,args.all AV.noPtr)=(true,true,true,true))
 (h:∀ w00,Ok Tryz.prog f w00 (fun v w=>x.holds [] v w) (cI Tryz.prog 1000 (nW fn args))):jF f args x:=by
 simp only [Prod.mk.injEq] at hc
 exact fits_go hfn hc.1 hc.2.1 hc.2.2.1 hc.2.2.2 fun w00=>Ok.go (by kernel_rfl) kr_ok 1000 (h w00)
section
variable {f:FuncId} {w00:World} {Out:Value→World→Prop}
theorem rcall {c:Cfg Kr} (fn:FuncId) (args:List (AV Kr)) {x:AV Kr} (h:jF fn args x) (hc:(c.callee Tryz.prog,c.args Tryz.prog,c.okT x)=(some fn,args,true)) (hfn:∀ (args:Array Value) (w:World),(callFunc fn args).run Tryz.prog w = .ok (.enter fn args) w)
 (hg:Ok Tryz.prog f w00 Out (cI Tryz.prog 1000 (c.give x))):Ok Tryz.prog f w00 Out c:=by
 simp only [Prod.mk.injEq] at hc
 exact Ok.call fn args h hc.1 hc.2.1 hc.2.2 hfn (Ok.go (by kernel_rfl) kr_ok 1000 hg)
theorem pB {c:Cfg Kr} (op:Op) (x y:Operand) (X Y r:AV Kr) (hc:(c.op.map fun o=>o.op,c.okT r,c.ev x,c.ev y)=(some op,true,X,Y)) (hx:x∈op.operands) (hy:y∈op.operands)
 (h:∀ (ρ:Operand→Value) (o:Oper) (β:List Nat) (w:World),o.op=op→X.holds β (ρ x) w→Y.holds β (ρ y) w→∃ v,(execOp ρ o).run Tryz.prog w = .ok (.value v) w∧r.holds β v w)
 (hg:Ok Tryz.prog f w00 Out (cI Tryz.prog 1000 (c.give r))):Ok Tryz.prog f w00 Out c:=by
 simp only [Prod.mk.injEq] at hc
 obtain ⟨h1,h2,h3,h4⟩:=hc
 rw [Option.map_eq_some_iff] at h1
 obtain ⟨o,ho,ho2⟩:=h1
 refine Ok.op o r ho h2 (fun β ρ w _ _ hs => .inl ?_) (Ok.go (by kernel_rfl) kr_ok 1000 hg)
 obtain ⟨v,e,hv⟩:=h ρ o β w ho2 (by rw [← h3];exact hs x (by rw [ho2];exact hx)) (by rw [← h4];exact hs y (by rw [ho2];exact hy))
 exact ⟨v,w,e,aB _ _,hv⟩
theorem rret {c:Cfg Kr} {fn:Func} {x:AV Kr} (hfn:Tryz.prog.funcs[f]?=some fn) (hc:(x.noPtr,c.res Tryz.prog fn)=(true,some x)):Ok Tryz.prog f w00 (fun v w=>x.holds [] v w) c:=by
 simp only [Prod.mk.injEq] at hc
 exact Ok.ret hfn hc.1 hc.2
end
theorem jL{f:FuncId}{w00:World}{Out:Value→World→Prop}{c:Cfg Kr}(op:Op)(x y:Operand)(X Y r:AV Kr)(h:∀(ρ:Operand→Value)(o:Oper)(β:List Nat)(w:World),o.op=op→X.holds β (ρ x) w→Y.holds β (ρ y) w→∃v,(execOp ρ o).run Tryz.prog w=.ok (.value v) w∧r.holds β v w)(hg:Ok Tryz.prog f w00 Out (cI Tryz.prog 1000 (c.give r)))(hc:(c.op.map fun o=>o.op,c.okT r,c.ev x,c.ev y)=(some op,true,X,Y):=by kernel_rfl)(hx:x∈op.operands:=by simp [Op.operands,Call.operands])(hy:y∈op.operands:=by simp [Op.operands,Call.operands]):Ok Tryz.prog f w00 Out c:=pB op x y X Y r hc hx hy h hg
theorem jB{f:FuncId}{w00:World}{Out:Value→World→Prop}{c:Cfg Kr}(fn:FuncId)(args:List (AV Kr)){x:AV Kr}(h:jF fn args x)(hg:Ok Tryz.prog f w00 Out (cI Tryz.prog 1000 (c.give x)))(hc:(c.callee Tryz.prog,c.args Tryz.prog,c.okT x)=(some fn,args,true):=by kernel_rfl)(hfn:∀(args:Array Value)(w:World),(callFunc fn args).run Tryz.prog w=.ok (.enter fn args) w:=by intro _ _;kernel_rfl):Ok Tryz.prog f w00 Out c:=rcall fn args h hc hfn hg
theorem jS{f:FuncId}{w00:World}{c:Cfg Kr}{fn:Func}{x:AV Kr}(hfn:Tryz.prog.funcs[f]?=some fn)(hc:(x.noPtr,c.res Tryz.prog fn)=(true,some x):=by kernel_rfl):Ok Tryz.prog f w00 (fun v w=>x.holds [] v w) c:=rret hfn hc
theorem jT{f:FuncId}{fn:Func}{args:List (AV Kr)}{x:AV Kr}(hfn:Tryz.prog.funcs[f]?=some fn)(h:∀w00,Ok Tryz.prog f w00 (fun v w=>x.holds [] v w) (cI Tryz.prog 1000 (nW fn args)))(hc:(fn.body.isSome,decide (args.length≤fn.ntmps),x.noPtr,args.all AV.noPtr)=(true,true,true,true):=by kernel_rfl):jF f args x:=rgo hfn hc h
theorem beq_run {o:Oper} {ρ:Operand→Value} {w:World} {x y:Operand} {a b:Bool} (ho:o.op = .binOp .eql 4 x y 4) (hx:ρ x = .bool a) (hy:ρ y = .bool b):(execOp ρ o).run Tryz.prog w = .ok (.value (.bool (a==b))) w:=by
 simp only [execOp,ho,hx,hy]
 refine bH ?_
 cases a <;> cases b <;> exact bL (by kernel_rfl) w
theorem bne_run {o:Oper} {ρ:Operand→Value} {w:World} {x y:Operand} {a b:Bool} (ho:o.op = .binOp .neq 4 x y 4) (hx:ρ x = .bool a) (hy:ρ y = .bool b):(execOp ρ o).run Tryz.prog w = .ok (.value (.bool (a != b))) w:=by
 simp only [execOp,ho,hx,hy]
 refine bH ?_
 cases a <;> cases b <;> exact bL (by kernel_rfl) w
abbrev Bd (a:Nat):Prop:=a<B9^1099511627776
theorem mulF {a b:Nat} (ha:Bd a) (hb:Bd b):jF 160 [di a,di b] (di (a*b)):=by
 intro β w vs hv
 obtain ⟨v,u,rfl,h1,h2⟩:=eF hv
 obtain ⟨A,n,c,xs,rfl,hr,hd,hn,rfl⟩:=bI.1 h1
 obtain ⟨A',n',c',ys,rfl,hr',hd',hn',rfl⟩:=bI.1 h2
 have hl:n≤1099511627776:=by rw [← hr.len];exact aW eD hn ha
 have hl' : n'≤1099511627776:=by rw [← hr'.len];exact aW eD hn' hb
 exact (kT A n c xs A' n' c' ys w hr hr' hd hd' (by omega) (by omega)).mono fun e w' ⟨v,e1,e2,e3⟩=>⟨v,e1,e3,bI.2 e2⟩
theorem jP {b:Bool} {a:Nat}:jF 156 [rb b,di a] (iz (iV b a)):=by
 intro β w vs hv
 obtain ⟨v,u,rfl,h1,h2⟩:=eF hv
 rw [bD h1]
 obtain ⟨A,n,c,xs,rfl,hr,hd,hn,rfl⟩:=bI.1 h2
 exact (jJ b A n c xs w hr hd).mono fun e w' ⟨v,e1,e2,e3⟩=>⟨v,e1,e3,lX.2 e2⟩
theorem signedRF {b:Bool} {a:Nat}:jF 156 [rb b,ru a] (iz (iV b a)):=by
 intro β w vs hv
 obtain ⟨v,u,rfl,h1,h2⟩:=eF hv
 rw [bD h1]
 obtain ⟨A,n,c,xs,rfl,hr,hd,rfl⟩:=ru_holds.1 h2
 exact (jJ b A n c xs w hr hd).mono fun e w' ⟨v,e1,e2,e3⟩=>⟨v,e1,e3,lX.2 e2⟩
theorem sgz_mul (a b:Int):iV (decide (a<0) != decide (b<0)) (a.natAbs*b.natAbs)=a*b:=by
 have ha:a=if decide (a<0) then -(a.natAbs:Int) else (a.natAbs:Int):=by split <;> simp_all <;> omega
 have hb:b=if decide (b<0) then -(b.natAbs:Int) else (b.natAbs:Int):=by split <;> simp_all <;> omega
 generalize decide (a<0)=na at *
 generalize decide (b<0)=nb at *
 generalize a.natAbs=x at *
 generalize b.natAbs=y at *
 subst ha
 subst hb
 cases na <;> cases nb <;> simp [iV,Int.neg_mul,Int.mul_neg]
theorem timesZ {a b:Int} (ha:Bd a.natAbs) (hb:Bd b.natAbs):jF 98 [iz a,iz b] (iz (a*b)):=by
 refine jT Tryz.func98 fun w00=>?_
 refine jL (.binOp .neq 4 (.tmp 6) (.tmp 8) 4) (.tmp 6) (.tmp 8) (rb (decide (a<0))) (rb (decide (b<0))) (rb (decide (a<0) != decide (b<0))) (fun ρ o β w ho hx hy=>⟨_,bne_run ho (bD hx) (bD hy),dC⟩) ?_
 refine jB 160 [di a.natAbs,di b.natAbs] (mulF ha hb) ?_
 refine jB 156 [rb (decide (a<0) != decide (b<0)),di (a.natAbs*b.natAbs)] (by have := @jP (decide (a<0) != decide (b<0)) (a.natAbs*b.natAbs);rw [sgz_mul] at this;exact this) ?_
 exact jS Tryz.func98
end Ab
section
open Go.RowKit Pl
theorem text_in (v:Value) (z:Int) (w:World) (h:In w v z) (hz:z.natAbs<B9^100000000):Calls Tryz.prog 148 #[v] w fun e w'=>e = .returned (.string (aZ z))∧Below w.heap.size w w':=by
 obtain ⟨A,n,c,xs,rfl,hr,hd,hn,hv⟩:=h
 have hl:n≤100000000:=by rw [← hr.len];exact aW eD hn (by rw [hv];exact hz)
 refine (text_raw _ A n c xs w hr hd hn hl).mono ?_
 rintro e w' ⟨rfl,hb⟩
 refine ⟨?_,hb⟩
 congr 2
 unfold aZ
 rw [hv]
 by_cases h0:z<0
 ·have h1:0<n:=by
   refine Nat.pos_of_ne_zero fun he=>?_
   have:=(Norm.zero_iff cJ hn).2 (List.eq_nil_of_length_eq_zero (by rw [hr.len];exact he))
   omega
  simp [h0,h1]
 ·simp [h0]
theorem dG (z:Int):aZ z=Ab.writeB (z:Rat):=by
 unfold aZ Ab.writeB Ab.overB
 rw [if_pos (Rat.den_intCast z),Rat.num_intCast]
theorem fromInt_any (z:Int) (w:World) (hz:-9223372036854775808≤z∧z≤9223372036854775807):Calls Tryz.prog 92 #[.int .i64 z] w fun e w'=>e = .returned (.string (Ab.writeB (z:Rat)))∧Below w.heap.size w w':=by
 have HZ:=aH hz
 clear hz
 go_enter Tryz.func92,Tryz.ntmps92
 go_wp2_with fail
 refine (zQ z _ HZ.out).mono ?_
 rintro e w2 ⟨v,rfl,q,b⟩
 have Q:=aH (aI q b)
 clear q b
 go_wp2_with fail
 refine (text_in v z _ Q.out.1 ?_).mono ?_
 ·obtain ⟨n,hn⟩:∃ n,n=100000000:=⟨_,rfl⟩
  rw [← hn]
  have h3:B9^3≤B9^n:=Nat.pow_le_pow_right cJ (by omega)
  have h5:B9^3=1000000000000000000000000000:=rfl
  rw [h5] at h3
  have:=HZ.out
  refine Nat.lt_of_lt_of_le ?_ h3
  omega
 rintro e w3 ⟨rfl,b⟩
 have B:=aH (Below.step_trans Q.out.2 b)
 clear b
 go_wp2
 go_ret
 exact ⟨by rw [dG];rfl,B.out⟩
end
namespace Ab
open Go.RowKit Pl
theorem xN {z:Int} (hz:wX z):jF 92 [it z] (tx (writeB (z:Rat))):=by
 intro β w vs hv
 obtain ⟨v,rfl,h1⟩:=dL hv
 rw [aO h1]
 exact (fromInt_any z w hz).mono fun e w' ⟨e1,e2⟩=>⟨_,e1,e2,bK⟩
theorem intsF {a b c:Int} (ha:wX a) (hb:wX b) (hc:wX c):jF 36 [it a,it b,it c] (vS a b c):=by
 refine jG Tryz.func36 fun w00=>?_
 refine jC 92 [it a] (xN ha) ?_
 refine jC 92 [it b] (xN hb) ?_
 refine jC 92 [it c] (xN hc) ?_
 exact jR Tryz.func36
theorem dA {a b c:Int} (ha:wX a) (hb:wX b) (hc:wX c):jF 11 [it a,it b,it c] (vS a b c):=by
 refine jG Tryz.func11 fun w00=>?_
 refine jC 36 [it a,it b,it c] (intsF ha hb hc) ?_
 exact jR Tryz.func11
theorem lawFrameF:jF 22 [] (iI (1:Int) (0:Int) (0:Int) (3:Int) (4:Int) (0:Int) (-4:Int) (3:Int) (0:Int) (0:Int) (0:Int) (5:Int)):=by
 refine jG Tryz.func22 fun w00=>?_
 refine jC 11 [it 1,it 0,it 0] (dA (by constructor <;> omega) (by constructor <;> omega) (by constructor <;> omega)) ?_
 refine jC 11 [it 3,it 4,it 0] (dA (by constructor <;> omega) (by constructor <;> omega) (by constructor <;> omega)) ?_
 refine jC 11 [it (-4),it 3,it 0] (dA (by constructor <;> omega) (by constructor <;> omega) (by constructor <;> omega)) ?_
 refine jC 11 [it 0,it 0,it 5] (dA (by constructor <;> omega) (by constructor <;> omega) (by constructor <;> omega)) ?_
 exact jR Tryz.func22
end Ab
namespace Ab
open Go.RowKit Pl
abbrev rl (b:Bool):AV Kr := .fv (.sc (.lit (.bool b)))
abbrev rI (n:Int):AV Kr := .fv (.sc (.sp (gZ (.int .i64 n) rfl false (fun h=>by cases h))))
theorem eL {v:Value} (h:v.oneCell'=true) {β:List Nat} {w:World}:(AV.fv (.sc (.lit v)):AV Kr).holds β v w:=⟨rfl,h⟩
theorem bZ {v u:Value} {β:List Nat} {w:World} (k:(AV.fv (.sc (.lit v)):AV Kr).holds β u w):u=v:=by have:=k.1;injection this
theorem addF {a b:Nat} (ha:Bd a) (hb:Bd b):jF 157 [di a,di b] (ru (a+b)):=by
 intro β w vs hv
 obtain ⟨v,u,rfl,h1,h2⟩:=eF hv
 obtain ⟨A,n,c,xs,rfl,hr,hd,hn,rfl⟩:=bI.1 h1
 obtain ⟨A',n',c',ys,rfl,hr',hd',hn',rfl⟩:=bI.1 h2
 have hl:n≤1099511627776:=by rw [← hr.len];exact aW eD hn ha
 have hl' : n'≤1099511627776:=by rw [← hr'.len];exact aW eD hn' hb
 refine (yB A n c xs A' n' c' ys w hr hr' hd hd' (by omega) (by omega)).mono ?_
 rintro e w' ⟨A2,n2,c2,zs,rfl,h1,h2,h3,h4⟩
 exact ⟨_,rfl,h4,ru_holds.2 ⟨A2,n2,c2,zs,rfl,h1,h2,h3⟩⟩
theorem subF {a b:Nat} (ha:Bd a) (hle:b≤a):jF 159 [di a,di b] (di (a-b)):=by
 intro β w vs hv
 obtain ⟨v,u,rfl,h1,h2⟩:=eF hv
 obtain ⟨A,n,c,xs,rfl,hr,hd,hn,rfl⟩:=bI.1 h1
 obtain ⟨A',n',c',ys,rfl,hr',hd',hn',rfl⟩:=bI.1 h2
 have hl:n≤1099511627776:=by rw [← hr.len];exact aW eD hn ha
 have hl' : n'≤n:=by
  rcases Nat.lt_or_ge n n' with e|e
  ·have:=dE eD hd hn' (by rw [hr.len,hr'.len];exact e)
   omega
  ·exact e
 exact (yC A n c xs A' n' c' ys w hr hr' hd hd' (by omega) hl' hle).mono fun e w' ⟨v,e1,e2,e3⟩=>⟨v,e1,e3,bI.2 e2⟩
theorem compareF {a b:Nat}:jF 158 [di a,di b] (rI (bS a b)):=by
 intro β w vs hv
 obtain ⟨v,u,rfl,h1,h2⟩:=eF hv
 obtain ⟨A,n,c,xs,rfl,hr,hd,hn,rfl⟩:=bI.1 h1
 obtain ⟨A',n',c',ys,rfl,hr',hd',hn',rfl⟩:=bI.1 h2
 exact (eK A n c xs A' n' c' ys w hr hr' hd hd' hn hn').mono fun e w' ⟨e1,e2⟩=>⟨_,e1,e2,dC⟩
theorem divF {a b:Nat} (ha:Bd a) (hb:0<b):jF 155 [di a,di b] (.tup [.sc (.sp (xM (a/b))),.sc (.sp (xM (a%b)))]):=by
 intro β w vs hv
 obtain ⟨v,u,rfl,h1,h2⟩:=eF hv
 refine (rT (bI.1 h1) (bI.1 h2) ha hb).mono ?_
 rintro e w' ⟨v1,v2,rfl,q1,q2,q3⟩
 exact ⟨_,rfl,q3,[v1,v2],rfl,v1,[v2],rfl,⟨v1,rfl,q1⟩,v2,[],rfl,⟨v2,rfl,q2⟩,rfl⟩
theorem rV {a b:Nat} (ha:Bd a) (hb:Bd b):jF 115 [di a,di b] (di (Nat.gcd a b)):=by
 intro β w vs hv
 obtain ⟨v,u,rfl,h1,h2⟩:=eF hv
 exact (common_any v u a b w (bI.1 h1) (bI.1 h2) ha hb).mono fun e w' ⟨v,e1,e2,e3⟩=>⟨v,e1,e3,bI.2 e2⟩
theorem textF {z:Int} (hz:z.natAbs<B9^100000000):jF 148 [iz z] (rS (aZ z)):=by
 intro β w vs hv
 obtain ⟨v,rfl,h1⟩:=dL hv
 exact (text_in v z w (lX.1 h1) hz).mono fun e w' ⟨e1,e2⟩=>⟨_,e1,e2,dC⟩
theorem geq_run {o:Oper} {ρ:Operand→Value} {w:World} {x y:Operand} {a b:Int} {r:Bool} (ho:o.op = .binOp .geq 3 x y 3) (hx:ρ x = .int .i64 a) (hy:ρ y = .int .i64 b) (h:decide (b≤a)=r) :
 (execOp ρ o).run Tryz.prog w = .ok (.value (.bool r)) w:=by
 simp only [execOp,ho,hx,hy]
 refine bH ?_
 rw [← h]
 exact bL (by kernel_rfl) w
theorem sgz_val (a:Int):a=iV (decide (a<0)) a.natAbs:=by unfold iV;split <;> simp_all <;> omega
theorem plusZ {a b:Int} (ha:Bd a.natAbs) (hb:Bd b.natAbs):jF 97 [iz a,iz b] (iz (a+b)):=by
 by_cases hs:decide (a<0)=decide (b<0)
 ·have hsum:iV (decide (a<0)) (a.natAbs+b.natAbs)=a+b:=by
   have h1:=sgz_val a
   have h2:=sgz_val b
   rw [← hs] at h2
   generalize decide (a<0)=na at *
   generalize a.natAbs=x at *
   generalize b.natAbs=y at *
   rw [h1,h2]
   cases na <;> simp [iV] <;> omega
  refine jT Tryz.func97 fun w00=>?_
  refine jL (.binOp .eql 4 (.tmp 6) (.tmp 8) 4) (.tmp 6) (.tmp 8) (rb (decide (a<0))) (rb (decide (b<0))) (rl true) (fun ρ o β w ho hx hy=>⟨.bool true,by have:=beq_run (w:=w) ho (bD hx) (bD hy);rw [hs] at this;simpa using this,eL rfl⟩) ?_
  refine jB 157 [di a.natAbs,di b.natAbs] (addF ha hb) ?_
  refine jB 156 [rb (decide (a<0)),ru (a.natAbs+b.natAbs)] (by have := @signedRF (decide (a<0)) (a.natAbs+b.natAbs);rw [hsum] at this;exact this) ?_
  exact jS Tryz.func97
 ·have hne:(decide (a<0)==decide (b<0))=false:=by simpa using hs
  by_cases hle:b.natAbs≤a.natAbs
  ·have hsum:iV (decide (a<0)) (a.natAbs-b.natAbs)=a+b:=by
    unfold iV;split <;> simp_all <;> omega
   have hc:decide ((0:Int)≤bS a.natAbs b.natAbs)=true:=by unfold bS;rw [decide_eq_true_iff,if_neg (by omega)];split <;> omega
   refine jT Tryz.func97 fun w00=>?_
   refine jL (.binOp .eql 4 (.tmp 6) (.tmp 8) 4) (.tmp 6) (.tmp 8) (rb (decide (a<0))) (rb (decide (b<0))) (rl false) (fun ρ o β w ho hx hy=>⟨.bool false,by have:=beq_run (w:=w) ho (bD hx) (bD hy);rw [hne] at this;exact this,eL rfl⟩) ?_
   refine jB 158 [di a.natAbs,di b.natAbs] compareF ?_
   refine jL (.binOp .geq 3 (.tmp 22) (.const (.int .i64 0)) 3) (.tmp 22) (.const (.int .i64 0)) (rI (bS a.natAbs b.natAbs)) (.fv (.sc (.lit (.int .i64 0)))) (rl true) (fun ρ o β w ho hx hy=>⟨.bool true,geq_run ho (bD hx) (bZ hy) hc,eL rfl⟩) ?_
   refine jB 159 [di a.natAbs,di b.natAbs] (subF ha hle) ?_
   refine jB 156 [rb (decide (a<0)),di (a.natAbs-b.natAbs)] (by have := @jP (decide (a<0)) (a.natAbs-b.natAbs);rw [hsum] at this;exact this) ?_
   exact jS Tryz.func97
  ·have hsum:iV (decide (b<0)) (b.natAbs-a.natAbs)=a+b:=by
    unfold iV;split <;> simp_all <;> omega
   have hc:decide ((0:Int)≤bS a.natAbs b.natAbs)=false:=by unfold bS;rw [decide_eq_false_iff_not,if_pos (by omega)];omega
   refine jT Tryz.func97 fun w00=>?_
   refine jL (.binOp .eql 4 (.tmp 6) (.tmp 8) 4) (.tmp 6) (.tmp 8) (rb (decide (a<0))) (rb (decide (b<0))) (rl false) (fun ρ o β w ho hx hy=>⟨.bool false,by have:=beq_run (w:=w) ho (bD hx) (bD hy);rw [hne] at this;exact this,eL rfl⟩) ?_
   refine jB 158 [di a.natAbs,di b.natAbs] compareF ?_
   refine jL (.binOp .geq 3 (.tmp 22) (.const (.int .i64 0)) 3) (.tmp 22) (.const (.int .i64 0)) (rI (bS a.natAbs b.natAbs)) (.fv (.sc (.lit (.int .i64 0)))) (rl false) (fun ρ o β w ho hx hy=>⟨.bool false,geq_run ho (bD hx) (bZ hy) hc,eL rfl⟩) ?_
   refine jB 159 [di b.natAbs,di a.natAbs] (subF hb (by omega)) ?_
   refine jB 156 [rb (decide (b<0)),di (b.natAbs-a.natAbs)] (by have := @jP (decide (b<0)) (b.natAbs-a.natAbs);rw [hsum] at this;exact this) ?_
   exact jS Tryz.func97
abbrev pz (d:Nat):AV Kr := .fv (.ag [.lit (.bool false),.sp (xM d)])
theorem qJ {o:Oper} {ρ:Operand→Value} {w:World} {t:Tmp} {A:Option Addr} {n c:Nat} (ho:o.op = .call ⟨.builtin .len,#[.tmp t],#[141]⟩) (hx:ρ (.tmp t) = .slice A n c) :
 (execOp ρ o).run Tryz.prog w = .ok (.value (.int .i64 n)) w:=by
 have hm:(#[Operand.tmp t].map ρ) = #[.slice A n c]:=by simp [hx]
 simp only [execOp,ho,resolve,Sem.run_bind,Sem.run_pure,Result.andThen,hm,invoke,builtin,Builtin.len_]
 simp [Sem.run_bind,run_underlying Tryz.underlying141,Result.andThen,goInt,Builtin.lenOf]
theorem rW {o:Oper} {ρ:Operand→Value} {w:World} {t:Tmp} {ad:Addr} {n c:Nat} (ho:o.op = .indexAddr 141 (.tmp t) (.const (.int .i64 0))) (hx:ρ (.tmp t) = .slice (some ad) n c) (hy:ρ (.const (.int .i64 0)) = .int .i64 0) (hn:0<n) :
 (execOp ρ o).run Tryz.prog w = .ok (.value (.pointer (some ad))) w:=by
 simp only [execOp,ho,hx,hy]
 refine bH ?_
 have h0:¬ n=0:=by omega
 simp [go_sem,run_underlying Tryz.underlying141,hn,h0]
 done
def csP (x:Nat):CS Kr where
 size:=1
 cold:=true
 pred cs w := ∃ ad:Addr,cs = [.pointer (some ad)]∧w.cell? ad=some (.int .i64 (x:Int))
 stable cs w w' h hx:=by obtain ⟨ad,e,h⟩:=h;exact ⟨ad,e,hx.cell h rfl⟩
 len cs w h:=by obtain ⟨v,e,_⟩:=h;rw [e];rfl
 one cs w h:=by obtain ⟨v,e,_⟩:=h;rw [e];intro d hd;rw [List.mem_singleton] at hd;rw [hd];rfl
 iscold _ cs w h:=by obtain ⟨v,e,_⟩:=h;rw [e];intro d hd;rw [List.mem_singleton] at hd;rw [hd];rfl
def csNe:CS Kr where
 size:=1
 cold:=false
 pred cs _ := ∃ n:Int,cs = [.int .i64 n]∧n≠1
 stable _ _ _ h _:=h
 len cs w h:=by obtain ⟨v,e,_⟩:=h;rw [e];rfl
 one cs w h:=by obtain ⟨v,e,_⟩:=h;rw [e];intro d hd;rw [List.mem_singleton] at hd;rw [hd];rfl
 iscold h:=by cases h
abbrev rP (x:Nat):AV Kr := .fv (.sc (.sp (csP x)))
abbrev rNe:AV Kr := .fv (.sc (.sp csNe))
theorem oB {w:World} {v:Value} {q:Nat} (h:Di w v q) (h0:0<q) (hq:q<B9):∃ ad c,v = .slice (some ad) 1 c∧w.cell? ad=some (.int .i64 (q:Int)):=by
 obtain ⟨A,n,c,xs,rfl,hr,hd,hn,rfl⟩:=h
 have hl:=aW eD hn (L:=1) (by rw [Nat.pow_one];exact hq)
 match xs,hl,hr with
 | [],_,_=>simp [val] at h0
 | [x],_,hr =>
   obtain rfl:n=1:=hr.len.symm
   obtain ⟨ad,y,rfl,_,hy,hc⟩:=hr.at_ (k:=0) (by omega)
   simp at hy
   subst hy
   exact ⟨ad,c,rfl,by simpa [val,Addr.add] using hc⟩
theorem di_more {w:World} {v:Value} {q:Nat} (h:Di w v q) (hq:B9≤q):∃ A n c,v = .slice A n c∧n≠1:=by
 obtain ⟨A,n,c,xs,rfl,hr,hd,hn,rfl⟩:=h
 refine ⟨A,n,c,rfl,fun e=>?_⟩
 have h1:=bU hd
 rw [hr.len,e,Nat.pow_one] at h1
 omega
theorem load_i {o:Oper} {ρ:Operand→Value} {w:World} {t:Tmp} {ad:Addr} {x:Int} (ho:o.op = .load 3 (.tmp t)) (hx:ρ (.tmp t) = .pointer (some ad)) (hc:w.cell? ad=some (.int .i64 x)) :
 (execOp ρ o).run Tryz.prog w = .ok (.value (.int .i64 x)) w:=by
 simp only [execOp,ho,hx]
 refine bH ?_
 simp [go_sem,hc]
theorem gA {o:Oper} {ρ:Operand→Value} {w:World} {x y:Operand} {a b:Int} {r:Bool} (ho:o.op = .binOp .eql 3 x y 3) (hx:ρ x = .int .i64 a) (hy:ρ y = .int .i64 b) (h:(a==b)=r) :
 (execOp ρ o).run Tryz.prog w = .ok (.value (.bool r)) w:=by
 simp only [execOp,ho,hx,hy]
 refine bH ?_
 rw [← h]
 exact bL (by kernel_rfl) w
theorem signedLF {a:Nat}:jF 156 [rl false,di a] (iz (a:Int)):=by
 intro β w vs hv
 obtain ⟨v,u,rfl,h1,h2⟩:=eF hv
 rw [bZ h1]
 have := @jP false a β w [.bool false,u] ⟨_,_,rfl,dC,u,[],rfl,h2,rfl⟩
 simpa [iV] using this
section
variable {n:Int} {d:Nat}
theorem fractionF (hn:Bd n.natAbs) (hd:Bd d) (hd0:0<d) (hp:n.natAbs<B9^100000000) (hq:d<B9^100000000) (hs1:(aZ (iV (decide (n<0)) (n.natAbs/Nat.gcd n.natAbs d))).size≤1000000000) (hs2:(aZ ((d/Nat.gcd n.natAbs d:Nat):Int)).size≤1000000000) :
 jF 96 [iz n,pz d] (rS (if d/Nat.gcd n.natAbs d=1 then aZ (iV (decide (n<0)) (n.natAbs/Nat.gcd n.natAbs d)) else aZ (iV (decide (n<0)) (n.natAbs/Nat.gcd n.natAbs d))++⟨#[47]⟩++aZ ((d/Nat.gcd n.natAbs d:Nat):Int))):=by
 have hg:0<Nat.gcd n.natAbs d:=Nat.gcd_pos_of_pos_right _ hd0
 have hq0:0<d/Nat.gcd n.natAbs d:=Nat.div_pos (Nat.gcd_le_right _ hd0) hg
 have hq1:d/Nat.gcd n.natAbs d≤d:=Nat.div_le_self _ _
 have hp1:(iV (decide (n<0)) (n.natAbs/Nat.gcd n.natAbs d)).natAbs<B9^100000000:=by rw [sgz_abs];exact Nat.lt_of_le_of_lt (Nat.div_le_self _ _) hp
 have hq2:((d/Nat.gcd n.natAbs d:Nat):Int).natAbs<B9^100000000:=by rw [Int.natAbs_natCast];exact Nat.lt_of_le_of_lt hq1 hq
 generalize hG:Nat.gcd n.natAbs d=g at *
 generalize hP:iV (decide (n<0)) (n.natAbs/g)=p at *
 generalize hQ:d/g=q at *
 by_cases h1:q=1
 ·rw [if_pos h1]
  refine jT Tryz.func96 fun w00=>?_
  refine jB 115 [di n.natAbs,di d] (by have:=rV hn hd;rw [hG] at this;exact this) ?_
  refine jB 155 [di n.natAbs,di g] (divF hn hg) ?_
  refine jB 155 [di d,di g] (by have:=divF (a:=d) (b:=g) hd hg;rw [hQ] at this;exact this) ?_
  refine jB 156 [rb (decide (n<0)),di (n.natAbs/g)] (by have := @jP (decide (n<0)) (n.natAbs/g);rw [hP] at this;exact this) ?_
  refine jB 148 [iz p] (textF hp1) ?_
  refine jL (.call ⟨.builtin .len,#[.tmp 41],#[141]⟩) (.tmp 41) (.tmp 41) (di q) (di q) (.fv (.sc (.lit (.int .i64 1)))) (fun ρ o β w ho hx _=>?_) ?_
  ·obtain ⟨ad,c,e,_⟩:=oB (bI.1 hx) hq0 (by rw [h1];exact eD)
   exact ⟨_,qJ ho e,eL rfl⟩
  refine jL (.indexAddr 141 (.tmp 45) (.const (.int .i64 0))) (.tmp 45) (.const (.int .i64 0)) (di q) (.fv (.sc (.lit (.int .i64 0)))) (rP q) (fun ρ o β w ho hx hy=>?_) ?_
  ·obtain ⟨ad,c,e,hc⟩:=oB (bI.1 hx) hq0 (by rw [h1];exact eD)
   exact ⟨_,rW ho e (bZ hy) (by omega),⟨ad,rfl,hc⟩⟩
  refine jL (.load 3 (.tmp 46)) (.tmp 46) (.tmp 46) (rP q) (rP q) (.fv (.sc (.lit (.int .i64 1)))) (fun ρ o β w ho hx _=>?_) ?_
  ·obtain ⟨ad,e,hc⟩:=hx
   injection e with e
   rw [h1] at hc
   exact ⟨_,load_i ho e hc,eL rfl⟩
  exact jS Tryz.func96
 ·rw [if_neg h1]
  have hcat1:(aZ p).size+(⟨#[47]⟩:ByteArray).size≤9223372036854775807:=by
   have:(⟨#[47]⟩:ByteArray).size=1:=rfl
   omega
  have hcat2:(aZ p++⟨#[47]⟩:ByteArray).size+(aZ (q:Int)).size≤9223372036854775807:=by
   have:(⟨#[47]⟩:ByteArray).size=1:=rfl
   rw [ByteArray.size_append]
   omega
  by_cases h2:q<B9
  ·refine jT Tryz.func96 fun w00=>?_
   refine jB 115 [di n.natAbs,di d] (by have:=rV hn hd;rw [hG] at this;exact this) ?_
   refine jB 155 [di n.natAbs,di g] (divF hn hg) ?_
   refine jB 155 [di d,di g] (by have:=divF (a:=d) (b:=g) hd hg;rw [hQ] at this;exact this) ?_
   refine jB 156 [rb (decide (n<0)),di (n.natAbs/g)] (by have := @jP (decide (n<0)) (n.natAbs/g);rw [hP] at this;exact this) ?_
   refine jB 148 [iz p] (textF hp1) ?_
   refine jL (.call ⟨.builtin .len,#[.tmp 41],#[141]⟩) (.tmp 41) (.tmp 41) (di q) (di q) (.fv (.sc (.lit (.int .i64 1)))) (fun ρ o β w ho hx _=>?_) ?_
   ·obtain ⟨ad,c,e,_⟩:=oB (bI.1 hx) hq0 h2
    exact ⟨_,qJ ho e,eL rfl⟩
   refine jL (.indexAddr 141 (.tmp 45) (.const (.int .i64 0))) (.tmp 45) (.const (.int .i64 0)) (di q) (.fv (.sc (.lit (.int .i64 0)))) (rP q) (fun ρ o β w ho hx hy=>?_) ?_
   ·obtain ⟨ad,c,e,hc⟩:=oB (bI.1 hx) hq0 h2
    exact ⟨_,rW ho e (bZ hy) (by omega),⟨ad,rfl,hc⟩⟩
   refine jL (.load 3 (.tmp 46)) (.tmp 46) (.tmp 46) (rP q) (rP q) (rI q) (fun ρ o β w ho hx _=>?_) ?_
   ·obtain ⟨ad,e,hc⟩:=hx
    injection e with e
    exact ⟨_,load_i ho e hc,dC⟩
   refine jL (.binOp .eql 3 (.tmp 47) (.const (.int .i64 1)) 3) (.tmp 47) (.const (.int .i64 1)) (rI q) (.fv (.sc (.lit (.int .i64 1)))) (rl false) (fun ρ o β w ho hx hy=>⟨.bool false,gA ho (bD hx) (bZ hy) (by simp;omega),eL rfl⟩) ?_
   refine jL (.binOp .add 9 (.tmp 51) (.const (.string ⟨#[47]⟩)) 9) (.tmp 51) (.const (.string ⟨#[47]⟩)) (rS (aZ p)) (.fv (.sc (.lit (.string ⟨#[47]⟩)))) (rS (aZ p++⟨#[47]⟩)) (fun ρ o β w ho hx hy=>⟨_,gR ho (bD hx) (bZ hy) hcat1,dC⟩) ?_
   refine jB 156 [rl false,di q] signedLF ?_
   refine jB 148 [iz (q:Int)] (textF hq2) ?_
   refine jL (.binOp .add 9 (.tmp 52) (.tmp 55) 9) (.tmp 52) (.tmp 55) (rS (aZ p++⟨#[47]⟩)) (rS (aZ (q:Int))) (rS (aZ p++⟨#[47]⟩++aZ (q:Int))) (fun ρ o β w ho hx hy=>⟨_,gR ho (bD hx) (bD hy) hcat2,dC⟩) ?_
   exact jS Tryz.func96
  ·refine jT Tryz.func96 fun w00=>?_
   refine jB 115 [di n.natAbs,di d] (by have:=rV hn hd;rw [hG] at this;exact this) ?_
   refine jB 155 [di n.natAbs,di g] (divF hn hg) ?_
   refine jB 155 [di d,di g] (by have:=divF (a:=d) (b:=g) hd hg;rw [hQ] at this;exact this) ?_
   refine jB 156 [rb (decide (n<0)),di (n.natAbs/g)] (by have := @jP (decide (n<0)) (n.natAbs/g);rw [hP] at this;exact this) ?_
   refine jB 148 [iz p] (textF hp1) ?_
   refine jL (.call ⟨.builtin .len,#[.tmp 41],#[141]⟩) (.tmp 41) (.tmp 41) (di q) (di q) rNe (fun ρ o β w ho hx _=>?_) ?_
   ·obtain ⟨A,m,c,e,hm⟩:=di_more (bI.1 hx) (Nat.le_of_not_lt h2)
    exact ⟨_,qJ ho e,⟨(m:Int),rfl,by omega⟩⟩
   refine jL (.binOp .eql 3 (.tmp 42) (.const (.int .i64 1)) 3) (.tmp 42) (.const (.int .i64 1)) rNe (.fv (.sc (.lit (.int .i64 1)))) (rl false) (fun ρ o β w ho hx hy=>?_) ?_
   ·obtain ⟨m,e,hm⟩:=hx
    injection e with e
    exact ⟨.bool false,gA ho e (bZ hy) (by simpa using hm),eL rfl⟩
   refine jL (.binOp .add 9 (.tmp 51) (.const (.string ⟨#[47]⟩)) 9) (.tmp 51) (.const (.string ⟨#[47]⟩)) (rS (aZ p)) (.fv (.sc (.lit (.string ⟨#[47]⟩)))) (rS (aZ p++⟨#[47]⟩)) (fun ρ o β w ho hx hy=>⟨_,gR ho (bD hx) (bZ hy) hcat1,dC⟩) ?_
   refine jB 156 [rl false,di q] signedLF ?_
   refine jB 148 [iz (q:Int)] (textF hq2) ?_
   refine jL (.binOp .add 9 (.tmp 52) (.tmp 55) 9) (.tmp 52) (.tmp 55) (rS (aZ p++⟨#[47]⟩)) (rS (aZ (q:Int))) (rS (aZ p++⟨#[47]⟩++aZ (q:Int))) (fun ρ o β w ho hx hy=>⟨_,gR ho (bD hx) (bD hy) hcat2,dC⟩) ?_
   exact jS Tryz.func96
end
end Ab
section
open Go.RowKit Pl
def zR (w:World) (r r' : ByteArray) (ws:List Nat):Prop :=
 Dig B9 ws∧AllDig (aC r')∧aU (aC r)=val B9 ws+B9^ws.length*aU (aC r')∧r'.size+9*ws.length=r.size
def ParseAt (w:World) (r:ByteArray) (dv wv:Value) (wr:World):Prop :=
 ∃ (r' : ByteArray) (ws:List Nat),dv = .string r'∧wr.ownsRow (w.heap.size+1) 3 1 wv ws.length (ws.map dV)∧Dig B9 ws∧AllDig (aC r')∧aU (aC r)=val B9 ws+B9^ws.length*aU (aC r')∧r'.size+9*ws.length=r.size ∧
   Below w.heap.size w wr∧wr.heap[w.heap.size]?=some (.cells #[.bool false,.slice none 0 0] 143 (0,0))∧w.heap.size<wr.heap.size
set_option maxRecDepth 100000 in
theorem uL (r:ByteArray) (w:World) (hd:AllDig (aC r)) (h0:0<r.size) (hs:r.size≤100000):Calls Tryz.prog 153 #[.string r] w fun e w' => ∃ v,e = .returned v∧In w' v (iV false (aU (aC r)))∧Below w.heap.size w w':=by
 have HD:=aH (aI hd hs)
 have k0:(0:Int)<r.size:=by omega
 obtain ⟨c,hc⟩:∃ c:Nat,(r[0]'h0).toNat=c:=⟨_,rfl⟩
 have k45:((c:Int)==45)=false:=by
  have:=hd _ (List.mem_of_getElem? (cW h0))
  rw [hc] at this
  simp;omega
 clear hd hs
 go_enter Tryz.func153,Tryz.ntmps153
 go_wp2
 clear hc k45
 go_loopw [0,4] (fun dv wv wr=>ParseAt w r dv wv wr) (fun dv _ _=>mO dv)
 case atStart=>exact ⟨r,[],rfl,⟨rfl,.inl ⟨rfl,rfl⟩⟩,Dig.nil _,HD.out.1,by simp [val],by simp,(aB _ _).alloc (aR _) _,heap_alloc_new w _,by simp⟩
 case round =>
  obtain ⟨r',ws,rfl,hrow,hdw,hd',hval,hsz,hb,hh,hs⟩:=hrel
  have hr1:r'.size≤100000:=by have:=HD.out.2;omega
  have hw1:ws.length≤100000:=by have:=HD.out.2;omega
  by_cases h9:9<r'.size
  ·have k1:(9:Int)<r'.size:=by omega
   have k2:(r'.size:Int)≤100000:=by omega
   have hlt:aU (aC (r'.extract (r'.size-9) r'.size))<B9:=by
    have e1:aC (r'.extract (r'.size-9) r'.size)=(aC r').drop (r'.size-9):=by rw [aT,List.take_of_length_le (by rw [aG];exact aR _)]
    rw [e1]
    have h1:=fR (hd'.drop (r'.size-9))
    rw [List.length_drop,aG,show r'.size-(r'.size-9)=9 by omega] at h1
    exact h1
   have hnat:aU (aC r')=aU (aC (r'.extract 0 (r'.size-9)))*B9+aU (aC (r'.extract (r'.size-9) r'.size)):=by
    have e1:aC (r'.extract (r'.size-9) r'.size)=(aC r').drop (r'.size-9):=by rw [aT,List.take_of_length_le (by rw [aG];exact aR _)]
    have e2:aC (r'.extract 0 (r'.size-9))=(aC r').take (r'.size-9):=by rw [aT,List.drop_zero]
    rw [e1,e2]
    conv=>lhs;rw [← List.take_append_drop (r'.size-9) (aC r'),eT]
    rw [List.length_drop,aG,show r'.size-(r'.size-9)=9 by omega]
    rfl
   have cv:=aH (fun W=>lT (r'.extract (r'.size-9) r'.size) W (by rw [aT];exact (hd'.take _).drop _) (by simp;omega))
   obtain ⟨x,hx⟩:∃ x,x=aU (aC (r'.extract (r'.size-9) r'.size)):=⟨_,rfl⟩
   rw [← hx] at cv hlt hnat
   have hnext:zR w r (r'.extract 0 (r'.size-9)) (ws ++ [x]):=by
    refine ⟨hdw.app (Dig.cons hlt (Dig.nil _)),by rw [aT,List.drop_zero];exact hd'.take _,?_,?_⟩
    ·rw [cK,List.length_append,List.length_singleton,Nat.pow_succ,hval,hnat]
     generalize aU (aC (r'.extract 0 (r'.size-9)))=m
     generalize B9^ws.length=P
     generalize B9=V
     grind
    ·rw [List.length_append,List.length_singleton];simp;omega
   have HE:=aH (aI hrow (aI hnext (aI hb (aI hh (aI hs (by omega:ws.length≤2199023255999))))))
   clear hrow hnext hb hh hs hdw hd' hval hsz hlt hnat hx hw1 hr1
   go_wp2_with fail
   refine (cv.out _).mono ?_
   rintro e w' ⟨rfl,rfl⟩
   go_wp2_with (at_builtin;refine fJ (r:=x) (B:=w.heap.size) rfl _ _ rfl rfl HE.out.1 rfl HE.out.2.2.2.2.2 HE.out.2.2.1 (Nat.le_succ _) HE.out.2.2.2.2.1 ?_)
   intro v' w3 hr3 hbw hg3
   have hr3' : w3.ownsRow (w.heap.size+1) 3 1 v' (ws ++ [x]).length ((ws ++ [x]).map dV):=by
    rw [List.length_append,List.length_singleton,List.map_append];exact hr3
   have hh3:w3.heap[w.heap.size]?=some (.cells #[.bool false,.slice none 0 0] 143 (0,0)):=by
    have h2:=(Below.heap_alloc w' (.cells #[.int .i64 (x:Int)] 3) _ HE.out.2.2.2.2.1).trans HE.out.2.2.2.1
    refine fM hg3 h2 ?_
    intro he
    have:=lU HE.out.1 _ he.symm
    omega
   have hs3:w.heap.size<w3.heap.size:=by have:=hg3.size;have:=HE.out.2.2.2.2.1;simp at *;omega
   have HX:=aH (aI hr3' (aI hbw (aI hh3 hs3)))
   clear hr3 hr3' hbw hg3 hh3 hs3
   go_wp2
   go_roundw
   case rel =>
    obtain ⟨h1,h2,h3,h4⟩:=HE.out.2.1
    exact ⟨_,ws ++ [x],rfl,HX.out.1,h1,h2,h3,h4,HX.out.2.1,HX.out.2.2.1,HX.out.2.2.2⟩
   case measure =>
    clear HX HE
    simp [mO];omega
  ·have k1:¬ (9:Int)<r'.size:=by omega
   have cv:=aH (fun W=>lT r' W hd' (by omega))
   have hlt:aU (aC r')<B9:=by
    have h1:=fR hd'
    rw [aG] at h1
    refine Nat.lt_of_lt_of_le h1 ?_
    have:10^r'.size≤10^9:=Nat.pow_le_pow_right (by omega) (by omega)
    exact this
   obtain ⟨x,hx⟩:∃ x,x=aU (aC r'):=⟨_,rfl⟩
   rw [← hx] at cv hlt hval
   have hfin:iV false (val B9 (ws ++ [x]))=iV false (aU (aC r)):=by rw [cK,hval]
   have HE:=aH (aI hrow (aI hfin (aI hb (aI hh (aI hs (aI (by omega:ws.length≤2199023255999) (hdw.app (Dig.cons hlt (Dig.nil _)))))))))
   clear hrow hfin hb hh hs hdw hd' hval hsz hlt hx hw1 hr1 h9
   go_wp2_with fail
   refine (cv.out _).mono ?_
   rintro e w' ⟨rfl,rfl⟩
   go_wp2_with (at_builtin;refine fJ (r:=x) (B:=w.heap.size) rfl _ _ rfl rfl HE.out.1 rfl HE.out.2.2.2.2.2.1 HE.out.2.2.1 (Nat.le_succ _) HE.out.2.2.2.2.1 ?_)
   intro v' w3 hr3 hbw hg3
   have hr3' : w3.ownsRow (w.heap.size+1) 3 1 v' (ws.length+1) ((ws ++ [x]).map dV):=by
    rw [List.map_append];exact hr3
   obtain ⟨A3,c3,rfl,hri⟩:=vF hr3'
   have hh3:w3.heap[w.heap.size]?=some (.cells #[.bool false,.slice none 0 0] 143 (0,0)):=by
    have h2:=(Below.heap_alloc w' (.cells #[.int .i64 (x:Int)] 3) _ HE.out.2.2.2.2.1).trans HE.out.2.2.2.1
    refine fM hg3 h2 ?_
    intro he
    have:=lU HE.out.1 _ he.symm
    omega
   have hs3:w.heap.size<w3.heap.size:=by have:=hg3.size;have:=HE.out.2.2.2.2.1;simp at *;omega
   have HX:=aH (aI hri (aI hbw (aI hh3 hs3)))
   clear hr3 hr3' hbw hg3 hh3 hs3 hri
   go_wp2_with fail
   refine (jJ false A3 _ c3 (ws ++ [x]) _ HX.out.1 HE.out.2.2.2.2.2.2).mono ?_
   rintro e w2 ⟨v,rfl,q,b⟩
   rw [HE.out.2.1] at q
   have hh2:w2.heap[w.heap.size]?=some (.cells #[.bool false,.slice none 0 0] 143 (0,0)):=(b.block _ HX.out.2.2.2).trans HX.out.2.2.1
   have hb2:Below w.heap.size w w2:=HX.out.2.1.trans (b.mono (Nat.le_of_lt HX.out.2.2.2))
   obtain ⟨A',n',c',xs',rfl,q'⟩:=id q
   have Q:=aH (aI q (aI hh2 hb2))
   clear q q' b hh2 hb2
   obtain ⟨⟨b0,b1⟩,f0,f1⟩:=zP Q.out.2.1
   go_wp2
   obtain ⟨q,hh2,hb2⟩:=Q.out
   obtain ⟨⟨g0,g1⟩,_⟩:=zP (tH hh2 (x := .bool (decide (iV false (aU (aC r))<0))) (y := .slice A' n' c'))
   refine bodyPost_ret (v := .agg #[.bool (decide (iV false (aU (aC r))<0)),.slice A' n' c']) (by simp [results,Tryz.results153,go_sem,g0,g1]) rfl ⟨_,rfl,q.set2 hh2 (fun n h=>by cases h) (fun n h=>by cases h),?_⟩
   exact (hb2.setCell (p:=⟨w.heap.size,0,none⟩) (aR _) _).setCell (p:=⟨w.heap.size,1,none⟩) (aR _) _
set_option maxRecDepth 100000 in
theorem parse_minus (r : ByteArray) (w : World) (hd:AllDig (aC r)) (hs:r.size≤100000):Calls Tryz.prog 153 #[.string (⟨#[45]⟩++r)] w fun e w' => ∃ v,e = .returned v∧In w' v (iV true (aU (aC r)))∧Below w.heap.size w w':=by
 have HD:=aH (aI hd hs)
 obtain ⟨s,hs'⟩:∃ s,s=(⟨#[45]⟩++r:ByteArray):=⟨_,rfl⟩
 have hsz : s.size = r.size + 1 := by rw [hs',ByteArray.size_append];have:(⟨#[45]⟩:ByteArray).size=1:=rfl
                                      omega
 have h0:0<s.size:=by omega
 have k0:(0:Int)<s.size:=by omega
 have k1:(s.size:Int)≤100001:=by omega
 have hbs:aC s=45::aC r:=by rw [hs'];simp [aC]
 have hc:(s[0]'h0).toNat=45:=by
  have h1:=cW h0
  rw [hbs] at h1
  simp at h1
  rw [← h1];rfl
 have hext:s.extract 1 (r.size+1)=r:=by
  subst hs'
  apply Ab.ba_ext
  simp [hsz]
  exact List.take_of_length_le (Nat.le_of_eq rfl)
 rw [← hs']
 clear hd hs hs' hbs
 go_enter Tryz.func153,Tryz.ntmps153
 go_wp2
 try rw [hext]
 clear hc hext
 go_loopw [0,4] (fun dv wv wr=>ParseAt w r dv wv wr) (fun dv _ _=>mO dv)
 case atStart=>exact ⟨r,[],rfl,⟨rfl,.inl ⟨rfl,rfl⟩⟩,Dig.nil _,HD.out.1,by simp [val],by simp,(aB _ _).alloc (aR _) _,heap_alloc_new w _,by simp⟩
 case round =>
  obtain ⟨r',ws,rfl,hrow,hdw,hd',hval,hsz,hb,hh,hs⟩:=hrel
  have hr1:r'.size≤100000:=by have:=HD.out.2;omega
  have hw1:ws.length≤100000:=by have:=HD.out.2;omega
  by_cases h9:9<r'.size
  ·have k1:(9:Int)<r'.size:=by omega
   have k2:(r'.size:Int)≤100000:=by omega
   have hlt:aU (aC (r'.extract (r'.size-9) r'.size))<B9:=by
    have e1:aC (r'.extract (r'.size-9) r'.size)=(aC r').drop (r'.size-9):=by rw [aT,List.take_of_length_le (by rw [aG];exact aR _)]
    rw [e1]
    have h1:=fR (hd'.drop (r'.size-9))
    rw [List.length_drop,aG,show r'.size-(r'.size-9)=9 by omega] at h1
    exact h1
   have hnat:aU (aC r')=aU (aC (r'.extract 0 (r'.size-9)))*B9+aU (aC (r'.extract (r'.size-9) r'.size)):=by
    have e1:aC (r'.extract (r'.size-9) r'.size)=(aC r').drop (r'.size-9):=by rw [aT,List.take_of_length_le (by rw [aG];exact aR _)]
    have e2:aC (r'.extract 0 (r'.size-9))=(aC r').take (r'.size-9):=by rw [aT,List.drop_zero]
    rw [e1,e2]
    conv=>lhs;rw [← List.take_append_drop (r'.size-9) (aC r'),eT]
    rw [List.length_drop,aG,show r'.size-(r'.size-9)=9 by omega]
    rfl
   have cv:=aH (fun W=>lT (r'.extract (r'.size-9) r'.size) W (by rw [aT];exact (hd'.take _).drop _) (by simp;omega))
   obtain ⟨x,hx⟩:∃ x,x=aU (aC (r'.extract (r'.size-9) r'.size)):=⟨_,rfl⟩
   rw [← hx] at cv hlt hnat
   have hnext:zR w r (r'.extract 0 (r'.size-9)) (ws ++ [x]):=by
    refine ⟨hdw.app (Dig.cons hlt (Dig.nil _)),by rw [aT,List.drop_zero];exact hd'.take _,?_,?_⟩
    ·rw [cK,List.length_append,List.length_singleton,Nat.pow_succ,hval,hnat]
     generalize aU (aC (r'.extract 0 (r'.size-9)))=m
     generalize B9^ws.length=P
     generalize B9=V
     grind
    ·rw [List.length_append,List.length_singleton];simp;omega
   have HE:=aH (aI hrow (aI hnext (aI hb (aI hh (aI hs (by omega:ws.length≤2199023255999))))))
   clear hrow hnext hb hh hs hdw hd' hval hsz hlt hnat hx hw1 hr1
   go_wp2_with fail
   refine (cv.out _).mono ?_
   rintro e w' ⟨rfl,rfl⟩
   go_wp2_with (at_builtin;refine fJ (r:=x) (B:=w.heap.size) rfl _ _ rfl rfl HE.out.1 rfl HE.out.2.2.2.2.2 HE.out.2.2.1 (Nat.le_succ _) HE.out.2.2.2.2.1 ?_)
   intro v' w3 hr3 hbw hg3
   have hr3' : w3.ownsRow (w.heap.size+1) 3 1 v' (ws ++ [x]).length ((ws ++ [x]).map dV):=by
    rw [List.length_append,List.length_singleton,List.map_append];exact hr3
   have hh3:w3.heap[w.heap.size]?=some (.cells #[.bool false,.slice none 0 0] 143 (0,0)):=by
    have h2:=(Below.heap_alloc w' (.cells #[.int .i64 (x:Int)] 3) _ HE.out.2.2.2.2.1).trans HE.out.2.2.2.1
    refine fM hg3 h2 ?_
    intro he
    have:=lU HE.out.1 _ he.symm
    omega
   have hs3:w.heap.size<w3.heap.size:=by have:=hg3.size;have:=HE.out.2.2.2.2.1;simp at *;omega
   have HX:=aH (aI hr3' (aI hbw (aI hh3 hs3)))
   clear hr3 hr3' hbw hg3 hh3 hs3
   go_wp2
   go_roundw
   case rel =>
    obtain ⟨h1,h2,h3,h4⟩:=HE.out.2.1
    exact ⟨_,ws ++ [x],rfl,HX.out.1,h1,h2,h3,h4,HX.out.2.1,HX.out.2.2.1,HX.out.2.2.2⟩
   case measure =>
    clear HX HE
    simp [mO];omega
  ·have k1:¬ (9:Int)<r'.size:=by omega
   have cv:=aH (fun W=>lT r' W hd' (by omega))
   have hlt:aU (aC r')<B9:=by
    have h1:=fR hd'
    rw [aG] at h1
    refine Nat.lt_of_lt_of_le h1 ?_
    have:10^r'.size≤10^9:=Nat.pow_le_pow_right (by omega) (by omega)
    exact this
   obtain ⟨x,hx⟩:∃ x,x=aU (aC r'):=⟨_,rfl⟩
   rw [← hx] at cv hlt hval
   have hfin:iV true (val B9 (ws ++ [x]))=iV true (aU (aC r)):=by rw [cK,hval]
   have HE:=aH (aI hrow (aI hfin (aI hb (aI hh (aI hs (aI (by omega:ws.length≤2199023255999) (hdw.app (Dig.cons hlt (Dig.nil _)))))))))
   clear hrow hfin hb hh hs hdw hd' hval hsz hlt hx hw1 hr1 h9
   go_wp2_with fail
   refine (cv.out _).mono ?_
   rintro e w' ⟨rfl,rfl⟩
   go_wp2_with (at_builtin;refine fJ (r:=x) (B:=w.heap.size) rfl _ _ rfl rfl HE.out.1 rfl HE.out.2.2.2.2.2.1 HE.out.2.2.1 (Nat.le_succ _) HE.out.2.2.2.2.1 ?_)
   intro v' w3 hr3 hbw hg3
   have hr3' : w3.ownsRow (w.heap.size+1) 3 1 v' (ws.length+1) ((ws ++ [x]).map dV):=by
    rw [List.map_append];exact hr3
   obtain ⟨A3,c3,rfl,hri⟩:=vF hr3'
   have hh3:w3.heap[w.heap.size]?=some (.cells #[.bool false,.slice none 0 0] 143 (0,0)):=by
    have h2:=(Below.heap_alloc w' (.cells #[.int .i64 (x:Int)] 3) _ HE.out.2.2.2.2.1).trans HE.out.2.2.2.1
    refine fM hg3 h2 ?_
    intro he
    have:=lU HE.out.1 _ he.symm
    omega
   have hs3:w.heap.size<w3.heap.size:=by have:=hg3.size;have:=HE.out.2.2.2.2.1;simp at *;omega
   have HX:=aH (aI hri (aI hbw (aI hh3 hs3)))
   clear hr3 hr3' hbw hg3 hh3 hs3 hri
   go_wp2_with fail
   refine (jJ true A3 _ c3 (ws ++ [x]) _ HX.out.1 HE.out.2.2.2.2.2.2).mono ?_
   rintro e w2 ⟨v,rfl,q,b⟩
   rw [HE.out.2.1] at q
   have hh2:w2.heap[w.heap.size]?=some (.cells #[.bool false,.slice none 0 0] 143 (0,0)):=(b.block _ HX.out.2.2.2).trans HX.out.2.2.1
   have hb2:Below w.heap.size w w2:=HX.out.2.1.trans (b.mono (Nat.le_of_lt HX.out.2.2.2))
   obtain ⟨A',n',c',xs',rfl,q'⟩:=id q
   have Q:=aH (aI q (aI hh2 hb2))
   clear q q' b hh2 hb2
   obtain ⟨⟨b0,b1⟩,f0,f1⟩:=zP Q.out.2.1
   go_wp2
   obtain ⟨q,hh2,hb2⟩:=Q.out
   obtain ⟨⟨g0,g1⟩,_⟩:=zP (tH hh2 (x := .bool (decide (iV true (aU (aC r))<0))) (y := .slice A' n' c'))
   refine bodyPost_ret (v := .agg #[.bool (decide (iV true (aU (aC r))<0)),.slice A' n' c']) (by simp [results,Tryz.results153,go_sem,g0,g1]) rfl ⟨_,rfl,q.set2 hh2 (fun n h=>by cases h) (fun n h=>by cases h),?_⟩
   exact (hb2.setCell (p:=⟨w.heap.size,0,none⟩) (aR _) _).setCell (p:=⟨w.heap.size,1,none⟩) (aR _) _
end
namespace Ab
open Go.RowKit Pl
theorem fC (n:Nat):AllDig (aC (decB n)):=by
 have:aC (decB n)=Lib.decDigits n:=cU n
 rw [this];exact (cG n).2.1
theorem eN (n:Nat):aU (aC (decB n))=n:=by
 have:aC (decB n)=Lib.decDigits n:=cU n
 rw [this];exact (cG n).1
theorem rX (n:Nat):0<(decB n).size:=by
 have h:(decB n).size=(Lib.decDigits n).length:=by simp [decB,ByteArray.size]
 rw [h];exact List.length_pos_iff.2 (cG n).2.2
theorem pz_of {β:List Nat} {v:Value} {w:World} {d:Nat} (h:In w v (d:Int)):(pz d).holds β v w:=by
 obtain ⟨A,n,c,xs,rfl,hr,hd,hn,hv⟩:=h
 have e:decide ((d:Int)<0)=false:=decide_eq_false (vG d)
 rw [e]
 exact ⟨[.bool false,.slice A n c],rfl,[.bool false],_,rfl,⟨rfl,rfl⟩,[.slice A n c],[],rfl,⟨_,rfl,A,n,c,xs,rfl,hr,hd,hn,by simpa using hv⟩,rfl⟩
theorem parseF {z:Int} (hz:(decB z.natAbs).size≤100000):jF 153 [rS (aZ z)] (iz z):=by
 intro β w vs hv
 obtain ⟨v,rfl,h1⟩:=dL hv
 rw [bD h1]
 unfold aZ
 split
 ·rename_i h
  refine (parse_minus (decB z.natAbs) w (fC _) hz).mono fun e w' ⟨v,e1,e2,e3⟩=>⟨v,e1,e3,lX.2 ?_⟩
  rw [eN] at e2
  have:iV true z.natAbs=z:=by simp [iV];omega
  rwa [this] at e2
 ·rename_i h
  refine (uL (decB z.natAbs) w (fC _) (rX _) hz).mono fun e w' ⟨v,e1,e2,e3⟩=>⟨v,e1,e3,lX.2 ?_⟩
  rw [eN] at e2
  have:iV false z.natAbs=z:=by simp [iV];omega
  rwa [this] at e2
theorem parseDF {d:Nat} (hz:(decB d).size≤100000):jF 153 [rS (decB d)] (pz d):=by
 intro β w vs hv
 obtain ⟨v,rfl,h1⟩:=dL hv
 rw [bD h1]
 refine (uL (decB d) w (fC _) (rX _) hz).mono fun e w' ⟨v,e1,e2,e3⟩=>⟨v,e1,e3,pz_of ?_⟩
 rw [eN] at e2
 exact e2
theorem wholeOneF:jF 149 [.fv (.sc (.lit (.int .i64 1)))] (pz 1):=by
 intro β w vs hv
 obtain ⟨v,rfl,h1⟩:=dL hv
 rw [bZ h1]
 exact (zQ 1 w (by constructor <;> omega)).mono fun e w' ⟨v,e1,e2,e3⟩=>⟨v,e1,e3,pz_of e2⟩
theorem eO {s:ByteArray} (hs:s.size≤9223372036854775807):jF 113 [rS s] (rI (aJ s:Nat)):=by
 intro β w vs hv
 obtain ⟨v,rfl,h1⟩:=dL hv
 rw [bD h1]
 exact (slash_any s w hs).mono fun e w' ⟨e1,e2⟩=>⟨_,e1,by rw [e2];exact aB _ _,dC⟩
theorem rY {o:Oper} {ρ:Operand→Value} {w:World} {t:Tmp} {T:TypeId} {s:ByteArray} (ho:o.op = .call ⟨.builtin .len,#[.tmp t],#[T]⟩) (hT:Tryz.prog.underlying T=some .string) (hx:ρ (.tmp t) = .string s) :
 (execOp ρ o).run Tryz.prog w = .ok (.value (.int .i64 s.size)) w:=len_run ho hT hx
theorem oC {o:Oper} {ρ:Operand→Value} {w:World} {T:TypeId} {x y:Operand} {s:ByteArray} {k:Nat} (ho:o.op = .slice T x none (some y) none) (hT:Tryz.prog.underlying T=some .string) (hx:ρ x = .string s) (hy:ρ y = .int .i64 (k:Int)) (hk:k≤s.size) :
 (execOp ρ o).run Tryz.prog w = .ok (.value (.string (s.extract 0 k))) w:=by
 simp only [execOp,ho,hx]
 refine bH ?_
 have h1:(k:Int)≤s.size:=by omega
 simp only [Option.map,hy]
 rw [run_sliceAt_string w _ _ _ _ _ hT]
 simp [Instr.slice,run_underlying hT,Instr.sliceBounds,run_sliceBound,h1,hk]
theorem oD {o:Oper} {ρ:Operand→Value} {w:World} {T:TypeId} {x y:Operand} {s:ByteArray} {k:Nat} (ho:o.op = .slice T x (some y) none none) (hT:Tryz.prog.underlying T=some .string) (hx:ρ x = .string s) (hy:ρ y = .int .i64 (k:Int)) (hk:k≤s.size) :
 (execOp ρ o).run Tryz.prog w = .ok (.value (.string (s.extract k s.size))) w:=by
 simp only [execOp,ho,hx]
 refine bH ?_
 have h1:(k:Int)≤s.size:=by omega
 simp only [Option.map,hy]
 rw [run_sliceAt_string w _ _ _ _ _ hT]
 simp [Instr.slice,run_underlying hT,Instr.sliceBounds,run_sliceBound,h1,hk]
theorem rZ {o:Oper} {ρ:Operand→Value} {w:World} {x:Operand} {a:Nat} (ho:o.op = .binOp .add 3 x (.const (.int .i64 1)) 3) (hx:ρ x = .int .i64 (a:Int)) (hy:ρ (.const (.int .i64 1)) = .int .i64 1) (ha:a<9223372036854775807) :
 (execOp ρ o).run Tryz.prog w = .ok (.value (.int .i64 ((a+1:Nat):Int))) w:=by
 simp only [execOp,ho,hx,hy]
 refine bH ?_
 have e:IntKind.i64.wrap ((a:Int)+1)=((a+1:Nat):Int):=by
  rw [IntWalk.i64_left,IntWalk.wrap64_in _ ⟨by omega,by omega⟩];omega
 simp [go_sem,e]
theorem iW {q:Rat} (h:q.den=1):writeB q=aZ q.num:=by
 unfold writeB aZ overB
 rw [if_pos h]
theorem eQ {q:Rat} (h:q.den≠1):writeB q=aZ q.num++(⟨#[47]⟩++decB q.den):=by
 unfold writeB aZ overB
 rw [if_neg h]
theorem dig47 {l:List UInt8} (h:AllDig l):∀ c∈l,(c==47)=false:=by
 intro c hc
 have:=h c hc
 rw [beq_eq_false_iff_ne]
 rintro rfl
 revert this
 decide
theorem text47 (z:Int):∀ c∈aC (aZ z),(c==47)=false:=by
 unfold aZ
 split
 ·intro c hc
  have e:aC (⟨#[45]⟩++decB z.natAbs:ByteArray)=45::aC (decB z.natAbs):=by simp [aC]
  rw [e] at hc
  rcases List.mem_cons.1 hc with rfl|hc
  ·rfl
  ·exact dig47 (fC _) c hc
 ·exact dig47 (fC _)
theorem tI (z:Int):aJ (aZ z)=(aZ z).size:=by
 unfold aJ
 rw [← aG,List.findIdx_eq_length]
 exact text47 z
theorem tJ (z:Int) (r:ByteArray):aJ (aZ z++(⟨#[47]⟩++r))=(aZ z).size:=by
 unfold aJ
 have e:aC (aZ z++(⟨#[47]⟩++r))=aC (aZ z)++47::aC r:=by simp [aC]
 rw [e,List.findIdx_append,if_neg (by
  rw [Nat.not_lt,Nat.le_iff_lt_or_eq]
  right
  exact ((List.findIdx_eq_length).2 (text47 z)).symm),List.findIdx_cons]
 simp [← aG]
theorem ext_lo (a b:ByteArray):(a++b).extract 0 a.size=a:=by
 apply ba_ext
 simp
 exact List.take_of_length_le (Nat.le_of_eq rfl)
theorem ext_hi (a b:ByteArray):(a++(⟨#[47]⟩++b)).extract (a.size+1) (a++(⟨#[47]⟩++b)).size=b:=by
 have h:aC ((a++(⟨#[47]⟩++b)).extract (a.size+1) (a++(⟨#[47]⟩++b)).size)=aC b:=by
  rw [aT,List.take_of_length_le (by rw [aG];exact aR _)]
  have e:aC (a++(⟨#[47]⟩++b))=aC a++47::aC b:=by simp [aC]
  rw [e,List.drop_append,List.drop_of_length_le (by rw [aG];omega),List.nil_append,aG,Nat.add_sub_cancel_left]
  rfl
 exact ba_ext h
abbrev prt (q:Rat):AV Kr := .tup [.ag [rB (decide (q.num<0)),.sp (xM q.num.natAbs)],.ag [.lit (.bool false),.sp (xM q.den)]]
theorem partsF {q:Rat} (hn:(decB q.num.natAbs).size≤100000) (hd:(decB q.den).size≤100000):jF 95 [rS (writeB q)] (prt q):=by
 have hts:(aZ q.num).size≤100001:=by
  unfold aZ
  split
  ·rw [ByteArray.size_append]
   have:(⟨#[45]⟩:ByteArray).size=1:=rfl
   omega
  ·omega
 by_cases h1:q.den=1
 ·have e1:q.den=1:=h1
  rw [iW h1]
  have hsl:=tI q.num
  have hres:prt q = .tup [.ag [rB (decide (q.num<0)),.sp (xM q.num.natAbs)],.ag [.lit (.bool false),.sp (xM 1)]]:=by show AV.tup _=AV.tup _;rw [e1]
  rw [hres]
  generalize hs:aZ q.num=s at *
  refine jT Tryz.func95 fun w00=>?_
  refine jB 113 [rS s] (eO (by omega)) ?_
  refine jL (.call ⟨.builtin .len,#[.tmp 10],#[9]⟩) (.tmp 10) (.tmp 10) (rS s) (rS s) (rI s.size) (fun ρ o β w ho hx _=>⟨_,rY ho Tryz.underlying9 (bD hx),dC⟩) ?_
  refine jL (.binOp .eql 3 (.tmp 9) (.tmp 11) 3) (.tmp 9) (.tmp 11) (rI (aJ s:Nat)) (rI s.size) (rl true) (fun ρ o β w ho hx hy=>⟨.bool true,gA ho (bD hx) (bD hy) (by rw [hsl];simp),eL rfl⟩) ?_
  refine jB 153 [rS s] (by rw [← hs];exact parseF hn) ?_
  refine jB 149 [.fv (.sc (.lit (.int .i64 1)))] wholeOneF ?_
  exact jS Tryz.func95
 ·rw [eQ h1]
  have hsl:=tJ q.num (decB q.den)
  have hx1:=ext_lo (aZ q.num) (⟨#[47]⟩++decB q.den)
  have hx2:=ext_hi (aZ q.num) (decB q.den)
  have hsz:(aZ q.num++(⟨#[47]⟩++decB q.den):ByteArray).size=(aZ q.num).size+1+(decB q.den).size:=by
   rw [ByteArray.size_append,ByteArray.size_append]
   have:(⟨#[47]⟩:ByteArray).size=1:=rfl
   omega
  generalize hs:(aZ q.num++(⟨#[47]⟩++decB q.den):ByteArray)=s at *
  generalize hk:(aZ q.num).size=k at *
  refine jT Tryz.func95 fun w00=>?_
  refine jB 113 [rS s] (eO (by omega)) ?_
  refine jL (.call ⟨.builtin .len,#[.tmp 10],#[9]⟩) (.tmp 10) (.tmp 10) (rS s) (rS s) (rI s.size) (fun ρ o β w ho hx _=>⟨_,rY ho Tryz.underlying9 (bD hx),dC⟩) ?_
  refine jL (.binOp .eql 3 (.tmp 9) (.tmp 11) 3) (.tmp 9) (.tmp 11) (rI (aJ s:Nat)) (rI s.size) (rl false) (fun ρ o β w ho hx hy=>⟨.bool false,gA ho (bD hx) (bD hy) (by rw [hsl,hsz];simp;omega),eL rfl⟩) ?_
  refine jL (.slice 9 (.tmp 16) none (some (.tmp 17)) none) (.tmp 16) (.tmp 17) (rS s) (rI (aJ s:Nat)) (rS (aZ q.num)) (fun ρ o β w ho hx hy=>?_) ?_
  ·have:=oC (w:=w) ho Tryz.underlying9 (bD hx) (by have:=bD hy;rwa [hsl] at this) (by omega)
   rw [hx1] at this
   exact ⟨_,this,dC⟩
  refine jB 153 [rS (aZ q.num)] (parseF hn) ?_
  refine jL (.binOp .add 3 (.tmp 21) (.const (.int .i64 1)) 3) (.tmp 21) (.const (.int .i64 1)) (rI (aJ s:Nat)) (.fv (.sc (.lit (.int .i64 1)))) (rI ((k+1:Nat):Int)) (fun ρ o β w ho hx hy=>⟨_,rZ ho (by have:=bD hx;rwa [hsl] at this) (bZ hy) (by omega),dC⟩) ?_
  refine jL (.slice 9 (.tmp 20) (some (.tmp 22)) none none) (.tmp 20) (.tmp 22) (rS s) (rI ((k+1:Nat):Int)) (rS (decB q.den)) (fun ρ o β w ho hx hy=>?_) ?_
  ·have:=oD (w:=w) ho Tryz.underlying9 (bD hx) (bD hy) (by omega)
   rw [hx2] at this
   exact ⟨_,this,dC⟩
  refine jB 153 [rS (decB q.den)] (parseDF hd) ?_
  exact jS Tryz.func95
theorem mk_parts (n:Int) {d:Nat} (h:d≠0):(mkRat n d).num=n/(Nat.gcd n.natAbs d:Nat)∧(mkRat n d).den=d/Nat.gcd n.natAbs d:=by
 rw [← Rat.normalize_eq_mkRat h,Rat.normalize_eq]
 exact ⟨rfl,rfl⟩
theorem sgz_div (n:Int) {g:Nat} (hg:g ∣ n.natAbs) (h0:0<g):iV (decide (n<0)) (n.natAbs/g)=n/(g:Int):=by
 obtain ⟨k,hk⟩:=hg
 have e:n.natAbs/g=k:=by rw [hk];exact Nat.mul_div_cancel_left _ h0
 rw [e]
 unfold iV
 split
 ·rename_i h
  have hn:n=(g:Int)*(-(k:Int)):=by
   have:n = -(n.natAbs:Int):=by simp at h;omega
   rw [this,hk];simp [Int.mul_neg]
  rw [hn,Int.mul_ediv_cancel_left _ (by omega)]
 ·rename_i h
  have hn:n=(g:Int)*(k:Int):=by
   have:n=(n.natAbs:Int):=by simp at h;omega
   rw [this,hk];simp
  rw [hn,Int.mul_ediv_cancel_left _ (by omega)]
theorem cH (d:Nat):aZ (d:Int)=decB d:=by unfold aZ;rw [if_neg (vG d)];rfl
theorem xO (n:Int) {d:Nat} (h:0<d):(if d/Nat.gcd n.natAbs d=1 then aZ (iV (decide (n<0)) (n.natAbs/Nat.gcd n.natAbs d)) else aZ (iV (decide (n<0)) (n.natAbs/Nat.gcd n.natAbs d))++⟨#[47]⟩++aZ ((d/Nat.gcd n.natAbs d:Nat):Int))=writeB (mkRat n d):=by
 obtain ⟨e1,e2⟩:=mk_parts n (Nat.ne_of_gt h)
 have hg:0<Nat.gcd n.natAbs d:=Nat.gcd_pos_of_pos_right _ h
 rw [sgz_div n (Nat.gcd_dvd_left _ _) hg,← e1,← e2,cH]
 split
 ·rename_i h1;rw [iW h1]
 ·rename_i h1;rw [eQ h1,ByteArray.append_assoc]
theorem rargs {P:Program} {f:FuncId} {l l' : List (AV Kr)} {x:AV Kr} (h:Fits P f l x) (hl:∀ β vs w,holdsA β l' vs w→holdsA β l vs w):Fits P f l' x:=fun β w vs hv=>h β w vs (hl β vs w hv)
theorem mX {P:Program} {f:FuncId} {l:List (AV Kr)} {x y:AV Kr} (h:Fits P f l x) (hl:∀ β v w,x.holds β v w→y.holds β v w):Fits P f l y:=fun β w vs hv=>(h β w vs hv).mono fun _ _ ⟨v,e1,e2,e3⟩=>⟨v,e1,e2,hl β v _ e3⟩
theorem pz_iz {β:List Nat} {v:Value} {w:World} {d:Nat} (h:(pz d).holds β v w):(iz (d:Int)).holds β v w:=by
 obtain ⟨cs,rfl,a,r,rfl,h1,b,r2,rfl,h2,h3⟩:=h
 have h1':=h1.1
 subst h1'
 refine ⟨_,rfl,[.bool false],_,rfl,?_,b,r2,rfl,?_,h3⟩
 ·show [Value.bool false] = [.bool (decide ((d:Int)<0))]
  rw [decide_eq_false (vG d)]
 ·obtain ⟨u,e,hu⟩:=h2
  exact ⟨u,e,by simpa using hu⟩
theorem iz_pz {β:List Nat} {v:Value} {w:World} {d:Nat} (h:(iz (d:Int)).holds β v w):(pz d).holds β v w:=pz_of (lX.1 h)
theorem timesZP {a:Int} {b:Nat} (ha:Bd a.natAbs) (hb:Bd b):jF 98 [iz a,pz b] (iz (a*b)) :=
 rargs (timesZ ha (by simpa using hb)) fun β vs w ⟨v,r,e,h1,u,r2,e2,h2,h3⟩=>⟨v,r,e,h1,u,r2,e2,pz_iz h2,h3⟩
theorem timesPP {a b:Nat} (ha:Bd a) (hb:Bd b):jF 98 [pz a,pz b] (pz (a*b)) :=
 mX (rargs (timesZ (a:=(a:Int)) (b:=(b:Int)) (by simpa using ha) (by simpa using hb)) fun β vs w ⟨v,r,e,h1,u,r2,e2,h2,h3⟩=>⟨v,r,e,pz_iz h1,u,r2,e2,pz_iz h2,h3⟩)
  fun β v w h=>iz_pz (d:=a*b) (by simpa using h)
abbrev rU (n:Nat):AV Kr := .fv (.sc (.sp (gZ (.int .u8 (n:Int)) rfl true (fun _=>rfl))))
theorem index_s {o:Oper} {ρ:Operand→Value} {w:World} {t:Tmp} {s:ByteArray} {c:Nat} (ho:o.op = .index 9 (.tmp t) (.const (.int .i64 0))) (hx:ρ (.tmp t) = .string s) (hy:ρ (.const (.int .i64 0)) = .int .i64 0) (hc:∃ h:0<s.size,(s[0]'h).toNat=c) :
 (execOp ρ o).run Tryz.prog w = .ok (.value (.int .u8 (c:Int))) w:=by
 obtain ⟨h,hc⟩:=hc
 simp only [execOp,ho,hx,hy]
 refine bH ?_
 have h0:¬ s.size=0:=by omega
 simp [go_sem,run_underlying Tryz.underlying9,h,h0,hc]
theorem ueq_run {o:Oper} {ρ:Operand→Value} {w:World} {x y:Operand} {a b:Int} {r:Bool} (ho:o.op = .binOp .eql 5 x y 5) (hx:ρ x = .int .u8 a) (hy:ρ y = .int .u8 b) (h:(a==b)=r) :
 (execOp ρ o).run Tryz.prog w = .ok (.value (.bool r)) w:=by
 simp only [execOp,ho,hx,hy]
 refine bH ?_
 rw [← h]
 exact bL (by kernel_rfl) w
theorem subn_run {o:Oper} {ρ:Operand→Value} {w:World} {x y:Operand} {a b:Nat} (ho:o.op = .binOp .sub 3 x y 3) (hx:ρ x = .int .i64 (a:Int)) (hy:ρ y = .int .i64 (b:Int)) (hle:b≤a) (ha:a≤9223372036854775807) :
 (execOp ρ o).run Tryz.prog w = .ok (.value (.int .i64 ((a-b:Nat):Int))) w:=by
 simp only [execOp,ho,hx,hy]
 refine bH ?_
 have e:IntKind.i64.wrap ((a:Int)-b)=((a-b:Nat):Int):=by
  rw [IntWalk.i64_left,IntWalk.wrap64_in _ ⟨by omega,by omega⟩];omega
 simp [go_sem,e]
theorem lss_run {o:Oper} {ρ:Operand→Value} {w:World} {x y:Operand} {a b:Int} {r:Bool} (ho:o.op = .binOp .lss 3 x y 3) (hx:ρ x = .int .i64 a) (hy:ρ y = .int .i64 b) (h:decide (a<b)=r) :
 (execOp ρ o).run Tryz.prog w = .ok (.value (.bool r)) w:=by
 simp only [execOp,ho,hx,hy]
 refine bH ?_
 rw [← h]
 exact bL (by kernel_rfl) w
theorem index_26 {o:Oper} {ρ:Operand→Value} {w:World} {t:Tmp} {s:ByteArray} {c:Nat} (ho:o.op = .index 22 (.tmp t) (.const (.int .i64 0))) (hx:ρ (.tmp t) = .string s) (hy:ρ (.const (.int .i64 0)) = .int .i64 0) (hc:∃ h:0<s.size,(s[0]'h).toNat=c) :
 (execOp ρ o).run Tryz.prog w = .ok (.value (.int .u8 (c:Int))) w:=by
 obtain ⟨h,hc⟩:=hc
 simp only [execOp,ho,hx,hy]
 refine bH ?_
 have h0:¬ s.size=0:=by omega
 simp [go_sem,run_underlying Tryz.underlying22,h,h0,hc]
theorem leq_run {o:Oper} {ρ:Operand→Value} {w:World} {x y:Operand} {a b:Int} {r:Bool} (ho:o.op = .binOp .leq 3 x y 3) (hx:ρ x = .int .i64 a) (hy:ρ y = .int .i64 b) (h:decide (a≤b)=r) :
 (execOp ρ o).run Tryz.prog w = .ok (.value (.bool r)) w:=by
 simp only [execOp,ho,hx,hy]
 refine bH ?_
 rw [← h]
 exact bL (by kernel_rfl) w
section
variable {f:FuncId} {w00:World} {Out:Value→World→Prop} {c:Cfg Kr}
abbrev rli (n:Int):AV Kr := .fv (.sc (.lit (.int .i64 n)))
theorem cV (t:Tmp) (T:TypeId) (hT:Tryz.prog.underlying T=some .string) (s:ByteArray) (hg:Ok Tryz.prog f w00 Out (cI Tryz.prog 1000 (c.give (rI (s.size:Nat)))))
 (hc:(c.op.map fun o=>o.op,c.okT (rI (s.size:Nat)),c.ev (.tmp t),c.ev (.tmp t))=(some (.call ⟨.builtin .len,#[.tmp t],#[T]⟩),true,(rS s),(rS s)):=by kernel_rfl):Ok Tryz.prog f w00 Out c :=
 pB (.call ⟨.builtin .len,#[.tmp t],#[T]⟩) (.tmp t) (.tmp t) (rS s) (rS s) (rI (s.size:Nat)) hc (by simp [Op.operands,Call.operands]) (by simp [Op.operands,Call.operands]) (fun ρ o β w ho hx hy=>⟨_,rY ho hT (bD hx),dC⟩) hg
theorem iJ (t:Tmp) (n a:Int) (r:Bool) (h:decide (n<a)=r) (hg:Ok Tryz.prog f w00 Out (cI Tryz.prog 1000 (c.give (rl r))))
 (hc:(c.op.map fun o=>o.op,c.okT (rl r),c.ev (.tmp t),c.ev (.const (.int .i64 n)))=(some (.binOp .gtr 3 (.tmp t) (.const (.int .i64 n)) 3),true,(rI a),(rli n)):=by kernel_rfl):Ok Tryz.prog f w00 Out c :=
 pB (.binOp .gtr 3 (.tmp t) (.const (.int .i64 n)) 3) (.tmp t) (.const (.int .i64 n)) (rI a) (rli n) (rl r) hc (by simp [Op.operands]) (by simp [Op.operands]) (fun ρ o β w ho hx hy=>⟨_,xA ho (bD hx) (bZ hy) h,eL rfl⟩) hg
theorem ridn (t:Tmp) (s:ByteArray) (h:∃ h:0<s.size,(s[0]'h).toNat=45) (hg:Ok Tryz.prog f w00 Out (cI Tryz.prog 1000 (c.give (.fv (.sc (.lit (.int .u8 45)))))))
 (hc:(c.op.map fun o=>o.op,c.okT (.fv (.sc (.lit (.int .u8 45)))),c.ev (.tmp t),c.ev (.const (.int .i64 0)))=(some (.index 9 (.tmp t) (.const (.int .i64 0))),true,(rS s),(rli 0)):=by kernel_rfl):Ok Tryz.prog f w00 Out c :=
 pB (.index 9 (.tmp t) (.const (.int .i64 0))) (.tmp t) (.const (.int .i64 0)) (rS s) (rli 0) (.fv (.sc (.lit (.int .u8 45)))) hc (by simp [Op.operands]) (by simp [Op.operands]) (fun ρ o β w ho hx hy=>⟨_,index_s ho (bD hx) (bZ hy) h,eL rfl⟩) hg
theorem ridp (t:Tmp) (s:ByteArray) (n:Nat) (h:∃ h:0<s.size,(s[0]'h).toNat=n) (hg:Ok Tryz.prog f w00 Out (cI Tryz.prog 1000 (c.give (rU n))))
 (hc:(c.op.map fun o=>o.op,c.okT (rU n),c.ev (.tmp t),c.ev (.const (.int .i64 0)))=(some (.index 9 (.tmp t) (.const (.int .i64 0))),true,(rS s),(rli 0)):=by kernel_rfl):Ok Tryz.prog f w00 Out c :=
 pB (.index 9 (.tmp t) (.const (.int .i64 0))) (.tmp t) (.const (.int .i64 0)) (rS s) (rli 0) (rU n) hc (by simp [Op.operands]) (by simp [Op.operands]) (fun ρ o β w ho hx hy=>⟨_,index_s ho (bD hx) (bZ hy) h,dC⟩) hg
theorem ridnR (t:Tmp) (s:ByteArray) (h:∃ h:0<s.size,(s[0]'h).toNat=45) (hg:Ok Tryz.prog f w00 Out (cI Tryz.prog 1000 (c.give (.fv (.sc (.lit (.int .u8 45)))))))
 (hc:(c.op.map fun o=>o.op,c.okT (.fv (.sc (.lit (.int .u8 45)))),c.ev (.tmp t),c.ev (.const (.int .i64 0)))=(some (.index 22 (.tmp t) (.const (.int .i64 0))),true,(rS s),(rli 0)):=by kernel_rfl):Ok Tryz.prog f w00 Out c :=
 pB (.index 22 (.tmp t) (.const (.int .i64 0))) (.tmp t) (.const (.int .i64 0)) (rS s) (rli 0) (.fv (.sc (.lit (.int .u8 45)))) hc (by simp [Op.operands]) (by simp [Op.operands]) (fun ρ o β w ho hx hy=>⟨_,index_26 ho (bD hx) (bZ hy) h,eL rfl⟩) hg
theorem ridpR (t:Tmp) (s:ByteArray) (n:Nat) (h:∃ h:0<s.size,(s[0]'h).toNat=n) (hg:Ok Tryz.prog f w00 Out (cI Tryz.prog 1000 (c.give (rU n))))
 (hc:(c.op.map fun o=>o.op,c.okT (rU n),c.ev (.tmp t),c.ev (.const (.int .i64 0)))=(some (.index 22 (.tmp t) (.const (.int .i64 0))),true,(rS s),(rli 0)):=by kernel_rfl):Ok Tryz.prog f w00 Out c :=
 pB (.index 22 (.tmp t) (.const (.int .i64 0))) (.tmp t) (.const (.int .i64 0)) (rS s) (rli 0) (rU n) hc (by simp [Op.operands]) (by simp [Op.operands]) (fun ρ o β w ho hx hy=>⟨_,index_26 ho (bD hx) (bZ hy) h,dC⟩) hg
theorem rueq (t:Tmp) (n:Nat) (h:((n:Int)==45)=false) (hg:Ok Tryz.prog f w00 Out (cI Tryz.prog 1000 (c.give (rl false))))
 (hc:(c.op.map fun o=>o.op,c.okT (rl false),c.ev (.tmp t),c.ev (.const (.int .u8 45)))=(some (.binOp .eql 5 (.tmp t) (.const (.int .u8 45)) 5),true,(rU n),(.fv (.sc (.lit (.int .u8 45))))):=by kernel_rfl):Ok Tryz.prog f w00 Out c :=
 pB (.binOp .eql 5 (.tmp t) (.const (.int .u8 45)) 5) (.tmp t) (.const (.int .u8 45)) (rU n) (.fv (.sc (.lit (.int .u8 45)))) (rl false) hc (by simp [Op.operands]) (by simp [Op.operands]) (fun ρ o β w ho hx hy=>⟨.bool false,ueq_run ho (bD hx) (bZ hy) h,eL rfl⟩) hg
theorem rshi (t i:Tmp) (T:TypeId) (hT:Tryz.prog.underlying T=some .string) (s:ByteArray) (k:Nat) (a:ByteArray) (hk:k≤s.size) (ha:s.extract 0 k=a) (hg:Ok Tryz.prog f w00 Out (cI Tryz.prog 1000 (c.give (rS a))))
 (hc:(c.op.map fun o=>o.op,c.okT (rS a),c.ev (.tmp t),c.ev (.tmp i))=(some (.slice T (.tmp t) none (some (.tmp i)) none),true,(rS s),(rI (k:Int))):=by kernel_rfl):Ok Tryz.prog f w00 Out c :=
 pB (.slice T (.tmp t) none (some (.tmp i)) none) (.tmp t) (.tmp i) (rS s) (rI (k:Int)) (rS a) hc (by simp [Op.operands]) (by simp [Op.operands]) (fun ρ o β w ho hx hy=>⟨_,ha▸oC ho hT (bD hx) (bD hy) hk,dC⟩) hg
theorem rslo (t i:Tmp) (T:TypeId) (hT:Tryz.prog.underlying T=some .string) (s:ByteArray) (k:Nat) (d:ByteArray) (hk:k≤s.size) (hd:s.extract k s.size=d) (hg:Ok Tryz.prog f w00 Out (cI Tryz.prog 1000 (c.give (rS d))))
 (hc:(c.op.map fun o=>o.op,c.okT (rS d),c.ev (.tmp t),c.ev (.tmp i))=(some (.slice T (.tmp t) (some (.tmp i)) none none),true,(rS s),(rI (k:Int))):=by kernel_rfl):Ok Tryz.prog f w00 Out c :=
 pB (.slice T (.tmp t) (some (.tmp i)) none none) (.tmp t) (.tmp i) (rS s) (rI (k:Int)) (rS d) hc (by simp [Op.operands]) (by simp [Op.operands]) (fun ρ o β w ho hx hy=>⟨_,hd▸oD ho hT (bD hx) (bD hy) hk,dC⟩) hg
theorem rsl1 (t:Tmp) (T:TypeId) (hT:Tryz.prog.underlying T=some .string) (s d:ByteArray) (hk:1≤s.size) (hd:s.extract 1 s.size=d) (hg:Ok Tryz.prog f w00 Out (cI Tryz.prog 1000 (c.give (rS d))))
 (hc:(c.op.map fun o=>o.op,c.okT (rS d),c.ev (.tmp t),c.ev (.const (.int .i64 1)))=(some (.slice T (.tmp t) (some (.const (.int .i64 1))) none none),true,(rS s),(rli 1)):=by kernel_rfl):Ok Tryz.prog f w00 Out c :=
 pB (.slice T (.tmp t) (some (.const (.int .i64 1))) none none) (.tmp t) (.const (.int .i64 1)) (rS s) (rli 1) (rS d) hc (by simp [Op.operands]) (by simp [Op.operands]) (fun ρ o β w ho hx hy=>⟨_,hd▸oD (k:=1) ho hT (bD hx) (bZ hy) hk,dC⟩) hg
theorem radd (t:Tmp) (k:Nat) (h:k<9223372036854775807) (hg:Ok Tryz.prog f w00 Out (cI Tryz.prog 1000 (c.give (rI ((k+1:Nat):Int)))))
 (hc:(c.op.map fun o=>o.op,c.okT (rI ((k+1:Nat):Int)),c.ev (.tmp t),c.ev (.const (.int .i64 1)))=(some (.binOp .add 3 (.tmp t) (.const (.int .i64 1)) 3),true,(rI (k:Int)),(rli 1)):=by kernel_rfl):Ok Tryz.prog f w00 Out c :=
 pB (.binOp .add 3 (.tmp t) (.const (.int .i64 1)) 3) (.tmp t) (.const (.int .i64 1)) (rI (k:Int)) (rli 1) (rI ((k+1:Nat):Int)) hc (by simp [Op.operands]) (by simp [Op.operands]) (fun ρ o β w ho hx hy=>⟨_,rZ ho (bD hx) (bZ hy) h,dC⟩) hg
theorem tK (t:Tmp) (T:TypeId) (s b:ByteArray) (r:Bool) (h:(s.toList==b.toList)=r) (hg:Ok Tryz.prog f w00 Out (cI Tryz.prog 1000 (c.give (rl r))))
 (hc:(c.op.map fun o=>o.op,c.okT (rl r),c.ev (.tmp t),c.ev (.const (.string b)))=(some (.binOp .eql T (.tmp t) (.const (.string b)) T),true,(rS s),(.fv (.sc (.lit (.string b))))):=by kernel_rfl):Ok Tryz.prog f w00 Out c :=
 pB (.binOp .eql T (.tmp t) (.const (.string b)) T) (.tmp t) (.const (.string b)) (rS s) (.fv (.sc (.lit (.string b)))) (rl r) hc (by simp [Op.operands]) (by simp [Op.operands]) (fun ρ o β w ho hx hy=>⟨_,rJ ho (bD hx) (bZ hy) h,eL rfl⟩) hg
theorem uX (t i:Tmp) (a b:Int) (r:Bool) (h:decide (a<b)=r) (hg:Ok Tryz.prog f w00 Out (cI Tryz.prog 1000 (c.give (rl r))))
 (hc:(c.op.map fun o=>o.op,c.okT (rl r),c.ev (.tmp t),c.ev (.tmp i))=(some (.binOp .lss 3 (.tmp t) (.tmp i) 3),true,(rI a),(rI b)):=by kernel_rfl):Ok Tryz.prog f w00 Out c :=
 pB (.binOp .lss 3 (.tmp t) (.tmp i) 3) (.tmp t) (.tmp i) (rI a) (rI b) (rl r) hc (by simp [Op.operands]) (by simp [Op.operands]) (fun ρ o β w ho hx hy=>⟨_,lss_run ho (bD hx) (bD hy) h,eL rfl⟩) hg
theorem yE (t i:Tmp) (a b:Nat) (hle:b≤a) (ha:a≤9223372036854775807) (hg:Ok Tryz.prog f w00 Out (cI Tryz.prog 1000 (c.give (rI ((a-b:Nat):Int)))))
 (hc:(c.op.map fun o=>o.op,c.okT (rI ((a-b:Nat):Int)),c.ev (.tmp t),c.ev (.tmp i))=(some (.binOp .sub 3 (.tmp t) (.tmp i) 3),true,(rI (a:Int)),(rI (b:Int))):=by kernel_rfl):Ok Tryz.prog f w00 Out c :=
 pB (.binOp .sub 3 (.tmp t) (.tmp i) 3) (.tmp t) (.tmp i) (rI (a:Int)) (rI (b:Int)) (rI ((a-b:Nat):Int)) hc (by simp [Op.operands]) (by simp [Op.operands]) (fun ρ o β w ho hx hy=>⟨_,subn_run ho (bD hx) (bD hy) hle ha,dC⟩) hg
theorem yF (t i:Tmp) (a n:Int) (r:Bool) (h:decide (a≤n)=r) (hg:Ok Tryz.prog f w00 Out (cI Tryz.prog 1000 (c.give (rl r))))
 (hc:(c.op.map fun o=>o.op,c.okT (rl r),c.ev (.tmp t),c.ev (.tmp i))=(some (.binOp .leq 3 (.tmp t) (.tmp i) 3),true,(rI a),(rli n)):=by kernel_rfl):Ok Tryz.prog f w00 Out c :=
 pB (.binOp .leq 3 (.tmp t) (.tmp i) 3) (.tmp t) (.tmp i) (rI a) (rli n) (rl r) hc (by simp [Op.operands]) (by simp [Op.operands]) (fun ρ o β w ho hx hy=>⟨_,leq_run ho (bD hx) (bZ hy) h,eL rfl⟩) hg
end
abbrev qno:AV Kr := .tup [.sc (.lit (.int .i64 0)),.sc (.lit (.int .i64 0)),.sc (.lit (.bool false))]
section
variable {s u:ByteArray} {c:Nat}
theorem quick_long (h20:decide ((20:Int)<s.size)=true):jF 93 [rS s] qno:=by
 refine jT Tryz.func93 fun w00=>?_
 refine cV 11 9 Tryz.underlying9 s ?_
 refine iJ 12 20 s.size true h20 ?_
 exact jS Tryz.func93
theorem quick_k9n (h20:decide ((20:Int)<s.size)=false) (h0:decide ((0:Int)<s.size)=true) (h1:1≤s.size) (hc:∃ h:0<s.size,(s[0]'h).toNat=45) (hext:s.extract 1 s.size=u) (hus:u.size≤s.size) (h9:decide ((9:Int)<(aJ u:Nat))=true):jF 93 [rS s] qno:=by
 have hs20:s.size≤20:=by rw [decide_eq_false_iff_not] at h20;omega
 refine jT Tryz.func93 fun w00=>?_
 refine cV 11 9 Tryz.underlying9 s ?_
 refine iJ 12 20 s.size false h20 ?_
 refine cV 14 9 Tryz.underlying9 s ?_
 refine iJ 15 0 s.size true h0 ?_
 refine ridn 18 s hc ?_
 refine rsl1 23 9 Tryz.underlying9 s u h1 hext ?_
 refine jB 113 [rS u] (eO (by omega)) ?_
 refine iJ 27 9 (aJ u:Nat) true h9 ?_
 exact jS Tryz.func93
theorem quick_l10n (h20:decide ((20:Int)<s.size)=false) (h0:decide ((0:Int)<s.size)=true) (h1:1≤s.size) (hc:∃ h:0<s.size,(s[0]'h).toNat=45) (hext:s.extract 1 s.size=u) (hus:u.size≤s.size) (h9:decide ((9:Int)<(aJ u:Nat))=false) (h10:decide ((10:Int)<((u.size-aJ u:Nat):Int))=true):jF 93 [rS s] qno:=by
 have hs20:s.size≤20:=by rw [decide_eq_false_iff_not] at h20;omega
 refine jT Tryz.func93 fun w00=>?_
 refine cV 11 9 Tryz.underlying9 s ?_
 refine iJ 12 20 s.size false h20 ?_
 refine cV 14 9 Tryz.underlying9 s ?_
 refine iJ 15 0 s.size true h0 ?_
 refine ridn 18 s hc ?_
 refine rsl1 23 9 Tryz.underlying9 s u h1 hext ?_
 refine jB 113 [rS u] (eO (by omega)) ?_
 refine iJ 27 9 (aJ u:Nat) false h9 ?_
 refine cV 30 9 Tryz.underlying9 u ?_
 refine yE 31 32 (u.size) (aJ u) (cL _) (by omega) ?_
 refine iJ 33 10 ((u.size-aJ u:Nat):Int) true h10 ?_
 exact jS Tryz.func93
theorem quick_k9p (h20:decide ((20:Int)<s.size)=false) (h0:decide ((0:Int)<s.size)=true) (hc:∃ h:0<s.size,(s[0]'h).toNat=c) (hc45:((c:Int)==45)=false) (h9:decide ((9:Int)<(aJ s:Nat))=true):jF 93 [rS s] qno:=by
 have hs20:s.size≤20:=by rw [decide_eq_false_iff_not] at h20;omega
 refine jT Tryz.func93 fun w00=>?_
 refine cV 11 9 Tryz.underlying9 s ?_
 refine iJ 12 20 s.size false h20 ?_
 refine cV 14 9 Tryz.underlying9 s ?_
 refine iJ 15 0 s.size true h0 ?_
 refine ridp 18 s c hc ?_
 refine rueq 19 c hc45 ?_
 refine jB 113 [rS s] (eO (by omega)) ?_
 refine iJ 27 9 (aJ s:Nat) true h9 ?_
 exact jS Tryz.func93
theorem quick_l10p (h20:decide ((20:Int)<s.size)=false) (h0:decide ((0:Int)<s.size)=true) (hc:∃ h:0<s.size,(s[0]'h).toNat=c) (hc45:((c:Int)==45)=false) (h9:decide ((9:Int)<(aJ s:Nat))=false) (h10:decide ((10:Int)<((s.size-aJ s:Nat):Int))=true):jF 93 [rS s] qno:=by
 have hs20:s.size≤20:=by rw [decide_eq_false_iff_not] at h20;omega
 refine jT Tryz.func93 fun w00=>?_
 refine cV 11 9 Tryz.underlying9 s ?_
 refine iJ 12 20 s.size false h20 ?_
 refine cV 14 9 Tryz.underlying9 s ?_
 refine iJ 15 0 s.size true h0 ?_
 refine ridp 18 s c hc ?_
 refine rueq 19 c hc45 ?_
 refine jB 113 [rS s] (eO (by omega)) ?_
 refine iJ 27 9 (aJ s:Nat) false h9 ?_
 refine cV 30 9 Tryz.underlying9 s ?_
 refine yE 31 32 (s.size) (aJ s) (cL _) (by omega) ?_
 refine iJ 33 10 ((s.size-aJ s:Nat):Int) true h10 ?_
 exact jS Tryz.func93
end
theorem valueF {d:ByteArray} {n:Nat} (hd:AllDig (aC d)) (hs:d.size≤17) (hn:aU (aC d)=n):jF 150 [rS d] (rI n):=by
 intro β w vs hv
 obtain ⟨v,rfl,h1⟩:=dL hv
 rw [bD h1]
 exact (lT d w hd hs).mono fun e w' ⟨e1,e2⟩=>⟨_,e1,by rw [e2];exact aB _ _,by rw [hn];exact dC⟩
theorem neg_run {o:Oper} {ρ:Operand→Value} {w:World} {x y:Operand} {a:Nat} (ho:o.op = .binOp .sub 3 x y 3) (hx:ρ x = .int .i64 0) (hy:ρ y = .int .i64 (a:Int)) (ha:a<4611686018427387904) :
 (execOp ρ o).run Tryz.prog w = .ok (.value (.int .i64 (-(a:Int)))) w:=by
 simp only [execOp,ho,hx,hy]
 refine bH ?_
 have e:IntKind.i64.wrap (0-(a:Int)) = -(a:Int):=by
  rw [IntWalk.i64_left,IntWalk.wrap64_in _ ⟨by omega,by omega⟩];omega
 rw [Int.zero_sub] at e
 simp [go_sem,e]
section
variable {s u d1 d2:ByteArray} {c n1 n2:Nat}
theorem quick_yes1n (h20:decide ((20:Int)<s.size)=false) (h0:decide ((0:Int)<s.size)=true) (h1:1≤s.size) (hc:∃ h:0<s.size,(s[0]'h).toNat=45) (hext:s.extract 1 s.size=u) (hus:u.size≤s.size) (hn1:n1<4611686018427387904) (h9:decide ((9:Int)<(aJ u:Nat))=false) (h10:decide ((10:Int)<((u.size-aJ u:Nat):Int))=false) (hd1:u.extract 0 (aJ u)=d1) (v1:jF 150 [rS d1] (rI n1)) (hlt:decide (((aJ u:Nat):Int)<(u.size:Nat))=false):jF 93 [rS s] (.tup [.sc (.sp (gZ (.int .i64 (-(n1:Int))) rfl false (fun h=>by cases h))),.sc (.lit (.int .i64 1)),.sc (.lit (.bool true))]):=by
 have hs20:s.size≤20:=by rw [decide_eq_false_iff_not] at h20;omega
 refine jT Tryz.func93 fun w00=>?_
 refine cV 11 9 Tryz.underlying9 s ?_
 refine iJ 12 20 s.size false h20 ?_
 refine cV 14 9 Tryz.underlying9 s ?_
 refine iJ 15 0 s.size true h0 ?_
 refine ridn 18 s hc ?_
 refine rsl1 23 9 Tryz.underlying9 s u h1 hext ?_
 refine jB 113 [rS u] (eO (by omega)) ?_
 refine iJ 27 9 (aJ u:Nat) false h9 ?_
 refine cV 30 9 Tryz.underlying9 u ?_
 refine yE 31 32 (u.size) (aJ u) (cL _) (by omega) ?_
 refine iJ 33 10 ((u.size-aJ u:Nat):Int) false h10 ?_
 refine rshi 36 37 9 Tryz.underlying9 u (aJ u) d1 (cL _) hd1 ?_
 refine jB 150 [rS d1] v1 ?_
 refine cV 41 9 Tryz.underlying9 u ?_
 refine uX 40 42 (aJ u:Nat) (u.size:Nat) false hlt ?_
 refine jL (.binOp .sub 3 (.const (.int .i64 0)) (.tmp 50) 3) (.const (.int .i64 0)) (.tmp 50) (.fv (.sc (.lit (.int .i64 0)))) (rI n1) (rI (-(n1:Int))) (fun ρ o β w ho hx hy=>⟨_,neg_run ho (bZ hx) (bD hy) hn1,dC⟩) ?_
 exact jS Tryz.func93
theorem quick_yes2n (h20:decide ((20:Int)<s.size)=false) (h0:decide ((0:Int)<s.size)=true) (h1:1≤s.size) (hc:∃ h:0<s.size,(s[0]'h).toNat=45) (hext:s.extract 1 s.size=u) (hus:u.size≤s.size) (hn1:n1<4611686018427387904) (h9:decide ((9:Int)<(aJ u:Nat))=false) (h10:decide ((10:Int)<((u.size-aJ u:Nat):Int))=false) (hd1:u.extract 0 (aJ u)=d1) (v1:jF 150 [rS d1] (rI n1)) (hlt:decide (((aJ u:Nat):Int)<(u.size:Nat))=true) (hd2:u.extract (aJ u+1) u.size=d2) (v2:jF 150 [rS d2] (rI n2)):jF 93 [rS s] (.tup [.sc (.sp (gZ (.int .i64 (-(n1:Int))) rfl false (fun h=>by cases h))),.sc (.sp (gZ (.int .i64 (n2:Int)) rfl false (fun h=>by cases h))),.sc (.lit (.bool true))]):=by
 have hs20:s.size≤20:=by rw [decide_eq_false_iff_not] at h20;omega
 refine jT Tryz.func93 fun w00=>?_
 refine cV 11 9 Tryz.underlying9 s ?_
 refine iJ 12 20 s.size false h20 ?_
 refine cV 14 9 Tryz.underlying9 s ?_
 refine iJ 15 0 s.size true h0 ?_
 refine ridn 18 s hc ?_
 refine rsl1 23 9 Tryz.underlying9 s u h1 hext ?_
 refine jB 113 [rS u] (eO (by omega)) ?_
 refine iJ 27 9 (aJ u:Nat) false h9 ?_
 refine cV 30 9 Tryz.underlying9 u ?_
 refine yE 31 32 (u.size) (aJ u) (cL _) (by omega) ?_
 refine iJ 33 10 ((u.size-aJ u:Nat):Int) false h10 ?_
 refine rshi 36 37 9 Tryz.underlying9 u (aJ u) d1 (cL _) hd1 ?_
 refine jB 150 [rS d1] v1 ?_
 refine cV 41 9 Tryz.underlying9 u ?_
 refine uX 40 42 (aJ u:Nat) (u.size:Nat) true hlt ?_
 refine radd 45 (aJ u) (by have:=cL u;omega) ?_
 refine rslo 44 46 9 Tryz.underlying9 u (aJ u+1) d2 (by have:=of_decide_eq_true hlt;omega) hd2 ?_
 refine jB 150 [rS d2] v2 ?_
 refine jL (.binOp .sub 3 (.const (.int .i64 0)) (.tmp 50) 3) (.const (.int .i64 0)) (.tmp 50) (.fv (.sc (.lit (.int .i64 0)))) (rI n1) (rI (-(n1:Int))) (fun ρ o β w ho hx hy=>⟨_,neg_run ho (bZ hx) (bD hy) hn1,dC⟩) ?_
 exact jS Tryz.func93
theorem quick_yes1p (h20:decide ((20:Int)<s.size)=false) (h0:decide ((0:Int)<s.size)=true) (hc:∃ h:0<s.size,(s[0]'h).toNat=c) (hc45:((c:Int)==45)=false) (h9:decide ((9:Int)<(aJ s:Nat))=false) (h10:decide ((10:Int)<((s.size-aJ s:Nat):Int))=false) (hd1:s.extract 0 (aJ s)=d1) (v1:jF 150 [rS d1] (rI n1)) (hlt:decide (((aJ s:Nat):Int)<(s.size:Nat))=false):jF 93 [rS s] (.tup [.sc (.sp (gZ (.int .i64 (n1:Int)) rfl false (fun h=>by cases h))),.sc (.lit (.int .i64 1)),.sc (.lit (.bool true))]):=by
 have hs20:s.size≤20:=by rw [decide_eq_false_iff_not] at h20;omega
 refine jT Tryz.func93 fun w00=>?_
 refine cV 11 9 Tryz.underlying9 s ?_
 refine iJ 12 20 s.size false h20 ?_
 refine cV 14 9 Tryz.underlying9 s ?_
 refine iJ 15 0 s.size true h0 ?_
 refine ridp 18 s c hc ?_
 refine rueq 19 c hc45 ?_
 refine jB 113 [rS s] (eO (by omega)) ?_
 refine iJ 27 9 (aJ s:Nat) false h9 ?_
 refine cV 30 9 Tryz.underlying9 s ?_
 refine yE 31 32 (s.size) (aJ s) (cL _) (by omega) ?_
 refine iJ 33 10 ((s.size-aJ s:Nat):Int) false h10 ?_
 refine rshi 36 37 9 Tryz.underlying9 s (aJ s) d1 (cL _) hd1 ?_
 refine jB 150 [rS d1] v1 ?_
 refine cV 41 9 Tryz.underlying9 s ?_
 refine uX 40 42 (aJ s:Nat) (s.size:Nat) false hlt ?_
 exact jS Tryz.func93
theorem quick_yes2p (h20:decide ((20:Int)<s.size)=false) (h0:decide ((0:Int)<s.size)=true) (hc:∃ h:0<s.size,(s[0]'h).toNat=c) (hc45:((c:Int)==45)=false) (h9:decide ((9:Int)<(aJ s:Nat))=false) (h10:decide ((10:Int)<((s.size-aJ s:Nat):Int))=false) (hd1:s.extract 0 (aJ s)=d1) (v1:jF 150 [rS d1] (rI n1)) (hlt:decide (((aJ s:Nat):Int)<(s.size:Nat))=true) (hd2:s.extract (aJ s+1) s.size=d2) (v2:jF 150 [rS d2] (rI n2)):jF 93 [rS s] (.tup [.sc (.sp (gZ (.int .i64 (n1:Int)) rfl false (fun h=>by cases h))),.sc (.sp (gZ (.int .i64 (n2:Int)) rfl false (fun h=>by cases h))),.sc (.lit (.bool true))]):=by
 have hs20:s.size≤20:=by rw [decide_eq_false_iff_not] at h20;omega
 refine jT Tryz.func93 fun w00=>?_
 refine cV 11 9 Tryz.underlying9 s ?_
 refine iJ 12 20 s.size false h20 ?_
 refine cV 14 9 Tryz.underlying9 s ?_
 refine iJ 15 0 s.size true h0 ?_
 refine ridp 18 s c hc ?_
 refine rueq 19 c hc45 ?_
 refine jB 113 [rS s] (eO (by omega)) ?_
 refine iJ 27 9 (aJ s:Nat) false h9 ?_
 refine cV 30 9 Tryz.underlying9 s ?_
 refine yE 31 32 (s.size) (aJ s) (cL _) (by omega) ?_
 refine iJ 33 10 ((s.size-aJ s:Nat):Int) false h10 ?_
 refine rshi 36 37 9 Tryz.underlying9 s (aJ s) d1 (cL _) hd1 ?_
 refine jB 150 [rS d1] v1 ?_
 refine cV 41 9 Tryz.underlying9 s ?_
 refine uX 40 42 (aJ s:Nat) (s.size:Nat) true hlt ?_
 refine radd 45 (aJ s) (by have:=cL s;omega) ?_
 refine rslo 44 46 9 Tryz.underlying9 s (aJ s+1) d2 (by have:=of_decide_eq_true hlt;omega) hd2 ?_
 refine jB 150 [rS d2] v2 ?_
 exact jS Tryz.func93
end
def Sq (q:Rat):Prop:=(decB q.num.natAbs).size≤9∧(q.den=1∨(decB q.den).size≤9)
theorem lY {q:Rat} (h:q.den=1):bC q=aZ (q.num.natAbs:Int):=by unfold bC;rw [if_pos h,cH]
theorem oE {q:Rat} (h:q.den≠1):bC q=aZ (q.num.natAbs:Int)++(⟨#[47]⟩++decB q.den):=by unfold bC;rw [if_neg h,cH]
theorem mY (q:Rat):aJ (bC q)=(decB q.num.natAbs).size:=by
 by_cases h:q.den=1
 ·rw [lY h,tI,cH]
 ·rw [oE h,tJ,cH]
theorem size47:(⟨#[47]⟩:ByteArray).size=1:=rfl
theorem size45:(⟨#[45]⟩:ByteArray).size=1:=rfl
theorem oF (q:Rat):(bC q).size=(decB q.num.natAbs).size+if q.den=1 then 0 else 1+(decB q.den).size:=by
 by_cases h:q.den=1
 ·rw [lY h,cH,if_pos h];rfl
 ·rw [oE h,if_neg h,ByteArray.size_append,ByteArray.size_append,cH,size47]
theorem tL (q:Rat):∃ c:Nat,(∃ h:0<(bC q).size,((bC q)[0]'h).toNat=c)∧((c:Int)==45)=false:=by
 obtain ⟨c,r,e,hc⟩:=tD q
 have h0:0<(bC q).size:=by
  have:(bC q).size=(bC q).data.toList.length:=rfl
  rw [this,e];simp
 have h1:=cW h0
 have h2:aC (bC q)=c::r:=e
 rw [h2] at h1
 simp at h1
 refine ⟨c.toNat,⟨h0,by rw [← h1]⟩,?_⟩
 simp;omega
theorem gM {q:Rat} (h:q.num<0):1≤(writeB q).size∧(∃ h:0<(writeB q).size,((writeB q)[0]'h).toNat=45)∧(writeB q).extract 1 (writeB q).size=bC q∧(bC q).size≤(writeB q).size∧(writeB q).size=(bC q).size+1:=by
 have e:writeB q=⟨#[45]⟩++bC q:=lP h
 have hsz:(writeB q).size=(bC q).size+1:=by rw [e,ByteArray.size_append,size45];omega
 have h0:0<(writeB q).size:=by omega
 refine ⟨h0,⟨h0,?_⟩,?_,by omega,hsz⟩
 ·have h1:=cW h0
  have h2:aC (writeB q)=45::aC (bC q):=by rw [e];simp [aC]
  rw [h2] at h1
  simp at h1
  rw [← h1];rfl
 ·have h2:aC (writeB q)=45::aC (bC q):=by rw [e];simp [aC]
  have:aC ((writeB q).extract 1 (writeB q).size)=aC (bC q):=by
   rw [aT,List.take_of_length_le (by rw [aG];exact aR _),h2];rfl
  exact ba_ext this
theorem kH {q:Rat} (hq:¬ Sq q):jF 93 [rS (writeB q)] qno:=by
 by_cases h20:20<(writeB q).size
 ·exact quick_long (by rw [decide_eq_true_iff];omega)
 have hbs:=oF q
 have hsl:=mY q
 by_cases hn:q.num<0
 ·obtain ⟨f1,f2,f3,f4,f5⟩:=gM hn
  by_cases h9:9<(decB q.num.natAbs).size
  ·exact quick_k9n (by rw [decide_eq_false_iff_not];omega) (by rw [decide_eq_true_iff];omega) f1 f2 f3 f4 (by rw [hsl,decide_eq_true_iff];omega)
  ·refine quick_l10n (by rw [decide_eq_false_iff_not];omega) (by rw [decide_eq_true_iff];omega) f1 f2 f3 f4 (by rw [hsl,decide_eq_false_iff_not];omega) ?_
   rw [hsl,decide_eq_true_iff,hbs]
   have hd:¬ (q.den=1∨(decB q.den).size≤9):=fun h=>hq ⟨by omega,h⟩
   rw [if_neg (fun h=>hd (.inl h))]
   have:¬ (decB q.den).size≤9:=fun h=>hd (.inr h)
   omega
 ·have hw:=dU hn
  obtain ⟨c,c1,c2⟩:=tL q
  have h0:0<(bC q).size:=c1.1
  rw [hw] at h20 ⊢
  by_cases h9:9<(decB q.num.natAbs).size
  ·exact quick_k9p (by rw [decide_eq_false_iff_not];omega) (by rw [decide_eq_true_iff];omega) c1 c2 (by rw [hsl,decide_eq_true_iff];omega)
  ·refine quick_l10p (by rw [decide_eq_false_iff_not];omega) (by rw [decide_eq_true_iff];omega) c1 c2 (by rw [hsl,decide_eq_false_iff_not];omega) ?_
   rw [hsl,decide_eq_true_iff,hbs]
   have hd:¬ (q.den=1∨(decB q.den).size≤9):=fun h=>hq ⟨by omega,h⟩
   rw [if_neg (fun h=>hd (.inl h))]
   have:¬ (decB q.den).size≤9:=fun h=>hd (.inr h)
   omega
def csAny:CS Kr where
 size:=1
 cold:=false
 pred cs _ := ∃ n:Int,cs = [.int .i64 n]
 stable _ _ _ h _:=h
 len cs w h:=by obtain ⟨v,e⟩:=h;rw [e];rfl
 one cs w h:=by obtain ⟨v,e⟩:=h;rw [e];intro d hd;rw [List.mem_singleton] at hd;rw [hd];rfl
 iscold h:=by cases h
abbrev qany (b:Bool):AV Kr := .tup [.sc (.sp csAny),.sc (.sp csAny),.sc (.lit (.bool b))]
theorem kI {β:List Nat} {v:Value} {w:World} (h:qno.holds β v w):(qany false).holds β v w:=by
 obtain ⟨vs,rfl,a,r,rfl,h1,b,r2,rfl,h2,c,r3,rfl,h3,h4⟩:=h
 exact ⟨_,rfl,a,_,rfl,⟨0,h1.1⟩,b,_,rfl,⟨0,h2.1⟩,c,_,rfl,h3,h4⟩
theorem pow_lift {a k n:Nat} (h:a<10^k) (hk:k≤n):a<B9^n :=
 Nat.lt_of_lt_of_le h (Nat.le_trans (Nat.pow_le_pow_right (by omega) hk) (Nat.pow_le_pow_left (by unfold B9;omega) _))
theorem gG {a k:Nat} (h:a<10^k) (hk:k≤1099511627776):Bd a:=by
 obtain ⟨n,hn⟩:∃ n,n=1099511627776:=⟨_,rfl⟩
 unfold Bd
 rw [← hn] at hk ⊢
 exact pow_lift h hk
theorem bd1_of {a k:Nat} (h:a<10^k) (hk:k≤100000000):a<B9^100000000:=by
 obtain ⟨n,hn⟩:∃ n,n=100000000:=⟨_,rfl⟩
 rw [← hn] at hk ⊢
 exact pow_lift h hk
theorem zS {z:Int} {k:Nat} (h:z.natAbs<10^(k+1)):(aZ z).size≤k+2:=by
 have:=decB_size h
 unfold aZ
 split
 ·rw [ByteArray.size_append,size45];omega
 ·omega
def Zs (k:Nat) (q:Rat):Prop:=q.num.natAbs<10^(k+1)∧q.den<10^(k+1)
theorem fracW {n:Int} {d k:Nat} (hk:k≤1000000) (hn:n.natAbs<10^(k+1)) (hd:d<10^(k+1)) (h0:0<d):jF 96 [iz n,pz d] (rS (writeB (mkRat n d))):=by
 have h:=fractionF (n:=n) (d:=d) (gG hn (by omega)) (gG hd (by omega)) h0 (bd1_of hn (by omega)) (bd1_of hd (by omega))
  (by have:=zS (k:=k) (z:=iV (decide (n<0)) (n.natAbs/Nat.gcd n.natAbs d)) (by rw [sgz_abs];exact Nat.lt_of_le_of_lt (Nat.div_le_self _ _) hn);omega)
  (by have:=zS (k:=k) (z:=((d/Nat.gcd n.natAbs d:Nat):Int)) (by rw [Int.natAbs_natCast];exact Nat.lt_of_le_of_lt (Nat.div_le_self _ _) hd);omega)
 rw [xO n h0] at h
 exact h
theorem oG {a b k:Nat} (ha:a<10^(k+1)) (hb:b<10^(k+1)):a*b<10^(2*k+1+1):=by
 have:10^(2*k+1+1)=10^(k+1)*10^(k+1):=by rw [← Nat.pow_add];congr 1;omega
 rw [this]
 exact Nat.mul_lt_mul'' ha hb
theorem add_lt10 {a b k:Nat} (ha:a<10^(k+1)) (hb:b<10^(k+1)):a+b<10^(k+1+1):=by
 have:10^(k+1+1)=10^(k+1)*10:=Nat.pow_succ _ _
 omega
theorem vH {k:Nat} {q:Rat} (h:Zs k q) (hk:k≤10000):(decB q.num.natAbs).size≤100000∧(decB q.den).size≤100000:=by
 have h1:=decB_size h.1
 have h2:=decB_size h.2
 omega
section
variable {p q:Rat} {b1 b2:Bool}
theorem mulBig (hp:Zs 10000 p) (hq:Zs 10000 q) (q1:jF 93 [rS (writeB p)] (qany b1)) (q2:jF 93 [rS (writeB q)] (qany b2)) (hb:(b1&&b2)=false) :
 jF 202 [rS (writeB p),rS (writeB q)] (rS (writeB (p*q))):=by
 have hn:=oG hp.1 hq.1
 rw [← Int.natAbs_mul] at hn
 have hd:=oG hp.2 hq.2
 have s1:=vH hp (aR _)
 have s2:=vH hq (aR _)
 have hf:=fracW (by omega) hn hd (Nat.mul_pos p.den_pos q.den_pos)
 rw [← Rat.mul_def'] at hf
 have w1:=partsF s1.1 s1.2
 have w2:=partsF s2.1 s2.2
 have t1:=timesZ (gG hp.1 (by omega)) (gG hq.1 (by omega))
 have t2:=timesPP (gG hp.2 (by omega)) (gG hq.2 (by omega))
 generalize writeB p=s at *
 generalize writeB q=u at *
 cases b1 <;> cases b2 <;> first|cases hb|skip
 all_goals
  refine jT Tryz.func202 fun w00=>?_
  refine jB 93 [rS s] q1 ?_
  refine jB 93 [rS u] q2 ?_
  refine jB 95 [rS s] w1 ?_
  refine jB 95 [rS u] w2 ?_
  refine jB 98 [iz p.num,iz q.num] t1 ?_
  refine jB 98 [pz p.den,pz q.den] t2 ?_
  refine jB 96 [iz (p.num*q.num),pz (p.den*q.den)] hf ?_
  exact jS Tryz.func202
theorem addBig (hp:Zs 10000 p) (hq:Zs 10000 q) (q1:jF 93 [rS (writeB p)] (qany b1)) (q2:jF 93 [rS (writeB q)] (qany b2)) (hb:(b1&&b2)=false) :
 jF 37 [rS (writeB p),rS (writeB q)] (rS (writeB (p+q))):=by
 obtain ⟨K,hK⟩:∃ K,K=10000:=⟨_,rfl⟩
 rw [← hK] at hp hq
 have hn1:(p.num*(q.den:Int)).natAbs<10^(2*K+1+1):=Nat.lt_of_le_of_lt (Nat.le_of_eq (by rw [Int.natAbs_mul,Int.natAbs_natCast])) (oG hp.1 hq.2)
 have hn2:(q.num*(p.den:Int)).natAbs<10^(2*K+1+1):=Nat.lt_of_le_of_lt (Nat.le_of_eq (by rw [Int.natAbs_mul,Int.natAbs_natCast])) (oG hq.1 hp.2)
 have hn:(p.num*(q.den:Int)+q.num*(p.den:Int)).natAbs<10^(2*K+1+1+1):=Nat.lt_of_le_of_lt (Int.natAbs_add_le _ _) (add_lt10 hn1 hn2)
 have hd:p.den*q.den<10^(2*K+1+1+1):=Nat.lt_of_lt_of_le (oG hp.2 hq.2) (Nat.pow_le_pow_right (by omega) (by omega))
 have s1:=vH hp (by omega)
 have s2:=vH hq (by omega)
 have hf:=fracW (by omega) hn hd (Nat.mul_pos p.den_pos q.den_pos)
 rw [← Rat.add_def'] at hf
 have w1:=partsF s1.1 s1.2
 have w2:=partsF s2.1 s2.2
 have t1:=timesZP (a:=p.num) (b:=q.den) (gG hp.1 (by omega)) (gG hq.2 (by omega))
 have t2:=timesZP (a:=q.num) (b:=p.den) (gG hq.1 (by omega)) (gG hp.2 (by omega))
 have t3:=timesPP (gG hp.2 (by omega)) (gG hq.2 (by omega))
 have t4:=plusZ (gG hn1 (by omega)) (gG hn2 (by omega))
 generalize writeB p=s at *
 generalize writeB q=u at *
 cases b1 <;> cases b2 <;> first|cases hb|skip
 all_goals
  refine jT Tryz.func37 fun w00=>?_
  refine jB 93 [rS s] q1 ?_
  refine jB 93 [rS u] q2 ?_
  refine jB 95 [rS s] w1 ?_
  refine jB 95 [rS u] w2 ?_
  refine jB 98 [iz p.num,pz q.den] t1 ?_
  refine jB 98 [iz q.num,pz p.den] t2 ?_
  refine jB 97 [iz (p.num*(q.den:Int)),iz (q.num*(p.den:Int))] t4 ?_
  refine jB 98 [pz p.den,pz q.den] t3 ?_
  refine jB 96 [iz (p.num*(q.den:Int)+q.num*(p.den:Int)),pz (p.den*q.den)] hf ?_
  exact jS Tryz.func37
end
end Ab
section
open Go.RowKit Pl
theorem zT (b:ByteArray):(⟨#[]⟩:ByteArray)++b=b:=Ab.ba_ext (by simp)
set_option maxRecDepth 100000 in
theorem of_pos (a d:Nat) (w:World) (ha:a≤4000000000000000000) (hd:d≤4000000000000000000) (hd0:0<d) (p q g:Nat) (hg:g=Nat.gcd a d) (hp:p=a/g) (hq:q=d/g) :
 Calls Tryz.prog 94 #[.int .i64 (a:Int),.int .i64 (d:Int)] w fun e w'=>e = .returned (.string (if q=1 then Ab.decB p else Ab.decB p++⟨#[47]⟩++Ab.decB q))∧Below w.heap.size w w':=by
 have hg0:0<g:=by rw [hg];exact Nat.gcd_pos_of_pos_right _ hd0
 have hpa:p≤a:=by rw [hp];exact Nat.div_le_self _ _
 have hqd:q≤d:=by rw [hq];exact Nat.div_le_self _ _
 have hq0:0<q:=by rw [hq,hg];exact Nat.div_pos (Nat.gcd_le_right _ hd0) (Nat.gcd_pos_of_pos_right _ hd0)
 have cg:=aH (rgcd_any a d w (by omega) (by omega))
 rw [← hg] at cg
 have c1:=aH (fun W=>oA p W (by omega))
 have c2:=aH (fun W=>oA q W (by omega))
 have s1:(Ab.decB p).size≤19:=Ab.decB_size (k:=18) (by omega)
 have s2:(Ab.decB q).size≤19:=Ab.decB_size (k:=18) (by omega)
 have T:=aH (show wrap64 ((a:Int)/(g:Int))=(p:Int)∧wrap64 ((d:Int)/(g:Int))=(q:Int) from by
  have e1:(a:Int)/(g:Int)=(p:Int):=by rw [hp];simp
  have e2:(d:Int)/(g:Int)=(q:Int):=by rw [hq];simp
  rw [e1,e2]
  exact ⟨IntWalk.wrap64_in _ ⟨by omega,by omega⟩,IntWalk.wrap64_in _ ⟨by omega,by omega⟩⟩)
 have hz0:((g:Int)==0)=false:=by simp;omega
 have hz1:¬ (g:Int)=0:=by omega
 have hz3:((g:Int) == -1)=false:=by simp
 have b1:(a:Int)≤4000000000000000000:=by omega
 have b2:(d:Int)≤4000000000000000000:=by omega
 have b3:(p:Int)≤4000000000000000000:=by omega
 have b4:(q:Int)≤4000000000000000000:=by omega
 have b5:(1:Int)≤d:=by omega
 have b6:(1:Int)≤q:=by omega
 have HQ:=aH (aI hq0 (aI s1 s2))
 obtain ⟨res,hqq⟩:∃ res,res=(if q=1 then Ab.decB p else Ab.decB p++⟨#[47]⟩++Ab.decB q):=⟨_,rfl⟩
 rw [← hqq]
 have HQQ:=aH hqq
 clear hqq
 clear hg hp hq hpa hqd hg0 hd0 ha hd hq0 s1 s2
 go_enter Tryz.func94,Tryz.ntmps94
 go_wp2_with fail
 rw [show max (a:Int) (-(a:Int))=(a:Int) by omega]
 refine (cg.out).mono ?_
 rintro e w1 ⟨rfl,hb⟩
 go_wp2
 go_quiet (fail)
 have hb2:=bW hb nq
 clear hb
 generalize w1.drewN nq=w2 at *
 rw [T.out.1,T.out.2]
 go_wp2_with fail
 rw [show max (p:Int) (-(p:Int))=(p:Int) by omega]
 refine (c1.out _).mono ?_
 rintro e w3 ⟨rfl,rfl⟩
 obtain ⟨h0,s1,s2⟩:=HQ.out
 by_cases hq1:q=1
 ·have k1:¬ (1:Int)<q:=by omega
  have hr:=aH (HQQ.out.trans (if_pos hq1))
  clear hq1 h0 HQQ
  go_wp2
  go_ret
  have E:(⟨#[]⟩:ByteArray)++Ab.decB p=res:=by rw [hr.out];rw [zT]
  exact ⟨congrArg (fun s=>Ending.returned (Value.string s)) E,hb2⟩
 ·have k1:(1:Int)<q:=by omega
  have hr:=aH (HQQ.out.trans (if_neg hq1))
  clear hq1 h0 HQQ
  go_wp2_with fail
  refine (c2.out _).mono ?_
  rintro e w4 ⟨rfl,rfl⟩
  go_wp2
  go_ret
  have E:(⟨#[]⟩:ByteArray)++Ab.decB p++⟨#[47]⟩++Ab.decB q=res:=by rw [hr.out];rw [zT]
  exact ⟨congrArg (fun s=>Ending.returned (Value.string s)) E,hb2⟩
set_option maxRecDepth 100000 in
theorem of_neg (a d:Nat) (w:World) (ha0:0<a) (ha:a≤4000000000000000000) (hd:d≤4000000000000000000) (hd0:0<d) (p q g:Nat) (hg:g=Nat.gcd a d) (hp:p=a/g) (hq:q=d/g) :
 Calls Tryz.prog 94 #[.int .i64 (-(a:Int)),.int .i64 (d:Int)] w fun e w'=>e = .returned (.string (if q=1 then (⟨#[45]⟩++Ab.decB p) else (⟨#[45]⟩++Ab.decB p)++⟨#[47]⟩++Ab.decB q))∧Below w.heap.size w w':=by
 have hg0:0<g:=by rw [hg];exact Nat.gcd_pos_of_pos_right _ hd0
 have hpa:p≤a:=by rw [hp];exact Nat.div_le_self _ _
 have hqd:q≤d:=by rw [hq];exact Nat.div_le_self _ _
 have hq0:0<q:=by rw [hq,hg];exact Nat.div_pos (Nat.gcd_le_right _ hd0) (Nat.gcd_pos_of_pos_right _ hd0)
 have hp0:0<p:=by rw [hp,hg];exact Nat.div_pos (Nat.gcd_le_left _ ha0) (Nat.gcd_pos_of_pos_left _ ha0)
 have cg:=aH (rgcd_any a d w (by omega) (by omega))
 rw [← hg] at cg
 have c1:=aH (fun W=>oA p W (by omega))
 have c2:=aH (fun W=>oA q W (by omega))
 have s1:(Ab.decB p).size≤19:=Ab.decB_size (k:=18) (by omega)
 have s2:(Ab.decB q).size≤19:=Ab.decB_size (k:=18) (by omega)
 have T:=aH (show wrap64 (-((a:Int)/(g:Int)))=(-(p:Int))∧wrap64 ((d:Int)/(g:Int))=(q:Int) from by
  have e1:(a:Int)/(g:Int)=(p:Int):=by rw [hp];simp
  have e2:(d:Int)/(g:Int)=(q:Int):=by rw [hq];simp
  rw [e1,e2]
  exact ⟨IntWalk.wrap64_in _ ⟨by omega,by omega⟩,IntWalk.wrap64_in _ ⟨by omega,by omega⟩⟩)
 have hz0:((g:Int)==0)=false:=by simp;omega
 have hz1:¬ (g:Int)=0:=by omega
 have hz3:((g:Int) == -1)=false:=by simp
 have b1:(a:Int)≤4000000000000000000:=by omega
 have b2:(d:Int)≤4000000000000000000:=by omega
 have b3:(p:Int)≤4000000000000000000:=by omega
 have b4:(q:Int)≤4000000000000000000:=by omega
 have b5:(1:Int)≤d:=by omega
 have b6:(1:Int)≤q:=by omega
 have b7:(1:Int)≤a:=by omega
 have b8:(1:Int)≤p:=by omega
 have HQ:=aH (aI hq0 (aI s1 s2))
 obtain ⟨res,hqq⟩:∃ res,res=(if q=1 then (⟨#[45]⟩++Ab.decB p) else (⟨#[45]⟩++Ab.decB p)++⟨#[47]⟩++Ab.decB q):=⟨_,rfl⟩
 rw [← hqq]
 have HQQ:=aH hqq
 clear hqq
 clear hg hp hq hpa hqd hg0 hd0 ha hd hq0 s1 s2
 go_enter Tryz.func94,Tryz.ntmps94
 go_wp2_with fail
 rw [show max (-(a:Int)) (a:Int)=(a:Int) by omega]
 refine (cg.out).mono ?_
 rintro e w1 ⟨rfl,hb⟩
 go_wp2
 go_quiet (fail)
 have hb2:=bW hb nq
 clear hb
 generalize w1.drewN nq=w2 at *
 rw [T.out.1,T.out.2]
 go_wp2_with fail
 rw [show max (-(p:Int)) (p:Int)=(p:Int) by omega]
 refine (c1.out _).mono ?_
 rintro e w3 ⟨rfl,rfl⟩
 obtain ⟨h0,s1,s2⟩:=HQ.out
 by_cases hq1:q=1
 ·have k1:¬ (1:Int)<q:=by omega
  have hr:=aH (HQQ.out.trans (if_pos hq1))
  clear hq1 h0 HQQ
  go_wp2
  go_ret
  have E:(⟨#[45]⟩:ByteArray)++Ab.decB p=res:=by rw [hr.out]
  exact ⟨congrArg (fun s=>Ending.returned (Value.string s)) E,hb2⟩
 ·have k1:(1:Int)<q:=by omega
  have hr:=aH (HQQ.out.trans (if_neg hq1))
  clear hq1 h0 HQQ
  go_wp2_with fail
  refine (c2.out _).mono ?_
  rintro e w4 ⟨rfl,rfl⟩
  go_wp2
  go_ret
  have E:(⟨#[45]⟩:ByteArray)++Ab.decB p++⟨#[47]⟩++Ab.decB q=res:=by rw [hr.out]
  exact ⟨congrArg (fun s=>Ending.returned (Value.string s)) E,hb2⟩
end
namespace Ab
open Go.RowKit Pl
def zeroT:ByteArray:=⟨#[48]⟩
def oneT:ByteArray:=⟨#[49]⟩
def decF (s:ByteArray):Bool:=if s.size=0 then false else if 1<s.size∧(aC s).head?=some 48 then false else fZ s
theorem decF_dec (n:Nat):decF (decB n)=true:=by
 unfold decF
 have e:aC (decB n)=Lib.decDigits n:=cU n
 rw [if_neg (by have:=rX n;omega),if_neg,uJ]
 ·exact fC n
 ·rintro ⟨h1,h2⟩
  rw [e] at h2
  by_cases h0:0<n
  ·exact wF h0 h2
  ·have:n=0:=by omega
   subst this
   rw [dec0] at h1
   exact absurd h1 (by decide)
theorem oV {s:ByteArray} (h:decF s=true):s=decB (aU (aC s)):=by
 unfold decF at h
 split at h
 ·cases h
 ·split at h
  ·cases h
  ·rename_i h0 h1
   have hd:=uJ.1 h
   refine ba_ext ?_
   rw [cU]
   refine (yS (aC s).length (aC s) rfl hd ?_ ?_).symm
   ·intro e;apply h0;rw [← aG,e];rfl
   ·by_cases hl:(aC s).length=1
    ·exact .inl hl
    ·right;intro e;apply h1
     refine ⟨?_,e⟩
     rw [aG] at hl
     omega
def jU (s:ByteArray):Bool:=(aC s).head?==some 45
def bT (s:ByteArray):ByteArray:=if jU s=true then s.extract 1 s.size else s
def eR (s:ByteArray):Int :=
 if decF ((bT s).extract 0 (aJ (bT s)))=false∨(jU s=true∧(bT s).extract 0 (aJ (bT s))=zeroT) then 1
 else if aJ (bT s)<(bT s).size∧(decF ((bT s).extract (aJ (bT s)+1) (bT s).size)=false∨(bT s).extract (aJ (bT s)+1) (bT s).size=zeroT∨(bT s).extract (aJ (bT s)+1) (bT s).size=oneT) then 1
 else if 600<aJ (bT s)∨600<(bT s).size-aJ (bT s)-1 then 4
 else if aJ (bT s)<(bT s).size∧Nat.gcd (aU (aC ((bT s).extract 0 (aJ (bT s))))) (aU (aC ((bT s).extract (aJ (bT s)+1) (bT s).size)))≠1 then 1 else 0
theorem sA {n m:Nat} (h:decB n=decB m):n=m:=by rw [← eN n,h,eN]
theorem ext_all (s:ByteArray):s.extract 0 s.size=s:=by
 refine ba_ext ?_
 show aC (s.extract 0 s.size)=aC s
 rw [aT,List.drop_zero,List.take_of_length_le (by rw [aG];exact aR _)]
theorem slash_split {s:ByteArray} (h:aJ s<s.size):s=s.extract 0 (aJ s)++(⟨#[47]⟩++s.extract (aJ s+1) s.size):=by
 refine ba_ext ?_
 show aC s=aC _
 have e1:aC (s.extract 0 (aJ s)++(⟨#[47]⟩++s.extract (aJ s+1) s.size))=aC (s.extract 0 (aJ s))++(47::aC (s.extract (aJ s+1) s.size)):=by simp [aC]
 have e2:(aC s).take s.size=aC s:=List.take_of_length_le (by rw [aG];exact aR _)
 rw [e1,aT,aT,List.drop_zero,e2]
 have hl:aJ s<(aC s).length:=by rw [aG];exact h
 have hk:(aC s)[aJ s]'hl=47:=by
  have:=List.findIdx_getElem (xs:=aC s) (p:=fun c=>c==47) (w:=hl)
  exact eq_of_beq this
 conv=>lhs;rw [← List.take_append_drop (aJ s) (aC s),List.drop_eq_getElem_cons hl,hk]
theorem neg_split {s:ByteArray} (h:jU s=true):s=⟨#[45]⟩++bT s:=by
 have hh:(aC s).head?=some 45:=eq_of_beq h
 refine ba_ext ?_
 show aC s=aC _
 unfold bT
 rw [if_pos h]
 have e1:aC (⟨#[45]⟩++s.extract 1 s.size)=45::aC (s.extract 1 s.size):=by simp [aC]
 rw [e1,aT,List.take_of_length_le (by rw [aG];exact aR _)]
 generalize aC s=l at hh ⊢
 cases l with
 | nil=>cases hh
 | cons c r =>
   injection hh with hh
   rw [hh];rfl
theorem uM (q:Rat):jU (writeB q)=decide (q.num<0)∧bT (writeB q)=bC q:=by
 by_cases hn:q.num<0
 ·obtain ⟨f1,⟨h0,hc⟩,f3,f4,f5⟩:=gM hn
  have e:jU (writeB q)=true:=by
   unfold jU
   have h2:aC (writeB q)=45::aC (bC q):=by rw [lP hn];simp [aC]
   rw [h2];rfl
  refine ⟨by rw [e,decide_eq_true hn],?_⟩
  unfold bT
  rw [if_pos e,f3]
 ·have e:jU (writeB q)=false:=by
   unfold jU
   obtain ⟨c,r,h1,h2⟩:=tD q
   have h3:aC (bC q)=c::r:=h1
   rw [dU hn,h3]
   show (some c==some 45)=false
   rw [beq_eq_false_iff_ne]
   intro h
   injection h with h
   rw [h] at h2
   exact absurd h2 (by decide)
  refine ⟨by rw [e,decide_eq_false hn],?_⟩
  unfold bT
  rw [if_neg (by rw [e];exact Bool.false_ne_true),dU hn]
theorem body_cut (q:Rat):(bC q).extract 0 (aJ (bC q))=decB q.num.natAbs∧(q.den≠1→(bC q).extract (aJ (bC q)+1) (bC q).size=decB q.den)∧(aJ (bC q)<(bC q).size↔q.den≠1):=by
 have hsl:=mY q
 have hsz:=oF q
 refine ⟨?_,fun hd=>?_,?_⟩
 ·rw [hsl]
  by_cases h:q.den=1
  ·rw [lY h,cH,ext_all]
  ·rw [oE h,cH,ext_lo]
 ·rw [hsl,oE hd,cH]
  exact ext_hi _ _
 ·rw [hsl,hsz]
  by_cases h:q.den=1
  ·rw [if_pos h];simp [h]
  ·rw [if_neg h];simp [h];omega
theorem gcd_of (q:Rat):Nat.gcd q.num.natAbs q.den=1:=q.reduced
theorem uN {q:Rat} (h1:(decB q.num.natAbs).size≤600) (h2:(decB q.den).size≤600):eR (writeB q)=0:=by
 obtain ⟨s1,s2⟩:=uM q
 obtain ⟨c1,c2,c3⟩:=body_cut q
 have hsl:=mY q
 have hsz:=oF q
 unfold eR
 rw [s2,s1,c1]
 rw [if_neg,if_neg,if_neg,if_neg]
 ·rintro ⟨k,e⟩
  have hd:=c3.1 k
  rw [c2 hd,eN,eN] at e
  exact e (gcd_of q)
 ·rw [hsl,hsz]
  by_cases h:q.den=1
  ·rw [if_pos h];omega
  ·rw [if_neg h];omega
 ·rintro ⟨k,e⟩
  have hd:=c3.1 k
  rw [c2 hd] at e
  rcases e with e|e|e
  ·rw [decF_dec] at e;cases e
  ·have:=sA (e.trans dec0.symm)
   exact q.den_nz this
  ·exact hd (sA (e.trans dec1.symm))
 ·rintro (e|⟨e1,e2⟩)
  ·rw [decF_dec] at e;cases e
  ·have:=sA (e2.trans dec0.symm)
   have:=of_decide_eq_true e1
   omega
theorem check_zero {s:ByteArray} (h:eR s=0):∃ q:Rat,s=writeB q∧(decB q.num.natAbs).size≤600∧(decB q.den).size≤600:=by
 unfold eR at h
 split at h
 ·exact absurd h (by decide)
 rename_i g1
 split at h
 ·exact absurd h (by decide)
 rename_i g2
 split at h
 ·exact absurd h (by decide)
 rename_i g3
 split at h
 ·exact absurd h (by decide)
 rename_i g4
 clear h
 obtain ⟨t,ht⟩:∃ t,t=bT s:=⟨_,rfl⟩
 rw [← ht] at g1 g2 g3 g4
 obtain ⟨k,hk⟩:∃ k,k=aJ t:=⟨_,rfl⟩
 rw [← hk] at g1 g2 g3 g4
 have ha:decF (t.extract 0 k)=true:=by
  cases e:decF (t.extract 0 k) with
  | true=>rfl
  | false=>exact absurd (.inl e) g1
 have hz:jU s=true→t.extract 0 k≠zeroT:=fun e1 e2=>g1 (.inr ⟨e1,e2⟩)
 have hae:=oV ha
 obtain ⟨n,hn⟩:∃ n,n=aU (aC (t.extract 0 k)):=⟨_,rfl⟩
 rw [← hn] at hae g4
 have hkl:k≤t.size:=by rw [hk];exact cL t
 have hasz:(decB n).size=k:=by rw [← hae,ByteArray.size_extract];omega
 have hn0:jU s=true→n≠0:=by
  intro e1 e2
  apply hz e1
  rw [hae,e2,dec0];rfl
 obtain ⟨z,hz1,hz2⟩:∃ z:Int,z.natAbs=n∧decide (z<0)=jU s:=by
  cases e:jU s with
  | true=>exact ⟨-(n:Int),by simp,by have:=hn0 e;rw [decide_eq_true_iff];omega⟩
  | false=>exact ⟨(n:Int),by simp,by rw [decide_eq_false_iff_not];omega⟩
 have fin:∀ q:Rat,q.num=z→bC q=t→s=writeB q:=by
  intro q e1 e2
  by_cases hneg:jU s=true
  ·have:q.num<0:=by rw [e1];exact of_decide_eq_true (hz2.trans hneg)
   rw [lP this,e2,ht]
   exact neg_split hneg
  ·have h0:jU s=false:=by cases e:jU s with
    | true=>exact absurd e hneg
    | false=>rfl
   have:¬ q.num<0:=by rw [e1];exact of_decide_eq_false (hz2.trans h0)
   rw [dU this,e2,ht]
   unfold bT
   rw [if_neg hneg]
 by_cases hlt:k<t.size
 ·have hd:decF (t.extract (k+1) t.size)=true:=by
   cases e:decF (t.extract (k+1) t.size) with
   | true=>rfl
   | false=>exact absurd ⟨hlt,.inl e⟩ g2
  have hde:=oV hd
  obtain ⟨m,hm⟩:∃ m,m=aU (aC (t.extract (k+1) t.size)):=⟨_,rfl⟩
  rw [← hm] at hde g4
  have hm0:m≠0:=by
   intro e
   exact g2 ⟨hlt,.inr (.inl (by rw [hde,e,dec0];rfl))⟩
  have hm1:m≠1:=by
   intro e
   exact g2 ⟨hlt,.inr (.inr (by rw [hde,e,dec1];rfl))⟩
  have hg:Nat.gcd n m=1:=by
   by_cases e:Nat.gcd n m=1
   ·exact e
   ·exact absurd ⟨hlt,e⟩ g4
  obtain ⟨p1,p2⟩:=mk_parts z hm0
  rw [hz1,hg] at p1 p2
  have q1:(mkRat z m).num=z:=by rw [p1];simp
  have q2:(mkRat z m).den=m:=by rw [p2];simp
  refine ⟨mkRat z m,fin _ q1 ?_,by rw [q1,hz1,hasz];omega,?_⟩
  ·rw [oE (by rw [q2];exact hm1),cH,q1,hz1,q2,← hae,← hde,hk]
   exact (slash_split (hk▸hlt)).symm
  ·rw [q2,← hde,ByteArray.size_extract];omega
 ·have hkt:k=t.size:=by omega
  have q1:((z:Int):Rat).num=z:=rfl
  have q2:((z:Int):Rat).den=1:=rfl
  refine ⟨(z:Rat),fin _ q1 ?_,by rw [q1,hz1,hasz];omega,by rw [q2,dec1];decide⟩
  rw [lY q2,cH,q1,hz1,← hae,hkt,ext_all]
theorem sB {o:Oper} {ρ:Operand→Value} {w:World} {x y:Operand} {a b:Int} (ho:o.op = .binOp .mul 3 x y 3) (hx:ρ x = .int .i64 a) (hy:ρ y = .int .i64 b) (h:-9223372036854775808≤a*b∧a*b≤9223372036854775807) :
 (execOp ρ o).run Tryz.prog w = .ok (.value (.int .i64 (a*b))) w:=by
 simp only [execOp,ho,hx,hy]
 refine bH ?_
 have e:IntKind.i64.wrap (a*b)=a*b:=by rw [IntWalk.i64_left,IntWalk.wrap64_in _ h]
 simp [go_sem,e]
theorem addi_run {o:Oper} {ρ:Operand→Value} {w:World} {x y:Operand} {a b:Int} (ho:o.op = .binOp .add 3 x y 3) (hx:ρ x = .int .i64 a) (hy:ρ y = .int .i64 b) (h:-9223372036854775808≤a+b∧a+b≤9223372036854775807) :
 (execOp ρ o).run Tryz.prog w = .ok (.value (.int .i64 (a+b))) w:=by
 simp only [execOp,ho,hx,hy]
 refine bH ?_
 have e:IntKind.i64.wrap (a+b)=a+b:=by rw [IntWalk.i64_left,IntWalk.wrap64_in _ h]
 simp [go_sem,e]
theorem mZ {n k:Nat} (h:(decB n).size≤k):n<10^k:=by
 have:=fR (fC n)
 rw [eN,aG] at this
 exact Nat.lt_of_lt_of_le this (Nat.pow_le_pow_right (by omega) h)
abbrev qy (q:Rat):AV Kr := .tup [.sc (.sp (gZ (.int .i64 q.num) rfl false (fun h=>by cases h))),.sc (.sp (gZ (.int .i64 (q.den:Int)) rfl false (fun h=>by cases h))),.sc (.lit (.bool true))]
theorem sC {q:Rat} {β:List Nat} {v:Value} {w:World} (h:(qy q).holds β v w):(qany true).holds β v w:=by
 obtain ⟨vs,rfl,a,r,rfl,h1,b,r2,rfl,h2,c,r3,rfl,h3,h4⟩:=h
 exact ⟨_,rfl,a,_,rfl,⟨q.num,h1⟩,b,_,rfl,⟨(q.den:Int),h2⟩,c,_,rfl,h3,h4⟩
theorem to_qy1 {q:Rat} {n:Int} (hn:n=q.num) (hd:q.den=1) {β:List Nat} {v:Value} {w:World} (h:(AV.tup [.sc (.sp (gZ (.int .i64 n) rfl false (fun h=>by cases h))),.sc (.lit (.int .i64 1)),.sc (.lit (.bool true))]:AV Kr).holds β v w):(qy q).holds β v w:=by
 subst hn
 obtain ⟨vs,rfl,a,r,rfl,h1,b,r2,rfl,h2,c,r3,rfl,h3,h4⟩:=h
 have e:[b] = [.int .i64 1]:=h2.1
 exact ⟨_,rfl,a,_,rfl,h1,b,_,rfl,(by show [b] = [Value.int .i64 (q.den:Int)];rw [hd];exact e),c,_,rfl,h3,h4⟩
theorem to_qy2 {q:Rat} {n:Int} {d:Nat} (hn:n=q.num) (hd:d=q.den) {β:List Nat} {v:Value} {w:World} (h:(AV.tup [.sc (.sp (gZ (.int .i64 n) rfl false (fun h=>by cases h))),.sc (.sp (gZ (.int .i64 (d:Int)) rfl false (fun h=>by cases h))),.sc (.lit (.bool true))]:AV Kr).holds β v w):(qy q).holds β v w:=by
 subst hn
 subst hd
 exact h
theorem iA {q:Rat} (hq:Sq q):jF 93 [rS (writeB q)] (qy q):=by
 have hbs:=oF q
 have hsl:=mY q
 obtain ⟨k1,k2,k3⟩:=body_cut q
 have n9:=mZ hq.1
 have hs9:=hq.1
 have h100:(10:Nat)^9=1000000000:=by decide
 have v1:=valueF (d:=decB q.num.natAbs) (n:=q.num.natAbs) (fC _) (by omega) (eN _)
 by_cases hn:q.num<0
 ·obtain ⟨f1,f2,f3,f4,f5⟩:=gM hn
  have e1:-(q.num.natAbs:Int)=q.num:=by omega
  by_cases hd:q.den=1
  ·rw [if_pos hd] at hbs
   refine mX (quick_yes1n (u:=bC q) (d1:=decB q.num.natAbs) (n1:=q.num.natAbs) ?_ ?_ f1 f2 f3 f4 (by omega) ?_ ?_ k1 v1 ?_) (fun β v w h=>to_qy1 e1 hd h)
   ·rw [decide_eq_false_iff_not];omega
   ·rw [decide_eq_true_iff];omega
   ·rw [hsl,decide_eq_false_iff_not];omega
   ·rw [hsl,decide_eq_false_iff_not];omega
   ·rw [hsl,decide_eq_false_iff_not];omega
  ·rw [if_neg hd] at hbs
   have hd9:(decB q.den).size≤9:=by rcases hq.2 with h|h;exact absurd h hd;exact h
   have v2:=valueF (d:=decB q.den) (n:=q.den) (fC _) (by omega) (eN _)
   refine mX (quick_yes2n (u:=bC q) (d1:=decB q.num.natAbs) (d2:=decB q.den) (n1:=q.num.natAbs) (n2:=q.den) ?_ ?_ f1 f2 f3 f4 (by omega) ?_ ?_ k1 v1 ?_ (k2 hd) v2) (fun β v w h=>to_qy2 e1 rfl h)
   ·rw [decide_eq_false_iff_not];omega
   ·rw [decide_eq_true_iff];omega
   ·rw [hsl,decide_eq_false_iff_not];omega
   ·rw [hsl,decide_eq_false_iff_not];omega
   ·rw [hsl,decide_eq_true_iff];omega
 ·have hw:=dU hn
  obtain ⟨c,c1,c2⟩:=tL q
  have h0:0<(bC q).size:=c1.1
  have e1:(q.num.natAbs:Int)=q.num:=by omega
  rw [hw]
  by_cases hd:q.den=1
  ·rw [if_pos hd] at hbs
   refine mX (quick_yes1p (s:=bC q) (d1:=decB q.num.natAbs) (n1:=q.num.natAbs) ?_ ?_ c1 c2 ?_ ?_ k1 v1 ?_) (fun β v w h=>to_qy1 e1 hd h)
   ·rw [decide_eq_false_iff_not];omega
   ·rw [decide_eq_true_iff];omega
   ·rw [hsl,decide_eq_false_iff_not];omega
   ·rw [hsl,decide_eq_false_iff_not];omega
   ·rw [hsl,decide_eq_false_iff_not];omega
  ·rw [if_neg hd] at hbs
   have hd9:(decB q.den).size≤9:=by rcases hq.2 with h|h;exact absurd h hd;exact h
   have v2:=valueF (d:=decB q.den) (n:=q.den) (fC _) (by omega) (eN _)
   refine mX (quick_yes2p (s:=bC q) (d1:=decB q.num.natAbs) (d2:=decB q.den) (n1:=q.num.natAbs) (n2:=q.den) ?_ ?_ c1 c2 ?_ ?_ k1 v1 ?_ (k2 hd) v2) (fun β v w h=>to_qy2 e1 rfl h)
   ·rw [decide_eq_false_iff_not];omega
   ·rw [decide_eq_true_iff];omega
   ·rw [hsl,decide_eq_false_iff_not];omega
   ·rw [hsl,decide_eq_false_iff_not];omega
   ·rw [hsl,decide_eq_true_iff];omega
theorem ofF {n:Int} {d:Nat} (hn:n.natAbs≤4000000000000000000) (hd:d≤4000000000000000000) (h0:0<d):jF 94 [rI n,rI (d:Int)] (rS (writeB (mkRat n d))):=by
 intro β w vs hv
 obtain ⟨v,u,rfl,h1,h2⟩:=eF hv
 rw [bD h1,bD h2]
 have hw:=xO n h0
 by_cases hneg:n<0
 ·have e:n = -(n.natAbs:Int):=by omega
  have h:=of_neg n.natAbs d w (by omega) hn hd h0 _ _ _ rfl rfl rfl
  have hp0:0<n.natAbs/Nat.gcd n.natAbs d:=Nat.div_pos (Nat.gcd_le_left _ (by omega)) (Nat.gcd_pos_of_pos_right _ h0)
  have et:aZ (iV (decide (n<0)) (n.natAbs/Nat.gcd n.natAbs d))=⟨#[45]⟩++decB (n.natAbs/Nat.gcd n.natAbs d):=by
   rw [decide_eq_true hneg]
   generalize n.natAbs/Nat.gcd n.natAbs d=m at hp0
   show aZ (-(m:Int))=_
   unfold aZ
   rw [if_pos (by omega)]
   simp
  rw [et,cH] at hw
  rw [← e,hw] at h
  exact h.mono fun e w' ⟨e1,e2⟩=>⟨_,e1,e2,dC⟩
 ·have e:n=(n.natAbs:Int):=by omega
  have h:=of_pos n.natAbs d w hn hd h0 _ _ _ rfl rfl rfl
  have et:aZ (iV (decide (n<0)) (n.natAbs/Nat.gcd n.natAbs d))=decB (n.natAbs/Nat.gcd n.natAbs d):=by
   rw [decide_eq_false hneg]
   exact cH _
  rw [et,cH] at hw
  rw [← e,hw] at h
  exact h.mono fun e w' ⟨e1,e2⟩=>⟨_,e1,e2,dC⟩
section
variable {p q:Rat}
theorem sq_lt (h:Sq q):q.num.natAbs<1000000000∧q.den<1000000000:=by
 have h100:(10:Nat)^9=1000000000:=by decide
 refine ⟨by rw [← h100];exact mZ h.1,?_⟩
 rcases h.2 with h|h
 ·omega
 ·rw [← h100];exact mZ h
theorem qK {a b:Nat} (ha:a<1000000000) (hb:b<1000000000):a*b<1000000000000000000:=Nat.mul_lt_mul'' ha hb
theorem qL {a b:Int} (ha:a.natAbs<1000000000) (hb:b.natAbs<1000000000):(a*b).natAbs<1000000000000000000:=by rw [Int.natAbs_mul];exact qK ha hb
theorem mulS (hp:Sq p) (hq:Sq q):jF 202 [rS (writeB p),rS (writeB q)] (rS (writeB (p*q))):=by
 obtain ⟨a1,a2⟩:=sq_lt hp
 obtain ⟨b1,b2⟩:=sq_lt hq
 have m1:=qL a1 b1
 have m2:=qK a2 b2
 have hof:=ofF (n:=p.num*q.num) (d:=p.den*q.den) (by omega) (by omega) (Nat.mul_pos p.den_pos q.den_pos)
 rw [← Rat.mul_def',Int.natCast_mul] at hof
 have m3:((p.den:Int)*(q.den:Int))<1000000000000000000:=by rw [← Int.natCast_mul];omega
 have m4:0≤((p.den:Int)*(q.den:Int)):=by rw [← Int.natCast_mul];omega
 have q1:=iA hp
 have q2:=iA hq
 generalize writeB p=s at *
 generalize writeB q=u at *
 refine jT Tryz.func202 fun w00=>?_
 refine jB 93 [rS s] q1 ?_
 refine jB 93 [rS u] q2 ?_
 refine jL (.binOp .mul 3 (.tmp 31) (.tmp 32) 3) (.tmp 31) (.tmp 32) (rI p.num) (rI q.num) (rI (p.num*q.num)) (fun ρ o β w ho hx hy=>⟨_,sB ho (bD hx) (bD hy) (by omega),dC⟩) ?_
 refine jL (.binOp .mul 3 (.tmp 34) (.tmp 35) 3) (.tmp 34) (.tmp 35) (rI (p.den:Int)) (rI (q.den:Int)) (rI ((p.den:Int)*(q.den:Int))) (fun ρ o β w ho hx hy=>⟨_,sB ho (bD hx) (bD hy) (by omega),dC⟩) ?_
 refine jB 94 [rI (p.num*q.num),rI ((p.den:Int)*(q.den:Int))] hof ?_
 exact jS Tryz.func202
theorem addS (hp:Sq p) (hq:Sq q):jF 37 [rS (writeB p),rS (writeB q)] (rS (writeB (p+q))):=by
 obtain ⟨a1,a2⟩:=sq_lt hp
 obtain ⟨b1,b2⟩:=sq_lt hq
 have m1:(p.num*(q.den:Int)).natAbs<1000000000000000000:=qL a1 (by omega)
 have m5:(q.num*(p.den:Int)).natAbs<1000000000000000000:=qL b1 (by omega)
 have m2:=qK a2 b2
 have hof:=ofF (n:=p.num*(q.den:Int)+q.num*(p.den:Int)) (d:=p.den*q.den) (by omega) (by omega) (Nat.mul_pos p.den_pos q.den_pos)
 rw [← Rat.add_def',Int.natCast_mul] at hof
 have m3:((p.den:Int)*(q.den:Int))<1000000000000000000:=by rw [← Int.natCast_mul];omega
 have m4:0≤((p.den:Int)*(q.den:Int)):=by rw [← Int.natCast_mul];omega
 have q1:=iA hp
 have q2:=iA hq
 generalize writeB p=s at *
 generalize writeB q=u at *
 refine jT Tryz.func37 fun w00=>?_
 refine jB 93 [rS s] q1 ?_
 refine jB 93 [rS u] q2 ?_
 refine jL (.binOp .mul 3 (.tmp 31) (.tmp 32) 3) (.tmp 31) (.tmp 32) (rI p.num) (rI (q.den:Int)) (rI (p.num*(q.den:Int))) (fun ρ o β w ho hx hy=>⟨_,sB ho (bD hx) (bD hy) (by omega),dC⟩) ?_
 refine jL (.binOp .mul 3 (.tmp 34) (.tmp 35) 3) (.tmp 34) (.tmp 35) (rI q.num) (rI (p.den:Int)) (rI (q.num*(p.den:Int))) (fun ρ o β w ho hx hy=>⟨_,sB ho (bD hx) (bD hy) (by omega),dC⟩) ?_
 refine jL (.binOp .add 3 (.tmp 33) (.tmp 36) 3) (.tmp 33) (.tmp 36) (rI (p.num*(q.den:Int))) (rI (q.num*(p.den:Int))) (rI (p.num*(q.den:Int)+q.num*(p.den:Int))) (fun ρ o β w ho hx hy=>⟨_,addi_run ho (bD hx) (bD hy) (by omega),dC⟩) ?_
 refine jL (.binOp .mul 3 (.tmp 38) (.tmp 39) 3) (.tmp 38) (.tmp 39) (rI (p.den:Int)) (rI (q.den:Int)) (rI ((p.den:Int)*(q.den:Int))) (fun ρ o β w ho hx hy=>⟨_,sB ho (bD hx) (bD hy) (by omega),dC⟩) ?_
 refine jB 94 [rI (p.num*(q.den:Int)+q.num*(p.den:Int)),rI ((p.den:Int)*(q.den:Int))] hof ?_
 exact jS Tryz.func37
theorem vI (hp:Zs 10000 p) (hq:Zs 10000 q):jF 202 [rS (writeB p),rS (writeB q)] (rS (writeB (p*q))):=by
 by_cases h1:Sq p
 ·by_cases h2:Sq q
  ·exact mulS h1 h2
  ·exact mulBig hp hq (mX (iA h1) fun _ _ _=>sC) (mX (kH h2) fun _ _ _=>kI) rfl
 ·by_cases h2:Sq q
  ·exact mulBig hp hq (mX (kH h1) fun _ _ _=>kI) (mX (iA h2) fun _ _ _=>sC) rfl
  ·exact mulBig hp hq (mX (kH h1) fun _ _ _=>kI) (mX (kH h2) fun _ _ _=>kI) rfl
theorem vJ (hp:Zs 10000 p) (hq:Zs 10000 q):jF 37 [rS (writeB p),rS (writeB q)] (rS (writeB (p+q))):=by
 by_cases h1:Sq p
 ·by_cases h2:Sq q
  ·exact addS h1 h2
  ·exact addBig hp hq (mX (iA h1) fun _ _ _=>sC) (mX (kH h2) fun _ _ _=>kI) rfl
 ·by_cases h2:Sq q
  ·exact addBig hp hq (mX (kH h1) fun _ _ _=>kI) (mX (iA h2) fun _ _ _=>sC) rfl
  ·exact addBig hp hq (mX (kH h1) fun _ _ _=>kI) (mX (kH h2) fun _ _ _=>kI) rfl
end
theorem sD {o:Oper} {ρ:Operand→Value} {w:World} {x y:Operand} {a:Nat} (ho:o.op = .binOp .sub 3 x y 3) (hx:ρ x = .int .i64 (a:Int)) (hy:ρ y = .int .i64 1) (ha:a≤9223372036854775807) :
 (execOp ρ o).run Tryz.prog w = .ok (.value (.int .i64 ((a:Int)-1))) w:=by
 simp only [execOp,ho,hx,hy]
 refine bH ?_
 have e:IntKind.i64.wrap ((a:Int)-1)=(a:Int)-1:=by
  rw [IntWalk.i64_left,IntWalk.wrap64_in _ ⟨by omega,by omega⟩]
 simp [go_sem,e]
theorem oW {o:Oper} {ρ:Operand→Value} {w:World} {x y:Operand} {a b:Int} {r:Bool} (ho:o.op = .binOp .neq 3 x y 3) (hx:ρ x = .int .i64 a) (hy:ρ y = .int .i64 b) (h:(a != b)=r) :
 (execOp ρ o).run Tryz.prog w = .ok (.value (.bool r)) w:=by
 simp only [execOp,ho,hx,hy]
 refine bH ?_
 rw [← h]
 exact bL (by kernel_rfl) w
section
variable {s t a d:ByteArray} {c k n m g:Nat}
theorem check_empty (h0:decide ((0:Int)<(s.size:Nat))=false) (hsl:jF 113 [rS s] (rI (0:Int))) (ha:s.extract 0 0=a) (fa:jF 114 [rS a] (rl false)):jF 51 [rS s] (.fv (.sc (.lit (.int .i64 1)))):=by
 refine jT Tryz.func51 fun w00=>?_
 refine cV 9 9 Tryz.underlying9 s ?_
 refine iJ 10 0 (s.size:Nat) false h0 ?_
 refine jB 113 [rS s] hsl ?_
 refine jL (.slice 9 (.tmp 21) none (some (.tmp 22)) none) (.tmp 21) (.tmp 22) (rS s) (rI (0:Int)) (rS a) (fun ρ o β w ho hx hy=>?_) ?_
 ·have:=oC (k:=0) (w:=w) ho Tryz.underlying9 (bD hx) (bD hy) (Nat.zero_le _)
  rw [ha] at this
  exact ⟨_,this,dC⟩
 refine jB 114 [rS a] fa ?_
 exact jS Tryz.func51
end
end Ab
section
open Go.RowKit Pl
theorem decForm_any (s:ByteArray) (w:World) (hs:s.size≤9223372036854775807):Calls Tryz.prog 114 #[.string s] w fun e w'=>e = .returned (.bool (Ab.decF s))∧w'=w:=by
 have cd:=aH (fun W=>digits_any s W hs)
 by_cases h0:s.size=0
 ·have hr:Ab.decF s=false:=by unfold Ab.decF;rw [if_pos h0]
  have k0:(s.size:Int)=0:=by omega
  rw [hr]
  clear hr h0 cd
  go_enter Tryz.func114,Tryz.ntmps114
  go_wp2
  go_ret
  exact ⟨rfl,rfl⟩
 ·have hp:0<s.size:=by omega
  obtain ⟨c,hc⟩:∃ c:Nat,(s[0]'hp).toNat=c:=⟨_,rfl⟩
  have hh:(aC s).head?=some 48↔c=48:=by
   have h1:=cW hp
   rw [List.head?_eq_getElem?,h1,← hc]
   constructor
   ·intro h;injection h with h;rw [h];rfl
   ·intro h;congr 1;exact UInt8.toNat_inj.1 h
  have k0:((s.size:Int)==0)=false:=by rw [beq_eq_false_iff_ne];omega
  have p0:(0:Int)<s.size:=by omega
  obtain ⟨r,hr⟩:∃ r,r=Ab.decF s:=⟨_,rfl⟩
  rw [← hr]
  unfold Ab.decF at hr
  rw [if_neg h0] at hr
  by_cases h1:1<s.size
  ·have k1:(1:Int)<s.size:=by omega
   by_cases h48:c=48
   ·rw [if_pos ⟨h1,hh.2 h48⟩] at hr
    subst h48
    have HR:=aH hr
    clear hr hh h1 h0 cd
    go_enter Tryz.func114,Tryz.ntmps114
    go_wp2
    go_ret
    exact ⟨by rw [HR.out];rfl,rfl⟩
   ·rw [if_neg (fun h=>h48 (hh.1 h.2))] at hr
    have k2:((c:Int)==48)=false:=by simp;omega
    have k3:¬ (c:Int)=48:=by omega
    have HR:=aH hr
    clear hr hh h1 h0 h48
    go_enter Tryz.func114,Tryz.ntmps114
    go_wp2_with fail
    refine (cd.out _).mono ?_
    rintro e w' ⟨rfl,rfl⟩
    go_wp2
    go_ret
    exact ⟨by rw [HR.out];rfl,rfl⟩
  ·rw [if_neg (fun h=>h1 h.1)] at hr
   have k1:¬ (1:Int)<s.size:=by omega
   have HR:=aH hr
   clear hr hh h1 h0
   go_enter Tryz.func114,Tryz.ntmps114
   go_wp2_with fail
   refine (cd.out _).mono ?_
   rintro e w' ⟨rfl,rfl⟩
   go_wp2
   go_ret
   exact ⟨by rw [HR.out];rfl,rfl⟩
end
namespace Ab
open Go.RowKit Pl
theorem oH {s:ByteArray} (hs:s.size≤9223372036854775807):jF 114 [rS s] (rl (decF s)):=by
 intro β w vs hv
 obtain ⟨v,rfl,h1⟩:=dL hv
 rw [bD h1]
 exact (decForm_any s w hs).mono fun e w' ⟨e1,e2⟩=>⟨_,e1,by rw [e2];exact aB _ _,eL rfl⟩
theorem lit_I {z:Int} (β:List Nat) (v:Value) (w:World) (h:(AV.fv (.sc (.lit (.int .i64 z))):AV Kr).holds β v w):(rI z).holds β v w:=h.1
theorem kJ {a b:ByteArray} (h:a≠b):(a.toList==b.toList)=false:=by
 rw [beq_eq_false_iff_ne]
 intro e
 apply h
 rw [Go.ByteArray.toList_eq,Go.ByteArray.toList_eq] at e
 exact ba_ext e
theorem neg_head {s:ByteArray} (h:jU s=true):∃ h:0<s.size,(s[0]'h).toNat=45:=by
 have hh:(aC s).head?=some 45:=eq_of_beq h
 have hp:0<s.size:=by
  rcases Nat.eq_zero_or_pos s.size with e|e
  ·rw [← aG] at e
   rw [List.eq_nil_of_length_eq_zero e] at hh
   cases hh
  ·exact e
 refine ⟨hp,?_⟩
 rw [List.head?_eq_getElem?,cW hp] at hh
 injection hh with hh
 rw [hh];rfl
theorem pos_head {s:ByteArray} (hp:0<s.size) (h:jU s=false):∃ c:Nat,(∃ h:0<s.size,(s[0]'h).toNat=c)∧((c:Int)==45)=false:=by
 refine ⟨_,⟨hp,rfl⟩,?_⟩
 have hh:¬ (aC s).head?=some 45:=by unfold jU at h;rw [beq_eq_false_iff_ne] at h;exact h
 rw [beq_eq_false_iff_ne]
 intro e
 apply hh
 rw [List.head?_eq_getElem?,cW hp]
 congr 1
 apply UInt8.toNat_inj.1
 show (s[0]'hp).toNat=45
 omega
theorem partsT {t:ByteArray} {k n m:Nat} (hts:t.size≤1000000000) (hk:aJ t=k) (hlt:k<t.size) (ha:t.extract 0 k=decB n) (hd:t.extract (k+1) t.size=decB m) (hn:(decB n).size≤100000) (hm:(decB m).size≤100000) :
 jF 95 [rS t] (.tup [.ag [.lit (.bool false),.sp (xM n)],.ag [.lit (.bool false),.sp (xM m)]]):=by
 have hsl:=eO (s:=t) (by omega)
 rw [hk] at hsl
 refine jT Tryz.func95 fun w00=>?_
 refine jB 113 [rS t] hsl ?_
 refine jL (.call ⟨.builtin .len,#[.tmp 10],#[9]⟩) (.tmp 10) (.tmp 10) (rS t) (rS t) (rI t.size) (fun ρ o β w ho hx _=>⟨_,rY ho Tryz.underlying9 (bD hx),dC⟩) ?_
 refine jL (.binOp .eql 3 (.tmp 9) (.tmp 11) 3) (.tmp 9) (.tmp 11) (rI (k:Int)) (rI t.size) (rl false) (fun ρ o β w ho hx hy=>⟨.bool false,gA ho (bD hx) (bD hy) (by simp;omega),eL rfl⟩) ?_
 refine jL (.slice 9 (.tmp 16) none (some (.tmp 17)) none) (.tmp 16) (.tmp 17) (rS t) (rI (k:Int)) (rS (decB n)) (fun ρ o β w ho hx hy=>?_) ?_
 ·have:=oC (w:=w) ho Tryz.underlying9 (bD hx) (bD hy) (by omega)
  rw [ha] at this
  exact ⟨_,this,dC⟩
 refine jB 153 [rS (decB n)] (parseDF hn) ?_
 refine jL (.binOp .add 3 (.tmp 21) (.const (.int .i64 1)) 3) (.tmp 21) (.const (.int .i64 1)) (rI (k:Int)) (.fv (.sc (.lit (.int .i64 1)))) (rI ((k+1:Nat):Int)) (fun ρ o β w ho hx hy=>⟨_,rZ ho (bD hx) (bZ hy) (by omega),dC⟩) ?_
 refine jL (.slice 9 (.tmp 20) (some (.tmp 22)) none none) (.tmp 20) (.tmp 22) (rS t) (rI ((k+1:Nat):Int)) (rS (decB m)) (fun ρ o β w ho hx hy=>?_) ?_
 ·have:=oD (w:=w) ho Tryz.underlying9 (bD hx) (bD hy) (by omega)
  rw [hd] at this
  exact ⟨_,this,dC⟩
 refine jB 153 [rS (decB m)] (parseDF hm) ?_
 exact jS Tryz.func95
theorem eS {f:FuncId} {w00:World} {c:Cfg Kr} {fn:Func} {z:Int} (hfn:Tryz.prog.funcs[f]?=some fn) (hc:c.res Tryz.prog fn=some (.fv (.sc (.lit (.int .i64 z))))):Ok Tryz.prog f w00 (fun v w=>(rI z).holds [] v w) c :=
 ⟨vX hfn _ hc fun _ _ _ h=>h.1⟩
theorem check_neg {s:ByteArray} {z:Int} (hs:s.size≤9223372036854775807) (hne:0<s.size) (hn:jU s=true) (hz:eR s=z):jF 51 [rS s] (rI z):=by
 have hc:=neg_head hn
 have h1:1≤s.size:=hne
 have hsp:bT s=s.extract 1 s.size:=if_pos hn
 unfold eR at hz
 rw [hn] at hz
 obtain ⟨t,hext⟩:∃ t,s.extract 1 s.size=t:=⟨_,rfl⟩
 rw [hsp,hext] at hz
 have hts:t.size<9223372036854775807:=by rw [← hext,ByteArray.size_extract];omega
 have hsl:=eO (s:=t) (by omega)
 have hkl:=cL t
 have hks:aJ t=aJ t:=rfl
 generalize hk:aJ t=k at hsl hkl hks hz
 obtain ⟨a,ha⟩:∃ a,t.extract 0 k=a:=⟨_,rfl⟩
 obtain ⟨d,hd⟩:∃ d,t.extract (k+1) t.size=d:=⟨_,rfl⟩
 have hasz:a.size=k:=by rw [← ha,ByteArray.size_extract];omega
 have hdsz:d.size=t.size-(k+1):=by rw [← hd,ByteArray.size_extract];omega
 rw [ha,hd] at hz
 have fa:=oH (s:=a) (by omega)
 have fd:=oH (s:=d) (by omega)
 refine jT Tryz.func51 fun w00=>?_
 refine cV 9 9 Tryz.underlying9 s ?_
 refine iJ 10 0 (s.size:Nat) true (by rw [decide_eq_true_iff];omega) ?_
 refine ridn 13 s hc ?_
 refine rsl1 17 9 Tryz.underlying9 s t h1 hext ?_
 refine jB 113 [rS t] hsl ?_
 refine rshi 21 22 9 Tryz.underlying9 t k a hkl ha ?_
 by_cases c1:decF a=false
 ·rw [if_pos (.inl c1)] at hz
  subst hz
  rw [c1] at fa
  refine jB 114 [rS a] fa ?_
  exact eS Tryz.func51 (by kernel_rfl)
 rw [Bool.not_eq_false] at c1
 rw [c1] at fa
 refine jB 114 [rS a] fa ?_
 refine ridnR 27 s hc ?_
 refine rshi 31 32 9 Tryz.underlying9 t k a hkl ha ?_
 by_cases cz:a=zeroT
 ·rw [if_pos (.inr ⟨rfl,cz⟩)] at hz
  subst hz
  refine tK 33 9 a ⟨#[48]⟩ true (by rw [cz];exact beq_self_eq_true zeroT.toList) ?_
  exact eS Tryz.func51 (by kernel_rfl)
 refine tK 33 9 a ⟨#[48]⟩ false (kJ cz) ?_
 rw [if_neg (by rintro (h|h);exact absurd (h.symm.trans c1) (by decide);exact cz h.2)] at hz
 refine cV 38 9 Tryz.underlying9 t ?_
 by_cases hlt:k<t.size
 ·have fl:decide ((k:Int)<(t.size:Nat))=true:=by rw [decide_eq_true_iff];omega
  refine uX 37 39 (k:Int) (t.size:Nat) true fl ?_
  refine radd 43 k (by omega) ?_
  refine rslo 42 44 9 Tryz.underlying9 t (k+1) d (by omega) hd ?_
  by_cases d1:decF d=false
  ·rw [if_pos ⟨hlt,.inl d1⟩] at hz
   subst hz
   rw [d1] at fd
   refine jB 114 [rS d] fd ?_
   exact eS Tryz.func51 (by kernel_rfl)
  rw [Bool.not_eq_false] at d1
  rw [d1] at fd
  refine jB 114 [rS d] fd ?_
  refine radd 50 k (by omega) ?_
  refine rslo 49 51 9 Tryz.underlying9 t (k+1) d (by omega) hd ?_
  by_cases d0:d=zeroT
  ·rw [if_pos ⟨hlt,.inr (.inl d0)⟩] at hz
   subst hz
   refine tK 52 9 d ⟨#[48]⟩ true (by rw [d0];exact beq_self_eq_true zeroT.toList) ?_
   exact eS Tryz.func51 (by kernel_rfl)
  refine tK 52 9 d ⟨#[48]⟩ false (kJ d0) ?_
  refine radd 57 k (by omega) ?_
  refine rslo 56 58 9 Tryz.underlying9 t (k+1) d (by omega) hd ?_
  by_cases d2:d=oneT
  ·rw [if_pos ⟨hlt,.inr (.inr d2)⟩] at hz
   subst hz
   refine tK 59 9 d ⟨#[49]⟩ true (by rw [d2];exact beq_self_eq_true oneT.toList) ?_
   exact eS Tryz.func51 (by kernel_rfl)
  refine tK 59 9 d ⟨#[49]⟩ false (kJ d2) ?_
  rw [if_neg (by rintro ⟨_,h|h|h⟩;exact absurd (h.symm.trans d1) (by decide);exact d0 h;exact d2 h)] at hz
  by_cases l1:600<k
  ·rw [if_pos (.inl l1)] at hz
   subst hz
   refine iJ 63 600 (k:Int) true (by rw [decide_eq_true_iff];omega) ?_
   exact eS Tryz.func51 (by kernel_rfl)
  refine iJ 63 600 (k:Int) false (by rw [decide_eq_false_iff_not];omega) ?_
  refine cV 66 9 Tryz.underlying9 t ?_
  refine yE 67 68 t.size k hkl (by omega) ?_
  refine jL (.binOp .sub 3 (.tmp 69) (.const (.int .i64 1)) 3) (.tmp 69) (.const (.int .i64 1)) (rI ((t.size-k:Nat):Int)) (.fv (.sc (.lit (.int .i64 1)))) (rI (((t.size-k:Nat):Int)-1)) (fun ρ o β w ho hx hy=>⟨_,sD ho (bD hx) (bZ hy) (by omega),dC⟩) ?_
  by_cases l2:600<t.size-k-1
  ·rw [if_pos (.inr l2)] at hz
   subst hz
   refine iJ 70 600 (((t.size-k:Nat):Int)-1) true (by rw [decide_eq_true_iff];omega) ?_
   exact eS Tryz.func51 (by kernel_rfl)
  refine iJ 70 600 (((t.size-k:Nat):Int)-1) false (by rw [decide_eq_false_iff_not];omega) ?_
  rw [if_neg (by rintro (h|h) <;> omega)] at hz
  refine cV 74 9 Tryz.underlying9 t ?_
  refine uX 73 75 (k:Int) (t.size:Nat) true fl ?_
  have hae:=oV c1
  have hde:=oV d1
  generalize aU (aC a)=n at hae hz
  generalize aU (aC d)=m at hde hz
  have hp:=partsT (t:=t) (by omega) hk hlt (ha.trans hae) (hd.trans hde) (by rw [← hae];omega) (by rw [← hde];omega)
  have hm0:0<m:=Nat.pos_of_ne_zero fun e=>d0 (by rw [hde,e,dec0];rfl)
  have hg0:0<Nat.gcd n m:=Nat.gcd_pos_of_pos_right _ hm0
  have hg:=rV (a:=n) (b:=m) (gG (mZ (n:=n) (k:=600) (by rw [← hae];omega)) (by omega)) (gG (mZ (n:=m) (k:=600) (by rw [← hde];omega)) (by omega))
  obtain ⟨g,hgg⟩:∃ g,Nat.gcd n m=g:=⟨_,rfl⟩
  rw [hgg] at hg hg0
  simp only [hgg] at hz
  refine jB 95 [rS t] hp ?_
  refine jB 115 [di n,di m] hg ?_
  rcases Nat.lt_or_ge g B9 with gb|gb
  ·refine jL (.call ⟨.builtin .len,#[.tmp 87],#[141]⟩) (.tmp 87) (.tmp 87) (di g) (di g) (.fv (.sc (.lit (.int .i64 1)))) (fun ρ o β w ho hx _=>?_) ?_
   ·obtain ⟨ad,c,e,_⟩:=oB (bI.1 hx) hg0 gb
    exact ⟨_,qJ ho e,eL rfl⟩
   refine jL (.indexAddr 141 (.tmp 91) (.const (.int .i64 0))) (.tmp 91) (.const (.int .i64 0)) (di g) (.fv (.sc (.lit (.int .i64 0)))) (rP g) (fun ρ o β w ho hx hy=>?_) ?_
   ·obtain ⟨ad,c,e,hc⟩:=oB (bI.1 hx) hg0 gb
    exact ⟨_,rW ho e (bZ hy) (by omega),⟨ad,rfl,hc⟩⟩
   refine jL (.load 3 (.tmp 92)) (.tmp 92) (.tmp 92) (rP g) (rP g) (rI (g:Int)) (fun ρ o β w ho hx _=>?_) ?_
   ·obtain ⟨ad,e,hc⟩:=hx
    injection e with e
    exact ⟨_,load_i ho e hc,dC⟩
   have hne:(((g:Int) != 1) = !decide (g=1)):=by rw [Bool.eq_iff_iff];simp;omega
   by_cases g1:g=1
   ·rw [if_neg (by rintro ⟨_,h⟩;exact h g1)] at hz
    subst hz
    refine jL (.binOp .neq 3 (.tmp 93) (.const (.int .i64 1)) 3) (.tmp 93) (.const (.int .i64 1)) (rI (g:Int)) (.fv (.sc (.lit (.int .i64 1)))) (rl false) (fun ρ o β w ho hx hy=>⟨.bool false,oW ho (bD hx) (bZ hy) (by rw [hne];simp [g1]),eL rfl⟩) ?_
    exact eS Tryz.func51 (by kernel_rfl)
   ·rw [if_pos ⟨hlt,g1⟩] at hz
    subst hz
    refine jL (.binOp .neq 3 (.tmp 93) (.const (.int .i64 1)) 3) (.tmp 93) (.const (.int .i64 1)) (rI (g:Int)) (.fv (.sc (.lit (.int .i64 1)))) (rl true) (fun ρ o β w ho hx hy=>⟨.bool true,oW ho (bD hx) (bZ hy) (by rw [hne];simp [g1]),eL rfl⟩) ?_
    exact eS Tryz.func51 (by kernel_rfl)
  ·rw [if_pos ⟨hlt,by have:=eD;omega⟩] at hz
   subst hz
   refine jL (.call ⟨.builtin .len,#[.tmp 87],#[141]⟩) (.tmp 87) (.tmp 87) (di g) (di g) rNe (fun ρ o β w ho hx _=>?_) ?_
   ·obtain ⟨A,m,c,e,hm⟩:=di_more (bI.1 hx) gb
    exact ⟨_,qJ ho e,⟨(m:Int),rfl,by omega⟩⟩
   refine jL (.binOp .neq 3 (.tmp 88) (.const (.int .i64 1)) 3) (.tmp 88) (.const (.int .i64 1)) rNe (.fv (.sc (.lit (.int .i64 1)))) (rl true) (fun ρ o β w ho hx hy=>?_) ?_
   ·obtain ⟨x,e,hm⟩:=hx
    injection e with e
    exact ⟨.bool true,oW ho e (bZ hy) (by simpa using hm),eL rfl⟩
   exact eS Tryz.func51 (by kernel_rfl)
 ·have fl:decide ((k:Int)<(t.size:Nat))=false:=by rw [decide_eq_false_iff_not];omega
  refine uX 37 39 (k:Int) (t.size:Nat) false fl ?_
  rw [if_neg (fun h=>hlt h.1)] at hz
  by_cases l1:600<k
  ·rw [if_pos (.inl l1)] at hz
   subst hz
   refine iJ 63 600 (k:Int) true (by rw [decide_eq_true_iff];omega) ?_
   exact eS Tryz.func51 (by kernel_rfl)
  rw [if_neg (by rintro (h|h) <;> omega),if_neg (fun h=>hlt h.1)] at hz
  subst hz
  refine iJ 63 600 (k:Int) false (by rw [decide_eq_false_iff_not];omega) ?_
  refine cV 66 9 Tryz.underlying9 t ?_
  refine yE 67 68 t.size k hkl (by omega) ?_
  refine jL (.binOp .sub 3 (.tmp 69) (.const (.int .i64 1)) 3) (.tmp 69) (.const (.int .i64 1)) (rI ((t.size-k:Nat):Int)) (.fv (.sc (.lit (.int .i64 1)))) (rI (((t.size-k:Nat):Int)-1)) (fun ρ o β w ho hx hy=>⟨_,sD ho (bD hx) (bZ hy) (by omega),dC⟩) ?_
  refine iJ 70 600 (((t.size-k:Nat):Int)-1) false (by rw [decide_eq_false_iff_not];omega) ?_
  refine cV 74 9 Tryz.underlying9 t ?_
  refine uX 73 75 (k:Int) (t.size:Nat) false fl ?_
  exact eS Tryz.func51 (by kernel_rfl)
theorem check_pos {s:ByteArray} {z:Int} (hs:s.size≤9223372036854775807) (hne:0<s.size) (hn:jU s=false) (hz:eR s=z):jF 51 [rS s] (rI z):=by
 obtain ⟨c,hc,hc45⟩:=pos_head hne hn
 have hsp:bT s=s:=if_neg (by rw [hn];exact Bool.false_ne_true)
 unfold eR at hz
 rw [hn,hsp] at hz
 have hts:=hs
 have hsl:=eO (s:=s) (by omega)
 have hkl:=cL s
 have hks:aJ s=aJ s:=rfl
 generalize hk:aJ s=k at hsl hkl hks hz
 obtain ⟨a,ha⟩:∃ a,s.extract 0 k=a:=⟨_,rfl⟩
 obtain ⟨d,hd⟩:∃ d,s.extract (k+1) s.size=d:=⟨_,rfl⟩
 have hasz:a.size=k:=by rw [← ha,ByteArray.size_extract];omega
 have hdsz:d.size=s.size-(k+1):=by rw [← hd,ByteArray.size_extract];omega
 rw [ha,hd] at hz
 have fa:=oH (s:=a) (by omega)
 have fd:=oH (s:=d) (by omega)
 refine jT Tryz.func51 fun w00=>?_
 refine cV 9 9 Tryz.underlying9 s ?_
 refine iJ 10 0 (s.size:Nat) true (by rw [decide_eq_true_iff];omega) ?_
 refine ridp 13 s c hc ?_
 refine rueq 14 c hc45 ?_
 refine jB 113 [rS s] hsl ?_
 refine rshi 21 22 9 Tryz.underlying9 s k a hkl ha ?_
 by_cases c1:decF a=false
 ·rw [if_pos (.inl c1)] at hz
  subst hz
  rw [c1] at fa
  refine jB 114 [rS a] fa ?_
  exact eS Tryz.func51 (by kernel_rfl)
 rw [Bool.not_eq_false] at c1
 rw [c1] at fa
 refine jB 114 [rS a] fa ?_
 refine ridpR 27 s c hc ?_
 refine rueq 28 c hc45 ?_
 rw [if_neg (by rintro (h|h);exact absurd (h.symm.trans c1) (by decide);exact absurd h.1 (by decide))] at hz
 refine cV 38 9 Tryz.underlying9 s ?_
 by_cases hlt:k<s.size
 ·have fl:decide ((k:Int)<(s.size:Nat))=true:=by rw [decide_eq_true_iff];omega
  refine uX 37 39 (k:Int) (s.size:Nat) true fl ?_
  refine radd 43 k (by omega) ?_
  refine rslo 42 44 9 Tryz.underlying9 s (k+1) d (by omega) hd ?_
  by_cases d1:decF d=false
  ·rw [if_pos ⟨hlt,.inl d1⟩] at hz
   subst hz
   rw [d1] at fd
   refine jB 114 [rS d] fd ?_
   exact eS Tryz.func51 (by kernel_rfl)
  rw [Bool.not_eq_false] at d1
  rw [d1] at fd
  refine jB 114 [rS d] fd ?_
  refine radd 50 k (by omega) ?_
  refine rslo 49 51 9 Tryz.underlying9 s (k+1) d (by omega) hd ?_
  by_cases d0:d=zeroT
  ·rw [if_pos ⟨hlt,.inr (.inl d0)⟩] at hz
   subst hz
   refine tK 52 9 d ⟨#[48]⟩ true (by rw [d0];exact beq_self_eq_true zeroT.toList) ?_
   exact eS Tryz.func51 (by kernel_rfl)
  refine tK 52 9 d ⟨#[48]⟩ false (kJ d0) ?_
  refine radd 57 k (by omega) ?_
  refine rslo 56 58 9 Tryz.underlying9 s (k+1) d (by omega) hd ?_
  by_cases d2:d=oneT
  ·rw [if_pos ⟨hlt,.inr (.inr d2)⟩] at hz
   subst hz
   refine tK 59 9 d ⟨#[49]⟩ true (by rw [d2];exact beq_self_eq_true oneT.toList) ?_
   exact eS Tryz.func51 (by kernel_rfl)
  refine tK 59 9 d ⟨#[49]⟩ false (kJ d2) ?_
  rw [if_neg (by rintro ⟨_,h|h|h⟩;exact absurd (h.symm.trans d1) (by decide);exact d0 h;exact d2 h)] at hz
  by_cases l1:600<k
  ·rw [if_pos (.inl l1)] at hz
   subst hz
   refine iJ 63 600 (k:Int) true (by rw [decide_eq_true_iff];omega) ?_
   exact eS Tryz.func51 (by kernel_rfl)
  refine iJ 63 600 (k:Int) false (by rw [decide_eq_false_iff_not];omega) ?_
  refine cV 66 9 Tryz.underlying9 s ?_
  refine yE 67 68 s.size k hkl (by omega) ?_
  refine jL (.binOp .sub 3 (.tmp 69) (.const (.int .i64 1)) 3) (.tmp 69) (.const (.int .i64 1)) (rI ((s.size-k:Nat):Int)) (.fv (.sc (.lit (.int .i64 1)))) (rI (((s.size-k:Nat):Int)-1)) (fun ρ o β w ho hx hy=>⟨_,sD ho (bD hx) (bZ hy) (by omega),dC⟩) ?_
  by_cases l2:600<s.size-k-1
  ·rw [if_pos (.inr l2)] at hz
   subst hz
   refine iJ 70 600 (((s.size-k:Nat):Int)-1) true (by rw [decide_eq_true_iff];omega) ?_
   exact eS Tryz.func51 (by kernel_rfl)
  refine iJ 70 600 (((s.size-k:Nat):Int)-1) false (by rw [decide_eq_false_iff_not];omega) ?_
  rw [if_neg (by rintro (h|h) <;> omega)] at hz
  refine cV 74 9 Tryz.underlying9 s ?_
  refine uX 73 75 (k:Int) (s.size:Nat) true fl ?_
  have hae:=oV c1
  have hde:=oV d1
  generalize aU (aC a)=n at hae hz
  generalize aU (aC d)=m at hde hz
  have hp:=partsT (t:=s) (by omega) hk hlt (ha.trans hae) (hd.trans hde) (by rw [← hae];omega) (by rw [← hde];omega)
  have hm0:0<m:=Nat.pos_of_ne_zero fun e=>d0 (by rw [hde,e,dec0];rfl)
  have hg0:0<Nat.gcd n m:=Nat.gcd_pos_of_pos_right _ hm0
  have hg:=rV (a:=n) (b:=m) (gG (mZ (n:=n) (k:=600) (by rw [← hae];omega)) (by omega)) (gG (mZ (n:=m) (k:=600) (by rw [← hde];omega)) (by omega))
  obtain ⟨g,hgg⟩:∃ g,Nat.gcd n m=g:=⟨_,rfl⟩
  rw [hgg] at hg hg0
  simp only [hgg] at hz
  refine jB 95 [rS s] hp ?_
  refine jB 115 [di n,di m] hg ?_
  rcases Nat.lt_or_ge g B9 with gb|gb
  ·refine jL (.call ⟨.builtin .len,#[.tmp 87],#[141]⟩) (.tmp 87) (.tmp 87) (di g) (di g) (.fv (.sc (.lit (.int .i64 1)))) (fun ρ o β w ho hx _=>?_) ?_
   ·obtain ⟨ad,c,e,_⟩:=oB (bI.1 hx) hg0 gb
    exact ⟨_,qJ ho e,eL rfl⟩
   refine jL (.indexAddr 141 (.tmp 91) (.const (.int .i64 0))) (.tmp 91) (.const (.int .i64 0)) (di g) (.fv (.sc (.lit (.int .i64 0)))) (rP g) (fun ρ o β w ho hx hy=>?_) ?_
   ·obtain ⟨ad,c,e,hc⟩:=oB (bI.1 hx) hg0 gb
    exact ⟨_,rW ho e (bZ hy) (by omega),⟨ad,rfl,hc⟩⟩
   refine jL (.load 3 (.tmp 92)) (.tmp 92) (.tmp 92) (rP g) (rP g) (rI (g:Int)) (fun ρ o β w ho hx _=>?_) ?_
   ·obtain ⟨ad,e,hc⟩:=hx
    injection e with e
    exact ⟨_,load_i ho e hc,dC⟩
   have hne:(((g:Int) != 1) = !decide (g=1)):=by rw [Bool.eq_iff_iff];simp;omega
   by_cases g1:g=1
   ·rw [if_neg (by rintro ⟨_,h⟩;exact h g1)] at hz
    subst hz
    refine jL (.binOp .neq 3 (.tmp 93) (.const (.int .i64 1)) 3) (.tmp 93) (.const (.int .i64 1)) (rI (g:Int)) (.fv (.sc (.lit (.int .i64 1)))) (rl false) (fun ρ o β w ho hx hy=>⟨.bool false,oW ho (bD hx) (bZ hy) (by rw [hne];simp [g1]),eL rfl⟩) ?_
    exact eS Tryz.func51 (by kernel_rfl)
   ·rw [if_pos ⟨hlt,g1⟩] at hz
    subst hz
    refine jL (.binOp .neq 3 (.tmp 93) (.const (.int .i64 1)) 3) (.tmp 93) (.const (.int .i64 1)) (rI (g:Int)) (.fv (.sc (.lit (.int .i64 1)))) (rl true) (fun ρ o β w ho hx hy=>⟨.bool true,oW ho (bD hx) (bZ hy) (by rw [hne];simp [g1]),eL rfl⟩) ?_
    exact eS Tryz.func51 (by kernel_rfl)
  ·rw [if_pos ⟨hlt,by have:=eD;omega⟩] at hz
   subst hz
   refine jL (.call ⟨.builtin .len,#[.tmp 87],#[141]⟩) (.tmp 87) (.tmp 87) (di g) (di g) rNe (fun ρ o β w ho hx _=>?_) ?_
   ·obtain ⟨A,m,c,e,hm⟩:=di_more (bI.1 hx) gb
    exact ⟨_,qJ ho e,⟨(m:Int),rfl,by omega⟩⟩
   refine jL (.binOp .neq 3 (.tmp 88) (.const (.int .i64 1)) 3) (.tmp 88) (.const (.int .i64 1)) rNe (.fv (.sc (.lit (.int .i64 1)))) (rl true) (fun ρ o β w ho hx hy=>?_) ?_
   ·obtain ⟨x,e,hm⟩:=hx
    injection e with e
    exact ⟨.bool true,oW ho e (bZ hy) (by simpa using hm),eL rfl⟩
   exact eS Tryz.func51 (by kernel_rfl)
 ·have fl:decide ((k:Int)<(s.size:Nat))=false:=by rw [decide_eq_false_iff_not];omega
  refine uX 37 39 (k:Int) (s.size:Nat) false fl ?_
  rw [if_neg (fun h=>hlt h.1)] at hz
  by_cases l1:600<k
  ·rw [if_pos (.inl l1)] at hz
   subst hz
   refine iJ 63 600 (k:Int) true (by rw [decide_eq_true_iff];omega) ?_
   exact eS Tryz.func51 (by kernel_rfl)
  rw [if_neg (by rintro (h|h) <;> omega),if_neg (fun h=>hlt h.1)] at hz
  subst hz
  refine iJ 63 600 (k:Int) false (by rw [decide_eq_false_iff_not];omega) ?_
  refine cV 66 9 Tryz.underlying9 s ?_
  refine yE 67 68 s.size k hkl (by omega) ?_
  refine jL (.binOp .sub 3 (.tmp 69) (.const (.int .i64 1)) 3) (.tmp 69) (.const (.int .i64 1)) (rI ((s.size-k:Nat):Int)) (.fv (.sc (.lit (.int .i64 1)))) (rI (((s.size-k:Nat):Int)-1)) (fun ρ o β w ho hx hy=>⟨_,sD ho (bD hx) (bZ hy) (by omega),dC⟩) ?_
  refine iJ 70 600 (((s.size-k:Nat):Int)-1) false (by rw [decide_eq_false_iff_not];omega) ?_
  refine cV 74 9 Tryz.underlying9 s ?_
  refine uX 73 75 (k:Int) (s.size:Nat) false fl ?_
  exact eS Tryz.func51 (by kernel_rfl)
theorem oX {s:ByteArray} (hs:s.size≤9223372036854775807):jF 51 [rS s] (rI (eR s)):=by
 rcases Nat.eq_zero_or_pos s.size with h0|h0
 ·have hbs:aC s = []:=List.eq_nil_of_length_eq_zero (by rw [aG];exact h0)
  have hn:jU s=false:=by unfold jU;rw [hbs];rfl
  have hst:bT s=s:=if_neg (by rw [hn];exact Bool.false_ne_true)
  have hsl:aJ s=0:=by unfold aJ;rw [hbs];rfl
  have hd:decF (s.extract 0 0)=false:=by unfold decF;rw [if_pos (by rw [ByteArray.size_extract];omega)]
  have e:eR s=1:=by unfold eR;rw [hst,hsl,if_pos (.inl hd)]
  rw [e]
  have h1:=eO (s:=s) (by omega)
  rw [hsl] at h1
  have h2:=oH (s:=s.extract 0 0) (by rw [ByteArray.size_extract];omega)
  rw [hd] at h2
  exact mX (check_empty (by rw [decide_eq_false_iff_not];omega) h1 rfl h2) lit_I
 ·cases e:jU s with
  | true=>exact check_neg hs h0 e rfl
  | false=>exact check_pos hs h0 e rfl
end Ab
namespace Ab
open Go.RowKit Pl
section
variable {o1 o2 o3 x1 x2 x3 y1 y2 y3 z1 z2 z3 p1 p2 p3 m1 m2 m3:Rat}
theorem zU (h:Fv o1 o2 o3 x1 x2 x3 y1 y2 y3 z1 z2 z3) (k:mT p1 p2 p3) (h0:Sq0 x1 x2 x3 y1 y2 y3 z1 z2 z3)
 (e1:dt (p1-o1) (p2-o2) (p3-o3) x1 x2 x3/dt x1 x2 x3 x1 x2 x3=m1) (e2:dt (p1-o1) (p2-o2) (p3-o3) y1 y2 y3/dt y1 y2 y3 y1 y2 y3=m2) (e3:dt (p1-o1) (p2-o2) (p3-o3) z1 z2 z3/dt z1 z2 z3 z1 z2 z3=m3) (hr:mT m1 m2 m3) :
 jX 9 [iI o1 o2 o3 x1 x2 x3 y1 y2 y3 z1 z2 z3,vS p1 p2 p3] (fN m1 m2 m3):=by
 have hl:jF 34 [mB o1 o2 o3 x1 x2 x3 y1 y2 y3 z1 z2 z3,vc p1 p2 p3] (vc m1 m2 m3):=by
  rw [← e1,← e2,← e3]
  exact localF (h.w.lm.mono (by decide)) ((uW k).mono (by decide)) ((uW h.w.o).mono (by decide)) h0
 refine jY Tryz.func9 fun w00 hI=>?_
 refine jW hI 29 [gE 30,iI o1 o2 o3 x1 x2 x3 y1 y2 y3 z1 z2 z3,gE 31,vS p1 p2 p3] (readFV h k) ?_
 refine jC 34 [mB o1 o2 o3 x1 x2 x3 y1 y2 y3 z1 z2 z3,vc p1 p2 p3] (hl) ?_
 refine jW hI 33 [vc m1 m2 m3] (iU hr) ?_
 exact jR Tryz.func9
end
theorem isS_lit {β:List Nat} {cs:List Value} {w:World} {b:ByteArray}:(dD b).holds β cs w↔(Seg.lit (.string b):Seg Kn).holds β cs w:=⟨fun h=>⟨h,rfl⟩,fun h=>h.1⟩
inductive LitL:List (Seg Kn)→List (Seg Kn)→Prop where
 | nil:LitL [] []
 | txt {b:ByteArray} {l m}:LitL l m→LitL (dD b::l) (.lit (.string b)::m)
 | same {s:Seg Kn} {l m}:LitL l m→LitL (s::l) (s::m)
theorem LitL.to {β:List Nat} {w:World} {l m:List (Seg Kn)} (h:LitL l m):∀ {cs:List Value},holdsL β l cs w↔holdsL β m cs w:=by
 induction h with
 | nil=>intro cs;exact Iff.rfl
 | txt _ ih =>
   intro cs
   constructor
   ·rintro ⟨a,b,e,h1,h2⟩;exact ⟨a,b,e,isS_lit.1 h1,ih.1 h2⟩
   ·rintro ⟨a,b,e,h1,h2⟩;exact ⟨a,b,e,isS_lit.2 h1,ih.2 h2⟩
 | same _ ih =>
   intro cs
   constructor
   ·rintro ⟨a,b,e,h1,h2⟩;exact ⟨a,b,e,h1,ih.1 h2⟩
   ·rintro ⟨a,b,e,h1,h2⟩;exact ⟨a,b,e,h1,ih.2 h2⟩
theorem ag_lit {β:List Nat} {v:Value} {w:World} {l m:List (Seg Kn)} (h:LitL l m):(AV.fv (.ag l)).holds β v w↔(AV.fv (.ag m)).holds β v w:=by
 constructor
 ·rintro ⟨cs,e,k⟩;exact ⟨cs,e,h.to.1 k⟩
 ·rintro ⟨cs,e,k⟩;exact ⟨cs,e,h.to.2 k⟩
theorem sc_lit {β:List Nat} {v:Value} {w:World} {b:ByteArray}:(AV.fv (.sc (dD b)):AV Kn).holds β v w↔(AV.fv (.sc (.lit (.string b))):AV Kn).holds β v w:=isS_lit (β:=β) (cs := [v])
theorem FitsW.args {P:Program} {I:World→Prop} {f:FuncId} {l l' : List (AV Kn)} {x:AV Kn} (h:FitsW P I f l x) (hl:∀ β vs w,holdsA β l' vs w→holdsA β l vs w):FitsW P I f l' x:=fun β w vs hI hv=>h β w vs hI (hl β vs w hv)
theorem FitsW.res {P:Program} {I:World→Prop} {f:FuncId} {l:List (AV Kn)} {x y:AV Kn} (h:FitsW P I f l x) (hx:∀ β v w,x.holds β v w→y.holds β v w):FitsW P I f l y:=fun β w vs hI hv =>
 (h β w vs hI hv).mono fun e w' ⟨v,e1,e2,e3⟩=>⟨v,e1,e2,hx β v w' e3⟩
theorem dec_two {n:Nat} (h1:10≤n) (h2:n<100):Lib.decDigits n = [UInt8.ofNat (48+n/10),UInt8.ofNat (48+n%10)]:=by
 rw [eG (by omega),cN (by omega)]
 rfl
theorem bO {n:Nat} (h:n<10):decB n=⟨#[UInt8.ofNat (48+n)]⟩:=by unfold decB;rw [cN h]
theorem lZ {n:Nat} (h1:10≤n) (h2:n<100):decB n=⟨#[UInt8.ofNat (48+n/10),UInt8.ofNat (48+n%10)]⟩:=by unfold decB;rw [dec_two h1 h2]
theorem dB {z:Int} {b:ByteArray} (hz:¬ z<0) (h:decB z.natAbs=b):writeB (z:Rat)=b:=by
 rw [← dG,aZ,if_neg hz,h]
theorem fD {z:Int} {b:ByteArray} (hz:z<0) (h:decB z.natAbs=b):writeB (z:Rat)=⟨#[45]⟩++b:=by
 rw [← dG,aZ,if_pos hz,h]
theorem w0:writeB ((0:Int):Rat)=⟨#[48]⟩:=dB (by omega) (bO (n:=0) (by omega))
theorem w1:writeB ((1:Int):Rat)=⟨#[49]⟩:=dB (by omega) (bO (n:=1) (by omega))
theorem kK (q:Rat):aJ (writeB q)=(aZ q.num).size:=by
 by_cases h:q.den=1
 ·rw [iW h,tI]
 ·rw [eQ h,tJ]
theorem num_cut (q:Rat):(writeB q).extract 0 (aJ (writeB q))=aZ q.num:=by
 rw [kK]
 by_cases h:q.den=1
 ·rw [iW h,ext_all]
 ·rw [eQ h,ext_lo]
theorem den_cut {q:Rat} (h:q.den≠1):(writeB q).extract (aJ (writeB q)+1) (writeB q).size=decB q.den:=by
 rw [kK,eQ h]
 exact ext_hi _ _
theorem iX (q:Rat):(writeB q).size=(aZ q.num).size+if q.den=1 then 0 else 1+(decB q.den).size:=by
 by_cases h:q.den=1
 ·rw [iW h,if_pos h];rfl
 ·rw [eQ h,if_neg h,ByteArray.size_append,ByteArray.size_append,size47]
theorem numF {q:Rat} (hs:(writeB q).size≤1000000000):jF 87 [rS (writeB q)] (rS (aZ q.num)):=by
 have hc:=num_cut q
 generalize writeB q=s at *
 refine jT Tryz.func87 fun w00=>?_
 refine jB 113 [rS s] (eO (by omega)) ?_
 refine rshi 3 5 22 Tryz.underlying22 s (aJ s) (aZ q.num) (cL _) hc ?_
 exact jS Tryz.func87
theorem denF1 {q:Rat} (hs:(writeB q).size≤1000000000) (h:q.den=1):jF 88 [rS (writeB q)] (rS (decB q.den)):=by
 have hl:=iX q
 have hk:=kK q
 rw [if_pos h] at hl
 have e:decB q.den=⟨#[49]⟩:=by rw [h,dec1]
 rw [e]
 generalize writeB q=s at *
 have key:jF 88 [rS s] (.fv (.sc (.lit (.string ⟨#[49]⟩)))):=by
  refine jT Tryz.func88 fun w00=>?_
  refine jB 113 [rS s] (eO (by omega)) ?_
  refine cV 7 22 Tryz.underlying22 s ?_
  refine jL (.binOp .eql 3 (.tmp 6) (.tmp 8) 3) (.tmp 6) (.tmp 8) (rI (aJ s:Nat)) (rI (s.size:Nat)) (rl true) (fun ρ o β w ho hx hy=>⟨.bool true,gA ho (bD hx) (bD hy) (by simp;omega),eL rfl⟩) ?_
  exact jS Tryz.func88
 exact mX key fun β v w h=>h.1
theorem denF2 {q:Rat} (hs:(writeB q).size≤1000000000) (h:q.den≠1):jF 88 [rS (writeB q)] (rS (decB q.den)):=by
 have hl:=iX q
 have hk:=kK q
 rw [if_neg h] at hl
 have hc:=den_cut h
 generalize decB q.den=d at *
 generalize writeB q=s at *
 refine jT Tryz.func88 fun w00=>?_
 refine jB 113 [rS s] (eO (by omega)) ?_
 refine cV 7 22 Tryz.underlying22 s ?_
 refine jL (.binOp .eql 3 (.tmp 6) (.tmp 8) 3) (.tmp 6) (.tmp 8) (rI (aJ s:Nat)) (rI (s.size:Nat)) (rl false) (fun ρ o β w ho hx hy=>⟨.bool false,gA ho (bD hx) (bD hy) (by simp;omega),eL rfl⟩) ?_
 refine radd 11 (aJ s) (by omega) ?_
 refine rslo 10 12 22 Tryz.underlying22 s (aJ s+1) d (by omega) hc ?_
 exact jS Tryz.func88
theorem denOfF {q:Rat} (hs:(writeB q).size≤1000000000):jF 88 [rS (writeB q)] (rS (decB q.den)):=by
 by_cases h:q.den=1
 ·exact denF1 hs h
 ·exact denF2 hs h
theorem dec0_ne {n:Nat} (h:n≠0):decB n≠zeroT:=fun e=>h (sA (e.trans dec0.symm))
theorem body_ne_zero {q:Rat} (h:q.num≠0):bC q≠zeroT:=by
 by_cases hd:q.den=1
 ·rw [lY hd,cH]
  exact dec0_ne (by omega)
 ·intro e
  have hl:=oF q
  rw [if_neg hd,e] at hl
  have:zeroT.size=1:=rfl
  have:=rX q.num.natAbs
  omega
theorem kU {q:Rat} (h:q.num≠0):writeB q≠zeroT:=by
 by_cases hn:q.num<0
 ·obtain ⟨f1,⟨h0,hc⟩,f3,f4,f5⟩:=gM hn
  intro e
  have h1:=(uM q).1
  rw [e,decide_eq_true hn] at h1
  exact absurd h1 (by decide)
 ·rw [dU hn]
  exact body_ne_zero h
theorem signF0 {q:Rat} (h:q.num=0):jF 145 [rS (writeB q)] (.fv (.sc (.lit (.int .i64 0)))):=by
 have e:((writeB q).toList==(⟨#[48]⟩:ByteArray).toList)=true:=by
  have hd:q.den=1:=by have:=q.reduced;rw [h] at this;simpa using this
  rw [iW hd,h]
  have:aZ 0=zeroT:=by unfold aZ;rw [if_neg (by omega)];exact dec0
  rw [this]
  exact beq_self_eq_true zeroT.toList
 generalize writeB q=s at *
 refine jT Tryz.func145 fun w00=>?_
 refine tK 3 22 s ⟨#[48]⟩ true e ?_
 exact jS Tryz.func145
theorem signFn {q:Rat} (h:q.num<0):jF 145 [rS (writeB q)] (.fv (.sc (.lit (.int .i64 (-1))))):=by
 have e:=kJ (kU (q:=q) (by omega))
 obtain ⟨f1,hc,f3,f4,f5⟩:=gM h
 have h0:decide ((0:Int)<((writeB q).size:Nat))=true:=by rw [decide_eq_true_iff];omega
 generalize writeB q=s at *
 refine jT Tryz.func145 fun w00=>?_
 refine tK 3 22 s ⟨#[48]⟩ false e ?_
 refine cV 5 22 Tryz.underlying22 s ?_
 refine iJ 6 0 (s.size:Nat) true h0 ?_
 refine ridnR 9 s hc ?_
 exact jS Tryz.func145
theorem signFp {q:Rat} (h:0<q.num):jF 145 [rS (writeB q)] (.fv (.sc (.lit (.int .i64 1)))):=by
 have e:=kJ (kU (q:=q) (by omega))
 obtain ⟨c,hc,hc45⟩:=tL q
 rw [← dU (by omega)] at hc
 have h0:decide ((0:Int)<((writeB q).size:Nat))=true:=by rw [decide_eq_true_iff];have:=hc.1;omega
 generalize writeB q=s at *
 refine jT Tryz.func145 fun w00=>?_
 refine tK 3 22 s ⟨#[48]⟩ false e ?_
 refine cV 5 22 Tryz.underlying22 s ?_
 refine iJ 6 0 (s.size:Nat) true h0 ?_
 refine ridpR 9 s c hc ?_
 refine rueq 10 c hc45 ?_
 exact jS Tryz.func145
theorem absFn {q:Rat} (h:q.num<0) (hs:(writeB q).size≤1000000000):jF 86 [rS (writeB q)] (rS (bC q)):=by
 have hg:=signFn h
 obtain ⟨f1,hc,f3,f4,f5⟩:=gM h
 generalize bC q=u at *
 generalize writeB q=s at *
 refine jT Tryz.func86 fun w00=>?_
 refine jB 145 [rS s] hg ?_
 refine rsl1 6 22 Tryz.underlying22 s u f1 f3 ?_
 exact jS Tryz.func86
theorem absFp {q:Rat} (h:¬ q.num<0):jF 86 [rS (writeB q)] (rS (bC q)):=by
 rw [← dU h]
 by_cases h0:q.num=0
 ·have hg:=signF0 h0
  generalize writeB q=s at *
  refine jT Tryz.func86 fun w00=>?_
  refine jB 145 [rS s] hg ?_
  exact jS Tryz.func86
 ·have hg:=signFp (q:=q) (by omega)
  generalize writeB q=s at *
  refine jT Tryz.func86 fun w00=>?_
  refine jB 145 [rS s] hg ?_
  exact jS Tryz.func86
theorem absOfF {q:Rat} (hs:(writeB q).size≤1000000000):jF 86 [rS (writeB q)] (rS (bC q)):=by
 by_cases h:q.num<0
 ·exact absFn h hs
 ·exact absFp h
theorem absTF {z:Int} (hs:(aZ z).size≤1000000000):jF 86 [rS (aZ z)] (rS (decB z.natAbs)):=by
 have h:=absOfF (q:=(z:Rat)) (by rw [← dG];exact hs)
 have e:bC (z:Rat)=decB z.natAbs:=by rw [lY rfl,cH];rfl
 rw [← dG,e] at h
 exact h
def Fw (k:Nat) (q:Rat):Prop:=(decB q.num.natAbs).size≤k∧(decB q.den).size≤k
theorem oI (z:Int):(aZ z).size≤(decB z.natAbs).size+1:=by
 unfold aZ
 split
 ·rw [ByteArray.size_append,size45];omega
 ·omega
theorem fw_len {k:Nat} {q:Rat} (h:Fw k q):(writeB q).size≤2*k+2:=by
 have h1:=iX q
 have h2:=oI q.num
 have h3:=h.1
 have h4:=h.2
 split at h1 <;> omega
theorem few4_long {s:ByteArray} (h:decide (((s.size:Nat):Int)≤10)=false):jF 28 [rS s,.fv (.sc (.lit (.int .i64 4)))] (rl false):=by
 refine jT Tryz.func28 fun w00=>?_
 refine cV 5 22 Tryz.underlying22 s ?_
 refine yF 6 9 (s.size:Nat) 10 false h ?_
 exact jS Tryz.func28
theorem few4_bad {s:ByteArray} {z:Int} (h:decide (((s.size:Nat):Int)≤10)=true) (hk:jF 51 [rS s] (rI z)) (hz:z≠0):jF 28 [rS s,.fv (.sc (.lit (.int .i64 4)))] (rl false):=by
 refine jT Tryz.func28 fun w00=>?_
 refine cV 5 22 Tryz.underlying22 s ?_
 refine yF 6 9 (s.size:Nat) 10 true h ?_
 refine jB 51 [rS s] hk ?_
 refine jL (.binOp .eql 3 (.tmp 13) (.const (.int .i64 0)) 3) (.tmp 13) (.const (.int .i64 0)) (rI z) (.fv (.sc (.lit (.int .i64 0)))) (rl false) (fun ρ o β w ho hx hy=>⟨.bool false,gA ho (bD hx) (bZ hy) (by simpa using hz),eL rfl⟩) ?_
 exact jS Tryz.func28
theorem few4_num {s u a:ByteArray} {z:Int} (h:decide (((s.size:Nat):Int)≤10)=true) (hk:jF 51 [rS s] (rI z)) (hz:z=0) (h1:jF 87 [rS s] (rS u)) (h2:jF 86 [rS u] (rS a)) (h3:decide (((a.size:Nat):Int)≤4)=false):jF 28 [rS s,.fv (.sc (.lit (.int .i64 4)))] (rl false):=by
 refine jT Tryz.func28 fun w00=>?_
 refine cV 5 22 Tryz.underlying22 s ?_
 refine yF 6 9 (s.size:Nat) 10 true h ?_
 refine jB 51 [rS s] hk ?_
 refine jL (.binOp .eql 3 (.tmp 13) (.const (.int .i64 0)) 3) (.tmp 13) (.const (.int .i64 0)) (rI z) (.fv (.sc (.lit (.int .i64 0)))) (rl true) (fun ρ o β w ho hx hy=>⟨.bool true,gA ho (bD hx) (bZ hy) (by rw [hz];rfl),eL rfl⟩) ?_
 refine jB 87 [rS s] h1 ?_
 refine jB 86 [rS u] h2 ?_
 refine cV 19 22 Tryz.underlying22 a ?_
 refine yF 20 21 (a.size:Nat) 4 false h3 ?_
 exact jS Tryz.func28
theorem few4_denf {s u a d:ByteArray} {z:Int} (h:decide (((s.size:Nat):Int)≤10)=true) (hk:jF 51 [rS s] (rI z)) (hz:z=0) (h1:jF 87 [rS s] (rS u)) (h2:jF 86 [rS u] (rS a)) (h3:decide (((a.size:Nat):Int)≤4)=true) (h4:jF 88 [rS s] (rS d)) (h5:decide (((d.size:Nat):Int)≤4)=false):jF 28 [rS s,.fv (.sc (.lit (.int .i64 4)))] (rl false):=by
 refine jT Tryz.func28 fun w00=>?_
 refine cV 5 22 Tryz.underlying22 s ?_
 refine yF 6 9 (s.size:Nat) 10 true h ?_
 refine jB 51 [rS s] hk ?_
 refine jL (.binOp .eql 3 (.tmp 13) (.const (.int .i64 0)) 3) (.tmp 13) (.const (.int .i64 0)) (rI z) (.fv (.sc (.lit (.int .i64 0)))) (rl true) (fun ρ o β w ho hx hy=>⟨.bool true,gA ho (bD hx) (bZ hy) (by rw [hz];rfl),eL rfl⟩) ?_
 refine jB 87 [rS s] h1 ?_
 refine jB 86 [rS u] h2 ?_
 refine cV 19 22 Tryz.underlying22 a ?_
 refine yF 20 21 (a.size:Nat) 4 true h3 ?_
 refine jB 88 [rS s] h4 ?_
 refine cV 26 22 Tryz.underlying22 d ?_
 refine yF 27 28 (d.size:Nat) 4 false h5 ?_
 exact jS Tryz.func28
theorem few4_dent {s u a d:ByteArray} {z:Int} (h:decide (((s.size:Nat):Int)≤10)=true) (hk:jF 51 [rS s] (rI z)) (hz:z=0) (h1:jF 87 [rS s] (rS u)) (h2:jF 86 [rS u] (rS a)) (h3:decide (((a.size:Nat):Int)≤4)=true) (h4:jF 88 [rS s] (rS d)) (h5:decide (((d.size:Nat):Int)≤4)=true):jF 28 [rS s,.fv (.sc (.lit (.int .i64 4)))] (rl true):=by
 refine jT Tryz.func28 fun w00=>?_
 refine cV 5 22 Tryz.underlying22 s ?_
 refine yF 6 9 (s.size:Nat) 10 true h ?_
 refine jB 51 [rS s] hk ?_
 refine jL (.binOp .eql 3 (.tmp 13) (.const (.int .i64 0)) 3) (.tmp 13) (.const (.int .i64 0)) (rI z) (.fv (.sc (.lit (.int .i64 0)))) (rl true) (fun ρ o β w ho hx hy=>⟨.bool true,gA ho (bD hx) (bZ hy) (by rw [hz];rfl),eL rfl⟩) ?_
 refine jB 87 [rS s] h1 ?_
 refine jB 86 [rS u] h2 ?_
 refine cV 19 22 Tryz.underlying22 a ?_
 refine yF 20 21 (a.size:Nat) 4 true h3 ?_
 refine jB 88 [rS s] h4 ?_
 refine cV 26 22 Tryz.underlying22 d ?_
 refine yF 27 28 (d.size:Nat) 4 true h5 ?_
 exact jS Tryz.func28
theorem few4Yes {q:Rat} (h:Fw 4 q):jF 28 [rS (writeB q),.fv (.sc (.lit (.int .i64 4)))] (rl true):=by
 have hl:=fw_len h
 have ht:=oI q.num
 have h1:=h.1
 have h2:=h.2
 exact few4_dent (by rw [decide_eq_true_iff];omega) (oX (by omega)) (uN (by omega) (by omega)) (numF (by omega)) (absTF (by omega)) (by rw [decide_eq_true_iff];omega) (denOfF (by omega)) (by rw [decide_eq_true_iff];omega)
theorem few4No {s:ByteArray} (h:¬ ∃ q,s=writeB q∧Fw 4 q):jF 28 [rS s,.fv (.sc (.lit (.int .i64 4)))] (rl false):=by
 by_cases hl:s.size≤10
 ·have hl' : decide (((s.size:Nat):Int)≤10)=true:=by rw [decide_eq_true_iff];omega
  have hk:=oX (s:=s) (by omega)
  by_cases hz:eR s=0
  ·obtain ⟨q,rfl,_,_⟩:=check_zero hz
   have ht:=oI q.num
   have hw:=iX q
   by_cases h3:(decB q.num.natAbs).size≤4
   ·exact few4_denf hl' hk hz (numF (by omega)) (absTF (by split at hw <;> omega)) (by rw [decide_eq_true_iff];omega) (denOfF (by omega)) (by rw [decide_eq_false_iff_not];intro h4;exact h ⟨q,rfl,h3,by omega⟩)
   ·exact few4_num hl' hk hz (numF (by omega)) (absTF (by split at hw <;> omega)) (by rw [decide_eq_false_iff_not];omega)
  ·exact few4_bad hl' hk hz
 ·exact few4_long (by rw [decide_eq_false_iff_not];omega)
theorem kn_I {f:FuncId} {s:ByteArray} {z:Int} (h:jF f [rS s] (rI z)):jF f [tx s] (.fv (.sc (gC z))):=by
 intro β w vs hv
 obtain ⟨v,rfl,h1⟩:=dL hv
 rw [aQ h1]
 exact (h β w [.string s] ⟨_,_,rfl,dC,rfl⟩).mono fun e w' ⟨v,e1,e2,e3⟩=>⟨v,e1,e2,by rw [bD e3];exact bK⟩
theorem kn_S {f:FuncId} {s t u:ByteArray} (h:jF f [rS s,rS t] (rS u)):jF f [tx s,tx t] (tx u):=by
 intro β w vs hv
 obtain ⟨v,v2,rfl,h1,h2⟩:=eF hv
 rw [aQ h1,aQ h2]
 exact (h β w [.string s,.string t] ⟨_,_,rfl,dC,_,_,rfl,dC,rfl⟩).mono fun e w' ⟨v,e1,e2,e3⟩=>⟨v,e1,e2,by rw [bD e3];exact bK⟩
theorem kn_F {f:FuncId} {s:ByteArray} {n:Int} {b:Bool} (h:jF f [rS s,.fv (.sc (.lit (.int .i64 n)))] (rl b)):jF f [tx s,it n] (bl b):=by
 intro β w vs hv
 obtain ⟨v,v2,rfl,h1,h2⟩:=eF hv
 have e2:[v2] = [.int .i64 n]:=h2.1
 injection e2 with e2
 rw [aQ h1,e2]
 exact (h β w [.string s,.int .i64 n] ⟨_,_,rfl,dC,_,_,rfl,eL rfl,rfl⟩).mono fun e w' ⟨v,e1,e2,e3⟩=>⟨v,e1,e2,by rw [bZ e3];exact bE rfl⟩
end Ab
end Go.Proofs.YtghlkblebhhahaaGreatDoor
