/- Parts of the proof, joined. -/
import Derived.Test.YtofcdondmgojiaaGreatDoorJ12
import Derived.Test.YtofcdondmgojiaaGreatDoorJ13
import Derived.Test.YtofcdondmgojiaaGreatDoorJ7
set_option linter.unusedSimpArgs false
set_option linter.unusedVariables false
namespace Go.Proofs.YtofcdondmgojiaaGreatDoor
open Go.RowKit Pl
def lo (n:Nat):Nat→List UInt8
 | 0 => []
 | k+1=>UInt8.ofNat (48+n/10^k%10)::lo n k
def loB (n k:Nat):ByteArray:=⟨(lo n k).toArray⟩
theorem lo_length (n k:Nat):(lo n k).length=k:=by induction k with|zero=>rfl|succ k ih=>simp [lo,ih]
theorem loB_size (n k:Nat):(loB n k).size=k:=by simp [loB,ByteArray.size,lo_length]
abbrev digs:ByteArray:=⟨#[48,49,50,51,52,53,54,55,56,57]⟩
theorem digs_at {d:Nat} (h:d<10):digs.extract d (d+1)=⟨#[UInt8.ofNat (48+d)]⟩:=by
 match d,h with
 | 0,_|1,_|2,_|3,_|4,_|5,_|6,_|7,_|8,_|9,_=>rfl
theorem loB_succ (n k:Nat):(⟨#[UInt8.ofNat (48+n/10^k%10)]⟩:ByteArray)++loB n k=loB n (k+1):=by
 apply Ab.ba_ext
 simp [loB,lo]
theorem meas1 {q m least k a b:Nat} (hq:q=m/10) (h0:0<m) (ha:a=k+1) (hb:b=k):q+(least-a)<m+(least-b):=by omega
theorem meas2 {q m least k a b:Nat} (hq:q=m/10) (h0:m=0) (hk:k<least) (ha:a=k+1) (hb:b=k):q+(least-a)<m+(least-b):=by omega
theorem wrapI {q:Nat} (h:q<9223372036854775808):wrap64 (q:Int)=q:=by unfold wrap64;omega
theorem k18 {n k:Nat} (hn:n<9223372036854775808) (hp:10^k≤n):k≤18:=by
 refine Nat.le_of_not_lt fun hlt=>?_
 have h1:10^19≤10^k:=Nat.pow_le_pow_right (by omega) hlt
 have h2:(10:Nat)^19=10000000000000000000:=rfl
 rw [h2] at h1
 omega
set_option maxHeartbeats 1000000 in
set_option maxRecDepth 100000 in
theorem decimal_any (n least:Nat) (w:World) (hn:n<9223372036854775808) (hl:least≤100):Calls Tryz.prog 167 #[.int .i64 (n:Int),.int .i64 (least:Int)] w fun e w' =>
 w'=w∧∃ K,e = .returned (.string (loB n K))∧n<10^K∧least≤K∧(K=least∨10^(K-1)≤n):=by
 have H:=Lib.hid (And.intro hn hl)
 clear hn hl
 go_enter Tryz.func167,Tryz.ntmps167
 go_wp2
 go_loopw [0,5] (fun a s wr => ∃ k m:Nat,a = .int .i64 (m:Int)∧s = .string (loB n k)∧m=n/10^k∧wr=w∧(k=0∨k≤least∨10^(k-1)≤n)∧k≤100) (fun a s _=>(match a with | .int _ z=>z.toNat|_=>0)+(least-sizeOfS s))
 case atStart=>exact ⟨0,n,rfl,by simp [loB,lo],by simp,rfl,.inl rfl,by omega⟩
 case round =>
  obtain ⟨k,m,rfl,rfl,hm,rfl,hk,hk100⟩:=hrel
  obtain ⟨d,hd⟩:∃ d,d=m%10:=⟨_,rfl⟩
  obtain ⟨q,hq⟩:∃ q,q=m/10:=⟨_,rfl⟩
  have hd10:d<10:=by omega
  have hm63:m≤n:=by rw [hm];exact Nat.div_le_self _ _
  have t1:((m:Int).tmod 10)=(d:Int):=by rw [Int.tmod_eq_emod_of_nonneg (by omega)];omega
  have t2:((m:Int)%10)=(d:Int):=by omega
  have t3:((m:Int).tdiv 10)=(q:Int):=by rw [Int.tdiv_eq_ediv_of_nonneg (by omega)];omega
  have t4:((m:Int)/10)=(q:Int):=by omega
  have d0:(0:Int)≤d:=by omega
  have d1:(d:Int)+1≤10:=by omega
  have d2:(d:Int)≤d+1:=by omega
  have hsz:((loB n k).size:Int)=(k:Int):=by rw [loB_size]
  have hext:digs.extract d (d+1)++loB n k=loB n (k+1):=by
   rw [digs_at hd10,hd,hm]
   exact loB_succ n k
  have HH:=Lib.hid (And.intro hd (And.intro hq (And.intro hm (And.intro hk (And.intro hk100 (And.intro hm63 hext))))))
  clear hd hq hm hk hk100 hm63 hext
  by_cases h0:0<m
  ·have c0:(0:Int)<m:=by omega
   have HP:=Lib.hid h0
   clear h0
   go_wp2
   ·exfalso
    have:=loB_size n k
    have:=HH.out.2.2.2.2.1
    omega
   have h0':=HP.out
   obtain ⟨hd,hq,hm,hk,hk100,hm63,hext⟩:=HH.out
   obtain ⟨hn,hl⟩:=H.out
   have hq2:q=n/10^(k+1):=by rw [hq,hm,Nat.div_div_eq_div_mul,Nat.pow_succ]
   have hp:10^k≤n:=by
    rw [hm] at h0'
    exact (Nat.div_pos_iff.1 h0').2
   have hk18:=k18 hn hp
   rw [wrapI (show q<9223372036854775808 by omega)]
   refine ⟨⟨k+1,q,rfl,by rw [hext],hq2,trivial,.inr (.inr hp),by omega⟩,?_⟩
   rw [hext]
   show q+(least-(loB n (k+1)).size)<m+(least-(loB n k).size)
   exact meas1 hq h0' (loB_size _ _) (loB_size _ _)
  ·have c0:¬ (0:Int)<m:=by omega
   by_cases h1:k<least
   ·have c1:(k:Int)<least:=by omega
    go_wp2
    ·exfalso
     have:=loB_size n k
     have:=HH.out.2.2.2.2.1
     omega
    obtain ⟨hd,hq,hm,hk,hk100,hm63,hext⟩:=HH.out
    obtain ⟨hn,hl⟩:=H.out
    have hq2:q=n/10^(k+1):=by rw [hq,hm,Nat.div_div_eq_div_mul,Nat.pow_succ]
    have hz:m=0:=by omega
    refine ⟨⟨k+1,q,rfl,by rw [hext],hq2,trivial,.inr (.inl h1),by omega⟩,?_⟩
    rw [hext]
    show q+(least-(loB n (k+1)).size)<m+(least-(loB n k).size)
    exact meas2 hq hz h1 (loB_size _ _) (loB_size _ _)
   ·have c1:¬ (k:Int)<least:=by omega
    go_wp2
    go_ret
    obtain ⟨hd,hq,hm,hk,hk100,hm63,hext⟩:=HH.out
    have hz:n/10^k=0:=by omega
    refine ⟨rfl,k,rfl,?_,by omega,?_⟩
    ·rcases Nat.div_eq_zero_iff.1 hz with h|h
     ·have:=Nat.pow_pos (n:=k) (show 0<10 by omega);omega
     ·exact h
    ·rcases hk with h|h|h
     ·left;omega
     ·left;omega
     ·right;exact h
theorem lo_add (x c k:Nat):∀ j,j≤k→lo (x+c*10^k) j=lo x j:=by
 intro j
 induction j with
 | zero=>intro _;rfl
 | succ j ih =>
   intro hj
   simp only [lo]
   rw [ih (by omega)]
   congr 3
   have hk:10^k=10*10^(k-1-j)*10^j:=by
    rw [Nat.mul_assoc,← Nat.pow_add,← Nat.pow_succ']
    congr 1
    omega
   rw [hk,← Nat.mul_assoc,Nat.add_mul_div_right _ _ (Nat.pow_pos (by omega)),← Nat.mul_assoc,Nat.mul_comm c 10,Nat.mul_assoc,Nat.add_mul_mod_self_left]
theorem lo_mod (x k:Nat):lo (x%10^k) k=lo x k:=by
 have h:x=x%10^k+x/10^k*10^k:=by rw [Nat.mul_comm];exact (Nat.mod_add_div x (10^k)).symm
 have h2:=lo_add (x%10^k) (x/10^k) k k (Nat.le_refl _)
 rw [← h] at h2
 exact h2.symm
theorem dec_app:∀ (k a x:Nat),0<a→x<10^k→Lib.decDigits (a*10^k+x)=Lib.decDigits a++lo x k:=by
 intro k
 induction k with
 | zero=>intro a x ha hx;simp at hx;subst hx;simp [lo]
 | succ k ih =>
   intro a x ha hx
   have hd:x/10^k<10:=by rw [Nat.div_lt_iff_lt_mul (Nat.pow_pos (by omega))];rw [Nat.pow_succ,Nat.mul_comm] at hx;exact hx
   have he:a*10^(k+1)+x=(a*10+x/10^k)*10^k+x%10^k:=by
    have:=Nat.mod_add_div x (10^k)
    rw [Nat.add_mul,Nat.pow_succ,Nat.mul_assoc a 10,Nat.mul_comm 10 (10^k),Nat.mul_comm (x/10^k)]
    omega
   have hlo:lo x (k+1)=UInt8.ofNat (48+x/10^k%10)::lo x k:=rfl
   rw [he,hlo]
   generalize x/10^k=d at hd
   rw [ih _ _ (by omega) (Nat.mod_lt _ (Nat.pow_pos (by omega))),lo_mod,eZ (by omega),show (a*10+d)/10=a by omega,show (a*10+d)%10=d by omega]
   rw [List.append_assoc,Nat.mod_eq_of_lt hd]
   rfl
theorem dec_lo {n K:Nat} (h1:n<10^(K+1)) (h2:K=0∨10^K≤n):lo n (K+1)=Lib.decDigits n:=by
 have hp:0<10^K:=Nat.pow_pos (by omega)
 have hd:n/10^K<10:=by rw [Nat.div_lt_iff_lt_mul hp];rw [Nat.pow_succ,Nat.mul_comm] at h1;exact h1
 rcases h2 with h2|h2
 ·subst h2
  simp at h1
  rw [dA h1]
  simp [lo,Nat.mod_eq_of_lt h1]
 ·have ha:0<n/10^K:=Nat.div_pos h2 hp
  have he:n=n/10^K*10^K+n%10^K:=by have:=Nat.mod_add_div n (10^K);rw [Nat.mul_comm] at this;omega
  have h3:=dec_app K _ _ ha (Nat.mod_lt n hp)
  rw [← he,dA hd,lo_mod] at h3
  rw [h3]
  simp [lo,Nat.mod_eq_of_lt hd]
theorem loB_dec {n K:Nat} (h1:n<10^K) (hK:1≤K) (h2:K=1∨10^(K-1)≤n):loB n K=Ab.decB n:=by
 obtain ⟨k,rfl⟩:∃ k,K=k+1:=⟨K-1,by omega⟩
 unfold loB Ab.decB
 rw [dec_lo h1 ?_]
 rcases h2 with h|h
 ·left;omega
 ·right;simpa using h
theorem decB_app {a x:Nat} (ha:0<a) (hx:x<B9):Ab.decB a++loB x 9=Ab.decB (x+B9*a):=by
 apply Ab.ba_ext
 have:=dec_app 9 a x ha (by rw [cV] at hx;omega)
 simp only [Ab.decB,loB]
 rw [show x+B9*a=a*10^9+x by rw [cV];omega,this]
 simp
theorem decimal1 (n:Nat) (w:World) (hn:n<9223372036854775808):Calls Tryz.prog 167 #[.int .i64 (n:Int),.int .i64 1] w fun e w'=>w'=w∧e = .returned (.string (Ab.decB n)) :=
 (decimal_any n 1 w hn (by omega)).mono fun e w' ⟨e1,K,e2,h1,h2,h3⟩=>⟨e1,by rw [e2,loB_dec h1 h2 h3]⟩
theorem decimal9 (n:Nat) (w:World) (hn:n<B9):Calls Tryz.prog 167 #[.int .i64 (n:Int),.int .i64 9] w fun e w'=>w'=w∧e = .returned (.string (loB n 9)) :=
 (decimal_any n 9 w (by rw [cV] at hn;omega) (by omega)).mono fun e w' ⟨e1,K,e2,h1,h2,h3⟩=>⟨e1,by
  have:K=9:=by
   rcases h3 with h|h
   ·exact h
   ·refine Nat.le_antisymm (Nat.le_of_not_lt fun hlt=>?_) h2
    have h4:10^9≤10^(K-1):=Nat.pow_le_pow_right (by omega) (by omega)
    rw [show (10:Nat)^9=1000000000 from rfl] at h4
    rw [cV] at hn
    omega
  rw [e2,this]⟩
def aR (z:Int):ByteArray:=if z<0 then ⟨#[45]⟩++Ab.decB z.natAbs else Ab.decB z.natAbs
theorem size_val {xs:List Nat} (hd:Dig B9 xs) (h0:xs≠[]):(Ab.decB (val B9 xs)).size≤9*xs.length:=by
 have h1:=bV hd
 have h2:B9^xs.length=10^(9*xs.length):=by rw [Nat.pow_mul];rfl
 have hl:0<xs.length:=List.length_pos_iff.2 h0
 rw [h2,show 9*xs.length=9*xs.length-1+1 by omega] at h1
 have:=Ab.decB_size h1
 omega
set_option maxHeartbeats 2000000 in
set_option maxRecDepth 100000 in
theorem text_raw (neg:Bool) (A:Option Addr) (n c:Nat) (xs:List Nat) (w:World) (h:Ri w A n c xs) (hd:Dig B9 xs) (hn:Norm xs) (hlen:n≤100000000) :
 Calls Tryz.prog 169 #[.agg #[.bool neg,.slice A n c]] w fun e w'=>e = .returned (.string (if neg&&decide (0<n) then ⟨#[45]⟩++Ab.decB (val B9 xs) else Ab.decB (val B9 xs)))∧Below w.heap.size w w':=by
 have hB:Below w.heap.size w (w.alloc (.cells #[.bool neg,.slice A n c] 154)):=(Below.refl _ _).alloc (Nat.le_refl _) _
 have HR:=Lib.hid (And.intro (h.below hB) (And.intro hd (And.intro hn (And.intro hlen (And.intro h.len hB)))))
 clear h hd hn hlen hB
 go_enter Tryz.func169,Tryz.ntmps169
 rcases Nat.eq_zero_or_pos n with h0|h0
 ·subst h0
  have h0:xs = []:=List.eq_nil_of_length_eq_zero HR.out.2.2.2.2.1
  have he:Ab.decB (val B9 xs)=⟨#[48]⟩:=by rw [h0];exact Ab.dec0
  have hb:=HR.out.2.2.2.2.2
  clear HR h0
  cases neg <;> (go_wp2;go_ret;exact ⟨rfl,hb⟩)
 ·have c0:((n:Int)==0)=false:=by simp;omega
  obtain ⟨m,hm⟩:∃ m,m=n-1:=⟨_,rfl⟩
  obtain ⟨ad,x,rfl,_hb,hx,hcell⟩:=HR.out.1.at_ (k:=m) (by omega)
  have c1:((n:Int)-1)=(m:Int):=by omega
  have c3:((n:Int)-2)=(m:Int)-1:=by omega
  have c2:(m:Int)<n:=by omega
  have c4:wrap64 (m:Int)=m:=wrapI (by have:=HR.out.2.2.2.1;omega)
  have c5:wrap64 ((m:Int)-1)=(m:Int)-1:=by unfold wrap64;have:=HR.out.2.2.2.1;omega
  have hlx:m<xs.length:=by rw [HR.out.2.2.2.2.1];omega
  have hx9:x<B9:=HR.out.2.1.at_ hx
  have hx63:x<9223372036854775808:=by rw [cV] at hx9;omega
  have hdrop:val B9 (xs.drop m)=x:=by
   rw [List.getElem?_eq_getElem hlx] at hx
   injection hx with hx
   rw [val_drop B9 xs _ hlx,List.drop_of_length_le (by rw [HR.out.2.2.2.2.1];omega)]
   simp [val,hx]
  have HX:=Lib.hid (And.intro hx (And.intro hdrop hm))
  clear hx hdrop hlx hx9 hm
  go_wp2_with fail
  refine (decimal1 x _ hx63).mono ?_
  rintro e w' ⟨rfl,rfl⟩
  go_wp2_with fail
  go_loopw [3,4] (fun s i wr => ∃ k:Nat,i = .int .i64 ((k:Int)-1)∧k≤m∧s = .string (Ab.decB (val B9 (xs.drop k)))∧wr=w.alloc (.cells #[.bool neg,.slice (some ad) n c] 154)) (fun _ i _=>(intOf i+1).toNat)
  case atStart=>exact ⟨m,by rw [c5],Nat.le_refl _,by rw [HX.out.2.1],rfl⟩
  case round =>
   obtain ⟨k,rfl,hk,rfl,rfl⟩:=hrel
   have hpos:0<val B9 (xs.drop k):=by
    obtain ⟨hx,_,hm⟩:=HX.out
    obtain ⟨_,hd,hn,_,hl,_⟩:=HR.out
    have hne:xs.drop k≠[]:=fun e=>by have:=congrArg List.length e;rw [List.length_drop,List.length_nil] at this;omega
    refine Norm.pos cN (fun h=>?_) hne
    rw [List.getLast_drop]
    exact hn _
   have hsz:(Ab.decB (val B9 (xs.drop k))).size≤900000000:=by
    obtain ⟨_,hd,hn,hlen,hl,_⟩:=HR.out
    have hne:xs.drop k≠[]:=fun e=>by have:=congrArg List.length e;rw [List.length_drop,List.length_nil] at this;have:=HX.out.2.2;omega
    have:=size_val (hd.drop k) hne
    rw [List.length_drop] at this
    omega
   rcases Nat.eq_zero_or_pos k with h0|h0
   ·subst h0
    rw [List.drop_zero] at hpos hsz ⊢
    have HF:=Lib.hid (And.intro hpos hsz)
    clear hpos hsz hk
    have hb:=HR.out.2.2.2.2.2
    cases neg
    ·go_wp2
     all_goals first|(exfalso;have:=HF.out.2;simp at *;omega)|(go_ret;exact ⟨rfl,hb⟩)
    ·go_wp2
     all_goals first|(go_ret;exact ⟨rfl,hb⟩)|(exfalso;have:=HF.out.2;simp at *;omega)
   ·obtain ⟨j,hj⟩:∃ j,j=k-1:=⟨_,rfl⟩
    have d1:((k:Int)-1)=(j:Int):=by omega
    have d2:(j:Int)<n:=by have:=HX.out.2.2;omega
    have d3:(0:Int)≤j:=by omega
    have d4:wrap64 ((j:Int)-1)=(j:Int)-1:=by unfold wrap64;have:=HR.out.2.2.2.1;have:=HX.out.2.2;omega
    obtain ⟨ad',y,e,_hb',hy,hcy⟩:=HR.out.1.at_ (k:=j) (by have:=HX.out.2.2;omega)
    injection e with e
    subst e
    have hy9:y<B9:=HR.out.2.1.at_ hy
    have HY:=Lib.hid (And.intro hy (And.intro hj (And.intro hpos (And.intro hsz (And.intro hk h0)))))
    clear hy hj hpos hsz hk h0 hcell
    rw [d1]
    go_wp2_with fail
    refine (decimal9 y _ hy9).mono ?_
    rintro e w' ⟨rfl,rfl⟩
    go_wp2
    ·exfalso
     have h9:=loB_size y 9
     obtain ⟨_,_,_,h8,_⟩:=HY.out
     omega
    go_roundw
    case rel =>
     obtain ⟨hy,hj,hpos,hsz,hk,h0⟩:=HY.out
     have hl:=HR.out.2.2.2.2.1
     have hjl:j<xs.length:=by have:=HX.out.2.2;omega
     rw [c5]
     refine ⟨_,_,_,_,_,_,_,_,_,_,_,_,_,_,⟨j,?_,by omega,?_,trivial⟩,rfl⟩
     ·rw [d4]
     congr 1
     rw [decB_app hpos hy9,val_drop B9 xs j hjl]
     rw [List.getElem?_eq_getElem hjl] at hy
     injection hy with hy
     rw [hy,show j+1=k by omega]
    case measure =>
     have:=HY.out.2.1
     have:=HY.out.2.2.2.2.2
     simp [intOf]
     omega
theorem row_ri {w:World} {base m:Nat} {e:TypeId} {v:Value} {ws:List Nat} (h:w.ownsRow base e 1 v m (ws.map eH)):∃ A c,v = .slice A m c∧Ri w A m c ws:=by
 obtain ⟨h1,h2⟩:=h
 have hl:ws.length=m:=by simpa using h1
 rcases h2 with ⟨rfl,rfl⟩|⟨g,cap,cur,rfl,e2,e3,e4,e5,e6,e7⟩
 ·have:ws = []:=List.eq_nil_of_length_eq_zero hl
  subst this
  exact ⟨none,0,rfl,Ri.nil⟩
 ·refine ⟨_,cap,rfl,hl,e4,e5,fun _=>⟨_,rfl,lt_of_block e3,fun j x hx=>?_⟩⟩
  rw [add_plain',aA e3,← Array.getElem?_toList]
  have hj:(cur.toList.take (m*1))[0+j]?=some (.int .i64 (x:Int)):=by rw [e7,Nat.zero_add,List.getElem?_map,hx];rfl
  rw [List.getElem?_take] at hj
  split at hj
  ·exact hj
  ·cases hj
def WholeAt (w:World) (z:Int) (nv wv:Value) (wr:World):Prop :=
 ∃ (m:Int) (ds:List Nat),nv = .int .i64 m∧wr.ownsRow (w.heap.size+1) 3 1 wv ds.length (ds.map eH)∧Dig B9 ds∧z.natAbs=val B9 ds+B9^ds.length*m.natAbs∧(m<0→z<0)∧(0<m→0<z) ∧
   Below w.heap.size w wr∧wr.heap[w.heap.size]?=some (.cells #[.bool false,.slice none 0 0] 154 (0,0))∧w.heap.size<wr.heap.size
theorem whole_len {z m:Int} {ds:List Nat} (hz:-9223372036854775808≤z∧z≤9223372036854775807) (h:z.natAbs=val B9 ds+B9^ds.length*m.natAbs) (hm:m≠0):ds.length≤2∧-9223372036854775808≤m∧m≤9223372036854775808:=by
 have h1:1≤m.natAbs:=by omega
 have h2:B9^ds.length*1≤B9^ds.length*m.natAbs:=Nat.mul_le_mul_left _ h1
 have hp:0<B9^ds.length:=Nat.pow_pos cN
 have h4:1*m.natAbs≤B9^ds.length*m.natAbs:=Nat.mul_le_mul_right _ hp
 refine ⟨Nat.le_of_not_lt fun hlt=>?_,by omega,by omega⟩
 have h3:B9^3≤B9^ds.length:=Nat.pow_le_pow_right cN hlt
 have h5:B9^3=1000000000000000000000000000:=rfl
 rw [h5] at h3
 omega
theorem whole_next {w w2:World} {z m m2:Int} {ds:List Nat} {r:Nat} {v' : Value} (hd:Dig B9 ds) (h:z.natAbs=val B9 ds+B9^ds.length*m.natAbs) (hn:m<0→z<0) (hp:0<m→0<z)
 (e:m.natAbs=r+1000000000*m2.natAbs) (hr:r<1000000000) (s1:m2<0→m<0) (s2:0<m2→0<m) (ho:w2.ownsRow (w.heap.size+1) 3 1 v' (ds.length+1) (ds.map eH ++ [.int .i64 (r:Int)]))
 (hb:Below w.heap.size w w2) (hh:w2.heap[w.heap.size]?=some (.cells #[.bool false,.slice none 0 0] 154 (0,0))) (hs:w.heap.size<w2.heap.size):WholeAt w z (.int .i64 m2) v' w2:=by
 refine ⟨m2,ds ++ [r],rfl,?_,hd.app (Dig.cons (by rw [cV];exact hr) (Dig.nil _)),?_,fun h1=>hn (s1 h1),fun h1=>hp (s2 h1),hb,hh,hs⟩
 ·rw [List.length_append,List.length_singleton,List.map_append];exact ho
 ·rw [cR,List.length_append,List.length_singleton,Nat.pow_succ,h,e,Nat.mul_add,Nat.mul_assoc,cV,Nat.add_assoc]
theorem gJ {w w' : World} {row:Option Nat} {g:Nat} {o:Obj} (hg:w.grownBy w' row) (h:w.heap[g]?=some o) (hr:some g≠row):w'.heap[g]?=some o :=
 (hg.block g (lt_of_block h) hr).trans h
theorem blk2i {w:World} {g:Nat} {T:TypeId} {a b:Value} (h:w.heap[g]?=some (.cells #[a,b] T (0,0))):(w.cell? ⟨g,0,none⟩=some a∧w.cell? ⟨g,1,none⟩=some b)∧w.frozen? ⟨g,0,none⟩=false∧w.frozen? ⟨g,1,none⟩=false:=by
 simp [World.cell?,World.frozen?,h]
theorem set2_heap {w:World} {g:Nat} {T:TypeId} {a b x y:Value} (h:w.heap[g]?=some (.cells #[a,b] T (0,0))):((w.setCell ⟨g,0,none⟩ x).setCell ⟨g,1,none⟩ y).heap[g]?=some (.cells #[x,y] T (0,0)):=by
 simp [World.setCell,Array.getElem?_modify,h]
theorem In.set2 {w:World} {v:Value} {z:Int} {g:Nat} {T:TypeId} {a b x y:Value} (h:In w v z) (hg:w.heap[g]?=some (.cells #[a,b] T (0,0))) (ha:∀ n,a≠.int .i64 n) (hb:∀ n,b≠.int .i64 n):In ((w.setCell ⟨g,0,none⟩ x).setCell ⟨g,1,none⟩ y) v z:=by
 obtain ⟨A,n,c,xs,hv,hr,hd,hn,hz⟩:=h
 refine ⟨A,n,c,xs,hv,⟨hr.1,hr.2.1,hr.2.2.1,fun hp=>?_⟩,hd,hn,hz⟩
 obtain ⟨ad,e,hl,hc⟩:=hr.2.2.2 hp
 refine ⟨ad,e,by simpa [World.setCell] using hl,fun j u hu=>?_⟩
 have h1:=hc j u hu
 have hne:(ad.add j).block≠g:=fun he=>by
  unfold World.cell? at h1
  rw [he,hg] at h1
  simp only at h1
  match ho:(ad.add j).off with
  | 0=>rw [ho] at h1;simp at h1;exact ha _ h1.2
  | 1=>rw [ho] at h1;simp at h1;exact hb _ h1.2
  | k+2=>rw [ho] at h1;simp at h1
 rw [World.cell?_of_block (w:=w),h1]
 rw [Below.heap_setCell _ _ _ _ (show (ad.add j).block≠(⟨g,1,none⟩:Addr).block from hne),Below.heap_setCell _ _ _ _ (show (ad.add j).block≠(⟨g,0,none⟩:Addr).block from hne)]
theorem info_int:(Tryz.prog.info? 3).map (fun i=>(i.zero,i.size,i.bytes))=some (some (.int .i64 0),1,8):=by kernel_rfl
set_option maxHeartbeats 2000000 in
set_option maxRecDepth 100000 in
theorem whole_any (z:Int) (w:World) (hz:-9223372036854775808≤z∧z≤9223372036854775807):Calls Tryz.prog 161 #[.int .i64 z] w fun e w' => ∃ v,e = .returned v∧In w' v z∧Below w.heap.size w w':=by
 have HZ:=Lib.hid hz
 clear hz
 obtain ⟨i0,hi,hz0,hz1,hz2⟩:=info_parts info_int
 have HI:=Lib.hid (And.intro hi (And.intro hz0 (And.intro hz1 hz2)))
 clear hi hz0 hz1 hz2
 go_enter Tryz.func161,Tryz.ntmps161
 go_wp2
 go_loopw [0,3] (fun nv wv wr=>WholeAt w z nv wv wr) (fun nv _ _=>(intOf nv).natAbs)
 case atStart=>exact ⟨z,[],rfl,⟨rfl,.inl ⟨rfl,rfl⟩⟩,Dig.nil _,by simp [val],fun h=>h,fun h=>h,(Below.refl _ _).alloc (Nat.le_refl _) _,heap_alloc_new w _,by simp⟩
 case round =>
  obtain ⟨m,ds,rfl,hrow,hd,hzm,hn,hp,hb,hh,hs⟩:=hrel
  by_cases c0:m=0
  ·subst c0
   obtain ⟨A,c,rfl,hri⟩:=row_ri hrow
   have hv:sgz (decide (z<0)) (val B9 ds)=z:=by
    simp only [Int.natAbs_zero,Nat.mul_zero,Nat.add_zero] at hzm
    rw [← hzm]
    unfold sgz
    split <;> simp_all <;> omega
   have HC:=Lib.hid (And.intro hri (And.intro hd (And.intro hv (And.intro hb (And.intro hh hs)))))
   clear hrow hri hd hzm hn hp hb hh hs hv
   go_wp2_with fail
   refine (signed_any _ A _ c ds _ HC.out.1 HC.out.2.1).mono ?_
   rintro e w2 ⟨v,rfl,q,b⟩
   rw [HC.out.2.2.1] at q
   have hh2:w2.heap[w.heap.size]?=some (.cells #[.bool false,.slice none 0 0] 154 (0,0)):=(b.block _ HC.out.2.2.2.2.2).trans HC.out.2.2.2.2.1
   have hs2:w.heap.size<w2.heap.size:=Nat.lt_of_lt_of_le HC.out.2.2.2.2.2 b.size
   have hb2:Below w.heap.size w w2:=HC.out.2.2.2.1.trans (b.mono HC.out.2.2.2.1.size)
   obtain ⟨A',n',c',xs',rfl,q'⟩:=id q
   have Q:=Lib.hid (And.intro q (And.intro hh2 (And.intro hs2 hb2)))
   clear q q' b hh2 hs2 hb2
   obtain ⟨⟨b0,b1⟩,f0,f1⟩:=blk2i Q.out.2.1
   go_wp2
   obtain ⟨q,hh2,hs2,hb2⟩:=Q.out
   obtain ⟨⟨g0,g1⟩,_⟩:=blk2i (set2_heap hh2 (x := .bool (decide (z<0))) (y := .slice A' n' c'))
   refine bodyPost_ret (v := .agg #[.bool (decide (z<0)),.slice A' n' c']) (by simp [results,Tryz.results161,go_sem,g0,g1]) rfl ⟨_,rfl,q.set2 hh2 (fun n h=>by cases h) (fun n h=>by cases h),?_⟩
   exact (hb2.setCell (p:=⟨w.heap.size,0,none⟩) (Nat.le_refl _) _).setCell (p:=⟨w.heap.size,1,none⟩) (Nat.le_refl _) _
  ·obtain ⟨hl2,hm1,hm2⟩:=whole_len HZ.out hzm c0
   obtain ⟨r,hr⟩:∃ r,r=m.natAbs%1000000000:=⟨_,rfl⟩
   obtain ⟨r',hr'⟩:∃ r' : Int,r'=if m<0 then -(r:Int) else r:=⟨_,rfl⟩
   obtain ⟨q',hq'⟩:∃ q' : Int,q'=if m<0 then -((m.natAbs/1000000000:Nat):Int) else ((m.natAbs/1000000000:Nat):Int):=⟨_,rfl⟩
   have t1:m.tmod 1000000000=r':=by
    rcases Int.lt_or_le m 0 with h|h
    ·rw [hr',if_pos h,show m = -((m.natAbs:Nat):Int) by omega,Int.neg_tmod,Int.tmod_eq_emod_of_nonneg (by omega)]
     omega
    ·rw [hr',if_neg (by omega),Int.tmod_eq_emod_of_nonneg h]
     omega
   have t3:m.tdiv 1000000000=q':=by
    rcases Int.lt_or_le m 0 with h|h
    ·rw [hq',if_pos h,show m = -((m.natAbs:Nat):Int) by omega,Int.neg_tdiv,Int.tdiv_eq_ediv_of_nonneg (by omega)]
     omega
    ·rw [hq',if_neg (by omega),Int.tdiv_eq_ediv_of_nonneg h]
     omega
   have hq:m.natAbs=r+1000000000*q'.natAbs:=by split at hq' <;> omega
   have hqs:(q'<0→m<0)∧(0<q'→0<m):=by split at hq' <;> omega
   have t4:wrap64 q'=q':=by unfold wrap64;split at hq' <;> omega
   have hrr:r<1000000000:=by omega
   have hrs:r'=(r:Int)∨(r'<0∧r' = -(r:Int)):=by split at hr' <;> omega
   have HC:=Lib.hid (And.intro hrow (And.intro hd (And.intro hzm (And.intro hn (And.intro hp (And.intro hb (And.intro hh (And.intro hs (And.intro hl2 (And.intro hq (And.intro hqs hrr)))))))))))
   clear hrow hd hzm hn hp hb hh hs hl2 hr hq hq' hr' hqs
   rcases hrs with h1|⟨h1,h2⟩
   ·subst h1
    have hneg:¬ (r:Int)<0:=by omega
    clear hrr
    go_wp2_with (at_builtin;refine wpList_append_own _ rfl _ _ 86 rfl (w.heap.size+1) 3 i0 (.int .i64 0) 1 8 Tryz.underlying86 HI.out.1 HI.out.2.1 HI.out.2.2.1 HI.out.2.2.2 rfl (by decide) _ _ _ rfl (HC.out.1.alloc _) ⟨wr.heap.size,0,none⟩ 1 1 [.int .i64 (r:Int)] rfl rfl ?k1 ?k2 ?k3 ?k4 ?k5 ?_)
    try (case k1 =>
     intro j u hj
     match j with
     | 0 =>
       simp only [List.getElem?_cons_zero,Option.some.injEq] at hj
       subst hj
       exact aA (heap_alloc_new wr _) 0
     | j+1=>simp at hj)
    case k2=>first|rfl|(intro u hu;simp at hu;subst hu;rfl)
    case k3=>have:=HC.out.2.2.2.2.2.2.2.2.1;show ds.length+1≤9223372036854775807;omega
    case k4=>have:=HC.out.2.2.2.2.2.2.2.2.1;omega
    case k5=>have:=HC.out.2.2.2.2.2.2.2.1;simp;omega
    intro v' w3 hr3 hg3 _
    obtain ⟨hrow,hd,hzm,hn,hp,hb,hh,hs,hl2,hq,hqs,hrr⟩:=HC.out
    have hbw:Below w.heap.size w w3:=Below.grown (hb.alloc hb.size _) hg3 (by have:=hb.size;simp;omega) (fun b hb'=>by have:=row_own hrow b hb';omega)
    have hh3:w3.heap[w.heap.size]?=some (.cells #[.bool false,.slice none 0 0] 154 (0,0)):=by
     have h2:=(Below.heap_alloc wr (.cells #[.int .i64 (r:Int)] 3) _ hs).trans hh
     refine gJ hg3 h2 ?_
     intro he
     have:=row_own hrow _ he.symm
     omega
    have HX:=Lib.hid (And.intro (whole_next hd hzm hn hp hq hrr hqs.1 hqs.2 hr3 hbw hh3 (by have:=hg3.size;simp at this;omega)) hq)
    clear hr3 hg3 hrow hd hzm hn hp hb hh hs hl2 hq hqs hrr hbw hh3
    go_wp2
    go_roundw
    case rel=>first|exact HX.out.1|(rw [t4];exact HX.out.1)
    case measure=>have:=HX.out.2;simp only [intOf,t4];omega
   ·have t5:wrap64 (0-r')=(r:Int):=by unfold wrap64;omega
    have t6:wrap64 (-r')=(r:Int):=by unfold wrap64;omega
    clear hrr h2
    go_wp2_with (at_builtin;refine wpList_append_own _ rfl _ _ 86 rfl (w.heap.size+1) 3 i0 (.int .i64 0) 1 8 Tryz.underlying86 HI.out.1 HI.out.2.1 HI.out.2.2.1 HI.out.2.2.2 rfl (by decide) _ _ _ rfl (HC.out.1.alloc _) ⟨wr.heap.size,0,none⟩ 1 1 [.int .i64 (r:Int)] rfl rfl ?k1 ?k2 ?k3 ?k4 ?k5 ?_)
    try (case k1 =>
     intro j u hj
     match j with
     | 0 =>
       simp only [List.getElem?_cons_zero,Option.some.injEq] at hj
       subst hj
       exact aA (heap_alloc_new wr _) 0
     | j+1=>simp at hj)
    case k2=>first|rfl|(intro u hu;simp at hu;subst hu;rfl)
    case k3=>have:=HC.out.2.2.2.2.2.2.2.2.1;show ds.length+1≤9223372036854775807;omega
    case k4=>have:=HC.out.2.2.2.2.2.2.2.2.1;omega
    case k5=>have:=HC.out.2.2.2.2.2.2.2.1;simp;omega
    intro v' w3 hr3 hg3 _
    obtain ⟨hrow,hd,hzm,hn,hp,hb,hh,hs,hl2,hq,hqs,hrr⟩:=HC.out
    have hbw:Below w.heap.size w w3:=Below.grown (hb.alloc hb.size _) hg3 (by have:=hb.size;simp;omega) (fun b hb'=>by have:=row_own hrow b hb';omega)
    have hh3:w3.heap[w.heap.size]?=some (.cells #[.bool false,.slice none 0 0] 154 (0,0)):=by
     have h2:=(Below.heap_alloc wr (.cells #[.int .i64 (r:Int)] 3) _ hs).trans hh
     refine gJ hg3 h2 ?_
     intro he
     have:=row_own hrow _ he.symm
     omega
    have HX:=Lib.hid (And.intro (whole_next hd hzm hn hp hq hrr hqs.1 hqs.2 hr3 hbw hh3 (by have:=hg3.size;simp at this;omega)) hq)
    clear hr3 hg3 hrow hd hzm hn hp hb hh hs hl2 hq hqs hrr hbw hh3
    go_wp2
    go_roundw
    case rel=>first|exact HX.out.1|(rw [t4];exact HX.out.1)
    case measure=>have:=HX.out.2;simp only [intOf,t4];omega
end Go.Proofs.YtofcdondmgojiaaGreatDoor
namespace Go.Proofs.YtofcdondmgojiaaGreatDoor
open Go.RowKit Pl
def Kr:Value→Bool
 | .int .i64 _=>true
 | _=>false
theorem Ri.ext {K:Value→Bool} (hK:∀ x,K (.int .i64 x)=true) {w w' : World} {A:Option Addr} {n c:Nat} {xs:List Nat} (h:Ri w A n c xs) (hx:Ext K w w'):Ri w' A n c xs:=by
 refine ⟨h.1,h.2.1,h.2.2.1,fun hn=>?_⟩
 obtain ⟨ad,e,hl,hc⟩:=h.2.2.2 hn
 exact ⟨ad,e,Nat.lt_of_lt_of_le hl hx.size,fun j x hj=>hx.cell (hc j x hj) (hK _)⟩
theorem Di.ext {w w' : World} {v:Value} {a:Nat} (h:Di w v a) (hx:Ext Kr w w'):Di w' v a:=by
 obtain ⟨A,n,c,xs,hv,hr,hd,hn,ha⟩:=h
 exact ⟨A,n,c,xs,hv,hr.ext (fun _=>rfl) hx,hd,hn,ha⟩
def Ru (w:World) (v:Value) (a:Nat):Prop := ∃ A n c xs,v = .slice A n c∧Ri w A n c xs∧Dig B9 xs∧val B9 xs=a
theorem Ru.ext {w w' : World} {v:Value} {a:Nat} (h:Ru w v a) (hx:Ext Kr w w'):Ru w' v a:=by
 obtain ⟨A,n,c,xs,hv,hr,hd,ha⟩:=h
 exact ⟨A,n,c,xs,hv,hr.ext (fun _=>rfl) hx,hd,ha⟩
end Go.Proofs.YtofcdondmgojiaaGreatDoor
namespace Go.Proofs.YtofcdondmgojiaaGreatDoor.Ab
open Go.RowKit Go.Proofs.YtofcdondmgojiaaGreatDoor Pl
theorem kr_ok:KOk Kr:=⟨fun _=>rfl,fun _ _ _=>rfl⟩
def csDi (a:Nat):CS Kr where
 size:=1
 cold:=true
 pred cs w := ∃ v,cs = [v]∧Di w v a
 stable cs w w' h hx:=by obtain ⟨v,e,h⟩:=h;exact ⟨v,e,h.ext hx⟩
 len cs w h:=by obtain ⟨v,e,_⟩:=h;rw [e];rfl
 one cs w h:=by
  obtain ⟨v,e,A,n,c,xs,hv,_⟩:=h
  rw [e];intro d hd;rw [List.mem_singleton] at hd;rw [hd,hv];rfl
 iscold _ cs w h:=by
  obtain ⟨v,e,A,n,c,xs,hv,_⟩:=h
  rw [e];intro d hd;rw [List.mem_singleton] at hd;rw [hd,hv];rfl
def csRu (a:Nat):CS Kr where
 size:=1
 cold:=true
 pred cs w := ∃ v,cs = [v]∧Ru w v a
 stable cs w w' h hx:=by obtain ⟨v,e,h⟩:=h;exact ⟨v,e,h.ext hx⟩
 len cs w h:=by obtain ⟨v,e,_⟩:=h;rw [e];rfl
 one cs w h:=by
  obtain ⟨v,e,A,n,c,xs,hv,_⟩:=h
  rw [e];intro d hd;rw [List.mem_singleton] at hd;rw [hd,hv];rfl
 iscold _ cs w h:=by
  obtain ⟨v,e,A,n,c,xs,hv,_⟩:=h
  rw [e];intro d hd;rw [List.mem_singleton] at hd;rw [hd,hv];rfl
def csIsR (v:Value) (h:v.oneCell'=true) (c:Bool) (hc:c=true→Kr v=false):CS Kr where
 size:=1
 cold:=c
 pred cs _:=cs = [v]
 stable _ _ _ h _:=h
 len _ _ h:=by rw [h];rfl
 one _ _ hp:=by rw [hp];intro c hc;rw [List.mem_singleton] at hc;rw [hc];exact h
 iscold hb _ _ hp:=by rw [hp];intro d hd;rw [List.mem_singleton] at hd;rw [hd];exact hc hb
abbrev di (a:Nat):AV Kr := .fv (.sc (.sp (csDi a)))
abbrev ru (a:Nat):AV Kr := .fv (.sc (.sp (csRu a)))
abbrev rB (b:Bool):Seg Kr := .sp (csIsR (.bool b) rfl true (fun _=>rfl))
abbrev rb (b:Bool):AV Kr := .fv (.sc (rB b))
abbrev rS (s:ByteArray):AV Kr := .fv (.sc (.sp (csIsR (.string s) rfl true (fun _=>rfl))))
abbrev iz (z:Int):AV Kr := .fv (.ag [rB (decide (z<0)),.sp (csDi z.natAbs)])
theorem bB {β:List Nat} {v:Value} {w:World} {a:Nat}:(di a).holds β v w↔Di w v a:=by
 constructor
 ·rintro ⟨u,e,h⟩
  injection e with e
  rw [e];exact h
 ·intro h;exact ⟨v,rfl,h⟩
theorem ru_holds {β:List Nat} {v:Value} {w:World} {a:Nat}:(ru a).holds β v w↔Ru w v a:=by
 constructor
 ·rintro ⟨u,e,h⟩
  injection e with e
  rw [e];exact h
 ·intro h;exact ⟨v,rfl,h⟩
theorem bA {v u:Value} {h:v.oneCell'=true} {c:Bool} {hc:c=true→Kr v=false} {β:List Nat} {w:World} (k:(AV.fv (.sc (.sp (csIsR v h c hc))):AV Kr).holds β u w):u=v:=by
 have:[u] = [v]:=k
 injection this
theorem cW {v:Value} {h:v.oneCell'=true} {c:Bool} {hc:c=true→Kr v=false} {β:List Nat} {w:World}:(AV.fv (.sc (.sp (csIsR v h c hc))):AV Kr).holds β v w:=rfl
theorem iz_holds {β:List Nat} {v:Value} {w:World} {z:Int}:(iz z).holds β v w↔In w v z:=by
 constructor
 ·rintro ⟨cs,rfl,a,r,rfl,h1,b,r2,rfl,⟨u,e,A,n,c,xs,rfl,hr,hd,hn,hv⟩,h3⟩
  have h1:a = [.bool (decide (z<0))]:=h1
  rw [show r2 = [] from h3,h1,e]
  exact ⟨A,n,c,xs,rfl,hr,hd,hn,hv⟩
 ·rintro ⟨A,n,c,xs,rfl,hr,hd,hn,hv⟩
  exact ⟨[.bool (decide (z<0)),.slice A n c],rfl,[.bool (decide (z<0))],_,rfl,rfl,[.slice A n c],[],rfl,⟨_,rfl,A,n,c,xs,rfl,hr,hd,hn,hv⟩,rfl⟩
theorem rgo {f:FuncId} {fn:Func} {args:List (AV Kr)} {x:AV Kr} (hfn:Tryz.prog.funcs[f]?=some fn) (hc:(fn.body.isSome,decide (args.length≤fn.ntmps),x.noPtr,args.all AV.noPtr)=(true,true,true,true))
 (h:∀ w00,Ok Tryz.prog f w00 (fun v w=>x.holds [] v w) (dQ Tryz.prog 1000 (startA fn args))):Fits Tryz.prog f args x:=by
 simp only [Prod.mk.injEq] at hc
 exact fits_go hfn hc.1 hc.2.1 hc.2.2.1 hc.2.2.2 fun w00=>Ok.go (by kernel_rfl) kr_ok 1000 (h w00)
section
variable {f:FuncId} {w00:World} {Out:Value→World→Prop}
theorem aM {c:Cfg Kr} (fn:FuncId) (args:List (AV Kr)) {x:AV Kr} (h:Fits Tryz.prog fn args x) (hc:(c.callee Tryz.prog,c.args Tryz.prog,c.okT x)=(some fn,args,true)) (hfn:∀ (args:Array Value) (w:World),(callFunc fn args).run Tryz.prog w = .ok (.enter fn args) w)
 (hg:Ok Tryz.prog f w00 Out (dQ Tryz.prog 1000 (c.give x))):Ok Tryz.prog f w00 Out c:=by
 simp only [Prod.mk.injEq] at hc
 exact Ok.call fn args h hc.1 hc.2.1 hc.2.2 hfn (Ok.go (by kernel_rfl) kr_ok 1000 hg)
theorem bF {c:Cfg Kr} (op:Op) (x y:Operand) (X Y r:AV Kr) (hc:(c.op.map fun o=>o.op,c.okT r,c.ev x,c.ev y)=(some op,true,X,Y)) (hx:x∈op.operands) (hy:y∈op.operands)
 (h:∀ (ρ:Operand→Value) (o:Oper) (β:List Nat) (w:World),o.op=op→X.holds β (ρ x) w→Y.holds β (ρ y) w→∃ v,(execOp ρ o).run Tryz.prog w = .ok (.value v) w∧r.holds β v w)
 (hg:Ok Tryz.prog f w00 Out (dQ Tryz.prog 1000 (c.give r))):Ok Tryz.prog f w00 Out c:=by
 simp only [Prod.mk.injEq] at hc
 obtain ⟨h1,h2,h3,h4⟩:=hc
 rw [Option.map_eq_some_iff] at h1
 obtain ⟨o,ho,ho2⟩:=h1
 refine Ok.op o r ho h2 (fun β ρ w _ _ hs => .inl ?_) (Ok.go (by kernel_rfl) kr_ok 1000 hg)
 obtain ⟨v,e,hv⟩:=h ρ o β w ho2 (by rw [← h3];exact hs x (by rw [ho2];exact hx)) (by rw [← h4];exact hs y (by rw [ho2];exact hy))
 exact ⟨v,w,e,Below.refl _ _,hv⟩
theorem dZ {c:Cfg Kr} {fn:Func} {x:AV Kr} (hfn:Tryz.prog.funcs[f]?=some fn) (hc:(x.noPtr,c.res Tryz.prog fn)=(true,some x)):Ok Tryz.prog f w00 (fun v w=>x.holds [] v w) c:=by
 simp only [Prod.mk.injEq] at hc
 exact Ok.ret hfn hc.1 hc.2
end
theorem beq_run {o:Oper} {ρ:Operand→Value} {w:World} {x y:Operand} {a b:Bool} (ho:o.op = .binOp .eql 4 x y 4) (hx:ρ x = .bool a) (hy:ρ y = .bool b):(execOp ρ o).run Tryz.prog w = .ok (.value (.bool (a==b))) w:=by
 simp only [execOp,ho,hx,hy]
 refine bK ?_
 cases a <;> cases b <;> exact bQ (by kernel_rfl) w
theorem bne_run {o:Oper} {ρ:Operand→Value} {w:World} {x y:Operand} {a b:Bool} (ho:o.op = .binOp .neq 4 x y 4) (hx:ρ x = .bool a) (hy:ρ y = .bool b):(execOp ρ o).run Tryz.prog w = .ok (.value (.bool (a != b))) w:=by
 simp only [execOp,ho,hx,hy]
 refine bK ?_
 cases a <;> cases b <;> exact bQ (by kernel_rfl) w
abbrev Bd (a:Nat):Prop:=a<B9^1099511627776
theorem mulF {a b:Nat} (ha:Bd a) (hb:Bd b):Fits Tryz.prog 171 [di a,di b] (di (a*b)):=by
 intro β w vs hv
 obtain ⟨v,u,rfl,h1,h2⟩:=eN hv
 obtain ⟨A,n,c,xs,rfl,hr,hd,hn,rfl⟩:=bB.1 h1
 obtain ⟨A',n',c',ys,rfl,hr',hd',hn',rfl⟩:=bB.1 h2
 have hl:n≤1099511627776:=by rw [← hr.len];exact aV eB hn ha
 have hl' : n'≤1099511627776:=by rw [← hr'.len];exact aV eB hn' hb
 exact (mulDigits_any A n c xs A' n' c' ys w hr hr' hd hd' (by omega) (by omega)).mono fun e w' ⟨v,e1,e2,e3⟩=>⟨v,e1,e3,bB.2 e2⟩
theorem fJ {b:Bool} {a:Nat}:Fits Tryz.prog 170 [rb b,di a] (iz (sgz b a)):=by
 intro β w vs hv
 obtain ⟨v,u,rfl,h1,h2⟩:=eN hv
 rw [bA h1]
 obtain ⟨A,n,c,xs,rfl,hr,hd,hn,rfl⟩:=bB.1 h2
 exact (signed_any b A n c xs w hr hd).mono fun e w' ⟨v,e1,e2,e3⟩=>⟨v,e1,e3,iz_holds.2 e2⟩
theorem signedRF {b:Bool} {a:Nat}:Fits Tryz.prog 170 [rb b,ru a] (iz (sgz b a)):=by
 intro β w vs hv
 obtain ⟨v,u,rfl,h1,h2⟩:=eN hv
 rw [bA h1]
 obtain ⟨A,n,c,xs,rfl,hr,hd,rfl⟩:=ru_holds.1 h2
 exact (signed_any b A n c xs w hr hd).mono fun e w' ⟨v,e1,e2,e3⟩=>⟨v,e1,e3,iz_holds.2 e2⟩
theorem sgz_mul (a b:Int):sgz (decide (a<0) != decide (b<0)) (a.natAbs*b.natAbs)=a*b:=by
 have ha:a=if decide (a<0) then -(a.natAbs:Int) else (a.natAbs:Int):=by split <;> simp_all <;> omega
 have hb:b=if decide (b<0) then -(b.natAbs:Int) else (b.natAbs:Int):=by split <;> simp_all <;> omega
 generalize decide (a<0)=na at *
 generalize decide (b<0)=nb at *
 generalize a.natAbs=x at *
 generalize b.natAbs=y at *
 subst ha
 subst hb
 cases na <;> cases nb <;> simp [sgz,Int.neg_mul,Int.mul_neg]
theorem timesZ {a b:Int} (ha:Bd a.natAbs) (hb:Bd b.natAbs):Fits Tryz.prog 118 [iz a,iz b] (iz (a*b)):=by
 refine rgo Tryz.func118 (by kernel_rfl) fun w00=>?_
 refine bF (.binOp .neq 4 (.tmp 6) (.tmp 8) 4) (.tmp 6) (.tmp 8) (rb (decide (a<0))) (rb (decide (b<0))) (rb (decide (a<0) != decide (b<0))) (by kernel_rfl) (by simp [Op.operands]) (by simp [Op.operands]) (fun ρ o β w ho hx hy=>⟨_,bne_run ho (bA hx) (bA hy),cW⟩) ?_
 refine aM 171 [di a.natAbs,di b.natAbs] (mulF ha hb) (by kernel_rfl) Tryz.call171 ?_
 refine aM 170 [rb (decide (a<0) != decide (b<0)),di (a.natAbs*b.natAbs)] (by have := @fJ (decide (a<0) != decide (b<0)) (a.natAbs*b.natAbs);rw [sgz_mul] at this;exact this) (by kernel_rfl) Tryz.call170 ?_
 exact dZ Tryz.func118 (by kernel_rfl)
end Go.Proofs.YtofcdondmgojiaaGreatDoor.Ab
namespace Go.Proofs.YtofcdondmgojiaaGreatDoor
open Go.RowKit Pl
theorem text_in (v:Value) (z:Int) (w:World) (h:In w v z) (hz:z.natAbs<B9^100000000):Calls Tryz.prog 169 #[v] w fun e w'=>e = .returned (.string (aR z))∧Below w.heap.size w w':=by
 obtain ⟨A,n,c,xs,rfl,hr,hd,hn,hv⟩:=h
 have hl:n≤100000000:=by rw [← hr.len];exact aV eB hn (by rw [hv];exact hz)
 refine (text_raw _ A n c xs w hr hd hn hl).mono ?_
 rintro e w' ⟨rfl,hb⟩
 refine ⟨?_,hb⟩
 congr 2
 unfold aR
 rw [hv]
 by_cases h0:z<0
 ·have h1:0<n:=by
   refine Nat.pos_of_ne_zero fun he=>?_
   have:=(Norm.zero_iff cN hn).2 (List.eq_nil_of_length_eq_zero (by rw [hr.len];exact he))
   omega
  simp [h0,h1]
 ·simp [h0]
theorem dK (z:Int):aR z=Ab.writeB (z:Rat):=by
 unfold aR Ab.writeB Ab.overB
 rw [if_pos (Rat.den_intCast z),Rat.num_intCast]
theorem fromInt_any (z:Int) (w:World) (hz:-9223372036854775808≤z∧z≤9223372036854775807):Calls Tryz.prog 135 #[.int .i64 z] w fun e w'=>e = .returned (.string (Ab.writeB (z:Rat)))∧Below w.heap.size w w':=by
 have HZ:=Lib.hid hz
 clear hz
 go_enter Tryz.func135,Tryz.ntmps135
 go_wp2_with fail
 refine (whole_any z _ HZ.out).mono ?_
 rintro e w2 ⟨v,rfl,q,b⟩
 have Q:=Lib.hid (And.intro q b)
 clear q b
 go_wp2_with fail
 refine (text_in v z _ Q.out.1 ?_).mono ?_
 ·obtain ⟨n,hn⟩:∃ n,n=100000000:=⟨_,rfl⟩
  rw [← hn]
  have h3:B9^3≤B9^n:=Nat.pow_le_pow_right cN (by omega)
  have h5:B9^3=1000000000000000000000000000:=rfl
  rw [h5] at h3
  have:=HZ.out
  refine Nat.lt_of_lt_of_le ?_ h3
  omega
 rintro e w3 ⟨rfl,b⟩
 have B:=Lib.hid (Below.step_trans Q.out.2 b)
 clear b
 go_wp2
 go_ret
 exact ⟨by rw [dK];rfl,B.out⟩
end Go.Proofs.YtofcdondmgojiaaGreatDoor
namespace Go.Proofs.YtofcdondmgojiaaGreatDoor.Ab
open Go.RowKit Go.Proofs.YtofcdondmgojiaaGreatDoor Pl
theorem fromIntF {z:Int} (hz:M64 z):Fits Tryz.prog 135 [it z] (tx (writeB (z:Rat))):=by
 intro β w vs hv
 obtain ⟨v,rfl,h1⟩:=dN hv
 rw [aN h1]
 exact (fromInt_any z w hz).mono fun e w' ⟨e1,e2⟩=>⟨_,e1,e2,bE⟩
theorem intsF {a b c:Int} (ha:M64 a) (hb:M64 b) (hc:M64 c):Fits Tryz.prog 69 [it a,it b,it c] (vS a b c):=by
 refine fX Tryz.func69 (by kernel_rfl) fun w00=>?_
 refine aB 135 [it a] (fromIntF ha) (by kernel_rfl) Tryz.call135 ?_
 refine aB 135 [it b] (fromIntF hb) (by kernel_rfl) Tryz.call135 ?_
 refine aB 135 [it c] (fromIntF hc) (by kernel_rfl) Tryz.call135 ?_
 exact aO Tryz.func69 (by kernel_rfl)
theorem dP {a b c:Int} (ha:M64 a) (hb:M64 b) (hc:M64 c):Fits Tryz.prog 21 [it a,it b,it c] (vS a b c):=by
 refine fX Tryz.func21 (by kernel_rfl) fun w00=>?_
 refine aB 69 [it a,it b,it c] (intsF ha hb hc) (by kernel_rfl) Tryz.call69 ?_
 exact aO Tryz.func21 (by kernel_rfl)
theorem lawFrameF:Fits Tryz.prog 25 [] (frS (1:Int) (0:Int) (0:Int) (3:Int) (4:Int) (0:Int) (-4:Int) (3:Int) (0:Int) (0:Int) (0:Int) (5:Int)):=by
 refine fX Tryz.func25 (by kernel_rfl) fun w00=>?_
 refine aB 21 [it 1,it 0,it 0] (dP (by constructor <;> omega) (by constructor <;> omega) (by constructor <;> omega)) (by kernel_rfl) Tryz.call21 ?_
 refine aB 21 [it 3,it 4,it 0] (dP (by constructor <;> omega) (by constructor <;> omega) (by constructor <;> omega)) (by kernel_rfl) Tryz.call21 ?_
 refine aB 21 [it (-4),it 3,it 0] (dP (by constructor <;> omega) (by constructor <;> omega) (by constructor <;> omega)) (by kernel_rfl) Tryz.call21 ?_
 refine aB 21 [it 0,it 0,it 5] (dP (by constructor <;> omega) (by constructor <;> omega) (by constructor <;> omega)) (by kernel_rfl) Tryz.call21 ?_
 exact aO Tryz.func25 (by kernel_rfl)
end Go.Proofs.YtofcdondmgojiaaGreatDoor.Ab
namespace Go.Proofs.YtofcdondmgojiaaGreatDoor.Ab
open Go.RowKit Go.Proofs.YtofcdondmgojiaaGreatDoor Pl
abbrev rl (b:Bool):AV Kr := .fv (.sc (.lit (.bool b)))
abbrev rI (n:Int):AV Kr := .fv (.sc (.sp (csIsR (.int .i64 n) rfl false (fun h=>by cases h))))
theorem fK {v:Value} (h:v.oneCell'=true) {β:List Nat} {w:World}:(AV.fv (.sc (.lit v)):AV Kr).holds β v w:=⟨rfl,h⟩
theorem cC {v u:Value} {β:List Nat} {w:World} (k:(AV.fv (.sc (.lit v)):AV Kr).holds β u w):u=v:=by have:=k.1;injection this
theorem addF {a b:Nat} (ha:Bd a) (hb:Bd b):Fits Tryz.prog 213 [di a,di b] (ru (a+b)):=by
 intro β w vs hv
 obtain ⟨v,u,rfl,h1,h2⟩:=eN hv
 obtain ⟨A,n,c,xs,rfl,hr,hd,hn,rfl⟩:=bB.1 h1
 obtain ⟨A',n',c',ys,rfl,hr',hd',hn',rfl⟩:=bB.1 h2
 have hl:n≤1099511627776:=by rw [← hr.len];exact aV eB hn ha
 have hl' : n'≤1099511627776:=by rw [← hr'.len];exact aV eB hn' hb
 refine (addDigits_any A n c xs A' n' c' ys w hr hr' hd hd' (by omega) (by omega)).mono ?_
 rintro e w' ⟨A2,n2,c2,zs,rfl,h1,h2,h3,h4⟩
 exact ⟨_,rfl,h4,ru_holds.2 ⟨A2,n2,c2,zs,rfl,h1,h2,h3⟩⟩
theorem subF {a b:Nat} (ha:Bd a) (hle:b≤a):Fits Tryz.prog 214 [di a,di b] (di (a-b)):=by
 intro β w vs hv
 obtain ⟨v,u,rfl,h1,h2⟩:=eN hv
 obtain ⟨A,n,c,xs,rfl,hr,hd,hn,rfl⟩:=bB.1 h1
 obtain ⟨A',n',c',ys,rfl,hr',hd',hn',rfl⟩:=bB.1 h2
 have hl:n≤1099511627776:=by rw [← hr.len];exact aV eB hn ha
 have hl' : n'≤n:=by
  rcases Nat.lt_or_ge n n' with e|e
  ·have:=dI eB hd hn' (by rw [hr.len,hr'.len];exact e)
   omega
  ·exact e
 exact (subDigits_any A n c xs A' n' c' ys w hr hr' hd hd' (by omega) hl' hle).mono fun e w' ⟨v,e1,e2,e3⟩=>⟨v,e1,e3,bB.2 e2⟩
theorem compareF {a b:Nat}:Fits Tryz.prog 209 [di a,di b] (rI (bZ a b)):=by
 intro β w vs hv
 obtain ⟨v,u,rfl,h1,h2⟩:=eN hv
 obtain ⟨A,n,c,xs,rfl,hr,hd,hn,rfl⟩:=bB.1 h1
 obtain ⟨A',n',c',ys,rfl,hr',hd',hn',rfl⟩:=bB.1 h2
 exact (fF A n c xs A' n' c' ys w hr hr' hd hd' hn hn').mono fun e w' ⟨e1,e2⟩=>⟨_,e1,e2,cW⟩
theorem divF {a b:Nat} (ha:Bd a) (hb:0<b):Fits Tryz.prog 162 [di a,di b] (.tup [.sc (.sp (csDi (a/b))),.sc (.sp (csDi (a%b)))]):=by
 intro β w vs hv
 obtain ⟨v,u,rfl,h1,h2⟩:=eN hv
 refine (di_divDigits (bB.1 h1) (bB.1 h2) ha hb).mono ?_
 rintro e w' ⟨v1,v2,rfl,q1,q2,q3⟩
 exact ⟨_,rfl,q3,[v1,v2],rfl,v1,[v2],rfl,⟨v1,rfl,q1⟩,v2,[],rfl,⟨v2,rfl,q2⟩,rfl⟩
theorem commonF {a b:Nat} (ha:Bd a) (hb:Bd b):Fits Tryz.prog 108 [di a,di b] (di (Nat.gcd a b)):=by
 intro β w vs hv
 obtain ⟨v,u,rfl,h1,h2⟩:=eN hv
 exact (common_any v u a b w (bB.1 h1) (bB.1 h2) ha hb).mono fun e w' ⟨v,e1,e2,e3⟩=>⟨v,e1,e3,bB.2 e2⟩
theorem textF {z:Int} (hz:z.natAbs<B9^100000000):Fits Tryz.prog 169 [iz z] (rS (aR z)):=by
 intro β w vs hv
 obtain ⟨v,rfl,h1⟩:=dN hv
 exact (text_in v z w (iz_holds.1 h1) hz).mono fun e w' ⟨e1,e2⟩=>⟨_,e1,e2,cW⟩
theorem geq_run {o:Oper} {ρ:Operand→Value} {w:World} {x y:Operand} {a b:Int} {r:Bool} (ho:o.op = .binOp .geq 3 x y 3) (hx:ρ x = .int .i64 a) (hy:ρ y = .int .i64 b) (h:decide (b≤a)=r) :
 (execOp ρ o).run Tryz.prog w = .ok (.value (.bool r)) w:=by
 simp only [execOp,ho,hx,hy]
 refine bK ?_
 rw [← h]
 exact bQ (by kernel_rfl) w
theorem sgz_val (a:Int):a=sgz (decide (a<0)) a.natAbs:=by unfold sgz;split <;> simp_all <;> omega
theorem plusZ {a b:Int} (ha:Bd a.natAbs) (hb:Bd b.natAbs):Fits Tryz.prog 172 [iz a,iz b] (iz (a+b)):=by
 by_cases hs:decide (a<0)=decide (b<0)
 ·have hsum:sgz (decide (a<0)) (a.natAbs+b.natAbs)=a+b:=by
   have h1:=sgz_val a
   have h2:=sgz_val b
   rw [← hs] at h2
   generalize decide (a<0)=na at *
   generalize a.natAbs=x at *
   generalize b.natAbs=y at *
   rw [h1,h2]
   cases na <;> simp [sgz] <;> omega
  refine rgo Tryz.func172 (by kernel_rfl) fun w00=>?_
  refine bF (.binOp .eql 4 (.tmp 6) (.tmp 8) 4) (.tmp 6) (.tmp 8) (rb (decide (a<0))) (rb (decide (b<0))) (rl true) (by kernel_rfl) (by simp [Op.operands]) (by simp [Op.operands]) (fun ρ o β w ho hx hy=>⟨.bool true,by have:=beq_run (w:=w) ho (bA hx) (bA hy);rw [hs] at this;simpa using this,fK rfl⟩) ?_
  refine aM 213 [di a.natAbs,di b.natAbs] (addF ha hb) (by kernel_rfl) Tryz.call213 ?_
  refine aM 170 [rb (decide (a<0)),ru (a.natAbs+b.natAbs)] (by have := @signedRF (decide (a<0)) (a.natAbs+b.natAbs);rw [hsum] at this;exact this) (by kernel_rfl) Tryz.call170 ?_
  exact dZ Tryz.func172 (by kernel_rfl)
 ·have hne:(decide (a<0)==decide (b<0))=false:=by simpa using hs
  by_cases hle:b.natAbs≤a.natAbs
  ·have hsum:sgz (decide (a<0)) (a.natAbs-b.natAbs)=a+b:=by
    unfold sgz;split <;> simp_all <;> omega
   have hc:decide ((0:Int)≤bZ a.natAbs b.natAbs)=true:=by unfold bZ;rw [decide_eq_true_iff,if_neg (by omega)];split <;> omega
   refine rgo Tryz.func172 (by kernel_rfl) fun w00=>?_
   refine bF (.binOp .eql 4 (.tmp 6) (.tmp 8) 4) (.tmp 6) (.tmp 8) (rb (decide (a<0))) (rb (decide (b<0))) (rl false) (by kernel_rfl) (by simp [Op.operands]) (by simp [Op.operands]) (fun ρ o β w ho hx hy=>⟨.bool false,by have:=beq_run (w:=w) ho (bA hx) (bA hy);rw [hne] at this;exact this,fK rfl⟩) ?_
   refine aM 209 [di a.natAbs,di b.natAbs] compareF (by kernel_rfl) Tryz.call209 ?_
   refine bF (.binOp .geq 3 (.tmp 22) (.const (.int .i64 0)) 3) (.tmp 22) (.const (.int .i64 0)) (rI (bZ a.natAbs b.natAbs)) (.fv (.sc (.lit (.int .i64 0)))) (rl true) (by kernel_rfl) (by simp [Op.operands]) (by simp [Op.operands]) (fun ρ o β w ho hx hy=>⟨.bool true,geq_run ho (bA hx) (cC hy) hc,fK rfl⟩) ?_
   refine aM 214 [di a.natAbs,di b.natAbs] (subF ha hle) (by kernel_rfl) Tryz.call214 ?_
   refine aM 170 [rb (decide (a<0)),di (a.natAbs-b.natAbs)] (by have := @fJ (decide (a<0)) (a.natAbs-b.natAbs);rw [hsum] at this;exact this) (by kernel_rfl) Tryz.call170 ?_
   exact dZ Tryz.func172 (by kernel_rfl)
  ·have hsum:sgz (decide (b<0)) (b.natAbs-a.natAbs)=a+b:=by
    unfold sgz;split <;> simp_all <;> omega
   have hc:decide ((0:Int)≤bZ a.natAbs b.natAbs)=false:=by unfold bZ;rw [decide_eq_false_iff_not,if_pos (by omega)];omega
   refine rgo Tryz.func172 (by kernel_rfl) fun w00=>?_
   refine bF (.binOp .eql 4 (.tmp 6) (.tmp 8) 4) (.tmp 6) (.tmp 8) (rb (decide (a<0))) (rb (decide (b<0))) (rl false) (by kernel_rfl) (by simp [Op.operands]) (by simp [Op.operands]) (fun ρ o β w ho hx hy=>⟨.bool false,by have:=beq_run (w:=w) ho (bA hx) (bA hy);rw [hne] at this;exact this,fK rfl⟩) ?_
   refine aM 209 [di a.natAbs,di b.natAbs] compareF (by kernel_rfl) Tryz.call209 ?_
   refine bF (.binOp .geq 3 (.tmp 22) (.const (.int .i64 0)) 3) (.tmp 22) (.const (.int .i64 0)) (rI (bZ a.natAbs b.natAbs)) (.fv (.sc (.lit (.int .i64 0)))) (rl false) (by kernel_rfl) (by simp [Op.operands]) (by simp [Op.operands]) (fun ρ o β w ho hx hy=>⟨.bool false,geq_run ho (bA hx) (cC hy) hc,fK rfl⟩) ?_
   refine aM 214 [di b.natAbs,di a.natAbs] (subF hb (by omega)) (by kernel_rfl) Tryz.call214 ?_
   refine aM 170 [rb (decide (b<0)),di (b.natAbs-a.natAbs)] (by have := @fJ (decide (b<0)) (b.natAbs-a.natAbs);rw [hsum] at this;exact this) (by kernel_rfl) Tryz.call170 ?_
   exact dZ Tryz.func172 (by kernel_rfl)
abbrev pz (d:Nat):AV Kr := .fv (.ag [.lit (.bool false),.sp (csDi d)])
theorem len_di {o:Oper} {ρ:Operand→Value} {w:World} {t:Tmp} {A:Option Addr} {n c:Nat} (ho:o.op = .call ⟨.builtin .len,#[.tmp t],#[86]⟩) (hx:ρ (.tmp t) = .slice A n c) :
 (execOp ρ o).run Tryz.prog w = .ok (.value (.int .i64 n)) w:=by
 have hm:(#[Operand.tmp t].map ρ) = #[.slice A n c]:=by simp [hx]
 simp only [execOp,ho,resolve,Sem.run_bind,Sem.run_pure,Result.andThen,hm,invoke,builtin,Builtin.len_]
 simp [Sem.run_bind,run_underlying Tryz.underlying86,Result.andThen,goInt,Builtin.lenOf]
theorem index_di {o:Oper} {ρ:Operand→Value} {w:World} {t:Tmp} {ad:Addr} {n c:Nat} (ho:o.op = .indexAddr 86 (.tmp t) (.const (.int .i64 0))) (hx:ρ (.tmp t) = .slice (some ad) n c) (hy:ρ (.const (.int .i64 0)) = .int .i64 0) (hn:0<n) :
 (execOp ρ o).run Tryz.prog w = .ok (.value (.pointer (some ad))) w:=by
 simp only [execOp,ho,hx,hy]
 refine bK ?_
 have h0:¬ n=0:=by omega
 simp [go_sem,run_underlying Tryz.underlying86,hn,h0]
 done
def csP (x:Nat):CS Kr where
 size:=1
 cold:=true
 pred cs w := ∃ ad:Addr,cs = [.pointer (some ad)]∧w.cell? ad=some (.int .i64 (x:Int))
 stable cs w w' h hx:=by obtain ⟨ad,e,h⟩:=h;exact ⟨ad,e,hx.cell h rfl⟩
 len cs w h:=by obtain ⟨v,e,_⟩:=h;rw [e];rfl
 one cs w h:=by obtain ⟨v,e,_⟩:=h;rw [e];intro d hd;rw [List.mem_singleton] at hd;rw [hd];rfl
 iscold _ cs w h:=by obtain ⟨v,e,_⟩:=h;rw [e];intro d hd;rw [List.mem_singleton] at hd;rw [hd];rfl
def csNe:CS Kr where
 size:=1
 cold:=false
 pred cs _ := ∃ n:Int,cs = [.int .i64 n]∧n≠1
 stable _ _ _ h _:=h
 len cs w h:=by obtain ⟨v,e,_⟩:=h;rw [e];rfl
 one cs w h:=by obtain ⟨v,e,_⟩:=h;rw [e];intro d hd;rw [List.mem_singleton] at hd;rw [hd];rfl
 iscold h:=by cases h
abbrev rP (x:Nat):AV Kr := .fv (.sc (.sp (csP x)))
abbrev rNe:AV Kr := .fv (.sc (.sp csNe))
theorem di_one {w:World} {v:Value} {q:Nat} (h:Di w v q) (h0:0<q) (hq:q<B9):∃ ad c,v = .slice (some ad) 1 c∧w.cell? ad=some (.int .i64 (q:Int)):=by
 obtain ⟨A,n,c,xs,rfl,hr,hd,hn,rfl⟩:=h
 have hl:=aV eB hn (L:=1) (by rw [Nat.pow_one];exact hq)
 match xs,hl,hr with
 | [],_,_=>simp [val] at h0
 | [x],_,hr =>
   obtain rfl:n=1:=hr.len.symm
   obtain ⟨ad,y,rfl,_,hy,hc⟩:=hr.at_ (k:=0) (by omega)
   simp at hy
   subst hy
   exact ⟨ad,c,rfl,by simpa [val,Addr.add] using hc⟩
theorem di_more {w:World} {v:Value} {q:Nat} (h:Di w v q) (hq:B9≤q):∃ A n c,v = .slice A n c∧n≠1:=by
 obtain ⟨A,n,c,xs,rfl,hr,hd,hn,rfl⟩:=h
 refine ⟨A,n,c,rfl,fun e=>?_⟩
 have h1:=bV hd
 rw [hr.len,e,Nat.pow_one] at h1
 omega
theorem load_i {o:Oper} {ρ:Operand→Value} {w:World} {t:Tmp} {ad:Addr} {x:Int} (ho:o.op = .load 3 (.tmp t)) (hx:ρ (.tmp t) = .pointer (some ad)) (hc:w.cell? ad=some (.int .i64 x)) :
 (execOp ρ o).run Tryz.prog w = .ok (.value (.int .i64 x)) w:=by
 simp only [execOp,ho,hx]
 refine bK ?_
 simp [go_sem,hc]
theorem ieq_run {o:Oper} {ρ:Operand→Value} {w:World} {x y:Operand} {a b:Int} {r:Bool} (ho:o.op = .binOp .eql 3 x y 3) (hx:ρ x = .int .i64 a) (hy:ρ y = .int .i64 b) (h:(a==b)=r) :
 (execOp ρ o).run Tryz.prog w = .ok (.value (.bool r)) w:=by
 simp only [execOp,ho,hx,hy]
 refine bK ?_
 rw [← h]
 exact bQ (by kernel_rfl) w
theorem signedLF {a:Nat}:Fits Tryz.prog 170 [rl false,di a] (iz (a:Int)):=by
 intro β w vs hv
 obtain ⟨v,u,rfl,h1,h2⟩:=eN hv
 rw [cC h1]
 have := @fJ false a β w [.bool false,u] ⟨_,_,rfl,cW,u,[],rfl,h2,rfl⟩
 simpa [sgz] using this
section
variable {n:Int} {d:Nat}
theorem fractionF (hn:Bd n.natAbs) (hd:Bd d) (hd0:0<d) (hp:n.natAbs<B9^100000000) (hq:d<B9^100000000) (hs1:(aR (sgz (decide (n<0)) (n.natAbs/Nat.gcd n.natAbs d))).size≤1000000000) (hs2:(aR ((d/Nat.gcd n.natAbs d:Nat):Int)).size≤1000000000) :
 Fits Tryz.prog 117 [iz n,pz d] (rS (if d/Nat.gcd n.natAbs d=1 then aR (sgz (decide (n<0)) (n.natAbs/Nat.gcd n.natAbs d)) else aR (sgz (decide (n<0)) (n.natAbs/Nat.gcd n.natAbs d))++⟨#[47]⟩++aR ((d/Nat.gcd n.natAbs d:Nat):Int))):=by
 have hg:0<Nat.gcd n.natAbs d:=Nat.gcd_pos_of_pos_right _ hd0
 have hq0:0<d/Nat.gcd n.natAbs d:=Nat.div_pos (Nat.gcd_le_right _ hd0) hg
 have hq1:d/Nat.gcd n.natAbs d≤d:=Nat.div_le_self _ _
 have hp1:(sgz (decide (n<0)) (n.natAbs/Nat.gcd n.natAbs d)).natAbs<B9^100000000:=by rw [sgz_abs];exact Nat.lt_of_le_of_lt (Nat.div_le_self _ _) hp
 have hq2:((d/Nat.gcd n.natAbs d:Nat):Int).natAbs<B9^100000000:=by rw [Int.natAbs_natCast];exact Nat.lt_of_le_of_lt hq1 hq
 generalize hG:Nat.gcd n.natAbs d=g at *
 generalize hP:sgz (decide (n<0)) (n.natAbs/g)=p at *
 generalize hQ:d/g=q at *
 by_cases h1:q=1
 ·rw [if_pos h1]
  refine rgo Tryz.func117 (by kernel_rfl) fun w00=>?_
  refine aM 108 [di n.natAbs,di d] (by have:=commonF hn hd;rw [hG] at this;exact this) (by kernel_rfl) Tryz.call108 ?_
  refine aM 162 [di n.natAbs,di g] (divF hn hg) (by kernel_rfl) Tryz.call162 ?_
  refine aM 162 [di d,di g] (by have:=divF (a:=d) (b:=g) hd hg;rw [hQ] at this;exact this) (by kernel_rfl) Tryz.call162 ?_
  refine aM 170 [rb (decide (n<0)),di (n.natAbs/g)] (by have := @fJ (decide (n<0)) (n.natAbs/g);rw [hP] at this;exact this) (by kernel_rfl) Tryz.call170 ?_
  refine aM 169 [iz p] (textF hp1) (by kernel_rfl) Tryz.call169 ?_
  refine bF (.call ⟨.builtin .len,#[.tmp 41],#[86]⟩) (.tmp 41) (.tmp 41) (di q) (di q) (.fv (.sc (.lit (.int .i64 1)))) (by kernel_rfl) (by simp [Op.operands,Call.operands]) (by simp [Op.operands,Call.operands]) (fun ρ o β w ho hx _=>?_) ?_
  ·obtain ⟨ad,c,e,_⟩:=di_one (bB.1 hx) hq0 (by rw [h1];exact eB)
   exact ⟨_,len_di ho e,fK rfl⟩
  refine bF (.indexAddr 86 (.tmp 45) (.const (.int .i64 0))) (.tmp 45) (.const (.int .i64 0)) (di q) (.fv (.sc (.lit (.int .i64 0)))) (rP q) (by kernel_rfl) (by simp [Op.operands]) (by simp [Op.operands]) (fun ρ o β w ho hx hy=>?_) ?_
  ·obtain ⟨ad,c,e,hc⟩:=di_one (bB.1 hx) hq0 (by rw [h1];exact eB)
   exact ⟨_,index_di ho e (cC hy) (by omega),⟨ad,rfl,hc⟩⟩
  refine bF (.load 3 (.tmp 46)) (.tmp 46) (.tmp 46) (rP q) (rP q) (.fv (.sc (.lit (.int .i64 1)))) (by kernel_rfl) (by simp [Op.operands]) (by simp [Op.operands]) (fun ρ o β w ho hx _=>?_) ?_
  ·obtain ⟨ad,e,hc⟩:=hx
   injection e with e
   rw [h1] at hc
   exact ⟨_,load_i ho e hc,fK rfl⟩
  exact dZ Tryz.func117 (by kernel_rfl)
 ·rw [if_neg h1]
  have hcat1:(aR p).size+(⟨#[47]⟩:ByteArray).size≤9223372036854775807:=by
   have:(⟨#[47]⟩:ByteArray).size=1:=rfl
   omega
  have hcat2:(aR p++⟨#[47]⟩:ByteArray).size+(aR (q:Int)).size≤9223372036854775807:=by
   have:(⟨#[47]⟩:ByteArray).size=1:=rfl
   rw [ByteArray.size_append]
   omega
  by_cases h2:q<B9
  ·refine rgo Tryz.func117 (by kernel_rfl) fun w00=>?_
   refine aM 108 [di n.natAbs,di d] (by have:=commonF hn hd;rw [hG] at this;exact this) (by kernel_rfl) Tryz.call108 ?_
   refine aM 162 [di n.natAbs,di g] (divF hn hg) (by kernel_rfl) Tryz.call162 ?_
   refine aM 162 [di d,di g] (by have:=divF (a:=d) (b:=g) hd hg;rw [hQ] at this;exact this) (by kernel_rfl) Tryz.call162 ?_
   refine aM 170 [rb (decide (n<0)),di (n.natAbs/g)] (by have := @fJ (decide (n<0)) (n.natAbs/g);rw [hP] at this;exact this) (by kernel_rfl) Tryz.call170 ?_
   refine aM 169 [iz p] (textF hp1) (by kernel_rfl) Tryz.call169 ?_
   refine bF (.call ⟨.builtin .len,#[.tmp 41],#[86]⟩) (.tmp 41) (.tmp 41) (di q) (di q) (.fv (.sc (.lit (.int .i64 1)))) (by kernel_rfl) (by simp [Op.operands,Call.operands]) (by simp [Op.operands,Call.operands]) (fun ρ o β w ho hx _=>?_) ?_
   ·obtain ⟨ad,c,e,_⟩:=di_one (bB.1 hx) hq0 h2
    exact ⟨_,len_di ho e,fK rfl⟩
   refine bF (.indexAddr 86 (.tmp 45) (.const (.int .i64 0))) (.tmp 45) (.const (.int .i64 0)) (di q) (.fv (.sc (.lit (.int .i64 0)))) (rP q) (by kernel_rfl) (by simp [Op.operands]) (by simp [Op.operands]) (fun ρ o β w ho hx hy=>?_) ?_
   ·obtain ⟨ad,c,e,hc⟩:=di_one (bB.1 hx) hq0 h2
    exact ⟨_,index_di ho e (cC hy) (by omega),⟨ad,rfl,hc⟩⟩
   refine bF (.load 3 (.tmp 46)) (.tmp 46) (.tmp 46) (rP q) (rP q) (rI q) (by kernel_rfl) (by simp [Op.operands]) (by simp [Op.operands]) (fun ρ o β w ho hx _=>?_) ?_
   ·obtain ⟨ad,e,hc⟩:=hx
    injection e with e
    exact ⟨_,load_i ho e hc,cW⟩
   refine bF (.binOp .eql 3 (.tmp 47) (.const (.int .i64 1)) 3) (.tmp 47) (.const (.int .i64 1)) (rI q) (.fv (.sc (.lit (.int .i64 1)))) (rl false) (by kernel_rfl) (by simp [Op.operands]) (by simp [Op.operands]) (fun ρ o β w ho hx hy=>⟨.bool false,ieq_run ho (bA hx) (cC hy) (by simp;omega),fK rfl⟩) ?_
   refine bF (.binOp .add 9 (.tmp 51) (.const (.string ⟨#[47]⟩)) 9) (.tmp 51) (.const (.string ⟨#[47]⟩)) (rS (aR p)) (.fv (.sc (.lit (.string ⟨#[47]⟩)))) (rS (aR p++⟨#[47]⟩)) (by kernel_rfl) (by simp [Op.operands]) (by simp [Op.operands]) (fun ρ o β w ho hx hy=>⟨_,fE ho (bA hx) (cC hy) hcat1,cW⟩) ?_
   refine aM 170 [rl false,di q] signedLF (by kernel_rfl) Tryz.call170 ?_
   refine aM 169 [iz (q:Int)] (textF hq2) (by kernel_rfl) Tryz.call169 ?_
   refine bF (.binOp .add 9 (.tmp 52) (.tmp 55) 9) (.tmp 52) (.tmp 55) (rS (aR p++⟨#[47]⟩)) (rS (aR (q:Int))) (rS (aR p++⟨#[47]⟩++aR (q:Int))) (by kernel_rfl) (by simp [Op.operands]) (by simp [Op.operands]) (fun ρ o β w ho hx hy=>⟨_,fE ho (bA hx) (bA hy) hcat2,cW⟩) ?_
   exact dZ Tryz.func117 (by kernel_rfl)
  ·refine rgo Tryz.func117 (by kernel_rfl) fun w00=>?_
   refine aM 108 [di n.natAbs,di d] (by have:=commonF hn hd;rw [hG] at this;exact this) (by kernel_rfl) Tryz.call108 ?_
   refine aM 162 [di n.natAbs,di g] (divF hn hg) (by kernel_rfl) Tryz.call162 ?_
   refine aM 162 [di d,di g] (by have:=divF (a:=d) (b:=g) hd hg;rw [hQ] at this;exact this) (by kernel_rfl) Tryz.call162 ?_
   refine aM 170 [rb (decide (n<0)),di (n.natAbs/g)] (by have := @fJ (decide (n<0)) (n.natAbs/g);rw [hP] at this;exact this) (by kernel_rfl) Tryz.call170 ?_
   refine aM 169 [iz p] (textF hp1) (by kernel_rfl) Tryz.call169 ?_
   refine bF (.call ⟨.builtin .len,#[.tmp 41],#[86]⟩) (.tmp 41) (.tmp 41) (di q) (di q) rNe (by kernel_rfl) (by simp [Op.operands,Call.operands]) (by simp [Op.operands,Call.operands]) (fun ρ o β w ho hx _=>?_) ?_
   ·obtain ⟨A,m,c,e,hm⟩:=di_more (bB.1 hx) (Nat.le_of_not_lt h2)
    exact ⟨_,len_di ho e,⟨(m:Int),rfl,by omega⟩⟩
   refine bF (.binOp .eql 3 (.tmp 42) (.const (.int .i64 1)) 3) (.tmp 42) (.const (.int .i64 1)) rNe (.fv (.sc (.lit (.int .i64 1)))) (rl false) (by kernel_rfl) (by simp [Op.operands]) (by simp [Op.operands]) (fun ρ o β w ho hx hy=>?_) ?_
   ·obtain ⟨m,e,hm⟩:=hx
    injection e with e
    exact ⟨.bool false,ieq_run ho e (cC hy) (by simpa using hm),fK rfl⟩
   refine bF (.binOp .add 9 (.tmp 51) (.const (.string ⟨#[47]⟩)) 9) (.tmp 51) (.const (.string ⟨#[47]⟩)) (rS (aR p)) (.fv (.sc (.lit (.string ⟨#[47]⟩)))) (rS (aR p++⟨#[47]⟩)) (by kernel_rfl) (by simp [Op.operands]) (by simp [Op.operands]) (fun ρ o β w ho hx hy=>⟨_,fE ho (bA hx) (cC hy) hcat1,cW⟩) ?_
   refine aM 170 [rl false,di q] signedLF (by kernel_rfl) Tryz.call170 ?_
   refine aM 169 [iz (q:Int)] (textF hq2) (by kernel_rfl) Tryz.call169 ?_
   refine bF (.binOp .add 9 (.tmp 52) (.tmp 55) 9) (.tmp 52) (.tmp 55) (rS (aR p++⟨#[47]⟩)) (rS (aR (q:Int))) (rS (aR p++⟨#[47]⟩++aR (q:Int))) (by kernel_rfl) (by simp [Op.operands]) (by simp [Op.operands]) (fun ρ o β w ho hx hy=>⟨_,fE ho (bA hx) (bA hy) hcat2,cW⟩) ?_
   exact dZ Tryz.func117 (by kernel_rfl)
end
end Go.Proofs.YtofcdondmgojiaaGreatDoor.Ab
namespace Go.Proofs.YtofcdondmgojiaaGreatDoor
open Go.RowKit Pl
def ParseNext (w:World) (r r' : ByteArray) (ws:List Nat):Prop :=
 Dig B9 ws∧AllDig (aC r')∧aT (aC r)=val B9 ws+B9^ws.length*aT (aC r')∧r'.size+9*ws.length=r.size
def ParseAt (w:World) (r:ByteArray) (dv wv:Value) (wr:World):Prop :=
 ∃ (r' : ByteArray) (ws:List Nat),dv = .string r'∧wr.ownsRow (w.heap.size+1) 3 1 wv ws.length (ws.map eH)∧Dig B9 ws∧AllDig (aC r')∧aT (aC r)=val B9 ws+B9^ws.length*aT (aC r')∧r'.size+9*ws.length=r.size ∧
   Below w.heap.size w wr∧wr.heap[w.heap.size]?=some (.cells #[.bool false,.slice none 0 0] 154 (0,0))∧w.heap.size<wr.heap.size
set_option maxHeartbeats 2000000 in
set_option maxRecDepth 100000 in
theorem parse_plain (r:ByteArray) (w:World) (hd:AllDig (aC r)) (h0:0<r.size) (hs:r.size≤100000):Calls Tryz.prog 160 #[.string r] w fun e w' => ∃ v,e = .returned v∧In w' v (sgz false (aT (aC r)))∧Below w.heap.size w w':=by
 have HD:=Lib.hid (And.intro hd hs)
 have k0:(0:Int)<r.size:=by omega
 obtain ⟨c,hc⟩:∃ c:Nat,(r[0]'h0).toNat=c:=⟨_,rfl⟩
 have k45:((c:Int)==45)=false:=by
  have:=hd _ (List.mem_of_getElem? (cU h0))
  rw [hc] at this
  simp;omega
 clear hd hs
 go_enter Tryz.func160,Tryz.ntmps160
 go_wp2
 clear hc k45
 go_loopw [0,4] (fun dv wv wr=>ParseAt w r dv wv wr) (fun dv _ _=>sizeOfS dv)
 case atStart=>exact ⟨r,[],rfl,⟨rfl,.inl ⟨rfl,rfl⟩⟩,Dig.nil _,HD.out.1,by simp [val],by simp,(Below.refl _ _).alloc (Nat.le_refl _) _,heap_alloc_new w _,by simp⟩
 case round =>
  obtain ⟨r',ws,rfl,hrow,hdw,hd',hval,hsz,hb,hh,hs⟩:=hrel
  have hr1:r'.size≤100000:=by have:=HD.out.2;omega
  have hw1:ws.length≤100000:=by have:=HD.out.2;omega
  by_cases h9:9<r'.size
  ·have k1:(9:Int)<r'.size:=by omega
   have k2:(r'.size:Int)≤100000:=by omega
   have hlt:aT (aC (r'.extract (r'.size-9) r'.size))<B9:=by
    have e1:aC (r'.extract (r'.size-9) r'.size)=(aC r').drop (r'.size-9):=by rw [aS,List.take_of_length_le (by rw [aE];exact Nat.le_refl _)]
    rw [e1]
    have h1:=natOf_lt (hd'.drop (r'.size-9))
    rw [List.length_drop,aE,show r'.size-(r'.size-9)=9 by omega] at h1
    exact h1
   have hnat:aT (aC r')=aT (aC (r'.extract 0 (r'.size-9)))*B9+aT (aC (r'.extract (r'.size-9) r'.size)):=by
    have e1:aC (r'.extract (r'.size-9) r'.size)=(aC r').drop (r'.size-9):=by rw [aS,List.take_of_length_le (by rw [aE];exact Nat.le_refl _)]
    have e2:aC (r'.extract 0 (r'.size-9))=(aC r').take (r'.size-9):=by rw [aS,List.drop_zero]
    rw [e1,e2]
    conv=>lhs;rw [← List.take_append_drop (r'.size-9) (aC r'),fO]
    rw [List.length_drop,aE,show r'.size-(r'.size-9)=9 by omega]
    rfl
   have cv:=Lib.hid (fun W=>value_any (r'.extract (r'.size-9) r'.size) W (by rw [aS];exact (hd'.take _).drop _) (by simp;omega))
   obtain ⟨x,hx⟩:∃ x,x=aT (aC (r'.extract (r'.size-9) r'.size)):=⟨_,rfl⟩
   rw [← hx] at cv hlt hnat
   have hnext:ParseNext w r (r'.extract 0 (r'.size-9)) (ws ++ [x]):=by
    refine ⟨hdw.app (Dig.cons hlt (Dig.nil _)),by rw [aS,List.drop_zero];exact hd'.take _,?_,?_⟩
    ·rw [cR,List.length_append,List.length_singleton,Nat.pow_succ,hval,hnat]
     generalize aT (aC (r'.extract 0 (r'.size-9)))=m
     generalize B9^ws.length=P
     generalize B9=V
     grind
    ·rw [List.length_append,List.length_singleton];simp;omega
   have HE:=Lib.hid (And.intro hrow (And.intro hnext (And.intro hb (And.intro hh (And.intro hs (by omega:ws.length≤2199023255999))))))
   clear hrow hnext hb hh hs hdw hd' hval hsz hlt hnat hx hw1 hr1
   go_wp2_with fail
   refine (cv.out _).mono ?_
   rintro e w' ⟨rfl,rfl⟩
   go_wp2_with (at_builtin;refine gG (r:=x) (B:=w.heap.size) rfl _ _ rfl rfl HE.out.1 rfl HE.out.2.2.2.2.2 HE.out.2.2.1 (Nat.le_succ _) HE.out.2.2.2.2.1 ?_)
   intro v' w3 hr3 hbw hg3
   have hr3' : w3.ownsRow (w.heap.size+1) 3 1 v' (ws ++ [x]).length ((ws ++ [x]).map eH):=by
    rw [List.length_append,List.length_singleton,List.map_append];exact hr3
   have hh3:w3.heap[w.heap.size]?=some (.cells #[.bool false,.slice none 0 0] 154 (0,0)):=by
    have h2:=(Below.heap_alloc w' (.cells #[.int .i64 (x:Int)] 3) _ HE.out.2.2.2.2.1).trans HE.out.2.2.2.1
    refine gJ hg3 h2 ?_
    intro he
    have:=row_own' HE.out.1 _ he.symm
    omega
   have hs3:w.heap.size<w3.heap.size:=by have:=hg3.size;have:=HE.out.2.2.2.2.1;simp at *;omega
   have HX:=Lib.hid (And.intro hr3' (And.intro hbw (And.intro hh3 hs3)))
   clear hr3 hr3' hbw hg3 hh3 hs3
   go_wp2
   go_roundw
   case rel =>
    obtain ⟨h1,h2,h3,h4⟩:=HE.out.2.1
    exact ⟨_,ws ++ [x],rfl,HX.out.1,h1,h2,h3,h4,HX.out.2.1,HX.out.2.2.1,HX.out.2.2.2⟩
   case measure =>
    clear HX HE
    simp [sizeOfS];omega
  ·have k1:¬ (9:Int)<r'.size:=by omega
   have cv:=Lib.hid (fun W=>value_any r' W hd' (by omega))
   have hlt:aT (aC r')<B9:=by
    have h1:=natOf_lt hd'
    rw [aE] at h1
    refine Nat.lt_of_lt_of_le h1 ?_
    have:10^r'.size≤10^9:=Nat.pow_le_pow_right (by omega) (by omega)
    exact this
   obtain ⟨x,hx⟩:∃ x,x=aT (aC r'):=⟨_,rfl⟩
   rw [← hx] at cv hlt hval
   have hfin:sgz false (val B9 (ws ++ [x]))=sgz false (aT (aC r)):=by rw [cR,hval]
   have HE:=Lib.hid (And.intro hrow (And.intro hfin (And.intro hb (And.intro hh (And.intro hs (And.intro (by omega:ws.length≤2199023255999) (hdw.app (Dig.cons hlt (Dig.nil _)))))))))
   clear hrow hfin hb hh hs hdw hd' hval hsz hlt hx hw1 hr1 h9
   go_wp2_with fail
   refine (cv.out _).mono ?_
   rintro e w' ⟨rfl,rfl⟩
   go_wp2_with (at_builtin;refine gG (r:=x) (B:=w.heap.size) rfl _ _ rfl rfl HE.out.1 rfl HE.out.2.2.2.2.2.1 HE.out.2.2.1 (Nat.le_succ _) HE.out.2.2.2.2.1 ?_)
   intro v' w3 hr3 hbw hg3
   have hr3' : w3.ownsRow (w.heap.size+1) 3 1 v' (ws.length+1) ((ws ++ [x]).map eH):=by
    rw [List.map_append];exact hr3
   obtain ⟨A3,c3,rfl,hri⟩:=row_ri' hr3'
   have hh3:w3.heap[w.heap.size]?=some (.cells #[.bool false,.slice none 0 0] 154 (0,0)):=by
    have h2:=(Below.heap_alloc w' (.cells #[.int .i64 (x:Int)] 3) _ HE.out.2.2.2.2.1).trans HE.out.2.2.2.1
    refine gJ hg3 h2 ?_
    intro he
    have:=row_own' HE.out.1 _ he.symm
    omega
   have hs3:w.heap.size<w3.heap.size:=by have:=hg3.size;have:=HE.out.2.2.2.2.1;simp at *;omega
   have HX:=Lib.hid (And.intro hri (And.intro hbw (And.intro hh3 hs3)))
   clear hr3 hr3' hbw hg3 hh3 hs3 hri
   go_wp2_with fail
   refine (signed_any false A3 _ c3 (ws ++ [x]) _ HX.out.1 HE.out.2.2.2.2.2.2).mono ?_
   rintro e w2 ⟨v,rfl,q,b⟩
   rw [HE.out.2.1] at q
   have hh2:w2.heap[w.heap.size]?=some (.cells #[.bool false,.slice none 0 0] 154 (0,0)):=(b.block _ HX.out.2.2.2).trans HX.out.2.2.1
   have hb2:Below w.heap.size w w2:=HX.out.2.1.trans (b.mono (Nat.le_of_lt HX.out.2.2.2))
   obtain ⟨A',n',c',xs',rfl,q'⟩:=id q
   have Q:=Lib.hid (And.intro q (And.intro hh2 hb2))
   clear q q' b hh2 hb2
   obtain ⟨⟨b0,b1⟩,f0,f1⟩:=blk2i Q.out.2.1
   go_wp2
   obtain ⟨q,hh2,hb2⟩:=Q.out
   obtain ⟨⟨g0,g1⟩,_⟩:=blk2i (set2_heap hh2 (x := .bool (decide (sgz false (aT (aC r))<0))) (y := .slice A' n' c'))
   refine bodyPost_ret (v := .agg #[.bool (decide (sgz false (aT (aC r))<0)),.slice A' n' c']) (by simp [results,Tryz.results160,go_sem,g0,g1]) rfl ⟨_,rfl,q.set2 hh2 (fun n h=>by cases h) (fun n h=>by cases h),?_⟩
   exact (hb2.setCell (p:=⟨w.heap.size,0,none⟩) (Nat.le_refl _) _).setCell (p:=⟨w.heap.size,1,none⟩) (Nat.le_refl _) _
set_option maxHeartbeats 2000000 in
set_option maxRecDepth 100000 in
theorem parse_minus (r : ByteArray) (w : World) (hd:AllDig (aC r)) (hs:r.size≤100000):Calls Tryz.prog 160 #[.string (⟨#[45]⟩++r)] w fun e w' => ∃ v,e = .returned v∧In w' v (sgz true (aT (aC r)))∧Below w.heap.size w w':=by
 have HD:=Lib.hid (And.intro hd hs)
 obtain ⟨s,hs'⟩:∃ s,s=(⟨#[45]⟩++r:ByteArray):=⟨_,rfl⟩
 have hsz : s.size = r.size + 1 := by rw [hs',ByteArray.size_append];have:(⟨#[45]⟩:ByteArray).size=1:=rfl
                                      omega
 have h0:0<s.size:=by omega
 have k0:(0:Int)<s.size:=by omega
 have k1:(s.size:Int)≤100001:=by omega
 have hbs:aC s=45::aC r:=by rw [hs'];simp [aC]
 have hc:(s[0]'h0).toNat=45:=by
  have h1:=cU h0
  rw [hbs] at h1
  simp at h1
  rw [← h1];rfl
 have hext:s.extract 1 (r.size+1)=r:=by
  subst hs'
  apply Ab.ba_ext
  simp [hsz]
  exact List.take_of_length_le (Nat.le_of_eq rfl)
 rw [← hs']
 clear hd hs hs' hbs
 go_enter Tryz.func160,Tryz.ntmps160
 go_wp2
 try rw [hext]
 clear hc hext
 go_loopw [0,4] (fun dv wv wr=>ParseAt w r dv wv wr) (fun dv _ _=>sizeOfS dv)
 case atStart=>exact ⟨r,[],rfl,⟨rfl,.inl ⟨rfl,rfl⟩⟩,Dig.nil _,HD.out.1,by simp [val],by simp,(Below.refl _ _).alloc (Nat.le_refl _) _,heap_alloc_new w _,by simp⟩
 case round =>
  obtain ⟨r',ws,rfl,hrow,hdw,hd',hval,hsz,hb,hh,hs⟩:=hrel
  have hr1:r'.size≤100000:=by have:=HD.out.2;omega
  have hw1:ws.length≤100000:=by have:=HD.out.2;omega
  by_cases h9:9<r'.size
  ·have k1:(9:Int)<r'.size:=by omega
   have k2:(r'.size:Int)≤100000:=by omega
   have hlt:aT (aC (r'.extract (r'.size-9) r'.size))<B9:=by
    have e1:aC (r'.extract (r'.size-9) r'.size)=(aC r').drop (r'.size-9):=by rw [aS,List.take_of_length_le (by rw [aE];exact Nat.le_refl _)]
    rw [e1]
    have h1:=natOf_lt (hd'.drop (r'.size-9))
    rw [List.length_drop,aE,show r'.size-(r'.size-9)=9 by omega] at h1
    exact h1
   have hnat:aT (aC r')=aT (aC (r'.extract 0 (r'.size-9)))*B9+aT (aC (r'.extract (r'.size-9) r'.size)):=by
    have e1:aC (r'.extract (r'.size-9) r'.size)=(aC r').drop (r'.size-9):=by rw [aS,List.take_of_length_le (by rw [aE];exact Nat.le_refl _)]
    have e2:aC (r'.extract 0 (r'.size-9))=(aC r').take (r'.size-9):=by rw [aS,List.drop_zero]
    rw [e1,e2]
    conv=>lhs;rw [← List.take_append_drop (r'.size-9) (aC r'),fO]
    rw [List.length_drop,aE,show r'.size-(r'.size-9)=9 by omega]
    rfl
   have cv:=Lib.hid (fun W=>value_any (r'.extract (r'.size-9) r'.size) W (by rw [aS];exact (hd'.take _).drop _) (by simp;omega))
   obtain ⟨x,hx⟩:∃ x,x=aT (aC (r'.extract (r'.size-9) r'.size)):=⟨_,rfl⟩
   rw [← hx] at cv hlt hnat
   have hnext:ParseNext w r (r'.extract 0 (r'.size-9)) (ws ++ [x]):=by
    refine ⟨hdw.app (Dig.cons hlt (Dig.nil _)),by rw [aS,List.drop_zero];exact hd'.take _,?_,?_⟩
    ·rw [cR,List.length_append,List.length_singleton,Nat.pow_succ,hval,hnat]
     generalize aT (aC (r'.extract 0 (r'.size-9)))=m
     generalize B9^ws.length=P
     generalize B9=V
     grind
    ·rw [List.length_append,List.length_singleton];simp;omega
   have HE:=Lib.hid (And.intro hrow (And.intro hnext (And.intro hb (And.intro hh (And.intro hs (by omega:ws.length≤2199023255999))))))
   clear hrow hnext hb hh hs hdw hd' hval hsz hlt hnat hx hw1 hr1
   go_wp2_with fail
   refine (cv.out _).mono ?_
   rintro e w' ⟨rfl,rfl⟩
   go_wp2_with (at_builtin;refine gG (r:=x) (B:=w.heap.size) rfl _ _ rfl rfl HE.out.1 rfl HE.out.2.2.2.2.2 HE.out.2.2.1 (Nat.le_succ _) HE.out.2.2.2.2.1 ?_)
   intro v' w3 hr3 hbw hg3
   have hr3' : w3.ownsRow (w.heap.size+1) 3 1 v' (ws ++ [x]).length ((ws ++ [x]).map eH):=by
    rw [List.length_append,List.length_singleton,List.map_append];exact hr3
   have hh3:w3.heap[w.heap.size]?=some (.cells #[.bool false,.slice none 0 0] 154 (0,0)):=by
    have h2:=(Below.heap_alloc w' (.cells #[.int .i64 (x:Int)] 3) _ HE.out.2.2.2.2.1).trans HE.out.2.2.2.1
    refine gJ hg3 h2 ?_
    intro he
    have:=row_own' HE.out.1 _ he.symm
    omega
   have hs3:w.heap.size<w3.heap.size:=by have:=hg3.size;have:=HE.out.2.2.2.2.1;simp at *;omega
   have HX:=Lib.hid (And.intro hr3' (And.intro hbw (And.intro hh3 hs3)))
   clear hr3 hr3' hbw hg3 hh3 hs3
   go_wp2
   go_roundw
   case rel =>
    obtain ⟨h1,h2,h3,h4⟩:=HE.out.2.1
    exact ⟨_,ws ++ [x],rfl,HX.out.1,h1,h2,h3,h4,HX.out.2.1,HX.out.2.2.1,HX.out.2.2.2⟩
   case measure =>
    clear HX HE
    simp [sizeOfS];omega
  ·have k1:¬ (9:Int)<r'.size:=by omega
   have cv:=Lib.hid (fun W=>value_any r' W hd' (by omega))
   have hlt:aT (aC r')<B9:=by
    have h1:=natOf_lt hd'
    rw [aE] at h1
    refine Nat.lt_of_lt_of_le h1 ?_
    have:10^r'.size≤10^9:=Nat.pow_le_pow_right (by omega) (by omega)
    exact this
   obtain ⟨x,hx⟩:∃ x,x=aT (aC r'):=⟨_,rfl⟩
   rw [← hx] at cv hlt hval
   have hfin:sgz true (val B9 (ws ++ [x]))=sgz true (aT (aC r)):=by rw [cR,hval]
   have HE:=Lib.hid (And.intro hrow (And.intro hfin (And.intro hb (And.intro hh (And.intro hs (And.intro (by omega:ws.length≤2199023255999) (hdw.app (Dig.cons hlt (Dig.nil _)))))))))
   clear hrow hfin hb hh hs hdw hd' hval hsz hlt hx hw1 hr1 h9
   go_wp2_with fail
   refine (cv.out _).mono ?_
   rintro e w' ⟨rfl,rfl⟩
   go_wp2_with (at_builtin;refine gG (r:=x) (B:=w.heap.size) rfl _ _ rfl rfl HE.out.1 rfl HE.out.2.2.2.2.2.1 HE.out.2.2.1 (Nat.le_succ _) HE.out.2.2.2.2.1 ?_)
   intro v' w3 hr3 hbw hg3
   have hr3' : w3.ownsRow (w.heap.size+1) 3 1 v' (ws.length+1) ((ws ++ [x]).map eH):=by
    rw [List.map_append];exact hr3
   obtain ⟨A3,c3,rfl,hri⟩:=row_ri' hr3'
   have hh3:w3.heap[w.heap.size]?=some (.cells #[.bool false,.slice none 0 0] 154 (0,0)):=by
    have h2:=(Below.heap_alloc w' (.cells #[.int .i64 (x:Int)] 3) _ HE.out.2.2.2.2.1).trans HE.out.2.2.2.1
    refine gJ hg3 h2 ?_
    intro he
    have:=row_own' HE.out.1 _ he.symm
    omega
   have hs3:w.heap.size<w3.heap.size:=by have:=hg3.size;have:=HE.out.2.2.2.2.1;simp at *;omega
   have HX:=Lib.hid (And.intro hri (And.intro hbw (And.intro hh3 hs3)))
   clear hr3 hr3' hbw hg3 hh3 hs3 hri
   go_wp2_with fail
   refine (signed_any true A3 _ c3 (ws ++ [x]) _ HX.out.1 HE.out.2.2.2.2.2.2).mono ?_
   rintro e w2 ⟨v,rfl,q,b⟩
   rw [HE.out.2.1] at q
   have hh2:w2.heap[w.heap.size]?=some (.cells #[.bool false,.slice none 0 0] 154 (0,0)):=(b.block _ HX.out.2.2.2).trans HX.out.2.2.1
   have hb2:Below w.heap.size w w2:=HX.out.2.1.trans (b.mono (Nat.le_of_lt HX.out.2.2.2))
   obtain ⟨A',n',c',xs',rfl,q'⟩:=id q
   have Q:=Lib.hid (And.intro q (And.intro hh2 hb2))
   clear q q' b hh2 hb2
   obtain ⟨⟨b0,b1⟩,f0,f1⟩:=blk2i Q.out.2.1
   go_wp2
   obtain ⟨q,hh2,hb2⟩:=Q.out
   obtain ⟨⟨g0,g1⟩,_⟩:=blk2i (set2_heap hh2 (x := .bool (decide (sgz true (aT (aC r))<0))) (y := .slice A' n' c'))
   refine bodyPost_ret (v := .agg #[.bool (decide (sgz true (aT (aC r))<0)),.slice A' n' c']) (by simp [results,Tryz.results160,go_sem,g0,g1]) rfl ⟨_,rfl,q.set2 hh2 (fun n h=>by cases h) (fun n h=>by cases h),?_⟩
   exact (hb2.setCell (p:=⟨w.heap.size,0,none⟩) (Nat.le_refl _) _).setCell (p:=⟨w.heap.size,1,none⟩) (Nat.le_refl _) _
end Go.Proofs.YtofcdondmgojiaaGreatDoor
namespace Go.Proofs.YtofcdondmgojiaaGreatDoor.Ab
open Go.RowKit Go.Proofs.YtofcdondmgojiaaGreatDoor Pl
theorem decB_dig (n:Nat):AllDig (aC (decB n)):=by
 have:aC (decB n)=Lib.decDigits n:=dH n
 rw [this];exact (cI n).2.1
theorem decB_nat (n:Nat):aT (aC (decB n))=n:=by
 have:aC (decB n)=Lib.decDigits n:=dH n
 rw [this];exact (cI n).1
theorem decB_pos (n:Nat):0<(decB n).size:=by
 have h:(decB n).size=(Lib.decDigits n).length:=by simp [decB,ByteArray.size]
 rw [h];exact List.length_pos_iff.2 (cI n).2.2
theorem pz_of {β:List Nat} {v:Value} {w:World} {d:Nat} (h:In w v (d:Int)):(pz d).holds β v w:=by
 obtain ⟨A,n,c,xs,rfl,hr,hd,hn,hv⟩:=h
 have e:decide ((d:Int)<0)=false:=decide_eq_false (not_neg d)
 rw [e]
 exact ⟨[.bool false,.slice A n c],rfl,[.bool false],_,rfl,⟨rfl,rfl⟩,[.slice A n c],[],rfl,⟨_,rfl,A,n,c,xs,rfl,hr,hd,hn,by simpa using hv⟩,rfl⟩
theorem parseF {z:Int} (hz:(decB z.natAbs).size≤100000):Fits Tryz.prog 160 [rS (aR z)] (iz z):=by
 intro β w vs hv
 obtain ⟨v,rfl,h1⟩:=dN hv
 rw [bA h1]
 unfold aR
 split
 ·rename_i h
  refine (parse_minus (decB z.natAbs) w (decB_dig _) hz).mono fun e w' ⟨v,e1,e2,e3⟩=>⟨v,e1,e3,iz_holds.2 ?_⟩
  rw [decB_nat] at e2
  have:sgz true z.natAbs=z:=by simp [sgz];omega
  rwa [this] at e2
 ·rename_i h
  refine (parse_plain (decB z.natAbs) w (decB_dig _) (decB_pos _) hz).mono fun e w' ⟨v,e1,e2,e3⟩=>⟨v,e1,e3,iz_holds.2 ?_⟩
  rw [decB_nat] at e2
  have:sgz false z.natAbs=z:=by simp [sgz];omega
  rwa [this] at e2
theorem parseDF {d:Nat} (hz:(decB d).size≤100000):Fits Tryz.prog 160 [rS (decB d)] (pz d):=by
 intro β w vs hv
 obtain ⟨v,rfl,h1⟩:=dN hv
 rw [bA h1]
 refine (parse_plain (decB d) w (decB_dig _) (decB_pos _) hz).mono fun e w' ⟨v,e1,e2,e3⟩=>⟨v,e1,e3,pz_of ?_⟩
 rw [decB_nat] at e2
 exact e2
theorem wholeOneF:Fits Tryz.prog 161 [.fv (.sc (.lit (.int .i64 1)))] (pz 1):=by
 intro β w vs hv
 obtain ⟨v,rfl,h1⟩:=dN hv
 rw [cC h1]
 exact (whole_any 1 w (by constructor <;> omega)).mono fun e w' ⟨v,e1,e2,e3⟩=>⟨v,e1,e3,pz_of e2⟩
theorem fL {s:ByteArray} (hs:s.size≤9223372036854775807):Fits Tryz.prog 105 [rS s] (rI (aI s:Nat)):=by
 intro β w vs hv
 obtain ⟨v,rfl,h1⟩:=dN hv
 rw [bA h1]
 exact (slash_any s w hs).mono fun e w' ⟨e1,e2⟩=>⟨_,e1,by rw [e2];exact Below.refl _ _,cW⟩
theorem rlen_run {o:Oper} {ρ:Operand→Value} {w:World} {t:Tmp} {T:TypeId} {s:ByteArray} (ho:o.op = .call ⟨.builtin .len,#[.tmp t],#[T]⟩) (hT:Tryz.prog.underlying T=some .string) (hx:ρ (.tmp t) = .string s) :
 (execOp ρ o).run Tryz.prog w = .ok (.value (.int .i64 s.size)) w:=len_run ho hT hx
theorem slice_hi {o:Oper} {ρ:Operand→Value} {w:World} {T:TypeId} {x y:Operand} {s:ByteArray} {k:Nat} (ho:o.op = .slice T x none (some y) none) (hT:Tryz.prog.underlying T=some .string) (hx:ρ x = .string s) (hy:ρ y = .int .i64 (k:Int)) (hk:k≤s.size) :
 (execOp ρ o).run Tryz.prog w = .ok (.value (.string (s.extract 0 k))) w:=by
 simp only [execOp,ho,hx]
 refine bK ?_
 have h1:(k:Int)≤s.size:=by omega
 simp only [Option.map,hy]
 rw [run_sliceAt_string w _ _ _ _ _ hT]
 simp [Instr.slice,run_underlying hT,Instr.sliceBounds,run_sliceBound,h1,hk]
theorem slice_lo {o:Oper} {ρ:Operand→Value} {w:World} {T:TypeId} {x y:Operand} {s:ByteArray} {k:Nat} (ho:o.op = .slice T x (some y) none none) (hT:Tryz.prog.underlying T=some .string) (hx:ρ x = .string s) (hy:ρ y = .int .i64 (k:Int)) (hk:k≤s.size) :
 (execOp ρ o).run Tryz.prog w = .ok (.value (.string (s.extract k s.size))) w:=by
 simp only [execOp,ho,hx]
 refine bK ?_
 have h1:(k:Int)≤s.size:=by omega
 simp only [Option.map,hy]
 rw [run_sliceAt_string w _ _ _ _ _ hT]
 simp [Instr.slice,run_underlying hT,Instr.sliceBounds,run_sliceBound,h1,hk]
theorem add1_run {o:Oper} {ρ:Operand→Value} {w:World} {x:Operand} {a:Nat} (ho:o.op = .binOp .add 3 x (.const (.int .i64 1)) 3) (hx:ρ x = .int .i64 (a:Int)) (hy:ρ (.const (.int .i64 1)) = .int .i64 1) (ha:a<9223372036854775807) :
 (execOp ρ o).run Tryz.prog w = .ok (.value (.int .i64 ((a+1:Nat):Int))) w:=by
 simp only [execOp,ho,hx,hy]
 refine bK ?_
 have e:IntKind.i64.wrap ((a:Int)+1)=((a+1:Nat):Int):=by
  rw [IntWalk.i64_left,IntWalk.wrap64_in _ ⟨by omega,by omega⟩];omega
 simp [go_sem,e]
theorem write_one {q:Rat} (h:q.den=1):writeB q=aR q.num:=by
 unfold writeB aR overB
 rw [if_pos h]
theorem fM {q:Rat} (h:q.den≠1):writeB q=aR q.num++(⟨#[47]⟩++decB q.den):=by
 unfold writeB aR overB
 rw [if_neg h]
theorem dig47 {l:List UInt8} (h:AllDig l):∀ c∈l,(c==47)=false:=by
 intro c hc
 have:=h c hc
 rw [beq_eq_false_iff_ne]
 rintro rfl
 revert this
 decide
theorem text47 (z:Int):∀ c∈aC (aR z),(c==47)=false:=by
 unfold aR
 split
 ·intro c hc
  have e:aC (⟨#[45]⟩++decB z.natAbs:ByteArray)=45::aC (decB z.natAbs):=by simp [aC]
  rw [e] at hc
  rcases List.mem_cons.1 hc with rfl|hc
  ·rfl
  ·exact dig47 (decB_dig _) c hc
 ·exact dig47 (decB_dig _)
theorem slash_one (z:Int):aI (aR z)=(aR z).size:=by
 unfold aI
 rw [← aE,List.findIdx_eq_length]
 exact text47 z
theorem slash_two (z:Int) (r:ByteArray):aI (aR z++(⟨#[47]⟩++r))=(aR z).size:=by
 unfold aI
 have e:aC (aR z++(⟨#[47]⟩++r))=aC (aR z)++47::aC r:=by simp [aC]
 rw [e,List.findIdx_append,if_neg (by
  rw [Nat.not_lt,Nat.le_iff_lt_or_eq]
  right
  exact ((List.findIdx_eq_length).2 (text47 z)).symm),List.findIdx_cons]
 simp [← aE]
theorem ext_lo (a b:ByteArray):(a++b).extract 0 a.size=a:=by
 apply ba_ext
 simp
 exact List.take_of_length_le (Nat.le_of_eq rfl)
theorem ext_hi (a b:ByteArray):(a++(⟨#[47]⟩++b)).extract (a.size+1) (a++(⟨#[47]⟩++b)).size=b:=by
 have h:aC ((a++(⟨#[47]⟩++b)).extract (a.size+1) (a++(⟨#[47]⟩++b)).size)=aC b:=by
  rw [aS,List.take_of_length_le (by rw [aE];exact Nat.le_refl _)]
  have e:aC (a++(⟨#[47]⟩++b))=aC a++47::aC b:=by simp [aC]
  rw [e,List.drop_append,List.drop_of_length_le (by rw [aE];omega),List.nil_append,aE,Nat.add_sub_cancel_left]
  rfl
 exact ba_ext h
abbrev prt (q:Rat):AV Kr := .tup [.ag [rB (decide (q.num<0)),.sp (csDi q.num.natAbs)],.ag [.lit (.bool false),.sp (csDi q.den)]]
theorem partsF {q:Rat} (hn:(decB q.num.natAbs).size≤100000) (hd:(decB q.den).size≤100000):Fits Tryz.prog 107 [rS (writeB q)] (prt q):=by
 have hts:(aR q.num).size≤100001:=by
  unfold aR
  split
  ·rw [ByteArray.size_append]
   have:(⟨#[45]⟩:ByteArray).size=1:=rfl
   omega
  ·omega
 by_cases h1:q.den=1
 ·have e1:q.den=1:=h1
  rw [write_one h1]
  have hsl:=slash_one q.num
  have hres:prt q = .tup [.ag [rB (decide (q.num<0)),.sp (csDi q.num.natAbs)],.ag [.lit (.bool false),.sp (csDi 1)]]:=by show AV.tup _=AV.tup _;rw [e1]
  rw [hres]
  generalize hs:aR q.num=s at *
  refine rgo Tryz.func107 (by kernel_rfl) fun w00=>?_
  refine aM 105 [rS s] (fL (by omega)) (by kernel_rfl) Tryz.call105 ?_
  refine bF (.call ⟨.builtin .len,#[.tmp 10],#[9]⟩) (.tmp 10) (.tmp 10) (rS s) (rS s) (rI s.size) (by kernel_rfl) (by simp [Op.operands,Call.operands]) (by simp [Op.operands,Call.operands]) (fun ρ o β w ho hx _=>⟨_,rlen_run ho Tryz.underlying9 (bA hx),cW⟩) ?_
  refine bF (.binOp .eql 3 (.tmp 9) (.tmp 11) 3) (.tmp 9) (.tmp 11) (rI (aI s:Nat)) (rI s.size) (rl true) (by kernel_rfl) (by simp [Op.operands]) (by simp [Op.operands]) (fun ρ o β w ho hx hy=>⟨.bool true,ieq_run ho (bA hx) (bA hy) (by rw [hsl];simp),fK rfl⟩) ?_
  refine aM 160 [rS s] (by rw [← hs];exact parseF hn) (by kernel_rfl) Tryz.call160 ?_
  refine aM 161 [.fv (.sc (.lit (.int .i64 1)))] wholeOneF (by kernel_rfl) Tryz.call161 ?_
  exact dZ Tryz.func107 (by kernel_rfl)
 ·rw [fM h1]
  have hsl:=slash_two q.num (decB q.den)
  have hx1:=ext_lo (aR q.num) (⟨#[47]⟩++decB q.den)
  have hx2:=ext_hi (aR q.num) (decB q.den)
  have hsz:(aR q.num++(⟨#[47]⟩++decB q.den):ByteArray).size=(aR q.num).size+1+(decB q.den).size:=by
   rw [ByteArray.size_append,ByteArray.size_append]
   have:(⟨#[47]⟩:ByteArray).size=1:=rfl
   omega
  generalize hs:(aR q.num++(⟨#[47]⟩++decB q.den):ByteArray)=s at *
  generalize hk:(aR q.num).size=k at *
  refine rgo Tryz.func107 (by kernel_rfl) fun w00=>?_
  refine aM 105 [rS s] (fL (by omega)) (by kernel_rfl) Tryz.call105 ?_
  refine bF (.call ⟨.builtin .len,#[.tmp 10],#[9]⟩) (.tmp 10) (.tmp 10) (rS s) (rS s) (rI s.size) (by kernel_rfl) (by simp [Op.operands,Call.operands]) (by simp [Op.operands,Call.operands]) (fun ρ o β w ho hx _=>⟨_,rlen_run ho Tryz.underlying9 (bA hx),cW⟩) ?_
  refine bF (.binOp .eql 3 (.tmp 9) (.tmp 11) 3) (.tmp 9) (.tmp 11) (rI (aI s:Nat)) (rI s.size) (rl false) (by kernel_rfl) (by simp [Op.operands]) (by simp [Op.operands]) (fun ρ o β w ho hx hy=>⟨.bool false,ieq_run ho (bA hx) (bA hy) (by rw [hsl,hsz];simp;omega),fK rfl⟩) ?_
  refine bF (.slice 9 (.tmp 16) none (some (.tmp 17)) none) (.tmp 16) (.tmp 17) (rS s) (rI (aI s:Nat)) (rS (aR q.num)) (by kernel_rfl) (by simp [Op.operands]) (by simp [Op.operands]) (fun ρ o β w ho hx hy=>?_) ?_
  ·have:=slice_hi (w:=w) ho Tryz.underlying9 (bA hx) (by have:=bA hy;rwa [hsl] at this) (by omega)
   rw [hx1] at this
   exact ⟨_,this,cW⟩
  refine aM 160 [rS (aR q.num)] (parseF hn) (by kernel_rfl) Tryz.call160 ?_
  refine bF (.binOp .add 3 (.tmp 21) (.const (.int .i64 1)) 3) (.tmp 21) (.const (.int .i64 1)) (rI (aI s:Nat)) (.fv (.sc (.lit (.int .i64 1)))) (rI ((k+1:Nat):Int)) (by kernel_rfl) (by simp [Op.operands]) (by simp [Op.operands]) (fun ρ o β w ho hx hy=>⟨_,add1_run ho (by have:=bA hx;rwa [hsl] at this) (cC hy) (by omega),cW⟩) ?_
  refine bF (.slice 9 (.tmp 20) (some (.tmp 22)) none none) (.tmp 20) (.tmp 22) (rS s) (rI ((k+1:Nat):Int)) (rS (decB q.den)) (by kernel_rfl) (by simp [Op.operands]) (by simp [Op.operands]) (fun ρ o β w ho hx hy=>?_) ?_
  ·have:=slice_lo (w:=w) ho Tryz.underlying9 (bA hx) (bA hy) (by omega)
   rw [hx2] at this
   exact ⟨_,this,cW⟩
  refine aM 160 [rS (decB q.den)] (parseDF hd) (by kernel_rfl) Tryz.call160 ?_
  exact dZ Tryz.func107 (by kernel_rfl)
theorem mk_parts (n:Int) {d:Nat} (h:d≠0):(mkRat n d).num=n/(Nat.gcd n.natAbs d:Nat)∧(mkRat n d).den=d/Nat.gcd n.natAbs d:=by
 rw [← Rat.normalize_eq_mkRat h,Rat.normalize_eq]
 exact ⟨rfl,rfl⟩
theorem sgz_div (n:Int) {g:Nat} (hg:g ∣ n.natAbs) (h0:0<g):sgz (decide (n<0)) (n.natAbs/g)=n/(g:Int):=by
 obtain ⟨k,hk⟩:=hg
 have e:n.natAbs/g=k:=by rw [hk];exact Nat.mul_div_cancel_left _ h0
 rw [e]
 unfold sgz
 split
 ·rename_i h
  have hn:n=(g:Int)*(-(k:Int)):=by
   have:n = -(n.natAbs:Int):=by simp at h;omega
   rw [this,hk];simp [Int.mul_neg]
  rw [hn,Int.mul_ediv_cancel_left _ (by omega)]
 ·rename_i h
  have hn:n=(g:Int)*(k:Int):=by
   have:n=(n.natAbs:Int):=by simp at h;omega
   rw [this,hk];simp
  rw [hn,Int.mul_ediv_cancel_left _ (by omega)]
theorem cL (d:Nat):aR (d:Int)=decB d:=by unfold aR;rw [if_neg (not_neg d)];rfl
theorem frac_write (n:Int) {d:Nat} (h:0<d):(if d/Nat.gcd n.natAbs d=1 then aR (sgz (decide (n<0)) (n.natAbs/Nat.gcd n.natAbs d)) else aR (sgz (decide (n<0)) (n.natAbs/Nat.gcd n.natAbs d))++⟨#[47]⟩++aR ((d/Nat.gcd n.natAbs d:Nat):Int))=writeB (mkRat n d):=by
 obtain ⟨e1,e2⟩:=mk_parts n (Nat.ne_of_gt h)
 have hg:0<Nat.gcd n.natAbs d:=Nat.gcd_pos_of_pos_right _ h
 rw [sgz_div n (Nat.gcd_dvd_left _ _) hg,← e1,← e2,cL]
 split
 ·rename_i h1;rw [write_one h1]
 ·rename_i h1;rw [fM h1,ByteArray.append_assoc]
theorem rargs {P:Program} {f:FuncId} {l l' : List (AV Kr)} {x:AV Kr} (h:Fits P f l x) (hl:∀ β vs w,holdsA β l' vs w→holdsA β l vs w):Fits P f l' x:=fun β w vs hv=>h β w vs (hl β vs w hv)
theorem rres {P:Program} {f:FuncId} {l:List (AV Kr)} {x y:AV Kr} (h:Fits P f l x) (hl:∀ β v w,x.holds β v w→y.holds β v w):Fits P f l y:=fun β w vs hv=>(h β w vs hv).mono fun _ _ ⟨v,e1,e2,e3⟩=>⟨v,e1,e2,hl β v _ e3⟩
theorem pz_iz {β:List Nat} {v:Value} {w:World} {d:Nat} (h:(pz d).holds β v w):(iz (d:Int)).holds β v w:=by
 obtain ⟨cs,rfl,a,r,rfl,h1,b,r2,rfl,h2,h3⟩:=h
 have h1':=h1.1
 subst h1'
 refine ⟨_,rfl,[.bool false],_,rfl,?_,b,r2,rfl,?_,h3⟩
 ·show [Value.bool false] = [.bool (decide ((d:Int)<0))]
  rw [decide_eq_false (not_neg d)]
 ·obtain ⟨u,e,hu⟩:=h2
  exact ⟨u,e,by simpa using hu⟩
theorem iz_pz {β:List Nat} {v:Value} {w:World} {d:Nat} (h:(iz (d:Int)).holds β v w):(pz d).holds β v w:=pz_of (iz_holds.1 h)
theorem timesZP {a:Int} {b:Nat} (ha:Bd a.natAbs) (hb:Bd b):Fits Tryz.prog 118 [iz a,pz b] (iz (a*b)) :=
 rargs (timesZ ha (by simpa using hb)) fun β vs w ⟨v,r,e,h1,u,r2,e2,h2,h3⟩=>⟨v,r,e,h1,u,r2,e2,pz_iz h2,h3⟩
theorem timesPP {a b:Nat} (ha:Bd a) (hb:Bd b):Fits Tryz.prog 118 [pz a,pz b] (pz (a*b)) :=
 rres (rargs (timesZ (a:=(a:Int)) (b:=(b:Int)) (by simpa using ha) (by simpa using hb)) fun β vs w ⟨v,r,e,h1,u,r2,e2,h2,h3⟩=>⟨v,r,e,pz_iz h1,u,r2,e2,pz_iz h2,h3⟩)
  fun β v w h=>iz_pz (d:=a*b) (by simpa using h)
end Go.Proofs.YtofcdondmgojiaaGreatDoor.Ab
