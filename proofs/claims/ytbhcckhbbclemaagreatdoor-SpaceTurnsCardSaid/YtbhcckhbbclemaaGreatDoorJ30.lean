/- Parts of the proof, joined. -/
import Derived.Test.YtbhcckhbbclemaaGreatDoorJ29
import Derived.Deep.LoopGhost
import Derived.Test.YtbhcckhbbclemaaGreatDoorJ21
import Derived.Test.YtbhcckhbbclemaaGreatDoorJ26
import Derived.Test.YtbhcckhbbclemaaGreatDoorJ15
set_option linter.unusedSimpArgs false
set_option linter.unusedVariables false
namespace Go.Proofs.YtbhcckhbbclemaaGreatDoor
open Go.RowKit Pl
theorem Di.nil (w:World):Di w (.slice none 0 0) 0:=⟨none,0,0,[],rfl,Ri.nil,Dig.nil _,Norm.nil,rfl⟩
theorem ri_one {w:World} {g:Nat} {f:Nat} (h:w.heap[g]?=some (.cells #[.int .i64 (f:Int)] 3 (0,0))):Ri w (some ⟨g,0,none⟩) 1 1 [f]:=Bi.rd (ys := [f]) h (by show 1≤9223372036854775807;omega)
set_option maxHeartbeats 1000000 in
set_option maxRecDepth 100000 in
theorem divDigits_any (A:Option Addr) (n c:Nat) (xs:List Nat) (A' : Option Addr) (n' c' : Nat) (ys:List Nat) (w:World) (h:Ri w A n c xs) (h' : Ri w A' n' c' ys)
 (hd:Dig B9 xs) (hd' : Dig B9 ys) (hx:Norm xs) (hy:Norm ys) (hn:n≤1099511627776) (h0:0<n') :
 Calls Tryz.prog 118 #[.slice A n c,.slice A' n' c'] w (GivesDi2 w (val B9 xs/val B9 ys) (val B9 xs%val B9 ys)):=by
 have hnc:n≤c:=h.cap
 have hcm:c≤9223372036854775807:=h.2.2.1
 have hnc' : n'≤c':=h'.cap
 have hcm' : c'≤9223372036854775807:=h'.2.2.1
 rcases Nat.lt_or_ge (val B9 xs) (val B9 ys) with hlt|hge
 ·have cc:=Lib.hid (compareDigits_any A n c xs A' n' c' ys w h h' hd hd' hx hy)
  rw [cmpI_lt hlt] at cc
  have HX:=Lib.hid (And.intro h (And.intro hd (And.intro hx hlt)))
  clear h h' hd hd' hx hy hlt
  go_enter Tryz.func118,Tryz.ntmps118
  go_wp2_with fail
  refine cc.out.mono ?_
  rintro e w0 ⟨rfl,hb0⟩
  go_wp2
  go_ret2
  refine ⟨_,_,rfl,?_,?_,hb0⟩
  ·rw [Nat.div_eq_of_lt HX.out.2.2.2];exact Di.nil _
  ·rw [Nat.mod_eq_of_lt HX.out.2.2.2];exact ⟨A,n,c,xs,rfl,HX.out.1.below hb0,HX.out.2.1,HX.out.2.2.1,rfl⟩
 ·rcases Nat.lt_or_ge 1 n' with h1|h1
  ·exact divLong_any A n c xs A' n' c' ys w h h' hd hd' hx hy hn h1 hge
  ·obtain rfl:n'=1:=by omega
   obtain ⟨ad',y,rfl,hblk',hyt,hcy⟩:=h'.at_ (k:=0) (by omega)
   have hyy:ys = [y]:=by
    have hl:=h'.len
    match ys,hl,hyt with
    | [a],_,hy=>simp at hy;rw [hy]
   subst hyy
   have hyv:val B9 [y]=y:=by simp [val]
   have hyl:y<1000000000:=hd'.at_ hyt
   have hy0:0<y:=by
    rcases Nat.eq_zero_or_pos y with e|e
    ·exfalso;subst e;exact hy (by simp) rfl
    ·exact e
   have hc1:¬ cmpI (val B9 xs) (val B9 [y])<0:=by unfold cmpI;rw [if_neg (by omega)];split <;> omega
   obtain ⟨z,hz⟩:∃ z:Int,cmpI (val B9 xs) (val B9 [y])=z:=⟨_,rfl⟩
   have cc:=Lib.hid (compareDigits_any A n c xs (some ad') 1 c' [y] w h h' hd hd' hx hy)
   have cd:=Lib.hid (fun W (hb:Below w.heap.size w W)=>divDigit_any A n c xs y W (h.below hb) hd (by omega) hy0 hyl)
   rw [hz] at cc hc1
   rw [hyv]
   have hz0:decide (z<0)=false:=decide_eq_false hc1
   have HY:=Lib.hid (And.intro hyl hy0)
   obtain ⟨r,hr⟩:∃ r,r=val B9 xs%y:=⟨_,rfl⟩
   have hrl:r<1000000000:=by rw [hr];exact Nat.lt_trans (Nat.mod_lt _ hy0) hyl
   rw [← hr] at cd ⊢
   have HR:=Lib.hid hrl
   clear h h' hd hd' hx hy hc1 hz hyl hy0 hyv hyt hge hr hrl
   go_enter Tryz.func118,Tryz.ntmps118
   go_wp2_with fail
   refine cc.out.mono ?_
   rintro e w0 ⟨rfl,hb0⟩
   have hcy0:=(hb0.cell (p:=ad'.add 0) (by rw [block_add];exact hblk')).trans hcy
   have hcy1:w0.cell? ad'=some (.int .i64 (y:Int)):=by simpa [Addr.add] using hcy0
   clear hcy hcy0
   go_wp2_with fail
   refine (cd.out _ hb0).mono ?_
   rintro e w1 ⟨v,rfl,hv,hb1⟩
   have HV:=Lib.hid (And.intro hv (Below.step_trans' hb0 hb1))
   clear hv hb1 hb0
   have hbN:Below w1.heap.size w1 (w1.alloc (.cells #[.int .i64 (r:Int)] 3)):=(Below.refl _ _).alloc (Nat.le_refl _) _
   have HN:=Lib.hid hbN
   clear hbN
   go_wp2_with (go_at_call 166;refine (trim_any _ _ _ [r] _ (ri_one (heap_alloc_new w1 _)) (Dig.cons HR.out (Dig.nil _))).mono ?_;rintro e w11 ⟨⟨v11,rfl,hv11⟩,rfl⟩)
   go_ret2
   exact ⟨v,v11,rfl,HV.out.1.below HN.out,by simpa [val] using hv11,Below.step_trans' HV.out.2 HN.out⟩
theorem di_divDigits {v v' : Value} {a b:Nat} {w:World} (h:Di w v a) (h' : Di w v' b) (ha:a<B9^1099511627776) (hb:0<b):Calls Tryz.prog 118 #[v,v'] w (GivesDi2 w (a/b) (a%b)):=by
 obtain ⟨A,n,c,xs,rfl,hr,hd,hn,rfl⟩:=h
 obtain ⟨A',n',c',ys,rfl,hr',hd',hn',rfl⟩:=h'
 refine divDigits_any A n c xs A' n' c' ys w hr hr' hd hd' hn hn' ?_ ?_
 ·rw [← hr.len];exact length_le_of_val B9_one hn ha
 ·rw [← hr'.len]
  exact List.length_pos_iff.2 (by rintro rfl;simp [val] at hb)
def CommAt (w:World) (T a b k:Nat) (va vb:Value) (wr:World):Prop := ∃ x,Di wr va x∧Di wr vb k∧Nat.gcd x k=Nat.gcd a b∧x<T∧k<T∧Below w.heap.size w wr
set_option maxHeartbeats 1000000 in
set_option maxRecDepth 100000 in
theorem common_any (v v' : Value) (a b:Nat) (w:World) (h:Di w v a) (h' : Di w v' b) (ha:a<B9^1099511627776) (hb:b<B9^1099511627776) :
 Calls Tryz.prog 117 #[v,v'] w (GivesDi w (Nat.gcd a b)):=by
 obtain ⟨T,hT⟩:∃ T,T=B9^1099511627776:=⟨_,rfl⟩
 have HB:=Lib.hid (fun (x y:Nat) (u u' : Value) (W:World) (k:Di W u x) (k' : Di W u' y) (kx:x<T) (ky:0<y)=>di_divDigits k k' (by rw [← hT];exact kx) ky)
 rw [← hT] at ha hb
 clear hT
 have HA:=Lib.hid (And.intro h (And.intro h' (And.intro ha hb)))
 obtain ⟨A,n,c,xs,rfl,hr,hd,hn,rfl⟩:=h
 obtain ⟨A',n',c',ys,rfl,hr',hd',hn',rfl⟩:=h'
 generalize val B9 xs=a at *
 generalize val B9 ys=b at *
 clear hr hd hn hr' hd' hn' ha hb
 go_enter Tryz.func117,Tryz.ntmps117
 go_wp2
 go_loopg [0,1] b (fun k va vb wr=>CommAt w T a b k va vb wr)
 case atStart=>exact ⟨a,HA.out.1,HA.out.2.1,rfl,HA.out.2.2.1,HA.out.2.2.2,Below.refl _ _⟩
 case round =>
  obtain ⟨x,hx,hy,hg,hxT,hyT,hbe⟩:=hrel
  have HR:=Lib.hid (And.intro hx (And.intro hy (And.intro hg (And.intro hxT (And.intro hyT hbe)))))
  obtain ⟨A',n',c',ys,rfl,hr',hd',hn',hv'⟩:=hy
  rcases Nat.eq_zero_or_pos n' with h0|h0
  ·subst h0
   have hk:gk=0:=by
    rw [← hv',List.eq_nil_of_length_eq_zero hr'.len];rfl
   obtain ⟨A2,n2,c2,zs,rfl,hr2,hd2,hn2,hv2⟩:=hx
   have HK:=Lib.hid hk
   clear hg hxT hyT hbe hr' hd' hn' hv' hk hr2 hd2 hn2 hv2
   go_wp2
   go_ret
   obtain ⟨hx,hy,hg,hxT,hyT,hbe⟩:=HR.out
   refine ⟨_,rfl,?_,hbe⟩
   rw [← hg,HK.out,Nat.gcd_zero_right]
   exact hx
  ·have k1:(0:Int)<n':=by omega
   have hkp:0<gk:=by
    rw [← hv']
    exact hn'.pos B9_pos (by rintro rfl;have:=hr'.len;simp at this;omega)
   have HK:=Lib.hid hkp
   obtain ⟨A2,n2,c2,zs,rfl,hr2,hd2,hn2,hv2⟩:=hx
   clear hg hxT hyT hbe hr' hd' hn' hv' hkp hr2 hd2 hn2 hv2 h0
   go_wp2_with fail
   refine (HB.out x gk _ _ _ HR.out.1 HR.out.2.1 HR.out.2.2.2.1 HK.out).mono ?_
   rintro e w3 ⟨v1,v2,rfl,q1,q2,q3⟩
   obtain ⟨A1,n1,c1,zs1,rfl,_⟩:=id q1
   obtain ⟨A3,n3,c3,zs3,rfl,_⟩:=id q2
   have Q:=Lib.hid (And.intro q2 q3)
   clear q1 q2 q3
   go_wp2
   go_roundg (x%gk)
   case measure=>exact Nat.mod_lt _ HK.out
   case rel =>
    obtain ⟨hx,hy,hg,hxT,hyT,hbe⟩:=HR.out
    exact ⟨gk,hy.below Q.out.2,Q.out.1,by rw [← hg,Nat.gcd_comm gk,Nat.gcd_comm x,Nat.gcd_rec gk x],hyT,Nat.lt_trans (Nat.mod_lt _ HK.out) hyT,Below.step_trans' hbe Q.out.2⟩
def sgz (neg:Bool) (a:Nat):Int:=if neg then -(a:Int) else a
theorem sgz_abs (neg:Bool) (a:Nat):(sgz neg a).natAbs=a:=by cases neg <;> simp [sgz]
theorem sgz_neg (neg:Bool) (a:Nat):decide (sgz neg a<0)=(neg&&decide (0<a)):=by
 cases neg
 ·simp [sgz]
 ·simp [sgz]
theorem signed_any (neg:Bool) (A:Option Addr) (n c:Nat) (xs:List Nat) (w:World) (h:Ri w A n c xs) (hd:Dig B9 xs) :
 Calls Tryz.prog 120 #[.bool neg,.slice A n c] w fun e w' => ∃ v,e = .returned v∧In w' v (sgz neg (val B9 xs))∧Below w.heap.size w w':=by
 have HR:=Lib.hid (And.intro h hd)
 clear h hd
 go_enter Tryz.func120,Tryz.ntmps120
 go_wp2_with fail
 refine (trim_raw A n c xs _ (HR.out.1.below ((Below.refl _ _).alloc (Nat.le_refl _) _))).mono ?_
 rintro e w' ⟨⟨k,⟨hk,hn,hv⟩,rfl⟩,rfl⟩
 have HK:=Lib.hid (And.intro hk (And.intro hn hv))
 clear hk hn hv
 have res:∀ (b:Bool),b=(neg&&decide (0<k))→∀ w' : World,Below w.heap.size w w'→In w' (.agg #[.bool b,.slice A k c]) (sgz neg (val B9 xs)):=by
  intro b hb w' hbel
  obtain ⟨hk,hn,hv⟩:=HK.out
  refine ⟨A,k,c,xs.take k,?_,(HR.out.1.below hbel).take (by rw [← HR.out.1.len];exact hk),HR.out.2.take k,hn,by rw [sgz_abs];exact hv⟩
  rw [sgz_neg,hb]
  have:decide (0<k)=decide (0<val B9 xs):=by
   rw [decide_eq_decide,← hv]
   constructor
   ·intro h0
    refine Nat.pos_of_ne_zero fun he=>?_
    have:=(Norm.zero_iff B9_pos hn).1 he
    have h2:=congrArg List.length this
    rw [List.length_take,List.length_nil] at h2
    omega
   ·intro h0
    refine Nat.pos_of_ne_zero fun he=>?_
    subst he
    simp [val] at h0
  rw [this]
 cases neg
 ·go_wp2
  refine bodyPost_ret (v := .agg #[.bool false,.slice A k c]) (by simp [results,Tryz.results120,go_sem]) rfl ⟨_,rfl,res false (by simp) _ ((Below.refl _ _).alloc (Nat.le_refl _) _),(Below.refl _ _).alloc (Nat.le_refl _) _⟩
 ·by_cases h0:0<k
  ·have c0:(0:Int)<k:=by omega
   go_wp2
   refine bodyPost_ret (v := .agg #[.bool true,.slice A k c]) (by simp [results,Tryz.results120,go_sem]) rfl ⟨_,rfl,res true (by simp [h0]) _ ((Below.refl _ _).alloc (Nat.le_refl _) _),(Below.refl _ _).alloc (Nat.le_refl _) _⟩
  ·have c0:¬ (0:Int)<k:=by omega
   go_wp2
   refine bodyPost_ret (v := .agg #[.bool false,.slice A k c]) (by simp [results,Tryz.results120,go_sem]) rfl ⟨_,rfl,res false (by simp [h0]) _ ((Below.refl _ _).alloc (Nat.le_refl _) _),(Below.refl _ _).alloc (Nat.le_refl _) _⟩
def lo (n:Nat):Nat→List UInt8
 | 0 => []
 | k+1=>UInt8.ofNat (48+n/10^k%10)::lo n k
def loB (n k:Nat):ByteArray:=⟨(lo n k).toArray⟩
theorem lo_length (n k:Nat):(lo n k).length=k:=by induction k with|zero=>rfl|succ k ih=>simp [lo,ih]
theorem loB_size (n k:Nat):(loB n k).size=k:=by simp [loB,ByteArray.size,lo_length]
abbrev digs:ByteArray:=⟨#[48,49,50,51,52,53,54,55,56,57]⟩
theorem digs_at {d:Nat} (h:d<10):digs.extract d (d+1)=⟨#[UInt8.ofNat (48+d)]⟩:=by
 match d,h with
 | 0,_|1,_|2,_|3,_|4,_|5,_|6,_|7,_|8,_|9,_=>rfl
theorem loB_succ (n k:Nat):(⟨#[UInt8.ofNat (48+n/10^k%10)]⟩:ByteArray)++loB n k=loB n (k+1):=by
 apply Ab.ba_ext
 simp [loB,lo]
theorem meas1 {q m least k a b:Nat} (hq:q=m/10) (h0:0<m) (ha:a=k+1) (hb:b=k):q+(least-a)<m+(least-b):=by omega
theorem meas2 {q m least k a b:Nat} (hq:q=m/10) (h0:m=0) (hk:k<least) (ha:a=k+1) (hb:b=k):q+(least-a)<m+(least-b):=by omega
theorem wrapI {q:Nat} (h:q<9223372036854775808):wrap64 (q:Int)=q:=by unfold wrap64;omega
theorem k18 {n k:Nat} (hn:n<9223372036854775808) (hp:10^k≤n):k≤18:=by
 refine Nat.le_of_not_lt fun hlt=>?_
 have h1:10^19≤10^k:=Nat.pow_le_pow_right (by omega) hlt
 have h2:(10:Nat)^19=10000000000000000000:=rfl
 rw [h2] at h1
 omega
set_option maxHeartbeats 1000000 in
set_option maxRecDepth 100000 in
theorem decimal_any (n least:Nat) (w:World) (hn:n<9223372036854775808) (hl:least≤100):Calls Tryz.prog 114 #[.int .i64 (n:Int),.int .i64 (least:Int)] w fun e w' =>
 w'=w∧∃ K,e = .returned (.string (loB n K))∧n<10^K∧least≤K∧(K=least∨10^(K-1)≤n):=by
 have H:=Lib.hid (And.intro hn hl)
 clear hn hl
 go_enter Tryz.func114,Tryz.ntmps114
 go_wp2
 go_loopw [0,5] (fun a s wr => ∃ k m:Nat,a = .int .i64 (m:Int)∧s = .string (loB n k)∧m=n/10^k∧wr=w∧(k=0∨k≤least∨10^(k-1)≤n)∧k≤100) (fun a s _=>(match a with | .int _ z=>z.toNat|_=>0)+(least-sizeOfS s))
 case atStart=>exact ⟨0,n,rfl,by simp [loB,lo],by simp,rfl,.inl rfl,by omega⟩
 case round =>
  obtain ⟨k,m,rfl,rfl,hm,rfl,hk,hk100⟩:=hrel
  obtain ⟨d,hd⟩:∃ d,d=m%10:=⟨_,rfl⟩
  obtain ⟨q,hq⟩:∃ q,q=m/10:=⟨_,rfl⟩
  have hd10:d<10:=by omega
  have hm63:m≤n:=by rw [hm];exact Nat.div_le_self _ _
  have t1:((m:Int).tmod 10)=(d:Int):=by rw [Int.tmod_eq_emod_of_nonneg (by omega)];omega
  have t2:((m:Int)%10)=(d:Int):=by omega
  have t3:((m:Int).tdiv 10)=(q:Int):=by rw [Int.tdiv_eq_ediv_of_nonneg (by omega)];omega
  have t4:((m:Int)/10)=(q:Int):=by omega
  have d0:(0:Int)≤d:=by omega
  have d1:(d:Int)+1≤10:=by omega
  have d2:(d:Int)≤d+1:=by omega
  have hsz:((loB n k).size:Int)=(k:Int):=by rw [loB_size]
  have hext:digs.extract d (d+1)++loB n k=loB n (k+1):=by
   rw [digs_at hd10,hd,hm]
   exact loB_succ n k
  have HH:=Lib.hid (And.intro hd (And.intro hq (And.intro hm (And.intro hk (And.intro hk100 (And.intro hm63 hext))))))
  clear hd hq hm hk hk100 hm63 hext
  by_cases h0:0<m
  ·have c0:(0:Int)<m:=by omega
   have HP:=Lib.hid h0
   clear h0
   go_wp2
   ·exfalso
    have:=loB_size n k
    have:=HH.out.2.2.2.2.1
    omega
   have h0':=HP.out
   obtain ⟨hd,hq,hm,hk,hk100,hm63,hext⟩:=HH.out
   obtain ⟨hn,hl⟩:=H.out
   have hq2:q=n/10^(k+1):=by rw [hq,hm,Nat.div_div_eq_div_mul,Nat.pow_succ]
   have hp:10^k≤n:=by
    rw [hm] at h0'
    exact (Nat.div_pos_iff.1 h0').2
   have hk18:=k18 hn hp
   rw [wrapI (show q<9223372036854775808 by omega)]
   refine ⟨⟨k+1,q,rfl,by rw [hext],hq2,trivial,.inr (.inr hp),by omega⟩,?_⟩
   rw [hext]
   show q+(least-(loB n (k+1)).size)<m+(least-(loB n k).size)
   exact meas1 hq h0' (loB_size _ _) (loB_size _ _)
  ·have c0:¬ (0:Int)<m:=by omega
   by_cases h1:k<least
   ·have c1:(k:Int)<least:=by omega
    go_wp2
    ·exfalso
     have:=loB_size n k
     have:=HH.out.2.2.2.2.1
     omega
    obtain ⟨hd,hq,hm,hk,hk100,hm63,hext⟩:=HH.out
    obtain ⟨hn,hl⟩:=H.out
    have hq2:q=n/10^(k+1):=by rw [hq,hm,Nat.div_div_eq_div_mul,Nat.pow_succ]
    have hz:m=0:=by omega
    refine ⟨⟨k+1,q,rfl,by rw [hext],hq2,trivial,.inr (.inl h1),by omega⟩,?_⟩
    rw [hext]
    show q+(least-(loB n (k+1)).size)<m+(least-(loB n k).size)
    exact meas2 hq hz h1 (loB_size _ _) (loB_size _ _)
   ·have c1:¬ (k:Int)<least:=by omega
    go_wp2
    go_ret
    obtain ⟨hd,hq,hm,hk,hk100,hm63,hext⟩:=HH.out
    have hz:n/10^k=0:=by omega
    refine ⟨rfl,k,rfl,?_,by omega,?_⟩
    ·rcases Nat.div_eq_zero_iff.1 hz with h|h
     ·have:=Nat.pow_pos (n:=k) (show 0<10 by omega);omega
     ·exact h
    ·rcases hk with h|h|h
     ·left;omega
     ·left;omega
     ·right;exact h
theorem lo_add (x c k:Nat):∀ j,j≤k→lo (x+c*10^k) j=lo x j:=by
 intro j
 induction j with
 | zero=>intro _;rfl
 | succ j ih =>
   intro hj
   simp only [lo]
   rw [ih (by omega)]
   congr 3
   have hk:10^k=10*10^(k-1-j)*10^j:=by
    rw [Nat.mul_assoc,← Nat.pow_add,← Nat.pow_succ']
    congr 1
    omega
   rw [hk,← Nat.mul_assoc,Nat.add_mul_div_right _ _ (Nat.pow_pos (by omega)),← Nat.mul_assoc,Nat.mul_comm c 10,Nat.mul_assoc,Nat.add_mul_mod_self_left]
theorem lo_mod (x k:Nat):lo (x%10^k) k=lo x k:=by
 have h:x=x%10^k+x/10^k*10^k:=by rw [Nat.mul_comm];exact (Nat.mod_add_div x (10^k)).symm
 have h2:=lo_add (x%10^k) (x/10^k) k k (Nat.le_refl _)
 rw [← h] at h2
 exact h2.symm
theorem dec_app:∀ (k a x:Nat),0<a→x<10^k→Lib.decDigits (a*10^k+x)=Lib.decDigits a++lo x k:=by
 intro k
 induction k with
 | zero=>intro a x ha hx;simp at hx;subst hx;simp [lo]
 | succ k ih =>
   intro a x ha hx
   have hd:x/10^k<10:=by rw [Nat.div_lt_iff_lt_mul (Nat.pow_pos (by omega))];rw [Nat.pow_succ,Nat.mul_comm] at hx;exact hx
   have he:a*10^(k+1)+x=(a*10+x/10^k)*10^k+x%10^k:=by
    have:=Nat.mod_add_div x (10^k)
    rw [Nat.add_mul,Nat.pow_succ,Nat.mul_assoc a 10,Nat.mul_comm 10 (10^k),Nat.mul_comm (x/10^k)]
    omega
   have hlo:lo x (k+1)=UInt8.ofNat (48+x/10^k%10)::lo x k:=rfl
   rw [he,hlo]
   generalize x/10^k=d at hd
   rw [ih _ _ (by omega) (Nat.mod_lt _ (Nat.pow_pos (by omega))),lo_mod,dec_large (by omega),show (a*10+d)/10=a by omega,show (a*10+d)%10=d by omega]
   rw [List.append_assoc,Nat.mod_eq_of_lt hd]
   rfl
theorem dec_lo {n K:Nat} (h1:n<10^(K+1)) (h2:K=0∨10^K≤n):lo n (K+1)=Lib.decDigits n:=by
 have hp:0<10^K:=Nat.pow_pos (by omega)
 have hd:n/10^K<10:=by rw [Nat.div_lt_iff_lt_mul hp];rw [Nat.pow_succ,Nat.mul_comm] at h1;exact h1
 rcases h2 with h2|h2
 ·subst h2
  simp at h1
  rw [dec_small h1]
  simp [lo,Nat.mod_eq_of_lt h1]
 ·have ha:0<n/10^K:=Nat.div_pos h2 hp
  have he:n=n/10^K*10^K+n%10^K:=by have:=Nat.mod_add_div n (10^K);rw [Nat.mul_comm] at this;omega
  have h3:=dec_app K _ _ ha (Nat.mod_lt n hp)
  rw [← he,dec_small hd,lo_mod] at h3
  rw [h3]
  simp [lo,Nat.mod_eq_of_lt hd]
theorem loB_dec {n K:Nat} (h1:n<10^K) (hK:1≤K) (h2:K=1∨10^(K-1)≤n):loB n K=Ab.decB n:=by
 obtain ⟨k,rfl⟩:∃ k,K=k+1:=⟨K-1,by omega⟩
 unfold loB Ab.decB
 rw [dec_lo h1 ?_]
 rcases h2 with h|h
 ·left;omega
 ·right;simpa using h
theorem decB_app {a x:Nat} (ha:0<a) (hx:x<B9):Ab.decB a++loB x 9=Ab.decB (x+B9*a):=by
 apply Ab.ba_ext
 have:=dec_app 9 a x ha (by rw [B9_eq] at hx;omega)
 simp only [Ab.decB,loB]
 rw [show x+B9*a=a*10^9+x by rw [B9_eq];omega,this]
 simp
theorem decimal1 (n:Nat) (w:World) (hn:n<9223372036854775808):Calls Tryz.prog 114 #[.int .i64 (n:Int),.int .i64 1] w fun e w'=>w'=w∧e = .returned (.string (Ab.decB n)) :=
 (decimal_any n 1 w hn (by omega)).mono fun e w' ⟨e1,K,e2,h1,h2,h3⟩=>⟨e1,by rw [e2,loB_dec h1 h2 h3]⟩
theorem decimal9 (n:Nat) (w:World) (hn:n<B9):Calls Tryz.prog 114 #[.int .i64 (n:Int),.int .i64 9] w fun e w'=>w'=w∧e = .returned (.string (loB n 9)) :=
 (decimal_any n 9 w (by rw [B9_eq] at hn;omega) (by omega)).mono fun e w' ⟨e1,K,e2,h1,h2,h3⟩=>⟨e1,by
  have:K=9:=by
   rcases h3 with h|h
   ·exact h
   ·refine Nat.le_antisymm (Nat.le_of_not_lt fun hlt=>?_) h2
    have h4:10^9≤10^(K-1):=Nat.pow_le_pow_right (by omega) (by omega)
    rw [show (10:Nat)^9=1000000000 from rfl] at h4
    rw [B9_eq] at hn
    omega
  rw [e2,this]⟩
def textB (z:Int):ByteArray:=if z<0 then ⟨#[45]⟩++Ab.decB z.natAbs else Ab.decB z.natAbs
theorem size_val {xs:List Nat} (hd:Dig B9 xs) (h0:xs≠[]):(Ab.decB (val B9 xs)).size≤9*xs.length:=by
 have h1:=val_lt hd
 have h2:B9^xs.length=10^(9*xs.length):=by rw [Nat.pow_mul];rfl
 have hl:0<xs.length:=List.length_pos_iff.2 h0
 rw [h2,show 9*xs.length=9*xs.length-1+1 by omega] at h1
 have:=Ab.decB_size h1
 omega
set_option maxHeartbeats 2000000 in
set_option maxRecDepth 100000 in
theorem text_raw (neg:Bool) (A:Option Addr) (n c:Nat) (xs:List Nat) (w:World) (h:Ri w A n c xs) (hd:Dig B9 xs) (hn:Norm xs) (hlen:n≤100000000) :
 Calls Tryz.prog 119 #[.agg #[.bool neg,.slice A n c]] w fun e w'=>e = .returned (.string (if neg&&decide (0<n) then ⟨#[45]⟩++Ab.decB (val B9 xs) else Ab.decB (val B9 xs)))∧Below w.heap.size w w':=by
 have hB:Below w.heap.size w (w.alloc (.cells #[.bool neg,.slice A n c] 94)):=(Below.refl _ _).alloc (Nat.le_refl _) _
 have HR:=Lib.hid (And.intro (h.below hB) (And.intro hd (And.intro hn (And.intro hlen (And.intro h.len hB)))))
 clear h hd hn hlen hB
 go_enter Tryz.func119,Tryz.ntmps119
 rcases Nat.eq_zero_or_pos n with h0|h0
 ·subst h0
  have h0:xs = []:=List.eq_nil_of_length_eq_zero HR.out.2.2.2.2.1
  have he:Ab.decB (val B9 xs)=⟨#[48]⟩:=by rw [h0];exact Ab.dec0
  have hb:=HR.out.2.2.2.2.2
  clear HR h0
  cases neg <;> (go_wp2;go_ret;exact ⟨rfl,hb⟩)
 ·have c0:((n:Int)==0)=false:=by simp;omega
  obtain ⟨m,hm⟩:∃ m,m=n-1:=⟨_,rfl⟩
  obtain ⟨ad,x,rfl,_hb,hx,hcell⟩:=HR.out.1.at_ (k:=m) (by omega)
  have c1:((n:Int)-1)=(m:Int):=by omega
  have c3:((n:Int)-2)=(m:Int)-1:=by omega
  have c2:(m:Int)<n:=by omega
  have c4:wrap64 (m:Int)=m:=wrapI (by have:=HR.out.2.2.2.1;omega)
  have c5:wrap64 ((m:Int)-1)=(m:Int)-1:=by unfold wrap64;have:=HR.out.2.2.2.1;omega
  have hlx:m<xs.length:=by rw [HR.out.2.2.2.2.1];omega
  have hx9:x<B9:=HR.out.2.1.at_ hx
  have hx63:x<9223372036854775808:=by rw [B9_eq] at hx9;omega
  have hdrop:val B9 (xs.drop m)=x:=by
   rw [List.getElem?_eq_getElem hlx] at hx
   injection hx with hx
   rw [val_drop B9 xs _ hlx,List.drop_of_length_le (by rw [HR.out.2.2.2.2.1];omega)]
   simp [val,hx]
  have HX:=Lib.hid (And.intro hx (And.intro hdrop hm))
  clear hx hdrop hlx hx9 hm
  go_wp2_with fail
  refine (decimal1 x _ hx63).mono ?_
  rintro e w' ⟨rfl,rfl⟩
  go_wp2_with fail
  go_loopw [3,4] (fun s i wr => ∃ k:Nat,i = .int .i64 ((k:Int)-1)∧k≤m∧s = .string (Ab.decB (val B9 (xs.drop k)))∧wr=w.alloc (.cells #[.bool neg,.slice (some ad) n c] 94)) (fun _ i _=>(intOf i+1).toNat)
  case atStart=>exact ⟨m,by rw [c5],Nat.le_refl _,by rw [HX.out.2.1],rfl⟩
  case round =>
   obtain ⟨k,rfl,hk,rfl,rfl⟩:=hrel
   have hpos:0<val B9 (xs.drop k):=by
    obtain ⟨hx,_,hm⟩:=HX.out
    obtain ⟨_,hd,hn,_,hl,_⟩:=HR.out
    have hne:xs.drop k≠[]:=fun e=>by have:=congrArg List.length e;rw [List.length_drop,List.length_nil] at this;omega
    refine Norm.pos B9_pos (fun h=>?_) hne
    rw [List.getLast_drop]
    exact hn _
   have hsz:(Ab.decB (val B9 (xs.drop k))).size≤900000000:=by
    obtain ⟨_,hd,hn,hlen,hl,_⟩:=HR.out
    have hne:xs.drop k≠[]:=fun e=>by have:=congrArg List.length e;rw [List.length_drop,List.length_nil] at this;have:=HX.out.2.2;omega
    have:=size_val (hd.drop k) hne
    rw [List.length_drop] at this
    omega
   rcases Nat.eq_zero_or_pos k with h0|h0
   ·subst h0
    rw [List.drop_zero] at hpos hsz ⊢
    have HF:=Lib.hid (And.intro hpos hsz)
    clear hpos hsz hk
    have hb:=HR.out.2.2.2.2.2
    cases neg
    ·go_wp2
     all_goals first|(exfalso;have:=HF.out.2;simp at *;omega)|(go_ret;exact ⟨rfl,hb⟩)
    ·go_wp2
     all_goals first|(go_ret;exact ⟨rfl,hb⟩)|(exfalso;have:=HF.out.2;simp at *;omega)
   ·obtain ⟨j,hj⟩:∃ j,j=k-1:=⟨_,rfl⟩
    have d1:((k:Int)-1)=(j:Int):=by omega
    have d2:(j:Int)<n:=by have:=HX.out.2.2;omega
    have d3:(0:Int)≤j:=by omega
    have d4:wrap64 ((j:Int)-1)=(j:Int)-1:=by unfold wrap64;have:=HR.out.2.2.2.1;have:=HX.out.2.2;omega
    obtain ⟨ad',y,e,_hb',hy,hcy⟩:=HR.out.1.at_ (k:=j) (by have:=HX.out.2.2;omega)
    injection e with e
    subst e
    have hy9:y<B9:=HR.out.2.1.at_ hy
    have HY:=Lib.hid (And.intro hy (And.intro hj (And.intro hpos (And.intro hsz (And.intro hk h0)))))
    clear hy hj hpos hsz hk h0 hcell
    rw [d1]
    go_wp2_with fail
    refine (decimal9 y _ hy9).mono ?_
    rintro e w' ⟨rfl,rfl⟩
    go_wp2
    ·exfalso
     have h9:=loB_size y 9
     obtain ⟨_,_,_,h8,_⟩:=HY.out
     omega
    go_roundw
    case rel =>
     obtain ⟨hy,hj,hpos,hsz,hk,h0⟩:=HY.out
     have hl:=HR.out.2.2.2.2.1
     have hjl:j<xs.length:=by have:=HX.out.2.2;omega
     rw [c5]
     refine ⟨_,_,_,_,_,_,_,_,_,_,_,_,_,_,⟨j,?_,by omega,?_,trivial⟩,rfl⟩
     ·rw [d4]
     congr 1
     rw [decB_app hpos hy9,val_drop B9 xs j hjl]
     rw [List.getElem?_eq_getElem hjl] at hy
     injection hy with hy
     rw [hy,show j+1=k by omega]
    case measure =>
     have:=HY.out.2.1
     have:=HY.out.2.2.2.2.2
     simp [intOf]
     omega
theorem row_ri {w:World} {base m:Nat} {e:TypeId} {v:Value} {ws:List Nat} (h:w.ownsRow base e 1 v m (ws.map cellI)):∃ A c,v = .slice A m c∧Ri w A m c ws:=by
 obtain ⟨h1,h2⟩:=h
 have hl:ws.length=m:=by simpa using h1
 rcases h2 with ⟨rfl,rfl⟩|⟨g,cap,cur,rfl,e2,e3,e4,e5,e6,e7⟩
 ·have:ws = []:=List.eq_nil_of_length_eq_zero hl
  subst this
  exact ⟨none,0,rfl,Ri.nil⟩
 ·refine ⟨_,cap,rfl,hl,e4,e5,fun _=>⟨_,rfl,lt_of_block e3,fun j x hx=>?_⟩⟩
  rw [add_plain',cells_of_blk e3,← Array.getElem?_toList]
  have hj:(cur.toList.take (m*1))[0+j]?=some (.int .i64 (x:Int)):=by rw [e7,Nat.zero_add,List.getElem?_map,hx];rfl
  rw [List.getElem?_take] at hj
  split at hj
  ·exact hj
  ·cases hj
def WholeAt (w:World) (z:Int) (nv wv:Value) (wr:World):Prop :=
 ∃ (m:Int) (ds:List Nat),nv = .int .i64 m∧wr.ownsRow (w.heap.size+1) 3 1 wv ds.length (ds.map cellI)∧Dig B9 ds∧z.natAbs=val B9 ds+B9^ds.length*m.natAbs∧(m<0→z<0)∧(0<m→0<z) ∧
   Below w.heap.size w wr∧wr.heap[w.heap.size]?=some (.cells #[.bool false,.slice none 0 0] 94 (0,0))∧w.heap.size<wr.heap.size
theorem whole_len {z m:Int} {ds:List Nat} (hz:-9223372036854775808≤z∧z≤9223372036854775807) (h:z.natAbs=val B9 ds+B9^ds.length*m.natAbs) (hm:m≠0):ds.length≤2∧-9223372036854775808≤m∧m≤9223372036854775808:=by
 have h1:1≤m.natAbs:=by omega
 have h2:B9^ds.length*1≤B9^ds.length*m.natAbs:=Nat.mul_le_mul_left _ h1
 have hp:0<B9^ds.length:=Nat.pow_pos B9_pos
 have h4:1*m.natAbs≤B9^ds.length*m.natAbs:=Nat.mul_le_mul_right _ hp
 refine ⟨Nat.le_of_not_lt fun hlt=>?_,by omega,by omega⟩
 have h3:B9^3≤B9^ds.length:=Nat.pow_le_pow_right B9_pos hlt
 have h5:B9^3=1000000000000000000000000000:=rfl
 rw [h5] at h3
 omega
theorem whole_next {w w2:World} {z m m2:Int} {ds:List Nat} {r:Nat} {v' : Value} (hd:Dig B9 ds) (h:z.natAbs=val B9 ds+B9^ds.length*m.natAbs) (hn:m<0→z<0) (hp:0<m→0<z)
 (e:m.natAbs=r+1000000000*m2.natAbs) (hr:r<1000000000) (s1:m2<0→m<0) (s2:0<m2→0<m) (ho:w2.ownsRow (w.heap.size+1) 3 1 v' (ds.length+1) (ds.map cellI ++ [.int .i64 (r:Int)]))
 (hb:Below w.heap.size w w2) (hh:w2.heap[w.heap.size]?=some (.cells #[.bool false,.slice none 0 0] 94 (0,0))) (hs:w.heap.size<w2.heap.size):WholeAt w z (.int .i64 m2) v' w2:=by
 refine ⟨m2,ds ++ [r],rfl,?_,hd.app (Dig.cons (by rw [B9_eq];exact hr) (Dig.nil _)),?_,fun h1=>hn (s1 h1),fun h1=>hp (s2 h1),hb,hh,hs⟩
 ·rw [List.length_append,List.length_singleton,List.map_append];exact ho
 ·rw [val_snoc,List.length_append,List.length_singleton,Nat.pow_succ,h,e,Nat.mul_add,Nat.mul_assoc,B9_eq,Nat.add_assoc]
theorem grown_block {w w' : World} {row:Option Nat} {g:Nat} {o:Obj} (hg:w.grownBy w' row) (h:w.heap[g]?=some o) (hr:some g≠row):w'.heap[g]?=some o :=
 (hg.block g (lt_of_block h) hr).trans h
theorem blk2i {w:World} {g:Nat} {T:TypeId} {a b:Value} (h:w.heap[g]?=some (.cells #[a,b] T (0,0))):(w.cell? ⟨g,0,none⟩=some a∧w.cell? ⟨g,1,none⟩=some b)∧w.frozen? ⟨g,0,none⟩=false∧w.frozen? ⟨g,1,none⟩=false:=by
 simp [World.cell?,World.frozen?,h]
theorem set2_heap {w:World} {g:Nat} {T:TypeId} {a b x y:Value} (h:w.heap[g]?=some (.cells #[a,b] T (0,0))):((w.setCell ⟨g,0,none⟩ x).setCell ⟨g,1,none⟩ y).heap[g]?=some (.cells #[x,y] T (0,0)):=by
 simp [World.setCell,Array.getElem?_modify,h]
theorem In.set2 {w:World} {v:Value} {z:Int} {g:Nat} {T:TypeId} {a b x y:Value} (h:In w v z) (hg:w.heap[g]?=some (.cells #[a,b] T (0,0))) (ha:∀ n,a≠.int .i64 n) (hb:∀ n,b≠.int .i64 n):In ((w.setCell ⟨g,0,none⟩ x).setCell ⟨g,1,none⟩ y) v z:=by
 obtain ⟨A,n,c,xs,hv,hr,hd,hn,hz⟩:=h
 refine ⟨A,n,c,xs,hv,⟨hr.1,hr.2.1,hr.2.2.1,fun hp=>?_⟩,hd,hn,hz⟩
 obtain ⟨ad,e,hl,hc⟩:=hr.2.2.2 hp
 refine ⟨ad,e,by simpa [World.setCell] using hl,fun j u hu=>?_⟩
 have h1:=hc j u hu
 have hne:(ad.add j).block≠g:=fun he=>by
  unfold World.cell? at h1
  rw [he,hg] at h1
  simp only at h1
  match ho:(ad.add j).off with
  | 0=>rw [ho] at h1;simp at h1;exact ha _ h1.2
  | 1=>rw [ho] at h1;simp at h1;exact hb _ h1.2
  | k+2=>rw [ho] at h1;simp at h1
 rw [World.cell?_of_block (w:=w),h1]
 rw [Below.heap_setCell _ _ _ _ (show (ad.add j).block≠(⟨g,1,none⟩:Addr).block from hne),Below.heap_setCell _ _ _ _ (show (ad.add j).block≠(⟨g,0,none⟩:Addr).block from hne)]
theorem info_int:(Tryz.prog.info? 3).map (fun i=>(i.zero,i.size,i.bytes))=some (some (.int .i64 0),1,8):=by kernel_rfl
set_option maxHeartbeats 2000000 in
set_option maxRecDepth 100000 in
theorem whole_any (z:Int) (w:World) (hz:-9223372036854775808≤z∧z≤9223372036854775807):Calls Tryz.prog 112 #[.int .i64 z] w fun e w' => ∃ v,e = .returned v∧In w' v z∧Below w.heap.size w w':=by
 have HZ:=Lib.hid hz
 clear hz
 obtain ⟨i0,hi,hz0,hz1,hz2⟩:=info_parts info_int
 have HI:=Lib.hid (And.intro hi (And.intro hz0 (And.intro hz1 hz2)))
 clear hi hz0 hz1 hz2
 go_enter Tryz.func112,Tryz.ntmps112
 go_wp2
 go_loopw [0,3] (fun nv wv wr=>WholeAt w z nv wv wr) (fun nv _ _=>(intOf nv).natAbs)
 case atStart=>exact ⟨z,[],rfl,⟨rfl,.inl ⟨rfl,rfl⟩⟩,Dig.nil _,by simp [val],fun h=>h,fun h=>h,(Below.refl _ _).alloc (Nat.le_refl _) _,heap_alloc_new w _,by simp⟩
 case round =>
  obtain ⟨m,ds,rfl,hrow,hd,hzm,hn,hp,hb,hh,hs⟩:=hrel
  by_cases c0:m=0
  ·subst c0
   obtain ⟨A,c,rfl,hri⟩:=row_ri hrow
   have hv:sgz (decide (z<0)) (val B9 ds)=z:=by
    simp only [Int.natAbs_zero,Nat.mul_zero,Nat.add_zero] at hzm
    rw [← hzm]
    unfold sgz
    split <;> simp_all <;> omega
   have HC:=Lib.hid (And.intro hri (And.intro hd (And.intro hv (And.intro hb (And.intro hh hs)))))
   clear hrow hri hd hzm hn hp hb hh hs hv
   go_wp2_with fail
   refine (signed_any _ A _ c ds _ HC.out.1 HC.out.2.1).mono ?_
   rintro e w2 ⟨v,rfl,q,b⟩
   rw [HC.out.2.2.1] at q
   have hh2:w2.heap[w.heap.size]?=some (.cells #[.bool false,.slice none 0 0] 94 (0,0)):=(b.block _ HC.out.2.2.2.2.2).trans HC.out.2.2.2.2.1
   have hs2:w.heap.size<w2.heap.size:=Nat.lt_of_lt_of_le HC.out.2.2.2.2.2 b.size
   have hb2:Below w.heap.size w w2:=HC.out.2.2.2.1.trans (b.mono HC.out.2.2.2.1.size)
   obtain ⟨A',n',c',xs',rfl,q'⟩:=id q
   have Q:=Lib.hid (And.intro q (And.intro hh2 (And.intro hs2 hb2)))
   clear q q' b hh2 hs2 hb2
   obtain ⟨⟨b0,b1⟩,f0,f1⟩:=blk2i Q.out.2.1
   go_wp2
   obtain ⟨q,hh2,hs2,hb2⟩:=Q.out
   obtain ⟨⟨g0,g1⟩,_⟩:=blk2i (set2_heap hh2 (x := .bool (decide (z<0))) (y := .slice A' n' c'))
   refine bodyPost_ret (v := .agg #[.bool (decide (z<0)),.slice A' n' c']) (by simp [results,Tryz.results112,go_sem,g0,g1]) rfl ⟨_,rfl,q.set2 hh2 (fun n h=>by cases h) (fun n h=>by cases h),?_⟩
   exact (hb2.setCell (p:=⟨w.heap.size,0,none⟩) (Nat.le_refl _) _).setCell (p:=⟨w.heap.size,1,none⟩) (Nat.le_refl _) _
  ·obtain ⟨hl2,hm1,hm2⟩:=whole_len HZ.out hzm c0
   obtain ⟨r,hr⟩:∃ r,r=m.natAbs%1000000000:=⟨_,rfl⟩
   obtain ⟨r',hr'⟩:∃ r' : Int,r'=if m<0 then -(r:Int) else r:=⟨_,rfl⟩
   obtain ⟨q',hq'⟩:∃ q' : Int,q'=if m<0 then -((m.natAbs/1000000000:Nat):Int) else ((m.natAbs/1000000000:Nat):Int):=⟨_,rfl⟩
   have t1:m.tmod 1000000000=r':=by
    rcases Int.lt_or_le m 0 with h|h
    ·rw [hr',if_pos h,show m = -((m.natAbs:Nat):Int) by omega,Int.neg_tmod,Int.tmod_eq_emod_of_nonneg (by omega)]
     omega
    ·rw [hr',if_neg (by omega),Int.tmod_eq_emod_of_nonneg h]
     omega
   have t3:m.tdiv 1000000000=q':=by
    rcases Int.lt_or_le m 0 with h|h
    ·rw [hq',if_pos h,show m = -((m.natAbs:Nat):Int) by omega,Int.neg_tdiv,Int.tdiv_eq_ediv_of_nonneg (by omega)]
     omega
    ·rw [hq',if_neg (by omega),Int.tdiv_eq_ediv_of_nonneg h]
     omega
   have hq:m.natAbs=r+1000000000*q'.natAbs:=by split at hq' <;> omega
   have hqs:(q'<0→m<0)∧(0<q'→0<m):=by split at hq' <;> omega
   have t4:wrap64 q'=q':=by unfold wrap64;split at hq' <;> omega
   have hrr:r<1000000000:=by omega
   have hrs:r'=(r:Int)∨(r'<0∧r' = -(r:Int)):=by split at hr' <;> omega
   have HC:=Lib.hid (And.intro hrow (And.intro hd (And.intro hzm (And.intro hn (And.intro hp (And.intro hb (And.intro hh (And.intro hs (And.intro hl2 (And.intro hq (And.intro hqs hrr)))))))))))
   clear hrow hd hzm hn hp hb hh hs hl2 hr hq hq' hr' hqs
   rcases hrs with h1|⟨h1,h2⟩
   ·subst h1
    have hneg:¬ (r:Int)<0:=by omega
    clear hrr
    go_wp2_with (at_builtin;refine wpList_append_own _ rfl _ _ 92 rfl (w.heap.size+1) 3 i0 (.int .i64 0) 1 8 Tryz.underlying92 HI.out.1 HI.out.2.1 HI.out.2.2.1 HI.out.2.2.2 rfl (by decide) _ _ _ rfl (HC.out.1.alloc _) ⟨wr.heap.size,0,none⟩ 1 1 [.int .i64 (r:Int)] rfl rfl ?k1 ?k2 ?k3 ?k4 ?k5 ?_)
    try (case k1 =>
     intro j u hj
     match j with
     | 0 =>
       simp only [List.getElem?_cons_zero,Option.some.injEq] at hj
       subst hj
       exact cells_of_blk (heap_alloc_new wr _) 0
     | j+1=>simp at hj)
    case k2=>first|rfl|(intro u hu;simp at hu;subst hu;rfl)
    case k3=>have:=HC.out.2.2.2.2.2.2.2.2.1;show ds.length+1≤9223372036854775807;omega
    case k4=>have:=HC.out.2.2.2.2.2.2.2.2.1;omega
    case k5=>have:=HC.out.2.2.2.2.2.2.2.1;simp;omega
    intro v' w3 hr3 hg3 _
    obtain ⟨hrow,hd,hzm,hn,hp,hb,hh,hs,hl2,hq,hqs,hrr⟩:=HC.out
    have hbw:Below w.heap.size w w3:=Below.grown (hb.alloc hb.size _) hg3 (by have:=hb.size;simp;omega) (fun b hb'=>by have:=row_own hrow b hb';omega)
    have hh3:w3.heap[w.heap.size]?=some (.cells #[.bool false,.slice none 0 0] 94 (0,0)):=by
     have h2:=(Below.heap_alloc wr (.cells #[.int .i64 (r:Int)] 3) _ hs).trans hh
     refine grown_block hg3 h2 ?_
     intro he
     have:=row_own hrow _ he.symm
     omega
    have HX:=Lib.hid (And.intro (whole_next hd hzm hn hp hq hrr hqs.1 hqs.2 hr3 hbw hh3 (by have:=hg3.size;simp at this;omega)) hq)
    clear hr3 hg3 hrow hd hzm hn hp hb hh hs hl2 hq hqs hrr hbw hh3
    go_wp2
    go_roundw
    case rel=>first|exact HX.out.1|(rw [t4];exact HX.out.1)
    case measure=>have:=HX.out.2;simp only [intOf,t4];omega
   ·have t5:wrap64 (0-r')=(r:Int):=by unfold wrap64;omega
    have t6:wrap64 (-r')=(r:Int):=by unfold wrap64;omega
    clear hrr h2
    go_wp2_with (at_builtin;refine wpList_append_own _ rfl _ _ 92 rfl (w.heap.size+1) 3 i0 (.int .i64 0) 1 8 Tryz.underlying92 HI.out.1 HI.out.2.1 HI.out.2.2.1 HI.out.2.2.2 rfl (by decide) _ _ _ rfl (HC.out.1.alloc _) ⟨wr.heap.size,0,none⟩ 1 1 [.int .i64 (r:Int)] rfl rfl ?k1 ?k2 ?k3 ?k4 ?k5 ?_)
    try (case k1 =>
     intro j u hj
     match j with
     | 0 =>
       simp only [List.getElem?_cons_zero,Option.some.injEq] at hj
       subst hj
       exact cells_of_blk (heap_alloc_new wr _) 0
     | j+1=>simp at hj)
    case k2=>first|rfl|(intro u hu;simp at hu;subst hu;rfl)
    case k3=>have:=HC.out.2.2.2.2.2.2.2.2.1;show ds.length+1≤9223372036854775807;omega
    case k4=>have:=HC.out.2.2.2.2.2.2.2.2.1;omega
    case k5=>have:=HC.out.2.2.2.2.2.2.2.1;simp;omega
    intro v' w3 hr3 hg3 _
    obtain ⟨hrow,hd,hzm,hn,hp,hb,hh,hs,hl2,hq,hqs,hrr⟩:=HC.out
    have hbw:Below w.heap.size w w3:=Below.grown (hb.alloc hb.size _) hg3 (by have:=hb.size;simp;omega) (fun b hb'=>by have:=row_own hrow b hb';omega)
    have hh3:w3.heap[w.heap.size]?=some (.cells #[.bool false,.slice none 0 0] 94 (0,0)):=by
     have h2:=(Below.heap_alloc wr (.cells #[.int .i64 (r:Int)] 3) _ hs).trans hh
     refine grown_block hg3 h2 ?_
     intro he
     have:=row_own hrow _ he.symm
     omega
    have HX:=Lib.hid (And.intro (whole_next hd hzm hn hp hq hrr hqs.1 hqs.2 hr3 hbw hh3 (by have:=hg3.size;simp at this;omega)) hq)
    clear hr3 hg3 hrow hd hzm hn hp hb hh hs hl2 hq hqs hrr hbw hh3
    go_wp2
    go_roundw
    case rel=>first|exact HX.out.1|(rw [t4];exact HX.out.1)
    case measure=>have:=HX.out.2;simp only [intOf,t4];omega
end Go.Proofs.YtbhcckhbbclemaaGreatDoor
