/- Parts of the proof, joined. -/
import Derived.Test.YtklnecajplnboaaGreatDoorJ8
import Derived.Test.YtklnecajplnboaaGreatDoorJ6
import Derived.Test.YtklnecajplnboaaGreatDoorJ7
import Derived.WalkKit
import Derived.ProofKit
import Derived.OpenShut
import Derived.Deep.DeepHandedRow
import Derived.Deep.DeepWitnessRowRef
import Derived.Lib.LaidTab
import Derived.Stop.LaidErr
import Derived.Shelf.Vars
import Derived.Lay
import Derived.Test.YtklnecajplnboaaGreatDoorProg
import Derived.ChangeArms
set_option maxHeartbeats 4000000
set_option linter.unusedSimpArgs false
set_option linter.unusedVariables false
set_option linter.constructorNameAsVariable false
namespace Go.Proofs.YtklnecajplnboaaGreatDoor
namespace Ab
open Go.RowKit Pl
theorem calls_s1 {f:FuncId} {s u:ByteArray} (h:jF f [rS s] (rS u)) (w:World):Calls Tryz.prog f #[.string s] w fun e w'=>e = .returned (.string u)∧Below w.heap.size w w' :=
 (h [] w [.string s] ⟨_,_,rfl,cD,rfl⟩).mono fun e w' ⟨v,e1,e2,e3⟩=>⟨by rw [e1,bD e3],e2⟩
theorem zM {f:FuncId} {s t u:ByteArray} (h:jF f [rS s,rS t] (rS u)) (w:World):Calls Tryz.prog f #[.string s,.string t] w fun e w'=>e = .returned (.string u)∧Below w.heap.size w w' :=
 (h [] w [.string s,.string t] ⟨_,_,rfl,cD,_,_,rfl,cD,rfl⟩).mono fun e w' ⟨v,e1,e2,e3⟩=>⟨by rw [e1,bD e3],e2⟩
theorem calls_sb {f:FuncId} {s:ByteArray} {r:Bool} (h:jF f [tx s] (bl r)) (w:World):Calls Tryz.prog f #[.string s] w fun e w'=>e = .returned (.bool r)∧Below w.heap.size w w' :=
 (h [] w [.string s] ⟨_,_,rfl,bE,rfl⟩).mono fun e w' ⟨v,e1,e2,e3⟩=>⟨by rw [e1,aM e3],e2⟩
noncomputable def wN (n:Nat):ByteArray:=writeB ((n:Int):Rat)
theorem vG {k n:Nat} (h:n<10^(k+1)):Zs k ((n:Int):Rat):=by
 refine ⟨by simpa using h,?_⟩
 rw [Rat.den_intCast]
 exact Nat.one_lt_pow (by omega) (by omega)
theorem over_mk (a b:Nat):((a:Int):Rat)/((b:Int):Rat)=mkRat (a:Int) b:=by rw [Rat.mkRat_eq_div];rfl
theorem zs_over {k a b:Nat} (ha:a<10^(k+1)) (hb:b<10^(k+1)) (h0:0<b):Zs k (((a:Int):Rat)/((b:Int):Rat)):=by
 obtain ⟨q,hq⟩:∃ q,mkRat (a:Int) b=q:=⟨_,rfl⟩
 rw [over_mk,hq]
 obtain ⟨n,d,z,c⟩:=q
 obtain ⟨m,hm,e1,e2⟩:=Rat.mkRat_num_den (by omega) hq
 have h1:a=n.natAbs*m:=by
  have:=congrArg Int.natAbs e1
  rwa [Int.natAbs_natCast,Int.natAbs_mul,Int.natAbs_natCast] at this
 exact ⟨Nat.lt_of_le_of_lt (h1▸Nat.le_mul_of_pos_right _ (by omega)) ha,Nat.lt_of_le_of_lt (e2▸Nat.le_mul_of_pos_right _ (by omega)) hb⟩
theorem floor_over {a b:Nat} (h0:0<b):(((a:Int):Rat)/((b:Int):Rat)).floor=((a/b:Nat):Int):=by
 rw [over_mk,Rat.floor_def]
 obtain ⟨q,hq⟩:∃ q,mkRat (a:Int) b=q:=⟨_,rfl⟩
 obtain ⟨n,d,z,c⟩:=q
 obtain ⟨m,hm,e1,e2⟩:=Rat.mkRat_num_den (by omega) hq
 rw [hq,Int.natCast_ediv,e1,e2,Int.natCast_mul,Int.mul_ediv_mul_of_pos_left _ _ (by omega)]
theorem sub_mod (a b:Nat):((a:Int):Rat)-(((b*(a/b):Nat):Int):Rat)=(((a%b:Nat):Int):Rat):=by
 have h:=Nat.div_add_mod a b
 have h2:(a:Int)-((b*(a/b):Nat):Int)=((a%b:Nat):Int):=by
  have:((b*(a/b)+a%b:Nat):Int)=(a:Int):=by rw [h]
  rw [Int.natCast_add] at this
  omega
 rw [← h2,Rat.intCast_sub]
theorem mul_int (a b:Nat):((a:Int):Rat)*((b:Int):Rat)=(((a*b:Nat):Int):Rat):=by
 rw [Int.natCast_mul,Rat.intCast_mul]
theorem wN_zero (n:Nat):decide (((n:Int):Rat)=0)=decide (n=0):=by
 rw [decide_eq_decide]
 constructor
 ·intro h;have:=congrArg Rat.num h;simpa using this
 ·rintro rfl;rfl
section
variable {K x y:Nat}
theorem zeroN_any (n:Nat) (w:World):Calls Tryz.prog 109 #[.string (wN n)] w fun e w'=>e = .returned (.bool (decide (n=0)))∧Below w.heap.size w w':=by
 have h:=calls_sb (xE ((n:Int):Rat)) w
 rw [wN_zero] at h
 exact h
theorem divN_any (hK:K=10000) (hx:x<10^(K+1)) (hy:y<10^(K+1)) (h0:0<y) (w:World) :
 Calls Tryz.prog 49 #[.string (wN x),.string (wN y)] w fun e w'=>e = .returned (.string (writeB (((x:Int):Rat)/((y:Int):Rat))))∧Below w.heap.size w w':=by
 have z1:=vG hx
 have z2:=vG hy
 rw [hK] at z1 z2
 exact zM (pW z1 z2 (by intro h;have:=congrArg Rat.num h;simp at this;omega)) w
theorem floorN_any (hK:K=10000) (hx:x<10^(K+1)) (hy:y<10^(K+1)) (h0:0<y) (w:World) :
 Calls Tryz.prog 174 #[.string (writeB (((x:Int):Rat)/((y:Int):Rat)))] w fun e w'=>e = .returned (.string (wN (x/y)))∧Below w.heap.size w w':=by
 have z1:=zs_over hx hy h0
 rw [hK] at z1
 have h:=calls_s1 (refFloorF z1) w
 rw [floor_over h0] at h
 exact h
theorem mulN_any (hK:K=10000) (hx:x<10^(K+1)) (hy:y<10^(K+1)) (w:World) :
 Calls Tryz.prog 119 #[.string (wN x),.string (wN y)] w fun e w'=>e = .returned (.string (wN (x*y)))∧Below w.heap.size w w':=by
 have z1:=vG hx
 have z2:=vG hy
 rw [hK] at z1 z2
 have h:=zM (fF z1 z2) w
 rw [mul_int] at h
 exact h
theorem subN_any (hK:K=10000) (hx:x<10^(K+1)) (hy:y*(x/y)<10^(K+1)) (w:World) :
 Calls Tryz.prog 53 #[.string (wN x),.string (wN (y*(x/y)))] w fun e w'=>e = .returned (.string (wN (x%y)))∧Below w.heap.size w w':=by
 have z1:=vG hx
 have z2:=vG hy
 rw [hK] at z1 z2
 have h:=zM (subR z1 z2) w
 rw [sub_mod] at h
 exact h
end
def GcdAtT (w:World) (T a b k:Nat) (va vb:Value) (wr:World):Prop := ∃ x,va = .string (wN x)∧vb = .string (wN k)∧Nat.gcd x k=Nat.gcd a b∧x<T∧k<T∧Below w.heap.size w wr
set_option maxRecDepth 100000 in
theorem refGcd_any {K a b:Nat} (hK:K=10000) (ha:a<10^(K+1)) (hb:b<10^(K+1)) (w:World) :
 Calls Tryz.prog 122 #[.string (wN a),.string (wN b)] w fun e w'=>e = .returned (.string (wN (Nat.gcd a b)))∧Below w.heap.size w w':=by
 have H1:=aH (fun (x y:Nat) (W:World) (hx:x<10^(K+1)) (hy:y<10^(K+1)) (h0:0<y)=>divN_any hK hx hy h0 W)
 have H2:=aH (fun (x y:Nat) (W:World) (hx:x<10^(K+1)) (hy:y<10^(K+1)) (h0:0<y)=>floorN_any hK hx hy h0 W)
 have H3:=aH (fun (x y:Nat) (W:World) (hx:x<10^(K+1)) (hy:y<10^(K+1))=>mulN_any hK hx hy W)
 have H4:=aH (fun (x y:Nat) (W:World) (hx:x<10^(K+1)) (hy:y*(x/y)<10^(K+1))=>subN_any hK hx hy W)
 generalize 10^(K+1)=T at *
 have HA:=aH (aI ha hb)
 clear ha hb hK
 go_enter Tryz.func122,Tryz.ntmps122
 go_wp2
 go_loopg [0,1] b (fun k va vb wr=>GcdAtT w T a b k va vb wr)
 case atStart=>exact ⟨a,rfl,rfl,rfl,HA.out.1,HA.out.2,aB _ _⟩
 case round =>
  obtain ⟨x,rfl,rfl,hg,hxT,hkT,hbe⟩:=hrel
  have HR:=aH (aI hg (aI hxT (aI hkT hbe)))
  clear hg hxT hkT hbe
  go_wp2_with fail
  refine (zeroN_any gk _).mono ?_
  rintro e w1 ⟨rfl,hb1⟩
  have HB1:=aH hb1
  clear hb1
  rcases Nat.eq_zero_or_pos gk with h0|h0
  ·rw [decide_eq_true h0]
   have HK:=aH h0
   clear h0
   go_wp2
   go_ret
   obtain ⟨hg,hxT,hkT,hbe⟩:=HR.out
   refine ⟨?_,Below.step_trans' hbe HB1.out⟩
   rw [← hg,HK.out,Nat.gcd_zero_right]
   rfl
  ·rw [decide_eq_false (by omega)]
   have HK:=aH h0
   clear h0
   go_wp2_with fail
   refine (H1.out x gk _ HR.out.2.1 HR.out.2.2.1 HK.out).mono ?_
   rintro e w2 ⟨rfl,hb2⟩
   have HB2:=aH hb2
   clear hb2
   go_wp2_with fail
   refine (H2.out x gk _ HR.out.2.1 HR.out.2.2.1 HK.out).mono ?_
   rintro e w3 ⟨rfl,hb3⟩
   have HB3:=aH hb3
   clear hb3
   go_wp2_with fail
   refine (H3.out gk (x/gk) _ HR.out.2.2.1 (Nat.lt_of_le_of_lt (Nat.div_le_self _ _) HR.out.2.1)).mono ?_
   rintro e w4 ⟨rfl,hb4⟩
   have HB4:=aH hb4
   clear hb4
   go_wp2_with fail
   refine (H4.out x gk _ HR.out.2.1 (Nat.lt_of_le_of_lt (Nat.mul_div_le _ _) HR.out.2.1)).mono ?_
   rintro e w5 ⟨rfl,hb5⟩
   have HB5:=aH hb5
   clear hb5
   go_wp2
   go_roundg (x%gk)
   case measure=>exact Nat.mod_lt _ HK.out
   case rel =>
    obtain ⟨hg,hxT,hkT,hbe⟩:=HR.out
    exact ⟨gk,rfl,rfl,by rw [← hg,Nat.gcd_comm gk,Nat.gcd_comm x,Nat.gcd_rec gk x],hkT,Nat.lt_trans (Nat.mod_lt _ HK.out) hkT,Below.step_trans' (Below.step_trans' (Below.step_trans' (Below.step_trans' (Below.step_trans' hbe HB1.out) HB2.out) HB3.out) HB4.out) HB5.out⟩
theorem refGcdF {K a b:Nat} (hK:K=10000) (ha:a<10^(K+1)) (hb:b<10^(K+1)):jF 122 [tx (wN a),tx (wN b)] (tx (wN (Nat.gcd a b))):=by
 intro β w vs hv
 obtain ⟨v,u,rfl,h1,h2⟩:=dJ hv
 rw [aO h1,aO h2]
 exact (refGcd_any hK ha hb w).mono fun e w' ⟨e1,e2⟩=>⟨_,e1,e2,bE⟩
theorem norm_one {xs:List Nat} (hn:Norm xs) (hd:Dig B9 xs) (h:val B9 xs<1000000000):xs = []∨∃ d,xs = [d]:=by
 match xs,hn,hd,h with
 | [],_,_,_=>exact .inl rfl
 | [d],_,_,_=>exact .inr ⟨d,rfl⟩
 | d :: e::l,hn,hd,h =>
   exfalso
   have hn' : Norm (e::l):=fun hne=>by
    have:=hn (by simp)
    simpa using this
   have hp:0<val B9 (e::l):=hn'.pos cB (by simp)
   have h1:val B9 (d::e::l)=d+B9*val B9 (e::l):=by simp [val]
   have h2:B9*1≤B9*val B9 (e::l):=Nat.mul_le_mul_left _ hp
   have h9:B9=1000000000:=rfl
   omega
set_option maxRecDepth 100000 in
theorem toInt_any (z:Int) (hz:z.natAbs<1000000000) (w:World) :
 Calls Tryz.prog 126 #[.string (writeB (z:Rat))] w fun e w'=>e = .returned (.tuple #[.int .i64 z,.bool true])∧Below w.heap.size w w':=by
 have hs:(aN z).size≤10:=kA (k:=8) (by omega)
 have hd:(decB z.natAbs).size≤100000:=by have:=decB_size (k:=8) (a:=z.natAbs) (by omega);omega
 have et:writeB (z:Rat)=aN z:=(bY z).symm
 have hw:∀ W,Calls Tryz.prog 176 #[.string (aN z)] W fun e w'=>e = .returned (.bool true)∧Below W.heap.size W w':=fun W=>by
  have h:=zJ (q:=(z:Rat)) (by rw [et];omega)
  rw [decide_eq_true (by simp),et] at h
  exact (h [] W [.string (aN z)] ⟨_,_,rfl,cD,rfl⟩).mono fun e w' ⟨v,e1,e2,e3⟩=>⟨by rw [e1,bT e3],e2⟩
 have hp:∀ W,Calls Tryz.prog 171 #[.string (aN z)] W fun e w' => ∃ v,e = .returned v∧Go.Proofs.YtklnecajplnboaaGreatDoor.In w' v z∧Below W.heap.size W w':=fun W =>
  ((parseF hd) [] W [.string (aN z)] ⟨_,_,rfl,cD,rfl⟩).mono fun e w' ⟨v,e1,e2,e3⟩=>⟨v,e1,kK.1 e3,e2⟩
 rw [et]
 generalize aN z=s at *
 have HW:=aH hw
 have HP:=aH hp
 have HZ:=aH hz
 clear hw hp hd et hz
 have k20:¬ (20:Int)<s.size:=by omega
 clear hs
 go_enter Tryz.func126,Tryz.ntmps126
 go_wp2_with fail
 refine (HW.out _).mono ?_
 rintro e w0 ⟨rfl,hb0⟩
 have HB0:=aH hb0
 clear hb0
 go_wp2_with fail
 refine (HP.out _).mono ?_
 rintro e w1 ⟨v,rfl,hi,hb1⟩
 obtain ⟨A,n,c,xs,rfl,hr,hdg,hn,hv⟩:=hi
 have HB1:=aH hb1
 clear hb1
 rcases norm_one hn hdg (by rw [hv];exact HZ.out) with rfl|⟨d,rfl⟩
 ·have hz0:z=0:=by simp [val] at hv;omega
  have hn0:n=0:=by simpa using hr.len.symm
  subst hz0 hn0
  clear hr hdg hn hv
  go_wp2
  go_loopg [5,6] 0 (fun k va vb wr=>va = .int .i64 0∧vb = .int .i64 (-1)∧Below w.heap.size w wr)
  case atStart =>
   have hb:=Below.step_trans' HB0.out HB1.out
   exact ⟨rfl,rfl,hb.alloc hb.size _⟩
  case round =>
   obtain ⟨rfl,rfl,hb⟩:=hrel
   have HR:=aH hb
   clear hb
   go_wp2
   go_ret2
   exact ⟨rfl,HR.out⟩
 ·have hdv:d=z.natAbs:=by simpa [val] using hv
  have hn1:n=1:=by simpa using hr.len.symm
  subst hn1
  obtain ⟨ad,y,rfl,hblk,hyt,hcy⟩:=hr.at_ (k:=0) (by omega)
  obtain rfl:d=y:=by simpa using hyt
  obtain ⟨ng,hng⟩:∃ ng,decide (z<0)=ng:=⟨_,rfl⟩
  rw [hng]
  have HC:=aH (fun o=>show (w1.alloc o).cell? ad=some (.int .i64 (d:Int)) by
   have h:=(((aB _ w1).alloc (aR _) o).cell (p:=ad.add 0) (by rw [bK];exact hblk)).trans hcy
   simpa [Addr.add] using h)
  have hzd:z=if ng=true then -(d:Int) else (d:Int):=by
   subst hng
   by_cases h:z<0 <;> simp [h] <;> omega
  have hd9:(d:Int)<1000000000:=by have:=HZ.out;omega
  have HD:=aH (aI hzd hd9)
  clear hr hdg hn hv hdv hblk hyt hcy hzd hng
  go_wp2
  go_loopg [5,6] 1 (fun k va vb wr=>wr=w1.alloc (.cells #[.bool ng,.slice (some ad) 1 c] 160)∧((k=0∧va = .int .i64 z∧vb = .int .i64 (-1))∨(k=1∧va = .int .i64 0∧vb = .int .i64 0)))
  case atStart=>exact ⟨rfl,.inr ⟨rfl,rfl,rfl⟩⟩
  case round =>
   obtain ⟨rfl,⟨rfl,rfl,rfl⟩|⟨rfl,rfl,rfl⟩⟩:=hrel
   ·go_wp2
    go_ret2
    have hb:=Below.step_trans' HB0.out HB1.out
    exact ⟨rfl,hb.alloc hb.size _⟩
   ·have hc:=HC.out (.cells #[.bool ng,.slice (some ad) 1 c] 160)
    cases ng
    ·go_wp2
     go_roundg 0
     case measure=>omega
     case rel=>exact ⟨rfl,.inl ⟨rfl,by rw [HD.out.1];simp,rfl⟩⟩
    ·go_wp2
     go_roundg 0
     case measure=>omega
     case rel=>exact ⟨rfl,.inl ⟨rfl,by rw [HD.out.1];simp,rfl⟩⟩
theorem fV {z:Int} (hz:z.natAbs<1000000000):jF 126 [tx (writeB (z:Rat))] (.tup [.sc (.lit (.int .i64 z)),.sc (.lit (.bool true))]):=by
 intro β w vs hv
 obtain ⟨v,rfl,h1⟩:=dC hv
 rw [aO h1]
 exact (toInt_any z hz w).mono fun e w' ⟨e1,e2⟩=>⟨_,e1,e2,_,rfl,_,_,rfl,⟨rfl,rfl⟩,_,_,rfl,⟨rfl,rfl⟩,rfl⟩
abbrev one:ByteArray:=⟨#[49]⟩
abbrev nul:ByteArray:=⟨#[48]⟩
structure MkA (x y z d b1 b2 b3 c1 c2 c3 e1 e2 e3 k1 k2 k3 p1 p2 p3 w1 w2 w3 s1 s2 s3 k4 dd:ByteArray):Prop where
 o:jF 42 [t3 x y z] (bl false)
 d1:jF 121 [tx x] (tx b1)
 g1:jF 122 [lt one,tx b1] (tx c1)
 q1:jF 49 [tx b1,tx c1] (tx e1)
 m1:jF 119 [lt one,tx e1] (tx k1)
 d2:jF 121 [tx y] (tx b2)
 g2:jF 122 [tx k1,tx b2] (tx c2)
 q2:jF 49 [tx b2,tx c2] (tx e2)
 m2:jF 119 [tx k1,tx e2] (tx k2)
 d3:jF 121 [tx z] (tx b3)
 g3:jF 122 [tx k2,tx b3] (tx c3)
 q3:jF 49 [tx b3,tx c3] (tx e3)
 m3:jF 119 [tx k2,tx e3] (tx k3)
 a1:jF 119 [tx x,tx k3] (tx p1)
 v1:jF 123 [tx p1] (tx w1)
 u1:jF 122 [tx w1,lt nul] (tx s1)
 a2:jF 119 [tx y,tx k3] (tx p2)
 v2:jF 123 [tx p2] (tx w2)
 u2:jF 122 [tx w2,tx s1] (tx s2)
 a3:jF 119 [tx z,tx k3] (tx p3)
 v3:jF 123 [tx p3] (tx w3)
 u3:jF 122 [tx w3,tx s2] (tx s3)
 f:jF 49 [tx k3,tx s3] (tx k4)
 t:jF 119 [tx d,tx k4] (tx dd)
structure MkB (x y z k4 i1 i2 i3 n1 n2 n3 mx:ByteArray):Prop where
 r1:jF 119 [tx x,tx k4] (tx i1)
 j1:jF 123 [tx i1] (tx n1)
 r2:jF 119 [tx y,tx k4] (tx i2)
 j2:jF 123 [tx i2] (tx n2)
 r3:jF 119 [tx z,tx k4] (tx i3)
 j3:jF 123 [tx i3] (tx n3)
 w:jF 125 [it 999999999] (tx mx)
theorem fits_isI {f:FuncId} {args:List (AV Kn)} {z:Int} (h:jF f args (it z)):jF f args (.fv (.sc (eV z))) :=
 fun β w vs hv=>(h β w vs hv).mono fun e w' ⟨v,e1,e2,e3⟩=>⟨v,e1,e2,by rw [aM e3];exact bE⟩
section
variable {x y z d b1 b2 b3 c1 c2 c3 e1 e2 e3 k1 k2 k3 p1 p2 p3 w1 w2 w3 s1 s2 s3 k4 dd i1 i2 i3 n1 n2 n3 mx:ByteArray} {q1 q2 q3 m1 m2 m3:Int}
set_option maxRecDepth 100000 in
theorem mkBigW (h:MkA x y z d b1 b2 b3 c1 c2 c3 e1 e2 e3 k1 k2 k3 p1 p2 p3 w1 w2 w3 s1 s2 s3 k4 dd) (l:MkB x y z k4 i1 i2 i3 n1 n2 n3 mx) (y1:jF 124 [tx n1,tx mx] (.fv (.sc (eV q1)))) (W:decide ((0:Int)<q1)=true∨∃ m1 q2:Int,decide ((0:Int)<q1)=false∧jF 126 [tx i1] (.tup [.sc (.lit (.int .i64 m1)),.sc (.lit (.bool true))])∧jF 124 [tx n2,tx mx] (.fv (.sc (eV q2)))∧(decide ((0:Int)<q2)=true∨∃ m2 q3:Int,decide ((0:Int)<q2)=false∧jF 126 [tx i2] (.tup [.sc (.lit (.int .i64 m2)),.sc (.lit (.bool true))])∧jF 124 [tx n3,tx mx] (.fv (.sc (eV q3)))∧(decide ((0:Int)<q3)=true∨∃ m3:Int,decide ((0:Int)<q3)=false∧jF 126 [tx i3] (.tup [.sc (.lit (.int .i64 m3)),.sc (.lit (.bool true))])∧jF 127 [tx dd] (it 4)))):jF 50 [t3 x y z,tx d] (.tup [.ag [.lit (.int .i64 0),.lit (.int .i64 0),.lit (.int .i64 0),.lit (.string ⟨#[]⟩)],.sc (.lit (.int .i64 4))]):=by
 refine jG Tryz.func50 fun w00=>?_
 refine jC 42 [t3 x y z] (h.o) ?_
 refine jC 121 [tx x] (h.d1) ?_
 refine jC 122 [lt one,tx b1] (h.g1) ?_
 refine jC 49 [tx b1,tx c1] (h.q1) ?_
 refine jC 119 [lt one,tx e1] (h.m1) ?_
 refine jC 121 [tx y] (h.d2) ?_
 refine jC 122 [tx k1,tx b2] (h.g2) ?_
 refine jC 49 [tx b2,tx c2] (h.q2) ?_
 refine jC 119 [tx k1,tx e2] (h.m2) ?_
 refine jC 121 [tx z] (h.d3) ?_
 refine jC 122 [tx k2,tx b3] (h.g3) ?_
 refine jC 49 [tx b3,tx c3] (h.q3) ?_
 refine jC 119 [tx k2,tx e3] (h.m3) ?_
 refine jC 119 [tx x,tx k3] (h.a1) ?_
 refine jC 123 [tx p1] (h.v1) ?_
 refine jC 122 [tx w1,lt nul] (h.u1) ?_
 refine jC 119 [tx y,tx k3] (h.a2) ?_
 refine jC 123 [tx p2] (h.v2) ?_
 refine jC 122 [tx w2,tx s1] (h.u2) ?_
 refine jC 119 [tx z,tx k3] (h.a3) ?_
 refine jC 123 [tx p3] (h.v3) ?_
 refine jC 122 [tx w3,tx s2] (h.u3) ?_
 refine jC 49 [tx k3,tx s3] (h.f) ?_
 refine jC 119 [tx d,tx k4] (h.t) ?_
 refine jC 119 [tx x,tx k4] (l.r1) ?_
 refine jC 123 [tx i1] (l.j1) ?_
 refine jC 125 [it 999999999] (l.w) ?_
 refine jC 124 [tx n1,tx mx] (y1) ?_
 rcases W with z1|⟨m1,q2,z1,g1,y2,W⟩
 ·refine jM 65 q1 0 true z1 ?_
  exact jR Tryz.func50
 refine jM 65 q1 0 false z1 ?_
 refine jC 126 [tx i1] (g1) ?_
 refine jC 119 [tx y,tx k4] (l.r2) ?_
 refine jC 123 [tx i2] (l.j2) ?_
 refine jC 125 [it 999999999] (l.w) ?_
 refine jC 124 [tx n2,tx mx] (y2) ?_
 rcases W with z2|⟨m2,q3,z2,g2,y3,W⟩
 ·refine jM 65 q2 0 true z2 ?_
  exact jR Tryz.func50
 refine jM 65 q2 0 false z2 ?_
 refine jC 126 [tx i2] (g2) ?_
 refine jC 119 [tx z,tx k4] (l.r3) ?_
 refine jC 123 [tx i3] (l.j3) ?_
 refine jC 125 [it 999999999] (l.w) ?_
 refine jC 124 [tx n3,tx mx] (y3) ?_
 rcases W with z3|⟨m3,z3,g3,g⟩
 ·refine jM 65 q3 0 true z3 ?_
  exact jR Tryz.func50
 refine jM 65 q3 0 false z3 ?_
 refine jC 126 [tx i3] (g3) ?_
 refine jC 127 [tx dd] (g) ?_
 exact jR Tryz.func50
set_option maxRecDepth 100000 in
theorem mkFine (h:MkA x y z d b1 b2 b3 c1 c2 c3 e1 e2 e3 k1 k2 k3 p1 p2 p3 w1 w2 w3 s1 s2 s3 k4 dd) (l:MkB x y z k4 i1 i2 i3 n1 n2 n3 mx) (y1:jF 124 [tx n1,tx mx] (.fv (.sc (eV q1)))) (z1:decide ((0:Int)<q1)=false) (g1:jF 126 [tx i1] (.tup [.sc (.lit (.int .i64 m1)),.sc (.lit (.bool true))])) (y2:jF 124 [tx n2,tx mx] (.fv (.sc (eV q2)))) (z2:decide ((0:Int)<q2)=false) (g2:jF 126 [tx i2] (.tup [.sc (.lit (.int .i64 m2)),.sc (.lit (.bool true))])) (y3:jF 124 [tx n3,tx mx] (.fv (.sc (eV q3)))) (z3:decide ((0:Int)<q3)=false) (g3:jF 126 [tx i3] (.tup [.sc (.lit (.int .i64 m3)),.sc (.lit (.bool true))])) (g:jF 127 [tx dd] (it 0)):jF 50 [t3 x y z,tx d] (.tup [.ag [.lit (.int .i64 m1),.lit (.int .i64 m2),.lit (.int .i64 m3),cH dd],.sc (.lit (.int .i64 0))]):=by
 refine jG Tryz.func50 fun w00=>?_
 refine jC 42 [t3 x y z] (h.o) ?_
 refine jC 121 [tx x] (h.d1) ?_
 refine jC 122 [lt one,tx b1] (h.g1) ?_
 refine jC 49 [tx b1,tx c1] (h.q1) ?_
 refine jC 119 [lt one,tx e1] (h.m1) ?_
 refine jC 121 [tx y] (h.d2) ?_
 refine jC 122 [tx k1,tx b2] (h.g2) ?_
 refine jC 49 [tx b2,tx c2] (h.q2) ?_
 refine jC 119 [tx k1,tx e2] (h.m2) ?_
 refine jC 121 [tx z] (h.d3) ?_
 refine jC 122 [tx k2,tx b3] (h.g3) ?_
 refine jC 49 [tx b3,tx c3] (h.q3) ?_
 refine jC 119 [tx k2,tx e3] (h.m3) ?_
 refine jC 119 [tx x,tx k3] (h.a1) ?_
 refine jC 123 [tx p1] (h.v1) ?_
 refine jC 122 [tx w1,lt nul] (h.u1) ?_
 refine jC 119 [tx y,tx k3] (h.a2) ?_
 refine jC 123 [tx p2] (h.v2) ?_
 refine jC 122 [tx w2,tx s1] (h.u2) ?_
 refine jC 119 [tx z,tx k3] (h.a3) ?_
 refine jC 123 [tx p3] (h.v3) ?_
 refine jC 122 [tx w3,tx s2] (h.u3) ?_
 refine jC 49 [tx k3,tx s3] (h.f) ?_
 refine jC 119 [tx d,tx k4] (h.t) ?_
 refine jC 119 [tx x,tx k4] (l.r1) ?_
 refine jC 123 [tx i1] (l.j1) ?_
 refine jC 125 [it 999999999] (l.w) ?_
 refine jC 124 [tx n1,tx mx] (y1) ?_
 refine jM 65 q1 0 false z1 ?_
 refine jC 126 [tx i1] (g1) ?_
 refine jC 119 [tx y,tx k4] (l.r2) ?_
 refine jC 123 [tx i2] (l.j2) ?_
 refine jC 125 [it 999999999] (l.w) ?_
 refine jC 124 [tx n2,tx mx] (y2) ?_
 refine jM 65 q2 0 false z2 ?_
 refine jC 126 [tx i2] (g2) ?_
 refine jC 119 [tx z,tx k4] (l.r3) ?_
 refine jC 123 [tx i3] (l.j3) ?_
 refine jC 125 [it 999999999] (l.w) ?_
 refine jC 124 [tx n3,tx mx] (y3) ?_
 refine jM 65 q3 0 false z3 ?_
 refine jC 126 [tx i3] (g3) ?_
 refine jC 127 [tx dd] (g) ?_
 exact jR Tryz.func50
end
theorem den_mul (q:Rat):q*((q.den:Int):Rat)=((q.num:Int):Rat):=by
 have h1:((q.den:Int):Rat)≠0:=by
  intro h
  have:=q.den_nz
  have h:=Rat.intCast_inj.1 (h.trans Rat.intCast_zero.symm)
  omega
 have h2:q=q.num/((q.den:Int):Rat):=by
  have:=Rat.mkRat_eq_div q.num q.den
  rw [Rat.mkRat_self] at this
  exact this
 have h3:=Rat.div_mul_cancel (a:=(q.num:Rat)) h1
 rwa [← h2] at h3
theorem int_mul {q:Rat} {L:Nat} (h:q.den ∣ L):q*((L:Int):Rat)=((q.num*((L/q.den:Nat):Int):Int):Rat):=by
 obtain ⟨t,ht⟩:=h
 have e:=den_mul q
 rw [ht,Nat.mul_div_cancel_left _ q.den_pos,Int.natCast_mul,Rat.intCast_mul,← Rat.mul_assoc,e,Rat.intCast_mul]
theorem gcd3_mul (P a b c:Nat):Nat.gcd (P*c) (Nat.gcd (P*b) (P*a))=P*Nat.gcd c (Nat.gcd b a):=by
 rw [Nat.gcd_mul_left,Nat.gcd_mul_left]
theorem gcd3_int {z1 z2 z3:Int} (h:Int.gcd (Int.gcd z1 z2:Int) z3=1):Nat.gcd z3.natAbs (Nat.gcd z2.natAbs z1.natAbs)=1:=by
 rw [Int.gcd,Int.natAbs_natCast,Int.gcd,Nat.gcd_comm,Nat.gcd_comm z1.natAbs] at h
 exact h
theorem rT {n:Nat} (h:0<n):((n:Int):Rat)≠0:=by
 intro e
 have:=Rat.intCast_inj.1 (e.trans Rat.intCast_zero.symm)
 omega
theorem whole_LG {F n1 n2 n3:Rat} {z1 z2 z3 M1 M2 M3:Int} {L P Q:Nat} (hQ:0<Q) (hF2:F*((Q:Int):Rat)=((P:Int):Rat)) (hL:0<L) (e1:F*n1=z1) (e2:F*n2=z2) (e3:F*n3=z3) (hg:Int.gcd (Int.gcd z1 z2:Int) z3=1)
 (m1:n1*((L:Int):Rat)=M1) (m2:n2*((L:Int):Rat)=M2) (m3:n3*((L:Int):Rat)=M3) {G:Nat} (hG:Nat.gcd M3.natAbs (Nat.gcd M2.natAbs M1.natAbs)=G) :
 0<G∧((L:Int):Rat)/((G:Int):Rat)=F:=by
 have key:∀ {n:Rat} {z M:Int},F*n=z→n*((L:Int):Rat)=M→(P:Int)*M=(Q:Int)*L*z:=by
  intro n z M h1 h2
  have:(((P:Int)*M:Int):Rat)=(((Q:Int)*L*z:Int):Rat):=by
   rw [Rat.intCast_mul,Rat.intCast_mul,Rat.intCast_mul,← hF2,← h2,← h1]
   grind
  exact Rat.intCast_inj.1 this
 have nat:∀ {z M:Int},(P:Int)*M=(Q:Int)*L*z→P*M.natAbs=Q*L*z.natAbs:=by
  intro z M h
  have:=congrArg Int.natAbs h
  simpa [Int.natAbs_mul] using this
 have k1:=nat (key e1 m1)
 have k2:=nat (key e2 m2)
 have k3:=nat (key e3 m3)
 have hPG:P*G=Q*L:=by
  rw [← hG,← gcd3_mul,k1,k2,k3,gcd3_mul,gcd3_int hg,Nat.mul_one]
 have hG0:0<G:=by
  rcases Nat.eq_zero_or_pos G with h|h
  ·rw [h,Nat.mul_zero] at hPG
   have:=Nat.mul_pos hQ hL
   omega
  ·exact h
 refine ⟨hG0,?_⟩
 have r:((P:Int):Rat)*((G:Int):Rat)=((Q:Int):Rat)*((L:Int):Rat):=by
  rw [← Rat.intCast_mul,← Rat.intCast_mul,← Int.natCast_mul,← Int.natCast_mul,hPG]
 have hq:=rT hQ
 have hgn:=rT hG0
 rw [← hF2] at r
 have r2:F*((G:Int):Rat)=((L:Int):Rat):=by
  have:((Q:Int):Rat)*(F*((G:Int):Rat))=((Q:Int):Rat)*((L:Int):Rat):=by rw [← r];grind
  have h:=congrArg (fun x=>((Q:Int):Rat)⁻¹*x) this
  simpa only [← Rat.mul_assoc,Rat.inv_mul_cancel _ hq,Rat.one_mul] using h
 rw [← r2]
 exact Rat.mul_div_cancel hgn
section
variable {a b k i:Nat}
theorem up_ten {n k K:Nat} (hK:K=10000) (h:n<10^k) (hk:k≤10000):n<10^(K+1):=Nat.lt_of_lt_of_le h (Nat.pow_le_pow_right (by omega) (by omega))
theorem gcdT (ha:a<10^k) (hb:b<10^k) (hk:k≤10000):jF 122 [tx (wN a),tx (wN b)] (tx (wN (Nat.gcd a b))):=by
 obtain ⟨K,hK⟩:∃ K,K=10000:=⟨_,rfl⟩
 exact refGcdF hK (up_ten hK ha hk) (up_ten hK hb hk)
theorem zsT (ha:a<10^k) (hk:k≤10000) (h0:0<k):Zs 10000 ((a:Int):Rat):=(vF (z:=(a:Int)) (by rw [Int.natAbs_natCast];exact ha) h0).zs hk
theorem divT (ha:a<10^k) (hb:b<10^k) (hk:k≤10000) (h0:0<k) (hb0:0<b) (hd:b ∣ a):jF 49 [tx (wN a),tx (wN b)] (tx (wN (a/b))):=by
 have h:=iW (pW (zsT ha hk h0) (zsT hb hk h0) (rT hb0))
 obtain ⟨t,rfl⟩:=hd
 have e:(((b*t:Nat):Int):Rat)/((b:Int):Rat)=((t:Int):Rat):=by
  rw [Int.natCast_mul,Rat.intCast_mul,Rat.mul_comm,Rat.mul_div_cancel (rT hb0)]
 rw [e] at h
 rw [Nat.mul_div_cancel_left _ hb0]
 exact h
theorem mulT (ha:a<10^k) (hb:b<10^k) (hk:k≤10000) (h0:0<k):jF 119 [tx (wN a),tx (wN b)] (tx (wN (a*b))):=by
 have h:=iW (fF (zsT ha hk h0) (zsT hb hk h0))
 rw [mul_int] at h
 exact h
theorem denT {q:Rat} (h:(writeB q).size≤1000000000):jF 121 [tx (writeB q)] (tx (wN q.den)):=by
 have e:wN q.den=decB q.den:=by
  show writeB _=_
  rw [← bY,aN,if_neg (by omega),Int.natAbs_natCast]
 rw [e]
 exact aAe (denOfF h)
theorem absT {z:Int} (hs:(aN z).size≤1000000000):jF 123 [tx (writeB (z:Rat))] (tx (wN z.natAbs)):=by
 have e:wN z.natAbs=decB z.natAbs:=by
  show writeB _=_
  rw [← bY,aN,if_neg (by omega),Int.natAbs_natCast]
 rw [e,← bY]
 exact aAe (absTF hs)
theorem lit1 {f:FuncId} {s t:ByteArray} {x:AV Kn} (h:jF f [tx s,tx t] x):jF f [lt s,tx t] x:=fun β w vs hv=>by
 obtain ⟨v,u,rfl,h1,h2⟩:=dJ hv
 rw [aM h1]
 exact h β w _ ⟨_,_,rfl,bE,_,_,rfl,h2,rfl⟩
theorem lit2 {f:FuncId} {s t:ByteArray} {x:AV Kn} (h:jF f [tx s,tx t] x):jF f [tx s,lt t] x:=fun β w vs hv=>by
 obtain ⟨v,u,rfl,h1,h2⟩:=dJ hv
 rw [aM h2]
 exact h β w _ ⟨_,_,rfl,h1,_,_,rfl,bE,rfl⟩
theorem kk_lt (ha:a<10^i) (hb:b<10^k):a*(b/Nat.gcd a b)<10^(i+k):=by
 rw [Nat.pow_add]
 exact Nat.lt_of_le_of_lt (Nat.mul_le_mul_left _ (Nat.div_le_self _ _)) (Nat.mul_lt_mul'' ha hb)
theorem dvd_kk (a b:Nat):b ∣ a*(b/Nat.gcd a b):=by
 refine ⟨a/Nat.gcd a b,?_⟩
 rw [← Nat.mul_div_assoc _ (Nat.gcd_dvd_right a b),Nat.mul_comm a b,Nat.mul_div_assoc _ (Nat.gcd_dvd_left a b)]
theorem kk_pos (ha:0<a) (hb:0<b):0<a*(b/Nat.gcd a b):=Nat.mul_pos ha (Nat.div_pos (Nat.le_of_dvd hb (Nat.gcd_dvd_right _ _)) (Nat.gcd_pos_of_pos_left _ ha))
end
theorem wN_one:wN 1=one:=w1
theorem wN_nul:wN 0=nul:=w0
structure MkN (n1 n2 n3 d F:Rat) (z1 z2 z3:Int):Prop where
 a:∃ b1 b2 b3 c1 c2 c3 e1 e2 e3 k1 k2 k3 p1 p2 p3 w1 w2 w3 s1 s2 s3,MkA (writeB n1) (writeB n2) (writeB n3) (writeB d) b1 b2 b3 c1 c2 c3 e1 e2 e3 k1 k2 k3 p1 p2 p3 w1 w2 w3 s1 s2 s3 (writeB F) (writeB (d*F))
 b:MkB (writeB n1) (writeB n2) (writeB n3) (writeB F) (writeB (z1:Rat)) (writeB (z2:Rat)) (writeB (z3:Rat)) (wN z1.natAbs) (wN z2.natAbs) (wN z3.natAbs) (writeB ((999999999:Int):Rat))
theorem size_of {q:Rat} {k:Nat} (h:Bq k q) (hk:k≤10000):(writeB q).size≤1000000000:=by
 have:=zs_len (h.zs hk)
 omega
theorem text_of {z:Int} {k:Nat} (h:z.natAbs<10^k) (hk:k≤10000):(aN z).size≤1000000000:=by
 have:=kA (z:=z) (k:=k) (Nat.lt_of_lt_of_le h (Nat.pow_le_pow_right (by omega) (by omega)))
 omega
theorem mkN {n1 n2 n3 d:Rat} {k j:Nat} (q1:Bq k n1) (q2:Bq k n2) (q3:Bq k n3) (qd:Bq j d) (hk0:0<k) (hk:4*k≤9999) (hj:j≤10000) (h0:¬ (n1=0∧n2=0∧n3=0)) {z1 z2 z3:Int}
 (f1:bG n1 n2 n3*n1=z1) (f2:bG n1 n2 n3*n2=z2) (f3:bG n1 n2 n3*n3=z3) (hg:Int.gcd (Int.gcd z1 z2:Int) z3=1):MkN n1 n2 n3 d (bG n1 n2 n3) z1 z2 z3:=by
 obtain ⟨_,_,_,_,_,_,_,P,Q,hP,hQ,hw,_⟩:=zK h0
 have hF2:bG n1 n2 n3*((Q:Int):Rat)=((P:Int):Rat):=by
  rw [hw,Rat.mkRat_eq_div]
  exact Rat.div_mul_cancel (rT hQ)
 generalize bG n1 n2 n3=F at *
 obtain ⟨b1,hb1⟩:∃ b,b=n1.den:=⟨_,rfl⟩
 obtain ⟨b2,hb2⟩:∃ b,b=n2.den:=⟨_,rfl⟩
 obtain ⟨b3,hb3⟩:∃ b,b=n3.den:=⟨_,rfl⟩
 have p1:0<b1:=hb1▸n1.den_pos
 have p2:0<b2:=hb2▸n2.den_pos
 have p3:0<b3:=hb3▸n3.den_pos
 have t1:b1<10^k:=hb1▸q1.2
 have t2:b2<10^k:=hb2▸q2.2
 have t3:b3<10^k:=hb3▸q3.2
 have one_lt:1<10^k:=Nat.one_lt_pow (by omega) (by omega)
 have up:∀ {n i:Nat},n<10^i→i≤4*k→n<10^(4*k):=fun h hi=>Nat.lt_of_lt_of_le h (Nat.pow_le_pow_right (by omega) hi)
 obtain ⟨k1,hk1⟩:∃ k1,k1=1*(b1/Nat.gcd 1 b1):=⟨_,rfl⟩
 obtain ⟨k2,hk2⟩:∃ k2,k2=k1*(b2/Nat.gcd k1 b2):=⟨_,rfl⟩
 obtain ⟨k3,hk3⟩:∃ k3,k3=k2*(b3/Nat.gcd k2 b3):=⟨_,rfl⟩
 have l1:k1<10^k:=by
  have:k1=b1:=by rw [hk1,Nat.gcd_one_left,Nat.div_one,Nat.one_mul]
  rw [this];exact t1
 have l2:k2<10^(k+k):=hk2▸kk_lt l1 t2
 have l3:k3<10^(k+k+k):=hk3▸kk_lt l2 t3
 have o1:0<k1:=hk1▸kk_pos (by omega) p1
 have o2:0<k2:=hk2▸kk_pos o1 p2
 have o3:0<k3:=hk3▸kk_pos o2 p3
 have d3:n3.den ∣ k3:=hb3▸hk3▸dvd_kk k2 b3
 have d2:n2.den ∣ k3:=hb2▸Nat.dvd_trans (hk2▸dvd_kk k1 b2) (hk3▸Nat.dvd_mul_right k2 _)
 have d1:n1.den ∣ k3:=hb1▸Nat.dvd_trans (hk1▸dvd_kk 1 b1) (Nat.dvd_trans (hk2▸Nat.dvd_mul_right k1 _) (hk3▸Nat.dvd_mul_right k2 _))
 have mk:∀ {q:Rat},Bq k q→q.den ∣ k3→∃ M:Int,q*((k3:Int):Rat)=M∧M.natAbs<10^(4*k):=fun {q} hq hd=>by
  refine ⟨_,int_mul hd,?_⟩
  rw [Int.natAbs_mul,Int.natAbs_natCast]
  have e:4*k=k+(k+k+k):=by omega
  rw [e,Nat.pow_add]
  exact Nat.mul_lt_mul'' hq.1 (Nat.lt_of_le_of_lt (Nat.div_le_self _ _) l3)
 obtain ⟨M1,m1,v1⟩:=mk q1 d1
 obtain ⟨M2,m2,v2⟩:=mk q2 d2
 obtain ⟨M3,m3,v3⟩:=mk q3 d3
 obtain ⟨hG0,hLG⟩:=whole_LG hQ hF2 o3 f1 f2 f3 hg m1 m2 m3 rfl
 have g1:Nat.gcd M1.natAbs 0=M1.natAbs:=Nat.gcd_zero_right _
 have gl:∀ {x y:Nat},y<10^(4*k)→x<10^(4*k)→Nat.gcd x y<10^(4*k):=fun {x y} hy hx=>by
  rcases Nat.eq_zero_or_pos x with h|h
  ·rw [h,Nat.gcd_zero_left];exact hy
  ·exact Nat.lt_of_le_of_lt (Nat.gcd_le_left _ h) hx
 have x2:=gl v1 v2
 have x3:=gl x2 v3
 have h4:0<4*k:=by omega
 have up1:∀ {n:Nat},n<10^(4*k)→n<10^(4*k+1):=fun {n} h=>Nat.lt_of_lt_of_le h (Nat.pow_le_pow_right (by omega) (by omega))
 have l3' : k3<10^(4*k):=up l3 (by omega)
 have zF:Zs 10000 F:=by
  rw [← hLG]
  have z:=zs_over (k:=4*k) (up1 l3') (up1 x3) hG0
  exact Bq.zs (k:=4*k+1) z (by omega)
 have hb:∀ {q:Rat},Bq k q→(writeB q).size≤1000000000:=fun h=>size_of h (by omega)
 have ht:∀ {z:Int},z.natAbs<10^(4*k)→(aN z).size≤1000000000:=fun h=>text_of h (by omega)
 have mulM:∀ {q:Rat} {M:Int},Bq k q→q*((k3:Int):Rat)=M→jF 119 [tx (writeB q),tx (wN k3)] (tx (writeB (M:Rat))):=fun {q M} hq e=>by
  have h:=iW (fF (hq.zs (by omega)) (zsT l3' (by omega) h4))
  rw [e] at h
  exact h
 have mulF:∀ {q:Rat} {z:Int},Bq k q→F*q=z→jF 119 [tx (writeB q),tx (writeB F)] (tx (writeB (z:Rat))):=fun {q z} hq e=>by
  have h:=iW (fF (hq.zs (by omega)) zF)
  rw [Rat.mul_comm,e] at h
  exact h
 have b1' : b1<10^(4*k):=up t1 (by omega)
 have b2' : b2<10^(4*k):=up t2 (by omega)
 have b3' : b3<10^(4*k):=up t3 (by omega)
 have k1' : k1<10^(4*k):=up l1 (by omega)
 have k2' : k2<10^(4*k):=up l2 (by omega)
 have one' : 1<10^(4*k):=up one_lt (by omega)
 have nul' : 0<10^(4*k):=by omega
 have gd:∀ {x y:Nat},0<y→y<10^(4*k)→Nat.gcd x y<10^(4*k):=fun {x y} h0 hy=>Nat.lt_of_le_of_lt (Nat.gcd_le_right _ h0) hy
 have dv:∀ {x y:Nat},x<10^(4*k)→x/y<10^(4*k):=fun h=>Nat.lt_of_le_of_lt (Nat.div_le_self _ _) h
 have hk4:4*k≤10000:=by omega
 have fits_k4:jF 49 [tx (wN k3),tx (wN (Nat.gcd M3.natAbs (Nat.gcd M2.natAbs M1.natAbs)))] (tx (writeB F)):=by
  have h:=iW (pW (zsT l3' hk4 h4) (zsT x3 hk4 h4) (rT hG0))
  rw [hLG] at h
  exact h
 have z0:¬ (decide (n1=0)&&decide (n2=0)&&decide (n3=0))=true:=by
  simpa only [Bool.and_eq_true,decide_eq_true_eq,and_assoc] using h0
 have gp:∀ {x y:Nat},0<y→0<Nat.gcd x y:=fun h=>Nat.gcd_pos_of_pos_right _ h
 refine ⟨⟨wN b1,wN b2,wN b3,wN (Nat.gcd 1 b1),wN (Nat.gcd k1 b2),wN (Nat.gcd k2 b3),wN (b1/Nat.gcd 1 b1),wN (b2/Nat.gcd k1 b2),wN (b3/Nat.gcd k2 b3),wN k1,wN k2,wN k3,writeB (M1:Rat),writeB (M2:Rat),writeB (M3:Rat),wN M1.natAbs,wN M2.natAbs,wN M3.natAbs,
  wN M1.natAbs,wN (Nat.gcd M2.natAbs M1.natAbs),wN (Nat.gcd M3.natAbs (Nat.gcd M2.natAbs M1.natAbs)),?_⟩,?_⟩
 ·refine ⟨?_,hb1▸denT (hb q1),?_,divT b1' (gd p1 b1') hk4 h4 (gp p1) (Nat.gcd_dvd_right _ _),?_,hb2▸denT (hb q2),gcdT k1' b2' hk4,divT b2' (gd p2 b2') hk4 h4 (gp p2) (Nat.gcd_dvd_right _ _),?_,hb3▸denT (hb q3),gcdT k2' b3' hk4,divT b3' (gd p3 b3') hk4 h4 (gp p3) (Nat.gcd_dvd_right _ _),?_,
   mulM q1 m1,absT (ht v1),?_,mulM q2 m2,absT (ht v2),gcdT v2 v1 hk4,mulM q3 m3,absT (ht v3),gcdT v3 x2 hk4,fits_k4,iW (fF (qd.zs hj) zF)⟩
  ·have h:=pX n1 n2 n3
   rwa [Bool.eq_false_iff.2 z0] at h
  ·exact lit1 (wN_one▸gcdT one' b1' hk4)
  ·exact lit1 (wN_one▸hk1▸mulT one' (dv b1') hk4 h4)
  ·exact hk2▸mulT k1' (dv b2') hk4 h4
  ·exact hk3▸mulT k2' (dv b3') hk4 h4
  ·have h:=gcdT v1 nul' hk4
   rw [g1,wN_nul] at h
   exact lit2 h
 ·have hFG:F*((Nat.gcd M3.natAbs (Nat.gcd M2.natAbs M1.natAbs):Int):Rat)=((k3:Int):Rat):=by
   rw [← hLG]
   exact Rat.div_mul_cancel (rT hG0)
  generalize Nat.gcd M3.natAbs (Nat.gcd M2.natAbs M1.natAbs)=G at *
  have zb:∀ {q:Rat} {z M:Int},F*q=z→q*((k3:Int):Rat)=M→M.natAbs<10^(4*k)→z.natAbs<10^(4*k):=fun {q z M} e f hM=>by
   have h:((z*(G:Int):Int):Rat)=(M:Rat):=by
    rw [Rat.intCast_mul,← e,← f,← hFG]
    grind
   have h:=congrArg Int.natAbs (Rat.intCast_inj.1 h)
   rw [Int.natAbs_mul,Int.natAbs_natCast] at h
   have h2:z.natAbs*1≤z.natAbs*G:=Nat.mul_le_mul_left _ hG0
   omega
  exact ⟨mulF q1 f1,absT (ht (zb f1 m1 v1)),mulF q2 f2,absT (ht (zb f2 m2 v2)),mulF q3 f3,absT (ht (zb f3 m3 v3)),sZ (by decide)⟩
abbrev nine:Rat:=((999999999:Int):Rat)
theorem cmp_nine (a:Nat):decide ((0:Int)<cmpR ((a:Int):Rat) nine)=decide (999999999<a):=by
 have e:(((a:Int):Rat)-nine).num=(a:Int)-999999999:=by
  rw [← Rat.intCast_sub]
  rfl
 rw [decide_eq_decide]
 rcases sign_cmp ((a:Int):Rat) nine with ⟨h1,h2⟩|⟨h1,h2⟩|⟨h1,h2⟩
 all_goals
  rw [e] at h2
  rw [h1]
  omega
theorem kW {z:Int} (h:Sz z):decide ((0:Int)<cmpR ((z.natAbs:Int):Rat) nine)=false:=by
 rw [cmp_nine,decide_eq_false_iff_not]
 have:=h.1
 have:=h.2
 omega
theorem zN {z:Int} (h:¬ Sz z):decide ((0:Int)<cmpR ((z.natAbs:Int):Rat) nine)=true:=by
 rw [cmp_nine,decide_eq_true_eq]
 have h:¬ (-999999999≤z∧z≤999999999):=h
 omega
abbrev okR (z1 z2 z3:Int) (e:Rat):AV Kn := .tup [.ag [.lit (.int .i64 z1),.lit (.int .i64 z2),.lit (.int .i64 z3),cH (writeB e)],.sc (.lit (.int .i64 0))]
abbrev largeR:AV Kn := .tup [.ag [.lit (.int .i64 0),.lit (.int .i64 0),.lit (.int .i64 0),.lit (.string ⟨#[]⟩)],.sc (.lit (.int .i64 4))]
section
variable {n1 n2 n3 d F:Rat} {z1 z2 z3:Int}
theorem cmpT {z:Int} {k:Nat} (h:z.natAbs<10^k) (hk0:0<k) (hk:k≤10000):jF 124 [tx (wN z.natAbs),tx (writeB nine)] (.fv (.sc (eV (cmpR ((z.natAbs:Int):Rat) nine)))) :=
 fits_isI (refCmpF (zsT h hk hk0) ((vF (z:=999999999) (k:=9) (by decide) (by omega)).zs (by omega)))
theorem mkOk (h:MkN n1 n2 n3 d F z1 z2 z3) (s1:Sz z1) (s2:Sz z2) (s3:Sz z3) (w:Wr (d*F)):jF 50 [vS n1 n2 n3,tx (writeB d)] (okR z1 z2 z3 (d*F)):=by
 obtain ⟨b1,b2,b3,c1,c2,c3,e1,e2,e3,k1,k2,k3,p1,p2,p3,w1,w2,w3,t1,t2,t3,ha⟩:=h.a
 have n9:∀ {z:Int},Sz z→z.natAbs<10^9:=fun {z} h=>by have:=h.1;have:=h.2;omega
 exact mkFine ha h.b (cmpT (n9 s1) (by omega) (by omega)) (kW s1) (fV (n9 s1)) (cmpT (n9 s2) (by omega) (by omega)) (kW s2) (fV (n9 s2)) (cmpT (n9 s3) (by omega) (by omega)) (kW s3) (fV (n9 s3)) (refLargeF w)
theorem mkBig {k:Nat} (h:MkN n1 n2 n3 d F z1 z2 z3) (hs:¬ (Sz z1∧Sz z2∧Sz z3)) (l1:z1.natAbs<10^k) (l2:z2.natAbs<10^k) (l3:z3.natAbs<10^k) (hk0:0<k) (hk:k≤10000) :
 jF 50 [vS n1 n2 n3,tx (writeB d)] largeR:=by
 obtain ⟨b1,b2,b3,c1,c2,c3,e1,e2,e3,k1,k2,k3,p1,p2,p3,w1,w2,w3,t1,t2,t3,ha⟩:=h.a
 have n9:∀ {z:Int},Sz z→z.natAbs<10^9:=fun {z} h=>by have:=h.1;have:=h.2;omega
 refine mkBigW ha h.b (cmpT l1 hk0 hk) ?_
 by_cases s1:Sz z1
 ·refine .inr ⟨_,_,kW s1,fV (n9 s1),cmpT l2 hk0 hk,?_⟩
  by_cases s2:Sz z2
  ·exact .inr ⟨_,_,kW s2,fV (n9 s2),cmpT l3 hk0 hk,.inl (zN fun s3=>hs ⟨s1,s2,s3⟩)⟩
  ·exact .inl (zN s2)
 ·exact .inl (zN s1)
end
abbrev Eh (z:Int):Prop:=z=0∨z=1∨z=3∨z=4∨z=6
theorem ev_eh {z:Int} (h:Ev z):Eh z:=by rcases h with h|h|h <;> simp [Eh,h]
theorem first2Eh {T:TypeId} {x y z:Int} (hx:Eh x) (hy:Eh y) (hz:f2 x y=z):jF 68 [.fv (.nsl 2 T [lz x,lz y])] (it z):=by
 rcases hx with rfl|rfl|rfl|rfl|rfl
 ·have hz:y=z:=hz
  subst hz
  rcases hy with rfl|rfl|rfl|rfl|rfl <;> (refine lA Tryz.func68 (by kernel_rfl) fun w00=>?_;exact kret Tryz.func68 (by kernel_rfl))
 all_goals
  have hz:_=z:=hz
  subst hz
  refine lA Tryz.func68 (by kernel_rfl) fun w00=>?_
  exact jR Tryz.func68
theorem lit_isU {f:FuncId} {l:List (AV Kn)} {x:Int} (h:jF f l (.fv (.sc (.lit (.int .u64 x))))):jF f l (.fv (.sc (isU x))):=Fits.res h fun β v w k=>by
 have:=aM k
 rw [this];exact bE
theorem une_run {o:Oper} {ρ:Operand→Value} {w:World} {x y:Operand} {a b:Int} {r:Bool} {T T' : TypeId} (ho:o.op = .binOp .neq T x y T') (hx:ρ x = .int .u64 a) (hy:ρ y = .int .u64 b) (h:(a != b)=r) :
 (execOp ρ o).run Tryz.prog w = .ok (.value (.bool r)) w:=by
 simp only [execOp,ho,hx,hy]
 refine bJ ?_
 rw [← h]
 exact bL (by kernel_rfl) w
section
variable {a b c z:Int}
theorem hk_values (k:Int) (h:Ev k):Eh (hkZ a b c k):=by
 unfold hkZ
 split
 ·simp [Eh]
 split
 ·simp [Eh]
 split
 ·simp [Eh]
 ·exact ev_eh h
theorem hk_first (k:Int):f2 (hkZ a b c 0) k=hkZ a b c k:=by
 unfold f2 hkZ
 split
 ·split <;> simp_all
 split
 ·split <;> simp_all
 split
 ·split <;> simp_all
 ·simp
theorem pG (hz:hkZ a b c 0=z):jF 93 [iv a b c] (it z):=by
 unfold hkZ at hz
 refine Fits.args (l := [i3 a b c]) ?_ fun β vs w ⟨v,r,e,h,hr⟩=>⟨v,r,e,iv_i3 β v w h,hr⟩
 by_cases h0:a=0∧b=0∧c=0
 ·rw [if_pos h0] at hz
  subst hz
  refine jG Tryz.func93 fun w00=>?_
  refine kz3 (.tmp 6) (.tmp 7) a b c true (by simp [h0]) ?_
  exact jR Tryz.func93
 rw [if_neg h0] at hz
 have w:∀ {x:Int},¬ Bg x→x.natAbs<aD:=fun h=>by unfold Bg at h;rw [aL];omega
 have hg:∀ {x y:Nat},x<aD→y<aD→Nat.gcd x y<aD:=fun {x y} hx hy=>by
  rcases Nat.eq_zero_or_pos y with e|e
  ·rw [e,Nat.gcd_zero_right];exact hx
  ·exact Nat.lt_of_le_of_lt (Nat.gcd_le_right _ e) hy
 refine jG Tryz.func93 fun w00=>?_
 refine kz3 (.tmp 6) (.tmp 7) a b c false (by rw [Bool.eq_false_iff];simp;omega) ?_
 have e3:Bg a∨Bg b∨Bg c→z=3:=fun h=>by rw [← hz,if_pos h]
 by_cases a1:a < -999999999
 ·obtain rfl:=e3 (.inl (.inl a1))
  refine klt (.tmp 13) (.const (.int .i64 (-999999999))) a (-999999999) true _ aZ (decide_eq_true a1) ?_
  exact jR Tryz.func93
 refine klt (.tmp 13) (.const (.int .i64 (-999999999))) a (-999999999) false _ aZ (decide_eq_false a1) ?_
 by_cases a2:999999999<a
 ·obtain rfl:=e3 (.inl (.inr a2))
  refine vC (.tmp 16) (.const (.int .i64 999999999)) a 999999999 true _ aZ (decide_eq_true a2) ?_
  exact jR Tryz.func93
 refine vC (.tmp 16) (.const (.int .i64 999999999)) a 999999999 false _ aZ (decide_eq_false a2) ?_
 have ha:¬ Bg a:=by unfold Bg;omega
 have g1:=dB (a:=0) (b:=a.natAbs) (by rw [aL];omega) (w ha)
 have l1:Nat.gcd 0 a.natAbs<aD:=hg (by rw [aL];omega) (w ha)
 obtain ⟨x1,hx1⟩:∃ x1,Nat.gcd 0 a.natAbs=x1:=⟨_,rfl⟩
 rw [hx1] at g1 l1
 refine kneg 21 a (by constructor <;> omega) (by constructor <;> omega) ?_
 refine kabs 20 22 a ?_
 refine kcvu 23 a.natAbs (by omega) ?_
 refine jC 161 [.fv (.sc (.lit (.int .u64 ((0:Nat):Int)))),.fv (.sc (.lit (.int .u64 (a.natAbs:Int))))] (g1) ?_
 by_cases b1:b < -999999999
 ·obtain rfl:=e3 (.inr (.inl (.inl b1)))
  refine klt (.tmp 13) (.const (.int .i64 (-999999999))) b (-999999999) true _ aZ (decide_eq_true b1) ?_
  exact jR Tryz.func93
 refine klt (.tmp 13) (.const (.int .i64 (-999999999))) b (-999999999) false _ aZ (decide_eq_false b1) ?_
 by_cases b2:999999999<b
 ·obtain rfl:=e3 (.inr (.inl (.inr b2)))
  refine vC (.tmp 16) (.const (.int .i64 999999999)) b 999999999 true _ aZ (decide_eq_true b2) ?_
  exact jR Tryz.func93
 refine vC (.tmp 16) (.const (.int .i64 999999999)) b 999999999 false _ aZ (decide_eq_false b2) ?_
 have hb:¬ Bg b:=by unfold Bg;omega
 have g2:=dB l1 (w hb)
 have l2:=hg l1 (w hb)
 obtain ⟨x2,hx2⟩:∃ x2,Nat.gcd x1 b.natAbs=x2:=⟨_,rfl⟩
 rw [hx2] at g2 l2
 refine kneg 21 b (by constructor <;> omega) (by constructor <;> omega) ?_
 refine kabs 20 22 b ?_
 refine kcvu 23 b.natAbs (by omega) ?_
 refine jC 161 [.fv (.sc (.lit (.int .u64 (x1:Int)))),.fv (.sc (.lit (.int .u64 (b.natAbs:Int))))] (g2) ?_
 by_cases c1:c < -999999999
 ·obtain rfl:=e3 (.inr (.inr (.inl c1)))
  refine klt (.tmp 13) (.const (.int .i64 (-999999999))) c (-999999999) true _ aZ (decide_eq_true c1) ?_
  exact jR Tryz.func93
 refine klt (.tmp 13) (.const (.int .i64 (-999999999))) c (-999999999) false _ aZ (decide_eq_false c1) ?_
 by_cases c2:999999999<c
 ·obtain rfl:=e3 (.inr (.inr (.inr c2)))
  refine vC (.tmp 16) (.const (.int .i64 999999999)) c 999999999 true _ aZ (decide_eq_true c2) ?_
  exact jR Tryz.func93
 refine vC (.tmp 16) (.const (.int .i64 999999999)) c 999999999 false _ aZ (decide_eq_false c2) ?_
 have hc:¬ Bg c:=by unfold Bg;omega
 have g3:=lit_isU (dB l2 (w hc))
 obtain ⟨x3,hx3⟩:∃ x3,Nat.gcd x2 c.natAbs=x3:=⟨_,rfl⟩
 rw [hx3] at g3
 have e:Int.gcd (Int.gcd a b:Int) c=x3:=by
  rw [← hx3,← hx2,← hx1,Nat.gcd_zero_left]
  rfl
 rw [if_neg (by rintro (h|h|h);exact ha h;exact hb h;exact hc h),e] at hz
 refine kneg 21 c (by constructor <;> omega) (by constructor <;> omega) ?_
 refine kabs 20 22 c ?_
 refine kcvu 23 c.natAbs (by omega) ?_
 refine jC 161 [.fv (.sc (.lit (.int .u64 (x2:Int)))),.fv (.sc (.lit (.int .u64 (c.natAbs:Int))))] (g3) ?_
 by_cases h1:x3=1
 ·rw [if_neg (fun h=>h h1)] at hz
  subst hz
  refine jK (.binOp .neq 151 (.tmp 27) (.const (.int .u64 1)) 151) (.tmp 27) (.const (.int .u64 1)) (.fv (.sc (isU (x3:Int)))) (.fv (.sc (.lit (.int .u64 1)))) (bl false) (fun ρ o β w ho hx hy=>⟨_,une_run ho (aO hx) (aM hy) (by rw [h1];rfl),aX rfl⟩) ?_
  exact jR Tryz.func93
 ·rw [if_pos h1] at hz
  subst hz
  refine jK (.binOp .neq 151 (.tmp 27) (.const (.int .u64 1)) 151) (.tmp 27) (.const (.int .u64 1)) (.fv (.sc (isU (x3:Int)))) (.fv (.sc (.lit (.int .u64 1)))) (bl true) (fun ρ o β w ho hx hy=>⟨_,une_run ho (aO hx) (aM hy) (by rw [bne_iff_ne];omega),aX rfl⟩) ?_
  exact jR Tryz.func93
end
section
variable {n1 n2 n3 z:Int} {s a b c:ByteArray}
abbrev M3 (a b c:Int):Prop:=rC a∧rC b∧rC c
abbrev kh (n1 n2 n3:Int) (s:ByteArray):Int:=hkZ n1 n2 n3 (bQ s)
theorem kh_eh:Eh (kh n1 n2 n3 s):=hk_values _ (cQ s)
theorem tP (m:M3 n1 n2 n3) (h:Rb s) (hz:kh n1 n2 n3 s=z):jX 30 [hL n1 n2 n3 s] (.tup [.ag [nb n1,nb n2,nb n3,nb (dD s)],.sc (lz z)]):=by
 refine jY Tryz.func30 fun w00 hI=>?_
 refine jW hI 67 [tx s] (tM h rfl) ?_
 refine jC 82 [iv n1 n2 n3] (gS m.1 m.2.1 m.2.2) ?_
 refine jC 93 [iv n1 n2 n3] (pG rfl) ?_
 refine jC 68 [.fv (.nsl 2 32 [lz (hkZ n1 n2 n3 0),lz (bQ s)])] (first2Eh (hk_values 0 (.inl rfl)) (ev_eh (cQ s)) ((hk_first _).trans hz)) ?_
 exact jR Tryz.func30
end
abbrev noH (z:Int):AV Kn := .tup [.ag [.lit (.int .i64 0),.lit (.int .i64 0),.lit (.int .i64 0),.lit (.string ⟨#[]⟩)],.sc (lz z)]
section
variable {P:Program} {f:FuncId}
theorem fitsAS_of {fn:Func} {n:Nat} {T:TypeId} {l:List (Seg Kn)} {u x:AV Kn} (hfn:P.funcs[f]?=some fn) (hb:fn.body.isSome=true) (hn:decide (2≤fn.ntmps)=true) (hx:x.noPtr=true) (hl:l.all Seg.noPtr=true) (hu:u.noPtr=true)
 (h:∀ w00,Ok P f w00 (fun v w=>x.holds [] v w) (.items [.code (fn.body.getD .skip)] { slots := [u,.fv (.sc (.slc 0 0 n n))]++List.replicate (fn.ntmps-2) .un,blocks := [(T,l)],ro:=1 })):Fits P f [u,.fv (.nsl n T l)] x:=by
 rintro β w vs ⟨v,r,rfl,h1,v2,r2,rfl,⟨g,cs,rfl,hg,hcs⟩,h3⟩
 have h1' : u.holds [g] v w:=AV.noPtr_holds hu h1
 have h3' : r2 = []:=h3
 subst h3'
 have hb2:fn.body=some (fn.body.getD .skip):=by
  cases hb2:fn.body with
  | none=>rw [hb2] at hb;cases hb
  | some c=>rfl
 refine (eM (w00:=w) (Out:=fun v w=>x.holds [] v w) hfn hb2 [u,.fv (.sc (.slc 0 0 n n))] [(T,l)] [g] [v,.slice (some ⟨g,0,none⟩) n n] (fn.ntmps-2) (by simp at hn;simp;omega) ⟨_,_,rfl,h1',_,[],rfl,⟨g,rfl,rfl⟩,rfl⟩ rfl (by simp)
  (fun k T' l' hk=>?_) (by simp;exact lt_of_block hg) (h w).good).mono ?_
 ·match k,hk with
  | 0,hk =>
    simp at hk
    obtain ⟨rfl,rfl⟩:=hk
    exact ⟨g,cs,rfl,hg,hcs.noPtr hl⟩
 ·rintro e w' ⟨v,rfl,hb,ho⟩
  exact ⟨v,rfl,hb,AV.noPtr_holds hx ho⟩
end
theorem kgoAS {f:FuncId} {fn:Func} {n:Nat} {T:TypeId} {l:List (Seg Kn)} {u x:AV Kn} (hfn:Tryz.prog.funcs[f]?=some fn) (hc:(fn.body.isSome,decide (2≤fn.ntmps),x.noPtr,l.all Seg.noPtr,u.noPtr)=(true,true,true,true,true))
 (h:∀ w00,Ok Tryz.prog f w00 (fun v w=>x.holds [] v w) (cG Tryz.prog 1000 (.items [.code (fn.body.getD .skip)] { slots := [u,.fv (.sc (.slc 0 0 n n))]++List.replicate (fn.ntmps-2) .un,blocks := [(T,l)],ro:=1 }))):jF f [u,.fv (.nsl n T l)] x:=by
 simp only [Prod.mk.injEq] at hc
 exact fitsAS_of hfn hc.1 hc.2.1 hc.2.2.1 hc.2.2.2.1 hc.2.2.2.2 fun w00=>Ok.go (by kernel_rfl) lU 1000 (h w00)
abbrev lo (n:Int) (s:ByteArray):Bool:=decide (n<(s.size:Nat))
section
variable {a b c d x y u:ByteArray} {n:Int} {T:TypeId} {r:Bool}
theorem checkRowAny {za zb zc z:Int} (h1:jF 45 [tx a] (it za)) (h2:jF 45 [tx b] (it zb)) (h3:jF 45 [tx c] (it zc)) (e1:Ev za) (e2:Ev zb) (e3:Ev zc) (hz:f3 za zb zc=z) :
 jF 107 [.fv (.nsl 3 T [cH a,cH b,cH c])] (it z):=by
 rcases e1 with rfl|rfl|rfl
 ·rcases e2 with rfl|rfl|rfl
  ·have hz:zc=z:=hz
   subst hz
   rcases e3 with rfl|rfl|rfl <;> (refine lA Tryz.func107 (by kernel_rfl) fun w00=>?_;refine eI 45 [tx a] (h1) (by kernel_rfl) Tryz.call45 ?_;refine eI 45 [tx b] (h2) (by kernel_rfl) Tryz.call45 ?_;refine eI 45 [tx c] (h3) (by kernel_rfl) Tryz.call45 ?_;exact kret Tryz.func107 (by kernel_rfl))
  all_goals
   have hz:_=z:=hz
   subst hz
   refine lA Tryz.func107 (by kernel_rfl) fun w00=>?_
   refine jC 45 [tx a] (h1) ?_
   refine jC 45 [tx b] (h2) ?_
   exact jR Tryz.func107
 all_goals
  have hz:_=z:=hz
  subst hz
  refine lA Tryz.func107 (by kernel_rfl) fun w00=>?_
  refine jC 45 [tx a] (h1) ?_
  exact jR Tryz.func107
abbrev Sl (s:ByteArray):Prop:=s.size≤40
abbrev Sl3 (a b c:ByteArray):Prop:=Sl a∧Sl b∧Sl c
theorem Sl.rb {s:ByteArray} (h:Sl s):Rb s:=by have h:s.size≤40:=h;show s.size<_;omega
theorem Sl3.rb (h:Sl3 a b c):Rb3 a b c:=⟨Sl.rb h.1,Sl.rb h.2.1,Sl.rb h.2.2⟩
theorem jV {z:Int} (h:Sl3 a b c) (hz:c3 a b c=z):jF 41 [t3 a b c] (it z):=by
 have h1:a.size≤40:=h.1
 have h2:b.size≤40:=h.2.1
 have h3:c.size≤40:=h.2.2
 refine jG Tryz.func41 fun w00=>?_
 refine jC 107 [.fv (.nsl 3 22 [cH a,cH b,cH c])] (checkRowAny (vB (by omega) rfl) (vB (by omega) rfl) (vB (by omega) rfl) (cQ _) (cQ _) (cQ _) hz) ?_
 exact jR Tryz.func41
theorem scaleR3 (h1:jF 119 [tx a,tx b] (tx x)) (h2:jF 119 [tx a,tx c] (tx y)) (h3:jF 119 [tx a,tx d] (tx u)):jF 118 [tx a,t3 b c d] (t3 x y u):=by
 refine jG Tryz.func118 fun w00=>?_
 refine jC 119 [tx a,tx b] (h1) ?_
 refine jC 119 [tx a,tx c] (h2) ?_
 refine jC 119 [tx a,tx d] (h3) ?_
 exact jR Tryz.func118
end
section
variable {a b c x y u p q r:Rat} {s:ByteArray} {z:Int} {t:Bool}
theorem write_inj {p q:Rat} (hp:Wr p) (h:writeB p=writeB q) (hq:Wr q):p=q:=by
 have h1:=(fU p).1
 have h2:=(fU q).1
 have h3:=(fU p).2
 have h4:=(fU q).2
 rw [h] at h1 h3
 have hb:bB p=bB q:=h3.symm.trans h4
 obtain ⟨c1,c2,c3⟩:=tE p
 obtain ⟨d1,d2,d3⟩:=tE q
 rw [hb] at c1 c2 c3
 have hn:p.num.natAbs=q.num.natAbs:=mM (c1.symm.trans d1)
 have hd:p.den=q.den:=by
  by_cases e:p.den=1
  ·by_cases e' : q.den=1
   ·rw [e,e']
   ·exact absurd e (c3.1 (d3.2 e'))
  ·have e':=d3.1 (c3.2 e)
   exact mM ((c2 e).symm.trans (d2 e'))
 have hs:decide (p.num<0)=decide (q.num<0):=h1.symm.trans h2
 refine Rat.ext ?_ hd
 by_cases g:p.num<0
 ·have g' : q.num<0:=by rw [decide_eq_true g] at hs;exact of_decide_eq_true hs.symm
  omega
 ·have g' : ¬ q.num<0:=by rw [decide_eq_false g] at hs;exact of_decide_eq_false hs.symm
  omega
end
theorem slwN {n:Nat} {s:ByteArray} (h:s.size≤n) (hn:1≤n) (hz:bQ s=0):∃ q,s=writeB q∧Bq n q:=by
 obtain ⟨q,rfl,_,_⟩:=rN hz
 rw [gY] at h
 have ht:(decB q.num.natAbs).size≤(aN q.num).size:=by
  unfold aN
  split
  ·rw [ByteArray.size_append];omega
  ·exact aR _
 refine ⟨q,rfl,bq_of ⟨by omega,?_⟩⟩
 by_cases hd:q.den=1
 ·rw [hd,dec1];exact hn
 ·rw [if_neg hd] at h;omega
theorem slwN3 {n:Nat} {a b c:ByteArray} (h1:a.size≤n) (h2:b.size≤n) (h3:c.size≤n) (hn:1≤n) (hz:c3 a b c=0):∃ p q r,a=writeB p∧b=writeB q∧c=writeB r∧Bq n p∧Bq n q∧Bq n r:=by
 obtain ⟨k1,k23⟩:=tN hz
 obtain ⟨k2,k3⟩:=tN k23
 obtain ⟨p,e1,q1⟩:=slwN h1 hn k1
 obtain ⟨q,e2,q2⟩:=slwN h2 hn k2
 obtain ⟨r,e3,q3⟩:=slwN h3 hn k3
 exact ⟨p,q,r,e1,e2,e3,q1,q2,q3⟩
abbrev Ss (s:ByteArray):Prop:=s.size≤30
abbrev Ss3 (a b c:ByteArray):Prop:=Ss a∧Ss b∧Ss c
section
variable {s a b c x y u:ByteArray}
theorem Ss.sl (h:Ss s):Sl s:=by have h:s.size≤30:=h;show s.size≤40;omega
theorem Ss3.sl (h:Ss3 a b c):Sl3 a b c:=⟨Ss.sl h.1,Ss.sl h.2.1,Ss.sl h.2.2⟩
end
section
variable {n1 n2 n3:Int} {d p1 p2 p3 v1 v2 v3 e:Rat} {k:Nat}
structure Qh (n1 n2 n3:Int) (d p1 p2 p3:Rat):Prop where
 m1:rC n1
 m2:rC n2
 m3:rC n3
 q1:Bq 10 (n1:Rat)
 q2:Bq 10 (n2:Rat)
 q3:Bq 10 (n3:Rat)
 d:Bq 30 d
 p1:Bq 30 p1
 p2:Bq 30 p2
 p3:Bq 30 p3
abbrev exR (n1 n2 n3:Int) (d p1 p2 p3:Rat):Rat:=dt (n1:Rat) n2 n3 p1 p2 p3-d
abbrev nnR (n1 n2 n3:Int):Rat:=dt (n1:Rat) n2 n3 n1 n2 n3
theorem Qh.ex (h:Qh n1 n2 n3 d p1 p2 p3):Bq 153 (exR n1 n2 n3 d p1 p2 p3):=(Bq.dt h.q1 h.q2 h.q3 h.p1 h.p2 h.p3 (n:=122) (by omega)).sub h.d
theorem Qh.nn (h:Qh n1 n2 n3 d p1 p2 p3):Bq 62 (nnR n1 n2 n3):=Bq.dt h.q1 h.q2 h.q3 h.q1 h.q2 h.q3 (by omega)
abbrev ft (n1 n2 n3:Int) (d p1 p2 p3:Rat) (p:Rat) (n:Int):Rat:=p-exR n1 n2 n3 d p1 p2 p3/nnR n1 n2 n3*n
theorem Qh.way (h:Qh n1 n2 n3 d p1 p2 p3):Bq 215 (exR n1 n2 n3 d p1 p2 p3/nnR n1 n2 n3):=h.ex.div h.nn
theorem Qh.f1 (h:Qh n1 n2 n3 d p1 p2 p3):Bq 256 (ft n1 n2 n3 d p1 p2 p3 p1 n1):=h.p1.sub (h.way.mul h.q1)
theorem Qh.f2 (h:Qh n1 n2 n3 d p1 p2 p3):Bq 256 (ft n1 n2 n3 d p1 p2 p3 p2 n2):=h.p2.sub (h.way.mul h.q2)
theorem Qh.f3 (h:Qh n1 n2 n3 d p1 p2 p3):Bq 256 (ft n1 n2 n3 d p1 p2 p3 p3 n3):=h.p3.sub (h.way.mul h.q3)
end
theorem aAg {n1 n2 n3 z:Int} {s:ByteArray} (hs:s.size≤9223372036854775807) (hz:kh n1 n2 n3 s=z):jF 10 [hL n1 n2 n3 s] (it z) :=
 Fits.res (Fits.args (checkHalfF (k:=bQ s) (kn_I (uX hs)) hz) fun β vs w ⟨v,r,e,h1,hr⟩=>⟨v,r,e,hL_A β v w h1,hr⟩) fun β v w k=>by
  rw [aO k];exact aX rfl
theorem hk_zero {a b c k:Int} (h:hkZ a b c k=0):¬ (a=0∧b=0∧c=0)∧¬ Bg a∧¬ Bg b∧¬ Bg c∧hkZ a b c 0=0∧k=0:=by
 unfold hkZ at h ⊢
 split at h
 ·exact absurd h (by decide)
 rename_i h0
 split at h
 ·exact absurd h (by decide)
 rename_i h1
 split at h
 ·exact absurd h (by decide)
 rename_i h2
 exact ⟨h0,fun e=>h1 (.inl e),fun e=>h1 (.inr (.inl e)),fun e=>h1 (.inr (.inr e)),by rw [if_neg h0,if_neg h1,if_neg h2],h⟩
abbrev nH:AV Kn := .fv (.ag [.lit (.int .i64 0),.lit (.int .i64 0),.lit (.int .i64 0),.lit (.string ⟨#[]⟩)])
section
variable {f:FuncId} {w00:World} {Out:Value→World→Prop} {c:Cfg Kn}
theorem kheq (x y:Operand) (a b d:Int) (s:ByteArray) (hg:Ok Tryz.prog f w00 Out (cG Tryz.prog 1000 (c.give (bl true))))
 (hc:(c.op.map fun o=>o.op,c.okT (bl true),c.ev x,c.ev y)=(some (.binOp .eql 29 x y 29),true,hL a b d s,hL a b d s):=by kernel_rfl):Ok Tryz.prog f w00 Out c :=
 qA (.binOp .eql 29 x y 29) x y _ _ (bl true) hc (by simp [Op.operands]) (by simp [Op.operands]) (fun ρ o β w ho hx hy=>⟨_,agg_eq (by kernel_rfl) (equalHf a b d s w) ho (hL_is hx) (hL_is hy),aX rfl⟩) hg
end
theorem planeOk {a b c:Int} {s:ByteArray}:jF 11 [hL a b c s,it 0,it 0,hL a b c s] (bl true):=by
 refine jG Tryz.func11 fun w00=>?_
 refine kheq (.tmp 22) (.tmp 23) a b c s ?_
 exact jR Tryz.func11
abbrev oH (a b c:Int) (t:ByteArray) (e:Int):AV Kn := .tup [.ag [lz a,lz b,lz c,cH t],.sc (lz e)]
def Oz (a b c:Int) (t:ByteArray) (e:Int):Prop:=e=0∨(e=4∨e=6∨e=7)∧a=0∧b=0∧c=0∧t=⟨#[]⟩
theorem noH_oH {e:Int} (β:List Nat) (v:Value) (w:World) (h:(noH e).holds β v w):(oH 0 0 0 ⟨#[]⟩ e).holds β v w:=by
 obtain ⟨vs,rfl,u,r,rfl,h1,h2⟩:=h
 obtain ⟨cs,rfl,x1,r1,rfl,k1,x2,r2,rfl,k2,x3,r3,rfl,k3,x4,r4,rfl,k4,k5⟩:=h1
 exact ⟨_,rfl,_,_,rfl,⟨_,rfl,_,_,rfl,k1,_,_,rfl,k2,_,_,rfl,k3,_,_,rfl,k4.1,k5⟩,h2⟩
abbrev Bh (z:Int):Prop:=z=1∨z=3∨z=4∨z=6∨z=7∨z=15
theorem planeBh {z:Int} (h:Bh z):jF 11 [nH,it z,it z,nH] (bl true):=by
 rcases h with rfl|rfl|rfl|rfl|rfl|rfl
 all_goals
  refine jG Tryz.func11 fun w00=>?_
  exact jR Tryz.func11
theorem fits_isI3 {f:FuncId} {a b d x:AV Kn} {z:Int} (h:jF f [a,b,it z,d] x):jF f [a,b,.fv (.sc (eV z)),d] x:=fun β w vs hv=>by
 obtain ⟨v1,r1,rfl,h1,v2,r2,rfl,h2,v3,r3,rfl,h3,v4,r4,rfl,h4,h5⟩:=hv
 exact h β w _ ⟨v1,_,rfl,h1,v2,_,rfl,h2,v3,_,rfl,by rw [aO h3];exact aX rfl,v4,_,rfl,h4,h5⟩
theorem oH_nH {t:ByteArray} (ht:t=⟨#[]⟩) (β:List Nat) (v:Value) (w:World) (h:(hL 0 0 0 t).holds β v w):nH.holds β v w:=by
 subst ht
 obtain ⟨cs,rfl,x1,r1,rfl,k1,x2,r2,rfl,k2,x3,r3,rfl,k3,x4,r4,rfl,k4,k5⟩:=h
 exact ⟨_,rfl,_,_,rfl,k1,_,_,rfl,k2,_,_,rfl,k3,_,_,rfl,⟨k4,rfl⟩,k5⟩
theorem planeOz {a b c e:Int} {t:ByteArray} (h:Oz a b c t e):jF 11 [hL a b c t,it e,it e,hL a b c t] (bl true):=by
 rcases h with rfl|⟨he,rfl,rfl,rfl,rfl⟩
 ·exact planeOk
 ·have hb:=planeBh (z:=e) (by rcases he with rfl|rfl|rfl <;> simp [Bh])
  intro β w vs hv
  obtain ⟨v1,r1,rfl,h1,v2,r2,rfl,h2,v3,r3,rfl,h3,v4,r4,rfl,h4,h5⟩:=hv
  exact hb β w _ ⟨v1,_,rfl,oH_nH rfl _ _ _ h1,v2,_,rfl,h2,v3,_,rfl,h3,v4,_,rfl,oH_nH rfl _ _ _ h4,h5⟩
theorem Bq.lf {k:Nat} {q:Rat} (h:Bq k q) (hk:k≤10000):Lf 13 q:=by
 obtain ⟨h1,h2⟩:=jJ (h.zs hk) (aR _)
 exact ⟨gT (by omega),gT (by omega)⟩
section
variable {q n1 n2 n3 d e F:Rat} {z1 z2 z3:Int}
theorem writeLargeF (hq:Lf 20 q) (hs:(decB q.num.natAbs).size≤1000000000) (h:¬ Wr q):jX 59 [num q] (noS 4):=by
 by_cases hn:(decB q.num.natAbs).size≤600
 ·have h1:decide ((600:Int)<((decB q.num.natAbs).size:Int))=false:=by rw [decide_eq_false_iff_not];omega
  have h2:decide ((600:Int)<((decB q.den).size:Int))=true:=by
   rw [decide_eq_true_eq]
   have:¬ (decB q.den).size≤600:=fun hd=>h ⟨hn,hd⟩
   omega
  refine jY Tryz.func59 fun w00 hI=>?_
  refine jW hI 150 [num q] (yR hq hs) ?_
  refine jC 151 [tx (overB q),lt ⟨#[45]⟩] (trimF uL) ?_
  refine jO 12 (decB q.num.natAbs) ?_
  refine jM 13 (decB q.num.natAbs).size 600 false h1 ?_
  refine jO 16 (decB q.den) ?_
  refine jM 17 (decB q.den).size 600 true h2 ?_
  exact jR Tryz.func59
 ·have h1:decide ((600:Int)<((decB q.num.natAbs).size:Int))=true:=by rw [decide_eq_true_eq];omega
  refine jY Tryz.func59 fun w00 hI=>?_
  refine jW hI 150 [num q] (yR hq hs) ?_
  refine jC 151 [tx (overB q),lt ⟨#[45]⟩] (trimF uL) ?_
  refine jO 12 (decB q.num.natAbs) ?_
  refine jM 13 (decB q.num.natAbs).size 600 true h1 ?_
  exact jR Tryz.func59
theorem refLargeBig (hz:Zs 10000 q) (h:¬ Wr q):jF 127 [tx (writeB q)] (it 4):=by
 have hl:=pC q.num
 have hs:(writeB q).size≤1000000000:=by have:=zs_len hz;omega
 have ht:(aN q.num).size≤1000000000:=by have:=(jJ hz (aR _)).1;omega
 by_cases hn:(decB q.num.natAbs).size≤600
 ·have hd:¬ (decB q.den).size≤600:=fun hd=>h ⟨hn,hd⟩
  refine jG Tryz.func127 fun w00=>?_
  refine jC 177 [tx (writeB q)] (aAe (numF hs)) ?_
  refine jC 123 [tx (aN q.num)] (aAe (absTF ht)) ?_
  refine jP 5 22 Tryz.underlying22 (decB q.num.natAbs) ?_
  refine jM 6 (decB q.num.natAbs).size 600 false (by rw [decide_eq_false_iff_not];omega) ?_
  refine jC 121 [tx (writeB q)] (aAe (denOfF hs)) ?_
  refine jP 10 22 Tryz.underlying22 (decB q.den) ?_
  refine jM 11 (decB q.den).size 600 true (by rw [decide_eq_true_eq];omega) ?_
  exact jR Tryz.func127
 ·refine jG Tryz.func127 fun w00=>?_
  refine jC 177 [tx (writeB q)] (aAe (numF hs)) ?_
  refine jC 123 [tx (aN q.num)] (aAe (absTF ht)) ?_
  refine jP 5 22 Tryz.underlying22 (decB q.num.natAbs) ?_
  refine jM 6 (decB q.num.natAbs).size 600 true (by rw [decide_eq_true_eq];omega) ?_
  exact jR Tryz.func127
theorem hWriteDF (l1:Lf 30 n1) (l2:Lf 30 n2) (l3:Lf 30 n3) (ld:Lf 38 d) (h0:¬ (n1=0∧n2=0∧n3=0)) (ed:d*bG n1 n2 n3=e) (le:Lf 20 e) (hs:(decB e.num.natAbs).size≤1000000000) (h:¬ Wr e):jX 37 [hf n1 n2 n3 d] largeH:=by
 have hR:=yV l1 l2 l3 ld h0
 rw [ed] at hR
 have cw:=writeLargeF le hs h
 refine jY Tryz.func37 fun w00 hI=>?_
 refine jC 103 [hf n1 n2 n3 d] (hR) ?_
 refine jW hI 59 [num e] (cw) ?_
 exact jR Tryz.func37
theorem mkD (h:MkN n1 n2 n3 d F z1 z2 z3) (s1:Sz z1) (s2:Sz z2) (s3:Sz z3) (hz:Zs 10000 (d*F)) (w:¬ Wr (d*F)):jF 50 [vS n1 n2 n3,tx (writeB d)] largeR:=by
 obtain ⟨b1,b2,b3,c1,c2,c3,e1,e2,e3,k1,k2,k3,p1,p2,p3,w1,w2,w3,t1,t2,t3,ha⟩:=h.a
 have n9:∀ {z:Int},Sz z→z.natAbs<10^9:=fun {z} h=>by have:=h.1;have:=h.2;omega
 exact mkBigW ha h.b (cmpT (n9 s1) (by omega) (by omega)) (.inr ⟨_,_,kW s1,fV (n9 s1),cmpT (n9 s2) (by omega) (by omega),.inr ⟨_,_,kW s2,fV (n9 s2),cmpT (n9 s3) (by omega) (by omega),.inr ⟨_,kW s3,fV (n9 s3),refLargeBig hz w⟩⟩⟩)
end
section
variable {m1 m2 m3 d:Rat}
theorem mk_any {k j:Nat} (q1:Bq k m1) (q2:Bq k m2) (q3:Bq k m3) (qd:Bq j d) (hk0:0<k) (hk:k≤2400) (hj:j≤2500) (h0:¬ (m1=0∧m2=0∧m3=0)) :
 ∃ (z1 z2 z3:Int) (t:ByteArray) (e:Int),Oz z1 z2 z3 t e∧jX 37 [hf m1 m2 m3 d] (oH z1 z2 z3 t e)∧jF 50 [vS m1 m2 m3,tx (writeB d)] (oH z1 z2 z3 t e):=by
 obtain ⟨z1,z2,z3,f1,f2,f3,hg,L,G,hL0,hG0,hw,hL,g1,g2,g3⟩:=zK h0
 have qw:=bq_whole q1 q2 q3 hG0 hw hL g1 g2 g3 h0
 have qe:=qd.mul qw
 have l:∀ {q:Rat} {k:Nat},Bq k q→k≤10000→Lf 30 q:=fun h hk=>(h.lf hk).mono (by decide)
 have ld:Lf 38 d:=(l qd (by omega)).mono (by decide)
 have hN:=mkN q1 q2 q3 qd hk0 (by omega) (by omega) h0 f1 f2 f3 hg
 have zb:∀ {p:Rat} {z:Int},Bq k p→bG m1 m2 m3*p=z→z.natAbs<10^(3*k+1+k):=fun {p z} hp e=>by
  have h:=qw.mul hp
  rw [e] at h
  simpa using h.1
 have le:Lf 20 (d*bG m1 m2 m3):=(qe.lf (by omega)).mono (by decide)
 have zs:=qe.zs (by omega)
 have se:(decB (d*bG m1 m2 m3).num.natAbs).size≤1000000000:=by have:=(jJ zs (aR _)).1;omega
 have bad:jX 37 [hf m1 m2 m3 d] largeH→jF 50 [vS m1 m2 m3,tx (writeB d)] largeR →
  ∃ (z1 z2 z3:Int) (t:ByteArray) (e:Int),Oz z1 z2 z3 t e∧jX 37 [hf m1 m2 m3 d] (oH z1 z2 z3 t e)∧jF 50 [vS m1 m2 m3,tx (writeB d)] (oH z1 z2 z3 t e):=fun a b =>
  ⟨0,0,0,⟨#[]⟩,4,.inr ⟨.inl rfl,rfl,rfl,rfl,rfl⟩,a.res noH_oH,b.res noH_oH⟩
 by_cases hr:Wr (d*bG m1 m2 m3)
 ·by_cases hs:Sz z1∧Sz z2∧Sz z3
  ·exact ⟨z1,z2,z3,_,0,.inl rfl,wZ ⟨l q1 (by omega),l q2 (by omega),l q3 (by omega),ld,h0,f1,f2,f3,rfl,hs.1,hs.2.1,hs.2.2,hr⟩,mkOk hN hs.1 hs.2.1 hs.2.2 hr⟩
  ·exact bad (hWriteLargeF ⟨l q1 (by omega),l q2 (by omega),l q3 (by omega),ld,h0,f1,f2,f3,rfl,hs,hr⟩) (mkBig (k:=3*k+1+k) hN hs (zb q1 f1) (zb q2 f2) (zb q3 f3) (by omega) (by omega))
 ·have hW:=hWriteDF (l q1 (by omega)) (l q2 (by omega)) (l q3 (by omega)) ld h0 rfl le se hr
  by_cases hs:Sz z1∧Sz z2∧Sz z3
  ·exact bad hW (mkD hN hs.1 hs.2.1 hs.2.2 zs hr)
  ·exact bad hW (mkBig (k:=3*k+1+k) hN hs (zb q1 f1) (zb q2 f2) (zb q3 f3) (by omega) (by omega))
end
section
variable {o1 o2 o3 x1 x2 x3 y1 y2 y3 z1 z2 z3:Rat}
theorem zO {r1 r2 r3:Bool} (h:Lm 31 x1 x2 x3 y1 y2 y3 z1 z2 z3) (e1:decide (dt x1 x2 x3 y1 y2 y3=0)=r1) (e2:decide (dt y1 y2 y3 z1 z2 z3=0)=r2) (e3:decide (dt z1 z2 z3 x1 x2 x3=0)=r3) :
 jF 158 [nV o1 o2 o3 x1 x2 x3 y1 y2 y3 z1 z2 z3] (bl (r1&&r2&&r3)):=by
 refine jG Tryz.func158 fun w00=>?_
 refine jC 36 [vc x1 x2 x3,vc y1 y2 y3] (nE h.x1 h.x2 h.x3 h.y1 h.y2 h.y3) ?_
 refine jC 79 [num (dt x1 x2 x3 y1 y2 y3)] (gF e1) ?_
 cases r1
 ·exact jR Tryz.func158
 refine jC 36 [vc y1 y2 y3,vc z1 z2 z3] (nE h.y1 h.y2 h.y3 h.z1 h.z2 h.z3) ?_
 refine jC 79 [num (dt y1 y2 y3 z1 z2 z3)] (gF e2) ?_
 cases r2
 ·exact jR Tryz.func158
 refine jC 36 [vc z1 z2 z3,vc x1 x2 x3] (nE h.z1 h.z2 h.z3 h.x1 h.x2 h.x3) ?_
 refine jC 79 [num (dt z1 z2 z3 x1 x2 x3)] (gF e3) ?_
 cases r3 <;> (exact kret Tryz.func158 (by kernel_rfl))
abbrev ax0 (a b c:Rat):Bool:=decide (a=0)&&decide (b=0)&&decide (c=0)
abbrev detR3 (x1 x2 x3 y1 y2 y3 z1 z2 z3:Rat):Rat:=dt x1 x2 x3 (y2*z3-y3*z2) (y3*z1-y1*z3) (y1*z2-y2*z1)
abbrev orB (x1 x2 x3 y1 y2 y3 z1 z2 z3:Rat):Bool:=decide (dt x1 x2 x3 y1 y2 y3=0)&&decide (dt y1 y2 y3 z1 z2 z3=0)&&decide (dt z1 z2 z3 x1 x2 x3=0)
def ckF (x1 x2 x3 y1 y2 y3 z1 z2 z3:Rat):Int :=
 if (ax0 x1 x2 x3 || ax0 y1 y2 y3 || ax0 z1 z2 z3)=true then 6 else if orB x1 x2 x3 y1 y2 y3 z1 z2 z3=true∧¬ nD (detR3 x1 x2 x3 y1 y2 y3 z1 z2 z3)<0 then 0 else 15
theorem tQ (q:Rat):nD q=1∨nD q=0∨nD q = -1:=by
 unfold nD bU
 split
 ·exact .inr (.inr rfl)
 ·split
  ·exact .inl rfl
  ·exact .inr (.inl rfl)
theorem checkFrAnyF {z:Int} (l:Lm 25 x1 x2 x3 y1 y2 y3 z1 z2 z3) (hz:ckF x1 x2 x3 y1 y2 y3 z1 z2 z3=z):jF 92 [nV o1 o2 o3 x1 x2 x3 y1 y2 y3 z1 z2 z3] (it z):=by
 have hor:=zO (o1:=o1) (o2:=o2) (o3:=o3) (Lm.mono l (by decide)) (x1:=x1) (x2:=x2) (x3:=x3) (y1:=y1) (y2:=y2) (y3:=y3) (z1:=z1) (z2:=z2) (z3:=z3) rfl rfl rfl
 obtain ⟨a1,a2,a3,b1,b2,b3,c1,c2,c3⟩:=l
 obtain ⟨s,hs⟩:∃ s,nD (detR3 x1 x2 x3 y1 y2 y3 z1 z2 z3)=s:=⟨_,rfl⟩
 have hsv:s=1∨s=0∨s = -1:=hs▸tQ _
 have hsF:jF 88 [num (dt x1 x2 x3 (y2*z3-y3*z2) (y3*z1-y1*z3) (y1*z2-y2*z1))] (it s):=by
  rw [← hs]
  exact signF
 obtain ⟨r1,e1⟩:∃ r,ax0 x1 x2 x3=r:=⟨_,rfl⟩
 obtain ⟨r2,e2⟩:∃ r,ax0 y1 y2 y3=r:=⟨_,rfl⟩
 obtain ⟨r3,e3⟩:∃ r,ax0 z1 z2 z3=r:=⟨_,rfl⟩
 obtain ⟨r4,e4⟩:∃ r,orB x1 x2 x3 y1 y2 y3 z1 z2 z3=r:=⟨_,rfl⟩
 unfold ckF at hz
 rw [e1,e2,e3,e4,hs] at hz
 have hor:jF 158 [nV o1 o2 o3 x1 x2 x3 y1 y2 y3 z1 z2 z3] (bl r4):=by rw [← e4];exact hor
 refine jG Tryz.func92 fun w00=>?_
 refine jC 62 [vc x1 x2 x3] (eU e1) ?_
 cases r1
 case true =>
  obtain rfl:z=6:=hz.symm
  exact jR Tryz.func92
 refine jC 62 [vc y1 y2 y3] (eU e2) ?_
 cases r2
 case true =>
  obtain rfl:z=6:=hz.symm
  exact jR Tryz.func92
 refine jC 62 [vc z1 z2 z3] (eU e3) ?_
 cases r3
 case true =>
  obtain rfl:z=6:=hz.symm
  exact jR Tryz.func92
 refine jC 158 _ (hor) ?_
 cases r4
 case false =>
  obtain rfl:z=15:=by rw [← hz];rfl
  exact jR Tryz.func92
 refine jC 63 [vc y1 y2 y3,vc z1 z2 z3] (yO (by repeat' (first|exact Lf.mono (by assumption) (by decide)|refine Lf.muln ?_ ?_ (by decide)|refine Lf.addn ?_ ?_ (by decide)|refine Lf.subn ?_ ?_ (by decide))) (by repeat' (first|exact Lf.mono (by assumption) (by decide)|refine Lf.muln ?_ ?_ (by decide)|refine Lf.addn ?_ ?_ (by decide)|refine Lf.subn ?_ ?_ (by decide))) (by repeat' (first|exact Lf.mono (by assumption) (by decide)|refine Lf.muln ?_ ?_ (by decide)|refine Lf.addn ?_ ?_ (by decide)|refine Lf.subn ?_ ?_ (by decide))) (by repeat' (first|exact Lf.mono (by assumption) (by decide)|refine Lf.muln ?_ ?_ (by decide)|refine Lf.addn ?_ ?_ (by decide)|refine Lf.subn ?_ ?_ (by decide))) (by repeat' (first|exact Lf.mono (by assumption) (by decide)|refine Lf.muln ?_ ?_ (by decide)|refine Lf.addn ?_ ?_ (by decide)|refine Lf.subn ?_ ?_ (by decide))) (by repeat' (first|exact Lf.mono (by assumption) (by decide)|refine Lf.muln ?_ ?_ (by decide)|refine Lf.addn ?_ ?_ (by decide)|refine Lf.subn ?_ ?_ (by decide)))) ?_
 refine jC 36 [vc x1 x2 x3,vc (y2*z3-y3*z2) (y3*z1-y1*z3) (y1*z2-y2*z1)] (nE (by repeat' (first|exact Lf.mono (by assumption) (by decide)|refine Lf.muln ?_ ?_ (by decide)|refine Lf.addn ?_ ?_ (by decide)|refine Lf.subn ?_ ?_ (by decide))) (by repeat' (first|exact Lf.mono (by assumption) (by decide)|refine Lf.muln ?_ ?_ (by decide)|refine Lf.addn ?_ ?_ (by decide)|refine Lf.subn ?_ ?_ (by decide))) (by repeat' (first|exact Lf.mono (by assumption) (by decide)|refine Lf.muln ?_ ?_ (by decide)|refine Lf.addn ?_ ?_ (by decide)|refine Lf.subn ?_ ?_ (by decide))) (by repeat' (first|exact Lf.mono (by assumption) (by decide)|refine Lf.muln ?_ ?_ (by decide)|refine Lf.addn ?_ ?_ (by decide)|refine Lf.subn ?_ ?_ (by decide))) (by repeat' (first|exact Lf.mono (by assumption) (by decide)|refine Lf.muln ?_ ?_ (by decide)|refine Lf.addn ?_ ?_ (by decide)|refine Lf.subn ?_ ?_ (by decide))) (by repeat' (first|exact Lf.mono (by assumption) (by decide)|refine Lf.muln ?_ ?_ (by decide)|refine Lf.addn ?_ ?_ (by decide)|refine Lf.subn ?_ ?_ (by decide)))) ?_
 refine jC 88 [num (dt x1 x2 x3 (y2*z3-y3*z2) (y3*z1-y1*z3) (y1*z2-y2*z1))] (hsF) ?_
 rcases hsv with rfl|rfl|rfl
 ·obtain rfl:z=0:=by rw [← hz];rfl
  exact jR Tryz.func92
 ·obtain rfl:z=0:=by rw [← hz];rfl
  exact jR Tryz.func92
 ·obtain rfl:z=15:=by rw [← hz];rfl
  exact jR Tryz.func92
end
structure F12 where
 o1:ByteArray
 o2:ByteArray
 o3:ByteArray
 x1:ByteArray
 x2:ByteArray
 x3:ByteArray
 y1:ByteArray
 y2:ByteArray
 y3:ByteArray
 z1:ByteArray
 z2:ByteArray
 z3:ByteArray
abbrev F12.av (f:F12):AV Kn := .fv (.ag [cH f.o1,cH f.o2,cH f.o3,cH f.x1,cH f.x2,cH f.x3,cH f.y1,cH f.y2,cH f.y3,cH f.z1,cH f.z2,cH f.z3])
structure F12.Rb (f:F12):Prop where
 o:Rb3 f.o1 f.o2 f.o3
 x:Rb3 f.x1 f.x2 f.x3
 y:Rb3 f.y1 f.y2 f.y3
 z:Rb3 f.z1 f.z2 f.z3
def F12.ct (f:F12):Int:=f2 (f2 (f2 (c3 f.o1 f.o2 f.o3) (c3 f.x1 f.x2 f.x3)) (c3 f.y1 f.y2 f.y3)) (c3 f.z1 f.z2 f.z3)
noncomputable def F12.ck (f:F12):Int:=if f.ct=0 then ckF (dD f.x1) (dD f.x2) (dD f.x3) (dD f.y1) (dD f.y2) (dD f.y3) (dD f.z1) (dD f.z2) (dD f.z3) else f.ct
theorem lF (s:ByteArray):Wr (dD s):=by
 by_cases h:bQ s=0
 ·exact (valB_ok h).2
 ·rw [valB_bad h]
  have h0:decB 0=⟨#[48]⟩:=dec0
  have h1:decB 1=⟨#[49]⟩:=dec1
  exact ⟨by show (decB 0).size≤600;rw [h0];decide,by show (decB 1).size≤600;rw [h1];decide⟩
theorem rv_of {a b c:ByteArray} {z:Int} (h:Rb3 a b c) (hz:c3 a b c=z) (W:World) (hG:Gl W):Calls Tryz.prog 61 #[.agg #[.string a,.string b,.string c]] W (Fr.RV (dD a) (dD b) (dD c) z W):=by
 refine (readVecAnyF h hz [] W [.agg #[.string a,.string b,.string c]] hG ⟨_,_,rfl,⟨[.string a,.string b,.string c],rfl,[.string a],_,rfl,rfl,[.string b],_,rfl,rfl,[.string c],_,rfl,rfl,rfl⟩,rfl⟩).mono ?_
 rintro e w' ⟨v,e1,e2,vs,rfl,u,r,rfl,h1,u2,r2,rfl,h2,h3⟩
 obtain ⟨k,rfl,h4⟩:=Fr.vc9 (sM.1 h1)
 have h5:[u2] = [.int .i64 z]:=h2.1
 injection h5 with h5
 rw [show r2 = [] from h3,h5] at e1
 exact ⟨k,e1,h4,e2⟩
def csF:CS Kn where
 size:=36
 cold:=true
 pred cs _:=cs.length=36∧∀ c∈cs,c.oneCell'=true∧Kn c=false
 stable _ _ _ h _:=h
 len _ _ h:=h.1
 one _ _ h c hc:=(h.2 c hc).1
 iscold _ _ _ h c hc:=(h.2 c hc).2
theorem aAh (f:F12) (h:f.Rb) {z:Int} (hz:f.ck=z) (h0:z≠0):jX 29 [f.av] (.tup [.ag [.sp csF],.sc (lz z)]):=by
 intro β w vs hG hv
 obtain ⟨v,rfl,cs,rfl,h1⟩:=dC hv
 have e:=Fr.holds_txt [f.o1,f.o2,f.o3,f.x1,f.x2,f.x3,f.y1,f.y2,f.y3,f.z1,f.z2,f.z3] cs h1
 rw [e]
 have lm:Lm 25 (dD f.x1) (dD f.x2) (dD f.x3) (dD f.y1) (dD f.y2) (dD f.y3) (dD f.z1) (dD f.z2) (dD f.z3) :=
  Lm.mono ⟨(lF _).lf,(lF _).lf,(lF _).lf,(lF _).lf,(lF _).lf,(lF _).lf,(lF _).lf,(lF _).lf,(lF _).lf⟩ (by decide)
 obtain ⟨zc,hzc⟩:∃ zc,ckF (dD f.x1) (dD f.x2) (dD f.x3) (dD f.y1) (dD f.y2) (dD f.y3) (dD f.z1) (dD f.z2) (dD f.z3)=zc:=⟨_,rfl⟩
 have hzz:(if f.ct=0 then zc else f.ct)=z:=by rw [← hz,← hzc];rfl
 refine (Fr.readFrame_gen f.o1 f.o2 f.o3 f.x1 f.x2 f.x3 f.y1 f.y2 f.y3 f.z1 f.z2 f.z3 _ _ _ _ _ _ _ _ _ _ _ _ _ _ _ _ f.ct zc (nS _ _ _) (nS _ _ _) (nS _ _ _) (nS _ _ _) rfl (rv_of h.o rfl) (rv_of h.x rfl) (rv_of h.y rfl) (rv_of h.z rfl) (fun _ W o x y z k0 k1 k2 k3=>?_) w hG).mono ?_
 ·refine (checkFrAnyF (z:=zc) lm hzc [] W [.agg (Fr.frL o x y z).toArray] ⟨_,_,rfl,Fr.fr_holds k0 k1 k2 k3,rfl⟩).mono ?_
  rintro e w' ⟨v,e1,e2,h1⟩
  have h5:[v] = [.int .i64 zc]:=h1.1
  injection h5 with h5
  exact ⟨by rw [e1,h5],e2⟩
 rintro e w' ⟨o,x,y,z',e1,v0,v1,v2,v3,hb⟩
 rw [hzz] at e1
 have hcs:∀ a b c d:Fr.C9,csF.pred (Fr.frL a b c d) w':=fun a b c d=>⟨rfl,fun v hv=>⟨Fr.frL_one a b c d v hv,by
  have hh:(Fr.frL a b c d).all (fun c => !(Kn c))=true:=by simp [Fr.frL,Fr.C9.cells,Kn]
  have:=List.all_eq_true.1 hh v hv
  simpa using this⟩⟩
 by_cases ht:f.ct=0
 ·rw [if_pos ht] at e1
  exact ⟨_,e1,hb,[.agg (Fr.frL o x y z').toArray,.int .i64 z],rfl,_,_,rfl,⟨_,rfl,_,[],(List.append_nil _).symm,hcs _ _ _ _,rfl⟩,_,_,rfl,⟨rfl,rfl⟩,rfl⟩
 ·rw [if_neg ht] at e1
  exact ⟨_,e1,hb,[.agg (Fr.frL Fr.C9.zero Fr.C9.zero Fr.C9.zero Fr.C9.zero).toArray,.int .i64 z],rfl,_,_,rfl,⟨_,rfl,_,[],(List.append_nil _).symm,hcs _ _ _ _,rfl⟩,_,_,rfl,⟨rfl,rfl⟩,rfl⟩
section
variable {o1 o2 o3 x1 x2 x3 y1 y2 y3 z1 z2 z3:ByteArray} {e1 e2 e3 e4 z:Int}
theorem checkFrameE (h1:jF 41 [t3 o1 o2 o3] (it e1)) (h2:jF 41 [t3 x1 x2 x3] (it e2)) (h3:jF 41 [t3 y1 y2 y3] (it e3)) (h4:jF 41 [t3 z1 z2 z3] (it e4))
 (v1:Ev e1) (v2:Ev e2) (v3:Ev e3) (v4:Ev e4) (hz:f2 (f2 (f2 e1 e2) e3) e4=z) (h0:z≠0):jF 9 [fr12 o1 o2 o3 x1 x2 x3 y1 y2 y3 z1 z2 z3] (it z):=by
 rcases v1 with rfl|rfl|rfl
 ·rcases v2 with rfl|rfl|rfl
  ·rcases v3 with rfl|rfl|rfl
   ·rcases v4 with rfl|rfl|rfl
    ·exact absurd hz.symm h0
    all_goals
     have hz:_=z:=hz
     subst hz
     refine kgoN 15 Tryz.func9 (by kernel_rfl) fun w00=>?_
     refine kown (by kernel_rfl) ?_
     refine jC 41 [t3 o1 o2 o3] (h1) ?_
     refine jC 41 [t3 x1 x2 x3] (h2) ?_
     refine jC 41 [t3 y1 y2 y3] (h3) ?_
     refine jC 41 [t3 z1 z2 z3] (h4) ?_
     exact jR Tryz.func9
   ·have hz:1=z:=by rw [← hz];rfl
    subst hz
    refine kgoN 15 Tryz.func9 (by kernel_rfl) fun w00=>?_
    refine kown (by kernel_rfl) ?_
    refine jC 41 [t3 o1 o2 o3] (h1) ?_
    refine jC 41 [t3 x1 x2 x3] (h2) ?_
    refine jC 41 [t3 y1 y2 y3] (h3) ?_
    exact jR Tryz.func9
   ·have hz:4=z:=by rw [← hz];rfl
    subst hz
    refine kgoN 15 Tryz.func9 (by kernel_rfl) fun w00=>?_
    refine kown (by kernel_rfl) ?_
    refine jC 41 [t3 o1 o2 o3] (h1) ?_
    refine jC 41 [t3 x1 x2 x3] (h2) ?_
    refine jC 41 [t3 y1 y2 y3] (h3) ?_
    exact jR Tryz.func9
  ·have hz:1=z:=by rw [← hz];rfl
   subst hz
   refine kgoN 15 Tryz.func9 (by kernel_rfl) fun w00=>?_
   refine kown (by kernel_rfl) ?_
   refine jC 41 [t3 o1 o2 o3] (h1) ?_
   refine jC 41 [t3 x1 x2 x3] (h2) ?_
   exact jR Tryz.func9
  ·have hz:4=z:=by rw [← hz];rfl
   subst hz
   refine kgoN 15 Tryz.func9 (by kernel_rfl) fun w00=>?_
   refine kown (by kernel_rfl) ?_
   refine jC 41 [t3 o1 o2 o3] (h1) ?_
   refine jC 41 [t3 x1 x2 x3] (h2) ?_
   exact jR Tryz.func9
 ·have hz:1=z:=by rw [← hz];rfl
  subst hz
  refine kgoN 15 Tryz.func9 (by kernel_rfl) fun w00=>?_
  refine kown (by kernel_rfl) ?_
  refine jC 41 [t3 o1 o2 o3] (h1) ?_
  exact jR Tryz.func9
 ·have hz:4=z:=by rw [← hz];rfl
  subst hz
  refine kgoN 15 Tryz.func9 (by kernel_rfl) fun w00=>?_
  refine kown (by kernel_rfl) ?_
  refine jC 41 [t3 o1 o2 o3] (h1) ?_
  exact jR Tryz.func9
end
section
variable {o1 o2 o3 x1 x2 x3 y1 y2 y3 z1 z2 z3 p1 p2 p3:Rat}
structure Qf (o1 o2 o3 x1 x2 x3 y1 y2 y3 z1 z2 z3:Rat):Prop where
 o1:Bq 30 o1
 o2:Bq 30 o2
 o3:Bq 30 o3
 x1:Bq 30 x1
 x2:Bq 30 x2
 x3:Bq 30 x3
 y1:Bq 30 y1
 y2:Bq 30 y2
 y3:Bq 30 y3
 z1:Bq 30 z1
 z2:Bq 30 z2
 z3:Bq 30 z3
structure Q3 (p1 p2 p3:Rat):Prop where
 a:Bq 30 p1
 b:Bq 30 p2
 c:Bq 30 p3
abbrev frA (o1 o2 o3 x1 x2 x3 y1 y2 y3 z1 z2 z3:Rat):AV Kn:=fr12 (writeB o1) (writeB o2) (writeB o3) (writeB x1) (writeB x2) (writeB x3) (writeB y1) (writeB y2) (writeB y3) (writeB z1) (writeB z2) (writeB z3)
theorem dtq {a b c x y z:Rat} (h:Q3 a b c) (k:Q3 x y z):Bq 182 (dt a b c x y z):=Bq.dt h.a h.b h.c k.a k.b k.c (by omega)
theorem Qf.x (h:Qf o1 o2 o3 x1 x2 x3 y1 y2 y3 z1 z2 z3):Q3 x1 x2 x3:=⟨h.x1,h.x2,h.x3⟩
theorem Qf.y (h:Qf o1 o2 o3 x1 x2 x3 y1 y2 y3 z1 z2 z3):Q3 y1 y2 y3:=⟨h.y1,h.y2,h.y3⟩
theorem Qf.z (h:Qf o1 o2 o3 x1 x2 x3 y1 y2 y3 z1 z2 z3):Q3 z1 z2 z3:=⟨h.z1,h.z2,h.z3⟩
theorem Qf.o (h:Qf o1 o2 o3 x1 x2 x3 y1 y2 y3 z1 z2 z3):Q3 o1 o2 o3:=⟨h.o1,h.o2,h.o3⟩
theorem refStretchF (h:Qf o1 o2 o3 x1 x2 x3 y1 y2 y3 z1 z2 z3):jF 46 [frA o1 o2 o3 x1 x2 x3 y1 y2 y3 z1 z2 z3] (vS (dt x1 x2 x3 x1 x2 x3) (dt y1 y2 y3 y1 y2 y3) (dt z1 z2 z3 z1 z2 z3)) :=
 stretchR (squareV h.x1 h.x2 h.x3 (by omega)) (squareV h.y1 h.y2 h.y3 (by omega)) (squareV h.z1 h.z2 h.z3 (by omega))
theorem pY {j l:Nat} {c x y z:Rat} (hc:Bq j c) (hx:Bq l x) (hy:Bq l y) (hz:Bq l z) (hj:j≤10000) (hl:l≤10000):jF 118 [tx (writeB c),vS x y z] (vS (c*x) (c*y) (c*z)) :=
 scaleR3 (iW (fF (hc.zs hj) (hx.zs hl))) (iW (fF (hc.zs hj) (hy.zs hl))) (iW (fF (hc.zs hj) (hz.zs hl)))
theorem addV2 {j l:Nat} {a b c x y z:Rat} (h1:Bq j a) (h2:Bq j b) (h3:Bq j c) (k1:Bq l x) (k2:Bq l y) (k3:Bq l z) (hj:j≤10000) (hl:l≤10000):jF 117 [vS a b c,vS x y z] (vS (a+x) (b+y) (c+z)) :=
 addVecR (iW (nN (h1.zs hj) (k1.zs hl))) (iW (nN (h2.zs hj) (k2.zs hl))) (iW (nN (h3.zs hj) (k3.zs hl)))
theorem refDirectF (h:Qf o1 o2 o3 x1 x2 x3 y1 y2 y3 z1 z2 z3) (k:Q3 p1 p2 p3):jF 48 [frA o1 o2 o3 x1 x2 x3 y1 y2 y3 z1 z2 z3,vS p1 p2 p3] (vS (ld p1 p2 p3 x1 y1 z1) (ld p1 p2 p3 x2 y2 z2) (ld p1 p2 p3 x3 y3 z3)):=by
 have k1:=pY k.a h.x1 h.x2 h.x3 (by omega) (by omega)
 have k2:=pY k.b h.y1 h.y2 h.y3 (by omega) (by omega)
 have k3:=addV2 (k.a.mul h.x1) (k.a.mul h.x2) (k.a.mul h.x3) (k.b.mul h.y1) (k.b.mul h.y2) (k.b.mul h.y3) (by omega) (by omega)
 have k4:=pY k.c h.z1 h.z2 h.z3 (by omega) (by omega)
 have k5:=addV2 ((k.a.mul h.x1).add (k.b.mul h.y1)) ((k.a.mul h.x2).add (k.b.mul h.y2)) ((k.a.mul h.x3).add (k.b.mul h.y3)) (k.c.mul h.z1) (k.c.mul h.z2) (k.c.mul h.z3) (by omega) (by omega)
 refine jG Tryz.func48 fun w00=>?_
 refine jC 118 _ (k1) ?_
 refine jC 118 _ (k2) ?_
 refine jC 117 _ (k3) ?_
 refine jC 118 _ (k4) ?_
 refine jC 117 _ (k5) ?_
 exact jR Tryz.func48
theorem det_ne (hx:¬ (x1=0∧x2=0∧x3=0)) (hy:¬ (y1=0∧y2=0∧y3=0)) (hz:¬ (z1=0∧z2=0∧z3=0)) (hxy:dt x1 x2 x3 y1 y2 y3=0) (hyz:dt y1 y2 y3 z1 z2 z3=0) (hzx:dt z1 z2 z3 x1 x2 x3=0):detR3 x1 x2 x3 y1 y2 y3 z1 z2 z3≠0:=by
 intro h
 have sx:dt x1 x2 x3 x1 x2 x3≠0:=fun e=>hx (nP e)
 have sy:dt y1 y2 y3 y1 y2 y3≠0:=fun e=>hy (nP e)
 have sz:dt z1 z2 z3 z1 z2 z3≠0:=fun e=>hz (nP e)
 have k1:x2*(y1*z2-y2*z1)-x3*(y3*z1-y1*z3)=0:=by grind
 have k2:x3*(y2*z3-y3*z2)-x1*(y1*z2-y2*z1)=0:=by grind
 have k3:x1*(y3*z1-y1*z3)-x2*(y2*z3-y3*z2)=0:=by grind
 have kc:dt (y2*z3-y3*z2) (y3*z1-y1*z3) (y1*z2-y2*z1) (y2*z3-y3*z2) (y3*z1-y1*z3) (y1*z2-y2*z1)=dt y1 y2 y3 y1 y2 y3*dt z1 z2 z3 z1 z2 z3-dt y1 y2 y3 z1 z2 z3*dt y1 y2 y3 z1 z2 z3:=by grind
 have h:dt x1 x2 x3 (y2*z3-y3*z2) (y3*z1-y1*z3) (y1*z2-y2*z1)=0:=h
 generalize y2*z3-y3*z2=c1 at *
 generalize y3*z1-y1*z3=c2 at *
 generalize y1*z2-y2*z1=c3 at *
 have kd:dt x1 x2 x3 x1 x2 x3*dt c1 c2 c3 c1 c2 c3=dt x1 x2 x3 c1 c2 c3*dt x1 x2 x3 c1 c2 c3+(x2*c3-x3*c2)*(x2*c3-x3*c2)+(x3*c1-x1*c3)*(x3*c1-x1*c3)+(x1*c2-x2*c1)*(x1*c2-x2*c1):=by grind
 rw [h,k1,k2,k3,kc,hyz] at kd
 generalize dt x1 x2 x3 x1 x2 x3=a at *
 generalize dt y1 y2 y3 y1 y2 y3=b at *
 generalize dt z1 z2 z3 z1 z2 z3=c at *
 have k5:a*(b*c)=0:=by grind
 rcases Rat.mul_eq_zero.1 k5 with e|e
 ·exact sx e
 ·rcases Rat.mul_eq_zero.1 e with e|e
  ·exact sy e
  ·exact sz e
theorem tR {a b c:Rat} (h:ax0 a b c=false):¬ (a=0∧b=0∧c=0):=fun ⟨e1,e2,e3⟩=>by
 have k:ax0 a b c=true:=by simp [ax0,e1,e2,e3]
 rw [h] at k
 cases k
theorem dec3 {p q r:Prop} [Decidable p] [Decidable q] [Decidable r]:(decide p&&decide q&&decide r)=true↔p∧q∧r:=by simp [and_assoc]
theorem pI (h:Qf o1 o2 o3 x1 x2 x3 y1 y2 y3 z1 z2 z3):jF 9 [frA o1 o2 o3 x1 x2 x3 y1 y2 y3 z1 z2 z3] (it (ckF x1 x2 x3 y1 y2 y3 z1 z2 z3)):=by
 have cv:∀ {a b c:Rat},Q3 a b c→jF 41 [t3 (writeB a) (writeB b) (writeB c)] (it 0):=fun h=>checkVec3 (chkB h.a (by omega)) (chkB h.b (by omega)) (chkB h.c (by omega))
 have hc:=crossV h.y1 h.y2 h.y3 h.z1 h.z2 h.z3 (by omega)
 have c1:Bq 121 (y2*z3-y3*z2):=(h.y2.mul h.z3).sub (h.y3.mul h.z2)
 have c2:Bq 121 (y3*z1-y1*z3):=(h.y3.mul h.z1).sub (h.y1.mul h.z3)
 have c3:Bq 121 (y1*z2-y2*z1):=(h.y1.mul h.z2).sub (h.y2.mul h.z1)
 have hd:=detR hc (aAf h.x1 h.x2 h.x3 c1 c2 c3 (by omega))
 have hS:=shapeZ (o1:=writeB o1) (o2:=writeB o2) (o3:=writeB o3) (aAf h.x1 h.x2 h.x3 h.y1 h.y2 h.y3 (by omega)) (xE _) (aAf h.y1 h.y2 h.y3 h.z1 h.z2 h.z3 (by omega)) (xE _) (aAf h.z1 h.z2 h.z3 h.x1 h.x2 h.x3 (by omega)) (xE _) hd (signQ _) (tQ _) rfl
 refine checkFrameZ (cv h.o) (cv h.x) (cv h.y) (cv h.z) (pX _ _ _) (pX _ _ _) (pX _ _ _) hS ?_
 unfold ckF
 by_cases h0:(ax0 x1 x2 x3 || ax0 y1 y2 y3 || ax0 z1 z2 z3)=true
 ·rw [if_pos h0,if_pos h0]
 ·rw [if_neg h0,if_neg h0]
  have h0:(ax0 x1 x2 x3 || ax0 y1 y2 y3 || ax0 z1 z2 z3)=false:=by simpa using h0
  obtain ⟨h01,n3⟩:=Bool.or_eq_false_iff.1 h0
  obtain ⟨n1,n2⟩:=Bool.or_eq_false_iff.1 h01
  by_cases h1:orB x1 x2 x3 y1 y2 y3 z1 z2 z3=true
  ·have e1:=h1
   rw [dec3] at e1
   have hne:=det_ne (tR n1) (tR n2) (tR n3) e1.1 e1.2.1 e1.2.2
   have hs0:nD (detR3 x1 x2 x3 y1 y2 y3 z1 z2 z3)≠0:=by
    unfold nD bU
    have:=pV hne
    split
    ·decide
    ·split
     ·decide
     ·omega
   have h1' : (decide (dt x1 x2 x3 y1 y2 y3=0)&&decide (dt y1 y2 y3 z1 z2 z3=0)&&decide (dt z1 z2 z3 x1 x2 x3=0))=true:=h1
   rw [h1']
   rcases tQ (detR3 x1 x2 x3 y1 y2 y3 z1 z2 z3) with e|e|e
   ·have e' : nD (dt x1 x2 x3 (y2*z3-y3*z2) (y3*z1-y1*z3) (y1*z2-y2*z1))=1:=e
    rw [e',if_pos ⟨h1,by decide⟩]
    rfl
   ·exact absurd e hs0
   ·have e' : nD (dt x1 x2 x3 (y2*z3-y3*z2) (y3*z1-y1*z3) (y1*z2-y2*z1)) = -1:=e
    rw [e',if_neg (fun k=>k.2 (by decide))]
    rfl
  ·have h1' : (decide (dt x1 x2 x3 y1 y2 y3=0)&&decide (dt y1 y2 y3 z1 z2 z3=0)&&decide (dt z1 z2 z3 x1 x2 x3=0))=false:=by simpa using h1
   rw [if_neg (fun k=>h1 k.1),h1']
   rfl
theorem ax_of (h:ckF x1 x2 x3 y1 y2 y3 z1 z2 z3=0):Ax x1 x2 x3 y1 y2 y3 z1 z2 z3:=by
 unfold ckF at h
 split at h
 ·exact absurd h (by decide)
 rename_i h0
 split at h
 ·rename_i h1
  have h0:(ax0 x1 x2 x3 || ax0 y1 y2 y3 || ax0 z1 z2 z3)=false:=by simpa using h0
  obtain ⟨h01,n3⟩:=Bool.or_eq_false_iff.1 h0
  obtain ⟨n1,n2⟩:=Bool.or_eq_false_iff.1 h01
  have e1:=h1.1
  rw [dec3] at e1
  have hne:=det_ne (tR n1) (tR n2) (tR n3) e1.1 e1.2.1 e1.2.2
  refine ⟨n1,n2,n3,e1.1,e1.2.1,e1.2.2,?_⟩
  rcases tQ (detR3 x1 x2 x3 y1 y2 y3 z1 z2 z3) with e|e|e
  ·exact e
  ·exfalso
   have:=pV hne
   unfold nD bU at e
   split at e
   ·exact absurd e (by decide)
   ·split at e
    ·exact absurd e (by decide)
    ·omega
  ·exact absurd (by rw [e];decide) h1.2
 ·exact absurd h (by decide)
theorem sq0_of (h:Ax x1 x2 x3 y1 y2 y3 z1 z2 z3):Sq0 x1 x2 x3 y1 y2 y3 z1 z2 z3 :=
 ⟨fun e=>tR h.x0 (nP e),fun e=>tR h.y0 (nP e),fun e=>tR h.z0 (nP e)⟩
end
set_option maxRecDepth 100000 in
theorem shortF4 {o1 o2 o3 x1 x2 x3 y1 y2 y3 z1 z2 z3:ByteArray} {n:Int} {T:TypeId} {r:Bool} (h:(lo n o1 || lo n o2 || lo n o3 || lo n x1 || lo n x2 || lo n x3 || lo n y1 || lo n y2 || lo n y3 || lo n z1 || lo n z2 || lo n z3)=r):jF 27 [it n,.fv (.nsl 4 T [cH o1,cH o2,cH o3,cH x1,cH x2,cH x3,cH y1,cH y2,cH y3,cH z1,cH z2,cH z3])] (bl (!r)):=by
 obtain ⟨r0,e0⟩:∃ r,lo n o1=r:=⟨_,rfl⟩
 obtain ⟨r1,e1⟩:∃ r,lo n o2=r:=⟨_,rfl⟩
 obtain ⟨r2,e2⟩:∃ r,lo n o3=r:=⟨_,rfl⟩
 obtain ⟨r3,e3⟩:∃ r,lo n x1=r:=⟨_,rfl⟩
 obtain ⟨r4,e4⟩:∃ r,lo n x2=r:=⟨_,rfl⟩
 obtain ⟨r5,e5⟩:∃ r,lo n x3=r:=⟨_,rfl⟩
 obtain ⟨r6,e6⟩:∃ r,lo n y1=r:=⟨_,rfl⟩
 obtain ⟨r7,e7⟩:∃ r,lo n y2=r:=⟨_,rfl⟩
 obtain ⟨r8,e8⟩:∃ r,lo n y3=r:=⟨_,rfl⟩
 obtain ⟨r9,e9⟩:∃ r,lo n z1=r:=⟨_,rfl⟩
 obtain ⟨r10,e10⟩:∃ r,lo n z2=r:=⟨_,rfl⟩
 obtain ⟨r11,e11⟩:∃ r,lo n z3=r:=⟨_,rfl⟩
 rw [e0,e1,e2,e3,e4,e5,e6,e7,e8,e9,e10,e11] at h
 subst h
 refine kgoAS Tryz.func27 (by kernel_rfl) fun w00=>?_
 refine jP 16 22 Tryz.underlying22 o1 ?_
 refine vC (.tmp 17) (.tmp 18) o1.size n r0 _ aZ e0 ?_
 cases r0
 case true=>exact jR Tryz.func27
 refine jP 25 22 Tryz.underlying22 o2 ?_
 refine vC (.tmp 26) (.tmp 27) o2.size n r1 _ aZ e1 ?_
 cases r1
 case true=>exact jR Tryz.func27
 refine jP 35 22 Tryz.underlying22 o3 ?_
 refine vC (.tmp 36) (.tmp 37) o3.size n r2 _ aZ e2 ?_
 cases r2
 case true=>exact jR Tryz.func27
 refine jP 16 22 Tryz.underlying22 x1 ?_
 refine vC (.tmp 17) (.tmp 18) x1.size n r3 _ aZ e3 ?_
 cases r3
 case true=>exact jR Tryz.func27
 refine jP 25 22 Tryz.underlying22 x2 ?_
 refine vC (.tmp 26) (.tmp 27) x2.size n r4 _ aZ e4 ?_
 cases r4
 case true=>exact jR Tryz.func27
 refine jP 35 22 Tryz.underlying22 x3 ?_
 refine vC (.tmp 36) (.tmp 37) x3.size n r5 _ aZ e5 ?_
 cases r5
 case true=>exact jR Tryz.func27
 refine jP 16 22 Tryz.underlying22 y1 ?_
 refine vC (.tmp 17) (.tmp 18) y1.size n r6 _ aZ e6 ?_
 cases r6
 case true=>exact jR Tryz.func27
 refine jP 25 22 Tryz.underlying22 y2 ?_
 refine vC (.tmp 26) (.tmp 27) y2.size n r7 _ aZ e7 ?_
 cases r7
 case true=>exact jR Tryz.func27
 refine jP 35 22 Tryz.underlying22 y3 ?_
 refine vC (.tmp 36) (.tmp 37) y3.size n r8 _ aZ e8 ?_
 cases r8
 case true=>exact jR Tryz.func27
 refine jP 16 22 Tryz.underlying22 z1 ?_
 refine vC (.tmp 17) (.tmp 18) z1.size n r9 _ aZ e9 ?_
 cases r9
 case true=>exact jR Tryz.func27
 refine jP 25 22 Tryz.underlying22 z2 ?_
 refine vC (.tmp 26) (.tmp 27) z2.size n r10 _ aZ e10 ?_
 cases r10
 case true=>exact jR Tryz.func27
 refine jP 35 22 Tryz.underlying22 z3 ?_
 refine vC (.tmp 36) (.tmp 37) z3.size n r11 _ aZ e11 ?_
 cases r11
 case true=>exact jR Tryz.func27
 exact jR Tryz.func27
abbrev F12.lo (f:F12) (n:Int):Bool:=(Ab.lo n f.o1 || Ab.lo n f.o2 || Ab.lo n f.o3 || Ab.lo n f.x1 || Ab.lo n f.x2 || Ab.lo n f.x3 || Ab.lo n f.y1 || Ab.lo n f.y2 || Ab.lo n f.y3 || Ab.lo n f.z1 || Ab.lo n f.z2 || Ab.lo n f.z3)
theorem briefF {f:F12} {n:Int} {r:Bool} (h:f.lo n=r):jF 5 [it n,f.av] (bl (!r)):=by
 have hs:=shortF4 (T:=24) h
 refine jG Tryz.func5 fun w00=>?_
 refine jC 27 _ (hs) ?_
 exact jR Tryz.func5
abbrev Bf (z:Int):Prop:=z=1∨z=4∨z=6∨z=15
theorem first2Fr {T:TypeId} {x y:Int} (hx:Bf x):jF 68 [.fv (.nsl 2 T [lz x,lz y])] (it x):=by
 rcases hx with rfl|rfl|rfl|rfl
 all_goals
  refine lA Tryz.func68 (by kernel_rfl) fun w00=>?_
  exact jR Tryz.func68
structure F12.Ss (f:F12):Prop where
 o:Ss3 f.o1 f.o2 f.o3
 x:Ss3 f.x1 f.x2 f.x3
 y:Ss3 f.y1 f.y2 f.y3
 z:Ss3 f.z1 f.z2 f.z3
theorem F12.Ss.rb {f:F12} (h:f.Ss):f.Rb:=⟨h.o.sl.rb,h.x.sl.rb,h.y.sl.rb,h.z.sl.rb⟩
section
variable {o1 o2 o3 x1 x2 x3 y1 y2 y3 z1 z2 z3 p1 p2 p3:Rat} {a b c:ByteArray} {z:Int}
abbrev wF (o1 o2 o3 x1 x2 x3 y1 y2 y3 z1 z2 z3:Rat):F12:=⟨writeB o1,writeB o2,writeB o3,writeB x1,writeB x2,writeB x3,writeB y1,writeB y2,writeB y3,writeB z1,writeB z2,writeB z3⟩
theorem Qf.wf (q:Qf o1 o2 o3 x1 x2 x3 y1 y2 y3 z1 z2 z3):Wf o1 o2 o3 x1 x2 x3 y1 y2 y3 z1 z2 z3:=⟨⟨q.o1.wr (by omega),q.o2.wr (by omega),q.o3.wr (by omega)⟩,⟨q.x1.wr (by omega),q.x2.wr (by omega),q.x3.wr (by omega)⟩,⟨q.y1.wr (by omega),q.y2.wr (by omega),q.y3.wr (by omega)⟩,⟨q.z1.wr (by omega),q.z2.wr (by omega),q.z3.wr (by omega)⟩⟩
end
theorem F12.ss_of {f:F12} (h:f.lo 30=false):f.Ss:=by
 simp only [F12.lo,Ab.lo,Bool.or_eq_false_iff,decide_eq_false_iff_not] at h
 obtain ⟨⟨⟨⟨⟨⟨⟨⟨⟨⟨⟨h1,h2⟩,h3⟩,h4⟩,h5⟩,h6⟩,h7⟩,h8⟩,h9⟩,h10⟩,h11⟩,h12⟩:=h
 have k:∀ {s:ByteArray},¬ (30:Int)<(s.size:Nat)→Ab.Ss s:=fun {s} h=>by show s.size≤30;omega
 exact ⟨⟨k h1,k h2,k h3⟩,⟨k h4,k h5,k h6⟩,⟨k h7,k h8,k h9⟩,⟨k h10,k h11,k h12⟩⟩
theorem ckF_values (x1 x2 x3 y1 y2 y3 z1 z2 z3:Rat):ckF x1 x2 x3 y1 y2 y3 z1 z2 z3=0∨ckF x1 x2 x3 y1 y2 y3 z1 z2 z3=6∨ckF x1 x2 x3 y1 y2 y3 z1 z2 z3=15:=by
 unfold ckF
 split
 ·exact .inr (.inl rfl)
 split
 ·exact .inl rfl
 ·exact .inr (.inr rfl)
theorem val_of {q:Rat} (hw:Wr q):dD (writeB q)=q:=(write_inj hw (valB_ok (wG hw.n hw.d)).1 (lF _)).symm
section
variable {x1 x2 x3 y1 y2 y3 z1 z2 z3 p1 p2 p3 t1 t2 t3:Rat}
abbrev lG (x1 x2 x3 y1 y2 y3 z1 z2 z3:Rat):Rat:=dt x1 x2 x3 (y2*z3-y3*z2) (y3*z1-y1*z3) (y1*z2-y2*z1)
theorem Gd.d0 (h:Gd x1 x2 x3 y1 y2 y3 z1 z2 z3):lG x1 x2 x3 y1 y2 y3 z1 z2 z3≠0:=fun e=>by
 have:=h.det
 rw [show dt x1 x2 x3 (y2*z3-y3*z2) (y3*z1-y1*z3) (y1*z2-y2*z1)=0 from e] at this
 exact absurd this (by decide)
theorem det_zx {a b c:Rat} (h1:a=0) (h2:b=0) (h3:c=0):lG a b c y1 y2 y3 z1 z2 z3=0:=by subst h1 h2 h3;unfold lG dt;grind
theorem pZ:lG y1 y2 y3 z1 z2 z3 x1 x2 x3=lG x1 x2 x3 y1 y2 y3 z1 z2 z3:=by unfold lG dt;grind
theorem Gd.sq (h:Gd x1 x2 x3 y1 y2 y3 z1 z2 z3):Sq0 x1 x2 x3 y1 y2 y3 z1 z2 z3 :=
 ⟨fun e=>h.d0 (let ⟨a,b,c⟩:=nP e;det_zx a b c),fun e=>h.d0 (let ⟨a,b,c⟩:=nP e;by rw [← pZ];exact det_zx a b c),fun e=>h.d0 (let ⟨a,b,c⟩:=nP e;by rw [← pZ,← pZ];exact det_zx a b c)⟩
theorem cof (xy:dt x1 x2 x3 y1 y2 y3=0) (zx:dt z1 z2 z3 x1 x2 x3=0) :
 dt x1 x2 x3 x1 x2 x3*(y2*z3-y3*z2)=lG x1 x2 x3 y1 y2 y3 z1 z2 z3*x1∧dt x1 x2 x3 x1 x2 x3*(y3*z1-y1*z3)=lG x1 x2 x3 y1 y2 y3 z1 z2 z3*x2∧dt x1 x2 x3 x1 x2 x3*(y1*z2-y2*z1)=lG x1 x2 x3 y1 y2 y3 z1 z2 z3*x3:=by
 have e1:dt x1 x2 x3 x1 x2 x3*(y2*z3-y3*z2)=lG x1 x2 x3 y1 y2 y3 z1 z2 z3*x1-dt z1 z2 z3 x1 x2 x3*(x2*y3-x3*y2)+dt x1 x2 x3 y1 y2 y3*(x2*z3-x3*z2):=by clear xy zx;unfold lG dt;grind
 have e2:dt x1 x2 x3 x1 x2 x3*(y3*z1-y1*z3)=lG x1 x2 x3 y1 y2 y3 z1 z2 z3*x2-dt z1 z2 z3 x1 x2 x3*(x3*y1-x1*y3)+dt x1 x2 x3 y1 y2 y3*(x3*z1-x1*z3):=by clear xy zx e1;unfold lG dt;grind
 have e3:dt x1 x2 x3 x1 x2 x3*(y1*z2-y2*z1)=lG x1 x2 x3 y1 y2 y3 z1 z2 z3*x3-dt z1 z2 z3 x1 x2 x3*(x1*y2-x2*y1)+dt x1 x2 x3 y1 y2 y3*(x1*z2-x2*z1):=by clear xy zx e1 e2;unfold lG dt;grind
 have z0:∀ q:Rat,q-0+0=q:=fun q=>by grind
 rw [xy,zx,Rat.zero_mul,Rat.zero_mul,z0] at e1 e2 e3
 exact ⟨e1,e2,e3⟩
theorem tS {s c x d D q:Rat} (hs:s≠0) (hD:D*d=1) (e:s*c=d*x):q/s*x=D*(q*c):=by
 have h:s⁻¹*s=1:=Rat.inv_mul_cancel _ hs
 rw [Rat.div_def]
 generalize s⁻¹=i at *
 calc q*i*x=q*i*(D*d)*x:=by rw [hD,Rat.mul_one]
  _=q*i*D*(d*x):=by grind
  _=i*s*(D*(q*c)):=by rw [← e];grind
  _=D*(q*c):=by rw [h,Rat.one_mul]
theorem Gd.back (h:Gd x1 x2 x3 y1 y2 y3 z1 z2 z3) (t1 t2 t3:Rat) :
 ld (dt t1 t2 t3 x1 x2 x3/dt x1 x2 x3 x1 x2 x3) (dt t1 t2 t3 y1 y2 y3/dt y1 y2 y3 y1 y2 y3) (dt t1 t2 t3 z1 z2 z3/dt z1 z2 z3 z1 z2 z3) x1 y1 z1=t1 ∧
 ld (dt t1 t2 t3 x1 x2 x3/dt x1 x2 x3 x1 x2 x3) (dt t1 t2 t3 y1 y2 y3/dt y1 y2 y3 y1 y2 y3) (dt t1 t2 t3 z1 z2 z3/dt z1 z2 z3 z1 z2 z3) x2 y2 z2=t2 ∧
 ld (dt t1 t2 t3 x1 x2 x3/dt x1 x2 x3 x1 x2 x3) (dt t1 t2 t3 y1 y2 y3/dt y1 y2 y3 y1 y2 y3) (dt t1 t2 t3 z1 z2 z3/dt z1 z2 z3 z1 z2 z3) x3 y3 z3=t3:=by
 have cx:=cof h.xy h.zx
 have cy:=cof h.yz h.xy
 have cz:=cof h.zx h.yz
 rw [pZ] at cy
 rw [pZ,pZ] at cz
 have hD:(lG x1 x2 x3 y1 y2 y3 z1 z2 z3)⁻¹*lG x1 x2 x3 y1 y2 y3 z1 z2 z3=1:=Rat.inv_mul_cancel _ h.d0
 have s:=h.sq
 unfold ld
 rw [tS s.x hD cx.1,tS s.y hD cy.1,tS s.z hD cz.1,tS s.x hD cx.2.1,tS s.y hD cy.2.1,tS s.z hD cz.2.1,tS s.x hD cx.2.2,tS s.y hD cy.2.2,tS s.z hD cz.2.2]
 clear cx cy cz s h
 have e:∀ D a b c t:Rat,a+b+c=lG x1 x2 x3 y1 y2 y3 z1 z2 z3*t→D*lG x1 x2 x3 y1 y2 y3 z1 z2 z3=1→D*a+D*b+D*c=t:=fun D a b c t h1 h2=>by
  calc D*a+D*b+D*c=D*(a+b+c):=by grind
   _=D*lG x1 x2 x3 y1 y2 y3 z1 z2 z3*t:=by rw [h1,Rat.mul_assoc]
   _=t:=by rw [h2,Rat.one_mul]
 refine ⟨e _ _ _ _ _ ?_ hD,e _ _ _ _ _ ?_ hD,e _ _ _ _ _ ?_ hD⟩ <;> (clear e hD;unfold lG dt;grind)
theorem pJ {a s:Rat} (hs:s≠0):a/s*s=a:=by rw [Rat.div_def,Rat.mul_assoc,Rat.inv_mul_cancel _ hs,Rat.mul_one]
theorem Gd.fwd (h:Gd x1 x2 x3 y1 y2 y3 z1 z2 z3) (p1 p2 p3:Rat) :
 dt (ld p1 p2 p3 x1 y1 z1) (ld p1 p2 p3 x2 y2 z2) (ld p1 p2 p3 x3 y3 z3) x1 x2 x3=p1*dt x1 x2 x3 x1 x2 x3 ∧
 dt (ld p1 p2 p3 x1 y1 z1) (ld p1 p2 p3 x2 y2 z2) (ld p1 p2 p3 x3 y3 z3) y1 y2 y3=p2*dt y1 y2 y3 y1 y2 y3 ∧
 dt (ld p1 p2 p3 x1 y1 z1) (ld p1 p2 p3 x2 y2 z2) (ld p1 p2 p3 x3 y3 z3) z1 z2 z3=p3*dt z1 z2 z3 z1 z2 z3:=by
 have e1:dt (ld p1 p2 p3 x1 y1 z1) (ld p1 p2 p3 x2 y2 z2) (ld p1 p2 p3 x3 y3 z3) x1 x2 x3=p1*dt x1 x2 x3 x1 x2 x3+p2*dt x1 x2 x3 y1 y2 y3+p3*dt z1 z2 z3 x1 x2 x3:=by clear h;unfold ld dt;grind
 have e2:dt (ld p1 p2 p3 x1 y1 z1) (ld p1 p2 p3 x2 y2 z2) (ld p1 p2 p3 x3 y3 z3) y1 y2 y3=p2*dt y1 y2 y3 y1 y2 y3+p1*dt x1 x2 x3 y1 y2 y3+p3*dt y1 y2 y3 z1 z2 z3:=by clear h e1;unfold ld dt;grind
 have e3:dt (ld p1 p2 p3 x1 y1 z1) (ld p1 p2 p3 x2 y2 z2) (ld p1 p2 p3 x3 y3 z3) z1 z2 z3=p3*dt z1 z2 z3 z1 z2 z3+p1*dt z1 z2 z3 x1 x2 x3+p2*dt y1 y2 y3 z1 z2 z3:=by clear h e1 e2;unfold ld dt;grind
 rw [h.xy,h.zx,Rat.mul_zero,Rat.mul_zero,Rat.add_zero,Rat.add_zero] at e1
 rw [h.xy,h.yz,Rat.mul_zero,Rat.mul_zero,Rat.add_zero,Rat.add_zero] at e2
 rw [h.yz,h.zx,Rat.mul_zero,Rat.mul_zero,Rat.add_zero,Rat.add_zero] at e3
 exact ⟨e1,e2,e3⟩
end
theorem frame_cases {f:F12} (h:f.Ss):(∃ o1 o2 o3 x1 x2 x3 y1 y2 y3 z1 z2 z3:Rat,f=wF o1 o2 o3 x1 x2 x3 y1 y2 y3 z1 z2 z3∧Qf o1 o2 o3 x1 x2 x3 y1 y2 y3 z1 z2 z3∧Ax x1 x2 x3 y1 y2 y3 z1 z2 z3∧ckF x1 x2 x3 y1 y2 y3 z1 z2 z3=0) ∨
 ∃ z,Bf z∧f.ck=z∧jF 9 [f.av] (it z):=by
 by_cases ht:f.ct=0
 ·obtain ⟨ht3,hz4⟩:=tN ht
  obtain ⟨ht2,hz3⟩:=tN ht3
  obtain ⟨hz1,hz2⟩:=tN ht2
  obtain ⟨g1,g2,g3,g4,g5,g6,g7,g8,g9,g10,g11,g12⟩:=f
  obtain ⟨o1,o2,o3,rfl,rfl,rfl,a1,a2,a3⟩:=slwN3 (n:=30) h.o.1 h.o.2.1 h.o.2.2 (by omega) hz1
  obtain ⟨x1,x2,x3,rfl,rfl,rfl,b1,b2,b3⟩:=slwN3 (n:=30) h.x.1 h.x.2.1 h.x.2.2 (by omega) hz2
  obtain ⟨y1,y2,y3,rfl,rfl,rfl,c1,c2,c3'⟩:=slwN3 (n:=30) h.y.1 h.y.2.1 h.y.2.2 (by omega) hz3
  obtain ⟨z1,z2,z3,rfl,rfl,rfl,d1,d2,d3⟩:=slwN3 (n:=30) h.z.1 h.z.2.1 h.z.2.2 (by omega) hz4
  have q:Qf o1 o2 o3 x1 x2 x3 y1 y2 y3 z1 z2 z3:=⟨a1,a2,a3,b1,b2,b3,c1,c2,c3',d1,d2,d3⟩
  have v:∀ {p:Rat},Bq 30 p→dD (writeB p)=p:=fun hp=>val_of (hp.wr (by omega))
  have hck:(wF o1 o2 o3 x1 x2 x3 y1 y2 y3 z1 z2 z3).ck=ckF x1 x2 x3 y1 y2 y3 z1 z2 z3:=by
   unfold F12.ck
   rw [if_pos ht]
   show ckF (dD (writeB x1)) (dD (writeB x2)) (dD (writeB x3)) (dD (writeB y1)) (dD (writeB y2)) (dD (writeB y3)) (dD (writeB z1)) (dD (writeB z2)) (dD (writeB z3))=_
   rw [v b1,v b2,v b3,v c1,v c2,v c3',v d1,v d2,v d3]
  by_cases e0:ckF x1 x2 x3 y1 y2 y3 z1 z2 z3=0
  ·exact .inl ⟨o1,o2,o3,x1,x2,x3,y1,y2,y3,z1,z2,z3,rfl,q,ax_of e0,e0⟩
  ·have hb:Bf (ckF x1 x2 x3 y1 y2 y3 z1 z2 z3):=by
    rcases ckF_values x1 x2 x3 y1 y2 y3 z1 z2 z3 with e|e|e
    ·exact absurd e e0
    ·exact .inr (.inr (.inl e))
    ·exact .inr (.inr (.inr e))
   exact .inr ⟨_,hb,hck,pI q⟩
 ·have hev:Ev f.ct:=f2_ev (f2_ev (f2_ev (nS _ _ _) (nS _ _ _)) (nS _ _ _)) (nS _ _ _)
  have hck:f.ck=f.ct:=if_neg ht
  have hb:Bf f.ct:=by
   rcases hev with e|e|e
   ·exact absurd e ht
   ·exact .inl e
   ·exact .inr (.inl e)
  exact .inr ⟨_,hb,hck,checkFrameE (jV h.o.sl rfl) (jV h.x.sl rfl) (jV h.y.sl rfl) (jV h.z.sl rfl) (nS _ _ _) (nS _ _ _) (nS _ _ _) (nS _ _ _) (z:=f.ct) rfl ht⟩
section
variable {f:F12} {n1 n2 n3 z:Int} {s:ByteArray}
theorem readFHE (h:f.Rb) (m:M3 n1 n2 n3) (k:Rb s) (hz:f.ck=z) (h0:Bf z):jX 28 [gL 29,f.av,gL 30,hL n1 n2 n3 s] (.tup [.ag [.sp csF],.ag [nb n1,nb n2,nb n3,nb (dD s)],.sc (lz z)]):=by
 refine jY Tryz.func28 fun w00 hI=>?_
 refine jW hI 29 _ (aAh f h hz (by rcases h0 with rfl|rfl|rfl|rfl <;> decide)) ?_
 refine jW hI 30 _ (tP m k rfl) ?_
 refine jC 68 [.fv (.nsl 2 32 [lz z,lz (kh n1 n2 n3 s)])] (first2Fr h0) ?_
 exact jR Tryz.func28
theorem vH (h:f.Rb) (m:M3 n1 n2 n3) (k:Rb s) (hz:f.ck=z) (h0:Bf z):jX 6 [f.av,hL n1 n2 n3 s] (noH z):=by
 have hr:=readFHE h m k hz h0
 rcases h0 with rfl|rfl|rfl|rfl
 all_goals
  refine jY Tryz.func6 fun w00 hI=>?_
  refine jW hI 28 _ (hr) ?_
  exact jR Tryz.func6
theorem vI (h:f.Rb) (m:M3 n1 n2 n3) (k:Rb s) (hz:f.ck=z) (h0:Bf z):jX 7 [f.av,hL n1 n2 n3 s] (noH z):=by
 have hr:=readFHE h m k hz h0
 rcases h0 with rfl|rfl|rfl|rfl
 all_goals
  refine jY Tryz.func7 fun w00 hI=>?_
  refine jW hI 28 _ (hr) ?_
  exact jR Tryz.func7
end
section
variable {o1 o2 o3 x1 x2 x3 y1 y2 y3 z1 z2 z3 p1 p2 p3 d:Rat} {n1 n2 n3 z k1 k2 k3 e:Int} {s t:ByteArray}
theorem readFHP (h:Fv o1 o2 o3 x1 x2 x3 y1 y2 y3 z1 z2 z3) (m:M3 n1 n2 n3) (k:Rb s) (hz:kh n1 n2 n3 s=z):jX 28 [gL 29,iT o1 o2 o3 x1 x2 x3 y1 y2 y3 z1 z2 z3,gL 30,hL n1 n2 n3 s] (.tup [.ag [nb o1,nb o2,nb o3,nb x1,nb x2,nb x3,nb y1,nb y2,nb y3,nb z1,nb z2,nb z3],.ag [nb n1,nb n2,nb n3,nb (dD s)],.sc (lz z)]):=by
 refine jY Tryz.func28 fun w00 hI=>?_
 refine jW hI 29 _ (h.r) ?_
 refine jW hI 30 _ (tP m k rfl) ?_
 refine jC 68 [.fv (.nsl 2 32 [z0,lz (kh n1 n2 n3 s)])] (first2Eh (x:=0) (.inl rfl) kh_eh ((f2_r rfl).trans hz)) ?_
 exact jR Tryz.func28
theorem vJ (h:Fv o1 o2 o3 x1 x2 x3 y1 y2 y3 z1 z2 z3) (m:M3 n1 n2 n3) (k:Rb s) (hz:kh n1 n2 n3 s=z) (h0:z≠0):jX 6 [iT o1 o2 o3 x1 x2 x3 y1 y2 y3 z1 z2 z3,hL n1 n2 n3 s] (noH z):=by
 have hr:=readFHP h m k hz
 rcases show Eh z from hz▸kh_eh with rfl|rfl|rfl|rfl|rfl
 ·exact absurd rfl h0
 all_goals
  refine jY Tryz.func6 fun w00 hI=>?_
  refine jW hI 28 _ (hr) ?_
  exact jR Tryz.func6
theorem vK (h:Fv o1 o2 o3 x1 x2 x3 y1 y2 y3 z1 z2 z3) (m:M3 n1 n2 n3) (k:Rb s) (hz:kh n1 n2 n3 s=z) (h0:z≠0):jX 7 [iT o1 o2 o3 x1 x2 x3 y1 y2 y3 z1 z2 z3,hL n1 n2 n3 s] (noH z):=by
 have hr:=readFHP h m k hz
 rcases show Eh z from hz▸kh_eh with rfl|rfl|rfl|rfl|rfl
 ·exact absurd rfl h0
 all_goals
  refine jY Tryz.func7 fun w00 hI=>?_
  refine jW hI 28 _ (hr) ?_
  exact jR Tryz.func7
theorem placeHalf_O (h:Fv o1 o2 o3 x1 x2 x3 y1 y2 y3 z1 z2 z3) (k:Hv n1 n2 n3 d) (h0:Sq0 x1 x2 x3 y1 y2 y3 z1 z2 z3) {q1 q2 q3:Rat}
 (e1:ld (n1/dt x1 x2 x3 x1 x2 x3) (n2/dt y1 y2 y3 y1 y2 y3) (n3/dt z1 z2 z3 z1 z2 z3) x1 y1 z1=q1) (e2:ld (n1/dt x1 x2 x3 x1 x2 x3) (n2/dt y1 y2 y3 y1 y2 y3) (n3/dt z1 z2 z3 z1 z2 z3) x2 y2 z2=q2) (e3:ld (n1/dt x1 x2 x3 x1 x2 x3) (n2/dt y1 y2 y3 y1 y2 y3) (n3/dt z1 z2 z3 z1 z2 z3) x3 y3 z3=q3)
 (l1:Lf 30 q1) (l2:Lf 30 q2) (l3:Lf 30 q3) (hm:jX 37 [hf q1 q2 q3 (d+dt q1 q2 q3 o1 o2 o3)] (oH k1 k2 k3 t e)):jX 6 [iT o1 o2 o3 x1 x2 x3 y1 y2 y3 z1 z2 z3,hS n1 n2 n3 d] (oH k1 k2 k3 t e):=by
 obtain ⟨a1,a2,a3,b1,b2,b3,c1,c2,c3⟩:=h.w.lm
 obtain ⟨g1,g2,g3⟩:=zV h.w.o
 have ld':=k.d.lf
 have t1:=cC k.s1 (k:=10)
 have t2:=cC k.s2 (k:=10)
 have t3:=cC k.s3 (k:=10)
 have s1:Lf 10 (dt x1 x2 x3 x1 x2 x3):=by repeat' (first|exact Lf.mono (by assumption) (by decide)|refine Lf.muln ?_ ?_ (by decide)|refine Lf.addn ?_ ?_ (by decide)|refine Lf.subn ?_ ?_ (by decide))
 have s2:Lf 10 (dt y1 y2 y3 y1 y2 y3):=by repeat' (first|exact Lf.mono (by assumption) (by decide)|refine Lf.muln ?_ ?_ (by decide)|refine Lf.addn ?_ ?_ (by decide)|refine Lf.subn ?_ ?_ (by decide))
 have s3:Lf 10 (dt z1 z2 z3 z1 z2 z3):=by repeat' (first|exact Lf.mono (by assumption) (by decide)|refine Lf.muln ?_ ?_ (by decide)|refine Lf.addn ?_ ?_ (by decide)|refine Lf.subn ?_ ?_ (by decide))
 have r1:=nJ t1 s1 (aR 11)
 have r2:=nJ t2 s2 (aR 11)
 have r3:=nJ t3 s3 (aR 11)
 have j:jF 32 [gL 33,vc n1 n2 n3,vc (dt x1 x2 x3 x1 x2 x3) (dt y1 y2 y3 y1 y2 y3) (dt z1 z2 z3 z1 z2 z3)] (vc (n1/dt x1 x2 x3 x1 x2 x3) (n2/dt y1 y2 y3 y1 y2 y3) (n3/dt z1 z2 z3 z1 z2 z3)) :=
  joinF Tryz.call33 (qP (t1.mono (by decide)) (s1.mono (by decide)) h0.x) (qP (t2.mono (by decide)) (s2.mono (by decide)) h0.y) (qP (t3.mono (by decide)) (s3.mono (by decide)) h0.z)
 have hl:jF 31 [nV o1 o2 o3 x1 x2 x3 y1 y2 y3 z1 z2 z3,vc (n1/dt x1 x2 x3 x1 x2 x3) (n2/dt y1 y2 y3 y1 y2 y3) (n3/dt z1 z2 z3 z1 z2 z3)] (vc q1 q2 q3):=by
  rw [← e1,← e2,← e3]
  exact leadF (h.w.lm.mono (by decide)) ⟨r1.mono (by decide),r2.mono (by decide),r3.mono (by decide)⟩
 have hp:jF 35 [num d,num (dt q1 q2 q3 o1 o2 o3)] (num (d+dt q1 q2 q3 o1 o2 o3)):=sO (by repeat' (first|exact Lf.mono (by assumption) (by decide)|refine Lf.muln ?_ ?_ (by decide)|refine Lf.addn ?_ ?_ (by decide)|refine Lf.subn ?_ ?_ (by decide))) (by repeat' (first|exact Lf.mono (by assumption) (by decide)|refine Lf.muln ?_ ?_ (by decide)|refine Lf.addn ?_ ?_ (by decide)|refine Lf.subn ?_ ?_ (by decide)))
 have hd:jF 36 [vc q1 q2 q3,vc o1 o2 o3] (num (dt q1 q2 q3 o1 o2 o3)):=nE (by repeat' (first|exact Lf.mono (by assumption) (by decide)|refine Lf.muln ?_ ?_ (by decide)|refine Lf.addn ?_ ?_ (by decide)|refine Lf.subn ?_ ?_ (by decide))) (by repeat' (first|exact Lf.mono (by assumption) (by decide)|refine Lf.muln ?_ ?_ (by decide)|refine Lf.addn ?_ ?_ (by decide)|refine Lf.subn ?_ ?_ (by decide))) (by repeat' (first|exact Lf.mono (by assumption) (by decide)|refine Lf.muln ?_ ?_ (by decide)|refine Lf.addn ?_ ?_ (by decide)|refine Lf.subn ?_ ?_ (by decide))) (by repeat' (first|exact Lf.mono (by assumption) (by decide)|refine Lf.muln ?_ ?_ (by decide)|refine Lf.addn ?_ ?_ (by decide)|refine Lf.subn ?_ ?_ (by decide))) (by repeat' (first|exact Lf.mono (by assumption) (by decide)|refine Lf.muln ?_ ?_ (by decide)|refine Lf.addn ?_ ?_ (by decide)|refine Lf.subn ?_ ?_ (by decide))) (by repeat' (first|exact Lf.mono (by assumption) (by decide)|refine Lf.muln ?_ ?_ (by decide)|refine Lf.addn ?_ ?_ (by decide)|refine Lf.subn ?_ ?_ (by decide)))
 have hs:=squaresF (o1:=o1) (o2:=o2) (o3:=o3) (h.w.lm.mono (by decide))
 refine jY Tryz.func6 fun w00 hI=>?_
 refine jW hI 28 [gL 29,iT o1 o2 o3 x1 x2 x3 y1 y2 y3 z1 z2 z3,gL 30,hS n1 n2 n3 d] (readFH h k) ?_
 refine jC 34 [nV o1 o2 o3 x1 x2 x3 y1 y2 y3 z1 z2 z3] (hs) ?_
 refine jC 32 [gL 33,vc n1 n2 n3,vc (dt x1 x2 x3 x1 x2 x3) (dt y1 y2 y3 y1 y2 y3) (dt z1 z2 z3 z1 z2 z3)] (j) ?_
 refine jC 31 [nV o1 o2 o3 x1 x2 x3 y1 y2 y3 z1 z2 z3,vc (n1/dt x1 x2 x3 x1 x2 x3) (n2/dt y1 y2 y3 y1 y2 y3) (n3/dt z1 z2 z3 z1 z2 z3)] (hl) ?_
 refine jC 36 [vc q1 q2 q3,vc o1 o2 o3] (hd) ?_
 refine jC 35 [num d,num (dt q1 q2 q3 o1 o2 o3)] (hp) ?_
 refine jW hI 37 [hf q1 q2 q3 (d+dt q1 q2 q3 o1 o2 o3)] (hm) ?_
 exact jR Tryz.func6
theorem localHalf_O (h:Fv o1 o2 o3 x1 x2 x3 y1 y2 y3 z1 z2 z3) (k:Hv n1 n2 n3 d) (hm:jX 37 [hf (dt n1 n2 n3 x1 x2 x3) (dt n1 n2 n3 y1 y2 y3) (dt n1 n2 n3 z1 z2 z3) (-(dt n1 n2 n3 o1 o2 o3-d))] (oH k1 k2 k3 t e)) :
 jX 7 [iT o1 o2 o3 x1 x2 x3 y1 y2 y3 z1 z2 z3,hS n1 n2 n3 d] (oH k1 k2 k3 t e):=by
 obtain ⟨a1,a2,a3,b1,b2,b3,c1,c2,c3⟩:=h.w.lm.mono (l:=31) (by decide)
 have ho:=(zV h.w.o).mono (l:=31) (by decide)
 have he:=eachVNc Tryz.call36 (nE (cC k.s1) (cC k.s2) (cC k.s3) a1 a2 a3) (nE (cC k.s1) (cC k.s2) (cC k.s3) b1 b2 b3) (nE (cC k.s1) (cC k.s2) (cC k.s3) c1 c2 c3)
 have hE:=wX (cC k.s1) (cC k.s2) (cC k.s3) (k.d.lf.mono (by decide)) ho.a ho.b ho.c
 refine jY Tryz.func7 fun w00 hI=>?_
 refine jW hI 28 [gL 29,iT o1 o2 o3 x1 x2 x3 y1 y2 y3 z1 z2 z3,gL 30,hS n1 n2 n3 d] (readFH h k) ?_
 refine jC 38 [cloV 36 n1 n2 n3,mt x1 x2 x3 y1 y2 y3 z1 z2 z3] (he) ?_
 refine jC 39 [hf n1 n2 n3 d,vc o1 o2 o3] (hE) ?_
 refine jC 40 [num (dt n1 n2 n3 o1 o2 o3-d)] (negatedF) ?_
 refine jW hI 37 [hf (dt n1 n2 n3 x1 x2 x3) (dt n1 n2 n3 y1 y2 y3) (dt n1 n2 n3 z1 z2 z3) (-(dt n1 n2 n3 o1 o2 o3-d))] (hm) ?_
 exact jR Tryz.func7
end
section
variable {o1 o2 o3 x1 x2 x3 y1 y2 y3 z1 z2 z3 p1 p2 p3 d q1 q2 q3 m1 m2 m3:Rat} {n1 n2 n3 k1 k2 k3 e:Int} {t:ByteArray}
theorem directV {k:Nat} (h:Qf o1 o2 o3 x1 x2 x3 y1 y2 y3 z1 z2 z3) (a:Bq k p1) (b:Bq k p2) (c:Bq k p3) (hk:k≤1000):jF 48 [frA o1 o2 o3 x1 x2 x3 y1 y2 y3 z1 z2 z3,vS p1 p2 p3] (vS (ld p1 p2 p3 x1 y1 z1) (ld p1 p2 p3 x2 y2 z2) (ld p1 p2 p3 x3 y3 z3)):=by
 have k1:=pY a h.x1 h.x2 h.x3 (by omega) (by omega)
 have k2:=pY b h.y1 h.y2 h.y3 (by omega) (by omega)
 have k3:=addV2 (a.mul h.x1) (a.mul h.x2) (a.mul h.x3) (b.mul h.y1) (b.mul h.y2) (b.mul h.y3) (by omega) (by omega)
 have k4:=pY c h.z1 h.z2 h.z3 (by omega) (by omega)
 have k5:=addV2 ((a.mul h.x1).add (b.mul h.y1)) ((a.mul h.x2).add (b.mul h.y2)) ((a.mul h.x3).add (b.mul h.y3)) (c.mul h.z1) (c.mul h.z2) (c.mul h.z3) (by omega) (by omega)
 refine jG Tryz.func48 fun w00=>?_
 refine jC 118 _ (k1) ?_
 refine jC 118 _ (k2) ?_
 refine jC 117 _ (k3) ?_
 refine jC 118 _ (k4) ?_
 refine jC 117 _ (k5) ?_
 exact jR Tryz.func48
theorem ldk {k n:Nat} {x y z:Rat} (a:Bq k p1) (b:Bq k p2) (c:Bq k p3) (h:Q3 x y z) (hn:3*(k+30)+2≤n):Bq n (ld p1 p2 p3 x y z):=(((a.mul h.a).add (b.mul h.b)).add (c.mul h.c)).mono (by omega)
structure Nm (n1 n2 n3:Int):Prop where
 m:M3 n1 n2 n3
 a:Bq 10 (n1:Rat)
 b:Bq 10 (n2:Rat)
 c:Bq 10 (n3:Rat)
theorem aAi (h:Qf o1 o2 o3 x1 x2 x3 y1 y2 y3 z1 z2 z3) (n:Nm n1 n2 n3) (qd:Bq 30 d) (h0:Sq0 x1 x2 x3 y1 y2 y3 z1 z2 z3)
 (e1:ld (n1/dt x1 x2 x3 x1 x2 x3) (n2/dt y1 y2 y3 y1 y2 y3) (n3/dt z1 z2 z3 z1 z2 z3) x1 y1 z1=q1) (e2:ld (n1/dt x1 x2 x3 x1 x2 x3) (n2/dt y1 y2 y3 y1 y2 y3) (n3/dt z1 z2 z3 z1 z2 z3) x2 y2 z2=q2) (e3:ld (n1/dt x1 x2 x3 x1 x2 x3) (n2/dt y1 y2 y3 y1 y2 y3) (n3/dt z1 z2 z3 z1 z2 z3) x3 y3 z3=q3)
 (b1:Bq 668 q1) (b2:Bq 668 q2) (b3:Bq 668 q3) (hm:jF 50 [vS q1 q2 q3,tx (writeB (d+dt q1 q2 q3 o1 o2 o3))] (oH k1 k2 k3 t e)):jF 12 [frA o1 o2 o3 x1 x2 x3 y1 y2 y3 z1 z2 z3,hL n1 n2 n3 (writeB d)] (oH k1 k2 k3 t e):=by
 have r0:=refStretchF h
 have r1:=normalF (s:=writeB d) n.m.1 n.m.2.1 n.m.2.2
 have g1:=iW (pW (n.a.zs (by omega)) ((dtq h.x h.x).zs (by omega)) h0.x)
 have g2:=iW (pW (n.b.zs (by omega)) ((dtq h.y h.y).zs (by omega)) h0.y)
 have g3:=iW (pW (n.c.zs (by omega)) ((dtq h.z h.z).zs (by omega)) h0.z)
 have r2:=directV h (n.a.div (dtq h.x h.x)) (n.b.div (dtq h.y h.y)) (n.c.div (dtq h.z h.z)) (by omega)
 rw [e1,e2,e3] at r2
 have r3:=aAf b1 b2 b3 h.o1 h.o2 h.o3 (by omega)
 have qq:Bq 2096 (dt q1 q2 q3 o1 o2 o3):=Bq.dt b1 b2 b3 h.o1 h.o2 h.o3 (by omega)
 have r4:=iW (nN (qd.zs (by omega)) (qq.zs (by omega)))
 refine jG Tryz.func12 fun w00=>?_
 refine jC 46 _ (r0) ?_
 refine jC 47 _ (r1) ?_
 refine jC 49 _ (g1) ?_
 refine jC 49 _ (g2) ?_
 refine jC 49 _ (g3) ?_
 refine jC 48 _ (r2) ?_
 refine jC 52 _ (r3) ?_
 refine jC 51 _ (r4) ?_
 refine jC 50 _ (hm) ?_
 exact jR Tryz.func12
theorem aAj (h:Qf o1 o2 o3 x1 x2 x3 y1 y2 y3 z1 z2 z3) (n:Nm n1 n2 n3) (qd:Bq 30 d) (hm:jF 50 [vS (dt n1 n2 n3 x1 x2 x3) (dt n1 n2 n3 y1 y2 y3) (dt n1 n2 n3 z1 z2 z3),tx (writeB (-(dt n1 n2 n3 o1 o2 o3-d)))] (oH k1 k2 k3 t e)):jF 13 [frA o1 o2 o3 x1 x2 x3 y1 y2 y3 z1 z2 z3,hL n1 n2 n3 (writeB d)] (oH k1 k2 k3 t e):=by
 have r1:=normalF (s:=writeB d) n.m.1 n.m.2.1 n.m.2.2
 have g1:=aAf n.a n.b n.c h.x1 h.x2 h.x3 (by omega)
 have g2:=aAf n.a n.b n.c h.y1 h.y2 h.y3 (by omega)
 have g3:=aAf n.a n.b n.c h.z1 h.z2 h.z3 (by omega)
 have g4:=aAf n.a n.b n.c h.o1 h.o2 h.o3 (by omega)
 have qq:Bq 122 (dt (n1:Rat) n2 n3 o1 o2 o3):=Bq.dt n.a n.b n.c h.o1 h.o2 h.o3 (by omega)
 have r4:=iW (subR (qd.zs (by omega)) (qq.zs (by omega)))
 have e0:d-dt (n1:Rat) n2 n3 o1 o2 o3 = -(dt (n1:Rat) n2 n3 o1 o2 o3-d):=(Rat.neg_sub _ _).symm
 rw [e0] at r4
 refine jG Tryz.func13 fun w00=>?_
 refine jC 47 _ (r1) ?_
 refine jC 52 _ (g1) ?_
 refine jC 52 _ (g2) ?_
 refine jC 52 _ (g3) ?_
 refine jC 52 _ (g4) ?_
 refine jC 53 _ (r4) ?_
 refine jC 50 _ (hm) ?_
 exact jR Tryz.func13
end
theorem rV {x y z:Int} (hx:x=0∨Bf x) (hy:Eh y) (hz:f2 x y=z):jF 8 [.fv (.nsl 2 3 [lz x,lz y])] (it z):=by
 rcases hx with rfl|rfl|rfl|rfl|rfl
 ·have hz:y=z:=hz
  subst hz
  rcases hy with rfl|rfl|rfl|rfl|rfl <;> (refine lA Tryz.func8 (by kernel_rfl) fun w00=>?_;exact kret Tryz.func8 (by kernel_rfl))
 all_goals
  have hz:_=z:=hz
  subst hz
  refine lA Tryz.func8 (by kernel_rfl) fun w00=>?_
  exact jR Tryz.func8
section
variable {f:F12} {n1 n2 n3 x y z a1 a2 a3 b1 b2 b3 e g:Int} {s t u:ByteArray}
theorem moved_long1 (h:f.lo 30=true):jX 3 [f.av,hL n1 n2 n3 s] (bl true):=by
 have hs:=briefF h
 refine jY Tryz.func3 fun w00 hI=>?_
 refine jW hI 4 [] (uZ) ?_
 refine jC 5 _ (hs) ?_
 refine jW hI 4 [] (uZ) ?_
 exact jR Tryz.func3
theorem moved_long2 (h:f.lo 30=false) (hc:decide ((30:Int)<(s.size:Nat))=true):jX 3 [f.av,hL n1 n2 n3 s] (bl true):=by
 have hs:=briefF h
 refine jY Tryz.func3 fun w00 hI=>?_
 refine jW hI 4 [] (uZ) ?_
 refine jC 5 _ (hs) ?_
 refine jP 23 22 Tryz.underlying22 s ?_
 refine jM 24 s.size 30 true hc ?_
 refine jW hI 4 [] (uZ) ?_
 exact jR Tryz.func3
set_option maxRecDepth 100000 in
theorem moved_bad (h:f.lo 30=false) (hc:decide ((30:Int)<(s.size:Nat))=false) (cP:jX 6 [f.av,hL n1 n2 n3 s] (noH z)) (cL:jX 7 [f.av,hL n1 n2 n3 s] (noH z))
 (kF:jF 9 [f.av] (it x)) (kH:jF 10 [hL n1 n2 n3 s] (it y)) (k1:jF 8 [.fv (.nsl 2 3 [lz x,lz y])] (it z)) (hz:Bh z):jX 3 [f.av,hL n1 n2 n3 s] (bl true):=by
 have hs:=briefF h
 have k2:=fits_isI k1
 have pB:=fits_isI3 (planeBh hz)
 have h0:(!(z==0))=true:=by rcases hz with rfl|rfl|rfl|rfl|rfl|rfl <;> rfl
 refine jY Tryz.func3 fun w00 hI=>?_
 refine jW hI 4 [] (uZ) ?_
 refine jC 5 _ (hs) ?_
 refine jP 23 22 Tryz.underlying22 s ?_
 refine jM 24 s.size 30 false hc ?_
 refine jW hI 6 _ (cP) ?_
 refine jW hI 7 _ (cL) ?_
 refine jC 9 _ (kF) ?_
 refine jC 10 _ (kH) ?_
 refine jC 8 _ (k2) ?_
 refine kne (.tmp 46) (.const (.int .i64 0)) z 0 true _ aZ h0 ?_
 refine jC 11 _ (pB) ?_
 refine jC 11 _ (pB) ?_
 exact jR Tryz.func3
set_option maxRecDepth 100000 in
theorem moved_ok (h:f.lo 30=false) (hc:decide ((30:Int)<(s.size:Nat))=false) (cP:jX 6 [f.av,hL n1 n2 n3 s] (oH a1 a2 a3 t e)) (cL:jX 7 [f.av,hL n1 n2 n3 s] (oH b1 b2 b3 u g))
 (kF:jF 9 [f.av] (it 0)) (kH:jF 10 [hL n1 n2 n3 s] (it 0)) (rP:jF 12 [f.av,hL n1 n2 n3 s] (oH a1 a2 a3 t e)) (rL:jF 13 [f.av,hL n1 n2 n3 s] (oH b1 b2 b3 u g)) (hP:Oz a1 a2 a3 t e) (hL' : Oz b1 b2 b3 u g) :
 jX 3 [f.av,hL n1 n2 n3 s] (bl true):=by
 have hs:=briefF h
 have k1:=rV (x:=0) (y:=0) (.inl rfl) (.inl rfl) (f2_r rfl)
 have pP:=planeOz hP
 have pL:=planeOz hL'
 refine jY Tryz.func3 fun w00 hI=>?_
 refine jW hI 4 [] (uZ) ?_
 refine jC 5 _ (hs) ?_
 refine jP 23 22 Tryz.underlying22 s ?_
 refine jM 24 s.size 30 false hc ?_
 refine jW hI 6 _ (cP) ?_
 refine jW hI 7 _ (cL) ?_
 refine jC 9 _ (kF) ?_
 refine jC 10 _ (kH) ?_
 refine jC 8 _ (k1) ?_
 refine jC 12 _ (rP) ?_
 refine jC 13 _ (rL) ?_
 refine jC 11 _ (pP) ?_
 refine jC 11 _ (pL) ?_
 exact jR Tryz.func3
end
theorem gd_of {x1 x2 x3 y1 y2 y3 z1 z2 z3:Rat} (h:Ax x1 x2 x3 y1 y2 y3 z1 z2 z3):Gd x1 x2 x3 y1 y2 y3 z1 z2 z3:=by
 refine ⟨h.xy,h.yz,h.zx,?_⟩
 have hs:=h.s
 unfold nD bU at hs
 split at hs
 ·exact absurd hs (by decide)
 ·split at hs
  ·rename_i a
   exact a
  ·exact absurd hs (by decide)
theorem movedF (f:F12) (n1 n2 n3:Int) (m:M3 n1 n2 n3) (s:ByteArray):jX 3 [f.av,hL n1 n2 n3 s] (bl true):=by
 cases hl:f.lo 30 with
 | true=>exact moved_long1 hl
 | false =>
   have h:=F12.ss_of hl
   cases hc:decide ((30:Int)<(s.size:Nat)) with
   | true=>exact moved_long2 hl hc
   | false =>
     have hs:Ss s:=by have:=of_decide_eq_false hc;show s.size≤30;omega
     have rs:Rb s:=hs.sl.rb
     have kH:=aAg (n1:=n1) (n2:=n2) (n3:=n3) (s:=s) (by have h:s.size≤30:=hs;omega) rfl
     rcases frame_cases h with ⟨o1,o2,o3,x1,x2,x3,y1,y2,y3,z1,z2,z3,rfl,q,hx,e0⟩|⟨z,hz,ck,kF⟩
     ·have wf:=q.wf
      have fv:=Fr.fv_of wf hx
      have kF:=pI q
      rw [e0] at kF
      by_cases ho:kh n1 n2 n3 s=0
      ·rw [ho] at kH
       obtain ⟨d,rfl,qd⟩:=slwN (n:=30) hs (by omega) (hk_zero ho).2.2.2.2.2
       obtain ⟨z00,b1,b2,b3,hk0,hd0⟩:=hk_zero ho
       unfold Bg at b1 b2 b3
       have hv:Hv n1 n2 n3 d:=⟨by constructor <;> omega,by constructor <;> omega,by constructor <;> omega,qd.wr (by omega),pG hk0⟩
       have nm:Nm n1 n2 n3:=⟨m,vF (by omega) (by omega),vF (by omega) (by omega),vF (by omega) (by omega)⟩
       have g:=gd_of hx
       have q0:=sq0_of hx
       have dx:=nm.a.div (dtq q.x q.x)
       have dy:=nm.b.div (dtq q.y q.y)
       have dz:=nm.c.div (dtq q.z q.z)
       have l1:Bq 668 (ld (n1/dt x1 x2 x3 x1 x2 x3) (n2/dt y1 y2 y3 y1 y2 y3) (n3/dt z1 z2 z3 z1 z2 z3) x1 y1 z1):=ldk dx dy dz ⟨q.x1,q.y1,q.z1⟩ (by omega)
       have l2:Bq 668 (ld (n1/dt x1 x2 x3 x1 x2 x3) (n2/dt y1 y2 y3 y1 y2 y3) (n3/dt z1 z2 z3 z1 z2 z3) x2 y2 z2):=ldk dx dy dz ⟨q.x2,q.y2,q.z2⟩ (by omega)
       have l3:Bq 668 (ld (n1/dt x1 x2 x3 x1 x2 x3) (n2/dt y1 y2 y3 y1 y2 y3) (n3/dt z1 z2 z3 z1 z2 z3) x3 y3 z3):=ldk dx dy dz ⟨q.x3,q.y3,q.z3⟩ (by omega)
       have fq:=g.fwd (n1/dt x1 x2 x3 x1 x2 x3) (n2/dt y1 y2 y3 y1 y2 y3) (n3/dt z1 z2 z3 z1 z2 z3)
       rw [pJ q0.x,pJ q0.y,pJ q0.z] at fq
       obtain ⟨q1,eq1⟩:∃ q,ld (n1/dt x1 x2 x3 x1 x2 x3) (n2/dt y1 y2 y3 y1 y2 y3) (n3/dt z1 z2 z3 z1 z2 z3) x1 y1 z1=q:=⟨_,rfl⟩
       obtain ⟨q2,eq2⟩:∃ q,ld (n1/dt x1 x2 x3 x1 x2 x3) (n2/dt y1 y2 y3 y1 y2 y3) (n3/dt z1 z2 z3 z1 z2 z3) x2 y2 z2=q:=⟨_,rfl⟩
       obtain ⟨q3,eq3⟩:∃ q,ld (n1/dt x1 x2 x3 x1 x2 x3) (n2/dt y1 y2 y3 y1 y2 y3) (n3/dt z1 z2 z3 z1 z2 z3) x3 y3 z3=q:=⟨_,rfl⟩
       rw [eq1] at l1
       rw [eq2] at l2
       rw [eq3] at l3
       rw [eq1,eq2,eq3] at fq
       have ni:∀ {n:Int},(n:Rat)=0→n=0:=fun h=>by exact_mod_cast h
       have z3' : ∀ {a b c:Rat},dt 0 0 0 a b c=0:=fun {a b c}=>by unfold dt;grind
       have k0:¬ (q1=0∧q2=0∧q3=0):=fun ⟨e1,e2,e3⟩=>by
        rw [e1,e2,e3,z3',z3',z3'] at fq
        exact z00 ⟨ni fq.1.symm,ni fq.2.1.symm,ni fq.2.2.symm⟩
       have qD:Bq 2127 (d+dt q1 q2 q3 o1 o2 o3):=(qd.add (Bq.dt l1 l2 l3 q.o1 q.o2 q.o3 (n:=2096) (by omega))).mono (by omega)
       have mb:∀ {a b c:Rat},Q3 a b c→Bq 122 (dt (n1:Rat) n2 n3 a b c):=fun h=>Bq.dt nm.a nm.b nm.c h.a h.b h.c (by omega)
       have m0:¬ (dt (n1:Rat) n2 n3 x1 x2 x3=0∧dt (n1:Rat) n2 n3 y1 y2 y3=0∧dt (n1:Rat) n2 n3 z1 z2 z3=0):=fun ⟨e1,e2,e3⟩=>by
        have b:=g.back n1 n2 n3
        have dz:∀ s:Rat,(0:Rat)/s=0:=fun s=>by rw [Rat.div_def,Rat.zero_mul]
        have lz:∀ x y z:Rat,ld 0 0 0 x y z=0:=fun x y z=>by unfold ld;grind
        rw [e1,e2,e3,dz,dz,dz,lz,lz,lz] at b
        exact z00 ⟨ni b.1.symm,ni b.2.1.symm,ni b.2.2.symm⟩
       have mD:Bq 153 (-(dt (n1:Rat) n2 n3 o1 o2 o3-d)):=((mb q.o).sub qd).neg
       obtain ⟨a1,a2,a3,t,e,hP,wP,rP⟩:=mk_any l1 l2 l3 qD (by omega) (by omega) (by omega) k0
       obtain ⟨c1,c2,c3,u,g',hL',wL,rL⟩:=mk_any (mb q.x) (mb q.y) (mb q.z) mD (by omega) (by omega) (by omega) m0
       have L:∀ {q:Rat},Bq 668 q→Lf 30 q:=fun h=>(h.lf (by omega)).mono (by decide)
       exact moved_ok hl hc (placeHalf_O fv hv q0 eq1 eq2 eq3 (L l1) (L l2) (L l3) wP) (localHalf_O fv hv wL) kF kH (aAi q nm qd q0 eq1 eq2 eq3 l1 l2 l3 rP) (aAj q nm qd rL) hP hL'
      ·have hb:Bh (kh n1 n2 n3 s):=by
        rcases kh_eh (n1:=n1) (n2:=n2) (n3:=n3) (s:=s) with e|e|e|e|e
        ·exact absurd e ho
        all_goals simp [Bh,e]
       exact moved_bad hl hc (vJ fv m rs rfl ho) (vK fv m rs rfl ho) kF kH (rV (.inl rfl) kh_eh (f2_r rfl)) hb
     ·have h0:z≠0:=by rcases hz with rfl|rfl|rfl|rfl <;> decide
      exact moved_bad hl hc (vH h.rb m rs ck hz) (vI h.rb m rs ck hz) kF kH (rV (.inr hz) kh_eh (f2_l h0)) (by rcases hz with rfl|rfl|rfl|rfl <;> simp [Bh])
end Ab
namespace Ab
open Go.ChangeShapes Go.WideShapes Go.ChangeAt Go.RowKit
theorem gPow:Tryz.prog.globalNamed "internal/strconv.uint64pow10" = some 7:=by kernel_rfl
theorem gl_of {W:World} {r:List (String×DataW Unit)} (h:laidMet Tryz.prog (("internal/strconv.uint64pow10",Lib.tabData .u64 Lib.pow10Tab)::r) W) (hs:W.ShapedOpen Tryz.prog):Gl W :=
 ⟨Lib.tabIs_of_head (t:=303) (e:=151) (n:=20) gPow (by kernel_rfl) (by kernel_rfl) (by kernel_rfl) (by kernel_rfl) (by kernel_rfl) h,
  Go.Proofs.cell_of_shapedOpen_int (zero := #[.int .i64 0]) (t:=3) hs (of_decide_eq_true (by kernel_rfl)) (by kernel_rfl) rfl (by kernel_rfl) (by kernel_rfl) (by kernel_rfl)⟩
end Ab
namespace Ab
open Go.ChangeShapes Go.WideShapes Go.RowKit
def lH (P:Program):Nat→TypeId→Nat→Option Bool
 | 0,_,_=>none
 | d+1,T,i=>match P.underlying T with
   | some (.int .i64)=>if i=0 then some false else none
   | some .string=>if i=0 then some true else none
   | some (.array n e)=>if 0<P.cellsOf e∧i/P.cellsOf e<n then lH P d e (i%P.cellsOf e) else none
   | some (.struct fs)=>(fs.toList.find? fun f=>decide (f.offset≤i∧i<f.offset+P.cellsOf f.type)).bind fun f=>lH P d f.type (i-f.offset)
   | _=>none
def isKind:Bool→Value→Prop
 | true,c => ∃ s:ByteArray,c = .string s∧s.size≤maxLen
 | false,c => ∃ n:Int,c = .int .i64 n∧(Lit.int .i64 n).wf=true
section
variable {H:Type} {enc:TypeId×Value→H} {P:Program} {w:World} {base:Nat} {spare:Nat→Bool} {held:Bool}
theorem piece {cs:List Value} {o n r:Nat} {c:Value} (h:((cs.drop o).take n)[r]?=some c):cs[o+r]?=some c:=by
 rw [List.getElem?_take] at h
 split at h
 ·rw [List.getElem?_drop] at h;exact h
 ·cases h
theorem trod_kind:∀ (d:Nat) {T:TypeId} {fuel i:Nat} {cs:List Value} {x:DataW H×List MemPlace} {k:Bool},DataW.trod enc P w base spare held fuel T cs=some x→lH P d T i=some k→∃ c,cs[i]?=some c∧isKind k c:=by
 intro d
 induction d with
 | zero=>intro T fuel i cs x k _ hk;cases hk
 | succ d ih =>
   intro T fuel i cs x k h hk
   unfold lH at hk
   split at hk
   ·rename_i hu
    split at hk <;> cases hk
    rename_i h0
    subst h0
    cases fuel with
    | zero=>cases h
    | succ m =>
      unfold DataW.trod at h
      rw [hu] at h
      split at h <;> simp_all
      obtain ⟨⟨_,hw⟩,_⟩:=h
      cases ‹IntKind.i64=_›
      exact ⟨_,rfl,hw⟩
   ·rename_i hu
    split at hk <;> cases hk
    rename_i h0
    subst h0
    cases fuel with
    | zero=>cases h
    | succ m =>
      unfold DataW.trod at h
      rw [hu] at h
      split at h <;> simp_all
      exact ⟨_,rfl,h.1⟩
   ·rename_i n e hu
    split at hk
    ·rename_i hi
     obtain ⟨xs,m,_,_,_,hlen,hat⟩:=DataW.trod_array hu h
     have hq:=hat (i/P.cellsOf e) hi.2
     rw [List.getElem?_eq_getElem (by omega)] at hq
     obtain ⟨c,hc,hk'⟩:=ih hq hk
     refine ⟨c,?_,hk'⟩
     have:=piece hc
     rw [Nat.mul_comm,Nat.div_add_mod] at this
     exact this
    ·cases hk
   ·rename_i fs hu
    rw [Option.bind_eq_some_iff] at hk
    obtain ⟨f,hf,hk⟩:=hk
    have hp:=List.find?_some hf
    simp only [decide_eq_true_eq] at hp
    obtain ⟨j,hj,hje⟩:=List.getElem_of_mem (List.mem_of_find?_eq_some hf)
    obtain ⟨xs,n,_,_,_,hlen,hat⟩:=DataW.trod_struct hu h
    have hq:=hat j f (by rw [← hje];simp)
    rw [List.getElem?_eq_getElem (by simp at hj;omega)] at hq
    obtain ⟨c,hc,hk'⟩:=ih hq hk
    refine ⟨c,?_,hk'⟩
    have:=piece hc
    rw [show f.offset+(i-f.offset)=i by omega] at this
    exact this
   ·cases hk
def rW (P:Program):Nat→TypeId→Bool
 | 0,_=>false
 | d+1,T=>match P.underlying T with
   | some (.int _)|some .string=>true
   | some (.array _ e)=>rW P d e
   | some (.struct fs)=>fs.toList.all fun f=>rW P d f.type
   | _=>false
theorem vL {α β:Type} {f g:α→Option (β×List MemPlace)}:∀ {l:List α} {xs:List (β×List MemPlace)},l.mapM f=some xs→(∀ a∈l,∀ x,f a=some x→g a=some x∧x.2 = [])→l.mapM g=some xs∧xs.flatMap (·.2) = []
 | [],xs,h,_=>by simp at h;subst h;exact ⟨rfl,rfl⟩
 | a::l,xs,h,hs=>by
   rw [List.mapM_cons] at h
   simp only [bind,Option.bind_eq_some_iff,pure,Option.some.injEq] at h
   obtain ⟨y,hy,ys,hys,rfl⟩:=h
   obtain ⟨g1,g2⟩:=hs a (by simp) y hy
   obtain ⟨i1,i2⟩:=vL hys fun b hb=>hs b (by simp [hb])
   exact ⟨by rw [List.mapM_cons,g1,i1];rfl,by simp [g2,i2]⟩
def SameRead (enc:TypeId×Value→H) (P:Program) (w:World) (base:Nat) (spare:Nat→Bool) (held:Bool) (w' : World) (base' : Nat) (spare' : Nat→Bool) (d:Nat):Prop :=
 ∀ (T:TypeId) (fuel:Nat) (cs:List Value) (x:DataW H×List MemPlace),rW P d T=true→DataW.trod enc P w base spare held fuel T cs=some x→DataW.trod enc P w' base' spare' held fuel T cs=some x∧x.2 = []
theorem trod_plain {w' : World} {base' : Nat} {spare' : Nat→Bool}:∀ d:Nat,SameRead enc P w base spare held w' base' spare' d:=by
 intro d
 induction d with
 | zero=>intro T fuel cs x hp;cases hp
 | succ d ih =>
   intro T fuel cs x hp h
   cases fuel with
   | zero=>cases h
   | succ m =>
     unfold rW at hp
     unfold DataW.trod at h ⊢
     split at hp
     ·rename_i hu
      rw [hu] at h ⊢
      split at h <;> simp_all <;> (obtain ⟨_,h⟩:=h;rw [← h])
     ·rename_i hu
      rw [hu] at h ⊢
      split at h <;> simp_all <;> (obtain ⟨_,h⟩:=h;rw [← h])
     ·rename_i hu
      rw [hu] at h ⊢
      split at h <;> simp_all
      obtain ⟨hl,xs,hxs,rfl⟩:=h
      obtain ⟨g1,g2⟩:=vL hxs fun a _ x hx=>ih _ _ _ _ hp hx
      exact ⟨⟨xs,g1,rfl⟩,g2⟩
     ·rename_i hu
      rw [hu] at h ⊢
      split at h <;> simp_all
      obtain ⟨hl,xs,hxs,rfl⟩:=h
      obtain ⟨g1,g2⟩:=vL hxs fun a ha x hx=>ih _ _ _ _ (by obtain ⟨j,hj,rfl⟩:=List.getElem_of_mem ha;simpa using hp j (by simpa using hj)) hx
      exact ⟨⟨xs,g1,rfl⟩,g2⟩
     ·cases hp
theorem zP {w' : World} {base' : Nat} {spare' : Nat→Bool} {T:TypeId} {v:Value} {D:DataW H} {p:List MemPlace} (hp:rW P 10 T=true) (h:DataW.Trod enc P w base spare held T v D p):p = []∧DataW.Trod enc P w' base' spare' held T v D []:=by
 obtain ⟨fuel,hf⟩:=h
 obtain ⟨h1,h2⟩:=trod_plain (w':=w') (base':=base') (spare':=spare') 10 _ _ _ _ hp hf
 simp only at h2
 subst h2
 exact ⟨rfl,fuel,h1⟩
theorem agg_of {r:Reach} {b0 n:Nat} {T:TypeId} {v:Value} (hu:(match P.underlying T with|some (.struct _)|some (.array _ _)=>true|_=>false)=true) (hC:P.cellsOf T=n) (hv:Value.okWide P w r b0 T v):∃ cs:Array Value,v = .agg cs∧cs.size=n:=by
 split at hu
 ·rename_i hs
  simp only [Value.okWide,hs] at hv
  obtain ⟨cs,h1,h2,_⟩:=hv
  exact ⟨cs,h1,h2.trans hC⟩
 ·rename_i hs
  simp only [Value.okWide,hs] at hv
  obtain ⟨cs,h1,h2,_⟩:=hv
  exact ⟨cs,h1,h2.trans hC⟩
 ·cases hu
theorem tT {T:TypeId} {cs:Array Value} {D:DataW H} {p:List MemPlace} {k:Bool} (i:Nat) (h:DataW.Trod enc P w base spare held T (.agg cs) D p) (hk:lH P 10 T i=some k):∃ c,cs[i]?=some c∧isKind k c:=by
 obtain ⟨fuel,hf⟩:=h
 obtain ⟨c,h1,h2⟩:=trod_kind 10 hf hk
 exact ⟨c,by simpa [Value.cells] using h1,h2⟩
theorem open_txts {r:Reach} {b0 n:Nat} {T:TypeId} {v:Value} {D:DataW H} {p:List MemPlace} (hu:(match P.underlying T with|some (.struct _)|some (.array _ _)=>true|_=>false)=true) (hC:P.cellsOf T=n)
 (hk:((List.range n).all fun i=>lH P 10 T i==some true)=true) (hv:Value.okWide P w r b0 T v) (h:DataW.Trod enc P w base spare held T v D p):∃ l:List ByteArray,l.length=n∧v = .agg (l.map Value.string).toArray:=by
 obtain ⟨cs,rfl,hs⟩:=agg_of hu hC hv
 refine ⟨cs.toList.map fun v=>match v with | .string s=>s|_=>default,by simp [hs],?_⟩
 congr 1
 apply Array.toList_inj.1
 rw [List.map_map]
 apply List.ext_getElem
 ·simp
 ·intro i h1 h2
  have hi:i<n:=by simpa [hs] using h1
  have hk':=List.all_eq_true.1 hk i (List.mem_range.2 hi)
  obtain ⟨c,e,s,rfl,_⟩:=tT i h (eq_of_beq hk')
  have e2:cs.toList[i] = .string s:=by
   have:=Array.getElem?_eq_some_iff.1 e
   simpa using this.2
  simp [e2]
theorem open_half {r:Reach} {b0:Nat} {T:TypeId} {v:Value} {D:DataW H} {p:List MemPlace} (hu:(match P.underlying T with|some (.struct _)|some (.array _ _)=>true|_=>false)=true) (hC:P.cellsOf T=4)
 (hk:(lH P 10 T 0,lH P 10 T 1,lH P 10 T 2,lH P 10 T 3)=(some false,some false,some false,some true)) (hv:Value.okWide P w r b0 T v) (h:DataW.Trod enc P w base spare held T v D p):∃ (a b c:Int) (s:ByteArray),v = .agg #[.int .i64 a,.int .i64 b,.int .i64 c,.string s]∧s.size≤maxLen:=by
 simp only [Prod.mk.injEq] at hk
 obtain ⟨cs,rfl,hs⟩:=agg_of hu hC hv
 obtain ⟨c0,c1,c2,c3,rfl⟩:∃ c0 c1 c2 c3,cs = #[c0,c1,c2,c3]:=by
  obtain ⟨l⟩:=cs
  match l,hs with
  | [c0,c1,c2,c3],_=>exact ⟨c0,c1,c2,c3,rfl⟩
 obtain ⟨_,e0,a,rfl,ha⟩:=tT 0 h hk.1
 obtain ⟨_,e1,b,rfl,hb⟩:=tT 1 h hk.2.1
 obtain ⟨_,e2,c,rfl,hc⟩:=tT 2 h hk.2.2.1
 obtain ⟨_,e3,d,rfl,hd⟩:=tT 3 h hk.2.2.2
 simp at e0 e1 e2 e3
 subst e0 e1 e2 e3
 exact ⟨a,b,c,d,rfl,hd⟩
end
end Ab
end Go.Proofs.YtklnecajplnboaaGreatDoor
