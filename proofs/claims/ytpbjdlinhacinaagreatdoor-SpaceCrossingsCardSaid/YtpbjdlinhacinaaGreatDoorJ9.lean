/- Parts of the proof, joined. -/
import Derived.Test.YtpbjdlinhacinaaGreatDoorJ8
import Derived.Test.YtpbjdlinhacinaaGreatDoorJ6
import Derived.Test.YtpbjdlinhacinaaGreatDoorJ7
import Derived.WalkKit
import Derived.ProofKit
import Derived.OpenShut
import Derived.Deep.DeepHandedRow
import Derived.Deep.DeepWitnessRowRef
import Derived.Lib.LaidTab
import Derived.Stop.LaidErr
import Derived.Shelf.Vars
import Derived.Lay
import Derived.Test.YtpbjdlinhacinaaGreatDoorProg
import Derived.ChangeArms
set_option maxHeartbeats 4000000
set_option linter.unusedSimpArgs false
set_option linter.unusedVariables false
set_option linter.constructorNameAsVariable false
namespace Go.Proofs.YtpbjdlinhacinaaGreatDoor
namespace Ab
open Go.RowKit Pl
theorem t0_dec (q:Rat):((writeB q).toList==(⟨#[48]⟩:ByteArray).toList)=decide (q=0):=by
 by_cases h:q=0
 ·rw [decide_eq_true h,t0_eq h]
 ·rw [decide_eq_false h,t0_ne h]
theorem isZeroQ (q:Rat):jF 63 [tx (writeB q)] (bl (decide (q=0))):=isZeroT (t0_dec q)
section
variable {o1 o2 o3 x1 x2 x3 y1 y2 y3 z1 z2 z3:Rat} {k:Nat}
theorem isOriginQ (a b c:Rat):jF 12 [vS a b c] (bl (decide (a=0)&&decide (b=0)&&decide (c=0))):=isOriginT (by rw [t0_dec,t0_dec,t0_dec])
end
theorem calls_s1 {f:FuncId} {s u:ByteArray} (h:jF f [rS s] (rS u)) (w:World):Calls Tryz.prog f #[.string s] w fun e w'=>e = .returned (.string u)∧Below w.heap.size w w' :=
 (h [] w [.string s] ⟨_,_,rfl,cG,rfl⟩).mono fun e w' ⟨v,e1,e2,e3⟩=>⟨by rw [e1,bC e3],e2⟩
theorem zH {f:FuncId} {s t u:ByteArray} (h:jF f [rS s,rS t] (rS u)) (w:World):Calls Tryz.prog f #[.string s,.string t] w fun e w'=>e = .returned (.string u)∧Below w.heap.size w w' :=
 (h [] w [.string s,.string t] ⟨_,_,rfl,cG,_,_,rfl,cG,rfl⟩).mono fun e w' ⟨v,e1,e2,e3⟩=>⟨by rw [e1,bC e3],e2⟩
theorem calls_sb {f:FuncId} {s:ByteArray} {r:Bool} (h:jF f [tx s] (bl r)) (w:World):Calls Tryz.prog f #[.string s] w fun e w'=>e = .returned (.bool r)∧Below w.heap.size w w' :=
 (h [] w [.string s] ⟨_,_,rfl,bD,rfl⟩).mono fun e w' ⟨v,e1,e2,e3⟩=>⟨by rw [e1,aM e3],e2⟩
noncomputable def wN (n:Nat):ByteArray:=writeB ((n:Int):Rat)
theorem uZ {k n:Nat} (h:n<10^(k+1)):Zs k ((n:Int):Rat):=by
 refine ⟨by simpa using h,?_⟩
 rw [Rat.den_intCast]
 exact Nat.one_lt_pow (by omega) (by omega)
theorem over_mk (a b:Nat):((a:Int):Rat)/((b:Int):Rat)=mkRat (a:Int) b:=by rw [Rat.mkRat_eq_div];rfl
theorem zs_over {k a b:Nat} (ha:a<10^(k+1)) (hb:b<10^(k+1)) (h0:0<b):Zs k (((a:Int):Rat)/((b:Int):Rat)):=by
 obtain ⟨q,hq⟩:∃ q,mkRat (a:Int) b=q:=⟨_,rfl⟩
 rw [over_mk,hq]
 obtain ⟨n,d,z,c⟩:=q
 obtain ⟨m,hm,e1,e2⟩:=Rat.mkRat_num_den (by omega) hq
 have h1:a=n.natAbs*m:=by
  have:=congrArg Int.natAbs e1
  rwa [Int.natAbs_natCast,Int.natAbs_mul,Int.natAbs_natCast] at this
 exact ⟨Nat.lt_of_le_of_lt (h1▸Nat.le_mul_of_pos_right _ (by omega)) ha,Nat.lt_of_le_of_lt (e2▸Nat.le_mul_of_pos_right _ (by omega)) hb⟩
theorem floor_over {a b:Nat} (h0:0<b):(((a:Int):Rat)/((b:Int):Rat)).floor=((a/b:Nat):Int):=by
 rw [over_mk,Rat.floor_def]
 obtain ⟨q,hq⟩:∃ q,mkRat (a:Int) b=q:=⟨_,rfl⟩
 obtain ⟨n,d,z,c⟩:=q
 obtain ⟨m,hm,e1,e2⟩:=Rat.mkRat_num_den (by omega) hq
 rw [hq,Int.natCast_ediv,e1,e2,Int.natCast_mul,Int.mul_ediv_mul_of_pos_left _ _ (by omega)]
theorem sub_mod (a b:Nat):((a:Int):Rat)-(((b*(a/b):Nat):Int):Rat)=(((a%b:Nat):Int):Rat):=by
 have h:=Nat.div_add_mod a b
 have h2:(a:Int)-((b*(a/b):Nat):Int)=((a%b:Nat):Int):=by
  have:((b*(a/b)+a%b:Nat):Int)=(a:Int):=by rw [h]
  rw [Int.natCast_add] at this
  omega
 rw [← h2,Rat.intCast_sub]
theorem mul_int (a b:Nat):((a:Int):Rat)*((b:Int):Rat)=(((a*b:Nat):Int):Rat):=by
 rw [Int.natCast_mul,Rat.intCast_mul]
theorem wN_zero (n:Nat):decide (((n:Int):Rat)=0)=decide (n=0):=by
 rw [decide_eq_decide]
 constructor
 ·intro h;have:=congrArg Rat.num h;simpa using this
 ·rintro rfl;rfl
section
variable {K x y:Nat}
theorem zeroN_any (n:Nat) (w:World):Calls Tryz.prog 63 #[.string (wN n)] w fun e w'=>e = .returned (.bool (decide (n=0)))∧Below w.heap.size w w':=by
 have h:=calls_sb (isZeroQ ((n:Int):Rat)) w
 rw [wN_zero] at h
 exact h
theorem divN_any (hK:K=10000) (hx:x<10^(K+1)) (hy:y<10^(K+1)) (h0:0<y) (w:World) :
 Calls Tryz.prog 46 #[.string (wN x),.string (wN y)] w fun e w'=>e = .returned (.string (writeB (((x:Int):Rat)/((y:Int):Rat))))∧Below w.heap.size w w':=by
 have z1:=uZ hx
 have z2:=uZ hy
 rw [hK] at z1 z2
 exact zH (refDivF z1 z2 (by intro h;have:=congrArg Rat.num h;simp at this;omega)) w
theorem floorN_any (hK:K=10000) (hx:x<10^(K+1)) (hy:y<10^(K+1)) (h0:0<y) (w:World) :
 Calls Tryz.prog 117 #[.string (writeB (((x:Int):Rat)/((y:Int):Rat)))] w fun e w'=>e = .returned (.string (wN (x/y)))∧Below w.heap.size w w':=by
 have z1:=zs_over hx hy h0
 rw [hK] at z1
 have h:=calls_s1 (refFloorF z1) w
 rw [floor_over h0] at h
 exact h
theorem mulN_any (hK:K=10000) (hx:x<10^(K+1)) (hy:y<10^(K+1)) (w:World) :
 Calls Tryz.prog 43 #[.string (wN x),.string (wN y)] w fun e w'=>e = .returned (.string (wN (x*y)))∧Below w.heap.size w w':=by
 have z1:=uZ hx
 have z2:=uZ hy
 rw [hK] at z1 z2
 have h:=zH (fL z1 z2) w
 rw [mul_int] at h
 exact h
theorem subN_any (hK:K=10000) (hx:x<10^(K+1)) (hy:y*(x/y)<10^(K+1)) (w:World) :
 Calls Tryz.prog 42 #[.string (wN x),.string (wN (y*(x/y)))] w fun e w'=>e = .returned (.string (wN (x%y)))∧Below w.heap.size w w':=by
 have z1:=uZ hx
 have z2:=uZ hy
 rw [hK] at z1 z2
 have h:=zH (subR z1 z2) w
 rw [sub_mod] at h
 exact h
end
def GcdAtT (w:World) (T a b k:Nat) (va vb:Value) (wr:World):Prop := ∃ x,va = .string (wN x)∧vb = .string (wN k)∧Nat.gcd x k=Nat.gcd a b∧x<T∧k<T∧Below w.heap.size w wr
set_option maxRecDepth 100000 in
theorem refGcd_any {K a b:Nat} (hK:K=10000) (ha:a<10^(K+1)) (hb:b<10^(K+1)) (w:World) :
 Calls Tryz.prog 47 #[.string (wN a),.string (wN b)] w fun e w'=>e = .returned (.string (wN (Nat.gcd a b)))∧Below w.heap.size w w':=by
 have H1:=aH (fun (x y:Nat) (W:World) (hx:x<10^(K+1)) (hy:y<10^(K+1)) (h0:0<y)=>divN_any hK hx hy h0 W)
 have H2:=aH (fun (x y:Nat) (W:World) (hx:x<10^(K+1)) (hy:y<10^(K+1)) (h0:0<y)=>floorN_any hK hx hy h0 W)
 have H3:=aH (fun (x y:Nat) (W:World) (hx:x<10^(K+1)) (hy:y<10^(K+1))=>mulN_any hK hx hy W)
 have H4:=aH (fun (x y:Nat) (W:World) (hx:x<10^(K+1)) (hy:y*(x/y)<10^(K+1))=>subN_any hK hx hy W)
 generalize 10^(K+1)=T at *
 have HA:=aH (aI ha hb)
 clear ha hb hK
 go_enter Tryz.func47,Tryz.ntmps47
 go_wp2
 go_loopg [0,1] b (fun k va vb wr=>GcdAtT w T a b k va vb wr)
 case atStart=>exact ⟨a,rfl,rfl,rfl,HA.out.1,HA.out.2,aB _ _⟩
 case round =>
  obtain ⟨x,rfl,rfl,hg,hxT,hkT,hbe⟩:=hrel
  have HR:=aH (aI hg (aI hxT (aI hkT hbe)))
  clear hg hxT hkT hbe
  go_wp2_with fail
  refine (zeroN_any gk _).mono ?_
  rintro e w1 ⟨rfl,hb1⟩
  have HB1:=aH hb1
  clear hb1
  rcases Nat.eq_zero_or_pos gk with h0|h0
  ·rw [decide_eq_true h0]
   have HK:=aH h0
   clear h0
   go_wp2
   go_ret
   obtain ⟨hg,hxT,hkT,hbe⟩:=HR.out
   refine ⟨?_,Below.step_trans' hbe HB1.out⟩
   rw [← hg,HK.out,Nat.gcd_zero_right]
   rfl
  ·rw [decide_eq_false (by omega)]
   have HK:=aH h0
   clear h0
   go_wp2_with fail
   refine (H1.out x gk _ HR.out.2.1 HR.out.2.2.1 HK.out).mono ?_
   rintro e w2 ⟨rfl,hb2⟩
   have HB2:=aH hb2
   clear hb2
   go_wp2_with fail
   refine (H2.out x gk _ HR.out.2.1 HR.out.2.2.1 HK.out).mono ?_
   rintro e w3 ⟨rfl,hb3⟩
   have HB3:=aH hb3
   clear hb3
   go_wp2_with fail
   refine (H3.out gk (x/gk) _ HR.out.2.2.1 (Nat.lt_of_le_of_lt (Nat.div_le_self _ _) HR.out.2.1)).mono ?_
   rintro e w4 ⟨rfl,hb4⟩
   have HB4:=aH hb4
   clear hb4
   go_wp2_with fail
   refine (H4.out x gk _ HR.out.2.1 (Nat.lt_of_le_of_lt (Nat.mul_div_le _ _) HR.out.2.1)).mono ?_
   rintro e w5 ⟨rfl,hb5⟩
   have HB5:=aH hb5
   clear hb5
   go_wp2
   go_roundg (x%gk)
   case measure=>exact Nat.mod_lt _ HK.out
   case rel =>
    obtain ⟨hg,hxT,hkT,hbe⟩:=HR.out
    exact ⟨gk,rfl,rfl,by rw [← hg,Nat.gcd_comm gk,Nat.gcd_comm x,Nat.gcd_rec gk x],hkT,Nat.lt_trans (Nat.mod_lt _ HK.out) hkT,Below.step_trans' (Below.step_trans' (Below.step_trans' (Below.step_trans' (Below.step_trans' hbe HB1.out) HB2.out) HB3.out) HB4.out) HB5.out⟩
theorem refGcdF {K a b:Nat} (hK:K=10000) (ha:a<10^(K+1)) (hb:b<10^(K+1)):jF 47 [tx (wN a),tx (wN b)] (tx (wN (Nat.gcd a b))):=by
 intro β w vs hv
 obtain ⟨v,u,rfl,h1,h2⟩:=dM hv
 rw [aO h1,aO h2]
 exact (refGcd_any hK ha hb w).mono fun e w' ⟨e1,e2⟩=>⟨_,e1,e2,bD⟩
theorem norm_one {xs:List Nat} (hn:Norm xs) (hd:Dig B9 xs) (h:val B9 xs<1000000000):xs = []∨∃ d,xs = [d]:=by
 match xs,hn,hd,h with
 | [],_,_,_=>exact .inl rfl
 | [d],_,_,_=>exact .inr ⟨d,rfl⟩
 | d :: e::l,hn,hd,h =>
   exfalso
   have hn' : Norm (e::l):=fun hne=>by
    have:=hn (by simp)
    simpa using this
   have hp:0<val B9 (e::l):=hn'.pos cE (by simp)
   have h1:val B9 (d::e::l)=d+B9*val B9 (e::l):=by simp [val]
   have h2:B9*1≤B9*val B9 (e::l):=Nat.mul_le_mul_left _ hp
   have h9:B9=1000000000:=rfl
   omega
set_option maxRecDepth 100000 in
theorem toInt_any (z:Int) (hz:z.natAbs<1000000000) (w:World) :
 Calls Tryz.prog 51 #[.string (writeB (z:Rat))] w fun e w'=>e = .returned (.tuple #[.int .i64 z,.bool true])∧Below w.heap.size w w':=by
 have hs:(aN z).size≤10:=kI (k:=8) (by omega)
 have hd:(decB z.natAbs).size≤100000:=by have:=decB_size (k:=8) (a:=z.natAbs) (by omega);omega
 have et:writeB (z:Rat)=aN z:=(bZ z).symm
 have hw:∀ W,Calls Tryz.prog 121 #[.string (aN z)] W fun e w'=>e = .returned (.bool true)∧Below W.heap.size W w':=fun W=>by
  have h:=zC (q:=(z:Rat)) (by rw [et];omega)
  rw [decide_eq_true (by simp),et] at h
  exact (h [] W [.string (aN z)] ⟨_,_,rfl,cG,rfl⟩).mono fun e w' ⟨v,e1,e2,e3⟩=>⟨by rw [e1,bS e3],e2⟩
 have hp:∀ W,Calls Tryz.prog 122 #[.string (aN z)] W fun e w' => ∃ v,e = .returned v∧Go.Proofs.YtpbjdlinhacinaaGreatDoor.In w' v z∧Below W.heap.size W w':=fun W =>
  ((parseF hd) [] W [.string (aN z)] ⟨_,_,rfl,cG,rfl⟩).mono fun e w' ⟨v,e1,e2,e3⟩=>⟨v,e1,kW.1 e3,e2⟩
 rw [et]
 generalize aN z=s at *
 have HW:=aH hw
 have HP:=aH hp
 have HZ:=aH hz
 clear hw hp hd et hz
 have k20:¬ (20:Int)<s.size:=by omega
 clear hs
 go_enter Tryz.func51,Tryz.ntmps51
 go_wp2_with fail
 refine (HW.out _).mono ?_
 rintro e w0 ⟨rfl,hb0⟩
 have HB0:=aH hb0
 clear hb0
 go_wp2_with fail
 refine (HP.out _).mono ?_
 rintro e w1 ⟨v,rfl,hi,hb1⟩
 obtain ⟨A,n,c,xs,rfl,hr,hdg,hn,hv⟩:=hi
 have HB1:=aH hb1
 clear hb1
 rcases norm_one hn hdg (by rw [hv];exact HZ.out) with rfl|⟨d,rfl⟩
 ·have hz0:z=0:=by simp [val] at hv;omega
  have hn0:n=0:=by simpa using hr.len.symm
  subst hz0 hn0
  clear hr hdg hn hv
  go_wp2
  go_loopg [5,6] 0 (fun k va vb wr=>va = .int .i64 0∧vb = .int .i64 (-1)∧Below w.heap.size w wr)
  case atStart =>
   have hb:=Below.step_trans' HB0.out HB1.out
   exact ⟨rfl,rfl,hb.alloc hb.size _⟩
  case round =>
   obtain ⟨rfl,rfl,hb⟩:=hrel
   have HR:=aH hb
   clear hb
   go_wp2
   go_ret2
   exact ⟨rfl,HR.out⟩
 ·have hdv:d=z.natAbs:=by simpa [val] using hv
  have hn1:n=1:=by simpa using hr.len.symm
  subst hn1
  obtain ⟨ad,y,rfl,hblk,hyt,hcy⟩:=hr.at_ (k:=0) (by omega)
  obtain rfl:d=y:=by simpa using hyt
  obtain ⟨ng,hng⟩:∃ ng,decide (z<0)=ng:=⟨_,rfl⟩
  rw [hng]
  have HC:=aH (fun o=>show (w1.alloc o).cell? ad=some (.int .i64 (d:Int)) by
   have h:=(((aB _ w1).alloc (aR _) o).cell (p:=ad.add 0) (by rw [bK];exact hblk)).trans hcy
   simpa [Addr.add] using h)
  have hzd:z=if ng=true then -(d:Int) else (d:Int):=by
   subst hng
   by_cases h:z<0 <;> simp [h] <;> omega
  have hd9:(d:Int)<1000000000:=by have:=HZ.out;omega
  have HD:=aH (aI hzd hd9)
  clear hr hdg hn hv hdv hblk hyt hcy hzd hng
  go_wp2
  go_loopg [5,6] 1 (fun k va vb wr=>wr=w1.alloc (.cells #[.bool ng,.slice (some ad) 1 c] 165)∧((k=0∧va = .int .i64 z∧vb = .int .i64 (-1))∨(k=1∧va = .int .i64 0∧vb = .int .i64 0)))
  case atStart=>exact ⟨rfl,.inr ⟨rfl,rfl,rfl⟩⟩
  case round =>
   obtain ⟨rfl,⟨rfl,rfl,rfl⟩|⟨rfl,rfl,rfl⟩⟩:=hrel
   ·go_wp2
    go_ret2
    have hb:=Below.step_trans' HB0.out HB1.out
    exact ⟨rfl,hb.alloc hb.size _⟩
   ·have hc:=HC.out (.cells #[.bool ng,.slice (some ad) 1 c] 165)
    cases ng
    ·go_wp2
     go_roundg 0
     case measure=>omega
     case rel=>exact ⟨rfl,.inl ⟨rfl,by rw [HD.out.1];simp,rfl⟩⟩
    ·go_wp2
     go_roundg 0
     case measure=>omega
     case rel=>exact ⟨rfl,.inl ⟨rfl,by rw [HD.out.1];simp,rfl⟩⟩
theorem gE {z:Int} (hz:z.natAbs<1000000000):jF 51 [tx (writeB (z:Rat))] (.tup [.sc (.lit (.int .i64 z)),.sc (.lit (.bool true))]):=by
 intro β w vs hv
 obtain ⟨v,rfl,h1⟩:=dF hv
 rw [aO h1]
 exact (toInt_any z hz w).mono fun e w' ⟨e1,e2⟩=>⟨_,e1,e2,_,rfl,_,_,rfl,⟨rfl,rfl⟩,_,_,rfl,⟨rfl,rfl⟩,rfl⟩
abbrev one:ByteArray:=⟨#[49]⟩
abbrev nul:ByteArray:=⟨#[48]⟩
structure MkA (x y z d b1 b2 b3 c1 c2 c3 e1 e2 e3 k1 k2 k3 p1 p2 p3 w1 w2 w3 s1 s2 s3 k4 dd:ByteArray):Prop where
 o:jF 12 [t3 x y z] (bl false)
 d1:jF 45 [tx x] (tx b1)
 g1:jF 47 [lt one,tx b1] (tx c1)
 q1:jF 46 [tx b1,tx c1] (tx e1)
 m1:jF 43 [lt one,tx e1] (tx k1)
 d2:jF 45 [tx y] (tx b2)
 g2:jF 47 [tx k1,tx b2] (tx c2)
 q2:jF 46 [tx b2,tx c2] (tx e2)
 m2:jF 43 [tx k1,tx e2] (tx k2)
 d3:jF 45 [tx z] (tx b3)
 g3:jF 47 [tx k2,tx b3] (tx c3)
 q3:jF 46 [tx b3,tx c3] (tx e3)
 m3:jF 43 [tx k2,tx e3] (tx k3)
 a1:jF 43 [tx x,tx k3] (tx p1)
 v1:jF 48 [tx p1] (tx w1)
 u1:jF 47 [tx w1,lt nul] (tx s1)
 a2:jF 43 [tx y,tx k3] (tx p2)
 v2:jF 48 [tx p2] (tx w2)
 u2:jF 47 [tx w2,tx s1] (tx s2)
 a3:jF 43 [tx z,tx k3] (tx p3)
 v3:jF 48 [tx p3] (tx w3)
 u3:jF 47 [tx w3,tx s2] (tx s3)
 f:jF 46 [tx k3,tx s3] (tx k4)
 t:jF 43 [tx d,tx k4] (tx dd)
structure MkB (x y z k4 i1 i2 i3 n1 n2 n3 mx:ByteArray):Prop where
 r1:jF 43 [tx x,tx k4] (tx i1)
 j1:jF 48 [tx i1] (tx n1)
 r2:jF 43 [tx y,tx k4] (tx i2)
 j2:jF 48 [tx i2] (tx n2)
 r3:jF 43 [tx z,tx k4] (tx i3)
 j3:jF 48 [tx i3] (tx n3)
 w:jF 50 [it 999999999] (tx mx)
theorem zI {f:FuncId} {args:List (AV Kn)} {z:Int} (h:jF f args (it z)):jF f args (.fv (.sc (fA z))) :=
 fun β w vs hv=>(h β w vs hv).mono fun e w' ⟨v,e1,e2,e3⟩=>⟨v,e1,e2,by rw [aM e3];exact bD⟩
section
variable {x y z d b1 b2 b3 c1 c2 c3 e1 e2 e3 k1 k2 k3 p1 p2 p3 w1 w2 w3 s1 s2 s3 k4 dd i1 i2 i3 n1 n2 n3 mx:ByteArray} {q1 q2 q3 m1 m2 m3:Int}
set_option maxRecDepth 100000 in
theorem mkBigW (h:MkA x y z d b1 b2 b3 c1 c2 c3 e1 e2 e3 k1 k2 k3 p1 p2 p3 w1 w2 w3 s1 s2 s3 k4 dd) (l:MkB x y z k4 i1 i2 i3 n1 n2 n3 mx) (y1:jF 49 [tx n1,tx mx] (.fv (.sc (fA q1)))) (W:decide ((0:Int)<q1)=true∨∃ m1 q2:Int,decide ((0:Int)<q1)=false∧jF 51 [tx i1] (.tup [.sc (.lit (.int .i64 m1)),.sc (.lit (.bool true))])∧jF 49 [tx n2,tx mx] (.fv (.sc (fA q2)))∧(decide ((0:Int)<q2)=true∨∃ m2 q3:Int,decide ((0:Int)<q2)=false∧jF 51 [tx i2] (.tup [.sc (.lit (.int .i64 m2)),.sc (.lit (.bool true))])∧jF 49 [tx n3,tx mx] (.fv (.sc (fA q3)))∧(decide ((0:Int)<q3)=true∨∃ m3:Int,decide ((0:Int)<q3)=false∧jF 51 [tx i3] (.tup [.sc (.lit (.int .i64 m3)),.sc (.lit (.bool true))])∧jF 52 [tx dd] (it 4)))):jF 13 [t3 x y z,tx d] (.tup [.ag [.lit (.int .i64 0),.lit (.int .i64 0),.lit (.int .i64 0),.lit (.string ⟨#[]⟩)],.sc (.lit (.int .i64 4))]):=by
 refine jG Tryz.func13 fun w00=>?_
 refine jC 12 [t3 x y z] (h.o) ?_
 refine jC 45 [tx x] (h.d1) ?_
 refine jC 47 [lt one,tx b1] (h.g1) ?_
 refine jC 46 [tx b1,tx c1] (h.q1) ?_
 refine jC 43 [lt one,tx e1] (h.m1) ?_
 refine jC 45 [tx y] (h.d2) ?_
 refine jC 47 [tx k1,tx b2] (h.g2) ?_
 refine jC 46 [tx b2,tx c2] (h.q2) ?_
 refine jC 43 [tx k1,tx e2] (h.m2) ?_
 refine jC 45 [tx z] (h.d3) ?_
 refine jC 47 [tx k2,tx b3] (h.g3) ?_
 refine jC 46 [tx b3,tx c3] (h.q3) ?_
 refine jC 43 [tx k2,tx e3] (h.m3) ?_
 refine jC 43 [tx x,tx k3] (h.a1) ?_
 refine jC 48 [tx p1] (h.v1) ?_
 refine jC 47 [tx w1,lt nul] (h.u1) ?_
 refine jC 43 [tx y,tx k3] (h.a2) ?_
 refine jC 48 [tx p2] (h.v2) ?_
 refine jC 47 [tx w2,tx s1] (h.u2) ?_
 refine jC 43 [tx z,tx k3] (h.a3) ?_
 refine jC 48 [tx p3] (h.v3) ?_
 refine jC 47 [tx w3,tx s2] (h.u3) ?_
 refine jC 46 [tx k3,tx s3] (h.f) ?_
 refine jC 43 [tx d,tx k4] (h.t) ?_
 refine jC 43 [tx x,tx k4] (l.r1) ?_
 refine jC 48 [tx i1] (l.j1) ?_
 refine jC 50 [it 999999999] (l.w) ?_
 refine jC 49 [tx n1,tx mx] (y1) ?_
 rcases W with z1|⟨m1,q2,z1,g1,y2,W⟩
 ·refine jM 65 q1 0 true z1 ?_
  exact jR Tryz.func13
 refine jM 65 q1 0 false z1 ?_
 refine jC 51 [tx i1] (g1) ?_
 refine jC 43 [tx y,tx k4] (l.r2) ?_
 refine jC 48 [tx i2] (l.j2) ?_
 refine jC 50 [it 999999999] (l.w) ?_
 refine jC 49 [tx n2,tx mx] (y2) ?_
 rcases W with z2|⟨m2,q3,z2,g2,y3,W⟩
 ·refine jM 65 q2 0 true z2 ?_
  exact jR Tryz.func13
 refine jM 65 q2 0 false z2 ?_
 refine jC 51 [tx i2] (g2) ?_
 refine jC 43 [tx z,tx k4] (l.r3) ?_
 refine jC 48 [tx i3] (l.j3) ?_
 refine jC 50 [it 999999999] (l.w) ?_
 refine jC 49 [tx n3,tx mx] (y3) ?_
 rcases W with z3|⟨m3,z3,g3,g⟩
 ·refine jM 65 q3 0 true z3 ?_
  exact jR Tryz.func13
 refine jM 65 q3 0 false z3 ?_
 refine jC 51 [tx i3] (g3) ?_
 refine jC 52 [tx dd] (g) ?_
 exact jR Tryz.func13
set_option maxRecDepth 100000 in
theorem mkFine (h:MkA x y z d b1 b2 b3 c1 c2 c3 e1 e2 e3 k1 k2 k3 p1 p2 p3 w1 w2 w3 s1 s2 s3 k4 dd) (l:MkB x y z k4 i1 i2 i3 n1 n2 n3 mx) (y1:jF 49 [tx n1,tx mx] (.fv (.sc (fA q1)))) (z1:decide ((0:Int)<q1)=false) (g1:jF 51 [tx i1] (.tup [.sc (.lit (.int .i64 m1)),.sc (.lit (.bool true))])) (y2:jF 49 [tx n2,tx mx] (.fv (.sc (fA q2)))) (z2:decide ((0:Int)<q2)=false) (g2:jF 51 [tx i2] (.tup [.sc (.lit (.int .i64 m2)),.sc (.lit (.bool true))])) (y3:jF 49 [tx n3,tx mx] (.fv (.sc (fA q3)))) (z3:decide ((0:Int)<q3)=false) (g3:jF 51 [tx i3] (.tup [.sc (.lit (.int .i64 m3)),.sc (.lit (.bool true))])) (g:jF 52 [tx dd] (it 0)):jF 13 [t3 x y z,tx d] (.tup [.ag [.lit (.int .i64 m1),.lit (.int .i64 m2),.lit (.int .i64 m3),cQ dd],.sc (.lit (.int .i64 0))]):=by
 refine jG Tryz.func13 fun w00=>?_
 refine jC 12 [t3 x y z] (h.o) ?_
 refine jC 45 [tx x] (h.d1) ?_
 refine jC 47 [lt one,tx b1] (h.g1) ?_
 refine jC 46 [tx b1,tx c1] (h.q1) ?_
 refine jC 43 [lt one,tx e1] (h.m1) ?_
 refine jC 45 [tx y] (h.d2) ?_
 refine jC 47 [tx k1,tx b2] (h.g2) ?_
 refine jC 46 [tx b2,tx c2] (h.q2) ?_
 refine jC 43 [tx k1,tx e2] (h.m2) ?_
 refine jC 45 [tx z] (h.d3) ?_
 refine jC 47 [tx k2,tx b3] (h.g3) ?_
 refine jC 46 [tx b3,tx c3] (h.q3) ?_
 refine jC 43 [tx k2,tx e3] (h.m3) ?_
 refine jC 43 [tx x,tx k3] (h.a1) ?_
 refine jC 48 [tx p1] (h.v1) ?_
 refine jC 47 [tx w1,lt nul] (h.u1) ?_
 refine jC 43 [tx y,tx k3] (h.a2) ?_
 refine jC 48 [tx p2] (h.v2) ?_
 refine jC 47 [tx w2,tx s1] (h.u2) ?_
 refine jC 43 [tx z,tx k3] (h.a3) ?_
 refine jC 48 [tx p3] (h.v3) ?_
 refine jC 47 [tx w3,tx s2] (h.u3) ?_
 refine jC 46 [tx k3,tx s3] (h.f) ?_
 refine jC 43 [tx d,tx k4] (h.t) ?_
 refine jC 43 [tx x,tx k4] (l.r1) ?_
 refine jC 48 [tx i1] (l.j1) ?_
 refine jC 50 [it 999999999] (l.w) ?_
 refine jC 49 [tx n1,tx mx] (y1) ?_
 refine jM 65 q1 0 false z1 ?_
 refine jC 51 [tx i1] (g1) ?_
 refine jC 43 [tx y,tx k4] (l.r2) ?_
 refine jC 48 [tx i2] (l.j2) ?_
 refine jC 50 [it 999999999] (l.w) ?_
 refine jC 49 [tx n2,tx mx] (y2) ?_
 refine jM 65 q2 0 false z2 ?_
 refine jC 51 [tx i2] (g2) ?_
 refine jC 43 [tx z,tx k4] (l.r3) ?_
 refine jC 48 [tx i3] (l.j3) ?_
 refine jC 50 [it 999999999] (l.w) ?_
 refine jC 49 [tx n3,tx mx] (y3) ?_
 refine jM 65 q3 0 false z3 ?_
 refine jC 51 [tx i3] (g3) ?_
 refine jC 52 [tx dd] (g) ?_
 exact jR Tryz.func13
end
theorem den_mul (q:Rat):q*((q.den:Int):Rat)=((q.num:Int):Rat):=by
 have h1:((q.den:Int):Rat)≠0:=by
  intro h
  have:=q.den_nz
  have h:=Rat.intCast_inj.1 (h.trans Rat.intCast_zero.symm)
  omega
 have h2:q=q.num/((q.den:Int):Rat):=by
  have:=Rat.mkRat_eq_div q.num q.den
  rw [Rat.mkRat_self] at this
  exact this
 have h3:=Rat.div_mul_cancel (a:=(q.num:Rat)) h1
 rwa [← h2] at h3
theorem int_mul {q:Rat} {L:Nat} (h:q.den ∣ L):q*((L:Int):Rat)=((q.num*((L/q.den:Nat):Int):Int):Rat):=by
 obtain ⟨t,ht⟩:=h
 have e:=den_mul q
 rw [ht,Nat.mul_div_cancel_left _ q.den_pos,Int.natCast_mul,Rat.intCast_mul,← Rat.mul_assoc,e,Rat.intCast_mul]
theorem gcd3_mul (P a b c:Nat):Nat.gcd (P*c) (Nat.gcd (P*b) (P*a))=P*Nat.gcd c (Nat.gcd b a):=by
 rw [Nat.gcd_mul_left,Nat.gcd_mul_left]
theorem gcd3_int {z1 z2 z3:Int} (h:Int.gcd (Int.gcd z1 z2:Int) z3=1):Nat.gcd z3.natAbs (Nat.gcd z2.natAbs z1.natAbs)=1:=by
 rw [Int.gcd,Int.natAbs_natCast,Int.gcd,Nat.gcd_comm,Nat.gcd_comm z1.natAbs] at h
 exact h
theorem rX {n:Nat} (h:0<n):((n:Int):Rat)≠0:=by
 intro e
 have:=Rat.intCast_inj.1 (e.trans Rat.intCast_zero.symm)
 omega
theorem whole_LG {F n1 n2 n3:Rat} {z1 z2 z3 M1 M2 M3:Int} {L P Q:Nat} (hQ:0<Q) (hF2:F*((Q:Int):Rat)=((P:Int):Rat)) (hL:0<L) (e1:F*n1=z1) (e2:F*n2=z2) (e3:F*n3=z3) (hg:Int.gcd (Int.gcd z1 z2:Int) z3=1)
 (m1:n1*((L:Int):Rat)=M1) (m2:n2*((L:Int):Rat)=M2) (m3:n3*((L:Int):Rat)=M3) {G:Nat} (hG:Nat.gcd M3.natAbs (Nat.gcd M2.natAbs M1.natAbs)=G) :
 0<G∧((L:Int):Rat)/((G:Int):Rat)=F:=by
 have key:∀ {n:Rat} {z M:Int},F*n=z→n*((L:Int):Rat)=M→(P:Int)*M=(Q:Int)*L*z:=by
  intro n z M h1 h2
  have:(((P:Int)*M:Int):Rat)=(((Q:Int)*L*z:Int):Rat):=by
   rw [Rat.intCast_mul,Rat.intCast_mul,Rat.intCast_mul,← hF2,← h2,← h1]
   grind
  exact Rat.intCast_inj.1 this
 have nat:∀ {z M:Int},(P:Int)*M=(Q:Int)*L*z→P*M.natAbs=Q*L*z.natAbs:=by
  intro z M h
  have:=congrArg Int.natAbs h
  simpa [Int.natAbs_mul] using this
 have k1:=nat (key e1 m1)
 have k2:=nat (key e2 m2)
 have k3:=nat (key e3 m3)
 have hPG:P*G=Q*L:=by
  rw [← hG,← gcd3_mul,k1,k2,k3,gcd3_mul,gcd3_int hg,Nat.mul_one]
 have hG0:0<G:=by
  rcases Nat.eq_zero_or_pos G with h|h
  ·rw [h,Nat.mul_zero] at hPG
   have:=Nat.mul_pos hQ hL
   omega
  ·exact h
 refine ⟨hG0,?_⟩
 have r:((P:Int):Rat)*((G:Int):Rat)=((Q:Int):Rat)*((L:Int):Rat):=by
  rw [← Rat.intCast_mul,← Rat.intCast_mul,← Int.natCast_mul,← Int.natCast_mul,hPG]
 have hq:=rX hQ
 have hgn:=rX hG0
 rw [← hF2] at r
 have r2:F*((G:Int):Rat)=((L:Int):Rat):=by
  have:((Q:Int):Rat)*(F*((G:Int):Rat))=((Q:Int):Rat)*((L:Int):Rat):=by rw [← r];grind
  have h:=congrArg (fun x=>((Q:Int):Rat)⁻¹*x) this
  simpa only [← Rat.mul_assoc,Rat.inv_mul_cancel _ hq,Rat.one_mul] using h
 rw [← r2]
 exact Rat.mul_div_cancel hgn
section
variable {a b k i:Nat}
theorem up_ten {n k K:Nat} (hK:K=10000) (h:n<10^k) (hk:k≤10000):n<10^(K+1):=Nat.lt_of_lt_of_le h (Nat.pow_le_pow_right (by omega) (by omega))
theorem gcdT (ha:a<10^k) (hb:b<10^k) (hk:k≤10000):jF 47 [tx (wN a),tx (wN b)] (tx (wN (Nat.gcd a b))):=by
 obtain ⟨K,hK⟩:∃ K,K=10000:=⟨_,rfl⟩
 exact refGcdF hK (up_ten hK ha hk) (up_ten hK hb hk)
theorem zsT (ha:a<10^k) (hk:k≤10000) (h0:0<k):Zs 10000 ((a:Int):Rat):=(uY (z:=(a:Int)) (by rw [Int.natAbs_natCast];exact ha) h0).zs hk
theorem divT (ha:a<10^k) (hb:b<10^k) (hk:k≤10000) (h0:0<k) (hb0:0<b) (hd:b ∣ a):jF 46 [tx (wN a),tx (wN b)] (tx (wN (a/b))):=by
 have h:=kX (refDivF (zsT ha hk h0) (zsT hb hk h0) (rX hb0))
 obtain ⟨t,rfl⟩:=hd
 have e:(((b*t:Nat):Int):Rat)/((b:Int):Rat)=((t:Int):Rat):=by
  rw [Int.natCast_mul,Rat.intCast_mul,Rat.mul_comm,Rat.mul_div_cancel (rX hb0)]
 rw [e] at h
 rw [Nat.mul_div_cancel_left _ hb0]
 exact h
theorem mulT (ha:a<10^k) (hb:b<10^k) (hk:k≤10000) (h0:0<k):jF 43 [tx (wN a),tx (wN b)] (tx (wN (a*b))):=by
 have h:=kX (fL (zsT ha hk h0) (zsT hb hk h0))
 rw [mul_int] at h
 exact h
theorem denT {q:Rat} (h:(writeB q).size≤1000000000):jF 45 [tx (writeB q)] (tx (wN q.den)):=by
 have e:wN q.den=decB q.den:=by
  show writeB _=_
  rw [← bZ,aN,if_neg (by omega),Int.natAbs_natCast]
 rw [e]
 exact zB (denOfF h)
theorem absT {z:Int} (hs:(aN z).size≤1000000000):jF 48 [tx (writeB (z:Rat))] (tx (wN z.natAbs)):=by
 have e:wN z.natAbs=decB z.natAbs:=by
  show writeB _=_
  rw [← bZ,aN,if_neg (by omega),Int.natAbs_natCast]
 rw [e,← bZ]
 exact zB (absTF hs)
theorem lit1 {f:FuncId} {s t:ByteArray} {x:AV Kn} (h:jF f [tx s,tx t] x):jF f [lt s,tx t] x:=fun β w vs hv=>by
 obtain ⟨v,u,rfl,h1,h2⟩:=dM hv
 rw [aM h1]
 exact h β w _ ⟨_,_,rfl,bD,_,_,rfl,h2,rfl⟩
theorem lit2 {f:FuncId} {s t:ByteArray} {x:AV Kn} (h:jF f [tx s,tx t] x):jF f [tx s,lt t] x:=fun β w vs hv=>by
 obtain ⟨v,u,rfl,h1,h2⟩:=dM hv
 rw [aM h2]
 exact h β w _ ⟨_,_,rfl,h1,_,_,rfl,bD,rfl⟩
theorem kk_lt (ha:a<10^i) (hb:b<10^k):a*(b/Nat.gcd a b)<10^(i+k):=by
 rw [Nat.pow_add]
 exact Nat.lt_of_le_of_lt (Nat.mul_le_mul_left _ (Nat.div_le_self _ _)) (Nat.mul_lt_mul'' ha hb)
theorem dvd_kk (a b:Nat):b ∣ a*(b/Nat.gcd a b):=by
 refine ⟨a/Nat.gcd a b,?_⟩
 rw [← Nat.mul_div_assoc _ (Nat.gcd_dvd_right a b),Nat.mul_comm a b,Nat.mul_div_assoc _ (Nat.gcd_dvd_left a b)]
theorem kk_pos (ha:0<a) (hb:0<b):0<a*(b/Nat.gcd a b):=Nat.mul_pos ha (Nat.div_pos (Nat.le_of_dvd hb (Nat.gcd_dvd_right _ _)) (Nat.gcd_pos_of_pos_left _ ha))
end
theorem wN_one:wN 1=one:=w1
theorem wN_nul:wN 0=nul:=w0
structure MkN (n1 n2 n3 d F:Rat) (z1 z2 z3:Int):Prop where
 a:∃ b1 b2 b3 c1 c2 c3 e1 e2 e3 k1 k2 k3 p1 p2 p3 w1 w2 w3 s1 s2 s3,MkA (writeB n1) (writeB n2) (writeB n3) (writeB d) b1 b2 b3 c1 c2 c3 e1 e2 e3 k1 k2 k3 p1 p2 p3 w1 w2 w3 s1 s2 s3 (writeB F) (writeB (d*F))
 b:MkB (writeB n1) (writeB n2) (writeB n3) (writeB F) (writeB (z1:Rat)) (writeB (z2:Rat)) (writeB (z3:Rat)) (wN z1.natAbs) (wN z2.natAbs) (wN z3.natAbs) (writeB ((999999999:Int):Rat))
theorem size_of {q:Rat} {k:Nat} (h:Bq k q) (hk:k≤10000):(writeB q).size≤1000000000:=by
 have:=zs_len (h.zs hk)
 omega
theorem text_of {z:Int} {k:Nat} (h:z.natAbs<10^k) (hk:k≤10000):(aN z).size≤1000000000:=by
 have:=kI (z:=z) (k:=k) (Nat.lt_of_lt_of_le h (Nat.pow_le_pow_right (by omega) (by omega)))
 omega
theorem mkN {n1 n2 n3 d:Rat} {k j:Nat} (q1:Bq k n1) (q2:Bq k n2) (q3:Bq k n3) (qd:Bq j d) (hk0:0<k) (hk:4*k≤9999) (hj:j≤10000) (h0:¬ (n1=0∧n2=0∧n3=0)) {z1 z2 z3:Int}
 (f1:bG n1 n2 n3*n1=z1) (f2:bG n1 n2 n3*n2=z2) (f3:bG n1 n2 n3*n3=z3) (hg:Int.gcd (Int.gcd z1 z2:Int) z3=1):MkN n1 n2 n3 d (bG n1 n2 n3) z1 z2 z3:=by
 obtain ⟨_,_,_,_,_,_,_,P,Q,hP,hQ,hw,_⟩:=zD h0
 have hF2:bG n1 n2 n3*((Q:Int):Rat)=((P:Int):Rat):=by
  rw [hw,Rat.mkRat_eq_div]
  exact Rat.div_mul_cancel (rX hQ)
 generalize bG n1 n2 n3=F at *
 obtain ⟨b1,hb1⟩:∃ b,b=n1.den:=⟨_,rfl⟩
 obtain ⟨b2,hb2⟩:∃ b,b=n2.den:=⟨_,rfl⟩
 obtain ⟨b3,hb3⟩:∃ b,b=n3.den:=⟨_,rfl⟩
 have p1:0<b1:=hb1▸n1.den_pos
 have p2:0<b2:=hb2▸n2.den_pos
 have p3:0<b3:=hb3▸n3.den_pos
 have t1:b1<10^k:=hb1▸q1.2
 have t2:b2<10^k:=hb2▸q2.2
 have t3:b3<10^k:=hb3▸q3.2
 have one_lt:1<10^k:=Nat.one_lt_pow (by omega) (by omega)
 have up:∀ {n i:Nat},n<10^i→i≤4*k→n<10^(4*k):=fun h hi=>Nat.lt_of_lt_of_le h (Nat.pow_le_pow_right (by omega) hi)
 obtain ⟨k1,hk1⟩:∃ k1,k1=1*(b1/Nat.gcd 1 b1):=⟨_,rfl⟩
 obtain ⟨k2,hk2⟩:∃ k2,k2=k1*(b2/Nat.gcd k1 b2):=⟨_,rfl⟩
 obtain ⟨k3,hk3⟩:∃ k3,k3=k2*(b3/Nat.gcd k2 b3):=⟨_,rfl⟩
 have l1:k1<10^k:=by
  have:k1=b1:=by rw [hk1,Nat.gcd_one_left,Nat.div_one,Nat.one_mul]
  rw [this];exact t1
 have l2:k2<10^(k+k):=hk2▸kk_lt l1 t2
 have l3:k3<10^(k+k+k):=hk3▸kk_lt l2 t3
 have o1:0<k1:=hk1▸kk_pos (by omega) p1
 have o2:0<k2:=hk2▸kk_pos o1 p2
 have o3:0<k3:=hk3▸kk_pos o2 p3
 have d3:n3.den ∣ k3:=hb3▸hk3▸dvd_kk k2 b3
 have d2:n2.den ∣ k3:=hb2▸Nat.dvd_trans (hk2▸dvd_kk k1 b2) (hk3▸Nat.dvd_mul_right k2 _)
 have d1:n1.den ∣ k3:=hb1▸Nat.dvd_trans (hk1▸dvd_kk 1 b1) (Nat.dvd_trans (hk2▸Nat.dvd_mul_right k1 _) (hk3▸Nat.dvd_mul_right k2 _))
 have mk:∀ {q:Rat},Bq k q→q.den ∣ k3→∃ M:Int,q*((k3:Int):Rat)=M∧M.natAbs<10^(4*k):=fun {q} hq hd=>by
  refine ⟨_,int_mul hd,?_⟩
  rw [Int.natAbs_mul,Int.natAbs_natCast]
  have e:4*k=k+(k+k+k):=by omega
  rw [e,Nat.pow_add]
  exact Nat.mul_lt_mul'' hq.1 (Nat.lt_of_le_of_lt (Nat.div_le_self _ _) l3)
 obtain ⟨M1,m1,v1⟩:=mk q1 d1
 obtain ⟨M2,m2,v2⟩:=mk q2 d2
 obtain ⟨M3,m3,v3⟩:=mk q3 d3
 obtain ⟨hG0,hLG⟩:=whole_LG hQ hF2 o3 f1 f2 f3 hg m1 m2 m3 rfl
 have g1:Nat.gcd M1.natAbs 0=M1.natAbs:=Nat.gcd_zero_right _
 have gl:∀ {x y:Nat},y<10^(4*k)→x<10^(4*k)→Nat.gcd x y<10^(4*k):=fun {x y} hy hx=>by
  rcases Nat.eq_zero_or_pos x with h|h
  ·rw [h,Nat.gcd_zero_left];exact hy
  ·exact Nat.lt_of_le_of_lt (Nat.gcd_le_left _ h) hx
 have x2:=gl v1 v2
 have x3:=gl x2 v3
 have h4:0<4*k:=by omega
 have up1:∀ {n:Nat},n<10^(4*k)→n<10^(4*k+1):=fun {n} h=>Nat.lt_of_lt_of_le h (Nat.pow_le_pow_right (by omega) (by omega))
 have l3' : k3<10^(4*k):=up l3 (by omega)
 have zF:Zs 10000 F:=by
  rw [← hLG]
  have z:=zs_over (k:=4*k) (up1 l3') (up1 x3) hG0
  exact Bq.zs (k:=4*k+1) z (by omega)
 have hb:∀ {q:Rat},Bq k q→(writeB q).size≤1000000000:=fun h=>size_of h (by omega)
 have ht:∀ {z:Int},z.natAbs<10^(4*k)→(aN z).size≤1000000000:=fun h=>text_of h (by omega)
 have mulM:∀ {q:Rat} {M:Int},Bq k q→q*((k3:Int):Rat)=M→jF 43 [tx (writeB q),tx (wN k3)] (tx (writeB (M:Rat))):=fun {q M} hq e=>by
  have h:=kX (fL (hq.zs (by omega)) (zsT l3' (by omega) h4))
  rw [e] at h
  exact h
 have mulF:∀ {q:Rat} {z:Int},Bq k q→F*q=z→jF 43 [tx (writeB q),tx (writeB F)] (tx (writeB (z:Rat))):=fun {q z} hq e=>by
  have h:=kX (fL (hq.zs (by omega)) zF)
  rw [Rat.mul_comm,e] at h
  exact h
 have b1' : b1<10^(4*k):=up t1 (by omega)
 have b2' : b2<10^(4*k):=up t2 (by omega)
 have b3' : b3<10^(4*k):=up t3 (by omega)
 have k1' : k1<10^(4*k):=up l1 (by omega)
 have k2' : k2<10^(4*k):=up l2 (by omega)
 have one' : 1<10^(4*k):=up one_lt (by omega)
 have nul' : 0<10^(4*k):=by omega
 have gd:∀ {x y:Nat},0<y→y<10^(4*k)→Nat.gcd x y<10^(4*k):=fun {x y} h0 hy=>Nat.lt_of_le_of_lt (Nat.gcd_le_right _ h0) hy
 have dv:∀ {x y:Nat},x<10^(4*k)→x/y<10^(4*k):=fun h=>Nat.lt_of_le_of_lt (Nat.div_le_self _ _) h
 have hk4:4*k≤10000:=by omega
 have fits_k4:jF 46 [tx (wN k3),tx (wN (Nat.gcd M3.natAbs (Nat.gcd M2.natAbs M1.natAbs)))] (tx (writeB F)):=by
  have h:=kX (refDivF (zsT l3' hk4 h4) (zsT x3 hk4 h4) (rX hG0))
  rw [hLG] at h
  exact h
 have z0:¬ (decide (n1=0)&&decide (n2=0)&&decide (n3=0))=true:=by
  simpa only [Bool.and_eq_true,decide_eq_true_eq,and_assoc] using h0
 have gp:∀ {x y:Nat},0<y→0<Nat.gcd x y:=fun h=>Nat.gcd_pos_of_pos_right _ h
 refine ⟨⟨wN b1,wN b2,wN b3,wN (Nat.gcd 1 b1),wN (Nat.gcd k1 b2),wN (Nat.gcd k2 b3),wN (b1/Nat.gcd 1 b1),wN (b2/Nat.gcd k1 b2),wN (b3/Nat.gcd k2 b3),wN k1,wN k2,wN k3,writeB (M1:Rat),writeB (M2:Rat),writeB (M3:Rat),wN M1.natAbs,wN M2.natAbs,wN M3.natAbs,
  wN M1.natAbs,wN (Nat.gcd M2.natAbs M1.natAbs),wN (Nat.gcd M3.natAbs (Nat.gcd M2.natAbs M1.natAbs)),?_⟩,?_⟩
 ·refine ⟨?_,hb1▸denT (hb q1),?_,divT b1' (gd p1 b1') hk4 h4 (gp p1) (Nat.gcd_dvd_right _ _),?_,hb2▸denT (hb q2),gcdT k1' b2' hk4,divT b2' (gd p2 b2') hk4 h4 (gp p2) (Nat.gcd_dvd_right _ _),?_,hb3▸denT (hb q3),gcdT k2' b3' hk4,divT b3' (gd p3 b3') hk4 h4 (gp p3) (Nat.gcd_dvd_right _ _),?_,
   mulM q1 m1,absT (ht v1),?_,mulM q2 m2,absT (ht v2),gcdT v2 v1 hk4,mulM q3 m3,absT (ht v3),gcdT v3 x2 hk4,fits_k4,kX (fL (qd.zs hj) zF)⟩
  ·have h:=isOriginQ n1 n2 n3
   rwa [Bool.eq_false_iff.2 z0] at h
  ·exact lit1 (wN_one▸gcdT one' b1' hk4)
  ·exact lit1 (wN_one▸hk1▸mulT one' (dv b1') hk4 h4)
  ·exact hk2▸mulT k1' (dv b2') hk4 h4
  ·exact hk3▸mulT k2' (dv b3') hk4 h4
  ·have h:=gcdT v1 nul' hk4
   rw [g1,wN_nul] at h
   exact lit2 h
 ·have hFG:F*((Nat.gcd M3.natAbs (Nat.gcd M2.natAbs M1.natAbs):Int):Rat)=((k3:Int):Rat):=by
   rw [← hLG]
   exact Rat.div_mul_cancel (rX hG0)
  generalize Nat.gcd M3.natAbs (Nat.gcd M2.natAbs M1.natAbs)=G at *
  have zb:∀ {q:Rat} {z M:Int},F*q=z→q*((k3:Int):Rat)=M→M.natAbs<10^(4*k)→z.natAbs<10^(4*k):=fun {q z M} e f hM=>by
   have h:((z*(G:Int):Int):Rat)=(M:Rat):=by
    rw [Rat.intCast_mul,← e,← f,← hFG]
    grind
   have h:=congrArg Int.natAbs (Rat.intCast_inj.1 h)
   rw [Int.natAbs_mul,Int.natAbs_natCast] at h
   have h2:z.natAbs*1≤z.natAbs*G:=Nat.mul_le_mul_left _ hG0
   omega
  exact ⟨mulF q1 f1,absT (ht (zb f1 m1 v1)),mulF q2 f2,absT (ht (zb f2 m2 v2)),mulF q3 f3,absT (ht (zb f3 m3 v3)),sZ (by decide)⟩
abbrev nine:Rat:=((999999999:Int):Rat)
theorem cmp_nine (a:Nat):decide ((0:Int)<cmpR ((a:Int):Rat) nine)=decide (999999999<a):=by
 have e:(((a:Int):Rat)-nine).num=(a:Int)-999999999:=by
  rw [← Rat.intCast_sub]
  rfl
 rw [decide_eq_decide]
 rcases sign_cmp ((a:Int):Rat) nine with ⟨h1,h2⟩|⟨h1,h2⟩|⟨h1,h2⟩
 all_goals
  rw [e] at h2
  rw [h1]
  omega
theorem lO {z:Int} (h:Sz z):decide ((0:Int)<cmpR ((z.natAbs:Int):Rat) nine)=false:=by
 rw [cmp_nine,decide_eq_false_iff_not]
 have:=h.1
 have:=h.2
 omega
theorem zJ {z:Int} (h:¬ Sz z):decide ((0:Int)<cmpR ((z.natAbs:Int):Rat) nine)=true:=by
 rw [cmp_nine,decide_eq_true_eq]
 have h:¬ (-999999999≤z∧z≤999999999):=h
 omega
abbrev okR (z1 z2 z3:Int) (e:Rat):AV Kn := .tup [.ag [.lit (.int .i64 z1),.lit (.int .i64 z2),.lit (.int .i64 z3),cQ (writeB e)],.sc (.lit (.int .i64 0))]
abbrev largeR:AV Kn := .tup [.ag [.lit (.int .i64 0),.lit (.int .i64 0),.lit (.int .i64 0),.lit (.string ⟨#[]⟩)],.sc (.lit (.int .i64 4))]
section
variable {n1 n2 n3 d F:Rat} {z1 z2 z3:Int}
theorem cmpT {z:Int} {k:Nat} (h:z.natAbs<10^k) (hk0:0<k) (hk:k≤10000):jF 49 [tx (wN z.natAbs),tx (writeB nine)] (.fv (.sc (fA (cmpR ((z.natAbs:Int):Rat) nine)))) :=
 zI (refCmpF (zsT h hk hk0) ((uY (z:=999999999) (k:=9) (by decide) (by omega)).zs (by omega)))
theorem mkOk (h:MkN n1 n2 n3 d F z1 z2 z3) (s1:Sz z1) (s2:Sz z2) (s3:Sz z3) (w:Wr (d*F)):jF 13 [vS n1 n2 n3,tx (writeB d)] (okR z1 z2 z3 (d*F)):=by
 obtain ⟨b1,b2,b3,c1,c2,c3,e1,e2,e3,k1,k2,k3,p1,p2,p3,w1,w2,w3,t1,t2,t3,ha⟩:=h.a
 have n9:∀ {z:Int},Sz z→z.natAbs<10^9:=fun {z} h=>by have:=h.1;have:=h.2;omega
 exact mkFine ha h.b (cmpT (n9 s1) (by omega) (by omega)) (lO s1) (gE (n9 s1)) (cmpT (n9 s2) (by omega) (by omega)) (lO s2) (gE (n9 s2)) (cmpT (n9 s3) (by omega) (by omega)) (lO s3) (gE (n9 s3)) (qF w)
theorem mkBig {k:Nat} (h:MkN n1 n2 n3 d F z1 z2 z3) (hs:¬ (Sz z1∧Sz z2∧Sz z3)) (l1:z1.natAbs<10^k) (l2:z2.natAbs<10^k) (l3:z3.natAbs<10^k) (hk0:0<k) (hk:k≤10000) :
 jF 13 [vS n1 n2 n3,tx (writeB d)] largeR:=by
 obtain ⟨b1,b2,b3,c1,c2,c3,e1,e2,e3,k1,k2,k3,p1,p2,p3,w1,w2,w3,t1,t2,t3,ha⟩:=h.a
 have n9:∀ {z:Int},Sz z→z.natAbs<10^9:=fun {z} h=>by have:=h.1;have:=h.2;omega
 refine mkBigW ha h.b (cmpT l1 hk0 hk) ?_
 by_cases s1:Sz z1
 ·refine .inr ⟨_,_,lO s1,gE (n9 s1),cmpT l2 hk0 hk,?_⟩
  by_cases s2:Sz z2
  ·exact .inr ⟨_,_,lO s2,gE (n9 s2),cmpT l3 hk0 hk,.inl (zJ fun s3=>hs ⟨s1,s2,s3⟩)⟩
  ·exact .inl (zJ s2)
 ·exact .inl (zJ s1)
end
abbrev Eh (z:Int):Prop:=z=0∨z=1∨z=3∨z=4∨z=6
theorem vZ {z:Int} (h:Ev z):Eh z:=by rcases h with h|h|h <;> simp [Eh,h]
theorem f2_eh {x y:Int} (hx:Eh x) (hy:Eh y):Eh (f2 x y):=by unfold f2;split <;> assumption
theorem zK {T:TypeId} {x y z:Int} (hx:Eh x) (hy:Eh y) (hz:f2 x y=z):jF 35 [.fv (.nsl 2 T [lz x,lz y])] (it z):=by
 rcases hx with rfl|rfl|rfl|rfl|rfl
 ·have hz:y=z:=hz
  subst hz
  rcases hy with rfl|rfl|rfl|rfl|rfl <;> (refine lU Tryz.func35 (by kernel_rfl) fun w00=>?_;exact kret Tryz.func35 (by kernel_rfl))
 all_goals
  have hz:_=z:=hz
  subst hz
  refine lU Tryz.func35 (by kernel_rfl) fun w00=>?_
  exact jR Tryz.func35
theorem lit_isU {f:FuncId} {l:List (AV Kn)} {x:Int} (h:jF f l (.fv (.sc (.lit (.int .u64 x))))):jF f l (.fv (.sc (isU x))):=Fits.res h fun β v w k=>by
 have:=aM k
 rw [this];exact bD
theorem une_run {o:Oper} {ρ:Operand→Value} {w:World} {x y:Operand} {a b:Int} {r:Bool} {T T' : TypeId} (ho:o.op = .binOp .neq T x y T') (hx:ρ x = .int .u64 a) (hy:ρ y = .int .u64 b) (h:(a != b)=r) :
 (execOp ρ o).run Tryz.prog w = .ok (.value (.bool r)) w:=by
 simp only [execOp,ho,hx,hy]
 refine bJ ?_
 rw [← h]
 exact bL (by kernel_rfl) w
section
variable {a b c z:Int}
theorem hk_values (k:Int) (h:Ev k):Eh (hkZ a b c k):=by
 unfold hkZ
 split
 ·simp [Eh]
 split
 ·simp [Eh]
 split
 ·simp [Eh]
 ·exact vZ h
theorem hk_first (k:Int):f2 (hkZ a b c 0) k=hkZ a b c k:=by
 unfold f2 hkZ
 split
 ·split <;> simp_all
 split
 ·split <;> simp_all
 split
 ·split <;> simp_all
 ·simp
theorem pS (hz:hkZ a b c 0=z):jF 125 [iv a b c] (it z):=by
 unfold hkZ at hz
 refine Fits.args (l := [i3 a b c]) ?_ fun β vs w ⟨v,r,e,h,hr⟩=>⟨v,r,e,iv_i3 β v w h,hr⟩
 by_cases h0:a=0∧b=0∧c=0
 ·rw [if_pos h0] at hz
  subst hz
  refine jG Tryz.func125 fun w00=>?_
  refine kz3 (.tmp 6) (.tmp 7) a b c true (by simp [h0]) ?_
  exact jR Tryz.func125
 rw [if_neg h0] at hz
 have w:∀ {x:Int},¬ Bg x→x.natAbs<aD:=fun h=>by unfold Bg at h;rw [aL];omega
 have hg:∀ {x y:Nat},x<aD→y<aD→Nat.gcd x y<aD:=fun {x y} hx hy=>by
  rcases Nat.eq_zero_or_pos y with e|e
  ·rw [e,Nat.gcd_zero_right];exact hx
  ·exact Nat.lt_of_le_of_lt (Nat.gcd_le_right _ e) hy
 refine jG Tryz.func125 fun w00=>?_
 refine kz3 (.tmp 6) (.tmp 7) a b c false (by rw [Bool.eq_false_iff];simp;omega) ?_
 have e3:Bg a∨Bg b∨Bg c→z=3:=fun h=>by rw [← hz,if_pos h]
 by_cases a1:a < -999999999
 ·obtain rfl:=e3 (.inl (.inl a1))
  refine klt (.tmp 13) (.const (.int .i64 (-999999999))) a (-999999999) true _ bA (decide_eq_true a1) ?_
  exact jR Tryz.func125
 refine klt (.tmp 13) (.const (.int .i64 (-999999999))) a (-999999999) false _ bA (decide_eq_false a1) ?_
 by_cases a2:999999999<a
 ·obtain rfl:=e3 (.inl (.inr a2))
  refine wV (.tmp 16) (.const (.int .i64 999999999)) a 999999999 true _ bA (decide_eq_true a2) ?_
  exact jR Tryz.func125
 refine wV (.tmp 16) (.const (.int .i64 999999999)) a 999999999 false _ bA (decide_eq_false a2) ?_
 have ha:¬ Bg a:=by unfold Bg;omega
 have g1:=dD (a:=0) (b:=a.natAbs) (by rw [aL];omega) (w ha)
 have l1:Nat.gcd 0 a.natAbs<aD:=hg (by rw [aL];omega) (w ha)
 obtain ⟨x1,hx1⟩:∃ x1,Nat.gcd 0 a.natAbs=x1:=⟨_,rfl⟩
 rw [hx1] at g1 l1
 refine kneg 21 a (by constructor <;> omega) (by constructor <;> omega) ?_
 refine kabs 20 22 a ?_
 refine kcvu 23 a.natAbs (by omega) ?_
 refine jC 180 [.fv (.sc (.lit (.int .u64 ((0:Nat):Int)))),.fv (.sc (.lit (.int .u64 (a.natAbs:Int))))] (g1) ?_
 by_cases b1:b < -999999999
 ·obtain rfl:=e3 (.inr (.inl (.inl b1)))
  refine klt (.tmp 13) (.const (.int .i64 (-999999999))) b (-999999999) true _ bA (decide_eq_true b1) ?_
  exact jR Tryz.func125
 refine klt (.tmp 13) (.const (.int .i64 (-999999999))) b (-999999999) false _ bA (decide_eq_false b1) ?_
 by_cases b2:999999999<b
 ·obtain rfl:=e3 (.inr (.inl (.inr b2)))
  refine wV (.tmp 16) (.const (.int .i64 999999999)) b 999999999 true _ bA (decide_eq_true b2) ?_
  exact jR Tryz.func125
 refine wV (.tmp 16) (.const (.int .i64 999999999)) b 999999999 false _ bA (decide_eq_false b2) ?_
 have hb:¬ Bg b:=by unfold Bg;omega
 have g2:=dD l1 (w hb)
 have l2:=hg l1 (w hb)
 obtain ⟨x2,hx2⟩:∃ x2,Nat.gcd x1 b.natAbs=x2:=⟨_,rfl⟩
 rw [hx2] at g2 l2
 refine kneg 21 b (by constructor <;> omega) (by constructor <;> omega) ?_
 refine kabs 20 22 b ?_
 refine kcvu 23 b.natAbs (by omega) ?_
 refine jC 180 [.fv (.sc (.lit (.int .u64 (x1:Int)))),.fv (.sc (.lit (.int .u64 (b.natAbs:Int))))] (g2) ?_
 by_cases c1:c < -999999999
 ·obtain rfl:=e3 (.inr (.inr (.inl c1)))
  refine klt (.tmp 13) (.const (.int .i64 (-999999999))) c (-999999999) true _ bA (decide_eq_true c1) ?_
  exact jR Tryz.func125
 refine klt (.tmp 13) (.const (.int .i64 (-999999999))) c (-999999999) false _ bA (decide_eq_false c1) ?_
 by_cases c2:999999999<c
 ·obtain rfl:=e3 (.inr (.inr (.inr c2)))
  refine wV (.tmp 16) (.const (.int .i64 999999999)) c 999999999 true _ bA (decide_eq_true c2) ?_
  exact jR Tryz.func125
 refine wV (.tmp 16) (.const (.int .i64 999999999)) c 999999999 false _ bA (decide_eq_false c2) ?_
 have hc:¬ Bg c:=by unfold Bg;omega
 have g3:=lit_isU (dD l2 (w hc))
 obtain ⟨x3,hx3⟩:∃ x3,Nat.gcd x2 c.natAbs=x3:=⟨_,rfl⟩
 rw [hx3] at g3
 have e:Int.gcd (Int.gcd a b:Int) c=x3:=by
  rw [← hx3,← hx2,← hx1,Nat.gcd_zero_left]
  rfl
 rw [if_neg (by rintro (h|h|h);exact ha h;exact hb h;exact hc h),e] at hz
 refine kneg 21 c (by constructor <;> omega) (by constructor <;> omega) ?_
 refine kabs 20 22 c ?_
 refine kcvu 23 c.natAbs (by omega) ?_
 refine jC 180 [.fv (.sc (.lit (.int .u64 (x2:Int)))),.fv (.sc (.lit (.int .u64 (c.natAbs:Int))))] (g3) ?_
 by_cases h1:x3=1
 ·rw [if_neg (fun h=>h h1)] at hz
  subst hz
  refine jK (.binOp .neq 159 (.tmp 27) (.const (.int .u64 1)) 159) (.tmp 27) (.const (.int .u64 1)) (.fv (.sc (isU (x3:Int)))) (.fv (.sc (.lit (.int .u64 1)))) (bl false) (fun ρ o β w ho hx hy=>⟨_,une_run ho (aO hx) (aM hy) (by rw [h1];rfl),aX rfl⟩) ?_
  exact jR Tryz.func125
 ·rw [if_pos h1] at hz
  subst hz
  refine jK (.binOp .neq 159 (.tmp 27) (.const (.int .u64 1)) 159) (.tmp 27) (.const (.int .u64 1)) (.fv (.sc (isU (x3:Int)))) (.fv (.sc (.lit (.int .u64 1)))) (bl true) (fun ρ o β w ho hx hy=>⟨_,une_run ho (aO hx) (aM hy) (by rw [bne_iff_ne];omega),aX rfl⟩) ?_
  exact jR Tryz.func125
end
section
variable {n1 n2 n3 z:Int} {s a b c:ByteArray}
abbrev M3 (a b c:Int):Prop:=oF a∧oF b∧oF c
abbrev kh (n1 n2 n3:Int) (s:ByteArray):Int:=hkZ n1 n2 n3 (bX s)
theorem iR:Eh (kh n1 n2 n3 s):=hk_values _ (cR s)
theorem nY (m:M3 n1 n2 n3) (h:Rb s) (hz:kh n1 n2 n3 s=z):jX 55 [hL n1 n2 n3 s] (.tup [.ag [nb n1,nb n2,nb n3,nb (pN s)],.sc (lz z)]):=by
 refine jY Tryz.func55 fun w00 hI=>?_
 refine jW hI 77 [tx s] (tM h rfl) ?_
 refine jC 95 [iv n1 n2 n3] (gY m.1 m.2.1 m.2.2) ?_
 refine jC 125 [iv n1 n2 n3] (pS rfl) ?_
 refine jC 35 [.fv (.nsl 2 34 [lz (hkZ n1 n2 n3 0),lz (bX s)])] (zK (hk_values 0 (.inl rfl)) (vZ (cR s)) ((hk_first _).trans hz)) ?_
 exact jR Tryz.func55
end
abbrev noH (z:Int):AV Kn := .tup [.ag [.lit (.int .i64 0),.lit (.int .i64 0),.lit (.int .i64 0),.lit (.string ⟨#[]⟩)],.sc (lz z)]
abbrev Bz (z:Int):Prop:=z=1∨z=3∨z=4∨z=6∨z=7
section
variable {P:Program} {f:FuncId}
theorem fitsAS_of {fn:Func} {n:Nat} {T:TypeId} {l:List (Seg Kn)} {u x:AV Kn} (hfn:P.funcs[f]?=some fn) (hb:fn.body.isSome=true) (hn:decide (2≤fn.ntmps)=true) (hx:x.noPtr=true) (hl:l.all Seg.noPtr=true) (hu:u.noPtr=true)
 (h:∀ w00,Ok P f w00 (fun v w=>x.holds [] v w) (.items [.code (fn.body.getD .skip)] { slots := [u,.fv (.sc (.slc 0 0 n n))]++List.replicate (fn.ntmps-2) .un,blocks := [(T,l)],ro:=1 })):Fits P f [u,.fv (.nsl n T l)] x:=by
 rintro β w vs ⟨v,r,rfl,h1,v2,r2,rfl,⟨g,cs,rfl,hg,hcs⟩,h3⟩
 have h1' : u.holds [g] v w:=AV.noPtr_holds hu h1
 have h3' : r2 = []:=h3
 subst h3'
 have hb2:fn.body=some (fn.body.getD .skip):=by
  cases hb2:fn.body with
  | none=>rw [hb2] at hb;cases hb
  | some c=>rfl
 refine (eS (w00:=w) (Out:=fun v w=>x.holds [] v w) hfn hb2 [u,.fv (.sc (.slc 0 0 n n))] [(T,l)] [g] [v,.slice (some ⟨g,0,none⟩) n n] (fn.ntmps-2) (by simp at hn;simp;omega) ⟨_,_,rfl,h1',_,[],rfl,⟨g,rfl,rfl⟩,rfl⟩ rfl (by simp)
  (fun k T' l' hk=>?_) (by simp;exact lt_of_block hg) (h w).good).mono ?_
 ·match k,hk with
  | 0,hk =>
    simp at hk
    obtain ⟨rfl,rfl⟩:=hk
    exact ⟨g,cs,rfl,hg,hcs.noPtr hl⟩
 ·rintro e w' ⟨v,rfl,hb,ho⟩
  exact ⟨v,rfl,hb,AV.noPtr_holds hx ho⟩
end
theorem kgoAS {f:FuncId} {fn:Func} {n:Nat} {T:TypeId} {l:List (Seg Kn)} {u x:AV Kn} (hfn:Tryz.prog.funcs[f]?=some fn) (hc:(fn.body.isSome,decide (2≤fn.ntmps),x.noPtr,l.all Seg.noPtr,u.noPtr)=(true,true,true,true,true))
 (h:∀ w00,Ok Tryz.prog f w00 (fun v w=>x.holds [] v w) (cI Tryz.prog 1000 (.items [.code (fn.body.getD .skip)] { slots := [u,.fv (.sc (.slc 0 0 n n))]++List.replicate (fn.ntmps-2) .un,blocks := [(T,l)],ro:=1 }))):jF f [u,.fv (.nsl n T l)] x:=by
 simp only [Prod.mk.injEq] at hc
 exact fitsAS_of hfn hc.1 hc.2.1 hc.2.2.1 hc.2.2.2.1 hc.2.2.2.2 fun w00=>Ok.go (by kernel_rfl) pA 1000 (h w00)
abbrev lo (n:Int) (s:ByteArray):Bool:=decide (n<(s.size:Nat))
section
variable {a b c d x y u:ByteArray} {n:Int} {T:TypeId} {r:Bool}
theorem checkRowAny {za zb zc z:Int} (h1:jF 59 [tx a] (it za)) (h2:jF 59 [tx b] (it zb)) (h3:jF 59 [tx c] (it zc)) (e1:Ev za) (e2:Ev zb) (e3:Ev zc) (hz:f3 za zb zc=z) :
 jF 41 [.fv (.nsl 3 T [cQ a,cQ b,cQ c])] (it z):=by
 rcases e1 with rfl|rfl|rfl
 ·rcases e2 with rfl|rfl|rfl
  ·have hz:zc=z:=hz
   subst hz
   rcases e3 with rfl|rfl|rfl <;> (refine lU Tryz.func41 (by kernel_rfl) fun w00=>?_;refine fM 59 [tx a] (h1) (by kernel_rfl) Tryz.call59 ?_;refine fM 59 [tx b] (h2) (by kernel_rfl) Tryz.call59 ?_;refine fM 59 [tx c] (h3) (by kernel_rfl) Tryz.call59 ?_;exact kret Tryz.func41 (by kernel_rfl))
  all_goals
   have hz:_=z:=hz
   subst hz
   refine lU Tryz.func41 (by kernel_rfl) fun w00=>?_
   refine jC 59 [tx a] (h1) ?_
   refine jC 59 [tx b] (h2) ?_
   exact jR Tryz.func41
 all_goals
  have hz:_=z:=hz
  subst hz
  refine lU Tryz.func41 (by kernel_rfl) fun w00=>?_
  refine jC 59 [tx a] (h1) ?_
  exact jR Tryz.func41
abbrev Sl (s:ByteArray):Prop:=s.size≤40
abbrev Sl3 (a b c:ByteArray):Prop:=Sl a∧Sl b∧Sl c
theorem Sl.rb {s:ByteArray} (h:Sl s):Rb s:=by have h:s.size≤40:=h;show s.size<_;omega
theorem Sl3.rb (h:Sl3 a b c):Rb3 a b c:=⟨Sl.rb h.1,Sl.rb h.2.1,Sl.rb h.2.2⟩
theorem nZ {z:Int} (h:Sl3 a b c) (hz:c3 a b c=z):jF 8 [t3 a b c] (it z):=by
 have h1:a.size≤40:=h.1
 have h2:b.size≤40:=h.2.1
 have h3:c.size≤40:=h.2.2
 refine jG Tryz.func8 fun w00=>?_
 refine jC 41 [.fv (.nsl 3 22 [cQ a,cQ b,cQ c])] (checkRowAny (uV (by omega) rfl) (uV (by omega) rfl) (uV (by omega) rfl) (cR _) (cR _) (cR _) hz) ?_
 exact jR Tryz.func8
abbrev eT:Seg Kn := .lit (.string ⟨#[]⟩)
abbrev noT:AV Kn := .fv (.ag [eT,eT,eT])
abbrev noV (z:Int):AV Kn := .tup [.ag [eT,eT,eT],.sc (lz z)]
theorem scaleR3 (h1:jF 43 [tx a,tx b] (tx x)) (h2:jF 43 [tx a,tx c] (tx y)) (h3:jF 43 [tx a,tx d] (tx u)):jF 65 [tx a,t3 b c d] (t3 x y u):=by
 refine jG Tryz.func65 fun w00=>?_
 refine jC 43 [tx a,tx b] (h1) ?_
 refine jC 43 [tx a,tx c] (h2) ?_
 refine jC 43 [tx a,tx d] (h3) ?_
 exact jR Tryz.func65
theorem whenF {b:Bool}:jF 11 [bl b,it 7] (it (if b then 7 else 0)):=by
 cases b <;> (refine jG Tryz.func11 fun w00=>?_;exact kret Tryz.func11 (by kernel_rfl))
end
section
variable {f:FuncId} {w00:World} {Out:Value→World→Prop} {c:Cfg Kn}
theorem ke3 (x y:Operand) (a b d a' b' d' : ByteArray) (r:Bool) (h:(a.toList==a'.toList&&b.toList==b'.toList&&d.toList==d'.toList)=r) (hg:Ok Tryz.prog f w00 Out (cI Tryz.prog 1000 (c.give (bl r))))
 (hc:(c.op.map fun o=>o.op,c.okT (bl r),c.ev x,c.ev y)=(some (.binOp .eql 24 x y 24),true,.fv (.ag [cQ a,cQ b,cQ d]),.fv (.ag [cQ a',cQ b',cQ d'])):=by kernel_rfl):Ok Tryz.prog f w00 Out c :=
 oE (.binOp .eql 24 x y 24) x y _ _ (bl r) hc (by simp [Op.operands]) (by simp [Op.operands]) (fun ρ o β w ho hx hy=>⟨_,agg_eq (by kernel_rfl) (h▸equalT a b d a' b' d' w) ho (s3_is hx) (s3_is hy),aX rfl⟩) hg
end
theorem pointBad {z:Int} (hz:Bz z):jF 18 [noT,it z,it z,noT] (bl true):=by
 rcases hz with rfl|rfl|rfl|rfl|rfl
 all_goals
  refine jG Tryz.func18 fun w00=>?_
  exact jR Tryz.func18
theorem refLargeVecF {a b c:Rat} (h:kU a b c):jF 60 [vS a b c] (it 0):=by
 have h1:=qF h.1
 have h2:=qF h.2.1
 have h3:=qF h.2.2
 have hr:jF 128 [.fv (.nsl 3 22 [cQ (writeB a),cQ (writeB b),cQ (writeB c)])] (it 0):=by
  refine lU Tryz.func128 (by kernel_rfl) fun w00=>?_
  refine jC 52 [tx (writeB a)] (h1) ?_
  refine jC 52 [tx (writeB b)] (h2) ?_
  refine jC 52 [tx (writeB c)] (h3) ?_
  exact jR Tryz.func128
 refine jG Tryz.func60 fun w00=>?_
 refine jC 128 _ (hr) ?_
 exact jR Tryz.func60
theorem pointOk {a b c:Rat} (h:kU a b c):jF 18 [vS a b c,it 0,it 0,vS a b c] (bl true):=by
 have hl:=refLargeVecF h
 refine jG Tryz.func18 fun w00=>?_
 refine jC 60 _ (hl) ?_
 refine ke3 (.tmp 26) (.tmp 27) (writeB a) (writeB b) (writeB c) (writeB a) (writeB b) (writeB c) true (by simp) ?_
 exact jR Tryz.func18
theorem slwN {n:Nat} {s:ByteArray} (h:s.size≤n) (hn:1≤n) (hz:bX s=0):∃ q,s=writeB q∧Bq n q:=by
 obtain ⟨q,rfl,_,_⟩:=rR hz
 rw [kJ] at h
 have ht:(decB q.num.natAbs).size≤(aN q.num).size:=by
  unfold aN
  split
  ·rw [ByteArray.size_append];omega
  ·exact aR _
 refine ⟨q,rfl,bq_of ⟨by omega,?_⟩⟩
 by_cases hd:q.den=1
 ·rw [hd,dec1];exact hn
 ·rw [if_neg hd] at h;omega
theorem slwN3 {n:Nat} {a b c:ByteArray} (h1:a.size≤n) (h2:b.size≤n) (h3:c.size≤n) (hn:1≤n) (hz:c3 a b c=0):∃ p q r,a=writeB p∧b=writeB q∧c=writeB r∧Bq n p∧Bq n q∧Bq n r:=by
 obtain ⟨k1,k23⟩:=qD hz
 obtain ⟨k2,k3⟩:=qD k23
 obtain ⟨p,e1,q1⟩:=slwN h1 hn k1
 obtain ⟨q,e2,q2⟩:=slwN h2 hn k2
 obtain ⟨r,e3,q3⟩:=slwN h3 hn k3
 exact ⟨p,q,r,e1,e2,e3,q1,q2,q3⟩
abbrev Ss (s:ByteArray):Prop:=s.size≤30
abbrev Ss3 (a b c:ByteArray):Prop:=Ss a∧Ss b∧Ss c
section
variable {s a b c x y u:ByteArray}
theorem Ss.sl (h:Ss s):Sl s:=by have h:s.size≤30:=h;show s.size≤40;omega
theorem Ss3.sl (h:Ss3 a b c):Sl3 a b c:=⟨Ss.sl h.1,Ss.sl h.2.1,Ss.sl h.2.2⟩
end
section
variable {n1 n2 n3:Int} {d p1 p2 p3 v1 v2 v3 e:Rat} {k:Nat}
structure Qh (n1 n2 n3:Int) (d p1 p2 p3:Rat):Prop where
 m1:oF n1
 m2:oF n2
 m3:oF n3
 q1:Bq 10 (n1:Rat)
 q2:Bq 10 (n2:Rat)
 q3:Bq 10 (n3:Rat)
 d:Bq 30 d
 p1:Bq 30 p1
 p2:Bq 30 p2
 p3:Bq 30 p3
abbrev exR (n1 n2 n3:Int) (d p1 p2 p3:Rat):Rat:=dt (n1:Rat) n2 n3 p1 p2 p3-d
abbrev nnR (n1 n2 n3:Int):Rat:=dt (n1:Rat) n2 n3 n1 n2 n3
theorem Qh.ex (h:Qh n1 n2 n3 d p1 p2 p3):Bq 153 (exR n1 n2 n3 d p1 p2 p3):=(Bq.dt h.q1 h.q2 h.q3 h.p1 h.p2 h.p3 (n:=122) (by omega)).sub h.d
theorem Qh.nn (h:Qh n1 n2 n3 d p1 p2 p3):Bq 62 (nnR n1 n2 n3):=Bq.dt h.q1 h.q2 h.q3 h.q1 h.q2 h.q3 (by omega)
theorem scaleQ {j l:Nat} {c x y z:Rat} (hc:Bq j c) (hx:Bq l x) (hy:Bq l y) (hz:Bq l z) (hj:j≤10000) (hl:l≤10000):jF 65 [tx (writeB c),vS x y z] (vS (c*x) (c*y) (c*z)) :=
 scaleR3 (kX (fL (hc.zs hj) (hx.zs hl))) (kX (fL (hc.zs hj) (hy.zs hl))) (kX (fL (hc.zs hj) (hz.zs hl)))
abbrev ft (n1 n2 n3:Int) (d p1 p2 p3:Rat) (p:Rat) (n:Int):Rat:=p-exR n1 n2 n3 d p1 p2 p3/nnR n1 n2 n3*n
theorem Qh.way (h:Qh n1 n2 n3 d p1 p2 p3):Bq 215 (exR n1 n2 n3 d p1 p2 p3/nnR n1 n2 n3):=h.ex.div h.nn
theorem Qh.f1 (h:Qh n1 n2 n3 d p1 p2 p3):Bq 256 (ft n1 n2 n3 d p1 p2 p3 p1 n1):=h.p1.sub (h.way.mul h.q1)
theorem Qh.f2 (h:Qh n1 n2 n3 d p1 p2 p3):Bq 256 (ft n1 n2 n3 d p1 p2 p3 p2 n2):=h.p2.sub (h.way.mul h.q2)
theorem Qh.f3 (h:Qh n1 n2 n3 d p1 p2 p3):Bq 256 (ft n1 n2 n3 d p1 p2 p3 p3 n3):=h.p3.sub (h.way.mul h.q3)
end
theorem aAd {n1 n2 n3 z:Int} {s:ByteArray} (hs:s.size≤9223372036854775807) (hz:kh n1 n2 n3 s=z):jF 17 [hL n1 n2 n3 s] (it z) :=
 Fits.res (Fits.args (checkHalfF (k:=bX s) (kn_I (checkAnyF hs)) hz) fun β vs w ⟨v,r,e,h1,hr⟩=>⟨v,r,e,hL_A β v w h1,hr⟩) fun β v w k=>by
  rw [aO k];exact aX rfl
theorem wW {a b c k:Int} (h:hkZ a b c k=0):¬ (a=0∧b=0∧c=0)∧¬ Bg a∧¬ Bg b∧¬ Bg c∧hkZ a b c 0=0∧k=0:=by
 unfold hkZ at h ⊢
 split at h
 ·exact absurd h (by decide)
 rename_i h0
 split at h
 ·exact absurd h (by decide)
 rename_i h1
 split at h
 ·exact absurd h (by decide)
 rename_i h2
 exact ⟨h0,fun e=>h1 (.inl e),fun e=>h1 (.inr (.inl e)),fun e=>h1 (.inr (.inr e)),by rw [if_neg h0,if_neg h1,if_neg h2],h⟩
abbrev nH:AV Kn := .fv (.ag [.lit (.int .i64 0),.lit (.int .i64 0),.lit (.int .i64 0),.lit (.string ⟨#[]⟩)])
section
variable {f:FuncId} {w00:World} {Out:Value→World→Prop} {c:Cfg Kn}
theorem kheq (x y:Operand) (a b d:Int) (s:ByteArray) (hg:Ok Tryz.prog f w00 Out (cI Tryz.prog 1000 (c.give (bl true))))
 (hc:(c.op.map fun o=>o.op,c.okT (bl true),c.ev x,c.ev y)=(some (.binOp .eql 28 x y 28),true,hL a b d s,hL a b d s):=by kernel_rfl):Ok Tryz.prog f w00 Out c :=
 oE (.binOp .eql 28 x y 28) x y _ _ (bl true) hc (by simp [Op.operands]) (by simp [Op.operands]) (fun ρ o β w ho hx hy=>⟨_,agg_eq (by kernel_rfl) (equalHf a b d s w) ho (hL_is hx) (hL_is hy),aX rfl⟩) hg
end
theorem planeOk {a b c:Int} {s:ByteArray}:jF 15 [hL a b c s,it 0,it 0,hL a b c s] (bl true):=by
 refine jG Tryz.func15 fun w00=>?_
 refine kheq (.tmp 22) (.tmp 23) a b c s ?_
 exact jR Tryz.func15
abbrev oH (a b c:Int) (t:ByteArray) (e:Int):AV Kn := .tup [.ag [lz a,lz b,lz c,cQ t],.sc (lz e)]
def Oz (a b c:Int) (t:ByteArray) (e:Int):Prop:=e=0∨(e=4∨e=6∨e=7)∧a=0∧b=0∧c=0∧t=⟨#[]⟩
theorem noH_oH {e:Int} (β:List Nat) (v:Value) (w:World) (h:(noH e).holds β v w):(oH 0 0 0 ⟨#[]⟩ e).holds β v w:=by
 obtain ⟨vs,rfl,u,r,rfl,h1,h2⟩:=h
 obtain ⟨cs,rfl,x1,r1,rfl,k1,x2,r2,rfl,k2,x3,r3,rfl,k3,x4,r4,rfl,k4,k5⟩:=h1
 exact ⟨_,rfl,_,_,rfl,⟨_,rfl,_,_,rfl,k1,_,_,rfl,k2,_,_,rfl,k3,_,_,rfl,k4.1,k5⟩,h2⟩
abbrev Bh (z:Int):Prop:=z=1∨z=3∨z=4∨z=6∨z=7∨z=15
theorem planeBh {z:Int} (h:Bh z):jF 15 [nH,it z,it z,nH] (bl true):=by
 rcases h with rfl|rfl|rfl|rfl|rfl|rfl
 all_goals
  refine jG Tryz.func15 fun w00=>?_
  exact jR Tryz.func15
theorem fits_isI3 {f:FuncId} {a b d x:AV Kn} {z:Int} (h:jF f [a,b,it z,d] x):jF f [a,b,.fv (.sc (fA z)),d] x:=fun β w vs hv=>by
 obtain ⟨v1,r1,rfl,h1,v2,r2,rfl,h2,v3,r3,rfl,h3,v4,r4,rfl,h4,h5⟩:=hv
 exact h β w _ ⟨v1,_,rfl,h1,v2,_,rfl,h2,v3,_,rfl,by rw [aO h3];exact aX rfl,v4,_,rfl,h4,h5⟩
theorem oH_nH {t:ByteArray} (ht:t=⟨#[]⟩) (β:List Nat) (v:Value) (w:World) (h:(hL 0 0 0 t).holds β v w):nH.holds β v w:=by
 subst ht
 obtain ⟨cs,rfl,x1,r1,rfl,k1,x2,r2,rfl,k2,x3,r3,rfl,k3,x4,r4,rfl,k4,k5⟩:=h
 exact ⟨_,rfl,_,_,rfl,k1,_,_,rfl,k2,_,_,rfl,k3,_,_,rfl,⟨k4,rfl⟩,k5⟩
theorem planeOz {a b c e:Int} {t:ByteArray} (h:Oz a b c t e):jF 15 [hL a b c t,it e,it e,hL a b c t] (bl true):=by
 rcases h with rfl|⟨he,rfl,rfl,rfl,rfl⟩
 ·exact planeOk
 ·have hb:=planeBh (z:=e) (by rcases he with rfl|rfl|rfl <;> simp [Bh])
  intro β w vs hv
  obtain ⟨v1,r1,rfl,h1,v2,r2,rfl,h2,v3,r3,rfl,h3,v4,r4,rfl,h4,h5⟩:=hv
  exact hb β w _ ⟨v1,_,rfl,oH_nH rfl _ _ _ h1,v2,_,rfl,h2,v3,_,rfl,h3,v4,_,rfl,oH_nH rfl _ _ _ h4,h5⟩
section
variable {f:FuncId} {w00:World} {Out:Value→World→Prop} {c:Cfg Kn}
theorem keqG (x y:Operand) (a b:Int) (r:Bool) (X Y:AV Kn) (hX:∀ β v w,X.holds β v w→v = .int .i64 a) (hY:∀ β v w,Y.holds β v w→v = .int .i64 b) (h:(a==b)=r) (hg:Ok Tryz.prog f w00 Out (cI Tryz.prog 1000 (c.give (bl r))))
 (hc:(c.op.map fun o=>o.op,c.okT (bl r),c.ev x,c.ev y)=(some (.binOp .eql 3 x y 3),true,X,Y):=by kernel_rfl):Ok Tryz.prog f w00 Out c :=
 oE (.binOp .eql 3 x y 3) x y _ _ (bl r) hc (by simp [Op.operands]) (by simp [Op.operands]) (fun ρ o β w ho hx hy=>⟨_,gO ho (hX _ _ _ hx) (hY _ _ _ hy) h,aX rfl⟩) hg
end
theorem Bq.lf {k:Nat} {q:Rat} (h:Bq k q) (hk:k≤10000):Lf 13 q:=by
 obtain ⟨h1,h2⟩:=jZ (h.zs hk) (aR _)
 exact ⟨gZ (by omega),gZ (by omega)⟩
section
variable {q n1 n2 n3 d e F:Rat} {z1 z2 z3:Int}
theorem writeLargeF (hq:Lf 20 q) (hs:(decB q.num.natAbs).size≤1000000000) (h:¬ Wr q):jX 72 [num q] (noS 4):=by
 by_cases hn:(decB q.num.natAbs).size≤600
 ·have h1:decide ((600:Int)<((decB q.num.natAbs).size:Int))=false:=by rw [decide_eq_false_iff_not];omega
  have h2:decide ((600:Int)<((decB q.den).size:Int))=true:=by
   rw [decide_eq_true_eq]
   have:¬ (decB q.den).size≤600:=fun hd=>h ⟨hn,hd⟩
   omega
  refine jY Tryz.func72 fun w00 hI=>?_
  refine jW hI 146 [num q] (yI hq hs) ?_
  refine jC 147 [tx (overB q),lt ⟨#[45]⟩] (trimF uH) ?_
  refine jO 12 (decB q.num.natAbs) ?_
  refine jM 13 (decB q.num.natAbs).size 600 false h1 ?_
  refine jO 16 (decB q.den) ?_
  refine jM 17 (decB q.den).size 600 true h2 ?_
  exact jR Tryz.func72
 ·have h1:decide ((600:Int)<((decB q.num.natAbs).size:Int))=true:=by rw [decide_eq_true_eq];omega
  refine jY Tryz.func72 fun w00 hI=>?_
  refine jW hI 146 [num q] (yI hq hs) ?_
  refine jC 147 [tx (overB q),lt ⟨#[45]⟩] (trimF uH) ?_
  refine jO 12 (decB q.num.natAbs) ?_
  refine jM 13 (decB q.num.natAbs).size 600 true h1 ?_
  exact jR Tryz.func72
theorem refLargeBig (hz:Zs 10000 q) (h:¬ Wr q):jF 52 [tx (writeB q)] (it 4):=by
 have hl:=tH q.num
 have hs:(writeB q).size≤1000000000:=by have:=zs_len hz;omega
 have ht:(aN q.num).size≤1000000000:=by have:=(jZ hz (aR _)).1;omega
 by_cases hn:(decB q.num.natAbs).size≤600
 ·have hd:¬ (decB q.den).size≤600:=fun hd=>h ⟨hn,hd⟩
  refine jG Tryz.func52 fun w00=>?_
  refine jC 123 [tx (writeB q)] (zB (numF hs)) ?_
  refine jC 48 [tx (aN q.num)] (zB (absTF ht)) ?_
  refine jP 5 22 Tryz.underlying22 (decB q.num.natAbs) ?_
  refine jM 6 (decB q.num.natAbs).size 600 false (by rw [decide_eq_false_iff_not];omega) ?_
  refine jC 45 [tx (writeB q)] (zB (denOfF hs)) ?_
  refine jP 10 22 Tryz.underlying22 (decB q.den) ?_
  refine jM 11 (decB q.den).size 600 true (by rw [decide_eq_true_eq];omega) ?_
  exact jR Tryz.func52
 ·refine jG Tryz.func52 fun w00=>?_
  refine jC 123 [tx (writeB q)] (zB (numF hs)) ?_
  refine jC 48 [tx (aN q.num)] (zB (absTF ht)) ?_
  refine jP 5 22 Tryz.underlying22 (decB q.num.natAbs) ?_
  refine jM 6 (decB q.num.natAbs).size 600 true (by rw [decide_eq_true_eq];omega) ?_
  exact jR Tryz.func52
theorem hWriteDF (l1:Lf 30 n1) (l2:Lf 30 n2) (l3:Lf 30 n3) (ld:Lf 38 d) (h0:¬ (n1=0∧n2=0∧n3=0)) (ed:d*bG n1 n2 n3=e) (le:Lf 20 e) (hs:(decB e.num.natAbs).size≤1000000000) (h:¬ Wr e):jX 40 [hf n1 n2 n3 d] largeH:=by
 have hR:=yN l1 l2 l3 ld h0
 rw [ed] at hR
 have cw:=writeLargeF le hs h
 refine jY Tryz.func40 fun w00 hI=>?_
 refine jC 108 [hf n1 n2 n3 d] (hR) ?_
 refine jW hI 72 [num e] (cw) ?_
 exact jR Tryz.func40
theorem mkD (h:MkN n1 n2 n3 d F z1 z2 z3) (s1:Sz z1) (s2:Sz z2) (s3:Sz z3) (hz:Zs 10000 (d*F)) (w:¬ Wr (d*F)):jF 13 [vS n1 n2 n3,tx (writeB d)] largeR:=by
 obtain ⟨b1,b2,b3,c1,c2,c3,e1,e2,e3,k1,k2,k3,p1,p2,p3,w1,w2,w3,t1,t2,t3,ha⟩:=h.a
 have n9:∀ {z:Int},Sz z→z.natAbs<10^9:=fun {z} h=>by have:=h.1;have:=h.2;omega
 exact mkBigW ha h.b (cmpT (n9 s1) (by omega) (by omega)) (.inr ⟨_,_,lO s1,gE (n9 s1),cmpT (n9 s2) (by omega) (by omega),.inr ⟨_,_,lO s2,gE (n9 s2),cmpT (n9 s3) (by omega) (by omega),.inr ⟨_,lO s3,gE (n9 s3),refLargeBig hz w⟩⟩⟩)
end
section
variable {m1 m2 m3 d:Rat}
theorem mk_any {k j:Nat} (q1:Bq k m1) (q2:Bq k m2) (q3:Bq k m3) (qd:Bq j d) (hk0:0<k) (hk:k≤2400) (hj:j≤2500) (h0:¬ (m1=0∧m2=0∧m3=0)) :
 ∃ (z1 z2 z3:Int) (t:ByteArray) (e:Int),Oz z1 z2 z3 t e∧jX 40 [hf m1 m2 m3 d] (oH z1 z2 z3 t e)∧jF 13 [vS m1 m2 m3,tx (writeB d)] (oH z1 z2 z3 t e):=by
 obtain ⟨z1,z2,z3,f1,f2,f3,hg,L,G,hL0,hG0,hw,hL,g1,g2,g3⟩:=zD h0
 have qw:=bq_whole q1 q2 q3 hG0 hw hL g1 g2 g3 h0
 have qe:=qd.mul qw
 have l:∀ {q:Rat} {k:Nat},Bq k q→k≤10000→Lf 30 q:=fun h hk=>(h.lf hk).mono (by decide)
 have ld:Lf 38 d:=(l qd (by omega)).mono (by decide)
 have hN:=mkN q1 q2 q3 qd hk0 (by omega) (by omega) h0 f1 f2 f3 hg
 have zb:∀ {p:Rat} {z:Int},Bq k p→bG m1 m2 m3*p=z→z.natAbs<10^(3*k+1+k):=fun {p z} hp e=>by
  have h:=qw.mul hp
  rw [e] at h
  simpa using h.1
 have le:Lf 20 (d*bG m1 m2 m3):=(qe.lf (by omega)).mono (by decide)
 have zs:=qe.zs (by omega)
 have se:(decB (d*bG m1 m2 m3).num.natAbs).size≤1000000000:=by have:=(jZ zs (aR _)).1;omega
 have bad:jX 40 [hf m1 m2 m3 d] largeH→jF 13 [vS m1 m2 m3,tx (writeB d)] largeR →
  ∃ (z1 z2 z3:Int) (t:ByteArray) (e:Int),Oz z1 z2 z3 t e∧jX 40 [hf m1 m2 m3 d] (oH z1 z2 z3 t e)∧jF 13 [vS m1 m2 m3,tx (writeB d)] (oH z1 z2 z3 t e):=fun a b =>
  ⟨0,0,0,⟨#[]⟩,4,.inr ⟨.inl rfl,rfl,rfl,rfl,rfl⟩,a.res noH_oH,b.res noH_oH⟩
 by_cases hr:Wr (d*bG m1 m2 m3)
 ·by_cases hs:Sz z1∧Sz z2∧Sz z3
  ·exact ⟨z1,z2,z3,_,0,.inl rfl,wO ⟨l q1 (by omega),l q2 (by omega),l q3 (by omega),ld,h0,f1,f2,f3,rfl,hs.1,hs.2.1,hs.2.2,hr⟩,mkOk hN hs.1 hs.2.1 hs.2.2 hr⟩
  ·exact bad (hWriteLargeF ⟨l q1 (by omega),l q2 (by omega),l q3 (by omega),ld,h0,f1,f2,f3,rfl,hs,hr⟩) (mkBig (k:=3*k+1+k) hN hs (zb q1 f1) (zb q2 f2) (zb q3 f3) (by omega) (by omega))
 ·have hW:=hWriteDF (l q1 (by omega)) (l q2 (by omega)) (l q3 (by omega)) ld h0 rfl le se hr
  by_cases hs:Sz z1∧Sz z2∧Sz z3
  ·exact bad hW (mkD hN hs.1 hs.2.1 hs.2.2 zs hr)
  ·exact bad hW (mkBig (k:=3*k+1+k) hN hs (zb q1 f1) (zb q2 f2) (zb q3 f3) (by omega) (by omega))
end
structure F12 where
 o1:ByteArray
 o2:ByteArray
 o3:ByteArray
 x1:ByteArray
 x2:ByteArray
 x3:ByteArray
 y1:ByteArray
 y2:ByteArray
 y3:ByteArray
 z1:ByteArray
 z2:ByteArray
 z3:ByteArray
structure F12.Rb (f:F12):Prop where
 o:Rb3 f.o1 f.o2 f.o3
 x:Rb3 f.x1 f.x2 f.x3
 y:Rb3 f.y1 f.y2 f.y3
 z:Rb3 f.z1 f.z2 f.z3
section
variable {o1 o2 o3 x1 x2 x3 y1 y2 y3 z1 z2 z3 p1 p2 p3:Rat}
structure Qf (o1 o2 o3 x1 x2 x3 y1 y2 y3 z1 z2 z3:Rat):Prop where
 o1:Bq 30 o1
 o2:Bq 30 o2
 o3:Bq 30 o3
 x1:Bq 30 x1
 x2:Bq 30 x2
 x3:Bq 30 x3
 y1:Bq 30 y1
 y2:Bq 30 y2
 y3:Bq 30 y3
 z1:Bq 30 z1
 z2:Bq 30 z2
 z3:Bq 30 z3
structure Q3 (p1 p2 p3:Rat):Prop where
 a:Bq 30 p1
 b:Bq 30 p2
 c:Bq 30 p3
theorem Qf.x (h:Qf o1 o2 o3 x1 x2 x3 y1 y2 y3 z1 z2 z3):Q3 x1 x2 x3:=⟨h.x1,h.x2,h.x3⟩
theorem Qf.y (h:Qf o1 o2 o3 x1 x2 x3 y1 y2 y3 z1 z2 z3):Q3 y1 y2 y3:=⟨h.y1,h.y2,h.y3⟩
theorem Qf.z (h:Qf o1 o2 o3 x1 x2 x3 y1 y2 y3 z1 z2 z3):Q3 z1 z2 z3:=⟨h.z1,h.z2,h.z3⟩
theorem Qf.o (h:Qf o1 o2 o3 x1 x2 x3 y1 y2 y3 z1 z2 z3):Q3 o1 o2 o3:=⟨h.o1,h.o2,h.o3⟩
theorem addV2 {j l:Nat} {a b c x y z:Rat} (h1:Bq j a) (h2:Bq j b) (h3:Bq j c) (k1:Bq l x) (k2:Bq l y) (k3:Bq l z) (hj:j≤10000) (hl:l≤10000):jF 64 [vS a b c,vS x y z] (vS (a+x) (b+y) (c+z)) :=
 addVecR (kX (qB (h1.zs hj) (k1.zs hl))) (kX (qB (h2.zs hj) (k2.zs hl))) (kX (qB (h3.zs hj) (k3.zs hl)))
end
abbrev F12.lo (f:F12) (n:Int):Bool:=(Ab.lo n f.o1 || Ab.lo n f.o2 || Ab.lo n f.o3 || Ab.lo n f.x1 || Ab.lo n f.x2 || Ab.lo n f.x3 || Ab.lo n f.y1 || Ab.lo n f.y2 || Ab.lo n f.y3 || Ab.lo n f.z1 || Ab.lo n f.z2 || Ab.lo n f.z3)
structure F12.Ss (f:F12):Prop where
 o:Ss3 f.o1 f.o2 f.o3
 x:Ss3 f.x1 f.x2 f.x3
 y:Ss3 f.y1 f.y2 f.y3
 z:Ss3 f.z1 f.z2 f.z3
theorem F12.Ss.rb {f:F12} (h:f.Ss):f.Rb:=⟨h.o.sl.rb,h.x.sl.rb,h.y.sl.rb,h.z.sl.rb⟩
section
variable {o1 o2 o3 x1 x2 x3 y1 y2 y3 z1 z2 z3 p1 p2 p3:Rat} {a b c:ByteArray} {z:Int}
theorem Qf.wf (q:Qf o1 o2 o3 x1 x2 x3 y1 y2 y3 z1 z2 z3):Wf o1 o2 o3 x1 x2 x3 y1 y2 y3 z1 z2 z3:=⟨⟨q.o1.wr (by omega),q.o2.wr (by omega),q.o3.wr (by omega)⟩,⟨q.x1.wr (by omega),q.x2.wr (by omega),q.x3.wr (by omega)⟩,⟨q.y1.wr (by omega),q.y2.wr (by omega),q.y3.wr (by omega)⟩,⟨q.z1.wr (by omega),q.z2.wr (by omega),q.z3.wr (by omega)⟩⟩
end
section
variable {o1 o2 o3 x1 x2 x3 y1 y2 y3 z1 z2 z3 p1 p2 p3 d q1 q2 q3 m1 m2 m3:Rat} {n1 n2 n3 k1 k2 k3 e:Int} {t:ByteArray}
structure Nm (n1 n2 n3:Int):Prop where
 m:M3 n1 n2 n3
 a:Bq 10 (n1:Rat)
 b:Bq 10 (n2:Rat)
 c:Bq 10 (n3:Rat)
end
set_option maxRecDepth 100000 in
theorem tO {a1 a2 a3 b1 b2 b3 c1 c2 c3:ByteArray} {n:Int} {T:TypeId} {r:Bool} (h:(lo n a1 || lo n a2 || lo n a3 || lo n b1 || lo n b2 || lo n b3 || lo n c1 || lo n c2 || lo n c3)=r):jF 5 [it n,.fv (.nsl 3 T [cQ a1,cQ a2,cQ a3,cQ b1,cQ b2,cQ b3,cQ c1,cQ c2,cQ c3])] (bl (!r)):=by
 obtain ⟨r0,e0⟩:∃ r,lo n a1=r:=⟨_,rfl⟩
 obtain ⟨r1,e1⟩:∃ r,lo n a2=r:=⟨_,rfl⟩
 obtain ⟨r2,e2⟩:∃ r,lo n a3=r:=⟨_,rfl⟩
 obtain ⟨r3,e3⟩:∃ r,lo n b1=r:=⟨_,rfl⟩
 obtain ⟨r4,e4⟩:∃ r,lo n b2=r:=⟨_,rfl⟩
 obtain ⟨r5,e5⟩:∃ r,lo n b3=r:=⟨_,rfl⟩
 obtain ⟨r6,e6⟩:∃ r,lo n c1=r:=⟨_,rfl⟩
 obtain ⟨r7,e7⟩:∃ r,lo n c2=r:=⟨_,rfl⟩
 obtain ⟨r8,e8⟩:∃ r,lo n c3=r:=⟨_,rfl⟩
 rw [e0,e1,e2,e3,e4,e5,e6,e7,e8] at h
 subst h
 refine kgoAS Tryz.func5 (by kernel_rfl) fun w00=>?_
 refine jP 16 22 Tryz.underlying22 a1 ?_
 refine wV (.tmp 17) (.tmp 18) a1.size n r0 _ bA e0 ?_
 cases r0
 case true=>exact jR Tryz.func5
 refine jP 25 22 Tryz.underlying22 a2 ?_
 refine wV (.tmp 26) (.tmp 27) a2.size n r1 _ bA e1 ?_
 cases r1
 case true=>exact jR Tryz.func5
 refine jP 35 22 Tryz.underlying22 a3 ?_
 refine wV (.tmp 36) (.tmp 37) a3.size n r2 _ bA e2 ?_
 cases r2
 case true=>exact jR Tryz.func5
 refine jP 16 22 Tryz.underlying22 b1 ?_
 refine wV (.tmp 17) (.tmp 18) b1.size n r3 _ bA e3 ?_
 cases r3
 case true=>exact jR Tryz.func5
 refine jP 25 22 Tryz.underlying22 b2 ?_
 refine wV (.tmp 26) (.tmp 27) b2.size n r4 _ bA e4 ?_
 cases r4
 case true=>exact jR Tryz.func5
 refine jP 35 22 Tryz.underlying22 b3 ?_
 refine wV (.tmp 36) (.tmp 37) b3.size n r5 _ bA e5 ?_
 cases r5
 case true=>exact jR Tryz.func5
 refine jP 16 22 Tryz.underlying22 c1 ?_
 refine wV (.tmp 17) (.tmp 18) c1.size n r6 _ bA e6 ?_
 cases r6
 case true=>exact jR Tryz.func5
 refine jP 25 22 Tryz.underlying22 c2 ?_
 refine wV (.tmp 26) (.tmp 27) c2.size n r7 _ bA e7 ?_
 cases r7
 case true=>exact jR Tryz.func5
 refine jP 35 22 Tryz.underlying22 c3 ?_
 refine wV (.tmp 36) (.tmp 37) c3.size n r8 _ bA e8 ?_
 cases r8
 case true=>exact jR Tryz.func5
 exact jR Tryz.func5
theorem f2_assoc (x y z:Int):f2 (f2 x y) z=f2 x (f2 y z):=by
 unfold f2
 by_cases h:x=0
 ·rw [if_pos h,if_pos h]
 ·rw [if_neg h,if_neg h,if_neg h]
theorem lP {x y u z:Int} (hx:Eh x) (hy:Eh y) (hu:Eh u) (hz:f3 x y u=z):jF 7 [.fv (.nsl 3 3 [lz x,lz y,lz u])] (it z):=by
 rcases hx with rfl|rfl|rfl|rfl|rfl
 ·have hz:f2 y u=z:=hz
  rcases hy with rfl|rfl|rfl|rfl|rfl
  ·have hz:u=z:=hz
   subst hz
   rcases hu with rfl|rfl|rfl|rfl|rfl <;> (refine lU Tryz.func7 (by kernel_rfl) fun w00=>?_;exact kret Tryz.func7 (by kernel_rfl))
  all_goals
   have hz:_=z:=hz
   subst hz
   refine lU Tryz.func7 (by kernel_rfl) fun w00=>?_
   exact jR Tryz.func7
 all_goals
  have hz:_=z:=hz
  subst hz
  refine lU Tryz.func7 (by kernel_rfl) fun w00=>?_
  exact jR Tryz.func7
section
variable {n1 n2 n3 m1 m2 m3 l1 l2 l3 z:Int} {a1 a2 a3 b1 b2 b3 c1 c2 c3 s t u:ByteArray}
theorem aAe (h:Rb3 a1 a2 a3) (k:Rb3 b1 b2 b3) (l:Rb3 c1 c2 c3) (hz:f3 (Ab.c3 a1 a2 a3) (Ab.c3 b1 b2 b3) (Ab.c3 c1 c2 c3)=z) (h0:z≠0):jX 6 [t3 a1 a2 a3,t3 b1 b2 b3,t3 c1 c2 c3] (noH z):=by
 have e1:=readVVAny h k rfl
 have e2:=pP l rfl
 have e3:=uU (T:=34) (vX (iQ a1 a2 a3) (iQ b1 b2 b3)) (iQ c1 c2 c3) ((f2_assoc _ _ _).trans hz)
 rcases show Ev z from hz▸vX (iQ _ _ _) (vX (iQ _ _ _) (iQ _ _ _)) with rfl|rfl|rfl
 ·exact absurd rfl h0
 all_goals
  refine jY Tryz.func6 fun w00 hI=>?_
  refine jW hI 33 _ (e1) ?_
  refine jW hI 34 _ (e2) ?_
  refine jC 35 _ (e3) ?_
  exact jR Tryz.func6
theorem readHHAny (m:M3 n1 n2 n3) (h:Rb s) (m' : M3 m1 m2 m3) (k:Rb t):jX 54 [fS 55,hL n1 n2 n3 s,fS 55,hL m1 m2 m3 t] (.tup [.ag [nb n1,nb n2,nb n3,nb (pN s)],.ag [nb m1,nb m2,nb m3,nb (pN t)],.sc (lz (f2 (kh n1 n2 n3 s) (kh m1 m2 m3 t)))]):=by
 refine jY Tryz.func54 fun w00 hI=>?_
 refine jW hI 55 [hL n1 n2 n3 s] (nY m h rfl) ?_
 refine jW hI 55 [hL m1 m2 m3 t] (nY m' k rfl) ?_
 refine jC 35 [.fv (.nsl 2 34 [lz (kh n1 n2 n3 s),lz (kh m1 m2 m3 t)])] (zK iR iR rfl) ?_
 exact jR Tryz.func54
theorem zL (m:M3 n1 n2 n3) (h:Rb s) (m' : M3 m1 m2 m3) (k:Rb t) (m'' : M3 l1 l2 l3) (l:Rb u) (hz:f3 (kh n1 n2 n3 s) (kh m1 m2 m3 t) (kh l1 l2 l3 u)=z) (h0:z≠0):jX 16 [hL n1 n2 n3 s,hL m1 m2 m3 t,hL l1 l2 l3 u] (noV z):=by
 have e1:=readHHAny m h m' k
 have e2:=nY m'' l rfl
 have e3:=zK (T:=34) (f2_eh (iR (n1:=n1) (n2:=n2) (n3:=n3) (s:=s)) (iR (n1:=m1) (n2:=m2) (n3:=m3) (s:=t))) (iR (n1:=l1) (n2:=l2) (n3:=l3) (s:=u)) ((f2_assoc _ _ _).trans hz)
 rcases show Eh z from hz▸f2_eh iR (f2_eh iR iR) with rfl|rfl|rfl|rfl|rfl
 ·exact absurd rfl h0
 all_goals
  refine jY Tryz.func16 fun w00 hI=>?_
  refine jW hI 54 _ (e1) ?_
  refine jW hI 55 _ (e2) ?_
  refine jC 35 _ (e3) ?_
  exact jR Tryz.func16
end
section
variable {a1 a2 a3 b1 b2 b3 c1 c2 c3 m1 m2 m3:Rat} {z1 z2 z3 e:Int} {t:ByteArray}
theorem through_O (ka:kU a1 a2 a3) (kb:kU b1 b2 b3) (kc:kU c1 c2 c3)
 (e1:(b2-a2)*(c3-a3)-(b3-a3)*(c2-a2)=m1) (e2:(b3-a3)*(c1-a1)-(b1-a1)*(c3-a3)=m2) (e3:(b1-a1)*(c2-a2)-(b2-a2)*(c1-a1)=m3) (lm:Lv3 30 m1 m2 m3)
 (h0:¬ (m1=0∧m2=0∧m3=0)) (hw:jX 40 [hf m1 m2 m3 (dt m1 m2 m3 a1 a2 a3)] (oH z1 z2 z3 t e)):jX 6 [vS a1 a2 a3,vS b1 b2 b3,vS c1 c2 c3] (oH z1 z2 z3 t e):=by
 have s:∀ {x y:Rat},Wr x→Wr y→Lf 35 (x-y):=fun hx hy=>Lf.subn (hx.lf.mono (by decide)) (hy.lf.mono (by decide)) (by decide)
 have hcross:jF 37 [vc (b1-a1) (b2-a2) (b3-a3),vc (c1-a1) (c2-a2) (c3-a3)] (vc m1 m2 m3):=by
  have:=iX (s kb.1 ka.1) (s kb.2.1 ka.2.1) (s kb.2.2 ka.2.2) (s kc.1 ka.1) (s kc.2.1 ka.2.1) (s kc.2.2 ka.2.2)
  rw [e1,e2,e3] at this
  exact this
 have hm1:jF 36 [vc b1 b2 b3,vc a1 a2 a3] (vc (b1-a1) (b2-a2) (b3-a3)):=nQ (kb.1.lf.mono (by decide)) (kb.2.1.lf.mono (by decide)) (kb.2.2.lf.mono (by decide)) (ka.1.lf.mono (by decide)) (ka.2.1.lf.mono (by decide)) (ka.2.2.lf.mono (by decide))
 have hm2:jF 36 [vc c1 c2 c3,vc a1 a2 a3] (vc (c1-a1) (c2-a2) (c3-a3)):=nQ (kc.1.lf.mono (by decide)) (kc.2.1.lf.mono (by decide)) (kc.2.2.lf.mono (by decide)) (ka.1.lf.mono (by decide)) (ka.2.1.lf.mono (by decide)) (ka.2.2.lf.mono (by decide))
 refine jY Tryz.func6 fun w00 hI=>?_
 refine jW hI 33 [fS 34,vS a1 a2 a3,fS 34,vS b1 b2 b3] (yM ka kb) ?_
 refine jW hI 34 [vS c1 c2 c3] (eN kc) ?_
 refine jC 35 [.fv (.nsl 2 34 [z0,z0])] (dZ) ?_
 refine jC 36 [vc b1 b2 b3,vc a1 a2 a3] (hm1) ?_
 refine jC 36 [vc c1 c2 c3,vc a1 a2 a3] (hm2) ?_
 refine jC 37 [vc (b1-a1) (b2-a2) (b3-a3),vc (c1-a1) (c2-a2) (c3-a3)] (hcross) ?_
 refine jC 38 [vc m1 m2 m3] (fC (wU h0)) ?_
 refine jC 39 [vc m1 m2 m3,vc a1 a2 a3] (rE (lm.a.mono (by decide)) (lm.b.mono (by decide)) (lm.c.mono (by decide)) (ka.1.lf.mono (by decide)) (ka.2.1.lf.mono (by decide)) (ka.2.2.lf.mono (by decide))) ?_
 refine jW hI 40 [hf m1 m2 m3 (dt m1 m2 m3 a1 a2 a3)] (hw) ?_
 exact jR Tryz.func6
end
section
variable {h1 h2 h3 i1 i2 i3 j1 j2 j3:Int} {d e f u1 u2 u3 v1 v2 v3 w1 w2 w3 V p1 p2 p3:Rat}
theorem lY {a b c d:Rat} (ha:Bq 10 a) (hb:Bq 10 b) (hc:Bq 10 c) (hd:Bq 10 d):Bq 41 (a*b-c*d):=(ha.mul hb).sub (hc.mul hd)
theorem refCrossingF (k1:Nm h1 h2 h3) (k2:Nm i1 i2 i3) (k3:Nm j1 j2 j3) (qd:Bq 30 d) (qe:Bq 30 e) (qf:Bq 30 f) (c:Cr h1 h2 h3 i1 i2 i3 j1 j2 j3 u1 u2 u3 v1 v2 v3 w1 w2 w3 V) (h0:V≠0) :
 jF 19 [hL h1 h2 h3 (writeB d),hL i1 i2 i3 (writeB e),hL j1 j2 j3 (writeB f)] (.tup [.ag [cQ (writeB (V⁻¹*(d*u1+e*v1+f*w1))),cQ (writeB (V⁻¹*(d*u2+e*v2+f*w2))),cQ (writeB (V⁻¹*(d*u3+e*v3+f*w3)))],.sc (.lit (.bool true))]):=by
 have n1:=qG (s:=writeB d) k1.m.1 k1.m.2.1 k1.m.2.2
 have n2:=qG (s:=writeB e) k2.m.1 k2.m.2.1 k2.m.2.2
 have n3:=qG (s:=writeB f) k3.m.1 k3.m.2.1 k3.m.2.2
 have cu:=zE k2.a k2.b k2.c k3.a k3.b k3.c (by omega)
 have cv:=zE k3.a k3.b k3.c k1.a k1.b k1.c (by omega)
 have cw:=zE k1.a k1.b k1.c k2.a k2.b k2.c (by omega)
 rw [c.cu1,c.cu2,c.cu3] at cu
 rw [c.cv1,c.cv2,c.cv3] at cv
 rw [c.cw1,c.cw2,c.cw3] at cw
 have bu1:Bq 41 u1:=c.cu1▸lY k2.b k3.c k2.c k3.b
 have bu2:Bq 41 u2:=c.cu2▸lY k2.c k3.a k2.a k3.c
 have bu3:Bq 41 u3:=c.cu3▸lY k2.a k3.b k2.b k3.a
 have bv1:Bq 41 v1:=c.cv1▸lY k3.b k1.c k3.c k1.b
 have bv2:Bq 41 v2:=c.cv2▸lY k3.c k1.a k3.a k1.c
 have bv3:Bq 41 v3:=c.cv3▸lY k3.a k1.b k3.b k1.a
 have bw1:Bq 41 w1:=c.cw1▸lY k1.b k2.c k1.c k2.b
 have bw2:Bq 41 w2:=c.cw2▸lY k1.c k2.a k1.a k2.c
 have bw3:Bq 41 w3:=c.cw3▸lY k1.a k2.b k1.b k2.a
 have dd:=dotV k1.a k1.b k1.c bu1 bu2 bu3 (by omega)
 rw [c.cV] at dd
 have kD:=detR cu dd
 have bV:Bq 155 V:=c.cV▸Bq.dt k1.a k1.b k1.c bu1 bu2 bu3 (by omega)
 have kZ:=isZeroQ V
 rw [decide_eq_false h0] at kZ
 have s1:=scaleQ qd bu1 bu2 bu3 (by omega) (by omega)
 have s2:=scaleQ qe bv1 bv2 bv3 (by omega) (by omega)
 have s3:=scaleQ qf bw1 bw2 bw3 (by omega) (by omega)
 have t1:=addV2 (qd.mul bu1) (qd.mul bu2) (qd.mul bu3) (qe.mul bv1) (qe.mul bv2) (qe.mul bv3) (by omega) (by omega)
 have t2:=addV2 ((qd.mul bu1).add (qe.mul bv1)) ((qd.mul bu2).add (qe.mul bv2)) ((qd.mul bu3).add (qe.mul bv3)) (qf.mul bw1) (qf.mul bw2) (qf.mul bw3) (by omega) (by omega)
 have kR:=zB (recipF (bV.zs (by omega)) h0)
 have s4:=scaleQ bV.inv (((qd.mul bu1).add (qe.mul bv1)).add (qf.mul bw1)) (((qd.mul bu2).add (qe.mul bv2)).add (qf.mul bw2)) (((qd.mul bu3).add (qe.mul bv3)).add (qf.mul bw3)) (by omega) (by omega)
 refine jG Tryz.func19 fun w00=>?_
 refine jC 61 _ (n1) ?_
 refine jC 61 _ (n2) ?_
 refine jC 61 _ (n3) ?_
 refine jC 62 _ (kD) ?_
 refine jC 63 _ (kZ) ?_
 refine jC 9 _ (cu) ?_
 refine jC 65 _ (s1) ?_
 refine jC 9 _ (cv) ?_
 refine jC 65 _ (s2) ?_
 refine jC 64 _ (t1) ?_
 refine jC 9 _ (cw) ?_
 refine jC 65 _ (s3) ?_
 refine jC 64 _ (t2) ?_
 refine jC 66 _ (kR) ?_
 refine jC 65 _ (s4) ?_
 exact jR Tryz.func19
theorem aAf (k1:Nm h1 h2 h3) (k2:Nm i1 i2 i3) (k3:Nm j1 j2 j3) (c:Cr h1 h2 h3 i1 i2 i3 j1 j2 j3 u1 u2 u3 v1 v2 v3 w1 w2 w3 V) (h0:V=0) :
 jF 19 [hL h1 h2 h3 (writeB d),hL i1 i2 i3 (writeB e),hL j1 j2 j3 (writeB f)] (.tup [.ag [eT,eT,eT],.sc (.lit (.bool false))]):=by
 have n1:=qG (s:=writeB d) k1.m.1 k1.m.2.1 k1.m.2.2
 have n2:=qG (s:=writeB e) k2.m.1 k2.m.2.1 k2.m.2.2
 have n3:=qG (s:=writeB f) k3.m.1 k3.m.2.1 k3.m.2.2
 have cu:=zE k2.a k2.b k2.c k3.a k3.b k3.c (by omega)
 rw [c.cu1,c.cu2,c.cu3] at cu
 have bu1:Bq 41 u1:=c.cu1▸lY k2.b k3.c k2.c k3.b
 have bu2:Bq 41 u2:=c.cu2▸lY k2.c k3.a k2.a k3.c
 have bu3:Bq 41 u3:=c.cu3▸lY k2.a k3.b k2.b k3.a
 have dd:=dotV k1.a k1.b k1.c bu1 bu2 bu3 (by omega)
 rw [c.cV] at dd
 have kD:=detR cu dd
 have kZ:=isZeroQ V
 rw [decide_eq_true h0] at kZ
 refine jG Tryz.func19 fun w00=>?_
 refine jC 61 _ (n1) ?_
 refine jC 61 _ (n2) ?_
 refine jC 61 _ (n3) ?_
 refine jC 62 _ (kD) ?_
 refine jC 63 _ (kZ) ?_
 exact jR Tryz.func19
end
abbrev X21 (p:Nat→ByteArray) (h:Nat→Int) (s:Nat→ByteArray):AV Kn := .fv (.ag [cQ (p 0),cQ (p 1),cQ (p 2),cQ (p 3),cQ (p 4),cQ (p 5),cQ (p 6),cQ (p 7),cQ (p 8),lz (h 0),lz (h 1),lz (h 2),cQ (s 0),lz (h 3),lz (h 4),lz (h 5),cQ (s 1),lz (h 6),lz (h 7),lz (h 8),cQ (s 2)])
abbrev Bp (z:Int):Prop:=z=1∨z=3∨z=4∨z=6∨z=7
theorem pointBp {z:Int} (h:Bp z):jF 18 [noT,it z,it z,noT] (bl true):=pointBad h
section
variable {p:Nat→ByteArray} {h:Nat→Int} {s:Nat→ByteArray} {x y u x' y' u' : Int}
theorem cross_long (hs:(lo 20 (p 0) || lo 20 (p 1) || lo 20 (p 2) || lo 20 (p 3) || lo 20 (p 4) || lo 20 (p 5) || lo 20 (p 6) || lo 20 (p 7) || lo 20 (p 8))=true):jX 3 [X21 p h s] (bl true):=by
 have k:=tO (T:=24) hs
 refine jY Tryz.func3 fun w00 hI=>?_
 refine jW hI 4 [] (nX) ?_
 refine jC 5 _ (k) ?_
 refine jW hI 4 [] (nX) ?_
 exact jR Tryz.func3
theorem cross_len0 (hs:(lo 20 (p 0) || lo 20 (p 1) || lo 20 (p 2) || lo 20 (p 3) || lo 20 (p 4) || lo 20 (p 5) || lo 20 (p 6) || lo 20 (p 7) || lo 20 (p 8))=false) (c0:decide ((20:Int)<((s 0).size:Nat))=true):jX 3 [X21 p h s] (bl true):=by
 have k:=tO (T:=24) hs
 refine jY Tryz.func3 fun w00 hI=>?_
 refine jW hI 4 [] (nX) ?_
 refine jC 5 _ (k) ?_
 refine jP 34 22 Tryz.underlying22 (s 0) ?_
 refine jM 35 (s 0).size 20 true c0 ?_
 refine jW hI 4 [] (nX) ?_
 exact jR Tryz.func3
theorem cross_len1 (hs:(lo 20 (p 0) || lo 20 (p 1) || lo 20 (p 2) || lo 20 (p 3) || lo 20 (p 4) || lo 20 (p 5) || lo 20 (p 6) || lo 20 (p 7) || lo 20 (p 8))=false) (c0:decide ((20:Int)<((s 0).size:Nat))=false) (c1:decide ((20:Int)<((s 1).size:Nat))=true):jX 3 [X21 p h s] (bl true):=by
 have k:=tO (T:=24) hs
 refine jY Tryz.func3 fun w00 hI=>?_
 refine jW hI 4 [] (nX) ?_
 refine jC 5 _ (k) ?_
 refine jP 34 22 Tryz.underlying22 (s 0) ?_
 refine jM 35 (s 0).size 20 false c0 ?_
 refine jP 41 22 Tryz.underlying22 (s 1) ?_
 refine jM 42 (s 1).size 20 true c1 ?_
 refine jW hI 4 [] (nX) ?_
 exact jR Tryz.func3
theorem cross_len2 (hs:(lo 20 (p 0) || lo 20 (p 1) || lo 20 (p 2) || lo 20 (p 3) || lo 20 (p 4) || lo 20 (p 5) || lo 20 (p 6) || lo 20 (p 7) || lo 20 (p 8))=false) (c0:decide ((20:Int)<((s 0).size:Nat))=false) (c1:decide ((20:Int)<((s 1).size:Nat))=false) (c2:decide ((20:Int)<((s 2).size:Nat))=true):jX 3 [X21 p h s] (bl true):=by
 have k:=tO (T:=24) hs
 refine jY Tryz.func3 fun w00 hI=>?_
 refine jW hI 4 [] (nX) ?_
 refine jC 5 _ (k) ?_
 refine jP 34 22 Tryz.underlying22 (s 0) ?_
 refine jM 35 (s 0).size 20 false c0 ?_
 refine jP 41 22 Tryz.underlying22 (s 1) ?_
 refine jM 42 (s 1).size 20 false c1 ?_
 refine jP 48 22 Tryz.underlying22 (s 2) ?_
 refine jM 49 (s 2).size 20 true c2 ?_
 refine jW hI 4 [] (nX) ?_
 exact jR Tryz.func3
abbrev TO (p:Nat→ByteArray) (x y u:Int):Prop :=
 (∃ z,Bp z∧jX 6 [t3 (p 0) (p 1) (p 2),t3 (p 3) (p 4) (p 5),t3 (p 6) (p 7) (p 8)] (noH z)∧jF 7 [.fv (.nsl 3 3 [lz x,lz y,lz u])] (it z)) ∨
 (∃ (a1 a2 a3 b1 b2 b3 n1 n2 n3:ByteArray),jF 7 [.fv (.nsl 3 3 [lz x,lz y,lz u])] (it 0)∧jF 10 [t3 (p 3) (p 4) (p 5),t3 (p 0) (p 1) (p 2)] (t3 a1 a2 a3)∧jF 10 [t3 (p 6) (p 7) (p 8),t3 (p 0) (p 1) (p 2)] (t3 b1 b2 b3)∧jF 9 [t3 a1 a2 a3,t3 b1 b2 b3] (t3 n1 n2 n3) ∧
  (jX 6 [t3 (p 0) (p 1) (p 2),t3 (p 3) (p 4) (p 5),t3 (p 6) (p 7) (p 8)] (noH 7)∧jF 12 [t3 n1 n2 n3] (bl true) ∨
   ∃ (d t:ByteArray) (z1 z2 z3 e:Int),Oz z1 z2 z3 t e∧jX 6 [t3 (p 0) (p 1) (p 2),t3 (p 3) (p 4) (p 5),t3 (p 6) (p 7) (p 8)] (oH z1 z2 z3 t e)∧jF 12 [t3 n1 n2 n3] (bl false)∧jF 14 [t3 n1 n2 n3,t3 (p 0) (p 1) (p 2)] (tx d)∧jF 13 [t3 n1 n2 n3,tx d] (oH z1 z2 z3 t e)))
abbrev CO (h:Nat→Int) (s:Nat→ByteArray) (x y u:Int):Prop :=
 (∃ z,Bp z∧jX 16 [hL (h 0) (h 1) (h 2) (s 0),hL (h 3) (h 4) (h 5) (s 1),hL (h 6) (h 7) (h 8) (s 2)] (noV z)∧jF 7 [.fv (.nsl 3 3 [lz x,lz y,lz u])] (it z)) ∨
 (jF 7 [.fv (.nsl 3 3 [lz x,lz y,lz u])] (it 0) ∧
  (jX 16 [hL (h 0) (h 1) (h 2) (s 0),hL (h 3) (h 4) (h 5) (s 1),hL (h 6) (h 7) (h 8) (s 2)] (noV 7)∧jF 19 [hL (h 0) (h 1) (h 2) (s 0),hL (h 3) (h 4) (h 5) (s 1),hL (h 6) (h 7) (h 8) (s 2)] (.tup [.ag [eT,eT,eT],.sc (.lit (.bool false))]) ∨
   ∃ q1 q2 q3:Rat,kU q1 q2 q3∧jX 16 [hL (h 0) (h 1) (h 2) (s 0),hL (h 3) (h 4) (h 5) (s 1),hL (h 6) (h 7) (h 8) (s 2)] (fY q1 q2 q3)∧jF 19 [hL (h 0) (h 1) (h 2) (s 0),hL (h 3) (h 4) (h 5) (s 1),hL (h 6) (h 7) (h 8) (s 2)] (.tup [.ag [cQ (writeB q1),cQ (writeB q2),cQ (writeB q3)],.sc (.lit (.bool true))])))
set_option maxRecDepth 100000 in
theorem cross_walk (hs:(lo 20 (p 0) || lo 20 (p 1) || lo 20 (p 2) || lo 20 (p 3) || lo 20 (p 4) || lo 20 (p 5) || lo 20 (p 6) || lo 20 (p 7) || lo 20 (p 8))=false) (c0:decide ((20:Int)<((s 0).size:Nat))=false) (c1:decide ((20:Int)<((s 1).size:Nat))=false) (c2:decide ((20:Int)<((s 2).size:Nat))=false) (kA:jF 8 [t3 (p 0) (p 1) (p 2)] (it x)) (kB:jF 8 [t3 (p 3) (p 4) (p 5)] (it y)) (kC:jF 8 [t3 (p 6) (p 7) (p 8)] (it u)) (nA:jF 17 [hL (h 0) (h 1) (h 2) (s 0)] (it x')) (nB:jF 17 [hL (h 3) (h 4) (h 5) (s 1)] (it y')) (nC:jF 17 [hL (h 6) (h 7) (h 8) (s 2)] (it u')) (T:TO p x y u) (C:CO h s x' y' u'):jX 3 [X21 p h s] (bl true):=by
 have k:=tO (T:=24) hs
 have hne:∀ {z:Int},Bp z→(z==0)=false:=fun h=>by rcases h with rfl|rfl|rfl|rfl|rfl <;> rfl
 have hne' : ∀ {z:Int},Bp z→(!(z==0))=true:=fun h=>by rcases h with rfl|rfl|rfl|rfl|rfl <;> rfl
 have hbh:∀ {z:Int},Bp z→Bh z:=fun h=>by rcases h with rfl|rfl|rfl|rfl|rfl <;> simp [Bh]
 have p7:=pointBp (z:=7) (by simp [Bp,Bz])
 have w7:=whenF (b:=true)
 have w0:=whenF (b:=false)
 have b7:=planeBh (z:=7) (by simp [Bh])
 refine jY Tryz.func3 fun w00 hI=>?_
 refine jW hI 4 [] (nX) ?_
 refine jC 5 _ (k) ?_
 refine jP 34 22 Tryz.underlying22 (s 0) ?_
 refine jM 35 (s 0).size 20 false c0 ?_
 refine jP 41 22 Tryz.underlying22 (s 1) ?_
 refine jM 42 (s 1).size 20 false c1 ?_
 refine jP 48 22 Tryz.underlying22 (s 2) ?_
 refine jM 49 (s 2).size 20 false c2 ?_
 rcases T with ⟨z,hz,cT,k1⟩|⟨a1,a2,a3,b1,b2,b3,n1,n2,n3,k1,r1,r2,r3,⟨cT,r4⟩|⟨d,t,z1,z2,z3,e,ho,cT,r4,r5,r6⟩⟩
 focus
  have k2:=zI k1
  have pB:=fits_isI3 (planeBh (hbh hz))
  refine jW hI 6 _ (cT) ?_
  refine jC 8 _ (kA) ?_
  refine jC 8 _ (kB) ?_
  refine jC 8 _ (kC) ?_
  refine jC 7 _ (k2) ?_
  refine keqG (.tmp 75) (.const (.int .i64 0)) z 0 false _ _ is_int bA (hne hz) ?_
  refine jC 15 _ (pB) ?_
 rotate_left
 focus
  refine jW hI 6 _ (cT) ?_
  refine jC 8 _ (kA) ?_
  refine jC 8 _ (kB) ?_
  refine jC 8 _ (kC) ?_
  refine jC 7 _ (k1) ?_
  refine jC 10 _ (r1) ?_
  refine jC 10 _ (r2) ?_
  refine jC 9 _ (r3) ?_
  refine jC 12 _ (r4) ?_
  refine jC 11 _ (w7) ?_
  refine jC 15 _ (b7) ?_
 rotate_left
 focus
  have pO:=planeOz ho
  refine jW hI 6 _ (cT) ?_
  refine jC 8 _ (kA) ?_
  refine jC 8 _ (kB) ?_
  refine jC 8 _ (kC) ?_
  refine jC 7 _ (k1) ?_
  refine jC 10 _ (r1) ?_
  refine jC 10 _ (r2) ?_
  refine jC 9 _ (r3) ?_
  refine jC 12 _ (r4) ?_
  refine jC 11 _ (w0) ?_
  refine jC 14 _ (r5) ?_
  refine jC 13 _ (r6) ?_
  refine jC 15 _ (pO) ?_
 rotate_left
 all_goals
  rcases C with ⟨z',hz',cC,q1⟩|⟨q1,⟨cC,r7⟩|⟨g1,g2,g3,hw,cC,r7⟩⟩
  ·have q2:=zI q1
   have pB':=fits_isI3 (pointBp hz')
   refine jW hI 16 _ (cC) ?_
   refine jC 17 _ (nA) ?_
   refine jC 17 _ (nB) ?_
   refine jC 17 _ (nC) ?_
   refine jC 7 _ (q2) ?_
   refine kne (.tmp 129) (.const (.int .i64 0)) z' 0 true _ bA (hne' hz') ?_
   refine jC 18 _ (pB') ?_
   exact jR Tryz.func3
  ·refine jW hI 16 _ (cC) ?_
   refine jC 17 _ (nA) ?_
   refine jC 17 _ (nB) ?_
   refine jC 17 _ (nC) ?_
   refine jC 7 _ (q1) ?_
   refine jC 19 _ (r7) ?_
   refine jC 18 _ (p7) ?_
   exact jR Tryz.func3
  ·have pk:=pointOk hw
   refine jW hI 16 _ (cC) ?_
   refine jC 17 _ (nA) ?_
   refine jC 17 _ (nB) ?_
   refine jC 17 _ (nC) ?_
   refine jC 7 _ (q1) ?_
   refine jC 19 _ (r7) ?_
   refine jC 18 _ (pk) ?_
   exact jR Tryz.func3
end
theorem through_TO {p:Nat→ByteArray} (g:∀ i,(p i).size≤30):TO p (c3 (p 0) (p 1) (p 2)) (c3 (p 3) (p 4) (p 5)) (c3 (p 6) (p 7) (p 8)):=by
 have s1:Ss3 (p 0) (p 1) (p 2):=⟨g 0,g 1,g 2⟩
 have s2:Ss3 (p 3) (p 4) (p 5):=⟨g 3,g 4,g 5⟩
 have s3:Ss3 (p 6) (p 7) (p 8):=⟨g 6,g 7,g 8⟩
 by_cases hz:f3 (c3 (p 0) (p 1) (p 2)) (c3 (p 3) (p 4) (p 5)) (c3 (p 6) (p 7) (p 8))=0
 ·right
  have k1:=lP (vZ (iQ (p 0) (p 1) (p 2))) (vZ (iQ (p 3) (p 4) (p 5))) (vZ (iQ (p 6) (p 7) (p 8))) hz
  obtain ⟨z1,z23⟩:=qD hz
  obtain ⟨z2,z3⟩:=qD z23
  obtain ⟨a1,a2,a3,e1,e2,e3,qa1,qa2,qa3⟩:=slwN3 (n:=30) s1.1 s1.2.1 s1.2.2 (by omega) z1
  obtain ⟨b1,b2,b3,e4,e5,e6,qb1,qb2,qb3⟩:=slwN3 (n:=30) s2.1 s2.2.1 s2.2.2 (by omega) z2
  obtain ⟨d1,d2,d3,e7,e8,e9,qd1,qd2,qd3⟩:=slwN3 (n:=30) s3.1 s3.2.1 s3.2.2 (by omega) z3
  clear s1 s2 s3 hz z1 z2 z3 z23 g
  rw [e1,e2,e3,e4,e5,e6,e7,e8,e9] at k1 ⊢
  have W:∀ {q:Rat},Bq 30 q→Wr q:=fun h=>h.wr (by omega)
  have ka:kU a1 a2 a3:=⟨W qa1,W qa2,W qa3⟩
  have kb:kU b1 b2 b3:=⟨W qb1,W qb2,W qb3⟩
  have kc:kU d1 d2 d3:=⟨W qd1,W qd2,W qd3⟩
  have u1:Bq 61 (b1-a1):=qb1.sub qa1
  have u2:Bq 61 (b2-a2):=qb2.sub qa2
  have u3:Bq 61 (b3-a3):=qb3.sub qa3
  have v1:Bq 61 (d1-a1):=qd1.sub qa1
  have v2:Bq 61 (d2-a2):=qd2.sub qa2
  have v3:Bq 61 (d3-a3):=qd3.sub qa3
  have r1:=subV qb1 qb2 qb3 qa1 qa2 qa3 (by omega) (by omega)
  have r2:=subV qd1 qd2 qd3 qa1 qa2 qa3 (by omega) (by omega)
  have r3:=zE u1 u2 u3 v1 v2 v3 (by omega)
  have q1:Bq 245 ((b2-a2)*(d3-a3)-(b3-a3)*(d2-a2)):=((u2.mul v3).sub (u3.mul v2)).mono (by omega)
  have q2:Bq 245 ((b3-a3)*(d1-a1)-(b1-a1)*(d3-a3)):=((u3.mul v1).sub (u1.mul v3)).mono (by omega)
  have q3:Bq 245 ((b1-a1)*(d2-a2)-(b2-a2)*(d1-a1)):=((u1.mul v2).sub (u2.mul v1)).mono (by omega)
  obtain ⟨m1,f1⟩:∃ m,(b2-a2)*(d3-a3)-(b3-a3)*(d2-a2)=m:=⟨_,rfl⟩
  obtain ⟨m2,f2⟩:∃ m,(b3-a3)*(d1-a1)-(b1-a1)*(d3-a3)=m:=⟨_,rfl⟩
  obtain ⟨m3,f3⟩:∃ m,(b1-a1)*(d2-a2)-(b2-a2)*(d1-a1)=m:=⟨_,rfl⟩
  rw [f1] at q1
  rw [f2] at q2
  rw [f3] at q3
  rw [f1,f2,f3] at r3
  have L:∀ {q:Rat},Bq 245 q→Lf 30 q:=fun h=>(h.lf (by omega)).mono (by decide)
  have lm:Lv3 30 m1 m2 m3:=⟨L q1,L q2,L q3⟩
  have hO:=isOriginQ m1 m2 m3
  refine ⟨_,_,_,_,_,_,_,_,_,k1,r1,r2,r3,?_⟩
  by_cases h0:m1=0∧m2=0∧m3=0
  ·left
   rw [decide_eq_true h0.1,decide_eq_true h0.2.1,decide_eq_true h0.2.2] at hO
   exact ⟨through_W ka kb kc f1 f2 f3 lm (.inl ⟨h0.1,h0.2.1,h0.2.2,rfl⟩),hO⟩
  ·right
   have hF:(decide (m1=0)&&decide (m2=0)&&decide (m3=0))=false:=wU h0
   rw [hF] at hO
   obtain ⟨z1,z2,z3,t,e,ho,hw,hm⟩:=mk_any q1 q2 q3 (Bq.dt q1 q2 q3 qa1 qa2 qa3 (n:=827) (by omega)) (by omega) (by omega) (by omega) h0
   exact ⟨_,t,z1,z2,z3,e,ho,through_O ka kb kc f1 f2 f3 lm h0 hw,hO,dotV q1 q2 q3 qa1 qa2 qa3 (by omega),hm⟩
 ·left
  have hev:=vX (iQ (p 0) (p 1) (p 2)) (vX (iQ (p 3) (p 4) (p 5)) (iQ (p 6) (p 7) (p 8)))
  refine ⟨_,?_,aAe s1.sl.rb s2.sl.rb s3.sl.rb rfl hz,lP (vZ (iQ _ _ _)) (vZ (iQ _ _ _)) (vZ (iQ _ _ _)) rfl⟩
  rcases hev with e|e|e
  ·exact absurd e hz
  ·exact .inl e
  ·exact .inr (.inr (.inl e))
theorem crossing_CO {h:Nat→Int} {s:Nat→ByteArray} (m:∀ i,oF (h i)) (g:∀ i,(s i).size≤30):CO h s (kh (h 0) (h 1) (h 2) (s 0)) (kh (h 3) (h 4) (h 5) (s 1)) (kh (h 6) (h 7) (h 8) (s 2)):=by
 have m1:M3 (h 0) (h 1) (h 2):=⟨m 0,m 1,m 2⟩
 have m2:M3 (h 3) (h 4) (h 5):=⟨m 3,m 4,m 5⟩
 have m3:M3 (h 6) (h 7) (h 8):=⟨m 6,m 7,m 8⟩
 have rb:∀ i,Rb (s i):=fun i=>Sl.rb (Ss.sl (show Ss (s i) from g i))
 by_cases hz:f3 (kh (h 0) (h 1) (h 2) (s 0)) (kh (h 3) (h 4) (h 5) (s 1)) (kh (h 6) (h 7) (h 8) (s 2))=0
 ·right
  have k1:=lP (iR (n1:=h 0) (n2:=h 1) (n3:=h 2) (s:=s 0)) (iR (n1:=h 3) (n2:=h 4) (n3:=h 5) (s:=s 1)) (iR (n1:=h 6) (n2:=h 7) (n3:=h 8) (s:=s 2)) hz
  refine ⟨k1,?_⟩
  obtain ⟨z1,z23⟩:=qD hz
  obtain ⟨z2,z3⟩:=qD z23
  obtain ⟨d,e1,qd⟩:=slwN (n:=30) (g 0) (by omega) (wW z1).2.2.2.2.2
  obtain ⟨e,e2,qe⟩:=slwN (n:=30) (g 1) (by omega) (wW z2).2.2.2.2.2
  obtain ⟨f,e3,qf⟩:=slwN (n:=30) (g 2) (by omega) (wW z3).2.2.2.2.2
  rw [e1] at z1 ⊢
  rw [e2] at z2 ⊢
  rw [e3] at z3 ⊢
  have hv:∀ {n1 n2 n3:Int} {d:Rat},M3 n1 n2 n3→Bq 30 d→kh n1 n2 n3 (writeB d)=0→Hv n1 n2 n3 d∧Nm n1 n2 n3:=fun {n1 n2 n3 d} m qd ho=>by
   obtain ⟨z00,b1,b2,b3,hk0,hd0⟩:=wW ho
   unfold Bg at b1 b2 b3
   exact ⟨⟨by constructor <;> omega,by constructor <;> omega,by constructor <;> omega,qd.wr (by omega),pS hk0⟩,⟨m,uY (by omega) (by omega),uY (by omega) (by omega),uY (by omega) (by omega)⟩⟩
  obtain ⟨v1,n1⟩:=hv m1 qd z1
  obtain ⟨v2,n2⟩:=hv m2 qe z2
  obtain ⟨v3,n3⟩:=hv m3 qf z3
  clear hz z1 z2 z3 z23 e1 e2 e3 k1 hv rb m1 m2 m3 g
  generalize h 0=h1 at *
  generalize h 1=h2 at *
  generalize h 2=h3 at *
  generalize h 3=i1 at *
  generalize h 4=i2 at *
  generalize h 5=i3 at *
  generalize h 6=j1 at *
  generalize h 7=j2 at *
  generalize h 8=j3 at *
  have c:Cr h1 h2 h3 i1 i2 i3 j1 j2 j3 (i2*j3-i3*j2:Rat) (i3*j1-i1*j3:Rat) (i1*j2-i2*j1:Rat) (j2*h3-j3*h2:Rat) (j3*h1-j1*h3:Rat) (j1*h2-j2*h1:Rat) (h2*i3-h3*i2:Rat) (h3*i1-h1*i3:Rat) (h1*i2-h2*i1:Rat) _:=⟨rfl,rfl,rfl,rfl,rfl,rfl,rfl,rfl,rfl,rfl⟩
  have u1:=lY n2.b n3.c n2.c n3.b
  have u2:=lY n2.c n3.a n2.a n3.c
  have u3:=lY n2.a n3.b n2.b n3.a
  have v1':=lY n3.b n1.c n3.c n1.b
  have v2':=lY n3.c n1.a n3.a n1.c
  have v3':=lY n3.a n1.b n3.b n1.a
  have w1:=lY n1.b n2.c n1.c n2.b
  have w2:=lY n1.c n2.a n1.a n2.c
  have w3:=lY n1.a n2.b n1.b n2.a
  have bV:Bq 155 (dt (h1:Rat) h2 h3 (i2*j3-i3*j2:Rat) (i3*j1-i1*j3:Rat) (i1*j2-i2*j1:Rat)):=Bq.dt n1.a n1.b n1.c u1 u2 u3 (by omega)
  generalize (i2*j3-i3*j2:Rat)=U1 at *
  generalize (i3*j1-i1*j3:Rat)=U2 at *
  generalize (i1*j2-i2*j1:Rat)=U3 at *
  generalize (j2*h3-j3*h2:Rat)=V1 at *
  generalize (j3*h1-j1*h3:Rat)=V2 at *
  generalize (j1*h2-j2*h1:Rat)=V3 at *
  generalize (h2*i3-h3*i2:Rat)=W1 at *
  generalize (h3*i1-h1*i3:Rat)=W2 at *
  generalize (h1*i2-h2*i1:Rat)=W3 at *
  generalize dt (h1:Rat) h2 h3 U1 U2 U3=V at *
  have b1:=bV.inv.mul (((qd.mul u1).add (qe.mul v1')).add (qf.mul w1))
  have b2:=bV.inv.mul (((qd.mul u2).add (qe.mul v2')).add (qf.mul w2))
  have b3:=bV.inv.mul (((qd.mul u3).add (qe.mul v3')).add (qf.mul w3))
  by_cases h0:V=0
  ·exact .inl ⟨aAc v1 v2 v3 c h0,aAf n1 n2 n3 c h0⟩
  ·have dv:∀ t:Rat,((1:Int):Rat)/V*t=V⁻¹*t:=fun t=>by rw [Rat.div_def,show ((1:Int):Rat)=1 from rfl,Rat.one_mul]
   exact .inr ⟨_,_,_,⟨b1.wr (by omega),b2.wr (by omega),b3.wr (by omega)⟩,crossing_W v1 v2 v3 c h0 (dv _) (dv _) (dv _) ⟨b1.wr (by omega),b2.wr (by omega),b3.wr (by omega)⟩,refCrossingF n1 n2 n3 qd qe qf c h0⟩
 ·left
  refine ⟨_,?_,zL m1 (rb 0) m2 (rb 1) m3 (rb 2) rfl hz,lP iR iR iR rfl⟩
  rcases f2_eh (iR (n1:=h 0) (n2:=h 1) (n3:=h 2) (s:=s 0)) (f2_eh (iR (n1:=h 3) (n2:=h 4) (n3:=h 5) (s:=s 1)) (iR (n1:=h 6) (n2:=h 7) (n3:=h 8) (s:=s 2))) with e|e|e|e|e
  ·exact absurd e hz
  ·exact .inl e
  ·exact .inr (.inl e)
  ·exact .inr (.inr (.inl e))
  ·exact .inr (.inr (.inr (.inl e)))
theorem crossF' (p:Nat→ByteArray) (h:Nat→Int) (s:Nat→ByteArray) (m:∀ i,oF (h i)) (hp:∀ i,9≤i→p i=⟨#[]⟩) (hs:∀ i,3≤i→s i=⟨#[]⟩):jX 3 [X21 p h s] (bl true):=by
 cases hl:(lo 20 (p 0) || lo 20 (p 1) || lo 20 (p 2) || lo 20 (p 3) || lo 20 (p 4) || lo 20 (p 5) || lo 20 (p 6) || lo 20 (p 7) || lo 20 (p 8)) with
 | true=>exact cross_long hl
 | false =>
   cases c0:decide ((20:Int)<((s 0).size:Nat)) with
   | true=>exact cross_len0 hl c0
   | false =>
     cases c1:decide ((20:Int)<((s 1).size:Nat)) with
     | true=>exact cross_len1 hl c0 c1
     | false =>
       cases c2:decide ((20:Int)<((s 2).size:Nat)) with
       | true=>exact cross_len2 hl c0 c1 c2
       | false =>
         have hl':=hl
         simp only [Bool.or_eq_false_iff,lo,decide_eq_false_iff_not] at hl'
         obtain ⟨⟨⟨⟨⟨⟨⟨⟨g0,g1⟩,g2⟩,g3⟩,g4⟩,g5⟩,g6⟩,g7⟩,g8⟩:=hl'
         have d0:=of_decide_eq_false c0
         have d1:=of_decide_eq_false c1
         have d2:=of_decide_eq_false c2
         have gp:∀ i,(p i).size≤30:=fun i=>by
          match i with
          | 0=>omega
          | 1=>omega
          | 2=>omega
          | 3=>omega
          | 4=>omega
          | 5=>omega
          | 6=>omega
          | 7=>omega
          | 8=>omega
          | i+9=>rw [hp _ (by omega)];decide
         have gs:∀ i,(s i).size≤30:=fun i=>by
          match i with
          | 0=>omega
          | 1=>omega
          | 2=>omega
          | i+3=>rw [hs _ (by omega)];decide
         have sl:∀ i,Sl (p i):=fun i=>Ss.sl (show Ss (p i) from gp i)
         have kh' : ∀ i j k l,jF 17 [hL (h i) (h j) (h k) (s l)] (it (kh (h i) (h j) (h k) (s l))):=fun i j k l=>aAd (by have:=gs l;omega) rfl
         exact cross_walk hl c0 c1 c2 (nZ ⟨sl 0,sl 1,sl 2⟩ rfl) (nZ ⟨sl 3,sl 4,sl 5⟩ rfl) (nZ ⟨sl 6,sl 7,sl 8⟩ rfl) (kh' 0 1 2 0) (kh' 3 4 5 1) (kh' 6 7 8 2) (through_TO gp) (crossing_CO m gs)
end Ab
namespace Ab
open Go.ChangeShapes Go.WideShapes Go.ChangeAt Go.RowKit
theorem gPow:Tryz.prog.globalNamed "internal/strconv.uint64pow10" = some 7:=by kernel_rfl
theorem gl_of {W:World} {r:List (String×DataW Unit)} (h:laidMet Tryz.prog (("internal/strconv.uint64pow10",Lib.tabData .u64 Lib.pow10Tab)::r) W) (hs:W.ShapedOpen Tryz.prog):Gl W :=
 ⟨Lib.tabIs_of_head (t:=309) (e:=159) (n:=20) gPow (by kernel_rfl) (by kernel_rfl) (by kernel_rfl) (by kernel_rfl) (by kernel_rfl) h,
  Go.Proofs.cell_of_shapedOpen_int (zero := #[.int .i64 0]) (t:=3) hs (of_decide_eq_true (by kernel_rfl)) (by kernel_rfl) rfl (by kernel_rfl) (by kernel_rfl) (by kernel_rfl)⟩
end Ab
namespace Ab
open Go.ChangeShapes Go.WideShapes Go.RowKit
def zM (P:Program):Nat→TypeId→Nat→Option Bool
 | 0,_,_=>none
 | d+1,T,i=>match P.underlying T with
   | some (.int .i64)=>if i=0 then some false else none
   | some .string=>if i=0 then some true else none
   | some (.array n e)=>if 0<P.cellsOf e∧i/P.cellsOf e<n then zM P d e (i%P.cellsOf e) else none
   | some (.struct fs)=>(fs.toList.find? fun f=>decide (f.offset≤i∧i<f.offset+P.cellsOf f.type)).bind fun f=>zM P d f.type (i-f.offset)
   | _=>none
def isKind:Bool→Value→Prop
 | true,c => ∃ s:ByteArray,c = .string s∧s.size≤maxLen
 | false,c => ∃ n:Int,c = .int .i64 n∧(Lit.int .i64 n).wf=true
section
variable {H:Type} {enc:TypeId×Value→H} {P:Program} {w:World} {base:Nat} {spare:Nat→Bool} {held:Bool}
theorem piece {cs:List Value} {o n r:Nat} {c:Value} (h:((cs.drop o).take n)[r]?=some c):cs[o+r]?=some c:=by
 rw [List.getElem?_take] at h
 split at h
 ·rw [List.getElem?_drop] at h;exact h
 ·cases h
theorem trod_kind:∀ (d:Nat) {T:TypeId} {fuel i:Nat} {cs:List Value} {x:DataW H×List MemPlace} {k:Bool},DataW.trod enc P w base spare held fuel T cs=some x→zM P d T i=some k→∃ c,cs[i]?=some c∧isKind k c:=by
 intro d
 induction d with
 | zero=>intro T fuel i cs x k _ hk;cases hk
 | succ d ih =>
   intro T fuel i cs x k h hk
   unfold zM at hk
   split at hk
   ·rename_i hu
    split at hk <;> cases hk
    rename_i h0
    subst h0
    cases fuel with
    | zero=>cases h
    | succ m =>
      unfold DataW.trod at h
      rw [hu] at h
      split at h <;> simp_all
      obtain ⟨⟨_,hw⟩,_⟩:=h
      cases ‹IntKind.i64=_›
      exact ⟨_,rfl,hw⟩
   ·rename_i hu
    split at hk <;> cases hk
    rename_i h0
    subst h0
    cases fuel with
    | zero=>cases h
    | succ m =>
      unfold DataW.trod at h
      rw [hu] at h
      split at h <;> simp_all
      exact ⟨_,rfl,h.1⟩
   ·rename_i n e hu
    split at hk
    ·rename_i hi
     obtain ⟨xs,m,_,_,_,hlen,hat⟩:=DataW.trod_array hu h
     have hq:=hat (i/P.cellsOf e) hi.2
     rw [List.getElem?_eq_getElem (by omega)] at hq
     obtain ⟨c,hc,hk'⟩:=ih hq hk
     refine ⟨c,?_,hk'⟩
     have:=piece hc
     rw [Nat.mul_comm,Nat.div_add_mod] at this
     exact this
    ·cases hk
   ·rename_i fs hu
    rw [Option.bind_eq_some_iff] at hk
    obtain ⟨f,hf,hk⟩:=hk
    have hp:=List.find?_some hf
    simp only [decide_eq_true_eq] at hp
    obtain ⟨j,hj,hje⟩:=List.getElem_of_mem (List.mem_of_find?_eq_some hf)
    obtain ⟨xs,n,_,_,_,hlen,hat⟩:=DataW.trod_struct hu h
    have hq:=hat j f (by rw [← hje];simp)
    rw [List.getElem?_eq_getElem (by simp at hj;omega)] at hq
    obtain ⟨c,hc,hk'⟩:=ih hq hk
    refine ⟨c,?_,hk'⟩
    have:=piece hc
    rw [show f.offset+(i-f.offset)=i by omega] at this
    exact this
   ·cases hk
def vA (P:Program):Nat→TypeId→Bool
 | 0,_=>false
 | d+1,T=>match P.underlying T with
   | some (.int _)|some .string=>true
   | some (.array _ e)=>vA P d e
   | some (.struct fs)=>fs.toList.all fun f=>vA P d f.type
   | _=>false
theorem vB {α β:Type} {f g:α→Option (β×List MemPlace)}:∀ {l:List α} {xs:List (β×List MemPlace)},l.mapM f=some xs→(∀ a∈l,∀ x,f a=some x→g a=some x∧x.2 = [])→l.mapM g=some xs∧xs.flatMap (·.2) = []
 | [],xs,h,_=>by simp at h;subst h;exact ⟨rfl,rfl⟩
 | a::l,xs,h,hs=>by
   rw [List.mapM_cons] at h
   simp only [bind,Option.bind_eq_some_iff,pure,Option.some.injEq] at h
   obtain ⟨y,hy,ys,hys,rfl⟩:=h
   obtain ⟨g1,g2⟩:=hs a (by simp) y hy
   obtain ⟨i1,i2⟩:=vB hys fun b hb=>hs b (by simp [hb])
   exact ⟨by rw [List.mapM_cons,g1,i1];rfl,by simp [g2,i2]⟩
def SameRead (enc:TypeId×Value→H) (P:Program) (w:World) (base:Nat) (spare:Nat→Bool) (held:Bool) (w' : World) (base' : Nat) (spare' : Nat→Bool) (d:Nat):Prop :=
 ∀ (T:TypeId) (fuel:Nat) (cs:List Value) (x:DataW H×List MemPlace),vA P d T=true→DataW.trod enc P w base spare held fuel T cs=some x→DataW.trod enc P w' base' spare' held fuel T cs=some x∧x.2 = []
theorem trod_plain {w' : World} {base' : Nat} {spare' : Nat→Bool}:∀ d:Nat,SameRead enc P w base spare held w' base' spare' d:=by
 intro d
 induction d with
 | zero=>intro T fuel cs x hp;cases hp
 | succ d ih =>
   intro T fuel cs x hp h
   cases fuel with
   | zero=>cases h
   | succ m =>
     unfold vA at hp
     unfold DataW.trod at h ⊢
     split at hp
     ·rename_i hu
      rw [hu] at h ⊢
      split at h <;> simp_all <;> (obtain ⟨_,h⟩:=h;rw [← h])
     ·rename_i hu
      rw [hu] at h ⊢
      split at h <;> simp_all <;> (obtain ⟨_,h⟩:=h;rw [← h])
     ·rename_i hu
      rw [hu] at h ⊢
      split at h <;> simp_all
      obtain ⟨hl,xs,hxs,rfl⟩:=h
      obtain ⟨g1,g2⟩:=vB hxs fun a _ x hx=>ih _ _ _ _ hp hx
      exact ⟨⟨xs,g1,rfl⟩,g2⟩
     ·rename_i hu
      rw [hu] at h ⊢
      split at h <;> simp_all
      obtain ⟨hl,xs,hxs,rfl⟩:=h
      obtain ⟨g1,g2⟩:=vB hxs fun a ha x hx=>ih _ _ _ _ (by obtain ⟨j,hj,rfl⟩:=List.getElem_of_mem ha;simpa using hp j (by simpa using hj)) hx
      exact ⟨⟨xs,g1,rfl⟩,g2⟩
     ·cases hp
theorem Trod_plain {w' : World} {base' : Nat} {spare' : Nat→Bool} {T:TypeId} {v:Value} {D:DataW H} {p:List MemPlace} (hp:vA P 10 T=true) (h:DataW.Trod enc P w base spare held T v D p):p = []∧DataW.Trod enc P w' base' spare' held T v D []:=by
 obtain ⟨fuel,hf⟩:=h
 obtain ⟨h1,h2⟩:=trod_plain (w':=w') (base':=base') (spare':=spare') 10 _ _ _ _ hp hf
 simp only at h2
 subst h2
 exact ⟨rfl,fuel,h1⟩
theorem agg_of {r:Reach} {b0 n:Nat} {T:TypeId} {v:Value} (hu:(match P.underlying T with|some (.struct _)|some (.array _ _)=>true|_=>false)=true) (hC:P.cellsOf T=n) (hv:Value.okWide P w r b0 T v):∃ cs:Array Value,v = .agg cs∧cs.size=n:=by
 split at hu
 ·rename_i hs
  simp only [Value.okWide,hs] at hv
  obtain ⟨cs,h1,h2,_⟩:=hv
  exact ⟨cs,h1,h2.trans hC⟩
 ·rename_i hs
  simp only [Value.okWide,hs] at hv
  obtain ⟨cs,h1,h2,_⟩:=hv
  exact ⟨cs,h1,h2.trans hC⟩
 ·cases hu
theorem dE {T:TypeId} {cs:Array Value} {D:DataW H} {p:List MemPlace} {k:Bool} (i:Nat) (h:DataW.Trod enc P w base spare held T (.agg cs) D p) (hk:zM P 10 T i=some k):∃ c,cs[i]?=some c∧isKind k c:=by
 obtain ⟨fuel,hf⟩:=h
 obtain ⟨c,h1,h2⟩:=trod_kind 10 hf hk
 exact ⟨c,by simpa [Value.cells] using h1,h2⟩
end
end Ab
end Go.Proofs.YtpbjdlinhacinaaGreatDoor
